import PyProof.Rows.All
import Wide.All
import OpenK.AllK
import Wide.FinOn
import HandS.ForMost
import HandS.Conv
import HandS.Codes
import HandS.Style
import HandS.SortInts
import HandS.Wide
import HandS.Zip
import PyProof.ReprRoads
import KE.KDictPairs
import HandS.SetBool
import HandS.SetFor
import HandS.Strs
import KE.GoesZip
import KE.GoesMore
import HandS.TupAny
import HandS.IsInst
import HandS.TupMul
import HandS.Iter
import KE.GoesEnum
import HandS.ForExc
import HandS.ExcInit
import HandS.ExcField
import HandS.ExcIs
import KE.KExcIs
import PySem.Challenge.RW_blindpush_k04_places_after_plans
set_option Elab.async false
set_option linter.all false
set_option maxRecDepth 100000
set_option maxHeartbeats 4000000
set_option exponentiation.threshold 2000
namespace BP
open PySem PySem.Spec PyProof.Rows L2

/-! ### defs that are called while no repr is under way -/
structure FnG (P : Program) (w : World) (K : PySem.W.Frag) (mg : Str → Option Value) (base : Heap)
    (k : Nat) (f : Addr) (fd : FuncData) (ps : List Str) (sp : Sp) : Prop where
  glen : ∀ vs H Q E, sp vs H Q E → vs.length = ps.length
  grun : ∀ (A : Around) (outer : List Env) (s : Shared) (H : Hp) (args : Args) (us : List Value)
    (vs : List V) (Q : VK) (E : XK), A.guards = some [] → Room k A → Env0 P w K mg base A outer s H →
    BindsTo s fd args (ps.zip us) → Vals vs us → sp vs H Q E →
    codeAny (model P w) A (.call (.ref f) args) (CR CX0 outer P w H s Q E) s

section
variable {P : Program} {w : World} {K : PySem.W.Frag} {mg : Str → Option Value} {base : Heap}
theorem fung_ok {x qual : Str} {st : Stmt} {f : Addr} {fd : FuncData} {N ps : List Str} {k : Nat} {sp : Sp}
    (F : Fun K x qual st f fd) (S : FnScope N ps (defScope st))
    (hlen : ∀ vs H Q E, sp vs H Q E → vs.length = ps.length)
    (hbody : ∀ (cdv : Value) (A : Around) (outer : List Env) (s : Shared) (H : Hp) (vs : List V) (Q : VK) (E : XK),
      A.guards = some [] →
      Room k (A.deeper (envOfC qual (defScope st) s.heap.objs.size f cdv)) → sp vs H Q E →
      ∃ t, PSs (cxOf CX0 P w K mg base N qual (defScope st) f cdv A outer s H E).nox (defBody st) t ∧
        t { nx := fun _ H' => Q .non H', rt := Q } (start N vs) H) :
    FnG P w K mg base (k + 1) f fd ps sp := by
  obtain ⟨oc, od, kV, doc, pm, an, cdv, ct, osl, hfd, lk, hcd⟩ := F.ex
  subst hfd
  constructor
  · exact hlen
  · intro A outer s H args us vs Q E hg hr e0 hb r hsp
    have hl := hlen vs H Q E hsp
    have kin : K.In s.heap := e0.mod.kin.keeps fun b o e => (e0.bs b o e).1
    have nol : s.heap.NoLimit := e0.mod.nolimit.keeps fun b o e => (e0.bs b o e).1
    have hkd : ∀ y ∈ ps.zip us, (defScope st).names.lookup y.1 = some .local ∨
        ((defScope st).names.lookup y.1 = some .cell ∧
          ((cellsFrom (s.heap.objs.size + 1) (defScope st).names []).lookup y.1).isSome = true) := by
      intro y hy
      obtain ⟨n, v⟩ := y
      have hn : n ∈ ps := (List.of_mem_zip hy).1
      cases S.par n hn with
      | inl q => exact Or.inl q
      | inr q => exact Or.inr ⟨q, PySem.W.cellsFrom_some _ _ _ (Or.inl q)⟩
    apply codeAny_call_function hr.depth (kin _ _ lk) rfl S.co S.gen rfl (PySem.W.codeRec_of kin hcd)
    apply hb
    apply wpAny_newFunctionEnv_cells S.kind hkd
    intro env he s1 x
    cases he
    refine ⟨nol.keeps x.toInCall.keep, codeAny_func ?_⟩
    obtain ⟨t, ht, hq⟩ := hbody cdv A outer s H vs Q E hg (hr.deeper _) hsp
    have I := inv_start (CX := CX0) (E := E) S hr.hd e0 hl r x
    refine wpAny_mono (ht.nox.run [] s1 (start N vs) H _ I hq) (fun fl s' hs => ?_) fun e s' hs => hs
    cases fl with
    | ret u =>
      obtain ⟨v, σ', H', J, rv, q⟩ := hs
      exact ⟨v, H', J.os, J.bare, J.base, J.hok, rv, q⟩
    | next =>
      obtain ⟨σ', H', J, q⟩ := hs
      exact ⟨V.non, H', J.os, J.bare, J.base, J.hok, rfl, q⟩
    | brk =>
      obtain ⟨_, _, _, q⟩ := hs
      exact q.elim
    | cont =>
      obtain ⟨_, _, _, q⟩ := hs
      exact q.elim
end
section
variable {X : Cx} {k : Nat} {f : Addr} {fd : FuncData} {ps : List Str} {sp : Sp} {x : Str} {p pos : Pos} {e : Expr} {es : List Expr} {t : TA}
/-- f(e, ..), f a def of the kind above -/
theorem pe_callG (F : FnG X.prog X.w X.K X.mg X.base k f fd ps sp) (hgd : X.A.guards = some []) (hr : Room k X.A)
    (hg : Gl X x) (hm : X.mg x = some (.ref f)) (hk : PySem.W.keepIn X.K (.ref f) = true)
    (hb : Binds X.K fd ps []) (ha : PA X (e :: es) t)
    (hdb : (x == ("__debug__" : Str)) = false := by decide)
    (he : starEach (e :: es) X.env = (false, eval e X.env) :: starEach es X.env := by rfl)
    (hpl : (backTo pos (starEach es X.env)).any (·.1) = false := by rfl) :
    PE X (.Call (.Name x p) (e :: es) [] pos) (tCall sp [] E0 t) := by
  constructor
  intro pins s σ H Q I h
  apply wpAny_Call_Name_kw
  apply ld_glob I hg hm _ hdb
  apply PySem.W.callWith_K (h₀ := X.base) I.ok.mod.kin hk _ he hpl
  refine thn (ha.run pos pins s σ H _ I h) fun us s1 ⟨vs, H1, I1, r, q⟩ => ⟨I1.kIn, ?_⟩
  have q : sp (vs ++ []) H1 Q E0 := q
  rw [List.append_nil] at q
  have hl : us.length = ps.length := by
    rw [← r.length]
    exact F.glen _ _ _ _ q
  have hbb := hb s1 us I1.kIn (by rw [List.append_nil]; exact hl)
  rw [List.append_nil] at hbb
  refine wpAny_call (codeAny_mono (F.grun X.A X.stack s1 H1 ⟨us, []⟩ us vs Q E0 hgd hr I1.env0 hbb r q) fun r s' hq => ?_)
  cases r with
  | error e => exact hq.elim
  | ok fl => cases fl with
    | ret u => exact I1.after hq
    | next => exact hq.elim
    | brk => exact hq.elim
    | cont => exact hq.elim
/-- repr of data -/
def rRepr (K : PySem.W.Frag) : List V → Hp → VK → Prop := fun xs H Q =>
  ∃ a d, xs = [.ref a] ∧ Dp K H (.ref a) d ∧ d.showable = true ∧ d.hasDict = false ∧ d.depth ≤ 60 ∧ d.shown.length ≤ sizeLine ∧ Q (.str d.shown) H
theorem call_reprD (hgd : X.A.guards = some []) (hu : X.A.units + 64 < cLine) : CallR X (.builtin "repr") (rRepr X.K) := by
  intro pins s σ H xs us Q I r h
  obtain ⟨a, d, rfl, hd, hs, hnd, hdp, hz, q⟩ := h
  obtain ⟨u, rfl, rx⟩ := vals1 r
  cases rx
  obtain ⟨as, rd⟩ := Dp.reads I d _ _ hd rfl
  refine repr_of_reads' rd hs (PyData.noDict_hsm hnd) hgd (by omega) (fun b o e => e) ?_ hz
  intro h' u tk hk
  exact ⟨.str d.shown, H, I.kept hk, ⟨u, rfl⟩, q⟩
end
/-! ### the law's own call, for a def of that kind -/
theorem lawG {P : Program} {w : World} {K : PySem.W.Frag} {mg mb : Str → Option Value} {k : Nat} {fa a : Addr} {fd : FuncData}
    {x : Str} {sp : Sp} {s₁ : Shared} {vs : List Value} {ns : List Int}
    (KX : K.In s₁.heap) (hns : s₁.heap.Ns mainGlobals mg) (hb : s₁.heap.Ns builtinsNs mb)
    (hbb : ∀ x : Str, x ≠ "__name__" → mb x = bootBuiltins x) (hlim : s₁.heap.NoLimit) (hg : s₁.gens = #[])
    (ha : s₁.heap.get? a = some { cls := .type "list", data := .seq vs.toArray }) (hi : IntsAre vs ns)
    (hl : ns.length ≤ sizeLine) (hr : Room k callerA)
    (hsy : ∃ mm, s₁.heap.Ns sysModules mm)
    (F : ∀ base : Heap, K.In base → base.Ns mainGlobals mg → (∃ o, base.get? sysModules = some o) → FnG P w K mg base k fa fd [x] sp)
    (hbind : ∀ (s : Shared) (u : Value), BindsTo s fd ⟨[u], []⟩ [(x, u)])
    (hsp : ∀ H : Hp, Only H → SqL K H a (ns.map V.int) → sp [.ref a] H (fun v _ => v = .bl true) E0) :
    codeAny (model P w) callerA (.call (.ref fa) ⟨[.ref a], []⟩)
      (fun r s' => r = .ok (.ret (.bool true)) ∧ OldK s₁.heap s'.heap ∧ s'.os = s₁.os ∧ AllBare s'.gens) s₁ := by
  have rv := vals_ints hi
  have lenV := hi.length
  have main : ∀ T : Hp, Only T → SqL K T a (ns.map V.int) → HOk P w T s₁.heap → (∀ b, T b ≠ none → b = a) →
      (T a ≠ none → K.lookup a = none) →
      codeAny (model P w) callerA (.call (.ref fa) ⟨[.ref a], []⟩)
        (fun r s' => r = .ok (.ret (.bool true)) ∧ OldK s₁.heap s'.heap ∧ s'.os = s₁.os ∧ AllBare s'.gens) s₁ := by
    intro T tO tS tok tA tK
    have free_dict : ∀ {b : Addr} {o : Obj} {es : Array DictEntry} {ep : Nat},
        s₁.heap.get? b = some o → o.data = .dict es ep → T b = none := by
      intro b o es ep e d
      by_cases hz : T b = none
      · exact hz
      · have hba := tA b hz
        rw [hba, ha] at e
        cases e
        cases d
    have keepNs : ∀ {b : Addr} {m : Str → Option Value}, s₁.heap.Ns b m → (hidT s₁.heap T).Ns b m := by
      intro b m hh
      obtain ⟨o, es, ep, e, d, r⟩ := hh
      exact ⟨o, es, ep, hidT_get e (free_dict e d), d, r⟩
    have kB : K.In (hidT s₁.heap T) := by
      intro b o e
      refine hidT_get (KX b o e) ?_
      by_cases hz : T b = none
      · exact hz
      · have hba := tA b hz
        subst hba
        rw [tK hz] at e
        cases e
    obtain ⟨mc, c1, c2⟩ := hlim
    have md : Mod K mg (hidT s₁.heap T) := ⟨kB, keepNs hns, ⟨mb, keepNs hb, hbb⟩, ⟨mc, keepNs c1, c2⟩⟩
    have en : Env0 P w K mg (hidT s₁.heap T) callerA [] s₁ T := by
      refine ⟨rfl, md, fun b o e => of_hidT e, Nat.le_of_eq (hidT_size _ _), trivial, ?_, tok, .of_eq hg⟩
      intro b hb
      exact absurd (show b ∈ ([] : List Addr) from hb) List.not_mem_nil
    have sy : ∃ o, (hidT s₁.heap T).get? sysModules = some o := by
      obtain ⟨mm, h⟩ := hsy
      obtain ⟨o, es, ep, e, _⟩ := keepNs h
      exact ⟨o, e⟩
    have go := (F _ kB (keepNs hns) sy).grun callerA [] s₁ T ⟨[.ref a], []⟩ [.ref a] [.ref a] _ _ rfl hr en
      (hbind s₁ (.ref a)) (.cons rfl .nil) (hsp T tO tS)
    refine codeAny_mono go fun r s' h => ?_
    cases r with
    | error e => exact h.elim
    | ok fl => cases fl with
      | next => exact h.elim
      | brk => exact h.elim
      | cont => exact h.elim
      | ret u =>
        obtain ⟨v, T', os, bare, un, hok', r', q⟩ := h
        have qv : v = .bl true := q
        subst qv
        have ru : u = Value.bool true := r'
        subst ru
        refine ⟨rfl, OldK.of_keep ?_, os, bare⟩
        intro b o e
        rcases tO b with z | ⟨ob, xs, z⟩
        · refine un.keep b o e z ?_ ?_
          · intro z'
            exact absurd (show b ∈ ([] : List Addr) from z') List.not_mem_nil
          · exact List.not_mem_nil
        · obtain ⟨e1, _⟩ := tok b _ z
          obtain ⟨e2, _⟩ := hok' b _ (un.frzs b ob _ z)
          rw [e] at e1
          cases e1
          exact e2
  cases hk : K.lookup a with
  | some o =>
    have e := KX a o hk
    rw [ha] at e
    cases e
    refine main (fun _ => none) (fun _ => .inl rfl) ?_ ?_ ?_ ?_
    · exact .inr ⟨_, vs.toArray, _, hk, rfl, rfl, rfl, by rw [List.size_toArray, lenV]; exact hl, by simpa using rv⟩
    · intro b u z
      cases (show (none : Option HO) = some u from z)
    · intro b z
      exact absurd rfl z
    · intro z
      exact absurd rfl z
  | none =>
    refine main (fun b => if b = a then some (.frz { cls := .type "list", data := .seq vs.toArray } (.lst (ns.map V.int))) else none) ?_ ?_ ?_ ?_ (fun _ => hk)
    · intro b
      by_cases h0 : b = a
      · exact .inr ⟨_, _, if_pos h0⟩
      · exact .inl (if_neg h0)
    · exact .inl (.inr ⟨{ cls := .type "list", data := .seq vs.toArray }, if_pos rfl⟩)
    · intro b u z
      by_cases h0 : b = a
      · subst h0
        cases (if_pos rfl).symm.trans z
        exact ⟨ha, by rw [List.length_map]; exact hl, vs, _, rv, ha⟩
      · cases (if_neg h0).symm.trans z
    · intro b z
      by_cases h0 : b = a
      · exact h0
      · exact absurd (if_neg h0) z
theorem walkG {l : PySem.W.OpenLaw} {n k : Nat} {q : Program} {loose : List Str} {XP : (Str → Option Value) → Heap → Prop}
    {YP : World → Heap → Prop} {d : DefRec} {K : Params → PySem.W.Frag} {sp : PySem.W.Frag → Sp} {x : Str}
    (hn : l.most = some n) (hn2 : n ≤ sizeLine) (hdf : d.params.defaults = []) (hr : Room k callerA) (hin : importsNone q = true)
    (hY : ∀ (w : World) (h : Heap), YP w h → (K w.params).In h)
    (F : ∀ (w : World) (mg : Str → Option Value) (fa : Addr) (h : Heap), (K w.params).In h → h.Ns mainGlobals mg →
      mg d.name = some (.ref fa) → ∃ fd : FuncData, (∀ (s : Shared) (u : Value), BindsTo s fd ⟨[u], []⟩ [(x, u)]) ∧
        ∀ base : Heap, (K w.params).In base → base.Ns mainGlobals mg → (∃ o, base.get? sysModules = some o) → FnG l.prog w (K w.params) mg base k fa fd [x] (sp (K w.params)))
    (hsp : ∀ (K : PySem.W.Frag) (H : Hp) (a : Addr) (ns : List Int), ns.length ≤ n → Only H → SqL K H a (ns.map V.int) →
      sp K [.ref a] H (fun v _ => v = .bl true) E0) :
    PySem.W.WalkO q loose XP YP l.row.toRowW d [] (fun f vs => PySem.call f vs) := by
  apply Att.attach_call hn hdf
  intro w s₀ s₁ mg mb fa o pm cd doc a vs ns G Y ho hd hcd hmg hobj hints hlen hg
  have KX := hY w _ Y
  obtain ⟨fd, hb, hF⟩ := F w mg fa _ KX G.T.g hmg
  exact lawG KX G.T.g G.T.b G.T.builtins G.T.nolimit hg hobj hints (Nat.le_trans hlen hn2) hr (let ⟨mm, h, _⟩ := (G.T.seer hin).mods; ⟨mm, h⟩) hF hb
    (fun H hO hS => hsp _ H a ns hlen hO hS)
section
variable {X : Cx}
/-- tuple(xs), xs a list: the new tuple as an object that bears no dict -/
theorem call_tupleF : CallR X (.type "tuple") (fun xs H Q => ∃ p ys, xs = [.ref p] ∧ SqL X.K H p ys ∧
    ∀ (l : Addr) (o : Obj), H l = none → o.dict = none → Q (.ref l) (upd H l (.frz o (.tup ys)))) := by
  intro pins s σ H xs us Q I r h
  obtain ⟨p, ys, e, hq, q⟩ := h
  subst e
  obtain ⟨u, e, rx⟩ := vals1 r
  subst e
  cases rx
  obtain ⟨its, r', pl, hz⟩ := I.list hq
  have hlen := r'.length
  refine call_tuple_list pl.isList (fun h' kp => ?_) (by simp only [List.size_toArray] <;> omega)
  have I1 := I.kept (t' := s.toks) kp
  have I2 := I1.laid (t' := s.toks) (a := h'.objs.size) (o := .frz { cls := .type "tuple", data := .seq its.toArray } (.tup ys))
    (h' := h'.push { cls := .type "tuple", data := .seq its.toArray })
    (fun b o e => Heap.get?_push_of_some _ e) (Nat.le_refl _) ⟨Heap.get?_push_size _ rfl, hz, its, r', IsTup.new _ _⟩
  exact ⟨.ref h'.objs.size, _, I2, rfl, q _ _ (I1.hok.fresh (Nat.le_refl _)) rfl⟩
/-- a written tuple, as an object that bears no dict -/
def tTupF (t : TA) : TE := fun σ H Q => t σ H fun xs H1 => xs.length ≤ sizeLine ∧
  ∀ (p : Addr) (o : Obj), H1 p = none → o.dict = none → Q (.ref p) (upd H1 p (.frz o (.tup xs)))
theorem pe_tupF {es : List Expr} {t : TA} {pos : Pos} {x1} (h : PA X es t) : PE X (.Tuple es x1 pos) (tTupF t) := by
  constructor
  intro pins s σ H Q I hq
  apply wpAny_Tuple_spliced
  refine thn (h.run pos pins s σ H _ I hq) fun us s1 ⟨xs, H1, I1, r, z, q⟩ => ?_
  refine ⟨by rw [← r.length]; exact z, ?_⟩
  have hf := I1.hok.fresh (Nat.le_refl s1.heap.objs.size)
  refine ⟨.ref s1.heap.objs.size, upd H1 s1.heap.objs.size (.frz { cls := .type "tuple", data := .seq us.toArray } (.tup xs)), ?_, rfl, q _ _ hf rfl⟩
  exact I1.laid (t' := s1.toks) (fun b u e => Heap.get?_push_of_some _ e) (Nat.le_refl _)
    ⟨Heap.get?_push_size _ rfl, z, us, r, ⟨_, Heap.get?_push_size _ rfl, rfl, _, rfl⟩⟩
theorem pairs_of2 {pins : List (Addr × Obj)} {σ : L2.St} {H : Hp} {s : Shared} (I : Inv X pins σ H s) :
    ∀ {ps : List Addr} {kvs : List (Key × V)}, Paired (fun p kv => SqT X.K H p [kV kv.1, kv.2]) ps kvs →
    ∃ (prs : List (Key × Value)) (qs : List (Value × Value)), KV kvs prs ∧ prs.length = ps.length ∧ qs.length = ps.length ∧
      ∀ (j : Nat) (k v : Value), qs[j]? = some (k, v) → ∃ b, ps[j]? = some b ∧ IsTup s.heap b #[k, v] ∧
        ∃ key, prs[j]? = some (key, v) ∧ keyIs key k = true
  | _, _, .nil => ⟨[], [], .nil, rfl, rfl, fun j k v e => by simp at e⟩
  | _, _, .cons (a := p) (b := kv) h t => by
    obtain ⟨prs, qs, r, hl, hl2, hp⟩ := pairs_of2 I t
    obtain ⟨its, rv, ht, _⟩ := I.tuple h
    obtain ⟨u, y, ei, ru, ry⟩ := vals2 rv
    subst ei
    refine ⟨(kv.1, y) :: prs, (u, y) :: qs, .cons ⟨rfl, ry⟩ r, ?_, ?_, ?_⟩
    · rw [List.length_cons, List.length_cons, hl]
    · rw [List.length_cons, List.length_cons, hl2]
    · intro j k v e
      cases j with
      | zero =>
        cases (Option.some.inj e)
        exact ⟨p, rfl, ht, kv.1, rfl, kV_is (P := X.prog) (w := X.w) ru⟩
      | succ j =>
        obtain ⟨b, e1, e2, key, e3, e4⟩ := hp j k v (by simpa using e)
        exact ⟨b, by simpa using e1, e2, key, by simpa using e3, e4⟩
/-- dict(t), t a tuple of pairs that bears no dict -/
def rDictT (K : PySem.W.Frag) : List V → Hp → VK → Prop := fun xs H Q =>
  ∃ (a : Addr) (o : Obj) (ps : List Addr) (kvs : List (Key × V)), xs = [.ref a] ∧ H a = some (.frz o (.tup (ps.map V.ref))) ∧ o.dict = none ∧
    Paired (fun p kv => SqT K H p [kV kv.1, kv.2]) ps kvs ∧ ∀ p, H p = none → Q (.ref p) (upd H p (.dK (mergeK [] kvs)))
theorem call_dictT (hcalm : X.calm = true) : CallR X (.type "dict") (rDictT X.K) := by
  intro pins s σ H xs us Q I r h
  obtain ⟨a, o, ps, kvs, e, ha, hod, hp, q⟩ := h
  subst e
  obtain ⟨u, e, rx⟩ := vals1 r
  subst e
  cases rx
  obtain ⟨ho, hz, its, rv, pl⟩ := (show ObjOk X.prog X.w H s.heap a (.frz o (.tup (ps.map V.ref))) from I.hok a _ ha)
  obtain ⟨prs, qs, rel, hl, hl2, hpr⟩ := pairs_of2 I hp
  have ei := refs_at rv
  subst ei
  rw [List.length_map] at hz
  obtain ⟨o', ho', hc, n, hd⟩ := pl
  rw [ho] at ho'
  cases ho'
  have PA1 := PairArg.tuple (prog := X.prog) (w := X.w) a (ps.map Value.ref).toArray (fun j => ps.getD j 0) qs
  refine PySem.call_dict_pairs (knd := mixKind X.prog X.w) (kvs := prs) PA1 (I.ok.hd hcalm) ⟨⟨o, n, ho, hc, hod, hd⟩, ?_, ?_⟩ ⟨?_, ?_⟩ (by rw [hl2]; exact hz) ?_
  · rw [List.size_toArray, List.length_map, hl2]
  · intro j k v e
    obtain ⟨b, e1, e2, _⟩ := hpr j k v e
    have eb : ps.getD j 0 = b := by
      rw [List.getD_eq_getElem?_getD, e1]
      rfl
    refine ⟨?_, .inl ?_⟩
    · show (ps.map Value.ref).toArray[j]? = some (.ref (ps.getD j 0))
      rw [eb, List.getElem?_toArray, List.getElem?_map, e1]
      rfl
    · show s.heap.IsTuple (ps.getD j 0) #[k, v]
      rw [eb]
      exact e2
  · rw [hl, hl2]
  · intro i key v e
    obtain ⟨b, e1, e2, k, e3, e4⟩ := hpr i key v e
    exact ⟨k, e3, e4⟩
  · intro h' tk hd' hk
    have hm : (s.heap.objs.size == sysModules) = false := beq_eq_false_iff_ne.mpr (Nat.ne_of_gt I.big)
    have hlen : (mergeK [] kvs).length ≤ sizeLine := by
      have h1 := length_mergeK kvs []
      have h2 := rel.length
      rw [List.length_nil] at h1
      omega
    refine ⟨.ref s.heap.objs.size, upd H s.heap.objs.size (.dK (mergeK [] kvs)), ?_, rfl, q _ (I.hok.fresh (Nat.le_refl _))⟩
    exact I.laid (t' := tk) (fun b o e => hk b o List.not_mem_nil e) (Nat.le_refl _)
      (show ObjOk X.prog X.w _ _ _ (.dK (mergeK [] kvs)) from ⟨hlen, hm, merged [] prs, KV.merge rel .nil, hd'⟩)
end
/-! ### a def of the text by its name -/
def Has (P : Program) (w : World) (K : PySem.W.Frag) (mg : Str → Option Value) (base : Heap) (k : Nat) (x : Str) (ps : List Str) (sp : Sp) : Prop :=
  ∃ f fd, FnOk P w K mg base CX0 k f fd ps sp ∧ mg x = some (.ref f) ∧ PySem.W.keepIn K (.ref f) = true ∧ L2.Binds K fd ps []
def HasG (P : Program) (w : World) (K : PySem.W.Frag) (mg : Str → Option Value) (base : Heap) (k : Nat) (x : Str) (ps : List Str) (sp : Sp) : Prop :=
  ∃ f fd, FnG P w K mg base k f fd ps sp ∧ mg x = some (.ref f) ∧ PySem.W.keepIn K (.ref f) = true ∧ L2.Binds K fd ps []
section
variable {X : Cx} {k j : Nat} {ps : List Str} {sp : Sp} {x : Str} {p pos : Pos} {e : Expr} {es : List Expr} {t : TA}
theorem pe_callH (h : Has X.prog X.w X.K X.mg X.base k x ps sp) (hr : Room j X.A) (hk : k ≤ j) (hg : Gl X x) (ha : PA X (e :: es) t)
    (hdb : (x == ("__debug__" : Str)) = false := by decide)
    (he : starEach (e :: es) X.env = (false, eval e X.env) :: starEach es X.env := by rfl)
    (hpl : (backTo pos (starEach es X.env)).any (·.1) = false := by rfl) :
    PE X (.Call (.Name x p) (e :: es) [] pos) (tCall sp [] E0 t) := by
  obtain ⟨f, fd, F, hm, hkp, hb⟩ := h
  exact pe_call F (hr.mono hk) hg hm hkp hb .nil pass0 ha hdb he hpl
theorem pe_callHG (h : HasG X.prog X.w X.K X.mg X.base k x ps sp) (hgd : X.A.guards = some []) (hr : Room j X.A) (hk : k ≤ j) (hg : Gl X x) (ha : PA X (e :: es) t)
    (hdb : (x == ("__debug__" : Str)) = false := by decide)
    (he : starEach (e :: es) X.env = (false, eval e X.env) :: starEach es X.env := by rfl)
    (hpl : (backTo pos (starEach es X.env)).any (·.1) = false := by rfl) :
    PE X (.Call (.Name x p) (e :: es) [] pos) (tCall sp [] E0 t) := by
  obtain ⟨f, fd, F, hm, hkp, hb⟩ := h
  exact pe_callG F hgd (hr.mono hk) hg hm hkp hb ha hdb he hpl
end
/-! ### the same rules with the written part named -/
section
variable {X : Cx} {o e : Expr} {es : List Expr} {to : TE} {t : TA} {name : Str} {apos cpos pos : Pos} {T id : String}
  {r : V → List V → Hp → VK → Prop}
def rLenS (K : PySem.W.Frag) : List V → Hp → VK → Prop := fun xs H Q =>
  ∃ p ys, xs = [.ref p] ∧ (SqL K H p ys ∨ SqT K H p ys) ∧ Q (.int ys.length) H
def rListOf (K : PySem.W.Frag) : List V → Hp → VK → Prop := fun xs H Q =>
  ∃ p ys, xs = [.ref p] ∧ (SqL K H p ys ∨ SqT K H p ys) ∧ ∀ l, H l = none → Q (.ref l) (upd H l (.lst ys))
def rTupF (K : PySem.W.Frag) : List V → Hp → VK → Prop := fun xs H Q => ∃ p ys, xs = [.ref p] ∧ SqL K H p ys ∧
    ∀ (l : Addr) (o : Obj), H l = none → o.dict = none → Q (.ref l) (upd H l (.frz o (.tup ys)))
theorem kbm (K : PySem.W.Frag) (pa : PlainAttrs T) (slot : Slot T name id)
    (hty : typeOf (.builtin id) = pure (.type "method_descriptor")) (hm : MtM X id r) (ho : PE X o to) (ha : PA X (e :: es) t)
    (hK : X.K = K := by rfl)
    (hbase : attributeBase o name X.env (eval o X.env) = eval o X.env := by rfl)
    (hfew : ((backTo cpos (starEach (e :: es) X.env)).all (fun x => !x.1) && (backToKw cpos (keywordEach [] X.env)).all (fun x => x.1.isSome)
      && decide ((e :: es).length + ([] : List Keyword).length + (if ([] : List Keyword).isEmpty then 0 else 1) < 30)) = true := by rfl)
    (hline : (apos.endLine == cpos.line) = true := by rfl)
    (hs : starEach (e :: es) X.env = (false, eval e X.env) :: starEach es X.env := by rfl)
    (hplain : (backTo cpos (starEach es X.env)).any (·.1) = false := by rfl) :
    PE X (.Call (.Attribute o name apos) (e :: es) [] cpos) (tBM K T r to t) := by
  subst hK
  exact pe_bm pa slot hty hm ho ha hbase hfew hline hs hplain
theorem klen (K : PySem.W.Frag) (hK : X.K = K := by rfl) : CallR X (.builtin "len") (rLenS K) := by subst hK; exact call_len_seq
theorem klistof (K : PySem.W.Frag) (hK : X.K = K := by rfl) : CallR X (.type "list") (rListOf K) := by subst hK; exact call_list_of
theorem ktupF (K : PySem.W.Frag) (hK : X.K = K := by rfl) : CallR X (.type "tuple") (rTupF K) := by subst hK; exact call_tupleF
theorem kixL (K : PySem.W.Frag) (hK : X.K = K := by rfl) : IxR X (rIxL K) := by subst hK; exact ix_list
theorem kixT (K : PySem.W.Frag) (hK : X.K = K := by rfl) : IxR X (rIxT K) := by subst hK; exact ix_tup
theorem kslL (K : PySem.W.Frag) (hK : X.K = K := by rfl) : SlR X (rSlL K) := by subst hK; exact sl_list
theorem kslT (K : PySem.W.Frag) (hK : X.K = K := by rfl) : SlR X (rSlT K) := by subst hK; exact sl_tup
theorem kin (K : PySem.W.Frag) (hK : X.K = K := by rfl) : OpR X (compareOp .In) (rIn K false) := by subst hK; exact op_in_seq
theorem knin (K : PySem.W.Frag) (hK : X.K = K := by rfl) : OpR X (compareOp .NotIn) (rIn K true) := by subst hK; exact op_notIn_seq
theorem ksum (K : PySem.W.Frag) (hc : X.calm = true) (hK : X.K = K := by rfl) : CallR X (.builtin "sum") (rSum K) := by subst hK; exact cr_sum hc
theorem kmax (K : PySem.W.Frag) (hc : X.calm = true) (hK : X.K = K := by rfl) : CallR X (.builtin "max") (rMax K) := by subst hK; exact cr_max hc
theorem kmin (K : PySem.W.Frag) (hc : X.calm = true) (hK : X.K = K := by rfl) : CallR X (.builtin "min") (rMin K) := by subst hK; exact cr_min hc
theorem ksort (K : PySem.W.Frag) (hK : X.K = K := by rfl) : CallR X (.builtin "sorted") (rSortedI K) := by subst hK; exact cr_sortedI
theorem krepr (K : PySem.W.Frag) (hgd : X.A.guards = some []) (hu : X.A.units + 64 < cLine) (hK : X.K = K := by rfl) :
    CallR X (.builtin "repr") (rRepr K) := by subst hK; exact call_reprD hgd hu
theorem kdictT (K : PySem.W.Frag) (hc : X.calm = true) (hK : X.K = K := by rfl) : CallR X (.type "dict") (rDictT K) := by subst hK; exact call_dictT hc
theorem keqD (K : PySem.W.Frag) (hu : X.A.units + 64 < cLine) (hK : X.K = K := by rfl) : OpR X (compareOp .Eq) (rEqD K) := by subst hK; exact op_eqD hu
theorem kneD (K : PySem.W.Frag) (hu : X.A.units + 64 < cLine) (hK : X.K = K := by rfl) : OpR X (compareOp .NotEq) (rNeD K) := by subst hK; exact op_neD hu
theorem kgtup (K : PySem.W.Frag) (n : Nat) {k : Nat} {t : TGs} (hc : X.calm = true) (h : PGs X es t) (hK : X.K = K := by rfl)
    (hn : (assignEach es X.env).length = n := by rfl) (hst : (assignEach es X.env).findIdx? (·.1) = none := by rfl) :
    PG X (.Tuple es k pos) (gTup K n t) := by subst hK; exact pg_tup hc h hn hst
theorem kilist (K : PySem.W.Frag) {tg l : Expr} {tl : TE} (hl : PE X l tl) (hK : X.K = K := by rfl) : PI X tg l (iList K tl) := by subst hK; exact pi_list hl
theorem kitup (K : PySem.W.Frag) {tg l : Expr} {tl : TE} (hl : PE X l tl) (hK : X.K = K := by rfl) : PI X tg l (iTup K tl) := by subst hK; exact pi_tup hl
end
structure Bi (mg : Str → Option Value) : Prop where
  len : mg "len" = none
  range : mg "range" = none
  abs : mg "abs" = none
  list : mg "list" = none
  sorted : mg "sorted" = none
  min : mg "min" = none
  max : mg "max" = none
  tuple : mg "tuple" = none
  dict : mg "dict" = none
  repr : mg "repr" = none
  set : mg "set" = none
  sum : mg "sum" = none
  isinstance : mg "isinstance" = none
  int : mg "int" = none
  bool : mg "bool" = none
  enumerate : mg "enumerate" = none
  zip : mg "zip" = none
  str : mg "str" = none
  type : mg "type" = none
  reversed : mg "reversed" = none
  any : mg "any" = none
  all : mg "all" = none

/-! ### heaps -/
/-- all but the two objects of the deck stands as it stood -/
def Keep (a c : Addr) (H H' : Hp) : Prop := ∀ b o, b ≠ a → b ≠ c → H b = some o → H' b = some o
theorem Keep.refl (a c : Addr) (H : Hp) : Keep a c H H := fun _ _ _ _ h => h
theorem Keep.trans {a c : Addr} {H H1 H2 : Hp} (x : Keep a c H H1) (y : Keep a c H1 H2) : Keep a c H H2 :=
  fun b o h1 h2 h => y b o h1 h2 (x b o h1 h2 h)
theorem Keep.of_same {a c : Addr} {H H' : Hp} (h : Same H H') : Keep a c H H' := fun b o _ _ e => h b o e
theorem same_upd {H : Hp} {p : Addr} {o : HO} (h : H p = none) : Same H (upd H p o) := by
  intro b x e
  rw [upd_ne (ne_of_none e h)]
  exact e
theorem Keep.upd_new {a c : Addr} {H : Hp} {p : Addr} {o : HO} (h : H p = none) : Keep a c H (upd H p o) := .of_same (same_upd h)
/-- the deck: its list of the cells and its count, at most k -/
def Deck (H : Hp) (a c : Addr) (k : Int) : Prop := ∃ (ns : List Int) (j : Int), a ≠ c ∧ H a = some (.lst [.ref c, .int j]) ∧
  H c = some (.lst (ns.map V.int)) ∧ (∀ n ∈ ns, 0 ≤ n) ∧ 0 ≤ j ∧ j ≤ k
theorem Deck.mono {H : Hp} {a c : Addr} {k k' : Int} (h : Deck H a c k) (le : k ≤ k') : Deck H a c k' := by
  obtain ⟨ns, j, h1, h2, h3, h4, h5, h6⟩ := h
  exact ⟨ns, j, h1, h2, h3, h4, h5, by omega⟩
theorem Deck.same {H H' : Hp} {a c : Addr} {k : Int} (h : Deck H a c k) (s : Same H H') : Deck H' a c k := by
  obtain ⟨ns, j, h1, h2, h3, h4, h5, h6⟩ := h
  exact ⟨ns, j, h1, s _ _ h2, s _ _ h3, h4, h5, h6⟩
theorem Deck.new {H : Hp} {a c : Addr} {k : Int} {p : Addr} {o : HO} (h : Deck H a c k) (n : H p = none) : Deck (upd H p o) a c k := h.same (same_upd n)
theorem Deck.nea {H : Hp} {a c : Addr} {k : Int} {p : Addr} (h : Deck H a c k) (n : H p = none) : p ≠ a ∧ p ≠ c := by
  obtain ⟨ns, j, h1, h2, h3, h4, h5, h6⟩ := h
  exact ⟨(ne_of_none h2 n).symm, (ne_of_none h3 n).symm⟩
/-! ### a draw -/
def spDraw : Sp := fun vs H Q _ => ∃ (a c : Addr) (k lim : Int), vs = [.ref a, .int lim] ∧ Deck H a c k ∧ k ≤ 1000000 ∧ 1 ≤ lim ∧ lim ≤ 1000000 ∧
  ∀ (v : Int) (H' : Hp), 0 ≤ v → v < lim → Deck H' a c (k + 1) → Keep a c H H' → Q (.int v) H'
theorem atI_pos {α : Type} {xs : List α} {i : Int} {v : α} (h0 : 0 ≤ i) (h : xs[i.toNat]? = some v) : atI xs i = some v := by
  have e : i = ((i.toNat : Nat) : Int) := by omega
  rw [e]
  exact atI_nat h
theorem ixN_pos {n : Nat} {i : Int} (h0 : 0 ≤ i) (h : i < n) : ixN n i = some i.toNat := by
  unfold ixN
  rw [if_pos h0, if_pos h]
theorem pow5 (x : Int) (h0 : 0 ≤ x) : 0 ≤ x ^ 5 := by
  have h2 : 0 ≤ x * x := Int.mul_nonneg h0 h0
  have h4 : 0 ≤ x * x * x := Int.mul_nonneg h2 h0
  have h5 : 0 ≤ x * x * x * x := Int.mul_nonneg h4 h0
  have h6 : 0 ≤ x * x * x * x * x := Int.mul_nonneg h5 h0
  have e : x ^ 5 = x * x * x * x * x := by
    rw [Int.pow_succ, Int.pow_succ, Int.pow_succ, Int.pow_succ, Int.pow_succ, Int.pow_zero, Int.one_mul]
  rw [e]
  exact h6
theorem set0 {x y : V} {v : V} : [x, y].set 1 v = [x, v] := rfl
theorem mem_set_nonneg {ns : List Int} (h : ∀ n ∈ ns, 0 ≤ n) (i : Nat) {v : Int} (hv : 0 ≤ v) : ∀ n ∈ ns.set i v, 0 ≤ n := by
  intro n hn
  rcases List.mem_or_eq_of_mem_set hn with z | z
  · exact h n z
  · rw [z]
    exact hv

/-! ### the deck itself -/
def spDeck (K : PySem.W.Frag) : Sp := fun vs H Q _ => ∃ (s : Addr) (ns : List Int), vs = [.ref s] ∧ SqL K H s (ns.map V.int) ∧ ns.length ≤ 63 ∧
  ∀ (a c : Addr) (H' : Hp), Deck H' a c 0 → Same H H' → H a = none → H c = none → Q (.ref a) H'
theorem cut_to (xs : List V) (k : Nat) : cutV xs none (some (k : Int)) = xs.take k := by
  unfold cutV
  rw [HT.sIx_nat, HT.sIx_none, List.drop_zero, Nat.sub_zero]
  by_cases h : k ≤ xs.length
  · rw [Nat.min_eq_left h]
  · rw [Nat.min_eq_right (by omega), List.take_of_length_le (Nat.le_refl _), List.take_of_length_le (by omega)]
theorem cut_from (xs : List V) (k : Nat) : cutV xs (some (k : Int)) none = xs.drop k := by
  unfold cutV
  rw [HT.sIx_nat, HT.sIx_none]
  by_cases h : k ≤ xs.length
  · rw [Nat.min_eq_left h]
    exact List.take_of_length_le (by rw [List.length_drop]; exact Nat.le_refl _)
  · rw [Nat.min_eq_right (by omega), Nat.sub_self, List.take_zero, List.drop_eq_nil_of_le (by omega)]
theorem take_map_succ {α β : Type} (f : α → β) {xs : List α} {i : Nat} {x : α} (h : xs[i]? = some x) : (xs.take (i + 1)).map f = (xs.take i).map f ++ [f x] := by
  rw [List.take_add_one, h, List.map_append]
  rfl
theorem abs_nonneg (n : Int) : 0 ≤ (if n < 0 then -n else n) := by
  split <;> omega
/-! ### distinct numbers -/
def spDistinct : Sp := fun vs H Q _ => ∃ (a c : Addr) (k m many : Int), vs = [.ref a, .int m, .int many] ∧ Deck H a c k ∧ k + many ≤ 1000000 ∧
  0 ≤ many ∧ many ≤ m ∧ m ≤ 1000 ∧ ∀ (xs : List Int) (p : Addr) (H' : Hp), xs.Pairwise (· < ·) → (xs.length : Int) = many → (∀ x ∈ xs, 0 ≤ x ∧ x < m) →
    Deck H' a c (k + many) → Keep a c H H' → H p = none → H' p = some (.lst (xs.map V.int)) → Q (.ref p) H'
def upto (m : Int) : List Int := (List.range m.toNat).map fun i => ((i : Nat) : Int)
theorem upto_len (m : Int) : (upto m).length = m.toNat := by
  unfold upto
  rw [List.length_map, List.length_range]
theorem upto_V (m : Int) : rgV 0 m = (upto m).map V.int := by
  unfold rgV upto
  rw [List.map_map]
  have e : (m - 0).toNat = m.toNat := by omega
  rw [e]
  apply List.map_congr_left
  intro i _
  show V.int (0 + (i : Nat)) = V.int ((i : Nat) : Int)
  rw [Int.zero_add]
theorem upto_mem {m x : Int} : x ∈ upto m ↔ 0 ≤ x ∧ x < m := by
  unfold upto
  rw [List.mem_map]
  constructor
  · intro ⟨i, hi, e⟩
    rw [List.mem_range] at hi
    omega
  · intro ⟨h0, h1⟩
    exact ⟨x.toNat, by rw [List.mem_range]; omega, by omega⟩
theorem nodup_map_cast : ∀ l : List Nat, l.Nodup → (l.map fun i => ((i : Nat) : Int)).Nodup
  | [], _ => List.nodup_nil
  | a :: l, h => by
    rw [List.nodup_cons] at h
    rw [List.map_cons, List.nodup_cons]
    refine ⟨fun z => ?_, nodup_map_cast l h.2⟩
    rw [List.mem_map] at z
    obtain ⟨b, hb, e⟩ := z
    have e2 : b = a := by omega
    subst e2
    exact h.1 hb
theorem upto_nodup (m : Int) : (upto m).Nodup := nodup_map_cast _ List.nodup_range
theorem lt_of_le_nodup {l : List Int} (h : l.Pairwise (· ≤ ·)) (n : l.Nodup) : l.Pairwise (· < ·) := by
  have h2 : l.Pairwise (fun x y => x ≤ y ∧ x ≠ y) := List.Pairwise.and h n
  exact h2.imp fun {a b} z => by omega
theorem erase_map {α β : Type} (f : α → β) : ∀ (l : List α) (i : Nat), (l.map f).eraseIdx i = (l.eraseIdx i).map f
  | [], _ => rfl
  | _ :: _, 0 => rfl
  | x :: l, i + 1 => by
    show f x :: (l.map f).eraseIdx i = f x :: (l.eraseIdx i).map f
    rw [erase_map f l i]
theorem erase_perm {α : Type} : ∀ (l : List α) (i : Nat) (h : i < l.length), (l[i] :: l.eraseIdx i).Perm l
  | [], _, h => absurd h (Nat.not_lt_zero _)
  | x :: l, 0, _ => List.Perm.refl _
  | x :: l, i + 1, h => by
    have ih := erase_perm l i (Nat.lt_of_succ_lt_succ h)
    show (l[i]'(Nat.lt_of_succ_lt_succ h) :: x :: l.eraseIdx i).Perm (x :: l)
    exact (List.Perm.swap x _ _).trans (List.Perm.cons x ih)
theorem seqIndex_nat {n : Nat} {i : Int} (h0 : 0 ≤ i) (h : i < n) : seqIndex? i n = some i.toNat := (ixN_seq (ixN_pos h0 h)).1

/-! ### tools -/
structure IsTool (m : Int) (tl : List (Int × Int)) : Prop where
  len1 : 1 ≤ tl.length
  len2 : tl.length ≤ 12
  rng : ∀ p ∈ tl, (0 ≤ p.1 ∧ p.1 < m) ∧ 0 ≤ p.2 ∧ p.2 < m
  asc : tl.Pairwise (fun x y => x.1 < y.1)
  ord : tl.Pairwise (fun x y => (x.2 - (tl.headD (0, 0)).2) % m < (y.2 - (tl.headD (0, 0)).2) % m)
  one : tl.length = 1 → ∀ p ∈ tl, p.1 = 0
/-- the pairs of a tool, each an object of its own -/
def PairsAt (H : Hp) (as : List Addr) (tl : List (Int × Int)) : Prop := Paired (fun p bt => H p = some (.tup [.int bt.1, .int bt.2])) as tl
def ToolAt (H : Hp) (a : Addr) (tl : List (Int × Int)) : Prop := ∃ (o : Obj) (as : List Addr), H a = some (.frz o (.tup (as.map V.ref))) ∧ o.dict = none ∧ PairsAt H as tl
/-- what is no list stays -/
def Stay (H H' : Hp) : Prop := ∀ b o, (∀ xs, o ≠ HO.lst xs) → H b = some o → H' b = some o
theorem Stay.refl (H : Hp) : Stay H H := fun _ _ _ h => h
theorem Stay.trans {H H1 H2 : Hp} (x : Stay H H1) (y : Stay H1 H2) : Stay H H2 := fun b o n h => y b o n (x b o n h)
theorem Stay.of_same {H H' : Hp} (h : Same H H') : Stay H H' := fun b o _ e => h b o e
theorem Keep.stay {a c : Addr} {H H' : Hp} {k : Int} (kp : Keep a c H H') (d : Deck H a c k) : Stay H H' := by
  intro b o n e
  obtain ⟨ns, j, h1, h2, h3, h4, h5, h6⟩ := d
  refine kp b o ?_ ?_ e
  · intro z
    subst z
    rw [h2] at e
    exact n _ (Option.some.inj e).symm
  · intro z
    subst z
    rw [h3] at e
    exact n _ (Option.some.inj e).symm
theorem PairsAt.stay {H H' : Hp} {as : List Addr} {tl : List (Int × Int)} (h : PairsAt H as tl) (s : Stay H H') : PairsAt H' as tl :=
  Paired.mono (fun _ _ e => s _ _ (by intro xs z; cases z) e) h
theorem ToolAt.stay {H H' : Hp} {a : Addr} {tl : List (Int × Int)} (h : ToolAt H a tl) (s : Stay H H') : ToolAt H' a tl := by
  obtain ⟨o, as, h1, h2, h3⟩ := h
  exact ⟨o, as, s _ _ (by intro xs z; cases z) h1, h2, h3.stay s⟩
def spTool : Sp := fun vs H Q _ => ∃ (a c : Addr) (k m : Int), vs = [.ref a, .int m] ∧ Deck H a c k ∧ k + 30 ≤ 1000000 ∧ 1 ≤ m ∧ m ≤ 60 ∧
  ∀ (t : Addr) (tl : List (Int × Int)) (H' : Hp), IsTool m tl → ToolAt H' t tl → Deck H' a c (k + 30) → Keep a c H H' → Q (.ref t) H'
/-- a step after which a tool may repeat -/
def Good (m d : Int) : Prop := 1 ≤ d ∧ d ≤ m ∧ m % d = 0 ∧ m / d < 13
theorem good_self {m : Int} (h : 1 ≤ m) : Good m m := ⟨h, Int.le_refl _, Int.emod_self, by rw [Int.ediv_self (by omega)]; decide⟩
theorem Good.mul {m d : Int} (g : Good m d) : m = d * (m / d) := by
  have h := Int.mul_ediv_add_emod m d
  rw [g.2.2.1, Int.add_zero] at h
  exact h.symm
theorem Good.lim {m d : Int} (g : Good m d) (h : 1 ≤ m) : 1 ≤ 12 * d / m := by
  have h1 := g.mul
  have h2 : m / d ≤ 12 := by have := g.2.2.2; omega
  have h3 : d * (m / d) ≤ d * 12 := Int.mul_le_mul_of_nonneg_left h2 (by have := g.1; omega)
  exact (Int.le_ediv_iff_mul_le (by omega)).mpr (by omega)
theorem Good.many {m d n : Int} (g : Good m d) (h : 1 ≤ m) (hn : n ≤ 12 * d / m) : n * (m / d) ≤ 12 := by
  have h0 := g.1
  have h1 := g.mul
  have h2 : n * m ≤ 12 * d := (Int.le_ediv_iff_mul_le (by omega)).mp hn
  have h3 : d * (n * (m / d)) ≤ d * 12 := by
    have e : d * (n * (m / d)) = n * (d * (m / d)) := by rw [← Int.mul_assoc, Int.mul_comm d n, Int.mul_assoc]
    rw [e, ← h1]
    omega
  exact Int.le_of_mul_le_mul_left h3 (by omega)
theorem small60 : ∀ m < 61, ∀ d < 61, 1 ≤ d → Builtin.Range.small 0 ((m : Nat) : Int) ((d : Nat) : Int) = true := by decide +kernel
theorem size60 : ∀ m < 61, ∀ d < 61, 1 ≤ d → 1 ≤ m → m % d = 0 → Builtin.Range.rangeSize 0 ((m : Nat) : Int) ((d : Nat) : Int) = (((m / d : Nat)) : Int) := by decide +kernel
theorem Good.rgc {m d : Int} (g : Good m d) (h1 : 1 ≤ m) (h2 : m ≤ 60) : RgC 0 m d (m / d).toNat := by
  obtain ⟨g1, g2, g3, g4⟩ := g
  have em : m = ((m.toNat : Nat) : Int) := by omega
  have ed : d = ((d.toNat : Nat) : Int) := by omega
  have e3 : m.toNat % d.toNat = 0 := by
    have : ((m.toNat % d.toNat : Nat) : Int) = 0 := by rw [Int.natCast_emod, ← em, ← ed]; exact g3
    omega
  have e4 : (m / d).toNat = m.toNat / d.toNat := by
    have : ((m.toNat / d.toNat : Nat) : Int) = m / d := by rw [Int.natCast_ediv, ← em, ← ed]
    rw [← this]
    exact Int.toNat_natCast _
  refine ⟨by omega, by omega, ?_, ?_⟩
  · rw [em, ed]
    exact small60 _ (by omega) _ (by omega) (by omega)
  · rw [e4, em, ed, size60 _ (by omega) _ (by omega) (by omega) (by omega) e3]
    rfl
/-- the pairs before the shift -/
structure Raw (m d : Int) (bs ts : List Int) (i j : Nat) (raw : List (Int × Int)) : Prop where
  asc : raw.Pairwise (fun x y => x.1 < y.1 ∧ x.2 < y.2)
  low : ∀ x ∈ raw, 0 ≤ x.1 ∧ 0 ≤ x.2
  bnd : ∀ x ∈ raw, (x.1 < i * d ∧ x.2 < i * d) ∨ ∃ k b t, k < j ∧ bs[k]? = some b ∧ ts[k]? = some t ∧ x = (i * d + b, i * d + t)
theorem Raw.nil {m d : Int} {bs ts : List Int} : Raw m d bs ts 0 0 [] := ⟨.nil, fun x h => (List.not_mem_nil h).elim, fun x h => (List.not_mem_nil h).elim⟩
theorem pw_get {l : List Int} (h : l.Pairwise (· < ·)) {i j : Nat} {x y : Int} (hx : l[i]? = some x) (hy : l[j]? = some y) (hij : i < j) : x < y := by
  obtain ⟨hi, ei⟩ := List.getElem?_eq_some_iff.mp hx
  obtain ⟨hj, ej⟩ := List.getElem?_eq_some_iff.mp hy
  have := List.pairwise_iff_getElem.mp h i j hi hj hij
  omega
theorem Raw.add {m d : Int} {bs ts : List Int} {i j : Nat} {raw : List (Int × Int)} (r : Raw m d bs ts i j raw) (hb : bs.Pairwise (· < ·)) (ht : ts.Pairwise (· < ·))
    {b t : Int} (eb : bs[j]? = some b) (et : ts[j]? = some t) (b0 : 0 ≤ b) (t0 : 0 ≤ t) (d0 : 0 ≤ d) : Raw m d bs ts i (j + 1) (raw ++ [(i * d + b, i * d + t)]) := by
  have hid : 0 ≤ (i : Int) * d := Int.mul_nonneg (by omega) d0
  refine ⟨?_, ?_, ?_⟩
  · rw [List.pairwise_append]
    refine ⟨r.asc, List.pairwise_singleton _ _, fun x hx y hy => ?_⟩
    rw [List.mem_singleton] at hy
    subst hy
    rcases r.bnd x hx with ⟨h1, h2⟩ | ⟨k, b', t', hk, h1, h2, e⟩
    · exact ⟨by show x.1 < i * d + b; omega, by show x.2 < i * d + t; omega⟩
    · subst e
      have q1 := pw_get hb h1 eb hk
      have q2 := pw_get ht h2 et hk
      exact ⟨by show i * d + b' < i * d + b; omega, by show i * d + t' < i * d + t; omega⟩
  · intro x hx
    rcases List.mem_append.mp hx with h | h
    · exact r.low x h
    · rw [List.mem_singleton] at h
      subst h
      exact ⟨by show 0 ≤ i * d + b; omega, by show 0 ≤ i * d + t; omega⟩
  · intro x hx
    rcases List.mem_append.mp hx with h | h
    · rcases r.bnd x h with z | ⟨k, b', t', hk, h1, h2, e⟩
      · exact .inl z
      · exact .inr ⟨k, b', t', by omega, h1, h2, e⟩
    · rw [List.mem_singleton] at h
      exact .inr ⟨j, b, t, by omega, eb, et, h⟩
theorem Raw.next {m d : Int} {bs ts : List Int} {i j : Nat} {raw : List (Int × Int)} (r : Raw m d bs ts i j raw) (hb : ∀ x ∈ bs, 0 ≤ x ∧ x < d) (ht : ∀ x ∈ ts, 0 ≤ x ∧ x < d) (d0 : 0 ≤ d) :
    Raw m d bs ts (i + 1) 0 raw := by
  have e1 : ((i + 1 : Nat) : Int) * d = i * d + d := by
    rw [Int.natCast_add, Int.add_mul]
    omega
  refine ⟨r.asc, r.low, fun x hx => .inl ?_⟩
  rw [e1]
  rcases r.bnd x hx with ⟨h1, h2⟩ | ⟨k, b', t', hk, h1, h2, e⟩
  · omega
  · subst e
    have q1 := hb b' (List.mem_of_getElem? h1)
    have q2 := ht t' (List.mem_of_getElem? h2)
    exact ⟨by show i * d + b' < i * d + d; omega, by show i * d + t' < i * d + d; omega⟩
theorem sub_mod_shift (m s u v : Int) : ((u + s) % m - (v + s) % m) % m = (u - v) % m := by
  rw [Int.sub_emod, Int.emod_emod_of_dvd _ (Int.dvd_refl m), Int.emod_emod_of_dvd _ (Int.dvd_refl m), ← Int.sub_emod]
  congr 1
  omega
theorem tool_of_raw {m s : Int} {raw : List (Int × Int)} (h2 : 2 ≤ raw.length) (h12 : raw.length ≤ 12) (asc : raw.Pairwise (fun x y => x.1 < y.1 ∧ x.2 < y.2))
    (bd : ∀ x ∈ raw, (0 ≤ x.1 ∧ x.1 < m) ∧ 0 ≤ x.2 ∧ x.2 < m) : IsTool m (raw.map fun x => (x.1, (x.2 + s) % m)) := by
  have hm : 0 < m := by
    match raw, h2 with
    | x :: _, _ =>
      have := bd x List.mem_cons_self
      omega
  refine ⟨by rw [List.length_map]; omega, by rw [List.length_map]; exact h12, ?_, ?_, ?_, ?_⟩
  · intro p hp
    rw [List.mem_map] at hp
    obtain ⟨x, hx, e⟩ := hp
    subst e
    exact ⟨(bd x hx).1, Int.emod_nonneg _ (by omega), Int.emod_lt_of_pos _ hm⟩
  · rw [List.pairwise_map]
    exact asc.imp fun {a b} z => z.1
  · rw [List.pairwise_map]
    match raw, h2 with
    | x0 :: r, _ =>
      have hmin : ∀ y ∈ x0 :: r, x0.2 ≤ y.2 := by
        intro y hy
        rcases List.mem_cons.mp hy with z | z
        · rw [z]
          exact Int.le_refl _
        · have := (List.pairwise_cons.mp asc).1 y z
          omega
      have hb0 := bd x0 List.mem_cons_self
      refine List.Pairwise.imp_of_mem ?_ asc
      intro a b ha hb hab
      show ((a.2 + s) % m - (x0.2 + s) % m) % m < ((b.2 + s) % m - (x0.2 + s) % m) % m
      rw [sub_mod_shift, sub_mod_shift]
      have q1 := hmin a ha
      have q2 := hmin b hb
      have q3 := bd a ha
      have q4 := bd b hb
      rw [Int.emod_eq_of_lt (by omega) (by omega), Int.emod_eq_of_lt (by omega) (by omega)]
      omega
  · intro e
    rw [List.length_map] at e
    omega
theorem tool_of_one {m t : Int} (h0 : 0 ≤ t) (h1 : t < m) : IsTool m [(0, t)] := by
  refine ⟨Nat.le_refl _, by show 1 ≤ 12; decide, ?_, List.pairwise_singleton _ _, List.pairwise_singleton _ _, ?_⟩
  · intro p hp
    rw [List.mem_singleton] at hp
    subst hp
    exact ⟨⟨Int.le_refl _, by show 0 < m; omega⟩, h0, h1⟩
  · intro _ p hp
    rw [List.mem_singleton] at hp
    subst hp
    rfl

/-! ### comprehensions that change nothing -/
section
variable {K : PySem.W.Frag} {j : Nat} {tt : TT} {te : TE} {vs : List Nat} {σ : L2.St} {H1 : Hp} {D : Addr} {Qd : Hp → Prop}
theorem filter_range_succ {β : Type} (b : Nat → Bool) (f : Nat → β) (i : Nat) :
    ((List.range (i + 1)).filter b).map f = ((List.range i).filter b).map f ++ (if b i = true then [f i] else []) := by
  rw [List.range_succ, List.filter_append, List.map_append]
  congr 1
  by_cases h : b i = true
  · rw [if_pos h, List.filter_cons_of_pos h]
    rfl
  · rw [if_neg h, List.filter_cons_of_neg h]
    rfl
theorem filter_len {β : Type} (b : Nat → Bool) (f : Nat → β) (i : Nat) : (((List.range i).filter b).map f).length ≤ i := by
  rw [List.length_map]
  exact Nat.le_trans (List.length_filter_le _ _) (by rw [List.length_range]; exact Nat.le_refl _)
theorem lc_turn {g : V} (b : Nat → Bool) (f : Nat → V) (nD : H1 D = none) {i n : Nat} (hin : i < n) (hn : n ≤ 100000) {H : Hp}
    (hs : Same H1 H) (hD : H D = some (.lst (((List.range i).filter b).map f)))
    (hw : wipe ((wipe σ vs).set j (some g)) vs = wipe σ vs)
    (ht : ∀ (H : Hp) (Q : Bool → Hp → Prop), Same H1 H → (∀ H', Same H H' → Q (b i) H') → tt ((wipe σ vs).set j (some g)) H Q)
    (he : b i = true → ∀ (H : Hp) (Q : VK), Same H1 H → (∀ H', Same H H' → Q (f i) H') → te ((wipe σ vs).set j (some g)) H Q) :
    gName j g (wipe σ vs) H fun σ2 H2 => wipe σ2 vs = wipe σ vs ∧ tt σ2 H2 fun b' H3 => if b' = true then te σ2 H3 fun y H4 =>
      ∃ acc, H4 D = some (.lst acc) ∧ acc.length < sizeLine ∧ (Same H1 (upd H4 D (.lst (acc ++ [y]))) ∧
        upd H4 D (.lst (acc ++ [y])) D = some (.lst (((List.range (i + 1)).filter b).map f)))
      else Same H1 H3 ∧ H3 D = some (.lst (((List.range (i + 1)).filter b).map f)) := by
  refine ⟨hw, ht H _ hs fun H2 s2 => ?_⟩
  have hD2 := s2 _ _ hD
  have hs2 := hs.trans s2
  by_cases hb : b i = true
  · rw [if_pos hb]
    refine he hb H2 _ hs2 fun H3 s3 => ?_
    refine ⟨_, s3 _ _ hD2, ?_, ?_, ?_⟩
    · have := filter_len b f i
      exact Nat.lt_of_le_of_lt this (Nat.lt_trans hin (Nat.lt_of_le_of_lt hn (by decide)))
    · intro x o e
      rw [upd_ne (ne_of_none e nD)]
      exact s3 _ _ (hs2 _ _ e)
    · rw [upd_same, filter_range_succ, if_pos hb]
  · rw [if_neg hb]
    refine ⟨hs2, ?_⟩
    rw [filter_range_succ, if_neg hb, List.append_nil]
    exact hD2
theorem lcR {lo : Int} {n : Nat} (b : Nat → Bool) (f : Nat → V) (hn : n ≤ 100000) (nD : H1 D = none)
    (hw : ∀ v, wipe ((wipe σ vs).set j (some v)) vs = wipe σ vs)
    (ht : ∀ (i : Nat) (H : Hp) (Q : Bool → Hp → Prop), i < n → Same H1 H → (∀ H', Same H H' → Q (b i) H') → tt ((wipe σ vs).set j (some (.int (lo + i)))) H Q)
    (he : ∀ (i : Nat) (H : Hp) (Q : VK), i < n → b i = true → Same H1 H → (∀ H', Same H H' → Q (f i) H') → te ((wipe σ vs).set j (some (.int (lo + i)))) H Q)
    (hd : ∀ H', Same H1 H' → H' D = some (.lst (((List.range n).filter b).map f)) → Qd H') :
    ∃ W : Nat → Nat → Hp → Prop, (∃ m, W 0 m (upd H1 D (.lst []))) ∧ ∀ i m H, W i m H → ((Itr lo n).stop i H ∧ Qd H) ∨ ((Itr lo n).go i H ∧
      ∃ Nx : Hp → Prop, (∀ H', Nx H' → ∃ m', m' < m ∧ W (i + 1) m' H') ∧ ∀ x H', (Itr lo n).yld i H x H' → gName j x (wipe σ vs) H' fun σ2 H2 =>
        wipe σ2 vs = wipe σ vs ∧ tt σ2 H2 fun b H3 => if b = true then te σ2 H3 fun y H4 => ∃ acc, H4 D = some (.lst acc) ∧ acc.length < sizeLine ∧ Nx (upd H4 D (.lst (acc ++ [y]))) else Nx H3) := by
  refine lc_range (fun i H => Same H1 H ∧ H D = some (.lst (((List.range i).filter b).map f))) ⟨same_upd nD, upd_same⟩ ?_ (fun H h => hd H h.1 h.2)
  intro i H hi h
  exact lc_turn b f nD hi hn h.1 h.2 (hw _) (fun H Q => ht i H Q hi) (fun hb H Q => he i H Q hi hb)
theorem lcL {a : Addr} {xs : List V} (b : Nat → Bool) (f : Nat → V) (hn : xs.length ≤ 100000) (nD : H1 D = none) (hx : SqL K H1 a xs)
    (hw : ∀ v, wipe ((wipe σ vs).set j (some v)) vs = wipe σ vs)
    (ht : ∀ (i : Nat) (x : V) (H : Hp) (Q : Bool → Hp → Prop), xs[i]? = some x → Same H1 H → (∀ H', Same H H' → Q (b i) H') → tt ((wipe σ vs).set j (some x)) H Q)
    (he : ∀ (i : Nat) (x : V) (H : Hp) (Q : VK), xs[i]? = some x → b i = true → Same H1 H → (∀ H', Same H H' → Q (f i) H') → te ((wipe σ vs).set j (some x)) H Q)
    (hd : ∀ H', Same H1 H' → H' D = some (.lst (((List.range xs.length).filter b).map f)) → Qd H') :
    ∃ W : Nat → Nat → Hp → Prop, (∃ m, W 0 m (upd H1 D (.lst []))) ∧ ∀ i m H, W i m H → ((Itl K a).stop i H ∧ Qd H) ∨ ((Itl K a).go i H ∧
      ∃ Nx : Hp → Prop, (∀ H', Nx H' → ∃ m', m' < m ∧ W (i + 1) m' H') ∧ ∀ x H', (Itl K a).yld i H x H' → gName j x (wipe σ vs) H' fun σ2 H2 =>
        wipe σ2 vs = wipe σ vs ∧ tt σ2 H2 fun b H3 => if b = true then te σ2 H3 fun y H4 => ∃ acc, H4 D = some (.lst acc) ∧ acc.length < sizeLine ∧ Nx (upd H4 D (.lst (acc ++ [y]))) else Nx H3) := by
  refine lc_list (xs := xs) (fun i H => Same H1 H ∧ H D = some (.lst (((List.range i).filter b).map f))) ⟨same_upd nD, upd_same⟩ (fun i H _ h => h.1.seq hx) ?_ (fun H h => hd H h.1 h.2)
  intro i x H hi h
  have hlt : i < xs.length := (List.getElem?_eq_some_iff.mp hi).1
  exact lc_turn b f nD hlt hn h.1 h.2 (hw _) (fun H Q => ht i x H Q hi) (fun hb H Q => he i x H Q hi hb)
theorem same_tup {H H' : Hp} {a : Addr} {xs : List V} (e : Same H H') (h : SqT K H a xs) : SqT K H' a xs := by
  rcases h with (h | ⟨o, h⟩) | h
  · exact .inl (.inl (e _ _ h))
  · exact .inl (.inr ⟨o, e _ _ h⟩)
  · exact .inr h
theorem lcT {a : Addr} {xs : List V} (b : Nat → Bool) (f : Nat → V) (hn : xs.length ≤ 100000) (nD : H1 D = none) (hx : SqT K H1 a xs)
    (hw : ∀ v, wipe ((wipe σ vs).set j (some v)) vs = wipe σ vs)
    (ht : ∀ (i : Nat) (x : V) (H : Hp) (Q : Bool → Hp → Prop), xs[i]? = some x → Same H1 H → (∀ H', Same H H' → Q (b i) H') → tt ((wipe σ vs).set j (some x)) H Q)
    (he : ∀ (i : Nat) (x : V) (H : Hp) (Q : VK), xs[i]? = some x → b i = true → Same H1 H → (∀ H', Same H H' → Q (f i) H') → te ((wipe σ vs).set j (some x)) H Q)
    (hd : ∀ H', Same H1 H' → H' D = some (.lst (((List.range xs.length).filter b).map f)) → Qd H') :
    ∃ W : Nat → Nat → Hp → Prop, (∃ m, W 0 m (upd H1 D (.lst []))) ∧ ∀ i m H, W i m H → ((Itt K a).stop i H ∧ Qd H) ∨ ((Itt K a).go i H ∧
      ∃ Nx : Hp → Prop, (∀ H', Nx H' → ∃ m', m' < m ∧ W (i + 1) m' H') ∧ ∀ x H', (Itt K a).yld i H x H' → gName j x (wipe σ vs) H' fun σ2 H2 =>
        wipe σ2 vs = wipe σ vs ∧ tt σ2 H2 fun b H3 => if b = true then te σ2 H3 fun y H4 => ∃ acc, H4 D = some (.lst acc) ∧ acc.length < sizeLine ∧ Nx (upd H4 D (.lst (acc ++ [y]))) else Nx H3) := by
  refine lc_tup (xs := xs) (fun i H => Same H1 H ∧ H D = some (.lst (((List.range i).filter b).map f))) ⟨same_upd nD, upd_same⟩ (fun i H _ h => same_tup h.1 hx) ?_ (fun H h => hd H h.1 h.2)
  intro i x H hi h
  have hlt : i < xs.length := (List.getElem?_eq_some_iff.mp hi).1
  exact lc_turn b f nD hlt hn h.1 h.2 (hw _) (fun H Q => ht i x H Q hi) (fun hb H Q => he i x H Q hi hb)
end
theorem ffalse {β : Type} (f : Nat → β) (n : Nat) : ((List.range n).filter fun _ => true).map f = (List.range n).map f := by
  rw [List.filter_eq_self.mpr fun _ _ => rfl]

/-! ### what a tool does to a place -/
def tgtFrom (p : Int) : Int → List (Int × Int) → Int
  | f, [] => f
  | f, bt :: r => tgtFrom p (if bt.1 ≤ p then bt.2 else f) r
def tgt (tl : List (Int × Int)) (p : Int) : Int := tgtFrom p (tl.getLastD (0, 0)).2 tl
theorem tgtFrom_snoc (p : Int) (bt : Int × Int) : ∀ (l : List (Int × Int)) (f : Int), tgtFrom p f (l ++ [bt]) = if bt.1 ≤ p then bt.2 else tgtFrom p f l
  | [], f => rfl
  | x :: l, f => tgtFrom_snoc p bt l _
theorem tgtFrom_none (p : Int) : ∀ (l : List (Int × Int)) (f : Int), (∀ x ∈ l, ¬ x.1 ≤ p) → tgtFrom p f l = f
  | [], f, _ => rfl
  | x :: l, f, h => by
    unfold tgtFrom
    rw [if_neg (h x List.mem_cons_self)]
    exact tgtFrom_none p l f fun y hy => h y (List.mem_cons_of_mem _ hy)
theorem tgtFrom_congr {p p' : Int} : ∀ (l : List (Int × Int)) (f : Int), (∀ x ∈ l, (x.1 ≤ p ↔ x.1 ≤ p')) → tgtFrom p f l = tgtFrom p' f l
  | [], f, _ => rfl
  | x :: l, f, h => by
    unfold tgtFrom
    have e : (if x.1 ≤ p then x.2 else f) = (if x.1 ≤ p' then x.2 else f) := by
      by_cases z : x.1 ≤ p
      · rw [if_pos z, if_pos ((h x List.mem_cons_self).mp z)]
      · rw [if_neg z, if_neg fun q => z ((h x List.mem_cons_self).mpr q)]
    rw [e]
    exact tgtFrom_congr l _ fun y hy => h y (List.mem_cons_of_mem _ hy)
theorem tgtFrom_all (p : Int) : ∀ (l : List (Int × Int)) (f : Int) (hl : l ≠ []), (∀ x ∈ l, x.1 ≤ p) → tgtFrom p f l = (l.getLastD (0, 0)).2
  | [x], f, _, h => by
    unfold tgtFrom
    rw [if_pos (h x List.mem_cons_self)]
    rfl
  | x :: y :: l, f, _, h => by
    unfold tgtFrom
    rw [tgtFrom_all p (y :: l) _ (List.cons_ne_nil _ _) fun z hz => h z (List.mem_cons_of_mem _ hz)]
    rfl
theorem tgtFrom_hit {p t : Int} : ∀ (l : List (Int × Int)) (f : Int), l.Pairwise (fun x y => x.1 < y.1) → (p, t) ∈ l → tgtFrom p f l = t
  | x :: l, f, asc, h => by
    unfold tgtFrom
    have ac := List.pairwise_cons.mp asc
    rcases List.mem_cons.mp h with e | e
    · subst e
      rw [if_pos (show p ≤ p from Int.le_refl _)]
      exact tgtFrom_none p l t fun y hy => by have := ac.1 y hy; show ¬ y.1 ≤ p; omega
    · exact tgtFrom_hit l _ ac.2 e
theorem tgt_rng {m : Int} {tl : List (Int × Int)} (h : IsTool m tl) (p : Int) : 0 ≤ tgt tl p ∧ tgt tl p < m := by
  have hl : tl ≠ [] := fun e => by
    have := h.len1
    rw [e, List.length_nil] at this
    omega
  have key : ∀ (l : List (Int × Int)) (f : Int), (∀ x ∈ l, 0 ≤ x.2 ∧ x.2 < m) → 0 ≤ f ∧ f < m → 0 ≤ tgtFrom p f l ∧ tgtFrom p f l < m := by
    intro l
    induction l with
    | nil => exact fun f _ hf => hf
    | cons x l ih =>
      intro f hx hf
      unfold tgtFrom
      apply ih
      · exact fun y hy => hx y (List.mem_cons_of_mem _ hy)
      · split
        · exact hx x List.mem_cons_self
        · exact hf
  apply key
  · exact fun x hx => (h.rng x hx).2
  · have e : tl.getLastD (0, 0) = tl.getLast hl := by
      cases tl with
      | nil => exact absurd rfl hl
      | cons x l => exact List.getLastD_cons .. |>.trans (by rw [List.getLast_eq_getLastD])
    rw [e]
    exact (h.rng _ (List.getLast_mem hl)).2
theorem getLastD_eq {tl : List (Int × Int)} (h : tl ≠ []) : tl[tl.length - 1]? = some (tl.getLastD (0, 0)) := by
  cases tl with
  | nil => exact absurd rfl h
  | cons x l =>
    rw [← List.getLast?_eq_getElem?, List.getLastD_eq_getLast?]
    rw [List.getLast?_eq_some_getLast (List.cons_ne_nil x l)]
    rfl
theorem Paired.at {α β : Type} {F : α → β → Prop} : ∀ {l : List α} {r : List β}, Paired F l r → ∀ {i : Nat} {x : α}, l[i]? = some x → ∃ y, r[i]? = some y ∧ F x y
  | _, _, .nil, i, x, h => by simp at h
  | _, _, .cons h t, 0, x, e => by
    cases (Option.some.inj e)
    exact ⟨_, rfl, h⟩
  | _, _, .cons h t, i + 1, x, e => by
    obtain ⟨y, e1, e2⟩ := Paired.at t (i := i) (x := x) (by simpa using e)
    exact ⟨y, by simpa using e1, e2⟩
theorem PairsAt.get {H : Hp} {as : List Addr} {tl : List (Int × Int)} (h : PairsAt H as tl) {i : Nat} {v : V} (e : (as.map V.ref)[i]? = some v) :
    ∃ p bt, v = .ref p ∧ tl[i]? = some bt ∧ H p = some (.tup [.int bt.1, .int bt.2]) := by
  rw [List.getElem?_map] at e
  cases z : as[i]? with
  | none =>
    rw [z] at e
    cases e
  | some p =>
    rw [z] at e
    cases e
    obtain ⟨bt, e1, e2⟩ := Paired.at h z
    exact ⟨p, bt, rfl, e1, e2⟩
theorem atI_neg1 {α : Type} {xs : List α} {v : α} (h : xs[xs.length - 1]? = some v) : atI xs (-1) = some v := by
  have hp : 0 < xs.length := by
    have := (List.getElem?_eq_some_iff.mp h).1
    omega
  unfold atI ixN
  rw [if_neg (by decide), if_pos (by omega)]
  show xs[(-1 + (xs.length : Int)).toNat]? = some v
  have e : (-1 + (xs.length : Int)).toNat = xs.length - 1 := by omega
  rw [e]
  exact h
def spTarget_of : Sp := fun vs H Q _ => ∃ (m : V) (t : Addr) (tl : List (Int × Int)) (p : Int), vs = [m, .ref t, .int p] ∧ ToolAt H t tl ∧ tl ≠ [] ∧
  ∀ H', Same H H' → Q (.int (tgt tl p)) H'
def spLTarget : Sp := fun vs H Q _ => ∃ (m : Int) (t : Addr) (tl : List (Int × Int)) (p : Int), vs = [.int m, .ref t, .int p] ∧ ToolAt H t tl ∧ IsTool m tl ∧ 0 ≤ p ∧ p < m ∧
  ∀ H', Same H H' → Q (.int (tgt tl p)) H'
/-! ### the dict of a tool -/
def kvOf (bt : Int × Int) : Key × V := (.inl bt.1, .int bt.2)
theorem merge_cons (acc : List (Key × V)) (x : Key × V) (r : List (Key × V)) : mergeK acc (x :: r) = mergeK (putK acc x.1 x.2) r := rfl
theorem val_miss (p : Int) : ∀ (tl : List (Int × Int)) (acc : List (Key × V)), (∀ x ∈ tl, x.1 ≠ p) → valV (mergeK acc (tl.map kvOf)) (.inl p) = valV acc (.inl p)
  | [], acc, _ => rfl
  | x :: r, acc, h => by
    rw [List.map_cons, merge_cons, val_miss p r _ fun y hy => h y (List.mem_cons_of_mem _ hy), valV_put, if_neg]
    intro e
    exact h x List.mem_cons_self (Sum.inl.inj e).symm
theorem val_hit {p t : Int} : ∀ (tl : List (Int × Int)) (acc : List (Key × V)), tl.Pairwise (fun x y => x.1 < y.1) → (p, t) ∈ tl → valV (mergeK acc (tl.map kvOf)) (.inl p) = some (.int t)
  | x :: r, acc, asc, h => by
    have ac := List.pairwise_cons.mp asc
    rw [List.map_cons, merge_cons]
    rcases List.mem_cons.mp h with e | e
    · subst e
      rw [val_miss p r _ fun y hy => by have := ac.1 y hy; show y.1 ≠ p; omega, valV_put, if_pos (show (Sum.inl p : Key) = (kvOf (p, t)).1 from rfl)]
      rfl
    · exact val_hit r _ ac.2 e
theorem PairsAt.kvs {K : PySem.W.Frag} {H : Hp} : ∀ {as : List Addr} {tl : List (Int × Int)}, PairsAt H as tl → Paired (fun p kv => SqT K H p [kV kv.1, kv.2]) as (tl.map kvOf)
  | _, _, .nil => .nil
  | _, _, .cons h t => .cons (SqT.of h) (PairsAt.kvs t)
theorem back_lt {m p : Int} (h0 : 0 < p) (h1 : p < m) : (p - 1) % m = p - 1 := Int.emod_eq_of_lt (by omega) (by omega)
theorem back_zero {m : Int} (h : 1 ≤ m) : ((0 : Int) - 1) % m = m - 1 := by
  have e : (0 : Int) - 1 = (m - 1) + m * (-1) := by omega
  rw [e, Int.add_mul_emod_self_left]
  exact Int.emod_eq_of_lt (by omega) (by omega)
theorem tgt_back {m p : Int} {tl : List (Int × Int)} (h : IsTool m tl) (h0 : 0 ≤ p) (h1 : p < m) (nb : ∀ x ∈ tl, x.1 ≠ p) : tgt tl ((p - 1) % m) = tgt tl p := by
  have hl : tl ≠ [] := fun e => by
    have := h.len1
    rw [e, List.length_nil] at this
    omega
  by_cases hp : p = 0
  · subst hp
    rw [back_zero (by omega)]
    unfold tgt
    rw [tgtFrom_all _ tl _ hl fun x hx => by have := (h.rng x hx).1; omega, tgtFrom_none _ tl _ fun x hx => by
      have := (h.rng x hx).1
      have := nb x hx
      omega]
  · rw [back_lt (by omega) h1]
    unfold tgt
    exact tgtFrom_congr tl _ fun x hx => by
      have := nb x hx
      omega

/-! ### data that can be shown -/
structure Fine (d : PyData) (n e : Nat) : Prop where
  sh : d.showable = true
  nd : d.hasDict = false
  dp : d.depth ≤ e
  ln : d.shown.length ≤ n
theorem Fine.mono {d : PyData} {n n' e e' : Nat} (h : Fine d n e) (h1 : n ≤ n') (h2 : e ≤ e') : Fine d n' e' := ⟨h.sh, h.nd, Nat.le_trans h.dp h2, Nat.le_trans h.ln h1⟩
theorem fine_int {i : Int} (h : i.natAbs < 2 ^ 200) : Fine (.int i) 1921 0 := by
  have hl : i.natAbs.log2 < 1920 := by
    by_cases z : i.natAbs = 0
    · rw [z]
      decide
    · exact (Nat.log2_lt z).mpr (Nat.lt_trans h (Nat.pow_lt_pow_right (by decide) (by decide)))
  refine ⟨decide_eq_true hl, rfl, Nat.le_refl _, ?_⟩
  exact PyProof.Rows.int_text_len_1921 hl
theorem showableAll_of : ∀ {ds : List PyData}, (∀ d ∈ ds, d.showable = true) → PyData.showableAll ds = true
  | [], _ => rfl
  | d :: ds, h => by
    show (d.showable && PyData.showableAll ds) = true
    rw [h d List.mem_cons_self, showableAll_of fun x hx => h x (List.mem_cons_of_mem _ hx)]
    rfl
theorem hasDictAll_of : ∀ {ds : List PyData}, (∀ d ∈ ds, d.hasDict = false) → PyData.hasDictAll ds = false
  | [], _ => rfl
  | d :: ds, h => by
    show (d.hasDict || PyData.hasDictAll ds) = false
    rw [h d List.mem_cons_self, hasDictAll_of fun x hx => h x (List.mem_cons_of_mem _ hx)]
    rfl
theorem depthAll_of {e : Nat} : ∀ {ds : List PyData}, (∀ d ∈ ds, d.depth ≤ e) → PyData.depthAll ds ≤ e
  | [], _ => Nat.zero_le _
  | d :: ds, h => by
    show max d.depth (PyData.depthAll ds) ≤ e
    exact Nat.max_le.mpr ⟨h d List.mem_cons_self, depthAll_of fun x hx => h x (List.mem_cons_of_mem _ hx)⟩
theorem piled_of {n : Nat} : ∀ {ds : List PyData}, (∀ d ∈ ds, d.shown.length ≤ n) → piled (PyData.shownAll ds) ≤ ds.length * (n + 2)
  | [], _ => Nat.zero_le _
  | d :: ds, h => by
    show piled (d.shown :: PyData.shownAll ds) ≤ _
    rw [piled_cons, List.length_cons, Nat.add_mul, Nat.one_mul, Nat.add_comm]
    exact Nat.add_le_add (piled_of fun x hx => h x (List.mem_cons_of_mem _ hx)) (Nat.add_le_add_right (h d List.mem_cons_self) 2)
theorem listText_le : ∀ ts : List Str, (listText ts).length ≤ piled ts + 2
  | [] => by decide +kernel
  | t :: r => by
    have e : listText (t :: r) = textFrom 1 (("[" : Str) ++ ((if 0 > 0 then ", " else "" : String) : Str) ++ t) r ++ ("]" : Str) := rfl
    rw [e, strLen_append, textFrom_length_pos _ _ _ (by decide), strLen_append, strLen_append, piled_cons]
    have e1 : ("[" : Str).length = 1 := rfl
    have e2 : (((if 0 > 0 then ", " else "" : String)) : Str).length = 0 := rfl
    have e3 : ("]" : Str).length = 1 := rfl
    omega
theorem tupleText_le : ∀ ts : List Str, (tupleText ts).length ≤ piled ts + 3
  | [] => by decide +kernel
  | t :: r => by
    have j := join_length_add (t :: r) (List.cons_ne_nil _ _)
    have e : tupleText (t :: r) = ("(" : Str) ++ Str.join ", " (t :: r) ++ ((if (t :: r).length == 1 then ",)" else ")" : String) : Str) := rfl
    rw [e, strLen_append, strLen_append]
    have e1 : ("(" : Str).length = 1 := rfl
    have e2 : (((if (t :: r).length == 1 then ",)" else ")" : String)) : Str).length ≤ 2 := by
      split
      · exact Nat.le_refl _
      · exact Nat.le_succ _
    omega
theorem fine_list {ds : List PyData} {n e : Nat} (h : ∀ d ∈ ds, Fine d n e) : Fine (.list ds) (ds.length * (n + 2) + 2) (e + 1) := by
  refine ⟨showableAll_of fun d hd => (h d hd).sh, hasDictAll_of fun d hd => (h d hd).nd, Nat.succ_le_succ (depthAll_of fun d hd => (h d hd).dp), ?_⟩
  exact Nat.le_trans (listText_le _) (Nat.add_le_add_right (piled_of fun d hd => (h d hd).ln) 2)
theorem fine_tuple {ds : List PyData} {n e : Nat} (h : ∀ d ∈ ds, Fine d n e) : Fine (.tuple ds) (ds.length * (n + 2) + 3) (e + 1) := by
  refine ⟨showableAll_of fun d hd => (h d hd).sh, hasDictAll_of fun d hd => (h d hd).nd, Nat.succ_le_succ (depthAll_of fun d hd => (h d hd).dp), ?_⟩
  exact Nat.le_trans (tupleText_le _) (Nat.add_le_add_right (piled_of fun d hd => (h d hd).ln) 3)
/-- data that repr takes -/
def Shows (d : PyData) : Prop := Fine d 16000000 60
theorem Fine.shows {d : PyData} {n e : Nat} (h : Fine d n e) (h1 : n ≤ 16000000 := by decide) (h2 : e ≤ 60 := by decide) : Shows d := h.mono h1 h2
theorem Shows.le {d : PyData} (h : Shows d) : d.shown.length ≤ sizeLine := Nat.le_trans h.ln (by decide)
def intsD (ns : List Int) : PyData := .list (ns.map PyData.int)
theorem dp_ints {K : PySem.W.Frag} {H : Hp} : ∀ ns : List Int, DpAll K H (ns.map V.int) (ns.map PyData.int)
  | [] => .nil
  | n :: r => .cons (.int n) (dp_ints r)
theorem small_int {i : Int} (h : i.natAbs < 10 ^ 40) : i.natAbs < 2 ^ 200 := Nat.lt_of_lt_of_le h (by decide)
theorem ints_shows {ns : List Int} (hl : ns.length ≤ 2000) (h : ∀ n ∈ ns, n.natAbs < 2 ^ 200) : Shows (intsD ns) := by
  have f : Fine (intsD ns) ((ns.map PyData.int).length * (1921 + 2) + 2) (0 + 1) := fine_list fun d hd => by
    rw [List.mem_map] at hd
    obtain ⟨n, hn, e⟩ := hd
    subst e
    exact fine_int (h n hn)
  rw [List.length_map] at f
  exact f.mono (by omega) (by decide)
def pairD (p : Int × Int) : PyData := .tuple [.int p.1, .int p.2]
def toolD (tl : List (Int × Int)) : PyData := .tuple (tl.map pairD)
theorem dp_pairs {K : PySem.W.Frag} {H : Hp} : ∀ {as : List Addr} {tl : List (Int × Int)}, PairsAt H as tl → DpAll K H (as.map V.ref) (tl.map pairD)
  | _, _, .nil => .nil
  | _, _, .cons h t => .cons (.tup (SqT.of h) (.cons (.int _) (.cons (.int _) .nil))) (dp_pairs t)
theorem ToolAt.dp {K : PySem.W.Frag} {H : Hp} {a : Addr} {tl : List (Int × Int)} (h : ToolAt H a tl) : Dp K H (.ref a) (toolD tl) := by
  obtain ⟨o, as, h1, h2, h3⟩ := h
  exact .tup (.inl (.inr ⟨o, h1⟩)) (dp_pairs h3)
theorem tool_fine {m : Int} {tl : List (Int × Int)} (h : IsTool m tl) (hm : m ≤ 60) : Fine (toolD tl) 50000 2 := by
  have hp : ∀ d ∈ tl.map pairD, Fine d (2 * (1921 + 2) + 3) (0 + 1) := by
    intro d hd
    rw [List.mem_map] at hd
    obtain ⟨p, hp, e⟩ := hd
    subst e
    have r := h.rng p hp
    refine fine_tuple (ds := [.int p.1, .int p.2]) fun d hd => ?_
    rcases List.mem_cons.mp hd with z | z
    · rw [z]
      exact fine_int (small_int (by omega))
    · rw [List.mem_singleton.mp z]
      exact fine_int (small_int (by omega))
  have f := fine_tuple hp
  rw [List.length_map] at f
  refine f.mono ?_ (by decide)
  have := h.len2
  omega
/-- two things that are shown alike -/
def spSame (K : PySem.W.Frag) : Sp := fun vs H Q _ => ∃ (x y : Addr) (d : PyData), vs = [.ref x, .ref y] ∧ Dp K H (.ref x) d ∧ Dp K H (.ref y) d ∧ Shows d ∧ Q (.bl true) H
theorem pick3 {K : PySem.W.Frag} {t : Int} (h : 0 ≤ t) (x y z : Int) : ∃ v, atI [V.int x, V.int y, V.int z] (t % 3) = some (.int v) ∧ (v = x ∨ v = y ∨ v = z) := by
  have h1 : t % 3 = 0 ∨ t % 3 = 1 ∨ t % 3 = 2 := by omega
  rcases h1 with e | e | e
  · exact ⟨x, by rw [e]; rfl, .inl rfl⟩
  · exact ⟨y, by rw [e]; rfl, .inr (.inl rfl)⟩
  · exact ⟨z, by rw [e]; rfl, .inr (.inr rfl)⟩
theorem range_upto {β : Type} (f : Int → β) (m : Int) : (List.range m.toNat).map (fun i => f (0 + (i : Nat))) = (upto m).map f := by
  unfold upto
  rw [List.map_map]
  apply List.map_congr_left
  intro i _
  show f (0 + (i : Nat)) = f ((i : Nat) : Int)
  rw [Int.zero_add]
theorem range_ints (f : Int → Int) (m : Int) : (List.range m.toNat).map (fun i => V.int (f (0 + (i : Nat)))) = ((upto m).map f).map V.int := by
  rw [range_upto (fun z => V.int (f z)), List.map_map]
  rfl
theorem mod_of_eq {m x y q : Int} (h : x = y + m * q) : x % m = y % m := by
  rw [h, Int.add_mul_emod_self_left]
theorem mod_split (x m : Int) : x % m = x + m * (-(x / m)) := by
  have h := Int.mul_ediv_add_emod x m
  rw [Int.mul_neg]
  omega
theorem add_mod' (a b m : Int) : (a + b % m) % m = (a + b) % m := by
  apply mod_of_eq (q := -(b / m))
  rw [mod_split b m]
  omega
theorem mod_add' (a b m : Int) : (a % m + b) % m = (a + b) % m := by
  rw [Int.add_comm, add_mod', Int.add_comm]
theorem mod_sub' (a b m : Int) : (a % m - b) % m = (a - b) % m := by
  apply mod_of_eq (q := -(a / m))
  rw [mod_split a m]
  omega
theorem sub_mod' (a b m : Int) : (a - b % m) % m = (a - b) % m := by
  apply mod_of_eq (q := (b / m))
  rw [mod_split b m, Int.mul_neg]
  omega
theorem mem_arc' {m b l x : Int} (hm : 0 < m) (hl : l ≤ m) (hx0 : 0 ≤ x) (hx : x < m) : (x - b) % m < l ↔ ∃ k : Nat, (k : Int) < l ∧ x = (b + k) % m := by
  constructor
  · intro h
    have h0 := Int.emod_nonneg (x - b) (show m ≠ 0 by omega)
    refine ⟨((x - b) % m).toNat, by omega, ?_⟩
    have e : (((x - b) % m).toNat : Int) = (x - b) % m := by omega
    rw [e, add_mod', show b + (x - b) = x by omega, Int.emod_eq_of_lt hx0 hx]
  · intro ⟨k, hk, e⟩
    rw [e, mod_sub', show b + (k : Int) - b = k by omega, Int.emod_eq_of_lt (by omega) (by omega)]
    exact hk

/-! ### data stays -/
section
variable {K : PySem.W.Frag} {H H' : Hp}
mutual
theorem dp_same (s : Same H H') : ∀ (d : PyData) (v : V), Dp K H v d → Dp K H' v d
  | .none, _, h => by
    cases h
    exact .non
  | .bool b, _, h => by
    cases h
    exact .bl b
  | .int i, _, h => by
    cases h
    exact .int i
  | .str x, _, h => by
    cases h
    exact .str x
  | .list ds, _, h => by
    cases h with
    | lst hs ha => exact .lst (s.seq hs) (dpAll_same s ds _ ha)
  | .tuple ds, _, h => by
    cases h with
    | tup hs ha => exact .tup (same_tup s hs) (dpAll_same s ds _ ha)
  | .dict _, _, h => by cases h
theorem dpAll_same (s : Same H H') : ∀ (ds : List PyData) (vs : List V), DpAll K H vs ds → DpAll K H' vs ds
  | [], _, h => by
    cases h
    exact .nil
  | d :: ds, _, h => by
    cases h with
    | cons h1 h2 => exact .cons (dp_same s d _ h1) (dpAll_same s ds _ h2)
end
end
theorem dpAll_snoc {K : PySem.W.Frag} {H : Hp} {v : V} {d : PyData} (h : Dp K H v d) : ∀ {vs : List V} {ds : List PyData}, DpAll K H vs ds → DpAll K H (vs ++ [v]) (ds ++ [d])
  | _, _, .nil => .cons h .nil
  | _, _, .cons a b => .cons a (dpAll_snoc h b)
theorem dpAll_len {K : PySem.W.Frag} {H : Hp} : ∀ {vs : List V} {ds : List PyData}, DpAll K H vs ds → vs.length = ds.length
  | _, _, .nil => rfl
  | _, _, .cons _ b => congrArg Nat.succ (dpAll_len b)
/-! data without lists stays where what is no list stays -/
mutual
def noList : PyData → Bool
  | .none => true
  | .bool _ => true
  | .int _ => true
  | .str _ => true
  | .list _ => false
  | .tuple ds => noLists ds
  | .dict _ => false
def noLists : List PyData → Bool
  | [] => true
  | d :: ds => noList d && noLists ds
end
theorem stay_tup {K : PySem.W.Frag} {H H' : Hp} {a : Addr} {xs : List V} (e : Stay H H') (h : SqT K H a xs) : SqT K H' a xs := by
  rcases h with (h | ⟨o, h⟩) | h
  · exact .inl (.inl (e _ _ (by intro ys z; cases z) h))
  · exact .inl (.inr ⟨o, e _ _ (by intro ys z; cases z) h⟩)
  · exact .inr h
section
variable {K : PySem.W.Frag} {H H' : Hp}
mutual
theorem dp_stay (s : Stay H H') : ∀ (d : PyData) (v : V), noList d = true → Dp K H v d → Dp K H' v d
  | .none, _, _, h => by
    cases h
    exact .non
  | .bool b, _, _, h => by
    cases h
    exact .bl b
  | .int i, _, _, h => by
    cases h
    exact .int i
  | .str x, _, _, h => by
    cases h
    exact .str x
  | .list ds, _, z, h => by cases z
  | .tuple ds, _, z, h => by
    cases h with
    | tup hs ha => exact .tup (stay_tup s hs) (dpAll_stay s ds _ z ha)
  | .dict _, _, _, h => by cases h
theorem dpAll_stay (s : Stay H H') : ∀ (ds : List PyData) (vs : List V), noLists ds = true → DpAll K H vs ds → DpAll K H' vs ds
  | [], _, _, h => by
    cases h
    exact .nil
  | d :: ds, _, z, h => by
    have z : (noList d && noLists ds) = true := z
    rw [Bool.and_eq_true] at z
    cases h with
    | cons h1 h2 => exact .cons (dp_stay s d _ z.1 h1) (dpAll_stay s ds _ z.2 h2)
end
end
theorem noLists_of : ∀ {ds : List PyData}, (∀ d ∈ ds, noList d = true) → noLists ds = true
  | [], _ => rfl
  | d :: ds, h => by
    show (noList d && noLists ds) = true
    rw [h d List.mem_cons_self, noLists_of fun x hx => h x (List.mem_cons_of_mem _ hx)]
    rfl
theorem stay_list {H : Hp} {D : Addr} {us ws : List V} (h : H D = some (.lst us)) : Stay H (upd H D (.lst ws)) := by
  intro b o n e
  have : b ≠ D := by
    intro z
    subst z
    rw [h] at e
    exact n _ (Option.some.inj e).symm
  rw [upd_ne this]
  exact e
/-- a comprehension over a range whose elements are new data -/
theorem lcRD {K : PySem.W.Frag} {j : Nat} {te : TE} {vs : List Nat} {σ : L2.St} {H1 : Hp} {D : Addr} {Qd : Hp → Prop} {lo : Int} {n : Nat} (d : Nat → PyData) (hn : n ≤ 100000) (nD : H1 D = none)
    (nl : ∀ i, noList (d i) = true) (hw : ∀ v, wipe ((wipe σ vs).set j (some v)) vs = wipe σ vs)
    (he : ∀ (i : Nat) (H : Hp) (Q : VK), i < n → Same H1 H → (∀ v H', Same H H' → Dp K H' v (d i) → Q v H') → te ((wipe σ vs).set j (some (.int (lo + i)))) H Q)
    (hd : ∀ us H', Same H1 H' → H' D = some (.lst us) → DpAll K H' us ((List.range n).map d) → Qd H') :
    ∃ W : Nat → Nat → Hp → Prop, (∃ m, W 0 m (upd H1 D (.lst []))) ∧ ∀ i m H, W i m H → ((Itr lo n).stop i H ∧ Qd H) ∨ ((Itr lo n).go i H ∧
      ∃ Nx : Hp → Prop, (∀ H', Nx H' → ∃ m', m' < m ∧ W (i + 1) m' H') ∧ ∀ x H', (Itr lo n).yld i H x H' → gName j x (wipe σ vs) H' fun σ2 H2 =>
        wipe σ2 vs = wipe σ vs ∧ tYes σ2 H2 fun b H3 => if b = true then te σ2 H3 fun y H4 => ∃ acc, H4 D = some (.lst acc) ∧ acc.length < sizeLine ∧ Nx (upd H4 D (.lst (acc ++ [y]))) else Nx H3) := by
  refine lc_range (fun i H => ∃ us, Same H1 H ∧ H D = some (.lst us) ∧ DpAll K H us ((List.range i).map d)) ?_ ?_ ?_
  · exact ⟨[], same_upd nD, upd_same, .nil⟩
  · intro i H hi h
    obtain ⟨us, hs, hD, ha⟩ := h
    refine ⟨hw _, he i H _ hi hs fun v H' s' hv => ⟨us, s' _ _ hD, ?_, us ++ [v], ?_, upd_same, ?_⟩⟩
    · have := dpAll_len ha
      rw [List.length_map, List.length_range] at this
      rw [this]
      exact Nat.lt_trans hi (Nat.lt_of_le_of_lt hn (by decide))
    · intro x o e
      rw [upd_ne (ne_of_none e nD)]
      exact s' _ _ (hs _ _ e)
    · rw [List.range_succ, List.map_append]
      have st := stay_list (ws := us ++ [v]) (s' _ _ hD)
      refine dpAll_snoc (dp_stay st _ _ (nl i) hv) (dpAll_stay st _ _ (noLists_of fun z hz => ?_) (dpAll_same s' _ _ ha))
      rw [List.mem_map] at hz
      obtain ⟨q, _, e⟩ := hz
      rw [← e]
      exact nl q
  · intro H h
    obtain ⟨us, hs, hD, ha⟩ := h
    exact hd us H hs hD ha
def tupD (ns : List Int) : PyData := .tuple (ns.map PyData.int)
theorem tupD_fine {ns : List Int} (hl : ns.length ≤ 2000) (h : ∀ n ∈ ns, n.natAbs < 2 ^ 200) : Fine (tupD ns) 3900000 1 := by
  have f : Fine (tupD ns) ((ns.map PyData.int).length * (1921 + 2) + 3) (0 + 1) := fine_tuple fun d hd => by
    rw [List.mem_map] at hd
    obtain ⟨n, hn, e⟩ := hd
    subst e
    exact fine_int (h n hn)
  rw [List.length_map] at f
  exact f.mono (by omega) (by decide)
theorem noList_tupD (ns : List Int) : noList (tupD ns) = true := noLists_of fun d hd => by
  rw [List.mem_map] at hd
  obtain ⟨n, _, e⟩ := hd
  rw [← e]
  rfl
theorem noList_toolD (tl : List (Int × Int)) : noList (toolD tl) = true := noLists_of fun d hd => by
  rw [List.mem_map] at hd
  obtain ⟨n, _, e⟩ := hd
  rw [← e]
  rfl
theorem two_shows {d : PyData} {n e : Nat} (h : Fine d n e) (hn : n ≤ 7000000) (he : e ≤ 50) : Shows (.list [d, d]) := by
  have f : Fine (.list [d, d]) (2 * (n + 2) + 2) (e + 1) := fine_list (ds := [d, d]) fun x hx => by
    rcases List.mem_cons.mp hx with z | z
    · rw [z]
      exact h
    · rw [List.mem_singleton.mp z]
      exact h
  exact f.mono (by omega) (by omega)

/-! ### arcs -/
def inArc (m b l p : Int) : Bool := decide ((p - b) % m < l)
def spArc : Sp := fun vs H Q _ => ∃ (m b l p : Int), vs = [.int m, .int b, .int l, .int p] ∧ 0 < m ∧ Q (.bl (inArc m b l p)) H
def brought (m : Int) (tl : List (Int × Int)) (b l : Int) : List Int := (upto m).filter fun x => inArc m b l (tgt tl x)
def spBrought : Sp := fun vs H Q _ => ∃ (m b l : Int) (t : Addr) (tl : List (Int × Int)), vs = [.int m, .ref t, .int b, .int l] ∧ ToolAt H t tl ∧ tl ≠ [] ∧ 1 ≤ m ∧ m ≤ 60 ∧
  ∀ (p : Addr) (H' : Hp), Same H H' → H p = none → H' p = some (.tup ((brought m tl b l).map V.int)) → Q (.ref p) H'
theorem range_filter (f : Int → Bool) (m : Int) : ((List.range m.toNat).filter fun i => f (0 + (i : Nat))).map (fun i => V.int (0 + (i : Nat))) = ((upto m).filter f).map V.int := by
  unfold upto
  rw [List.filter_map, List.map_map]
  have e : (List.range m.toNat).filter (fun i => f (0 + (i : Nat))) = (List.range m.toNat).filter (f ∘ fun i => ((i : Nat) : Int)) := by
    apply List.filter_congr
    intro i _
    show f (0 + (i : Nat)) = f ((i : Nat) : Int)
    rw [Int.zero_add]
  rw [e]
  apply List.map_congr_left
  intro i _
  show V.int (0 + (i : Nat)) = V.int ((i : Nat) : Int)
  rw [Int.zero_add]

theorem inV_ints (x : Int) : ∀ ns : List Int, inV (.int x) (ns.map V.int) = true ↔ x ∈ ns
  | [] => ⟨fun h => (by cases h), fun h => (List.not_mem_nil h).elim⟩
  | n :: r => by
    have ih := inV_ints x r
    have e : inV (.int x) ((n :: r).map V.int) = ((n == x) || inV (.int x) (r.map V.int)) := rfl
    rw [e, Bool.or_eq_true, ih, List.mem_cons, beq_iff_eq]
    constructor
    · rintro (h | h)
      · exact .inl h.symm
      · exact .inr h
    · rintro (h | h)
      · exact .inl h.symm
      · exact .inr h
theorem flat_ints : ∀ ns : List Int, (ns.map V.int).all flatV = true
  | [] => rfl
  | n :: r => flat_ints r
def arcOf (m b l : Int) : List Int := (List.range l.toNat).map fun k => (b + (0 + (k : Nat))) % m
theorem arcOf_V (m b l : Int) : (List.range l.toNat).map (fun k => V.int ((b + (0 + (k : Nat))) % m)) = (arcOf m b l).map V.int := by
  unfold arcOf
  rw [List.map_map]
  rfl
theorem mem_arcOf {m b l x : Int} : x ∈ arcOf m b l ↔ ∃ k : Nat, (k : Int) < l ∧ x = (b + k) % m := by
  unfold arcOf
  rw [List.mem_map]
  constructor
  · intro ⟨k, hk, e⟩
    rw [List.mem_range] at hk
    exact ⟨k, by omega, by rw [← e, Int.zero_add]⟩
  · intro ⟨k, hk, e⟩
    exact ⟨k, by rw [List.mem_range]; omega, by rw [e, Int.zero_add]⟩
theorem in_arcOf {m b l x : Int} (hm : 0 < m) (hl : l ≤ m) (hx0 : 0 ≤ x) (hx : x < m) : inV (.int x) ((arcOf m b l).map V.int) = inArc m b l x := by
  have h1 := inV_ints x (arcOf m b l)
  rw [mem_arcOf, ← mem_arc' hm hl hx0 hx] at h1
  unfold inArc
  by_cases h : (x - b) % m < l
  · rw [decide_eq_true h, h1.mpr h]
  · rw [decide_eq_false h]
    cases e : inV (.int x) ((arcOf m b l).map V.int) with
    | false => rfl
    | true => exact absurd (h1.mp e) h
theorem brought_len (m : Int) (tl : List (Int × Int)) (b l : Int) : (brought m tl b l).length ≤ m.toNat := by
  unfold brought
  exact Nat.le_trans (List.length_filter_le _ _) (by rw [upto_len]; exact Nat.le_refl _)
theorem brought_mem {m : Int} {tl : List (Int × Int)} {b l x : Int} (h : x ∈ brought m tl b l) : 0 ≤ x ∧ x < m := by
  unfold brought at h
  exact upto_mem.mp (List.mem_filter.mp h).1
/-! ### sets of numbers by a comprehension -/
section
variable {X : Cx}
/-- what a set comprehension of numbers asks: D the new set -/
def tScI (w : World) (wi : TI) (g : TG) (tt : TT) (te : TE) (vs : List Nat) : TE := fun σ H Q =>
  wi σ H fun J H1 => ∀ D, H1 D = none →
    ∃ W : Nat → Nat → Hp → Prop, (∃ m, W 0 m (upd H1 D (SetO w D (fun _ => false) 0))) ∧
      ∀ i m H, W i m H → (J.stop i H ∧ Q (.ref D) H) ∨ (J.go i H ∧ ∃ Nx : Hp → Prop,
        (∀ H', Nx H' → ∃ m', m' < m ∧ W (i + 1) m' H') ∧
        ∀ x H', J.yld i H x H' → g x (wipe σ vs) H' fun σ2 H2 => wipe σ2 vs = wipe σ vs ∧
          tt σ2 H2 fun b H3 => if b = true then te σ2 H3 fun y H4 => ∃ (c : Int) (S : Int → Bool) (n : Nat),
            y = .int c ∧ H4 D = some (SetO w D S n) ∧ n + 1 < scanBound ∧
            Nx (upd H4 D (SetO w D (fun j => S j || decide (j = c)) (if S c = true then n else n + 1))) else Nx H3)
theorem pe_scI {elt tg iter : Expr} {ifs : List Expr} {scope : Scope} {own : List (Str × Nat)} {pos : Pos}
    {wi : TI} {g : TG} {tt : TT} {te : TE} (calm : X.calm = true) (nodup : X.N.Nodup) (walked : PI X tg iter wi)
    (blk : BlkOk X.N X.env.scope scope own)
    (gOk : ∀ (s : Shared) (H : Hp) (C : Addr) (cl : List (Str × Addr)) (fp : List Addr),
      PG (X.blk s H scope (compEnvC scope cl C X.env) fp) tg g)
    (tOk : ∀ (s : Shared) (H : Hp) (C : Addr) (cl : List (Str × Addr)) (fp : List Addr),
      PTs (X.blk s H scope (compEnvC scope cl C X.env) fp) ifs tt)
    (eOk : ∀ (s : Shared) (H : Hp) (C : Addr) (cl : List (Str × Addr)) (fp : List Addr),
      PE (X.blk s H scope (compEnvC scope cl C X.env) fp) elt te)
    (folded : ∀ x, foldedSetIterable iter X.env x = pure x := by intro _; rfl) :
    PE X (.SetComp elt [⟨tg, iter, ifs, 0⟩] scope pos) (tScI X.w wi g tt te (own.map (·.2))) := by
  constructor
  intro pins s σ H Q inv ask
  rw [PpSet.eval_SetComp]
  have caught : ∀ y ∈ scope.names, y.2 = .free → ∃ c, X.env.cells.lookup y.1 = some c := by
    intro y hy e
    cases blk.free y hy e with
    | inl k => exact inv.ok.has _ (.inl k)
    | inr k => exact inv.ok.has _ (.inr k)
  apply wpAny_comprehension_free (use := none) rfl folded (closure_ok caught) blk.kind
    (fun y hy e => by rw [blk.uniq y hy, e])
  refine thn (walked.run pins s σ H _ inv ask) fun xv sa ha => thn ha fun itv sb hb => ?_
  obtain ⟨it, fp, tn, J, Hb, e, invB, T, stB, fB, q⟩ := hb
  subst e
  apply PpSet.newSet_ok
  apply newEnv_comp
  generalize eD : sb.heap.objs.size = D
  have freeD : Hb D = none := invB.hok.fresh (Nat.le_of_eq eD)
  obtain ⟨W, ⟨m0, w0⟩, turn⟩ := q D freeD
  -- the set is laid
  generalize eC : ({ sb with heap := sb.heap.push { cls := .type "set", dict := none, data := .set #[] 0 (.fresh 0 0 (!X.w.params.followText "set-order")) } } : Shared) = sc
  have heapC : sc.heap = sb.heap.push { cls := .type "set", dict := none, data := .set #[] 0 (.fresh 0 0 (!X.w.params.followText "set-order")) } := by rw [← eC]
  have invC : L2.Inv X pins σ (upd Hb D (SetO X.w D (fun _ => false) 0)) sc := by
    rw [← eC]
    apply invB.laid (t' := sb.toks) (fun b o e => Heap.get?_push_of_some _ e) (Nat.le_of_eq eD)
    rw [← eD]
    exact setO_new (setR_fresh X.w)
  have below : ∀ b ∈ fp, b < sb.heap.objs.size := by
    intro b hb
    obtain ⟨o, e, _⟩ := T.obj _ _ stB b hb
    exact Heap.lt_size e
  have fC : ∀ b ∈ fp, FpOk X pins (upd Hb D (SetO X.w D (fun _ => false) 0)) b ∧ b < sc.heap.objs.size := by
    intro b hb
    have lt := below b hb
    constructor
    · refine ⟨?_, (fB b hb).2⟩
      rw [upd_ne (by rw [← eD]; exact Nat.ne_of_lt lt)]
      exact (fB b hb).1
    · rw [heapC, Heap.size_push]
      exact Nat.lt_succ_of_lt lt
  have stC : tn 0 sc.heap := by
    refine T.keep _ _ _ stB fun b _ o e => ?_
    rw [heapC]
    exact Heap.get?_push_of_some _ e
  have invD := block_start invC blk nodup fC
  have freeF : ∀ b ∈ fp, (upd Hb D (SetO X.w D (fun _ => false) 0)) b = none := fun b hb => (fC b hb).1.1
  generalize eH : upd Hb D (SetO X.w D (fun _ => false) 0) = Hc at invC invD w0 freeF fC
  generalize eCl : cellsFrom (sc.heap.objs.size + 1) scope.names (cloFrom X.env.cells scope.names []) = cl at invD
  have gR := gOk sc Hc sc.heap.objs.size cl fp
  have tR := tOk sc Hc sc.heap.objs.size cl fp
  have eR := eOk sc Hc sc.heap.objs.size cl fp
  show codeAny _ _ (.compStart (.SetComp elt [⟨tg, iter, ifs, 0⟩] scope pos) 0 (.ref it) (.ref D)
    (compEnvC scope cl sc.heap.objs.size X.env))
    (compPost (model X.prog X.w) X.A X.xe none (EP X pins σ Q) (.ref D) sc.heap.objs.size)
    { sc with heap := pushCells (sc.heap.push { cls := .type "dict", data := .dict #[] }) scope.names }
  generalize eE : compEnvC scope cl sc.heap.objs.size X.env = ce at invD gR tR eR
  have locE : ce.locals = sc.heap.objs.size := by rw [← eE]; rfl
  generalize eF : ({ sc with heap := pushCells (sc.heap.push { cls := .type "dict", data := .dict #[] }) scope.names } : Shared) = sd at invD
  have stD : tn 0 sd.heap := by
    refine T.keep _ _ _ stC fun b _ o e => ?_
    rw [← eF]
    exact pushCells_keeps _ _ _ _ (Heap.get?_push_of_some _ e)
  have still : ∀ {σ' : L2.St} {H' : Hp} {s' : Shared}, L2.Inv (X.blk sc Hc scope ce fp) [] σ' H' s' → (∀ b ∈ fp, H' b = none) →
      ∀ b ∈ fp, FpOk (X.blk sc Hc scope ce fp) [] H' b := by
    intro σ' H' s' I' hn b hb
    refine ⟨hn b hb, (I'.ok.exf b hb).1, I'.ok.exfs b hb, .inl hb, fun x c e => (I'.ok.exf b hb).2 x c e, fun p hp => ?_⟩
    exact absurd (show p ∈ ([] : List (Addr × Obj)) ++ [] from hp) (by simp)
  have loop : codeAny (model X.prog X.w) X.A (.compLoop (.SetComp elt [⟨tg, iter, ifs, 0⟩] scope pos) 0 (.ref it) (.ref D) ce)
      (compPost (model X.prog X.w) X.A X.xe none (EP X pins σ Q) (.ref D) sc.heap.objs.size) sd := by
    refine PpSet.compLoopS_any (fun n s' => ∃ i H', L2.Inv (X.blk sc Hc scope ce fp) [] (wipe σ (own.map (·.2))) H' s' ∧
      tn i s'.heap ∧ (∀ b ∈ fp, H' b = none) ∧ W i n H') ?_ m0 ⟨0, Hc, invD, stD, freeF, w0⟩
    intro n s5 h5
    obtain ⟨i, H5, I5, st5, n5, w5⟩ := h5
    cases turn i n H5 w5 with
    | inl hstop =>
      obtain ⟨stop, done⟩ := hstop
      refine thnF (T.done (X.blk sc Hc scope ce fp) rfl rfl rfl calm i [] s5 _ H5 (fun _ _ => False) I5 (still I5 n5) st5 stop) fun r s6 ⟨er, I6⟩ => ?_
      subst er
      have I7 : L2.Inv X pins σ H5 s6 := by
        refine invC.call' (ch := fp) I6.os I6.base I6.hok I6.bare fun b hb => ?_
        have z := (fC b hb).1.2
        exact ⟨z.2.2.1, z.1, z.2.2.2.1, z.2.2.2.2⟩
      have freeL : H5 sc.heap.objs.size = none := by
        have z := I6.free
        rw [show (X.blk sc Hc scope ce fp).env.locals = sc.heap.objs.size from locE] at z
        exact z
      obtain ⟨mm, hn, _⟩ := I6.loc
      rw [show (X.blk sc Hc scope ce fp).env.locals = sc.heap.objs.size from locE] at hn
      obtain ⟨f0, f1, f2, f3, f4, f5⟩ := invC.fpOk (Nat.le_refl _) freeL
      refine ⟨mm, hn, fun h'' sbut => ?_⟩
      exact ⟨.ref D, H5, I7.turned (t' := s6.toks) (fun b o hb e => (sbut.2 b hb).trans e) f0 f1 f3 f4 f5, rfl, done⟩
    | inr hgo =>
      obtain ⟨go, Nx, hNx, step⟩ := hgo
      refine thnF (T.item (X.blk sc Hc scope ce fp) rfl rfl rfl calm i [] s5 _ H5 (fun _ _ => False) I5 (still I5 n5) st5 go) fun r s6 ⟨u, er, h6⟩ => ?_
      subst er
      refine thnF h6 fun _ s7 ⟨x, H7, I7, r7, y7, st7, n7⟩ => ?_
      refine thnF (gR.run _ s7 _ H7 x u _ (I7.pinned (still I7 n7) (T.obj _ _ st7)) r7 (step x H7 y7)) fun _ s8 ⟨σ8, H8, I8, hw8, q8⟩ => ?_
      refine thnF (tR.run _ s8 σ8 H8 _ I8 q8) fun b s9 ⟨H9, I9, q9⟩ => ?_
      have onward : ∀ {s' : Shared} {H' : Hp}, L2.Inv (X.blk sc Hc scope ce fp) ([] ++ pinsAt fp s7.heap) σ8 H' s' → Nx H' →
          ∃ m, m < n ∧ ∃ i H', L2.Inv (X.blk sc Hc scope ce fp) [] (wipe σ (own.map (·.2))) H' s' ∧ tn i s'.heap ∧
            (∀ b ∈ fp, H' b = none) ∧ W i m H' := by
        intro s' H' I' nx
        obtain ⟨m', hm, w'⟩ := hNx H' nx
        have pin' : ∀ b ∈ fp, ∀ o, s7.heap.get? b = some o → s'.heap.get? b = some o ∧ H' b = none := by
          intro b hb o e
          have z := I'.pin (b, o) (List.mem_append_right _ (List.mem_append_right _ (mem_pinsAt hb e)))
          exact ⟨z.1, z.2.1⟩
        have hlen : (wipe σ (own.map (·.2))).length = σ8.length := by rw [← hw8, wipe_length]
        refine ⟨m', hm, i + 1, H', (I'.unpinned (pins := [])).weak hlen (fun j v e => ?_), ?_, fun b hb => ?_, w'⟩
        · rw [← hw8] at e
          exact (wipe_some e).1
        · exact T.keep _ _ _ st7 fun b hb o e => (pin' b hb o e).1
        · obtain ⟨o, e, _⟩ := T.obj _ _ st7 b hb
          exact (pin' b hb o e).2
      cases b with
      | false =>
        rw [if_neg Bool.false_ne_true] at q9 ⊢
        exact onward I9 q9
      | true =>
        rw [if_pos rfl] at q9 ⊢
        refine thnF (eR.run _ s9 σ8 H9 _ I9 q9) fun z s10 ⟨yv, H10, I10, r10, c, S0, n0, ey, hD10, room, nx⟩ => ?_
        subst ey
        have add := mt_sadd (X := X.blk sc Hc scope ce fp) _ s10 σ8 H10 (.ref D) [.int c] (.ref D) [z] (fun _ H' => Nx H') I10 rfl (.cons r10 .nil)
          ⟨D, c, S0, n0, rfl, rfl, hD10, room, nx⟩
        exact thnF add fun _ s11 ⟨_, H11, I11, _, nx11⟩ => onward I11 nx11
  exact PpSet.codeAny_compStart_set loop (T.self X.A 0 _ _ _ stD loop)
end
/-! ### set(xs) of a list of numbers -/
abbrev bareSet (w : World) : Obj := { cls := .type "set", dict := none, data := .set #[] 0 (.fresh 0 0 (!w.params.followText "set-order")) }
section
variable {P : Program} {w : World} {A : Around} {E : Value → Shared → Prop} {s : Shared}
theorem set_of_list {l : Addr} {its : Array Value} (ns : List Int) {Q : Value → Shared → Prop} (calmA : A.handled = none)
    (atL : s.heap.IsList l its) (isI : IntsAre its.toList ns) (room : ns.length + 1 < scanBound)
    (done : ∀ (h' : Heap) (tk c : Nat), SetR w h' s.heap.objs.size (fun j => decide (j ∈ ns)) c → c ≤ ns.length →
      (∀ b o, s.heap.get? b = some o → h'.get? b = some o) → Q (.ref s.heap.objs.size) { s with heap := h', toks := tk }) :
    wpAny (model P w) A (call (.type "set") [.ref l]) Q E s := by
  have sz : its.size = ns.length := by
    have z := IntsAre.length isI
    rw [Array.length_toList] at z
    exact z
  obtain ⟨c0, tl0, hmro⟩ := F.called_set.mro
  have hmade := F.called_set.made
  have hsub := F.called_set.sub
  apply wpAny_call
  apply codeAny_of_tree
  show wpAny _ _ (callAny (.type "set") _) _ _ _
  apply wpAny_pure
  refine ⟨Code.quiet_builtin _ (by decide +kernel), codeAny_builtin F.entry_type_call ?_⟩
  rw [Around.under_plain (weight_type_call_type "set" [.ref l] []) rfl]
  have f1 := F.called_set.notType
  have f2 := F.called_set.canCreate
  have f3 := F.typeCall_set_1 (.ref l)
  repeat (any_goals (first | assumption | wp_step))
  have made := code_set_led1 (P := P) (w := w) (A := A.in1) (s := s) (.ref l) (E := E)
    (Q₁ := fun obj s₁ => obj = .ref s.heap.objs.size ∧ s₁ = { s with heap := s.heap.push (bareSet w) }) ⟨rfl, rfl⟩
  refine codeAny_mono made fun r s₁ hr => ?_
  match r, hr with
  | .error e, hr => exact hr
  | .ok .next, hr => exact hr.elim
  | .ok .brk, hr => exact hr.elim
  | .ok .cont, hr => exact hr.elim
  | .ok (.ret obj), hr =>
    obtain ⟨e1, e2⟩ := hr
    subst e1
    subst e2
    have got : (s.heap.push (bareSet w)).get? s.heap.objs.size = some (bareSet w) := Heap.get?_push_size _ rfl
    have ty : Shared.TypeIs { s with heap := s.heap.push (bareSet w) } (.ref s.heap.objs.size) "set" := ⟨_, got, rfl⟩
    have g1 := F.called_set.init.lookup
    have g2 := F.called_set.init.bind (.ref s.heap.objs.size)
    repeat (any_goals (first | assumption | wp_step))
    refine codeAny_mono (codeAny_call_builtin (R := wants (fun r s₂ => r = .none ∧ ∃ h' tk c, s₂ = { s with heap := h', toks := tk } ∧
      SetR w h' s.heap.objs.size (fun j => decide (j ∈ ns)) c ∧ c ≤ ns.length ∧ ∀ b o, s.heap.get? b = some o → h'.get? b = some o) E)
      F.called_set.init.plain F.entry_set_init (check_set_init_1 ty ?_)) fun r₂ s₂ hr₂ => ?_
    · obtain ⟨ol, hol, hcl, nl, hdl⟩ := atL
      obtain ⟨ocls, odict, odata, oslots⟩ := ol
      simp only at hcl hdl
      subst hcl
      subst hdl
      have hol' : (s.heap.push (bareSet w)).get? l = some { cls := .type "list", dict := odict, data := .seq its nl, slots := oslots } :=
        Heap.get?_push_of_some _ hol
      have n1 := F.sub_list_set
      have n2 := F.sub_list_frozenset
      have n3 : (Value.type "list" == Value.type "dict") = false := by decide
      have atL1 : (s.heap.push (bareSet w)).IsList l its := ⟨_, hol', rfl, nl, rfl⟩
      unfold Builtin.«set.__init__» noKeywords Builtin.Frozenset.updateFrom
      generalize ePI : pyIter = PI
      wp_walk
      subst ePI
      refine wpAny_pyIter_list atL1 ?_
      refine wpAny_bind (wpAny_runValue ?_)
      have lLt : l < s.heap.objs.size := Heap.lt_size hol
      have calm3 : A.in1.in1.in1.handled = none := by simp [calmA]
      have size1 : (s.heap.push (bareSet w)).objs.size = s.heap.objs.size + 1 := Heap.size_push ..
      have apart : l ≠ (s.heap.push (bareSet w)).objs.size := by
        rw [size1]
        exact Nat.ne_of_lt (Nat.lt_succ_of_lt lLt)
      have notIn : s.heap.objs.size ∉ [(s.heap.push (bareSet w)).objs.size, l] := by
        rw [size1]
        simp only [List.mem_cons, List.mem_singleton, List.not_mem_nil, or_false, not_or]
        exact ⟨Nat.ne_of_lt (Nat.lt_succ_self _), Nat.ne_of_gt lLt⟩
      have vals : ∀ (i : Nat) (v : Value), its[i]? = some v → ∃ k t, ns[i]? = some k ∧ v = .int k t := by
        intro i v hv
        have hi : i < ns.length := by
          rw [← sz]
          exact (Array.getElem?_eq_some_iff.mp hv).1
        obtain ⟨t, e⟩ := PyProof.Rows.IntsAre.int_at isI i v (by rw [Array.getElem?_toList]; exact hv)
        refine ⟨ns[i], t, List.getElem?_eq_getElem hi, ?_⟩
        rw [e, List.getD_eq_getElem?_getD, List.getElem?_eq_getElem hi]
        rfl
      refine set_update_ints ((Walks.list calm3 _ l apart its).toS) s.heap.objs.size notIn ns sz room vals
        (its.size - 0) 0 _ (by omega) (Nat.zero_le _) ⟨⟨_, Heap.get?_push_size _ rfl, rfl, rfl⟩, (atL1.push _)⟩ ?first ?last
      case first => exact ⟨0, Nat.le_refl 0, setR_new_at (Heap.get?_push_of_some _ got)⟩
      case last =>
        intro s' c' hm hc' hS'
        obtain ⟨h', g', d', tk', os'⟩ := s'
        cases (show g' = s.gens from hm.gens)
        cases (show d' = s.drawn from hm.drawn)
        cases (show os' = s.os from hm.os)
        apply wpAny_pure
        show wpAny _ _ (ret Value.none) _ _ _
        rw [sz] at hc'
        refine wpAny_pure ⟨rfl, h', tk', c', rfl, hS', hc', fun b o e => ?_⟩
        have b0 : b < s.heap.objs.size := Heap.lt_size e
        refine hm.heap b o ?_ (Heap.get?_push_of_some _ (Heap.get?_push_of_some _ e))
        simp only [List.mem_cons, List.mem_singleton, List.not_mem_nil, or_false, not_or]
        rw [size1]
        exact ⟨Nat.ne_of_lt b0, Nat.ne_of_lt (Nat.lt_succ_of_lt b0)⟩
    · match r₂, hr₂ with
      | .error e, hr₂ => exact hr₂
      | .ok .next, hr₂ => exact hr₂.elim
      | .ok .brk, hr₂ => exact hr₂.elim
      | .ok .cont, hr₂ => exact hr₂.elim
      | .ok (.ret r), hr₂ =>
        obtain ⟨e1, h', tk, c', e2, hS', hc', hk'⟩ := hr₂
        subst e1
        subst e2
        repeat (any_goals (first | assumption | wp_step))
        exact done _ _ _ hS' hc' hk'
end
section
variable {X : Cx}
def rSetL (K : PySem.W.Frag) (w : World) : List V → Hp → VK → Prop := fun xs H Q => ∃ (p : Addr) (ns : List Int), xs = [.ref p] ∧ SqL K H p (ns.map V.int) ∧ ns.length ≤ 1000 ∧
  ∀ (a : Addr) (c : Nat), H a = none → c ≤ ns.length → Q (.ref a) (upd H a (SetO w a (fun j => decide (j ∈ ns)) c))
theorem call_setL (hcalm : X.calm = true) : CallR X (.type "set") (rSetL X.K X.w) := by
  intro pins s σ H xs us Q I r h
  obtain ⟨p, ns, e, hq, hn, q⟩ := h
  subst e
  obtain ⟨u, e, rx⟩ := vals1 r
  subst e
  cases rx
  obtain ⟨its, r', pl, hz⟩ := I.list hq
  refine set_of_list ns (I.ok.hd hcalm) pl.isList (by simpa using (RZ.intsAre_vals r')) (by unfold scanBound; omega) fun h' tk c hS hc hk => ?_
  refine ⟨.ref s.heap.objs.size, _, I.laid (t' := tk) hk (Nat.le_refl _) (setO_new hS), rfl, q _ c (I.hok.fresh (Nat.le_refl _)) hc⟩
/-- sorted(s), s a set of numbers, in the words that are wanted here -/
theorem ksetL (K : PySem.W.Frag) (w : World) (hcalm : X.calm = true) (hK : X.K = K := by rfl) (hw : X.w = w := by rfl) : CallR X (.type "set") (rSetL K w) := by
  subst hK
  subst hw
  exact call_setL hcalm
theorem ksortS (w : World) (hcalm : X.calm = true) (hw : X.w = w := by rfl) : CallR X (.builtin "sorted") (rSortedSet w) := by
  subst hw
  exact cr_sortedSet hcalm
end

/-! ### pushes -/
def spPush : Sp := fun vs H Q _ => ∃ (m b p : Int) (t : Addr) (tl : List (Int × Int)), vs = [.int m, .ref t, .int b, .int p] ∧ 0 < m ∧ ToolAt H t tl ∧ tl ≠ [] ∧
  ∀ H', Same H H' → Q (.int (tgt tl ((p + b) % m))) H'
def spPushes (K : PySem.W.Frag) : Sp := fun vs H Q _ => ∃ (m b : Int) (t pl : Addr) (tl : List (Int × Int)) (ps : List Int), vs = [.int m, .ref t, .int b, .ref pl] ∧ 0 < m ∧ ToolAt H t tl ∧ tl ≠ [] ∧
  SqT K H pl (ps.map V.int) ∧ ps.length ≤ 60 ∧
  ∀ (out : List Int) (p : Addr) (H' : Hp), out.Pairwise (· < ·) → (∀ y, y ∈ out ↔ ∃ x ∈ ps, tgt tl ((x + b) % m) = y) → Same H H' → H p = none → H' p = some (.tup (out.map V.int)) → Q (.ref p) H'
theorem sorted_uniq : ∀ {l r : List Int}, l.Pairwise (· < ·) → r.Pairwise (· < ·) → (∀ x, x ∈ l ↔ x ∈ r) → l = r
  | [], [], _, _, _ => rfl
  | [], y :: r, _, _, h => absurd ((h y).mpr List.mem_cons_self) List.not_mem_nil
  | x :: l, [], _, _, h => absurd ((h x).mp List.mem_cons_self) List.not_mem_nil
  | x :: l, y :: r, hl, hr, h => by
    have al := List.pairwise_cons.mp hl
    have ar := List.pairwise_cons.mp hr
    have exy : x = y := by
      rcases List.mem_cons.mp ((h x).mp List.mem_cons_self) with z | z
      · exact z
      · rcases List.mem_cons.mp ((h y).mpr List.mem_cons_self) with u | u
        · exact u.symm
        · have := ar.1 x z
          have := al.1 y u
          omega
    subst exy
    have e : l = r := sorted_uniq al.2 ar.2 fun z => by
      constructor
      · intro hz
        rcases List.mem_cons.mp ((h z).mp (List.mem_cons_of_mem _ hz)) with u | u
        · have := al.1 z hz
          omega
        · exact u
      · intro hz
        rcases List.mem_cons.mp ((h z).mpr (List.mem_cons_of_mem _ hz)) with u | u
        · have := ar.1 z hz
          omega
        · exact u
    rw [e]
theorem asc_len {m : Int} : ∀ (l : List Int) (lo : Int), l.Pairwise (· < ·) → (∀ x ∈ l, lo ≤ x ∧ x < m) → lo ≤ m → (l.length : Int) ≤ m - lo
  | [], lo, _, _, h => by
    show ((0 : Nat) : Int) ≤ m - lo
    omega
  | x :: r, lo, hp, hb, _ => by
    have hx := hb x List.mem_cons_self
    have ac := List.pairwise_cons.mp hp
    have ih := asc_len r (x + 1) ac.2 (fun y hy => ⟨by have := ac.1 y hy; omega, (hb y (List.mem_cons_of_mem _ hy)).2⟩) (by omega)
    rw [List.length_cons]
    omega
theorem sorted_le {l : List Int} {m : Int} (h : l.Pairwise (· < ·)) (hb : ∀ x ∈ l, 0 ≤ x ∧ x < m) (hm : 0 ≤ m := by omega) : (l.length : Int) ≤ m := by
  have := asc_len l 0 h hb hm
  omega
theorem range_getD {β : Type} (g : Int → β) : ∀ ps : List Int, (List.range ps.length).map (fun i => g (ps.getD i 0)) = ps.map g := by
  intro ps
  apply List.ext_getElem?
  intro i
  rw [List.getElem?_map, List.getElem?_map]
  by_cases h : i < ps.length
  · rw [List.getElem?_range h, List.getElem?_eq_getElem h]
    show some (g (ps.getD i 0)) = some (g ps[i])
    rw [List.getD_eq_getElem?_getD, List.getElem?_eq_getElem h]
    rfl
  · rw [List.getElem?_eq_none (by rw [List.length_range]; omega), List.getElem?_eq_none (by omega)]
    rfl
theorem int_item {ps : List Int} {i : Nat} {x : V} (h : (ps.map V.int)[i]? = some x) : x = .int (ps.getD i 0) ∧ i < ps.length ∧ ps.getD i 0 ∈ ps := by
  rw [List.getElem?_map] at h
  cases e : ps[i]? with
  | none =>
    rw [e] at h
    cases h
  | some n =>
    rw [e] at h
    have hi := (List.getElem?_eq_some_iff.mp e).1
    have ed : ps.getD i 0 = n := by
      rw [List.getD_eq_getElem?_getD, e]
      rfl
    rw [ed]
    exact ⟨(Option.some.inj h).symm, hi, List.mem_of_getElem? e⟩
/-- a set comprehension over a tuple that changes nothing -/
theorem scT {w : World} {K : PySem.W.Frag} {a : Addr} {xs : List V} {j : Nat} {te : TE} {vs : List Nat} {σ : L2.St} {H1 : Hp} {D : Addr} {Qd : Hp → Prop} (f : Nat → Int) (hn : xs.length ≤ 1000) (nD : H1 D = none)
    (hx : SqT K H1 a xs) (hw : ∀ v, wipe ((wipe σ vs).set j (some v)) vs = wipe σ vs)
    (he : ∀ (i : Nat) (x : V) (H : Hp) (Q : VK), xs[i]? = some x → Same H1 H → (∀ H', Same H H' → Q (.int (f i)) H') → te ((wipe σ vs).set j (some x)) H Q)
    (hd : ∀ H' S n, Same H1 H' → H' D = some (SetO w D S n) → n ≤ xs.length → (∀ k, S k = true ↔ ∃ i, i < xs.length ∧ f i = k) → Qd H') :
    ∃ W : Nat → Nat → Hp → Prop, (∃ m, W 0 m (upd H1 D (SetO w D (fun _ => false) 0))) ∧ ∀ i m H, W i m H → ((Itt K a).stop i H ∧ Qd H) ∨ ((Itt K a).go i H ∧
      ∃ Nx : Hp → Prop, (∀ H', Nx H' → ∃ m', m' < m ∧ W (i + 1) m' H') ∧ ∀ x H', (Itt K a).yld i H x H' → gName j x (wipe σ vs) H' fun σ2 H2 => wipe σ2 vs = wipe σ vs ∧
        tYes σ2 H2 fun b H3 => if b = true then te σ2 H3 fun y H4 => ∃ (c : Int) (S : Int → Bool) (n : Nat), y = .int c ∧ H4 D = some (SetO w D S n) ∧ n + 1 < scanBound ∧
          Nx (upd H4 D (SetO w D (fun j => S j || decide (j = c)) (if S c = true then n else n + 1))) else Nx H3) := by
  have key : ∀ i x H, xs[i]? = some x → (∃ S n, Same H1 H ∧ H D = some (SetO w D S n) ∧ n ≤ i ∧ ∀ k, S k = true ↔ ∃ i', i' < i ∧ f i' = k) →
      te ((wipe σ vs).set j (some x)) H fun y H4 => ∃ (c : Int) (S : Int → Bool) (n : Nat), y = .int c ∧ H4 D = some (SetO w D S n) ∧ n + 1 < scanBound ∧
        (∃ S' n', Same H1 (upd H4 D (SetO w D (fun j => S j || decide (j = c)) (if S c = true then n else n + 1))) ∧
          (upd H4 D (SetO w D (fun j => S j || decide (j = c)) (if S c = true then n else n + 1))) D = some (SetO w D S' n') ∧ n' ≤ i + 1 ∧ ∀ k, S' k = true ↔ ∃ i', i' < i + 1 ∧ f i' = k) := by
    intro i x H hi h
    obtain ⟨S, n, hs, hD, hni, hS⟩ := h
    have hlt := (List.getElem?_eq_some_iff.mp hi).1
    refine he i x H _ hi hs fun H' s' => ⟨f i, S, n, rfl, s' _ _ hD, by unfold scanBound; omega, _, _, ?_, upd_same, by split <;> omega, fun k => ?_⟩
    · intro b o e
      rw [upd_ne (ne_of_none e nD)]
      exact s' _ _ (hs _ _ e)
    · rw [Bool.or_eq_true, decide_eq_true_iff, hS k]
      constructor
      · rintro (⟨i', h1, h2⟩ | h1)
        · exact ⟨i', by omega, h2⟩
        · exact ⟨i, by omega, h1.symm⟩
      · intro ⟨i', h1, h2⟩
        by_cases z : i' = i
        · subst z
          exact .inr h2.symm
        · exact .inl ⟨i', by omega, h2⟩
  refine ⟨fun i m H => m = xs.length - i ∧ i ≤ xs.length ∧ ∃ S n, Same H1 H ∧ H D = some (SetO w D S n) ∧ n ≤ i ∧ ∀ k, S k = true ↔ ∃ i', i' < i ∧ f i' = k, ⟨xs.length, by omega, Nat.zero_le _, _, 0, same_upd nD, upd_same, Nat.le_refl _, fun k => ?_⟩, ?_⟩
  · constructor
    · intro h
      cases h
    · intro ⟨i', h, _⟩
      omega
  · intro i m H hW
    obtain ⟨em, hi, pv⟩ := hW
    subst em
    have hq : SqT K H a xs := same_tup pv.choose_spec.choose_spec.1 hx
    by_cases hlt : i < xs.length
    · refine .inr ⟨⟨xs, xs[i], hq, List.getElem?_eq_getElem hlt⟩, fun H' => ∃ S n, Same H1 H' ∧ H' D = some (SetO w D S n) ∧ n ≤ i + 1 ∧ ∀ k, S k = true ↔ ∃ i', i' < i + 1 ∧ f i' = k, fun H' p => ⟨xs.length - (i + 1), by omega, rfl, hlt, p⟩, fun x H' y => ?_⟩
      obtain ⟨e, y⟩ := y
      subst e
      refine ⟨hw _, ?_⟩
      exact key i x _ (y xs hq) pv
    · have e : i = xs.length := by omega
      subst e
      obtain ⟨S, n, h1, h2, h3, h4⟩ := pv
      exact .inl ⟨⟨xs, hq, Nat.le_refl _⟩, hd H S n h1 h2 h3 h4⟩
/-! ### places -/
def spPlaces : Sp := fun vs H Q _ => ∃ (a c : Addr) (k m : Int), vs = [.ref a, .int m] ∧ Deck H a c k ∧ k + 70 ≤ 1000000 ∧ 1 ≤ m ∧ m ≤ 60 ∧
  ∀ (p : Addr) (ps : List Int) (H' : Hp), ps.Pairwise (· < ·) → 1 ≤ ps.length → (∀ x ∈ ps, 0 ≤ x ∧ x < m) → H' p = some (.tup (ps.map V.int)) → Deck H' a c (k + 70) → Keep a c H H' → H p = none → Q (.ref p) H'
theorem pw_lt_upto (m : Int) : (upto m).Pairwise (· < ·) := by
  unfold upto
  rw [List.pairwise_map]
  exact List.pairwise_lt_range.imp fun {a b} h => by omega
theorem stepsOf_V (m b st : Int) (n : Nat) : (List.range n).map (fun k => V.int ((b + st * (0 + (k : Nat))) % m)) = ((List.range n).map fun k => (b + st * (0 + (k : Nat))) % m).map V.int := by
  rw [List.map_map]
  rfl
theorem keep_none {a c p : Addr} {H H' : Hp} {k : Int} (kp : Keep a c H H') (dk : Deck H' a c k) (h : H' p = none) : H p = none := by
  obtain ⟨h1, h2⟩ := dk.nea h
  cases e : H p with
  | none => rfl
  | some o =>
    rw [kp _ _ h1 h2 e] at h
    cases h

def pairL (d e : PyData) : PyData := .list [d, e]
theorem pair_shows {d e : PyData} {n1 n2 e1 e2 : Nat} (h1 : Fine d n1 e1) (h2 : Fine e n2 e2) (a1 : n1 ≤ 7000000) (a2 : n2 ≤ 7000000) (b1 : e1 ≤ 50) (b2 : e2 ≤ 50) : Shows (pairL d e) := by
  have f : Fine (.list [d, e]) (2 * (7000000 + 2) + 2) (50 + 1) := fine_list (ds := [d, e]) fun x hx => by
    rcases List.mem_cons.mp hx with z | z
    · rw [z]
      exact h1.mono a1 b1
    · rw [List.mem_singleton.mp z]
      exact h2.mono a2 b2
  exact f.mono (by decide) (by decide)
/-! ### counting places -/
def cntN (P : Int → Bool) (lo : Int) : Nat → Nat
  | 0 => 0
  | n + 1 => cntN P lo n + (if P (lo + (n : Nat)) = true then 1 else 0)
theorem cntN_add (P : Int → Bool) (lo : Int) (a : Nat) : ∀ b : Nat, cntN P lo (a + b) = cntN P lo a + cntN P (lo + (a : Nat)) b
  | 0 => rfl
  | b + 1 => by
    have ih := cntN_add P lo a b
    show cntN P lo (a + b) + (if P (lo + ((a + b : Nat) : Int)) = true then 1 else 0) = cntN P lo a + (cntN P (lo + (a : Nat)) b + (if P (lo + (a : Nat) + (b : Nat)) = true then 1 else 0))
    have e : lo + ((a + b : Nat) : Int) = lo + (a : Nat) + (b : Nat) := by omega
    rw [ih, e]
    omega
theorem cntN_congr {P P' : Int → Bool} {lo : Int} : ∀ n : Nat, (∀ x, lo ≤ x → x < lo + (n : Nat) → P x = P' x) → cntN P lo n = cntN P' lo n
  | 0, _ => rfl
  | n + 1, h => by
    show cntN P lo n + _ = cntN P' lo n + _
    rw [cntN_congr n fun x h1 h2 => h x h1 (by omega), h (lo + (n : Nat)) (by omega) (by omega)]
theorem cntN_const {lo : Int} (c : Bool) : ∀ n : Nat, cntN (fun _ => c) lo n = if c = true then n else 0
  | 0 => by cases c <;> rfl
  | n + 1 => by
    show cntN (fun _ => c) lo n + _ = _
    rw [cntN_const c n]
    cases c <;> simp
theorem cnt_upto (P : Int → Bool) (m : Int) : ((upto m).filter P).length = cntN P 0 m.toNat := by
  unfold upto
  generalize m.toNat = n
  induction n with
  | zero => rfl
  | succ n ih =>
    show _ = cntN P 0 n + (if P (0 + (n : Nat)) = true then 1 else 0)
    rw [List.range_succ, List.map_append, List.filter_append, List.length_append, ih, Int.zero_add]
    show _ + ([((n : Nat) : Int)].filter P).length = _
    by_cases h : P ((n : Nat) : Int) = true
    · rw [if_pos h, List.filter_cons_of_pos h]
      rfl
    · rw [if_neg h, List.filter_cons_of_neg h]
      rfl
def segSum (P : Int → Bool) (e : Int) : Int → Int → List (Int × Int) → Int
  | f, lo, [] => if P f = true then e - lo else 0
  | f, lo, bt :: r => (if P f = true then bt.1 - lo else 0) + segSum P e bt.2 bt.1 r
theorem cnt_seg (P : Int → Bool) (m : Int) : ∀ (l : List (Int × Int)) (f lo : Int), l.Pairwise (fun x y => x.1 < y.1) → (∀ x ∈ l, lo ≤ x.1 ∧ x.1 ≤ m) → lo ≤ m →
    (cntN (fun x => P (tgtFrom x f l)) lo (m - lo).toNat : Int) = segSum P m f lo l
  | [], f, lo, _, _, hlo => by
    show (cntN (fun _ => P f) lo (m - lo).toNat : Int) = if P f = true then m - lo else 0
    rw [cntN_const]
    split <;> omega
  | bt :: r, f, lo, asc, hb, hlo => by
    have ac := List.pairwise_cons.mp asc
    have h0 := hb bt List.mem_cons_self
    have e : (m - lo).toNat = (bt.1 - lo).toNat + (m - bt.1).toNat := by omega
    have e1 : cntN (fun x => P (tgtFrom x f (bt :: r))) lo (bt.1 - lo).toNat = cntN (fun _ => P f) lo (bt.1 - lo).toNat := by
      apply cntN_congr
      intro x h1 h2
      rw [tgtFrom_none x (bt :: r) f]
      intro y hy
      rcases List.mem_cons.mp hy with z | z
      · rw [z]
        omega
      · have := ac.1 y z
        omega
    have e2 : cntN (fun x => P (tgtFrom x f (bt :: r))) (lo + ((bt.1 - lo).toNat : Nat)) (m - bt.1).toNat = cntN (fun x => P (tgtFrom x bt.2 r)) bt.1 (m - bt.1).toNat := by
      have el : lo + ((bt.1 - lo).toNat : Nat) = bt.1 := by omega
      rw [el]
      apply cntN_congr
      intro x h1 h2
      show P (tgtFrom x (if bt.1 ≤ x then bt.2 else f) r) = P (tgtFrom x bt.2 r)
      rw [if_pos h1]
    have ih := cnt_seg P m r bt.2 bt.1 ac.2 (fun y hy => ⟨by have := ac.1 y hy; omega, (hb y (List.mem_cons_of_mem _ hy)).2⟩) h0.2
    rw [e, cntN_add, e1, e2, cntN_const, Int.natCast_add, ih]
    show _ = (if P f = true then bt.1 - lo else 0) + segSum P m bt.2 bt.1 r
    split <;> omega
theorem segSum_end (P : Int → Bool) (e e' : Int) : ∀ (l : List (Int × Int)) (f lo : Int), segSum P e' f lo l = segSum P e f lo l + (if P (l.getLastD (lo, f)).2 = true then e' - e else 0)
  | [], f, lo => by
    show (if P f = true then e' - lo else 0) = (if P f = true then e - lo else 0) + (if P f = true then e' - e else 0)
    split <;> omega
  | bt :: r, f, lo => by
    show (if P f = true then bt.1 - lo else 0) + segSum P e' bt.2 bt.1 r = (if P f = true then bt.1 - lo else 0) + segSum P e bt.2 bt.1 r + _
    rw [segSum_end P e e' r bt.2 bt.1]
    have : ((bt :: r).getLastD (lo, f)) = r.getLastD (bt.1, bt.2) := by
      rw [List.getLastD_cons]
    rw [this]
    omega
/-! ### the sizes of the arcs -/
def stepsE (e : Int) : Int → List Int → List Int
  | b, [] => [e - b]
  | b, b' :: r => (b' - b) :: stepsE e b' r
def stepsOf (m : Int) (bs : List Int) : List Int := (bs.zip (bs.drop 1 ++ [bs.headD 0 + m])).map fun p => p.2 - p.1
theorem stepsOf_cons (m b : Int) (r : List Int) : stepsOf m (b :: r) = stepsE (b + m) b r := by
  have key : ∀ (r : List Int) (b e : Int), ((b :: r).zip (r ++ [e])).map (fun p => p.2 - p.1) = stepsE e b r := by
    intro r
    induction r with
    | nil => intro b e; rfl
    | cons b' r ih =>
      intro b e
      show (b' - b) :: ((b' :: r).zip (r ++ [e])).map (fun p => p.2 - p.1) = (b' - b) :: stepsE e b' r
      rw [ih]
  exact key r b (b + m)
theorem stepsE_len (e : Int) : ∀ (r : List Int) (b : Int), (stepsE e b r).length = r.length + 1
  | [], _ => rfl
  | b' :: r, b => congrArg Nat.succ (stepsE_len e r b')
def psum (P : Int → Bool) (ts ss : List Int) : Int := (((ts.zip ss).filter fun p => P p.1).map (·.2)).sum
theorem psum_seg (P : Int → Bool) (e : Int) : ∀ (r : List (Int × Int)) (t b : Int), psum P (t :: r.map (·.2)) (stepsE e b (r.map (·.1))) = segSum P e t b r
  | [], t, b => by
    unfold psum
    show ((([(t, e - b)] : List (Int × Int)).filter fun p => P p.1).map (·.2)).sum = if P t = true then e - b else 0
    by_cases h : P t = true
    · rw [if_pos h, List.filter_cons_of_pos (by exact h)]
      show e - b + 0 = e - b
      omega
    · rw [if_neg h, List.filter_cons_of_neg (by exact h)]
      rfl
  | bt :: r, t, b => by
    have ih := psum_seg P e r bt.2 bt.1
    unfold psum at ih ⊢
    show ((((t, bt.1 - b) :: ((bt.2 :: r.map (·.2)).zip (stepsE e bt.1 (r.map (·.1))))).filter fun p => P p.1).map (·.2)).sum = (if P t = true then bt.1 - b else 0) + segSum P e bt.2 bt.1 r
    by_cases h : P t = true
    · rw [if_pos h, List.filter_cons_of_pos (by exact h), List.map_cons, List.sum_cons, ih]
    · rw [if_neg h, List.filter_cons_of_neg (by exact h), ih]
      omega
theorem psum_cnt {m : Int} {tl : List (Int × Int)} (P : Int → Bool) (h : IsTool m tl) : psum P (tl.map (·.2)) (stepsOf m (tl.map (·.1))) = (((upto m).filter fun x => P (tgt tl x)).length : Int) := by
  cases tl with
  | nil =>
    have := h.len1
    rw [List.length_nil] at this
    omega
  | cons bt r =>
    have h0 := h.rng bt List.mem_cons_self
    rw [List.map_cons, List.map_cons, stepsOf_cons, psum_seg, segSum_end P m (bt.1 + m)]
    have c := cnt_seg P m (bt :: r) ((bt :: r).getLastD (0, 0)).2 0 h.asc (fun x hx => by have := (h.rng x hx).1; omega) (by omega)
    have ez : (m - 0).toNat = m.toNat := by omega
    rw [ez] at c
    rw [cnt_upto]
    show _ = (cntN (fun x => P (tgtFrom x ((bt :: r).getLastD (0, 0)).2 (bt :: r))) 0 m.toNat : Int)
    rw [c]
    show _ = (if P ((bt :: r).getLastD (0, 0)).2 = true then bt.1 - 0 else 0) + segSum P m bt.2 bt.1 r
    have e1 : (bt :: r).getLastD (0, 0) = r.getLastD (bt.1, bt.2) := by rw [List.getLastD_cons]
    rw [e1]
    split <;> omega
/-! ### widths -/
def cnt (m : Int) (tl : List (Int × Int)) (b l : Int) : Int := ((brought m tl b l).length : Int)
structure IsWidth (m : Int) (tls : List (List (Int × Int))) (l v : Int) : Prop where
  got : ∃ tl ∈ tls, ∃ b, 0 ≤ b ∧ b < m ∧ cnt m tl b l = v
  all : ∀ tl ∈ tls, ∀ b, 0 ≤ b → b < m → cnt m tl b l ≤ v
theorem IsWidth.uniq {m : Int} {tls : List (List (Int × Int))} {l v v' : Int} (h : IsWidth m tls l v) (h' : IsWidth m tls l v') : v = v' := by
  obtain ⟨tl, ht, b, b0, b1, e⟩ := h.got
  obtain ⟨tl', ht', b', b0', b1', e'⟩ := h'.got
  have q := h'.all tl ht b b0 b1
  have q' := h.all tl' ht' b' b0' b1'
  omega
theorem tgt_mem {tl : List (Int × Int)} (hne : tl ≠ []) (x : Int) : ∃ bt ∈ tl, tgt tl x = bt.2 := by
  have key : ∀ (l : List (Int × Int)) (f : Int), tgtFrom x f l = f ∨ ∃ bt ∈ l, tgtFrom x f l = bt.2 := by
    intro l
    induction l with
    | nil => exact fun f => .inl rfl
    | cons y l ih =>
      intro f
      show tgtFrom x (if y.1 ≤ x then y.2 else f) l = f ∨ _
      rcases ih (if y.1 ≤ x then y.2 else f) with h | ⟨bt, hb, e⟩
      · by_cases hy : y.1 ≤ x
        · rw [if_pos hy] at h
          exact .inr ⟨y, List.mem_cons_self, by show tgtFrom x (if y.1 ≤ x then y.2 else f) l = y.2; rw [if_pos hy, h]⟩
        · rw [if_neg hy] at h ⊢
          exact .inl h
      · exact .inr ⟨bt, List.mem_cons_of_mem _ hb, e⟩
  rcases key tl (tl.getLastD (0, 0)).2 with h | h
  · refine ⟨tl.getLastD (0, 0), ?_, h⟩
    exact List.mem_of_getElem? (getLastD_eq hne)
  · exact h
theorem filter_mono {p q : Int → Bool} : ∀ L : List Int, (∀ x ∈ L, p x = true → q x = true) → (L.filter p).length ≤ (L.filter q).length
  | [], _ => Nat.le_refl _
  | x :: L, h => by
    have ih := filter_mono L fun y hy => h y (List.mem_cons_of_mem _ hy)
    by_cases hp : p x = true
    · rw [List.filter_cons_of_pos hp, List.filter_cons_of_pos (h x List.mem_cons_self hp)]
      exact Nat.succ_le_succ ih
    · rw [List.filter_cons_of_neg hp]
      by_cases hq : q x = true
      · rw [List.filter_cons_of_pos hq]
        exact Nat.le_succ_of_le ih
      · rw [List.filter_cons_of_neg hq]
        exact ih
theorem min_of (g : Int × Int → Int) : ∀ L : List (Int × Int), L ≠ [] → ∃ x ∈ L, ∀ y ∈ L, g x ≤ g y
  | [x], _ => ⟨x, List.mem_cons_self, fun y hy => by rw [List.mem_singleton.mp hy]; exact Int.le_refl _⟩
  | x :: y :: L, _ => by
    obtain ⟨z, hz, hm⟩ := min_of g (y :: L) (List.cons_ne_nil _ _)
    by_cases h : g x ≤ g z
    · refine ⟨x, List.mem_cons_self, fun u hu => ?_⟩
      rcases List.mem_cons.mp hu with e | e
      · rw [e]
        exact Int.le_refl _
      · have := hm u e
        omega
    · refine ⟨z, List.mem_cons_of_mem _ hz, fun u hu => ?_⟩
      rcases List.mem_cons.mp hu with e | e
      · rw [e]
        omega
      · exact hm u e
theorem cnt_shift {m : Int} {tl : List (Int × Int)} {b l : Int} (hm : 0 < m) (hl : l ≤ m) (hne : tl ≠ []) : cnt m tl b l = 0 ∨ ∃ bt ∈ tl, cnt m tl b l ≤ cnt m tl bt.2 l := by
  by_cases h : (tl.filter fun bt => inArc m b l bt.2) = []
  · left
    have e : brought m tl b l = [] := by
      unfold brought
      rw [List.filter_eq_nil_iff]
      intro x _ hx
      obtain ⟨bt, hb, e⟩ := tgt_mem hne x
      rw [e] at hx
      have : bt ∈ tl.filter fun bt => inArc m b l bt.2 := List.mem_filter.mpr ⟨hb, hx⟩
      rw [h] at this
      exact List.not_mem_nil this
    unfold cnt
    rw [e]
    rfl
  · right
    obtain ⟨bt, hb, hmin⟩ := min_of (fun bt => (bt.2 - b) % m) _ h
    have hb' := List.mem_filter.mp hb
    refine ⟨bt, hb'.1, ?_⟩
    unfold cnt brought
    have := filter_mono (p := fun x => inArc m b l (tgt tl x)) (q := fun x => inArc m bt.2 l (tgt tl x)) (upto m) fun x _ hx => by
      obtain ⟨bx, hbx, e⟩ := tgt_mem hne x
      rw [e] at hx ⊢
      have hq := hmin bx (List.mem_filter.mpr ⟨hbx, hx⟩)
      have hx : (bx.2 - b) % m < l := of_decide_eq_true hx
      have n0 := Int.emod_nonneg (bt.2 - b) (show m ≠ 0 by omega)
      have n1 := Int.emod_nonneg (bx.2 - b) (show m ≠ 0 by omega)
      apply decide_eq_true
      have e3 : (bx.2 - bt.2) % m = ((bx.2 - b) % m - (bt.2 - b) % m) % m := by
        rw [mod_sub', sub_mod']
        congr 1
        omega
      rw [e3, Int.emod_eq_of_lt (by omega) (by omega)]
      omega
    omega
/-- the greatest by the targets alone -/
theorem width_of_targets {m : Int} {tls : List (List (Int × Int))} {l v : Int} (hm : 0 < m) (hl : l ≤ m) (ht : ∀ tl ∈ tls, IsTool m tl)
    (got : ∃ tl ∈ tls, ∃ bt ∈ tl, cnt m tl bt.2 l = v) (all : ∀ tl ∈ tls, ∀ bt ∈ tl, cnt m tl bt.2 l ≤ v) : IsWidth m tls l v := by
  constructor
  · obtain ⟨tl, h1, bt, h2, e⟩ := got
    have r := (ht tl h1).rng bt h2
    exact ⟨tl, h1, bt.2, r.2.1, r.2.2, e⟩
  · intro tl h1 b b0 b1
    have hne : tl ≠ [] := fun e => by
      have := (ht tl h1).len1
      rw [e, List.length_nil] at this
      omega
    rcases cnt_shift (b := b) hm hl hne with h | ⟨bt, h2, h⟩
    · obtain ⟨bt, h2⟩ := List.exists_mem_of_ne_nil tl hne
      have q := all tl h1 bt h2
      have : 0 ≤ cnt m tl bt.2 l := Int.natCast_nonneg _
      omega
    · have := all tl h1 bt h2
      omega

/-! ### comprehensions over pairs -/
section
variable {K : PySem.W.Frag} {j1 j2 : Nat} {tt : TT} {te : TE} {vs : List Nat} {σ : L2.St} {H1 : Hp} {D : Addr} {Qd : Hp → Prop}
theorem zip_get {α β : Type} : ∀ {xs : List α} {ys : List β} {i : Nat}, i < (xs.zip ys).length → ∃ x y, xs[i]? = some x ∧ ys[i]? = some y ∧ (xs.zip ys)[i]? = some (x, y)
  | [], _, i, h => absurd h (by simp)
  | _ :: _, [], i, h => absurd h (by simp)
  | x :: xs, y :: ys, 0, _ => ⟨x, y, rfl, rfl, rfl⟩
  | x :: xs, y :: ys, i + 1, h => by
    obtain ⟨u, v, h1, h2, h3⟩ := zip_get (xs := xs) (ys := ys) (i := i) (by simpa using h)
    exact ⟨u, v, by simpa using h1, by simpa using h2, by simpa using h3⟩
theorem take_fm {α β : Type} (q : α → Bool) (f : α → β) {l : List α} {i : Nat} {x : α} (h : l[i]? = some x) :
    ((l.take (i + 1)).filter q).map f = ((l.take i).filter q).map f ++ (if q x = true then [f x] else []) := by
  rw [List.take_add_one, h, List.filter_append, List.map_append]
  congr 1
  show (([x] : List α).filter q).map f = _
  by_cases z : q x = true
  · rw [if_pos z, List.filter_cons_of_pos z]
    rfl
  · rw [if_neg z, List.filter_cons_of_neg z]
    rfl
theorem lcZ {a b : Addr} {xs ys : List V} (q : V × V → Bool) (f : V × V → V) (hn : xs.length ≤ 100000) (nD : H1 D = none) (hx : SqL K H1 a xs) (hy : SqL K H1 b ys)
    (hw : ∀ u v, wipe (((wipe σ vs).set j1 (some u)).set j2 (some v)) vs = wipe σ vs)
    (ht : ∀ (x y : V) (H : Hp) (Q : Bool → Hp → Prop), (x, y) ∈ xs.zip ys → Same H1 H → (∀ H', Same H H' → Q (q (x, y)) H') → tt (((wipe σ vs).set j1 (some x)).set j2 (some y)) H Q)
    (he : ∀ (x y : V) (H : Hp) (Q : VK), (x, y) ∈ xs.zip ys → q (x, y) = true → Same H1 H → (∀ H', Same H H' → Q (f (x, y)) H') → te (((wipe σ vs).set j1 (some x)).set j2 (some y)) H Q)
    (hd : ∀ H', Same H1 H' → H' D = some (.lst (((xs.zip ys).filter q).map f)) → Qd H') :
    ∃ W : Nat → Nat → Hp → Prop, (∃ m, W 0 m (upd H1 D (.lst []))) ∧ ∀ i m H, W i m H → ((Itz K a b).stop i H ∧ Qd H) ∨ ((Itz K a b).go i H ∧
      ∃ Nx : Hp → Prop, (∀ H', Nx H' → ∃ m', m' < m ∧ W (i + 1) m' H') ∧ ∀ x H', (Itz K a b).yld i H x H' → gTup K 2 (gCons (gName j1) (gCons (gName j2) gNil)) x (wipe σ vs) H' fun σ2 H2 =>
        wipe σ2 vs = wipe σ vs ∧ tt σ2 H2 fun b H3 => if b = true then te σ2 H3 fun y H4 => ∃ acc, H4 D = some (.lst acc) ∧ acc.length < sizeLine ∧ Nx (upd H4 D (.lst (acc ++ [y]))) else Nx H3) := by
  have lz : (xs.zip ys).length ≤ xs.length := by
    rw [List.length_zip]
    exact Nat.min_le_left _ _
  refine ⟨fun i m H => m = (xs.zip ys).length - i ∧ i ≤ (xs.zip ys).length ∧ Same H1 H ∧ H D = some (.lst ((((xs.zip ys).take i).filter q).map f)), ⟨_, rfl, Nat.zero_le _, same_upd nD, upd_same⟩, ?_⟩
  intro i m H hW
  obtain ⟨em, hi, hs, hD⟩ := hW
  subst em
  have sx := hs.seq hx
  have sy := hs.seq hy
  by_cases hlt : i < (xs.zip ys).length
  · obtain ⟨x, y, gx, gy, gz⟩ := zip_get hlt
    refine .inr ⟨⟨xs, ys, x, y, sx, sy, gx, gy⟩, fun H' => Same H1 H' ∧ H' D = some (.lst ((((xs.zip ys).take (i + 1)).filter q).map f)), fun H' h => ⟨(xs.zip ys).length - (i + 1), by omega, rfl, hlt, h.1, h.2⟩, fun v H' hy' => ?_⟩
    obtain ⟨T, x', y', ev, nT, eH, fx, fy⟩ := hy'
    subst ev
    subst eH
    have ex : x' = x := Option.some.inj ((fx _ sx).symm.trans gx)
    have ey : y' = y := Option.some.inj ((fy _ sy).symm.trans gy)
    subst ex
    subst ey
    have mem : (x', y') ∈ xs.zip ys := List.mem_of_getElem? gz
    have sT : Same H (upd H T (.tup [x', y'])) := same_upd nT
    refine ⟨T, [x', y'], rfl, SqT.of upd_same, rfl, x', [y'], rfl, y', [], rfl, rfl, hw _ _, ?_⟩
    refine ht x' y' _ _ mem (hs.trans sT) fun H2 s2 => ?_
    have hD2 := s2 _ _ (sT _ _ hD)
    have hs2 := (hs.trans sT).trans s2
    by_cases hq : q (x', y') = true
    · rw [if_pos hq]
      refine he x' y' H2 _ mem hq hs2 fun H3 s3 => ⟨_, s3 _ _ hD2, ?_, ?_, ?_⟩
      · rw [List.length_map]
        have l1 := List.length_filter_le q ((xs.zip ys).take i)
        rw [List.length_take] at l1
        have l2 : i < 100000 := Nat.lt_of_lt_of_le hlt (Nat.le_trans lz hn)
        exact Nat.lt_of_le_of_lt (Nat.le_trans l1 (Nat.min_le_left _ _)) (Nat.lt_trans l2 (by decide))
      · intro z o e
        rw [upd_ne (ne_of_none e nD)]
        exact s3 _ _ (hs2 _ _ e)
      · rw [upd_same, take_fm q f gz, if_pos hq]
    · rw [if_neg hq]
      refine ⟨hs2, ?_⟩
      rw [take_fm q f gz, if_neg hq, List.append_nil]
      exact hD2
  · have e : i = (xs.zip ys).length := by omega
    subst e
    refine .inl ⟨⟨xs, ys, sx, sy, ?_⟩, hd H hs ?_⟩
    · rw [List.length_zip]
      by_cases z : xs.length ≤ ys.length
      · exact .inl (by rw [Nat.min_eq_left z]; exact Nat.le_refl _)
      · exact .inr (by rw [Nat.min_eq_right (by omega)]; exact Nat.le_refl _)
    · rw [List.take_of_length_le (Nat.le_refl _)] at hD
      exact hD
theorem lcTP {t : Addr} {as : List Addr} {tl : List (Int × Int)} (f : Int × Int → V) (hn : tl.length ≤ 100000) (nD : H1 D = none) (hx : SqT K H1 t (as.map V.ref)) (pa : PairsAt H1 as tl)
    (hw : ∀ u v, wipe (((wipe σ vs).set j1 (some u)).set j2 (some v)) vs = wipe σ vs)
    (he : ∀ (bt : Int × Int) (H : Hp) (Q : VK), bt ∈ tl → Same H1 H → (∀ H', Same H H' → Q (f bt) H') → te (((wipe σ vs).set j1 (some (.int bt.1))).set j2 (some (.int bt.2))) H Q)
    (hd : ∀ H', Same H1 H' → H' D = some (.lst (tl.map f)) → Qd H') :
    ∃ W : Nat → Nat → Hp → Prop, (∃ m, W 0 m (upd H1 D (.lst []))) ∧ ∀ i m H, W i m H → ((Itt K t).stop i H ∧ Qd H) ∨ ((Itt K t).go i H ∧
      ∃ Nx : Hp → Prop, (∀ H', Nx H' → ∃ m', m' < m ∧ W (i + 1) m' H') ∧ ∀ x H', (Itt K t).yld i H x H' → gTup K 2 (gCons (gName j1) (gCons (gName j2) gNil)) x (wipe σ vs) H' fun σ2 H2 =>
        wipe σ2 vs = wipe σ vs ∧ tYes σ2 H2 fun b H3 => if b = true then te σ2 H3 fun y H4 => ∃ acc, H4 D = some (.lst acc) ∧ acc.length < sizeLine ∧ Nx (upd H4 D (.lst (acc ++ [y]))) else Nx H3) := by
  have hla : as.length = tl.length := Paired.length pa
  refine lc_tup (xs := as.map V.ref) (fun i H => Same H1 H ∧ H D = some (.lst ((tl.take i).map f))) ⟨same_upd nD, upd_same⟩ (fun i H _ h => same_tup h.1 hx) ?_ ?_
  · intro i x H hi h
    obtain ⟨hs, hD⟩ := h
    obtain ⟨p, bt, e0, e1, e2⟩ := (pa.stay (.of_same hs)).get hi
    subst e0
    refine ⟨p, _, rfl, SqT.of e2, rfl, _, _, rfl, _, _, rfl, rfl, hw _ _, ?_⟩
    refine he bt H _ (List.mem_of_getElem? e1) hs fun H3 s3 => ⟨_, s3 _ _ hD, ?_, ?_, ?_⟩
    · rw [List.length_map, List.length_take]
      have := (List.getElem?_eq_some_iff.mp e1).1
      exact Nat.lt_of_le_of_lt (Nat.min_le_right _ _) (Nat.lt_of_le_of_lt hn (by decide))
    · intro z o e
      rw [upd_ne (ne_of_none e nD)]
      exact s3 _ _ (hs _ _ e)
    · rw [upd_same, take_map_succ f e1]
  · intro H h
    obtain ⟨hs, hD⟩ := h
    rw [List.length_map, hla, List.take_of_length_le (Nat.le_refl _)] at hD
    exact hd H hs hD
end
/-! ### the promises -/
def ToolsAt (H : Hp) (a : Addr) (tls : List (List (Int × Int))) : Prop := ∃ as : List Addr, H a = some (.tup (as.map V.ref)) ∧ Paired (fun p tl => ToolAt H p tl) as tls
theorem ToolsAt.stay {H H' : Hp} {a : Addr} {tls : List (List (Int × Int))} (h : ToolsAt H a tls) (s : Stay H H') : ToolsAt H' a tls := by
  obtain ⟨as, h1, h2⟩ := h
  exact ⟨as, s _ _ (by intro xs z; cases z) h1, Paired.mono (fun _ _ e => e.stay s) h2⟩
theorem ToolsAt.get {K : PySem.W.Frag} {H : Hp} {as : List Addr} {tls : List (List (Int × Int))} (h : Paired (fun p tl => ToolAt H p tl) as tls) {i : Nat} {v : V} (e : (as.map V.ref)[i]? = some v) :
    ∃ p tl, v = .ref p ∧ tls[i]? = some tl ∧ ToolAt H p tl := by
  rw [List.getElem?_map] at e
  cases z : as[i]? with
  | none =>
    rw [z] at e
    cases e
  | some p =>
    rw [z] at e
    cases e
    obtain ⟨tl, e1, e2⟩ := Paired.at h z
    exact ⟨p, tl, rfl, e1, e2⟩
def spStepsL (K : PySem.W.Frag) : Sp := fun vs H Q _ => ∃ (m : Int) (p : Addr) (bs : List Int), vs = [.int m, .ref p] ∧ SqL K H p (bs.map V.int) ∧ bs ≠ [] ∧ bs.length ≤ 1000 ∧
  ∀ (D : Addr) (H' : Hp), Same H H' → H' D = some (.lst ((stepsOf m bs).map V.int)) → Q (.ref D) H'
def spSent (K : PySem.W.Frag) : Sp := fun vs H Q _ => ∃ (m st l : Int) (p r : Addr) (ts ss : List Int), vs = [.int m, .ref p, .ref r, .int st, .int l] ∧ 0 < m ∧ SqL K H p (ts.map V.int) ∧ SqL K H r (ss.map V.int) ∧ ts.length ≤ 1000 ∧
  ∀ H', Same H H' → Q (.int (psum (fun t => inArc m st l t) ts ss)) H'
def spTWidth : Sp := fun vs H Q _ => ∃ (m l : Int) (t : Addr) (tl : List (Int × Int)), vs = [.int m, .ref t, .int l] ∧ 0 < m ∧ ToolAt H t tl ∧ IsTool m tl ∧
  ∀ (v : Int) (H' : Hp), (∃ bt ∈ tl, cnt m tl bt.2 l = v) → (∀ bt ∈ tl, cnt m tl bt.2 l ≤ v) → Same H H' → Q (.int v) H'
def spWidth : Sp := fun vs H Q _ => ∃ (m l : Int) (T : Addr) (tls : List (List (Int × Int))), vs = [.int m, .ref T, .int l] ∧ 0 < m ∧ l ≤ m ∧ ToolsAt H T tls ∧ tls ≠ [] ∧ tls.length ≤ 100 ∧ (∀ tl ∈ tls, IsTool m tl) ∧
  ∀ (v : Int) (H' : Hp), IsWidth m tls l v → Same H H' → Q (.int v) H'
def spLWidth : Sp := fun vs H Q _ => ∃ (m l : Int) (T : Addr) (tls : List (List (Int × Int))), vs = [.int m, .ref T, .int l] ∧ 1 ≤ m ∧ m ≤ 60 ∧ l ≤ m ∧ ToolsAt H T tls ∧ tls ≠ [] ∧ tls.length ≤ 100 ∧ (∀ tl ∈ tls, IsTool m tl) ∧
  ∀ (v : Int) (H' : Hp), IsWidth m tls l v → Same H H' → Q (.int v) H'
def spTools : Sp := fun vs H Q _ => ∃ (a c : Addr) (k m : Int), vs = [.ref a, .int m] ∧ Deck H a c k ∧ k + 130 ≤ 1000000 ∧ 1 ≤ m ∧ m ≤ 60 ∧
  ∀ (T : Addr) (tls : List (List (Int × Int))) (H' : Hp), tls ≠ [] → tls.length ≤ 4 → (∀ tl ∈ tls, IsTool m tl) → ToolsAt H' T tls → Deck H' a c (k + 130) → Keep a c H H' → Q (.ref T) H'
theorem zip_ints (ts ss : List Int) : (ts.map V.int).zip (ss.map V.int) = (ts.zip ss).map fun p => (V.int p.1, V.int p.2) := by
  rw [List.zip_map]
  rfl
def unI : V → Int
  | .int i => i
  | _ => 0
theorem psum_V (P : Int → Bool) (ts ss : List Int) : (((ts.map V.int).zip (ss.map V.int)).filter fun p => P (unI p.1)).map (·.2) = ((((ts.zip ss).filter fun p => P p.1).map (·.2))).map V.int := by
  rw [zip_ints, List.filter_map, List.map_map, List.map_map]
  rfl
theorem steps_V (m : Int) (bs : List Int) : (((bs.map V.int).zip ((bs.map V.int).drop 1 ++ [V.int (bs.headD 0 + m)])).filter fun _ => true).map (fun p => V.int (unI p.2 - unI p.1)) = (stepsOf m bs).map V.int := by
  have e : (bs.map V.int).drop 1 ++ [V.int (bs.headD 0 + m)] = (bs.drop 1 ++ [bs.headD 0 + m]).map V.int := by
    rw [List.map_append, List.map_drop]
    rfl
  unfold stepsOf
  rw [e, zip_ints, List.filter_eq_self.mpr fun _ _ => rfl, List.map_map, List.map_map]
  rfl

theorem Paired.left {α β : Type} {F : α → β → Prop} : ∀ {l : List α} {r : List β}, Paired F l r → ∀ b ∈ r, ∃ a ∈ l, F a b
  | _, _, .nil, b, h => (List.not_mem_nil h).elim
  | _, _, .cons (a := a) h t, b, hb => by
    rcases List.mem_cons.mp hb with e | e
    · rw [e]
      exact ⟨a, List.mem_cons_self, h⟩
    · obtain ⟨a', h1, h2⟩ := Paired.left t b e
      exact ⟨a', List.mem_cons_of_mem _ h1, h2⟩
def toolsD (tls : List (List (Int × Int))) : PyData := .tuple (tls.map toolD)
theorem ToolsAt.dp {K : PySem.W.Frag} {H : Hp} {a : Addr} {tls : List (List (Int × Int))} (h : ToolsAt H a tls) : Dp K H (.ref a) (toolsD tls) := by
  obtain ⟨as, h1, h2⟩ := h
  refine .tup (SqT.of h1) ?_
  have key : ∀ {as : List Addr} {tls : List (List (Int × Int))}, Paired (fun p tl => ToolAt H p tl) as tls → DpAll K H (as.map V.ref) (tls.map toolD) := by
    intro as tls h
    induction h with
    | nil => exact .nil
    | cons h _ ih => exact .cons h.dp ih
  exact key h2
theorem tools_fine {m : Int} {tls : List (List (Int × Int))} (h : ∀ tl ∈ tls, IsTool m tl) (hm : m ≤ 60) (hl : tls.length ≤ 4) : Fine (toolsD tls) 250000 3 := by
  have f : Fine (toolsD tls) ((tls.map toolD).length * (50000 + 2) + 3) (2 + 1) := fine_tuple fun d hd => by
    rw [List.mem_map] at hd
    obtain ⟨tl, h1, e⟩ := hd
    subst e
    exact tool_fine (h tl h1) hm
  rw [List.length_map] at f
  exact f.mono (by omega) (by decide)
theorem cnt_le {m : Int} {tl : List (Int × Int)} {b l : Int} (hm : 0 ≤ m) : cnt m tl b l ≤ m := by
  unfold cnt
  have := brought_len m tl b l
  omega
theorem IsWidth.rng {m : Int} {tls : List (List (Int × Int))} {l v : Int} (h : IsWidth m tls l v) (hm : 0 ≤ m) : 0 ≤ v ∧ v ≤ m := by
  obtain ⟨tl, _, b, _, _, e⟩ := h.got
  have := cnt_le (tl := tl) (b := b) (l := l) hm
  have : 0 ≤ cnt m tl b l := Int.natCast_nonneg _
  omega
/-! ### enumerate of a tuple -/
abbrev en1 (h : Heap) (l : Addr) : Heap := h.push { cls := .type "tuple_iterator", data := .fields #[.ref l, .int 0 0] }
abbrev enO (i : Addr) : Obj := { cls := .type "enumerate", data := .fields #[.none, .bool false, .ref i, rawInt 0, .none, .none] }
abbrev en2 (h : Heap) (l : Addr) : Heap := (en1 h l).push (enO h.objs.size)
theorem en_new (l : Addr) (xs : Array Value) : Meets (Builtin.«enumerate.__new__» ⟨[.type "enumerate", .ref l], []⟩) (fun _ R s =>
    s.heap.IsTuple l xs ∧ R (.ok (.ret (.ref (en1 s.heap l).objs.size))) { s with heap := en2 s.heap l }) := by
  refine .of_wp fun prog w A R s h => ?_
  obtain ⟨hp, g, d, tk, os⟩ := s
  obtain ⟨⟨⟨cl, di, da, sl⟩, ob, hc, k, hd⟩, h⟩ := h
  simp only at hc hd
  subst hc
  subst hd
  have onL : Heap.IsTuple (Shared.heap ⟨hp, g, d, tk, os⟩) l xs := ⟨_, ob, rfl, k, rfl⟩
  have hsub := sub_enumerate
  wp_walk using AutoSeq1.wpAny_loadPart' ob
  refine wpAny_stack_any fun st => wpAny_pure ?_
  split
  · rename_i c _ _ _ _ _
    cases (c == Value.type "enumerate")
    all_goals (wp_walk using AutoSeq1.wpAny_loadPart' ob, wpAny_pyIter_tuple onL; exact ⟨_, rfl, h⟩)
  · wp_walk using AutoSeq1.wpAny_loadPart' ob, wpAny_pyIter_tuple onL
    exact ⟨_, rfl, h⟩
section
variable {prog : Program} {w : World} {A : Around} {E : Value → Shared → Prop} {s : Shared}
theorem en_call {l : Addr} {xs : Array Value} {Q : Value → Shared → Prop} (hl : s.heap.IsTuple l xs)
    (h : ∀ h', IsEnum h' (s.heap.objs.size + 1) s.heap.objs.size 0 .none → h'.IsTupleIter s.heap.objs.size l 0 →
      (∀ c o, s.heap.get? c = some o → h'.get? c = some o) → Q (.ref (s.heap.objs.size + 1)) { s with heap := h' }) :
    wpAny (model prog w) A (call (.type "enumerate") [.ref l]) Q E s := by
  apply callType_new F.called_enumerate (by decide) (F.typeCall_enumerate_1 _) (F.newCall_enumerate_1 _)
    (fun obj => F.args_object_init_2 obj _) F.entry_enumerate_new (en_new l xs)
  refine ⟨hl, ?_⟩
  have q1 : (en1 s.heap l).objs.size = s.heap.objs.size + 1 := Heap.size_push ..
  have up : ∀ {h : Heap} {o : Obj} {c : Addr} {u : Obj}, h.get? c = some u → (h.push o).get? c = some u := fun e => Heap.get?_push_of_some _ e
  have e2 : (en2 s.heap l).get? (en1 s.heap l).objs.size = some (enO s.heap.objs.size) := Heap.get?_push_size _ rfl
  have e1 : (en2 s.heap l).get? s.heap.objs.size = some _ := up (Heap.get?_push_size _ rfl)
  show _ ∧ _
  rw [q1] at e2
  rw [q1]
  exact ⟨⟨_, e2, rfl⟩, h _ e2 ⟨_, e1, rfl, rfl⟩ fun c o x => up (up x)⟩
end
/-- the tuple at a, each item in a new pair with its number -/
def Iet (K : PySem.W.Frag) (a : Addr) : It where
  go i H := ∃ (xs : List V) (x : V), SqT K H a xs ∧ xs[i]? = some x
  yld i H v H' := ∃ T x, v = .ref T ∧ H T = none ∧ H' = upd H T (.tup [.int (i : Nat), x]) ∧ ∀ xs, SqT K H a xs → xs[i]? = some x
  stop i H := ∃ xs : List V, SqT K H a xs ∧ xs.length = i
theorem en_turn {P : Program} {w : World} {K : PySem.W.Frag} {elts : List Expr} {kk : Nat} {tpos : Pos} {a e it : Addr} (ai : a ≠ it) (ae : a ≠ e) (ne : e ≠ it) :
    Turn P w K (.Tuple elts kk tpos) (Iet K a) [e, it] e (fun i h => (∃ old, IsEnum h e it ((i : Nat) : Int) old) ∧ h.IsTupleIter it a i) := by
  have two : ∀ {c : Addr}, c ∈ [e, it] → c = e ∨ c = it := fun h => by simpa using h
  have hef : e ∉ [it, a] := by
    simp only [List.mem_cons, List.not_mem_nil, or_false, not_or]
    exact ⟨ne, Ne.symm ae⟩
  constructor
  · exact List.mem_cons_self
  · intro i h st c hc
    obtain ⟨⟨old, he⟩, ⟨o1, e1, _, d1⟩⟩ := st
    rcases two hc with q | q
    · subst q
      exact ⟨_, he, fun v q => nomatch q⟩
    · subst q
      exact ⟨o1, e1, fun v q => by rw [d1] at q; cases q⟩
  · intro i h h' st k
    obtain ⟨⟨old, he⟩, h1⟩ := st
    exact ⟨⟨old, k e (by simp) _ he⟩, h1.at fun o q => k it (by simp) o q⟩
  · intro X hP hw hK hc i pins s σ H E I hf st hg
    subst hP
    subst hw
    subst hK
    obtain ⟨⟨old, he⟩, h1⟩ := st
    obtain ⟨xs, x, qx, gx⟩ := hg
    obtain ⟨us, rx, px, _⟩ := I.tuple qx
    obtain ⟨u, gu, ru⟩ := rx.get gx
    have lu := (List.getElem?_eq_some_iff.mp gu).1
    have elt : e < s.heap.objs.size := Heap.lt_size he
    have calm : X.A.in1.handled = none := I.ok.hd hc
    have D1 := Draws.tuple (prog := X.prog) (w := X.w) calm it a ai us.toArray
    refine wpAny_pyNext_enum_itemD D1 he ⟨h1, px⟩ (by simpa using lu) ne hef fun u' h' tk eu eo st' hT _ keep => ?_
    have eu' : u' = u := by
      have z := eu.symm.trans (show us.toArray[i]? = some u by simpa using gu)
      exact Option.some.inj z
    subst eu'
    refine ⟨_, rfl, wpAny_letOwnedTupleGo_enum (s := { s with heap := h', toks := tk + 1 }) eo fun h'' e'' sb => ?_⟩
    have hT2 : h''.get? s.heap.objs.size = some { cls := .type "tuple", data := .seq #[.int i tk, u'] } := (sb.2 _ (Nat.ne_of_gt elt)).trans hT
    have fresh : ObjOk X.prog X.w (upd H s.heap.objs.size (.tup [.int (i : Nat), x])) h'' s.heap.objs.size (.tup [.int (i : Nat), x]) := by
      refine ⟨by show 2 ≤ sizeLine; decide, [.int i tk, u'], .cons ⟨_, rfl⟩ (.cons ru .nil), ⟨_, hT2, rfl, _, rfl⟩⟩
    have J : L2.Inv X pins σ (upd H s.heap.objs.size (.tup [.int (i : Nat), x])) { s with heap := h'', toks := tk + 1 } := by
      refine I.turnedNew (t' := tk + 1) (ch := [e, it]) (fun c o nc q => ?_) hf (Nat.le_refl _) fresh
      have n1 : c ≠ e := fun z => nc (by simp [z])
      have n2 : c ≠ it := fun z => nc (by simp [z])
      exact (sb.2 c n1).trans (keep c o n1 n2 q)
    refine ⟨.ref s.heap.objs.size, _, J, rfl, ⟨_, x, rfl, I.hok.fresh (Nat.le_refl _), rfl, fun l hl => ?_⟩, ⟨⟨u', ?_⟩, ?_⟩, fun c hcm => ?_⟩
    · rw [I.tuple_inj hl qx]
      exact gx
    · rw [show ((i + 1 : Nat) : Int) = (i : Int) + 1 by omega]
      exact e''
    · exact st'.1.at fun o q => (sb.2 _ (Ne.symm ne)).trans q
    · have lt : c < s.heap.objs.size := by
        rcases two hcm with q | q
        · subst q
          exact elt
        · subst q
          obtain ⟨_, e1, _⟩ := h1
          exact Heap.lt_size e1
      rw [upd_ne (Nat.ne_of_lt lt)]
      exact (hf c hcm).1
  · intro X hP hw hK hc i pins s σ H E I hf st hg
    subst hP
    subst hw
    subst hK
    obtain ⟨⟨old, he⟩, h1⟩ := st
    obtain ⟨xs, qx, hix⟩ := hg
    obtain ⟨us, rx, px, _⟩ := I.tuple qx
    have l1 := rx.length
    have calm : X.A.in1.handled = none := I.ok.hd hc
    have D1 := Draws.tuple (prog := X.prog) (w := X.w) calm it a ai us.toArray
    refine wpAny_pyNext_enum_endD D1 he ⟨by rw [List.size_toArray, ← l1, hix]; exact h1, px⟩ fun h' eb => ⟨rfl, ?_⟩
    refine I.turnedL (t' := s.toks) (ch := [e, it]) (fun c o nc q => eb c o (fun z => nc (by simp [z])) q) hf
  · intro A i s Q E st h
    obtain ⟨⟨old, he⟩, _⟩ := st
    exact wpAny_pyIter_enum he h
def iEnT (K : PySem.W.Frag) (ta : TA) : TI := fun σ H R => ta σ H fun vs H1 => ∃ a xs, vs = [.ref a] ∧ SqT K H1 a xs ∧ R (Iet K a) H1
theorem pi_enT {X : Cx} {e : Expr} {ta : TA} {p pos tpos : Pos} {elts : List Expr} {kk : Nat} (hg : Gl X "enumerate") (hm : X.mg "enumerate" = none)
    (ha : PA X [e] ta) (hs : starEach [e] X.env = [(false, eval e X.env)] := by rfl) :
    PI X (.Tuple elts kk tpos) (.Call (.Name "enumerate" p) [e] [] pos) (iEnT X.K ta) := by
  constructor
  intro pins s σ H R I h
  refine Call_ (ld_blt I hg hm boot_enumerate (PyProof.Rows.callWith_type1 (thn (ha.run pos pins s σ H _ I h) fun us s1 ⟨vs, H1, I1, r1, q1⟩ => ?_) hs rfl))
  obtain ⟨a, xs, ex, qx, q⟩ := q1
  subst ex
  obtain ⟨u, eu, ra⟩ := vals1 r1
  subst eu
  cases ra
  obtain ⟨as_, rx, px, _⟩ := I1.tuple qx
  obtain ⟨oa, hoa, _⟩ := id px
  have alt : a < s1.heap.objs.size := Heap.lt_size hoa
  refine en_call (show s1.heap.IsTuple a as_.toArray from px) fun h' he h1 hk => wpAny_pyIter_enum he ?_
  refine ⟨s1.heap.objs.size + 1, [s1.heap.objs.size + 1, s1.heap.objs.size], _, _, H1, rfl, I1.kept (t' := s1.toks) hk,
    en_turn (Nat.ne_of_lt alt) (Nat.ne_of_lt (Nat.lt_succ_of_lt alt)) (Nat.succ_ne_self _), ⟨⟨_, he⟩, h1⟩, fun c hcm => ?_, q⟩
  have le : s1.heap.objs.size ≤ c := by
    have e' : c = s1.heap.objs.size + 1 ∨ c = s1.heap.objs.size := by simpa using hcm
    rcases e' with z | z
    all_goals (rw [z]; first | exact Nat.le_refl _ | exact Nat.le_add_right _ _)
  exact I1.fpOk le (I1.hok.fresh le)
theorem for_enT {K : PySem.W.Frag} {a : Addr} {xs : List V} {g : TG} {tb : TS} {D : Ends} {σ : L2.St} {H : Hp} (Pv : Nat → L2.St → Hp → Prop) (h0 : Pv 0 σ H)
    (hl : ∀ i σ H, i ≤ xs.length → Pv i σ H → SqT K H a xs)
    (hs : ∀ i x T σ H, xs[i]? = some x → Pv i σ H → H T = none → g (.ref T) σ (upd H T (.tup [.int (i : Nat), x])) fun σ2 H2 => tb { D with nx := Pv (i + 1), ct := Pv (i + 1), bk := D.nx } σ2 H2)
    (hd : ∀ σ H, Pv xs.length σ H → D.nx σ H) :
    ∃ W : Nat → Nat → L2.St → Hp → Prop, (∃ m, W 0 m σ H) ∧ ∀ i m σ H, W i m σ H →
      ((Iet K a).stop i H ∧ D.nx σ H) ∨ ((Iet K a).go i H ∧ ∃ N : L2.St → Hp → Prop, (∀ σ' H', N σ' H' → ∃ m', m' < m ∧ W (i + 1) m' σ' H') ∧
        ∀ x H', (Iet K a).yld i H x H' → g x σ H' fun σ2 H2 => tb { D with nx := N, ct := N, bk := D.nx } σ2 H2) := by
  refine ⟨fun i m σ H => m = xs.length - i ∧ i ≤ xs.length ∧ Pv i σ H, ⟨xs.length, by simp, Nat.zero_le _, h0⟩, fun i m σ H ⟨em, hi, p⟩ => ?_⟩
  subst em
  have z := hl i σ H hi p
  by_cases lt : i < xs.length
  · refine .inr ⟨⟨xs, xs[i], z, by simp [lt]⟩, Pv (i + 1), fun σ' H' p' => ⟨xs.length - (i + 1), by omega, rfl, lt, p'⟩, fun v H' y => ?_⟩
    obtain ⟨T, x, ev, fr, eH, hx⟩ := y
    subst ev
    subst eH
    exact hs i x T σ H (hx xs z) p fr
  · have ei : i = xs.length := by omega
    subst ei
    exact .inl ⟨⟨xs, z, rfl⟩, hd σ H p⟩
/-! ### a tuple, from its end -/
theorem filterMap_same {α β : Type} {f g : α → Option β} : ∀ {l : List α}, (∀ x ∈ l, f x = g x) → l.filterMap f = l.filterMap g
  | [], _ => rfl
  | x :: l, h => by
    rw [List.filterMap_cons, List.filterMap_cons, h x List.mem_cons_self, filterMap_same fun y hy => h y (List.mem_cons_of_mem _ hy)]
theorem pick_back (us : List Value) : ((List.range us.length).filterMap fun (k : Nat) => us.toArray[(((us.length : Nat) : Int) - 1 + (k : Int) * (-1)).toNat]?) = us.reverse := by
  have e1 : ((List.range us.length).filterMap fun (k : Nat) => us.toArray[(((us.length : Nat) : Int) - 1 + (k : Int) * (-1)).toNat]?) =
      (List.range us.length).filterMap fun (m : Nat) => us.reverse.toArray[(((0 : Nat) : Int) + (m : Int) * 1).toNat]? := by
    apply filterMap_same
    intro k hk
    have hk := List.mem_range.mp hk
    rw [show (((us.length : Nat) : Int) - 1 + (k : Int) * (-1)).toNat = us.length - 1 - k by omega, show (((0 : Nat) : Int) + (k : Int) * 1).toNat = k by omega]
    rw [List.getElem?_toArray, List.getElem?_toArray, List.getElem?_reverse hk]
  have e2 := congrArg Array.toList (HT.pick_gen us.reverse.toArray 0 us.length)
  rw [List.toList_toArray] at e2
  rw [e1, e2, List.toList_toArray, List.toList_toArray, List.drop_zero]
  exact List.take_of_length_le (by rw [List.length_reverse]; exact Nat.le_refl _)
section
variable {prog : Program} {w : World} {A : Around} {E : Value → Shared → Prop} {s : Shared}
theorem places_back (n : Nat) : Builtin.Slice.slicePlaces ((n : Int) - 1) (-1) (-1) = n := by
  unfold Builtin.Slice.slicePlaces
  have h1 : ¬ (-1 : Int) > 0 := by omega
  simp only [h1, if_false]
  split
  · rw [show -(-1 : Int) = 1 by omega, Int.ediv_one]
    omega
  · omega
theorem applied_back {sl : Addr} {vl vu vs : Value} {n : Nat} {Q : Int × Int × Nat → Shared → Prop} (hs : s.heap.IsSliceOf sl vl vu vs) (pl : IsPart vl none) (pu : IsPart vu none) (ps : IsPart vs (some (-1)))
    (h : Q ((n : Int) - 1, -1, n) s) : wpAny (model prog w) A (Builtin.Slice.sliceApplied (.ref sl) (pure (n : Int))) Q E s := by
  obtain ⟨os, hos, hcs, hds⟩ := id hs
  unfold Builtin.Slice.sliceApplied Builtin.Slice.sliceFields
  refine wpAny_bind (wpAny_bind (wpAny_field hos hds (x := vl) rfl ?_))
  refine wpAny_bind (wpAny_field hos hds (x := vu) rfl ?_)
  refine wpAny_bind (wpAny_field hos hds (x := vs) rfl (wpAny_pure ?_))
  refine wpAny_bind (HT.slicePart_ ps ?_)
  show wpAny _ _ (if ((-1 : Int) == 0) = true then _ else _) _ _ s
  rw [if_neg (by decide)]
  refine wpAny_bind (HT.slicePart_ pl ?_)
  refine wpAny_bind (HT.slicePart_ pu ?_)
  refine wpAny_bind (wpAny_pure ?_)
  show wpAny _ _ (pure ((n : Int) - 1, (-1 : Int), Builtin.Slice.slicePlaces ((n : Int) - 1) (-1) (-1))) _ _ s
  rw [places_back]
  exact wpAny_pure h
theorem item_back {t sl : Addr} {us : List Value} {vl vu vs : Value} {Q : Value → Shared → Prop} (ht : IsTup s.heap t us.toArray) (hs : s.heap.IsSliceOf sl vl vu vs) (pl : IsPart vl none) (pu : IsPart vu none) (ps : IsPart vs (some (-1)))
    (h : Q (.ref s.heap.objs.size) { s with heap := s.heap.push { cls := .type "tuple", data := .seq us.reverse.toArray } }) (le : us.length ≤ sizeLine) : wpAny (model prog w) A (getItem (.ref t) (.ref sl)) Q E s := by
  obtain ⟨os, hos, hcs, hds⟩ := id hs
  have ty : s.TypeIs (.ref sl) "slice" := ⟨os, hos, hcs⟩
  have ok : sizeOk (.seq us.reverse.toArray) := by
    show us.reverse.toArray.size ≤ sizeLine
    rw [List.size_toArray, List.length_reverse]
    exact le
  unfold getItem
  try with_reducible refine wpAny_holding ?_
  first | refine wpAny_bind (wpAny_pure ?_) | skip
  refine wpAny_bind (wpAny_sequenceKey ht.typeIs (by decide) ?_)
  refine wpAny_bind (wpAny_callSpecial?_slot (name := Str.ofString "__getitem__") ht.typeIs slot_tuple_getitem ?_)
  refine wpAny_call_entry slot_tuple_getitem ht.typeIs entry_tuple_getitem ?_ (args_tuple_getitem _ _)
  show wpAny _ _ (Builtin.Tuple.tupleItemsOf (.ref t) >>= _) _ _ s
  refine wpAny_bind (tupleItemsOf_ ht (wpAny_bind (wpAny_typeOf ty ?_)))
  rw [if_pos (by decide)]
  refine wpAny_bind (applied_back hs pl pu ps ?_)
  have no : ¬ ((((us.toArray.size : Nat) : Int) - 1 == 0 && (-1 : Int) == 1 && us.toArray.size == us.toArray.size) = true) := by
    rw [show ((-1 : Int) == 1) = false from rfl, Bool.and_false, Bool.false_and]
    exact Bool.false_ne_true
  show wpAny _ _ (if ((((us.toArray.size : Nat) : Int) - 1 == 0 && (-1 : Int) == 1 && us.toArray.size == us.toArray.size) = true) then _ else _) _ _ s
  rw [if_neg no, List.size_toArray, pick_back]
  first
    | exact wpAny_bind (m := Builtin.Tuple.tupleExact _) (wpAny_newObj_type (wpAny_pure ⟨_, rfl, wpAny_pure h⟩) ok)
    | exact wpAny_bind (wpAny_bind (m := Builtin.Tuple.tupleExact _) (wpAny_newObj_type (wpAny_pure (wpAny_pure ⟨_, rfl, wpAny_pure h⟩)) ok))
    | exact wpAny_bind (wpAny_bind (m := Builtin.Tuple.tupleExact _) (wpAny_newObj_type (wpAny_pure ⟨_, rfl, wpAny_pure h⟩) ok))
end
def tRevT (K : PySem.W.Frag) (te : TE) : TE := fun σ H Q => te σ H fun x H1 => ∃ a xs, x = .ref a ∧ SqT K H1 a xs ∧ ∀ p, H1 p = none → Q (.ref p) (upd H1 p (.tup xs.reverse))
theorem pe_revT {X : Cx} {e : Expr} {te : TE} {k : Nat} {p1 p2 p3 pos : Pos} (he : PE X e te) : PE X (.Subscript e (.Slice none none (some (.UnaryOp .USub (.Constant (.int 1) k p1) p2)) p3) pos) (tRevT X.K te) := by
  constructor
  intro pins s σ H Q I h
  refine Subscript_ (thn (he.run pins s σ H _ I h) fun v s1 ⟨x, H1, I1, r1, a, xs, ex, hx, q⟩ => ?_)
  subst ex
  cases r1
  have st : PO X (some (.UnaryOp .USub (.Constant (.int 1) k p1) p2)) (tPart (tUn (rU fun i => .int (-i)) (tC (.int 1)))) := po_some (pe_un un_neg pe_int)
  refine wpAny_Slice ?_
  refine thn (po_none.run pins s1 σ H1 (fun o G => o = none ∧ G = H1) I1 ⟨rfl, rfl⟩) fun vl s2 ⟨o2, G2, I2, pl, e2, g2⟩ => ?_
  subst e2
  subst g2
  refine thn (po_none.run pins s2 σ G2 (fun o G => o = none ∧ G = G2) I2 ⟨rfl, rfl⟩) fun vu s3 ⟨o3, G3, I3, pu, e3, g3⟩ => ?_
  subst e3
  subst g3
  refine thn (st.run pins s3 σ G3 (fun o G => o = some (-1) ∧ G = G3) I3 ⟨1, rfl, -1, rfl, rfl, rfl⟩) fun vs s4 ⟨o4, G4, I4, ps, e4, g4⟩ => ?_
  subst e4
  subst g4
  have J : L2.Inv X pins σ G4 { s4 with heap := s4.heap.push { cls := .type "slice", data := .fields #[vl, vu, vs] } } := I4.kept (t' := s4.toks) fun b ob q => Heap.get?_push_of_some _ q
  obtain ⟨its, r, ht, hz⟩ := J.tuple hx
  have len := r.length
  refine tail_any (ops := [.ref a, .ref s4.heap.objs.size]) ht.typeIs slot_tuple_getitem.lookup ?_ (by with_unfolding_all rfl)
  refine item_back ht (Heap.IsSliceOf.new _ vl vu vs) pl pu ps ?_ (by omega)
  refine ⟨.ref _, _, J.laid (t' := s4.toks) (o := .tup xs.reverse) (fun b ob q => Heap.get?_push_of_some _ q) (Nat.le_refl _) ?_, rfl, q _ (J.hok.fresh (Nat.le_refl _))⟩
  exact ⟨by rw [List.length_reverse]; exact hz, _, r.reverse, ⟨_, Heap.get?_push_size _ rfl, rfl, _, rfl⟩⟩
/-! ### data, dicts among it -/
structure Neat (d : PyData) (n e : Nat) : Prop where
  sh : d.showable = true
  dp : d.depth ≤ e
  ln : d.shown.length ≤ n
theorem Neat.mono {d : PyData} {n n' e e' : Nat} (h : Neat d n e) (h1 : n ≤ n') (h2 : e ≤ e') : Neat d n' e' := ⟨h.sh, Nat.le_trans h.dp h2, Nat.le_trans h.ln h1⟩
theorem Fine.neat {d : PyData} {n e : Nat} (h : Fine d n e) : Neat d n e := ⟨h.sh, h.dp, h.ln⟩
theorem neat_list {ds : List PyData} {n e : Nat} (h : ∀ d ∈ ds, Neat d n e) : Neat (.list ds) (ds.length * (n + 2) + 2) (e + 1) := by
  refine ⟨showableAll_of fun d hd => (h d hd).sh, ?_, ?_⟩
  · rw [PyData.depth]
    have := depthAll_of (ds := ds) (e := e) fun d hd => (h d hd).dp
    omega
  · rw [PyData.shown]
    exact Nat.le_trans (listText_le _) (Nat.add_le_add_right (piled_of fun d hd => (h d hd).ln) 2)
theorem neat_tuple {ds : List PyData} {n e : Nat} (h : ∀ d ∈ ds, Neat d n e) : Neat (.tuple ds) (ds.length * (n + 2) + 3) (e + 1) := by
  refine ⟨showableAll_of fun d hd => (h d hd).sh, ?_, ?_⟩
  · rw [PyData.depth]
    have := depthAll_of (ds := ds) (e := e) fun d hd => (h d hd).dp
    omega
  · rw [PyData.shown]
    exact Nat.le_trans (tupleText_le _) (Nat.add_le_add_right (piled_of fun d hd => (h d hd).ln) 3)
mutual
inductive Dv (K : PySem.W.Frag) (H : Hp) (B : List Addr) : V → PyData → Prop
  | non : Dv K H B .non .none
  | bl (b : Bool) : Dv K H B (.bl b) (.bool b)
  | int (i : Int) : Dv K H B (.int i) (.int i)
  | str (x : Str) : Dv K H B (.str x) (.str x)
  | lst {p : Addr} {xs : List V} {ds : List PyData} : H p = some (.lst xs) → p ∉ B → DvAll K H B xs ds → Dv K H B (.ref p) (.list ds)
  | tup {p : Addr} {xs : List V} {ds : List PyData} : SqT K H p xs → DvAll K H B xs ds → Dv K H B (.ref p) (.tuple ds)
  | dic {p : Addr} : H p = some (.dK []) → Dv K H B (.ref p) (.dict [])
inductive DvAll (K : PySem.W.Frag) (H : Hp) (B : List Addr) : List V → List PyData → Prop
  | nil : DvAll K H B [] []
  | cons {v : V} {vs : List V} {d : PyData} {ds : List PyData} : Dv K H B v d → DvAll K H B vs ds → DvAll K H B (v :: vs) (d :: ds)
end
/-- what a deck may do -/
structure Mv (B : List Addr) (H H' : Hp) : Prop where
  st : Stay H H'
  kp : ∀ b o, b ∉ B → H b = some o → H' b = some o
theorem Mv.of_same {B : List Addr} {H H' : Hp} (h : Same H H') : Mv B H H' := ⟨.of_same h, fun b o _ e => h b o e⟩
theorem Mv.of_keep {a c : Addr} {B : List Addr} {H H' : Hp} {k : Int} (h : Keep a c H H') (d : Deck H a c k) (ha : a ∈ B) (hc : c ∈ B) : Mv B H H' :=
  ⟨h.stay d, fun b o n e => h b o (fun z => n (by rw [z]; exact ha)) (fun z => n (by rw [z]; exact hc)) e⟩
theorem Mv.of_list {B : List Addr} {H : Hp} {D : Addr} {us ws : List V} (h : H D = some (.lst us)) (hD : D ∈ B) : Mv B H (upd H D (.lst ws)) :=
  ⟨stay_list h, fun b o n e => by rw [upd_ne (fun z => n (by rw [z]; exact hD))]; exact e⟩
theorem Mv.trans {B : List Addr} {H H1 H2 : Hp} (x : Mv B H H1) (y : Mv B H1 H2) : Mv B H H2 := ⟨x.st.trans y.st, fun b o n e => y.kp b o n (x.kp b o n e)⟩
theorem Mv.refl (B : List Addr) (H : Hp) : Mv B H H := ⟨.refl _, fun _ _ _ e => e⟩
/-- all of B stands -/
def Stands (B : List Addr) (H : Hp) : Prop := ∀ b ∈ B, H b ≠ none
theorem Stands.same {B : List Addr} {H H' : Hp} (h : Stands B H) (s : Same H H') : Stands B H' := by
  intro b hb z
  cases e : H b with
  | none => exact h b hb e
  | some o =>
    rw [s _ _ e] at z
    cases z
theorem Stands.new {B : List Addr} {H : Hp} {p : Addr} (h : Stands B H) (np : H p = none) : p ∉ B := fun z => h p z np
section
variable {K : PySem.W.Frag} {H H' : Hp} {B : List Addr}
mutual
theorem Dv.mv (s : Mv B H H') : ∀ (d : PyData) (v : V), Dv K H B v d → Dv K H' B v d
  | .none, _, h => by
    cases h
    exact .non
  | .bool b, _, h => by
    cases h
    exact .bl b
  | .int i, _, h => by
    cases h
    exact .int i
  | .str x, _, h => by
    cases h
    exact .str x
  | .list ds, _, h => by
    cases h with
    | lst hs n1 ha => exact .lst (s.kp _ _ n1 hs) n1 (DvAll.mv s ds _ ha)
  | .tuple ds, _, h => by
    cases h with
    | tup hs ha => exact .tup (stay_tup s.st hs) (DvAll.mv s ds _ ha)
  | .dict _, _, h => by
    cases h with
    | dic hs => exact .dic (s.st _ _ (by intro xs z; cases z) hs)
theorem DvAll.mv (s : Mv B H H') : ∀ (ds : List PyData) (vs : List V), DvAll K H B vs ds → DvAll K H' B vs ds
  | [], _, h => by
    cases h
    exact .nil
  | d :: ds, _, h => by
    cases h with
    | cons h1 h2 => exact .cons (Dv.mv s d _ h1) (DvAll.mv s ds _ h2)
end
theorem Dv.same (s : Same H H') {d : PyData} {v : V} (h : Dv K H B v d) : Dv K H' B v d := Dv.mv (.of_same s) d v h
theorem DvAll.same (s : Same H H') {ds : List PyData} {vs : List V} (h : DvAll K H B vs ds) : DvAll K H' B vs ds := DvAll.mv (.of_same s) ds vs h
theorem DvAll.len : ∀ {vs : List V} {ds : List PyData}, DvAll K H B vs ds → vs.length = ds.length
  | _, _, .nil => rfl
  | _, _, .cons _ b => congrArg Nat.succ (DvAll.len b)
theorem DvAll.get : ∀ {vs : List V} {ds : List PyData}, DvAll K H B vs ds → ∀ {i : Nat} {v : V}, vs[i]? = some v → ∃ d, ds[i]? = some d ∧ Dv K H B v d
  | _, _, .nil, i, v, h => by cases h
  | _, _, .cons x r, 0, v, h => by
    cases h
    exact ⟨_, rfl, x⟩
  | _, _, .cons x r, i + 1, v, h => DvAll.get r (i := i) h
theorem DvAll.mem : ∀ {vs : List V} {ds : List PyData}, DvAll K H B vs ds → ∀ {v : V}, v ∈ vs → ∃ d, d ∈ ds ∧ Dv K H B v d
  | _, _, .nil, v, h => by cases h
  | _, _, .cons x r, v, h => by
    rcases List.mem_cons.mp h with e | e
    · subst e
      exact ⟨_, List.mem_cons_self, x⟩
    · obtain ⟨d, h1, h2⟩ := DvAll.mem r e
      exact ⟨d, List.mem_cons_of_mem _ h1, h2⟩
theorem DvAll.take : ∀ {vs : List V} {ds : List PyData}, DvAll K H B vs ds → ∀ n, DvAll K H B (vs.take n) (ds.take n)
  | _, _, .nil, n => by
    rw [List.take_nil, List.take_nil]
    exact .nil
  | _, _, .cons x r, 0 => .nil
  | _, _, .cons x r, n + 1 => .cons x (DvAll.take r n)
theorem DvAll.drop : ∀ {vs : List V} {ds : List PyData}, DvAll K H B vs ds → ∀ n, DvAll K H B (vs.drop n) (ds.drop n)
  | _, _, .nil, n => by
    rw [List.drop_nil, List.drop_nil]
    exact .nil
  | _, _, .cons x r, 0 => .cons x r
  | _, _, .cons x r, n + 1 => DvAll.drop r n
theorem DvAll.app : ∀ {vs : List V} {ds : List PyData}, DvAll K H B vs ds → ∀ {us : List V} {es : List PyData}, DvAll K H B us es → DvAll K H B (vs ++ us) (ds ++ es)
  | _, _, .nil, _, _, h => h
  | _, _, .cons x r, _, _, h => .cons x (DvAll.app r h)
theorem DvAll.back : ∀ {vs : List V} {ds : List PyData}, DvAll K H B vs ds → DvAll K H B vs.reverse ds.reverse
  | _, _, .nil => .nil
  | _, _, .cons x r => by
    rw [List.reverse_cons, List.reverse_cons]
    exact DvAll.app (DvAll.back r) (.cons x .nil)
theorem DvAll.many {vs : List V} {ds : List PyData} (h : DvAll K H B vs ds) : ∀ n : Nat, DvAll K H B (List.replicate n vs).flatten (List.replicate n ds).flatten
  | 0 => .nil
  | n + 1 => by
    rw [List.replicate_succ, List.replicate_succ, List.flatten_cons, List.flatten_cons]
    exact h.app (h.many n)
end
/-- the type's name -/
def kindOf : PyData → String
  | .none => "NoneType"
  | .bool _ => "bool"
  | .int _ => "int"
  | .str _ => "str"
  | .list _ => "list"
  | .tuple _ => "tuple"
  | .dict _ => "dict"
theorem Dv.ty {K : PySem.W.Frag} {H : Hp} {B : List Addr} {v : V} {d : PyData} (h : Dv K H B v d) : TyX K H v (.type (kindOf d)) := by
  cases h with
  | non => exact .base .non
  | bl b => exact .base (.bl b)
  | int i => exact .base (.int i)
  | str x => exact .base (.str x)
  | lst hs _ _ => exact .base (.lst hs)
  | tup hs _ =>
    rcases hs with (h | ⟨o, h⟩) | ⟨o, its, n, hk, hc, _⟩
    · exact .base (.tup h)
    · exact .fTuple h
    · exact .kTuple hk hc
  | dic hs => exact .base (.dK hs)
/-- isinstance of data -/
def isT (d : PyData) : Bool := match d with
  | .tuple _ => true
  | _ => false
def isI (d : PyData) : Bool := match d with
  | .int _ => true
  | .bool _ => true
  | _ => false
def isB (d : PyData) : Bool := match d with
  | .bool _ => true
  | _ => false
section
variable {X : Cx}
theorem kisi (K : PySem.W.Frag) (hK : X.K = K := by rfl) : CallR X (.builtin "isinstance") (rIsi K) := by
  subst hK
  exact call_isi
end
section
variable {K : PySem.W.Frag} {H : Hp} {B : List Addr} {v : V} {d : PyData} {Q : VK}
theorem kit_tuple : PySem.W.kitOne K (.type (kindOf d)) (.type "tuple") = some (isT d) := kit_ty (by cases d <;> rfl)
theorem kit_int : PySem.W.kitOne K (.type (kindOf d)) (.type "int") = some (isI d) := kit_ty (by cases d <;> rfl)
theorem kit_bool : PySem.W.kitOne K (.type (kindOf d)) (.type "bool") = some (isB d) := kit_ty (by cases d <;> rfl)
end
/-! ### repr of such data -/
section
variable {X : Cx} {pins : List (Addr × Obj)} {σ : L2.St} {H : Hp} {s : Shared} {B : List Addr}
mutual
theorem Dv.reads (I : L2.Inv X pins σ H s) (sys : ∃ o, X.base.get? sysModules = some o) : ∀ (d : PyData) (v : V) (u : Value), Dv X.K H B v d → RelV v u → ∃ as, Reads s.heap u d as ∧ sysModules ∉ as
  | .none, _, _, h, r => by
    cases h
    cases r
    exact ⟨_, Reads.none, List.not_mem_nil⟩
  | .bool b, _, _, h, r => by
    cases h
    cases r
    exact ⟨_, Reads.bool b, List.not_mem_nil⟩
  | .int i, _, _, h, r => by
    cases h
    obtain ⟨t, e⟩ := r
    subst e
    exact ⟨_, Reads.int i t, List.not_mem_nil⟩
  | .str x, _, _, h, r => by
    cases h
    obtain ⟨t, e⟩ := r
    subst e
    exact ⟨_, Reads.str x t, List.not_mem_nil⟩
  | .list ds, _, _, h, r => by
    cases h with
    | @lst p xs _ hs _ ha =>
      cases r
      obtain ⟨its, rv, ⟨o, n, ho, hc, _, hd⟩, _⟩ := I.list (SqL.of hs)
      obtain ⟨as, hr, no⟩ := DvAll.reads I sys ds _ its ha rv
      refine ⟨_, Reads.list ho hc hd hr, fun z => ?_⟩
      rcases List.mem_cons.mp z with e | e
      · obtain ⟨o, ho⟩ := sys
        have := (I.bs _ o ho).2
        rw [e, hs] at this
        cases this
      · exact no e
  | .tuple ds, _, _, h, r => by
    cases h with
    | tup hs ha =>
      cases r
      obtain ⟨its, rv, ⟨o, ho, hc, n, hd⟩, _⟩ := I.tuple hs
      obtain ⟨as, hr, no⟩ := DvAll.reads I sys ds _ its ha rv
      exact ⟨_, Reads.tuple ho hc hd hr, no⟩
  | .dict _, _, _, h, r => by
    cases h with
    | @dic p hs =>
      cases r
      obtain ⟨_, nsm, vs, kv, o, es, ep, ho, ex, hd, hk, he, _⟩ := (show ObjOk X.prog X.w H s.heap p (.dK []) from I.hok p _ hs)
      cases kv
      have ez : es.toList = [] := by
        generalize es.toList = l at he
        cases he
        rfl
      have k1 : es.toList.map (·.key) = [] := by rw [ez]; rfl
      have k2 : es.toList.map (·.val) = [] := by rw [ez]; rfl
      refine ⟨[p] ++ [] ++ [], Reads.dict (as := []) (bs := []) ho ex.1 hd (by rw [k1]; exact .nil) (by rw [k2]; exact .nil), fun z => ?_⟩
      have z : sysModules = p := by simpa using z
      rw [← z] at nsm
      exact absurd (beq_self_eq_true sysModules) (by rw [nsm]; exact Bool.false_ne_true)
theorem DvAll.reads (I : L2.Inv X pins σ H s) (sys : ∃ o, X.base.get? sysModules = some o) : ∀ (ds : List PyData) (vs : List V) (us : List Value), DvAll X.K H B vs ds → Vals vs us → ∃ as, ReadsAll s.heap us ds as ∧ sysModules ∉ as
  | [], _, _, h, r => by
    cases h
    cases r
    exact ⟨_, ReadsAll.nil, List.not_mem_nil⟩
  | d :: ds, _, _, h, r => by
    cases h with
    | cons h1 h2 =>
      cases r with
      | cons r1 r2 =>
        obtain ⟨as, q1, n1⟩ := Dv.reads I sys d _ _ h1 r1
        obtain ⟨bs, q2, n2⟩ := DvAll.reads I sys ds _ _ h2 r2
        exact ⟨_, ReadsAll.cons q1 q2, fun z => (List.mem_append.mp z).elim n1 n2⟩
end
end
/-- repr(v), v data of any kind -/
def rReprV (K : PySem.W.Frag) : List V → Hp → VK → Prop := fun xs H Q => ∃ (v : V) (d : PyData) (B : List Addr), xs = [v] ∧ Dv K H B v d ∧ Neat d 16000000 60 ∧ Q (.str d.shown) H
theorem kreprV {X : Cx} (K : PySem.W.Frag) (sys : ∃ o, X.base.get? sysModules = some o) (hgd : X.A.guards = some []) (hu : X.A.units + 64 < cLine) (hK : X.K = K := by rfl) : CallR X (.builtin "repr") (rReprV K) := by
  subst hK
  intro pins s σ H xs us Q I r h
  obtain ⟨v, d, B, e, hd, nt, q⟩ := h
  subst e
  obtain ⟨u, e, rx⟩ := vals1 r
  subst e
  have big : (16000000 : Nat) ≤ sizeLine := by decide
  have isref : ∀ p : Addr, v = .ref p → wpAny (model X.prog X.w) X.A (call (.builtin "repr") [u]) (EP X pins σ Q) X.xe s := by
    intro p ev
    subst ev
    obtain ⟨as, rd, no⟩ := Dv.reads I sys d _ _ hd rx
    cases rx
    have dp := nt.dp
    refine repr_of_reads' rd nt.sh (fun _ => no) hgd (by omega) (fun b o e => e) (fun h' u tk hk => ?_) (Nat.le_trans nt.ln big)
    exact ⟨.str d.shown, H, I.kept hk, ⟨u, rfl⟩, q⟩
  cases hd with
  | non =>
    cases rx
    exact PySem.P.repr_of_none ⟨.str _, H, I.tok _, ⟨_, rfl⟩, q⟩
  | bl b =>
    cases rx
    refine PySem.P.repr_of_bool ⟨.str _, H, I.tok _, ⟨_, rfl⟩, ?_⟩
    exact q
  | int i =>
    obtain ⟨t, e⟩ := rx
    subst e
    have sh := nt.sh
    exact PySem.P.repr_of_int (by simpa [PyData.showable] using sh) ⟨.str _, H, I.tok _, ⟨_, rfl⟩, q⟩
  | str x =>
    obtain ⟨t, e⟩ := rx
    subst e
    exact PySem.P.repr_of_str ⟨.str _, H, I.tok _, ⟨_, rfl⟩, q⟩ (Nat.le_trans nt.ln big)
  | lst _ _ _ => exact isref _ rfl
  | tup _ _ => exact isref _ rfl
  | dic _ => exact isref _ rfl
theorem Stands.keep {a c : Addr} {B : List Addr} {H H' : Hp} {k : Int} (h : Stands B H) (kp : Keep a c H H') (d : Deck H' a c k) : Stands B H' := by
  intro b hb z
  by_cases za : b = a
  · subst za
    obtain ⟨ns, j, _, h2, _⟩ := d
    rw [h2] at z
    cases z
  · by_cases zc : b = c
    · subst zc
      obtain ⟨ns, j, _, _, h3, _⟩ := d
      rw [h3] at z
      cases z
    · cases e : H b with
      | none => exact h b hb e
      | some o =>
        rw [kp _ _ za zc e] at z
        cases z
/-! ### the first error of a tool -/
def isNum (d : PyData) : Bool := match d with
  | .int _ => true
  | _ => false
def inB (lo hi : Int) (d : PyData) : Bool := match d with
  | .int i => decide (lo ≤ i) && decide (i ≤ hi)
  | _ => false
def tupIn (lo hi : Int) (d : PyData) : Bool := match d with
  | .tuple ds => decide (lo ≤ (ds.length : Nat)) && decide (((ds.length : Nat) : Int) ≤ hi)
  | _ => false
def ppOf (m : Int) (d : PyData) : Option (Int × Int) := match d with
  | .tuple [.int b, .int t] => if (inB 0 (m - 1) (.int b) && inB 0 (m - 1) (.int t)) = true then some (b, t) else none
  | _ => none
def begOk (n : Nat) (ps : List (Int × Int)) (p : Int × Int) : Bool := if n = 1 then decide (p.1 = 0) else (decide (ps = []) || decide ((ps.getLastD (0, 0)).1 < p.1))
def tarOk (m : Int) (ps : List (Int × Int)) (p : Int × Int) : Bool := decide (ps = []) || decide (((ps.getLastD (0, 0)).2 - (ps.headD (0, 0)).2) % m < (p.2 - (ps.headD (0, 0)).2) % m)
def stepE (m : Int) (n : Nat) (ps : List (Int × Int)) (d : PyData) : Except Str (Int × Int) :=
  match ppOf m d with
  | none => .error "pair"
  | some p => if begOk n ps p = true then (if tarOk m ps p = true then .ok p else .error "target") else .error "begin"
def runE (m : Int) (n : Nat) : List (Int × Int) → List PyData → PyData
  | _, [] => .none
  | ps, d :: ds => match stepE m n ps d with
    | .error w => .tuple [.int (ps.length : Nat), .str w]
    | .ok p => runE m n (ps ++ [p]) ds
def errOf (m : Int) (d : PyData) : PyData := match d with
  | .tuple ds => if tupIn 1 12 d = true then runE m ds.length [] ds else .tuple [.none, .str "tool"]
  | _ => .tuple [.none, .str "tool"]
def spNum (K : PySem.W.Frag) : Sp := fun vs H Q _ => ∃ (v : V) (d : PyData) (B : List Addr), vs = [v] ∧ Dv K H B v d ∧ Q (.bl (isNum d)) H
def spNumIn (K : PySem.W.Frag) : Sp := fun vs H Q _ => ∃ (v : V) (d : PyData) (B : List Addr) (lo hi : Int), vs = [v, .int lo, .int hi] ∧ Dv K H B v d ∧ Q (.bl (inB lo hi d)) H
def spIsPl (K : PySem.W.Frag) : Sp := fun vs H Q _ => ∃ (v : V) (d : PyData) (B : List Addr) (m : Int), vs = [.int m, v] ∧ Dv K H B v d ∧ Q (.bl (inB 0 (m - 1) d)) H
def spTupIn (K : PySem.W.Frag) : Sp := fun vs H Q _ => ∃ (v : V) (d : PyData) (B : List Addr) (lo hi : Int), vs = [v, .int lo, .int hi] ∧ Dv K H B v d ∧ Q (.bl (tupIn lo hi d)) H
def spPair (K : PySem.W.Frag) : Sp := fun vs H Q _ => ∃ (v : V) (d : PyData) (B : List Addr), vs = [v] ∧ Dv K H B v d ∧ Q (.bl (tupIn 2 2 d)) H
def spPP (K : PySem.W.Frag) : Sp := fun vs H Q _ => ∃ (v : V) (d : PyData) (B : List Addr) (m : Int), vs = [.int m, v] ∧ Dv K H B v d ∧ Q (.bl (ppOf m d).isSome) H
/-- items, the pairs ps before the k-th, the pair p there -/
structure At (K : PySem.W.Frag) (H : Hp) (q : Addr) (ds : List PyData) (ps : List (Int × Int)) (k : Nat) (p : Int × Int) : Prop where
  ac : ∃ B xs, SqT K H q xs ∧ DvAll K H B xs ds
  len : ps.length = k
  pre : ds.take k = ps.map pairD
  it : ds[k]? = some (pairD p)
def spBeg (K : PySem.W.Frag) : Sp := fun vs H Q _ => ∃ (q : Addr) (ds : List PyData) (ps : List (Int × Int)) (k : Nat) (p : Int × Int), vs = [.ref q, .int (k : Nat)] ∧ At K H q ds ps k p ∧ Q (.bl (begOk ds.length ps p)) H
def spTar (K : PySem.W.Frag) : Sp := fun vs H Q _ => ∃ (m : Int) (q : Addr) (ds : List PyData) (ps : List (Int × Int)) (k : Nat) (p : Int × Int), vs = [.int m, .ref q, .int (k : Nat)] ∧ 0 < m ∧ At K H q ds ps k p ∧ Q (.bl (tarOk m ps p)) H
def wordV (r : Except Str (Int × Int)) : V := match r with
  | .error w => .str w
  | .ok _ => .non
def spItem (K : PySem.W.Frag) : Sp := fun vs H Q _ => ∃ (m : Int) (q : Addr) (B : List Addr) (xs : List V) (ds : List PyData) (ps : List (Int × Int)) (k : Nat) (d : PyData), vs = [.int m, .ref q, .int (k : Nat)] ∧ 0 < m ∧ SqT K H q xs ∧ DvAll K H B xs ds ∧
  ps.length = k ∧ ds.take k = ps.map pairD ∧ ds[k]? = some d ∧ Q (wordV (stepE m ds.length ps d)) H
def spErr (K : PySem.W.Frag) : Sp := fun vs H Q _ => ∃ (m : Int) (v : V) (d : PyData) (B : List Addr), vs = [.int m, v] ∧ 0 < m ∧ Dv K H B v d ∧
  ∀ (r : V) (H' : Hp), Same H H' → Dv K H' B r (errOf m d) → Q r H'
def spIsTool (K : PySem.W.Frag) : Sp := fun vs H Q _ => ∃ (m : Int) (v : V) (d : PyData) (B : List Addr), vs = [.int m, v] ∧ 0 < m ∧ Dv K H B v d ∧
  ∀ (b : Bool) (H' : Hp), (b = true ↔ errOf m d = .none) → Same H H' → Q (.bl b) H'
theorem dv_num {K : PySem.W.Frag} {H : Hp} {B : List Addr} {v : V} {d : PyData} (h : Dv K H B v d) (z : isNum d = true) : ∃ i, v = .int i ∧ d = .int i := by
  cases h with
  | int i => exact ⟨i, rfl, rfl⟩
  | _ => cases z
theorem dv_tup {K : PySem.W.Frag} {H : Hp} {B : List Addr} {v : V} {d : PyData} (h : Dv K H B v d) (z : isT d = true) : ∃ p xs ds, v = .ref p ∧ d = .tuple ds ∧ SqT K H p xs ∧ DvAll K H B xs ds := by
  cases h with
  | tup h1 h2 => exact ⟨_, _, _, rfl, rfl, h1, h2⟩
  | _ => cases z
theorem dv_pair {K : PySem.W.Frag} {H : Hp} {B : List Addr} {v : V} {p : Int × Int} (h : Dv K H B v (pairD p)) : ∃ q, v = .ref q ∧ SqT K H q [.int p.1, .int p.2] := by
  cases h with
  | tup h1 h2 =>
    cases h2 with
    | cons x r =>
      cases r with
      | cons y s =>
        cases s
        cases x
        cases y
        exact ⟨_, rfl, h1⟩
theorem At.pairs {K : PySem.W.Frag} {H : Hp} {q : Addr} {ds : List PyData} {ps : List (Int × Int)} {k : Nat} {p : Int × Int} (h : At K H q ds ps k p) :
    ∃ xs : List V, SqT K H q xs ∧ xs.length = ds.length ∧ (∃ r, xs[k]? = some (V.ref r) ∧ SqT K H r [.int p.1, .int p.2]) ∧
      ∀ (i : Nat) (b : Int × Int), ps[i]? = some b → ∃ r, xs[i]? = some (V.ref r) ∧ SqT K H r [.int b.1, .int b.2] := by
  obtain ⟨B, xs, hx, hd⟩ := h.ac
  have len := hd.len
  have get : ∀ (i : Nat) (b : Int × Int), ds[i]? = some (pairD b) → ∃ r, xs[i]? = some (.ref r) ∧ SqT K H r [.int b.1, .int b.2] := by
    intro i b e
    have hi := (List.getElem?_eq_some_iff.mp e).1
    have ex : xs[i]? = some (xs[i]'(by omega)) := List.getElem?_eq_getElem (by omega)
    obtain ⟨d, e2, dv⟩ := hd.get ex
    rw [e] at e2
    cases e2
    obtain ⟨r, er, hr⟩ := dv_pair dv
    exact ⟨r, by rw [ex, er], hr⟩
  refine ⟨xs, hx, len, get k p h.it, fun i b e => get i b ?_⟩
  have hi := (List.getElem?_eq_some_iff.mp e).1
  have hk := h.len
  have e2 : (ds.take k)[i]? = some (pairD b) := by
    rw [h.pre, List.getElem?_map, e]
    rfl
  rw [List.getElem?_take, if_pos (by omega)] at e2
  exact e2
theorem getLastD_at {ps : List (Int × Int)} (h : ps ≠ []) : ps[ps.length - 1]? = some (ps.getLastD (0, 0)) := getLastD_eq h
theorem headD_at {ps : List (Int × Int)} (h : ps ≠ []) : ps[0]? = some (ps.headD (0, 0)) := by
  cases ps with
  | nil => exact absurd rfl h
  | cons x r => rfl
theorem pp_pair {m : Int} {d : PyData} {p : Int × Int} (h : ppOf m d = some p) : d = pairD p ∧ (0 ≤ p.1 ∧ p.1 < m) ∧ 0 ≤ p.2 ∧ p.2 < m := by
  unfold ppOf at h
  split at h
  · split at h
    · rename_i b t z
      cases h
      rw [Bool.and_eq_true] at z
      have z1 : (decide (0 ≤ b) && decide (b ≤ m - 1)) = true := z.1
      have z2 : (decide (0 ≤ t) && decide (t ≤ m - 1)) = true := z.2
      rw [Bool.and_eq_true] at z1 z2
      have a1 := of_decide_eq_true z1.1
      have a2 := of_decide_eq_true z1.2
      have a3 := of_decide_eq_true z2.1
      have a4 := of_decide_eq_true z2.2
      refine ⟨rfl, ⟨a1, ?_⟩, a3, ?_⟩
      · show b < m
        omega
      · show t < m
        omega
    · cases h
  · cases h
theorem step_ok {m : Int} {n : Nat} {ps : List (Int × Int)} {d : PyData} {p : Int × Int} (h : stepE m n ps d = .ok p) : ppOf m d = some p ∧ begOk n ps p = true ∧ tarOk m ps p = true := by
  unfold stepE at h
  split at h
  · cases h
  · rename_i p' e
    split at h
    · split at h
      · rename_i b t
        cases h
        exact ⟨e, b, t⟩
      · cases h
    · cases h
theorem run_err {m : Int} {n : Nat} {ps : List (Int × Int)} {d : PyData} {ds : List PyData} {w : Str} (h : stepE m n ps d = .error w) : runE m n ps (d :: ds) = .tuple [.int (ps.length : Nat), .str w] := by
  rw [runE, h]
theorem run_ok {m : Int} {n : Nat} {ps : List (Int × Int)} {d : PyData} {ds : List PyData} {p : Int × Int} (h : stepE m n ps d = .ok p) : runE m n ps (d :: ds) = runE m n (ps ++ [p]) ds := by
  rw [runE, h]
/-! ### the law's own way to the first error -/
def rNeNil (K : PySem.W.Frag) : R2 := fun x y H Q => ∃ a b xs, x = .ref a ∧ y = .ref b ∧ SqL K H a xs ∧ SqL K H b [] ∧ Q (.bl (!xs.isEmpty)) H
theorem kneNil {X : Cx} (K : PySem.W.Frag) (hu : X.A.units + 64 < cLine) (hK : X.K = K := by rfl) : OpR X (compareOp .NotEq) (rNeNil K) := by
  subst hK
  intro pins s σ H x y v u Q I rx ry h
  obtain ⟨a, b, xs, ex, ey, ha, hb, q⟩ := h
  subst ex
  subst ey
  cases rx
  cases ry
  obtain ⟨its, r1, p1, _⟩ := I.list ha
  obtain ⟨its2, r2, p2, _⟩ := I.list hb
  cases r2
  have room : X.A.units < cLine := by omega
  cases r1 with
  | nil =>
    have z := PySem.SeqAt.RcNeAt.lists (A := X.A) (s := s) (e := fun _ => true) p1.isList p2.isList rfl room (fun j j1 _ => absurd j1 (by simp))
    exact z X.prog X.w X.xe _ ⟨.bl _, H, I, rfl, q⟩
  | cons r rr =>
    have z := PySem.SeqAt.RcNeAt.lists_lengths (A := X.A) (s := s) p1.isList p2.isList (by simp) room
    exact z X.prog X.w X.xe _ ⟨.bl _, H, I, rfl, q⟩
structure Asc (m : Int) (ps : List (Int × Int)) : Prop where
  bs : ps.Pairwise (fun x y => x.1 < y.1)
  ts : ps.Pairwise (fun x y => (x.2 - (ps.headD (0, 0)).2) % m < (y.2 - (ps.headD (0, 0)).2) % m)
theorem last_split {ps : List (Int × Int)} (h : ps ≠ []) : ∃ r, ps = r ++ [ps.getLastD (0, 0)] := by
  refine ⟨ps.dropLast, ?_⟩
  have e : ps.getLastD (0, 0) = ps.getLast h := by
    cases ps with
    | nil => exact absurd rfl h
    | cons x r => rfl
  rw [e, List.dropLast_concat_getLast]
theorem Asc.last {m : Int} {ps : List (Int × Int)} (h : Asc m ps) (ne : ps ≠ []) : ∀ b ∈ ps, b.1 ≤ (ps.getLastD (0, 0)).1 ∧ (b.2 - (ps.headD (0, 0)).2) % m ≤ ((ps.getLastD (0, 0)).2 - (ps.headD (0, 0)).2) % m := by
  intro b hb
  obtain ⟨r, e⟩ := last_split ne
  have h1 := h.bs
  have h2 := h.ts
  generalize (ps.headD (0, 0)).2 = f at h2 ⊢
  generalize ps.getLastD (0, 0) = l at e ⊢
  rw [e, List.pairwise_append] at h1 h2
  rw [e, List.mem_append] at hb
  rcases hb with z | z
  · have a := h1.2.2 b z l List.mem_cons_self
    have c := h2.2.2 b z l List.mem_cons_self
    omega
  · rw [List.mem_singleton.mp z]
    omega
theorem Asc.snoc {m : Int} {ps : List (Int × Int)} {p : Int × Int} (h : Asc m ps) (hp : ps ≠ [] → (ps.getLastD (0, 0)).1 < p.1 ∧ ((ps.getLastD (0, 0)).2 - (ps.headD (0, 0)).2) % m < (p.2 - (ps.headD (0, 0)).2) % m) : Asc m (ps ++ [p]) := by
  by_cases ne : ps = []
  · subst ne
    exact ⟨List.pairwise_singleton _ _, List.pairwise_singleton _ _⟩
  · have l := h.last ne
    have q := hp ne
    have eh : (ps ++ [p]).headD (0, 0) = ps.headD (0, 0) := by
      cases ps with
      | nil => exact absurd rfl ne
      | cons x r => rfl
    refine ⟨?_, ?_⟩
    · rw [List.pairwise_append]
      refine ⟨h.bs, List.pairwise_singleton _ _, fun x hx y hy => ?_⟩
      rw [List.mem_singleton.mp hy]
      have := l x hx
      omega
    · rw [eh, List.pairwise_append]
      refine ⟨h.ts, List.pairwise_singleton _ _, fun x hx y hy => ?_⟩
      rw [List.mem_singleton.mp hy]
      have := l x hx
      omega
def rowsOf (m : Int) (ps : List (Int × Int)) : List Int := ps.map fun b => (b.2 - (ps.headD (0, 0)).2) % m
theorem rows_snoc {m : Int} {ps : List (Int × Int)} (p : Int × Int) : rowsOf m (ps ++ [p]) = rowsOf m ps ++ [(p.2 - ((ps ++ [p]).headD (0, 0)).2) % m] := by
  unfold rowsOf
  rw [List.map_append]
  cases ps with
  | nil => rfl
  | cons x r => rfl
theorem some_filter {n : Nat} (b : Nat → Bool) (f : Nat → V) : (((List.range n).filter b).map f).isEmpty = !((List.range n).any b) := by
  rw [Bool.eq_iff_iff]
  simp
theorem pre_get {K : PySem.W.Frag} {H : Hp} {B : List Addr} {xs : List V} {ds : List PyData} {qs : List (Int × Int)} {n : Nat} (hd : DvAll K H B xs ds) (pre : ds.take n = qs.map pairD) {k : Nat} {b : Int × Int} (e : qs[k]? = some b) :
    ∃ r, xs[k]? = some (V.ref r) ∧ SqT K H r [.int b.1, .int b.2] := by
  have e2 : (ds.take n)[k]? = some (pairD b) := by
    rw [pre, List.getElem?_map, e]
    rfl
  have hk : k < n := by
    have h1 := (List.getElem?_eq_some_iff.mp e2).1
    rw [List.length_take] at h1
    omega
  rw [List.getElem?_take, if_pos hk] at e2
  have hi := (List.getElem?_eq_some_iff.mp e2).1
  have len := hd.len
  have ex : xs[k]? = some (xs[k]'(by omega)) := List.getElem?_eq_getElem (by omega)
  obtain ⟨d, e3, dv⟩ := hd.get ex
  rw [e2] at e3
  cases e3
  obtain ⟨r, er, hr⟩ := dv_pair dv
  exact ⟨r, by rw [ex, er], hr⟩
theorem pp_some (m : Int) (d0 d1 : PyData) : (ppOf m (.tuple [d0, d1])).isSome = (inB 0 (m - 1) d0 && inB 0 (m - 1) d1) := by
  cases d0 <;> cases d1 <;> first
    | rfl
    | exact (Bool.and_false _).symm
    | (rename_i b t
       unfold ppOf
       by_cases z : (inB 0 (m - 1) (.int b) && inB 0 (m - 1) (.int t)) = true
       · simp only [z, if_true]
         rfl
       · simp only [z]
         rfl)
theorem step_pp {m : Int} {n : Nat} {ps : List (Int × Int)} {d : PyData} {p : Int × Int} (h : ppOf m d = some p) :
    stepE m n ps d = if begOk n ps p = true then (if tarOk m ps p = true then .ok p else .error "target") else .error "begin" := by
  unfold stepE
  rw [h]
/-- how the law looks at the begins -/
theorem beg_law {n : Nat} {m : Int} {ps : List (Int × Int)} {p : Int × Int} (asc : Asc m ps) (h0 : 0 ≤ p.1) (hn : n = 1 → ps = []) :
    ((List.range ps.length).any (fun k => decide (p.1 ≤ (ps.getD k (0, 0)).1)) || (decide (n = 1) && decide (0 < p.1))) = !begOk n ps p := by
  unfold begOk
  by_cases n1 : n = 1
  · have e := hn n1
    subst e
    rw [if_pos n1, decide_eq_true n1]
    by_cases z : p.1 = 0
    · rw [decide_eq_true z, decide_eq_false (p := 0 < p.1) (by omega)]
      rfl
    · rw [decide_eq_false z, decide_eq_true (p := 0 < p.1) (by omega)]
      rfl
  · rw [if_neg n1, decide_eq_false n1, Bool.false_and, Bool.or_false]
    by_cases ne : ps = []
    · subst ne
      rfl
    · rw [decide_eq_false ne, Bool.false_or]
      have l := asc.last ne
      by_cases z : (ps.getLastD (0, 0)).1 < p.1
      · rw [decide_eq_true z]
        rw [List.any_eq_false.mpr]
        · rfl
        · intro k hk w
          have hk := List.mem_range.mp hk
          have hm : ps.getD k (0, 0) ∈ ps := by
            rw [List.getD_eq_getElem?_getD, List.getElem?_eq_getElem hk]
            exact List.getElem_mem _
          have := l _ hm
          have := of_decide_eq_true w
          omega
      · rw [decide_eq_false z]
        rw [List.any_eq_true.mpr]
        · rfl
        · have pos : 0 < ps.length := List.length_pos_iff.mpr ne
          refine ⟨ps.length - 1, List.mem_range.mpr (by omega), decide_eq_true ?_⟩
          rw [List.getD_eq_getElem?_getD, getLastD_at ne]
          show p.1 ≤ (ps.getLastD (0, 0)).1
          omega
/-- how the law looks at the targets -/
theorem tar_law {m M : Int} {ps : List (Int × Int)} {p : Int × Int} (asc : Asc m ps) (ne : ps ≠ []) (hM : M ∈ rowsOf m ps) (hx : ∀ y ∈ rowsOf m ps, y ≤ M) :
    decide ((p.2 - (ps.headD (0, 0)).2) % m ≤ M) = !tarOk m ps p := by
  have l := asc.last ne
  have e : M = ((ps.getLastD (0, 0)).2 - (ps.headD (0, 0)).2) % m := by
    obtain ⟨b, hb, eb⟩ := List.mem_map.mp hM
    have h1 := (l b hb).2
    have hl : ps.getLastD (0, 0) ∈ ps := List.mem_of_getElem? (getLastD_at ne)
    have h2 := hx _ (List.mem_map.mpr ⟨_, hl, rfl⟩)
    omega
  unfold tarOk
  rw [decide_eq_false ne, Bool.false_or, e]
  by_cases z : ((ps.getLastD (0, 0)).2 - (ps.headD (0, 0)).2) % m < (p.2 - (ps.headD (0, 0)).2) % m
  · rw [decide_eq_true z, decide_eq_false (by omega)]
    rfl
  · rw [decide_eq_false z, decide_eq_true (by omega)]
    rfl
/-! ### displays -/
section
variable {K : PySem.W.Frag} {B : List Addr} {σ : L2.St} {H0 : Hp}
def Stable (R : Hp → V → Prop) : Prop := ∀ H H' v, Same H H' → R H v → R H' v
/-- v is data, of a text of at most n signs, of depth at most e -/
def Val (K : PySem.W.Frag) (B : List Addr) (n e : Nat) : Hp → V → Prop := fun H v => ∃ d, Dv K H B v d ∧ Neat d n e
/-- v is a tuple of at most L items -/
def TV (K : PySem.W.Frag) (B : List Addr) (n e L : Nat) : Hp → V → Prop := fun H v => ∃ p xs ds, v = .ref p ∧ SqT K H p xs ∧ DvAll K H B xs ds ∧ (∀ d ∈ ds, Neat d n e) ∧ ds.length ≤ L
theorem val_stable {n e : Nat} : Stable (Val K B n e) := fun H H' v s ⟨d, h1, h2⟩ => ⟨d, h1.same s, h2⟩
theorem tv_stable {n e L : Nat} : Stable (TV K B n e L) := fun H H' v s ⟨p, xs, ds, h0, h1, h2, h3⟩ => ⟨p, xs, ds, h0, same_tup s h1, h2.same s, h3⟩
theorem Val.mv {n e : Nat} {H H' : Hp} {v : V} (m : Mv B H H') (h : Val K B n e H v) : Val K B n e H' v := by
  obtain ⟨d, h1, h2⟩ := h
  exact ⟨d, h1.mv m, h2⟩
theorem TV.mv {n e L : Nat} {H H' : Hp} {v : V} (m : Mv B H H') (h : TV K B n e L H v) : TV K B n e L H' v := by
  obtain ⟨p, xs, ds, h0, h1, h2, h3⟩ := h
  exact ⟨p, xs, ds, h0, stay_tup m.st h1, h2.mv m, h3⟩
theorem Val.up {n e n' e' : Nat} {H : Hp} {v : V} (h : Val K B n e H v) (h1 : n ≤ n') (h2 : e ≤ e') : Val K B n' e' H v := by
  obtain ⟨d, x, y⟩ := h
  exact ⟨d, x, y.mono h1 h2⟩
theorem TV.up {n e L n' e' L' : Nat} {H : Hp} {v : V} (h : TV K B n e L H v) (h1 : n ≤ n') (h2 : e ≤ e') (h3 : L ≤ L') : TV K B n' e' L' H v := by
  obtain ⟨p, xs, ds, x0, x1, x2, x3, x4⟩ := h
  exact ⟨p, xs, ds, x0, x1, x2, fun d hd => (x3 d hd).mono h1 h2, Nat.le_trans x4 h3⟩
theorem TV.val {n e L n' e' : Nat} {H : Hp} {v : V} (h : TV K B n e L H v) (h1 : L * (n + 2) + 3 ≤ n') (h2 : e + 1 ≤ e') : Val K B n' e' H v := by
  obtain ⟨p, xs, ds, x0, x1, x2, x3, x4⟩ := h
  subst x0
  refine ⟨.tuple ds, .tup x1 x2, (neat_tuple x3).mono (Nat.le_trans ?_ h1) h2⟩
  exact Nat.add_le_add_right (Nat.mul_le_mul_right _ x4) 3
def Ys (σ : L2.St) (H0 : Hp) (te : TE) (R : Hp → V → Prop) : Prop := ∀ H Q, Same H0 H → (∀ v H', Same H H' → R H' v → Q v H') → te σ H Q
def Ya (σ : L2.St) (H0 : Hp) (ta : TA) (R : Hp → V → Prop) (L : Nat) : Prop := ∀ H Q, Same H0 H → (∀ xs H', Same H H' → xs.length = L → (∀ x ∈ xs, R H' x) → Q xs H') → ta σ H Q
theorem ya_nil {R : Hp → V → Prop} : Ya σ H0 tNil R 0 := fun H Q _ q => q [] H (Same.refl _) rfl fun x hx => absurd hx List.not_mem_nil
theorem ya_cons {R : Hp → V → Prop} {te : TE} {ta : TA} {L : Nat} (st : Stable R) (h : Ys σ H0 te R) (hs : Ya σ H0 ta R L) : Ya σ H0 (tCons te ta) R (L + 1) := by
  intro H Q s q
  refine h H _ s fun v H1 s1 r1 => hs H1 _ (s.trans s1) fun xs H2 s2 l2 r2 => ?_
  refine q (v :: xs) H2 (s1.trans s2) (by rw [List.length_cons, l2]) fun x hx => ?_
  rcases List.mem_cons.mp hx with z | z
  · rw [z]
    exact st _ _ _ s2 r1
  · exact r2 x z
theorem ya_vals {ta : TA} {n e L : Nat} (h : Ya σ H0 ta (Val K B n e) L) : Ya σ H0 ta (Val K B n e) L := h
theorem dvs_of {n e : Nat} {H : Hp} : ∀ {xs : List V}, (∀ x ∈ xs, Val K B n e H x) → ∃ ds, DvAll K H B xs ds ∧ ∀ d ∈ ds, Neat d n e
  | [], _ => ⟨[], .nil, fun d hd => absurd hd List.not_mem_nil⟩
  | x :: xs, h => by
    obtain ⟨d, h1, h2⟩ := h x List.mem_cons_self
    obtain ⟨ds, h3, h4⟩ := dvs_of fun y hy => h y (List.mem_cons_of_mem _ hy)
    refine ⟨d :: ds, .cons h1 h3, fun z hz => ?_⟩
    rcases List.mem_cons.mp hz with e | e
    · rw [e]
      exact h2
    · exact h4 z e
theorem yt_tup {ta : TA} {n e L : Nat} (hL : L ≤ 1000) (h : Ya σ H0 ta (Val K B n e) L) : Ys σ H0 (tTup ta) (TV K B n e L) := by
  intro H Q s q
  refine h H _ s fun xs H1 s1 l1 r1 => ⟨by rw [l1]; exact Nat.le_of_lt (small1000 hL), fun p np => ?_⟩
  obtain ⟨ds, dv, nt⟩ := dvs_of r1
  have s2 := same_upd (o := .tup xs) np
  exact q _ _ (s1.trans s2) ⟨p, xs, ds, rfl, SqT.of upd_same, dv.same s2, nt, by rw [← dv.len, l1]; exact Nat.le_refl _⟩
theorem ys_mono {te : TE} {R R' : Hp → V → Prop} (h : Ys σ H0 te R) (m : ∀ H v, R H v → R' H v) : Ys σ H0 te R' := fun H Q s q => h H Q s fun v H' s' r => q v H' s' (m _ _ r)
theorem v_tup {ta : TA} {n e n' e' L : Nat} (h : Ya σ H0 ta (Val K B n e) L) (hL : L ≤ 1000) (h1 : L * (n + 2) + 3 ≤ n') (h2 : e + 1 ≤ e') : Ys σ H0 (tTup ta) (Val K B n' e') :=
  ys_mono (yt_tup hL h) fun H v z => z.val h1 h2
theorem v_lst {ta : TA} {n e n' e' L : Nat} (h : Ya σ H0 ta (Val K B n e) L) (dk : Stands B H0) (hL : L ≤ 1000) (h1 : L * (n + 2) + 2 ≤ n') (h2 : e + 1 ≤ e') : Ys σ H0 (tLst ta) (Val K B n' e') := by
  intro H Q s q
  refine h H _ s fun xs H1 s1 l1 r1 => ⟨by rw [l1]; exact Nat.le_of_lt (small1000 hL), fun p np => ?_⟩
  obtain ⟨ds, dv, nt⟩ := dvs_of r1
  have s2 := same_upd (o := .lst xs) np
  have nn := (dk.same (s.trans s1)).new np
  refine q _ _ (s1.trans s2) ⟨.list ds, .lst upd_same nn (dv.same s2), (neat_list nt).mono ?_ h2⟩
  rw [← dv.len, l1]
  exact h1
theorem v_dic {n e : Nat} (h1 : 2 ≤ n) (h2 : 1 ≤ e) : Ys σ H0 tDNewK (Val K B n e) := by
  intro H Q s q p np
  refine q _ _ (same_upd np) ⟨.dict [], .dic upd_same, rfl, ?_, ?_⟩
  · exact Nat.le_trans (by decide) h2
  · exact Nat.le_trans (by decide) h1
theorem v_non {n e : Nat} (h : 4 ≤ n) : Ys σ H0 (tC .non) (Val K B n e) := fun H Q s q => q _ _ (Same.refl _) ⟨.none, .non, rfl, Nat.zero_le _, Nat.le_trans (by decide) h⟩
theorem v_bl {n e : Nat} (b : Bool) (h : 5 ≤ n) : Ys σ H0 (tC (.bl b)) (Val K B n e) := fun H Q s q => q _ _ (Same.refl _) ⟨.bool b, .bl b, rfl, Nat.zero_le _, Nat.le_trans (by cases b <;> decide) h⟩
theorem val_int {n e : Nat} {H : Hp} {i : Int} (hi : i.natAbs < 10 ^ 40) (h : 2000 ≤ n) : Val K B n e H (.int i) :=
  ⟨.int i, .int i, (fine_int (small_int hi)).neat.mono (Nat.le_trans (by decide) h) (Nat.zero_le _)⟩
theorem v_int {n e : Nat} {te : TE} {i : Int} (hi : i.natAbs < 10 ^ 40) (h : 2000 ≤ n) (t : ∀ H Q, Q (.int i) H → te σ H Q) : Ys σ H0 te (Val K B n e) := fun H Q s q => t H Q (q _ _ (Same.refl _) (val_int hi h))
theorem v_str {n e : Nat} {x : Str} (hx : (PyData.str x).showable = true) (hl : (PyData.str x).shown.length ≤ 100) (h : 2000 ≤ n) : Ys σ H0 (tC (.str x)) (Val K B n e) :=
  fun H Q s q => q _ _ (Same.refl _) ⟨.str x, .str x, hx, Nat.zero_le _, by omega⟩
theorem y_var {R : Hp → V → Prop} {i : Nat} {v : V} (st : Stable R) (hv : σ[i]? = some (some v)) (r : R H0 v) : Ys σ H0 (tVar i) R := fun H Q s q => ⟨v, hv, q v H (Same.refl _) (st _ _ _ s r)⟩
/-! slices, sums, the way back -/
def Yo (σ : L2.St) (H0 : Hp) (tl : TO) : Prop := ∀ H Q, Same H0 H → (∀ o, Q o H) → tl σ H Q
theorem yo_none : Yo σ H0 tNoPart := fun H Q _ q => q none
theorem yo_int {te : TE} {i : Int} (t : ∀ H Q, Q (.int i) H → te σ H Q) : Yo σ H0 (tPart te) := fun H Q _ q => t H _ ⟨i, rfl, q _⟩
theorem cut_dv {H : Hp} {xs : List V} {ds : List PyData} (h : DvAll K H B xs ds) (lo hi : Option Int) : ∃ es, DvAll K H B (cutV xs lo hi) es ∧ (∀ d ∈ es, d ∈ ds) ∧ es.length ≤ ds.length := by
  refine ⟨_, (h.drop (HT.sIx xs.length 0 lo)).take (HT.sIx xs.length xs.length hi - HT.sIx xs.length 0 lo), fun d hd => List.mem_of_mem_drop (List.mem_of_mem_take hd), ?_⟩
  rw [List.length_take, List.length_drop]
  omega
theorem yt_slice {te : TE} {tl th : TO} {n e L : Nat} (h : Ys σ H0 te (TV K B n e L)) (hl : Yo σ H0 tl) (hh : Yo σ H0 th) : Ys σ H0 (tSl (rSlA K) te tl th) (TV K B n e L) := by
  intro H Q s q
  refine h H _ s fun v H1 s1 r1 => ?_
  refine hl H1 _ (s.trans s1) fun lo => hh H1 _ (s.trans s1) fun hi => ?_
  obtain ⟨p, xs, ds, ev, hp, hd, nt, len⟩ := r1
  subst ev
  refine ⟨p, xs, rfl, hp, fun _ => ?_, fun _ p2 n2 => ?_⟩
  · exact q _ _ s1 ⟨p, xs, ds, rfl, hp, hd, nt, len⟩
  · obtain ⟨es, h1, h2, h3⟩ := cut_dv hd lo hi
    have s2 := same_upd (o := .tup (cutV xs lo hi)) n2
    exact q _ _ (s1.trans s2) ⟨p2, _, es, rfl, SqT.of upd_same, h1.same s2, fun d hd => nt d (h2 d hd), Nat.le_trans h3 len⟩
theorem yt_cat {t1 t2 : TE} {n e L1 L2 : Nat} (h1 : Ys σ H0 t1 (TV K B n e L1)) (h2 : Ys σ H0 t2 (TV K B n e L2)) (hL : L1 + L2 ≤ 1000) : Ys σ H0 (tOp (rCatA K) t1 t2) (TV K B n e (L1 + L2)) := by
  intro H Q s q
  refine h1 H _ s fun v H1 s1 r1 => h2 H1 _ (s.trans s1) fun u H2 s2 r2 => ?_
  obtain ⟨p, xs, ds, ev, hp, hd, nt, len⟩ := tv_stable _ _ _ s2 r1
  obtain ⟨p', ys, es, eu, hp', hd', nt', len'⟩ := r2
  subst ev
  subst eu
  have lx := hd.len
  have ly := hd'.len
  refine ⟨p, p', xs, ys, rfl, rfl, hp, hp', Nat.le_of_lt (small1000 (by omega)), fun _ => ?_, fun _ _ => ?_, fun _ _ p2 n2 => ?_⟩
  · exact q _ _ (s1.trans s2) ⟨p', ys, es, rfl, hp', hd', nt', by omega⟩
  · exact q _ _ (s1.trans s2) ⟨p, xs, ds, rfl, hp, hd, nt, by omega⟩
  · have s3 := same_upd (o := .tup (xs ++ ys)) n2
    refine q _ _ ((s1.trans s2).trans s3) ⟨p2, _, ds ++ es, rfl, SqT.of upd_same, (hd.app hd').same s3, fun d hd => ?_, by rw [List.length_append]; omega⟩
    rcases List.mem_append.mp hd with z | z
    · exact nt d z
    · exact nt' d z
theorem yt_rev {te : TE} {n e L : Nat} (h : Ys σ H0 te (TV K B n e L)) : Ys σ H0 (tRevT K te) (TV K B n e L) := by
  intro H Q s q
  refine h H _ s fun v H1 s1 r1 => ?_
  obtain ⟨p, xs, ds, ev, hp, hd, nt, len⟩ := r1
  subst ev
  refine ⟨p, xs, rfl, hp, fun p2 n2 => ?_⟩
  have s2 := same_upd (o := .tup xs.reverse) n2
  exact q _ _ (s1.trans s2) ⟨p2, _, ds.reverse, rfl, SqT.of upd_same, hd.back.same s2, fun d hd => nt d (List.mem_reverse.mp hd), by rw [List.length_reverse]; exact len⟩
end
theorem Ya.run {σ : L2.St} {H0 H : Hp} {ta : TA} {R : Hp → V → Prop} {L : Nat} {Q : List V → Hp → Prop} (h : Ya σ H0 ta R L) (s : Same H0 H) (q : ∀ xs H', Same H H' → xs.length = L → (∀ x ∈ xs, R H' x) → Q xs H') : ta σ H Q := h H Q s q
theorem Ys.run {σ : L2.St} {H0 H : Hp} {te : TE} {R : Hp → V → Prop} {Q : VK} (h : Ys σ H0 te R) (s : Same H0 H) (q : ∀ v H', Same H H' → R H' v → Q v H') : te σ H Q := h H Q s q
def spOdd (K : PySem.W.Frag) : Sp := fun vs H Q _ => ∃ (a c : Addr) (B : List Addr) (k m : Int), vs = [.ref a, .int m] ∧ a ∈ B ∧ c ∈ B ∧ Stands B H ∧ Deck H a c k ∧ k + 1 ≤ 1000000 ∧ 1 ≤ m ∧ m ≤ 60 ∧
  ∀ (v : V) (H' : Hp), Val K B 20000 4 H' v → Deck H' a c (k + 1) → Keep a c H H' → Q v H'
theorem Ya.lst {σ : L2.St} {H0 H : Hp} {ta : TA} {R : Hp → V → Prop} {L : Nat} {Q : VK} (h : Ya σ H0 ta R L) (hL : L ≤ 1000) (s : Same H0 H)
    (q : ∀ xs H1 p, Same H H1 → xs.length = L → (∀ x ∈ xs, R H1 x) → H1 p = none → Q (.ref p) (upd H1 p (.lst xs))) : tLst ta σ H Q :=
  h H _ s fun xs H1 s1 l1 r1 => ⟨by rw [l1]; exact Nat.le_of_lt (small1000 hL), fun p np => q xs H1 p s1 l1 r1 np⟩
theorem seq_asg {te : TE} {g : TG} {r : TS} {D : Ends} {σ : L2.St} {H : Hp} (h : te σ H fun v H1 => g v σ H1 fun σ2 H2 => r D σ2 H2) : tSeq (tAsg te g) r D σ H := h
theorem op_var {r : R2} {i : Nat} {v : V} {te : TE} {σ : L2.St} {H : Hp} {Q : VK} (hv : σ[i]? = some (some v)) (h : te σ H fun y H2 => r v y H2 Q) : tOp r (tVar i) te σ H Q := ⟨v, hv, h⟩
theorem kcatB {X : Cx} (K : PySem.W.Frag) (hK : X.K = K := by rfl) : OpR X (binaryOp .Add) (rCatA K) := by
  subst hK
  exact op_catA
theorem krepT {X : Cx} (K : PySem.W.Frag) (hK : X.K = K := by rfl) : OpR X (binaryOp .Mult) (rRepT K) := by
  subst hK
  exact op_repT
theorem kslA {X : Cx} (K : PySem.W.Frag) (hK : X.K = K := by rfl) : SlR X (rSlA K) := by
  subst hK
  exact sl_tupA
theorem krevT {X : Cx} (K : PySem.W.Frag) {e : Expr} {te : TE} {k : Nat} {p1 p2 p3 pos : Pos} (he : PE X e te) (hK : X.K = K := by rfl) :
    PE X (.Subscript e (.Slice none none (some (.UnaryOp .USub (.Constant (.int 1) k p1) p2)) p3) pos) (tRevT K te) := by
  subst hK
  exact pe_revT he
theorem shownAll_mem : ∀ {ds : List PyData} {d : PyData}, d ∈ ds → d.shown ∈ PyData.shownAll ds
  | x :: r, d, h => by
    rw [PyData.shownAll]
    rcases List.mem_cons.mp h with e | e
    · rw [e]
      exact List.mem_cons_self
    · exact List.mem_cons_of_mem _ (shownAll_mem e)
theorem showableAll_mem : ∀ {ds : List PyData} {d : PyData}, PyData.showableAll ds = true → d ∈ ds → d.showable = true
  | x :: r, d, s, h => by
    rw [PyData.showableAll, Bool.and_eq_true] at s
    rcases List.mem_cons.mp h with e | e
    · rw [e]
      exact s.1
    · exact showableAll_mem s.2 e
theorem depthAll_mem : ∀ {ds : List PyData} {d : PyData}, d ∈ ds → d.depth ≤ PyData.depthAll ds
  | x :: r, d, h => by
    rw [PyData.depthAll]
    rcases List.mem_cons.mp h with e | e
    · rw [e]
      omega
    · have := depthAll_mem e
      omega
theorem neat_item {ds : List PyData} {n e : Nat} (h : Neat (.tuple ds) n e) {d : PyData} (hd : d ∈ ds) : Neat d n e := by
  refine ⟨showableAll_mem h.sh hd, ?_, ?_⟩
  · have := h.dp
    rw [PyData.depth] at this
    have := depthAll_mem hd
    omega
  · have l := h.ln
    rw [PyData.shown] at l
    exact Nat.le_trans (tupleText_mem_le (shownAll_mem hd)) l
/-- what a changed tool is -/
def CV (K : PySem.W.Frag) (B : List Addr) (n e : Nat) : Hp → V → Prop := fun H v => ∃ d, Dv K H B v d ∧ Neat d (25 * (n + 2) + 3) (e + 2) ∧ ∀ ds, d = .tuple ds → ∀ x ∈ ds, Neat x (12 * (n + 2) + 3) (e + 1)
section
variable {K : PySem.W.Frag} {B : List Addr} {σ : L2.St} {H0 : Hp} {n e : Nat}
theorem cv_stable : Stable (CV K B n e) := fun H H' v s ⟨d, h1, h2⟩ => ⟨d, h1.same s, h2⟩
theorem CV.mv {H H' : Hp} {v : V} (m : Mv B H H') (h : CV K B n e H v) : CV K B n e H' v := by
  obtain ⟨d, h1, h2⟩ := h
  exact ⟨d, h1.mv m, h2⟩
theorem CV.val {H : Hp} {v : V} (h : CV K B n e H v) : Val K B (25 * (n + 2) + 3) (e + 2) H v := by
  obtain ⟨d, h1, h2, _⟩ := h
  exact ⟨d, h1, h2⟩
theorem cv_tv {L : Nat} (hL : L ≤ 25) {H : Hp} {v : V} (h : TV K B n e L H v) : CV K B n e H v := by
  obtain ⟨p, xs, ds, x0, x1, x2, x3, x4⟩ := h
  subst x0
  refine ⟨.tuple ds, .tup x1 x2, (neat_tuple x3).mono ?_ (by omega), fun ds' ed x hx => ?_⟩
  · exact Nat.add_le_add_right (Nat.mul_le_mul_right _ (by omega)) 3
  · cases ed
    exact (x3 x hx).mono (by omega) (by omega)
theorem cv_val {H : Hp} {v : V} (h : Val K B n e H v) : CV K B n e H v := by
  obtain ⟨d, h1, h2⟩ := h
  refine ⟨d, h1, h2.mono (by omega) (by omega), fun ds ed x hx => ?_⟩
  rw [ed] at h2
  exact (neat_item h2 hx).mono (by omega) (by omega)
theorem c_t {te : TE} {L : Nat} (h : Ys σ H0 te (TV K B n e L)) (hL : L ≤ 25) : Ys σ H0 te (CV K B n e) := ys_mono h fun _ _ z => cv_tv hL z
theorem c_v {te : TE} (h : Ys σ H0 te (Val K B n e)) : Ys σ H0 te (CV K B n e) := ys_mono h fun _ _ z => cv_val z
theorem c_list {i : Nat} {v : V} (dk : Stands B H0) (hv : σ[i]? = some (some v)) (h : TV K B n e 12 H0 v) : Ys σ H0 (tCB (rListOf K) (tCons (tVar i) tNil)) (CV K B n e) := by
  intro H Q s q
  obtain ⟨p, xs, ds, x0, x1, x2, x3, x4⟩ := tv_stable _ _ _ s h
  subst x0
  refine ⟨.ref p, hv, p, xs, rfl, .inr x1, fun p2 n2 => ?_⟩
  have s2 := same_upd (o := .lst xs) n2
  have nn := (dk.same s).new n2
  refine q _ _ s2 ⟨.list ds, .lst upd_same nn (x2.same s2), (neat_list x3).mono ?_ (by omega), fun ds' ed => by cases ed⟩
  have : ds.length * (n + 2) ≤ 12 * (n + 2) := Nat.mul_le_mul_right _ x4
  omega
theorem c_one {i : Nat} {v : V} (hv : σ[i]? = some (some v)) (h : TV K B n e 12 H0 v) : Ys σ H0 (tTup (tCons (tVar i) tNil)) (CV K B n e) := by
  intro H Q s q
  have v1 := (tv_stable _ _ _ s h).val (n' := 12 * (n + 2) + 3) (e' := e + 1) (Nat.le_refl _) (Nat.le_refl _)
  obtain ⟨d, dv, nt⟩ := v1
  refine ⟨v, hv, by show 1 ≤ sizeLine; decide, fun p np => ?_⟩
  have s2 := same_upd (o := .tup [v]) np
  refine q _ _ s2 ⟨.tuple [d], .tup (SqT.of upd_same) (.cons (dv.same s2) .nil), (neat_tuple (ds := [d]) (n := 12 * (n + 2) + 3) (e := e + 1) fun x hx => ?_).mono ?_ (Nat.le_refl _), fun ds' ed x hx => ?_⟩
  · rw [List.mem_singleton.mp hx]
    exact nt
  · show 1 * (12 * (n + 2) + 3 + 2) + 3 ≤ _
    omega
  · cases ed
    rw [List.mem_singleton.mp hx]
    exact nt
def TN (K : PySem.W.Frag) (B : List Addr) (n e : Nat) : Hp → V → Prop := fun H v => ∃ p xs ds, v = .ref p ∧ SqT K H p xs ∧ DvAll K H B xs ds ∧ (∀ d ∈ ds, Neat d n e) ∧ ds.length ≤ 12 ∧ 1 ≤ ds.length
theorem tn_stable : Stable (TN K B n e) := fun H H' v s ⟨p, xs, ds, h0, h1, h2, h3⟩ => ⟨p, xs, ds, h0, same_tup s h1, h2.same s, h3⟩
theorem c_rep {i : Nat} {v : V} (hv : σ[i]? = some (some v)) (h : TN K B n e H0 v) :
    Ys σ H0 (tSl (rSlA K) (tOp (rRepT K) (tVar i) (tC (.int 13))) tNoPart (tPart (tC (.int 13)))) (CV K B n e) := by
  intro H Q s q
  obtain ⟨p, xs, ds, x0, x1, x2, x3, x4, x5⟩ := tn_stable _ _ _ s h
  subst x0
  have lx := x2.len
  have xn : xs ≠ [] := fun z => by
    rw [z, List.length_nil] at lx
    omega
  refine ⟨.ref p, hv, p, 13, xs, rfl, rfl, x1, xn, by decide, by decide, by omega, fun p2 n2 => ⟨_, rfl, p2, _, rfl, SqT.of upd_same, fun hw => ?_, fun _ p3 n3 => ?_⟩⟩
  all_goals have s2 := same_upd (o := .tup (List.replicate (13 : Int).toNat xs).flatten) n2
  · have hw2 := hw.2
    have rl : ((List.replicate (13 : Int).toNat xs).flatten).length ≤ 13 := by
      rw [show HT.sIx ((List.replicate (13 : Int).toNat xs).flatten).length ((List.replicate (13 : Int).toNat xs).flatten).length (some 13) = min 13 ((List.replicate (13 : Int).toNat xs).flatten).length from HT.sIx_nat _ _ 13] at hw2
      omega
    have dm := (x2.many (13 : Int).toNat).same s2
    refine q _ _ s2 (cv_tv (L := 13) (by decide) ⟨p2, _, _, rfl, SqT.of upd_same, dm, fun d hd => ?_, by rw [← dm.len]; exact rl⟩)
    obtain ⟨l, hl, hd⟩ := List.mem_flatten.mp hd
    rw [List.eq_of_mem_replicate hl] at hd
    exact x3 d hd
  · have s3 := same_upd (o := .tup (cutV (List.replicate (13 : Int).toNat xs).flatten none (some 13))) n3
    have dm := (((x2.many (13 : Int).toNat).same s2).take 13).same s3
    rw [show cutV (List.replicate (13 : Int).toNat xs).flatten none (some 13) = ((List.replicate (13 : Int).toNat xs).flatten).take 13 from cut_to _ 13] at s3 dm ⊢
    refine q _ _ (s2.trans s3) (cv_tv (L := 13) (by decide) ⟨p3, _, _, rfl, SqT.of upd_same, dm, fun d hd => ?_, by rw [← dm.len, List.length_take]; omega⟩)
    obtain ⟨l, hl, hd⟩ := List.mem_flatten.mp (List.mem_of_mem_take hd)
    rw [List.eq_of_mem_replicate hl] at hd
    exact x3 d hd
end
def spChanged (K : PySem.W.Frag) : Sp := fun vs H Q _ => ∃ (a c : Addr) (B : List Addr) (k m : Int) (p : Addr) (xs : List V) (ds : List PyData) (n e : Nat), vs = [.ref a, .int m, .ref p] ∧ a ∈ B ∧ c ∈ B ∧ Stands B H ∧ Deck H a c k ∧ k + 5 ≤ 1000000 ∧ 1 ≤ m ∧ m ≤ 60 ∧
  SqT K H p xs ∧ DvAll K H B xs ds ∧ (∀ d ∈ ds, Neat d n e) ∧ 1 ≤ ds.length ∧ ds.length ≤ 12 ∧ 20000 ≤ n ∧ 4 ≤ e ∧
  ∀ (v : V) (H' : Hp), CV K B n e H' v → Deck H' a c (k + 5) → Keep a c H H' → Q v H'
/-! ### twins, and more of data -/
theorem pair_neat {p : Int × Int} (h1 : p.1.natAbs < 10 ^ 40) (h2 : p.2.natAbs < 10 ^ 40) : Neat (pairD p) 4100 1 := by
  refine (neat_tuple (ds := [.int p.1, .int p.2]) (n := 2000) (e := 0) fun d hd => ?_).mono (by show 2 * (2000 + 2) + 3 ≤ 4100; decide) (Nat.le_refl _)
  simp only [List.mem_cons, List.not_mem_nil, or_false] at hd
  rcases hd with z | z
  · rw [z]
    exact (fine_int (small_int h1)).neat.mono (by decide) (Nat.le_refl _)
  · rw [z]
    exact (fine_int (small_int h2)).neat.mono (by decide) (Nat.le_refl _)
theorem dv_pairs {K : PySem.W.Frag} {H : Hp} {B : List Addr} : ∀ {as : List Addr} {tl : List (Int × Int)}, PairsAt H as tl → DvAll K H B (as.map V.ref) (tl.map pairD)
  | _, _, .nil => .nil
  | _, _, .cons h r => .cons (.tup (SqT.of h) (.cons (.int _) (.cons (.int _) .nil))) (dv_pairs r)
theorem dv_tool {K : PySem.W.Frag} {H : Hp} {B : List Addr} {t : Addr} {tl : List (Int × Int)} (h : ToolAt H t tl) : ∃ xs, SqT K H t xs ∧ DvAll K H B xs (tl.map pairD) := by
  obtain ⟨o, as, h1, _, h3⟩ := h
  exact ⟨as.map V.ref, .inl (.inr ⟨o, h1⟩), dv_pairs h3⟩
theorem tool_items {m : Int} {tl : List (Int × Int)} (it : IsTool m tl) (hm : m ≤ 60) : ∀ d ∈ tl.map pairD, Neat d 4100 1 := by
  intro d hd
  obtain ⟨p, hp, e⟩ := List.mem_map.mp hd
  rw [← e]
  have r := it.rng p hp
  exact pair_neat (by omega) (by omega)
section
variable {K : PySem.W.Frag} {H : Hp} {B B' : List Addr}
mutual
theorem Dv.bar (C : ∀ p xs, H p = some (HO.lst xs) → p ∉ B → p ∉ B') : ∀ (d : PyData) (v : V), Dv K H B v d → Dv K H B' v d
  | .none, _, h => by
    cases h
    exact .non
  | .bool b, _, h => by
    cases h
    exact .bl b
  | .int i, _, h => by
    cases h
    exact .int i
  | .str x, _, h => by
    cases h
    exact .str x
  | .list ds, _, h => by
    cases h with
    | lst hs n1 ha => exact .lst hs (C _ _ hs n1) (DvAll.bar C ds _ ha)
  | .tuple ds, _, h => by
    cases h with
    | tup hs ha => exact .tup hs (DvAll.bar C ds _ ha)
  | .dict _, _, h => by
    cases h with
    | dic hs => exact .dic hs
theorem DvAll.bar (C : ∀ p xs, H p = some (HO.lst xs) → p ∉ B → p ∉ B') : ∀ (ds : List PyData) (vs : List V), DvAll K H B vs ds → DvAll K H B' vs ds
  | [], _, h => by
    cases h
    exact .nil
  | d :: ds, _, h => by
    cases h with
    | cons h1 h2 => exact .cons (Dv.bar C d _ h1) (DvAll.bar C ds _ h2)
end
theorem Val.bar {n e : Nat} {v : V} (C : ∀ p xs, H p = some (HO.lst xs) → p ∉ B → p ∉ B') (h : Val K B n e H v) : Val K B' n e H v := by
  obtain ⟨d, h1, h2⟩ := h
  exact ⟨d, Dv.bar C d v h1, h2⟩
theorem val_sub {n e : Nat} {v : V} (hs : ∀ b ∈ B', b ∈ B) (h : Val K B n e H v) : Val K B' n e H v := h.bar fun p xs _ n z => n (hs _ z)
theorem val_new {n e : Nat} {v : V} {D : Addr} (hD : H D = none) (h : Val K B n e H v) : Val K (D :: B) n e H v := h.bar fun p xs e n z => by
  rcases List.mem_cons.mp z with y | y
  · rw [y, hD] at e
    cases e
  · exact n y
end
def spTwin (K : PySem.W.Frag) : Sp := fun vs H Q _ => ∃ (p : Addr) (B : List Addr) (xs : List V) (qs : List (Int × Int)), vs = [.ref p] ∧ SqT K H p xs ∧ DvAll K H B xs (qs.map pairD) ∧ qs.length ≤ 12 ∧ (∀ b ∈ qs, b.1.natAbs < 10 ^ 30 ∧ b.2.natAbs < 10 ^ 30) ∧
  ∀ (v : V) (H' : Hp), Same H H' → TV K B 20000 4 12 H' v → Q v H'
def twV (i : Int) : V := if i < 2 then .bl (decide (i = 1)) else .int i
theorem tw_val {K : PySem.W.Frag} {H : Hp} {B : List Addr} {i : Int} (h : i.natAbs < 10 ^ 30) : Val K B 2000 1 H (twV i) := by
  unfold twV
  split
  · exact ⟨.bool _, .bl _, rfl, Nat.zero_le _, Nat.le_trans (by cases decide (i = 1) <;> decide) (show 5 ≤ 2000 by decide)⟩
  · exact val_int (Nat.lt_trans h (by decide)) (Nat.le_refl _)
/-- two values in a tuple -/
def Two (K : PySem.W.Frag) : Hp → V → Prop := fun H v => ∃ q i j, v = .ref q ∧ SqT K H q [twV i, twV j] ∧ i.natAbs < 10 ^ 30 ∧ j.natAbs < 10 ^ 30
theorem Two.stay {K : PySem.W.Frag} {H H' : Hp} {v : V} (s : Stay H H') (h : Two K H v) : Two K H' v := by
  obtain ⟨q, i, j, e, h1, h2⟩ := h
  exact ⟨q, i, j, e, stay_tup s h1, h2⟩
theorem Two.val {K : PySem.W.Frag} {H : Hp} {v : V} {B : List Addr} (h : Two K H v) : Val K B 20000 4 H v := by
  obtain ⟨q, i, j, e, h1, h2, h3⟩ := h
  subst e
  obtain ⟨d1, x1, y1⟩ := tw_val (K := K) (H := H) (B := B) h2
  obtain ⟨d2, x2, y2⟩ := tw_val (K := K) (H := H) (B := B) h3
  refine ⟨.tuple [d1, d2], .tup h1 (.cons x1 (.cons x2 .nil)), (neat_tuple (ds := [d1, d2]) (n := 2000) (e := 1) fun d hd => ?_).mono (by show 2 * (2000 + 2) + 3 ≤ 20000; decide) (by decide)⟩
  simp only [List.mem_cons, List.not_mem_nil, or_false] at hd
  rcases hd with z | z
  · rw [z]; exact y1
  · rw [z]; exact y2
/-! ### the values that the law tries -/
def P2 (K : PySem.W.Frag) : Hp → V → Prop := fun H v => ∃ q i j, v = .ref q ∧ SqT K H q [.int i, .int j] ∧ i.natAbs < 10 ^ 40 ∧ j.natAbs < 10 ^ 40
theorem P2.stay {K : PySem.W.Frag} {H H' : Hp} {v : V} (s : Stay H H') (h : P2 K H v) : P2 K H' v := by
  obtain ⟨q, i, j, e, h1, h2⟩ := h
  exact ⟨q, i, j, e, stay_tup s h1, h2⟩
theorem P2.val {K : PySem.W.Frag} {H : Hp} {v : V} {B : List Addr} (h : P2 K H v) : Val K B 4100 1 H v := by
  obtain ⟨q, i, j, e, h1, h2, h3⟩ := h
  subst e
  exact ⟨pairD (i, j), .tup h1 (.cons (.int _) (.cons (.int _) .nil)), pair_neat h2 h3⟩
/-- a tuple of pairs of numbers -/
def TwIn (K : PySem.W.Frag) (B : List Addr) : Hp → V → Prop := fun H v => ∃ (p : Addr) (xs : List V) (qs : List (Int × Int)), v = .ref p ∧ SqT K H p xs ∧ DvAll K H B xs (qs.map pairD) ∧ qs.length ≤ 12 ∧ ∀ b ∈ qs, b.1.natAbs < 10 ^ 30 ∧ b.2.natAbs < 10 ^ 30
theorem TwIn.mv {K : PySem.W.Frag} {B : List Addr} {H H' : Hp} {v : V} (m : Mv B H H') (h : TwIn K B H v) : TwIn K B H' v := by
  obtain ⟨p, xs, qs, e, h1, h2, h3⟩ := h
  exact ⟨p, xs, qs, e, stay_tup m.st h1, h2.mv m, h3⟩
theorem TwIn.val {K : PySem.W.Frag} {B : List Addr} {H : Hp} {v : V} (h : TwIn K B H v) : Val K B 600000 8 H v := by
  obtain ⟨p, xs, qs, e, h1, h2, h3, h4⟩ := h
  subst e
  have nt : ∀ d ∈ qs.map pairD, Neat d 4100 1 := by
    intro d hd
    obtain ⟨b, hb, e⟩ := List.mem_map.mp hd
    rw [← e]
    have := h4 b hb
    exact pair_neat (Nat.lt_trans this.1 (by decide)) (Nat.lt_trans this.2 (by decide))
  refine ⟨.tuple (qs.map pairD), .tup h1 h2, (neat_tuple nt).mono ?_ (by decide)⟩
  rw [List.length_map]
  have : qs.length * (4100 + 2) ≤ 12 * (4100 + 2) := Nat.mul_le_mul_right _ h3
  omega
theorem tool_in {K : PySem.W.Frag} {B : List Addr} {H : Hp} {t : Addr} {m : Int} {tl : List (Int × Int)} (h : ToolAt H t tl) (it : IsTool m tl) (hm : m ≤ 60) : TwIn K B H (.ref t) := by
  obtain ⟨xs, h1, h2⟩ := dv_tool (K := K) (B := B) h
  refine ⟨t, xs, tl, rfl, h1, h2, it.len2, fun b hb => ?_⟩
  have r := it.rng b hb
  have e : (60 : Nat) < 10 ^ 30 := by decide
  omega
theorem Deck.stands {H : Hp} {a c : Addr} {k : Int} (h : Deck H a c k) : Stands [a, c] H := by
  obtain ⟨ns, j, h1, h2, h3, h4⟩ := h
  intro b hb
  rcases List.mem_cons.mp hb with z | z
  · rw [z, h2]
    exact fun w => by cases w
  · rw [List.mem_singleton.mp z, h3]
    exact fun w => by cases w
def Vals2 (K : PySem.W.Frag) (B : List Addr) (H : Hp) (us : List V) : Prop := ∀ u ∈ us, Val K B 600000 8 H u
theorem Vals2.mv {K : PySem.W.Frag} {B : List Addr} {H H' : Hp} {us : List V} (m : Mv B H H') (h : Vals2 K B H us) : Vals2 K B H' us := fun u hu => (h u hu).mv m
theorem Vals2.app {K : PySem.W.Frag} {B : List Addr} {H : Hp} {us ws : List V} (h : Vals2 K B H us) (h2 : Vals2 K B H ws) : Vals2 K B H (us ++ ws) := by
  intro u hu
  rcases List.mem_append.mp hu with z | z
  · exact h u z
  · exact h2 u z
theorem err_none {K : PySem.W.Frag} {H : Hp} {B : List Addr} {r : V} {e : PyData} {b : Bool} (dr : Dv K H B r e) (hb : b = true ↔ e = .none) : b = decide (r = .non) := by
  rw [Bool.eq_iff_iff, decide_eq_true_iff, hb]
  constructor
  · intro z
    subst z
    cases dr
    rfl
  · intro z
    subst z
    cases dr
    rfl
/-! ### what an error looks like -/
def IsWord (w : Str) : Prop := w = "tool" ∨ w = "pair" ∨ w = "begin" ∨ w = "target"
theorem step_word {m : Int} {n : Nat} {ps : List (Int × Int)} {d : PyData} {w : Str} (h : stepE m n ps d = .error w) : IsWord w := by
  unfold stepE at h
  split at h
  · cases h
    exact .inr (.inl rfl)
  · split at h
    · split at h
      · cases h
      · cases h
        exact .inr (.inr (.inr rfl))
    · cases h
      exact .inr (.inr (.inl rfl))
theorem run_shape {m : Int} {n : Nat} : ∀ (ds : List PyData) (ps : List (Int × Int)), ps.length + ds.length ≤ 12 → runE m n ps ds = .none ∨ ∃ (k : Nat) (w : Str), k ≤ 12 ∧ IsWord w ∧ runE m n ps ds = .tuple [.int (k : Nat), .str w]
  | [], ps, _ => .inl rfl
  | d :: ds, ps, h => by
    rw [List.length_cons] at h
    cases hs : stepE m n ps d with
    | error w =>
      rw [run_err hs]
      exact .inr ⟨ps.length, w, by omega, step_word hs, rfl⟩
    | ok p =>
      rw [run_ok hs]
      exact run_shape ds (ps ++ [p]) (by rw [List.length_append, List.length_singleton]; omega)
theorem err_shape (m : Int) (d : PyData) : errOf m d = .none ∨ ∃ (x : PyData) (w : Str), (x = .none ∨ ∃ k : Nat, k ≤ 12 ∧ x = .int (k : Nat)) ∧ IsWord w ∧ errOf m d = .tuple [x, .str w] := by
  unfold errOf
  split
  · rename_i ds
    split
    · rename_i ht
      have ht : (decide ((1 : Int) ≤ (ds.length : Nat)) && decide (((ds.length : Nat) : Int) ≤ 12)) = true := ht
      rw [Bool.and_eq_true] at ht
      have := of_decide_eq_true ht.2
      rcases run_shape (m := m) (n := ds.length) ds [] (by rw [List.length_nil]; omega) with z | ⟨k, w, z1, z2, z3⟩
      · exact .inl z
      · exact .inr ⟨_, w, .inr ⟨k, z1, rfl⟩, z2, z3⟩
    · exact .inr ⟨_, _, .inl rfl, .inl rfl, rfl⟩
  · exact .inr ⟨_, _, .inl rfl, .inl rfl, rfl⟩
theorem word_fine {w : Str} (h : IsWord w) : Fine (.str w) 1921 0 := by
  rcases h with z | z | z | z
  all_goals
    subst z
    exact ⟨by decide +kernel, rfl, Nat.le_refl _, by decide +kernel⟩
theorem fine_none : Fine .none 1921 0 := ⟨rfl, rfl, Nat.le_refl _, by decide +kernel⟩
theorem err_fine (m : Int) (d : PyData) : Fine (errOf m d) 4000 1 := by
  rcases err_shape m d with z | ⟨x, w, hx, hw, z⟩
  · rw [z]
    exact fine_none.mono (by decide) (by decide)
  · rw [z]
    refine (fine_tuple (ds := [x, .str w]) (n := 1921) (e := 0) fun y hy => ?_).mono (by show 2 * (1921 + 2) + 3 ≤ 4000; decide) (Nat.le_refl _)
    rcases List.mem_cons.mp hy with e | e
    · rw [e]
      rcases hx with e2 | ⟨k, hk, e2⟩
      · rw [e2]
        exact fine_none
      · rw [e2]
        exact fine_int (small_int (by omega))
    · rw [List.mem_singleton.mp e]
      exact word_fine hw
theorem err_noList (m : Int) (d : PyData) : noList (errOf m d) = true := by
  rcases err_shape m d with z | ⟨x, w, hx, hw, z⟩
  · rw [z]
    rfl
  · rw [z]
    rcases hx with e2 | ⟨k, hk, e2⟩
    · rw [e2]
      rfl
    · rw [e2]
      rfl
theorem err_dp {K : PySem.W.Frag} {H : Hp} {B : List Addr} {r : V} {m : Int} {d : PyData} (h : Dv K H B r (errOf m d)) : Dp K H r (errOf m d) := by
  rcases err_shape m d with z | ⟨x, w, hx, hw, z⟩
  · rw [z] at h ⊢
    cases h
    exact .non
  · rw [z] at h ⊢
    cases h with
    | tup h1 h2 =>
      cases h2 with
      | cons a1 a2 =>
        cases a2 with
        | cons b1 b2 =>
          cases b2
          cases b1
          rcases hx with e2 | ⟨k, hk, e2⟩
          · subst e2
            cases a1
            exact .tup h1 (.cons .non (.cons (.str _) .nil))
          · subst e2
            cases a1
            exact .tup h1 (.cons (.int _) (.cons (.str _) .nil))
/-! ### values in a list that grows -/
def VN (K : PySem.W.Frag) (B : List Addr) (H : Hp) (us : List V) : Prop := ∀ u ∈ us, Val K B 7000000 9 H u
theorem VN.mv {K : PySem.W.Frag} {B : List Addr} {H H' : Hp} {us : List V} (m : Mv B H H') (h : VN K B H us) : VN K B H' us := fun u hu => (h u hu).mv m
theorem VN.app {K : PySem.W.Frag} {B : List Addr} {H : Hp} {us ws : List V} (h : VN K B H us) (h2 : VN K B H ws) : VN K B H (us ++ ws) := by
  intro u hu
  rcases List.mem_append.mp hu with z | z
  · exact h u z
  · exact h2 u z
theorem VN.new {K : PySem.W.Frag} {a c L : Addr} {H : Hp} {us : List V} {o : HO} (h : VN K [a, c] H us) (nL : H L = none) : VN K [L, a, c] (upd H L o) us := fun u hu => val_stable _ _ _ (same_upd nL) (val_new nL (h u hu))
theorem VN.sub {K : PySem.W.Frag} {a c L : Addr} {H : Hp} {us : List V} (h : VN K [L, a, c] H us) : VN K [a, c] H us := fun u hu => val_sub (fun b hb => List.mem_cons_of_mem _ hb) (h u hu)
theorem tool_tv {K : PySem.W.Frag} {B : List Addr} {H : Hp} {t : Addr} {m : Int} {tl : List (Int × Int)} (h : ToolAt H t tl) (it : IsTool m tl) (hm : m ≤ 60) : TV K B 20000 4 12 H (.ref t) := by
  obtain ⟨xs, h1, h2⟩ := dv_tool (K := K) (B := B) h
  exact ⟨t, xs, _, rfl, h1, h2, fun d hd => (tool_items it hm d hd).mono (by decide) (by decide), by rw [List.length_map]; exact it.len2⟩
theorem TwIn.vn {K : PySem.W.Frag} {B : List Addr} {H : Hp} {v : V} (h : TwIn K B H v) : Val K B 7000000 9 H v := h.val.up (by decide) (by decide)
theorem for_lst {K : PySem.W.Frag} {tl : TE} {g : TG} {tb : TS} {D : Ends} {σ : L2.St} {H : Hp}
    (h : tl σ H fun v H1 => ∃ a, v = .ref a ∧ (∃ xs, SqL K H1 a xs) ∧ ∃ W : Nat → Nat → L2.St → Hp → Prop, (∃ m, W 0 m σ H1) ∧ ∀ i m σ H, W i m σ H →
      ((Itl K a).stop i H ∧ D.nx σ H) ∨ ((Itl K a).go i H ∧ ∃ N : L2.St → Hp → Prop, (∀ σ' H', N σ' H' → ∃ m', m' < m ∧ W (i + 1) m' σ' H') ∧ ∀ x H', (Itl K a).yld i H x H' → g x σ H' fun σ2 H2 => tb { D with nx := N, ct := N, bk := D.nx } σ2 H2)) :
    tFor (iList K tl) g tb D σ H := h
/-! ### defs that may raise -/
def HasX (P : Program) (w : World) (K : PySem.W.Frag) (mg : Str → Option Value) (base : Heap) (k : Nat) (x : Str) (ps : List Str) (sp : Sp) : Prop :=
  ∃ f fd, FnOk P w K mg base (L2.CX P w) k f fd ps sp ∧ mg x = some (.ref f) ∧ PySem.W.keepIn K (.ref f) = true ∧ L2.Binds K fd ps []
section
variable {X : Cx} {k j : Nat} {ps : List Str} {sp : Sp} {x : Str} {p pos : Pos} {e : Expr} {es : List Expr} {t : TA} {W : WX}
theorem pe_callHX (h : HasX X.prog X.w X.K X.mg X.base k x ps sp) (hr : Room j X.A) (hk : k ≤ j) (tk : Takes X W) (hg : Gl X x) (ha : PA X (e :: es) t)
    (hdb : (x == ("__debug__" : Str)) = false := by decide)
    (he : starEach (e :: es) X.env = (false, eval e X.env) :: starEach es X.env := by rfl)
    (hpl : (backTo pos (starEach es X.env)).any (·.1) = false := by rfl) :
    PE X (.Call (.Name x p) (e :: es) [] pos) (tCallS sp (WE W) t) := by
  obtain ⟨f, fd, F, hm, hkp, hb⟩ := h
  exact pe_callS F (hr.mono hk) hg hm hkp hb (fun σ => passAt tk σ) ha hdb he hpl
end
/-! ### an error with one field -/
def spInit (K : PySem.W.Frag) (fld : Str) : Sp := fun vs H Q _ => ∃ (a C : Addr) (v : V), vs = [.ref a, v] ∧ OexC K C ∧ PySem.W.findIn K (.ref C) fld = some none ∧ H a = some (exo a C none) ∧
  ∀ dx, H dx = none → dx ≠ a → Q .non (upd (upd H dx (exd dx [(fld, v)])) a (exo a C (some dx)))
structure ErrC (P : Program) (w : World) (K : PySem.W.Frag) (mg : Str → Option Value) (base : Heap) (x : Str) (fld : Str) (C : Addr) : Prop where
  gC : mg x = some (.ref C)
  ox : OexC K C
  xf : XfC K C
  ec : ExcC K C
  no : PySem.W.findIn K (.ref C) fld = some none
  ini : ∃ fI fd, PySem.W.findIn K (.ref C) "__init__" = some (some (.ref fI)) ∧ PySem.W.typeIn K (.ref fI) = some (.type "function") ∧ FnOk P w K mg base CX0 1 fI fd ["self", fld] (spInit K fld) ∧ L2.Binds K fd ["self", fld] []
theorem pmk_err {X : Cx} {x fld : Str} {C : Addr} {e : Expr} {ta : TA} {p pos : Pos} {k : Nat} (T : ErrC X.prog X.w X.K X.mg X.base x fld C) (hr : Room k X.A) (hk : 2 ≤ k) (hg : Gl X x) (ha : PA X [e] ta)
    (hdb : (x == ("__debug__" : Str)) = false := by decide) (he : starEach [e] X.env = (false, eval e X.env) :: starEach [] X.env := by rfl) (hpl : (backTo pos (starEach [] X.env)).any (·.1) = false := by rfl) :
    PMk X (.Call (.Name x p) [e] [] pos) (tMkO C (spInit X.K fld) [] ta) := by
  obtain ⟨fI, fd, h1, h2, F, b⟩ := T.ini
  exact pmk_oex T.ox h1 h2 F (hr.mono hk) b .nil pass0 hg T.gC ha hdb he hpl
theorem mk_bad {K : PySem.W.Frag} {C : Addr} {fld : Str} {v : V} {H1 : Hp} {Q : XK} (T : OexC K C) (no : PySem.W.findIn K (.ref C) fld = some none)
    (q : ∀ d H', Same H1 H' → H1 d = none → H' d = some (.xd [(fld, v)]) → Q (.ref C) (some d) H') :
    [v].length ≤ 1000 ∧ ∀ a, H1 a = none → spInit K fld (.ref a :: ([v] ++ [])) (upd H1 a (exo a C none))
      (fun v H2 => v = .non ∧ ∃ (d : Addr) (fs : List (Str × V)), H2 a = some (exo a C (some d)) ∧ H2 d = some (exd d fs) ∧ H1 d = none ∧ Q (.ref C) (some d) (upd (del H2 a) d (.xd fs))) (fun _ _ _ => False) := by
  refine ⟨by show 1 ≤ 1000; decide, fun a na => ⟨a, C, v, rfl, T, no, upd_same, fun dx nd ne => ⟨rfl, dx, [(fld, v)], upd_same, ?_, ?_, ?_⟩⟩⟩
  · rw [upd_ne ne, upd_same]
  · rw [upd_ne ne] at nd
    exact nd
  · rw [upd_ne ne] at nd
    refine q dx _ (fun b o e => ?_) nd upd_same
    have ba : b ≠ a := ne_of_none e na
    have bd : b ≠ dx := ne_of_none e nd
    rw [upd_ne bd, del_ne ba, upd_ne ba, upd_ne bd, upd_ne ba]
    exact e
/-! ### what the suite asks of the error -/
def rIsX (K : PySem.W.Frag) (a : Addr) (cls : Value) (d : Option Addr) : List V → Hp → VK → Prop := fun xs H Q => ∃ (D dd : Addr) (fs : List (Str × V)) (c : V) (cv : Value) (b : Bool), cls = .ref D ∧ d = some dd ∧ ExcC K D ∧ xs = [.ref a, c] ∧ H dd = some (.xd fs) ∧ ClsV c cv ∧ PySem.W.kitOne K (.ref D) cv = some b ∧ Q (.bl b) H
def rIsXT (K : PySem.W.Frag) (a : Addr) (cls : Value) (d : Option Addr) : List V → Hp → VK → Prop := fun xs H Q => ∃ (D dd tp : Addr) (fs : List (Str × V)) (cs : List V) (us : List Value) (b : Bool), cls = .ref D ∧ d = some dd ∧ ExcC K D ∧ xs = [.ref a, .ref tp] ∧ H dd = some (.xd fs) ∧ H tp = some (.tup cs) ∧ Paired ClsV cs us ∧ PySem.W.kitAny K (.ref D) us = some b ∧ Q (.bl b) H
section
variable {X : Cx} {a : Addr} {oe : Obj} {cls : Value} {d : Option Addr} {pn : List (Addr × Obj)}
theorem inst_of {D dd : Addr} {fs : List (Str × V)} {pins : List (Addr × Obj)} {s : Shared} {σ : L2.St} {H : Hp} (hz : Zc (.ref D) (some dd) oe) (hf : ∃ vs, oe.data = .fields vs)
    (I : L2.Inv (X.suite a ((a, oe) :: pn)) pins σ H s) (hd : H dd = some (.xd fs)) : ∃ od, PySem.W.InstAt s.heap a oe D (some od) := by
  obtain ⟨ha, _⟩ := I.pin (a, oe) (List.mem_append_left _ List.mem_cons_self)
  obtain ⟨vs, hv⟩ := hf
  obtain ⟨mA, hns, hr⟩ := (show ObjOk X.prog X.w H s.heap dd (.xd fs) from I.hok dd _ hd)
  obtain ⟨od, ho, hl⟩ := lookIn_ns hns
  exact ⟨od, ha, hz.1, by unfold PySem.W.notCls; rw [hv] <;> rfl, by rw [hz.2]; exact ho⟩
theorem kit_x {D : Addr} {od : Option Obj} (C : ExcC X.K D) : PySem.W.KitX X.K (.ref a) (.ref D) (fun h => PySem.W.InstAt h a oe D od) :=
  PySem.W.kitx_exc (by obtain ⟨cd, hc, _⟩ := PySem.W.any_some C.hd; rw [hc]; rfl) C.hg C.hk C.hs C.ha C.hn C.ht C.hm
theorem call_isX (K : PySem.W.Frag) (hz : Zc cls d oe) (hf : ∃ vs, oe.data = .fields vs) (hK : X.K = K := by rfl) : CallR (X.suite a ((a, oe) :: pn)) (.builtin "isinstance") (rIsX K a cls d) := by
  subst hK
  intro pins s σ H xs us Q I r h
  obtain ⟨D, dd, fs, c, cv, b, e1, e2, C, e3, hd, k, e, q⟩ := h
  subst e1
  subst e2
  subst e3
  obtain ⟨u1, u2, eu, r1, r2⟩ := vals2 r
  subst eu
  cases r1
  have e4 := k.eq r2
  subst e4
  obtain ⟨od, J⟩ := inst_of hz hf I hd
  exact PySem.W.kia_one (kit_x C) I.kIn J e (fun z => nomatch z) fun tk => ⟨.bl b, H, I.tok tk, rfl, q⟩
theorem call_isXT (K : PySem.W.Frag) (hz : Zc cls d oe) (hf : ∃ vs, oe.data = .fields vs) (hK : X.K = K := by rfl) : CallR (X.suite a ((a, oe) :: pn)) (.builtin "isinstance") (rIsXT K a cls d) := by
  subst hK
  intro pins s σ H xs us Q I r h
  obtain ⟨D, dd, tp, fs, cs, ws, b, e1, e2, C, e3, hd, hT, k, e, q⟩ := h
  subst e1
  subst e2
  subst e3
  obtain ⟨u1, u2, eu, r1, r2⟩ := vals2 r
  subst eu
  cases r1
  cases (show u2 = Value.ref tp from r2)
  obtain ⟨od, J⟩ := inst_of hz hf I hd
  obtain ⟨_, its, rv, o, h1, h2, n, h3⟩ := (show ObjOk X.prog X.w H s.heap tp (.tup cs) from I.hok tp _ hT)
  have e3 := ClsV.all k rv
  subst e3
  obtain ⟨oc, od2, dt, sl⟩ := o
  simp only at h2 h3
  subst h2 h3
  exact PySem.W.kia_tup (kit_x C) I.kIn J h1 e (fun z => nomatch z) fun tk => ⟨.bl b, H, I.tok tk, rfl, q⟩
/-- e.f -/
theorem kxf (K : PySem.W.Frag) {C : Addr} {e : Expr} {te : TE} {pos : Pos} {n : Str} (T : XfC K C) (hno : PySem.W.findIn K (.ref C) n = some none)
    (hz : Zc cls d oe) (hf : ∃ vs, oe.data = .fields vs) (he : PE (X.suite a ((a, oe) :: pn)) e te) (hK : X.K = K := by rfl) (hb : attributeBase e n X.env (eval e X.env) = eval e X.env := by rfl) :
    PE (X.suite a ((a, oe) :: pn)) (.Attribute e n pos) (tXf a cls d C n te) := by
  subst hK
  exact pe_xf T hno hz hf he hb
end
/-- «except P» of an error whose class stands under P -/
theorem exm_sub {K : PySem.W.Frag} {C S : Addr} (h1 : PySem.W.subIn K (.ref S) (.type "BaseException") = some true) (hd : PySem.W.hasDictIn K S = true) (ht : PySem.W.typeIn K (.ref S) = some (.type "type")) (h4 : PySem.W.subIn K (.ref C) (.ref S) = some true) : PySem.W.exmOne K (.ref C) (.ref S) = some true :=
  PySem.W.exm_ref h1 hd ht h4
theorem hasx_mk {P : Program} {w : World} {K : PySem.W.Frag} {mg : Str → Option Value} {base : Heap} {k : Nat} {x : Str} {st : Stmt} {f : Addr} {fd : FuncData} {ps : List Str} {sp : Sp}
    (F : Fun K x x st f fd) (ok : FnOk P w K mg base (L2.CX P w) k f fd ps sp) (hm : mg x = some (.ref f)) (hb : L2.Binds K fd ps []) : HasX P w K mg base k x ps sp := ⟨f, fd, ok, hm, F.kp, hb⟩
/-! ### plans -/
def pushOk (n : Int) (d : PyData) : Bool := match d with
  | .tuple [x, y] => inB (-(10 ^ 30 - 1)) (10 ^ 30 - 1) x && inB 0 (n - 1) y
  | _ => false
def firstBad (n : Int) : Nat → List PyData → Option PyData
  | _, [] => none
  | k, d :: ds => if pushOk n d = true then firstBad n (k + 1) ds else some (.int (k : Nat))
theorem fb_cons (n : Int) (k : Nat) (d : PyData) (ds : List PyData) : firstBad n k (d :: ds) = if pushOk n d = true then firstBad n (k + 1) ds else some (.int (k : Nat)) := rfl
def planErr (n : Int) (d : PyData) : Option PyData := match d with
  | .tuple ds => if ds.length ≤ 100 then firstBad n 0 ds else some .none
  | _ => some .none
def idV : PyData → V
  | .int k => .int k
  | _ => .non
def pairI : PyData → Int × Int
  | .tuple [.int x, .int y] => (x, y)
  | _ => (0, 0)
def qsOf : PyData → List (Int × Int)
  | .tuple ds => ds.map pairI
  | _ => []
theorem push_pair {n : Int} {d : PyData} (h : pushOk n d = true) : d = pairD (pairI d) ∧ 0 ≤ (pairI d).2 ∧ (pairI d).2 < n := by
  unfold pushOk at h
  split at h
  · rename_i x y
    rw [Bool.and_eq_true] at h
    cases x with
    | int x =>
      cases y with
      | int y =>
        have h2 : (decide (0 ≤ y) && decide (y ≤ n - 1)) = true := h.2
        rw [Bool.and_eq_true] at h2
        have a1 := of_decide_eq_true h2.1
        have a2 := of_decide_eq_true h2.2
        exact ⟨rfl, a1, by show y < n; omega⟩
      | _ => cases h.2
    | _ => cases h.1
  · cases h
theorem first_none {n : Int} : ∀ (ds : List PyData) (k : Nat), firstBad n k ds = none → ∀ d ∈ ds, pushOk n d = true
  | [], _, _, d, hd => absurd hd List.not_mem_nil
  | x :: ds, k, h, d, hd => by
    unfold firstBad at h
    split at h
    · rename_i z
      rcases List.mem_cons.mp hd with e | e
      · rw [e]
        exact z
      · exact first_none ds (k + 1) h d e
    · cases h
theorem first_some {n : Int} : ∀ (ds : List PyData) (k : Nat) {iv : PyData}, firstBad n k ds = some iv → ∃ j : Nat, iv = .int (j : Nat)
  | [], _, _, h => by cases h
  | x :: ds, k, iv, h => by
    unfold firstBad at h
    split at h
    · exact first_some ds (k + 1) h
    · cases h
      exact ⟨k, rfl⟩
theorem plan_ok {n : Int} {d : PyData} (h : planErr n d = none) : d = .tuple ((qsOf d).map pairD) ∧ (qsOf d).length ≤ 100 ∧ ∀ q ∈ qsOf d, 0 ≤ q.2 ∧ q.2 < n := by
  unfold planErr at h
  split at h
  · rename_i ds
    split at h
    · rename_i l
      have a := first_none ds 0 h
      refine ⟨?_, ?_, ?_⟩
      · show PyData.tuple ds = .tuple ((ds.map pairI).map pairD)
        rw [List.map_map]
        congr 1
        exact (List.map_id ds).symm.trans (List.map_congr_left fun d hd => (push_pair (a d hd)).1)
      · show (ds.map pairI).length ≤ 100
        rw [List.length_map]
        exact l
      · intro q hq
        obtain ⟨d, hd, e⟩ := List.mem_map.mp hq
        rw [← e]
        exact (push_pair (a d hd)).2
    · cases h
  · cases h
theorem plan_bad {n : Int} {d iv : PyData} (h : planErr n d = some iv) : iv = .none ∨ ∃ j : Nat, iv = .int (j : Nat) := by
  unfold planErr at h
  split at h
  · split at h
    · exact .inr (first_some _ _ h)
    · cases h
      exact .inl rfl
  · cases h
    exact .inl rfl
theorem first_lt {n : Int} : ∀ (ds : List PyData) (k : Nat) {j : Nat}, firstBad n k ds = some (.int (j : Nat)) → j < k + ds.length
  | [], _, _, h => by cases h
  | x :: ds, k, j, h => by
    unfold firstBad at h
    rw [List.length_cons]
    split at h
    · have := first_lt ds (k + 1) h
      omega
    · injection h with h
      injection h with h
      omega
theorem plan_small {n : Int} {d : PyData} {j : Nat} (h : planErr n d = some (.int (j : Nat))) : j < 100 := by
  unfold planErr at h
  split at h
  · split at h
    · have := first_lt _ _ h
      omega
    · cases h
  · cases h
/-! ### where a plan leads -/
def pushF (m : Int) (tl : List (Int × Int)) (b : Int) (ps : List Int) : List Int := (upto m).filter fun y => ps.any fun z => decide (tgt tl ((z + b) % m) = y)
theorem pf_asc (m : Int) (tl : List (Int × Int)) (b : Int) (ps : List Int) : (pushF m tl b ps).Pairwise (· < ·) := List.Pairwise.filter _ (pw_lt_upto m)
theorem pf_mem {m : Int} {tl : List (Int × Int)} (it : IsTool m tl) {b : Int} {ps : List Int} {y : Int} : y ∈ pushF m tl b ps ↔ ∃ z ∈ ps, tgt tl ((z + b) % m) = y := by
  unfold pushF
  rw [List.mem_filter, upto_mem, List.any_eq_true]
  constructor
  · intro ⟨_, z, hz, e⟩
    exact ⟨z, hz, of_decide_eq_true e⟩
  · intro ⟨z, hz, e⟩
    refine ⟨?_, z, hz, decide_eq_true e⟩
    rw [← e]
    exact tgt_rng it _
theorem pf_rng {m : Int} {tl : List (Int × Int)} {b : Int} {ps : List Int} : ∀ y ∈ pushF m tl b ps, 0 ≤ y ∧ y < m := fun y hy => upto_mem.mp (List.mem_filter.mp hy).1
theorem pf_is {m : Int} {tl : List (Int × Int)} (it : IsTool m tl) {b : Int} {ps out : List Int} (h : out.Pairwise (· < ·)) (hm : ∀ y, y ∈ out ↔ ∃ z ∈ ps, tgt tl ((z + b) % m) = y) : out = pushF m tl b ps :=
  sorted_uniq h (pf_asc _ _ _ _) fun y => (hm y).trans (pf_mem it).symm
def planF (m : Int) (tls : List (List (Int × Int))) (ps : List Int) (qs : List (Int × Int)) : List Int := qs.foldl (fun cur q => pushF m (tls.getD q.2.toNat []) q.1 cur) ps
theorem planF_succ {m : Int} {tls : List (List (Int × Int))} {ps : List Int} {qs : List (Int × Int)} {i : Nat} {q : Int × Int} (h : qs[i]? = some q) : planF m tls ps (qs.take (i + 1)) = pushF m (tls.getD q.2.toNat []) q.1 (planF m tls ps (qs.take i)) := by
  unfold planF
  rw [List.take_add_one, h, List.foldl_append]
  rfl
def resD (m : Int) (tls : List (List (Int × Int))) (ps : List Int) (d : PyData) : PyData := match planErr (tls.length : Nat) d with
  | none => tupD (planF m tls ps (qsOf d))
  | some iv => .list [.str "bad", iv]
/-- a circle, tools, any value, places -/
structure Pre (K : PySem.W.Frag) (H : Hp) (B : List Addr) (m : Int) (t : Addr) (tls : List (List (Int × Int))) (v : V) (d : PyData) (pl : Addr) (ps : List Int) : Prop where
  hm1 : 1 ≤ m
  hm2 : m ≤ 60
  ta : ToolsAt H t tls
  tl : tls.length ≤ 4
  its : ∀ tl ∈ tls, IsTool m tl
  hp : SqT K H pl (ps.map V.int)
  asc : ps.Pairwise (· < ·)
  rng : ∀ x ∈ ps, 0 ≤ x ∧ x < m
  dv : Dv K H B v d
theorem Pre.same {K : PySem.W.Frag} {H H' : Hp} {B : List Addr} {m : Int} {t : Addr} {tls : List (List (Int × Int))} {v : V} {d : PyData} {pl : Addr} {ps : List Int} (h : Pre K H B m t tls v d pl ps) (s : Same H H') : Pre K H' B m t tls v d pl ps :=
  ⟨h.hm1, h.hm2, h.ta.stay (.of_same s), h.tl, h.its, same_tup s h.hp, h.asc, h.rng, h.dv.same s⟩
theorem tools_get {H : Hp} {t : Addr} {tls : List (List (Int × Int))} (h : ToolsAt H t tls) {j : Int} (h0 : 0 ≤ j) (h1 : j < (tls.length : Nat)) {K : PySem.W.Frag} :
    ∃ xs p, SqT K H t xs ∧ atI xs j = some (.ref p) ∧ ToolAt H p (tls.getD j.toNat []) ∧ tls.getD j.toNat [] ∈ tls := by
  obtain ⟨as, h2, h3⟩ := h
  have len := Paired.length h3
  have hj : j.toNat < as.length := by omega
  have e : (as.map V.ref)[j.toNat]? = some (.ref as[j.toNat]) := by
    rw [List.getElem?_map, List.getElem?_eq_getElem hj]
    rfl
  obtain ⟨p, tl, e1, e2, e3⟩ := ToolsAt.get (K := K) h3 e
  have eg : tls.getD j.toNat [] = tl := by
    rw [List.getD_eq_getElem?_getD, e2]
    rfl
  refine ⟨_, p, SqT.of h2, atI_pos h0 (by rw [e, e1]), by rw [eg]; exact e3, by rw [eg]; exact List.mem_of_getElem? e2⟩
theorem tools_len {H : Hp} {t : Addr} {tls : List (List (Int × Int))} (h : ToolsAt H t tls) {K : PySem.W.Frag} : ∃ xs, SqT K H t xs ∧ xs.length = tls.length := by
  obtain ⟨as, h2, h3⟩ := h
  exact ⟨_, SqT.of h2, by rw [List.length_map]; exact Paired.length h3⟩
def spTurn (K : PySem.W.Frag) : Sp := fun vs H Q _ => ∃ (v : V) (d : PyData) (B : List Addr), vs = [v] ∧ Dv K H B v d ∧ Q (.bl (inB (-(10 ^ 30 - 1)) (10 ^ 30 - 1) d)) H
def spIdx (K : PySem.W.Frag) : Sp := fun vs H Q _ => ∃ (t : Addr) (ts : List V) (v : V) (d : PyData) (B : List Addr), vs = [.ref t, v] ∧ SqT K H t ts ∧ Dv K H B v d ∧ Q (.bl (inB 0 ((ts.length : Nat) - 1) d)) H
def spIsPush (K : PySem.W.Frag) : Sp := fun vs H Q _ => ∃ (t : Addr) (ts : List V) (v : V) (d : PyData) (B : List Addr), vs = [.ref t, v] ∧ SqT K H t ts ∧ Dv K H B v d ∧ Q (.bl (pushOk (ts.length : Nat) d)) H
def spLPush (K : PySem.W.Frag) : Sp := fun vs H Q _ => ∃ (n : Int) (v : V) (d : PyData) (B : List Addr), vs = [.int n, v] ∧ Dv K H B v d ∧ Q (.bl (pushOk n d)) H
def spCheck (K : PySem.W.Frag) (C : Addr) : Sp := fun vs H Q E => ∃ (t : Addr) (ts : List V) (v : V) (d : PyData) (B : List Addr), vs = [.ref t, v] ∧ SqT K H t ts ∧ Dv K H B v d ∧
  (planErr (ts.length : Nat) d = none → ∀ H', Same H H' → Q .non H') ∧
  ∀ iv, planErr (ts.length : Nat) d = some iv → ∀ dd H', Same H H' → H dd = none → H' dd = some (.xd [("index", idV iv)]) → E (.ref C) (some dd) H'
def spAfter (K : PySem.W.Frag) (C : Addr) : Sp := fun vs H Q E => ∃ (m : Int) (t : Addr) (tls : List (List (Int × Int))) (v : V) (d : PyData) (B : List Addr) (pl : Addr) (ps : List Int), vs = [.int m, .ref t, v, .ref pl] ∧ Pre K H B m t tls v d pl ps ∧
  (planErr (tls.length : Nat) d = none → ∀ p H', Same H H' → SqT K H' p ((planF m tls ps (qsOf d)).map V.int) → Q (.ref p) H') ∧
  ∀ iv, planErr (tls.length : Nat) d = some iv → ∀ dd H', Same H H' → H dd = none → H' dd = some (.xd [("index", idV iv)]) → E (.ref C) (some dd) H'
def spDueP (K : PySem.W.Frag) : Sp := fun vs H Q _ => ∃ (m : Int) (t : Addr) (tls : List (List (Int × Int))) (v : V) (d : PyData) (B : List Addr) (pl : Addr) (ps : List Int) (B0 : List Addr), vs = [.int m, .ref t, v, .ref pl] ∧ Pre K H B m t tls v d pl ps ∧ Stands B0 H ∧
  ∀ r H', Same H H' → Dv K H' B0 r (resD m tls ps d) → Q r H'
def spOddP (K : PySem.W.Frag) : Sp := fun vs H Q _ => ∃ (a c : Addr) (B : List Addr) (k n : Int), vs = [.ref a, .int n] ∧ a ∈ B ∧ c ∈ B ∧ Stands B H ∧ Deck H a c k ∧ k + 1 ≤ 1000000 ∧ 0 ≤ n ∧ n ≤ 60 ∧
  ∀ (v : V) (H' : Hp), Val K B 20000 4 H' v → Deck H' a c (k + 1) → Keep a c H H' → Q v H'
theorem dvs_ints {K : PySem.W.Frag} {H : Hp} {B : List Addr} : ∀ ns : List Int, DvAll K H B (ns.map V.int) (ns.map PyData.int)
  | [] => .nil
  | n :: r => .cons (.int n) (dvs_ints r)
theorem lc_enT {K : PySem.W.Frag} {a : Addr} {xs : List V} {g : TG} {tt : TT} {te : TE} {vs : List Nat} {σ : L2.St} {H1 : Hp} {D : Addr} {Qd : Hp → Prop} (Pv : Nat → Hp → Prop) (h0 : Pv 0 (upd H1 D (.lst []))) (hl : ∀ i H, i ≤ xs.length → Pv i H → SqT K H a xs)
    (hs : ∀ i x T H, xs[i]? = some x → Pv i H → H T = none → g (.ref T) (wipe σ vs) (upd H T (.tup [.int (i : Nat), x])) fun σ2 H2 => wipe σ2 vs = wipe σ vs ∧ tt σ2 H2 fun b H3 =>
      if b = true then te σ2 H3 fun y H4 => ∃ acc, H4 D = some (.lst acc) ∧ acc.length < sizeLine ∧ Pv (i + 1) (upd H4 D (.lst (acc ++ [y]))) else Pv (i + 1) H3) (hd : ∀ H, Pv xs.length H → Qd H) :
    ∃ W : Nat → Nat → Hp → Prop, (∃ m, W 0 m (upd H1 D (.lst []))) ∧ ∀ i m H, W i m H →
      ((Iet K a).stop i H ∧ Qd H) ∨ ((Iet K a).go i H ∧ ∃ Nx : Hp → Prop, (∀ H', Nx H' → ∃ m', m' < m ∧ W (i + 1) m' H') ∧ ∀ x H', (Iet K a).yld i H x H' → g x (wipe σ vs) H' fun σ2 H2 => wipe σ2 vs = wipe σ vs ∧ tt σ2 H2 fun b H3 =>
        if b = true then te σ2 H3 fun y H4 => ∃ acc, H4 D = some (.lst acc) ∧ acc.length < sizeLine ∧ Nx (upd H4 D (.lst (acc ++ [y]))) else Nx H3) := by
  refine ⟨fun i m H => m = xs.length - i ∧ i ≤ xs.length ∧ Pv i H, ⟨xs.length, by simp, Nat.zero_le _, h0⟩, fun i m H ⟨em, hi, p⟩ => ?_⟩
  subst em
  have z := hl i H hi p
  by_cases lt : i < xs.length
  · refine .inr ⟨⟨xs, xs[i], z, by simp [lt]⟩, Pv (i + 1), fun H' p' => ⟨xs.length - (i + 1), by omega, rfl, lt, p'⟩, fun v H' y => ?_⟩
    obtain ⟨T, x, ev, fr, eH, hx⟩ := y
    subst ev
    subst eH
    exact hs i x T H (hx xs z) p fr
  · have ei : i = xs.length := by omega
    subst ei
    exact .inl ⟨⟨xs, z, rfl⟩, hd H p⟩
/-- the bad ones' numbers -/
def badOf (n : Int) (k : Nat) : List PyData → List Int
  | [] => []
  | d :: ds => if pushOk n d = true then badOf n (k + 1) ds else (k : Int) :: badOf n (k + 1) ds
theorem bad_first {n : Int} : ∀ (ds : List PyData) (k : Nat), firstBad n k ds = match badOf n k ds with
    | [] => none
    | j :: _ => some (.int j)
  | [], _ => rfl
  | d :: ds, k => by
    unfold firstBad badOf
    split
    · exact bad_first ds (k + 1)
    · rfl
theorem bad_snoc {n : Int} (d : PyData) : ∀ (ds : List PyData) (k : Nat), badOf n k (ds ++ [d]) = badOf n k ds ++ (if pushOk n d = true then [] else [((k + ds.length : Nat) : Int)])
  | [], k => by
    show badOf n k [d] = [] ++ _
    unfold badOf
    split <;> rfl
  | x :: ds, k => by
    show badOf n k (x :: (ds ++ [d])) = _
    unfold badOf
    rw [bad_snoc d ds (k + 1), List.length_cons, show k + 1 + ds.length = k + (ds.length + 1) by omega]
    split
    · rfl
    · rfl
theorem bad_len {n : Int} : ∀ (ds : List PyData) (k : Nat), (badOf n k ds).length ≤ ds.length
  | [], _ => Nat.le_refl _
  | d :: ds, k => by
    unfold badOf
    split
    · exact Nat.le_trans (bad_len ds (k + 1)) (Nat.le_succ _)
    · exact Nat.succ_le_succ (bad_len ds (k + 1))
/-- a comprehension over a range whose elements are any data -/
theorem lcRV {K : PySem.W.Frag} {j : Nat} {te : TE} {vs : List Nat} {σ : L2.St} {H1 : Hp} {D : Addr} {Qd : Hp → Prop} {lo : Int} {n : Nat} (d : Nat → PyData) (hn : n ≤ 100000) (nD : H1 D = none)
    (hw : ∀ v, wipe ((wipe σ vs).set j (some v)) vs = wipe σ vs)
    (he : ∀ (i : Nat) (H : Hp) (Q : VK), i < n → Same H1 H → Stands [D] H → (∀ v H', Same H H' → Dv K H' [D] v (d i) → Q v H') → te ((wipe σ vs).set j (some (.int (lo + i)))) H Q)
    (hd : ∀ us H', Same H1 H' → H' D = some (.lst us) → DvAll K H' [D] us ((List.range n).map d) → Qd H') :
    ∃ W : Nat → Nat → Hp → Prop, (∃ m, W 0 m (upd H1 D (.lst []))) ∧ ∀ i m H, W i m H → ((Itr lo n).stop i H ∧ Qd H) ∨ ((Itr lo n).go i H ∧
      ∃ Nx : Hp → Prop, (∀ H', Nx H' → ∃ m', m' < m ∧ W (i + 1) m' H') ∧ ∀ x H', (Itr lo n).yld i H x H' → gName j x (wipe σ vs) H' fun σ2 H2 =>
        wipe σ2 vs = wipe σ vs ∧ tYes σ2 H2 fun b H3 => if b = true then te σ2 H3 fun y H4 => ∃ acc, H4 D = some (.lst acc) ∧ acc.length < sizeLine ∧ Nx (upd H4 D (.lst (acc ++ [y]))) else Nx H3) := by
  refine lc_range (fun i H => ∃ us, Same H1 H ∧ H D = some (.lst us) ∧ DvAll K H [D] us ((List.range i).map d)) ?_ ?_ ?_
  · exact ⟨[], same_upd nD, upd_same, .nil⟩
  · intro i H hi h
    obtain ⟨us, hs, hD, ha⟩ := h
    have st : Stands [D] H := fun b hb => by
      rw [List.mem_singleton.mp hb, hD]
      exact fun z => by cases z
    refine ⟨hw _, he i H _ hi hs st fun v H' s' hv => ⟨us, s' _ _ hD, ?_, us ++ [v], ?_, upd_same, ?_⟩⟩
    · have := ha.len
      rw [List.length_map, List.length_range] at this
      rw [this]
      exact Nat.lt_trans hi (Nat.lt_of_le_of_lt hn (by decide))
    · intro x o e
      rw [upd_ne (ne_of_none e nD)]
      exact s' _ _ (hs _ _ e)
    · have mv : Mv [D] H' (upd H' D (.lst (us ++ [v]))) := Mv.of_list (s' _ _ hD) List.mem_cons_self
      rw [List.range_succ, List.map_append]
      exact ((ha.same s').mv mv).app (.cons (hv.mv mv) .nil)
  · intro H h
    obtain ⟨us, hs, hD, ha⟩ := h
    exact hd us H hs hD ha
section
variable {K : PySem.W.Frag} {H : Hp} {B : List Addr}
mutual
theorem Dv.dp : ∀ (d : PyData) (v : V), d.hasDict = false → Dv K H B v d → Dp K H v d
  | .none, _, _, h => by
    cases h
    exact .non
  | .bool b, _, _, h => by
    cases h
    exact .bl b
  | .int i, _, _, h => by
    cases h
    exact .int i
  | .str x, _, _, h => by
    cases h
    exact .str x
  | .list ds, _, nd, h => by
    cases h with
    | lst hs n1 ha => exact .lst (SqL.of hs) (DvAll.dp ds _ nd ha)
  | .tuple ds, _, nd, h => by
    cases h with
    | tup hs ha => exact .tup hs (DvAll.dp ds _ nd ha)
  | .dict _, _, nd, h => by cases nd
theorem DvAll.dp : ∀ (ds : List PyData) (vs : List V), PyData.hasDictAll ds = false → DvAll K H B vs ds → DpAll K H vs ds
  | [], _, _, h => by
    cases h
    exact .nil
  | d :: ds, _, nd, h => by
    have nd : (d.hasDict || PyData.hasDictAll ds) = false := nd
    rw [Bool.or_eq_false_iff] at nd
    cases h with
    | cons h1 h2 => exact .cons (Dv.dp d _ nd.1 h1) (DvAll.dp ds _ nd.2 h2)
end
end
theorem planF_rng {m : Int} {tls : List (List (Int × Int))} : ∀ (qs : List (Int × Int)) {ps : List Int}, ps.Pairwise (· < ·) → (∀ x ∈ ps, 0 ≤ x ∧ x < m) → (planF m tls ps qs).Pairwise (· < ·) ∧ ∀ x ∈ planF m tls ps qs, 0 ≤ x ∧ x < m
  | [], ps, h1, h2 => ⟨h1, h2⟩
  | q :: qs, ps, h1, h2 => planF_rng qs (pf_asc _ _ _ _) pf_rng
theorem res_fine {m : Int} {tls : List (List (Int × Int))} {ps : List Int} {d : PyData} (hm1 : 1 ≤ m) (hm : m ≤ 60) (h1 : ps.Pairwise (· < ·)) (h2 : ∀ x ∈ ps, 0 ≤ x ∧ x < m) : Fine (resD m tls ps d) 3900000 1 := by
  unfold resD
  split
  · have r := planF_rng (m := m) (tls := tls) (qsOf d) h1 h2
    have := sorted_le r.1 r.2
    exact tupD_fine (by omega) fun n hn => small_int (by have := r.2 n hn; omega)
  · rename_i iv e
    refine (fine_list (ds := [.str "bad", iv]) (n := 1921) (e := 0) fun x hx => ?_).mono (by show 2 * (1921 + 2) + 2 ≤ 3900000; decide) (Nat.le_refl _)
    rcases List.mem_cons.mp hx with z | z
    · rw [z]
      exact ⟨by decide +kernel, rfl, Nat.le_refl _, by decide +kernel⟩
    · rw [List.mem_singleton.mp z]
      rcases plan_bad e with w | ⟨j, w⟩
      · rw [w]
        exact fine_none
      · rw [w] at e ⊢
        have := plan_small e
        exact fine_int (small_int (by omega))
theorem dvp_bar {K : PySem.W.Frag} {H : Hp} {B B' : List Addr} : ∀ {xs : List V} {qs : List (Int × Int)}, DvAll K H B xs (qs.map pairD) → DvAll K H B' xs (qs.map pairD)
  | _, [], h => by
    cases h
    exact .nil
  | _, q :: qs, h => by
    cases h with
    | cons h1 h2 =>
      obtain ⟨r, e, hr⟩ := dv_pair h1
      subst e
      exact .cons (.tup hr (.cons (.int _) (.cons (.int _) .nil))) (dvp_bar h2)
section
variable {K : PySem.W.Frag} {B : List Addr} {σ : L2.St} {H0 : Hp}
theorem yt_rep1 {te : TE} {n e : Nat} {k : Nat} {i : Int} (ei : i = (k : Nat)) (h : Ys σ H0 te (Val K B n e)) (hk : 2 ≤ k) (hk2 : k ≤ 200) : Ys σ H0 (tOp (rRepT K) (tTup (tCons te tNil)) (tC (.int i))) (TV K B n e k) := by
  subst ei
  intro H Q s q
  refine h H _ s fun v H1 s1 r1 => ⟨by show 1 ≤ sizeLine; decide, fun p np => ?_⟩
  have s2 := same_upd (o := .tup [v]) np
  obtain ⟨d, dv, nt⟩ := val_stable _ _ _ s2 r1
  refine ⟨p, ((k : Nat) : Int), [v], rfl, rfl, SqT.of upd_same, List.cons_ne_nil _ _, by omega, by omega, by show 1 ≤ 1000; decide, fun p2 n2 => ?_⟩
  rw [show ((k : Nat) : Int).toNat = k by omega]
  have s3 := same_upd (o := .tup (List.replicate k [v]).flatten) n2
  have dm := ((DvAll.cons dv .nil).many k).same s3
  refine q _ _ ((s1.trans s2).trans s3) ⟨p2, _, _, rfl, SqT.of upd_same, dm, fun x hx => ?_, ?_⟩
  · obtain ⟨l, hl, hx⟩ := List.mem_flatten.mp hx
    rw [List.eq_of_mem_replicate hl] at hx
    rw [List.mem_singleton.mp hx]
    exact nt
  · rw [← dm.len]
    simp
end
theorem tools_dv {K : PySem.W.Frag} {H : Hp} {B : List Addr} {a : Addr} {tls : List (List (Int × Int))} (h : ToolsAt H a tls) : Dv K H B (.ref a) (toolsD tls) := by
  obtain ⟨as, h1, h2⟩ := h
  refine .tup (SqT.of h1) ?_
  have key : ∀ {as : List Addr} {tls : List (List (Int × Int))}, Paired (fun p tl => ToolAt H p tl) as tls → DvAll K H B (as.map V.ref) (tls.map toolD) := by
    intro as tls h
    induction h with
    | nil => exact .nil
    | cons h _ ih =>
      obtain ⟨xs, w1, w2⟩ := dv_tool (K := K) (B := B) h
      exact .cons (.tup w1 w2) ih
  exact key h2
/-- a turn and a number, or what stands for it -/
def TwP (K : PySem.W.Frag) : Hp → V → Prop := fun H v => ∃ q i j, v = .ref q ∧ SqT K H q [.int i, twV j] ∧ i.natAbs < 10 ^ 30 ∧ j.natAbs < 10 ^ 30
theorem TwP.stay {K : PySem.W.Frag} {H H' : Hp} {v : V} (s : Stay H H') (h : TwP K H v) : TwP K H' v := by
  obtain ⟨q, i, j, e, h1, h2⟩ := h
  exact ⟨q, i, j, e, stay_tup s h1, h2⟩
theorem TwP.val {K : PySem.W.Frag} {H : Hp} {v : V} {B : List Addr} (h : TwP K H v) : Val K B 20000 4 H v := by
  obtain ⟨q, i, j, e, h1, h2, h3⟩ := h
  subst e
  obtain ⟨d2, x2, y2⟩ := tw_val (K := K) (H := H) (B := B) h3
  refine ⟨.tuple [.int i, d2], .tup h1 (.cons (.int _) (.cons x2 .nil)), (neat_tuple (ds := [.int i, d2]) (n := 2000) (e := 1) fun d hd => ?_).mono (by show 2 * (2000 + 2) + 3 ≤ 20000; decide) (by decide)⟩
  simp only [List.mem_cons, List.not_mem_nil, or_false] at hd
  rcases hd with z | z
  · rw [z]
    exact (fine_int (small_int (Nat.lt_trans h2 (by decide)))).neat.mono (by decide) (by decide)
  · rw [z]
    exact y2
def V4 (K : PySem.W.Frag) (B : List Addr) (H : Hp) (us : List V) : Prop := ∀ u ∈ us, Val K B 3000000 8 H u
theorem V4.same {K : PySem.W.Frag} {B : List Addr} {H H' : Hp} {us : List V} (s : Same H H') (h : V4 K B H us) : V4 K B H' us := fun u hu => val_stable _ _ _ s (h u hu)
theorem V4.app {K : PySem.W.Frag} {B : List Addr} {H : Hp} {us ws : List V} (h : V4 K B H us) (h2 : V4 K B H ws) : V4 K B H (us ++ ws) := by
  intro u hu
  rcases List.mem_append.mp hu with z | z
  · exact h u z
  · exact h2 u z
theorem ys_up {K : PySem.W.Frag} {B : List Addr} {σ : L2.St} {H0 : Hp} {te : TE} {n e n' e' : Nat} (h : Ys σ H0 te (Val K B n e)) (h1 : n ≤ n') (h2 : e ≤ e') : Ys σ H0 te (Val K B n' e') := ys_mono h fun _ _ z => z.up h1 h2
theorem ys_tv {K : PySem.W.Frag} {B : List Addr} {σ : L2.St} {H0 : Hp} {te : TE} {n e n' e' L : Nat} (h : Ys σ H0 te (TV K B n e L)) (h1 : L * (n + 2) + 3 ≤ n') (h2 : e + 1 ≤ e') : Ys σ H0 te (Val K B n' e') := ys_mono h fun _ _ z => z.val h1 h2
/-- values + [..] -/
theorem cat_step {K : PySem.W.Frag} {B : List Addr} {σ : L2.St} {H : Hp} {ta : TA} {i : Nat} {p : Addr} {us : List V} {L : Nat} {Q : VK} (hv : σ[i]? = some (some (.ref p))) (hp : H p = some (.lst us)) (hu : us.length ≤ 100) (hL : L ≤ 100) (vs : V4 K B H us)
    (h : Ya σ H ta (Val K B 3000000 8) L)
    (q : ∀ p2 ws H', Same H H' → H' p2 = some (.lst (us ++ ws)) → ws.length = L → V4 K B H' (us ++ ws) → Q (.ref p2) H') : tOp rCat (tVar i) (tLst ta) σ H Q := by
  refine ⟨.ref p, hv, Ya.lst h (by omega) (Same.refl _) fun ws H1 p1 s1 l1 r1 n1 => ?_⟩
  have s2 := same_upd (o := .lst ws) n1
  refine ⟨p, p1, us, ws, rfl, rfl, s2 _ _ (s1 _ _ hp), upd_same, Nat.le_of_lt (small1000 (by omega)), fun p2 n2 => ?_⟩
  have s3 := same_upd (o := .lst (us ++ ws)) n2
  exact q p2 ws _ ((s1.trans s2).trans s3) upd_same l1 (V4.app (V4.same ((s1.trans s2).trans s3) vs) (V4.same (s2.trans s3) r1))
def topS (i : Nat) : Stmt := PySem.Challenge.pw_blindpush_k04_places_after_plans.main.body.getD i (.Pass ⟨0, 0, 0, 0⟩)
section
open Classical
variable {P : Program} {w : World} {K : PySem.W.Frag} {mg : Str → Option Value} {base : Heap}
abbrev s__law_draw : Stmt := topS 23
abbrev N__law_draw : List Str := ["_law_deck_here", "_law_limit", "_law_cell", "_law_index"]
theorem sc__law_draw : FnScope N__law_draw ["_law_deck_here", "_law_limit"] (defScope s__law_draw) :=
  ⟨rfl, rfl, rfl, by decide +kernel, rfl, by decide +kernel, by decide +kernel⟩

theorem ok_draw {f : Addr} {fd : FuncData} (F : Fun K "_law_draw" "_law_draw" s__law_draw f fd) (T : Bi mg) :
    FnOk P w K mg base CX0 1 f fd ["_law_deck_here", "_law_limit"] spDraw := by
  refine F.ok sc__law_draw (fun vs H Q E h => ?_) (fun cdv A outer s H vs Q E hr h => ?_)
  · obtain ⟨a, c, k, lim, e, _⟩ := h
    subst e
    rfl
  obtain ⟨a, c, k, lim, e, dk, hk, hl1, hl2, q⟩ := h
  subst e
  obtain ⟨ns, j, hac, ha, hc, hn, hj0, hjk⟩ := dk
  refine ⟨_, (pss_cons (ps_asg (pe_op op_add (pe_ix (kixL K) (pv 0) pe_int (fun _ _ => rfl)) pe_int) (pg_sub (pv 0) pe_int set_list))
  (pss_cons (ps_asg (pe_tup (pa_cons pe_int (pa_cons (pe_un un_neg pe_int) pa_nil))) (kgtup K 2 rfl (pgs_cons (pg_name (i := 2) sc__law_draw.nd rfl (.inl rfl)) (pgs_cons (pg_name (i := 3) sc__law_draw.nd rfl (.inl rfl)) pgs_nil))))
  (C8.pss_cut (ps_if (pt_cmpR op_gt (pe_callB (klen K) (by rfl) T.len (by decide +kernel) (pa_cons (pe_ix (kixL K) (pv 0) pe_int (fun _ _ => rfl)) pa_nil)) pe_int (nomark _))
  (pss_cons (ps_set (i := 3) sc__law_draw.nd rfl (.inl rfl) (pe_op op_mod (pe_ix (kixL K) (pv 0) pe_int (fun _ _ => rfl)) (pe_callB (klen K) (by rfl) T.len (by decide +kernel) (pa_cons (pe_ix (kixL K) (pv 0) pe_int (fun _ _ => rfl)) pa_nil))))
  (pss_one (ps_set (i := 2) sc__law_draw.nd rfl (.inl rfl) (pe_ix (kixL K) (pe_ix (kixL K) (pv 0) pe_int (fun _ _ => rfl)) (pv 3) (fun _ _ => rfl)))))
  pss_nil)
  (pss_cons (ps_if (pt_cmpR op_ge (pv 2) (pe_op op_pow pe_int pe_int) (nomark _))
  (pss_cons (ps_asg (pe_op op_fdivW (pv 2) (pv 1)) (pg_sub (pe_ix (kixL K) (pv 0) pe_int (fun _ _ => rfl)) (pv 3) set_list))
  (pss_one (ps_ret (pe_op op_mod (pv 2) (pv 1)))))
  pss_nil)
  (pss_one (ps_ret (pe_op op_mod (pe_op op_fdiv (pe_op op_mod (pe_op op_pow (pe_op op_add (pe_op op_add (pe_op op_mod (pv 2) pe_int) (pe_op op_mul pe_int (pe_ix (kixL K) (pv 0) pe_int (fun _ _ => rfl)))) pe_int) pe_int) pe_int) pe_int) (pv 1)))))))), ?_⟩
  -- the count
  refine ⟨.ref a, rfl, a, _, 1, .int j, rfl, rfl, SqL.of ha, rfl, j, 1, rfl, rfl, .ref a, rfl, a, _, 1, 1, rfl, rfl, ha, rfl, ?_⟩
  rw [set0]
  have ha1 : upd H a (.lst [.ref c, .int (j + 1)]) a = some (.lst [.ref c, .int (j + 1)]) := upd_same
  have hc1 : upd H a (.lst [.ref c, .int (j + 1)]) c = some (.lst (ns.map V.int)) := by
    rw [upd_ne hac.symm]
    exact hc
  have kp1 : Keep a c H (upd H a (.lst [.ref c, .int (j + 1)])) := by
    intro b o h1 h2 h3
    rw [upd_ne h1]
    exact h3
  revert ha1 hc1 kp1
  generalize upd H a (.lst [.ref c, .int (j + 1)]) = H1
  intro ha1 hc1 kp1
  -- cell, index = 0, -1
  refine ⟨1, rfl, by show 2 ≤ sizeLine; decide, fun p np => ⟨p, _, rfl, SqT.of upd_same, rfl, _, _, rfl, _, _, rfl, rfl, ?_⟩⟩
  have ha1 := same_upd (o := .tup [.int 0, .int (-1)]) np _ _ ha1
  have hc1 := same_upd (o := .tup [.int 0, .int (-1)]) np _ _ hc1
  have kp1 := kp1.trans (Keep.upd_new (a := a) (c := c) (o := .tup [.int 0, .int (-1)]) np)
  revert ha1 hc1 kp1
  generalize upd H1 p (.tup [.int 0, .int (-1)]) = H1
  intro ha1 hc1 kp1
  -- if there are cells
  refine ⟨fun σ' H' => ∃ (cell idx : Int), σ' = [some (.ref a), some (.int lim), some (.int cell), some (.int idx)] ∧ H' = H1 ∧ 0 ≤ cell ∧
    (10 ^ 18 ≤ cell → 0 ≤ idx ∧ idx < ns.length), ?_, ?_⟩
  · refine ⟨.ref a, rfl, a, _, 0, .ref c, rfl, rfl, SqL.of ha1, rfl, c, _, rfl, .inl (SqL.of hc1), _, 0, rfl, rfl, _, rfl, ?_⟩
    refine ite2 (fun hp => ?_) (fun hp => ?_)
    · have hp : 0 < (((ns.map V.int).length : Nat) : Int) := of_decide_eq_true hp
      have hpn : 0 < (ns.length : Int) := by
        rw [List.length_map] at hp
        exact hp
      have i0 : 0 ≤ (j + 1) % (ns.length : Int) := Int.emod_nonneg _ (by omega)
      have i1 : (j + 1) % (ns.length : Int) < ns.length := Int.emod_lt_of_pos _ hpn
      refine ⟨.ref a, rfl, a, _, 1, .int (j + 1), rfl, rfl, SqL.of ha1, rfl, .ref a, rfl, a, _, 0, .ref c, rfl, rfl, SqL.of ha1, rfl, c, _, rfl, .inl (SqL.of hc1), j + 1, _, rfl, rfl, hp, ?_⟩
      have hx : ((j + 1) % (ns.length : Int)).toNat < ns.length := by omega
      have hg : (ns.map V.int)[((j + 1) % (ns.length : Int)).toNat]? = some (.int ns[((j + 1) % (ns.length : Int)).toNat]) := by
        rw [List.getElem?_map, List.getElem?_eq_getElem hx]
        rfl
      refine ⟨.ref a, rfl, a, _, 0, .ref c, rfl, rfl, SqL.of ha1, rfl, .int ((j + 1) % (ns.length : Int)), by rw [List.length_map]; rfl, c, _, _, _, rfl, rfl, SqL.of hc1, atI_pos i0 hg, ?_⟩
      exact ⟨_, _, by rw [List.length_map]; rfl, rfl, hn _ (List.getElem_mem hx), fun _ => ⟨i0, i1⟩⟩
    · exact ⟨0, -1, rfl, rfl, by omega, fun z => absurd z (by decide)⟩
  · intro σ' H' hm
    obtain ⟨cell, idx, e1, e2, hc0, hci⟩ := hm
    subst e1
    subst e2
    refine ⟨.int cell, rfl, 10, 18, rfl, rfl, ⟨by decide, by decide, by decide⟩, cell, _, rfl, rfl, _, rfl, ?_⟩
    refine ite2 (fun hp => ?_) (fun hp => ?_)
    · have hp : (10 : Int) ^ 18 ≤ cell := of_decide_eq_true hp
      obtain ⟨x0, x1⟩ := hci hp
      have hd0 : 0 ≤ cell / lim := Int.ediv_nonneg hc0 (by omega)
      refine ⟨.int cell, rfl, .int lim, rfl, cell, lim, rfl, rfl, wide_div (b := 30) (by omega) (by omega) (by decide) (by decide), .ref a, rfl, a, _, 0, .ref c, rfl, rfl, SqL.of ha1, rfl, .int idx, rfl, c, _, idx, idx.toNat, rfl, rfl, hc1, ixN_pos x0 (by rw [List.length_map]; exact x1), ?_⟩
      refine ⟨.int cell, rfl, .int lim, rfl, cell, lim, rfl, rfl, (by omega : 0 < lim), ?_⟩
      refine q _ _ (Int.emod_nonneg _ (by omega)) (Int.emod_lt_of_pos _ (by omega)) ?_ ?_
      · refine ⟨ns.set idx.toNat (cell / lim), j + 1, hac, ?_, ?_, mem_set_nonneg hn _ hd0, by omega, by omega⟩
        · rw [upd_ne hac]
          exact ha1
        · rw [upd_same, List.map_set]
      · intro b o h1 h2 h3
        rw [upd_ne h2]
        exact kp1 b o h1 h2 h3
    · have m0 : 0 ≤ cell % 2147483587 := Int.emod_nonneg _ (by decide)
      have m1 : cell % 2147483587 < 2147483587 := Int.emod_lt_of_pos _ (by decide)
      refine ⟨.int cell, rfl, cell, _, rfl, rfl, (by decide : (0 : Int) < 2147483587), .ref a, rfl, a, _, 1, .int (j + 1), rfl, rfl, SqL.of ha1, rfl, 7919, j + 1, rfl, rfl, .inl ⟨by decide, by decide⟩,
        _, _, rfl, rfl, _, 1, rfl, rfl, _, 5, rfl, rfl, ⟨by decide, by decide, ?_⟩, _, _, rfl, rfl, (by decide : (0 : Int) < 2147483647), _, 7, rfl, rfl, ⟨by decide, by decide⟩, .int lim, rfl, _, lim, rfl, rfl, (by omega : 0 < lim), ?_⟩
      · have : (2 : Nat) ^ 64 = 18446744073709551616 := by decide
        omega
      · exact q _ _ (Int.emod_nonneg _ (by omega)) (Int.emod_lt_of_pos _ (by omega)) ⟨ns, j + 1, hac, ha1, hc1, hn, by omega, by omega⟩ kp1
abbrev s__law_deck : Stmt := topS 22
abbrev N__law_deck : List Str := ["_law_script", "_law_cell"]
theorem sc__law_deck : FnScope N__law_deck ["_law_script"] (defScope s__law_deck) :=
  ⟨rfl, rfl, rfl, by decide +kernel, rfl, by decide +kernel, by decide +kernel⟩

theorem ok_deck {f : Addr} {fd : FuncData} (F : Fun K "_law_deck" "_law_deck" s__law_deck f fd) (T : Bi mg) :
    FnOk P w K mg base CX0 1 f fd ["_law_script"] (spDeck K) := by
  refine F.ok sc__law_deck (fun vs H Q E h => ?_) (fun cdv A outer s H vs Q E hr h => ?_)
  · obtain ⟨a, ns, e, _⟩ := h
    subst e
    rfl
  obtain ⟨s0, ns, e, hS, hl, q⟩ := h
  subst e
  refine ⟨_, (pss_one (ps_ret (pe_lst (pa_cons (pe_lc (own := [("_law_cell", 1)]) rfl sc__law_deck.nd (kilist K (pe_slice (kslL K) (pv 0) po_none (po_some pe_int))) (blkOk_by (own := [("_law_cell", 1)]) (N := N__law_deck) (sc := defScope s__law_deck) (by decide +kernel))
    (fun _ _ _ _ _ => (pg_name (i := 1) sc__law_deck.nd rfl (.inl rfl))) (fun _ _ _ _ _ => pts_nil)
    (fun _ _ _ _ _ => (pe_callB call_abs (by rfl) T.abs (by decide +kernel) (pa_cons (pv 1) pa_nil)))) (pa_cons pe_int pa_nil))))), ?_⟩
  refine ⟨.ref s0, rfl, 63, rfl, s0, ns.map V.int, rfl, hS, fun p np => ⟨p, rfl, ⟨_, SqL.of upd_same⟩, fun D nD => ?_⟩⟩
  rw [show cutV (ns.map V.int) none (some 63) = (ns.map V.int).take 63 from cut_to _ 63, List.take_of_length_le (by rw [List.length_map]; exact hl)] at nD ⊢
  have sm1 : Same H (upd H p (.lst (ns.map V.int))) := same_upd np
  have hp1 : upd H p (.lst (ns.map V.int)) p = some (.lst (ns.map V.int)) := upd_same
  revert sm1 hp1 nD
  generalize upd H p (.lst (ns.map V.int)) = H1
  intro nD sm1 hp1
  have nDH : H D = none := sm1.free nD
  refine lc_list (K := K) (a := p) (xs := ns.map V.int) (fun i H' => Same H1 H' ∧ H' D = some (.lst (((ns.take i).map fun n => if n < 0 then -n else n).map V.int))) ?_ ?_ ?_ ?_
  · exact ⟨same_upd nD, upd_same⟩
  · intro i H' _ h
    exact SqL.of (h.1 _ _ hp1)
  · intro i x H' hx h
    obtain ⟨hs, hD⟩ := h
    rw [List.getElem?_map] at hx
    cases hn : ns[i]? with
    | none =>
      rw [hn] at hx
      cases hx
    | some n =>
      rw [hn] at hx
      cases hx
      refine ⟨rfl, .int n, rfl, n, rfl, _, hD, ?_, ?_, ?_⟩
      · rw [List.length_map, List.length_map, List.length_take]
        exact Nat.lt_of_le_of_lt (Nat.min_le_right _ _) (small1000 (by omega))
      · intro b o e
        have nb : b ≠ D := ne_of_none e nD
        rw [upd_ne nb]
        exact hs b o e
      · rw [upd_same, take_map_succ _ hn, List.map_append]
        rfl
  · intro H' h
    obtain ⟨hs, hD⟩ := h
    rw [List.length_map, List.take_of_length_le (Nat.le_refl _)] at hD
    refine ⟨by show 2 ≤ sizeLine; decide, fun a na => ?_⟩
    have nDa : D ≠ a := ne_of_none hD na
    refine q a D _ ⟨ns.map fun n => if n < 0 then -n else n, 0, nDa.symm, upd_same, ?_, ?_, by omega, by omega⟩ ?_ ?_ nDH
    · rw [upd_ne nDa]
      exact hD
    · intro n hn
      rw [List.mem_map] at hn
      obtain ⟨z, _, rfl⟩ := hn
      exact abs_nonneg z
    · exact (sm1.trans hs).trans (same_upd na)
    · exact (sm1.trans hs).free na
abbrev s__law_distinct : Stmt := topS 24
abbrev N__law_distinct : List Str := ["_law_deck_here", "_law_m", "_law_many", "_law_left", "_law_k"]
theorem sc__law_distinct : FnScope N__law_distinct ["_law_deck_here", "_law_m", "_law_many"] (defScope s__law_distinct) :=
  ⟨rfl, rfl, rfl, by decide +kernel, rfl, by decide +kernel, by decide +kernel⟩

theorem ok_distinct {f : Addr} {fd : FuncData} (F : Fun K "_law_distinct" "_law_distinct" s__law_distinct f fd) (T : Bi mg)
    (h__law_draw : Has P w K mg base 1 "_law_draw" ["_law_deck_here", "_law_limit"] spDraw) :
    FnOk P w K mg base CX0 2 f fd ["_law_deck_here", "_law_m", "_law_many"] spDistinct := by
  refine F.ok sc__law_distinct (fun vs H Q E h => ?_) (fun cdv A outer s H vs Q E hr h => ?_)
  · obtain ⟨a, c, k, m, many, e, _⟩ := h
    subst e
    rfl
  obtain ⟨a, c, k, m, many, e, dk, hk, hm0, hm1, hm2, q⟩ := h
  subst e
  refine ⟨_, (pss_cons (ps_set (i := 3) sc__law_distinct.nd rfl (.inr rfl) (pe_listRg (by rfl) (by rfl) T.list (prg_1 (by rfl) T.range (pv 1))))
  (pss_one (ps_ret (pe_callB (ksort K) (by rfl) T.sorted (by decide +kernel) (pa_cons (pe_lc (own := [("_law_k", 4)]) rfl sc__law_distinct.nd (pi_range1 (by rfl) T.range (pa_cons (pv 2) pa_nil)) (blkOk_by (own := [("_law_k", 4)]) (N := N__law_distinct) (sc := defScope s__law_distinct) (by decide +kernel))
    (fun _ _ _ _ _ => (pg_name (i := 4) sc__law_distinct.nd rfl (.inl rfl))) (fun _ _ _ _ _ => pts_nil)
    (fun _ _ _ _ _ => (kbm K PySem.F.plainAttrs_list PySem.F.slot_list_pop PySem.F.type_list_pop mt_popAt (pv 3) (pa_cons (pe_callH h__law_draw hr (by decide) (by rfl) (pa_cons (pv 0) (pa_cons (pe_callB (klen K) (by rfl) T.len (by decide +kernel) (pa_cons (pv 3) pa_nil)) pa_nil))) pa_nil)))) pa_nil))))), ?_⟩
  refine ⟨.int m, rfl, m, rfl, RgOk.of_le (by decide) (by omega) (by decide) (by omega), fun l nl => ?_⟩
  rw [upto_V]
  have dk1 := dk.new (o := .lst ((upto m).map V.int)) nl
  have kp1 : Keep a c H (upd H l (.lst ((upto m).map V.int))) := Keep.upd_new nl
  have hl1 : upd H l (.lst ((upto m).map V.int)) l = some (.lst ((upto m).map V.int)) := upd_same
  obtain ⟨nla, nlc⟩ := dk.nea nl
  have sm1 : Same H (upd H l (.lst ((upto m).map V.int))) := same_upd nl
  revert dk1 kp1 hl1 sm1
  generalize upd H l (.lst ((upto m).map V.int)) = H1
  intro dk1 kp1 hl1 sm1
  refine ⟨.int many, rfl, many, rfl, by omega, by omega, fun D nD => ?_⟩
  obtain ⟨nDa, nDc⟩ := dk1.nea nD
  have nDl : D ≠ l := (ne_of_none hl1 nD).symm
  refine lc_range (lo := 0) (n := many.toNat) (fun i H' => ∃ left acc : List Int, Deck H' a c (k + i) ∧ Keep a c H H' ∧ H' l = some (.lst (left.map V.int)) ∧
    H' D = some (.lst (acc.map V.int)) ∧ (acc ++ left).Perm (upto m) ∧ acc.length = i) ?_ ?_ ?_
  · refine ⟨upto m, [], (dk1.new nD).mono (by omega), kp1.trans (Keep.upd_new nD), ?_, upd_same, List.Perm.refl _, rfl⟩
    rw [upd_ne nDl.symm]
    exact hl1
  · intro i H' hi h
    obtain ⟨left, acc, dk', kp', hl', hD', pm, hacc⟩ := h
    have hlen : left.length + i = m.toNat := by
      have e := pm.length_eq
      rw [List.length_append, upto_len, hacc] at e
      omega
    refine ⟨rfl, .ref l, rfl, .inl ⟨rfl, _, SqL.of hl'⟩, .ref a, rfl, .ref l, rfl, l, _, rfl, .inl (SqL.of hl'), a, c, k + i, _, rfl, dk', by omega, ?_, ?_, fun v H2 v0 v1 dk2 kp2 => ?_⟩
    · rw [List.length_map]
      omega
    · rw [List.length_map]
      omega
    · rw [List.length_map] at v1
      have hl2 : H2 l = some (.lst (left.map V.int)) := kp2 _ _ nla nlc hl'
      have hD2 : H2 D = some (.lst (acc.map V.int)) := kp2 _ _ nDa nDc hD'
      have hv : v.toNat < left.length := by omega
      have hy : (left.map V.int)[v.toNat]? = some (.int left[v.toNat]) := by
        rw [List.getElem?_map, List.getElem?_eq_getElem hv]
        rfl
      refine ⟨l, _, v, v.toNat, _, rfl, rfl, hl2, by omega, by omega, seqIndex_nat v0 (by rw [List.length_map]; exact v1), hy, acc.map V.int, ?_, ?_, ?_⟩
      · rw [upd_ne nDl]
        exact hD2
      · rw [List.length_map, hacc]
        exact small1000 (by omega)
      · refine ⟨left.eraseIdx v.toNat, acc ++ [left[v.toNat]], ?_, ?_, ?_, ?_, ?_, ?_⟩
        · obtain ⟨ns, j, d1, d2, d3, d4, d5, d6⟩ := dk2
          refine ⟨ns, j, d1, ?_, ?_, d4, d5, by omega⟩
          · rw [upd_ne nDa.symm, upd_ne nla.symm]
            exact d2
          · rw [upd_ne nDc.symm, upd_ne nlc.symm]
            exact d3
        · intro b o h1 h2 h3
          have hb1 : b ≠ l := ne_of_none h3 nl
          have hb2 : b ≠ D := ne_of_none h3 (sm1.free nD)
          rw [upd_ne hb2, upd_ne hb1]
          exact kp2 b o h1 h2 (kp' b o h1 h2 h3)
        · rw [upd_ne nDl.symm, upd_same, erase_map]
        · rw [upd_same, List.map_append]
          rfl
        · have p1 : (left[v.toNat] :: left.eraseIdx v.toNat).Perm left := erase_perm left v.toNat hv
          have p2 : (acc ++ [left[v.toNat]] ++ left.eraseIdx v.toNat).Perm (acc ++ left) := by
            rw [List.append_assoc]
            exact List.Perm.append_left acc p1
          exact p2.trans pm
        · rw [List.length_append, hacc]
          rfl
  · intro H' h
    obtain ⟨left, acc, dk', kp', hl', hD', pm, hacc⟩ := h
    refine ⟨D, acc, rfl, SqL.of hD', fun ns' p pn srt np => ?_⟩
    have nd : (acc ++ left).Nodup := pm.nodup_iff.mpr (upto_nodup m)
    have nda : ns'.Nodup := pn.nodup_iff.mpr (List.nodup_append.mp nd).1
    refine q ns' p _ (lt_of_le_nodup srt nda) ?_ ?_ ?_ ?_ ?_ upd_same
    · rw [pn.length_eq, hacc]
      omega
    · intro x hx
      have h1 : x ∈ acc := pn.mem_iff.mp hx
      exact upto_mem.mp (pm.mem_iff.mp (List.mem_append_left _ h1))
    · exact (dk'.mono (by omega)).new np
    · exact kp'.trans (Keep.upd_new np)
    · cases e : H p with
      | none => rfl
      | some o =>
        obtain ⟨hpa, hpc⟩ := dk'.nea np
        rw [kp' _ _ hpa hpc e] at np
        cases np
abbrev s__law_tool : Stmt := topS 25
abbrev N__law_tool : List Str := ["_law_deck_here", "_law_m", "_law_d", "_law_steps", "_law_many", "_law_begins", "_law_targets", "_law_found", "_law_shift", "_law_block", "_law_k"]
theorem sc__law_tool : FnScope N__law_tool ["_law_deck_here", "_law_m"] (defScope s__law_tool) :=
  ⟨rfl, rfl, rfl, by decide +kernel, rfl, by decide +kernel, by decide +kernel⟩

theorem ok_tool {f : Addr} {fd : FuncData} (F : Fun K "_law_tool" "_law_tool" s__law_tool f fd) (T : Bi mg)
    (h__law_draw : Has P w K mg base 1 "_law_draw" ["_law_deck_here", "_law_limit"] spDraw)
    (h__law_distinct : Has P w K mg base 2 "_law_distinct" ["_law_deck_here", "_law_m", "_law_many"] spDistinct) :
    FnOk P w K mg base CX0 3 f fd ["_law_deck_here", "_law_m"] spTool := by
  refine F.ok sc__law_tool (fun vs H Q E h => ?_) (fun cdv A outer s H vs Q E hr h => ?_)
  · obtain ⟨a, c, k, m, e, _⟩ := h
    subst e
    rfl
  obtain ⟨a, c, k, m, e, dk, hk, hm1, hm2, q⟩ := h
  subst e
  refine ⟨_, (C8.pss_cut (ps_setLc (i := 3) (own := [("_law_d", 2)]) rfl sc__law_tool.nd rfl rfl (sw_true rfl rfl rfl (by decide +kernel)) (pi_range2 (by rfl) T.range (pa_cons pe_int (pa_cons (pe_op op_add (pv 1) pe_int) pa_nil))) (blkOk_by (own := [("_law_d", 2)]) (N := N__law_tool) (sc := defScope s__law_tool) (by decide +kernel))
    (fun _ _ _ _ _ => (pg_name (i := 2) sc__law_tool.nd rfl (.inl rfl))) (fun _ _ _ _ _ => (pts_one (PW.pt (pw_and (pt_cmpR op_eq (pe_op op_mod (pv 1) (pv 2)) pe_int (nomark _)) (pw_and1 (pt_cmpR op_lt (pe_op op_fdiv (pv 1) (pv 2)) pe_int (nomark _)))))))
    (fun _ _ _ _ _ => (pv 2)))
  (C8.pss_cut (ps_set (i := 2) sc__law_tool.nd rfl (.inl rfl) (pe_ix (kixL K) (pe_lst (pa_cons (pv 1) (pa_cons (pe_ix (kixL K) (pv 3) (pe_callH h__law_draw hr (by decide) (by rfl) (pa_cons (pv 0) (pa_cons (pe_callB (klen K) (by rfl) T.len (by decide +kernel) (pa_cons (pv 3) pa_nil)) pa_nil))) (fun _ _ => rfl)) pa_nil))) (pe_callH h__law_draw hr (by decide) (by rfl) (pa_cons (pv 0) (pa_cons pe_int pa_nil))) (fun _ _ => rfl)))
  (C8.pss_cut (ps_set (i := 4) sc__law_tool.nd rfl (.inl rfl) (pe_op op_add pe_int (pe_callH h__law_draw hr (by decide) (by rfl) (pa_cons (pv 0) (pa_cons (pe_callB (call_min2 rfl) (by rfl) T.min (by decide +kernel) (pa_cons (pv 2) (pa_cons (pe_op op_fdiv (pe_op op_mul pe_int (pv 2)) (pv 1)) pa_nil))) pa_nil)))))
  (C8.pss_cut (ps_par3 (i := 5) (j := 6) (l := 7) (by rfl) sc__law_tool.nd rfl rfl rfl (by decide) (by decide) (by decide) rfl rfl rfl (pa_cons (pe_callH h__law_distinct hr (by decide) (by rfl) (pa_cons (pv 0) (pa_cons (pv 2) (pa_cons (pv 4) pa_nil)))) (pa_cons (pe_callH h__law_distinct hr (by decide) (by rfl) (pa_cons (pv 0) (pa_cons (pv 2) (pa_cons (pv 4) pa_nil)))) (pa_cons (pe_lst pa_nil) pa_nil))) (by rfl))
  (C8.pss_cut (ps_set (i := 8) sc__law_tool.nd rfl (.inl rfl) (pe_callH h__law_draw hr (by decide) (by rfl) (pa_cons (pv 0) (pa_cons (pv 1) pa_nil))))
  (C8.pss_cut (ps_for PassesOwn.never rfl (pi_range3 (by rfl) T.range (pa_cons pe_int (pa_cons (pv 1) (pa_cons (pv 2) pa_nil)))) (pg_name (i := 9) sc__law_tool.nd rfl (.inl rfl))
  (pss_one (ps_for PassesOwn.never rfl (pi_range1 (by rfl) T.range (pa_cons (pv 4) pa_nil)) (pg_name (i := 10) sc__law_tool.nd rfl (.inl rfl))
  (pss_one (ps_expr (kbm K PySem.F.plainAttrs_list PySem.F.slot_list_append PySem.F.type_list_append mt_append (pv 7) (pa_cons (pe_tup (pa_cons (pe_op op_add (pv 9) (pe_ix (kixL K) (pv 5) (pv 10) (fun _ _ => rfl))) (pa_cons (pe_op op_mod (pe_op op_add (pe_op op_add (pv 9) (pe_ix (kixL K) (pv 6) (pv 10) (fun _ _ => rfl))) (pv 8)) (pv 1)) pa_nil))) pa_nil)))))))
  (pss_one (ps_ret (pe_ifExp (pt_cmpR op_gt (pe_callB (klen K) (by rfl) T.len (by decide +kernel) (pa_cons (pv 7) pa_nil)) pe_int (nomark _)) (pe_callTy (ktupF K) (by rfl) T.tuple (by decide +kernel) (pa_cons (pv 7) pa_nil)) (pe_tupF (pa_cons (pe_tup (pa_cons pe_int (pa_cons (pe_ix (kixT K) (pe_ix (kixL K) (pv 7) pe_int (fun _ _ => rfl)) pe_int (fun _ _ => rfl)) pa_nil))) pa_nil))))))))))), ?_⟩
  -- the steps
  refine ⟨fun σ' H' => ∃ (S : Addr) (ss : List Int), σ' = [some (.ref a), some (.int m), none, some (.ref S), none, none, none, none, none, none, none] ∧ H S = none ∧ Deck H' a c k ∧ Keep a c H H' ∧
    H' S = some (.lst (ss.map V.int)) ∧ (∀ d ∈ ss, Good m d) ∧ 1 ≤ ss.length ∧ ss.length ≤ 60, ?_, ?_⟩
  · refine ⟨.int m, rfl, m, 1, rfl, rfl, 1, _, rfl, ⟨by omega, by omega, by omega, by omega⟩, fun D nD => ?_⟩
    obtain ⟨nDa, nDc⟩ := dk.nea nD
    refine lc_range (lo := 1) (n := (m + 1 - 1).toNat) (fun i H' => ∃ acc : List Int, Deck H' a c k ∧ Keep a c H H' ∧ H' D = some (.lst (acc.map V.int)) ∧ (∀ d ∈ acc, Good m d) ∧
      (m ≤ i → 1 ≤ acc.length) ∧ acc.length ≤ i) ?_ ?_ ?_
    · exact ⟨[], dk.new nD, Keep.upd_new nD, upd_same, fun d h => (List.not_mem_nil h).elim, fun h => absurd h (by omega), Nat.le_refl _⟩
    · intro i H' hi h
      obtain ⟨acc, dk', kp', hD', hg', hn', hl'⟩ := h
      have hi2 : (i : Int) < m := by omega
      refine ⟨rfl, .int m, rfl, .int (1 + i), rfl, m, 1 + i, rfl, rfl, (by omega : (0 : Int) < 1 + i), rfl, _, rfl, ?_⟩
      have more : (∀ d ∈ acc, Good m d) ∧ (m ≤ (i + 1 : Nat) → Good m (1 + i)) := ⟨hg', fun z => by
        have e : (1 : Int) + i = m := by omega
        rw [e]
        exact good_self hm1⟩
      refine ite2 (fun h1 => ?_) (fun h1 => ?_)
      · have e1 : m % (1 + (i : Int)) = 0 := V.int.inj (of_decide_eq_true h1)
        refine ⟨.int m, rfl, .int (1 + i), rfl, m, 1 + i, rfl, rfl, ⟨by omega, by omega⟩, _, 13, rfl, rfl, _, rfl, ?_⟩
        refine ite2 (fun h2 => ?_) (fun h2 => ?_)
        · have e2 : m / (1 + (i : Int)) < 13 := of_decide_eq_true h2
          refine ⟨.int (1 + i), rfl, acc.map V.int, hD', ?_, acc ++ [1 + (i : Int)], ?_, ?_, ?_, ?_, ?_, ?_⟩
          · rw [List.length_map]
            exact small1000 (by omega)
          · obtain ⟨ns, j, d1, d2, d3, d4, d5, d6⟩ := dk'
            refine ⟨ns, j, d1, ?_, ?_, d4, d5, d6⟩
            · rw [upd_ne nDa.symm]
              exact d2
            · rw [upd_ne nDc.symm]
              exact d3
          · intro b o x1 x2 x3
            rw [upd_ne (ne_of_none x3 nD)]
            exact kp' b o x1 x2 x3
          · rw [upd_same, List.map_append]
            rfl
          · intro d hd
            rcases List.mem_append.mp hd with z | z
            · exact hg' d z
            · rw [List.mem_singleton] at z
              rw [z]
              exact ⟨by omega, by omega, e1, e2⟩
          · intro _
            rw [List.length_append]
            exact Nat.le_add_left _ _
          · rw [List.length_append]
            exact Nat.succ_le_succ hl'
        · refine ⟨acc, dk', kp', hD', hg', fun z => ?_, by omega⟩
          have := (more.2 z).2.2.2
          exact absurd (decide_eq_true this) h2
      · refine ⟨acc, dk', kp', hD', hg', fun z => ?_, by omega⟩
        have := (more.2 z).2.2.1
        exact absurd (decide_eq_true (congrArg V.int this)) h1
    · intro H' h
      obtain ⟨acc, dk', kp', hD', hg', hn', hl'⟩ := h
      exact ⟨D, acc, rfl, nD, dk', kp', hD', hg', hn' (by omega), by omega⟩
  intro σ1 H1 hM
  obtain ⟨S, ss, e, nS, dk1, kp1, hS, hss, hs1, hs2⟩ := hM
  subst e
  obtain ⟨nSa, nSc⟩ := dk.nea nS
  -- the step
  refine ⟨fun σ' H' => ∃ (d : Int), σ' = [some (.ref a), some (.int m), some (.int d), some (.ref S), none, none, none, none, none, none, none] ∧ Deck H' a c (k + 2) ∧ Keep a c H H' ∧ Good m d, ?_, ?_⟩
  · refine ⟨.int m, rfl, .ref S, rfl, .ref a, rfl, .ref S, rfl, S, _, rfl, .inl (SqL.of hS), a, c, k, _, rfl, dk1, by omega, ?_, ?_, fun v H2 v0 v1 dk2 kp2 => ?_⟩
    · rw [List.length_map]
      omega
    · rw [List.length_map]
      omega
    rw [List.length_map] at v1
    have hS2 := kp2 _ _ nSa nSc hS
    have hv : v.toNat < ss.length := by omega
    have hg : (ss.map V.int)[v.toNat]? = some (.int ss[v.toNat]) := by
      rw [List.getElem?_map, List.getElem?_eq_getElem hv]
      rfl
    refine ⟨S, _, v, _, rfl, rfl, SqL.of hS2, atI_pos v0 hg, by show 2 ≤ sizeLine; decide, fun p np => ?_⟩
    obtain ⟨npa, npc⟩ := dk2.nea np
    refine ⟨.ref a, rfl, a, c, k + 1, 2, rfl, dk2.new np, by omega, by decide, by decide, fun u H3 u0 u1 dk3 kp3 => ?_⟩
    have hp3 := kp3 p _ npa npc upd_same
    have kpA : Keep a c H H3 := ((kp1.trans kp2).trans (Keep.upd_new np)).trans kp3
    by_cases hu : u = 0
    · subst hu
      exact ⟨p, _, 0, .int m, rfl, rfl, SqL.of hp3, rfl, m, rfl, dk3.mono (by omega), kpA, good_self hm1⟩
    · have hu1 : u = 1 := by omega
      subst hu1
      exact ⟨p, _, 1, .int ss[v.toNat], rfl, rfl, SqL.of hp3, rfl, _, rfl, dk3.mono (by omega), kpA, hss _ (List.getElem_mem hv)⟩
  intro σ2 H2 hM
  obtain ⟨d, e, dk2, kp2, gd⟩ := hM
  subst e
  have gd1 := gd.1
  have gd2 := gd.2.1
  have glim := gd.lim hm1
  -- how many
  refine ⟨fun σ' H' => ∃ (n : Int), σ' = [some (.ref a), some (.int m), some (.int d), some (.ref S), some (.int n), none, none, none, none, none, none] ∧ Deck H' a c (k + 3) ∧ Keep a c H H' ∧
    1 ≤ n ∧ n ≤ d ∧ n ≤ 12 * d / m, ?_, ?_⟩
  · refine ⟨.ref a, rfl, .int d, rfl, .int d, rfl, 12, d, rfl, rfl, .inl ⟨by decide, by decide⟩, .int m, rfl, _, m, rfl, rfl, ⟨by omega, by omega⟩, d, _, rfl, a, c, k + 2, _, rfl, dk2, by omega, ?_, ?_, fun v H3 v0 v1 dk3 kp3 => ?_⟩
    · split <;> omega
    · split <;> omega
    · refine ⟨1, v, rfl, rfl, _, rfl, dk3.mono (by omega), kp2.trans kp3, by omega, ?_, ?_⟩
      · split at v1 <;> omega
      · split at v1 <;> omega
  intro σ3 H3 hM
  obtain ⟨n, e, dk3, kp3, hn1, hn2, hn3⟩ := hM
  subst e
  have hq12 := gd.many hm1 hn3
  have hmq := gd.mul
  have hq0 : 1 ≤ m / d := (Int.le_ediv_iff_mul_le (by omega)).mpr (by omega)
  have hn12 : n ≤ 12 := by
    have : n * 1 ≤ n * (m / d) := Int.mul_le_mul_of_nonneg_left hq0 (by omega)
    omega
  -- begins, targets, found
  refine ⟨fun σ' H' => ∃ (B Ta Fd : Addr) (bs ts : List Int), σ' = [some (.ref a), some (.int m), some (.int d), some (.ref S), some (.int n), some (.ref B), some (.ref Ta), some (.ref Fd), none, none, none] ∧
    Deck H' a c (k + 27) ∧ Keep a c H H' ∧ H' B = some (.lst (bs.map V.int)) ∧ H' Ta = some (.lst (ts.map V.int)) ∧ H' Fd = some (.lst []) ∧ Fd ≠ B ∧ Fd ≠ Ta ∧ H Fd = none ∧ H B = none ∧ H Ta = none ∧
    bs.Pairwise (· < ·) ∧ ts.Pairwise (· < ·) ∧ (bs.length : Int) = n ∧ (ts.length : Int) = n ∧ (∀ x ∈ bs, 0 ≤ x ∧ x < d) ∧ (∀ x ∈ ts, 0 ≤ x ∧ x < d), ?_, ?_⟩
  · refine ⟨.ref a, rfl, .int d, rfl, .int n, rfl, a, c, k + 3, d, n, rfl, dk3, by omega, by omega, hn2, by omega, fun bs B H4 bp bl br dk4 kp4 nB hB => ?_⟩
    refine ⟨.ref a, rfl, .int d, rfl, .int n, rfl, a, c, k + 3 + n, d, n, rfl, dk4, by omega, by omega, hn2, by omega, fun ts Ta H5 tp tl tr dk5 kp5 nT hT => ?_⟩
    refine ⟨Nat.zero_le _, fun Fd nF => ⟨_, _, _, rfl, ?_⟩⟩
    have kp35 : Keep a c H H5 := (kp3.trans kp4).trans kp5
    have none_of : ∀ {p : Addr} {H' : Hp}, Keep a c H H' → p ≠ a → p ≠ c → H' p = none → H p = none := by
      intro p H' kk h1 h2 h3
      cases e : H p with
      | none => rfl
      | some o =>
        rw [kk _ _ h1 h2 e] at h3
        cases h3
    obtain ⟨nBa, nBc⟩ := dk3.nea nB
    obtain ⟨nTa, nTc⟩ := dk4.nea nT
    obtain ⟨nFa, nFc⟩ := dk5.nea nF
    have hB5 := kp5 _ _ nBa nBc hB
    refine ⟨B, Ta, Fd, bs, ts, rfl, (dk5.new nF).mono (by omega), kp35.trans (Keep.upd_new nF), ?_, ?_, upd_same, (ne_of_none hB5 nF).symm, (ne_of_none hT nF).symm, none_of kp35 nFa nFc nF, none_of kp3 nBa nBc nB, none_of (kp3.trans kp4) nTa nTc nT, bp, tp, bl, tl, br, tr⟩
    · exact same_upd nF _ _ hB5
    · exact same_upd nF _ _ hT
  intro σ4 H4 hM
  obtain ⟨B, Ta, Fd, bs, ts, e, dk4, kp4, hB, hT, hF, nFB, nFT, nF, nB, nT, bp, tp, bl, tl, br, tr⟩ := hM
  subst e
  obtain ⟨nFa, nFc⟩ := dk.nea nF
  obtain ⟨nBa, nBc⟩ := dk.nea nB
  obtain ⟨nTa, nTc⟩ := dk.nea nT
  -- the shift
  refine ⟨fun σ' H' => ∃ (sh : Int), σ' = [some (.ref a), some (.int m), some (.int d), some (.ref S), some (.int n), some (.ref B), some (.ref Ta), some (.ref Fd), some (.int sh), none, none] ∧
    Deck H' a c (k + 28) ∧ Keep a c H H' ∧ H' B = some (.lst (bs.map V.int)) ∧ H' Ta = some (.lst (ts.map V.int)) ∧ H' Fd = some (.lst []), ?_, ?_⟩
  · refine ⟨.ref a, rfl, .int m, rfl, a, c, k + 27, m, rfl, dk4, by omega, hm1, by omega, fun v H5 v0 v1 dk5 kp5 => ?_⟩
    exact ⟨v, rfl, dk5.mono (by omega), kp4.trans kp5, kp5 _ _ nBa nBc hB, kp5 _ _ nTa nTc hT, kp5 _ _ nFa nFc hF⟩
  intro σ5 H5 hM
  obtain ⟨sh, e, dk5, kp5, hB5, hT5, hF5⟩ := hM
  subst e
  -- the pairs
  have hqn : ((m / d).toNat : Int) = m / d := by omega
  refine ⟨fun σ' H' => ∃ (y9 y10 : Option V) (as : List Addr) (raw : List (Int × Int)), σ' = [some (.ref a), some (.int m), some (.int d), some (.ref S), some (.int n), some (.ref B), some (.ref Ta), some (.ref Fd), some (.int sh), y9, y10] ∧
    Deck H' a c (k + 28) ∧ Keep a c H H' ∧ H' Fd = some (.lst (as.map V.ref)) ∧ PairsAt H' as (raw.map fun x => (x.1, (x.2 + sh) % m)) ∧ Raw m d bs ts (m / d).toNat 0 raw ∧ (raw.length : Int) = (m / d) * n, ?_, ?_⟩
  · refine ⟨.int m, rfl, .int d, rfl, 0, m, d, (m / d).toNat, rfl, gd.rgc hm1 hm2, ?_⟩
    refine for_rangeC (lo := 0) (c := d) (n := (m / d).toNat) (fun i σ' H' => ∃ (y9 y10 : Option V) (as : List Addr) (raw : List (Int × Int)), σ' = [some (.ref a), some (.int m), some (.int d), some (.ref S), some (.int n), some (.ref B), some (.ref Ta), some (.ref Fd), some (.int sh), y9, y10] ∧
      Deck H' a c (k + 28) ∧ Keep a c H H' ∧ H' B = some (.lst (bs.map V.int)) ∧ H' Ta = some (.lst (ts.map V.int)) ∧ H' Fd = some (.lst (as.map V.ref)) ∧ PairsAt H' as (raw.map fun x => (x.1, (x.2 + sh) % m)) ∧ Raw m d bs ts i 0 raw ∧ (raw.length : Int) = i * n) ?_ ?_ ?_
    · exact ⟨none, none, [], [], rfl, dk5, kp5, hB5, hT5, hF5, .nil, .nil, by rw [List.length_nil]; simp⟩
    · intro i σ' H' hi h
      obtain ⟨y9, y10, as, raw, e, dk', kp', hB', hT', hF', pa', rw', rl'⟩ := h
      subst e
      refine ⟨.int n, rfl, n, rfl, by omega, by omega, ?_⟩
      refine for_range (lo := 0) (n := n.toNat) (fun j σ' H' => ∃ (y10 : Option V) (as : List Addr) (raw : List (Int × Int)), σ' = [some (.ref a), some (.int m), some (.int d), some (.ref S), some (.int n), some (.ref B), some (.ref Ta), some (.ref Fd), some (.int sh), some (.int (0 + (i : Nat) * d)), y10] ∧
        Deck H' a c (k + 28) ∧ Keep a c H H' ∧ H' B = some (.lst (bs.map V.int)) ∧ H' Ta = some (.lst (ts.map V.int)) ∧ H' Fd = some (.lst (as.map V.ref)) ∧ PairsAt H' as (raw.map fun x => (x.1, (x.2 + sh) % m)) ∧ Raw m d bs ts i j raw ∧ (raw.length : Int) = i * n + j) ?_ ?_ ?_
      · exact ⟨y10, as, raw, rfl, dk', kp', hB', hT', hF', pa', rw', by omega⟩
      · intro j σ2 H6 hj h
        obtain ⟨z10, as2, raw2, e, dk6, kp6, hB6, hT6, hF6, pa6, rw6, rl6⟩ := h
        subst e
        have jb : j < bs.length := by omega
        have jt : j < ts.length := by omega
        have gb : (bs.map V.int)[j]? = some (.int bs[j]) := by
          rw [List.getElem?_map, List.getElem?_eq_getElem jb]
          rfl
        have gt : (ts.map V.int)[j]? = some (.int ts[j]) := by
          rw [List.getElem?_map, List.getElem?_eq_getElem jt]
          rfl
        have xb := br _ (List.getElem_mem jb)
        have xt := tr _ (List.getElem_mem jt)
        have ej : (0 : Int) + (j : Nat) = (j : Nat) := by omega
        have len12 : raw2.length < 12 := by
          have h1 : (i : Int) + 1 ≤ m / d := by omega
          have h2 : ((i : Int) + 1) * n ≤ (m / d) * n := Int.mul_le_mul_of_nonneg_right h1 (by omega)
          have h3 : ((i : Int) + 1) * n = i * n + n := by rw [Int.add_mul, Int.one_mul]
          rw [Int.mul_comm n (m / d)] at hq12
          omega
        have hla : as2.length = raw2.length := by
          have := Paired.length pa6
          rw [List.length_map] at this
          exact this
        refine ⟨.ref Fd, rfl, .inl ⟨rfl, _, SqL.of hF6⟩, .int (0 + (i : Nat) * d), rfl, .ref B, rfl, .int (0 + (j : Nat)), rfl, B, _, 0 + (j : Nat), _, rfl, rfl, SqL.of hB6, by rw [ej]; exact atI_nat gb, _, _, rfl, rfl,
          .int (0 + (i : Nat) * d), rfl, .ref Ta, rfl, .int (0 + (j : Nat)), rfl, Ta, _, 0 + (j : Nat), _, rfl, rfl, SqL.of hT6, by rw [ej]; exact atI_nat gt, _, _, rfl, rfl, .int sh, rfl, _, _, rfl, rfl, .int m, rfl, _, m, rfl, rfl, (by omega : 0 < m),
          by show 2 ≤ sizeLine; decide, fun p np => ?_⟩
        rw [Int.zero_add]
        have npF : Fd ≠ p := ne_of_none hF6 np
        refine ⟨Fd, as2.map V.ref, .ref p, rfl, rfl, ?_, ?_, ?_⟩
        · rw [upd_ne npF]
          exact hF6
        · rw [List.length_map, hla]
          exact small1000 (by omega)
        · have sm6 : Same H6 (upd H6 p (.tup [.int ((i : Nat) * d + bs[j]), .int (((i : Nat) * d + ts[j] + sh) % m)])) := same_upd np
          have hp6 : (upd H6 p (.tup [.int ((i : Nat) * d + bs[j]), .int (((i : Nat) * d + ts[j] + sh) % m)])) p = some (.tup [.int ((i : Nat) * d + bs[j]), .int (((i : Nat) * d + ts[j] + sh) % m)]) := upd_same
          have st6 : Stay H6 (upd (upd H6 p (.tup [.int ((i : Nat) * d + bs[j]), .int (((i : Nat) * d + ts[j] + sh) % m)])) Fd (.lst (as2.map V.ref ++ [.ref p]))) := by
            intro b o nb e
            have : b ≠ Fd := by
              intro z
              subst z
              rw [hF6] at e
              exact nb _ (Option.some.inj e).symm
            rw [upd_ne this]
            exact sm6 _ _ e
          refine ⟨_, as2 ++ [p], raw2 ++ [((i : Nat) * d + bs[j], (i : Nat) * d + ts[j])], rfl, ?_, ?_, ?_, ?_, ?_, ?_, ?_, ?_⟩
          · obtain ⟨ns, jj, d1, d2, d3, d4, d5, d6⟩ := dk6
            refine ⟨ns, jj, d1, ?_, ?_, d4, d5, d6⟩
            · rw [upd_ne nFa.symm]
              exact sm6 _ _ d2
            · rw [upd_ne nFc.symm]
              exact sm6 _ _ d3
          · intro b o x1 x2 x3
            rw [upd_ne (ne_of_none x3 nF)]
            exact sm6 _ _ (kp6 b o x1 x2 x3)
          · rw [upd_ne nFB.symm]
            exact sm6 _ _ hB6
          · rw [upd_ne nFT.symm]
            exact sm6 _ _ hT6
          · rw [upd_same, List.map_append]
            rfl
          · rw [List.map_append]
            refine Paired.snoc (pa6.stay st6) ?_
            show upd _ Fd _ p = _
            rw [upd_ne npF.symm]
            exact hp6
          · exact rw6.add bp tp (List.getElem?_eq_getElem jb) (List.getElem?_eq_getElem jt) xb.1 xt.1 (by omega)
          · rw [List.length_append, List.length_singleton]
            omega
      · intro σ2 H6 h
        obtain ⟨z10, as2, raw2, e, dk6, kp6, hB6, hT6, hF6, pa6, rw6, rl6⟩ := h
        refine ⟨_, z10, as2, raw2, e, dk6, kp6, hB6, hT6, hF6, pa6, rw6.next br tr (by omega), ?_⟩
        rw [Int.natCast_add, Int.add_mul]
        omega
    · intro σ2 H6 h
      obtain ⟨z9, z10, as2, raw2, e, dk6, kp6, hB6, hT6, hF6, pa6, rw6, rl6⟩ := h
      exact ⟨z9, z10, as2, raw2, e, dk6, kp6, hF6, pa6, rw6, by rw [rl6, hqn]⟩
  intro σ6 H6 hM
  obtain ⟨y9, y10, as, raw, e, dk6, kp6, hF6, pa6, rw6, rl6⟩ := hM
  subst e
  have hla : as.length = raw.length := by
    have := Paired.length pa6
    rw [List.length_map] at this
    exact this
  have hqn1 : 1 ≤ (m / d) * n := by
    have := Int.mul_le_mul hq0 hn1 (by decide) (by omega)
    omega
  have bd : ∀ x ∈ raw, (0 ≤ x.1 ∧ x.1 < m) ∧ 0 ≤ x.2 ∧ x.2 < m := by
    intro x hx
    have h1 := rw6.low x hx
    rcases rw6.bnd x hx with ⟨h2, h3⟩ | ⟨z, _, _, hz, _⟩
    · rw [hqn, Int.mul_comm, ← hmq] at h2 h3
      omega
    · exact absurd hz (Nat.not_lt_zero _)
  -- the end
  refine ⟨.ref Fd, rfl, Fd, _, rfl, .inl (SqL.of hF6), _, 1, rfl, rfl, _, rfl, ?_⟩
  refine ite2 (fun h1 => ?_) (fun h1 => ?_)
  · have h1 : (1 : Int) < (((as.map V.ref).length : Nat) : Int) := of_decide_eq_true h1
    rw [List.length_map] at h1
    refine ⟨.ref Fd, rfl, Fd, _, rfl, SqL.of hF6, fun t o nt od => ?_⟩
    have sm : Same H6 (upd H6 t (.frz o (.tup (as.map V.ref)))) := same_upd nt
    refine q t _ _ (tool_of_raw (s := sh) (by omega) ?_ rw6.asc bd) ⟨o, as, upd_same, od, pa6.stay (.of_same sm)⟩ ((dk6.new nt).mono (by omega)) (kp6.trans (Keep.upd_new nt))
    rw [Int.mul_comm n (m / d)] at hq12
    omega
  · have h1 : ¬ (1 : Int) < (((as.map V.ref).length : Nat) : Int) := fun z => h1 (decide_eq_true z)
    rw [List.length_map] at h1
    match as, raw, pa6, hF6, hla, rl6, bd, h1 with
    | [], raw, _, _, hla, rl6, _, _ =>
      rw [List.length_nil] at hla
      rw [← hla] at rl6
      exact absurd rl6 (by show ((0 : Nat) : Int) ≠ _; omega)
    | p0 :: r, [], _, _, hla, _, _, _ =>
      rw [List.length_cons, List.length_nil] at hla
      exact absurd hla (by omega)
    | p0 :: r, x0 :: rr, pa6, hF6, hla, rl6, bd, _ =>
      cases pa6 with
      | cons e0 _ =>
        have e0 : H6 p0 = some (.tup [.int x0.1, .int ((x0.2 + sh) % m)]) := e0
        refine ⟨.ref Fd, rfl, Fd, _, 0, .ref p0, rfl, rfl, SqL.of hF6, atI_nat (j := 0) rfl, p0, _, 1, _, rfl, rfl, SqT.of e0, rfl, by show 2 ≤ sizeLine; decide, fun p np => ⟨by show 1 ≤ sizeLine; decide, fun t o nt od => ?_⟩⟩
        have sm : Same H6 (upd H6 p (.tup [.int 0, .int ((x0.2 + sh) % m)])) := same_upd np
        have sm2 := same_upd (o := .frz o (.tup [.ref p])) nt
        refine q t [(0, (x0.2 + sh) % m)] _ (tool_of_one (Int.emod_nonneg _ (by omega)) (Int.emod_lt_of_pos _ (by omega))) ⟨o, [p], upd_same, od, .cons (sm2 _ _ upd_same) .nil⟩ (((dk6.new np).new nt).mono (by omega)) ((kp6.trans (Keep.upd_new np)).trans (Keep.upd_new nt))
abbrev s_target_of : Stmt := topS 15
abbrev N_target_of : List Str := ["m", "tool", "place", "found", "begin", "target"]
theorem sc_target_of : FnScope N_target_of ["m", "tool", "place"] (defScope s_target_of) :=
  ⟨rfl, rfl, rfl, by decide +kernel, rfl, by decide +kernel, by decide +kernel⟩

theorem ok_target_of {f : Addr} {fd : FuncData} (F : Fun K "target_of" "target_of" s_target_of f fd) (T : Bi mg) :
    FnOk P w K mg base CX0 1 f fd ["m", "tool", "place"] spTarget_of := by
  refine F.ok sc_target_of (fun vs H Q E h => ?_) (fun cdv A outer s H vs Q E hr h => ?_)
  · obtain ⟨m, t, tl, p, e, _⟩ := h
    subst e
    rfl
  obtain ⟨m, t, tl, p, e, ⟨o, as, ht, od, pa⟩, hne, q⟩ := h
  subst e
  refine ⟨_, (pss_cons (ps_set (i := 3) sc_target_of.nd rfl (.inl rfl) (pe_ix (kixT K) (pe_ix (kixT K) (pv 1) (pe_un un_neg pe_int) (fun _ _ => rfl)) pe_int (fun _ _ => rfl)))
  (pss_cons (ps_for PassesOwn.never rfl (kitup K (pv 1)) (kgtup K 2 rfl (pgs_cons (pg_name (i := 4) sc_target_of.nd rfl (.inl rfl)) (pgs_cons (pg_name (i := 5) sc_target_of.nd rfl (.inl rfl)) pgs_nil)))
  (pss_one (ps_if (pt_cmpR op_le (pv 4) (pv 2) (nomark _))
  (pss_one (ps_set (i := 3) sc_target_of.nd rfl (.inl rfl) (pv 5)))
  pss_nil)))
  (pss_one (ps_ret (pv 3))))), ?_⟩
  have hT : SqT K H t (as.map V.ref) := .inl (.inr ⟨o, ht⟩)
  have hla : as.length = tl.length := Paired.length pa
  have hz := getLastD_eq hne
  have has : (as.map V.ref)[(as.map V.ref).length - 1]? = some (.ref (as.getD (as.length - 1) 0)) := by
    have hp : as.length - 1 < as.length := by
      have := (List.getElem?_eq_some_iff.mp hz).1
      omega
    rw [List.length_map, List.getElem?_map, List.getD_eq_getElem?_getD, List.getElem?_eq_getElem hp]
    rfl
  obtain ⟨p0, bt, e0, e1, e2⟩ := pa.get has
  rw [List.length_map, hla, hz] at e1
  cases e1
  refine ⟨.ref t, rfl, 1, rfl, t, _, _, _, rfl, rfl, hT, atI_neg1 has, p0, _, 1, _, e0, rfl, SqT.of e2, rfl, ?_⟩
  refine ⟨.ref t, rfl, t, rfl, ⟨_, hT⟩, ?_⟩
  refine for_tup (K := K) (a := t) (xs := as.map V.ref) (fun i σ' H' => ∃ y4 y5, σ' = [some m, some (.ref t), some (.int p), some (.int (tgtFrom p (tl.getLastD (0, 0)).2 (tl.take i))), y4, y5] ∧ H' = H) ?_ ?_ ?_ ?_
  · exact ⟨none, none, rfl, rfl⟩
  · intro i σ' H' _ h
    obtain ⟨y4, y5, _, e⟩ := h
    rw [e]
    exact hT
  · intro i x σ' H' hx h
    obtain ⟨y4, y5, e, e'⟩ := h
    subst e
    subst e'
    obtain ⟨p1, bt, e0, e1, e2⟩ := pa.get hx
    subst e0
    refine ⟨p1, _, rfl, SqT.of e2, rfl, _, _, rfl, _, _, rfl, rfl, ?_⟩
    refine ⟨.int bt.1, rfl, .int p, rfl, bt.1, p, rfl, rfl, _, rfl, ?_⟩
    have en : tgtFrom p (tl.getLastD (0, 0)).2 (tl.take (i + 1)) = if bt.1 ≤ p then bt.2 else tgtFrom p (tl.getLastD (0, 0)).2 (tl.take i) := by
      rw [List.take_add_one, e1]
      exact tgtFrom_snoc p bt _ _
    refine ite2 (fun h1 => ?_) (fun h1 => ?_)
    · refine ⟨.int bt.2, rfl, some (.int bt.1), some (.int bt.2), ?_, rfl⟩
      rw [en, if_pos (of_decide_eq_true h1)]
      rfl
    · refine ⟨some (.int bt.1), some (.int bt.2), ?_, rfl⟩
      rw [en, if_neg fun z => h1 (decide_eq_true z)]
      rfl
  · intro σ' H' h
    obtain ⟨y4, y5, e, e'⟩ := h
    subst e
    subst e'
    rw [List.length_map, hla, List.take_of_length_le (Nat.le_refl _)]
    exact ⟨_, rfl, q _ (Same.refl _)⟩
abbrev s__law_target : Stmt := topS 28
abbrev N__law_target : List Str := ["_law_m", "_law_tool_here", "_law_place", "_law_targets"]
theorem sc__law_target : FnScope N__law_target ["_law_m", "_law_tool_here", "_law_place"] (defScope s__law_target) :=
  ⟨rfl, rfl, rfl, by decide +kernel, rfl, by decide +kernel, by decide +kernel⟩

theorem ok_ltarget {f : Addr} {fd : FuncData} (F : Fun K "_law_target" "_law_target" s__law_target f fd) (T : Bi mg) :
    FnOk P w K mg base CX0 1 f fd ["_law_m", "_law_tool_here", "_law_place"] spLTarget := by
  refine F.ok sc__law_target (fun vs H Q E h => ?_) (fun cdv A outer s H vs Q E hr h => ?_)
  · obtain ⟨m, t, tl, p, e, _⟩ := h
    subst e
    rfl
  obtain ⟨m, t, tl, p, e, ⟨o, as, ht, od, pa⟩, hT, hp0, hp1, q⟩ := h
  subst e
  have hl : tl ≠ [] := fun e => by
    have := hT.len1
    rw [e, List.length_nil] at this
    omega
  refine ⟨_, (pss_cons (ps_set (i := 3) sc__law_target.nd rfl (.inl rfl) (pe_callTy (kdictT K rfl) (by rfl) T.dict (by decide +kernel) (pa_cons (pv 1) pa_nil)))
  (pss_cons (ps_while PassesOwn.never (pt_cmp (pc_dnotin (hu_of hr) (pv 2) (pv 3)))
  (pss_one (ps_set (i := 2) sc__law_target.nd rfl (.inl rfl) (pe_op op_mod (pe_op op_sub (pv 2) pe_int) (pv 0)))))
  (pss_one (ps_ret (pe_dget (hu_of hr) (pv 3) (pv 2) (fun _ _ => rfl)))))), ?_⟩
  refine ⟨.ref t, rfl, t, o, as, tl.map kvOf, rfl, ht, od, pa.kvs, fun dd nd => ?_⟩
  have hd : upd H dd (.dK (mergeK [] (tl.map kvOf))) dd = some (.dK (mergeK [] (tl.map kvOf))) := upd_same
  have sm : Same H (upd H dd (.dK (mergeK [] (tl.map kvOf)))) := same_upd nd
  revert hd sm
  generalize upd H dd (.dK (mergeK [] (tl.map kvOf))) = H1
  intro hd sm
  refine ⟨fun n σ' H' => ∃ p' : Int, σ' = [some (.int m), some (.ref t), some (.int p'), some (.ref dd)] ∧ H' = H1 ∧ 0 ≤ p' ∧ p' < m ∧ tgt tl p' = tgt tl p ∧
    (n : Int) = (if ∃ x ∈ tl, x.1 ≤ p' then p' else p' + m + 1), ?_, ?_⟩
  · refine ⟨(if ∃ x ∈ tl, x.1 ≤ p then p else p + m + 1).toNat, p, rfl, rfl, hp0, hp1, rfl, ?_⟩
    split <;> omega
  · intro n σ' H' h
    obtain ⟨p', e, e', h0, h1, ht', hn⟩ := h
    subst e
    subst e'
    by_cases hh : ∃ x ∈ tl, x.1 = p'
    · obtain ⟨x, hx, ex⟩ := hh
      have hv : valV (mergeK [] (tl.map kvOf)) (.inl p') = some (.int x.2) := val_hit tl [] hT.asc (by rw [← ex]; exact hx)
      refine ⟨.int p', rfl, .ref dd, rfl, dd, _, rfl, DGet.k (k := Sum.inl p') hd, _, rfl, ?_⟩
      rw [hv]
      refine iteF ⟨.ref dd, rfl, .int p', rfl, dd, .int x.2, rfl, ?_, ?_⟩
      · rw [← hv]
        exact DGet.k (k := Sum.inl p') hd
      · have e2 : tgt tl p = x.2 := by
          rw [← ht']
          exact tgtFrom_hit tl _ hT.asc (by rw [← ex]; exact hx)
        rw [← e2]
        exact q _ sm
    · have nb : ∀ x ∈ tl, x.1 ≠ p' := fun x hx e => hh ⟨x, hx, e⟩
      have hv : valV (mergeK [] (tl.map kvOf)) (.inl p') = none := val_miss p' tl [] nb
      refine ⟨.int p', rfl, .ref dd, rfl, dd, _, rfl, DGet.k (k := Sum.inl p') hd, _, rfl, ?_⟩
      rw [hv]
      refine iteT ⟨fun σ' H'' => ∃ m', m' < n ∧ ∃ p'' : Int, σ' = [some (.int m), some (.ref t), some (.int p''), some (.ref dd)] ∧ H'' = H' ∧ 0 ≤ p'' ∧ p'' < m ∧ tgt tl p'' = tgt tl p ∧
        (m' : Int) = (if ∃ x ∈ tl, x.1 ≤ p'' then p'' else p'' + m + 1), fun _ _ z => z, ?_⟩
      refine ⟨.int p', rfl, p', 1, rfl, rfl, .int m, rfl, _, m, rfl, rfl, (by omega : 0 < m), ?_⟩
      have b0 : 0 ≤ (p' - 1) % m := Int.emod_nonneg _ (by omega)
      have b1 : (p' - 1) % m < m := Int.emod_lt_of_pos _ (by omega)
      refine ⟨(if ∃ x ∈ tl, x.1 ≤ (p' - 1) % m then (p' - 1) % m else (p' - 1) % m + m + 1).toNat, ?_, (p' - 1) % m, rfl, rfl, b0, b1, (tgt_back hT h0 h1 nb).trans ht', ?_⟩
      · have key : (if ∃ x ∈ tl, x.1 ≤ (p' - 1) % m then (p' - 1) % m else (p' - 1) % m + m + 1) < (n : Int) := by
          rw [hn]
          by_cases hp : p' = 0
          · subst hp
            rw [back_zero (by omega)]
            have x1 : ∃ x ∈ tl, x.1 ≤ m - 1 := by
              obtain ⟨x, hx⟩ := List.exists_mem_of_ne_nil tl hl
              exact ⟨x, hx, by have := (hT.rng x hx).1; omega⟩
            have x2 : ¬ ∃ x ∈ tl, x.1 ≤ 0 := by
              intro ⟨x, hx, hx0⟩
              have := (hT.rng x hx).1
              have := nb x hx
              omega
            rw [if_pos x1, if_neg x2]
            omega
          · rw [back_lt (by omega) h1]
            have iff1 : (∃ x ∈ tl, x.1 ≤ p' - 1) ↔ ∃ x ∈ tl, x.1 ≤ p' := by
              constructor
              · intro ⟨x, hx, hx0⟩
                exact ⟨x, hx, by omega⟩
              · intro ⟨x, hx, hx0⟩
                exact ⟨x, hx, by have := nb x hx; omega⟩
            by_cases z : ∃ x ∈ tl, x.1 ≤ p'
            · rw [if_pos z, if_pos (iff1.mpr z)]
              omega
            · rw [if_neg z, if_neg fun y => z (iff1.mp y)]
              omega
        have nn : 0 ≤ (if ∃ x ∈ tl, x.1 ≤ (p' - 1) % m then (p' - 1) % m else (p' - 1) % m + m + 1) := by split <;> omega
        omega
      · have nn : 0 ≤ (if ∃ x ∈ tl, x.1 ≤ (p' - 1) % m then (p' - 1) % m else (p' - 1) % m + m + 1) := by split <;> omega
        omega
abbrev s__law_same : Stmt := topS 26
abbrev N__law_same : List Str := ["_law_value", "_law_due_here"]
theorem sc__law_same : FnScope N__law_same ["_law_value", "_law_due_here"] (defScope s__law_same) :=
  ⟨rfl, rfl, rfl, by decide +kernel, rfl, by decide +kernel, by decide +kernel⟩

theorem ok_same {f : Addr} {fd : FuncData} (F : Fun K "_law_same" "_law_same" s__law_same f fd) (T : Bi mg) :
    FnG P w K mg base 1 f fd ["_law_value", "_law_due_here"] (spSame K) := by
  refine fung_ok F sc__law_same (fun vs H Q E h => ?_) (fun cdv A outer s H vs Q E hgd hr h => ?_)
  · obtain ⟨x, y, d, e, _⟩ := h
    subst e
    rfl
  obtain ⟨x, y, d, e, hx, hy, hs, q⟩ := h
  subst e
  refine ⟨_, (pss_one (ps_ret (pe_cmpR op_eq (pe_callB (krepr K hgd hr.units) (by rfl) T.repr (by decide +kernel) (pa_cons (pv 0) pa_nil)) (pe_callB (krepr K hgd hr.units) (by rfl) T.repr (by decide +kernel) (pa_cons (pv 1) pa_nil)) (nomark _)))), ?_⟩
  refine ⟨.ref x, rfl, x, d, rfl, hx, hs.sh, hs.nd, hs.dp, hs.le, ?_⟩
  refine ⟨.ref y, rfl, y, d, rfl, hy, hs.sh, hs.nd, hs.dp, hs.le, ?_⟩
  refine ⟨rfl, ?_⟩
  rw [decide_eq_true rfl]
  exact q
abbrev s_push_place : Stmt := topS 16
abbrev N_push_place : List Str := ["m", "tool", "turn", "place"]
theorem sc_push_place : FnScope N_push_place ["m", "tool", "turn", "place"] (defScope s_push_place) :=
  ⟨rfl, rfl, rfl, by decide +kernel, rfl, by decide +kernel, by decide +kernel⟩

theorem ok_push {f : Addr} {fd : FuncData} (F : Fun K "push_place" "push_place" s_push_place f fd) (T : Bi mg)
    (h_target_of : Has P w K mg base 1 "target_of" ["m", "tool", "place"] spTarget_of) :
    FnOk P w K mg base CX0 2 f fd ["m", "tool", "turn", "place"] spPush := by
  refine F.ok sc_push_place (fun vs H Q E h => ?_) (fun cdv A outer s H vs Q E hr h => ?_)
  · obtain ⟨m, b, p, t, tl, e, _⟩ := h
    subst e
    rfl
  obtain ⟨m, b, p, t, tl, e, hm, ht, hne, q⟩ := h
  subst e
  refine ⟨_, (pss_one (ps_ret (pe_callH h_target_of hr (by decide) (by rfl) (pa_cons (pv 0) (pa_cons (pv 1) (pa_cons (pe_op op_mod (pe_op op_add (pv 3) (pv 2)) (pv 0)) pa_nil)))))), ?_⟩
  exact ⟨.int m, rfl, .ref t, rfl, .int p, rfl, .int b, rfl, p, b, rfl, rfl, .int m, rfl, p + b, m, rfl, rfl, hm, .int m, t, tl, _, rfl, ht, hne, q⟩
abbrev s_push_places : Stmt := topS 17
abbrev N_push_places : List Str := ["m", "tool", "turn", "places", "place"]
theorem sc_push_places : FnScope N_push_places ["m", "tool", "turn", "places"] (defScope s_push_places) :=
  ⟨rfl, rfl, rfl, by decide +kernel, rfl, by decide +kernel, by decide +kernel⟩

theorem ok_pushes {f : Addr} {fd : FuncData} (F : Fun K "push_places" "push_places" s_push_places f fd) (T : Bi mg)
    (h_push_place : Has P w K mg base 2 "push_place" ["m", "tool", "turn", "place"] spPush) :
    FnOk P w K mg base CX0 3 f fd ["m", "tool", "turn", "places"] (spPushes K) := by
  refine F.ok sc_push_places (fun vs H Q E h => ?_) (fun cdv A outer s H vs Q E hr h => ?_)
  · obtain ⟨m, b, t, pl, tl, ps, e, _⟩ := h
    subst e
    rfl
  obtain ⟨m, b, t, pl, tl, ps, e, hm, ht, hne, hp, hl, q⟩ := h
  subst e
  refine ⟨_, (pss_one (ps_ret (pe_callTy call_tuple_of (by rfl) T.tuple (by decide +kernel) (pa_cons (pe_callB (ksortS w rfl) (by rfl) T.sorted (by decide +kernel) (pa_cons (pe_scI (own := [("place", 4)]) rfl sc_push_places.nd (kitup K (pv 3)) (blkOk_by (own := [("place", 4)]) (N := N_push_places) (sc := defScope s_push_places) (by decide +kernel))
    (fun _ _ _ _ _ => (pg_name (i := 4) sc_push_places.nd rfl (.inl rfl))) (fun _ _ _ _ _ => pts_nil)
    (fun _ _ _ _ _ => (pe_callH h_push_place hr (by decide) (by rfl) (pa_cons (pv 0) (pa_cons (pv 1) (pa_cons (pv 2) (pa_cons (pv 4) pa_nil))))))) pa_nil)) pa_nil)))), ?_⟩
  refine ⟨.ref pl, rfl, pl, rfl, ⟨_, hp⟩, fun D nD => ?_⟩
  refine scT (xs := ps.map V.int) (fun i => tgt tl ((ps.getD i 0 + b) % m)) (by rw [List.length_map]; omega) nD hp (fun v => rfl) ?_ ?_
  · intro i x H1 Q1 hx hs q1
    obtain ⟨e, _, _⟩ := int_item hx
    subst e
    exact ⟨.int m, rfl, .ref t, rfl, .int b, rfl, .int (ps.getD i 0), rfl, m, b, ps.getD i 0, t, tl, rfl, hm, ht.stay (.of_same hs), hne, fun H2 s2 => q1 H2 s2⟩
  · intro H1 S n s1 hD hn hS
    rw [List.length_map] at hn hS
    refine ⟨D, S, n, rfl, hD, by omega, fun out L srt mem len nL => ?_⟩
    refine ⟨L, _, rfl, .inl ⟨SqL.of upd_same, fun p np => ?_⟩⟩
    refine q out p _ srt (fun y => ?_) ((s1.trans (same_upd nL)).trans (same_upd np)) ((s1.trans (same_upd nL)).free np) upd_same
    rw [mem y, hS y]
    constructor
    · intro ⟨i, hi, e⟩
      exact ⟨ps.getD i 0, (by rw [List.getD_eq_getElem?_getD, List.getElem?_eq_getElem hi]; exact List.getElem_mem hi), e⟩
    · intro ⟨z, hz, e⟩
      obtain ⟨i, hi, ez⟩ := List.getElem_of_mem hz
      refine ⟨i, hi, ?_⟩
      rw [List.getD_eq_getElem?_getD, List.getElem?_eq_getElem hi]
      show tgt tl ((ps[i] + b) % m) = y
      rw [ez]
      exact e
abbrev s__law_places : Stmt := topS 29
abbrev N__law_places : List Str := ["_law_deck_here", "_law_m", "_law_way", "_law_begin", "_law_many", "_law_step", "_law_k"]
theorem sc__law_places : FnScope N__law_places ["_law_deck_here", "_law_m"] (defScope s__law_places) :=
  ⟨rfl, rfl, rfl, by decide +kernel, rfl, by decide +kernel, by decide +kernel⟩

theorem ok_places {f : Addr} {fd : FuncData} (F : Fun K "_law_places" "_law_places" s__law_places f fd) (T : Bi mg)
    (h__law_draw : Has P w K mg base 1 "_law_draw" ["_law_deck_here", "_law_limit"] spDraw)
    (h__law_distinct : Has P w K mg base 2 "_law_distinct" ["_law_deck_here", "_law_m", "_law_many"] spDistinct) :
    FnOk P w K mg base CX0 3 f fd ["_law_deck_here", "_law_m"] spPlaces := by
  refine F.ok sc__law_places (fun vs H Q E h => ?_) (fun cdv A outer s H vs Q E hr h => ?_)
  · obtain ⟨a, c, k, m, e, _⟩ := h
    subst e
    rfl
  obtain ⟨a, c, k, m, e, dk, hk, hm1, hm2, q⟩ := h
  subst e
  refine ⟨_, (pss_cons (ps_asg (pe_tup (pa_cons (pe_callH h__law_draw hr (by decide) (by rfl) (pa_cons (pv 0) (pa_cons pe_int pa_nil))) (pa_cons (pe_callH h__law_draw hr (by decide) (by rfl) (pa_cons (pv 0) (pa_cons (pv 1) pa_nil))) pa_nil))) (kgtup K 2 rfl (pgs_cons (pg_name (i := 2) sc__law_places.nd rfl (.inl rfl)) (pgs_cons (pg_name (i := 3) sc__law_places.nd rfl (.inr rfl)) pgs_nil))))
  (pss_cons (ps_set (i := 4) sc__law_places.nd rfl (.inl rfl) (pe_op op_add pe_int (pe_callH h__law_draw hr (by decide) (by rfl) (pa_cons (pv 0) (pa_cons (pv 1) pa_nil)))))
  (pss_cons (ps_if (pt_cmpR op_lt (pv 2) pe_int (nomark _))
  (pss_one (ps_ret (pe_callTy call_tuple_of (by rfl) T.tuple (by decide +kernel) (pa_cons (pe_callH h__law_distinct hr (by decide) (by rfl) (pa_cons (pv 0) (pa_cons (pv 1) (pa_cons (pe_ix (kixL K) (pe_lst (pa_cons (pv 4) (pa_cons (pe_callB (call_min2 rfl) (by rfl) T.min (by decide +kernel) (pa_cons (pv 1) (pa_cons pe_int pa_nil))) pa_nil))) (pv 2) (fun _ _ => rfl)) pa_nil)))) pa_nil))))
  pss_nil)
  (pss_cons (ps_if (pt_cmpR op_eq (pv 2) pe_int (nomark _))
  (pss_one (ps_ret (pe_tupRg (by rfl) (by rfl) T.tuple (prg_1 (by rfl) T.range (pv 1)))))
  pss_nil)
  (pss_cons (ps_set (i := 5) sc__law_places.nd rfl (.inr rfl) (pe_op op_add pe_int (pe_op op_mul (pe_callTy call_int1 (by rfl) T.int (by decide +kernel) (pa_cons (pe_cmpR op_eq (pv 2) pe_int (nomark _)) pa_nil)) (pe_callH h__law_draw hr (by decide) (by rfl) (pa_cons (pv 0) (pa_cons pe_int pa_nil))))))
  (pss_one (ps_ret (pe_callTy call_tuple_of (by rfl) T.tuple (by decide +kernel) (pa_cons (pe_callB (ksortS w rfl) (by rfl) T.sorted (by decide +kernel) (pa_cons (pe_callTy (ksetL K w rfl) (by rfl) T.set (by decide +kernel) (pa_cons (pe_lc (own := [("_law_k", 6)]) rfl sc__law_places.nd (pi_range1 (by rfl) T.range (pa_cons (pv 4) pa_nil)) (blkOk_by (own := [("_law_k", 6)]) (N := N__law_places) (sc := defScope s__law_places) (by decide +kernel))
    (fun _ _ _ _ _ => (pg_name (i := 6) sc__law_places.nd rfl (.inl rfl))) (fun _ _ _ _ _ => pts_nil)
    (fun _ _ _ _ _ => (pe_op op_mod (pe_op op_add (pv 3) (pe_op op_mul (pv 5) (pv 6))) (pv 1)))) pa_nil)) pa_nil)) pa_nil))))))))), ?_⟩
  -- way, begin
  refine ⟨.ref a, rfl, a, c, k, 5, rfl, dk, by omega, by decide, by decide, fun way H1 w0 w1 dk1 kp1 => ?_⟩
  refine ⟨.ref a, rfl, .int m, rfl, a, c, k + 1, m, rfl, dk1, by omega, hm1, by omega, fun b H2 b0 b1 dk2 kp2 => ?_⟩
  refine ⟨by show 2 ≤ sizeLine; decide, fun p0 np0 => ⟨p0, _, rfl, SqT.of upd_same, rfl, _, _, rfl, _, _, rfl, rfl, ?_⟩⟩
  have dk3 := dk2.new (o := .tup [.int way, .int b]) np0
  have kp3 : Keep a c H (upd H2 p0 (.tup [.int way, .int b])) := (kp1.trans kp2).trans (Keep.upd_new np0)
  revert dk3 kp3
  generalize upd H2 p0 (.tup [.int way, .int b]) = H3
  intro dk3 kp3
  -- many
  refine ⟨.ref a, rfl, .int m, rfl, a, c, k + 1 + 1, m, rfl, dk3, by omega, hm1, by omega, fun v H4 v0 v1 dk4 kp4 => ⟨1, v, rfl, rfl, ?_⟩⟩
  have kpA : Keep a c H H4 := kp3.trans kp4
  -- way < 2
  refine ⟨.int way, rfl, way, 2, rfl, rfl, _, rfl, ?_⟩
  refine ite2 (fun h1 => ?_) (fun h1 => ?_)
  · have h1 : way < 2 := of_decide_eq_true h1
    refine ⟨.ref a, rfl, .int m, rfl, .int (1 + v), rfl, .int m, rfl, m, 3, rfl, by show 2 ≤ sizeLine; decide, fun p1 np1 => ?_⟩
    obtain ⟨n, hn, hn1, hn2⟩ : ∃ n, atI [V.int (1 + v), V.int (if (3 : Int) < m then 3 else m)] way = some (.int n) ∧ 1 ≤ n ∧ n ≤ m := by
      by_cases z : way = 0
      · subst z
        exact ⟨1 + v, rfl, by omega, by omega⟩
      · have z1 : way = 1 := by omega
        subst z1
        refine ⟨if (3 : Int) < m then 3 else m, rfl, ?_, ?_⟩
        · split <;> omega
        · split <;> omega
    refine ⟨.int way, rfl, p1, _, way, _, rfl, rfl, SqL.of upd_same, hn, a, c, k + 1 + 1 + 1, m, n, rfl, dk4.new np1, by omega, by omega, hn2, by omega, fun xs L H5 xp xl xr dk5 kp5 nL hL => ?_⟩
    refine ⟨L, _, rfl, .inl ⟨SqL.of hL, fun p np => ?_⟩⟩
    have kpB : Keep a c H H5 := (kpA.trans (Keep.upd_new np1)).trans kp5
    exact q p xs _ xp (by omega) xr upd_same ((dk5.new np).mono (by omega)) (kpB.trans (Keep.upd_new np)) (keep_none kpB dk5 np)
  · have h1 : ¬ way < 2 := fun z => h1 (decide_eq_true z)
    refine ⟨.int way, rfl, rfl, _, rfl, ?_⟩
    refine ite2 (fun h2 => ?_) (fun h2 => ?_)
    · refine ⟨.int m, rfl, m, rfl, RgOk.of_le (by decide) (by omega) (by decide) (by omega), fun p np => ?_⟩
      refine q p (upto m) _ (pw_lt_upto m) (by rw [upto_len]; omega) (fun x hx => upto_mem.mp hx) ?_ ((dk4.new np).mono (by omega)) (kpA.trans (Keep.upd_new np)) (keep_none kpA dk4 np)
      rw [upd_same, upto_V]
    · -- the steps
      refine ⟨.int way, rfl, rfl, .inr ⟨_, rfl, ?_⟩⟩
      refine ⟨.ref a, rfl, a, c, k + 1 + 1 + 1, 4, rfl, dk4, by omega, by decide, by decide, fun u H5 u0 u1 dk5 kp5 => ?_⟩
      refine ⟨_, u, rfl, rfl, .inr ⟨by omega, by omega⟩, 1, _, rfl, rfl, ?_⟩
      have kpB : Keep a c H H5 := kpA.trans kp5
      obtain ⟨st, hst⟩ : ∃ st : Int, st = 1 + (if decide (V.int way = V.int 4) = true then 1 else 0) * u := ⟨_, rfl⟩
      refine ⟨.int (1 + v), rfl, 1 + v, rfl, by omega, by omega, fun D nD => ?_⟩
      refine lcR (fun _ => true) (fun i => V.int ((b + st * (0 + (i : Nat))) % m)) (by omega) nD (fun v => rfl) (fun i H Q hi hs q => q H (Same.refl _)) ?_ ?_
      · intro i H6 Q6 hi _ hs q6
        exact ⟨.int b, rfl, .int st, (by rw [hst]; rfl), .int (0 + (i : Nat)), rfl, st, _, rfl, rfl, .inr ⟨by omega, by omega⟩, b, _, rfl, rfl, .int m, rfl, _, m, rfl, rfl, (by omega : 0 < m), q6 _ (Same.refl _)⟩
      · intro H6 s6 hD
        rw [ffalse, stepsOf_V] at hD
        generalize hns : (List.range (1 + v).toNat).map (fun k => (b + st * (0 + (k : Nat))) % m) = ns at hD
        have hlen : ns.length = (1 + v).toNat := by
          rw [← hns, List.length_map, List.length_range]
        have hmem : ∀ x ∈ ns, 0 ≤ x ∧ x < m := by
          intro x hx
          rw [← hns, List.mem_map] at hx
          obtain ⟨i, _, e⟩ := hx
          rw [← e]
          exact ⟨Int.emod_nonneg _ (by omega), Int.emod_lt_of_pos _ (by omega)⟩
        refine ⟨D, ns, rfl, SqL.of hD, by omega, fun Z cc nZ hcc => ?_⟩
        refine ⟨Z, _, cc, rfl, upd_same, by omega, fun out L srt mem len nL => ?_⟩
        refine ⟨L, _, rfl, .inl ⟨SqL.of upd_same, fun p np => ?_⟩⟩
        have sB : Same H5 (upd (upd (upd H6 Z (SetO w Z (fun j => decide (j ∈ ns)) cc)) L (.lst (out.map V.int))) p (.tup (out.map V.int))) := ((s6.trans (same_upd nZ)).trans (same_upd nL)).trans (same_upd np)
        have mem2 : ∀ x, x ∈ out ↔ x ∈ ns := fun x => by rw [mem x, decide_eq_true_iff]
        refine q p out _ srt ?_ (fun x hx => hmem x ((mem2 x).mp hx)) upd_same ((dk5.same sB).mono (by omega)) (kpB.trans (.of_same sB)) ?_
        · have h0 : 0 < ns.length := by omega
          have := (mem2 ns[0]).mpr (List.getElem_mem h0)
          exact List.length_pos_of_mem this
        · refine keep_none kpB dk5 ?_
          exact ((s6.trans (same_upd nZ)).trans (same_upd nL)).free np
abbrev s__law_tools : Stmt := topS 30
abbrev N__law_tools : List Str := ["_law_deck_here", "_law_m", "_law_k"]
theorem sc__law_tools : FnScope N__law_tools ["_law_deck_here", "_law_m"] (defScope s__law_tools) :=
  ⟨rfl, rfl, rfl, by decide +kernel, rfl, by decide +kernel, by decide +kernel⟩

theorem ok_tools {f : Addr} {fd : FuncData} (F : Fun K "_law_tools" "_law_tools" s__law_tools f fd) (T : Bi mg)
    (h__law_draw : Has P w K mg base 1 "_law_draw" ["_law_deck_here", "_law_limit"] spDraw)
    (h__law_tool : Has P w K mg base 3 "_law_tool" ["_law_deck_here", "_law_m"] spTool) :
    FnOk P w K mg base CX0 4 f fd ["_law_deck_here", "_law_m"] spTools := by
  refine F.ok sc__law_tools (fun vs H Q E h => ?_) (fun cdv A outer s H vs Q E hr h => ?_)
  · obtain ⟨a, c, k, m, e, _⟩ := h
    subst e
    rfl
  obtain ⟨a, c, k, m, e, dk, hk, hm1, hm2, q⟩ := h
  subst e
  refine ⟨_, (pss_one (ps_ret (pe_callTy call_tuple_of (by rfl) T.tuple (by decide +kernel) (pa_cons (pe_lc (own := [("_law_k", 2)]) rfl sc__law_tools.nd (pi_range1 (by rfl) T.range (pa_cons (pe_op op_add pe_int (pe_callH h__law_draw hr (by decide) (by rfl) (pa_cons (pv 0) (pa_cons pe_int pa_nil)))) pa_nil)) (blkOk_by (own := [("_law_k", 2)]) (N := N__law_tools) (sc := defScope s__law_tools) (by decide +kernel))
    (fun _ _ _ _ _ => (pg_name (i := 2) sc__law_tools.nd rfl (.inl rfl))) (fun _ _ _ _ _ => pts_nil)
    (fun _ _ _ _ _ => (pe_callH h__law_tool hr (by decide) (by rfl) (pa_cons (pv 0) (pa_cons (pv 1) pa_nil))))) pa_nil)))), ?_⟩
  refine ⟨.ref a, rfl, a, c, k, 4, rfl, dk, by omega, by decide, by decide, fun v H1 v0 v1 dk1 kp1 => ⟨1, v, rfl, rfl, 1 + v, rfl, by omega, by omega, fun D nD => ?_⟩⟩
  obtain ⟨nDa, nDc⟩ := dk1.nea nD
  have nDH := keep_none kp1 dk1 nD
  refine lc_range (lo := 0) (n := (1 + v).toNat) (fun i H' => ∃ (as : List Addr) (tls : List (List (Int × Int))), Deck H' a c (k + 1 + 30 * i) ∧ Keep a c H H' ∧ H' D = some (.lst (as.map V.ref)) ∧
    Paired (fun p tl => ToolAt H' p tl) as tls ∧ tls.length = i ∧ ∀ tl ∈ tls, IsTool m tl) ?_ ?_ ?_
  · exact ⟨[], [], (dk1.new nD).mono (by omega), kp1.trans (Keep.upd_new nD), upd_same, .nil, rfl, fun tl h => (List.not_mem_nil h).elim⟩
  · intro i H' hi h
    obtain ⟨as, tls, dk', kp', hD', pa', hl', its'⟩ := h
    refine ⟨rfl, .ref a, rfl, .int m, rfl, a, c, _, m, rfl, dk', by omega, hm1, hm2, fun t tl H2 it at_ dk2 kp2 => ⟨as.map V.ref, kp2 _ _ nDa nDc hD', ?_, as ++ [t], tls ++ [tl], ?_, ?_, ?_, ?_, ?_, ?_⟩⟩
    · rw [List.length_map, Paired.length pa', hl']
      exact small1000 (by omega)
    · obtain ⟨ns, j, d1, d2, d3, d4, d5, d6⟩ := dk2
      refine ⟨ns, j, d1, ?_, ?_, d4, d5, by omega⟩
      · rw [upd_ne nDa.symm]
        exact d2
      · rw [upd_ne nDc.symm]
        exact d3
    · intro b o x1 x2 x3
      rw [upd_ne (ne_of_none x3 nDH)]
      exact kp2 b o x1 x2 (kp' b o x1 x2 x3)
    · rw [upd_same, List.map_append]
      rfl
    · have st := stay_list (ws := as.map V.ref ++ [.ref t]) (kp2 _ _ nDa nDc hD')
      exact Paired.snoc (Paired.mono (fun _ _ e => (e.stay (kp2.stay dk')).stay st) pa') (at_.stay st)
    · rw [List.length_append, hl']
      rfl
    · intro z hz
      rcases List.mem_append.mp hz with y | y
      · exact its' z y
      · rw [List.mem_singleton.mp y]
        exact it
  · intro H' h
    obtain ⟨as, tls, dk', kp', hD', pa', hl', its'⟩ := h
    refine ⟨D, _, rfl, .inl ⟨SqL.of hD', fun T nT => ?_⟩⟩
    have sT := same_upd (o := .tup (as.map V.ref)) nT
    refine q T tls _ (fun e => ?_) (by omega) its' ⟨as, upd_same, Paired.mono (fun _ _ e => e.stay (.of_same sT)) pa'⟩ ((dk'.new nT).mono (by omega)) (kp'.trans (Keep.upd_new nT))
    rw [e, List.length_nil] at hl'
    omega
abbrev s_is_number : Stmt := topS 3
abbrev N_is_number : List Str := ["value"]
theorem sc_is_number : FnScope N_is_number ["value"] (defScope s_is_number) :=
  ⟨rfl, rfl, rfl, by decide +kernel, rfl, by decide +kernel, by decide +kernel⟩
theorem ok_is_number {f : Addr} {fd : FuncData} (F : Fun K "is_number" "is_number" s_is_number f fd) (T : Bi mg) :
    FnOk P w K mg base CX0 1 f fd ["value"] (spNum K) := by
  refine F.ok sc_is_number (fun vs H Q E h => ?_) (fun cdv A outer s H vs Q E hr h => ?_)
  · obtain ⟨v, d, B, e, _⟩ := h
    subst e
    rfl
  obtain ⟨v, d, B, e, dv, q⟩ := h
  subst e
  refine ⟨_, (pss_one (ps_ret (pe_and (pe_callB (kisi K) (by rfl) T.isinstance (by decide +kernel) (pa_cons (pv 0) (pa_cons (pe_bltn (v := .ty "int") (by rfl) T.int rfl rfl) pa_nil))) (pe_one (pe_not (pe_callB (kisi K) (by rfl) T.isinstance (by decide +kernel) (pa_cons (pv 0) (pa_cons (pe_bltn (v := .ty "bool") (by rfl) T.bool rfl rfl) pa_nil)))))))), ?_⟩
  refine ⟨v, rfl, v, .ty "int", _, _, isI d, rfl, .ty _, dv.ty, kit_int, _, rfl, ?_⟩
  refine ite2 (fun h1 => ?_) (fun h1 => ?_)
  · refine ⟨v, rfl, v, .ty "bool", _, _, isB d, rfl, .ty _, dv.ty, kit_bool, _, rfl, ?_⟩
    have e : (!isB d) = isNum d := by
      cases d <;> first | rfl | cases h1
    rw [e]
    exact q
  · have e : false = isNum d := by
      cases d <;> first | rfl | exact absurd rfl h1
    rw [e]
    exact q
abbrev s_is_number_within : Stmt := topS 4
abbrev N_is_number_within : List Str := ["value", "least", "most"]
theorem sc_is_number_within : FnScope N_is_number_within ["value", "least", "most"] (defScope s_is_number_within) :=
  ⟨rfl, rfl, rfl, by decide +kernel, rfl, by decide +kernel, by decide +kernel⟩
theorem ok_is_number_within {f : Addr} {fd : FuncData} (F : Fun K "is_number_within" "is_number_within" s_is_number_within f fd) (T : Bi mg)
    (h_is_number : Has P w K mg base 1 "is_number" ["value"] (spNum K)) :
    FnOk P w K mg base CX0 2 f fd ["value", "least", "most"] (spNumIn K) := by
  refine F.ok sc_is_number_within (fun vs H Q E h => ?_) (fun cdv A outer s H vs Q E hr h => ?_)
  · obtain ⟨v, d, B, lo, hi, e, _⟩ := h
    subst e
    rfl
  obtain ⟨v, d, B, lo, hi, e, dv, q⟩ := h
  subst e
  refine ⟨_, (pss_one (ps_ret (pe_and (pe_callH h_is_number hr (by decide) (by rfl) (pa_cons (pv 0) pa_nil)) (pe_one (pe_chain op_le op_le (pv 1) (pv 0) (pv 2)))))), ?_⟩
  refine ⟨v, rfl, v, d, B, rfl, dv, _, rfl, ?_⟩
  refine ite2 (fun h1 => ?_) (fun h1 => ?_)
  · obtain ⟨i, e1, e2⟩ := dv_num dv h1
    subst e1
    subst e2
    have q : Q (.bl (decide (lo ≤ i) && decide (i ≤ hi))) H := q
    refine ⟨.int lo, rfl, .int i, rfl, lo, i, rfl, rfl, _, rfl, ?_⟩
    refine ite2 (fun h2 => ?_) (fun h2 => ?_)
    · refine ⟨.int hi, rfl, i, hi, rfl, rfl, ?_⟩
      rw [h2, Bool.true_and] at q
      exact q
    · rw [Bool.eq_false_iff.mpr h2, Bool.false_and] at q
      exact q
  · have e : false = inB lo hi d := by
      cases d <;> first | rfl | exact absurd rfl h1
    rw [e]
    exact q
abbrev s_is_tuple_within : Stmt := topS 7
abbrev N_is_tuple_within : List Str := ["value", "least", "most"]
theorem sc_is_tuple_within : FnScope N_is_tuple_within ["value", "least", "most"] (defScope s_is_tuple_within) :=
  ⟨rfl, rfl, rfl, by decide +kernel, rfl, by decide +kernel, by decide +kernel⟩
theorem ok_is_tuple_within {f : Addr} {fd : FuncData} (F : Fun K "is_tuple_within" "is_tuple_within" s_is_tuple_within f fd) (T : Bi mg) :
    FnOk P w K mg base CX0 1 f fd ["value", "least", "most"] (spTupIn K) := by
  refine F.ok sc_is_tuple_within (fun vs H Q E h => ?_) (fun cdv A outer s H vs Q E hr h => ?_)
  · obtain ⟨v, d, B, lo, hi, e, _⟩ := h
    subst e
    rfl
  obtain ⟨v, d, B, lo, hi, e, dv, q⟩ := h
  subst e
  refine ⟨_, (pss_one (ps_ret (pe_and (pe_callB (kisi K) (by rfl) T.isinstance (by decide +kernel) (pa_cons (pv 0) (pa_cons (pe_bltn (v := .ty "tuple") (by rfl) T.tuple rfl rfl) pa_nil))) (pe_one (pe_chain op_le op_le (pv 1) (pe_callB (klen K) (by rfl) T.len (by decide +kernel) (pa_cons (pv 0) pa_nil)) (pv 2)))))), ?_⟩
  refine ⟨v, rfl, v, .ty "tuple", _, _, isT d, rfl, .ty _, dv.ty, kit_tuple, _, rfl, ?_⟩
  refine ite2 (fun h1 => ?_) (fun h1 => ?_)
  · obtain ⟨p, xs, ds, e1, e2, hp, hd⟩ := dv_tup dv h1
    subst e1
    subst e2
    have len := hd.len
    have q : Q (.bl (decide (lo ≤ (ds.length : Nat)) && decide (((ds.length : Nat) : Int) ≤ hi))) H := q
    refine ⟨.int lo, rfl, .ref p, rfl, p, xs, rfl, .inr hp, lo, _, rfl, rfl, _, rfl, ?_⟩
    rw [len]
    refine ite2 (fun h2 => ?_) (fun h2 => ?_)
    · refine ⟨.int hi, rfl, _, hi, rfl, rfl, ?_⟩
      rw [h2, Bool.true_and] at q
      exact q
    · rw [Bool.eq_false_iff.mpr h2, Bool.false_and] at q
      exact q
  · have e : false = tupIn lo hi d := by
      cases d <;> first | rfl | exact absurd rfl h1
    rw [e]
    exact q
abbrev s_is_pair : Stmt := topS 8
abbrev N_is_pair : List Str := ["value"]
theorem sc_is_pair : FnScope N_is_pair ["value"] (defScope s_is_pair) :=
  ⟨rfl, rfl, rfl, by decide +kernel, rfl, by decide +kernel, by decide +kernel⟩
theorem ok_is_pair {f : Addr} {fd : FuncData} (F : Fun K "is_pair" "is_pair" s_is_pair f fd) (T : Bi mg)
    (h_is_tuple_within : Has P w K mg base 1 "is_tuple_within" ["value", "least", "most"] (spTupIn K)) :
    FnOk P w K mg base CX0 2 f fd ["value"] (spPair K) := by
  refine F.ok sc_is_pair (fun vs H Q E h => ?_) (fun cdv A outer s H vs Q E hr h => ?_)
  · obtain ⟨v, d, B, e, _⟩ := h
    subst e
    rfl
  obtain ⟨v, d, B, e, dv, q⟩ := h
  subst e
  refine ⟨_, (pss_one (ps_ret (pe_callH h_is_tuple_within hr (by decide) (by rfl) (pa_cons (pv 0) (pa_cons pe_int (pa_cons pe_int pa_nil)))))), ?_⟩
  exact ⟨v, rfl, v, d, B, 2, 2, rfl, dv, q⟩
abbrev s__law_is_number : Stmt := topS 27
abbrev N__law_is_number : List Str := ["_law_value", "_law_low", "_law_high"]
theorem sc__law_is_number : FnScope N__law_is_number ["_law_value", "_law_low", "_law_high"] (defScope s__law_is_number) :=
  ⟨rfl, rfl, rfl, by decide +kernel, rfl, by decide +kernel, by decide +kernel⟩
theorem ok__law_is_number {f : Addr} {fd : FuncData} (F : Fun K "_law_is_number" "_law_is_number" s__law_is_number f fd) (T : Bi mg) :
    FnOk P w K mg base CX0 1 f fd ["_law_value", "_law_low", "_law_high"] (spNumIn K) := by
  refine F.ok sc__law_is_number (fun vs H Q E h => ?_) (fun cdv A outer s H vs Q E hr h => ?_)
  · obtain ⟨v, d, B, lo, hi, e, _⟩ := h
    subst e
    rfl
  obtain ⟨v, d, B, lo, hi, e, dv, q⟩ := h
  subst e
  refine ⟨_, (pss_one (ps_ret (pe_and (pe_callB (kisi K) (by rfl) T.isinstance (by decide +kernel) (pa_cons (pv 0) (pa_cons (pe_bltn (v := .ty "int") (by rfl) T.int rfl rfl) pa_nil))) (pe_and (pe_not (pe_callB (kisi K) (by rfl) T.isinstance (by decide +kernel) (pa_cons (pv 0) (pa_cons (pe_bltn (v := .ty "bool") (by rfl) T.bool rfl rfl) pa_nil)))) (pe_one (pe_chain op_le op_le (pv 1) (pv 0) (pv 2))))))), ?_⟩
  refine ⟨v, rfl, v, .ty "int", _, _, isI d, rfl, .ty _, dv.ty, kit_int, _, rfl, ?_⟩
  refine ite2 (fun h1 => ?_) (fun h1 => ?_)
  · refine ⟨v, rfl, v, .ty "bool", _, _, isB d, rfl, .ty _, dv.ty, kit_bool, _, rfl, _, rfl, ?_⟩
    refine ite2 (fun h2 => ?_) (fun h2 => ?_)
    · obtain ⟨i, e1, e2⟩ := dv_num dv (by cases d <;> first | rfl | (cases h1; done) | (cases h2; done))
      subst e1
      subst e2
      have q : Q (.bl (decide (lo ≤ i) && decide (i ≤ hi))) H := q
      refine ⟨.int lo, rfl, .int i, rfl, lo, i, rfl, rfl, _, rfl, ?_⟩
      refine ite2 (fun h2 => ?_) (fun h2 => ?_)
      · refine ⟨.int hi, rfl, i, hi, rfl, rfl, ?_⟩
        rw [h2, Bool.true_and] at q
        exact q
      · rw [Bool.eq_false_iff.mpr h2, Bool.false_and] at q
        exact q
    · have e : false = inB lo hi d := by
        cases d <;> first | rfl | (cases h1; done) | exact absurd rfl h2
      rw [e]
      exact q
  · have e : false = inB lo hi d := by
      cases d <;> first | rfl | exact absurd rfl h1
    rw [e]
    exact q

end

section
open Classical
variable {P : Program} {w : World} {K : PySem.W.Frag} {mg : Str → Option Value} {base : Heap}
abbrev s_is_turn : Stmt := topS 5
abbrev N_is_turn : List Str := ["value"]
theorem sc_is_turn : FnScope N_is_turn ["value"] (defScope s_is_turn) :=
  ⟨rfl, rfl, rfl, by decide +kernel, rfl, by decide +kernel, by decide +kernel⟩
theorem ok_is_turn {f : Addr} {fd : FuncData} (F : Fun K "is_turn" "is_turn" s_is_turn f fd) (T : Bi mg)
    (hMT : ∃ t, mg "MAX_TURN" = some (.int (10 ^ 30 - 1) t))
    (h_is_number_within : Has P w K mg base 2 "is_number_within" ["value", "least", "most"] (spNumIn K)) :
    FnOk P w K mg base CX0 3 f fd ["value"] (spTurn K) := by
  refine F.ok sc_is_turn (fun vs H Q E h => ?_) (fun cdv A outer s H vs Q E hr h => ?_)
  · obtain ⟨v, d, B, e, _⟩ := h
    subst e
    rfl
  obtain ⟨v, d, B, e, dv, q⟩ := h
  subst e
  refine ⟨_, (pss_one (ps_ret (pe_callH h_is_number_within hr (by decide) (by rfl) (pa_cons (pv 0) (pa_cons (pe_un un_neg (pe_glob (v := .int (10 ^ 30 - 1)) (by rfl) hMT.choose_spec ⟨_, rfl⟩)) (pa_cons (pe_glob (v := .int (10 ^ 30 - 1)) (by rfl) hMT.choose_spec ⟨_, rfl⟩) pa_nil)))))), ?_⟩
  exact ⟨v, rfl, _, rfl, v, d, B, _, _, rfl, dv, q⟩
abbrev s_is_index : Stmt := topS 6
abbrev N_is_index : List Str := ["items", "value"]
theorem sc_is_index : FnScope N_is_index ["items", "value"] (defScope s_is_index) :=
  ⟨rfl, rfl, rfl, by decide +kernel, rfl, by decide +kernel, by decide +kernel⟩
theorem ok_is_index {f : Addr} {fd : FuncData} (F : Fun K "is_index" "is_index" s_is_index f fd) (T : Bi mg)
    (h_is_number_within : Has P w K mg base 2 "is_number_within" ["value", "least", "most"] (spNumIn K)) :
    FnOk P w K mg base CX0 3 f fd ["items", "value"] (spIdx K) := by
  refine F.ok sc_is_index (fun vs H Q E h => ?_) (fun cdv A outer s H vs Q E hr h => ?_)
  · obtain ⟨t, ts, v, d, B, e, _⟩ := h
    subst e
    rfl
  obtain ⟨t, ts, v, d, B, e, ht, dv, q⟩ := h
  subst e
  refine ⟨_, (pss_one (ps_ret (pe_callH h_is_number_within hr (by decide) (by rfl) (pa_cons (pv 1) (pa_cons pe_int (pa_cons (pe_op op_sub (pe_callB (klen K) (by rfl) T.len (by decide +kernel) (pa_cons (pv 0) pa_nil)) pe_int) pa_nil)))))), ?_⟩
  exact ⟨v, rfl, .ref t, rfl, t, ts, rfl, .inr ht, _, 1, rfl, rfl, v, d, B, 0, _, rfl, dv, q⟩
abbrev s_is_push : Stmt := topS 20
abbrev N_is_push : List Str := ["tools", "value"]
theorem sc_is_push : FnScope N_is_push ["tools", "value"] (defScope s_is_push) :=
  ⟨rfl, rfl, rfl, by decide +kernel, rfl, by decide +kernel, by decide +kernel⟩
theorem ok_is_push {f : Addr} {fd : FuncData} (F : Fun K "is_push" "is_push" s_is_push f fd) (T : Bi mg)
    (h_is_pair : Has P w K mg base 2 "is_pair" ["value"] (spPair K))
    (h_is_turn : Has P w K mg base 3 "is_turn" ["value"] (spTurn K))
    (h_is_index : Has P w K mg base 3 "is_index" ["items", "value"] (spIdx K)) :
    FnOk P w K mg base CX0 4 f fd ["tools", "value"] (spIsPush K) := by
  refine F.ok sc_is_push (fun vs H Q E h => ?_) (fun cdv A outer s H vs Q E hr h => ?_)
  · obtain ⟨t, ts, v, d, B, e, _⟩ := h
    subst e
    rfl
  obtain ⟨t, ts, v, d, B, e, ht, dv, q⟩ := h
  subst e
  refine ⟨_, (pss_one (ps_ret (pe_and (pe_callH h_is_pair hr (by decide) (by rfl) (pa_cons (pv 1) pa_nil)) (pe_and (pe_callH h_is_turn hr (by decide) (by rfl) (pa_cons (pe_ix (kixT K) (pv 1) pe_int (fun _ _ => rfl)) pa_nil)) (pe_one (pe_callH h_is_index hr (by decide) (by rfl) (pa_cons (pv 0) (pa_cons (pe_ix (kixT K) (pv 1) pe_int (fun _ _ => rfl)) pa_nil)))))))), ?_⟩
  refine ⟨v, rfl, v, d, B, rfl, dv, _, rfl, ?_⟩
  refine ite2 (fun h1 => ?_) (fun h1 => ?_)
  · obtain ⟨p, xs, ds, e1, e2, hp, hd⟩ := dv_tup dv (by cases d <;> first | rfl | cases h1)
    subst e1
    subst e2
    have len := hd.len
    have l2 : ds.length = 2 := by
      have h1 : (decide (2 ≤ ((ds.length : Nat) : Int)) && decide (((ds.length : Nat) : Int) ≤ 2)) = true := h1
      rw [Bool.and_eq_true] at h1
      have := of_decide_eq_true h1.1
      have := of_decide_eq_true h1.2
      omega
    obtain ⟨d0, d1, e⟩ : ∃ d0 d1, ds = [d0, d1] := by
      match ds, l2 with
      | [d0, d1], _ => exact ⟨d0, d1, rfl⟩
    subst e
    obtain ⟨x0, x1, e⟩ : ∃ x0 x1, xs = [x0, x1] := by
      match xs, len with
      | [x0, x1], _ => exact ⟨x0, x1, rfl⟩
    subst e
    cases hd with
    | cons v0 r =>
      cases r with
      | cons v1 r =>
        have q : Q (.bl (inB (-(10 ^ 30 - 1)) (10 ^ 30 - 1) d0 && inB 0 ((ts.length : Nat) - 1) d1)) H := q
        refine ⟨.ref p, rfl, p, _, 0, x0, rfl, rfl, hp, atI_nat (j := 0) rfl, x0, d0, B, rfl, v0, _, rfl, ?_⟩
        refine ite2 (fun h2 => ?_) (fun h2 => ?_)
        · rw [h2, Bool.true_and] at q
          exact ⟨.ref t, rfl, .ref p, rfl, p, _, 1, x1, rfl, rfl, hp, atI_nat (j := 1) rfl, t, ts, x1, d1, B, rfl, ht, v1, q⟩
        · rw [Bool.eq_false_iff.mpr h2, Bool.false_and] at q
          exact q
  · have e : pushOk (ts.length : Nat) d = tupIn 2 2 d := by
      rw [Bool.eq_false_iff.mpr h1]
      unfold pushOk
      split
      · exact absurd rfl h1
      · rfl
    rw [e] at q
    rw [Bool.eq_false_iff.mpr h1] at q
    exact q
abbrev s__law_is_push : Stmt := topS 31
abbrev N__law_is_push : List Str := ["_law_many", "_law_value"]
theorem sc__law_is_push : FnScope N__law_is_push ["_law_many", "_law_value"] (defScope s__law_is_push) :=
  ⟨rfl, rfl, rfl, by decide +kernel, rfl, by decide +kernel, by decide +kernel⟩
theorem ok__law_is_push {f : Addr} {fd : FuncData} (F : Fun K "_law_is_push" "_law_is_push" s__law_is_push f fd) (T : Bi mg)
    (h__law_is_number : Has P w K mg base 1 "_law_is_number" ["_law_value", "_law_low", "_law_high"] (spNumIn K)) :
    FnOk P w K mg base CX0 2 f fd ["_law_many", "_law_value"] (spLPush K) := by
  refine F.ok sc__law_is_push (fun vs H Q E h => ?_) (fun cdv A outer s H vs Q E hr h => ?_)
  · obtain ⟨n, v, d, B, e, _⟩ := h
    subst e
    rfl
  obtain ⟨n, v, d, B, e, dv, q⟩ := h
  subst e
  refine ⟨_, (pss_cons (ps_if (PW.pt (pw_or (pt_not (pt_val (pe_callB (kisi K) (by rfl) T.isinstance (by decide +kernel) (pa_cons (pv 1) (pa_cons (pe_bltn (v := .ty "tuple") (by rfl) T.tuple rfl rfl) pa_nil))))) (pw_or (pt_cmpR op_ne (pe_callB (klen K) (by rfl) T.len (by decide +kernel) (pa_cons (pv 1) pa_nil)) pe_int (nomark _)) (pw_or1 (pt_not (pt_val (pe_callH h__law_is_number hr (by decide) (by rfl) (pa_cons (pe_ix (kixT K) (pv 1) pe_int (fun _ _ => rfl)) (pa_cons pe_int (pa_cons (pe_op op_sub (pv 0) pe_int) pa_nil))))))))))
  (pss_one (ps_ret pe_bl))
  pss_nil)
  (pss_one (ps_ret (pe_callH h__law_is_number hr (by decide) (by rfl) (pa_cons (pe_ix (kixT K) (pv 1) pe_int (fun _ _ => rfl)) (pa_cons (pe_op op_sub pe_int (pe_op op_pow pe_int pe_int)) (pa_cons (pe_op op_sub (pe_op op_pow pe_int pe_int) pe_int) pa_nil))))))), ?_⟩
  have off : pushOk n d = false → (tRet (tC (.bl false))) { nx := fun _ H' => Q .non H', rt := Q } (L2.start N__law_is_push [V.int n, v]) H := fun z => by
    rw [z] at q
    exact q
  refine ⟨v, rfl, v, .ty "tuple", _, _, isT d, rfl, .ty _, dv.ty, kit_tuple, _, rfl, ?_⟩
  cases hT : isT d with
  | false => exact iteT (iteT (off (by cases d <;> first | rfl | (cases hT; done))))
  | true =>
    obtain ⟨p, xs, ds, e1, e2, hp, hd⟩ := dv_tup dv hT
    subst e1
    subst e2
    have len := hd.len
    refine iteF ⟨.ref p, rfl, p, xs, rfl, .inr hp, rfl, _, rfl, ?_⟩
    by_cases l2 : ds.length = 2
    · rw [decide_eq_true (by rw [len, l2]; rfl)]
      obtain ⟨d0, d1, e⟩ : ∃ d0 d1, ds = [d0, d1] := by
        match ds, l2 with
        | [d0, d1], _ => exact ⟨d0, d1, rfl⟩
      subst e
      obtain ⟨x0, x1, e⟩ : ∃ x0 x1, xs = [x0, x1] := by
        match xs, len with
        | [x0, x1], _ => exact ⟨x0, x1, rfl⟩
      subst e
      cases hd with
      | cons v0 r =>
        cases r with
        | cons v1 r =>
          have q : Q (.bl (inB (-(10 ^ 30 - 1)) (10 ^ 30 - 1) d0 && inB 0 (n - 1) d1)) H := q
          refine iteF ⟨.ref p, rfl, p, _, 1, x1, rfl, rfl, hp, atI_nat (j := 1) rfl, .int n, rfl, n, 1, rfl, rfl, x1, d1, B, 0, _, rfl, v1, _, rfl, ?_⟩
          cases h1 : inB 0 (n - 1) d1 with
          | false => 
            rw [h1, Bool.and_false] at q
            exact iteT q
          | true =>
            rw [h1, Bool.and_true] at q
            refine iteF ⟨.ref p, rfl, p, _, 0, x0, rfl, rfl, hp, atI_nat (j := 0) rfl, 10, 30, rfl, rfl, ⟨by decide, by decide, by decide⟩, 1, _, rfl, rfl, 10, 30, rfl, rfl, ⟨by decide, by decide, by decide⟩, _, 1, rfl, rfl, x0, d0, B, _, _, rfl, v0, ?_⟩
            exact q
    · rw [decide_eq_false (fun e => l2 (by have := V.int.inj e; omega))]
      exact iteT (iteT (off (by
        match ds, l2 with
        | [], _ => rfl
        | [d0], _ => rfl
        | [d0, d1], l2 => exact absurd rfl l2
        | d0 :: d1 :: d2 :: r, _ => rfl)))
def clsBody : Stmt → List Stmt
  | .ClassDef (body := b) .. => b
  | _ => []
abbrev s_BadPlan : Stmt := (clsBody (topS 11)).getD 0 (.Pass ⟨0, 0, 0, 0⟩)
theorem sc_BadPlan : FnScope ["self", "index"] ["self", "index"] (defScope s_BadPlan) :=
  ⟨rfl, rfl, rfl, by decide +kernel, rfl, by decide +kernel, by decide +kernel⟩
theorem ok_BadPlan {f : Addr} {fd : FuncData} (F : Fun K "__init__" "BadPlan.__init__" s_BadPlan f fd) : FnOk P w K mg base CX0 1 f fd ["self", "index"] (spInit K "index") := by
  refine F.ok sc_BadPlan (fun vs H Q E h => ?_) (fun cdv A outer s H vs Q E hr h => ?_)
  · obtain ⟨a, C, v, e, _⟩ := h
    subst e
    rfl
  obtain ⟨a, C, v, e, ox, no, ha, q⟩ := h
  subst e
  refine ⟨_, (pss_one (ps_ost (pv 0) (pv 1))), ?_⟩
  exact ⟨v, rfl, .ref a, rfl, a, C, rfl, ox, no, .inl ⟨ha, fun dx nd ne => q dx nd ne⟩⟩
abbrev s_check_plan : Stmt := topS 19
abbrev N_check_plan : List Str := ["tools", "value", "index", "item"]
theorem sc_check_plan : FnScope N_check_plan ["tools", "value"] (defScope s_check_plan) :=
  ⟨rfl, rfl, rfl, by decide +kernel, rfl, by decide +kernel, by decide +kernel⟩
theorem ok_check_plan {f : Addr} {fd : FuncData} (F : Fun K "check_plan" "check_plan" s_check_plan f fd) (T : Bi mg)
    (hMP : ∃ t, mg "MAX_PLAN" = some (.int 100 t))
    {CP : Addr} (E_BadPlan : ErrC P w K mg base "BadPlan" "index" CP)
    (h_is_tuple_within : Has P w K mg base 1 "is_tuple_within" ["value", "least", "most"] (spTupIn K))
    (h_is_push : Has P w K mg base 4 "is_push" ["tools", "value"] (spIsPush K)) :
    FnOk P w K mg base (L2.CX P w) 5 f fd ["tools", "value"] (spCheck K CP) := by
  refine F.okX sc_check_plan (fun vs H Q E h => ?_) (fun cdv A outer s H vs Q E hr h => ?_)
  · obtain ⟨t, ts, v, d, B, e, _⟩ := h
    subst e
    rfl
  obtain ⟨t, ts, v, d, B, e, ht, dv, q, qE⟩ := h
  subst e
  refine ⟨_, (pss_cons (ps_if (pt_not (pt_val (pe_callH h_is_tuple_within hr (by decide) (by rfl) (pa_cons (pv 1) (pa_cons pe_int (pa_cons (pe_glob (v := .int 100) (by rfl) hMP.choose_spec ⟨_, rfl⟩) pa_nil))))))
  (pss_one (ps_raise rfl (takes_of rfl rfl rfl rfl) (pmk_err E_BadPlan hr (by decide) (by rfl) (pa_cons pe_non pa_nil))))
  pss_nil)
  (pss_one (ps_for (passes_of rfl) rfl (pi_enT (by rfl) T.enumerate (pa_cons (pv 1) pa_nil)) (kgtup K 2 rfl (pgs_cons (pg_name (i := 2) sc_check_plan.nd rfl (.inl rfl)) (pgs_cons (pg_name (i := 3) sc_check_plan.nd rfl (.inl rfl)) pgs_nil)))
  (pss_one (ps_if (pt_not (pt_val (pe_callH h_is_push hr (by decide) (by rfl) (pa_cons (pv 0) (pa_cons (pv 3) pa_nil)))))
  (pss_one (ps_raise rfl (takes_of rfl rfl rfl rfl) (pmk_err E_BadPlan hr (by decide) (by rfl) (pa_cons (pv 2) pa_nil))))
  pss_nil))))), ?_⟩
  refine ⟨v, rfl, v, d, B, 0, 100, rfl, dv, _, rfl, ?_⟩
  cases hti : tupIn 0 100 d with
  | false =>
    have pe : planErr (ts.length : Nat) d = some .none := by
      unfold planErr
      split
      · rename_i ds
        have hti : (decide ((0 : Int) ≤ (ds.length : Nat)) && decide (((ds.length : Nat) : Int) ≤ 100)) = false := hti
        rw [decide_eq_true (p := (0 : Int) ≤ (ds.length : Nat)) (by omega), Bool.true_and] at hti
        have := of_decide_eq_false hti
        rw [if_neg (by omega)]
      · rfl
    exact iteT (mk_bad E_BadPlan.ox E_BadPlan.no fun dd H' s nd h => qE _ pe dd H' s nd h)
  | true =>
    obtain ⟨p, xs, ds, e1, e2, hp, hd⟩ := dv_tup dv (by cases d <;> first | rfl | (cases hti; done))
    subst e1
    subst e2
    have len := hd.len
    have l100 : ds.length ≤ 100 := by
      have hti : (decide ((0 : Int) ≤ (ds.length : Nat)) && decide (((ds.length : Nat) : Int) ≤ 100)) = true := hti
      rw [Bool.and_eq_true] at hti
      have := of_decide_eq_true hti.2
      omega
    have pe : planErr (ts.length : Nat) (.tuple ds) = firstBad (ts.length : Nat) 0 ds := if_pos l100
    rw [pe] at q qE
    refine iteF ⟨.ref p, rfl, p, xs, rfl, hp, ?_⟩
    refine for_enT (K := K) (a := p) (xs := xs) (fun i σ' H' => ∃ (y2 y3 : Option V), σ' = [some (.ref t), some (.ref p), y2, y3] ∧ Same H H' ∧ firstBad (ts.length : Nat) 0 ds = firstBad (ts.length : Nat) i (ds.drop i)) ?_ ?_ ?_ ?_
    · exact ⟨_, _, rfl, Same.refl _, rfl⟩
    · intro i σ' H' _ h
      obtain ⟨y2, y3, e, s', _⟩ := h
      exact same_tup s' hp
    · intro i x T0 σ' H1 hx h nT
      obtain ⟨y2, y3, e, s1, run⟩ := h
      subst e
      have hi : i < ds.length := by
        have := (List.getElem?_eq_some_iff.mp hx).1
        omega
      have ei : ds[i]? = some ds[i] := List.getElem?_eq_getElem hi
      have dr : ds.drop i = ds[i] :: ds.drop (i + 1) := List.drop_eq_getElem_cons hi
      rw [dr] at run
      have sT := same_upd (o := .tup [.int ((i : Nat) : Int), x]) nT
      have s2 := s1.trans sT
      obtain ⟨dx, e3, dvx⟩ := hd.get hx
      rw [ei] at e3
      cases e3
      refine ⟨T0, _, rfl, SqT.of upd_same, rfl, _, _, rfl, _, _, rfl, rfl, ?_⟩
      refine ⟨.ref t, rfl, x, rfl, t, ts, x, ds[i], B, rfl, same_tup s2 ht, dvx.same s2, _, rfl, ?_⟩
      rw [fb_cons] at run
      cases hpk : pushOk (ts.length : Nat) ds[i] with
      | true =>
        rw [if_pos hpk] at run
        exact iteF ⟨_, _, rfl, s2, run⟩
      | false =>
        rw [if_neg (by rw [hpk]; exact Bool.false_ne_true)] at run
        exact iteT ⟨.int ((i : Nat) : Int), rfl, mk_bad E_BadPlan.ox E_BadPlan.no fun dd H' s nd h => qE _ run dd H' (s2.trans s) (s2.free nd) h⟩
    · intro σ' H' h
      obtain ⟨y2, y3, e, s', run⟩ := h
      rw [List.drop_of_length_le (by omega)] at run
      exact q run H' s'
abbrev s_after_plan : Stmt := topS 18
abbrev N_after_plan : List Str := ["m", "tools", "plan", "places", "reached", "turn", "index"]
theorem sc_after_plan : FnScope N_after_plan ["m", "tools", "plan", "places"] (defScope s_after_plan) :=
  ⟨rfl, rfl, rfl, by decide +kernel, rfl, by decide +kernel, by decide +kernel⟩
theorem ok_after_plan {f : Addr} {fd : FuncData} (F : Fun K "after_plan" "after_plan" s_after_plan f fd) (T : Bi mg)
    {CP : Addr} (E_BadPlan : ErrC P w K mg base "BadPlan" "index" CP)
    (h_check_plan : HasX P w K mg base 5 "check_plan" ["tools", "value"] (spCheck K CP))
    (h_push_places : Has P w K mg base 3 "push_places" ["m", "tool", "turn", "places"] (spPushes K)) :
    FnOk P w K mg base (L2.CX P w) 6 f fd ["m", "tools", "plan", "places"] (spAfter K CP) := by
  refine F.okX sc_after_plan (fun vs H Q E h => ?_) (fun cdv A outer s H vs Q E hr h => ?_)
  · obtain ⟨m, t, tls, v, d, B, pl, ps, e, _⟩ := h
    subst e
    rfl
  obtain ⟨m, t, tls, v, d, B, pl, ps, e, pre, q, qE⟩ := h
  subst e
  refine ⟨_, (pss_cons (ps_expr (pe_callHX h_check_plan hr (by decide) (takes_of rfl rfl rfl rfl) (by rfl) (pa_cons (pv 1) (pa_cons (pv 2) pa_nil))))
  (pss_cons (ps_set (i := 4) sc_after_plan.nd rfl (.inl rfl) (pv 3))
  (pss_cons (ps_for (passes_of rfl) rfl (kitup K (pv 2)) (kgtup K 2 rfl (pgs_cons (pg_name (i := 5) sc_after_plan.nd rfl (.inl rfl)) (pgs_cons (pg_name (i := 6) sc_after_plan.nd rfl (.inl rfl)) pgs_nil)))
  (pss_one (ps_set (i := 4) sc_after_plan.nd rfl (.inl rfl) (pe_callH h_push_places hr (by decide) (by rfl) (pa_cons (pv 0) (pa_cons (pe_ix (kixT K) (pv 1) (pv 6) (fun _ _ => rfl)) (pa_cons (pv 5) (pa_cons (pv 4) pa_nil))))))))
  (pss_one (ps_ret (pv 4)))))), ?_⟩
  obtain ⟨ts, hts, tsl⟩ := tools_len pre.ta (K := K)
  rw [← tsl] at q qE
  refine ⟨.ref t, rfl, v, rfl, t, ts, v, d, B, rfl, hts, pre.dv, fun hn H1 s1 => ?_, fun iv hiv dd H1 s1 n1 h1 => qE iv hiv dd H1 s1 n1 h1⟩
  obtain ⟨ed, ql, qr⟩ := plan_ok hn
  have dv := pre.dv
  rw [ed] at dv
  obtain ⟨p, zs, es, e1, e2, hp, hd⟩ := dv_tup dv rfl
  subst e1
  have e2 : (qsOf d).map pairD = es := by injection e2
  subst e2
  have zl := hd.len
  rw [List.length_map] at zl
  have m0 := pre.hm1
  have m60 := pre.hm2
  refine ⟨.ref pl, rfl, .ref p, rfl, p, rfl, ⟨_, same_tup s1 hp⟩, ?_⟩
  refine for_tup (K := K) (a := p) (xs := zs) (fun i σ' H' => ∃ (r : Addr) (y5 y6 : Option V), σ' = [some (.int m), some (.ref t), some (.ref p), some (.ref pl), some (.ref r), y5, y6] ∧ Same H H' ∧ SqT K H' r ((planF m tls ps ((qsOf d).take i)).map V.int)) ?_ ?_ ?_ ?_
  · exact ⟨pl, _, _, rfl, s1, same_tup s1 pre.hp⟩
  · intro i σ' H' _ h
    obtain ⟨r, y5, y6, e, s', _⟩ := h
    exact same_tup s' hp
  · intro i x σ' H2 hx h
    obtain ⟨r, y5, y6, e, s2, hr2⟩ := h
    subst e
    have hi : i < (qsOf d).length := by
      have := (List.getElem?_eq_some_iff.mp hx).1
      omega
    have eq : (qsOf d)[i]? = some (qsOf d)[i] := List.getElem?_eq_getElem hi
    obtain ⟨rr, er, hrr⟩ := pre_get (n := (qsOf d).length) (hd.same s2) (by rw [← List.length_map (f := pairD), List.take_length]) eq
    rw [hx] at er
    cases er
    have qi := qr _ (List.getElem_mem hi)
    rw [tsl] at qi
    obtain ⟨xs', pp, hx', ha', tool, mem⟩ := tools_get (pre.ta.stay (.of_same s2)) qi.1 qi.2 (K := K)
    have it := pre.its _ mem
    have nn : tls.getD (qsOf d)[i].2.toNat [] ≠ [] := fun z => by
      have := it.len1
      rw [z, List.length_nil] at this
      omega
    have rg := planF_rng (m := m) (tls := tls) ((qsOf d).take i) pre.asc pre.rng
    have le := sorted_le rg.1 rg.2
    refine ⟨rr, _, rfl, hrr, rfl, _, _, rfl, _, _, rfl, rfl, ?_⟩
    refine ⟨.int m, rfl, .ref t, rfl, .int (qsOf d)[i].2, rfl, t, xs', _, _, rfl, rfl, hx', ha', .int (qsOf d)[i].1, rfl, .ref r, rfl, m, _, pp, r, _, _, rfl, by omega, tool, nn, hr2, by omega, fun out p2 H3 asc mem s3 np hp2 => ?_⟩
    refine ⟨p2, _, _, rfl, s2.trans s3, ?_⟩
    rw [planF_succ eq, ← pf_is it asc mem]
    exact SqT.of hp2
  · intro σ' H' h
    obtain ⟨r, y5, y6, e, s', hr'⟩ := h
    subst e
    rw [List.take_of_length_le (by omega)] at hr'
    exact ⟨.ref r, rfl, q hn r H' s' hr'⟩

end

section
open Classical
variable {P : Program} {w : World} {K : PySem.W.Frag} {mg : Str → Option Value} {base : Heap}
abbrev s__law_due : Stmt := topS 32
abbrev N__law_due : List Str := ["_law_m", "_law_tools_here", "_law_plan", "_law_places_here", "_law_bad", "_law_turn", "_law_index", "_law_k", "_law_push", "_law_place"]
theorem sc__law_due : FnScope N__law_due ["_law_m", "_law_tools_here", "_law_plan", "_law_places_here"] (defScope s__law_due) :=
  ⟨rfl, rfl, rfl, by decide +kernel, rfl, by decide +kernel, by decide +kernel⟩
theorem ok__law_due {f : Addr} {fd : FuncData} (F : Fun K "_law_due" "_law_due" s__law_due f fd) (T : Bi mg)
    (h__law_is_push : Has P w K mg base 2 "_law_is_push" ["_law_many", "_law_value"] (spLPush K))
    (h__law_target : Has P w K mg base 1 "_law_target" ["_law_m", "_law_tool_here", "_law_place"] spLTarget) :
    FnOk P w K mg base CX0 3 f fd ["_law_m", "_law_tools_here", "_law_plan", "_law_places_here"] (spDueP K) := by
  refine F.ok sc__law_due (fun vs H Q E h => ?_) (fun cdv A outer s H vs Q E hr h => ?_)
  · obtain ⟨m, t, tls, v, d, B, pl, ps, B0, e, _⟩ := h
    subst e
    rfl
  obtain ⟨m, t, tls, v, d, B, pl, ps, B0, e, pre, st, q⟩ := h
  subst e
  refine ⟨_, (pss_cons (ps_if (PW.pt (pw_or (pt_not (pt_val (pe_callB (kisi K) (by rfl) T.isinstance (by decide +kernel) (pa_cons (pv 2) (pa_cons (pe_bltn (v := .ty "tuple") (by rfl) T.tuple rfl rfl) pa_nil))))) (pw_or1 (pt_cmpR op_gt (pe_callB (klen K) (by rfl) T.len (by decide +kernel) (pa_cons (pv 2) pa_nil)) pe_int (nomark _)))))
  (pss_one (ps_ret (pe_lst (pa_cons pe_str (pa_cons pe_non pa_nil)))))
  pss_nil)
  (pss_cons (ps_setLc (i := 4) (own := [("_law_k", 7), ("_law_push", 8)]) rfl sc__law_due.nd rfl rfl (sw_true rfl rfl rfl (by decide +kernel)) (pi_enT (by rfl) T.enumerate (pa_cons (pv 2) pa_nil)) (blkOk_by (own := [("_law_k", 7), ("_law_push", 8)]) (N := N__law_due) (sc := defScope s__law_due) (by decide +kernel))
    (fun _ _ _ _ _ => (kgtup K 2 rfl (pgs_cons (pg_name (i := 7) sc__law_due.nd rfl (.inl rfl)) (pgs_cons (pg_name (i := 8) sc__law_due.nd rfl (.inl rfl)) pgs_nil)))) (fun _ _ _ _ _ => (pts_one (pt_not (pt_val (pe_callH h__law_is_push hr (by decide) (by rfl) (pa_cons (pe_callB (klen K) (by rfl) T.len (by decide +kernel) (pa_cons (pv 1) pa_nil)) (pa_cons (pv 8) pa_nil)))))))
    (fun _ _ _ _ _ => (pv 7)))
  (pss_cons (ps_if (pt_cmpR (kneNil K hr.units) (pv 4) (pe_lst pa_nil) (nomark _))
  (pss_one (ps_ret (pe_lst (pa_cons pe_str (pa_cons (pe_ix (kixL K) (pv 4) pe_int (fun _ _ => rfl)) pa_nil)))))
  pss_nil)
  (pss_cons (ps_for PassesOwn.never rfl (kitup K (pv 2)) (kgtup K 2 rfl (pgs_cons (pg_name (i := 5) sc__law_due.nd rfl (.inr rfl)) (pgs_cons (pg_name (i := 6) sc__law_due.nd rfl (.inr rfl)) pgs_nil)))
  (pss_one (ps_set (i := 3) sc__law_due.nd rfl (.inl rfl) (pe_callTy call_tuple_of (by rfl) T.tuple (by decide +kernel) (pa_cons (pe_callB (ksortS w rfl) (by rfl) T.sorted (by decide +kernel) (pa_cons (pe_callTy (ksetL K w rfl) (by rfl) T.set (by decide +kernel) (pa_cons (pe_lc (own := [("_law_place", 9)]) rfl sc__law_due.nd (kitup K (pv 3)) (blkOk_by (own := [("_law_place", 9)]) (N := N__law_due) (sc := defScope s__law_due) (by decide +kernel))
    (fun _ _ _ _ _ => (pg_name (i := 9) sc__law_due.nd rfl (.inl rfl))) (fun _ _ _ _ _ => pts_nil)
    (fun _ _ _ _ _ => (pe_callH h__law_target hr (by decide) (by rfl) (pa_cons (pv 0) (pa_cons (pe_ix (kixT K) (pv 1) (pv 6) (fun _ _ => rfl)) (pa_cons (pe_op op_mod (pe_op op_add (pv 9) (pv 5)) (pv 0)) pa_nil)))))) pa_nil)) pa_nil)) pa_nil)))))
  (pss_one (ps_ret (pv 3))))))), ?_⟩
  have dv := pre.dv
  have m0 := pre.hm1
  have m60 := pre.hm2
  have bad : ∀ (iv : PyData) (H1 : Hp), planErr (tls.length : Nat) d = some iv → Same H H1 → ∀ (p : Addr), H1 p = none → ∀ x, Dv K H1 B0 x iv → Q (.ref p) (upd H1 p (.lst [.str "bad", x])) := by
    intro iv H1 pe s1 p np x hx
    have s2 := same_upd (o := .lst [.str "bad", x]) np
    refine q _ _ (s1.trans s2) ?_
    have er : resD m tls ps d = .list [.str "bad", iv] := by
      unfold resD
      rw [pe]
    rw [er]
    exact .lst upd_same ((st.same s1).new np) (.cons (.str _) (.cons (hx.same s2) .nil))
  refine ⟨v, rfl, v, .ty "tuple", _, _, isT d, rfl, .ty _, dv.ty, kit_tuple, _, rfl, ?_⟩
  cases hT : isT d with
  | false =>
    have pe : planErr (tls.length : Nat) d = some .none := by cases d <;> first | rfl | (cases hT; done)
    exact iteT (iteT ⟨by show 2 ≤ sizeLine; decide, fun p np => bad _ _ pe (Same.refl _) p np _ .non⟩)
  | true =>
    obtain ⟨p, xs, ds, e1, e2, hp, hd⟩ := dv_tup dv hT
    subst e1
    subst e2
    have len := hd.len
    refine iteF ⟨.ref p, rfl, p, xs, rfl, .inr hp, _, _, rfl, rfl, _, rfl, ?_⟩
    by_cases l100 : 100 < ds.length
    · have pe : planErr (tls.length : Nat) (.tuple ds) = some .none := if_neg (by omega)
      rw [decide_eq_true (by rw [len]; omega)]
      exact iteT ⟨by show 2 ≤ sizeLine; decide, fun p np => bad _ _ pe (Same.refl _) p np _ .non⟩
    have pe : planErr (tls.length : Nat) (.tuple ds) = firstBad (tls.length : Nat) 0 ds := if_pos (by omega)
    rw [decide_eq_false (by rw [len]; omega)]
    refine iteF ⟨.ref p, rfl, p, xs, rfl, hp, fun D nD => ?_⟩
    obtain ⟨ts, hts, tsl⟩ := tools_len pre.ta (K := K)
    refine lc_enT (K := K) (a := p) (xs := xs) (fun i H' => Same H H' ∧ H' D = some (.lst ((badOf (tls.length : Nat) 0 (ds.take i)).map V.int))) ?_ ?_ ?_ ?_
    · exact ⟨same_upd nD, upd_same⟩
    · intro i H' _ h
      exact same_tup h.1 hp
    · intro i x T0 H1 hx h nT
      obtain ⟨s1, hD1⟩ := h
      have hi : i < ds.length := by
        have := (List.getElem?_eq_some_iff.mp hx).1
        omega
      have ei : ds[i]? = some ds[i] := List.getElem?_eq_getElem hi
      have sT := same_upd (o := .tup [.int ((i : Nat) : Int), x]) nT
      have s2 := s1.trans sT
      have hD2 := sT _ _ hD1
      obtain ⟨dx, e3, dvx⟩ := hd.get hx
      rw [ei] at e3
      cases e3
      have ee : badOf (tls.length : Nat) 0 (ds.take (i + 1)) = badOf (tls.length : Nat) 0 (ds.take i) ++ (if pushOk (tls.length : Nat) ds[i] = true then [] else [((i : Nat) : Int)]) := by
        rw [List.take_add_one, ei]
        show badOf _ 0 (ds.take i ++ [ds[i]]) = _
        rw [bad_snoc, List.length_take, Nat.min_eq_left (by omega), Nat.zero_add]
      refine ⟨T0, _, rfl, SqT.of upd_same, rfl, _, _, rfl, _, _, rfl, rfl, rfl, ?_⟩
      refine ⟨.ref t, rfl, t, ts, rfl, .inr (same_tup s2 hts), x, rfl, _, x, ds[i], B, congrArg (fun z => [V.int z, x]) (by rw [tsl]), dvx.same s2, _, rfl, ?_⟩
      cases hpk : pushOk (tls.length : Nat) ds[i] with
      | true =>
        rw [if_pos hpk, List.append_nil] at ee
        refine iteF ⟨s2, ?_⟩
        rw [ee]
        exact hD2
      | false =>
        rw [if_neg (by rw [hpk]; exact Bool.false_ne_true)] at ee
        refine iteT ⟨.int ((i : Nat) : Int), rfl, _, hD2, ?_, ?_, ?_⟩
        · rw [List.length_map]
          have := bad_len (n := (tls.length : Nat)) (ds.take i) 0
          rw [List.length_take] at this
          exact small1000 (by omega)
        · intro b o e
          rw [upd_ne (ne_of_none e nD)]
          exact s2 _ _ e
        · rw [upd_same, ee, List.map_append]
          rfl
    intro H1 h
    obtain ⟨s1, hD1⟩ := h
    rw [List.take_of_length_le (by omega)] at hD1
    rw [bad_first] at pe
    refine ⟨.ref D, rfl, by show 0 ≤ sizeLine; decide, fun L nL => ?_⟩
    have sL := same_upd (o := .lst []) nL
    have s2 := s1.trans sL
    refine ⟨D, L, _, rfl, rfl, SqL.of (sL _ _ hD1), SqL.of upd_same, _, rfl, ?_⟩
    have hD2 := sL _ _ hD1
    generalize upd H1 L (.lst []) = H2 at sL s2 hD2 ⊢
    cases hb : badOf (tls.length : Nat) 0 ds with
    | cons j r =>
      rw [hb] at pe hD2
      exact iteT ⟨.ref D, rfl, D, _, 0, .int j, rfl, rfl, SqL.of hD2, atI_nat (j := 0) rfl, by show 2 ≤ sizeLine; decide, fun p np => bad _ _ pe s2 p np _ (.int j)⟩
    | nil =>
      rw [hb] at pe
      refine iteF ?_
      obtain ⟨ed, ql, qr⟩ := plan_ok pe
      have ed : ds = (qsOf (.tuple ds)).map pairD := by injection ed
      have hd' := hd
      rw [ed] at hd'
      have zl : xs.length = (qsOf (.tuple ds)).length := by
        rw [hd'.len, List.length_map]
      refine ⟨.ref p, rfl, p, rfl, ⟨_, same_tup s2 hp⟩, ?_⟩
      refine for_tup (K := K) (a := p) (xs := xs) (fun i σ' H' => ∃ (r : Addr) (y5 y6 : Option V), σ' = [some (.int m), some (.ref t), some (.ref p), some (.ref r), some (.ref D), y5, y6, none, none, none] ∧ Same H H' ∧ SqT K H' r ((planF m tls ps ((qsOf (.tuple ds)).take i)).map V.int)) ?_ ?_ ?_ ?_
      · exact ⟨pl, _, _, rfl, s2, same_tup s2 pre.hp⟩
      · intro i σ' H' _ h
        obtain ⟨r, y5, y6, e, s', _⟩ := h
        exact same_tup s' hp
      · intro i x σ' H3 hx h
        obtain ⟨r, y5, y6, e, s3, hr3⟩ := h
        subst e
        have hi : i < (qsOf (.tuple ds)).length := by
          have := (List.getElem?_eq_some_iff.mp hx).1
          omega
        have eq : (qsOf (.tuple ds))[i]? = some (qsOf (.tuple ds))[i] := List.getElem?_eq_getElem hi
        obtain ⟨rr, er, hrr⟩ := pre_get (n := (qsOf (.tuple ds)).length) (hd'.same s3) (by rw [← List.length_map (f := pairD), List.take_length]) eq
        rw [hx] at er
        cases er
        have qi := qr _ (List.getElem_mem hi)
        obtain ⟨xs', pp, hx', ha', tool, mem⟩ := tools_get (pre.ta.stay (.of_same s3)) qi.1 qi.2 (K := K)
        have it := pre.its _ mem
        have rg := planF_rng (m := m) (tls := tls) ((qsOf (.tuple ds)).take i) pre.asc pre.rng
        have le := sorted_le rg.1 rg.2
        have es := planF_succ (m := m) (tls := tls) (ps := ps) eq
        generalize (qsOf (.tuple ds))[i] = qq at hrr qi ha' tool mem it es
        generalize planF m tls ps ((qsOf (.tuple ds)).take i) = cur at hr3 rg le es
        refine ⟨rr, _, rfl, hrr, rfl, _, _, rfl, _, _, rfl, rfl, ?_⟩
        refine ⟨.ref r, rfl, r, rfl, ⟨_, hr3⟩, fun D2 nD2 => ?_⟩
        refine lcT (xs := cur.map V.int) (fun _ => true) (fun k => V.int (tgt (tls.getD qq.2.toNat []) ((cur.getD k 0 + qq.1) % m))) (by rw [List.length_map]; omega) nD2 hr3 (fun v => rfl) (fun k z H Q hk hs q => q H (Same.refl _)) ?_ ?_
        · intro k z H4 Q4 hk _ hs q4
          obtain ⟨e, _, _⟩ := int_item hk
          subst e
          refine ⟨.int m, rfl, .ref t, rfl, .int qq.2, rfl, t, xs', _, _, rfl, rfl, same_tup hs hx', ha', .int (cur.getD k 0), rfl, .int qq.1, rfl, _, qq.1, rfl, rfl, .int m, rfl, _, m, rfl, rfl, (by omega : 0 < m), m, pp, _, _, rfl, tool.stay (.of_same hs), it, Int.emod_nonneg _ (by omega), Int.emod_lt_of_pos _ (by omega), fun H' s' => q4 H' s'⟩
        · intro H4 s4 hD4
          rw [ffalse, List.length_map, range_getD (fun z => V.int (tgt (tls.getD qq.2.toNat []) ((z + qq.1) % m)))] at hD4
          have hD4 : H4 D2 = some (.lst ((cur.map fun z => tgt (tls.getD qq.2.toNat []) ((z + qq.1) % m)).map V.int)) := by
            rw [hD4, List.map_map]
            rfl
          refine ⟨D2, _, rfl, SqL.of hD4, by rw [List.length_map]; omega, fun Z cc nZ hcc => ?_⟩
          rw [List.length_map] at hcc
          refine ⟨Z, _, cc, rfl, upd_same, by omega, fun out L2 srt mem2 len nL2 => ?_⟩
          refine ⟨L2, _, rfl, .inl ⟨SqL.of upd_same, fun U nU => ?_⟩⟩
          refine ⟨U, _, _, rfl, s3.trans (((s4.trans (same_upd nZ)).trans (same_upd nL2)).trans (same_upd nU)), ?_⟩
          rw [es, ← pf_is it srt fun y => by rw [mem2 y, decide_eq_true_iff, List.mem_map]]
          exact SqT.of upd_same
      · intro σ' H' h
        obtain ⟨r, y5, y6, e, s', hr'⟩ := h
        subst e
        rw [List.take_of_length_le (by omega)] at hr'
        refine ⟨.ref r, rfl, q _ _ s' ?_⟩
        have er : resD m tls ps (.tuple ds) = tupD (planF m tls ps (qsOf (.tuple ds))) := by
          unfold resD
          rw [pe]
        rw [er]
        exact .tup hr' (dvs_ints _)

end

section
open Classical
variable {P : Program} {w : World} {K : PySem.W.Frag} {mg : Str → Option Value} {base : Heap}
abbrev s__law_told : Stmt := topS 33
abbrev N__law_told : List Str := ["_law_m", "_law_tools_here", "_law_plan", "_law_places_here", "e"]
theorem sc__law_told : FnScope N__law_told ["_law_m", "_law_tools_here", "_law_plan", "_law_places_here"] (defScope s__law_told) :=
  ⟨rfl, rfl, rfl, by decide +kernel, rfl, by decide +kernel, by decide +kernel⟩
theorem ok__law_told {f : Addr} {fd : FuncData} (F : Fun K "_law_told" "_law_told" s__law_told f fd) (T : Bi mg)
    {CP : Addr} (E_BadPlan : ErrC P w K mg base "BadPlan" "index" CP)
    {S CT CU : Addr} (M_PushError : mg "PushError" = some (.ref S)) (M_BadText : mg "BadText" = some (.ref CT)) (M_BadTurn : mg "BadTurn" = some (.ref CU))
    (xs_ : PySem.W.exmOne K (.ref CP) (.ref S) = some true) (k1_ : PySem.W.kitOne K (.ref CP) (.ref CP) = some true) (k2_ : PySem.W.kitAny K (.ref CP) [.ref CT, .ref CU] = some false)
    (h_after_plan : HasX P w K mg base 6 "after_plan" ["m", "tools", "plan", "places"] (spAfter K CP)) :
    FnOk P w K mg base CX0 7 f fd ["_law_m", "_law_tools_here", "_law_plan", "_law_places_here"] (spDueP K) := by
  refine F.ok sc__law_told (fun vs H Q E h => ?_) (fun cdv A outer s H vs Q E hr h => ?_)
  · obtain ⟨m, t, tls, v, d, B, pl, ps, B0, e, _⟩ := h
    subst e
    rfl
  obtain ⟨m, t, tls, v, d, B, pl, ps, B0, e, pre, st, q⟩ := h
  subst e
  refine ⟨_, (pss_cons (ps_try_as (i := 4) rfl rfl sc__law_told.nd rfl rfl ⟨by rfl, by decide, .inl M_PushError⟩ takes0
  (fun W pn xe tk _ => (pss_one (ps_ret (pe_callHX h_after_plan hr (by decide) tk (by rfl) (pa_cons (pv 0) (pa_cons (pv 1) (pa_cons (pv 2) (pa_cons (pv 3) pa_nil))))))))
  (fun a oe cls d pn hz hf => (pss_one (ps_if (PW.pt (pw_and (pt_val (pe_callB (call_isX K hz hf) (by rfl) T.isinstance (by decide +kernel) (pa_cons (pv 4) (pa_cons (pe_glob (v := .ref CP) (by rfl) E_BadPlan.gC rfl) pa_nil)))) (pw_and1 (pt_not (pt_val (pe_callB (call_isXT K hz hf) (by rfl) T.isinstance (by decide +kernel) (pa_cons (pv 4) (pa_cons (pe_tup (pa_cons (pe_glob (v := .ref CT) (by rfl) M_BadText rfl) (pa_cons (pe_glob (v := .ref CU) (by rfl) M_BadTurn rfl) pa_nil))) pa_nil))))))))
  (pss_one (ps_ret (pe_lst (pa_cons pe_str (pa_cons (kxf K E_BadPlan.xf E_BadPlan.no hz hf (pv 4)) pa_nil)))))
  pss_nil))))
  (pss_one (ps_ret (pe_lst (pa_cons pe_str pa_nil))))), ?_⟩
  refine ⟨.int m, rfl, .ref t, rfl, v, rfl, .ref pl, rfl, m, t, tls, v, d, B, pl, ps, rfl, pre, fun hn p H1 s1 hp1 => ?_, fun iv hiv dd H1 s1 n1 h1 => ⟨true, xs_, fun _ a ha => ?_, fun z => nomatch z⟩⟩
  · refine q _ _ s1 ?_
    have er : resD m tls ps d = tupD (planF m tls ps (qsOf d)) := by
      unfold resD
      rw [hn]
    rw [er]
    exact .tup hp1 (dvs_ints _)
  · refine ⟨.ref a, rfl, CP, dd, _, .ref CP, .ref CP, true, rfl, rfl, E_BadPlan.ec, rfl, h1, .own CP, k1_, _, rfl, iteT ?_⟩
    refine ⟨.ref a, rfl, by show 2 ≤ sizeLine; decide, fun tp np => ?_⟩
    have s2 := same_upd (o := .tup [.ref CT, .ref CU]) np
    refine ⟨CP, dd, tp, _, _, _, false, rfl, rfl, E_BadPlan.ec, rfl, s2 _ _ h1, upd_same, .cons (.own _) (.cons (.own _) .nil), k2_, _, rfl, iteT ?_⟩
    refine ⟨.ref a, rfl, rfl, rfl, dd, _, idV iv, rfl, s2 _ _ h1, rfl, by show 2 ≤ sizeLine; decide, fun p3 n3 => ?_⟩
    have s3 := same_upd (o := .lst [.str "bad", idV iv]) n3
    have sA := (s1.trans s2)
    refine q _ _ (sA.trans s3) ?_
    have er : resD m tls ps d = .list [.str "bad", iv] := by
      unfold resD
      rw [hiv]
    rw [er]
    refine .lst upd_same ((st.same sA).new n3) (.cons (.str _) (.cons ?_ .nil))
    rcases plan_bad hiv with w | ⟨j, w⟩
    · rw [w]
      exact .non
    · rw [w]
      exact .int _

end

section
open Classical
variable {P : Program} {w : World} {K : PySem.W.Frag} {mg : Str → Option Value} {base : Heap}
abbrev s__law_odd_push : Stmt := topS 34
abbrev N__law_odd_push : List Str := ["_law_deck_here", "_law_many", "_law_some"]
theorem sc__law_odd_push : FnScope N__law_odd_push ["_law_deck_here", "_law_many"] (defScope s__law_odd_push) :=
  ⟨rfl, rfl, rfl, by decide +kernel, rfl, by decide +kernel, by decide +kernel⟩
theorem ok__law_odd_push {f : Addr} {fd : FuncData} (F : Fun K "_law_odd_push" "_law_odd_push" s__law_odd_push f fd) (T : Bi mg)
    (h__law_draw : Has P w K mg base 1 "_law_draw" ["_law_deck_here", "_law_limit"] spDraw) :
    FnOk P w K mg base CX0 2 f fd ["_law_deck_here", "_law_many"] (spOddP K) := by
  refine F.ok sc__law_odd_push (fun vs H Q E h => ?_) (fun cdv A outer s H vs Q E hr h => ?_)
  · obtain ⟨a, c, B, k, n, e, _⟩ := h
    subst e
    rfl
  obtain ⟨a, c, B, k, n, e, aB, cB, st, dk, hk, hn1, hn2, q⟩ := h
  subst e
  refine ⟨_, (pss_cons (ps_set (i := 2) sc__law_odd_push.nd rfl (.inl rfl) (pe_lst (pa_cons pe_non (pa_cons pe_bl (pa_cons pe_int (pa_cons pe_str (pa_cons (pe_tup pa_nil) (pa_cons (pe_tup (pa_cons pe_int pa_nil)) (pa_cons (pe_tup (pa_cons pe_int (pa_cons pe_int (pa_cons pe_int pa_nil)))) (pa_cons (pe_lst (pa_cons pe_int (pa_cons pe_int pa_nil))) (pa_cons (pe_tup (pa_cons pe_int (pa_cons (pv 1) pa_nil))) (pa_cons (pe_tup (pa_cons pe_int (pa_cons (pe_un un_neg pe_int) pa_nil))) (pa_cons (pe_tup (pa_cons pe_bl (pa_cons pe_int pa_nil))) (pa_cons (pe_tup (pa_cons pe_int (pa_cons pe_bl pa_nil))) pa_nil))))))))))))))
  (pss_cons (ps_set (i := 2) sc__law_odd_push.nd rfl (.inl rfl) (pe_op op_cat (pv 2) (pe_lst (pa_cons (pe_tup (pa_cons (pe_op op_sub (pe_op op_pow pe_int pe_int) pe_int) (pa_cons pe_int pa_nil))) (pa_cons (pe_tup (pa_cons (pe_op op_sub pe_int (pe_op op_pow pe_int pe_int)) (pa_cons pe_int pa_nil))) (pa_cons (pe_tup (pa_cons pe_non (pa_cons pe_int pa_nil))) (pa_cons (pe_tup (pa_cons pe_int (pa_cons pe_non pa_nil))) (pa_cons (pe_tup (pa_cons pe_str (pa_cons pe_int pa_nil))) (pa_cons (pe_tup (pa_cons pe_int (pa_cons pe_str pa_nil))) (pa_cons (pe_tup (pa_cons (pe_lst pa_nil) (pa_cons pe_int pa_nil))) (pa_cons (pe_tup (pa_cons pe_int (pa_cons (pe_lst pa_nil) pa_nil))) pa_nil)))))))))))
  (pss_one (ps_ret (pe_ix (kixL K) (pe_op op_cat (pv 2) (pe_lst (pa_cons pe_dnewK (pa_cons (pe_tup (pa_cons (pe_op op_pow pe_int pe_int) (pa_cons pe_int pa_nil))) (pa_cons (pe_tup (pa_cons (pe_op op_pow pe_int pe_int) (pa_cons pe_int pa_nil))) (pa_cons (pe_tup (pa_cons (pe_un un_neg (pe_op op_pow pe_int pe_int)) (pa_cons pe_int pa_nil))) pa_nil)))))) (pe_callH h__law_draw hr (by decide) (by rfl) (pa_cons (pv 0) (pa_cons pe_int pa_nil))) (fun _ _ => rfl)))))), ?_⟩
  refine seq_asg (Ya.lst (R := Val K B 20000 4) (L := 12) (H0 := H) ?_ (by decide) (Same.refl _) fun xs H1 p1 s1 l1 r1 n1 => ?_)
  · ((repeat' (first | exact ya_nil | apply ya_cons val_stable | exact v_non (by decide) | exact v_bl _ (by decide) | exact v_str (by decide +kernel) (by decide +kernel) (by decide) | exact v_dic (by decide) (by decide) | exact v_int (by first | decide | omega) (by decide) (fun H Q q => q) | exact v_int (by first | decide | omega) (by decide) (fun H Q q => ⟨_, rfl, q⟩) | exact v_int (by first | decide | omega) (by decide) (fun H Q q => ⟨_, rfl, _, _, rfl, rfl, q⟩) | exact v_int (by first | decide | omega) (by decide) (fun H Q q => ⟨_, _, rfl, rfl, ⟨by decide, by decide, by decide⟩, q⟩) | exact v_int (by first | decide | omega) (by decide) (fun H Q q => ⟨_, _, rfl, rfl, ⟨by decide, by decide, by decide⟩, _, _, rfl, rfl, q⟩) | exact v_int (by first | decide | omega) (by decide) (fun H Q q => ⟨_, _, rfl, rfl, ⟨by decide, by decide, by decide⟩, _, rfl, q⟩) | apply v_tup (n := 6200) (e := 3) (n' := 20000) (e' := 4) | apply v_tup (n := 2000) (e := 2) (n' := 6200) (e' := 3) | apply v_lst (n := 6200) (e := 3) (n' := 20000) (e' := 4) (dk := by assumption) | apply v_lst (n := 2000) (e := 2) (n' := 6200) (e' := 3) (dk := by assumption))) <;> (first | decide | skip))
  have s2 := same_upd (o := .lst xs) n1
  have st2 := st.same (s1.trans s2)
  refine seq_asg (op_var (v := .ref p1) rfl (Ya.lst (R := Val K B 20000 4) (L := 8) (H0 := upd H1 p1 (.lst xs)) ?_ (by decide) (Same.refl _) fun ys H3 p3 s3 l3 r3 n3 => ?_))
  · ((repeat' (first | exact ya_nil | apply ya_cons val_stable | exact v_non (by decide) | exact v_bl _ (by decide) | exact v_str (by decide +kernel) (by decide +kernel) (by decide) | exact v_dic (by decide) (by decide) | exact v_int (by first | decide | omega) (by decide) (fun H Q q => q) | exact v_int (by first | decide | omega) (by decide) (fun H Q q => ⟨_, rfl, q⟩) | exact v_int (by first | decide | omega) (by decide) (fun H Q q => ⟨_, rfl, _, _, rfl, rfl, q⟩) | exact v_int (by first | decide | omega) (by decide) (fun H Q q => ⟨_, _, rfl, rfl, ⟨by decide, by decide, by decide⟩, q⟩) | exact v_int (by first | decide | omega) (by decide) (fun H Q q => ⟨_, _, rfl, rfl, ⟨by decide, by decide, by decide⟩, _, _, rfl, rfl, q⟩) | exact v_int (by first | decide | omega) (by decide) (fun H Q q => ⟨_, _, rfl, rfl, ⟨by decide, by decide, by decide⟩, _, rfl, q⟩) | apply v_tup (n := 6200) (e := 3) (n' := 20000) (e' := 4) | apply v_tup (n := 2000) (e := 2) (n' := 6200) (e' := 3) | apply v_lst (n := 6200) (e := 3) (n' := 20000) (e' := 4) (dk := by assumption) | apply v_lst (n := 2000) (e := 2) (n' := 6200) (e' := 3) (dk := by assumption))) <;> (first | decide | skip))
  have s4 := same_upd (o := .lst ys) n3
  refine ⟨p1, p3, xs, ys, rfl, rfl, s4 _ _ (s3 _ _ upd_same), upd_same, by rw [l1, l3]; decide, fun p5 n5 => ?_⟩
  have s5 := same_upd (o := .lst (xs ++ ys)) n5
  have sA := ((s1.trans s2).trans ((s3.trans s4).trans s5))
  have st5 := st.same sA
  have dk5 := dk.same sA
  have r5 : ∀ x ∈ xs ++ ys, Val K B 20000 4 (upd (upd H3 p3 (.lst ys)) p5 (.lst (xs ++ ys))) x := by
    intro x hx
    rcases List.mem_append.mp hx with z | z
    · exact val_stable _ _ _ (s2.trans ((s3.trans s4).trans s5)) (r1 _ z)
    · exact val_stable _ _ _ (s4.trans s5) (r3 _ z)
  have h5 : (upd (upd H3 p3 (.lst ys)) p5 (.lst (xs ++ ys))) p5 = some (.lst (xs ++ ys)) := upd_same
  generalize upd (upd H3 p3 (.lst ys)) p5 (.lst (xs ++ ys)) = H5 at sA st5 dk5 r5 h5 ⊢
  dsimp only [gName]
  refine op_var (v := .ref p5) rfl (Ya.lst (R := Val K B 20000 4) (L := 4) (H0 := H5) ?_ (by decide) (Same.refl _) fun zs H6 p6 s6 l6 r6 n6 => ?_)
  · clear st2
    ((repeat' (first | exact ya_nil | apply ya_cons val_stable | exact v_non (by decide) | exact v_bl _ (by decide) | exact v_str (by decide +kernel) (by decide +kernel) (by decide) | exact v_dic (by decide) (by decide) | exact v_int (by first | decide | omega) (by decide) (fun H Q q => q) | exact v_int (by first | decide | omega) (by decide) (fun H Q q => ⟨_, rfl, q⟩) | exact v_int (by first | decide | omega) (by decide) (fun H Q q => ⟨_, rfl, _, _, rfl, rfl, q⟩) | exact v_int (by first | decide | omega) (by decide) (fun H Q q => ⟨_, _, rfl, rfl, ⟨by decide, by decide, by decide⟩, q⟩) | exact v_int (by first | decide | omega) (by decide) (fun H Q q => ⟨_, _, rfl, rfl, ⟨by decide, by decide, by decide⟩, _, _, rfl, rfl, q⟩) | exact v_int (by first | decide | omega) (by decide) (fun H Q q => ⟨_, _, rfl, rfl, ⟨by decide, by decide, by decide⟩, _, rfl, q⟩) | apply v_tup (n := 6200) (e := 3) (n' := 20000) (e' := 4) | apply v_tup (n := 2000) (e := 2) (n' := 6200) (e' := 3) | apply v_lst (n := 6200) (e := 3) (n' := 20000) (e' := 4) (dk := by assumption) | apply v_lst (n := 2000) (e := 2) (n' := 6200) (e' := 3) (dk := by assumption))) <;> (first | decide | skip))
  have s7 := same_upd (o := .lst zs) n6
  refine ⟨p5, p6, xs ++ ys, zs, rfl, rfl, s7 _ _ (s6 _ _ h5), upd_same, by rw [List.length_append, l1, l3, l6]; decide, fun p8 n8 => ?_⟩
  have s8 := same_upd (o := .lst (xs ++ ys ++ zs)) n8
  have sB := (s6.trans s7).trans s8
  have dk8 := dk5.same sB
  have nn := (dk5.same (s6.trans s7)).nea n8
  refine ⟨.ref a, rfl, a, c, k, 24, rfl, dk8, by omega, by decide, by decide, fun u H9 u0 u1 dk9 kp9 => ?_⟩
  have hl : (xs ++ ys ++ zs).length = 24 := by rw [List.length_append, List.length_append, l1, l3, l6]
  have hu : u.toNat < (xs ++ ys ++ zs).length := by omega
  refine ⟨p8, _, _, _, rfl, rfl, SqL.of (kp9 _ _ nn.1 nn.2 upd_same), atI_pos u0 (List.getElem?_eq_getElem hu), ?_⟩
  refine q _ H9 ?_ dk9 ((Keep.of_same (sA.trans sB)).trans kp9)
  have mv := Mv.of_keep kp9 dk8 aB cB
  have hm : (xs ++ ys ++ zs)[u.toNat] ∈ xs ++ ys ++ zs := List.getElem_mem _
  rcases List.mem_append.mp hm with z | z
  · exact (val_stable _ _ _ sB (r5 _ z)).mv mv
  · exact (val_stable _ _ _ (s7.trans s8) (r6 _ z)).mv mv

end

def spLaw (K : PySem.W.Frag) : Sp := fun vs H Q _ => ∃ (s : Addr) (ns : List Int), vs = [.ref s] ∧ SqL K H s (ns.map V.int) ∧ ns.length ≤ 63 ∧ ∀ H', Q (.bl true) H'
section
open Classical
variable {P : Program} {w : World} {K : PySem.W.Frag} {mg : Str → Option Value} {base : Heap}
abbrev s_law : Stmt := topS 35
abbrev N_law : List Str := ["_law_script", "_law_deck_here", "_law_turn", "_law_m", "_law_tools_here", "_law_places_here", "_law_plan", "_law_at", "_law_odd", "_law_values", "_law_twin", "_law_value", "_law_before", "_law_due_here", "_law_k", "_law_turned", "_law_index", "_law_again"]
theorem sc_law : FnScope N_law ["_law_script"] (defScope s_law) :=
  ⟨rfl, rfl, rfl, by decide +kernel, rfl, by decide +kernel, by decide +kernel⟩
theorem ok_law {f : Addr} {fd : FuncData} (F : Fun K "law" "law" s_law f fd) (T : Bi mg) (sys : ∃ o, base.get? sysModules = some o)
    (h__law_deck : Has P w K mg base 1 "_law_deck" ["_law_script"] (spDeck K))
    (h__law_draw : Has P w K mg base 1 "_law_draw" ["_law_deck_here", "_law_limit"] spDraw)
    (h__law_tools : Has P w K mg base 4 "_law_tools" ["_law_deck_here", "_law_m"] spTools)
    (h__law_places : Has P w K mg base 3 "_law_places" ["_law_deck_here", "_law_m"] spPlaces)
    (h__law_odd_push : Has P w K mg base 2 "_law_odd_push" ["_law_deck_here", "_law_many"] (spOddP K))
    (h__law_due : Has P w K mg base 3 "_law_due" ["_law_m", "_law_tools_here", "_law_plan", "_law_places_here"] (spDueP K))
    (h__law_told : Has P w K mg base 7 "_law_told" ["_law_m", "_law_tools_here", "_law_plan", "_law_places_here"] (spDueP K))
    (h__law_same : HasG P w K mg base 1 "_law_same" ["_law_value", "_law_due_here"] (spSame K)) :
    FnG P w K mg base 8 f fd ["_law_script"] (spLaw K) := by
  refine fung_ok F sc_law (fun vs H Q E h => ?_) (fun cdv A outer s H vs Q E hgd hr h => ?_)
  · obtain ⟨x, ns, e, _⟩ := h
    subst e
    rfl
  obtain ⟨x, ns, e, hS, hl, q⟩ := h
  subst e
  refine ⟨_, (pss_cons (ps_set (i := 1) sc_law.nd rfl (.inr rfl) (pe_callH h__law_deck hr (by decide) (by rfl) (pa_cons (pv 0) pa_nil)))
  (pss_cons (ps_for PassesOwn.never rfl (pi_range1 (by rfl) T.range (pa_cons pe_int pa_nil)) (pg_name (i := 2) sc_law.nd rfl (.inl rfl))
  (C8.pss_cut (ps_set (i := 3) sc_law.nd rfl (.inr rfl) (pe_op op_add pe_int (pe_callH h__law_draw hr (by decide) (by rfl) (pa_cons (pv 1) (pa_cons (pe_ix (kixL K) (pe_lst (pa_cons pe_int (pa_cons pe_int (pa_cons pe_int pa_nil)))) (pe_op op_mod (pv 2) pe_int) (fun _ _ => rfl)) pa_nil)))))
  (C8.pss_cut (ps_asg (pe_tup (pa_cons (pe_callH h__law_tools hr (by decide) (by rfl) (pa_cons (pv 1) (pa_cons (pv 3) pa_nil))) (pa_cons (pe_callH h__law_places hr (by decide) (by rfl) (pa_cons (pv 1) (pa_cons (pv 3) pa_nil))) pa_nil))) (kgtup K 2 rfl (pgs_cons (pg_name (i := 4) sc_law.nd rfl (.inr rfl)) (pgs_cons (pg_name (i := 5) sc_law.nd rfl (.inr rfl)) pgs_nil))))
  (C8.pss_cut (ps_set (i := 6) sc_law.nd rfl (.inl rfl) (pe_callTy call_tuple_of (by rfl) T.tuple (by decide +kernel) (pa_cons (pe_lc (own := [("_law_k", 14)]) rfl sc_law.nd (pi_range1 (by rfl) T.range (pa_cons (pe_callH h__law_draw hr (by decide) (by rfl) (pa_cons (pv 1) (pa_cons pe_int pa_nil))) pa_nil)) (blkOk_by (own := [("_law_k", 14)]) (N := N_law) (sc := defScope s_law) (by decide +kernel))
    (fun _ _ _ _ _ => (pg_name (i := 14) sc_law.nd rfl (.inl rfl))) (fun _ _ _ _ _ => pts_nil)
    (fun _ _ _ _ _ => (pe_tup (pa_cons (pe_op op_sub (pe_callH h__law_draw hr (by decide) (by rfl) (pa_cons (pv 1) (pa_cons (pe_op op_mul pe_int (pv 3)) pa_nil))) (pv 3)) (pa_cons (pe_callH h__law_draw hr (by decide) (by rfl) (pa_cons (pv 1) (pa_cons (pe_callB (klen K) (by rfl) T.len (by decide +kernel) (pa_cons (pv 4) pa_nil)) pa_nil))) pa_nil))))) pa_nil)))
  (C8.pss_cut (ps_par (i := 7) (j := 8) (by rfl) sc_law.nd rfl rfl (by decide) rfl rfl (pa_cons (pe_callH h__law_draw hr (by decide) (by rfl) (pa_cons (pv 1) (pa_cons (pe_op op_add (pe_callB (klen K) (by rfl) T.len (by decide +kernel) (pa_cons (pv 6) pa_nil)) pe_int) pa_nil))) (pa_cons (pe_callH h__law_odd_push hr (by decide) (by rfl) (pa_cons (pv 1) (pa_cons (pe_callB (klen K) (by rfl) T.len (by decide +kernel) (pa_cons (pv 4) pa_nil)) pa_nil))) pa_nil)) (by rfl))
  (C8.pss_cut (ps_set (i := 9) sc_law.nd rfl (.inl rfl) (pe_lst (pa_cons (pv 6) (pa_cons (pe_tup pa_nil) (pa_cons (pe_op (kcatB K) (pe_op (kcatB K) (pe_slice (kslA K) (pv 6) po_none (po_some (pv 7))) (pe_tup (pa_cons (pv 8) pa_nil))) (pe_slice (kslA K) (pv 6) (po_some (pv 7)) po_none)) (pa_cons (pe_op (kcatB K) (pv 6) (pe_tup (pa_cons (pv 8) (pa_cons pe_non pa_nil)))) (pa_cons (pe_callTy (klistof K) (by rfl) T.list (by decide +kernel) (pa_cons (pv 6) pa_nil)) (pa_cons (pv 8) (pa_cons pe_non pa_nil)))))))))
  (C8.pss_cut (ps_set (i := 9) sc_law.nd rfl (.inl rfl) (pe_op op_cat (pv 9) (pe_lst (pa_cons (pe_op (krepT K) (pe_tup (pa_cons (pe_tup (pa_cons pe_int (pa_cons pe_int pa_nil))) pa_nil)) pe_int) (pa_cons (pe_op (krepT K) (pe_tup (pa_cons (pe_tup (pa_cons pe_int (pa_cons pe_int pa_nil))) pa_nil)) pe_int) (pa_cons (pe_op (krepT K) (pe_tup (pa_cons pe_non pa_nil)) pe_int) (pa_cons (pe_op (kcatB K) (pe_slice (kslA K) (pv 6) po_none (po_some (pv 7))) (pe_tup (pa_cons (pe_tup (pa_cons (pe_op op_sub (pe_op op_pow pe_int pe_int) pe_int) (pa_cons pe_int pa_nil))) pa_nil))) pa_nil)))))))
  (C8.pss_cut (ps_set (i := 9) sc_law.nd rfl (.inl rfl) (pe_op op_cat (pv 9) (pe_lst (pa_cons (pe_op (kcatB K) (pe_slice (kslA K) (pv 6) po_none (po_some (pv 7))) (pe_tup (pa_cons (pe_tup (pa_cons (pe_op op_pow pe_int pe_int) (pa_cons pe_int pa_nil))) pa_nil))) (pa_cons (pe_op (kcatB K) (pe_slice (kslA K) (pv 6) po_none (po_some (pv 7))) (pe_tup (pa_cons (pe_tup (pa_cons (pe_un un_neg (pe_op op_pow pe_int pe_int)) (pa_cons pe_int pa_nil))) (pa_cons pe_non pa_nil)))) (pa_cons (pe_op (kcatB K) (pv 6) (pe_tup (pa_cons (pe_lst (pa_cons pe_int (pa_cons pe_int pa_nil))) pa_nil))) pa_nil))))))
  (C8.pss_cut (ps_set (i := 10) sc_law.nd rfl (.inl rfl) (pe_callTy call_tuple_of (by rfl) T.tuple (by decide +kernel) (pa_cons (pe_lc (own := [("_law_turned", 15), ("_law_index", 16)]) rfl sc_law.nd (kitup K (pv 6)) (blkOk_by (own := [("_law_turned", 15), ("_law_index", 16)]) (N := N_law) (sc := defScope s_law) (by decide +kernel))
    (fun _ _ _ _ _ => (kgtup K 2 rfl (pgs_cons (pg_name (i := 15) sc_law.nd rfl (.inl rfl)) (pgs_cons (pg_name (i := 16) sc_law.nd rfl (.inl rfl)) pgs_nil)))) (fun _ _ _ _ _ => pts_nil)
    (fun _ _ _ _ _ => (pe_tup (pa_cons (pv 15) (pa_cons (pe_ix (kixL K) (pe_lst (pa_cons (pv 16) (pa_cons (pe_cmpR op_eq (pv 16) pe_int (nomark _)) pa_nil))) (pe_callTy call_int1 (by rfl) T.int (by decide +kernel) (pa_cons (pe_cmpR op_lt (pv 16) pe_int (nomark _)) pa_nil)) (fun _ _ => rfl)) pa_nil))))) pa_nil)))
  (C8.pss_cut (ps_set (i := 9) sc_law.nd rfl (.inl rfl) (pe_op op_cat (pv 9) (pe_lst (pa_cons (pv 6) (pa_cons (pv 10) (pa_cons (pv 6) (pa_cons (pe_tup (pa_cons (pe_tup (pa_cons pe_int (pa_cons pe_int pa_nil))) pa_nil)) (pa_cons (pe_tup (pa_cons (pe_tup (pa_cons pe_bl (pa_cons pe_int pa_nil))) pa_nil)) (pa_cons (pe_tup (pa_cons (pe_tup (pa_cons pe_int (pa_cons pe_int pa_nil))) pa_nil)) (pa_cons (pe_tup (pa_cons (pe_tup (pa_cons pe_int (pa_cons pe_bl pa_nil))) pa_nil)) (pa_cons (pe_tup (pa_cons (pe_tup (pa_cons pe_int (pa_cons pe_int pa_nil))) pa_nil)) pa_nil)))))))))))
  (pss_one (ps_for PassesOwn.never rfl (kilist K (pe_op op_cat (pv 9) (pe_lst (pa_cons pe_dnewK (pa_cons pe_str (pa_cons pe_int (pa_cons pe_bl pa_nil))))))) (pg_name (i := 11) sc_law.nd rfl (.inr rfl))
  (pss_cons (ps_par (i := 12) (j := 13) (by rfl) sc_law.nd rfl rfl (by decide) rfl rfl (pa_cons (pe_callB (kreprV K sys hgd hr.units) (by rfl) T.repr (by decide +kernel) (pa_cons (pe_lst (pa_cons (pv 4) (pa_cons (pv 11) (pa_cons (pv 5) pa_nil)))) pa_nil)) (pa_cons (pe_callH h__law_due hr (by decide) (by rfl) (pa_cons (pv 3) (pa_cons (pv 4) (pa_cons (pv 11) (pa_cons (pv 5) pa_nil))))) pa_nil)) (by rfl))
  (pss_cons (ps_if (pt_not (pt_val (pe_callHG h__law_same hgd hr (by decide) (by rfl) (pa_cons (pe_lc (own := [("_law_again", 17)]) rfl sc_law.nd (pi_range1 (by rfl) T.range (pa_cons pe_int pa_nil)) (blkOk_by (own := [("_law_again", 17)]) (N := N_law) (sc := defScope s_law) (by decide +kernel))
    (fun _ _ _ _ _ => (pg_name (i := 17) sc_law.nd rfl (.inl rfl))) (fun _ _ _ _ _ => pts_nil)
    (fun _ _ _ _ _ => (pe_callH h__law_told hr (by decide) (by rfl) (pa_cons (pv 3) (pa_cons (pv 4) (pa_cons (pv 11) (pa_cons (pv 5) pa_nil))))))) (pa_cons (pe_lst (pa_cons (pv 13) (pa_cons (pv 13) pa_nil))) pa_nil)))))
  (pss_one (ps_ret pe_bl))
  pss_nil)
  (pss_one (ps_if (pt_cmpR op_ne (pe_callB (kreprV K sys hgd hr.units) (by rfl) T.repr (by decide +kernel) (pa_cons (pe_lst (pa_cons (pv 4) (pa_cons (pv 11) (pa_cons (pv 5) pa_nil)))) pa_nil)) (pv 12) (nomark _))
  (pss_one (ps_ret pe_bl))
  pss_nil))))))))))))))))
  (pss_one (ps_ret pe_bl)))), ?_⟩
  clear T
  refine ⟨.ref x, rfl, x, ns, rfl, hS, hl, fun a c H1 dk1 sm1 na nc => ?_⟩
  refine ⟨6, rfl, by decide, by decide, ?_⟩
  refine for_range (lo := 0) (n := (6 : Int).toNat) (fun i σ' H' => ∃ y2 y3 y4 y5 y6 y7 y8 y9 y10 y11 y12 y13 y14 y15 y16 y17, σ' = [some (.ref x), some (.ref a), y2, y3, y4, y5, y6, y7, y8, y9, y10, y11, y12, y13, y14, y15, y16, y17] ∧ Deck H' a c (400 * i)) ?_ ?_ ?_
  · exact ⟨_, _, _, _, _, _, _, _, _, _, _, _, _, _, _, _, rfl, dk1.mono (by omega)⟩
  · intro i σ' H' hi h
    obtain ⟨y2, y3, y4, y5, y6, y7, y8, y9, y10, y11, y12, y13, y14, y15, y16, y17, e, dk⟩ := h
    subst e
    have hi9 : i < 6 := hi
    -- m
    refine ⟨fun σ' H' => ∃ (m : Int), σ' = [some (.ref x), some (.ref a), some (.int (0 + (i : Nat))), some (.int m), y4, y5, y6, y7, y8, y9, y10, y11, y12, y13, y14, y15, y16, y17] ∧ Deck H' a c (400 * i + 1) ∧ 1 ≤ m ∧ m ≤ 30, ?_, ?_⟩
    · obtain ⟨v, ev, hv⟩ := pick3 (K := K) (t := 0 + (i : Nat)) (by omega) 4 13 30
      refine ⟨.ref a, rfl, by show 3 ≤ sizeLine; decide, fun p np => ⟨.int (0 + (i : Nat)), rfl, _, 3, rfl, rfl, (by decide : (0 : Int) < 3), p, _, _, _, rfl, rfl, SqL.of upd_same, ev, ?_⟩⟩
      refine ⟨a, c, _, v, rfl, dk.new np, by omega, by omega, by omega, fun u H2 u0 u1 dk2 kp2 => ?_⟩
      exact ⟨1, u, rfl, rfl, _, rfl, dk2, by omega, by omega⟩
    intro σ2 H2 hM
    obtain ⟨m, e, dk2, hm1, hm2⟩ := hM
    subst e
    -- tools and places
    refine ⟨fun σ' H' => ∃ (T : Addr) (tls : List (List (Int × Int))) (pl : Addr) (ps : List Int), σ' = [some (.ref x), some (.ref a), some (.int (0 + (i : Nat))), some (.int m), some (.ref T), some (.ref pl), y6, y7, y8, y9, y10, y11, y12, y13, y14, y15, y16, y17] ∧ Deck H' a c (400 * i + 201) ∧ ToolsAt H' T tls ∧ tls ≠ [] ∧ tls.length ≤ 4 ∧ (∀ tl ∈ tls, IsTool m tl) ∧
      H' pl = some (.tup (ps.map V.int)) ∧ ps.Pairwise (· < ·) ∧ (∀ x ∈ ps, 0 ≤ x ∧ x < m), ?_, ?_⟩
    · refine ⟨.ref a, rfl, .int m, rfl, a, c, 400 * i + 1, m, rfl, dk2, by omega, hm1, by omega, fun T tls H3 ne tl4 its ta dk3 kp3 => ?_⟩
      refine ⟨.ref a, rfl, .int m, rfl, a, c, _, m, rfl, dk3, by omega, hm1, by omega, fun pl ps H4 asc l1 rng hp dk4 kp4 npl => ?_⟩
      refine ⟨by show 2 ≤ sizeLine; decide, fun p np => ⟨p, _, rfl, SqT.of upd_same, rfl, _, _, rfl, _, _, rfl, rfl, ?_⟩⟩
      have s5 := same_upd (o := .tup [.ref T, .ref pl]) np
      exact ⟨T, tls, pl, ps, rfl, (dk4.same s5).mono (by omega), (ta.stay (kp4.stay dk3)).stay (.of_same s5), ne, tl4, its, s5 _ _ hp, asc, rng⟩
    intro σ3 H3 hM
    obtain ⟨T, tls, pl, ps, e, dk3, ta3, ne, tl4, its, hp3, asc, rng⟩ := hM
    subst e
    obtain ⟨ts, _, tsl⟩ := tools_len ta3 (K := K)
    have t1 : 1 ≤ tls.length := List.length_pos_iff.mpr ne
    -- the plan
    refine ⟨fun σ' H' => ∃ (pn : Addr) (xs : List V) (qs : List (Int × Int)), σ' = [some (.ref x), some (.ref a), some (.int (0 + (i : Nat))), some (.int m), some (.ref T), some (.ref pl), some (.ref pn), y7, y8, y9, y10, y11, y12, y13, y14, y15, y16, y17] ∧ Deck H' a c (400 * i + 214) ∧ ToolsAt H' T tls ∧ H' pl = some (.tup (ps.map V.int)) ∧
      H' pn = some (.tup xs) ∧ DvAll K H' [a, c] xs (qs.map pairD) ∧ qs.length ≤ 6 ∧ ∀ b ∈ qs, b.1.natAbs < 10 ^ 30 ∧ b.2.natAbs < 10 ^ 30, ?_, ?_⟩
    · refine ⟨.ref a, rfl, a, c, 400 * i + 201, 7, rfl, dk3, by omega, by decide, by decide, fun u H4 u0 u1 dk4 kp4 => ⟨u, rfl, by omega, by omega, fun D nD => ?_⟩⟩
      obtain ⟨nDa, nDc⟩ := dk4.nea nD
      have nDH := keep_none kp4 dk4 nD
      have aB : a ∈ [D, a, c] := List.mem_cons_of_mem _ List.mem_cons_self
      have cB : c ∈ [D, a, c] := List.mem_cons_of_mem _ (List.mem_cons_of_mem _ List.mem_cons_self)
      refine lc_range (lo := 0) (n := u.toNat) (fun j H' => ∃ (acc : List V) (qs : List (Int × Int)), Deck H' a c (400 * i + 202 + 2 * j) ∧ Keep a c H3 H' ∧ Stay H3 H' ∧ H' D = some (.lst acc) ∧ DvAll K H' [D, a, c] acc (qs.map pairD) ∧ qs.length = j ∧ ∀ b ∈ qs, b.1.natAbs < 10 ^ 30 ∧ b.2.natAbs < 10 ^ 30) ?_ ?_ ?_
      · exact ⟨[], [], (dk4.new nD).mono (by omega), kp4.trans (Keep.upd_new nD), (kp4.stay dk3).trans (.of_same (same_upd nD)), upd_same, .nil, rfl, fun b hb => absurd hb List.not_mem_nil⟩
      · intro j H5 hj h
        obtain ⟨acc, qs, dk5, kp5, st5, hD5, dv5, ql, qsm⟩ := h
        have hj6 : j < 7 := by omega
        refine ⟨rfl, .ref a, rfl, .int m, rfl, 3, m, rfl, rfl, .inl ⟨by decide, by decide⟩, a, c, _, _, rfl, dk5, by omega, by omega, by omega, fun w1 H6 x0 x1 dk6 kp6 => ?_⟩
        obtain ⟨ts6, hts6, tsl6⟩ := tools_len (ta3.stay (st5.trans (kp6.stay dk5))) (K := K)
        refine ⟨.int m, rfl, w1, m, rfl, rfl, .ref a, rfl, .ref T, rfl, T, ts6, rfl, .inr hts6, a, c, _, _, rfl, dk6, by omega, by rw [tsl6]; omega, by rw [tsl6]; omega, fun w2 H7 x2 x3 dk7 kp7 => ?_⟩
        refine ⟨by show 2 ≤ sizeLine; decide, fun p np => ?_⟩
        rw [tsl6] at x3
        have s8 := same_upd (o := .tup [.int (w1 - m), .int w2]) np
        have hD8 := s8 _ _ (kp7 _ _ nDa nDc (kp6 _ _ nDa nDc hD5))
        have dk8 := dk7.same s8
        have m8 : Mv [D, a, c] H5 (upd H7 p (.tup [.int (w1 - m), .int w2])) := ((Mv.of_keep kp6 dk5 aB cB).trans (Mv.of_keep kp7 dk6 aB cB)).trans (.of_same s8)
        have hp8 : (upd H7 p (.tup [.int (w1 - m), .int w2])) p = some (.tup [.int (w1 - m), .int w2]) := upd_same
        have kp8 : Keep a c H5 (upd H7 p (.tup [.int (w1 - m), .int w2])) := (kp6.trans kp7).trans (.of_same s8)
        generalize upd H7 p (.tup [.int (w1 - m), .int w2]) = H8 at s8 hD8 dk8 m8 hp8 kp8 ⊢
        have m9 : Mv [D, a, c] H8 (upd H8 D (.lst (acc ++ [.ref p]))) := Mv.of_list hD8 List.mem_cons_self
        have al : acc.length = j := by rw [dv5.len, List.length_map, ql]
        refine ⟨acc, hD8, by rw [al]; exact small1000 (by omega), acc ++ [.ref p], qs ++ [(w1 - m, w2)], ?_, ?_, (st5.trans m8.st).trans m9.st, upd_same, ?_, by rw [List.length_append, ql]; rfl, ?_⟩
        · obtain ⟨ns', j', z1, z2, z3, z4, z5, z6⟩ := dk8
          exact ⟨ns', j', z1, by rw [upd_ne nDa.symm]; exact z2, by rw [upd_ne nDc.symm]; exact z3, z4, z5, by omega⟩
        · intro b o h1 h2 h3
          rw [upd_ne (ne_of_none h3 nDH)]
          exact kp8 b o h1 h2 (kp5 b o h1 h2 h3)
        · rw [List.map_append]
          exact ((dv5.mv m8).mv m9).app (.cons (.tup (SqT.of (m9.st _ _ (by intro xs z; cases z) hp8)) (.cons (.int _) (.cons (.int _) .nil))) .nil)
        · intro b hb
          have e : (100 : Nat) < 10 ^ 30 := by decide
          rcases List.mem_append.mp hb with z | z
          · exact qsm b z
          · rw [List.mem_singleton.mp z]
            exact ⟨by show (w1 - m).natAbs < _; omega, by show w2.natAbs < _; omega⟩
      · intro H5 h
        obtain ⟨acc, qs, dk5, kp5, st5, hD5, dv5, ql, qsm⟩ := h
        refine ⟨D, acc, rfl, .inl ⟨SqL.of hD5, fun pn nP => ?_⟩⟩
        have s6 := same_upd (o := .tup acc) nP
        exact ⟨pn, acc, qs, rfl, (dk5.same s6).mono (by omega), (ta3.stay st5).stay (.of_same s6), s6 _ _ (st5 _ _ (by intro xs z; cases z) hp3), upd_same, dvp_bar (dv5.same s6), by omega, qsm⟩
    intro σ4 H4 hM
    obtain ⟨pn, xs, qs, e, dk4, ta4, hp4, hP4, dv4, ql, qsm⟩ := hM
    subst e
    have xl : xs.length = qs.length := by rw [dv4.len, List.length_map]
    -- at and odd
    refine ⟨fun σ' H' => ∃ (at_ : Int) (od : V), σ' = [some (.ref x), some (.ref a), some (.int (0 + (i : Nat))), some (.int m), some (.ref T), some (.ref pl), some (.ref pn), some (.int at_), some (od), y9, y10, y11, y12, y13, y14, y15, y16, y17] ∧ Deck H' a c (400 * i + 216) ∧ ToolsAt H' T tls ∧ H' pl = some (.tup (ps.map V.int)) ∧ H' pn = some (.tup xs) ∧ DvAll K H' [a, c] xs (qs.map pairD) ∧ Val K [a, c] 20000 4 H' od, ?_, ?_⟩
    · refine ⟨.ref a, rfl, .ref pn, rfl, pn, xs, rfl, .inr (SqT.of hP4), _, 1, rfl, rfl, a, c, _, _, rfl, dk4, by omega, by omega, by omega, fun u H5 u0 u1 dk5 kp5 => ?_⟩
      have aB : a ∈ [a, c] := List.mem_cons_self
      have cB : c ∈ [a, c] := List.mem_cons_of_mem _ List.mem_cons_self
      have m5 := Mv.of_keep (B := [a, c]) kp5 dk4 aB cB
      obtain ⟨ts5, hts5, tsl5⟩ := tools_len (ta4.stay m5.st) (K := K)
      refine ⟨.ref a, rfl, .ref T, rfl, T, ts5, rfl, .inr hts5, a, c, [a, c], _, _, rfl, aB, cB, dk5.stands, dk5, by omega, by omega, by rw [tsl5]; omega, fun od H6 vo dk6 kp6 => ⟨_, _, rfl, ?_⟩⟩
      have m6 := m5.trans (Mv.of_keep (B := [a, c]) kp6 dk5 aB cB)
      exact ⟨u, od, rfl, dk6.mono (by omega), ta4.stay m6.st, m6.st _ _ (by intro xs z; cases z) hp4, m6.st _ _ (by intro xs z; cases z) hP4, dv4.mv m6, vo⟩
    clear dk4 ta4 hp4 hP4 dv4
    intro σ5 H5 hM
    obtain ⟨at_, od, e, dk5, ta5, hp5, hP5, dv5, vo5⟩ := hM
    subst e
    have st5 := dk5.stands
    have dq : ∀ d ∈ qs.map pairD, Neat d 20000 4 := by
      intro d hd
      obtain ⟨b, hb, e⟩ := List.mem_map.mp hd
      rw [← e]
      have := qsm b hb
      exact (pair_neat (Nat.lt_trans this.1 (by decide)) (Nat.lt_trans this.2 (by decide))).mono (by decide) (by decide)
    have tv5 : TV K [a, c] 20000 4 12 H5 (.ref pn) := ⟨pn, xs, _, rfl, SqT.of hP5, dv5, dq, by rw [List.length_map]; omega⟩
    have vp5 : Val K [a, c] 3000000 8 H5 (.ref pn) := tv5.val (by decide) (by decide)
    -- values
    refine ⟨fun σ' H' => ∃ (L : Addr) (us : List V), σ' = [some (.ref x), some (.ref a), some (.int (0 + (i : Nat))), some (.int m), some (.ref T), some (.ref pl), some (.ref pn), some (.int at_), some (od), some (.ref L), y10, y11, y12, y13, y14, y15, y16, y17] ∧ Same H5 H' ∧ H' L = some (.lst us) ∧ us.length = 7 ∧ V4 K [a, c] H' us, ?_, ?_⟩
    · refine Ya.lst (R := Val K [a, c] 3000000 8) (L := 7) (H0 := H5) ?_ (by decide) (Same.refl _) fun us H6 L s6 l6 r6 n6 => ?_
      · refine ya_cons val_stable (y_var val_stable rfl vp5) (ya_cons val_stable (v_tup (n := 20000) (e := 4) ya_nil (by decide) (by decide) (by decide)) (ya_cons val_stable ?_ (ya_cons val_stable ?_ (ya_cons val_stable ?_ (ya_cons val_stable (ys_up (y_var val_stable rfl vo5) (by decide) (by decide)) (ya_cons val_stable (v_non (by decide)) ya_nil))))))
        · exact ys_tv (yt_cat (yt_cat (yt_slice (y_var tv_stable rfl tv5) yo_none (yo_int fun H Q q => ⟨_, rfl, q⟩)) (yt_tup (by decide) (ya_cons val_stable (y_var val_stable rfl vo5) ya_nil)) (by decide)) (yt_slice (y_var tv_stable rfl tv5) (yo_int fun H Q q => ⟨_, rfl, q⟩) yo_none) (by decide)) (by decide) (by decide)
        · exact ys_tv (yt_cat (y_var tv_stable rfl tv5) (yt_tup (by decide) (ya_cons val_stable (y_var val_stable rfl vo5) (ya_cons val_stable (v_non (by decide)) ya_nil))) (by decide)) (by decide) (by decide)
        · exact ys_mono (c_list st5 rfl tv5) fun H v z => z.val.up (by decide) (by decide)
      have s7 := same_upd (o := .lst us) n6
      exact ⟨L, us, rfl, s6.trans s7, upd_same, l6, V4.same s7 r6⟩
    intro σ6 H6 hM
    obtain ⟨L, us, e, s6, hL6, ul6, vs6⟩ := hM
    subst e
    have tv6 := tv_stable _ _ _ s6 tv5
    -- more values
    refine ⟨fun σ' H' => ∃ (L : Addr) (us : List V), σ' = [some (.ref x), some (.ref a), some (.int (0 + (i : Nat))), some (.int m), some (.ref T), some (.ref pl), some (.ref pn), some (.int at_), some (od), some (.ref L), y10, y11, y12, y13, y14, y15, y16, y17] ∧ Same H5 H' ∧ H' L = some (.lst us) ∧ us.length = 11 ∧ V4 K [a, c] H' us, ?_, ?_⟩
    · refine cat_step (L := 4) rfl hL6 (by omega) (by decide) vs6 ?_ fun p2 ws H' s' h2 l2 v2 => ⟨p2, _, rfl, s6.trans s', h2, by rw [List.length_append, ul6, l2], v2⟩
      refine ya_cons val_stable ?_ (ya_cons val_stable ?_ (ya_cons val_stable ?_ (ya_cons val_stable ?_ ya_nil)))
      · exact ys_tv (yt_rep1 (k := 100) rfl (n := 20000) (e := 4) (by ((repeat' (first | exact ya_nil | apply ya_cons val_stable | exact v_non (by decide) | exact v_bl _ (by decide) | exact v_str (by decide +kernel) (by decide +kernel) (by decide) | exact v_dic (by decide) (by decide) | exact v_int (by first | decide | omega) (by decide) (fun H Q q => q) | exact v_int (by first | decide | omega) (by decide) (fun H Q q => ⟨_, rfl, q⟩) | exact v_int (by first | decide | omega) (by decide) (fun H Q q => ⟨_, rfl, _, _, rfl, rfl, q⟩) | exact v_int (by first | decide | omega) (by decide) (fun H Q q => ⟨_, _, rfl, rfl, ⟨by decide, by decide, by decide⟩, q⟩) | exact v_int (by first | decide | omega) (by decide) (fun H Q q => ⟨_, _, rfl, rfl, ⟨by decide, by decide, by decide⟩, _, _, rfl, rfl, q⟩) | exact v_int (by first | decide | omega) (by decide) (fun H Q q => ⟨_, _, rfl, rfl, ⟨by decide, by decide, by decide⟩, _, rfl, q⟩) | apply v_tup (n := 6200) (e := 3) (n' := 20000) (e' := 4) | apply v_tup (n := 2000) (e := 2) (n' := 6200) (e' := 3) | apply v_lst (n := 6200) (e := 3) (n' := 20000) (e' := 4) (dk := by assumption) | apply v_lst (n := 2000) (e := 2) (n' := 6200) (e' := 3) (dk := by assumption))) <;> (first | decide | skip))) (by decide) (by decide)) (by decide) (by decide)
      · exact ys_tv (yt_rep1 (k := 101) rfl (n := 20000) (e := 4) (by ((repeat' (first | exact ya_nil | apply ya_cons val_stable | exact v_non (by decide) | exact v_bl _ (by decide) | exact v_str (by decide +kernel) (by decide +kernel) (by decide) | exact v_dic (by decide) (by decide) | exact v_int (by first | decide | omega) (by decide) (fun H Q q => q) | exact v_int (by first | decide | omega) (by decide) (fun H Q q => ⟨_, rfl, q⟩) | exact v_int (by first | decide | omega) (by decide) (fun H Q q => ⟨_, rfl, _, _, rfl, rfl, q⟩) | exact v_int (by first | decide | omega) (by decide) (fun H Q q => ⟨_, _, rfl, rfl, ⟨by decide, by decide, by decide⟩, q⟩) | exact v_int (by first | decide | omega) (by decide) (fun H Q q => ⟨_, _, rfl, rfl, ⟨by decide, by decide, by decide⟩, _, _, rfl, rfl, q⟩) | exact v_int (by first | decide | omega) (by decide) (fun H Q q => ⟨_, _, rfl, rfl, ⟨by decide, by decide, by decide⟩, _, rfl, q⟩) | apply v_tup (n := 6200) (e := 3) (n' := 20000) (e' := 4) | apply v_tup (n := 2000) (e := 2) (n' := 6200) (e' := 3) | apply v_lst (n := 6200) (e := 3) (n' := 20000) (e' := 4) (dk := by assumption) | apply v_lst (n := 2000) (e := 2) (n' := 6200) (e' := 3) (dk := by assumption))) <;> (first | decide | skip))) (by decide) (by decide)) (by decide) (by decide)
      · exact ys_tv (yt_rep1 (k := 101) rfl (n := 20000) (e := 4) (by ((repeat' (first | exact ya_nil | apply ya_cons val_stable | exact v_non (by decide) | exact v_bl _ (by decide) | exact v_str (by decide +kernel) (by decide +kernel) (by decide) | exact v_dic (by decide) (by decide) | exact v_int (by first | decide | omega) (by decide) (fun H Q q => q) | exact v_int (by first | decide | omega) (by decide) (fun H Q q => ⟨_, rfl, q⟩) | exact v_int (by first | decide | omega) (by decide) (fun H Q q => ⟨_, rfl, _, _, rfl, rfl, q⟩) | exact v_int (by first | decide | omega) (by decide) (fun H Q q => ⟨_, _, rfl, rfl, ⟨by decide, by decide, by decide⟩, q⟩) | exact v_int (by first | decide | omega) (by decide) (fun H Q q => ⟨_, _, rfl, rfl, ⟨by decide, by decide, by decide⟩, _, _, rfl, rfl, q⟩) | exact v_int (by first | decide | omega) (by decide) (fun H Q q => ⟨_, _, rfl, rfl, ⟨by decide, by decide, by decide⟩, _, rfl, q⟩) | apply v_tup (n := 6200) (e := 3) (n' := 20000) (e' := 4) | apply v_tup (n := 2000) (e := 2) (n' := 6200) (e' := 3) | apply v_lst (n := 6200) (e := 3) (n' := 20000) (e' := 4) (dk := by assumption) | apply v_lst (n := 2000) (e := 2) (n' := 6200) (e' := 3) (dk := by assumption))) <;> (first | decide | skip))) (by decide) (by decide)) (by decide) (by decide)
      · exact ys_tv (yt_cat (yt_slice (y_var tv_stable rfl tv6) yo_none (yo_int fun H Q q => ⟨_, rfl, q⟩)) (yt_tup (n := 20000) (e := 4) (L := 1) (by decide) (by ((repeat' (first | exact ya_nil | apply ya_cons val_stable | exact v_non (by decide) | exact v_bl _ (by decide) | exact v_str (by decide +kernel) (by decide +kernel) (by decide) | exact v_dic (by decide) (by decide) | exact v_int (by first | decide | omega) (by decide) (fun H Q q => q) | exact v_int (by first | decide | omega) (by decide) (fun H Q q => ⟨_, rfl, q⟩) | exact v_int (by first | decide | omega) (by decide) (fun H Q q => ⟨_, rfl, _, _, rfl, rfl, q⟩) | exact v_int (by first | decide | omega) (by decide) (fun H Q q => ⟨_, _, rfl, rfl, ⟨by decide, by decide, by decide⟩, q⟩) | exact v_int (by first | decide | omega) (by decide) (fun H Q q => ⟨_, _, rfl, rfl, ⟨by decide, by decide, by decide⟩, _, _, rfl, rfl, q⟩) | exact v_int (by first | decide | omega) (by decide) (fun H Q q => ⟨_, _, rfl, rfl, ⟨by decide, by decide, by decide⟩, _, rfl, q⟩) | apply v_tup (n := 6200) (e := 3) (n' := 20000) (e' := 4) | apply v_tup (n := 2000) (e := 2) (n' := 6200) (e' := 3) | apply v_lst (n := 6200) (e := 3) (n' := 20000) (e' := 4) (dk := by assumption) | apply v_lst (n := 2000) (e := 2) (n' := 6200) (e' := 3) (dk := by assumption))) <;> (first | decide | skip)))) (by decide)) (by decide) (by decide)
    clear hL6 ul6 vs6 s6 tv6
    intro σ6 H6 hM
    obtain ⟨L, us, e, s6, hL6, ul6, vs6⟩ := hM
    subst e
    have tv6 := tv_stable _ _ _ s6 tv5
    have st6 := st5.same s6
    refine ⟨fun σ' H' => ∃ (L : Addr) (us : List V), σ' = [some (.ref x), some (.ref a), some (.int (0 + (i : Nat))), some (.int m), some (.ref T), some (.ref pl), some (.ref pn), some (.int at_), some (od), some (.ref L), y10, y11, y12, y13, y14, y15, y16, y17] ∧ Same H5 H' ∧ H' L = some (.lst us) ∧ us.length = 14 ∧ V4 K [a, c] H' us, ?_, ?_⟩
    · refine cat_step (L := 3) rfl hL6 (by omega) (by decide) vs6 ?_ fun p2 ws H' s' h2 l2 v2 => ⟨p2, _, rfl, s6.trans s', h2, by rw [List.length_append, ul6, l2], v2⟩
      clear st5
      refine ya_cons val_stable ?_ (ya_cons val_stable ?_ (ya_cons val_stable ?_ ya_nil))
      · exact ys_tv (yt_cat (yt_slice (y_var tv_stable rfl tv6) yo_none (yo_int fun H Q q => ⟨_, rfl, q⟩)) (yt_tup (n := 20000) (e := 4) (L := 1) (by decide) (by ((repeat' (first | exact ya_nil | apply ya_cons val_stable | exact v_non (by decide) | exact v_bl _ (by decide) | exact v_str (by decide +kernel) (by decide +kernel) (by decide) | exact v_dic (by decide) (by decide) | exact v_int (by first | decide | omega) (by decide) (fun H Q q => q) | exact v_int (by first | decide | omega) (by decide) (fun H Q q => ⟨_, rfl, q⟩) | exact v_int (by first | decide | omega) (by decide) (fun H Q q => ⟨_, rfl, _, _, rfl, rfl, q⟩) | exact v_int (by first | decide | omega) (by decide) (fun H Q q => ⟨_, _, rfl, rfl, ⟨by decide, by decide, by decide⟩, q⟩) | exact v_int (by first | decide | omega) (by decide) (fun H Q q => ⟨_, _, rfl, rfl, ⟨by decide, by decide, by decide⟩, _, _, rfl, rfl, q⟩) | exact v_int (by first | decide | omega) (by decide) (fun H Q q => ⟨_, _, rfl, rfl, ⟨by decide, by decide, by decide⟩, _, rfl, q⟩) | apply v_tup (n := 6200) (e := 3) (n' := 20000) (e' := 4) | apply v_tup (n := 2000) (e := 2) (n' := 6200) (e' := 3) | apply v_lst (n := 6200) (e := 3) (n' := 20000) (e' := 4) (dk := by assumption) | apply v_lst (n := 2000) (e := 2) (n' := 6200) (e' := 3) (dk := by assumption))) <;> (first | decide | skip)))) (by decide)) (by decide) (by decide)
      · exact ys_tv (yt_cat (yt_slice (y_var tv_stable rfl tv6) yo_none (yo_int fun H Q q => ⟨_, rfl, q⟩)) (yt_tup (n := 20000) (e := 4) (L := 2) (by decide) (by ((repeat' (first | exact ya_nil | apply ya_cons val_stable | exact v_non (by decide) | exact v_bl _ (by decide) | exact v_str (by decide +kernel) (by decide +kernel) (by decide) | exact v_dic (by decide) (by decide) | exact v_int (by first | decide | omega) (by decide) (fun H Q q => q) | exact v_int (by first | decide | omega) (by decide) (fun H Q q => ⟨_, rfl, q⟩) | exact v_int (by first | decide | omega) (by decide) (fun H Q q => ⟨_, rfl, _, _, rfl, rfl, q⟩) | exact v_int (by first | decide | omega) (by decide) (fun H Q q => ⟨_, _, rfl, rfl, ⟨by decide, by decide, by decide⟩, q⟩) | exact v_int (by first | decide | omega) (by decide) (fun H Q q => ⟨_, _, rfl, rfl, ⟨by decide, by decide, by decide⟩, _, _, rfl, rfl, q⟩) | exact v_int (by first | decide | omega) (by decide) (fun H Q q => ⟨_, _, rfl, rfl, ⟨by decide, by decide, by decide⟩, _, rfl, q⟩) | apply v_tup (n := 6200) (e := 3) (n' := 20000) (e' := 4) | apply v_tup (n := 2000) (e := 2) (n' := 6200) (e' := 3) | apply v_lst (n := 6200) (e := 3) (n' := 20000) (e' := 4) (dk := by assumption) | apply v_lst (n := 2000) (e := 2) (n' := 6200) (e' := 3) (dk := by assumption))) <;> (first | decide | skip)))) (by decide)) (by decide) (by decide)
      · exact ys_tv (yt_cat (y_var tv_stable rfl tv6) (yt_tup (n := 20000) (e := 4) (L := 1) (by decide) (by ((repeat' (first | exact ya_nil | apply ya_cons val_stable | exact v_non (by decide) | exact v_bl _ (by decide) | exact v_str (by decide +kernel) (by decide +kernel) (by decide) | exact v_dic (by decide) (by decide) | exact v_int (by first | decide | omega) (by decide) (fun H Q q => q) | exact v_int (by first | decide | omega) (by decide) (fun H Q q => ⟨_, rfl, q⟩) | exact v_int (by first | decide | omega) (by decide) (fun H Q q => ⟨_, rfl, _, _, rfl, rfl, q⟩) | exact v_int (by first | decide | omega) (by decide) (fun H Q q => ⟨_, _, rfl, rfl, ⟨by decide, by decide, by decide⟩, q⟩) | exact v_int (by first | decide | omega) (by decide) (fun H Q q => ⟨_, _, rfl, rfl, ⟨by decide, by decide, by decide⟩, _, _, rfl, rfl, q⟩) | exact v_int (by first | decide | omega) (by decide) (fun H Q q => ⟨_, _, rfl, rfl, ⟨by decide, by decide, by decide⟩, _, rfl, q⟩) | apply v_tup (n := 6200) (e := 3) (n' := 20000) (e' := 4) | apply v_tup (n := 2000) (e := 2) (n' := 6200) (e' := 3) | apply v_lst (n := 6200) (e := 3) (n' := 20000) (e' := 4) (dk := by assumption) | apply v_lst (n := 2000) (e := 2) (n' := 6200) (e' := 3) (dk := by assumption))) <;> (first | decide | skip)))) (by decide)) (by decide) (by decide)
    clear hL6 ul6 vs6 s6 tv6 st6
    intro σ6 H6 hM
    obtain ⟨L, us, e, s6, hL6, ul6, vs6⟩ := hM
    subst e
    -- the twin
    refine ⟨fun σ' H' => ∃ (tw : V), σ' = [some (.ref x), some (.ref a), some (.int (0 + (i : Nat))), some (.int m), some (.ref T), some (.ref pl), some (.ref pn), some (.int at_), some (od), some (.ref L), some (tw), y11, y12, y13, y14, y15, y16, y17] ∧ Same H6 H' ∧ Val K [a, c] 3000000 8 H' tw, ?_, ?_⟩
    · have hP6 := s6 _ _ hP5
      refine ⟨.ref pn, rfl, pn, rfl, ⟨_, SqT.of hP6⟩, fun D nD => ?_⟩
      refine lc_tup (K := K) (a := pn) (xs := xs) (fun j H' => ∃ acc, Same H6 H' ∧ H' D = some (.lst acc) ∧ acc.length = j ∧ ∀ y ∈ acc, TwP K H' y) ?_ ?_ ?_ ?_
      · exact ⟨[], same_upd nD, upd_same, rfl, fun y hy => absurd hy List.not_mem_nil⟩
      · intro j H' _ h
        obtain ⟨acc, s', _⟩ := h
        exact SqT.of (s' _ _ hP6)
      · intro j xv H7 hx h
        obtain ⟨acc, s7, hD7, al, two⟩ := h
        have hj : j < qs.length := by
          have := (List.getElem?_eq_some_iff.mp hx).1
          omega
        have eq : qs[j]? = some qs[j] := List.getElem?_eq_getElem hj
        obtain ⟨r, er, hr2⟩ := pre_get (n := qs.length) ((dv5.same s6).same s7) (by rw [← List.length_map (f := pairD), List.take_length]) eq
        rw [hx] at er
        cases er
        have si := qsm qs[j] (List.getElem_mem _)
        generalize qs[j] = qq at hr2 si
        refine ⟨r, _, rfl, hr2, rfl, _, _, rfl, _, _, rfl, rfl, rfl, ?_⟩
        refine ⟨.int qq.1, rfl, .int qq.2, rfl, .int qq.2, rfl, rfl, by show 2 ≤ sizeLine; decide, fun L2 nL => ?_⟩
        have sL := same_upd (o := .lst [.int qq.2, .bl (decide (V.int qq.2 = V.int 1))]) nL
        refine ⟨.int qq.2, rfl, _, 2, rfl, rfl, .inr ⟨_, rfl, L2, _, _, twV qq.2, rfl, rfl, SqL.of upd_same, ?_, ?_⟩⟩
        · unfold twV
          by_cases z : qq.2 < 2
          · rw [if_pos z, decide_eq_true z]
            rw [show decide (V.int qq.2 = V.int 1) = decide (qq.2 = 1) by
              by_cases y : qq.2 = 1
              · rw [decide_eq_true y, decide_eq_true (by rw [y])]
              · rw [decide_eq_false y, decide_eq_false (fun e => y (V.int.inj e))]]
            rfl
          · rw [if_neg z, decide_eq_false z]
            rfl
        · refine ⟨by show 2 ≤ sizeLine; decide, fun p np => ?_⟩
          have s8 := same_upd (o := .tup [.int qq.1, twV qq.2]) np
          have hD8 := s8 _ _ (sL _ _ hD7)
          have mv := stay_list (ws := acc ++ [V.ref p]) hD8
          refine ⟨acc, hD8, by rw [al]; exact small1000 (by omega), acc ++ [.ref p], ?_, upd_same, by rw [List.length_append, al]; rfl, fun y hy => ?_⟩
          · intro b ob eb
            rw [upd_ne (ne_of_none eb nD)]
            exact s8 _ _ (sL _ _ (s7 _ _ eb))
          · rcases List.mem_append.mp hy with z | z
            · exact (two y z).stay ((Stay.of_same (sL.trans s8)).trans mv)
            · rw [List.mem_singleton.mp z]
              exact TwP.stay mv ⟨p, _, _, rfl, SqT.of upd_same, si.1, si.2⟩
      · intro H7 h
        obtain ⟨acc, s7, hD7, al, two⟩ := h
        refine ⟨D, acc, rfl, .inl ⟨SqL.of hD7, fun T2 nT => ?_⟩⟩
        have s8 := same_upd (o := .tup acc) nT
        obtain ⟨ds, dv, nt⟩ := dvs_of (K := K) (B := [a, c]) (n := 20000) (e := 4) fun y hy => ((two y hy).stay (Stay.of_same s8)).val
        exact ⟨_, rfl, s7.trans s8, TV.val (L := 12) ⟨T2, acc, ds, rfl, SqT.of upd_same, dv, nt, by rw [← dv.len, al]; omega⟩ (by decide) (by decide)⟩
    intro σ7 H7 hM
    obtain ⟨tw, e, s7, vt7⟩ := hM
    subst e
    have s67 := s6.trans s7
    -- the last values
    refine ⟨fun σ' H' => ∃ (L : Addr) (us : List V), σ' = [some (.ref x), some (.ref a), some (.int (0 + (i : Nat))), some (.int m), some (.ref T), some (.ref pl), some (.ref pn), some (.int at_), some (od), some (.ref L), some (tw), y11, y12, y13, y14, y15, y16, y17] ∧ Same H5 H' ∧ H' L = some (.lst us) ∧ us.length = 22 ∧ V4 K [a, c] H' us, ?_, ?_⟩
    · have vp7 := val_stable _ _ _ s67 vp5
      refine cat_step (L := 8) rfl (s7 _ _ hL6) (by omega) (by decide) (vs6.same s7) ?_ fun p2 ws H' s' h2 l2 v2 => ⟨p2, _, rfl, s67.trans s', h2, by rw [List.length_append, ul6, l2], v2⟩
      refine ya_cons val_stable (y_var val_stable rfl vp7) (ya_cons val_stable (y_var val_stable rfl vt7) (ya_cons val_stable (y_var val_stable rfl vp7) (ya_cons val_stable (ys_up (n := 20000) (e := 4) ?_ (by decide) (by decide)) (ya_cons val_stable (ys_up (n := 20000) (e := 4) ?_ (by decide) (by decide)) (ya_cons val_stable (ys_up (n := 20000) (e := 4) ?_ (by decide) (by decide)) (ya_cons val_stable (ys_up (n := 20000) (e := 4) ?_ (by decide) (by decide)) (ya_cons val_stable (ys_up (n := 20000) (e := 4) ?_ (by decide) (by decide)) ya_nil)))))))
      · ((repeat' (first | exact ya_nil | apply ya_cons val_stable | exact v_non (by decide) | exact v_bl _ (by decide) | exact v_str (by decide +kernel) (by decide +kernel) (by decide) | exact v_dic (by decide) (by decide) | exact v_int (by first | decide | omega) (by decide) (fun H Q q => q) | exact v_int (by first | decide | omega) (by decide) (fun H Q q => ⟨_, rfl, q⟩) | exact v_int (by first | decide | omega) (by decide) (fun H Q q => ⟨_, rfl, _, _, rfl, rfl, q⟩) | exact v_int (by first | decide | omega) (by decide) (fun H Q q => ⟨_, _, rfl, rfl, ⟨by decide, by decide, by decide⟩, q⟩) | exact v_int (by first | decide | omega) (by decide) (fun H Q q => ⟨_, _, rfl, rfl, ⟨by decide, by decide, by decide⟩, _, _, rfl, rfl, q⟩) | exact v_int (by first | decide | omega) (by decide) (fun H Q q => ⟨_, _, rfl, rfl, ⟨by decide, by decide, by decide⟩, _, rfl, q⟩) | apply v_tup (n := 6200) (e := 3) (n' := 20000) (e' := 4) | apply v_tup (n := 2000) (e := 2) (n' := 6200) (e' := 3) | apply v_lst (n := 6200) (e := 3) (n' := 20000) (e' := 4) (dk := by assumption) | apply v_lst (n := 2000) (e := 2) (n' := 6200) (e' := 3) (dk := by assumption))) <;> (first | decide | skip))
      · ((repeat' (first | exact ya_nil | apply ya_cons val_stable | exact v_non (by decide) | exact v_bl _ (by decide) | exact v_str (by decide +kernel) (by decide +kernel) (by decide) | exact v_dic (by decide) (by decide) | exact v_int (by first | decide | omega) (by decide) (fun H Q q => q) | exact v_int (by first | decide | omega) (by decide) (fun H Q q => ⟨_, rfl, q⟩) | exact v_int (by first | decide | omega) (by decide) (fun H Q q => ⟨_, rfl, _, _, rfl, rfl, q⟩) | exact v_int (by first | decide | omega) (by decide) (fun H Q q => ⟨_, _, rfl, rfl, ⟨by decide, by decide, by decide⟩, q⟩) | exact v_int (by first | decide | omega) (by decide) (fun H Q q => ⟨_, _, rfl, rfl, ⟨by decide, by decide, by decide⟩, _, _, rfl, rfl, q⟩) | exact v_int (by first | decide | omega) (by decide) (fun H Q q => ⟨_, _, rfl, rfl, ⟨by decide, by decide, by decide⟩, _, rfl, q⟩) | apply v_tup (n := 6200) (e := 3) (n' := 20000) (e' := 4) | apply v_tup (n := 2000) (e := 2) (n' := 6200) (e' := 3) | apply v_lst (n := 6200) (e := 3) (n' := 20000) (e' := 4) (dk := by assumption) | apply v_lst (n := 2000) (e := 2) (n' := 6200) (e' := 3) (dk := by assumption))) <;> (first | decide | skip))
      · ((repeat' (first | exact ya_nil | apply ya_cons val_stable | exact v_non (by decide) | exact v_bl _ (by decide) | exact v_str (by decide +kernel) (by decide +kernel) (by decide) | exact v_dic (by decide) (by decide) | exact v_int (by first | decide | omega) (by decide) (fun H Q q => q) | exact v_int (by first | decide | omega) (by decide) (fun H Q q => ⟨_, rfl, q⟩) | exact v_int (by first | decide | omega) (by decide) (fun H Q q => ⟨_, rfl, _, _, rfl, rfl, q⟩) | exact v_int (by first | decide | omega) (by decide) (fun H Q q => ⟨_, _, rfl, rfl, ⟨by decide, by decide, by decide⟩, q⟩) | exact v_int (by first | decide | omega) (by decide) (fun H Q q => ⟨_, _, rfl, rfl, ⟨by decide, by decide, by decide⟩, _, _, rfl, rfl, q⟩) | exact v_int (by first | decide | omega) (by decide) (fun H Q q => ⟨_, _, rfl, rfl, ⟨by decide, by decide, by decide⟩, _, rfl, q⟩) | apply v_tup (n := 6200) (e := 3) (n' := 20000) (e' := 4) | apply v_tup (n := 2000) (e := 2) (n' := 6200) (e' := 3) | apply v_lst (n := 6200) (e := 3) (n' := 20000) (e' := 4) (dk := by assumption) | apply v_lst (n := 2000) (e := 2) (n' := 6200) (e' := 3) (dk := by assumption))) <;> (first | decide | skip))
      · ((repeat' (first | exact ya_nil | apply ya_cons val_stable | exact v_non (by decide) | exact v_bl _ (by decide) | exact v_str (by decide +kernel) (by decide +kernel) (by decide) | exact v_dic (by decide) (by decide) | exact v_int (by first | decide | omega) (by decide) (fun H Q q => q) | exact v_int (by first | decide | omega) (by decide) (fun H Q q => ⟨_, rfl, q⟩) | exact v_int (by first | decide | omega) (by decide) (fun H Q q => ⟨_, rfl, _, _, rfl, rfl, q⟩) | exact v_int (by first | decide | omega) (by decide) (fun H Q q => ⟨_, _, rfl, rfl, ⟨by decide, by decide, by decide⟩, q⟩) | exact v_int (by first | decide | omega) (by decide) (fun H Q q => ⟨_, _, rfl, rfl, ⟨by decide, by decide, by decide⟩, _, _, rfl, rfl, q⟩) | exact v_int (by first | decide | omega) (by decide) (fun H Q q => ⟨_, _, rfl, rfl, ⟨by decide, by decide, by decide⟩, _, rfl, q⟩) | apply v_tup (n := 6200) (e := 3) (n' := 20000) (e' := 4) | apply v_tup (n := 2000) (e := 2) (n' := 6200) (e' := 3) | apply v_lst (n := 6200) (e := 3) (n' := 20000) (e' := 4) (dk := by assumption) | apply v_lst (n := 2000) (e := 2) (n' := 6200) (e' := 3) (dk := by assumption))) <;> (first | decide | skip))
      · ((repeat' (first | exact ya_nil | apply ya_cons val_stable | exact v_non (by decide) | exact v_bl _ (by decide) | exact v_str (by decide +kernel) (by decide +kernel) (by decide) | exact v_dic (by decide) (by decide) | exact v_int (by first | decide | omega) (by decide) (fun H Q q => q) | exact v_int (by first | decide | omega) (by decide) (fun H Q q => ⟨_, rfl, q⟩) | exact v_int (by first | decide | omega) (by decide) (fun H Q q => ⟨_, rfl, _, _, rfl, rfl, q⟩) | exact v_int (by first | decide | omega) (by decide) (fun H Q q => ⟨_, _, rfl, rfl, ⟨by decide, by decide, by decide⟩, q⟩) | exact v_int (by first | decide | omega) (by decide) (fun H Q q => ⟨_, _, rfl, rfl, ⟨by decide, by decide, by decide⟩, _, _, rfl, rfl, q⟩) | exact v_int (by first | decide | omega) (by decide) (fun H Q q => ⟨_, _, rfl, rfl, ⟨by decide, by decide, by decide⟩, _, rfl, q⟩) | apply v_tup (n := 6200) (e := 3) (n' := 20000) (e' := 4) | apply v_tup (n := 2000) (e := 2) (n' := 6200) (e' := 3) | apply v_lst (n := 6200) (e := 3) (n' := 20000) (e' := 4) (dk := by assumption) | apply v_lst (n := 2000) (e := 2) (n' := 6200) (e' := 3) (dk := by assumption))) <;> (first | decide | skip))
    clear hL6 ul6 vs6 s6 s7 vt7 s67
    intro σ8 H8 hM
    obtain ⟨L, us, e, s8, hL8, ul8, vs8⟩ := hM
    subst e
    refine for_lst (cat_step (L := 4) rfl hL8 (by omega) (by decide) vs8 ?_ fun p2 ws H9 s9 h2 l2 v2 => ⟨p2, rfl, ⟨_, SqL.of h2⟩, ?_⟩)
    · refine ya_cons val_stable (v_dic (by decide) (by decide)) (ya_cons val_stable (v_str (by decide +kernel) (by decide +kernel) (by decide)) (ya_cons val_stable (v_int (by decide) (by decide) fun H Q q => q) (ya_cons val_stable (v_bl _ (by decide)) ya_nil)))
    have s59 := s8.trans s9
    have tls_f := tools_fine its (by omega) tl4
    refine for_list (K := K) (a := p2) (xs := us ++ ws) (fun j σ' H' => ∃ y11 y12 y13 y14 y15 y16 y17, σ' = [some (.ref x), some (.ref a), some (.int (0 + (i : Nat))), some (.int m), some (.ref T), some (.ref pl), some (.ref pn), some (.int at_), some (od), some (.ref L), some (tw), y11, y12, y13, y14, y15, y16, y17] ∧ Same H9 H') ?_ ?_ ?_ ?_
    · exact ⟨_, _, _, _, _, _, _, rfl, Same.refl _⟩
    · intro j σ' H' _ h
      obtain ⟨y11, y12, y13, y14, y15, y16, y17, e, sA⟩ := h
      exact SqL.of (sA _ _ h2)
    · intro j xv σ' HA hx h
      obtain ⟨y11, y12, y13, y14, y15, y16, y17, e, sA⟩ := h
      subst e
      obtain ⟨d, dv, nt⟩ := val_stable _ _ _ sA (v2 xv (List.mem_of_getElem? hx))
      have s5A := s59.trans sA
      have stA := st5.same s5A
      have rp : ∀ {H : Hp} {W : Addr}, Same HA H → H W = none → Dv K (upd H W (.lst [.ref T, xv, .ref pl])) [a, c] (.ref W) (.list [toolsD tls, d, tupD ps]) := by
        intro H W sH nW
        have sW := sH.trans (same_upd (o := .lst [.ref T, xv, .ref pl]) nW)
        exact .lst upd_same ((stA.same sH).new nW) (.cons (tools_dv (ta5.stay (.of_same (s5A.trans sW)))) (.cons (dv.same sW) (.cons (.tup (SqT.of (sW _ _ (s5A _ _ hp5))) (dvs_ints _)) .nil)))
      have rn : Neat (.list [toolsD tls, d, tupD ps]) 16000000 60 := by
        refine (neat_list (ds := [toolsD tls, d, tupD ps]) (n := 4000000) (e := 10) fun y hy => ?_).mono (by show 3 * (4000000 + 2) + 2 ≤ 16000000; decide) (by decide)
        simp only [List.mem_cons, List.not_mem_nil, or_false] at hy
        rcases hy with z | z | z
        · rw [z]
          exact tls_f.neat.mono (by decide) (by decide)
        · rw [z]
          exact nt.mono (by decide) (by decide)
        · rw [z]
          have := sorted_le asc rng
          exact (tupD_fine (ns := ps) (by omega) fun n hn => small_int (by have := rng n hn; omega)).neat.mono (by decide) (by decide)
      refine ⟨.ref T, rfl, xv, rfl, .ref pl, rfl, by show 3 ≤ sizeLine; decide, fun W nW => ?_⟩
      have sW := same_upd (o := .lst [.ref T, xv, .ref pl]) nW
      refine ⟨.ref W, _, [a, c], rfl, rp (Same.refl _) nW, rn, ?_⟩
      have pre : Pre K HA [a, c] m T tls xv d pl ps := ⟨hm1, by omega, ta5.stay (.of_same s5A), tl4, its, SqT.of (s5A _ _ hp5), asc, rng, dv⟩
      refine ⟨.int m, rfl, .ref T, rfl, xv, rfl, .ref pl, rfl, m, T, tls, xv, d, [a, c], pl, ps, [], rfl, pre.same sW, fun b hb => absurd hb List.not_mem_nil, fun r HB sB dr => ⟨_, _, rfl, ?_⟩⟩
      have sAB := sW.trans sB
      have rf := res_fine (tls := tls) (d := d) hm1 (by omega) asc rng
      refine ⟨2, rfl, by decide, by decide, fun D nD => ?_⟩
      refine lcRV (K := K) (fun _ => resD m tls ps d) (by decide) nD (fun v => rfl) ?_ ?_
      · intro k HC QC hk sC stC qC
        exact ⟨.int m, rfl, .ref T, rfl, xv, rfl, .ref pl, rfl, m, T, tls, xv, d, [a, c], pl, ps, [D], rfl, pre.same (sAB.trans sC), stC, fun r2 HE sE dr2 => qC _ HE sE dr2⟩
      · intro vs HC sC hD ha
        refine ⟨r, rfl, r, rfl, by show 2 ≤ sizeLine; decide, fun W2 nW2 => ?_⟩
        have sW2 := same_upd (o := .lst [r, r]) nW2
        have dpr := Dv.dp _ _ rf.nd ((dr.same sC).same sW2)
        have ha2 : DpAll K (upd HC W2 (.lst [r, r])) vs [resD m tls ps d, resD m tls ps d] := DvAll.dp _ _ (by show (_ || (_ || false)) = false; rw [rf.nd]; rfl) (ha.same sW2)
        refine ⟨D, W2, .list [resD m tls ps d, resD m tls ps d], rfl, .lst (SqL.of (sW2 _ _ hD)) ha2, .lst (SqL.of upd_same) (.cons dpr (.cons dpr .nil)), two_shows rf (by decide) (by decide), ?_⟩
        have sAE := (sAB.trans sC).trans sW2
        refine ⟨true, rfl, iteF ⟨.ref T, rfl, xv, rfl, .ref pl, rfl, by show 3 ≤ sizeLine; decide, fun W3 nW3 => ?_⟩⟩
        refine ⟨.ref W3, _, [a, c], rfl, rp sAE nW3, rn, _, rfl, rfl, _, rfl, ?_⟩
        rw [decide_eq_true rfl]
        exact iteF ⟨_, _, _, _, _, _, _, rfl, sA.trans (sAE.trans (same_upd nW3))⟩
    · intro σ' H' h
      obtain ⟨y11, y12, y13, y14, y15, y16, y17, e, sA⟩ := h
      subst e
      exact ⟨_, _, _, _, _, _, _, _, _, _, _, _, _, _, _, _, rfl, (dk5.same (s59.trans sA)).mono (by omega)⟩
  · intro σ' H' h
    exact q _

end

theorem has_mk {P : Program} {w : World} {K : PySem.W.Frag} {mg : Str → Option Value} {base : Heap} {k : Nat} {x : Str} {st : Stmt} {f : Addr} {fd : FuncData} {ps : List Str} {sp : Sp}
    (F : Fun K x x st f fd) (ok : FnOk P w K mg base CX0 k f fd ps sp) (hm : mg x = some (.ref f)) (hb : L2.Binds K fd ps []) : Has P w K mg base k x ps sp := ⟨f, fd, ok, hm, F.kp, hb⟩
theorem hasg_mk {P : Program} {w : World} {K : PySem.W.Frag} {mg : Str → Option Value} {base : Heap} {k : Nat} {x : Str} {st : Stmt} {f : Addr} {fd : FuncData} {ps : List Str} {sp : Sp}
    (F : Fun K x x st f fd) (ok : FnG P w K mg base k f fd ps sp) (hm : mg x = some (.ref f)) (hb : L2.Binds K fd ps []) : HasG P w K mg base k x ps sp := ⟨f, fd, ok, hm, F.kp, hb⟩
theorem all_mk {l : PySem.W.OpenLaw} {w : World} {K : PySem.W.Frag} {h : Heap} {mg : Str → Option Value} {fa : Addr} (X : K.In h) (G : h.Ns mainGlobals mg) (hfa : mg "law" = some (.ref fa))
    {f0 : Addr} {od0 an0 : Option Addr} {sl0 : Array (Option Value)} {oc0 kV0 dc0 pm0 cd0 ct0 : Value}
    (a0 : PySem.W.nsIn K mainGlobals "_law_deck" = some (some (.ref f0)))
    (l0 : K.lookup f0 = some ⟨oc0, od0, .func (PySem.W.fnOf "_law_deck" "_law_deck" (defArgs s__law_deck) (defBody s__law_deck) (defScope s__law_deck) .none kV0 dc0 pm0 an0 cd0 ct0), sl0⟩)
    (c0 : PySem.W.codeIn K cd0 "_law_deck" = true) (k0 : PySem.W.keepIn K (.ref f0) = true)
    {f1 : Addr} {od1 an1 : Option Addr} {sl1 : Array (Option Value)} {oc1 kV1 dc1 pm1 cd1 ct1 : Value}
    (a1 : PySem.W.nsIn K mainGlobals "_law_draw" = some (some (.ref f1)))
    (l1 : K.lookup f1 = some ⟨oc1, od1, .func (PySem.W.fnOf "_law_draw" "_law_draw" (defArgs s__law_draw) (defBody s__law_draw) (defScope s__law_draw) .none kV1 dc1 pm1 an1 cd1 ct1), sl1⟩)
    (c1 : PySem.W.codeIn K cd1 "_law_draw" = true) (k1 : PySem.W.keepIn K (.ref f1) = true)
    {f2 : Addr} {od2 an2 : Option Addr} {sl2 : Array (Option Value)} {oc2 kV2 dc2 pm2 cd2 ct2 : Value}
    (a2 : PySem.W.nsIn K mainGlobals "_law_distinct" = some (some (.ref f2)))
    (l2 : K.lookup f2 = some ⟨oc2, od2, .func (PySem.W.fnOf "_law_distinct" "_law_distinct" (defArgs s__law_distinct) (defBody s__law_distinct) (defScope s__law_distinct) .none kV2 dc2 pm2 an2 cd2 ct2), sl2⟩)
    (c2 : PySem.W.codeIn K cd2 "_law_distinct" = true) (k2 : PySem.W.keepIn K (.ref f2) = true)
    {f3 : Addr} {od3 an3 : Option Addr} {sl3 : Array (Option Value)} {oc3 kV3 dc3 pm3 cd3 ct3 : Value}
    (a3 : PySem.W.nsIn K mainGlobals "_law_tool" = some (some (.ref f3)))
    (l3 : K.lookup f3 = some ⟨oc3, od3, .func (PySem.W.fnOf "_law_tool" "_law_tool" (defArgs s__law_tool) (defBody s__law_tool) (defScope s__law_tool) .none kV3 dc3 pm3 an3 cd3 ct3), sl3⟩)
    (c3 : PySem.W.codeIn K cd3 "_law_tool" = true) (k3 : PySem.W.keepIn K (.ref f3) = true)
    {f4 : Addr} {od4 an4 : Option Addr} {sl4 : Array (Option Value)} {oc4 kV4 dc4 pm4 cd4 ct4 : Value}
    (a4 : PySem.W.nsIn K mainGlobals "target_of" = some (some (.ref f4)))
    (l4 : K.lookup f4 = some ⟨oc4, od4, .func (PySem.W.fnOf "target_of" "target_of" (defArgs s_target_of) (defBody s_target_of) (defScope s_target_of) .none kV4 dc4 pm4 an4 cd4 ct4), sl4⟩)
    (c4 : PySem.W.codeIn K cd4 "target_of" = true) (k4 : PySem.W.keepIn K (.ref f4) = true)
    {f5 : Addr} {od5 an5 : Option Addr} {sl5 : Array (Option Value)} {oc5 kV5 dc5 pm5 cd5 ct5 : Value}
    (a5 : PySem.W.nsIn K mainGlobals "_law_target" = some (some (.ref f5)))
    (l5 : K.lookup f5 = some ⟨oc5, od5, .func (PySem.W.fnOf "_law_target" "_law_target" (defArgs s__law_target) (defBody s__law_target) (defScope s__law_target) .none kV5 dc5 pm5 an5 cd5 ct5), sl5⟩)
    (c5 : PySem.W.codeIn K cd5 "_law_target" = true) (k5 : PySem.W.keepIn K (.ref f5) = true)
    {f6 : Addr} {od6 an6 : Option Addr} {sl6 : Array (Option Value)} {oc6 kV6 dc6 pm6 cd6 ct6 : Value}
    (a6 : PySem.W.nsIn K mainGlobals "_law_same" = some (some (.ref f6)))
    (l6 : K.lookup f6 = some ⟨oc6, od6, .func (PySem.W.fnOf "_law_same" "_law_same" (defArgs s__law_same) (defBody s__law_same) (defScope s__law_same) .none kV6 dc6 pm6 an6 cd6 ct6), sl6⟩)
    (c6 : PySem.W.codeIn K cd6 "_law_same" = true) (k6 : PySem.W.keepIn K (.ref f6) = true)
    {f7 : Addr} {od7 an7 : Option Addr} {sl7 : Array (Option Value)} {oc7 kV7 dc7 pm7 cd7 ct7 : Value}
    (a7 : PySem.W.nsIn K mainGlobals "push_place" = some (some (.ref f7)))
    (l7 : K.lookup f7 = some ⟨oc7, od7, .func (PySem.W.fnOf "push_place" "push_place" (defArgs s_push_place) (defBody s_push_place) (defScope s_push_place) .none kV7 dc7 pm7 an7 cd7 ct7), sl7⟩)
    (c7 : PySem.W.codeIn K cd7 "push_place" = true) (k7 : PySem.W.keepIn K (.ref f7) = true)
    {f8 : Addr} {od8 an8 : Option Addr} {sl8 : Array (Option Value)} {oc8 kV8 dc8 pm8 cd8 ct8 : Value}
    (a8 : PySem.W.nsIn K mainGlobals "push_places" = some (some (.ref f8)))
    (l8 : K.lookup f8 = some ⟨oc8, od8, .func (PySem.W.fnOf "push_places" "push_places" (defArgs s_push_places) (defBody s_push_places) (defScope s_push_places) .none kV8 dc8 pm8 an8 cd8 ct8), sl8⟩)
    (c8 : PySem.W.codeIn K cd8 "push_places" = true) (k8 : PySem.W.keepIn K (.ref f8) = true)
    {f9 : Addr} {od9 an9 : Option Addr} {sl9 : Array (Option Value)} {oc9 kV9 dc9 pm9 cd9 ct9 : Value}
    (a9 : PySem.W.nsIn K mainGlobals "_law_places" = some (some (.ref f9)))
    (l9 : K.lookup f9 = some ⟨oc9, od9, .func (PySem.W.fnOf "_law_places" "_law_places" (defArgs s__law_places) (defBody s__law_places) (defScope s__law_places) .none kV9 dc9 pm9 an9 cd9 ct9), sl9⟩)
    (c9 : PySem.W.codeIn K cd9 "_law_places" = true) (k9 : PySem.W.keepIn K (.ref f9) = true)
    {f10 : Addr} {od10 an10 : Option Addr} {sl10 : Array (Option Value)} {oc10 kV10 dc10 pm10 cd10 ct10 : Value}
    (a10 : PySem.W.nsIn K mainGlobals "_law_tools" = some (some (.ref f10)))
    (l10 : K.lookup f10 = some ⟨oc10, od10, .func (PySem.W.fnOf "_law_tools" "_law_tools" (defArgs s__law_tools) (defBody s__law_tools) (defScope s__law_tools) .none kV10 dc10 pm10 an10 cd10 ct10), sl10⟩)
    (c10 : PySem.W.codeIn K cd10 "_law_tools" = true) (k10 : PySem.W.keepIn K (.ref f10) = true)
    {f11 : Addr} {od11 an11 : Option Addr} {sl11 : Array (Option Value)} {oc11 kV11 dc11 pm11 cd11 ct11 : Value}
    (a11 : PySem.W.nsIn K mainGlobals "is_number" = some (some (.ref f11)))
    (l11 : K.lookup f11 = some ⟨oc11, od11, .func (PySem.W.fnOf "is_number" "is_number" (defArgs s_is_number) (defBody s_is_number) (defScope s_is_number) .none kV11 dc11 pm11 an11 cd11 ct11), sl11⟩)
    (c11 : PySem.W.codeIn K cd11 "is_number" = true) (k11 : PySem.W.keepIn K (.ref f11) = true)
    {f12 : Addr} {od12 an12 : Option Addr} {sl12 : Array (Option Value)} {oc12 kV12 dc12 pm12 cd12 ct12 : Value}
    (a12 : PySem.W.nsIn K mainGlobals "is_number_within" = some (some (.ref f12)))
    (l12 : K.lookup f12 = some ⟨oc12, od12, .func (PySem.W.fnOf "is_number_within" "is_number_within" (defArgs s_is_number_within) (defBody s_is_number_within) (defScope s_is_number_within) .none kV12 dc12 pm12 an12 cd12 ct12), sl12⟩)
    (c12 : PySem.W.codeIn K cd12 "is_number_within" = true) (k12 : PySem.W.keepIn K (.ref f12) = true)
    {f13 : Addr} {od13 an13 : Option Addr} {sl13 : Array (Option Value)} {oc13 kV13 dc13 pm13 cd13 ct13 : Value}
    (a13 : PySem.W.nsIn K mainGlobals "is_tuple_within" = some (some (.ref f13)))
    (l13 : K.lookup f13 = some ⟨oc13, od13, .func (PySem.W.fnOf "is_tuple_within" "is_tuple_within" (defArgs s_is_tuple_within) (defBody s_is_tuple_within) (defScope s_is_tuple_within) .none kV13 dc13 pm13 an13 cd13 ct13), sl13⟩)
    (c13 : PySem.W.codeIn K cd13 "is_tuple_within" = true) (k13 : PySem.W.keepIn K (.ref f13) = true)
    {f14 : Addr} {od14 an14 : Option Addr} {sl14 : Array (Option Value)} {oc14 kV14 dc14 pm14 cd14 ct14 : Value}
    (a14 : PySem.W.nsIn K mainGlobals "is_pair" = some (some (.ref f14)))
    (l14 : K.lookup f14 = some ⟨oc14, od14, .func (PySem.W.fnOf "is_pair" "is_pair" (defArgs s_is_pair) (defBody s_is_pair) (defScope s_is_pair) .none kV14 dc14 pm14 an14 cd14 ct14), sl14⟩)
    (c14 : PySem.W.codeIn K cd14 "is_pair" = true) (k14 : PySem.W.keepIn K (.ref f14) = true)
    {f15 : Addr} {od15 an15 : Option Addr} {sl15 : Array (Option Value)} {oc15 kV15 dc15 pm15 cd15 ct15 : Value}
    (a15 : PySem.W.nsIn K mainGlobals "_law_is_number" = some (some (.ref f15)))
    (l15 : K.lookup f15 = some ⟨oc15, od15, .func (PySem.W.fnOf "_law_is_number" "_law_is_number" (defArgs s__law_is_number) (defBody s__law_is_number) (defScope s__law_is_number) .none kV15 dc15 pm15 an15 cd15 ct15), sl15⟩)
    (c15 : PySem.W.codeIn K cd15 "_law_is_number" = true) (k15 : PySem.W.keepIn K (.ref f15) = true)
    {f16 : Addr} {od16 an16 : Option Addr} {sl16 : Array (Option Value)} {oc16 kV16 dc16 pm16 cd16 ct16 : Value}
    (a16 : PySem.W.nsIn K mainGlobals "is_turn" = some (some (.ref f16)))
    (l16 : K.lookup f16 = some ⟨oc16, od16, .func (PySem.W.fnOf "is_turn" "is_turn" (defArgs s_is_turn) (defBody s_is_turn) (defScope s_is_turn) .none kV16 dc16 pm16 an16 cd16 ct16), sl16⟩)
    (c16 : PySem.W.codeIn K cd16 "is_turn" = true) (k16 : PySem.W.keepIn K (.ref f16) = true)
    {f17 : Addr} {od17 an17 : Option Addr} {sl17 : Array (Option Value)} {oc17 kV17 dc17 pm17 cd17 ct17 : Value}
    (a17 : PySem.W.nsIn K mainGlobals "is_index" = some (some (.ref f17)))
    (l17 : K.lookup f17 = some ⟨oc17, od17, .func (PySem.W.fnOf "is_index" "is_index" (defArgs s_is_index) (defBody s_is_index) (defScope s_is_index) .none kV17 dc17 pm17 an17 cd17 ct17), sl17⟩)
    (c17 : PySem.W.codeIn K cd17 "is_index" = true) (k17 : PySem.W.keepIn K (.ref f17) = true)
    {f18 : Addr} {od18 an18 : Option Addr} {sl18 : Array (Option Value)} {oc18 kV18 dc18 pm18 cd18 ct18 : Value}
    (a18 : PySem.W.nsIn K mainGlobals "is_push" = some (some (.ref f18)))
    (l18 : K.lookup f18 = some ⟨oc18, od18, .func (PySem.W.fnOf "is_push" "is_push" (defArgs s_is_push) (defBody s_is_push) (defScope s_is_push) .none kV18 dc18 pm18 an18 cd18 ct18), sl18⟩)
    (c18 : PySem.W.codeIn K cd18 "is_push" = true) (k18 : PySem.W.keepIn K (.ref f18) = true)
    {f19 : Addr} {od19 an19 : Option Addr} {sl19 : Array (Option Value)} {oc19 kV19 dc19 pm19 cd19 ct19 : Value}
    (a19 : PySem.W.nsIn K mainGlobals "_law_is_push" = some (some (.ref f19)))
    (l19 : K.lookup f19 = some ⟨oc19, od19, .func (PySem.W.fnOf "_law_is_push" "_law_is_push" (defArgs s__law_is_push) (defBody s__law_is_push) (defScope s__law_is_push) .none kV19 dc19 pm19 an19 cd19 ct19), sl19⟩)
    (c19 : PySem.W.codeIn K cd19 "_law_is_push" = true) (k19 : PySem.W.keepIn K (.ref f19) = true)
    {f20 : Addr} {od20 an20 : Option Addr} {sl20 : Array (Option Value)} {oc20 kV20 dc20 pm20 cd20 ct20 : Value}
    (a20 : PySem.W.nsIn K mainGlobals "check_plan" = some (some (.ref f20)))
    (l20 : K.lookup f20 = some ⟨oc20, od20, .func (PySem.W.fnOf "check_plan" "check_plan" (defArgs s_check_plan) (defBody s_check_plan) (defScope s_check_plan) .none kV20 dc20 pm20 an20 cd20 ct20), sl20⟩)
    (c20 : PySem.W.codeIn K cd20 "check_plan" = true) (k20 : PySem.W.keepIn K (.ref f20) = true)
    {f21 : Addr} {od21 an21 : Option Addr} {sl21 : Array (Option Value)} {oc21 kV21 dc21 pm21 cd21 ct21 : Value}
    (a21 : PySem.W.nsIn K mainGlobals "after_plan" = some (some (.ref f21)))
    (l21 : K.lookup f21 = some ⟨oc21, od21, .func (PySem.W.fnOf "after_plan" "after_plan" (defArgs s_after_plan) (defBody s_after_plan) (defScope s_after_plan) .none kV21 dc21 pm21 an21 cd21 ct21), sl21⟩)
    (c21 : PySem.W.codeIn K cd21 "after_plan" = true) (k21 : PySem.W.keepIn K (.ref f21) = true)
    {f22 : Addr} {od22 an22 : Option Addr} {sl22 : Array (Option Value)} {oc22 kV22 dc22 pm22 cd22 ct22 : Value}
    (a22 : PySem.W.nsIn K mainGlobals "_law_due" = some (some (.ref f22)))
    (l22 : K.lookup f22 = some ⟨oc22, od22, .func (PySem.W.fnOf "_law_due" "_law_due" (defArgs s__law_due) (defBody s__law_due) (defScope s__law_due) .none kV22 dc22 pm22 an22 cd22 ct22), sl22⟩)
    (c22 : PySem.W.codeIn K cd22 "_law_due" = true) (k22 : PySem.W.keepIn K (.ref f22) = true)
    {f23 : Addr} {od23 an23 : Option Addr} {sl23 : Array (Option Value)} {oc23 kV23 dc23 pm23 cd23 ct23 : Value}
    (a23 : PySem.W.nsIn K mainGlobals "_law_told" = some (some (.ref f23)))
    (l23 : K.lookup f23 = some ⟨oc23, od23, .func (PySem.W.fnOf "_law_told" "_law_told" (defArgs s__law_told) (defBody s__law_told) (defScope s__law_told) .none kV23 dc23 pm23 an23 cd23 ct23), sl23⟩)
    (c23 : PySem.W.codeIn K cd23 "_law_told" = true) (k23 : PySem.W.keepIn K (.ref f23) = true)
    {f24 : Addr} {od24 an24 : Option Addr} {sl24 : Array (Option Value)} {oc24 kV24 dc24 pm24 cd24 ct24 : Value}
    (a24 : PySem.W.nsIn K mainGlobals "_law_odd_push" = some (some (.ref f24)))
    (l24 : K.lookup f24 = some ⟨oc24, od24, .func (PySem.W.fnOf "_law_odd_push" "_law_odd_push" (defArgs s__law_odd_push) (defBody s__law_odd_push) (defScope s__law_odd_push) .none kV24 dc24 pm24 an24 cd24 ct24), sl24⟩)
    (c24 : PySem.W.codeIn K cd24 "_law_odd_push" = true) (k24 : PySem.W.keepIn K (.ref f24) = true)
    {f25 : Addr} {od25 an25 : Option Addr} {sl25 : Array (Option Value)} {oc25 kV25 dc25 pm25 cd25 ct25 : Value}
    (a25 : PySem.W.nsIn K mainGlobals "law" = some (some (.ref f25)))
    (l25 : K.lookup f25 = some ⟨oc25, od25, .func (PySem.W.fnOf "law" "law" (defArgs s_law) (defBody s_law) (defScope s_law) .none kV25 dc25 pm25 an25 cd25 ct25), sl25⟩)
    (c25 : PySem.W.codeIn K cd25 "law" = true) (k25 : PySem.W.keepIn K (.ref f25) = true)
    (z_len : PySem.W.nsIn K mainGlobals "len" = some none)
    (z_range : PySem.W.nsIn K mainGlobals "range" = some none)
    (z_abs : PySem.W.nsIn K mainGlobals "abs" = some none)
    (z_list : PySem.W.nsIn K mainGlobals "list" = some none)
    (z_sorted : PySem.W.nsIn K mainGlobals "sorted" = some none)
    (z_min : PySem.W.nsIn K mainGlobals "min" = some none)
    (z_max : PySem.W.nsIn K mainGlobals "max" = some none)
    (z_tuple : PySem.W.nsIn K mainGlobals "tuple" = some none)
    (z_dict : PySem.W.nsIn K mainGlobals "dict" = some none)
    (z_repr : PySem.W.nsIn K mainGlobals "repr" = some none)
    (z_set : PySem.W.nsIn K mainGlobals "set" = some none)
    (z_sum : PySem.W.nsIn K mainGlobals "sum" = some none)
    (z_isinstance : PySem.W.nsIn K mainGlobals "isinstance" = some none)
    (z_int : PySem.W.nsIn K mainGlobals "int" = some none)
    (z_bool : PySem.W.nsIn K mainGlobals "bool" = some none)
    (z_enumerate : PySem.W.nsIn K mainGlobals "enumerate" = some none)
    (z_zip : PySem.W.nsIn K mainGlobals "zip" = some none)
    (z_str : PySem.W.nsIn K mainGlobals "str" = some none)
    (z_type : PySem.W.nsIn K mainGlobals "type" = some none)
    (z_reversed : PySem.W.nsIn K mainGlobals "reversed" = some none)
    (z_any : PySem.W.nsIn K mainGlobals "any" = some none)
    (z_all : PySem.W.nsIn K mainGlobals "all" = some none)
    {v_MAX_PLAN : Value} (g_MAX_PLAN : PySem.W.nsIn K mainGlobals "MAX_PLAN" = some (some v_MAX_PLAN)) (r_MAX_PLAN : ∃ t, v_MAX_PLAN = .int (100) t)
    {v_MAX_TURN : Value} (g_MAX_TURN : PySem.W.nsIn K mainGlobals "MAX_TURN" = some (some v_MAX_TURN)) (r_MAX_TURN : ∃ t, v_MAX_TURN = .int (10 ^ 30 - 1) t)
    {CP S CT CU fI : Addr} {nm qq : Str} {NN : Addr} {bs : List Value} {sn : List Str} {sub : List Value} {ab : Bool} {col : Option Bool} {dd : Option Addr} {q0 q1 q2 q3 q5 : Option Value}
    {ocI kVI dcI pmI cdI ctI : Value} {odI anI : Option Addr} {slI : Array (Option Value)}
    (c_g : PySem.W.nsIn K mainGlobals "BadPlan" = some (some (.ref CP))) (c_S : PySem.W.nsIn K mainGlobals "PushError" = some (some (.ref S))) (c_T : PySem.W.nsIn K mainGlobals "BadText" = some (some (.ref CT))) (c_U : PySem.W.nsIn K mainGlobals "BadTurn" = some (some (.ref CU)))
    (c_L : K.lookup CP = some (excClassObj nm qq CP NN bs [.ref S, .type "ValueError", .type "Exception", .type "BaseException", .type "object"] true sn sub ab col dd q0 q1 q2 q3 q5 "ValueError.__new__"))
    (c_sa : PySem.W.findIn K (.ref CP) "__setattr__" = some (some (.builtin "object.__setattr__"))) (c_ga : PySem.W.findIn K (.ref CP) "__getattribute__" = some (some (.builtin "BaseException.__getattribute__"))) (c_gg : PySem.W.findIn K (.ref CP) "__getattr__" = some none) (c_no : PySem.W.findIn K (.ref CP) "index" = some none)
    (c_i : PySem.W.findIn K (.ref CP) "__init__" = some (some (.ref fI))) (c_ti : PySem.W.typeIn K (.ref fI) = some (.type "function"))
    (c_l : K.lookup fI = some ⟨ocI, odI, .func (PySem.W.fnOf "__init__" "BadPlan.__init__" (defArgs s_BadPlan) (defBody s_BadPlan) (defScope s_BadPlan) .none kVI dcI pmI anI cdI ctI), slI⟩) (c_c : PySem.W.codeIn K cdI "BadPlan.__init__" = true) (c_k : PySem.W.keepIn K (.ref fI) = true)
    (c_kC : PySem.W.keepIn K (.ref CP) = true) (c_eC : PySem.W.subIn K (.ref CP) (.type "BaseException") = some true) (c_tC : PySem.W.typeIn K (.ref CP) = some (.type "type")) (c_hC : PySem.W.hasDictIn K CP = true)
    (c_ha : PySem.W.findIn K (.ref CP) "__class__" = some (some (.builtin "object.__class__"))) (c_hn : PySem.W.specialIn K (.builtin "object.__class__") "__get__" = some (some (.builtin "getset_descriptor.__get__"))) (c_ht : PySem.W.takesIn K (.builtin "object.__class__") = some true) (c_hm : PySem.W.mroIn K CP (.type "object") = some true)
    (c_eS : PySem.W.subIn K (.ref S) (.type "BaseException") = some true) (c_hS : PySem.W.hasDictIn K S = true) (c_tS : PySem.W.typeIn K (.ref S) = some (.type "type")) (c_su : PySem.W.subIn K (.ref CP) (.ref S) = some true)
    (c_k1 : PySem.W.kitOne K (.ref CP) (.ref CP) = some true) (c_k2 : PySem.W.kitAny K (.ref CP) [.ref CT, .ref CU] = some false)
    : ∃ fd : FuncData, (∀ (s : Shared) (v : Value), BindsTo s fd ⟨[v], []⟩ [("_law_script", v)]) ∧
      ∀ base : Heap, K.In base → base.Ns mainGlobals mg → (∃ o, base.get? sysModules = some o) → FnG l.prog w K mg base 8 fa fd ["_law_script"] (spLaw K) := by
  have e := hfa.symm.trans (PySem.W.mg_of X G a25)
  cases e
  have T : Bi mg := ⟨PySem.W.mg_none_of X G z_len, PySem.W.mg_none_of X G z_range, PySem.W.mg_none_of X G z_abs, PySem.W.mg_none_of X G z_list, PySem.W.mg_none_of X G z_sorted, PySem.W.mg_none_of X G z_min, PySem.W.mg_none_of X G z_max, PySem.W.mg_none_of X G z_tuple, PySem.W.mg_none_of X G z_dict, PySem.W.mg_none_of X G z_repr, PySem.W.mg_none_of X G z_set, PySem.W.mg_none_of X G z_sum, PySem.W.mg_none_of X G z_isinstance, PySem.W.mg_none_of X G z_int, PySem.W.mg_none_of X G z_bool, PySem.W.mg_none_of X G z_enumerate, PySem.W.mg_none_of X G z_zip, PySem.W.mg_none_of X G z_str, PySem.W.mg_none_of X G z_type, PySem.W.mg_none_of X G z_reversed, PySem.W.mg_none_of X G z_any, PySem.W.mg_none_of X G z_all⟩
  have G_MAX_PLAN : ∃ t, mg "MAX_PLAN" = some (.int (100) t) := by
    obtain ⟨t, e⟩ := r_MAX_PLAN
    exact ⟨t, by rw [← e]; exact PySem.W.mg_of X G g_MAX_PLAN⟩
  have G_MAX_TURN : ∃ t, mg "MAX_TURN" = some (.int (10 ^ 30 - 1) t) := by
    obtain ⟨t, e⟩ := r_MAX_TURN
    exact ⟨t, by rw [← e]; exact PySem.W.mg_of X G g_MAX_TURN⟩
  have F0 := fun_mk (st := s__law_deck) l0 c0 k0
  have b0 := F0.binds (ps := ["_law_script"]) fun _ _ _ _ _ _ us hl => match us, hl with | [_], _ => rfl
  have F1 := fun_mk (st := s__law_draw) l1 c1 k1
  have b1 := F1.binds (ps := ["_law_deck_here", "_law_limit"]) fun _ _ _ _ _ _ us hl => match us, hl with | [_, _], _ => rfl
  have F2 := fun_mk (st := s__law_distinct) l2 c2 k2
  have b2 := F2.binds (ps := ["_law_deck_here", "_law_m", "_law_many"]) fun _ _ _ _ _ _ us hl => match us, hl with | [_, _, _], _ => rfl
  have F3 := fun_mk (st := s__law_tool) l3 c3 k3
  have b3 := F3.binds (ps := ["_law_deck_here", "_law_m"]) fun _ _ _ _ _ _ us hl => match us, hl with | [_, _], _ => rfl
  have F4 := fun_mk (st := s_target_of) l4 c4 k4
  have b4 := F4.binds (ps := ["m", "tool", "place"]) fun _ _ _ _ _ _ us hl => match us, hl with | [_, _, _], _ => rfl
  have F5 := fun_mk (st := s__law_target) l5 c5 k5
  have b5 := F5.binds (ps := ["_law_m", "_law_tool_here", "_law_place"]) fun _ _ _ _ _ _ us hl => match us, hl with | [_, _, _], _ => rfl
  have F6 := fun_mk (st := s__law_same) l6 c6 k6
  have b6 := F6.binds (ps := ["_law_value", "_law_due_here"]) fun _ _ _ _ _ _ us hl => match us, hl with | [_, _], _ => rfl
  have F7 := fun_mk (st := s_push_place) l7 c7 k7
  have b7 := F7.binds (ps := ["m", "tool", "turn", "place"]) fun _ _ _ _ _ _ us hl => match us, hl with | [_, _, _, _], _ => rfl
  have F8 := fun_mk (st := s_push_places) l8 c8 k8
  have b8 := F8.binds (ps := ["m", "tool", "turn", "places"]) fun _ _ _ _ _ _ us hl => match us, hl with | [_, _, _, _], _ => rfl
  have F9 := fun_mk (st := s__law_places) l9 c9 k9
  have b9 := F9.binds (ps := ["_law_deck_here", "_law_m"]) fun _ _ _ _ _ _ us hl => match us, hl with | [_, _], _ => rfl
  have F10 := fun_mk (st := s__law_tools) l10 c10 k10
  have b10 := F10.binds (ps := ["_law_deck_here", "_law_m"]) fun _ _ _ _ _ _ us hl => match us, hl with | [_, _], _ => rfl
  have F11 := fun_mk (st := s_is_number) l11 c11 k11
  have b11 := F11.binds (ps := ["value"]) fun _ _ _ _ _ _ us hl => match us, hl with | [_], _ => rfl
  have F12 := fun_mk (st := s_is_number_within) l12 c12 k12
  have b12 := F12.binds (ps := ["value", "least", "most"]) fun _ _ _ _ _ _ us hl => match us, hl with | [_, _, _], _ => rfl
  have F13 := fun_mk (st := s_is_tuple_within) l13 c13 k13
  have b13 := F13.binds (ps := ["value", "least", "most"]) fun _ _ _ _ _ _ us hl => match us, hl with | [_, _, _], _ => rfl
  have F14 := fun_mk (st := s_is_pair) l14 c14 k14
  have b14 := F14.binds (ps := ["value"]) fun _ _ _ _ _ _ us hl => match us, hl with | [_], _ => rfl
  have F15 := fun_mk (st := s__law_is_number) l15 c15 k15
  have b15 := F15.binds (ps := ["_law_value", "_law_low", "_law_high"]) fun _ _ _ _ _ _ us hl => match us, hl with | [_, _, _], _ => rfl
  have F16 := fun_mk (st := s_is_turn) l16 c16 k16
  have b16 := F16.binds (ps := ["value"]) fun _ _ _ _ _ _ us hl => match us, hl with | [_], _ => rfl
  have F17 := fun_mk (st := s_is_index) l17 c17 k17
  have b17 := F17.binds (ps := ["items", "value"]) fun _ _ _ _ _ _ us hl => match us, hl with | [_, _], _ => rfl
  have F18 := fun_mk (st := s_is_push) l18 c18 k18
  have b18 := F18.binds (ps := ["tools", "value"]) fun _ _ _ _ _ _ us hl => match us, hl with | [_, _], _ => rfl
  have F19 := fun_mk (st := s__law_is_push) l19 c19 k19
  have b19 := F19.binds (ps := ["_law_many", "_law_value"]) fun _ _ _ _ _ _ us hl => match us, hl with | [_, _], _ => rfl
  have F20 := fun_mk (st := s_check_plan) l20 c20 k20
  have b20 := F20.binds (ps := ["tools", "value"]) fun _ _ _ _ _ _ us hl => match us, hl with | [_, _], _ => rfl
  have F21 := fun_mk (st := s_after_plan) l21 c21 k21
  have b21 := F21.binds (ps := ["m", "tools", "plan", "places"]) fun _ _ _ _ _ _ us hl => match us, hl with | [_, _, _, _], _ => rfl
  have F22 := fun_mk (st := s__law_due) l22 c22 k22
  have b22 := F22.binds (ps := ["_law_m", "_law_tools_here", "_law_plan", "_law_places_here"]) fun _ _ _ _ _ _ us hl => match us, hl with | [_, _, _, _], _ => rfl
  have F23 := fun_mk (st := s__law_told) l23 c23 k23
  have b23 := F23.binds (ps := ["_law_m", "_law_tools_here", "_law_plan", "_law_places_here"]) fun _ _ _ _ _ _ us hl => match us, hl with | [_, _, _, _], _ => rfl
  have F24 := fun_mk (st := s__law_odd_push) l24 c24 k24
  have b24 := F24.binds (ps := ["_law_deck_here", "_law_many"]) fun _ _ _ _ _ _ us hl => match us, hl with | [_, _], _ => rfl
  have F25 := fun_mk (st := s_law) l25 c25 k25
  refine ⟨PySem.W.fnOf "law" "law" (defArgs s_law) (defBody s_law) (defScope s_law) .none kV25 dc25 pm25 an25 cd25 ct25, fun s v => .of_eq rfl, fun base _ _ sys => ?_⟩
  have FI := fun_mk (st := s_BadPlan) c_l c_c c_k
  have bI := FI.binds (ps := ["self", "index"]) fun _ _ _ _ _ _ us hl => match us, hl with | [_, _], _ => rfl
  have EB : ErrC l.prog w K mg base "BadPlan" "index" CP := ⟨PySem.W.mg_of X G c_g, ⟨⟨nm, qq, NN, bs, _, sn, sub, ab, col, dd, q0, q1, q2, q3, q5, c_L, by rfl⟩, c_sa, c_eC, c_tC, c_kC⟩, ⟨c_ga, c_gg, c_eC, c_hC⟩, ⟨c_ga, c_gg, c_eC, c_hC, c_ha, c_hn, c_ht, c_hm⟩, c_no, fI, _, c_i, c_ti, ok_BadPlan FI, bI⟩
  have XS := exm_sub c_eS c_hS c_tS c_su
  have mS := PySem.W.mg_of X G c_S
  have mT := PySem.W.mg_of X G c_T
  have mU := PySem.W.mg_of X G c_U
  have h0 := has_mk (P := l.prog) (w := w) (base := base) F0 (ok_deck (P := l.prog) (w := w) (base := base) F0 T ) (PySem.W.mg_of X G a0) b0
  have h1 := has_mk (P := l.prog) (w := w) (base := base) F1 (ok_draw (P := l.prog) (w := w) (base := base) F1 T ) (PySem.W.mg_of X G a1) b1
  have h2 := has_mk (P := l.prog) (w := w) (base := base) F2 (ok_distinct (P := l.prog) (w := w) (base := base) F2 T h1) (PySem.W.mg_of X G a2) b2
  have h3 := has_mk (P := l.prog) (w := w) (base := base) F3 (ok_tool (P := l.prog) (w := w) (base := base) F3 T h1 h2) (PySem.W.mg_of X G a3) b3
  have h4 := has_mk (P := l.prog) (w := w) (base := base) F4 (ok_target_of (P := l.prog) (w := w) (base := base) F4 T ) (PySem.W.mg_of X G a4) b4
  have h5 := has_mk (P := l.prog) (w := w) (base := base) F5 (ok_ltarget (P := l.prog) (w := w) (base := base) F5 T ) (PySem.W.mg_of X G a5) b5
  have h6 := hasg_mk (P := l.prog) (w := w) (base := base) F6 (ok_same (P := l.prog) (w := w) (base := base) F6 T ) (PySem.W.mg_of X G a6) b6
  have h7 := has_mk (P := l.prog) (w := w) (base := base) F7 (ok_push (P := l.prog) (w := w) (base := base) F7 T h4) (PySem.W.mg_of X G a7) b7
  have h8 := has_mk (P := l.prog) (w := w) (base := base) F8 (ok_pushes (P := l.prog) (w := w) (base := base) F8 T h7) (PySem.W.mg_of X G a8) b8
  have h9 := has_mk (P := l.prog) (w := w) (base := base) F9 (ok_places (P := l.prog) (w := w) (base := base) F9 T h1 h2) (PySem.W.mg_of X G a9) b9
  have h10 := has_mk (P := l.prog) (w := w) (base := base) F10 (ok_tools (P := l.prog) (w := w) (base := base) F10 T h1 h3) (PySem.W.mg_of X G a10) b10
  have h11 := has_mk (P := l.prog) (w := w) (base := base) F11 (ok_is_number (P := l.prog) (w := w) (base := base) F11 T ) (PySem.W.mg_of X G a11) b11
  have h12 := has_mk (P := l.prog) (w := w) (base := base) F12 (ok_is_number_within (P := l.prog) (w := w) (base := base) F12 T h11) (PySem.W.mg_of X G a12) b12
  have h13 := has_mk (P := l.prog) (w := w) (base := base) F13 (ok_is_tuple_within (P := l.prog) (w := w) (base := base) F13 T ) (PySem.W.mg_of X G a13) b13
  have h14 := has_mk (P := l.prog) (w := w) (base := base) F14 (ok_is_pair (P := l.prog) (w := w) (base := base) F14 T h13) (PySem.W.mg_of X G a14) b14
  have h15 := has_mk (P := l.prog) (w := w) (base := base) F15 (ok__law_is_number (P := l.prog) (w := w) (base := base) F15 T ) (PySem.W.mg_of X G a15) b15
  have h16 := has_mk (P := l.prog) (w := w) (base := base) F16 (ok_is_turn (P := l.prog) (w := w) (base := base) F16 T G_MAX_TURN h12) (PySem.W.mg_of X G a16) b16
  have h17 := has_mk (P := l.prog) (w := w) (base := base) F17 (ok_is_index (P := l.prog) (w := w) (base := base) F17 T h12) (PySem.W.mg_of X G a17) b17
  have h18 := has_mk (P := l.prog) (w := w) (base := base) F18 (ok_is_push (P := l.prog) (w := w) (base := base) F18 T h14 h16 h17) (PySem.W.mg_of X G a18) b18
  have h19 := has_mk (P := l.prog) (w := w) (base := base) F19 (ok__law_is_push (P := l.prog) (w := w) (base := base) F19 T h15) (PySem.W.mg_of X G a19) b19
  have h20 := hasx_mk (P := l.prog) (w := w) (base := base) F20 (ok_check_plan (P := l.prog) (w := w) (base := base) F20 T G_MAX_PLAN EB h13 h18) (PySem.W.mg_of X G a20) b20
  have h21 := hasx_mk (P := l.prog) (w := w) (base := base) F21 (ok_after_plan (P := l.prog) (w := w) (base := base) F21 T EB h20 h8) (PySem.W.mg_of X G a21) b21
  have h22 := has_mk (P := l.prog) (w := w) (base := base) F22 (ok__law_due (P := l.prog) (w := w) (base := base) F22 T h19 h5) (PySem.W.mg_of X G a22) b22
  have h23 := has_mk (P := l.prog) (w := w) (base := base) F23 (ok__law_told (P := l.prog) (w := w) (base := base) F23 T EB mS mT mU XS c_k1 c_k2 h21) (PySem.W.mg_of X G a23) b23
  have h24 := has_mk (P := l.prog) (w := w) (base := base) F24 (ok__law_odd_push (P := l.prog) (w := w) (base := base) F24 T h1) (PySem.W.mg_of X G a24) b24
  exact ok_law F25 T sys h0 h1 h10 h9 h24 h22 h23 h6
end BP
open PySem PySem.W PyProof.Rows
set_option maxHeartbeats 0 in
theorem PySem.Challenge.cw_blindpush_k04_places_after_plans_holds : PySem.Challenge.rw_blindpush_k04_places_after_plans.Holds := by
  w_on; o_law; k_head; (case hw => w_witness2)
  k_fill
  refine BP.walkG (l := PySem.Challenge.rw_blindpush_k04_places_after_plans) (n := 63) (k := 8) (x := "_law_script") (sp := BP.spLaw) rfl (by decide) rfl ⟨rfl, by decide, by decide⟩ (by decide +kernel) (fun w h Y => PySem.W.kIn_of Y) ?F (fun _ _ a ns hl _ hS => ⟨a, ns, rfl, hS, hl, fun _ => rfl⟩)
  case F =>
    intro w mg fa h KX G hmg
    refine' BP.all_mk KX G hmg ?a0 ?l0 ?c0 ?k0 ?a1 ?l1 ?c1 ?k1 ?a2 ?l2 ?c2 ?k2 ?a3 ?l3 ?c3 ?k3 ?a4 ?l4 ?c4 ?k4 ?a5 ?l5 ?c5 ?k5 ?a6 ?l6 ?c6 ?k6 ?a7 ?l7 ?c7 ?k7 ?a8 ?l8 ?c8 ?k8 ?a9 ?l9 ?c9 ?k9 ?a10 ?l10 ?c10 ?k10 ?a11 ?l11 ?c11 ?k11 ?a12 ?l12 ?c12 ?k12 ?a13 ?l13 ?c13 ?k13 ?a14 ?l14 ?c14 ?k14 ?a15 ?l15 ?c15 ?k15 ?a16 ?l16 ?c16 ?k16 ?a17 ?l17 ?c17 ?k17 ?a18 ?l18 ?c18 ?k18 ?a19 ?l19 ?c19 ?k19 ?a20 ?l20 ?c20 ?k20 ?a21 ?l21 ?c21 ?k21 ?a22 ?l22 ?c22 ?k22 ?a23 ?l23 ?c23 ?k23 ?a24 ?l24 ?c24 ?k24 ?a25 ?l25 ?c25 ?k25 ?z_len ?z_range ?z_abs ?z_list ?z_sorted ?z_min ?z_max ?z_tuple ?z_dict ?z_repr ?z_set ?z_sum ?z_isinstance ?z_int ?z_bool ?z_enumerate ?z_zip ?z_str ?z_type ?z_reversed ?z_any ?z_all ?g_MAX_PLAN ?r_MAX_PLAN ?g_MAX_TURN ?r_MAX_TURN ?c_g ?c_S ?c_T ?c_U ?c_L ?c_sa ?c_ga ?c_gg ?c_no ?c_i ?c_ti ?c_l ?c_c ?c_k ?c_kC ?c_eC ?c_tC ?c_hC ?c_ha ?c_hn ?c_ht ?c_hm ?c_eS ?c_hS ?c_tS ?c_su ?c_k1 ?c_k2
    (case a0 => k_is)
    (case l0 => k_is)
    (case c0 => k_is)
    (case k0 => k_is)
    (case a1 => k_is)
    (case l1 => k_is)
    (case c1 => k_is)
    (case k1 => k_is)
    (case a2 => k_is)
    (case l2 => k_is)
    (case c2 => k_is)
    (case k2 => k_is)
    (case a3 => k_is)
    (case l3 => k_is)
    (case c3 => k_is)
    (case k3 => k_is)
    (case a4 => k_is)
    (case l4 => k_is)
    (case c4 => k_is)
    (case k4 => k_is)
    (case a5 => k_is)
    (case l5 => k_is)
    (case c5 => k_is)
    (case k5 => k_is)
    (case a6 => k_is)
    (case l6 => k_is)
    (case c6 => k_is)
    (case k6 => k_is)
    (case a7 => k_is)
    (case l7 => k_is)
    (case c7 => k_is)
    (case k7 => k_is)
    (case a8 => k_is)
    (case l8 => k_is)
    (case c8 => k_is)
    (case k8 => k_is)
    (case a9 => k_is)
    (case l9 => k_is)
    (case c9 => k_is)
    (case k9 => k_is)
    (case a10 => k_is)
    (case l10 => k_is)
    (case c10 => k_is)
    (case k10 => k_is)
    (case a11 => k_is)
    (case l11 => k_is)
    (case c11 => k_is)
    (case k11 => k_is)
    (case a12 => k_is)
    (case l12 => k_is)
    (case c12 => k_is)
    (case k12 => k_is)
    (case a13 => k_is)
    (case l13 => k_is)
    (case c13 => k_is)
    (case k13 => k_is)
    (case a14 => k_is)
    (case l14 => k_is)
    (case c14 => k_is)
    (case k14 => k_is)
    (case a15 => k_is)
    (case l15 => k_is)
    (case c15 => k_is)
    (case k15 => k_is)
    (case a16 => k_is)
    (case l16 => k_is)
    (case c16 => k_is)
    (case k16 => k_is)
    (case a17 => k_is)
    (case l17 => k_is)
    (case c17 => k_is)
    (case k17 => k_is)
    (case a18 => k_is)
    (case l18 => k_is)
    (case c18 => k_is)
    (case k18 => k_is)
    (case a19 => k_is)
    (case l19 => k_is)
    (case c19 => k_is)
    (case k19 => k_is)
    (case a20 => k_is)
    (case l20 => k_is)
    (case c20 => k_is)
    (case k20 => k_is)
    (case a21 => k_is)
    (case l21 => k_is)
    (case c21 => k_is)
    (case k21 => k_is)
    (case a22 => k_is)
    (case l22 => k_is)
    (case c22 => k_is)
    (case k22 => k_is)
    (case a23 => k_is)
    (case l23 => k_is)
    (case c23 => k_is)
    (case k23 => k_is)
    (case a24 => k_is)
    (case l24 => k_is)
    (case c24 => k_is)
    (case k24 => k_is)
    (case a25 => k_is)
    (case l25 => k_is)
    (case c25 => k_is)
    (case k25 => k_is)
    (case z_len => k_is)
    (case z_range => k_is)
    (case z_abs => k_is)
    (case z_list => k_is)
    (case z_sorted => k_is)
    (case z_min => k_is)
    (case z_max => k_is)
    (case z_tuple => k_is)
    (case z_dict => k_is)
    (case z_repr => k_is)
    (case z_set => k_is)
    (case z_sum => k_is)
    (case z_isinstance => k_is)
    (case z_int => k_is)
    (case z_bool => k_is)
    (case z_enumerate => k_is)
    (case z_zip => k_is)
    (case z_str => k_is)
    (case z_type => k_is)
    (case z_reversed => k_is)
    (case z_any => k_is)
    (case z_all => k_is)
    (case c_g => first | rfl | k_is)
    (case c_S => first | rfl | k_is)
    (case c_T => first | rfl | k_is)
    (case c_U => first | rfl | k_is)
    (case c_L => first | rfl | k_is)
    (case c_sa => first | rfl | k_is)
    (case c_ga => first | rfl | k_is)
    (case c_gg => first | rfl | k_is)
    (case c_no => first | rfl | k_is)
    (case c_i => first | rfl | k_is)
    (case c_ti => first | rfl | k_is)
    (case c_l => first | rfl | k_is)
    (case c_c => first | rfl | k_is)
    (case c_k => first | rfl | k_is)
    (case c_kC => first | rfl | k_is)
    (case c_eC => first | rfl | k_is)
    (case c_tC => first | rfl | k_is)
    (case c_hC => first | rfl | k_is)
    (case c_ha => first | rfl | k_is)
    (case c_hn => first | rfl | k_is)
    (case c_ht => first | rfl | k_is)
    (case c_hm => first | rfl | k_is)
    (case c_eS => first | rfl | k_is)
    (case c_hS => first | rfl | k_is)
    (case c_tS => first | rfl | k_is)
    (case c_su => first | rfl | k_is)
    (case c_k1 => first | rfl | k_is)
    (case c_k2 => first | rfl | k_is)
    (case g_MAX_PLAN => k_is)
    (case r_MAX_PLAN => exact ⟨_, rfl⟩)
    (case g_MAX_TURN => k_is)
    (case r_MAX_TURN => exact ⟨_, rfl⟩)
