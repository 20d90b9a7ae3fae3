import PyProof.Rows.All
import Wide.All
import OpenK.AllK
import Wide.FinOn
import HandS.ForMost
import HandS.Conv
import HandS.Codes
import HandS.Style
import HandS.SortInts
import HandS.Wide
import HandS.Zip
import PyProof.ReprRoads
import KE.KDictPairs
import PySem.Challenge.RW_blindpush_k07_widths_of_lengths
set_option Elab.async false
set_option linter.all false
set_option maxRecDepth 100000
set_option maxHeartbeats 4000000
set_option exponentiation.threshold 2000
namespace BP
open PySem PySem.Spec PyProof.Rows L2

/-! ### defs that are called while no repr is under way -/
structure FnG (P : Program) (w : World) (K : PySem.W.Frag) (mg : Str → Option Value) (base : Heap)
    (k : Nat) (f : Addr) (fd : FuncData) (ps : List Str) (sp : Sp) : Prop where
  glen : ∀ vs H Q E, sp vs H Q E → vs.length = ps.length
  grun : ∀ (A : Around) (outer : List Env) (s : Shared) (H : Hp) (args : Args) (us : List Value)
    (vs : List V) (Q : VK) (E : XK), A.guards = some [] → Room k A → Env0 P w K mg base A outer s H →
    BindsTo s fd args (ps.zip us) → Vals vs us → sp vs H Q E →
    codeAny (model P w) A (.call (.ref f) args) (CR CX0 outer P w H s Q E) s

section
variable {P : Program} {w : World} {K : PySem.W.Frag} {mg : Str → Option Value} {base : Heap}
theorem fung_ok {x qual : Str} {st : Stmt} {f : Addr} {fd : FuncData} {N ps : List Str} {k : Nat} {sp : Sp}
    (F : Fun K x qual st f fd) (S : FnScope N ps (defScope st))
    (hlen : ∀ vs H Q E, sp vs H Q E → vs.length = ps.length)
    (hbody : ∀ (cdv : Value) (A : Around) (outer : List Env) (s : Shared) (H : Hp) (vs : List V) (Q : VK) (E : XK),
      A.guards = some [] →
      Room k (A.deeper (envOfC qual (defScope st) s.heap.objs.size f cdv)) → sp vs H Q E →
      ∃ t, PSs (cxOf CX0 P w K mg base N qual (defScope st) f cdv A outer s H E).nox (defBody st) t ∧
        t { nx := fun _ H' => Q .non H', rt := Q } (start N vs) H) :
    FnG P w K mg base (k + 1) f fd ps sp := by
  obtain ⟨oc, od, kV, doc, pm, an, cdv, ct, osl, hfd, lk, hcd⟩ := F.ex
  subst hfd
  constructor
  · exact hlen
  · intro A outer s H args us vs Q E hg hr e0 hb r hsp
    have hl := hlen vs H Q E hsp
    have kin : K.In s.heap := e0.mod.kin.keeps fun b o e => (e0.bs b o e).1
    have nol : s.heap.NoLimit := e0.mod.nolimit.keeps fun b o e => (e0.bs b o e).1
    have hkd : ∀ y ∈ ps.zip us, (defScope st).names.lookup y.1 = some .local ∨
        ((defScope st).names.lookup y.1 = some .cell ∧
          ((cellsFrom (s.heap.objs.size + 1) (defScope st).names []).lookup y.1).isSome = true) := by
      intro y hy
      obtain ⟨n, v⟩ := y
      have hn : n ∈ ps := (List.of_mem_zip hy).1
      cases S.par n hn with
      | inl q => exact Or.inl q
      | inr q => exact Or.inr ⟨q, PySem.W.cellsFrom_some _ _ _ (Or.inl q)⟩
    apply codeAny_call_function hr.depth (kin _ _ lk) rfl S.co S.gen rfl (PySem.W.codeRec_of kin hcd)
    apply hb
    apply wpAny_newFunctionEnv_cells S.kind hkd
    intro env he s1 x
    cases he
    refine ⟨nol.keeps x.toInCall.keep, codeAny_func ?_⟩
    obtain ⟨t, ht, hq⟩ := hbody cdv A outer s H vs Q E hg (hr.deeper _) hsp
    have I := inv_start (CX := CX0) (E := E) S hr.hd e0 hl r x
    refine wpAny_mono (ht.nox.run [] s1 (start N vs) H _ I hq) (fun fl s' hs => ?_) fun e s' hs => hs
    cases fl with
    | ret u =>
      obtain ⟨v, σ', H', J, rv, q⟩ := hs
      exact ⟨v, H', J.os, J.bare, J.base, J.hok, rv, q⟩
    | next =>
      obtain ⟨σ', H', J, q⟩ := hs
      exact ⟨V.non, H', J.os, J.bare, J.base, J.hok, rfl, q⟩
    | brk =>
      obtain ⟨_, _, _, q⟩ := hs
      exact q.elim
    | cont =>
      obtain ⟨_, _, _, q⟩ := hs
      exact q.elim
end
section
variable {X : Cx} {k : Nat} {f : Addr} {fd : FuncData} {ps : List Str} {sp : Sp} {x : Str} {p pos : Pos} {e : Expr} {es : List Expr} {t : TA}
/-- f(e, ..), f a def of the kind above -/
theorem pe_callG (F : FnG X.prog X.w X.K X.mg X.base k f fd ps sp) (hgd : X.A.guards = some []) (hr : Room k X.A)
    (hg : Gl X x) (hm : X.mg x = some (.ref f)) (hk : PySem.W.keepIn X.K (.ref f) = true)
    (hb : Binds X.K fd ps []) (ha : PA X (e :: es) t)
    (hdb : (x == ("__debug__" : Str)) = false := by decide)
    (he : starEach (e :: es) X.env = (false, eval e X.env) :: starEach es X.env := by rfl)
    (hpl : (backTo pos (starEach es X.env)).any (·.1) = false := by rfl) :
    PE X (.Call (.Name x p) (e :: es) [] pos) (tCall sp [] E0 t) := by
  constructor
  intro pins s σ H Q I h
  apply wpAny_Call_Name_kw
  apply ld_glob I hg hm _ hdb
  apply PySem.W.callWith_K (h₀ := X.base) I.ok.mod.kin hk _ he hpl
  refine thn (ha.run pos pins s σ H _ I h) fun us s1 ⟨vs, H1, I1, r, q⟩ => ⟨I1.kIn, ?_⟩
  have q : sp (vs ++ []) H1 Q E0 := q
  rw [List.append_nil] at q
  have hl : us.length = ps.length := by
    rw [← r.length]
    exact F.glen _ _ _ _ q
  have hbb := hb s1 us I1.kIn (by rw [List.append_nil]; exact hl)
  rw [List.append_nil] at hbb
  refine wpAny_call (codeAny_mono (F.grun X.A X.stack s1 H1 ⟨us, []⟩ us vs Q E0 hgd hr I1.env0 hbb r q) fun r s' hq => ?_)
  cases r with
  | error e => exact hq.elim
  | ok fl => cases fl with
    | ret u => exact I1.after hq
    | next => exact hq.elim
    | brk => exact hq.elim
    | cont => exact hq.elim
/-- repr of data -/
def rRepr (K : PySem.W.Frag) : List V → Hp → VK → Prop := fun xs H Q =>
  ∃ a d, xs = [.ref a] ∧ Dp K H (.ref a) d ∧ d.showable = true ∧ d.hasDict = false ∧ d.depth ≤ 60 ∧ d.shown.length ≤ sizeLine ∧ Q (.str d.shown) H
theorem call_reprD (hgd : X.A.guards = some []) (hu : X.A.units + 64 < cLine) : CallR X (.builtin "repr") (rRepr X.K) := by
  intro pins s σ H xs us Q I r h
  obtain ⟨a, d, rfl, hd, hs, hnd, hdp, hz, q⟩ := h
  obtain ⟨u, rfl, rx⟩ := vals1 r
  cases rx
  obtain ⟨as, rd⟩ := Dp.reads I d _ _ hd rfl
  refine repr_of_reads' rd hs (PyData.noDict_hsm hnd) hgd (by omega) (fun b o e => e) ?_ hz
  intro h' u tk hk
  exact ⟨.str d.shown, H, I.kept hk, ⟨u, rfl⟩, q⟩
end
/-! ### the law's own call, for a def of that kind -/
theorem lawG {P : Program} {w : World} {K : PySem.W.Frag} {mg mb : Str → Option Value} {k : Nat} {fa a : Addr} {fd : FuncData}
    {x : Str} {sp : Sp} {s₁ : Shared} {vs : List Value} {ns : List Int}
    (KX : K.In s₁.heap) (hns : s₁.heap.Ns mainGlobals mg) (hb : s₁.heap.Ns builtinsNs mb)
    (hbb : ∀ x : Str, x ≠ "__name__" → mb x = bootBuiltins x) (hlim : s₁.heap.NoLimit) (hg : s₁.gens = #[])
    (ha : s₁.heap.get? a = some { cls := .type "list", data := .seq vs.toArray }) (hi : IntsAre vs ns)
    (hl : ns.length ≤ sizeLine) (hr : Room k callerA)
    (hsy : ∃ mm, s₁.heap.Ns sysModules mm)
    (F : ∀ base : Heap, K.In base → base.Ns mainGlobals mg → (∃ o, base.get? sysModules = some o) → FnG P w K mg base k fa fd [x] sp)
    (hbind : ∀ (s : Shared) (u : Value), BindsTo s fd ⟨[u], []⟩ [(x, u)])
    (hsp : ∀ H : Hp, Only H → SqL K H a (ns.map V.int) → sp [.ref a] H (fun v _ => v = .bl true) E0) :
    codeAny (model P w) callerA (.call (.ref fa) ⟨[.ref a], []⟩)
      (fun r s' => r = .ok (.ret (.bool true)) ∧ OldK s₁.heap s'.heap ∧ s'.os = s₁.os ∧ AllBare s'.gens) s₁ := by
  have rv := vals_ints hi
  have lenV := hi.length
  have main : ∀ T : Hp, Only T → SqL K T a (ns.map V.int) → HOk P w T s₁.heap → (∀ b, T b ≠ none → b = a) →
      (T a ≠ none → K.lookup a = none) →
      codeAny (model P w) callerA (.call (.ref fa) ⟨[.ref a], []⟩)
        (fun r s' => r = .ok (.ret (.bool true)) ∧ OldK s₁.heap s'.heap ∧ s'.os = s₁.os ∧ AllBare s'.gens) s₁ := by
    intro T tO tS tok tA tK
    have free_dict : ∀ {b : Addr} {o : Obj} {es : Array DictEntry} {ep : Nat},
        s₁.heap.get? b = some o → o.data = .dict es ep → T b = none := by
      intro b o es ep e d
      by_cases hz : T b = none
      · exact hz
      · have hba := tA b hz
        rw [hba, ha] at e
        cases e
        cases d
    have keepNs : ∀ {b : Addr} {m : Str → Option Value}, s₁.heap.Ns b m → (hidT s₁.heap T).Ns b m := by
      intro b m hh
      obtain ⟨o, es, ep, e, d, r⟩ := hh
      exact ⟨o, es, ep, hidT_get e (free_dict e d), d, r⟩
    have kB : K.In (hidT s₁.heap T) := by
      intro b o e
      refine hidT_get (KX b o e) ?_
      by_cases hz : T b = none
      · exact hz
      · have hba := tA b hz
        subst hba
        rw [tK hz] at e
        cases e
    obtain ⟨mc, c1, c2⟩ := hlim
    have md : Mod K mg (hidT s₁.heap T) := ⟨kB, keepNs hns, ⟨mb, keepNs hb, hbb⟩, ⟨mc, keepNs c1, c2⟩⟩
    have en : Env0 P w K mg (hidT s₁.heap T) callerA [] s₁ T := by
      refine ⟨rfl, md, fun b o e => of_hidT e, Nat.le_of_eq (hidT_size _ _), trivial, ?_, tok, .of_eq hg⟩
      intro b hb
      exact absurd (show b ∈ ([] : List Addr) from hb) List.not_mem_nil
    have sy : ∃ o, (hidT s₁.heap T).get? sysModules = some o := by
      obtain ⟨mm, h⟩ := hsy
      obtain ⟨o, es, ep, e, _⟩ := keepNs h
      exact ⟨o, e⟩
    have go := (F _ kB (keepNs hns) sy).grun callerA [] s₁ T ⟨[.ref a], []⟩ [.ref a] [.ref a] _ _ rfl hr en
      (hbind s₁ (.ref a)) (.cons rfl .nil) (hsp T tO tS)
    refine codeAny_mono go fun r s' h => ?_
    cases r with
    | error e => exact h.elim
    | ok fl => cases fl with
      | next => exact h.elim
      | brk => exact h.elim
      | cont => exact h.elim
      | ret u =>
        obtain ⟨v, T', os, bare, un, hok', r', q⟩ := h
        have qv : v = .bl true := q
        subst qv
        have ru : u = Value.bool true := r'
        subst ru
        refine ⟨rfl, OldK.of_keep ?_, os, bare⟩
        intro b o e
        rcases tO b with z | ⟨ob, xs, z⟩
        · refine un.keep b o e z ?_ ?_
          · intro z'
            exact absurd (show b ∈ ([] : List Addr) from z') List.not_mem_nil
          · exact List.not_mem_nil
        · obtain ⟨e1, _⟩ := tok b _ z
          obtain ⟨e2, _⟩ := hok' b _ (un.frzs b ob _ z)
          rw [e] at e1
          cases e1
          exact e2
  cases hk : K.lookup a with
  | some o =>
    have e := KX a o hk
    rw [ha] at e
    cases e
    refine main (fun _ => none) (fun _ => .inl rfl) ?_ ?_ ?_ ?_
    · exact .inr ⟨_, vs.toArray, _, hk, rfl, rfl, rfl, by rw [List.size_toArray, lenV]; exact hl, by simpa using rv⟩
    · intro b u z
      cases (show (none : Option HO) = some u from z)
    · intro b z
      exact absurd rfl z
    · intro z
      exact absurd rfl z
  | none =>
    refine main (fun b => if b = a then some (.frz { cls := .type "list", data := .seq vs.toArray } (.lst (ns.map V.int))) else none) ?_ ?_ ?_ ?_ (fun _ => hk)
    · intro b
      by_cases h0 : b = a
      · exact .inr ⟨_, _, if_pos h0⟩
      · exact .inl (if_neg h0)
    · exact .inl (.inr ⟨{ cls := .type "list", data := .seq vs.toArray }, if_pos rfl⟩)
    · intro b u z
      by_cases h0 : b = a
      · subst h0
        cases (if_pos rfl).symm.trans z
        exact ⟨ha, by rw [List.length_map]; exact hl, vs, _, rv, ha⟩
      · cases (if_neg h0).symm.trans z
    · intro b z
      by_cases h0 : b = a
      · exact h0
      · exact absurd (if_neg h0) z
theorem walkG {l : PySem.W.OpenLaw} {n k : Nat} {q : Program} {loose : List Str} {XP : (Str → Option Value) → Heap → Prop}
    {YP : World → Heap → Prop} {d : DefRec} {K : Params → PySem.W.Frag} {sp : PySem.W.Frag → Sp} {x : Str}
    (hn : l.most = some n) (hn2 : n ≤ sizeLine) (hdf : d.params.defaults = []) (hr : Room k callerA) (hin : importsNone q = true)
    (hY : ∀ (w : World) (h : Heap), YP w h → (K w.params).In h)
    (F : ∀ (w : World) (mg : Str → Option Value) (fa : Addr) (h : Heap), (K w.params).In h → h.Ns mainGlobals mg →
      mg d.name = some (.ref fa) → ∃ fd : FuncData, (∀ (s : Shared) (u : Value), BindsTo s fd ⟨[u], []⟩ [(x, u)]) ∧
        ∀ base : Heap, (K w.params).In base → base.Ns mainGlobals mg → (∃ o, base.get? sysModules = some o) → FnG l.prog w (K w.params) mg base k fa fd [x] (sp (K w.params)))
    (hsp : ∀ (K : PySem.W.Frag) (H : Hp) (a : Addr) (ns : List Int), ns.length ≤ n → Only H → SqL K H a (ns.map V.int) →
      sp K [.ref a] H (fun v _ => v = .bl true) E0) :
    PySem.W.WalkO q loose XP YP l.row.toRowW d [] (fun f vs => PySem.call f vs) := by
  apply Att.attach_call hn hdf
  intro w s₀ s₁ mg mb fa o pm cd doc a vs ns G Y ho hd hcd hmg hobj hints hlen hg
  have KX := hY w _ Y
  obtain ⟨fd, hb, hF⟩ := F w mg fa _ KX G.T.g hmg
  exact lawG KX G.T.g G.T.b G.T.builtins G.T.nolimit hg hobj hints (Nat.le_trans hlen hn2) hr (let ⟨mm, h, _⟩ := (G.T.seer hin).mods; ⟨mm, h⟩) hF hb
    (fun H hO hS => hsp _ H a ns hlen hO hS)
section
variable {X : Cx}
/-- tuple(xs), xs a list: the new tuple as an object that bears no dict -/
theorem call_tupleF : CallR X (.type "tuple") (fun xs H Q => ∃ p ys, xs = [.ref p] ∧ SqL X.K H p ys ∧
    ∀ (l : Addr) (o : Obj), H l = none → o.dict = none → Q (.ref l) (upd H l (.frz o (.tup ys)))) := by
  intro pins s σ H xs us Q I r h
  obtain ⟨p, ys, e, hq, q⟩ := h
  subst e
  obtain ⟨u, e, rx⟩ := vals1 r
  subst e
  cases rx
  obtain ⟨its, r', pl, hz⟩ := I.list hq
  have hlen := r'.length
  refine call_tuple_list pl.isList (fun h' kp => ?_) (by simp only [List.size_toArray] <;> omega)
  have I1 := I.kept (t' := s.toks) kp
  have I2 := I1.laid (t' := s.toks) (a := h'.objs.size) (o := .frz { cls := .type "tuple", data := .seq its.toArray } (.tup ys))
    (h' := h'.push { cls := .type "tuple", data := .seq its.toArray })
    (fun b o e => Heap.get?_push_of_some _ e) (Nat.le_refl _) ⟨Heap.get?_push_size _ rfl, hz, its, r', IsTup.new _ _⟩
  exact ⟨.ref h'.objs.size, _, I2, rfl, q _ _ (I1.hok.fresh (Nat.le_refl _)) rfl⟩
/-- a written tuple, as an object that bears no dict -/
def tTupF (t : TA) : TE := fun σ H Q => t σ H fun xs H1 => xs.length ≤ sizeLine ∧
  ∀ (p : Addr) (o : Obj), H1 p = none → o.dict = none → Q (.ref p) (upd H1 p (.frz o (.tup xs)))
theorem pe_tupF {es : List Expr} {t : TA} {pos : Pos} {x1} (h : PA X es t) : PE X (.Tuple es x1 pos) (tTupF t) := by
  constructor
  intro pins s σ H Q I hq
  apply wpAny_Tuple_spliced
  refine thn (h.run pos pins s σ H _ I hq) fun us s1 ⟨xs, H1, I1, r, z, q⟩ => ?_
  refine ⟨by rw [← r.length]; exact z, ?_⟩
  have hf := I1.hok.fresh (Nat.le_refl s1.heap.objs.size)
  refine ⟨.ref s1.heap.objs.size, upd H1 s1.heap.objs.size (.frz { cls := .type "tuple", data := .seq us.toArray } (.tup xs)), ?_, rfl, q _ _ hf rfl⟩
  exact I1.laid (t' := s1.toks) (fun b u e => Heap.get?_push_of_some _ e) (Nat.le_refl _)
    ⟨Heap.get?_push_size _ rfl, z, us, r, ⟨_, Heap.get?_push_size _ rfl, rfl, _, rfl⟩⟩
theorem pairs_of2 {pins : List (Addr × Obj)} {σ : L2.St} {H : Hp} {s : Shared} (I : Inv X pins σ H s) :
    ∀ {ps : List Addr} {kvs : List (Key × V)}, Paired (fun p kv => SqT X.K H p [kV kv.1, kv.2]) ps kvs →
    ∃ (prs : List (Key × Value)) (qs : List (Value × Value)), KV kvs prs ∧ prs.length = ps.length ∧ qs.length = ps.length ∧
      ∀ (j : Nat) (k v : Value), qs[j]? = some (k, v) → ∃ b, ps[j]? = some b ∧ IsTup s.heap b #[k, v] ∧
        ∃ key, prs[j]? = some (key, v) ∧ keyIs key k = true
  | _, _, .nil => ⟨[], [], .nil, rfl, rfl, fun j k v e => by simp at e⟩
  | _, _, .cons (a := p) (b := kv) h t => by
    obtain ⟨prs, qs, r, hl, hl2, hp⟩ := pairs_of2 I t
    obtain ⟨its, rv, ht, _⟩ := I.tuple h
    obtain ⟨u, y, ei, ru, ry⟩ := vals2 rv
    subst ei
    refine ⟨(kv.1, y) :: prs, (u, y) :: qs, .cons ⟨rfl, ry⟩ r, ?_, ?_, ?_⟩
    · rw [List.length_cons, List.length_cons, hl]
    · rw [List.length_cons, List.length_cons, hl2]
    · intro j k v e
      cases j with
      | zero =>
        cases (Option.some.inj e)
        exact ⟨p, rfl, ht, kv.1, rfl, kV_is (P := X.prog) (w := X.w) ru⟩
      | succ j =>
        obtain ⟨b, e1, e2, key, e3, e4⟩ := hp j k v (by simpa using e)
        exact ⟨b, by simpa using e1, e2, key, by simpa using e3, e4⟩
/-- dict(t), t a tuple of pairs that bears no dict -/
def rDictT (K : PySem.W.Frag) : List V → Hp → VK → Prop := fun xs H Q =>
  ∃ (a : Addr) (o : Obj) (ps : List Addr) (kvs : List (Key × V)), xs = [.ref a] ∧ H a = some (.frz o (.tup (ps.map V.ref))) ∧ o.dict = none ∧
    Paired (fun p kv => SqT K H p [kV kv.1, kv.2]) ps kvs ∧ ∀ p, H p = none → Q (.ref p) (upd H p (.dK (mergeK [] kvs)))
theorem call_dictT (hcalm : X.calm = true) : CallR X (.type "dict") (rDictT X.K) := by
  intro pins s σ H xs us Q I r h
  obtain ⟨a, o, ps, kvs, e, ha, hod, hp, q⟩ := h
  subst e
  obtain ⟨u, e, rx⟩ := vals1 r
  subst e
  cases rx
  obtain ⟨ho, hz, its, rv, pl⟩ := (show ObjOk X.prog X.w H s.heap a (.frz o (.tup (ps.map V.ref))) from I.hok a _ ha)
  obtain ⟨prs, qs, rel, hl, hl2, hpr⟩ := pairs_of2 I hp
  have ei := refs_at rv
  subst ei
  rw [List.length_map] at hz
  obtain ⟨o', ho', hc, n, hd⟩ := pl
  rw [ho] at ho'
  cases ho'
  have PA1 := PairArg.tuple (prog := X.prog) (w := X.w) a (ps.map Value.ref).toArray (fun j => ps.getD j 0) qs
  refine PySem.call_dict_pairs (knd := mixKind X.prog X.w) (kvs := prs) PA1 (I.ok.hd hcalm) ⟨⟨o, n, ho, hc, hod, hd⟩, ?_, ?_⟩ ⟨?_, ?_⟩ (by rw [hl2]; exact hz) ?_
  · rw [List.size_toArray, List.length_map, hl2]
  · intro j k v e
    obtain ⟨b, e1, e2, _⟩ := hpr j k v e
    have eb : ps.getD j 0 = b := by
      rw [List.getD_eq_getElem?_getD, e1]
      rfl
    refine ⟨?_, .inl ?_⟩
    · show (ps.map Value.ref).toArray[j]? = some (.ref (ps.getD j 0))
      rw [eb, List.getElem?_toArray, List.getElem?_map, e1]
      rfl
    · show s.heap.IsTuple (ps.getD j 0) #[k, v]
      rw [eb]
      exact e2
  · rw [hl, hl2]
  · intro i key v e
    obtain ⟨b, e1, e2, k, e3, e4⟩ := hpr i key v e
    exact ⟨k, e3, e4⟩
  · intro h' tk hd' hk
    have hm : (s.heap.objs.size == sysModules) = false := beq_eq_false_iff_ne.mpr (Nat.ne_of_gt I.big)
    have hlen : (mergeK [] kvs).length ≤ sizeLine := by
      have h1 := length_mergeK kvs []
      have h2 := rel.length
      rw [List.length_nil] at h1
      omega
    refine ⟨.ref s.heap.objs.size, upd H s.heap.objs.size (.dK (mergeK [] kvs)), ?_, rfl, q _ (I.hok.fresh (Nat.le_refl _))⟩
    exact I.laid (t' := tk) (fun b o e => hk b o List.not_mem_nil e) (Nat.le_refl _)
      (show ObjOk X.prog X.w _ _ _ (.dK (mergeK [] kvs)) from ⟨hlen, hm, merged [] prs, KV.merge rel .nil, hd'⟩)
end
/-! ### a def of the text by its name -/
def Has (P : Program) (w : World) (K : PySem.W.Frag) (mg : Str → Option Value) (base : Heap) (k : Nat) (x : Str) (ps : List Str) (sp : Sp) : Prop :=
  ∃ f fd, FnOk P w K mg base CX0 k f fd ps sp ∧ mg x = some (.ref f) ∧ PySem.W.keepIn K (.ref f) = true ∧ L2.Binds K fd ps []
def HasG (P : Program) (w : World) (K : PySem.W.Frag) (mg : Str → Option Value) (base : Heap) (k : Nat) (x : Str) (ps : List Str) (sp : Sp) : Prop :=
  ∃ f fd, FnG P w K mg base k f fd ps sp ∧ mg x = some (.ref f) ∧ PySem.W.keepIn K (.ref f) = true ∧ L2.Binds K fd ps []
section
variable {X : Cx} {k j : Nat} {ps : List Str} {sp : Sp} {x : Str} {p pos : Pos} {e : Expr} {es : List Expr} {t : TA}
theorem pe_callH (h : Has X.prog X.w X.K X.mg X.base k x ps sp) (hr : Room j X.A) (hk : k ≤ j) (hg : Gl X x) (ha : PA X (e :: es) t)
    (hdb : (x == ("__debug__" : Str)) = false := by decide)
    (he : starEach (e :: es) X.env = (false, eval e X.env) :: starEach es X.env := by rfl)
    (hpl : (backTo pos (starEach es X.env)).any (·.1) = false := by rfl) :
    PE X (.Call (.Name x p) (e :: es) [] pos) (tCall sp [] E0 t) := by
  obtain ⟨f, fd, F, hm, hkp, hb⟩ := h
  exact pe_call F (hr.mono hk) hg hm hkp hb .nil pass0 ha hdb he hpl
theorem pe_callHG (h : HasG X.prog X.w X.K X.mg X.base k x ps sp) (hgd : X.A.guards = some []) (hr : Room j X.A) (hk : k ≤ j) (hg : Gl X x) (ha : PA X (e :: es) t)
    (hdb : (x == ("__debug__" : Str)) = false := by decide)
    (he : starEach (e :: es) X.env = (false, eval e X.env) :: starEach es X.env := by rfl)
    (hpl : (backTo pos (starEach es X.env)).any (·.1) = false := by rfl) :
    PE X (.Call (.Name x p) (e :: es) [] pos) (tCall sp [] E0 t) := by
  obtain ⟨f, fd, F, hm, hkp, hb⟩ := h
  exact pe_callG F hgd (hr.mono hk) hg hm hkp hb ha hdb he hpl
end
/-! ### the same rules with the written part named -/
section
variable {X : Cx} {o e : Expr} {es : List Expr} {to : TE} {t : TA} {name : Str} {apos cpos pos : Pos} {T id : String}
  {r : V → List V → Hp → VK → Prop}
def rLenS (K : PySem.W.Frag) : List V → Hp → VK → Prop := fun xs H Q =>
  ∃ p ys, xs = [.ref p] ∧ (SqL K H p ys ∨ SqT K H p ys) ∧ Q (.int ys.length) H
def rListOf (K : PySem.W.Frag) : List V → Hp → VK → Prop := fun xs H Q =>
  ∃ p ys, xs = [.ref p] ∧ (SqL K H p ys ∨ SqT K H p ys) ∧ ∀ l, H l = none → Q (.ref l) (upd H l (.lst ys))
def rTupF (K : PySem.W.Frag) : List V → Hp → VK → Prop := fun xs H Q => ∃ p ys, xs = [.ref p] ∧ SqL K H p ys ∧
    ∀ (l : Addr) (o : Obj), H l = none → o.dict = none → Q (.ref l) (upd H l (.frz o (.tup ys)))
theorem kbm (K : PySem.W.Frag) (pa : PlainAttrs T) (slot : Slot T name id)
    (hty : typeOf (.builtin id) = pure (.type "method_descriptor")) (hm : MtM X id r) (ho : PE X o to) (ha : PA X (e :: es) t)
    (hK : X.K = K := by rfl)
    (hbase : attributeBase o name X.env (eval o X.env) = eval o X.env := by rfl)
    (hfew : ((backTo cpos (starEach (e :: es) X.env)).all (fun x => !x.1) && (backToKw cpos (keywordEach [] X.env)).all (fun x => x.1.isSome)
      && decide ((e :: es).length + ([] : List Keyword).length + (if ([] : List Keyword).isEmpty then 0 else 1) < 30)) = true := by rfl)
    (hline : (apos.endLine == cpos.line) = true := by rfl)
    (hs : starEach (e :: es) X.env = (false, eval e X.env) :: starEach es X.env := by rfl)
    (hplain : (backTo cpos (starEach es X.env)).any (·.1) = false := by rfl) :
    PE X (.Call (.Attribute o name apos) (e :: es) [] cpos) (tBM K T r to t) := by
  subst hK
  exact pe_bm pa slot hty hm ho ha hbase hfew hline hs hplain
theorem klen (K : PySem.W.Frag) (hK : X.K = K := by rfl) : CallR X (.builtin "len") (rLenS K) := by subst hK; exact call_len_seq
theorem klistof (K : PySem.W.Frag) (hK : X.K = K := by rfl) : CallR X (.type "list") (rListOf K) := by subst hK; exact call_list_of
theorem ktupF (K : PySem.W.Frag) (hK : X.K = K := by rfl) : CallR X (.type "tuple") (rTupF K) := by subst hK; exact call_tupleF
theorem kixL (K : PySem.W.Frag) (hK : X.K = K := by rfl) : IxR X (rIxL K) := by subst hK; exact ix_list
theorem kixT (K : PySem.W.Frag) (hK : X.K = K := by rfl) : IxR X (rIxT K) := by subst hK; exact ix_tup
theorem kslL (K : PySem.W.Frag) (hK : X.K = K := by rfl) : SlR X (rSlL K) := by subst hK; exact sl_list
theorem kslT (K : PySem.W.Frag) (hK : X.K = K := by rfl) : SlR X (rSlT K) := by subst hK; exact sl_tup
theorem kin (K : PySem.W.Frag) (hK : X.K = K := by rfl) : OpR X (compareOp .In) (rIn K false) := by subst hK; exact op_in_seq
theorem knin (K : PySem.W.Frag) (hK : X.K = K := by rfl) : OpR X (compareOp .NotIn) (rIn K true) := by subst hK; exact op_notIn_seq
theorem ksum (K : PySem.W.Frag) (hc : X.calm = true) (hK : X.K = K := by rfl) : CallR X (.builtin "sum") (rSum K) := by subst hK; exact cr_sum hc
theorem kmax (K : PySem.W.Frag) (hc : X.calm = true) (hK : X.K = K := by rfl) : CallR X (.builtin "max") (rMax K) := by subst hK; exact cr_max hc
theorem kmin (K : PySem.W.Frag) (hc : X.calm = true) (hK : X.K = K := by rfl) : CallR X (.builtin "min") (rMin K) := by subst hK; exact cr_min hc
theorem ksort (K : PySem.W.Frag) (hK : X.K = K := by rfl) : CallR X (.builtin "sorted") (rSortedI K) := by subst hK; exact cr_sortedI
theorem krepr (K : PySem.W.Frag) (hgd : X.A.guards = some []) (hu : X.A.units + 64 < cLine) (hK : X.K = K := by rfl) :
    CallR X (.builtin "repr") (rRepr K) := by subst hK; exact call_reprD hgd hu
theorem kdictT (K : PySem.W.Frag) (hc : X.calm = true) (hK : X.K = K := by rfl) : CallR X (.type "dict") (rDictT K) := by subst hK; exact call_dictT hc
theorem keqD (K : PySem.W.Frag) (hu : X.A.units + 64 < cLine) (hK : X.K = K := by rfl) : OpR X (compareOp .Eq) (rEqD K) := by subst hK; exact op_eqD hu
theorem kneD (K : PySem.W.Frag) (hu : X.A.units + 64 < cLine) (hK : X.K = K := by rfl) : OpR X (compareOp .NotEq) (rNeD K) := by subst hK; exact op_neD hu
theorem kgtup (K : PySem.W.Frag) (n : Nat) {k : Nat} {t : TGs} (hc : X.calm = true) (h : PGs X es t) (hK : X.K = K := by rfl)
    (hn : (assignEach es X.env).length = n := by rfl) (hst : (assignEach es X.env).findIdx? (·.1) = none := by rfl) :
    PG X (.Tuple es k pos) (gTup K n t) := by subst hK; exact pg_tup hc h hn hst
theorem kilist (K : PySem.W.Frag) {tg l : Expr} {tl : TE} (hl : PE X l tl) (hK : X.K = K := by rfl) : PI X tg l (iList K tl) := by subst hK; exact pi_list hl
theorem kitup (K : PySem.W.Frag) {tg l : Expr} {tl : TE} (hl : PE X l tl) (hK : X.K = K := by rfl) : PI X tg l (iTup K tl) := by subst hK; exact pi_tup hl
end
structure Bi (mg : Str → Option Value) : Prop where
  len : mg "len" = none
  range : mg "range" = none
  abs : mg "abs" = none
  list : mg "list" = none
  sorted : mg "sorted" = none
  min : mg "min" = none
  max : mg "max" = none
  tuple : mg "tuple" = none
  dict : mg "dict" = none
  repr : mg "repr" = none
  set : mg "set" = none
  sum : mg "sum" = none
  isinstance : mg "isinstance" = none
  int : mg "int" = none
  bool : mg "bool" = none
  enumerate : mg "enumerate" = none
  zip : mg "zip" = none
  str : mg "str" = none
  type : mg "type" = none
  reversed : mg "reversed" = none
  any : mg "any" = none
  all : mg "all" = none

/-! ### heaps -/
/-- all but the two objects of the deck stands as it stood -/
def Keep (a c : Addr) (H H' : Hp) : Prop := ∀ b o, b ≠ a → b ≠ c → H b = some o → H' b = some o
theorem Keep.refl (a c : Addr) (H : Hp) : Keep a c H H := fun _ _ _ _ h => h
theorem Keep.trans {a c : Addr} {H H1 H2 : Hp} (x : Keep a c H H1) (y : Keep a c H1 H2) : Keep a c H H2 :=
  fun b o h1 h2 h => y b o h1 h2 (x b o h1 h2 h)
theorem Keep.of_same {a c : Addr} {H H' : Hp} (h : Same H H') : Keep a c H H' := fun b o _ _ e => h b o e
theorem same_upd {H : Hp} {p : Addr} {o : HO} (h : H p = none) : Same H (upd H p o) := by
  intro b x e
  rw [upd_ne (ne_of_none e h)]
  exact e
theorem Keep.upd_new {a c : Addr} {H : Hp} {p : Addr} {o : HO} (h : H p = none) : Keep a c H (upd H p o) := .of_same (same_upd h)
/-- the deck: its list of the cells and its count, at most k -/
def Deck (H : Hp) (a c : Addr) (k : Int) : Prop := ∃ (ns : List Int) (j : Int), a ≠ c ∧ H a = some (.lst [.ref c, .int j]) ∧
  H c = some (.lst (ns.map V.int)) ∧ (∀ n ∈ ns, 0 ≤ n) ∧ 0 ≤ j ∧ j ≤ k
theorem Deck.mono {H : Hp} {a c : Addr} {k k' : Int} (h : Deck H a c k) (le : k ≤ k') : Deck H a c k' := by
  obtain ⟨ns, j, h1, h2, h3, h4, h5, h6⟩ := h
  exact ⟨ns, j, h1, h2, h3, h4, h5, by omega⟩
theorem Deck.same {H H' : Hp} {a c : Addr} {k : Int} (h : Deck H a c k) (s : Same H H') : Deck H' a c k := by
  obtain ⟨ns, j, h1, h2, h3, h4, h5, h6⟩ := h
  exact ⟨ns, j, h1, s _ _ h2, s _ _ h3, h4, h5, h6⟩
theorem Deck.new {H : Hp} {a c : Addr} {k : Int} {p : Addr} {o : HO} (h : Deck H a c k) (n : H p = none) : Deck (upd H p o) a c k := h.same (same_upd n)
theorem Deck.nea {H : Hp} {a c : Addr} {k : Int} {p : Addr} (h : Deck H a c k) (n : H p = none) : p ≠ a ∧ p ≠ c := by
  obtain ⟨ns, j, h1, h2, h3, h4, h5, h6⟩ := h
  exact ⟨(ne_of_none h2 n).symm, (ne_of_none h3 n).symm⟩
/-! ### a draw -/
def spDraw : Sp := fun vs H Q _ => ∃ (a c : Addr) (k lim : Int), vs = [.ref a, .int lim] ∧ Deck H a c k ∧ k ≤ 1000000 ∧ 1 ≤ lim ∧ lim ≤ 1000000000000000 ∧
  ∀ (v : Int) (H' : Hp), 0 ≤ v → v < lim → Deck H' a c (k + 1) → Keep a c H H' → Q (.int v) H'
theorem atI_pos {α : Type} {xs : List α} {i : Int} {v : α} (h0 : 0 ≤ i) (h : xs[i.toNat]? = some v) : atI xs i = some v := by
  have e : i = ((i.toNat : Nat) : Int) := by omega
  rw [e]
  exact atI_nat h
theorem ixN_pos {n : Nat} {i : Int} (h0 : 0 ≤ i) (h : i < n) : ixN n i = some i.toNat := by
  unfold ixN
  rw [if_pos h0, if_pos h]
theorem pow5 (x : Int) (h0 : 0 ≤ x) : 0 ≤ x ^ 5 := by
  have h2 : 0 ≤ x * x := Int.mul_nonneg h0 h0
  have h4 : 0 ≤ x * x * x := Int.mul_nonneg h2 h0
  have h5 : 0 ≤ x * x * x * x := Int.mul_nonneg h4 h0
  have h6 : 0 ≤ x * x * x * x * x := Int.mul_nonneg h5 h0
  have e : x ^ 5 = x * x * x * x * x := by
    rw [Int.pow_succ, Int.pow_succ, Int.pow_succ, Int.pow_succ, Int.pow_succ, Int.pow_zero, Int.one_mul]
  rw [e]
  exact h6
theorem set0 {x y : V} {v : V} : [x, y].set 1 v = [x, v] := rfl
theorem mem_set_nonneg {ns : List Int} (h : ∀ n ∈ ns, 0 ≤ n) (i : Nat) {v : Int} (hv : 0 ≤ v) : ∀ n ∈ ns.set i v, 0 ≤ n := by
  intro n hn
  rcases List.mem_or_eq_of_mem_set hn with z | z
  · exact h n z
  · rw [z]
    exact hv

/-! ### the deck itself -/
def spDeck (K : PySem.W.Frag) : Sp := fun vs H Q _ => ∃ (s : Addr) (ns : List Int), vs = [.ref s] ∧ SqL K H s (ns.map V.int) ∧ ns.length ≤ 63 ∧
  ∀ (a c : Addr) (H' : Hp), Deck H' a c 0 → Same H H' → H a = none → H c = none → Q (.ref a) H'
theorem cut_to (xs : List V) (k : Nat) : cutV xs none (some (k : Int)) = xs.take k := by
  unfold cutV
  rw [HT.sIx_nat, HT.sIx_none, List.drop_zero, Nat.sub_zero]
  by_cases h : k ≤ xs.length
  · rw [Nat.min_eq_left h]
  · rw [Nat.min_eq_right (by omega), List.take_of_length_le (Nat.le_refl _), List.take_of_length_le (by omega)]
theorem cut_from (xs : List V) (k : Nat) : cutV xs (some (k : Int)) none = xs.drop k := by
  unfold cutV
  rw [HT.sIx_nat, HT.sIx_none]
  by_cases h : k ≤ xs.length
  · rw [Nat.min_eq_left h]
    exact List.take_of_length_le (by rw [List.length_drop]; exact Nat.le_refl _)
  · rw [Nat.min_eq_right (by omega), Nat.sub_self, List.take_zero, List.drop_eq_nil_of_le (by omega)]
theorem take_map_succ {α β : Type} (f : α → β) {xs : List α} {i : Nat} {x : α} (h : xs[i]? = some x) : (xs.take (i + 1)).map f = (xs.take i).map f ++ [f x] := by
  rw [List.take_add_one, h, List.map_append]
  rfl
theorem abs_nonneg (n : Int) : 0 ≤ (if n < 0 then -n else n) := by
  split <;> omega
/-! ### distinct numbers -/
def spDistinct : Sp := fun vs H Q _ => ∃ (a c : Addr) (k m many : Int), vs = [.ref a, .int m, .int many] ∧ Deck H a c k ∧ k + many ≤ 1000000 ∧
  0 ≤ many ∧ many ≤ m ∧ m ≤ 1000 ∧ ∀ (xs : List Int) (p : Addr) (H' : Hp), xs.Pairwise (· < ·) → (xs.length : Int) = many → (∀ x ∈ xs, 0 ≤ x ∧ x < m) →
    Deck H' a c (k + many) → Keep a c H H' → H p = none → H' p = some (.lst (xs.map V.int)) → Q (.ref p) H'
def upto (m : Int) : List Int := (List.range m.toNat).map fun i => ((i : Nat) : Int)
theorem upto_len (m : Int) : (upto m).length = m.toNat := by
  unfold upto
  rw [List.length_map, List.length_range]
theorem upto_V (m : Int) : rgV 0 m = (upto m).map V.int := by
  unfold rgV upto
  rw [List.map_map]
  have e : (m - 0).toNat = m.toNat := by omega
  rw [e]
  apply List.map_congr_left
  intro i _
  show V.int (0 + (i : Nat)) = V.int ((i : Nat) : Int)
  rw [Int.zero_add]
theorem upto_mem {m x : Int} : x ∈ upto m ↔ 0 ≤ x ∧ x < m := by
  unfold upto
  rw [List.mem_map]
  constructor
  · intro ⟨i, hi, e⟩
    rw [List.mem_range] at hi
    omega
  · intro ⟨h0, h1⟩
    exact ⟨x.toNat, by rw [List.mem_range]; omega, by omega⟩
theorem nodup_map_cast : ∀ l : List Nat, l.Nodup → (l.map fun i => ((i : Nat) : Int)).Nodup
  | [], _ => List.nodup_nil
  | a :: l, h => by
    rw [List.nodup_cons] at h
    rw [List.map_cons, List.nodup_cons]
    refine ⟨fun z => ?_, nodup_map_cast l h.2⟩
    rw [List.mem_map] at z
    obtain ⟨b, hb, e⟩ := z
    have e2 : b = a := by omega
    subst e2
    exact h.1 hb
theorem upto_nodup (m : Int) : (upto m).Nodup := nodup_map_cast _ List.nodup_range
theorem lt_of_le_nodup {l : List Int} (h : l.Pairwise (· ≤ ·)) (n : l.Nodup) : l.Pairwise (· < ·) := by
  have h2 : l.Pairwise (fun x y => x ≤ y ∧ x ≠ y) := List.Pairwise.and h n
  exact h2.imp fun {a b} z => by omega
theorem erase_map {α β : Type} (f : α → β) : ∀ (l : List α) (i : Nat), (l.map f).eraseIdx i = (l.eraseIdx i).map f
  | [], _ => rfl
  | _ :: _, 0 => rfl
  | x :: l, i + 1 => by
    show f x :: (l.map f).eraseIdx i = f x :: (l.eraseIdx i).map f
    rw [erase_map f l i]
theorem erase_perm {α : Type} : ∀ (l : List α) (i : Nat) (h : i < l.length), (l[i] :: l.eraseIdx i).Perm l
  | [], _, h => absurd h (Nat.not_lt_zero _)
  | x :: l, 0, _ => List.Perm.refl _
  | x :: l, i + 1, h => by
    have ih := erase_perm l i (Nat.lt_of_succ_lt_succ h)
    show (l[i]'(Nat.lt_of_succ_lt_succ h) :: x :: l.eraseIdx i).Perm (x :: l)
    exact (List.Perm.swap x _ _).trans (List.Perm.cons x ih)
theorem seqIndex_nat {n : Nat} {i : Int} (h0 : 0 ≤ i) (h : i < n) : seqIndex? i n = some i.toNat := (ixN_seq (ixN_pos h0 h)).1

/-! ### tools -/
structure IsTool (m : Int) (tl : List (Int × Int)) : Prop where
  len1 : 1 ≤ tl.length
  len2 : tl.length ≤ 12
  rng : ∀ p ∈ tl, (0 ≤ p.1 ∧ p.1 < m) ∧ 0 ≤ p.2 ∧ p.2 < m
  asc : tl.Pairwise (fun x y => x.1 < y.1)
  ord : tl.Pairwise (fun x y => (x.2 - (tl.headD (0, 0)).2) % m < (y.2 - (tl.headD (0, 0)).2) % m)
  one : tl.length = 1 → ∀ p ∈ tl, p.1 = 0
/-- the pairs of a tool, each an object of its own -/
def PairsAt (H : Hp) (as : List Addr) (tl : List (Int × Int)) : Prop := Paired (fun p bt => H p = some (.tup [.int bt.1, .int bt.2])) as tl
def ToolAt (H : Hp) (a : Addr) (tl : List (Int × Int)) : Prop := ∃ (o : Obj) (as : List Addr), H a = some (.frz o (.tup (as.map V.ref))) ∧ o.dict = none ∧ PairsAt H as tl
/-- what is no list stays -/
def Stay (H H' : Hp) : Prop := ∀ b o, (∀ xs, o ≠ HO.lst xs) → H b = some o → H' b = some o
theorem Stay.refl (H : Hp) : Stay H H := fun _ _ _ h => h
theorem Stay.trans {H H1 H2 : Hp} (x : Stay H H1) (y : Stay H1 H2) : Stay H H2 := fun b o n h => y b o n (x b o n h)
theorem Stay.of_same {H H' : Hp} (h : Same H H') : Stay H H' := fun b o _ e => h b o e
theorem Keep.stay {a c : Addr} {H H' : Hp} {k : Int} (kp : Keep a c H H') (d : Deck H a c k) : Stay H H' := by
  intro b o n e
  obtain ⟨ns, j, h1, h2, h3, h4, h5, h6⟩ := d
  refine kp b o ?_ ?_ e
  · intro z
    subst z
    rw [h2] at e
    exact n _ (Option.some.inj e).symm
  · intro z
    subst z
    rw [h3] at e
    exact n _ (Option.some.inj e).symm
theorem PairsAt.stay {H H' : Hp} {as : List Addr} {tl : List (Int × Int)} (h : PairsAt H as tl) (s : Stay H H') : PairsAt H' as tl :=
  Paired.mono (fun _ _ e => s _ _ (by intro xs z; cases z) e) h
theorem ToolAt.stay {H H' : Hp} {a : Addr} {tl : List (Int × Int)} (h : ToolAt H a tl) (s : Stay H H') : ToolAt H' a tl := by
  obtain ⟨o, as, h1, h2, h3⟩ := h
  exact ⟨o, as, s _ _ (by intro xs z; cases z) h1, h2, h3.stay s⟩
def spTool : Sp := fun vs H Q _ => ∃ (a c : Addr) (k m : Int), vs = [.ref a, .int m] ∧ Deck H a c k ∧ k + 30 ≤ 1000000 ∧ 1 ≤ m ∧ m ≤ 60 ∧
  ∀ (t : Addr) (tl : List (Int × Int)) (H' : Hp), IsTool m tl → ToolAt H' t tl → Deck H' a c (k + 30) → Keep a c H H' → Q (.ref t) H'
/-- a step after which a tool may repeat -/
def Good (m d : Int) : Prop := 1 ≤ d ∧ d ≤ m ∧ m % d = 0 ∧ m / d < 13
theorem good_self {m : Int} (h : 1 ≤ m) : Good m m := ⟨h, Int.le_refl _, Int.emod_self, by rw [Int.ediv_self (by omega)]; decide⟩
theorem Good.mul {m d : Int} (g : Good m d) : m = d * (m / d) := by
  have h := Int.mul_ediv_add_emod m d
  rw [g.2.2.1, Int.add_zero] at h
  exact h.symm
theorem Good.lim {m d : Int} (g : Good m d) (h : 1 ≤ m) : 1 ≤ 12 * d / m := by
  have h1 := g.mul
  have h2 : m / d ≤ 12 := by have := g.2.2.2; omega
  have h3 : d * (m / d) ≤ d * 12 := Int.mul_le_mul_of_nonneg_left h2 (by have := g.1; omega)
  exact (Int.le_ediv_iff_mul_le (by omega)).mpr (by omega)
theorem Good.many {m d n : Int} (g : Good m d) (h : 1 ≤ m) (hn : n ≤ 12 * d / m) : n * (m / d) ≤ 12 := by
  have h0 := g.1
  have h1 := g.mul
  have h2 : n * m ≤ 12 * d := (Int.le_ediv_iff_mul_le (by omega)).mp hn
  have h3 : d * (n * (m / d)) ≤ d * 12 := by
    have e : d * (n * (m / d)) = n * (d * (m / d)) := by rw [← Int.mul_assoc, Int.mul_comm d n, Int.mul_assoc]
    rw [e, ← h1]
    omega
  exact Int.le_of_mul_le_mul_left h3 (by omega)
theorem small60 : ∀ m < 61, ∀ d < 61, 1 ≤ d → Builtin.Range.small 0 ((m : Nat) : Int) ((d : Nat) : Int) = true := by decide +kernel
theorem size60 : ∀ m < 61, ∀ d < 61, 1 ≤ d → 1 ≤ m → m % d = 0 → Builtin.Range.rangeSize 0 ((m : Nat) : Int) ((d : Nat) : Int) = (((m / d : Nat)) : Int) := by decide +kernel
theorem Good.rgc {m d : Int} (g : Good m d) (h1 : 1 ≤ m) (h2 : m ≤ 60) : RgC 0 m d (m / d).toNat := by
  obtain ⟨g1, g2, g3, g4⟩ := g
  have em : m = ((m.toNat : Nat) : Int) := by omega
  have ed : d = ((d.toNat : Nat) : Int) := by omega
  have e3 : m.toNat % d.toNat = 0 := by
    have : ((m.toNat % d.toNat : Nat) : Int) = 0 := by rw [Int.natCast_emod, ← em, ← ed]; exact g3
    omega
  have e4 : (m / d).toNat = m.toNat / d.toNat := by
    have : ((m.toNat / d.toNat : Nat) : Int) = m / d := by rw [Int.natCast_ediv, ← em, ← ed]
    rw [← this]
    exact Int.toNat_natCast _
  refine ⟨by omega, by omega, ?_, ?_⟩
  · rw [em, ed]
    exact small60 _ (by omega) _ (by omega) (by omega)
  · rw [e4, em, ed, size60 _ (by omega) _ (by omega) (by omega) (by omega) e3]
    rfl
/-- the pairs before the shift -/
structure Raw (m d : Int) (bs ts : List Int) (i j : Nat) (raw : List (Int × Int)) : Prop where
  asc : raw.Pairwise (fun x y => x.1 < y.1 ∧ x.2 < y.2)
  low : ∀ x ∈ raw, 0 ≤ x.1 ∧ 0 ≤ x.2
  bnd : ∀ x ∈ raw, (x.1 < i * d ∧ x.2 < i * d) ∨ ∃ k b t, k < j ∧ bs[k]? = some b ∧ ts[k]? = some t ∧ x = (i * d + b, i * d + t)
theorem Raw.nil {m d : Int} {bs ts : List Int} : Raw m d bs ts 0 0 [] := ⟨.nil, fun x h => (List.not_mem_nil h).elim, fun x h => (List.not_mem_nil h).elim⟩
theorem pw_get {l : List Int} (h : l.Pairwise (· < ·)) {i j : Nat} {x y : Int} (hx : l[i]? = some x) (hy : l[j]? = some y) (hij : i < j) : x < y := by
  obtain ⟨hi, ei⟩ := List.getElem?_eq_some_iff.mp hx
  obtain ⟨hj, ej⟩ := List.getElem?_eq_some_iff.mp hy
  have := List.pairwise_iff_getElem.mp h i j hi hj hij
  omega
theorem Raw.add {m d : Int} {bs ts : List Int} {i j : Nat} {raw : List (Int × Int)} (r : Raw m d bs ts i j raw) (hb : bs.Pairwise (· < ·)) (ht : ts.Pairwise (· < ·))
    {b t : Int} (eb : bs[j]? = some b) (et : ts[j]? = some t) (b0 : 0 ≤ b) (t0 : 0 ≤ t) (d0 : 0 ≤ d) : Raw m d bs ts i (j + 1) (raw ++ [(i * d + b, i * d + t)]) := by
  have hid : 0 ≤ (i : Int) * d := Int.mul_nonneg (by omega) d0
  refine ⟨?_, ?_, ?_⟩
  · rw [List.pairwise_append]
    refine ⟨r.asc, List.pairwise_singleton _ _, fun x hx y hy => ?_⟩
    rw [List.mem_singleton] at hy
    subst hy
    rcases r.bnd x hx with ⟨h1, h2⟩ | ⟨k, b', t', hk, h1, h2, e⟩
    · exact ⟨by show x.1 < i * d + b; omega, by show x.2 < i * d + t; omega⟩
    · subst e
      have q1 := pw_get hb h1 eb hk
      have q2 := pw_get ht h2 et hk
      exact ⟨by show i * d + b' < i * d + b; omega, by show i * d + t' < i * d + t; omega⟩
  · intro x hx
    rcases List.mem_append.mp hx with h | h
    · exact r.low x h
    · rw [List.mem_singleton] at h
      subst h
      exact ⟨by show 0 ≤ i * d + b; omega, by show 0 ≤ i * d + t; omega⟩
  · intro x hx
    rcases List.mem_append.mp hx with h | h
    · rcases r.bnd x h with z | ⟨k, b', t', hk, h1, h2, e⟩
      · exact .inl z
      · exact .inr ⟨k, b', t', by omega, h1, h2, e⟩
    · rw [List.mem_singleton] at h
      exact .inr ⟨j, b, t, by omega, eb, et, h⟩
theorem Raw.next {m d : Int} {bs ts : List Int} {i j : Nat} {raw : List (Int × Int)} (r : Raw m d bs ts i j raw) (hb : ∀ x ∈ bs, 0 ≤ x ∧ x < d) (ht : ∀ x ∈ ts, 0 ≤ x ∧ x < d) (d0 : 0 ≤ d) :
    Raw m d bs ts (i + 1) 0 raw := by
  have e1 : ((i + 1 : Nat) : Int) * d = i * d + d := by
    rw [Int.natCast_add, Int.add_mul]
    omega
  refine ⟨r.asc, r.low, fun x hx => .inl ?_⟩
  rw [e1]
  rcases r.bnd x hx with ⟨h1, h2⟩ | ⟨k, b', t', hk, h1, h2, e⟩
  · omega
  · subst e
    have q1 := hb b' (List.mem_of_getElem? h1)
    have q2 := ht t' (List.mem_of_getElem? h2)
    exact ⟨by show i * d + b' < i * d + d; omega, by show i * d + t' < i * d + d; omega⟩
theorem sub_mod_shift (m s u v : Int) : ((u + s) % m - (v + s) % m) % m = (u - v) % m := by
  rw [Int.sub_emod, Int.emod_emod_of_dvd _ (Int.dvd_refl m), Int.emod_emod_of_dvd _ (Int.dvd_refl m), ← Int.sub_emod]
  congr 1
  omega
theorem tool_of_raw {m s : Int} {raw : List (Int × Int)} (h2 : 2 ≤ raw.length) (h12 : raw.length ≤ 12) (asc : raw.Pairwise (fun x y => x.1 < y.1 ∧ x.2 < y.2))
    (bd : ∀ x ∈ raw, (0 ≤ x.1 ∧ x.1 < m) ∧ 0 ≤ x.2 ∧ x.2 < m) : IsTool m (raw.map fun x => (x.1, (x.2 + s) % m)) := by
  have hm : 0 < m := by
    match raw, h2 with
    | x :: _, _ =>
      have := bd x List.mem_cons_self
      omega
  refine ⟨by rw [List.length_map]; omega, by rw [List.length_map]; exact h12, ?_, ?_, ?_, ?_⟩
  · intro p hp
    rw [List.mem_map] at hp
    obtain ⟨x, hx, e⟩ := hp
    subst e
    exact ⟨(bd x hx).1, Int.emod_nonneg _ (by omega), Int.emod_lt_of_pos _ hm⟩
  · rw [List.pairwise_map]
    exact asc.imp fun {a b} z => z.1
  · rw [List.pairwise_map]
    match raw, h2 with
    | x0 :: r, _ =>
      have hmin : ∀ y ∈ x0 :: r, x0.2 ≤ y.2 := by
        intro y hy
        rcases List.mem_cons.mp hy with z | z
        · rw [z]
          exact Int.le_refl _
        · have := (List.pairwise_cons.mp asc).1 y z
          omega
      have hb0 := bd x0 List.mem_cons_self
      refine List.Pairwise.imp_of_mem ?_ asc
      intro a b ha hb hab
      show ((a.2 + s) % m - (x0.2 + s) % m) % m < ((b.2 + s) % m - (x0.2 + s) % m) % m
      rw [sub_mod_shift, sub_mod_shift]
      have q1 := hmin a ha
      have q2 := hmin b hb
      have q3 := bd a ha
      have q4 := bd b hb
      rw [Int.emod_eq_of_lt (by omega) (by omega), Int.emod_eq_of_lt (by omega) (by omega)]
      omega
  · intro e
    rw [List.length_map] at e
    omega
theorem tool_of_one {m t : Int} (h0 : 0 ≤ t) (h1 : t < m) : IsTool m [(0, t)] := by
  refine ⟨Nat.le_refl _, by show 1 ≤ 12; decide, ?_, List.pairwise_singleton _ _, List.pairwise_singleton _ _, ?_⟩
  · intro p hp
    rw [List.mem_singleton] at hp
    subst hp
    exact ⟨⟨Int.le_refl _, by show 0 < m; omega⟩, h0, h1⟩
  · intro _ p hp
    rw [List.mem_singleton] at hp
    subst hp
    rfl

/-! ### comprehensions that change nothing -/
section
variable {K : PySem.W.Frag} {j : Nat} {tt : TT} {te : TE} {vs : List Nat} {σ : L2.St} {H1 : Hp} {D : Addr} {Qd : Hp → Prop}
theorem filter_range_succ {β : Type} (b : Nat → Bool) (f : Nat → β) (i : Nat) :
    ((List.range (i + 1)).filter b).map f = ((List.range i).filter b).map f ++ (if b i = true then [f i] else []) := by
  rw [List.range_succ, List.filter_append, List.map_append]
  congr 1
  by_cases h : b i = true
  · rw [if_pos h, List.filter_cons_of_pos h]
    rfl
  · rw [if_neg h, List.filter_cons_of_neg h]
    rfl
theorem filter_len {β : Type} (b : Nat → Bool) (f : Nat → β) (i : Nat) : (((List.range i).filter b).map f).length ≤ i := by
  rw [List.length_map]
  exact Nat.le_trans (List.length_filter_le _ _) (by rw [List.length_range]; exact Nat.le_refl _)
theorem lc_turn {g : V} (b : Nat → Bool) (f : Nat → V) (nD : H1 D = none) {i n : Nat} (hin : i < n) (hn : n ≤ 100000) {H : Hp}
    (hs : Same H1 H) (hD : H D = some (.lst (((List.range i).filter b).map f)))
    (hw : wipe ((wipe σ vs).set j (some g)) vs = wipe σ vs)
    (ht : ∀ (H : Hp) (Q : Bool → Hp → Prop), Same H1 H → (∀ H', Same H H' → Q (b i) H') → tt ((wipe σ vs).set j (some g)) H Q)
    (he : b i = true → ∀ (H : Hp) (Q : VK), Same H1 H → (∀ H', Same H H' → Q (f i) H') → te ((wipe σ vs).set j (some g)) H Q) :
    gName j g (wipe σ vs) H fun σ2 H2 => wipe σ2 vs = wipe σ vs ∧ tt σ2 H2 fun b' H3 => if b' = true then te σ2 H3 fun y H4 =>
      ∃ acc, H4 D = some (.lst acc) ∧ acc.length < sizeLine ∧ (Same H1 (upd H4 D (.lst (acc ++ [y]))) ∧
        upd H4 D (.lst (acc ++ [y])) D = some (.lst (((List.range (i + 1)).filter b).map f)))
      else Same H1 H3 ∧ H3 D = some (.lst (((List.range (i + 1)).filter b).map f)) := by
  refine ⟨hw, ht H _ hs fun H2 s2 => ?_⟩
  have hD2 := s2 _ _ hD
  have hs2 := hs.trans s2
  by_cases hb : b i = true
  · rw [if_pos hb]
    refine he hb H2 _ hs2 fun H3 s3 => ?_
    refine ⟨_, s3 _ _ hD2, ?_, ?_, ?_⟩
    · have := filter_len b f i
      exact Nat.lt_of_le_of_lt this (Nat.lt_trans hin (Nat.lt_of_le_of_lt hn (by decide)))
    · intro x o e
      rw [upd_ne (ne_of_none e nD)]
      exact s3 _ _ (hs2 _ _ e)
    · rw [upd_same, filter_range_succ, if_pos hb]
  · rw [if_neg hb]
    refine ⟨hs2, ?_⟩
    rw [filter_range_succ, if_neg hb, List.append_nil]
    exact hD2
theorem lcR {lo : Int} {n : Nat} (b : Nat → Bool) (f : Nat → V) (hn : n ≤ 100000) (nD : H1 D = none)
    (hw : ∀ v, wipe ((wipe σ vs).set j (some v)) vs = wipe σ vs)
    (ht : ∀ (i : Nat) (H : Hp) (Q : Bool → Hp → Prop), i < n → Same H1 H → (∀ H', Same H H' → Q (b i) H') → tt ((wipe σ vs).set j (some (.int (lo + i)))) H Q)
    (he : ∀ (i : Nat) (H : Hp) (Q : VK), i < n → b i = true → Same H1 H → (∀ H', Same H H' → Q (f i) H') → te ((wipe σ vs).set j (some (.int (lo + i)))) H Q)
    (hd : ∀ H', Same H1 H' → H' D = some (.lst (((List.range n).filter b).map f)) → Qd H') :
    ∃ W : Nat → Nat → Hp → Prop, (∃ m, W 0 m (upd H1 D (.lst []))) ∧ ∀ i m H, W i m H → ((Itr lo n).stop i H ∧ Qd H) ∨ ((Itr lo n).go i H ∧
      ∃ Nx : Hp → Prop, (∀ H', Nx H' → ∃ m', m' < m ∧ W (i + 1) m' H') ∧ ∀ x H', (Itr lo n).yld i H x H' → gName j x (wipe σ vs) H' fun σ2 H2 =>
        wipe σ2 vs = wipe σ vs ∧ tt σ2 H2 fun b H3 => if b = true then te σ2 H3 fun y H4 => ∃ acc, H4 D = some (.lst acc) ∧ acc.length < sizeLine ∧ Nx (upd H4 D (.lst (acc ++ [y]))) else Nx H3) := by
  refine lc_range (fun i H => Same H1 H ∧ H D = some (.lst (((List.range i).filter b).map f))) ⟨same_upd nD, upd_same⟩ ?_ (fun H h => hd H h.1 h.2)
  intro i H hi h
  exact lc_turn b f nD hi hn h.1 h.2 (hw _) (fun H Q => ht i H Q hi) (fun hb H Q => he i H Q hi hb)
theorem lcL {a : Addr} {xs : List V} (b : Nat → Bool) (f : Nat → V) (hn : xs.length ≤ 100000) (nD : H1 D = none) (hx : SqL K H1 a xs)
    (hw : ∀ v, wipe ((wipe σ vs).set j (some v)) vs = wipe σ vs)
    (ht : ∀ (i : Nat) (x : V) (H : Hp) (Q : Bool → Hp → Prop), xs[i]? = some x → Same H1 H → (∀ H', Same H H' → Q (b i) H') → tt ((wipe σ vs).set j (some x)) H Q)
    (he : ∀ (i : Nat) (x : V) (H : Hp) (Q : VK), xs[i]? = some x → b i = true → Same H1 H → (∀ H', Same H H' → Q (f i) H') → te ((wipe σ vs).set j (some x)) H Q)
    (hd : ∀ H', Same H1 H' → H' D = some (.lst (((List.range xs.length).filter b).map f)) → Qd H') :
    ∃ W : Nat → Nat → Hp → Prop, (∃ m, W 0 m (upd H1 D (.lst []))) ∧ ∀ i m H, W i m H → ((Itl K a).stop i H ∧ Qd H) ∨ ((Itl K a).go i H ∧
      ∃ Nx : Hp → Prop, (∀ H', Nx H' → ∃ m', m' < m ∧ W (i + 1) m' H') ∧ ∀ x H', (Itl K a).yld i H x H' → gName j x (wipe σ vs) H' fun σ2 H2 =>
        wipe σ2 vs = wipe σ vs ∧ tt σ2 H2 fun b H3 => if b = true then te σ2 H3 fun y H4 => ∃ acc, H4 D = some (.lst acc) ∧ acc.length < sizeLine ∧ Nx (upd H4 D (.lst (acc ++ [y]))) else Nx H3) := by
  refine lc_list (xs := xs) (fun i H => Same H1 H ∧ H D = some (.lst (((List.range i).filter b).map f))) ⟨same_upd nD, upd_same⟩ (fun i H _ h => h.1.seq hx) ?_ (fun H h => hd H h.1 h.2)
  intro i x H hi h
  have hlt : i < xs.length := (List.getElem?_eq_some_iff.mp hi).1
  exact lc_turn b f nD hlt hn h.1 h.2 (hw _) (fun H Q => ht i x H Q hi) (fun hb H Q => he i x H Q hi hb)
theorem same_tup {H H' : Hp} {a : Addr} {xs : List V} (e : Same H H') (h : SqT K H a xs) : SqT K H' a xs := by
  rcases h with (h | ⟨o, h⟩) | h
  · exact .inl (.inl (e _ _ h))
  · exact .inl (.inr ⟨o, e _ _ h⟩)
  · exact .inr h
theorem lcT {a : Addr} {xs : List V} (b : Nat → Bool) (f : Nat → V) (hn : xs.length ≤ 100000) (nD : H1 D = none) (hx : SqT K H1 a xs)
    (hw : ∀ v, wipe ((wipe σ vs).set j (some v)) vs = wipe σ vs)
    (ht : ∀ (i : Nat) (x : V) (H : Hp) (Q : Bool → Hp → Prop), xs[i]? = some x → Same H1 H → (∀ H', Same H H' → Q (b i) H') → tt ((wipe σ vs).set j (some x)) H Q)
    (he : ∀ (i : Nat) (x : V) (H : Hp) (Q : VK), xs[i]? = some x → b i = true → Same H1 H → (∀ H', Same H H' → Q (f i) H') → te ((wipe σ vs).set j (some x)) H Q)
    (hd : ∀ H', Same H1 H' → H' D = some (.lst (((List.range xs.length).filter b).map f)) → Qd H') :
    ∃ W : Nat → Nat → Hp → Prop, (∃ m, W 0 m (upd H1 D (.lst []))) ∧ ∀ i m H, W i m H → ((Itt K a).stop i H ∧ Qd H) ∨ ((Itt K a).go i H ∧
      ∃ Nx : Hp → Prop, (∀ H', Nx H' → ∃ m', m' < m ∧ W (i + 1) m' H') ∧ ∀ x H', (Itt K a).yld i H x H' → gName j x (wipe σ vs) H' fun σ2 H2 =>
        wipe σ2 vs = wipe σ vs ∧ tt σ2 H2 fun b H3 => if b = true then te σ2 H3 fun y H4 => ∃ acc, H4 D = some (.lst acc) ∧ acc.length < sizeLine ∧ Nx (upd H4 D (.lst (acc ++ [y]))) else Nx H3) := by
  refine lc_tup (xs := xs) (fun i H => Same H1 H ∧ H D = some (.lst (((List.range i).filter b).map f))) ⟨same_upd nD, upd_same⟩ (fun i H _ h => same_tup h.1 hx) ?_ (fun H h => hd H h.1 h.2)
  intro i x H hi h
  have hlt : i < xs.length := (List.getElem?_eq_some_iff.mp hi).1
  exact lc_turn b f nD hlt hn h.1 h.2 (hw _) (fun H Q => ht i x H Q hi) (fun hb H Q => he i x H Q hi hb)
end
theorem ffalse {β : Type} (f : Nat → β) (n : Nat) : ((List.range n).filter fun _ => true).map f = (List.range n).map f := by
  rw [List.filter_eq_self.mpr fun _ _ => rfl]

/-! ### what a tool does to a place -/
def tgtFrom (p : Int) : Int → List (Int × Int) → Int
  | f, [] => f
  | f, bt :: r => tgtFrom p (if bt.1 ≤ p then bt.2 else f) r
def tgt (tl : List (Int × Int)) (p : Int) : Int := tgtFrom p (tl.getLastD (0, 0)).2 tl
theorem tgtFrom_snoc (p : Int) (bt : Int × Int) : ∀ (l : List (Int × Int)) (f : Int), tgtFrom p f (l ++ [bt]) = if bt.1 ≤ p then bt.2 else tgtFrom p f l
  | [], f => rfl
  | x :: l, f => tgtFrom_snoc p bt l _
theorem tgtFrom_none (p : Int) : ∀ (l : List (Int × Int)) (f : Int), (∀ x ∈ l, ¬ x.1 ≤ p) → tgtFrom p f l = f
  | [], f, _ => rfl
  | x :: l, f, h => by
    unfold tgtFrom
    rw [if_neg (h x List.mem_cons_self)]
    exact tgtFrom_none p l f fun y hy => h y (List.mem_cons_of_mem _ hy)
theorem tgtFrom_congr {p p' : Int} : ∀ (l : List (Int × Int)) (f : Int), (∀ x ∈ l, (x.1 ≤ p ↔ x.1 ≤ p')) → tgtFrom p f l = tgtFrom p' f l
  | [], f, _ => rfl
  | x :: l, f, h => by
    unfold tgtFrom
    have e : (if x.1 ≤ p then x.2 else f) = (if x.1 ≤ p' then x.2 else f) := by
      by_cases z : x.1 ≤ p
      · rw [if_pos z, if_pos ((h x List.mem_cons_self).mp z)]
      · rw [if_neg z, if_neg fun q => z ((h x List.mem_cons_self).mpr q)]
    rw [e]
    exact tgtFrom_congr l _ fun y hy => h y (List.mem_cons_of_mem _ hy)
theorem tgtFrom_all (p : Int) : ∀ (l : List (Int × Int)) (f : Int) (hl : l ≠ []), (∀ x ∈ l, x.1 ≤ p) → tgtFrom p f l = (l.getLastD (0, 0)).2
  | [x], f, _, h => by
    unfold tgtFrom
    rw [if_pos (h x List.mem_cons_self)]
    rfl
  | x :: y :: l, f, _, h => by
    unfold tgtFrom
    rw [tgtFrom_all p (y :: l) _ (List.cons_ne_nil _ _) fun z hz => h z (List.mem_cons_of_mem _ hz)]
    rfl
theorem tgtFrom_hit {p t : Int} : ∀ (l : List (Int × Int)) (f : Int), l.Pairwise (fun x y => x.1 < y.1) → (p, t) ∈ l → tgtFrom p f l = t
  | x :: l, f, asc, h => by
    unfold tgtFrom
    have ac := List.pairwise_cons.mp asc
    rcases List.mem_cons.mp h with e | e
    · subst e
      rw [if_pos (show p ≤ p from Int.le_refl _)]
      exact tgtFrom_none p l t fun y hy => by have := ac.1 y hy; show ¬ y.1 ≤ p; omega
    · exact tgtFrom_hit l _ ac.2 e
theorem tgt_rng {m : Int} {tl : List (Int × Int)} (h : IsTool m tl) (p : Int) : 0 ≤ tgt tl p ∧ tgt tl p < m := by
  have hl : tl ≠ [] := fun e => by
    have := h.len1
    rw [e, List.length_nil] at this
    omega
  have key : ∀ (l : List (Int × Int)) (f : Int), (∀ x ∈ l, 0 ≤ x.2 ∧ x.2 < m) → 0 ≤ f ∧ f < m → 0 ≤ tgtFrom p f l ∧ tgtFrom p f l < m := by
    intro l
    induction l with
    | nil => exact fun f _ hf => hf
    | cons x l ih =>
      intro f hx hf
      unfold tgtFrom
      apply ih
      · exact fun y hy => hx y (List.mem_cons_of_mem _ hy)
      · split
        · exact hx x List.mem_cons_self
        · exact hf
  apply key
  · exact fun x hx => (h.rng x hx).2
  · have e : tl.getLastD (0, 0) = tl.getLast hl := by
      cases tl with
      | nil => exact absurd rfl hl
      | cons x l => exact List.getLastD_cons .. |>.trans (by rw [List.getLast_eq_getLastD])
    rw [e]
    exact (h.rng _ (List.getLast_mem hl)).2
theorem getLastD_eq {tl : List (Int × Int)} (h : tl ≠ []) : tl[tl.length - 1]? = some (tl.getLastD (0, 0)) := by
  cases tl with
  | nil => exact absurd rfl h
  | cons x l =>
    rw [← List.getLast?_eq_getElem?, List.getLastD_eq_getLast?]
    rw [List.getLast?_eq_some_getLast (List.cons_ne_nil x l)]
    rfl
theorem Paired.at {α β : Type} {F : α → β → Prop} : ∀ {l : List α} {r : List β}, Paired F l r → ∀ {i : Nat} {x : α}, l[i]? = some x → ∃ y, r[i]? = some y ∧ F x y
  | _, _, .nil, i, x, h => by simp at h
  | _, _, .cons h t, 0, x, e => by
    cases (Option.some.inj e)
    exact ⟨_, rfl, h⟩
  | _, _, .cons h t, i + 1, x, e => by
    obtain ⟨y, e1, e2⟩ := Paired.at t (i := i) (x := x) (by simpa using e)
    exact ⟨y, by simpa using e1, e2⟩
theorem PairsAt.get {H : Hp} {as : List Addr} {tl : List (Int × Int)} (h : PairsAt H as tl) {i : Nat} {v : V} (e : (as.map V.ref)[i]? = some v) :
    ∃ p bt, v = .ref p ∧ tl[i]? = some bt ∧ H p = some (.tup [.int bt.1, .int bt.2]) := by
  rw [List.getElem?_map] at e
  cases z : as[i]? with
  | none =>
    rw [z] at e
    cases e
  | some p =>
    rw [z] at e
    cases e
    obtain ⟨bt, e1, e2⟩ := Paired.at h z
    exact ⟨p, bt, rfl, e1, e2⟩
theorem atI_neg1 {α : Type} {xs : List α} {v : α} (h : xs[xs.length - 1]? = some v) : atI xs (-1) = some v := by
  have hp : 0 < xs.length := by
    have := (List.getElem?_eq_some_iff.mp h).1
    omega
  unfold atI ixN
  rw [if_neg (by decide), if_pos (by omega)]
  show xs[(-1 + (xs.length : Int)).toNat]? = some v
  have e : (-1 + (xs.length : Int)).toNat = xs.length - 1 := by omega
  rw [e]
  exact h
def spTarget_of : Sp := fun vs H Q _ => ∃ (m : V) (t : Addr) (tl : List (Int × Int)) (p : Int), vs = [m, .ref t, .int p] ∧ ToolAt H t tl ∧ tl ≠ [] ∧
  ∀ H', Same H H' → Q (.int (tgt tl p)) H'
def spLTarget : Sp := fun vs H Q _ => ∃ (m : Int) (t : Addr) (tl : List (Int × Int)) (p : Int), vs = [.int m, .ref t, .int p] ∧ ToolAt H t tl ∧ IsTool m tl ∧ 0 ≤ p ∧ p < m ∧
  ∀ H', Same H H' → Q (.int (tgt tl p)) H'
/-! ### the dict of a tool -/
def kvOf (bt : Int × Int) : Key × V := (.inl bt.1, .int bt.2)
theorem merge_cons (acc : List (Key × V)) (x : Key × V) (r : List (Key × V)) : mergeK acc (x :: r) = mergeK (putK acc x.1 x.2) r := rfl
theorem val_miss (p : Int) : ∀ (tl : List (Int × Int)) (acc : List (Key × V)), (∀ x ∈ tl, x.1 ≠ p) → valV (mergeK acc (tl.map kvOf)) (.inl p) = valV acc (.inl p)
  | [], acc, _ => rfl
  | x :: r, acc, h => by
    rw [List.map_cons, merge_cons, val_miss p r _ fun y hy => h y (List.mem_cons_of_mem _ hy), valV_put, if_neg]
    intro e
    exact h x List.mem_cons_self (Sum.inl.inj e).symm
theorem val_hit {p t : Int} : ∀ (tl : List (Int × Int)) (acc : List (Key × V)), tl.Pairwise (fun x y => x.1 < y.1) → (p, t) ∈ tl → valV (mergeK acc (tl.map kvOf)) (.inl p) = some (.int t)
  | x :: r, acc, asc, h => by
    have ac := List.pairwise_cons.mp asc
    rw [List.map_cons, merge_cons]
    rcases List.mem_cons.mp h with e | e
    · subst e
      rw [val_miss p r _ fun y hy => by have := ac.1 y hy; show y.1 ≠ p; omega, valV_put, if_pos (show (Sum.inl p : Key) = (kvOf (p, t)).1 from rfl)]
      rfl
    · exact val_hit r _ ac.2 e
theorem PairsAt.kvs {K : PySem.W.Frag} {H : Hp} : ∀ {as : List Addr} {tl : List (Int × Int)}, PairsAt H as tl → Paired (fun p kv => SqT K H p [kV kv.1, kv.2]) as (tl.map kvOf)
  | _, _, .nil => .nil
  | _, _, .cons h t => .cons (SqT.of h) (PairsAt.kvs t)
theorem back_lt {m p : Int} (h0 : 0 < p) (h1 : p < m) : (p - 1) % m = p - 1 := Int.emod_eq_of_lt (by omega) (by omega)
theorem back_zero {m : Int} (h : 1 ≤ m) : ((0 : Int) - 1) % m = m - 1 := by
  have e : (0 : Int) - 1 = (m - 1) + m * (-1) := by omega
  rw [e, Int.add_mul_emod_self_left]
  exact Int.emod_eq_of_lt (by omega) (by omega)
theorem tgt_back {m p : Int} {tl : List (Int × Int)} (h : IsTool m tl) (h0 : 0 ≤ p) (h1 : p < m) (nb : ∀ x ∈ tl, x.1 ≠ p) : tgt tl ((p - 1) % m) = tgt tl p := by
  have hl : tl ≠ [] := fun e => by
    have := h.len1
    rw [e, List.length_nil] at this
    omega
  by_cases hp : p = 0
  · subst hp
    rw [back_zero (by omega)]
    unfold tgt
    rw [tgtFrom_all _ tl _ hl fun x hx => by have := (h.rng x hx).1; omega, tgtFrom_none _ tl _ fun x hx => by
      have := (h.rng x hx).1
      have := nb x hx
      omega]
  · rw [back_lt (by omega) h1]
    unfold tgt
    exact tgtFrom_congr tl _ fun x hx => by
      have := nb x hx
      omega

/-! ### data that can be shown -/
structure Fine (d : PyData) (n e : Nat) : Prop where
  sh : d.showable = true
  nd : d.hasDict = false
  dp : d.depth ≤ e
  ln : d.shown.length ≤ n
theorem Fine.mono {d : PyData} {n n' e e' : Nat} (h : Fine d n e) (h1 : n ≤ n') (h2 : e ≤ e') : Fine d n' e' := ⟨h.sh, h.nd, Nat.le_trans h.dp h2, Nat.le_trans h.ln h1⟩
theorem fine_int {i : Int} (h : i.natAbs < 2 ^ 200) : Fine (.int i) 1921 0 := by
  have hl : i.natAbs.log2 < 1920 := by
    by_cases z : i.natAbs = 0
    · rw [z]
      decide
    · exact (Nat.log2_lt z).mpr (Nat.lt_trans h (Nat.pow_lt_pow_right (by decide) (by decide)))
  refine ⟨decide_eq_true hl, rfl, Nat.le_refl _, ?_⟩
  exact PyProof.Rows.int_text_len_1921 hl
theorem showableAll_of : ∀ {ds : List PyData}, (∀ d ∈ ds, d.showable = true) → PyData.showableAll ds = true
  | [], _ => rfl
  | d :: ds, h => by
    show (d.showable && PyData.showableAll ds) = true
    rw [h d List.mem_cons_self, showableAll_of fun x hx => h x (List.mem_cons_of_mem _ hx)]
    rfl
theorem hasDictAll_of : ∀ {ds : List PyData}, (∀ d ∈ ds, d.hasDict = false) → PyData.hasDictAll ds = false
  | [], _ => rfl
  | d :: ds, h => by
    show (d.hasDict || PyData.hasDictAll ds) = false
    rw [h d List.mem_cons_self, hasDictAll_of fun x hx => h x (List.mem_cons_of_mem _ hx)]
    rfl
theorem depthAll_of {e : Nat} : ∀ {ds : List PyData}, (∀ d ∈ ds, d.depth ≤ e) → PyData.depthAll ds ≤ e
  | [], _ => Nat.zero_le _
  | d :: ds, h => by
    show max d.depth (PyData.depthAll ds) ≤ e
    exact Nat.max_le.mpr ⟨h d List.mem_cons_self, depthAll_of fun x hx => h x (List.mem_cons_of_mem _ hx)⟩
theorem piled_of {n : Nat} : ∀ {ds : List PyData}, (∀ d ∈ ds, d.shown.length ≤ n) → piled (PyData.shownAll ds) ≤ ds.length * (n + 2)
  | [], _ => Nat.zero_le _
  | d :: ds, h => by
    show piled (d.shown :: PyData.shownAll ds) ≤ _
    rw [piled_cons, List.length_cons, Nat.add_mul, Nat.one_mul, Nat.add_comm]
    exact Nat.add_le_add (piled_of fun x hx => h x (List.mem_cons_of_mem _ hx)) (Nat.add_le_add_right (h d List.mem_cons_self) 2)
theorem listText_le : ∀ ts : List Str, (listText ts).length ≤ piled ts + 2
  | [] => by decide +kernel
  | t :: r => by
    have e : listText (t :: r) = textFrom 1 (("[" : Str) ++ ((if 0 > 0 then ", " else "" : String) : Str) ++ t) r ++ ("]" : Str) := rfl
    rw [e, strLen_append, textFrom_length_pos _ _ _ (by decide), strLen_append, strLen_append, piled_cons]
    have e1 : ("[" : Str).length = 1 := rfl
    have e2 : (((if 0 > 0 then ", " else "" : String)) : Str).length = 0 := rfl
    have e3 : ("]" : Str).length = 1 := rfl
    omega
theorem tupleText_le : ∀ ts : List Str, (tupleText ts).length ≤ piled ts + 3
  | [] => by decide +kernel
  | t :: r => by
    have j := join_length_add (t :: r) (List.cons_ne_nil _ _)
    have e : tupleText (t :: r) = ("(" : Str) ++ Str.join ", " (t :: r) ++ ((if (t :: r).length == 1 then ",)" else ")" : String) : Str) := rfl
    rw [e, strLen_append, strLen_append]
    have e1 : ("(" : Str).length = 1 := rfl
    have e2 : (((if (t :: r).length == 1 then ",)" else ")" : String)) : Str).length ≤ 2 := by
      split
      · exact Nat.le_refl _
      · exact Nat.le_succ _
    omega
theorem fine_list {ds : List PyData} {n e : Nat} (h : ∀ d ∈ ds, Fine d n e) : Fine (.list ds) (ds.length * (n + 2) + 2) (e + 1) := by
  refine ⟨showableAll_of fun d hd => (h d hd).sh, hasDictAll_of fun d hd => (h d hd).nd, Nat.succ_le_succ (depthAll_of fun d hd => (h d hd).dp), ?_⟩
  exact Nat.le_trans (listText_le _) (Nat.add_le_add_right (piled_of fun d hd => (h d hd).ln) 2)
theorem fine_tuple {ds : List PyData} {n e : Nat} (h : ∀ d ∈ ds, Fine d n e) : Fine (.tuple ds) (ds.length * (n + 2) + 3) (e + 1) := by
  refine ⟨showableAll_of fun d hd => (h d hd).sh, hasDictAll_of fun d hd => (h d hd).nd, Nat.succ_le_succ (depthAll_of fun d hd => (h d hd).dp), ?_⟩
  exact Nat.le_trans (tupleText_le _) (Nat.add_le_add_right (piled_of fun d hd => (h d hd).ln) 3)
/-- data that repr takes -/
def Shows (d : PyData) : Prop := Fine d 16000000 60
theorem Fine.shows {d : PyData} {n e : Nat} (h : Fine d n e) (h1 : n ≤ 16000000 := by decide) (h2 : e ≤ 60 := by decide) : Shows d := h.mono h1 h2
theorem Shows.le {d : PyData} (h : Shows d) : d.shown.length ≤ sizeLine := Nat.le_trans h.ln (by decide)
def intsD (ns : List Int) : PyData := .list (ns.map PyData.int)
theorem dp_ints {K : PySem.W.Frag} {H : Hp} : ∀ ns : List Int, DpAll K H (ns.map V.int) (ns.map PyData.int)
  | [] => .nil
  | n :: r => .cons (.int n) (dp_ints r)
theorem small_int {i : Int} (h : i.natAbs < 10 ^ 40) : i.natAbs < 2 ^ 200 := Nat.lt_of_lt_of_le h (by decide)
theorem ints_shows {ns : List Int} (hl : ns.length ≤ 2000) (h : ∀ n ∈ ns, n.natAbs < 2 ^ 200) : Shows (intsD ns) := by
  have f : Fine (intsD ns) ((ns.map PyData.int).length * (1921 + 2) + 2) (0 + 1) := fine_list fun d hd => by
    rw [List.mem_map] at hd
    obtain ⟨n, hn, e⟩ := hd
    subst e
    exact fine_int (h n hn)
  rw [List.length_map] at f
  exact f.mono (by omega) (by decide)
def pairD (p : Int × Int) : PyData := .tuple [.int p.1, .int p.2]
def toolD (tl : List (Int × Int)) : PyData := .tuple (tl.map pairD)
theorem dp_pairs {K : PySem.W.Frag} {H : Hp} : ∀ {as : List Addr} {tl : List (Int × Int)}, PairsAt H as tl → DpAll K H (as.map V.ref) (tl.map pairD)
  | _, _, .nil => .nil
  | _, _, .cons h t => .cons (.tup (SqT.of h) (.cons (.int _) (.cons (.int _) .nil))) (dp_pairs t)
theorem ToolAt.dp {K : PySem.W.Frag} {H : Hp} {a : Addr} {tl : List (Int × Int)} (h : ToolAt H a tl) : Dp K H (.ref a) (toolD tl) := by
  obtain ⟨o, as, h1, h2, h3⟩ := h
  exact .tup (.inl (.inr ⟨o, h1⟩)) (dp_pairs h3)
theorem tool_fine {m : Int} {tl : List (Int × Int)} (h : IsTool m tl) (hm : m ≤ 60) : Fine (toolD tl) 50000 2 := by
  have hp : ∀ d ∈ tl.map pairD, Fine d (2 * (1921 + 2) + 3) (0 + 1) := by
    intro d hd
    rw [List.mem_map] at hd
    obtain ⟨p, hp, e⟩ := hd
    subst e
    have r := h.rng p hp
    refine fine_tuple (ds := [.int p.1, .int p.2]) fun d hd => ?_
    rcases List.mem_cons.mp hd with z | z
    · rw [z]
      exact fine_int (small_int (by omega))
    · rw [List.mem_singleton.mp z]
      exact fine_int (small_int (by omega))
  have f := fine_tuple hp
  rw [List.length_map] at f
  refine f.mono ?_ (by decide)
  have := h.len2
  omega
/-- two things that are shown alike -/
def spSame (K : PySem.W.Frag) : Sp := fun vs H Q _ => ∃ (x y : Addr) (d : PyData), vs = [.ref x, .ref y] ∧ Dp K H (.ref x) d ∧ Dp K H (.ref y) d ∧ Shows d ∧ Q (.bl true) H
theorem pick3 {K : PySem.W.Frag} {t : Int} (h : 0 ≤ t) (x y z : Int) : ∃ v, atI [V.int x, V.int y, V.int z] (t % 3) = some (.int v) ∧ (v = x ∨ v = y ∨ v = z) := by
  have h1 : t % 3 = 0 ∨ t % 3 = 1 ∨ t % 3 = 2 := by omega
  rcases h1 with e | e | e
  · exact ⟨x, by rw [e]; rfl, .inl rfl⟩
  · exact ⟨y, by rw [e]; rfl, .inr (.inl rfl)⟩
  · exact ⟨z, by rw [e]; rfl, .inr (.inr rfl)⟩
theorem range_upto {β : Type} (f : Int → β) (m : Int) : (List.range m.toNat).map (fun i => f (0 + (i : Nat))) = (upto m).map f := by
  unfold upto
  rw [List.map_map]
  apply List.map_congr_left
  intro i _
  show f (0 + (i : Nat)) = f ((i : Nat) : Int)
  rw [Int.zero_add]
theorem range_ints (f : Int → Int) (m : Int) : (List.range m.toNat).map (fun i => V.int (f (0 + (i : Nat)))) = ((upto m).map f).map V.int := by
  rw [range_upto (fun z => V.int (f z)), List.map_map]
  rfl
theorem mod_of_eq {m x y q : Int} (h : x = y + m * q) : x % m = y % m := by
  rw [h, Int.add_mul_emod_self_left]
theorem mod_split (x m : Int) : x % m = x + m * (-(x / m)) := by
  have h := Int.mul_ediv_add_emod x m
  rw [Int.mul_neg]
  omega
theorem add_mod' (a b m : Int) : (a + b % m) % m = (a + b) % m := by
  apply mod_of_eq (q := -(b / m))
  rw [mod_split b m]
  omega
theorem mod_add' (a b m : Int) : (a % m + b) % m = (a + b) % m := by
  rw [Int.add_comm, add_mod', Int.add_comm]
theorem mod_sub' (a b m : Int) : (a % m - b) % m = (a - b) % m := by
  apply mod_of_eq (q := -(a / m))
  rw [mod_split a m]
  omega
theorem sub_mod' (a b m : Int) : (a - b % m) % m = (a - b) % m := by
  apply mod_of_eq (q := (b / m))
  rw [mod_split b m, Int.mul_neg]
  omega
theorem mem_arc' {m b l x : Int} (hm : 0 < m) (hl : l ≤ m) (hx0 : 0 ≤ x) (hx : x < m) : (x - b) % m < l ↔ ∃ k : Nat, (k : Int) < l ∧ x = (b + k) % m := by
  constructor
  · intro h
    have h0 := Int.emod_nonneg (x - b) (show m ≠ 0 by omega)
    refine ⟨((x - b) % m).toNat, by omega, ?_⟩
    have e : (((x - b) % m).toNat : Int) = (x - b) % m := by omega
    rw [e, add_mod', show b + (x - b) = x by omega, Int.emod_eq_of_lt hx0 hx]
  · intro ⟨k, hk, e⟩
    rw [e, mod_sub', show b + (k : Int) - b = k by omega, Int.emod_eq_of_lt (by omega) (by omega)]
    exact hk

/-! ### data stays -/
section
variable {K : PySem.W.Frag} {H H' : Hp}
mutual
theorem dp_same (s : Same H H') : ∀ (d : PyData) (v : V), Dp K H v d → Dp K H' v d
  | .none, _, h => by
    cases h
    exact .non
  | .bool b, _, h => by
    cases h
    exact .bl b
  | .int i, _, h => by
    cases h
    exact .int i
  | .str x, _, h => by
    cases h
    exact .str x
  | .list ds, _, h => by
    cases h with
    | lst hs ha => exact .lst (s.seq hs) (dpAll_same s ds _ ha)
  | .tuple ds, _, h => by
    cases h with
    | tup hs ha => exact .tup (same_tup s hs) (dpAll_same s ds _ ha)
  | .dict _, _, h => by cases h
theorem dpAll_same (s : Same H H') : ∀ (ds : List PyData) (vs : List V), DpAll K H vs ds → DpAll K H' vs ds
  | [], _, h => by
    cases h
    exact .nil
  | d :: ds, _, h => by
    cases h with
    | cons h1 h2 => exact .cons (dp_same s d _ h1) (dpAll_same s ds _ h2)
end
end
theorem dpAll_snoc {K : PySem.W.Frag} {H : Hp} {v : V} {d : PyData} (h : Dp K H v d) : ∀ {vs : List V} {ds : List PyData}, DpAll K H vs ds → DpAll K H (vs ++ [v]) (ds ++ [d])
  | _, _, .nil => .cons h .nil
  | _, _, .cons a b => .cons a (dpAll_snoc h b)
theorem dpAll_len {K : PySem.W.Frag} {H : Hp} : ∀ {vs : List V} {ds : List PyData}, DpAll K H vs ds → vs.length = ds.length
  | _, _, .nil => rfl
  | _, _, .cons _ b => congrArg Nat.succ (dpAll_len b)
/-! data without lists stays where what is no list stays -/
mutual
def noList : PyData → Bool
  | .none => true
  | .bool _ => true
  | .int _ => true
  | .str _ => true
  | .list _ => false
  | .tuple ds => noLists ds
  | .dict _ => false
def noLists : List PyData → Bool
  | [] => true
  | d :: ds => noList d && noLists ds
end
theorem stay_tup {K : PySem.W.Frag} {H H' : Hp} {a : Addr} {xs : List V} (e : Stay H H') (h : SqT K H a xs) : SqT K H' a xs := by
  rcases h with (h | ⟨o, h⟩) | h
  · exact .inl (.inl (e _ _ (by intro ys z; cases z) h))
  · exact .inl (.inr ⟨o, e _ _ (by intro ys z; cases z) h⟩)
  · exact .inr h
section
variable {K : PySem.W.Frag} {H H' : Hp}
mutual
theorem dp_stay (s : Stay H H') : ∀ (d : PyData) (v : V), noList d = true → Dp K H v d → Dp K H' v d
  | .none, _, _, h => by
    cases h
    exact .non
  | .bool b, _, _, h => by
    cases h
    exact .bl b
  | .int i, _, _, h => by
    cases h
    exact .int i
  | .str x, _, _, h => by
    cases h
    exact .str x
  | .list ds, _, z, h => by cases z
  | .tuple ds, _, z, h => by
    cases h with
    | tup hs ha => exact .tup (stay_tup s hs) (dpAll_stay s ds _ z ha)
  | .dict _, _, _, h => by cases h
theorem dpAll_stay (s : Stay H H') : ∀ (ds : List PyData) (vs : List V), noLists ds = true → DpAll K H vs ds → DpAll K H' vs ds
  | [], _, _, h => by
    cases h
    exact .nil
  | d :: ds, _, z, h => by
    have z : (noList d && noLists ds) = true := z
    rw [Bool.and_eq_true] at z
    cases h with
    | cons h1 h2 => exact .cons (dp_stay s d _ z.1 h1) (dpAll_stay s ds _ z.2 h2)
end
end
theorem noLists_of : ∀ {ds : List PyData}, (∀ d ∈ ds, noList d = true) → noLists ds = true
  | [], _ => rfl
  | d :: ds, h => by
    show (noList d && noLists ds) = true
    rw [h d List.mem_cons_self, noLists_of fun x hx => h x (List.mem_cons_of_mem _ hx)]
    rfl
theorem stay_list {H : Hp} {D : Addr} {us ws : List V} (h : H D = some (.lst us)) : Stay H (upd H D (.lst ws)) := by
  intro b o n e
  have : b ≠ D := by
    intro z
    subst z
    rw [h] at e
    exact n _ (Option.some.inj e).symm
  rw [upd_ne this]
  exact e
/-- a comprehension over a range whose elements are new data -/
theorem lcRD {K : PySem.W.Frag} {j : Nat} {te : TE} {vs : List Nat} {σ : L2.St} {H1 : Hp} {D : Addr} {Qd : Hp → Prop} {lo : Int} {n : Nat} (d : Nat → PyData) (hn : n ≤ 100000) (nD : H1 D = none)
    (nl : ∀ i, noList (d i) = true) (hw : ∀ v, wipe ((wipe σ vs).set j (some v)) vs = wipe σ vs)
    (he : ∀ (i : Nat) (H : Hp) (Q : VK), i < n → Same H1 H → (∀ v H', Same H H' → Dp K H' v (d i) → Q v H') → te ((wipe σ vs).set j (some (.int (lo + i)))) H Q)
    (hd : ∀ us H', Same H1 H' → H' D = some (.lst us) → DpAll K H' us ((List.range n).map d) → Qd H') :
    ∃ W : Nat → Nat → Hp → Prop, (∃ m, W 0 m (upd H1 D (.lst []))) ∧ ∀ i m H, W i m H → ((Itr lo n).stop i H ∧ Qd H) ∨ ((Itr lo n).go i H ∧
      ∃ Nx : Hp → Prop, (∀ H', Nx H' → ∃ m', m' < m ∧ W (i + 1) m' H') ∧ ∀ x H', (Itr lo n).yld i H x H' → gName j x (wipe σ vs) H' fun σ2 H2 =>
        wipe σ2 vs = wipe σ vs ∧ tYes σ2 H2 fun b H3 => if b = true then te σ2 H3 fun y H4 => ∃ acc, H4 D = some (.lst acc) ∧ acc.length < sizeLine ∧ Nx (upd H4 D (.lst (acc ++ [y]))) else Nx H3) := by
  refine lc_range (fun i H => ∃ us, Same H1 H ∧ H D = some (.lst us) ∧ DpAll K H us ((List.range i).map d)) ?_ ?_ ?_
  · exact ⟨[], same_upd nD, upd_same, .nil⟩
  · intro i H hi h
    obtain ⟨us, hs, hD, ha⟩ := h
    refine ⟨hw _, he i H _ hi hs fun v H' s' hv => ⟨us, s' _ _ hD, ?_, us ++ [v], ?_, upd_same, ?_⟩⟩
    · have := dpAll_len ha
      rw [List.length_map, List.length_range] at this
      rw [this]
      exact Nat.lt_trans hi (Nat.lt_of_le_of_lt hn (by decide))
    · intro x o e
      rw [upd_ne (ne_of_none e nD)]
      exact s' _ _ (hs _ _ e)
    · rw [List.range_succ, List.map_append]
      have st := stay_list (ws := us ++ [v]) (s' _ _ hD)
      refine dpAll_snoc (dp_stay st _ _ (nl i) hv) (dpAll_stay st _ _ (noLists_of fun z hz => ?_) (dpAll_same s' _ _ ha))
      rw [List.mem_map] at hz
      obtain ⟨q, _, e⟩ := hz
      rw [← e]
      exact nl q
  · intro H h
    obtain ⟨us, hs, hD, ha⟩ := h
    exact hd us H hs hD ha
def tupD (ns : List Int) : PyData := .tuple (ns.map PyData.int)
theorem tupD_fine {ns : List Int} (hl : ns.length ≤ 2000) (h : ∀ n ∈ ns, n.natAbs < 2 ^ 200) : Fine (tupD ns) 3900000 1 := by
  have f : Fine (tupD ns) ((ns.map PyData.int).length * (1921 + 2) + 3) (0 + 1) := fine_tuple fun d hd => by
    rw [List.mem_map] at hd
    obtain ⟨n, hn, e⟩ := hd
    subst e
    exact fine_int (h n hn)
  rw [List.length_map] at f
  exact f.mono (by omega) (by decide)
theorem noList_tupD (ns : List Int) : noList (tupD ns) = true := noLists_of fun d hd => by
  rw [List.mem_map] at hd
  obtain ⟨n, _, e⟩ := hd
  rw [← e]
  rfl
theorem noList_toolD (tl : List (Int × Int)) : noList (toolD tl) = true := noLists_of fun d hd => by
  rw [List.mem_map] at hd
  obtain ⟨n, _, e⟩ := hd
  rw [← e]
  rfl
theorem two_shows {d : PyData} {n e : Nat} (h : Fine d n e) (hn : n ≤ 7000000) (he : e ≤ 50) : Shows (.list [d, d]) := by
  have f : Fine (.list [d, d]) (2 * (n + 2) + 2) (e + 1) := fine_list (ds := [d, d]) fun x hx => by
    rcases List.mem_cons.mp hx with z | z
    · rw [z]
      exact h
    · rw [List.mem_singleton.mp z]
      exact h
  exact f.mono (by omega) (by omega)

/-! ### arcs -/
def inArc (m b l p : Int) : Bool := decide ((p - b) % m < l)
def spArc : Sp := fun vs H Q _ => ∃ (m b l p : Int), vs = [.int m, .int b, .int l, .int p] ∧ 0 < m ∧ Q (.bl (inArc m b l p)) H
def brought (m : Int) (tl : List (Int × Int)) (b l : Int) : List Int := (upto m).filter fun x => inArc m b l (tgt tl x)
def spBrought : Sp := fun vs H Q _ => ∃ (m b l : Int) (t : Addr) (tl : List (Int × Int)), vs = [.int m, .ref t, .int b, .int l] ∧ ToolAt H t tl ∧ tl ≠ [] ∧ 1 ≤ m ∧ m ≤ 60 ∧
  ∀ (p : Addr) (H' : Hp), Same H H' → H p = none → H' p = some (.tup ((brought m tl b l).map V.int)) → Q (.ref p) H'
theorem range_filter (f : Int → Bool) (m : Int) : ((List.range m.toNat).filter fun i => f (0 + (i : Nat))).map (fun i => V.int (0 + (i : Nat))) = ((upto m).filter f).map V.int := by
  unfold upto
  rw [List.filter_map, List.map_map]
  have e : (List.range m.toNat).filter (fun i => f (0 + (i : Nat))) = (List.range m.toNat).filter (f ∘ fun i => ((i : Nat) : Int)) := by
    apply List.filter_congr
    intro i _
    show f (0 + (i : Nat)) = f ((i : Nat) : Int)
    rw [Int.zero_add]
  rw [e]
  apply List.map_congr_left
  intro i _
  show V.int (0 + (i : Nat)) = V.int ((i : Nat) : Int)
  rw [Int.zero_add]

theorem inV_ints (x : Int) : ∀ ns : List Int, inV (.int x) (ns.map V.int) = true ↔ x ∈ ns
  | [] => ⟨fun h => (by cases h), fun h => (List.not_mem_nil h).elim⟩
  | n :: r => by
    have ih := inV_ints x r
    have e : inV (.int x) ((n :: r).map V.int) = ((n == x) || inV (.int x) (r.map V.int)) := rfl
    rw [e, Bool.or_eq_true, ih, List.mem_cons, beq_iff_eq]
    constructor
    · rintro (h | h)
      · exact .inl h.symm
      · exact .inr h
    · rintro (h | h)
      · exact .inl h.symm
      · exact .inr h
theorem flat_ints : ∀ ns : List Int, (ns.map V.int).all flatV = true
  | [] => rfl
  | n :: r => flat_ints r
def arcOf (m b l : Int) : List Int := (List.range l.toNat).map fun k => (b + (0 + (k : Nat))) % m
theorem arcOf_V (m b l : Int) : (List.range l.toNat).map (fun k => V.int ((b + (0 + (k : Nat))) % m)) = (arcOf m b l).map V.int := by
  unfold arcOf
  rw [List.map_map]
  rfl
theorem mem_arcOf {m b l x : Int} : x ∈ arcOf m b l ↔ ∃ k : Nat, (k : Int) < l ∧ x = (b + k) % m := by
  unfold arcOf
  rw [List.mem_map]
  constructor
  · intro ⟨k, hk, e⟩
    rw [List.mem_range] at hk
    exact ⟨k, by omega, by rw [← e, Int.zero_add]⟩
  · intro ⟨k, hk, e⟩
    exact ⟨k, by rw [List.mem_range]; omega, by rw [e, Int.zero_add]⟩
theorem in_arcOf {m b l x : Int} (hm : 0 < m) (hl : l ≤ m) (hx0 : 0 ≤ x) (hx : x < m) : inV (.int x) ((arcOf m b l).map V.int) = inArc m b l x := by
  have h1 := inV_ints x (arcOf m b l)
  rw [mem_arcOf, ← mem_arc' hm hl hx0 hx] at h1
  unfold inArc
  by_cases h : (x - b) % m < l
  · rw [decide_eq_true h, h1.mpr h]
  · rw [decide_eq_false h]
    cases e : inV (.int x) ((arcOf m b l).map V.int) with
    | false => rfl
    | true => exact absurd (h1.mp e) h
theorem brought_len (m : Int) (tl : List (Int × Int)) (b l : Int) : (brought m tl b l).length ≤ m.toNat := by
  unfold brought
  exact Nat.le_trans (List.length_filter_le _ _) (by rw [upto_len]; exact Nat.le_refl _)
theorem brought_mem {m : Int} {tl : List (Int × Int)} {b l x : Int} (h : x ∈ brought m tl b l) : 0 ≤ x ∧ x < m := by
  unfold brought at h
  exact upto_mem.mp (List.mem_filter.mp h).1
theorem range_getD {β : Type} (g : Int → β) : ∀ ps : List Int, (List.range ps.length).map (fun i => g (ps.getD i 0)) = ps.map g := by
  intro ps
  apply List.ext_getElem?
  intro i
  rw [List.getElem?_map, List.getElem?_map]
  by_cases h : i < ps.length
  · rw [List.getElem?_range h, List.getElem?_eq_getElem h]
    show some (g (ps.getD i 0)) = some (g ps[i])
    rw [List.getD_eq_getElem?_getD, List.getElem?_eq_getElem h]
    rfl
  · rw [List.getElem?_eq_none (by rw [List.length_range]; omega), List.getElem?_eq_none (by omega)]
    rfl
theorem int_item {ps : List Int} {i : Nat} {x : V} (h : (ps.map V.int)[i]? = some x) : x = .int (ps.getD i 0) ∧ i < ps.length ∧ ps.getD i 0 ∈ ps := by
  rw [List.getElem?_map] at h
  cases e : ps[i]? with
  | none =>
    rw [e] at h
    cases h
  | some n =>
    rw [e] at h
    have hi := (List.getElem?_eq_some_iff.mp e).1
    have ed : ps.getD i 0 = n := by
      rw [List.getD_eq_getElem?_getD, e]
      rfl
    rw [ed]
    exact ⟨(Option.some.inj h).symm, hi, List.mem_of_getElem? e⟩
theorem keep_none {a c p : Addr} {H H' : Hp} {k : Int} (kp : Keep a c H H') (dk : Deck H' a c k) (h : H' p = none) : H p = none := by
  obtain ⟨h1, h2⟩ := dk.nea h
  cases e : H p with
  | none => rfl
  | some o =>
    rw [kp _ _ h1 h2 e] at h
    cases h
/-! ### counting places -/
def cntN (P : Int → Bool) (lo : Int) : Nat → Nat
  | 0 => 0
  | n + 1 => cntN P lo n + (if P (lo + (n : Nat)) = true then 1 else 0)
theorem cntN_add (P : Int → Bool) (lo : Int) (a : Nat) : ∀ b : Nat, cntN P lo (a + b) = cntN P lo a + cntN P (lo + (a : Nat)) b
  | 0 => rfl
  | b + 1 => by
    have ih := cntN_add P lo a b
    show cntN P lo (a + b) + (if P (lo + ((a + b : Nat) : Int)) = true then 1 else 0) = cntN P lo a + (cntN P (lo + (a : Nat)) b + (if P (lo + (a : Nat) + (b : Nat)) = true then 1 else 0))
    have e : lo + ((a + b : Nat) : Int) = lo + (a : Nat) + (b : Nat) := by omega
    rw [ih, e]
    omega
theorem cntN_congr {P P' : Int → Bool} {lo : Int} : ∀ n : Nat, (∀ x, lo ≤ x → x < lo + (n : Nat) → P x = P' x) → cntN P lo n = cntN P' lo n
  | 0, _ => rfl
  | n + 1, h => by
    show cntN P lo n + _ = cntN P' lo n + _
    rw [cntN_congr n fun x h1 h2 => h x h1 (by omega), h (lo + (n : Nat)) (by omega) (by omega)]
theorem cntN_const {lo : Int} (c : Bool) : ∀ n : Nat, cntN (fun _ => c) lo n = if c = true then n else 0
  | 0 => by cases c <;> rfl
  | n + 1 => by
    show cntN (fun _ => c) lo n + _ = _
    rw [cntN_const c n]
    cases c <;> simp
theorem cnt_upto (P : Int → Bool) (m : Int) : ((upto m).filter P).length = cntN P 0 m.toNat := by
  unfold upto
  generalize m.toNat = n
  induction n with
  | zero => rfl
  | succ n ih =>
    show _ = cntN P 0 n + (if P (0 + (n : Nat)) = true then 1 else 0)
    rw [List.range_succ, List.map_append, List.filter_append, List.length_append, ih, Int.zero_add]
    show _ + ([((n : Nat) : Int)].filter P).length = _
    by_cases h : P ((n : Nat) : Int) = true
    · rw [if_pos h, List.filter_cons_of_pos h]
      rfl
    · rw [if_neg h, List.filter_cons_of_neg h]
      rfl
def segSum (P : Int → Bool) (e : Int) : Int → Int → List (Int × Int) → Int
  | f, lo, [] => if P f = true then e - lo else 0
  | f, lo, bt :: r => (if P f = true then bt.1 - lo else 0) + segSum P e bt.2 bt.1 r
theorem cnt_seg (P : Int → Bool) (m : Int) : ∀ (l : List (Int × Int)) (f lo : Int), l.Pairwise (fun x y => x.1 < y.1) → (∀ x ∈ l, lo ≤ x.1 ∧ x.1 ≤ m) → lo ≤ m →
    (cntN (fun x => P (tgtFrom x f l)) lo (m - lo).toNat : Int) = segSum P m f lo l
  | [], f, lo, _, _, hlo => by
    show (cntN (fun _ => P f) lo (m - lo).toNat : Int) = if P f = true then m - lo else 0
    rw [cntN_const]
    split <;> omega
  | bt :: r, f, lo, asc, hb, hlo => by
    have ac := List.pairwise_cons.mp asc
    have h0 := hb bt List.mem_cons_self
    have e : (m - lo).toNat = (bt.1 - lo).toNat + (m - bt.1).toNat := by omega
    have e1 : cntN (fun x => P (tgtFrom x f (bt :: r))) lo (bt.1 - lo).toNat = cntN (fun _ => P f) lo (bt.1 - lo).toNat := by
      apply cntN_congr
      intro x h1 h2
      rw [tgtFrom_none x (bt :: r) f]
      intro y hy
      rcases List.mem_cons.mp hy with z | z
      · rw [z]
        omega
      · have := ac.1 y z
        omega
    have e2 : cntN (fun x => P (tgtFrom x f (bt :: r))) (lo + ((bt.1 - lo).toNat : Nat)) (m - bt.1).toNat = cntN (fun x => P (tgtFrom x bt.2 r)) bt.1 (m - bt.1).toNat := by
      have el : lo + ((bt.1 - lo).toNat : Nat) = bt.1 := by omega
      rw [el]
      apply cntN_congr
      intro x h1 h2
      show P (tgtFrom x (if bt.1 ≤ x then bt.2 else f) r) = P (tgtFrom x bt.2 r)
      rw [if_pos h1]
    have ih := cnt_seg P m r bt.2 bt.1 ac.2 (fun y hy => ⟨by have := ac.1 y hy; omega, (hb y (List.mem_cons_of_mem _ hy)).2⟩) h0.2
    rw [e, cntN_add, e1, e2, cntN_const, Int.natCast_add, ih]
    show _ = (if P f = true then bt.1 - lo else 0) + segSum P m bt.2 bt.1 r
    split <;> omega
theorem segSum_end (P : Int → Bool) (e e' : Int) : ∀ (l : List (Int × Int)) (f lo : Int), segSum P e' f lo l = segSum P e f lo l + (if P (l.getLastD (lo, f)).2 = true then e' - e else 0)
  | [], f, lo => by
    show (if P f = true then e' - lo else 0) = (if P f = true then e - lo else 0) + (if P f = true then e' - e else 0)
    split <;> omega
  | bt :: r, f, lo => by
    show (if P f = true then bt.1 - lo else 0) + segSum P e' bt.2 bt.1 r = (if P f = true then bt.1 - lo else 0) + segSum P e bt.2 bt.1 r + _
    rw [segSum_end P e e' r bt.2 bt.1]
    have : ((bt :: r).getLastD (lo, f)) = r.getLastD (bt.1, bt.2) := by
      rw [List.getLastD_cons]
    rw [this]
    omega
/-! ### the sizes of the arcs -/
def stepsE (e : Int) : Int → List Int → List Int
  | b, [] => [e - b]
  | b, b' :: r => (b' - b) :: stepsE e b' r
def stepsOf (m : Int) (bs : List Int) : List Int := (bs.zip (bs.drop 1 ++ [bs.headD 0 + m])).map fun p => p.2 - p.1
theorem stepsOf_cons (m b : Int) (r : List Int) : stepsOf m (b :: r) = stepsE (b + m) b r := by
  have key : ∀ (r : List Int) (b e : Int), ((b :: r).zip (r ++ [e])).map (fun p => p.2 - p.1) = stepsE e b r := by
    intro r
    induction r with
    | nil => intro b e; rfl
    | cons b' r ih =>
      intro b e
      show (b' - b) :: ((b' :: r).zip (r ++ [e])).map (fun p => p.2 - p.1) = (b' - b) :: stepsE e b' r
      rw [ih]
  exact key r b (b + m)
theorem stepsE_len (e : Int) : ∀ (r : List Int) (b : Int), (stepsE e b r).length = r.length + 1
  | [], _ => rfl
  | b' :: r, b => congrArg Nat.succ (stepsE_len e r b')
def psum (P : Int → Bool) (ts ss : List Int) : Int := (((ts.zip ss).filter fun p => P p.1).map (·.2)).sum
theorem psum_seg (P : Int → Bool) (e : Int) : ∀ (r : List (Int × Int)) (t b : Int), psum P (t :: r.map (·.2)) (stepsE e b (r.map (·.1))) = segSum P e t b r
  | [], t, b => by
    unfold psum
    show ((([(t, e - b)] : List (Int × Int)).filter fun p => P p.1).map (·.2)).sum = if P t = true then e - b else 0
    by_cases h : P t = true
    · rw [if_pos h, List.filter_cons_of_pos (by exact h)]
      show e - b + 0 = e - b
      omega
    · rw [if_neg h, List.filter_cons_of_neg (by exact h)]
      rfl
  | bt :: r, t, b => by
    have ih := psum_seg P e r bt.2 bt.1
    unfold psum at ih ⊢
    show ((((t, bt.1 - b) :: ((bt.2 :: r.map (·.2)).zip (stepsE e bt.1 (r.map (·.1))))).filter fun p => P p.1).map (·.2)).sum = (if P t = true then bt.1 - b else 0) + segSum P e bt.2 bt.1 r
    by_cases h : P t = true
    · rw [if_pos h, List.filter_cons_of_pos (by exact h), List.map_cons, List.sum_cons, ih]
    · rw [if_neg h, List.filter_cons_of_neg (by exact h), ih]
      omega
theorem psum_cnt {m : Int} {tl : List (Int × Int)} (P : Int → Bool) (h : IsTool m tl) : psum P (tl.map (·.2)) (stepsOf m (tl.map (·.1))) = (((upto m).filter fun x => P (tgt tl x)).length : Int) := by
  cases tl with
  | nil =>
    have := h.len1
    rw [List.length_nil] at this
    omega
  | cons bt r =>
    have h0 := h.rng bt List.mem_cons_self
    rw [List.map_cons, List.map_cons, stepsOf_cons, psum_seg, segSum_end P m (bt.1 + m)]
    have c := cnt_seg P m (bt :: r) ((bt :: r).getLastD (0, 0)).2 0 h.asc (fun x hx => by have := (h.rng x hx).1; omega) (by omega)
    have ez : (m - 0).toNat = m.toNat := by omega
    rw [ez] at c
    rw [cnt_upto]
    show _ = (cntN (fun x => P (tgtFrom x ((bt :: r).getLastD (0, 0)).2 (bt :: r))) 0 m.toNat : Int)
    rw [c]
    show _ = (if P ((bt :: r).getLastD (0, 0)).2 = true then bt.1 - 0 else 0) + segSum P m bt.2 bt.1 r
    have e1 : (bt :: r).getLastD (0, 0) = r.getLastD (bt.1, bt.2) := by rw [List.getLastD_cons]
    rw [e1]
    split <;> omega
/-! ### widths -/
def cnt (m : Int) (tl : List (Int × Int)) (b l : Int) : Int := ((brought m tl b l).length : Int)
structure IsWidth (m : Int) (tls : List (List (Int × Int))) (l v : Int) : Prop where
  got : ∃ tl ∈ tls, ∃ b, 0 ≤ b ∧ b < m ∧ cnt m tl b l = v
  all : ∀ tl ∈ tls, ∀ b, 0 ≤ b → b < m → cnt m tl b l ≤ v
theorem IsWidth.uniq {m : Int} {tls : List (List (Int × Int))} {l v v' : Int} (h : IsWidth m tls l v) (h' : IsWidth m tls l v') : v = v' := by
  obtain ⟨tl, ht, b, b0, b1, e⟩ := h.got
  obtain ⟨tl', ht', b', b0', b1', e'⟩ := h'.got
  have q := h'.all tl ht b b0 b1
  have q' := h.all tl' ht' b' b0' b1'
  omega
theorem tgt_mem {tl : List (Int × Int)} (hne : tl ≠ []) (x : Int) : ∃ bt ∈ tl, tgt tl x = bt.2 := by
  have key : ∀ (l : List (Int × Int)) (f : Int), tgtFrom x f l = f ∨ ∃ bt ∈ l, tgtFrom x f l = bt.2 := by
    intro l
    induction l with
    | nil => exact fun f => .inl rfl
    | cons y l ih =>
      intro f
      show tgtFrom x (if y.1 ≤ x then y.2 else f) l = f ∨ _
      rcases ih (if y.1 ≤ x then y.2 else f) with h | ⟨bt, hb, e⟩
      · by_cases hy : y.1 ≤ x
        · rw [if_pos hy] at h
          exact .inr ⟨y, List.mem_cons_self, by show tgtFrom x (if y.1 ≤ x then y.2 else f) l = y.2; rw [if_pos hy, h]⟩
        · rw [if_neg hy] at h ⊢
          exact .inl h
      · exact .inr ⟨bt, List.mem_cons_of_mem _ hb, e⟩
  rcases key tl (tl.getLastD (0, 0)).2 with h | h
  · refine ⟨tl.getLastD (0, 0), ?_, h⟩
    exact List.mem_of_getElem? (getLastD_eq hne)
  · exact h
theorem filter_mono {p q : Int → Bool} : ∀ L : List Int, (∀ x ∈ L, p x = true → q x = true) → (L.filter p).length ≤ (L.filter q).length
  | [], _ => Nat.le_refl _
  | x :: L, h => by
    have ih := filter_mono L fun y hy => h y (List.mem_cons_of_mem _ hy)
    by_cases hp : p x = true
    · rw [List.filter_cons_of_pos hp, List.filter_cons_of_pos (h x List.mem_cons_self hp)]
      exact Nat.succ_le_succ ih
    · rw [List.filter_cons_of_neg hp]
      by_cases hq : q x = true
      · rw [List.filter_cons_of_pos hq]
        exact Nat.le_succ_of_le ih
      · rw [List.filter_cons_of_neg hq]
        exact ih
theorem min_of (g : Int × Int → Int) : ∀ L : List (Int × Int), L ≠ [] → ∃ x ∈ L, ∀ y ∈ L, g x ≤ g y
  | [x], _ => ⟨x, List.mem_cons_self, fun y hy => by rw [List.mem_singleton.mp hy]; exact Int.le_refl _⟩
  | x :: y :: L, _ => by
    obtain ⟨z, hz, hm⟩ := min_of g (y :: L) (List.cons_ne_nil _ _)
    by_cases h : g x ≤ g z
    · refine ⟨x, List.mem_cons_self, fun u hu => ?_⟩
      rcases List.mem_cons.mp hu with e | e
      · rw [e]
        exact Int.le_refl _
      · have := hm u e
        omega
    · refine ⟨z, List.mem_cons_of_mem _ hz, fun u hu => ?_⟩
      rcases List.mem_cons.mp hu with e | e
      · rw [e]
        omega
      · exact hm u e
theorem cnt_shift {m : Int} {tl : List (Int × Int)} {b l : Int} (hm : 0 < m) (hl : l ≤ m) (hne : tl ≠ []) : cnt m tl b l = 0 ∨ ∃ bt ∈ tl, cnt m tl b l ≤ cnt m tl bt.2 l := by
  by_cases h : (tl.filter fun bt => inArc m b l bt.2) = []
  · left
    have e : brought m tl b l = [] := by
      unfold brought
      rw [List.filter_eq_nil_iff]
      intro x _ hx
      obtain ⟨bt, hb, e⟩ := tgt_mem hne x
      rw [e] at hx
      have : bt ∈ tl.filter fun bt => inArc m b l bt.2 := List.mem_filter.mpr ⟨hb, hx⟩
      rw [h] at this
      exact List.not_mem_nil this
    unfold cnt
    rw [e]
    rfl
  · right
    obtain ⟨bt, hb, hmin⟩ := min_of (fun bt => (bt.2 - b) % m) _ h
    have hb' := List.mem_filter.mp hb
    refine ⟨bt, hb'.1, ?_⟩
    unfold cnt brought
    have := filter_mono (p := fun x => inArc m b l (tgt tl x)) (q := fun x => inArc m bt.2 l (tgt tl x)) (upto m) fun x _ hx => by
      obtain ⟨bx, hbx, e⟩ := tgt_mem hne x
      rw [e] at hx ⊢
      have hq := hmin bx (List.mem_filter.mpr ⟨hbx, hx⟩)
      have hx : (bx.2 - b) % m < l := of_decide_eq_true hx
      have n0 := Int.emod_nonneg (bt.2 - b) (show m ≠ 0 by omega)
      have n1 := Int.emod_nonneg (bx.2 - b) (show m ≠ 0 by omega)
      apply decide_eq_true
      have e3 : (bx.2 - bt.2) % m = ((bx.2 - b) % m - (bt.2 - b) % m) % m := by
        rw [mod_sub', sub_mod']
        congr 1
        omega
      rw [e3, Int.emod_eq_of_lt (by omega) (by omega)]
      omega
    omega
/-- the greatest by the targets alone -/
theorem width_of_targets {m : Int} {tls : List (List (Int × Int))} {l v : Int} (hm : 0 < m) (hl : l ≤ m) (ht : ∀ tl ∈ tls, IsTool m tl)
    (got : ∃ tl ∈ tls, ∃ bt ∈ tl, cnt m tl bt.2 l = v) (all : ∀ tl ∈ tls, ∀ bt ∈ tl, cnt m tl bt.2 l ≤ v) : IsWidth m tls l v := by
  constructor
  · obtain ⟨tl, h1, bt, h2, e⟩ := got
    have r := (ht tl h1).rng bt h2
    exact ⟨tl, h1, bt.2, r.2.1, r.2.2, e⟩
  · intro tl h1 b b0 b1
    have hne : tl ≠ [] := fun e => by
      have := (ht tl h1).len1
      rw [e, List.length_nil] at this
      omega
    rcases cnt_shift (b := b) hm hl hne with h | ⟨bt, h2, h⟩
    · obtain ⟨bt, h2⟩ := List.exists_mem_of_ne_nil tl hne
      have q := all tl h1 bt h2
      have : 0 ≤ cnt m tl bt.2 l := Int.natCast_nonneg _
      omega
    · have := all tl h1 bt h2
      omega

/-! ### comprehensions over pairs -/
section
variable {K : PySem.W.Frag} {j1 j2 : Nat} {tt : TT} {te : TE} {vs : List Nat} {σ : L2.St} {H1 : Hp} {D : Addr} {Qd : Hp → Prop}
theorem zip_get {α β : Type} : ∀ {xs : List α} {ys : List β} {i : Nat}, i < (xs.zip ys).length → ∃ x y, xs[i]? = some x ∧ ys[i]? = some y ∧ (xs.zip ys)[i]? = some (x, y)
  | [], _, i, h => absurd h (by simp)
  | _ :: _, [], i, h => absurd h (by simp)
  | x :: xs, y :: ys, 0, _ => ⟨x, y, rfl, rfl, rfl⟩
  | x :: xs, y :: ys, i + 1, h => by
    obtain ⟨u, v, h1, h2, h3⟩ := zip_get (xs := xs) (ys := ys) (i := i) (by simpa using h)
    exact ⟨u, v, by simpa using h1, by simpa using h2, by simpa using h3⟩
theorem take_fm {α β : Type} (q : α → Bool) (f : α → β) {l : List α} {i : Nat} {x : α} (h : l[i]? = some x) :
    ((l.take (i + 1)).filter q).map f = ((l.take i).filter q).map f ++ (if q x = true then [f x] else []) := by
  rw [List.take_add_one, h, List.filter_append, List.map_append]
  congr 1
  show (([x] : List α).filter q).map f = _
  by_cases z : q x = true
  · rw [if_pos z, List.filter_cons_of_pos z]
    rfl
  · rw [if_neg z, List.filter_cons_of_neg z]
    rfl
theorem lcZ {a b : Addr} {xs ys : List V} (q : V × V → Bool) (f : V × V → V) (hn : xs.length ≤ 100000) (nD : H1 D = none) (hx : SqL K H1 a xs) (hy : SqL K H1 b ys)
    (hw : ∀ u v, wipe (((wipe σ vs).set j1 (some u)).set j2 (some v)) vs = wipe σ vs)
    (ht : ∀ (x y : V) (H : Hp) (Q : Bool → Hp → Prop), (x, y) ∈ xs.zip ys → Same H1 H → (∀ H', Same H H' → Q (q (x, y)) H') → tt (((wipe σ vs).set j1 (some x)).set j2 (some y)) H Q)
    (he : ∀ (x y : V) (H : Hp) (Q : VK), (x, y) ∈ xs.zip ys → q (x, y) = true → Same H1 H → (∀ H', Same H H' → Q (f (x, y)) H') → te (((wipe σ vs).set j1 (some x)).set j2 (some y)) H Q)
    (hd : ∀ H', Same H1 H' → H' D = some (.lst (((xs.zip ys).filter q).map f)) → Qd H') :
    ∃ W : Nat → Nat → Hp → Prop, (∃ m, W 0 m (upd H1 D (.lst []))) ∧ ∀ i m H, W i m H → ((Itz K a b).stop i H ∧ Qd H) ∨ ((Itz K a b).go i H ∧
      ∃ Nx : Hp → Prop, (∀ H', Nx H' → ∃ m', m' < m ∧ W (i + 1) m' H') ∧ ∀ x H', (Itz K a b).yld i H x H' → gTup K 2 (gCons (gName j1) (gCons (gName j2) gNil)) x (wipe σ vs) H' fun σ2 H2 =>
        wipe σ2 vs = wipe σ vs ∧ tt σ2 H2 fun b H3 => if b = true then te σ2 H3 fun y H4 => ∃ acc, H4 D = some (.lst acc) ∧ acc.length < sizeLine ∧ Nx (upd H4 D (.lst (acc ++ [y]))) else Nx H3) := by
  have lz : (xs.zip ys).length ≤ xs.length := by
    rw [List.length_zip]
    exact Nat.min_le_left _ _
  refine ⟨fun i m H => m = (xs.zip ys).length - i ∧ i ≤ (xs.zip ys).length ∧ Same H1 H ∧ H D = some (.lst ((((xs.zip ys).take i).filter q).map f)), ⟨_, rfl, Nat.zero_le _, same_upd nD, upd_same⟩, ?_⟩
  intro i m H hW
  obtain ⟨em, hi, hs, hD⟩ := hW
  subst em
  have sx := hs.seq hx
  have sy := hs.seq hy
  by_cases hlt : i < (xs.zip ys).length
  · obtain ⟨x, y, gx, gy, gz⟩ := zip_get hlt
    refine .inr ⟨⟨xs, ys, x, y, sx, sy, gx, gy⟩, fun H' => Same H1 H' ∧ H' D = some (.lst ((((xs.zip ys).take (i + 1)).filter q).map f)), fun H' h => ⟨(xs.zip ys).length - (i + 1), by omega, rfl, hlt, h.1, h.2⟩, fun v H' hy' => ?_⟩
    obtain ⟨T, x', y', ev, nT, eH, fx, fy⟩ := hy'
    subst ev
    subst eH
    have ex : x' = x := Option.some.inj ((fx _ sx).symm.trans gx)
    have ey : y' = y := Option.some.inj ((fy _ sy).symm.trans gy)
    subst ex
    subst ey
    have mem : (x', y') ∈ xs.zip ys := List.mem_of_getElem? gz
    have sT : Same H (upd H T (.tup [x', y'])) := same_upd nT
    refine ⟨T, [x', y'], rfl, SqT.of upd_same, rfl, x', [y'], rfl, y', [], rfl, rfl, hw _ _, ?_⟩
    refine ht x' y' _ _ mem (hs.trans sT) fun H2 s2 => ?_
    have hD2 := s2 _ _ (sT _ _ hD)
    have hs2 := (hs.trans sT).trans s2
    by_cases hq : q (x', y') = true
    · rw [if_pos hq]
      refine he x' y' H2 _ mem hq hs2 fun H3 s3 => ⟨_, s3 _ _ hD2, ?_, ?_, ?_⟩
      · rw [List.length_map]
        have l1 := List.length_filter_le q ((xs.zip ys).take i)
        rw [List.length_take] at l1
        have l2 : i < 100000 := Nat.lt_of_lt_of_le hlt (Nat.le_trans lz hn)
        exact Nat.lt_of_le_of_lt (Nat.le_trans l1 (Nat.min_le_left _ _)) (Nat.lt_trans l2 (by decide))
      · intro z o e
        rw [upd_ne (ne_of_none e nD)]
        exact s3 _ _ (hs2 _ _ e)
      · rw [upd_same, take_fm q f gz, if_pos hq]
    · rw [if_neg hq]
      refine ⟨hs2, ?_⟩
      rw [take_fm q f gz, if_neg hq, List.append_nil]
      exact hD2
  · have e : i = (xs.zip ys).length := by omega
    subst e
    refine .inl ⟨⟨xs, ys, sx, sy, ?_⟩, hd H hs ?_⟩
    · rw [List.length_zip]
      by_cases z : xs.length ≤ ys.length
      · exact .inl (by rw [Nat.min_eq_left z]; exact Nat.le_refl _)
      · exact .inr (by rw [Nat.min_eq_right (by omega)]; exact Nat.le_refl _)
    · rw [List.take_of_length_le (Nat.le_refl _)] at hD
      exact hD
theorem lcTP {t : Addr} {as : List Addr} {tl : List (Int × Int)} (f : Int × Int → V) (hn : tl.length ≤ 100000) (nD : H1 D = none) (hx : SqT K H1 t (as.map V.ref)) (pa : PairsAt H1 as tl)
    (hw : ∀ u v, wipe (((wipe σ vs).set j1 (some u)).set j2 (some v)) vs = wipe σ vs)
    (he : ∀ (bt : Int × Int) (H : Hp) (Q : VK), bt ∈ tl → Same H1 H → (∀ H', Same H H' → Q (f bt) H') → te (((wipe σ vs).set j1 (some (.int bt.1))).set j2 (some (.int bt.2))) H Q)
    (hd : ∀ H', Same H1 H' → H' D = some (.lst (tl.map f)) → Qd H') :
    ∃ W : Nat → Nat → Hp → Prop, (∃ m, W 0 m (upd H1 D (.lst []))) ∧ ∀ i m H, W i m H → ((Itt K t).stop i H ∧ Qd H) ∨ ((Itt K t).go i H ∧
      ∃ Nx : Hp → Prop, (∀ H', Nx H' → ∃ m', m' < m ∧ W (i + 1) m' H') ∧ ∀ x H', (Itt K t).yld i H x H' → gTup K 2 (gCons (gName j1) (gCons (gName j2) gNil)) x (wipe σ vs) H' fun σ2 H2 =>
        wipe σ2 vs = wipe σ vs ∧ tYes σ2 H2 fun b H3 => if b = true then te σ2 H3 fun y H4 => ∃ acc, H4 D = some (.lst acc) ∧ acc.length < sizeLine ∧ Nx (upd H4 D (.lst (acc ++ [y]))) else Nx H3) := by
  have hla : as.length = tl.length := Paired.length pa
  refine lc_tup (xs := as.map V.ref) (fun i H => Same H1 H ∧ H D = some (.lst ((tl.take i).map f))) ⟨same_upd nD, upd_same⟩ (fun i H _ h => same_tup h.1 hx) ?_ ?_
  · intro i x H hi h
    obtain ⟨hs, hD⟩ := h
    obtain ⟨p, bt, e0, e1, e2⟩ := (pa.stay (.of_same hs)).get hi
    subst e0
    refine ⟨p, _, rfl, SqT.of e2, rfl, _, _, rfl, _, _, rfl, rfl, hw _ _, ?_⟩
    refine he bt H _ (List.mem_of_getElem? e1) hs fun H3 s3 => ⟨_, s3 _ _ hD, ?_, ?_, ?_⟩
    · rw [List.length_map, List.length_take]
      have := (List.getElem?_eq_some_iff.mp e1).1
      exact Nat.lt_of_le_of_lt (Nat.min_le_right _ _) (Nat.lt_of_le_of_lt hn (by decide))
    · intro z o e
      rw [upd_ne (ne_of_none e nD)]
      exact s3 _ _ (hs _ _ e)
    · rw [upd_same, take_map_succ f e1]
  · intro H h
    obtain ⟨hs, hD⟩ := h
    rw [List.length_map, hla, List.take_of_length_le (Nat.le_refl _)] at hD
    exact hd H hs hD
end
/-! ### the promises -/
def ToolsAt (H : Hp) (a : Addr) (tls : List (List (Int × Int))) : Prop := ∃ as : List Addr, H a = some (.tup (as.map V.ref)) ∧ Paired (fun p tl => ToolAt H p tl) as tls
theorem ToolsAt.stay {H H' : Hp} {a : Addr} {tls : List (List (Int × Int))} (h : ToolsAt H a tls) (s : Stay H H') : ToolsAt H' a tls := by
  obtain ⟨as, h1, h2⟩ := h
  exact ⟨as, s _ _ (by intro xs z; cases z) h1, Paired.mono (fun _ _ e => e.stay s) h2⟩
theorem ToolsAt.get {K : PySem.W.Frag} {H : Hp} {as : List Addr} {tls : List (List (Int × Int))} (h : Paired (fun p tl => ToolAt H p tl) as tls) {i : Nat} {v : V} (e : (as.map V.ref)[i]? = some v) :
    ∃ p tl, v = .ref p ∧ tls[i]? = some tl ∧ ToolAt H p tl := by
  rw [List.getElem?_map] at e
  cases z : as[i]? with
  | none =>
    rw [z] at e
    cases e
  | some p =>
    rw [z] at e
    cases e
    obtain ⟨tl, e1, e2⟩ := Paired.at h z
    exact ⟨p, tl, rfl, e1, e2⟩
def spStepsL (K : PySem.W.Frag) : Sp := fun vs H Q _ => ∃ (m : Int) (p : Addr) (bs : List Int), vs = [.int m, .ref p] ∧ SqL K H p (bs.map V.int) ∧ bs ≠ [] ∧ bs.length ≤ 1000 ∧
  ∀ (D : Addr) (H' : Hp), Same H H' → H' D = some (.lst ((stepsOf m bs).map V.int)) → Q (.ref D) H'
def spSent (K : PySem.W.Frag) : Sp := fun vs H Q _ => ∃ (m st l : Int) (p r : Addr) (ts ss : List Int), vs = [.int m, .ref p, .ref r, .int st, .int l] ∧ 0 < m ∧ SqL K H p (ts.map V.int) ∧ SqL K H r (ss.map V.int) ∧ ts.length ≤ 1000 ∧
  ∀ H', Same H H' → Q (.int (psum (fun t => inArc m st l t) ts ss)) H'
def spSents : Sp := fun vs H Q _ => ∃ (m l : Int) (t : Addr) (tl : List (Int × Int)), vs = [.int m, .ref t, .int l] ∧ 0 < m ∧ ToolAt H t tl ∧ IsTool m tl ∧
  ∀ (D : Addr) (H' : Hp), H' D = some (.lst ((tl.map fun bt => cnt m tl bt.2 l).map V.int)) → Same H H' → Q (.ref D) H'
def spTWidth : Sp := fun vs H Q _ => ∃ (m l : Int) (t : Addr) (tl : List (Int × Int)), vs = [.int m, .ref t, .int l] ∧ 0 < m ∧ ToolAt H t tl ∧ IsTool m tl ∧
  ∀ (v : Int) (H' : Hp), (∃ bt ∈ tl, cnt m tl bt.2 l = v) → (∀ bt ∈ tl, cnt m tl bt.2 l ≤ v) → Same H H' → Q (.int v) H'
def spWidth : Sp := fun vs H Q _ => ∃ (m l : Int) (T : Addr) (tls : List (List (Int × Int))), vs = [.int m, .ref T, .int l] ∧ 0 < m ∧ l ≤ m ∧ ToolsAt H T tls ∧ tls ≠ [] ∧ tls.length ≤ 100 ∧ (∀ tl ∈ tls, IsTool m tl) ∧
  ∀ (v : Int) (H' : Hp), IsWidth m tls l v → Same H H' → Q (.int v) H'
def spLWidth : Sp := fun vs H Q _ => ∃ (m l : Int) (T : Addr) (tls : List (List (Int × Int))), vs = [.int m, .ref T, .int l] ∧ 1 ≤ m ∧ m ≤ 60 ∧ l ≤ m ∧ ToolsAt H T tls ∧ tls ≠ [] ∧ tls.length ≤ 100 ∧ (∀ tl ∈ tls, IsTool m tl) ∧
  ∀ (v : Int) (H' : Hp), IsWidth m tls l v → Same H H' → Q (.int v) H'
def spTools : Sp := fun vs H Q _ => ∃ (a c : Addr) (k m : Int), vs = [.ref a, .int m] ∧ Deck H a c k ∧ k + 130 ≤ 1000000 ∧ 1 ≤ m ∧ m ≤ 60 ∧
  ∀ (T : Addr) (tls : List (List (Int × Int))) (H' : Hp), tls ≠ [] → tls.length ≤ 4 → (∀ tl ∈ tls, IsTool m tl) → ToolsAt H' T tls → Deck H' a c (k + 130) → Keep a c H H' → Q (.ref T) H'
theorem zip_ints (ts ss : List Int) : (ts.map V.int).zip (ss.map V.int) = (ts.zip ss).map fun p => (V.int p.1, V.int p.2) := by
  rw [List.zip_map]
  rfl
def unI : V → Int
  | .int i => i
  | _ => 0
theorem psum_V (P : Int → Bool) (ts ss : List Int) : (((ts.map V.int).zip (ss.map V.int)).filter fun p => P (unI p.1)).map (·.2) = ((((ts.zip ss).filter fun p => P p.1).map (·.2))).map V.int := by
  rw [zip_ints, List.filter_map, List.map_map, List.map_map]
  rfl
theorem steps_V (m : Int) (bs : List Int) : (((bs.map V.int).zip ((bs.map V.int).drop 1 ++ [V.int (bs.headD 0 + m)])).filter fun _ => true).map (fun p => V.int (unI p.2 - unI p.1)) = (stepsOf m bs).map V.int := by
  have e : (bs.map V.int).drop 1 ++ [V.int (bs.headD 0 + m)] = (bs.drop 1 ++ [bs.headD 0 + m]).map V.int := by
    rw [List.map_append, List.map_drop]
    rfl
  unfold stepsOf
  rw [e, zip_ints, List.filter_eq_self.mpr fun _ _ => rfl, List.map_map, List.map_map]
  rfl

theorem Paired.left {α β : Type} {F : α → β → Prop} : ∀ {l : List α} {r : List β}, Paired F l r → ∀ b ∈ r, ∃ a ∈ l, F a b
  | _, _, .nil, b, h => (List.not_mem_nil h).elim
  | _, _, .cons (a := a) h t, b, hb => by
    rcases List.mem_cons.mp hb with e | e
    · rw [e]
      exact ⟨a, List.mem_cons_self, h⟩
    · obtain ⟨a', h1, h2⟩ := Paired.left t b e
      exact ⟨a', List.mem_cons_of_mem _ h1, h2⟩
def toolsD (tls : List (List (Int × Int))) : PyData := .tuple (tls.map toolD)
theorem ToolsAt.dp {K : PySem.W.Frag} {H : Hp} {a : Addr} {tls : List (List (Int × Int))} (h : ToolsAt H a tls) : Dp K H (.ref a) (toolsD tls) := by
  obtain ⟨as, h1, h2⟩ := h
  refine .tup (SqT.of h1) ?_
  have key : ∀ {as : List Addr} {tls : List (List (Int × Int))}, Paired (fun p tl => ToolAt H p tl) as tls → DpAll K H (as.map V.ref) (tls.map toolD) := by
    intro as tls h
    induction h with
    | nil => exact .nil
    | cons h _ ih => exact .cons h.dp ih
  exact key h2
theorem tools_fine {m : Int} {tls : List (List (Int × Int))} (h : ∀ tl ∈ tls, IsTool m tl) (hm : m ≤ 60) (hl : tls.length ≤ 4) : Fine (toolsD tls) 250000 3 := by
  have f : Fine (toolsD tls) ((tls.map toolD).length * (50000 + 2) + 3) (2 + 1) := fine_tuple fun d hd => by
    rw [List.mem_map] at hd
    obtain ⟨tl, h1, e⟩ := hd
    subst e
    exact tool_fine (h tl h1) hm
  rw [List.length_map] at f
  exact f.mono (by omega) (by decide)
theorem cnt_le {m : Int} {tl : List (Int × Int)} {b l : Int} (hm : 0 ≤ m) : cnt m tl b l ≤ m := by
  unfold cnt
  have := brought_len m tl b l
  omega
theorem IsWidth.rng {m : Int} {tls : List (List (Int × Int))} {l v : Int} (h : IsWidth m tls l v) (hm : 0 ≤ m) : 0 ≤ v ∧ v ≤ m := by
  obtain ⟨tl, _, b, _, _, e⟩ := h.got
  have := cnt_le (tl := tl) (b := b) (l := l) hm
  have : 0 ≤ cnt m tl b l := Int.natCast_nonneg _
  omega
def topS (i : Nat) : Stmt := PySem.Challenge.pw_blindpush_k07_widths_of_lengths.main.body.getD i (.Pass ⟨0, 0, 0, 0⟩)
section
open Classical
variable {P : Program} {w : World} {K : PySem.W.Frag} {mg : Str → Option Value} {base : Heap}

abbrev s__law_draw : Stmt := topS 9
abbrev N__law_draw : List Str := ["_law_deck_here", "_law_limit", "_law_cell", "_law_index"]
theorem sc__law_draw : FnScope N__law_draw ["_law_deck_here", "_law_limit"] (defScope s__law_draw) :=
  ⟨rfl, rfl, rfl, by decide +kernel, rfl, by decide +kernel, by decide +kernel⟩

theorem ok_draw {f : Addr} {fd : FuncData} (F : Fun K "_law_draw" "_law_draw" s__law_draw f fd) (T : Bi mg) :
    FnOk P w K mg base CX0 1 f fd ["_law_deck_here", "_law_limit"] spDraw := by
  refine F.ok sc__law_draw (fun vs H Q E h => ?_) (fun cdv A outer s H vs Q E hr h => ?_)
  · obtain ⟨a, c, k, lim, e, _⟩ := h
    subst e
    rfl
  obtain ⟨a, c, k, lim, e, dk, hk, hl1, hl2, q⟩ := h
  subst e
  obtain ⟨ns, j, hac, ha, hc, hn, hj0, hjk⟩ := dk
  refine ⟨_, (pss_cons (ps_asg (pe_op op_add (pe_ix (kixL K) (pv 0) pe_int (fun _ _ => rfl)) pe_int) (pg_sub (pv 0) pe_int set_list))
  (pss_cons (ps_asg (pe_tup (pa_cons pe_int (pa_cons (pe_un un_neg pe_int) pa_nil))) (kgtup K 2 rfl (pgs_cons (pg_name (i := 2) sc__law_draw.nd rfl (.inl rfl)) (pgs_cons (pg_name (i := 3) sc__law_draw.nd rfl (.inl rfl)) pgs_nil))))
  (C8.pss_cut (ps_if (pt_cmpR op_gt (pe_callB (klen K) (by rfl) T.len (by decide +kernel) (pa_cons (pe_ix (kixL K) (pv 0) pe_int (fun _ _ => rfl)) pa_nil)) pe_int (nomark _))
  (pss_cons (ps_set (i := 3) sc__law_draw.nd rfl (.inl rfl) (pe_op op_mod (pe_ix (kixL K) (pv 0) pe_int (fun _ _ => rfl)) (pe_callB (klen K) (by rfl) T.len (by decide +kernel) (pa_cons (pe_ix (kixL K) (pv 0) pe_int (fun _ _ => rfl)) pa_nil))))
  (pss_one (ps_set (i := 2) sc__law_draw.nd rfl (.inl rfl) (pe_ix (kixL K) (pe_ix (kixL K) (pv 0) pe_int (fun _ _ => rfl)) (pv 3) (fun _ _ => rfl)))))
  pss_nil)
  (pss_cons (ps_if (pt_cmpR op_ge (pv 2) (pe_op op_pow pe_int pe_int) (nomark _))
  (pss_cons (ps_asg (pe_op op_fdivW (pv 2) (pv 1)) (pg_sub (pe_ix (kixL K) (pv 0) pe_int (fun _ _ => rfl)) (pv 3) set_list))
  (pss_one (ps_ret (pe_op op_mod (pv 2) (pv 1)))))
  pss_nil)
  (pss_one (ps_ret (pe_op op_mod (pe_op op_fdiv (pe_op op_mod (pe_op op_pow (pe_op op_add (pe_op op_add (pe_op op_mod (pv 2) pe_int) (pe_op op_mul pe_int (pe_ix (kixL K) (pv 0) pe_int (fun _ _ => rfl)))) pe_int) pe_int) pe_int) pe_int) (pv 1)))))))), ?_⟩
  -- the count
  refine ⟨.ref a, rfl, a, _, 1, .int j, rfl, rfl, SqL.of ha, rfl, j, 1, rfl, rfl, .ref a, rfl, a, _, 1, 1, rfl, rfl, ha, rfl, ?_⟩
  rw [set0]
  have ha1 : upd H a (.lst [.ref c, .int (j + 1)]) a = some (.lst [.ref c, .int (j + 1)]) := upd_same
  have hc1 : upd H a (.lst [.ref c, .int (j + 1)]) c = some (.lst (ns.map V.int)) := by
    rw [upd_ne hac.symm]
    exact hc
  have kp1 : Keep a c H (upd H a (.lst [.ref c, .int (j + 1)])) := by
    intro b o h1 h2 h3
    rw [upd_ne h1]
    exact h3
  revert ha1 hc1 kp1
  generalize upd H a (.lst [.ref c, .int (j + 1)]) = H1
  intro ha1 hc1 kp1
  -- cell, index = 0, -1
  refine ⟨1, rfl, by show 2 ≤ sizeLine; decide, fun p np => ⟨p, _, rfl, SqT.of upd_same, rfl, _, _, rfl, _, _, rfl, rfl, ?_⟩⟩
  have ha1 := same_upd (o := .tup [.int 0, .int (-1)]) np _ _ ha1
  have hc1 := same_upd (o := .tup [.int 0, .int (-1)]) np _ _ hc1
  have kp1 := kp1.trans (Keep.upd_new (a := a) (c := c) (o := .tup [.int 0, .int (-1)]) np)
  revert ha1 hc1 kp1
  generalize upd H1 p (.tup [.int 0, .int (-1)]) = H1
  intro ha1 hc1 kp1
  -- if there are cells
  refine ⟨fun σ' H' => ∃ (cell idx : Int), σ' = [some (.ref a), some (.int lim), some (.int cell), some (.int idx)] ∧ H' = H1 ∧ 0 ≤ cell ∧
    (10 ^ 18 ≤ cell → 0 ≤ idx ∧ idx < ns.length), ?_, ?_⟩
  · refine ⟨.ref a, rfl, a, _, 0, .ref c, rfl, rfl, SqL.of ha1, rfl, c, _, rfl, .inl (SqL.of hc1), _, 0, rfl, rfl, _, rfl, ?_⟩
    refine ite2 (fun hp => ?_) (fun hp => ?_)
    · have hp : 0 < (((ns.map V.int).length : Nat) : Int) := of_decide_eq_true hp
      have hpn : 0 < (ns.length : Int) := by
        rw [List.length_map] at hp
        exact hp
      have i0 : 0 ≤ (j + 1) % (ns.length : Int) := Int.emod_nonneg _ (by omega)
      have i1 : (j + 1) % (ns.length : Int) < ns.length := Int.emod_lt_of_pos _ hpn
      refine ⟨.ref a, rfl, a, _, 1, .int (j + 1), rfl, rfl, SqL.of ha1, rfl, .ref a, rfl, a, _, 0, .ref c, rfl, rfl, SqL.of ha1, rfl, c, _, rfl, .inl (SqL.of hc1), j + 1, _, rfl, rfl, hp, ?_⟩
      have hx : ((j + 1) % (ns.length : Int)).toNat < ns.length := by omega
      have hg : (ns.map V.int)[((j + 1) % (ns.length : Int)).toNat]? = some (.int ns[((j + 1) % (ns.length : Int)).toNat]) := by
        rw [List.getElem?_map, List.getElem?_eq_getElem hx]
        rfl
      refine ⟨.ref a, rfl, a, _, 0, .ref c, rfl, rfl, SqL.of ha1, rfl, .int ((j + 1) % (ns.length : Int)), by rw [List.length_map]; rfl, c, _, _, _, rfl, rfl, SqL.of hc1, atI_pos i0 hg, ?_⟩
      exact ⟨_, _, by rw [List.length_map]; rfl, rfl, hn _ (List.getElem_mem hx), fun _ => ⟨i0, i1⟩⟩
    · exact ⟨0, -1, rfl, rfl, by omega, fun z => absurd z (by decide)⟩
  · intro σ' H' hm
    obtain ⟨cell, idx, e1, e2, hc0, hci⟩ := hm
    subst e1
    subst e2
    refine ⟨.int cell, rfl, 10, 18, rfl, rfl, ⟨by decide, by decide, by decide⟩, cell, _, rfl, rfl, _, rfl, ?_⟩
    refine ite2 (fun hp => ?_) (fun hp => ?_)
    · have hp : (10 : Int) ^ 18 ≤ cell := of_decide_eq_true hp
      obtain ⟨x0, x1⟩ := hci hp
      have hd0 : 0 ≤ cell / lim := Int.ediv_nonneg hc0 (by omega)
      refine ⟨.int cell, rfl, .int lim, rfl, cell, lim, rfl, rfl, wide_div (b := 50) (by omega) (by omega) (by decide) (by decide), .ref a, rfl, a, _, 0, .ref c, rfl, rfl, SqL.of ha1, rfl, .int idx, rfl, c, _, idx, idx.toNat, rfl, rfl, hc1, ixN_pos x0 (by rw [List.length_map]; exact x1), ?_⟩
      refine ⟨.int cell, rfl, .int lim, rfl, cell, lim, rfl, rfl, (by omega : 0 < lim), ?_⟩
      refine q _ _ (Int.emod_nonneg _ (by omega)) (Int.emod_lt_of_pos _ (by omega)) ?_ ?_
      · refine ⟨ns.set idx.toNat (cell / lim), j + 1, hac, ?_, ?_, mem_set_nonneg hn _ hd0, by omega, by omega⟩
        · rw [upd_ne hac]
          exact ha1
        · rw [upd_same, List.map_set]
      · intro b o h1 h2 h3
        rw [upd_ne h2]
        exact kp1 b o h1 h2 h3
    · have m0 : 0 ≤ cell % 2147483587 := Int.emod_nonneg _ (by decide)
      have m1 : cell % 2147483587 < 2147483587 := Int.emod_lt_of_pos _ (by decide)
      refine ⟨.int cell, rfl, cell, _, rfl, rfl, (by decide : (0 : Int) < 2147483587), .ref a, rfl, a, _, 1, .int (j + 1), rfl, rfl, SqL.of ha1, rfl, 7919, j + 1, rfl, rfl, .inl ⟨by decide, by decide⟩,
        _, _, rfl, rfl, _, 1, rfl, rfl, _, 5, rfl, rfl, ⟨by decide, by decide, ?_⟩, _, _, rfl, rfl, (by decide : (0 : Int) < 2147483647), _, 7, rfl, rfl, ⟨by decide, by decide⟩, .int lim, rfl, _, lim, rfl, rfl, (by omega : 0 < lim), ?_⟩
      · have : (2 : Nat) ^ 64 = 18446744073709551616 := by decide
        omega
      · exact q _ _ (Int.emod_nonneg _ (by omega)) (Int.emod_lt_of_pos _ (by omega)) ⟨ns, j + 1, hac, ha1, hc1, hn, by omega, by omega⟩ kp1
abbrev s__law_deck : Stmt := topS 8
abbrev N__law_deck : List Str := ["_law_script", "_law_cell"]
theorem sc__law_deck : FnScope N__law_deck ["_law_script"] (defScope s__law_deck) :=
  ⟨rfl, rfl, rfl, by decide +kernel, rfl, by decide +kernel, by decide +kernel⟩

theorem ok_deck {f : Addr} {fd : FuncData} (F : Fun K "_law_deck" "_law_deck" s__law_deck f fd) (T : Bi mg) :
    FnOk P w K mg base CX0 1 f fd ["_law_script"] (spDeck K) := by
  refine F.ok sc__law_deck (fun vs H Q E h => ?_) (fun cdv A outer s H vs Q E hr h => ?_)
  · obtain ⟨a, ns, e, _⟩ := h
    subst e
    rfl
  obtain ⟨s0, ns, e, hS, hl, q⟩ := h
  subst e
  refine ⟨_, (pss_one (ps_ret (pe_lst (pa_cons (pe_lc (own := [("_law_cell", 1)]) rfl sc__law_deck.nd (kilist K (pe_slice (kslL K) (pv 0) po_none (po_some pe_int))) (blkOk_by (own := [("_law_cell", 1)]) (N := N__law_deck) (sc := defScope s__law_deck) (by decide +kernel))
    (fun _ _ _ _ _ => (pg_name (i := 1) sc__law_deck.nd rfl (.inl rfl))) (fun _ _ _ _ _ => pts_nil)
    (fun _ _ _ _ _ => (pe_callB call_abs (by rfl) T.abs (by decide +kernel) (pa_cons (pv 1) pa_nil)))) (pa_cons pe_int pa_nil))))), ?_⟩
  refine ⟨.ref s0, rfl, 63, rfl, s0, ns.map V.int, rfl, hS, fun p np => ⟨p, rfl, ⟨_, SqL.of upd_same⟩, fun D nD => ?_⟩⟩
  rw [show cutV (ns.map V.int) none (some 63) = (ns.map V.int).take 63 from cut_to _ 63, List.take_of_length_le (by rw [List.length_map]; exact hl)] at nD ⊢
  have sm1 : Same H (upd H p (.lst (ns.map V.int))) := same_upd np
  have hp1 : upd H p (.lst (ns.map V.int)) p = some (.lst (ns.map V.int)) := upd_same
  revert sm1 hp1 nD
  generalize upd H p (.lst (ns.map V.int)) = H1
  intro nD sm1 hp1
  have nDH : H D = none := sm1.free nD
  refine lc_list (K := K) (a := p) (xs := ns.map V.int) (fun i H' => Same H1 H' ∧ H' D = some (.lst (((ns.take i).map fun n => if n < 0 then -n else n).map V.int))) ?_ ?_ ?_ ?_
  · exact ⟨same_upd nD, upd_same⟩
  · intro i H' _ h
    exact SqL.of (h.1 _ _ hp1)
  · intro i x H' hx h
    obtain ⟨hs, hD⟩ := h
    rw [List.getElem?_map] at hx
    cases hn : ns[i]? with
    | none =>
      rw [hn] at hx
      cases hx
    | some n =>
      rw [hn] at hx
      cases hx
      refine ⟨rfl, .int n, rfl, n, rfl, _, hD, ?_, ?_, ?_⟩
      · rw [List.length_map, List.length_map, List.length_take]
        exact Nat.lt_of_le_of_lt (Nat.min_le_right _ _) (small1000 (by omega))
      · intro b o e
        have nb : b ≠ D := ne_of_none e nD
        rw [upd_ne nb]
        exact hs b o e
      · rw [upd_same, take_map_succ _ hn, List.map_append]
        rfl
  · intro H' h
    obtain ⟨hs, hD⟩ := h
    rw [List.length_map, List.take_of_length_le (Nat.le_refl _)] at hD
    refine ⟨by show 2 ≤ sizeLine; decide, fun a na => ?_⟩
    have nDa : D ≠ a := ne_of_none hD na
    refine q a D _ ⟨ns.map fun n => if n < 0 then -n else n, 0, nDa.symm, upd_same, ?_, ?_, by omega, by omega⟩ ?_ ?_ nDH
    · rw [upd_ne nDa]
      exact hD
    · intro n hn
      rw [List.mem_map] at hn
      obtain ⟨z, _, rfl⟩ := hn
      exact abs_nonneg z
    · exact (sm1.trans hs).trans (same_upd na)
    · exact (sm1.trans hs).free na
abbrev s__law_distinct : Stmt := topS 10
abbrev N__law_distinct : List Str := ["_law_deck_here", "_law_m", "_law_many", "_law_left", "_law_k"]
theorem sc__law_distinct : FnScope N__law_distinct ["_law_deck_here", "_law_m", "_law_many"] (defScope s__law_distinct) :=
  ⟨rfl, rfl, rfl, by decide +kernel, rfl, by decide +kernel, by decide +kernel⟩

theorem ok_distinct {f : Addr} {fd : FuncData} (F : Fun K "_law_distinct" "_law_distinct" s__law_distinct f fd) (T : Bi mg)
    (h__law_draw : Has P w K mg base 1 "_law_draw" ["_law_deck_here", "_law_limit"] spDraw) :
    FnOk P w K mg base CX0 2 f fd ["_law_deck_here", "_law_m", "_law_many"] spDistinct := by
  refine F.ok sc__law_distinct (fun vs H Q E h => ?_) (fun cdv A outer s H vs Q E hr h => ?_)
  · obtain ⟨a, c, k, m, many, e, _⟩ := h
    subst e
    rfl
  obtain ⟨a, c, k, m, many, e, dk, hk, hm0, hm1, hm2, q⟩ := h
  subst e
  refine ⟨_, (pss_cons (ps_set (i := 3) sc__law_distinct.nd rfl (.inr rfl) (pe_listRg (by rfl) (by rfl) T.list (prg_1 (by rfl) T.range (pv 1))))
  (pss_one (ps_ret (pe_callB (ksort K) (by rfl) T.sorted (by decide +kernel) (pa_cons (pe_lc (own := [("_law_k", 4)]) rfl sc__law_distinct.nd (pi_range1 (by rfl) T.range (pa_cons (pv 2) pa_nil)) (blkOk_by (own := [("_law_k", 4)]) (N := N__law_distinct) (sc := defScope s__law_distinct) (by decide +kernel))
    (fun _ _ _ _ _ => (pg_name (i := 4) sc__law_distinct.nd rfl (.inl rfl))) (fun _ _ _ _ _ => pts_nil)
    (fun _ _ _ _ _ => (kbm K PySem.F.plainAttrs_list PySem.F.slot_list_pop PySem.F.type_list_pop mt_popAt (pv 3) (pa_cons (pe_callH h__law_draw hr (by decide) (by rfl) (pa_cons (pv 0) (pa_cons (pe_callB (klen K) (by rfl) T.len (by decide +kernel) (pa_cons (pv 3) pa_nil)) pa_nil))) pa_nil)))) pa_nil))))), ?_⟩
  refine ⟨.int m, rfl, m, rfl, RgOk.of_le (by decide) (by omega) (by decide) (by omega), fun l nl => ?_⟩
  rw [upto_V]
  have dk1 := dk.new (o := .lst ((upto m).map V.int)) nl
  have kp1 : Keep a c H (upd H l (.lst ((upto m).map V.int))) := Keep.upd_new nl
  have hl1 : upd H l (.lst ((upto m).map V.int)) l = some (.lst ((upto m).map V.int)) := upd_same
  obtain ⟨nla, nlc⟩ := dk.nea nl
  have sm1 : Same H (upd H l (.lst ((upto m).map V.int))) := same_upd nl
  revert dk1 kp1 hl1 sm1
  generalize upd H l (.lst ((upto m).map V.int)) = H1
  intro dk1 kp1 hl1 sm1
  refine ⟨.int many, rfl, many, rfl, by omega, by omega, fun D nD => ?_⟩
  obtain ⟨nDa, nDc⟩ := dk1.nea nD
  have nDl : D ≠ l := (ne_of_none hl1 nD).symm
  refine lc_range (lo := 0) (n := many.toNat) (fun i H' => ∃ left acc : List Int, Deck H' a c (k + i) ∧ Keep a c H H' ∧ H' l = some (.lst (left.map V.int)) ∧
    H' D = some (.lst (acc.map V.int)) ∧ (acc ++ left).Perm (upto m) ∧ acc.length = i) ?_ ?_ ?_
  · refine ⟨upto m, [], (dk1.new nD).mono (by omega), kp1.trans (Keep.upd_new nD), ?_, upd_same, List.Perm.refl _, rfl⟩
    rw [upd_ne nDl.symm]
    exact hl1
  · intro i H' hi h
    obtain ⟨left, acc, dk', kp', hl', hD', pm, hacc⟩ := h
    have hlen : left.length + i = m.toNat := by
      have e := pm.length_eq
      rw [List.length_append, upto_len, hacc] at e
      omega
    refine ⟨rfl, .ref l, rfl, .inl ⟨rfl, _, SqL.of hl'⟩, .ref a, rfl, .ref l, rfl, l, _, rfl, .inl (SqL.of hl'), a, c, k + i, _, rfl, dk', by omega, ?_, ?_, fun v H2 v0 v1 dk2 kp2 => ?_⟩
    · rw [List.length_map]
      omega
    · rw [List.length_map]
      omega
    · rw [List.length_map] at v1
      have hl2 : H2 l = some (.lst (left.map V.int)) := kp2 _ _ nla nlc hl'
      have hD2 : H2 D = some (.lst (acc.map V.int)) := kp2 _ _ nDa nDc hD'
      have hv : v.toNat < left.length := by omega
      have hy : (left.map V.int)[v.toNat]? = some (.int left[v.toNat]) := by
        rw [List.getElem?_map, List.getElem?_eq_getElem hv]
        rfl
      refine ⟨l, _, v, v.toNat, _, rfl, rfl, hl2, by omega, by omega, seqIndex_nat v0 (by rw [List.length_map]; exact v1), hy, acc.map V.int, ?_, ?_, ?_⟩
      · rw [upd_ne nDl]
        exact hD2
      · rw [List.length_map, hacc]
        exact small1000 (by omega)
      · refine ⟨left.eraseIdx v.toNat, acc ++ [left[v.toNat]], ?_, ?_, ?_, ?_, ?_, ?_⟩
        · obtain ⟨ns, j, d1, d2, d3, d4, d5, d6⟩ := dk2
          refine ⟨ns, j, d1, ?_, ?_, d4, d5, by omega⟩
          · rw [upd_ne nDa.symm, upd_ne nla.symm]
            exact d2
          · rw [upd_ne nDc.symm, upd_ne nlc.symm]
            exact d3
        · intro b o h1 h2 h3
          have hb1 : b ≠ l := ne_of_none h3 nl
          have hb2 : b ≠ D := ne_of_none h3 (sm1.free nD)
          rw [upd_ne hb2, upd_ne hb1]
          exact kp2 b o h1 h2 (kp' b o h1 h2 h3)
        · rw [upd_ne nDl.symm, upd_same, erase_map]
        · rw [upd_same, List.map_append]
          rfl
        · have p1 : (left[v.toNat] :: left.eraseIdx v.toNat).Perm left := erase_perm left v.toNat hv
          have p2 : (acc ++ [left[v.toNat]] ++ left.eraseIdx v.toNat).Perm (acc ++ left) := by
            rw [List.append_assoc]
            exact List.Perm.append_left acc p1
          exact p2.trans pm
        · rw [List.length_append, hacc]
          rfl
  · intro H' h
    obtain ⟨left, acc, dk', kp', hl', hD', pm, hacc⟩ := h
    refine ⟨D, acc, rfl, SqL.of hD', fun ns' p pn srt np => ?_⟩
    have nd : (acc ++ left).Nodup := pm.nodup_iff.mpr (upto_nodup m)
    have nda : ns'.Nodup := pn.nodup_iff.mpr (List.nodup_append.mp nd).1
    refine q ns' p _ (lt_of_le_nodup srt nda) ?_ ?_ ?_ ?_ ?_ upd_same
    · rw [pn.length_eq, hacc]
      omega
    · intro x hx
      have h1 : x ∈ acc := pn.mem_iff.mp hx
      exact upto_mem.mp (pm.mem_iff.mp (List.mem_append_left _ h1))
    · exact (dk'.mono (by omega)).new np
    · exact kp'.trans (Keep.upd_new np)
    · cases e : H p with
      | none => rfl
      | some o =>
        obtain ⟨hpa, hpc⟩ := dk'.nea np
        rw [kp' _ _ hpa hpc e] at np
        cases np
abbrev s__law_tool : Stmt := topS 11
abbrev N__law_tool : List Str := ["_law_deck_here", "_law_m", "_law_d", "_law_steps", "_law_many", "_law_begins", "_law_targets", "_law_found", "_law_shift", "_law_block", "_law_k"]
theorem sc__law_tool : FnScope N__law_tool ["_law_deck_here", "_law_m"] (defScope s__law_tool) :=
  ⟨rfl, rfl, rfl, by decide +kernel, rfl, by decide +kernel, by decide +kernel⟩

theorem ok_tool {f : Addr} {fd : FuncData} (F : Fun K "_law_tool" "_law_tool" s__law_tool f fd) (T : Bi mg)
    (h__law_draw : Has P w K mg base 1 "_law_draw" ["_law_deck_here", "_law_limit"] spDraw)
    (h__law_distinct : Has P w K mg base 2 "_law_distinct" ["_law_deck_here", "_law_m", "_law_many"] spDistinct) :
    FnOk P w K mg base CX0 3 f fd ["_law_deck_here", "_law_m"] spTool := by
  refine F.ok sc__law_tool (fun vs H Q E h => ?_) (fun cdv A outer s H vs Q E hr h => ?_)
  · obtain ⟨a, c, k, m, e, _⟩ := h
    subst e
    rfl
  obtain ⟨a, c, k, m, e, dk, hk, hm1, hm2, q⟩ := h
  subst e
  refine ⟨_, (C8.pss_cut (ps_setLc (i := 3) (own := [("_law_d", 2)]) rfl sc__law_tool.nd rfl rfl (sw_true rfl rfl rfl (by decide +kernel)) (pi_range2 (by rfl) T.range (pa_cons pe_int (pa_cons (pe_op op_add (pv 1) pe_int) pa_nil))) (blkOk_by (own := [("_law_d", 2)]) (N := N__law_tool) (sc := defScope s__law_tool) (by decide +kernel))
    (fun _ _ _ _ _ => (pg_name (i := 2) sc__law_tool.nd rfl (.inl rfl))) (fun _ _ _ _ _ => (pts_one (PW.pt (pw_and (pt_cmpR op_eq (pe_op op_mod (pv 1) (pv 2)) pe_int (nomark _)) (pw_and1 (pt_cmpR op_lt (pe_op op_fdiv (pv 1) (pv 2)) pe_int (nomark _)))))))
    (fun _ _ _ _ _ => (pv 2)))
  (C8.pss_cut (ps_set (i := 2) sc__law_tool.nd rfl (.inl rfl) (pe_ix (kixL K) (pe_lst (pa_cons (pv 1) (pa_cons (pe_ix (kixL K) (pv 3) (pe_callH h__law_draw hr (by decide) (by rfl) (pa_cons (pv 0) (pa_cons (pe_callB (klen K) (by rfl) T.len (by decide +kernel) (pa_cons (pv 3) pa_nil)) pa_nil))) (fun _ _ => rfl)) pa_nil))) (pe_callH h__law_draw hr (by decide) (by rfl) (pa_cons (pv 0) (pa_cons pe_int pa_nil))) (fun _ _ => rfl)))
  (C8.pss_cut (ps_set (i := 4) sc__law_tool.nd rfl (.inl rfl) (pe_op op_add pe_int (pe_callH h__law_draw hr (by decide) (by rfl) (pa_cons (pv 0) (pa_cons (pe_callB (call_min2 rfl) (by rfl) T.min (by decide +kernel) (pa_cons (pv 2) (pa_cons (pe_op op_fdiv (pe_op op_mul pe_int (pv 2)) (pv 1)) pa_nil))) pa_nil)))))
  (C8.pss_cut (ps_par3 (i := 5) (j := 6) (l := 7) (by rfl) sc__law_tool.nd rfl rfl rfl (by decide) (by decide) (by decide) rfl rfl rfl (pa_cons (pe_callH h__law_distinct hr (by decide) (by rfl) (pa_cons (pv 0) (pa_cons (pv 2) (pa_cons (pv 4) pa_nil)))) (pa_cons (pe_callH h__law_distinct hr (by decide) (by rfl) (pa_cons (pv 0) (pa_cons (pv 2) (pa_cons (pv 4) pa_nil)))) (pa_cons (pe_lst pa_nil) pa_nil))) (by rfl))
  (C8.pss_cut (ps_set (i := 8) sc__law_tool.nd rfl (.inl rfl) (pe_callH h__law_draw hr (by decide) (by rfl) (pa_cons (pv 0) (pa_cons (pv 1) pa_nil))))
  (C8.pss_cut (ps_for PassesOwn.never rfl (pi_range3 (by rfl) T.range (pa_cons pe_int (pa_cons (pv 1) (pa_cons (pv 2) pa_nil)))) (pg_name (i := 9) sc__law_tool.nd rfl (.inl rfl))
  (pss_one (ps_for PassesOwn.never rfl (pi_range1 (by rfl) T.range (pa_cons (pv 4) pa_nil)) (pg_name (i := 10) sc__law_tool.nd rfl (.inl rfl))
  (pss_one (ps_expr (kbm K PySem.F.plainAttrs_list PySem.F.slot_list_append PySem.F.type_list_append mt_append (pv 7) (pa_cons (pe_tup (pa_cons (pe_op op_add (pv 9) (pe_ix (kixL K) (pv 5) (pv 10) (fun _ _ => rfl))) (pa_cons (pe_op op_mod (pe_op op_add (pe_op op_add (pv 9) (pe_ix (kixL K) (pv 6) (pv 10) (fun _ _ => rfl))) (pv 8)) (pv 1)) pa_nil))) pa_nil)))))))
  (pss_one (ps_ret (pe_ifExp (pt_cmpR op_gt (pe_callB (klen K) (by rfl) T.len (by decide +kernel) (pa_cons (pv 7) pa_nil)) pe_int (nomark _)) (pe_callTy (ktupF K) (by rfl) T.tuple (by decide +kernel) (pa_cons (pv 7) pa_nil)) (pe_tupF (pa_cons (pe_tup (pa_cons pe_int (pa_cons (pe_ix (kixT K) (pe_ix (kixL K) (pv 7) pe_int (fun _ _ => rfl)) pe_int (fun _ _ => rfl)) pa_nil))) pa_nil))))))))))), ?_⟩
  -- the steps
  refine ⟨fun σ' H' => ∃ (S : Addr) (ss : List Int), σ' = [some (.ref a), some (.int m), none, some (.ref S), none, none, none, none, none, none, none] ∧ H S = none ∧ Deck H' a c k ∧ Keep a c H H' ∧
    H' S = some (.lst (ss.map V.int)) ∧ (∀ d ∈ ss, Good m d) ∧ 1 ≤ ss.length ∧ ss.length ≤ 60, ?_, ?_⟩
  · refine ⟨.int m, rfl, m, 1, rfl, rfl, 1, _, rfl, ⟨by omega, by omega, by omega, by omega⟩, fun D nD => ?_⟩
    obtain ⟨nDa, nDc⟩ := dk.nea nD
    refine lc_range (lo := 1) (n := (m + 1 - 1).toNat) (fun i H' => ∃ acc : List Int, Deck H' a c k ∧ Keep a c H H' ∧ H' D = some (.lst (acc.map V.int)) ∧ (∀ d ∈ acc, Good m d) ∧
      (m ≤ i → 1 ≤ acc.length) ∧ acc.length ≤ i) ?_ ?_ ?_
    · exact ⟨[], dk.new nD, Keep.upd_new nD, upd_same, fun d h => (List.not_mem_nil h).elim, fun h => absurd h (by omega), Nat.le_refl _⟩
    · intro i H' hi h
      obtain ⟨acc, dk', kp', hD', hg', hn', hl'⟩ := h
      have hi2 : (i : Int) < m := by omega
      refine ⟨rfl, .int m, rfl, .int (1 + i), rfl, m, 1 + i, rfl, rfl, (by omega : (0 : Int) < 1 + i), rfl, _, rfl, ?_⟩
      have more : (∀ d ∈ acc, Good m d) ∧ (m ≤ (i + 1 : Nat) → Good m (1 + i)) := ⟨hg', fun z => by
        have e : (1 : Int) + i = m := by omega
        rw [e]
        exact good_self hm1⟩
      refine ite2 (fun h1 => ?_) (fun h1 => ?_)
      · have e1 : m % (1 + (i : Int)) = 0 := V.int.inj (of_decide_eq_true h1)
        refine ⟨.int m, rfl, .int (1 + i), rfl, m, 1 + i, rfl, rfl, ⟨by omega, by omega⟩, _, 13, rfl, rfl, _, rfl, ?_⟩
        refine ite2 (fun h2 => ?_) (fun h2 => ?_)
        · have e2 : m / (1 + (i : Int)) < 13 := of_decide_eq_true h2
          refine ⟨.int (1 + i), rfl, acc.map V.int, hD', ?_, acc ++ [1 + (i : Int)], ?_, ?_, ?_, ?_, ?_, ?_⟩
          · rw [List.length_map]
            exact small1000 (by omega)
          · obtain ⟨ns, j, d1, d2, d3, d4, d5, d6⟩ := dk'
            refine ⟨ns, j, d1, ?_, ?_, d4, d5, d6⟩
            · rw [upd_ne nDa.symm]
              exact d2
            · rw [upd_ne nDc.symm]
              exact d3
          · intro b o x1 x2 x3
            rw [upd_ne (ne_of_none x3 nD)]
            exact kp' b o x1 x2 x3
          · rw [upd_same, List.map_append]
            rfl
          · intro d hd
            rcases List.mem_append.mp hd with z | z
            · exact hg' d z
            · rw [List.mem_singleton] at z
              rw [z]
              exact ⟨by omega, by omega, e1, e2⟩
          · intro _
            rw [List.length_append]
            exact Nat.le_add_left _ _
          · rw [List.length_append]
            exact Nat.succ_le_succ hl'
        · refine ⟨acc, dk', kp', hD', hg', fun z => ?_, by omega⟩
          have := (more.2 z).2.2.2
          exact absurd (decide_eq_true this) h2
      · refine ⟨acc, dk', kp', hD', hg', fun z => ?_, by omega⟩
        have := (more.2 z).2.2.1
        exact absurd (decide_eq_true (congrArg V.int this)) h1
    · intro H' h
      obtain ⟨acc, dk', kp', hD', hg', hn', hl'⟩ := h
      exact ⟨D, acc, rfl, nD, dk', kp', hD', hg', hn' (by omega), by omega⟩
  intro σ1 H1 hM
  obtain ⟨S, ss, e, nS, dk1, kp1, hS, hss, hs1, hs2⟩ := hM
  subst e
  obtain ⟨nSa, nSc⟩ := dk.nea nS
  -- the step
  refine ⟨fun σ' H' => ∃ (d : Int), σ' = [some (.ref a), some (.int m), some (.int d), some (.ref S), none, none, none, none, none, none, none] ∧ Deck H' a c (k + 2) ∧ Keep a c H H' ∧ Good m d, ?_, ?_⟩
  · refine ⟨.int m, rfl, .ref S, rfl, .ref a, rfl, .ref S, rfl, S, _, rfl, .inl (SqL.of hS), a, c, k, _, rfl, dk1, by omega, ?_, ?_, fun v H2 v0 v1 dk2 kp2 => ?_⟩
    · rw [List.length_map]
      omega
    · rw [List.length_map]
      omega
    rw [List.length_map] at v1
    have hS2 := kp2 _ _ nSa nSc hS
    have hv : v.toNat < ss.length := by omega
    have hg : (ss.map V.int)[v.toNat]? = some (.int ss[v.toNat]) := by
      rw [List.getElem?_map, List.getElem?_eq_getElem hv]
      rfl
    refine ⟨S, _, v, _, rfl, rfl, SqL.of hS2, atI_pos v0 hg, by show 2 ≤ sizeLine; decide, fun p np => ?_⟩
    obtain ⟨npa, npc⟩ := dk2.nea np
    refine ⟨.ref a, rfl, a, c, k + 1, 2, rfl, dk2.new np, by omega, by decide, by decide, fun u H3 u0 u1 dk3 kp3 => ?_⟩
    have hp3 := kp3 p _ npa npc upd_same
    have kpA : Keep a c H H3 := ((kp1.trans kp2).trans (Keep.upd_new np)).trans kp3
    by_cases hu : u = 0
    · subst hu
      exact ⟨p, _, 0, .int m, rfl, rfl, SqL.of hp3, rfl, m, rfl, dk3.mono (by omega), kpA, good_self hm1⟩
    · have hu1 : u = 1 := by omega
      subst hu1
      exact ⟨p, _, 1, .int ss[v.toNat], rfl, rfl, SqL.of hp3, rfl, _, rfl, dk3.mono (by omega), kpA, hss _ (List.getElem_mem hv)⟩
  intro σ2 H2 hM
  obtain ⟨d, e, dk2, kp2, gd⟩ := hM
  subst e
  have gd1 := gd.1
  have gd2 := gd.2.1
  have glim := gd.lim hm1
  -- how many
  refine ⟨fun σ' H' => ∃ (n : Int), σ' = [some (.ref a), some (.int m), some (.int d), some (.ref S), some (.int n), none, none, none, none, none, none] ∧ Deck H' a c (k + 3) ∧ Keep a c H H' ∧
    1 ≤ n ∧ n ≤ d ∧ n ≤ 12 * d / m, ?_, ?_⟩
  · refine ⟨.ref a, rfl, .int d, rfl, .int d, rfl, 12, d, rfl, rfl, .inl ⟨by decide, by decide⟩, .int m, rfl, _, m, rfl, rfl, ⟨by omega, by omega⟩, d, _, rfl, a, c, k + 2, _, rfl, dk2, by omega, ?_, ?_, fun v H3 v0 v1 dk3 kp3 => ?_⟩
    · split <;> omega
    · split <;> omega
    · refine ⟨1, v, rfl, rfl, _, rfl, dk3.mono (by omega), kp2.trans kp3, by omega, ?_, ?_⟩
      · split at v1 <;> omega
      · split at v1 <;> omega
  intro σ3 H3 hM
  obtain ⟨n, e, dk3, kp3, hn1, hn2, hn3⟩ := hM
  subst e
  have hq12 := gd.many hm1 hn3
  have hmq := gd.mul
  have hq0 : 1 ≤ m / d := (Int.le_ediv_iff_mul_le (by omega)).mpr (by omega)
  have hn12 : n ≤ 12 := by
    have : n * 1 ≤ n * (m / d) := Int.mul_le_mul_of_nonneg_left hq0 (by omega)
    omega
  -- begins, targets, found
  refine ⟨fun σ' H' => ∃ (B Ta Fd : Addr) (bs ts : List Int), σ' = [some (.ref a), some (.int m), some (.int d), some (.ref S), some (.int n), some (.ref B), some (.ref Ta), some (.ref Fd), none, none, none] ∧
    Deck H' a c (k + 27) ∧ Keep a c H H' ∧ H' B = some (.lst (bs.map V.int)) ∧ H' Ta = some (.lst (ts.map V.int)) ∧ H' Fd = some (.lst []) ∧ Fd ≠ B ∧ Fd ≠ Ta ∧ H Fd = none ∧ H B = none ∧ H Ta = none ∧
    bs.Pairwise (· < ·) ∧ ts.Pairwise (· < ·) ∧ (bs.length : Int) = n ∧ (ts.length : Int) = n ∧ (∀ x ∈ bs, 0 ≤ x ∧ x < d) ∧ (∀ x ∈ ts, 0 ≤ x ∧ x < d), ?_, ?_⟩
  · refine ⟨.ref a, rfl, .int d, rfl, .int n, rfl, a, c, k + 3, d, n, rfl, dk3, by omega, by omega, hn2, by omega, fun bs B H4 bp bl br dk4 kp4 nB hB => ?_⟩
    refine ⟨.ref a, rfl, .int d, rfl, .int n, rfl, a, c, k + 3 + n, d, n, rfl, dk4, by omega, by omega, hn2, by omega, fun ts Ta H5 tp tl tr dk5 kp5 nT hT => ?_⟩
    refine ⟨Nat.zero_le _, fun Fd nF => ⟨_, _, _, rfl, ?_⟩⟩
    have kp35 : Keep a c H H5 := (kp3.trans kp4).trans kp5
    have none_of : ∀ {p : Addr} {H' : Hp}, Keep a c H H' → p ≠ a → p ≠ c → H' p = none → H p = none := by
      intro p H' kk h1 h2 h3
      cases e : H p with
      | none => rfl
      | some o =>
        rw [kk _ _ h1 h2 e] at h3
        cases h3
    obtain ⟨nBa, nBc⟩ := dk3.nea nB
    obtain ⟨nTa, nTc⟩ := dk4.nea nT
    obtain ⟨nFa, nFc⟩ := dk5.nea nF
    have hB5 := kp5 _ _ nBa nBc hB
    refine ⟨B, Ta, Fd, bs, ts, rfl, (dk5.new nF).mono (by omega), kp35.trans (Keep.upd_new nF), ?_, ?_, upd_same, (ne_of_none hB5 nF).symm, (ne_of_none hT nF).symm, none_of kp35 nFa nFc nF, none_of kp3 nBa nBc nB, none_of (kp3.trans kp4) nTa nTc nT, bp, tp, bl, tl, br, tr⟩
    · exact same_upd nF _ _ hB5
    · exact same_upd nF _ _ hT
  intro σ4 H4 hM
  obtain ⟨B, Ta, Fd, bs, ts, e, dk4, kp4, hB, hT, hF, nFB, nFT, nF, nB, nT, bp, tp, bl, tl, br, tr⟩ := hM
  subst e
  obtain ⟨nFa, nFc⟩ := dk.nea nF
  obtain ⟨nBa, nBc⟩ := dk.nea nB
  obtain ⟨nTa, nTc⟩ := dk.nea nT
  -- the shift
  refine ⟨fun σ' H' => ∃ (sh : Int), σ' = [some (.ref a), some (.int m), some (.int d), some (.ref S), some (.int n), some (.ref B), some (.ref Ta), some (.ref Fd), some (.int sh), none, none] ∧
    Deck H' a c (k + 28) ∧ Keep a c H H' ∧ H' B = some (.lst (bs.map V.int)) ∧ H' Ta = some (.lst (ts.map V.int)) ∧ H' Fd = some (.lst []), ?_, ?_⟩
  · refine ⟨.ref a, rfl, .int m, rfl, a, c, k + 27, m, rfl, dk4, by omega, hm1, by omega, fun v H5 v0 v1 dk5 kp5 => ?_⟩
    exact ⟨v, rfl, dk5.mono (by omega), kp4.trans kp5, kp5 _ _ nBa nBc hB, kp5 _ _ nTa nTc hT, kp5 _ _ nFa nFc hF⟩
  intro σ5 H5 hM
  obtain ⟨sh, e, dk5, kp5, hB5, hT5, hF5⟩ := hM
  subst e
  -- the pairs
  have hqn : ((m / d).toNat : Int) = m / d := by omega
  refine ⟨fun σ' H' => ∃ (y9 y10 : Option V) (as : List Addr) (raw : List (Int × Int)), σ' = [some (.ref a), some (.int m), some (.int d), some (.ref S), some (.int n), some (.ref B), some (.ref Ta), some (.ref Fd), some (.int sh), y9, y10] ∧
    Deck H' a c (k + 28) ∧ Keep a c H H' ∧ H' Fd = some (.lst (as.map V.ref)) ∧ PairsAt H' as (raw.map fun x => (x.1, (x.2 + sh) % m)) ∧ Raw m d bs ts (m / d).toNat 0 raw ∧ (raw.length : Int) = (m / d) * n, ?_, ?_⟩
  · refine ⟨.int m, rfl, .int d, rfl, 0, m, d, (m / d).toNat, rfl, gd.rgc hm1 hm2, ?_⟩
    refine for_rangeC (lo := 0) (c := d) (n := (m / d).toNat) (fun i σ' H' => ∃ (y9 y10 : Option V) (as : List Addr) (raw : List (Int × Int)), σ' = [some (.ref a), some (.int m), some (.int d), some (.ref S), some (.int n), some (.ref B), some (.ref Ta), some (.ref Fd), some (.int sh), y9, y10] ∧
      Deck H' a c (k + 28) ∧ Keep a c H H' ∧ H' B = some (.lst (bs.map V.int)) ∧ H' Ta = some (.lst (ts.map V.int)) ∧ H' Fd = some (.lst (as.map V.ref)) ∧ PairsAt H' as (raw.map fun x => (x.1, (x.2 + sh) % m)) ∧ Raw m d bs ts i 0 raw ∧ (raw.length : Int) = i * n) ?_ ?_ ?_
    · exact ⟨none, none, [], [], rfl, dk5, kp5, hB5, hT5, hF5, .nil, .nil, by rw [List.length_nil]; simp⟩
    · intro i σ' H' hi h
      obtain ⟨y9, y10, as, raw, e, dk', kp', hB', hT', hF', pa', rw', rl'⟩ := h
      subst e
      refine ⟨.int n, rfl, n, rfl, by omega, by omega, ?_⟩
      refine for_range (lo := 0) (n := n.toNat) (fun j σ' H' => ∃ (y10 : Option V) (as : List Addr) (raw : List (Int × Int)), σ' = [some (.ref a), some (.int m), some (.int d), some (.ref S), some (.int n), some (.ref B), some (.ref Ta), some (.ref Fd), some (.int sh), some (.int (0 + (i : Nat) * d)), y10] ∧
        Deck H' a c (k + 28) ∧ Keep a c H H' ∧ H' B = some (.lst (bs.map V.int)) ∧ H' Ta = some (.lst (ts.map V.int)) ∧ H' Fd = some (.lst (as.map V.ref)) ∧ PairsAt H' as (raw.map fun x => (x.1, (x.2 + sh) % m)) ∧ Raw m d bs ts i j raw ∧ (raw.length : Int) = i * n + j) ?_ ?_ ?_
      · exact ⟨y10, as, raw, rfl, dk', kp', hB', hT', hF', pa', rw', by omega⟩
      · intro j σ2 H6 hj h
        obtain ⟨z10, as2, raw2, e, dk6, kp6, hB6, hT6, hF6, pa6, rw6, rl6⟩ := h
        subst e
        have jb : j < bs.length := by omega
        have jt : j < ts.length := by omega
        have gb : (bs.map V.int)[j]? = some (.int bs[j]) := by
          rw [List.getElem?_map, List.getElem?_eq_getElem jb]
          rfl
        have gt : (ts.map V.int)[j]? = some (.int ts[j]) := by
          rw [List.getElem?_map, List.getElem?_eq_getElem jt]
          rfl
        have xb := br _ (List.getElem_mem jb)
        have xt := tr _ (List.getElem_mem jt)
        have ej : (0 : Int) + (j : Nat) = (j : Nat) := by omega
        have len12 : raw2.length < 12 := by
          have h1 : (i : Int) + 1 ≤ m / d := by omega
          have h2 : ((i : Int) + 1) * n ≤ (m / d) * n := Int.mul_le_mul_of_nonneg_right h1 (by omega)
          have h3 : ((i : Int) + 1) * n = i * n + n := by rw [Int.add_mul, Int.one_mul]
          rw [Int.mul_comm n (m / d)] at hq12
          omega
        have hla : as2.length = raw2.length := by
          have := Paired.length pa6
          rw [List.length_map] at this
          exact this
        refine ⟨.ref Fd, rfl, .inl ⟨rfl, _, SqL.of hF6⟩, .int (0 + (i : Nat) * d), rfl, .ref B, rfl, .int (0 + (j : Nat)), rfl, B, _, 0 + (j : Nat), _, rfl, rfl, SqL.of hB6, by rw [ej]; exact atI_nat gb, _, _, rfl, rfl,
          .int (0 + (i : Nat) * d), rfl, .ref Ta, rfl, .int (0 + (j : Nat)), rfl, Ta, _, 0 + (j : Nat), _, rfl, rfl, SqL.of hT6, by rw [ej]; exact atI_nat gt, _, _, rfl, rfl, .int sh, rfl, _, _, rfl, rfl, .int m, rfl, _, m, rfl, rfl, (by omega : 0 < m),
          by show 2 ≤ sizeLine; decide, fun p np => ?_⟩
        rw [Int.zero_add]
        have npF : Fd ≠ p := ne_of_none hF6 np
        refine ⟨Fd, as2.map V.ref, .ref p, rfl, rfl, ?_, ?_, ?_⟩
        · rw [upd_ne npF]
          exact hF6
        · rw [List.length_map, hla]
          exact small1000 (by omega)
        · have sm6 : Same H6 (upd H6 p (.tup [.int ((i : Nat) * d + bs[j]), .int (((i : Nat) * d + ts[j] + sh) % m)])) := same_upd np
          have hp6 : (upd H6 p (.tup [.int ((i : Nat) * d + bs[j]), .int (((i : Nat) * d + ts[j] + sh) % m)])) p = some (.tup [.int ((i : Nat) * d + bs[j]), .int (((i : Nat) * d + ts[j] + sh) % m)]) := upd_same
          have st6 : Stay H6 (upd (upd H6 p (.tup [.int ((i : Nat) * d + bs[j]), .int (((i : Nat) * d + ts[j] + sh) % m)])) Fd (.lst (as2.map V.ref ++ [.ref p]))) := by
            intro b o nb e
            have : b ≠ Fd := by
              intro z
              subst z
              rw [hF6] at e
              exact nb _ (Option.some.inj e).symm
            rw [upd_ne this]
            exact sm6 _ _ e
          refine ⟨_, as2 ++ [p], raw2 ++ [((i : Nat) * d + bs[j], (i : Nat) * d + ts[j])], rfl, ?_, ?_, ?_, ?_, ?_, ?_, ?_, ?_⟩
          · obtain ⟨ns, jj, d1, d2, d3, d4, d5, d6⟩ := dk6
            refine ⟨ns, jj, d1, ?_, ?_, d4, d5, d6⟩
            · rw [upd_ne nFa.symm]
              exact sm6 _ _ d2
            · rw [upd_ne nFc.symm]
              exact sm6 _ _ d3
          · intro b o x1 x2 x3
            rw [upd_ne (ne_of_none x3 nF)]
            exact sm6 _ _ (kp6 b o x1 x2 x3)
          · rw [upd_ne nFB.symm]
            exact sm6 _ _ hB6
          · rw [upd_ne nFT.symm]
            exact sm6 _ _ hT6
          · rw [upd_same, List.map_append]
            rfl
          · rw [List.map_append]
            refine Paired.snoc (pa6.stay st6) ?_
            show upd _ Fd _ p = _
            rw [upd_ne npF.symm]
            exact hp6
          · exact rw6.add bp tp (List.getElem?_eq_getElem jb) (List.getElem?_eq_getElem jt) xb.1 xt.1 (by omega)
          · rw [List.length_append, List.length_singleton]
            omega
      · intro σ2 H6 h
        obtain ⟨z10, as2, raw2, e, dk6, kp6, hB6, hT6, hF6, pa6, rw6, rl6⟩ := h
        refine ⟨_, z10, as2, raw2, e, dk6, kp6, hB6, hT6, hF6, pa6, rw6.next br tr (by omega), ?_⟩
        rw [Int.natCast_add, Int.add_mul]
        omega
    · intro σ2 H6 h
      obtain ⟨z9, z10, as2, raw2, e, dk6, kp6, hB6, hT6, hF6, pa6, rw6, rl6⟩ := h
      exact ⟨z9, z10, as2, raw2, e, dk6, kp6, hF6, pa6, rw6, by rw [rl6, hqn]⟩
  intro σ6 H6 hM
  obtain ⟨y9, y10, as, raw, e, dk6, kp6, hF6, pa6, rw6, rl6⟩ := hM
  subst e
  have hla : as.length = raw.length := by
    have := Paired.length pa6
    rw [List.length_map] at this
    exact this
  have hqn1 : 1 ≤ (m / d) * n := by
    have := Int.mul_le_mul hq0 hn1 (by decide) (by omega)
    omega
  have bd : ∀ x ∈ raw, (0 ≤ x.1 ∧ x.1 < m) ∧ 0 ≤ x.2 ∧ x.2 < m := by
    intro x hx
    have h1 := rw6.low x hx
    rcases rw6.bnd x hx with ⟨h2, h3⟩ | ⟨z, _, _, hz, _⟩
    · rw [hqn, Int.mul_comm, ← hmq] at h2 h3
      omega
    · exact absurd hz (Nat.not_lt_zero _)
  -- the end
  refine ⟨.ref Fd, rfl, Fd, _, rfl, .inl (SqL.of hF6), _, 1, rfl, rfl, _, rfl, ?_⟩
  refine ite2 (fun h1 => ?_) (fun h1 => ?_)
  · have h1 : (1 : Int) < (((as.map V.ref).length : Nat) : Int) := of_decide_eq_true h1
    rw [List.length_map] at h1
    refine ⟨.ref Fd, rfl, Fd, _, rfl, SqL.of hF6, fun t o nt od => ?_⟩
    have sm : Same H6 (upd H6 t (.frz o (.tup (as.map V.ref)))) := same_upd nt
    refine q t _ _ (tool_of_raw (s := sh) (by omega) ?_ rw6.asc bd) ⟨o, as, upd_same, od, pa6.stay (.of_same sm)⟩ ((dk6.new nt).mono (by omega)) (kp6.trans (Keep.upd_new nt))
    rw [Int.mul_comm n (m / d)] at hq12
    omega
  · have h1 : ¬ (1 : Int) < (((as.map V.ref).length : Nat) : Int) := fun z => h1 (decide_eq_true z)
    rw [List.length_map] at h1
    match as, raw, pa6, hF6, hla, rl6, bd, h1 with
    | [], raw, _, _, hla, rl6, _, _ =>
      rw [List.length_nil] at hla
      rw [← hla] at rl6
      exact absurd rl6 (by show ((0 : Nat) : Int) ≠ _; omega)
    | p0 :: r, [], _, _, hla, _, _, _ =>
      rw [List.length_cons, List.length_nil] at hla
      exact absurd hla (by omega)
    | p0 :: r, x0 :: rr, pa6, hF6, hla, rl6, bd, _ =>
      cases pa6 with
      | cons e0 _ =>
        have e0 : H6 p0 = some (.tup [.int x0.1, .int ((x0.2 + sh) % m)]) := e0
        refine ⟨.ref Fd, rfl, Fd, _, 0, .ref p0, rfl, rfl, SqL.of hF6, atI_nat (j := 0) rfl, p0, _, 1, _, rfl, rfl, SqT.of e0, rfl, by show 2 ≤ sizeLine; decide, fun p np => ⟨by show 1 ≤ sizeLine; decide, fun t o nt od => ?_⟩⟩
        have sm : Same H6 (upd H6 p (.tup [.int 0, .int ((x0.2 + sh) % m)])) := same_upd np
        have sm2 := same_upd (o := .frz o (.tup [.ref p])) nt
        refine q t [(0, (x0.2 + sh) % m)] _ (tool_of_one (Int.emod_nonneg _ (by omega)) (Int.emod_lt_of_pos _ (by omega))) ⟨o, [p], upd_same, od, .cons (sm2 _ _ upd_same) .nil⟩ (((dk6.new np).new nt).mono (by omega)) ((kp6.trans (Keep.upd_new np)).trans (Keep.upd_new nt))
abbrev s__law_target : Stmt := topS 13
abbrev N__law_target : List Str := ["_law_m", "_law_tool_here", "_law_place", "_law_targets"]
theorem sc__law_target : FnScope N__law_target ["_law_m", "_law_tool_here", "_law_place"] (defScope s__law_target) :=
  ⟨rfl, rfl, rfl, by decide +kernel, rfl, by decide +kernel, by decide +kernel⟩

theorem ok_ltarget {f : Addr} {fd : FuncData} (F : Fun K "_law_target" "_law_target" s__law_target f fd) (T : Bi mg) :
    FnOk P w K mg base CX0 1 f fd ["_law_m", "_law_tool_here", "_law_place"] spLTarget := by
  refine F.ok sc__law_target (fun vs H Q E h => ?_) (fun cdv A outer s H vs Q E hr h => ?_)
  · obtain ⟨m, t, tl, p, e, _⟩ := h
    subst e
    rfl
  obtain ⟨m, t, tl, p, e, ⟨o, as, ht, od, pa⟩, hT, hp0, hp1, q⟩ := h
  subst e
  have hl : tl ≠ [] := fun e => by
    have := hT.len1
    rw [e, List.length_nil] at this
    omega
  refine ⟨_, (pss_cons (ps_set (i := 3) sc__law_target.nd rfl (.inl rfl) (pe_callTy (kdictT K rfl) (by rfl) T.dict (by decide +kernel) (pa_cons (pv 1) pa_nil)))
  (pss_cons (ps_while PassesOwn.never (pt_cmp (pc_dnotin (hu_of hr) (pv 2) (pv 3)))
  (pss_one (ps_set (i := 2) sc__law_target.nd rfl (.inl rfl) (pe_op op_mod (pe_op op_sub (pv 2) pe_int) (pv 0)))))
  (pss_one (ps_ret (pe_dget (hu_of hr) (pv 3) (pv 2) (fun _ _ => rfl)))))), ?_⟩
  refine ⟨.ref t, rfl, t, o, as, tl.map kvOf, rfl, ht, od, pa.kvs, fun dd nd => ?_⟩
  have hd : upd H dd (.dK (mergeK [] (tl.map kvOf))) dd = some (.dK (mergeK [] (tl.map kvOf))) := upd_same
  have sm : Same H (upd H dd (.dK (mergeK [] (tl.map kvOf)))) := same_upd nd
  revert hd sm
  generalize upd H dd (.dK (mergeK [] (tl.map kvOf))) = H1
  intro hd sm
  refine ⟨fun n σ' H' => ∃ p' : Int, σ' = [some (.int m), some (.ref t), some (.int p'), some (.ref dd)] ∧ H' = H1 ∧ 0 ≤ p' ∧ p' < m ∧ tgt tl p' = tgt tl p ∧
    (n : Int) = (if ∃ x ∈ tl, x.1 ≤ p' then p' else p' + m + 1), ?_, ?_⟩
  · refine ⟨(if ∃ x ∈ tl, x.1 ≤ p then p else p + m + 1).toNat, p, rfl, rfl, hp0, hp1, rfl, ?_⟩
    split <;> omega
  · intro n σ' H' h
    obtain ⟨p', e, e', h0, h1, ht', hn⟩ := h
    subst e
    subst e'
    by_cases hh : ∃ x ∈ tl, x.1 = p'
    · obtain ⟨x, hx, ex⟩ := hh
      have hv : valV (mergeK [] (tl.map kvOf)) (.inl p') = some (.int x.2) := val_hit tl [] hT.asc (by rw [← ex]; exact hx)
      refine ⟨.int p', rfl, .ref dd, rfl, dd, _, rfl, DGet.k (k := Sum.inl p') hd, _, rfl, ?_⟩
      rw [hv]
      refine iteF ⟨.ref dd, rfl, .int p', rfl, dd, .int x.2, rfl, ?_, ?_⟩
      · rw [← hv]
        exact DGet.k (k := Sum.inl p') hd
      · have e2 : tgt tl p = x.2 := by
          rw [← ht']
          exact tgtFrom_hit tl _ hT.asc (by rw [← ex]; exact hx)
        rw [← e2]
        exact q _ sm
    · have nb : ∀ x ∈ tl, x.1 ≠ p' := fun x hx e => hh ⟨x, hx, e⟩
      have hv : valV (mergeK [] (tl.map kvOf)) (.inl p') = none := val_miss p' tl [] nb
      refine ⟨.int p', rfl, .ref dd, rfl, dd, _, rfl, DGet.k (k := Sum.inl p') hd, _, rfl, ?_⟩
      rw [hv]
      refine iteT ⟨fun σ' H'' => ∃ m', m' < n ∧ ∃ p'' : Int, σ' = [some (.int m), some (.ref t), some (.int p''), some (.ref dd)] ∧ H'' = H' ∧ 0 ≤ p'' ∧ p'' < m ∧ tgt tl p'' = tgt tl p ∧
        (m' : Int) = (if ∃ x ∈ tl, x.1 ≤ p'' then p'' else p'' + m + 1), fun _ _ z => z, ?_⟩
      refine ⟨.int p', rfl, p', 1, rfl, rfl, .int m, rfl, _, m, rfl, rfl, (by omega : 0 < m), ?_⟩
      have b0 : 0 ≤ (p' - 1) % m := Int.emod_nonneg _ (by omega)
      have b1 : (p' - 1) % m < m := Int.emod_lt_of_pos _ (by omega)
      refine ⟨(if ∃ x ∈ tl, x.1 ≤ (p' - 1) % m then (p' - 1) % m else (p' - 1) % m + m + 1).toNat, ?_, (p' - 1) % m, rfl, rfl, b0, b1, (tgt_back hT h0 h1 nb).trans ht', ?_⟩
      · have key : (if ∃ x ∈ tl, x.1 ≤ (p' - 1) % m then (p' - 1) % m else (p' - 1) % m + m + 1) < (n : Int) := by
          rw [hn]
          by_cases hp : p' = 0
          · subst hp
            rw [back_zero (by omega)]
            have x1 : ∃ x ∈ tl, x.1 ≤ m - 1 := by
              obtain ⟨x, hx⟩ := List.exists_mem_of_ne_nil tl hl
              exact ⟨x, hx, by have := (hT.rng x hx).1; omega⟩
            have x2 : ¬ ∃ x ∈ tl, x.1 ≤ 0 := by
              intro ⟨x, hx, hx0⟩
              have := (hT.rng x hx).1
              have := nb x hx
              omega
            rw [if_pos x1, if_neg x2]
            omega
          · rw [back_lt (by omega) h1]
            have iff1 : (∃ x ∈ tl, x.1 ≤ p' - 1) ↔ ∃ x ∈ tl, x.1 ≤ p' := by
              constructor
              · intro ⟨x, hx, hx0⟩
                exact ⟨x, hx, by omega⟩
              · intro ⟨x, hx, hx0⟩
                exact ⟨x, hx, by have := nb x hx; omega⟩
            by_cases z : ∃ x ∈ tl, x.1 ≤ p'
            · rw [if_pos z, if_pos (iff1.mpr z)]
              omega
            · rw [if_neg z, if_neg fun y => z (iff1.mp y)]
              omega
        have nn : 0 ≤ (if ∃ x ∈ tl, x.1 ≤ (p' - 1) % m then (p' - 1) % m else (p' - 1) % m + m + 1) := by split <;> omega
        omega
      · have nn : 0 ≤ (if ∃ x ∈ tl, x.1 ≤ (p' - 1) % m then (p' - 1) % m else (p' - 1) % m + m + 1) := by split <;> omega
        omega
abbrev s__law_same : Stmt := topS 12
abbrev N__law_same : List Str := ["_law_value", "_law_due"]
theorem sc__law_same : FnScope N__law_same ["_law_value", "_law_due"] (defScope s__law_same) :=
  ⟨rfl, rfl, rfl, by decide +kernel, rfl, by decide +kernel, by decide +kernel⟩

theorem ok_same {f : Addr} {fd : FuncData} (F : Fun K "_law_same" "_law_same" s__law_same f fd) (T : Bi mg) :
    FnG P w K mg base 1 f fd ["_law_value", "_law_due"] (spSame K) := by
  refine fung_ok F sc__law_same (fun vs H Q E h => ?_) (fun cdv A outer s H vs Q E hgd hr h => ?_)
  · obtain ⟨x, y, d, e, _⟩ := h
    subst e
    rfl
  obtain ⟨x, y, d, e, hx, hy, hs, q⟩ := h
  subst e
  refine ⟨_, (pss_one (ps_ret (pe_cmpR op_eq (pe_callB (krepr K hgd hr.units) (by rfl) T.repr (by decide +kernel) (pa_cons (pv 0) pa_nil)) (pe_callB (krepr K hgd hr.units) (by rfl) T.repr (by decide +kernel) (pa_cons (pv 1) pa_nil)) (nomark _)))), ?_⟩
  refine ⟨.ref x, rfl, x, d, rfl, hx, hs.sh, hs.nd, hs.dp, hs.le, ?_⟩
  refine ⟨.ref y, rfl, y, d, rfl, hy, hs.sh, hs.nd, hs.dp, hs.le, ?_⟩
  refine ⟨rfl, ?_⟩
  rw [decide_eq_true rfl]
  exact q
abbrev s_is_in_arc : Stmt := topS 2
abbrev N_is_in_arc : List Str := ["m", "begin", "length", "place"]
theorem sc_is_in_arc : FnScope N_is_in_arc ["m", "begin", "length", "place"] (defScope s_is_in_arc) :=
  ⟨rfl, rfl, rfl, by decide +kernel, rfl, by decide +kernel, by decide +kernel⟩

theorem ok_arc {f : Addr} {fd : FuncData} (F : Fun K "is_in_arc" "is_in_arc" s_is_in_arc f fd) (T : Bi mg) :
    FnOk P w K mg base CX0 1 f fd ["m", "begin", "length", "place"] spArc := by
  refine F.ok sc_is_in_arc (fun vs H Q E h => ?_) (fun cdv A outer s H vs Q E hr h => ?_)
  · obtain ⟨m, b, l, p, e, _⟩ := h
    subst e
    rfl
  obtain ⟨m, b, l, p, e, hm, q⟩ := h
  subst e
  refine ⟨_, (pss_one (ps_ret (pe_cmpR op_lt (pe_op op_mod (pe_op op_sub (pv 3) (pv 1)) (pv 0)) (pv 2) (nomark _)))), ?_⟩
  exact ⟨.int p, rfl, .int b, rfl, p, b, rfl, rfl, .int m, rfl, p - b, m, rfl, rfl, hm, .int l, rfl, _, l, rfl, rfl, q⟩
abbrev s_steps_between : Stmt := topS 1
abbrev N_steps_between : List Str := ["m", "places", "following", "place", "after"]
theorem sc_steps_between : FnScope N_steps_between ["m", "places"] (defScope s_steps_between) :=
  ⟨rfl, rfl, rfl, by decide +kernel, rfl, by decide +kernel, by decide +kernel⟩

theorem ok_steps {f : Addr} {fd : FuncData} (F : Fun K "steps_between" "steps_between" s_steps_between f fd) (T : Bi mg) :
    FnOk P w K mg base CX0 1 f fd ["m", "places"] (spStepsL K) := by
  refine F.ok sc_steps_between (fun vs H Q E h => ?_) (fun cdv A outer s H vs Q E hr h => ?_)
  · obtain ⟨m, p, bs, e, _⟩ := h
    subst e
    rfl
  obtain ⟨m, p, bs, e, hp, hne, hl, q⟩ := h
  subst e
  refine ⟨_, (pss_cons (ps_set (i := 2) sc_steps_between.nd rfl (.inl rfl) (pe_op op_cat (pe_callTy (klistof K) (by rfl) T.list (by decide +kernel) (pa_cons (pe_slice (kslL K) (pv 1) (po_some pe_int) po_none) pa_nil)) (pe_lst (pa_cons (pe_op op_add (pe_ix (kixL K) (pv 1) pe_int (fun _ _ => rfl)) (pv 0)) pa_nil))))
  (pss_one (ps_ret (pe_lc (own := [("place", 3), ("after", 4)]) rfl sc_steps_between.nd (pi_zip (by rfl) T.zip (pa_cons (pv 1) (pa_cons (pv 2) pa_nil))) (blkOk_by (own := [("place", 3), ("after", 4)]) (N := N_steps_between) (sc := defScope s_steps_between) (by decide +kernel))
    (fun _ _ _ _ _ => (kgtup K 2 rfl (pgs_cons (pg_name (i := 3) sc_steps_between.nd rfl (.inl rfl)) (pgs_cons (pg_name (i := 4) sc_steps_between.nd rfl (.inl rfl)) pgs_nil)))) (fun _ _ _ _ _ => pts_nil)
    (fun _ _ _ _ _ => (pe_op op_sub (pv 4) (pv 3))))))), ?_⟩
  obtain ⟨b0, r, e⟩ : ∃ b0 r, bs = b0 :: r := by
    cases bs with
    | nil => exact absurd rfl hne
    | cons b0 r => exact ⟨b0, r, rfl⟩
  subst e
  refine ⟨.ref p, rfl, 1, rfl, p, _, rfl, hp, fun c1 n1 => ?_⟩
  rw [show cutV ((b0 :: r).map V.int) (some 1) none = ((b0 :: r).map V.int).drop 1 from cut_from _ 1]
  have s1 : Same H (upd H c1 (.lst (((b0 :: r).map V.int).drop 1))) := same_upd n1
  refine ⟨c1, _, rfl, .inl (SqL.of upd_same), fun c2 n2 => ?_⟩
  have s2 := same_upd (o := .lst (((b0 :: r).map V.int).drop 1)) n2
  refine ⟨.ref p, rfl, p, _, 0, .int b0, rfl, rfl, s2.seq (s1.seq hp), atI_nat (j := 0) rfl, .int m, rfl, b0, m, rfl, rfl, by show 1 ≤ sizeLine; decide, fun c3 n3 => ?_⟩
  have s3 := same_upd (o := .lst [.int (b0 + m)]) n3
  refine ⟨c2, c3, _, _, rfl, rfl, s3 _ _ upd_same, upd_same, ?_, fun c4 n4 => ?_⟩
  · rw [List.length_drop, List.length_map]
    show (b0 :: r).length - 1 + 1 ≤ sizeLine
    exact Nat.le_of_lt (small1000 (by rw [List.length_cons] at hl ⊢; omega))
  have s4 := same_upd (o := .lst (((b0 :: r).map V.int).drop 1 ++ [.int (b0 + m)])) n4
  have sA := ((s1.trans s2).trans s3).trans s4
  refine ⟨.ref p, rfl, .ref c4, rfl, p, c4, _, _, rfl, sA.seq hp, SqL.of upd_same, fun D nD => ?_⟩
  refine lcZ (fun _ => true) (fun z => V.int (unI z.2 - unI z.1)) (by rw [List.length_map]; omega) nD (sA.seq hp) (SqL.of upd_same) (fun u v => rfl) (fun x y H Q _ hs q => q H (Same.refl _)) ?_ ?_
  · intro x y H Q hm _ hs q
    have hx : ∃ i j, x = .int i ∧ y = .int j := by
      have e : ((b0 :: r).map V.int).drop 1 ++ [V.int (b0 + m)] = ((b0 :: r).drop 1 ++ [b0 + m]).map V.int := by
        rw [List.map_append, List.map_drop]
        rfl
      rw [e, zip_ints, List.mem_map] at hm
      obtain ⟨z, _, e⟩ := hm
      cases e
      exact ⟨_, _, rfl, rfl⟩
    obtain ⟨i, j, ex, ey⟩ := hx
    subst ex
    subst ey
    exact ⟨.int j, rfl, .int i, rfl, j, i, rfl, rfl, q _ (Same.refl _)⟩
  · intro H' s' hD
    have es := steps_V m (b0 :: r)
    rw [show (b0 :: r).headD 0 = b0 from rfl] at es
    rw [es] at hD
    exact q D H' (sA.trans s') hD
abbrev s_places_from : Stmt := topS 6
abbrev N_places_from : List Str := ["m", "targets", "sizes", "start", "length", "target", "size"]
theorem sc_places_from : FnScope N_places_from ["m", "targets", "sizes", "start", "length"] (defScope s_places_from) :=
  ⟨rfl, rfl, rfl, by decide +kernel, rfl, by decide +kernel, by decide +kernel⟩

theorem ok_from {f : Addr} {fd : FuncData} (F : Fun K "places_from" "places_from" s_places_from f fd) (T : Bi mg)
    (h_is_in_arc : Has P w K mg base 1 "is_in_arc" ["m", "begin", "length", "place"] spArc) :
    FnOk P w K mg base CX0 2 f fd ["m", "targets", "sizes", "start", "length"] (spSent K) := by
  refine F.ok sc_places_from (fun vs H Q E h => ?_) (fun cdv A outer s H vs Q E hr h => ?_)
  · obtain ⟨m, st, l, p, r, ts, ss, e, _⟩ := h
    subst e
    rfl
  obtain ⟨m, st, l, p, r, ts, ss, e, hm, hp, hr', hl, q⟩ := h
  subst e
  refine ⟨_, (pss_one (ps_ret (pe_callB (ksum K rfl) (by rfl) T.sum (by decide +kernel) (pa_cons (pe_lc (own := [("target", 5), ("size", 6)]) rfl sc_places_from.nd (pi_zip (by rfl) T.zip (pa_cons (pv 1) (pa_cons (pv 2) pa_nil))) (blkOk_by (own := [("target", 5), ("size", 6)]) (N := N_places_from) (sc := defScope s_places_from) (by decide +kernel))
    (fun _ _ _ _ _ => (kgtup K 2 rfl (pgs_cons (pg_name (i := 5) sc_places_from.nd rfl (.inl rfl)) (pgs_cons (pg_name (i := 6) sc_places_from.nd rfl (.inl rfl)) pgs_nil)))) (fun _ _ _ _ _ => (pts_one (pt_val (pe_callH h_is_in_arc hr (by decide) (by rfl) (pa_cons (pv 0) (pa_cons (pv 3) (pa_cons (pv 4) (pa_cons (pv 5) pa_nil))))))))
    (fun _ _ _ _ _ => (pv 6))) pa_nil)))), ?_⟩
  refine ⟨.ref p, rfl, .ref r, rfl, p, r, _, _, rfl, hp, hr', fun D nD => ?_⟩
  have isI : ∀ {x y : V}, (x, y) ∈ (ts.map V.int).zip (ss.map V.int) → ∃ i j, x = .int i ∧ y = .int j := by
    intro x y hm
    rw [zip_ints, List.mem_map] at hm
    obtain ⟨z, _, e⟩ := hm
    cases e
    exact ⟨_, _, rfl, rfl⟩
  refine lcZ (fun z => inArc m st l (unI z.1)) (fun z => z.2) (by rw [List.length_map]; omega) nD hp hr' (fun u v => rfl) ?_ ?_ ?_
  · intro x y H1 Q1 hm1 hs q1
    obtain ⟨i, j, ex, ey⟩ := isI hm1
    subst ex
    subst ey
    exact ⟨.int m, rfl, .int st, rfl, .int l, rfl, .int i, rfl, m, st, l, i, rfl, hm, _, rfl, q1 _ (Same.refl _)⟩
  · intro x y H1 Q1 hm1 _ hs q1
    exact ⟨y, rfl, q1 _ (Same.refl _)⟩
  · intro H1 s1 hD
    rw [psum_V (fun t => inArc m st l t)] at hD
    exact ⟨D, _, rfl, SqL.of hD, q H1 s1⟩
abbrev s_places_sent : Stmt := topS 5
abbrev N_places_sent : List Str := ["m", "tool", "length", "targets", "sizes", "begin", "target", "start"]
theorem sc_places_sent : FnScope N_places_sent ["m", "tool", "length"] (defScope s_places_sent) :=
  ⟨rfl, rfl, rfl, by decide +kernel, rfl, by decide +kernel, by decide +kernel⟩

theorem ok_sent {f : Addr} {fd : FuncData} (F : Fun K "places_sent" "places_sent" s_places_sent f fd) (T : Bi mg)
    (h_steps_between : Has P w K mg base 1 "steps_between" ["m", "places"] (spStepsL K))
    (h_places_from : Has P w K mg base 2 "places_from" ["m", "targets", "sizes", "start", "length"] (spSent K)) :
    FnOk P w K mg base CX0 3 f fd ["m", "tool", "length"] spSents := by
  refine F.ok sc_places_sent (fun vs H Q E h => ?_) (fun cdv A outer s H vs Q E hr h => ?_)
  · obtain ⟨m, l, t, tl, e, _⟩ := h
    subst e
    rfl
  obtain ⟨m, l, t, tl, e, hm, ⟨o, as, ht, od, pa⟩, it, q⟩ := h
  subst e
  have hne : tl ≠ [] := fun e => by
    have := it.len1
    rw [e, List.length_nil] at this
    omega
  have l12 := it.len2
  have hT : SqT K H t (as.map V.ref) := .inl (.inr ⟨o, ht⟩)
  refine ⟨_, (pss_cons (ps_set (i := 3) sc_places_sent.nd rfl (.inr rfl) (pe_lc (own := [("begin", 5), ("target", 6)]) rfl sc_places_sent.nd (kitup K (pv 1)) (blkOk_by (own := [("begin", 5), ("target", 6)]) (N := N_places_sent) (sc := defScope s_places_sent) (by decide +kernel))
    (fun _ _ _ _ _ => (kgtup K 2 rfl (pgs_cons (pg_name (i := 5) sc_places_sent.nd rfl (.inl rfl)) (pgs_cons (pg_name (i := 6) sc_places_sent.nd rfl (.inl rfl)) pgs_nil)))) (fun _ _ _ _ _ => pts_nil)
    (fun _ _ _ _ _ => (pv 6))))
  (pss_cons (ps_set (i := 4) sc_places_sent.nd rfl (.inr rfl) (pe_callH h_steps_between hr (by decide) (by rfl) (pa_cons (pv 0) (pa_cons (pe_lc (own := [("begin", 5), ("target", 6)]) rfl sc_places_sent.nd (kitup K (pv 1)) (blkOk_by (own := [("begin", 5), ("target", 6)]) (N := N_places_sent) (sc := defScope s_places_sent) (by decide +kernel))
    (fun _ _ _ _ _ => (kgtup K 2 rfl (pgs_cons (pg_name (i := 5) sc_places_sent.nd rfl (.inl rfl)) (pgs_cons (pg_name (i := 6) sc_places_sent.nd rfl (.inl rfl)) pgs_nil)))) (fun _ _ _ _ _ => pts_nil)
    (fun _ _ _ _ _ => (pv 5))) pa_nil))))
  (pss_one (ps_ret (pe_lc (own := [("start", 7)]) rfl sc_places_sent.nd (kilist K (pv 3)) (blkOk_by (own := [("start", 7)]) (N := N_places_sent) (sc := defScope s_places_sent) (by decide +kernel))
    (fun _ _ _ _ _ => (pg_name (i := 7) sc_places_sent.nd rfl (.inl rfl))) (fun _ _ _ _ _ => pts_nil)
    (fun _ _ _ _ _ => (pe_callH h_places_from hr (by decide) (by rfl) (pa_cons (pv 0) (pa_cons (pv 3) (pa_cons (pv 4) (pa_cons (pv 7) (pa_cons (pv 2) pa_nil)))))))))))), ?_⟩
  -- targets
  refine ⟨.ref t, rfl, t, rfl, ⟨_, hT⟩, fun D1 n1 => ?_⟩
  refine lcTP (fun bt => V.int bt.2) (by omega) n1 hT pa (fun u v => rfl) (fun bt H Q _ hs q => ⟨.int bt.2, rfl, q _ (Same.refl _)⟩) fun H1 s1 hD1 => ?_
  have hT1 := same_tup s1 hT
  have pa1 := pa.stay (.of_same s1)
  have hD1 : H1 D1 = some (.lst ((tl.map (·.2)).map V.int)) := by
    rw [hD1, List.map_map]
    rfl
  -- sizes
  refine ⟨.int m, rfl, .ref t, rfl, t, rfl, ⟨_, hT1⟩, fun D2 n2 => ?_⟩
  refine lcTP (fun bt => V.int bt.1) (by omega) n2 hT1 pa1 (fun u v => rfl) (fun bt H Q _ hs q => ⟨.int bt.1, rfl, q _ (Same.refl _)⟩) fun H2 s2 hD2 => ?_
  have hD2 : H2 D2 = some (.lst ((tl.map (·.1)).map V.int)) := by
    rw [hD2, List.map_map]
    rfl
  refine ⟨m, D2, tl.map (·.1), rfl, SqL.of hD2, fun e => hne (List.map_eq_nil_iff.mp e), by rw [List.length_map]; omega, fun D3 H3 s3 hD3 => ?_⟩
  have hD13 := s3 _ _ (s2 _ _ hD1)
  -- the greatest
  refine ⟨.ref D1, rfl, D1, rfl, ⟨_, SqL.of hD13⟩, fun D4 n4 => ?_⟩
  refine lcL (xs := (tl.map (·.2)).map V.int) (fun _ => true) (fun i => V.int (cnt m tl ((tl.map (·.2)).getD i 0) l)) (by rw [List.length_map, List.length_map]; omega) n4 (SqL.of hD13) (fun v => rfl) (fun i x H Q _ hs q => q H (Same.refl _)) ?_ ?_
  · intro i x H4 Q4 hx _ hs q4
    obtain ⟨e, _, _⟩ := int_item hx
    subst e
    refine ⟨.int m, rfl, .ref D1, rfl, .ref D3, rfl, .int ((tl.map (·.2)).getD i 0), rfl, .int l, rfl, m, _, l, D1, D3, tl.map (·.2), stepsOf m (tl.map (·.1)), rfl, hm, SqL.of (hs _ _ hD13), SqL.of (hs _ _ hD3), by rw [List.length_map]; omega, fun H5 s5 => ?_⟩
    rw [psum_cnt (fun t => inArc m ((tl.map (·.2)).getD i 0) l t) it]
    exact q4 H5 s5
  · intro H4 s4 hD4
    rw [ffalse, List.length_map, range_getD (fun z => V.int (cnt m tl z l))] at hD4
    have hD4 : H4 D4 = some (.lst ((tl.map fun bt => cnt m tl bt.2 l).map V.int)) := by
      rw [hD4, List.map_map, List.map_map]
      rfl
    exact q D4 H4 hD4 (((s1.trans s2).trans s3).trans s4)
abbrev s_tool_width : Stmt := topS 4
abbrev N_tool_width : List Str := ["m", "tool", "length"]
theorem sc_tool_width : FnScope N_tool_width ["m", "tool", "length"] (defScope s_tool_width) :=
  ⟨rfl, rfl, rfl, by decide +kernel, rfl, by decide +kernel, by decide +kernel⟩

theorem ok_twidth {f : Addr} {fd : FuncData} (F : Fun K "tool_width" "tool_width" s_tool_width f fd) (T : Bi mg)
    (h_places_sent : Has P w K mg base 3 "places_sent" ["m", "tool", "length"] spSents) :
    FnOk P w K mg base CX0 4 f fd ["m", "tool", "length"] spTWidth := by
  refine F.ok sc_tool_width (fun vs H Q E h => ?_) (fun cdv A outer s H vs Q E hr h => ?_)
  · obtain ⟨m, l, t, tl, e, _⟩ := h
    subst e
    rfl
  obtain ⟨m, l, t, tl, e, hm, at0, it, q⟩ := h
  subst e
  refine ⟨_, (pss_one (ps_ret (pe_callB (kmax K rfl) (by rfl) T.max (by decide +kernel) (pa_cons (pe_callH h_places_sent hr (by decide) (by rfl) (pa_cons (pv 0) (pa_cons (pv 1) (pa_cons (pv 2) pa_nil)))) pa_nil)))), ?_⟩
  refine ⟨.int m, rfl, .ref t, rfl, .int l, rfl, m, l, t, tl, rfl, hm, at0, it, fun D4 H4 hD4 s4 => ?_⟩
  refine ⟨D4, _, rfl, SqL.of hD4, ?_, fun v hv hmax => ?_⟩
  · rw [List.length_map]
    have := it.len1
    omega
  · refine q v H4 ?_ ?_ s4
    · rw [List.mem_map] at hv
      obtain ⟨bt, hb, e⟩ := hv
      exact ⟨bt, hb, e⟩
    · intro bt hb
      exact hmax _ (List.mem_map.mpr ⟨bt, hb, rfl⟩)
abbrev s_width_of : Stmt := topS 3
abbrev N_width_of : List Str := ["m", "tools", "length", "tool"]
theorem sc_width_of : FnScope N_width_of ["m", "tools", "length"] (defScope s_width_of) :=
  ⟨rfl, rfl, rfl, by decide +kernel, rfl, by decide +kernel, by decide +kernel⟩

theorem ok_width {f : Addr} {fd : FuncData} (F : Fun K "width_of" "width_of" s_width_of f fd) (T : Bi mg)
    (h_tool_width : Has P w K mg base 4 "tool_width" ["m", "tool", "length"] spTWidth) :
    FnOk P w K mg base CX0 5 f fd ["m", "tools", "length"] spWidth := by
  refine F.ok sc_width_of (fun vs H Q E h => ?_) (fun cdv A outer s H vs Q E hr h => ?_)
  · obtain ⟨m, l, t, tls, e, _⟩ := h
    subst e
    rfl
  obtain ⟨m, l, t, tls, e, hm, hlm, ⟨as, ht, pa⟩, hne, hl, its, q⟩ := h
  subst e
  have hla : as.length = tls.length := Paired.length pa
  refine ⟨_, (pss_one (ps_ret (pe_callB (kmax K rfl) (by rfl) T.max (by decide +kernel) (pa_cons (pe_lc (own := [("tool", 3)]) rfl sc_width_of.nd (kitup K (pv 1)) (blkOk_by (own := [("tool", 3)]) (N := N_width_of) (sc := defScope s_width_of) (by decide +kernel))
    (fun _ _ _ _ _ => (pg_name (i := 3) sc_width_of.nd rfl (.inl rfl))) (fun _ _ _ _ _ => pts_nil)
    (fun _ _ _ _ _ => (pe_callH h_tool_width hr (by decide) (by rfl) (pa_cons (pv 0) (pa_cons (pv 3) (pa_cons (pv 2) pa_nil)))))) pa_nil)))), ?_⟩
  refine ⟨.ref t, rfl, t, rfl, ⟨_, SqT.of ht⟩, fun D nD => ?_⟩
  refine lc_tup (K := K) (a := t) (xs := as.map V.ref) (fun i H' => ∃ ws : List Int, Same H H' ∧ H' D = some (.lst (ws.map V.int)) ∧
    Paired (fun v tl => (∃ bt ∈ tl, cnt m tl bt.2 l = v) ∧ ∀ bt ∈ tl, cnt m tl bt.2 l ≤ v) ws (tls.take i)) ?_ ?_ ?_ ?_
  · exact ⟨[], same_upd nD, upd_same, .nil⟩
  · intro i H' _ h
    obtain ⟨ws, hs, _⟩ := h
    exact same_tup hs (SqT.of ht)
  · intro i x H' hi h
    obtain ⟨ws, hs, hD, hw⟩ := h
    obtain ⟨p, tl, e0, e1, e2⟩ := ToolsAt.get (K := K) pa hi
    subst e0
    have mem := List.mem_of_getElem? e1
    refine ⟨rfl, .int m, rfl, .ref p, rfl, .int l, rfl, m, l, p, tl, rfl, hm, e2.stay (.of_same hs), its tl mem, fun v H2 g1 g2 s2 => ⟨ws.map V.int, s2 _ _ hD, ?_, ws ++ [v], ?_, ?_, ?_⟩⟩
    · rw [List.length_map]
      have l1 := Paired.length hw
      rw [List.length_take] at l1
      have : ws.length ≤ tls.length := by
        rw [l1]
        exact Nat.min_le_right _ _
      exact small1000 (by omega)
    · intro z o e
      rw [upd_ne (ne_of_none e nD)]
      exact s2 _ _ (hs _ _ e)
    · rw [upd_same, List.map_append]
      rfl
    · rw [List.take_add_one, e1]
      exact Paired.snoc hw ⟨g1, g2⟩
  · intro H' h
    obtain ⟨ws, hs, hD, hw⟩ := h
    rw [List.length_map, hla, List.take_of_length_le (Nat.le_refl _)] at hw
    have lw := Paired.length hw
    refine ⟨D, ws, rfl, SqL.of hD, ?_, fun v hv hmax => ?_⟩
    · rw [lw]
      exact List.length_pos_iff.mpr hne
    · refine q v H' (width_of_targets hm hlm its ?_ ?_) hs
      · obtain ⟨i, hi, ei⟩ := List.getElem_of_mem hv
        obtain ⟨tl, e1, e2⟩ := Paired.at hw (i := i) (x := v) (by rw [List.getElem?_eq_getElem hi, ei])
        exact ⟨tl, List.mem_of_getElem? e1, e2.1⟩
      · intro tl htl bt hbt
        obtain ⟨v', hv', _, h2⟩ := Paired.left hw tl htl
        have := hmax v' hv'
        have := h2 bt hbt
        omega
abbrev s__law_tools : Stmt := topS 14
abbrev N__law_tools : List Str := ["_law_deck_here", "_law_m", "_law_k"]
theorem sc__law_tools : FnScope N__law_tools ["_law_deck_here", "_law_m"] (defScope s__law_tools) :=
  ⟨rfl, rfl, rfl, by decide +kernel, rfl, by decide +kernel, by decide +kernel⟩

theorem ok_tools {f : Addr} {fd : FuncData} (F : Fun K "_law_tools" "_law_tools" s__law_tools f fd) (T : Bi mg)
    (h__law_draw : Has P w K mg base 1 "_law_draw" ["_law_deck_here", "_law_limit"] spDraw)
    (h__law_tool : Has P w K mg base 3 "_law_tool" ["_law_deck_here", "_law_m"] spTool) :
    FnOk P w K mg base CX0 4 f fd ["_law_deck_here", "_law_m"] spTools := by
  refine F.ok sc__law_tools (fun vs H Q E h => ?_) (fun cdv A outer s H vs Q E hr h => ?_)
  · obtain ⟨a, c, k, m, e, _⟩ := h
    subst e
    rfl
  obtain ⟨a, c, k, m, e, dk, hk, hm1, hm2, q⟩ := h
  subst e
  refine ⟨_, (pss_one (ps_ret (pe_callTy call_tuple_of (by rfl) T.tuple (by decide +kernel) (pa_cons (pe_lc (own := [("_law_k", 2)]) rfl sc__law_tools.nd (pi_range1 (by rfl) T.range (pa_cons (pe_op op_add pe_int (pe_callH h__law_draw hr (by decide) (by rfl) (pa_cons (pv 0) (pa_cons pe_int pa_nil)))) pa_nil)) (blkOk_by (own := [("_law_k", 2)]) (N := N__law_tools) (sc := defScope s__law_tools) (by decide +kernel))
    (fun _ _ _ _ _ => (pg_name (i := 2) sc__law_tools.nd rfl (.inl rfl))) (fun _ _ _ _ _ => pts_nil)
    (fun _ _ _ _ _ => (pe_callH h__law_tool hr (by decide) (by rfl) (pa_cons (pv 0) (pa_cons (pv 1) pa_nil))))) pa_nil)))), ?_⟩
  refine ⟨.ref a, rfl, a, c, k, 4, rfl, dk, by omega, by decide, by decide, fun v H1 v0 v1 dk1 kp1 => ⟨1, v, rfl, rfl, 1 + v, rfl, by omega, by omega, fun D nD => ?_⟩⟩
  obtain ⟨nDa, nDc⟩ := dk1.nea nD
  have nDH := keep_none kp1 dk1 nD
  refine lc_range (lo := 0) (n := (1 + v).toNat) (fun i H' => ∃ (as : List Addr) (tls : List (List (Int × Int))), Deck H' a c (k + 1 + 30 * i) ∧ Keep a c H H' ∧ H' D = some (.lst (as.map V.ref)) ∧
    Paired (fun p tl => ToolAt H' p tl) as tls ∧ tls.length = i ∧ ∀ tl ∈ tls, IsTool m tl) ?_ ?_ ?_
  · exact ⟨[], [], (dk1.new nD).mono (by omega), kp1.trans (Keep.upd_new nD), upd_same, .nil, rfl, fun tl h => (List.not_mem_nil h).elim⟩
  · intro i H' hi h
    obtain ⟨as, tls, dk', kp', hD', pa', hl', its'⟩ := h
    refine ⟨rfl, .ref a, rfl, .int m, rfl, a, c, _, m, rfl, dk', by omega, hm1, hm2, fun t tl H2 it at_ dk2 kp2 => ⟨as.map V.ref, kp2 _ _ nDa nDc hD', ?_, as ++ [t], tls ++ [tl], ?_, ?_, ?_, ?_, ?_, ?_⟩⟩
    · rw [List.length_map, Paired.length pa', hl']
      exact small1000 (by omega)
    · obtain ⟨ns, j, d1, d2, d3, d4, d5, d6⟩ := dk2
      refine ⟨ns, j, d1, ?_, ?_, d4, d5, by omega⟩
      · rw [upd_ne nDa.symm]
        exact d2
      · rw [upd_ne nDc.symm]
        exact d3
    · intro b o x1 x2 x3
      rw [upd_ne (ne_of_none x3 nDH)]
      exact kp2 b o x1 x2 (kp' b o x1 x2 x3)
    · rw [upd_same, List.map_append]
      rfl
    · have st := stay_list (ws := as.map V.ref ++ [.ref t]) (kp2 _ _ nDa nDc hD')
      exact Paired.snoc (Paired.mono (fun _ _ e => (e.stay (kp2.stay dk')).stay st) pa') (at_.stay st)
    · rw [List.length_append, hl']
      rfl
    · intro z hz
      rcases List.mem_append.mp hz with y | y
      · exact its' z y
      · rw [List.mem_singleton.mp y]
        exact it
  · intro H' h
    obtain ⟨as, tls, dk', kp', hD', pa', hl', its'⟩ := h
    refine ⟨D, _, rfl, .inl ⟨SqL.of hD', fun T nT => ?_⟩⟩
    have sT := same_upd (o := .tup (as.map V.ref)) nT
    refine q T tls _ (fun e => ?_) (by omega) its' ⟨as, upd_same, Paired.mono (fun _ _ e => e.stay (.of_same sT)) pa'⟩ ((dk'.new nT).mono (by omega)) (kp'.trans (Keep.upd_new nT))
    rw [e, List.length_nil] at hl'
    omega
abbrev s__law_width : Stmt := topS 15
abbrev N__law_width : List Str := ["_law_m", "_law_tools_here", "_law_length", "_law_found", "_law_tool_here", "_law_targets", "_law_begin", "_law_place", "_law_target_here"]
theorem sc__law_width : FnScope N__law_width ["_law_m", "_law_tools_here", "_law_length"] (defScope s__law_width) :=
  ⟨rfl, rfl, rfl, by decide +kernel, rfl, by decide +kernel, by decide +kernel⟩

theorem ok_lwidth {f : Addr} {fd : FuncData} (F : Fun K "_law_width" "_law_width" s__law_width f fd) (T : Bi mg)
    (h__law_target : Has P w K mg base 1 "_law_target" ["_law_m", "_law_tool_here", "_law_place"] spLTarget) :
    FnOk P w K mg base CX0 2 f fd ["_law_m", "_law_tools_here", "_law_length"] spLWidth := by
  refine F.ok sc__law_width (fun vs H Q E h => ?_) (fun cdv A outer s H vs Q E hr h => ?_)
  · obtain ⟨m, l, t, tls, e, _⟩ := h
    subst e
    rfl
  obtain ⟨m, l, t, tls, e, hm1, hm2, hlm, ⟨as, ht, pa⟩, hne, hl, its, q⟩ := h
  subst e
  have hla : as.length = tls.length := Paired.length pa
  refine ⟨_, (pss_cons (ps_set (i := 3) sc__law_width.nd rfl (.inl rfl) pe_int)
  (pss_cons (ps_for PassesOwn.never rfl (kitup K (pv 1)) (pg_name (i := 4) sc__law_width.nd rfl (.inr rfl))
  (C8.pss_cut (ps_setLc (i := 5) (own := [("_law_place", 7)]) rfl sc__law_width.nd rfl rfl (sw_true rfl rfl rfl (by decide +kernel)) (pi_range1 (by rfl) T.range (pa_cons (pv 0) pa_nil)) (blkOk_by (own := [("_law_place", 7)]) (N := N__law_width) (sc := defScope s__law_width) (by decide +kernel))
    (fun _ _ _ _ _ => (pg_name (i := 7) sc__law_width.nd rfl (.inl rfl))) (fun _ _ _ _ _ => pts_nil)
    (fun _ _ _ _ _ => (pe_callH h__law_target hr (by decide) (by rfl) (pa_cons (pv 0) (pa_cons (pv 4) (pa_cons (pv 7) pa_nil))))))
  (pss_one (ps_for PassesOwn.never rfl (pi_range1 (by rfl) T.range (pa_cons (pv 0) pa_nil)) (pg_name (i := 6) sc__law_width.nd rfl (.inr rfl))
  (pss_one (ps_set (i := 3) sc__law_width.nd rfl (.inl rfl) (pe_callB (call_max2 rfl) (by rfl) T.max (by decide +kernel) (pa_cons (pv 3) (pa_cons (pe_callB (klen K) (by rfl) T.len (by decide +kernel) (pa_cons (pe_lc (own := [("_law_target_here", 8)]) rfl sc__law_width.nd (kilist K (pv 5)) (blkOk_by (own := [("_law_target_here", 8)]) (N := N__law_width) (sc := defScope s__law_width) (by decide +kernel))
    (fun _ _ _ _ _ => (pg_name (i := 8) sc__law_width.nd rfl (.inl rfl))) (fun _ _ _ _ _ => (pts_one (pt_cmpR op_lt (pe_op op_mod (pe_op op_sub (pv 8) (pv 6)) (pv 0)) (pv 2) (nomark _))))
    (fun _ _ _ _ _ => (pv 8))) pa_nil)) pa_nil)))))))))
  (pss_one (ps_ret (pv 3))))), ?_⟩
  refine ⟨.ref t, rfl, t, rfl, ⟨_, SqT.of ht⟩, ?_⟩
  refine for_tup (K := K) (a := t) (xs := as.map V.ref) (fun i σ' H' => ∃ (v : Int) (y4 y5 y6 y7 y8 : Option V), σ' = [some (.int m), some (.ref t), some (.int l), some (.int v), y4, y5, y6, y7, y8] ∧ Same H H' ∧ 0 ≤ v ∧
    (v = 0 ∨ ∃ tl ∈ tls, ∃ b, 0 ≤ b ∧ b < m ∧ cnt m tl b l = v) ∧ ∀ tl ∈ tls.take i, ∀ b, 0 ≤ b → b < m → cnt m tl b l ≤ v) ?_ ?_ ?_ ?_
  · refine ⟨0, none, none, none, none, none, rfl, Same.refl _, by decide, .inl rfl, fun tl h => ?_⟩
    rw [List.take_zero] at h
    exact (List.not_mem_nil h).elim
  · intro i σ' H' _ h
    obtain ⟨v, y4, y5, y6, y7, y8, _, hs, _⟩ := h
    exact same_tup hs (SqT.of ht)
  · intro i x σ' H' hi h
    obtain ⟨v, y4, y5, y6, y7, y8, e, hs, v0, vg, va⟩ := h
    subst e
    obtain ⟨p, tl, e0, e1, e2⟩ := ToolsAt.get (K := K) pa hi
    subst e0
    have mem := List.mem_of_getElem? e1
    have it := its tl mem
    have at1 := e2.stay (.of_same hs)
    refine ⟨fun σ' H2 => ∃ (D : Addr), σ' = [some (.int m), some (.ref t), some (.int l), some (.int v), some (.ref p), some (.ref D), y6, y7, y8] ∧ Same H' H2 ∧ H2 D = some (.lst (((upto m).map (tgt tl)).map V.int)), ?_, ?_⟩
    · refine ⟨.int m, rfl, m, rfl, by omega, by omega, fun D nD => ?_⟩
      refine lcR (fun _ => true) (fun i => V.int (tgt tl (0 + (i : Nat)))) (by omega) nD (fun v => rfl) (fun i H Q hi hs q => q H (Same.refl _)) ?_ ?_
      · intro i H Q hi _ hs q
        exact ⟨.int m, rfl, .ref p, rfl, .int (0 + (i : Nat)), rfl, m, p, tl, 0 + (i : Nat), rfl, at1.stay (.of_same hs), it, by omega, by omega, fun H' s' => q H' s'⟩
      · intro H2 s2 hD
        rw [ffalse, range_ints (tgt tl)] at hD
        exact ⟨D, rfl, s2, hD⟩
    intro σ2 H2 hM
    obtain ⟨D, e, s2, hD⟩ := hM
    subst e
    refine ⟨.int m, rfl, m, rfl, by omega, by omega, ?_⟩
    refine for_range (lo := 0) (n := m.toNat) (fun j σ' H3 => ∃ (v : Int) (y6 y7 y8 : Option V), σ' = [some (.int m), some (.ref t), some (.int l), some (.int v), some (.ref p), some (.ref D), y6, y7, y8] ∧ Same H2 H3 ∧ 0 ≤ v ∧
      (v = 0 ∨ ∃ tl ∈ tls, ∃ b, 0 ≤ b ∧ b < m ∧ cnt m tl b l = v) ∧ (∀ tl ∈ tls.take i, ∀ b, 0 ≤ b → b < m → cnt m tl b l ≤ v) ∧ ∀ b : Int, 0 ≤ b → b < ((j : Nat) : Int) → cnt m tl b l ≤ v) ?_ ?_ ?_
    · exact ⟨v, y6, y7, y8, rfl, Same.refl _, v0, vg, va, fun b b0 b1 => absurd b1 (by omega)⟩
    · intro j σ' H3 hj h
      obtain ⟨u, y6, y7, y8, e, s3, u0, ug, ua, ub⟩ := h
      subst e
      refine ⟨.int u, rfl, .ref D, rfl, D, rfl, ⟨_, SqL.of (s3 _ _ hD)⟩, fun D2 nD2 => ?_⟩
      refine lcL (xs := ((upto m).map (tgt tl)).map V.int) (fun k => inArc m (0 + (j : Nat)) l (((upto m).map (tgt tl)).getD k 0)) (fun k => V.int (((upto m).map (tgt tl)).getD k 0)) (by rw [List.length_map, List.length_map, upto_len]; omega) nD2 (SqL.of (s3 _ _ hD)) (fun v => rfl) ?_ ?_ ?_
      · intro k x H4 Q4 hx hs4 q4
        obtain ⟨e, _, _⟩ := int_item hx
        subst e
        exact ⟨.int _, rfl, .int (0 + (j : Nat)), rfl, _, _, rfl, rfl, .int m, rfl, _, m, rfl, rfl, (by omega : 0 < m), .int l, rfl, _, l, rfl, rfl, _, rfl, q4 _ (Same.refl _)⟩
      · intro k x H4 Q4 hx _ hs4 q4
        obtain ⟨e, _, _⟩ := int_item hx
        subst e
        exact ⟨_, rfl, q4 _ (Same.refl _)⟩
      · intro H4 s4 hD2
        rw [List.length_map] at hD2
        have ec : (((List.range ((upto m).map (tgt tl)).length).filter fun k => inArc m (0 + (j : Nat)) l (((upto m).map (tgt tl)).getD k 0)).map fun k => V.int (((upto m).map (tgt tl)).getD k 0)).length = (brought m tl (j : Nat) l).length := by
          rw [List.length_map]
          have e1 := range_getD (fun z => z) ((upto m).map (tgt tl))
          rw [List.map_id'] at e1
          have e2 : ((List.range ((upto m).map (tgt tl)).length).filter fun k => inArc m (0 + (j : Nat)) l (((upto m).map (tgt tl)).getD k 0)).length = (((upto m).map (tgt tl)).filter fun z => inArc m (0 + (j : Nat)) l z).length := by
            conv => rhs; rw [← e1, List.filter_map, List.length_map]
            rfl
          rw [e2, List.filter_map, List.length_map, Int.zero_add]
          rfl
        refine ⟨D2, _, rfl, .inl (SqL.of hD2), _, _, rfl, ?_⟩
        rw [ec]
        have ecn : ((brought m tl (j : Nat) l).length : Int) = cnt m tl (j : Nat) l := rfl
        rw [ecn]
        refine ⟨if cnt m tl (j : Nat) l > u then cnt m tl (j : Nat) l else u, _, _, _, rfl, s3.trans s4, ?_, ?_, ?_, ?_⟩
        · split <;> omega
        · split
          · exact .inr ⟨tl, mem, (j : Nat), by omega, by omega, rfl⟩
          · exact ug
        · intro z hz b b0 b1
          have := ua z hz b b0 b1
          split <;> omega
        · intro b b0 b1
          by_cases hb : b = (j : Nat)
          · subst hb
            split <;> omega
          · have := ub b b0 (by omega)
            split <;> omega
    · intro σ' H3 h
      obtain ⟨u, y6, y7, y8, e, s3, u0, ug, ua, ub⟩ := h
      subst e
      refine ⟨u, _, _, _, _, _, rfl, (hs.trans s2).trans s3, u0, ug, fun z hz b b0 b1 => ?_⟩
      rw [List.take_add_one, e1] at hz
      rcases List.mem_append.mp hz with y | y
      · exact ua z y b b0 b1
      · have ez : z = tl := List.mem_singleton.mp y
        subst ez
        exact ub b b0 (by omega)
  · intro σ' H' h
    obtain ⟨v, y4, y5, y6, y7, y8, e, hs, v0, vg, va⟩ := h
    subst e
    rw [List.length_map, hla, List.take_of_length_le (Nat.le_refl _)] at va
    refine ⟨.int v, rfl, q v H' ⟨?_, va⟩ hs⟩
    rcases vg with e | h
    · obtain ⟨tl, htl⟩ := List.exists_mem_of_ne_nil tls hne
      refine ⟨tl, htl, 0, by decide, by omega, ?_⟩
      have h1 := va tl htl 0 (by decide) (by omega)
      have h2 : 0 ≤ cnt m tl 0 l := Int.natCast_nonneg _
      omega
    · exact h

end
def spLaw (K : PySem.W.Frag) : Sp := fun vs H Q _ => ∃ (s : Addr) (ns : List Int), vs = [.ref s] ∧ SqL K H s (ns.map V.int) ∧ ns.length ≤ 63 ∧ ∀ H', Q (.bl true) H'

section
open Classical
variable {P : Program} {w : World} {K : PySem.W.Frag} {mg : Str → Option Value} {base : Heap}

abbrev s_law : Stmt := topS 16
abbrev N_law : List Str := ["_law_script", "_law_deck_here", "_law_turn", "_law_m", "_law_tools_here", "_law_lengths", "_law_before", "_law_length", "_law_due", "_law_found", "_law_again"]
theorem sc_law : FnScope N_law ["_law_script"] (defScope s_law) :=
  ⟨rfl, rfl, rfl, by decide +kernel, rfl, by decide +kernel, by decide +kernel⟩

theorem ok_law {f : Addr} {fd : FuncData} (F : Fun K "law" "law" s_law f fd) (T : Bi mg)
    (h__law_deck : Has P w K mg base 1 "_law_deck" ["_law_script"] (spDeck K))
    (h__law_draw : Has P w K mg base 1 "_law_draw" ["_law_deck_here", "_law_limit"] spDraw)
    (h__law_tools : Has P w K mg base 4 "_law_tools" ["_law_deck_here", "_law_m"] spTools)
    (h__law_width : Has P w K mg base 2 "_law_width" ["_law_m", "_law_tools_here", "_law_length"] spLWidth)
    (h_width_of : Has P w K mg base 5 "width_of" ["m", "tools", "length"] spWidth)
    (h__law_same : HasG P w K mg base 1 "_law_same" ["_law_value", "_law_due"] (spSame K)) :
    FnG P w K mg base 6 f fd ["_law_script"] (spLaw K) := by
  refine fung_ok F sc_law (fun vs H Q E h => ?_) (fun cdv A outer s H vs Q E hgd hr h => ?_)
  · obtain ⟨x, ns, e, _⟩ := h
    subst e
    rfl
  obtain ⟨x, ns, e, hS, hl, q⟩ := h
  subst e
  refine ⟨_, (pss_cons (ps_set (i := 1) sc_law.nd rfl (.inl rfl) (pe_callH h__law_deck hr (by decide) (by rfl) (pa_cons (pv 0) pa_nil)))
  (pss_cons (ps_for PassesOwn.never rfl (pi_range1 (by rfl) T.range (pa_cons pe_int pa_nil)) (pg_name (i := 2) sc_law.nd rfl (.inl rfl))
  (C8.pss_cut (ps_set (i := 3) sc_law.nd rfl (.inr rfl) (pe_op op_add pe_int (pe_callH h__law_draw hr (by decide) (by rfl) (pa_cons (pv 1) (pa_cons (pe_ix (kixL K) (pe_lst (pa_cons pe_int (pa_cons pe_int (pa_cons pe_int pa_nil)))) (pe_op op_mod (pv 2) pe_int) (fun _ _ => rfl)) pa_nil)))))
  (C8.pss_cut (ps_set (i := 4) sc_law.nd rfl (.inr rfl) (pe_callH h__law_tools hr (by decide) (by rfl) (pa_cons (pv 1) (pa_cons (pv 3) pa_nil))))
  (C8.pss_cut (ps_par (i := 5) (j := 6) (by rfl) sc_law.nd rfl rfl (by decide) rfl rfl (pa_cons (pe_lst (pa_cons pe_int (pa_cons (pv 3) (pa_cons (pe_callB (call_max2 rfl) (by rfl) T.max (by decide +kernel) (pa_cons pe_int (pa_cons (pe_op op_sub (pv 3) pe_int) pa_nil))) (pa_cons (pe_op op_add pe_int (pe_callH h__law_draw hr (by decide) (by rfl) (pa_cons (pv 1) (pa_cons (pv 3) pa_nil)))) (pa_cons (pe_op op_add pe_int (pe_callH h__law_draw hr (by decide) (by rfl) (pa_cons (pv 1) (pa_cons (pv 3) pa_nil)))) pa_nil)))))) (pa_cons (pe_callB (krepr K hgd hr.units) (by rfl) T.repr (by decide +kernel) (pa_cons (pv 4) pa_nil)) pa_nil)) (by rfl))
  (C8.pss_cut (ps_if (pt_cmpR op_lt (pv 3) pe_int (nomark _))
  (pss_one (ps_set (i := 5) sc_law.nd rfl (.inl rfl) (pe_listRg (by rfl) (by rfl) T.list (prg_2 (by rfl) T.range pe_int (pe_op op_add (pv 3) pe_int)))))
  pss_nil)
  (pss_one (ps_for PassesOwn.never rfl (kilist K (pv 5)) (pg_name (i := 7) sc_law.nd rfl (.inr rfl))
  (C8.pss_cut (ps_set (i := 8) sc_law.nd rfl (.inl rfl) (pe_callH h__law_width hr (by decide) (by rfl) (pa_cons (pv 3) (pa_cons (pv 4) (pa_cons (pv 7) pa_nil)))))
  (C8.pss_cut (ps_setLc (i := 9) (own := [("_law_again", 10)]) rfl sc_law.nd rfl rfl (sw_true rfl rfl rfl (by decide +kernel)) (pi_range1 (by rfl) T.range (pa_cons pe_int pa_nil)) (blkOk_by (own := [("_law_again", 10)]) (N := N_law) (sc := defScope s_law) (by decide +kernel))
    (fun _ _ _ _ _ => (pg_name (i := 10) sc_law.nd rfl (.inl rfl))) (fun _ _ _ _ _ => pts_nil)
    (fun _ _ _ _ _ => (pe_callH h_width_of hr (by decide) (by rfl) (pa_cons (pv 3) (pa_cons (pv 4) (pa_cons (pv 7) pa_nil))))))
  (pss_one (ps_if (PW.pt (pw_or (pt_not (pt_val (pe_callHG h__law_same hgd hr (by decide) (by rfl) (pa_cons (pv 9) (pa_cons (pe_lst (pa_cons (pv 8) (pa_cons (pv 8) pa_nil))) pa_nil))))) (pw_or1 (pt_cmpR op_ne (pe_callB (krepr K hgd hr.units) (by rfl) T.repr (by decide +kernel) (pa_cons (pv 4) pa_nil)) (pv 6) (nomark _)))))
  (pss_one (ps_ret pe_bl))
  pss_nil)))))))))))
  (pss_one (ps_ret pe_bl)))), ?_⟩
  refine ⟨.ref x, rfl, x, ns, rfl, hS, hl, fun a c H1 dk1 sm1 na nc => ?_⟩
  refine ⟨6, rfl, by decide, by decide, ?_⟩
  refine for_range (lo := 0) (n := (6 : Int).toNat) (fun i σ' H' => ∃ y2 y3 y4 y5 y6 y7 y8 y9 y10, σ' = [some (.ref x), some (.ref a), y2, y3, y4, y5, y6, y7, y8, y9, y10] ∧ Deck H' a c (200 * i)) ?_ ?_ ?_
  · exact ⟨none, none, none, none, none, none, none, none, none, rfl, dk1.mono (by omega)⟩
  · intro i σ' H' hi h
    obtain ⟨y2, y3, y4, y5, y6, y7, y8, y9, y10, e, dk⟩ := h
    subst e
    have hi9 : i < 6 := hi
    -- m
    refine ⟨fun σ' H' => ∃ (m : Int), σ' = [some (.ref x), some (.ref a), some (.int (0 + (i : Nat))), some (.int m), y4, y5, y6, y7, y8, y9, y10] ∧ Deck H' a c (200 * i + 1) ∧ 1 ≤ m ∧ m ≤ 60, ?_, ?_⟩
    · obtain ⟨v, ev, hv⟩ := pick3 (K := K) (t := 0 + (i : Nat)) (by omega) 5 13 40
      refine ⟨.ref a, rfl, by show 3 ≤ sizeLine; decide, fun p np => ⟨.int (0 + (i : Nat)), rfl, _, 3, rfl, rfl, (by decide : (0 : Int) < 3), p, _, _, _, rfl, rfl, SqL.of upd_same, ev, ?_⟩⟩
      refine ⟨a, c, 200 * i, v, rfl, dk.new np, by omega, by omega, by omega, fun u H2 u0 u1 dk2 kp2 => ?_⟩
      exact ⟨1, u, rfl, rfl, _, rfl, dk2, by omega, by omega⟩
    intro σ2 H2 hM
    obtain ⟨m, e, dk2, hm1, hm2⟩ := hM
    subst e
    -- the tools
    refine ⟨fun σ' H' => ∃ (t : Addr) (tls : List (List (Int × Int))), σ' = [some (.ref x), some (.ref a), some (.int (0 + (i : Nat))), some (.int m), some (.ref t), y5, y6, y7, y8, y9, y10] ∧ Deck H' a c (200 * i + 131) ∧ tls ≠ [] ∧ tls.length ≤ 4 ∧ (∀ tl ∈ tls, IsTool m tl) ∧ ToolsAt H' t tls, ?_, ?_⟩
    · refine ⟨.ref a, rfl, .int m, rfl, a, c, 200 * i + 1, m, rfl, dk2, by omega, hm1, hm2, fun t tls H3 ne l4 its at_ dk3 kp3 => ?_⟩
      exact ⟨t, tls, rfl, dk3.mono (by omega), ne, l4, its, at_⟩
    intro σ3 H3 hM
    obtain ⟨t, tls, e, dk3, ne, l4, its, at3⟩ := hM
    subst e
    have tf : Shows (toolsD tls) := (tools_fine its hm2 l4).shows
    -- lengths, before
    refine ⟨fun σ' H' => ∃ (L : Addr) (ls : List Int), σ' = [some (.ref x), some (.ref a), some (.int (0 + (i : Nat))), some (.int m), some (.ref t), some (.ref L), some (.str (toolsD tls).shown), y7, y8, y9, y10] ∧ Deck H' a c (200 * i + 133) ∧ ToolsAt H' t tls ∧
      H' L = some (.lst (ls.map V.int)) ∧ ∀ l ∈ ls, 1 ≤ l ∧ l ≤ m, ?_, ?_⟩
    · refine ⟨.int m, rfl, .int m, rfl, m, 1, rfl, rfl, 1, m - 1, rfl, .ref a, rfl, .int m, rfl, a, c, _, m, rfl, dk3, by omega, hm1, by omega, fun v1 H4 v10 v11 dk4 kp4 => ⟨1, v1, rfl, rfl, ?_⟩⟩
      refine ⟨.ref a, rfl, .int m, rfl, a, c, _, m, rfl, dk4, by omega, hm1, by omega, fun v2 H5 v20 v21 dk5 kp5 => ⟨1, v2, rfl, rfl, by show 5 ≤ sizeLine; decide, fun L nL => ?_⟩⟩
      obtain ⟨ls, hls, hlb⟩ : ∃ ls : List Int, [V.int 1, V.int m, V.int (if m - 1 > 1 then m - 1 else 1), V.int (1 + v1), V.int (1 + v2)] = ls.map V.int ∧ ∀ l ∈ ls, 1 ≤ l ∧ l ≤ m := by
        refine ⟨[1, m, if m - 1 > 1 then m - 1 else 1, 1 + v1, 1 + v2], rfl, ?_⟩
        intro l hl
        simp only [List.mem_cons, List.not_mem_nil, or_false] at hl
        rcases hl with e | e | e | e | e
        · omega
        · omega
        · subst e
          split <;> omega
        · omega
        · omega
      rw [hls]
      have at5 := ((at3.stay (kp4.stay dk3)).stay (kp5.stay dk4)).stay (.of_same (same_upd (o := .lst (ls.map V.int)) nL))
      refine ⟨.ref t, rfl, t, _, rfl, at5.dp, tf.sh, tf.nd, tf.dp, tf.le, _, _, rfl, ?_⟩
      exact ⟨L, ls, rfl, (dk5.new nL).mono (by omega), at5, upd_same, hlb⟩
    intro σ4 H4 hM
    obtain ⟨L, ls, e, dk4, at4, hL4, hlb⟩ := hM
    subst e
    -- if m < 7
    refine ⟨fun σ' H' => ∃ (L : Addr) (ls : List Int), σ' = [some (.ref x), some (.ref a), some (.int (0 + (i : Nat))), some (.int m), some (.ref t), some (.ref L), some (.str (toolsD tls).shown), y7, y8, y9, y10] ∧ Deck H' a c (200 * i + 133) ∧ ToolsAt H' t tls ∧
      H' L = some (.lst (ls.map V.int)) ∧ ∀ l ∈ ls, 1 ≤ l ∧ l ≤ m, ?_, ?_⟩
    · refine ⟨.int m, rfl, m, 7, rfl, rfl, _, rfl, ?_⟩
      refine ite2 (fun _ => ?_) (fun _ => ?_)
      · refine ⟨.int m, rfl, m, 1, rfl, rfl, 1, m + 1, rfl, rfl, RgOk.of_le (by decide) (by omega) (by decide) (by omega), fun L2 nL2 => ?_⟩
        refine ⟨L2, (List.range (m + 1 - 1).toNat).map fun k => 1 + ((k : Nat) : Int), rfl, dk4.new nL2, at4.stay (.of_same (same_upd nL2)), ?_, ?_⟩
        · rw [upd_same]
          unfold rgV
          rw [List.map_map]
          rfl
        · intro l hl
          rw [List.mem_map] at hl
          obtain ⟨k, hk, e⟩ := hl
          rw [List.mem_range] at hk
          omega
      · exact ⟨L, ls, rfl, dk4, at4, hL4, hlb⟩
    intro σ5 H5 hM
    obtain ⟨L, ls, e, dk5, at5, hL5, hlb⟩ := hM
    subst e
    refine ⟨.ref L, rfl, L, rfl, ⟨_, SqL.of hL5⟩, ?_⟩
    refine for_list (K := K) (a := L) (xs := ls.map V.int) (fun j σ' H' => ∃ y7 y8 y9 y10, σ' = [some (.ref x), some (.ref a), some (.int (0 + (i : Nat))), some (.int m), some (.ref t), some (.ref L), some (.str (toolsD tls).shown), y7, y8, y9, y10] ∧
      Same H5 H') ?_ ?_ ?_ ?_
    · exact ⟨y7, y8, y9, y10, rfl, Same.refl _⟩
    · intro j σ' H' _ h
      obtain ⟨y7, y8, y9, y10, e, s5⟩ := h
      exact SqL.of (s5 _ _ hL5)
    · intro j xv σ' H6 hx h
      obtain ⟨y7, y8, y9, y10, e, s6⟩ := h
      subst e
      obtain ⟨e, _, hmem⟩ := int_item hx
      subst e
      have hl12 := hlb _ hmem
      generalize ls.getD j 0 = len at hl12
      have at6 := at5.stay (.of_same s6)
      -- due
      refine ⟨fun σ' H' => ∃ (v : Int), σ' = [some (.ref x), some (.ref a), some (.int (0 + (i : Nat))), some (.int m), some (.ref t), some (.ref L), some (.str (toolsD tls).shown), some (.int len), some (.int v), y9, y10] ∧ Same H6 H' ∧ IsWidth m tls len v, ?_, ?_⟩
      · refine ⟨.int m, rfl, .ref t, rfl, .int len, rfl, m, len, t, tls, rfl, hm1, hm2, hl12.2, at6, ne, by omega, its, fun v H7 hv s7 => ?_⟩
        exact ⟨v, rfl, s7, hv⟩
      intro σ7 H7 hM
      obtain ⟨v, e, s7, hv⟩ := hM
      subst e
      -- found
      refine ⟨fun σ' H' => ∃ (D : Addr), σ' = [some (.ref x), some (.ref a), some (.int (0 + (i : Nat))), some (.int m), some (.ref t), some (.ref L), some (.str (toolsD tls).shown), some (.int len), some (.int v), some (.ref D), y10] ∧ Same H7 H' ∧ H' D = some (.lst ([v, v].map V.int)), ?_, ?_⟩
      · refine ⟨2, rfl, by decide, by decide, fun D nD => ?_⟩
        refine lcR (fun _ => true) (fun _ => V.int v) (by decide) nD (fun v => rfl) (fun i H Q hi hs q => q H (Same.refl _)) ?_ ?_
        · intro k H Q hk _ hs q
          refine ⟨.int m, rfl, .ref t, rfl, .int len, rfl, m, len, t, tls, rfl, by omega, hl12.2, at6.stay (.of_same (s7.trans hs)), ne, by omega, its, fun v2 H8 hv2 s8 => ?_⟩
          rw [hv2.uniq hv]
          exact q H8 s8
        · intro H8 s8 hD
          exact ⟨D, rfl, s8, hD⟩
      intro σ8 H8 hM
      obtain ⟨D, e, s8, hD8⟩ := hM
      subst e
      have vr := hv.rng (by omega)
      have vsh : Shows (intsD [v, v]) := ints_shows (by show 2 ≤ 2000; decide) fun n hn => by
        have e : n = v := by
          rcases List.mem_cons.mp hn with z | z
          · exact z
          · exact List.mem_singleton.mp z
        rw [e]
        exact small_int (by omega)
      refine ⟨.ref D, rfl, .int v, rfl, .int v, rfl, by show 2 ≤ sizeLine; decide, fun W nW => ?_⟩
      have sW := same_upd (o := .lst [.int v, .int v]) nW
      refine ⟨D, W, intsD [v, v], rfl, .lst (SqL.of (sW _ _ hD8)) (dp_ints [v, v]), .lst (SqL.of upd_same) (dp_ints [v, v]), vsh, ?_⟩
      refine ⟨true, rfl, iteF ?_⟩
      have sA := ((s6.trans s7).trans s8).trans sW
      have at9 := at5.stay (.of_same sA)
      refine ⟨.ref t, rfl, t, _, rfl, at9.dp, tf.sh, tf.nd, tf.dp, tf.le, ?_⟩
      refine ⟨_, rfl, rfl, _, rfl, iteNS rfl ?_⟩
      exact ⟨_, _, _, _, rfl, sA⟩
    · intro σ' H' h
      obtain ⟨y7, y8, y9, y10, e, s5⟩ := h
      subst e
      exact ⟨_, _, _, _, _, _, _, _, _, rfl, (dk5.same s5).mono (by omega)⟩
  · intro σ' H' h
    exact q _

end
theorem has_mk {P : Program} {w : World} {K : PySem.W.Frag} {mg : Str → Option Value} {base : Heap} {k : Nat} {x : Str} {st : Stmt} {f : Addr} {fd : FuncData} {ps : List Str} {sp : Sp}
    (F : Fun K x x st f fd) (ok : FnOk P w K mg base CX0 k f fd ps sp) (hm : mg x = some (.ref f)) (hb : L2.Binds K fd ps []) : Has P w K mg base k x ps sp := ⟨f, fd, ok, hm, F.kp, hb⟩
theorem hasg_mk {P : Program} {w : World} {K : PySem.W.Frag} {mg : Str → Option Value} {base : Heap} {k : Nat} {x : Str} {st : Stmt} {f : Addr} {fd : FuncData} {ps : List Str} {sp : Sp}
    (F : Fun K x x st f fd) (ok : FnG P w K mg base k f fd ps sp) (hm : mg x = some (.ref f)) (hb : L2.Binds K fd ps []) : HasG P w K mg base k x ps sp := ⟨f, fd, ok, hm, F.kp, hb⟩
theorem all_mk {l : PySem.W.OpenLaw} {w : World} {K : PySem.W.Frag} {h : Heap} {mg : Str → Option Value} {fa : Addr} (X : K.In h) (G : h.Ns mainGlobals mg) (hfa : mg "law" = some (.ref fa))
    {f0 : Addr} {od0 an0 : Option Addr} {sl0 : Array (Option Value)} {oc0 kV0 dc0 pm0 cd0 ct0 : Value}
    (a0 : PySem.W.nsIn K mainGlobals "_law_deck" = some (some (.ref f0)))
    (l0 : K.lookup f0 = some ⟨oc0, od0, .func (PySem.W.fnOf "_law_deck" "_law_deck" (defArgs s__law_deck) (defBody s__law_deck) (defScope s__law_deck) .none kV0 dc0 pm0 an0 cd0 ct0), sl0⟩)
    (c0 : PySem.W.codeIn K cd0 "_law_deck" = true) (k0 : PySem.W.keepIn K (.ref f0) = true)
    {f1 : Addr} {od1 an1 : Option Addr} {sl1 : Array (Option Value)} {oc1 kV1 dc1 pm1 cd1 ct1 : Value}
    (a1 : PySem.W.nsIn K mainGlobals "_law_draw" = some (some (.ref f1)))
    (l1 : K.lookup f1 = some ⟨oc1, od1, .func (PySem.W.fnOf "_law_draw" "_law_draw" (defArgs s__law_draw) (defBody s__law_draw) (defScope s__law_draw) .none kV1 dc1 pm1 an1 cd1 ct1), sl1⟩)
    (c1 : PySem.W.codeIn K cd1 "_law_draw" = true) (k1 : PySem.W.keepIn K (.ref f1) = true)
    {f2 : Addr} {od2 an2 : Option Addr} {sl2 : Array (Option Value)} {oc2 kV2 dc2 pm2 cd2 ct2 : Value}
    (a2 : PySem.W.nsIn K mainGlobals "_law_distinct" = some (some (.ref f2)))
    (l2 : K.lookup f2 = some ⟨oc2, od2, .func (PySem.W.fnOf "_law_distinct" "_law_distinct" (defArgs s__law_distinct) (defBody s__law_distinct) (defScope s__law_distinct) .none kV2 dc2 pm2 an2 cd2 ct2), sl2⟩)
    (c2 : PySem.W.codeIn K cd2 "_law_distinct" = true) (k2 : PySem.W.keepIn K (.ref f2) = true)
    {f3 : Addr} {od3 an3 : Option Addr} {sl3 : Array (Option Value)} {oc3 kV3 dc3 pm3 cd3 ct3 : Value}
    (a3 : PySem.W.nsIn K mainGlobals "_law_tool" = some (some (.ref f3)))
    (l3 : K.lookup f3 = some ⟨oc3, od3, .func (PySem.W.fnOf "_law_tool" "_law_tool" (defArgs s__law_tool) (defBody s__law_tool) (defScope s__law_tool) .none kV3 dc3 pm3 an3 cd3 ct3), sl3⟩)
    (c3 : PySem.W.codeIn K cd3 "_law_tool" = true) (k3 : PySem.W.keepIn K (.ref f3) = true)
    {f4 : Addr} {od4 an4 : Option Addr} {sl4 : Array (Option Value)} {oc4 kV4 dc4 pm4 cd4 ct4 : Value}
    (a4 : PySem.W.nsIn K mainGlobals "_law_target" = some (some (.ref f4)))
    (l4 : K.lookup f4 = some ⟨oc4, od4, .func (PySem.W.fnOf "_law_target" "_law_target" (defArgs s__law_target) (defBody s__law_target) (defScope s__law_target) .none kV4 dc4 pm4 an4 cd4 ct4), sl4⟩)
    (c4 : PySem.W.codeIn K cd4 "_law_target" = true) (k4 : PySem.W.keepIn K (.ref f4) = true)
    {f5 : Addr} {od5 an5 : Option Addr} {sl5 : Array (Option Value)} {oc5 kV5 dc5 pm5 cd5 ct5 : Value}
    (a5 : PySem.W.nsIn K mainGlobals "_law_same" = some (some (.ref f5)))
    (l5 : K.lookup f5 = some ⟨oc5, od5, .func (PySem.W.fnOf "_law_same" "_law_same" (defArgs s__law_same) (defBody s__law_same) (defScope s__law_same) .none kV5 dc5 pm5 an5 cd5 ct5), sl5⟩)
    (c5 : PySem.W.codeIn K cd5 "_law_same" = true) (k5 : PySem.W.keepIn K (.ref f5) = true)
    {f6 : Addr} {od6 an6 : Option Addr} {sl6 : Array (Option Value)} {oc6 kV6 dc6 pm6 cd6 ct6 : Value}
    (a6 : PySem.W.nsIn K mainGlobals "is_in_arc" = some (some (.ref f6)))
    (l6 : K.lookup f6 = some ⟨oc6, od6, .func (PySem.W.fnOf "is_in_arc" "is_in_arc" (defArgs s_is_in_arc) (defBody s_is_in_arc) (defScope s_is_in_arc) .none kV6 dc6 pm6 an6 cd6 ct6), sl6⟩)
    (c6 : PySem.W.codeIn K cd6 "is_in_arc" = true) (k6 : PySem.W.keepIn K (.ref f6) = true)
    {f7 : Addr} {od7 an7 : Option Addr} {sl7 : Array (Option Value)} {oc7 kV7 dc7 pm7 cd7 ct7 : Value}
    (a7 : PySem.W.nsIn K mainGlobals "steps_between" = some (some (.ref f7)))
    (l7 : K.lookup f7 = some ⟨oc7, od7, .func (PySem.W.fnOf "steps_between" "steps_between" (defArgs s_steps_between) (defBody s_steps_between) (defScope s_steps_between) .none kV7 dc7 pm7 an7 cd7 ct7), sl7⟩)
    (c7 : PySem.W.codeIn K cd7 "steps_between" = true) (k7 : PySem.W.keepIn K (.ref f7) = true)
    {f8 : Addr} {od8 an8 : Option Addr} {sl8 : Array (Option Value)} {oc8 kV8 dc8 pm8 cd8 ct8 : Value}
    (a8 : PySem.W.nsIn K mainGlobals "places_from" = some (some (.ref f8)))
    (l8 : K.lookup f8 = some ⟨oc8, od8, .func (PySem.W.fnOf "places_from" "places_from" (defArgs s_places_from) (defBody s_places_from) (defScope s_places_from) .none kV8 dc8 pm8 an8 cd8 ct8), sl8⟩)
    (c8 : PySem.W.codeIn K cd8 "places_from" = true) (k8 : PySem.W.keepIn K (.ref f8) = true)
    {f9 : Addr} {od9 an9 : Option Addr} {sl9 : Array (Option Value)} {oc9 kV9 dc9 pm9 cd9 ct9 : Value}
    (a9 : PySem.W.nsIn K mainGlobals "places_sent" = some (some (.ref f9)))
    (l9 : K.lookup f9 = some ⟨oc9, od9, .func (PySem.W.fnOf "places_sent" "places_sent" (defArgs s_places_sent) (defBody s_places_sent) (defScope s_places_sent) .none kV9 dc9 pm9 an9 cd9 ct9), sl9⟩)
    (c9 : PySem.W.codeIn K cd9 "places_sent" = true) (k9 : PySem.W.keepIn K (.ref f9) = true)
    {f10 : Addr} {od10 an10 : Option Addr} {sl10 : Array (Option Value)} {oc10 kV10 dc10 pm10 cd10 ct10 : Value}
    (a10 : PySem.W.nsIn K mainGlobals "tool_width" = some (some (.ref f10)))
    (l10 : K.lookup f10 = some ⟨oc10, od10, .func (PySem.W.fnOf "tool_width" "tool_width" (defArgs s_tool_width) (defBody s_tool_width) (defScope s_tool_width) .none kV10 dc10 pm10 an10 cd10 ct10), sl10⟩)
    (c10 : PySem.W.codeIn K cd10 "tool_width" = true) (k10 : PySem.W.keepIn K (.ref f10) = true)
    {f11 : Addr} {od11 an11 : Option Addr} {sl11 : Array (Option Value)} {oc11 kV11 dc11 pm11 cd11 ct11 : Value}
    (a11 : PySem.W.nsIn K mainGlobals "width_of" = some (some (.ref f11)))
    (l11 : K.lookup f11 = some ⟨oc11, od11, .func (PySem.W.fnOf "width_of" "width_of" (defArgs s_width_of) (defBody s_width_of) (defScope s_width_of) .none kV11 dc11 pm11 an11 cd11 ct11), sl11⟩)
    (c11 : PySem.W.codeIn K cd11 "width_of" = true) (k11 : PySem.W.keepIn K (.ref f11) = true)
    {f12 : Addr} {od12 an12 : Option Addr} {sl12 : Array (Option Value)} {oc12 kV12 dc12 pm12 cd12 ct12 : Value}
    (a12 : PySem.W.nsIn K mainGlobals "_law_tools" = some (some (.ref f12)))
    (l12 : K.lookup f12 = some ⟨oc12, od12, .func (PySem.W.fnOf "_law_tools" "_law_tools" (defArgs s__law_tools) (defBody s__law_tools) (defScope s__law_tools) .none kV12 dc12 pm12 an12 cd12 ct12), sl12⟩)
    (c12 : PySem.W.codeIn K cd12 "_law_tools" = true) (k12 : PySem.W.keepIn K (.ref f12) = true)
    {f13 : Addr} {od13 an13 : Option Addr} {sl13 : Array (Option Value)} {oc13 kV13 dc13 pm13 cd13 ct13 : Value}
    (a13 : PySem.W.nsIn K mainGlobals "_law_width" = some (some (.ref f13)))
    (l13 : K.lookup f13 = some ⟨oc13, od13, .func (PySem.W.fnOf "_law_width" "_law_width" (defArgs s__law_width) (defBody s__law_width) (defScope s__law_width) .none kV13 dc13 pm13 an13 cd13 ct13), sl13⟩)
    (c13 : PySem.W.codeIn K cd13 "_law_width" = true) (k13 : PySem.W.keepIn K (.ref f13) = true)
    {f14 : Addr} {od14 an14 : Option Addr} {sl14 : Array (Option Value)} {oc14 kV14 dc14 pm14 cd14 ct14 : Value}
    (a14 : PySem.W.nsIn K mainGlobals "law" = some (some (.ref f14)))
    (l14 : K.lookup f14 = some ⟨oc14, od14, .func (PySem.W.fnOf "law" "law" (defArgs s_law) (defBody s_law) (defScope s_law) .none kV14 dc14 pm14 an14 cd14 ct14), sl14⟩)
    (c14 : PySem.W.codeIn K cd14 "law" = true) (k14 : PySem.W.keepIn K (.ref f14) = true)
    (z_len : PySem.W.nsIn K mainGlobals "len" = some none)
    (z_range : PySem.W.nsIn K mainGlobals "range" = some none)
    (z_abs : PySem.W.nsIn K mainGlobals "abs" = some none)
    (z_list : PySem.W.nsIn K mainGlobals "list" = some none)
    (z_sorted : PySem.W.nsIn K mainGlobals "sorted" = some none)
    (z_min : PySem.W.nsIn K mainGlobals "min" = some none)
    (z_max : PySem.W.nsIn K mainGlobals "max" = some none)
    (z_tuple : PySem.W.nsIn K mainGlobals "tuple" = some none)
    (z_dict : PySem.W.nsIn K mainGlobals "dict" = some none)
    (z_repr : PySem.W.nsIn K mainGlobals "repr" = some none)
    (z_set : PySem.W.nsIn K mainGlobals "set" = some none)
    (z_sum : PySem.W.nsIn K mainGlobals "sum" = some none)
    (z_isinstance : PySem.W.nsIn K mainGlobals "isinstance" = some none)
    (z_int : PySem.W.nsIn K mainGlobals "int" = some none)
    (z_bool : PySem.W.nsIn K mainGlobals "bool" = some none)
    (z_enumerate : PySem.W.nsIn K mainGlobals "enumerate" = some none)
    (z_zip : PySem.W.nsIn K mainGlobals "zip" = some none)
    (z_str : PySem.W.nsIn K mainGlobals "str" = some none)
    (z_type : PySem.W.nsIn K mainGlobals "type" = some none)
    (z_reversed : PySem.W.nsIn K mainGlobals "reversed" = some none)
    (z_any : PySem.W.nsIn K mainGlobals "any" = some none)
    (z_all : PySem.W.nsIn K mainGlobals "all" = some none)
    : ∃ fd : FuncData, (∀ (s : Shared) (v : Value), BindsTo s fd ⟨[v], []⟩ [("_law_script", v)]) ∧
      ∀ base : Heap, K.In base → base.Ns mainGlobals mg → (∃ o, base.get? sysModules = some o) → FnG l.prog w K mg base 6 fa fd ["_law_script"] (spLaw K) := by
  have e := hfa.symm.trans (PySem.W.mg_of X G a14)
  cases e
  have T : Bi mg := ⟨PySem.W.mg_none_of X G z_len, PySem.W.mg_none_of X G z_range, PySem.W.mg_none_of X G z_abs, PySem.W.mg_none_of X G z_list, PySem.W.mg_none_of X G z_sorted, PySem.W.mg_none_of X G z_min, PySem.W.mg_none_of X G z_max, PySem.W.mg_none_of X G z_tuple, PySem.W.mg_none_of X G z_dict, PySem.W.mg_none_of X G z_repr, PySem.W.mg_none_of X G z_set, PySem.W.mg_none_of X G z_sum, PySem.W.mg_none_of X G z_isinstance, PySem.W.mg_none_of X G z_int, PySem.W.mg_none_of X G z_bool, PySem.W.mg_none_of X G z_enumerate, PySem.W.mg_none_of X G z_zip, PySem.W.mg_none_of X G z_str, PySem.W.mg_none_of X G z_type, PySem.W.mg_none_of X G z_reversed, PySem.W.mg_none_of X G z_any, PySem.W.mg_none_of X G z_all⟩
  have F0 := fun_mk (st := s__law_deck) l0 c0 k0
  have b0 := F0.binds (ps := ["_law_script"]) fun _ _ _ _ _ _ us hl => match us, hl with | [_], _ => rfl
  have F1 := fun_mk (st := s__law_draw) l1 c1 k1
  have b1 := F1.binds (ps := ["_law_deck_here", "_law_limit"]) fun _ _ _ _ _ _ us hl => match us, hl with | [_, _], _ => rfl
  have F2 := fun_mk (st := s__law_distinct) l2 c2 k2
  have b2 := F2.binds (ps := ["_law_deck_here", "_law_m", "_law_many"]) fun _ _ _ _ _ _ us hl => match us, hl with | [_, _, _], _ => rfl
  have F3 := fun_mk (st := s__law_tool) l3 c3 k3
  have b3 := F3.binds (ps := ["_law_deck_here", "_law_m"]) fun _ _ _ _ _ _ us hl => match us, hl with | [_, _], _ => rfl
  have F4 := fun_mk (st := s__law_target) l4 c4 k4
  have b4 := F4.binds (ps := ["_law_m", "_law_tool_here", "_law_place"]) fun _ _ _ _ _ _ us hl => match us, hl with | [_, _, _], _ => rfl
  have F5 := fun_mk (st := s__law_same) l5 c5 k5
  have b5 := F5.binds (ps := ["_law_value", "_law_due"]) fun _ _ _ _ _ _ us hl => match us, hl with | [_, _], _ => rfl
  have F6 := fun_mk (st := s_is_in_arc) l6 c6 k6
  have b6 := F6.binds (ps := ["m", "begin", "length", "place"]) fun _ _ _ _ _ _ us hl => match us, hl with | [_, _, _, _], _ => rfl
  have F7 := fun_mk (st := s_steps_between) l7 c7 k7
  have b7 := F7.binds (ps := ["m", "places"]) fun _ _ _ _ _ _ us hl => match us, hl with | [_, _], _ => rfl
  have F8 := fun_mk (st := s_places_from) l8 c8 k8
  have b8 := F8.binds (ps := ["m", "targets", "sizes", "start", "length"]) fun _ _ _ _ _ _ us hl => match us, hl with | [_, _, _, _, _], _ => rfl
  have F9 := fun_mk (st := s_places_sent) l9 c9 k9
  have b9 := F9.binds (ps := ["m", "tool", "length"]) fun _ _ _ _ _ _ us hl => match us, hl with | [_, _, _], _ => rfl
  have F10 := fun_mk (st := s_tool_width) l10 c10 k10
  have b10 := F10.binds (ps := ["m", "tool", "length"]) fun _ _ _ _ _ _ us hl => match us, hl with | [_, _, _], _ => rfl
  have F11 := fun_mk (st := s_width_of) l11 c11 k11
  have b11 := F11.binds (ps := ["m", "tools", "length"]) fun _ _ _ _ _ _ us hl => match us, hl with | [_, _, _], _ => rfl
  have F12 := fun_mk (st := s__law_tools) l12 c12 k12
  have b12 := F12.binds (ps := ["_law_deck_here", "_law_m"]) fun _ _ _ _ _ _ us hl => match us, hl with | [_, _], _ => rfl
  have F13 := fun_mk (st := s__law_width) l13 c13 k13
  have b13 := F13.binds (ps := ["_law_m", "_law_tools_here", "_law_length"]) fun _ _ _ _ _ _ us hl => match us, hl with | [_, _, _], _ => rfl
  have F14 := fun_mk (st := s_law) l14 c14 k14
  refine ⟨PySem.W.fnOf "law" "law" (defArgs s_law) (defBody s_law) (defScope s_law) .none kV14 dc14 pm14 an14 cd14 ct14, fun s v => .of_eq rfl, fun base _ _ sys => ?_⟩
  have h0 := has_mk (P := l.prog) (w := w) (base := base) F0 (ok_deck (P := l.prog) (w := w) (base := base) F0 T ) (PySem.W.mg_of X G a0) b0
  have h1 := has_mk (P := l.prog) (w := w) (base := base) F1 (ok_draw (P := l.prog) (w := w) (base := base) F1 T ) (PySem.W.mg_of X G a1) b1
  have h2 := has_mk (P := l.prog) (w := w) (base := base) F2 (ok_distinct (P := l.prog) (w := w) (base := base) F2 T h1) (PySem.W.mg_of X G a2) b2
  have h3 := has_mk (P := l.prog) (w := w) (base := base) F3 (ok_tool (P := l.prog) (w := w) (base := base) F3 T h1 h2) (PySem.W.mg_of X G a3) b3
  have h4 := has_mk (P := l.prog) (w := w) (base := base) F4 (ok_ltarget (P := l.prog) (w := w) (base := base) F4 T ) (PySem.W.mg_of X G a4) b4
  have h5 := hasg_mk (P := l.prog) (w := w) (base := base) F5 (ok_same (P := l.prog) (w := w) (base := base) F5 T ) (PySem.W.mg_of X G a5) b5
  have h6 := has_mk (P := l.prog) (w := w) (base := base) F6 (ok_arc (P := l.prog) (w := w) (base := base) F6 T ) (PySem.W.mg_of X G a6) b6
  have h7 := has_mk (P := l.prog) (w := w) (base := base) F7 (ok_steps (P := l.prog) (w := w) (base := base) F7 T ) (PySem.W.mg_of X G a7) b7
  have h8 := has_mk (P := l.prog) (w := w) (base := base) F8 (ok_from (P := l.prog) (w := w) (base := base) F8 T h6) (PySem.W.mg_of X G a8) b8
  have h9 := has_mk (P := l.prog) (w := w) (base := base) F9 (ok_sent (P := l.prog) (w := w) (base := base) F9 T h7 h8) (PySem.W.mg_of X G a9) b9
  have h10 := has_mk (P := l.prog) (w := w) (base := base) F10 (ok_twidth (P := l.prog) (w := w) (base := base) F10 T h9) (PySem.W.mg_of X G a10) b10
  have h11 := has_mk (P := l.prog) (w := w) (base := base) F11 (ok_width (P := l.prog) (w := w) (base := base) F11 T h10) (PySem.W.mg_of X G a11) b11
  have h12 := has_mk (P := l.prog) (w := w) (base := base) F12 (ok_tools (P := l.prog) (w := w) (base := base) F12 T h1 h3) (PySem.W.mg_of X G a12) b12
  have h13 := has_mk (P := l.prog) (w := w) (base := base) F13 (ok_lwidth (P := l.prog) (w := w) (base := base) F13 T h4) (PySem.W.mg_of X G a13) b13
  exact ok_law F14 T h0 h1 h12 h13 h11 h5
end BP
open PySem PySem.W PyProof.Rows
set_option maxHeartbeats 0 in
theorem PySem.Challenge.cw_blindpush_k07_widths_of_lengths_holds : PySem.Challenge.rw_blindpush_k07_widths_of_lengths.Holds := by
  w_on; o_law; k_head; (case hw => w_witness2)
  k_fill
  refine BP.walkG (l := PySem.Challenge.rw_blindpush_k07_widths_of_lengths) (n := 63) (k := 6) (x := "_law_script") (sp := BP.spLaw) rfl (by decide) rfl ⟨rfl, by decide, by decide⟩ (by decide +kernel) (fun w h Y => PySem.W.kIn_of Y) ?F (fun _ _ a ns hl _ hS => ⟨a, ns, rfl, hS, hl, fun _ => rfl⟩)
  case F =>
    intro w mg fa h KX G hmg
    refine' BP.all_mk KX G hmg ?a0 ?l0 ?c0 ?k0 ?a1 ?l1 ?c1 ?k1 ?a2 ?l2 ?c2 ?k2 ?a3 ?l3 ?c3 ?k3 ?a4 ?l4 ?c4 ?k4 ?a5 ?l5 ?c5 ?k5 ?a6 ?l6 ?c6 ?k6 ?a7 ?l7 ?c7 ?k7 ?a8 ?l8 ?c8 ?k8 ?a9 ?l9 ?c9 ?k9 ?a10 ?l10 ?c10 ?k10 ?a11 ?l11 ?c11 ?k11 ?a12 ?l12 ?c12 ?k12 ?a13 ?l13 ?c13 ?k13 ?a14 ?l14 ?c14 ?k14 ?z_len ?z_range ?z_abs ?z_list ?z_sorted ?z_min ?z_max ?z_tuple ?z_dict ?z_repr ?z_set ?z_sum ?z_isinstance ?z_int ?z_bool ?z_enumerate ?z_zip ?z_str ?z_type ?z_reversed ?z_any ?z_all 
    (case a0 => k_is)
    (case l0 => k_is)
    (case c0 => k_is)
    (case k0 => k_is)
    (case a1 => k_is)
    (case l1 => k_is)
    (case c1 => k_is)
    (case k1 => k_is)
    (case a2 => k_is)
    (case l2 => k_is)
    (case c2 => k_is)
    (case k2 => k_is)
    (case a3 => k_is)
    (case l3 => k_is)
    (case c3 => k_is)
    (case k3 => k_is)
    (case a4 => k_is)
    (case l4 => k_is)
    (case c4 => k_is)
    (case k4 => k_is)
    (case a5 => k_is)
    (case l5 => k_is)
    (case c5 => k_is)
    (case k5 => k_is)
    (case a6 => k_is)
    (case l6 => k_is)
    (case c6 => k_is)
    (case k6 => k_is)
    (case a7 => k_is)
    (case l7 => k_is)
    (case c7 => k_is)
    (case k7 => k_is)
    (case a8 => k_is)
    (case l8 => k_is)
    (case c8 => k_is)
    (case k8 => k_is)
    (case a9 => k_is)
    (case l9 => k_is)
    (case c9 => k_is)
    (case k9 => k_is)
    (case a10 => k_is)
    (case l10 => k_is)
    (case c10 => k_is)
    (case k10 => k_is)
    (case a11 => k_is)
    (case l11 => k_is)
    (case c11 => k_is)
    (case k11 => k_is)
    (case a12 => k_is)
    (case l12 => k_is)
    (case c12 => k_is)
    (case k12 => k_is)
    (case a13 => k_is)
    (case l13 => k_is)
    (case c13 => k_is)
    (case k13 => k_is)
    (case a14 => k_is)
    (case l14 => k_is)
    (case c14 => k_is)
    (case k14 => k_is)
    (case z_len => k_is)
    (case z_range => k_is)
    (case z_abs => k_is)
    (case z_list => k_is)
    (case z_sorted => k_is)
    (case z_min => k_is)
    (case z_max => k_is)
    (case z_tuple => k_is)
    (case z_dict => k_is)
    (case z_repr => k_is)
    (case z_set => k_is)
    (case z_sum => k_is)
    (case z_isinstance => k_is)
    (case z_int => k_is)
    (case z_bool => k_is)
    (case z_enumerate => k_is)
    (case z_zip => k_is)
    (case z_str => k_is)
    (case z_type => k_is)
    (case z_reversed => k_is)
    (case z_any => k_is)
    (case z_all => k_is)
