import PyProof.Rows.All
import Wide.All
import OpenK.AllK
import Wide.FinOn
import HandS.ForMost
import HandS.Conv
import HandS.Codes
import HandS.Style
import HandS.SortInts
import HandS.Wide
import HandS.Zip
import PyProof.ReprRoads
import KE.KDictPairs
import HandS.SetBool
import HandS.SetFor
import HandS.Strs
import KE.GoesZip
import KE.GoesMore
import HandS.TupAny
import HandS.IsInst
import HandS.TupMul
import HandS.Iter
import KE.GoesEnum
import HandS.Rev
import HandS.ForExc
import HandS.ExcInit
import HandS.ExcField
import HandS.ExcIs
import KE.KExcIs
import HandS.Lambda
import PyProof.LayNew
import HandS.TryOnly
import KE.KDictDisplayH
import HandS.NoneIn
import KE.KDictKeyed
import HandS.DictTup
import KE.KDictCopyH
import PyProof.DictUpdate
import PySem.Challenge.RW_blindpush_k11_fewest_pushes_by_search
set_option Elab.async false
set_option linter.all false
set_option maxRecDepth 100000
set_option maxHeartbeats 4000000
set_option exponentiation.threshold 2000
namespace BP
open PySem PySem.Spec PyProof.Rows L2

/-! ### defs that are called while no repr is under way -/
structure FnG (P : Program) (w : World) (K : PySem.W.Frag) (mg : Str → Option Value) (base : Heap)
    (k : Nat) (f : Addr) (fd : FuncData) (ps : List Str) (sp : Sp) : Prop where
  glen : ∀ vs H Q E, sp vs H Q E → vs.length = ps.length
  grun : ∀ (A : Around) (outer : List Env) (s : Shared) (H : Hp) (args : Args) (us : List Value)
    (vs : List V) (Q : VK) (E : XK), A.guards = some [] → Room k A → Env0 P w K mg base A outer s H →
    BindsTo s fd args (ps.zip us) → Vals vs us → sp vs H Q E →
    codeAny (model P w) A (.call (.ref f) args) (CR CX0 outer P w H s Q E) s

section
variable {P : Program} {w : World} {K : PySem.W.Frag} {mg : Str → Option Value} {base : Heap}
theorem fung_ok {x qual : Str} {st : Stmt} {f : Addr} {fd : FuncData} {N ps : List Str} {k : Nat} {sp : Sp}
    (F : Fun K x qual st f fd) (S : FnScope N ps (defScope st))
    (hlen : ∀ vs H Q E, sp vs H Q E → vs.length = ps.length)
    (hbody : ∀ (cdv : Value) (A : Around) (outer : List Env) (s : Shared) (H : Hp) (vs : List V) (Q : VK) (E : XK),
      A.guards = some [] →
      Room k (A.deeper (envOfC qual (defScope st) s.heap.objs.size f cdv)) → sp vs H Q E →
      ∃ t, PSs (cxOf CX0 P w K mg base N qual (defScope st) f cdv A outer s H E).nox (defBody st) t ∧
        t { nx := fun _ H' => Q .non H', rt := Q } (start N vs) H) :
    FnG P w K mg base (k + 1) f fd ps sp := by
  obtain ⟨oc, od, kV, doc, pm, an, cdv, ct, osl, hfd, lk, hcd⟩ := F.ex
  subst hfd
  constructor
  · exact hlen
  · intro A outer s H args us vs Q E hg hr e0 hb r hsp
    have hl := hlen vs H Q E hsp
    have kin : K.In s.heap := e0.mod.kin.keeps fun b o e => (e0.bs b o e).1
    have nol : s.heap.NoLimit := e0.mod.nolimit.keeps fun b o e => (e0.bs b o e).1
    have hkd : ∀ y ∈ ps.zip us, (defScope st).names.lookup y.1 = some .local ∨
        ((defScope st).names.lookup y.1 = some .cell ∧
          ((cellsFrom (s.heap.objs.size + 1) (defScope st).names []).lookup y.1).isSome = true) := by
      intro y hy
      obtain ⟨n, v⟩ := y
      have hn : n ∈ ps := (List.of_mem_zip hy).1
      cases S.par n hn with
      | inl q => exact Or.inl q
      | inr q => exact Or.inr ⟨q, PySem.W.cellsFrom_some _ _ _ (Or.inl q)⟩
    apply codeAny_call_function hr.depth (kin _ _ lk) rfl S.co S.gen rfl (PySem.W.codeRec_of kin hcd)
    apply hb
    apply wpAny_newFunctionEnv_cells S.kind hkd
    intro env he s1 x
    cases he
    refine ⟨nol.keeps x.toInCall.keep, codeAny_func ?_⟩
    obtain ⟨t, ht, hq⟩ := hbody cdv A outer s H vs Q E hg (hr.deeper _) hsp
    have I := inv_start (CX := CX0) (E := E) S hr.hd e0 hl r x
    refine wpAny_mono (ht.nox.run [] s1 (start N vs) H _ I hq) (fun fl s' hs => ?_) fun e s' hs => hs
    cases fl with
    | ret u =>
      obtain ⟨v, σ', H', J, rv, q⟩ := hs
      exact ⟨v, H', J.os, J.bare, J.base, J.hok, rv, q⟩
    | next =>
      obtain ⟨σ', H', J, q⟩ := hs
      exact ⟨V.non, H', J.os, J.bare, J.base, J.hok, rfl, q⟩
    | brk =>
      obtain ⟨_, _, _, q⟩ := hs
      exact q.elim
    | cont =>
      obtain ⟨_, _, _, q⟩ := hs
      exact q.elim
end
section
variable {X : Cx} {k : Nat} {f : Addr} {fd : FuncData} {ps : List Str} {sp : Sp} {x : Str} {p pos : Pos} {e : Expr} {es : List Expr} {t : TA}
/-- f(e, ..), f a def of the kind above -/
theorem pe_callG (F : FnG X.prog X.w X.K X.mg X.base k f fd ps sp) (hgd : X.A.guards = some []) (hr : Room k X.A)
    (hg : Gl X x) (hm : X.mg x = some (.ref f)) (hk : PySem.W.keepIn X.K (.ref f) = true)
    (hb : Binds X.K fd ps []) (ha : PA X (e :: es) t)
    (hdb : (x == ("__debug__" : Str)) = false := by decide)
    (he : starEach (e :: es) X.env = (false, eval e X.env) :: starEach es X.env := by rfl)
    (hpl : (backTo pos (starEach es X.env)).any (·.1) = false := by rfl) :
    PE X (.Call (.Name x p) (e :: es) [] pos) (tCall sp [] E0 t) := by
  constructor
  intro pins s σ H Q I h
  apply wpAny_Call_Name_kw
  apply ld_glob I hg hm _ hdb
  apply PySem.W.callWith_K (h₀ := X.base) I.ok.mod.kin hk _ he hpl
  refine thn (ha.run pos pins s σ H _ I h) fun us s1 ⟨vs, H1, I1, r, q⟩ => ⟨I1.kIn, ?_⟩
  have q : sp (vs ++ []) H1 Q E0 := q
  rw [List.append_nil] at q
  have hl : us.length = ps.length := by
    rw [← r.length]
    exact F.glen _ _ _ _ q
  have hbb := hb s1 us I1.kIn (by rw [List.append_nil]; exact hl)
  rw [List.append_nil] at hbb
  refine wpAny_call (codeAny_mono (F.grun X.A X.stack s1 H1 ⟨us, []⟩ us vs Q E0 hgd hr I1.env0 hbb r q) fun r s' hq => ?_)
  cases r with
  | error e => exact hq.elim
  | ok fl => cases fl with
    | ret u => exact I1.after hq
    | next => exact hq.elim
    | brk => exact hq.elim
    | cont => exact hq.elim
/-- repr of data -/
def rRepr (K : PySem.W.Frag) : List V → Hp → VK → Prop := fun xs H Q =>
  ∃ a d, xs = [.ref a] ∧ Dp K H (.ref a) d ∧ d.showable = true ∧ d.hasDict = false ∧ d.depth ≤ 60 ∧ d.shown.length ≤ sizeLine ∧ Q (.str d.shown) H
theorem call_reprD (hgd : X.A.guards = some []) (hu : X.A.units + 64 < cLine) : CallR X (.builtin "repr") (rRepr X.K) := by
  intro pins s σ H xs us Q I r h
  obtain ⟨a, d, rfl, hd, hs, hnd, hdp, hz, q⟩ := h
  obtain ⟨u, rfl, rx⟩ := vals1 r
  cases rx
  obtain ⟨as, rd⟩ := Dp.reads I d _ _ hd rfl
  refine repr_of_reads' rd hs (PyData.noDict_hsm hnd) hgd (by omega) (fun b o e => e) ?_ hz
  intro h' u tk hk
  exact ⟨.str d.shown, H, I.kept hk, ⟨u, rfl⟩, q⟩
end
/-! ### the law's own call, for a def of that kind -/
theorem lawG {P : Program} {w : World} {K : PySem.W.Frag} {mg mb : Str → Option Value} {k : Nat} {fa a : Addr} {fd : FuncData}
    {x : Str} {sp : Sp} {s₁ : Shared} {vs : List Value} {ns : List Int}
    (KX : K.In s₁.heap) (hns : s₁.heap.Ns mainGlobals mg) (hb : s₁.heap.Ns builtinsNs mb)
    (hbb : ∀ x : Str, x ≠ "__name__" → mb x = bootBuiltins x) (hlim : s₁.heap.NoLimit) (hg : s₁.gens = #[])
    (ha : s₁.heap.get? a = some { cls := .type "list", data := .seq vs.toArray }) (hi : IntsAre vs ns)
    (hl : ns.length ≤ sizeLine) (hr : Room k callerA)
    (hsy : ∃ mm, s₁.heap.Ns sysModules mm)
    (F : ∀ base : Heap, K.In base → base.Ns mainGlobals mg → (∃ o, base.get? sysModules = some o) → FnG P w K mg base k fa fd [x] sp)
    (hbind : ∀ (s : Shared) (u : Value), BindsTo s fd ⟨[u], []⟩ [(x, u)])
    (hsp : ∀ H : Hp, Only H → SqL K H a (ns.map V.int) → sp [.ref a] H (fun v _ => v = .bl true) E0) :
    codeAny (model P w) callerA (.call (.ref fa) ⟨[.ref a], []⟩)
      (fun r s' => r = .ok (.ret (.bool true)) ∧ OldK s₁.heap s'.heap ∧ s'.os = s₁.os ∧ AllBare s'.gens) s₁ := by
  have rv := vals_ints hi
  have lenV := hi.length
  have main : ∀ T : Hp, Only T → SqL K T a (ns.map V.int) → HOk P w T s₁.heap → (∀ b, T b ≠ none → b = a) →
      (T a ≠ none → K.lookup a = none) →
      codeAny (model P w) callerA (.call (.ref fa) ⟨[.ref a], []⟩)
        (fun r s' => r = .ok (.ret (.bool true)) ∧ OldK s₁.heap s'.heap ∧ s'.os = s₁.os ∧ AllBare s'.gens) s₁ := by
    intro T tO tS tok tA tK
    have free_dict : ∀ {b : Addr} {o : Obj} {es : Array DictEntry} {ep : Nat},
        s₁.heap.get? b = some o → o.data = .dict es ep → T b = none := by
      intro b o es ep e d
      by_cases hz : T b = none
      · exact hz
      · have hba := tA b hz
        rw [hba, ha] at e
        cases e
        cases d
    have keepNs : ∀ {b : Addr} {m : Str → Option Value}, s₁.heap.Ns b m → (hidT s₁.heap T).Ns b m := by
      intro b m hh
      obtain ⟨o, es, ep, e, d, r⟩ := hh
      exact ⟨o, es, ep, hidT_get e (free_dict e d), d, r⟩
    have kB : K.In (hidT s₁.heap T) := by
      intro b o e
      refine hidT_get (KX b o e) ?_
      by_cases hz : T b = none
      · exact hz
      · have hba := tA b hz
        subst hba
        rw [tK hz] at e
        cases e
    obtain ⟨mc, c1, c2⟩ := hlim
    have md : Mod K mg (hidT s₁.heap T) := ⟨kB, keepNs hns, ⟨mb, keepNs hb, hbb⟩, ⟨mc, keepNs c1, c2⟩⟩
    have en : Env0 P w K mg (hidT s₁.heap T) callerA [] s₁ T := by
      refine ⟨rfl, md, fun b o e => of_hidT e, Nat.le_of_eq (hidT_size _ _), trivial, ?_, tok, .of_eq hg⟩
      intro b hb
      exact absurd (show b ∈ ([] : List Addr) from hb) List.not_mem_nil
    have sy : ∃ o, (hidT s₁.heap T).get? sysModules = some o := by
      obtain ⟨mm, h⟩ := hsy
      obtain ⟨o, es, ep, e, _⟩ := keepNs h
      exact ⟨o, e⟩
    have go := (F _ kB (keepNs hns) sy).grun callerA [] s₁ T ⟨[.ref a], []⟩ [.ref a] [.ref a] _ _ rfl hr en
      (hbind s₁ (.ref a)) (.cons rfl .nil) (hsp T tO tS)
    refine codeAny_mono go fun r s' h => ?_
    cases r with
    | error e => exact h.elim
    | ok fl => cases fl with
      | next => exact h.elim
      | brk => exact h.elim
      | cont => exact h.elim
      | ret u =>
        obtain ⟨v, T', os, bare, un, hok', r', q⟩ := h
        have qv : v = .bl true := q
        subst qv
        have ru : u = Value.bool true := r'
        subst ru
        refine ⟨rfl, OldK.of_keep ?_, os, bare⟩
        intro b o e
        rcases tO b with z | ⟨ob, xs, z⟩
        · refine un.keep b o e z ?_ ?_
          · intro z'
            exact absurd (show b ∈ ([] : List Addr) from z') List.not_mem_nil
          · exact List.not_mem_nil
        · obtain ⟨e1, _⟩ := tok b _ z
          obtain ⟨e2, _⟩ := hok' b _ (un.frzs b ob _ z)
          rw [e] at e1
          cases e1
          exact e2
  cases hk : K.lookup a with
  | some o =>
    have e := KX a o hk
    rw [ha] at e
    cases e
    refine main (fun _ => none) (fun _ => .inl rfl) ?_ ?_ ?_ ?_
    · exact .inr ⟨_, vs.toArray, _, hk, rfl, rfl, rfl, by rw [List.size_toArray, lenV]; exact hl, by simpa using rv⟩
    · intro b u z
      cases (show (none : Option HO) = some u from z)
    · intro b z
      exact absurd rfl z
    · intro z
      exact absurd rfl z
  | none =>
    refine main (fun b => if b = a then some (.frz { cls := .type "list", data := .seq vs.toArray } (.lst (ns.map V.int))) else none) ?_ ?_ ?_ ?_ (fun _ => hk)
    · intro b
      by_cases h0 : b = a
      · exact .inr ⟨_, _, if_pos h0⟩
      · exact .inl (if_neg h0)
    · exact .inl (.inr ⟨{ cls := .type "list", data := .seq vs.toArray }, if_pos rfl⟩)
    · intro b u z
      by_cases h0 : b = a
      · subst h0
        cases (if_pos rfl).symm.trans z
        exact ⟨ha, by rw [List.length_map]; exact hl, vs, _, rv, ha⟩
      · cases (if_neg h0).symm.trans z
    · intro b z
      by_cases h0 : b = a
      · exact h0
      · exact absurd (if_neg h0) z
theorem walkG {l : PySem.W.OpenLaw} {n k : Nat} {q : Program} {loose : List Str} {XP : (Str → Option Value) → Heap → Prop}
    {YP : World → Heap → Prop} {d : DefRec} {K : Params → PySem.W.Frag} {sp : PySem.W.Frag → Sp} {x : Str}
    (hn : l.most = some n) (hn2 : n ≤ sizeLine) (hdf : d.params.defaults = []) (hr : Room k callerA) (hin : importsNone q = true)
    (hY : ∀ (w : World) (h : Heap), YP w h → (K w.params).In h)
    (F : ∀ (w : World) (mg : Str → Option Value) (fa : Addr) (h : Heap), (K w.params).In h → h.Ns mainGlobals mg →
      mg d.name = some (.ref fa) → ∃ fd : FuncData, (∀ (s : Shared) (u : Value), BindsTo s fd ⟨[u], []⟩ [(x, u)]) ∧
        ∀ base : Heap, (K w.params).In base → base.Ns mainGlobals mg → (∃ o, base.get? sysModules = some o) → FnG l.prog w (K w.params) mg base k fa fd [x] (sp (K w.params)))
    (hsp : ∀ (K : PySem.W.Frag) (H : Hp) (a : Addr) (ns : List Int), ns.length ≤ n → Only H → SqL K H a (ns.map V.int) →
      sp K [.ref a] H (fun v _ => v = .bl true) E0) :
    PySem.W.WalkO q loose XP YP l.row.toRowW d [] (fun f vs => PySem.call f vs) := by
  apply Att.attach_call hn hdf
  intro w s₀ s₁ mg mb fa o pm cd doc a vs ns G Y ho hd hcd hmg hobj hints hlen hg
  have KX := hY w _ Y
  obtain ⟨fd, hb, hF⟩ := F w mg fa _ KX G.T.g hmg
  exact lawG KX G.T.g G.T.b G.T.builtins G.T.nolimit hg hobj hints (Nat.le_trans hlen hn2) hr (let ⟨mm, h, _⟩ := (G.T.seer hin).mods; ⟨mm, h⟩) hF hb
    (fun H hO hS => hsp _ H a ns hlen hO hS)
section
variable {X : Cx}
/-- tuple(xs), xs a list: the new tuple as an object that bears no dict -/
theorem call_tupleF : CallR X (.type "tuple") (fun xs H Q => ∃ p ys, xs = [.ref p] ∧ SqL X.K H p ys ∧
    ∀ (l : Addr) (o : Obj), H l = none → o.dict = none → Q (.ref l) (upd H l (.frz o (.tup ys)))) := by
  intro pins s σ H xs us Q I r h
  obtain ⟨p, ys, e, hq, q⟩ := h
  subst e
  obtain ⟨u, e, rx⟩ := vals1 r
  subst e
  cases rx
  obtain ⟨its, r', pl, hz⟩ := I.list hq
  have hlen := r'.length
  refine call_tuple_list pl.isList (fun h' kp => ?_) (by simp only [List.size_toArray] <;> omega)
  have I1 := I.kept (t' := s.toks) kp
  have I2 := I1.laid (t' := s.toks) (a := h'.objs.size) (o := .frz { cls := .type "tuple", data := .seq its.toArray } (.tup ys))
    (h' := h'.push { cls := .type "tuple", data := .seq its.toArray })
    (fun b o e => Heap.get?_push_of_some _ e) (Nat.le_refl _) ⟨Heap.get?_push_size _ rfl, hz, its, r', IsTup.new _ _⟩
  exact ⟨.ref h'.objs.size, _, I2, rfl, q _ _ (I1.hok.fresh (Nat.le_refl _)) rfl⟩
/-- a written tuple, as an object that bears no dict -/
def tTupF (t : TA) : TE := fun σ H Q => t σ H fun xs H1 => xs.length ≤ sizeLine ∧
  ∀ (p : Addr) (o : Obj), H1 p = none → o.dict = none → Q (.ref p) (upd H1 p (.frz o (.tup xs)))
theorem pe_tupF {es : List Expr} {t : TA} {pos : Pos} {x1} (h : PA X es t) : PE X (.Tuple es x1 pos) (tTupF t) := by
  constructor
  intro pins s σ H Q I hq
  apply wpAny_Tuple_spliced
  refine thn (h.run pos pins s σ H _ I hq) fun us s1 ⟨xs, H1, I1, r, z, q⟩ => ?_
  refine ⟨by rw [← r.length]; exact z, ?_⟩
  have hf := I1.hok.fresh (Nat.le_refl s1.heap.objs.size)
  refine ⟨.ref s1.heap.objs.size, upd H1 s1.heap.objs.size (.frz { cls := .type "tuple", data := .seq us.toArray } (.tup xs)), ?_, rfl, q _ _ hf rfl⟩
  exact I1.laid (t' := s1.toks) (fun b u e => Heap.get?_push_of_some _ e) (Nat.le_refl _)
    ⟨Heap.get?_push_size _ rfl, z, us, r, ⟨_, Heap.get?_push_size _ rfl, rfl, _, rfl⟩⟩
theorem pairs_of2 {pins : List (Addr × Obj)} {σ : L2.St} {H : Hp} {s : Shared} (I : Inv X pins σ H s) :
    ∀ {ps : List Addr} {kvs : List (Key × V)}, Paired (fun p kv => SqT X.K H p [kV kv.1, kv.2]) ps kvs →
    ∃ (prs : List (Key × Value)) (qs : List (Value × Value)), KV kvs prs ∧ prs.length = ps.length ∧ qs.length = ps.length ∧
      ∀ (j : Nat) (k v : Value), qs[j]? = some (k, v) → ∃ b, ps[j]? = some b ∧ IsTup s.heap b #[k, v] ∧
        ∃ key, prs[j]? = some (key, v) ∧ keyIs key k = true
  | _, _, .nil => ⟨[], [], .nil, rfl, rfl, fun j k v e => by simp at e⟩
  | _, _, .cons (a := p) (b := kv) h t => by
    obtain ⟨prs, qs, r, hl, hl2, hp⟩ := pairs_of2 I t
    obtain ⟨its, rv, ht, _⟩ := I.tuple h
    obtain ⟨u, y, ei, ru, ry⟩ := vals2 rv
    subst ei
    refine ⟨(kv.1, y) :: prs, (u, y) :: qs, .cons ⟨rfl, ry⟩ r, ?_, ?_, ?_⟩
    · rw [List.length_cons, List.length_cons, hl]
    · rw [List.length_cons, List.length_cons, hl2]
    · intro j k v e
      cases j with
      | zero =>
        cases (Option.some.inj e)
        exact ⟨p, rfl, ht, kv.1, rfl, kV_is (P := X.prog) (w := X.w) ru⟩
      | succ j =>
        obtain ⟨b, e1, e2, key, e3, e4⟩ := hp j k v (by simpa using e)
        exact ⟨b, by simpa using e1, e2, key, by simpa using e3, e4⟩
/-- dict(t), t a tuple of pairs that bears no dict -/
def rDictT (K : PySem.W.Frag) : List V → Hp → VK → Prop := fun xs H Q =>
  ∃ (a : Addr) (o : Obj) (ps : List Addr) (kvs : List (Key × V)), xs = [.ref a] ∧ H a = some (.frz o (.tup (ps.map V.ref))) ∧ o.dict = none ∧
    Paired (fun p kv => SqT K H p [kV kv.1, kv.2]) ps kvs ∧ ∀ p, H p = none → Q (.ref p) (upd H p (.dK (mergeK [] kvs)))
theorem call_dictT (hcalm : X.calm = true) : CallR X (.type "dict") (rDictT X.K) := by
  intro pins s σ H xs us Q I r h
  obtain ⟨a, o, ps, kvs, e, ha, hod, hp, q⟩ := h
  subst e
  obtain ⟨u, e, rx⟩ := vals1 r
  subst e
  cases rx
  obtain ⟨ho, hz, its, rv, pl⟩ := (show ObjOk X.prog X.w H s.heap a (.frz o (.tup (ps.map V.ref))) from I.hok a _ ha)
  obtain ⟨prs, qs, rel, hl, hl2, hpr⟩ := pairs_of2 I hp
  have ei := refs_at rv
  subst ei
  rw [List.length_map] at hz
  obtain ⟨o', ho', hc, n, hd⟩ := pl
  rw [ho] at ho'
  cases ho'
  have PA1 := PairArg.tuple (prog := X.prog) (w := X.w) a (ps.map Value.ref).toArray (fun j => ps.getD j 0) qs
  refine PySem.call_dict_pairs (knd := mixKind X.prog X.w) (kvs := prs) PA1 (I.ok.hd hcalm) ⟨⟨o, n, ho, hc, hod, hd⟩, ?_, ?_⟩ ⟨?_, ?_⟩ (by rw [hl2]; exact hz) ?_
  · rw [List.size_toArray, List.length_map, hl2]
  · intro j k v e
    obtain ⟨b, e1, e2, _⟩ := hpr j k v e
    have eb : ps.getD j 0 = b := by
      rw [List.getD_eq_getElem?_getD, e1]
      rfl
    refine ⟨?_, .inl ?_⟩
    · show (ps.map Value.ref).toArray[j]? = some (.ref (ps.getD j 0))
      rw [eb, List.getElem?_toArray, List.getElem?_map, e1]
      rfl
    · show s.heap.IsTuple (ps.getD j 0) #[k, v]
      rw [eb]
      exact e2
  · rw [hl, hl2]
  · intro i key v e
    obtain ⟨b, e1, e2, k, e3, e4⟩ := hpr i key v e
    exact ⟨k, e3, e4⟩
  · intro h' tk hd' hk
    have hm : (s.heap.objs.size == sysModules) = false := beq_eq_false_iff_ne.mpr (Nat.ne_of_gt I.big)
    have hlen : (mergeK [] kvs).length ≤ sizeLine := by
      have h1 := length_mergeK kvs []
      have h2 := rel.length
      rw [List.length_nil] at h1
      omega
    refine ⟨.ref s.heap.objs.size, upd H s.heap.objs.size (.dK (mergeK [] kvs)), ?_, rfl, q _ (I.hok.fresh (Nat.le_refl _))⟩
    exact I.laid (t' := tk) (fun b o e => hk b o List.not_mem_nil e) (Nat.le_refl _)
      (show ObjOk X.prog X.w _ _ _ (.dK (mergeK [] kvs)) from ⟨hlen, hm, merged [] prs, KV.merge rel .nil, hd'⟩)
end
/-! ### a def of the text by its name -/
def Has (P : Program) (w : World) (K : PySem.W.Frag) (mg : Str → Option Value) (base : Heap) (k : Nat) (x : Str) (ps : List Str) (sp : Sp) : Prop :=
  ∃ f fd, FnOk P w K mg base CX0 k f fd ps sp ∧ mg x = some (.ref f) ∧ PySem.W.keepIn K (.ref f) = true ∧ L2.Binds K fd ps []
def HasG (P : Program) (w : World) (K : PySem.W.Frag) (mg : Str → Option Value) (base : Heap) (k : Nat) (x : Str) (ps : List Str) (sp : Sp) : Prop :=
  ∃ f fd, FnG P w K mg base k f fd ps sp ∧ mg x = some (.ref f) ∧ PySem.W.keepIn K (.ref f) = true ∧ L2.Binds K fd ps []
section
variable {X : Cx} {k j : Nat} {ps : List Str} {sp : Sp} {x : Str} {p pos : Pos} {e : Expr} {es : List Expr} {t : TA}
theorem pe_callH (h : Has X.prog X.w X.K X.mg X.base k x ps sp) (hr : Room j X.A) (hk : k ≤ j) (hg : Gl X x) (ha : PA X (e :: es) t)
    (hdb : (x == ("__debug__" : Str)) = false := by decide)
    (he : starEach (e :: es) X.env = (false, eval e X.env) :: starEach es X.env := by rfl)
    (hpl : (backTo pos (starEach es X.env)).any (·.1) = false := by rfl) :
    PE X (.Call (.Name x p) (e :: es) [] pos) (tCall sp [] E0 t) := by
  obtain ⟨f, fd, F, hm, hkp, hb⟩ := h
  exact pe_call F (hr.mono hk) hg hm hkp hb .nil pass0 ha hdb he hpl
theorem pe_callHG (h : HasG X.prog X.w X.K X.mg X.base k x ps sp) (hgd : X.A.guards = some []) (hr : Room j X.A) (hk : k ≤ j) (hg : Gl X x) (ha : PA X (e :: es) t)
    (hdb : (x == ("__debug__" : Str)) = false := by decide)
    (he : starEach (e :: es) X.env = (false, eval e X.env) :: starEach es X.env := by rfl)
    (hpl : (backTo pos (starEach es X.env)).any (·.1) = false := by rfl) :
    PE X (.Call (.Name x p) (e :: es) [] pos) (tCall sp [] E0 t) := by
  obtain ⟨f, fd, F, hm, hkp, hb⟩ := h
  exact pe_callG F hgd (hr.mono hk) hg hm hkp hb ha hdb he hpl
end
/-! ### the same rules with the written part named -/
section
variable {X : Cx} {o e : Expr} {es : List Expr} {to : TE} {t : TA} {name : Str} {apos cpos pos : Pos} {T id : String}
  {r : V → List V → Hp → VK → Prop}
def rLenS (K : PySem.W.Frag) : List V → Hp → VK → Prop := fun xs H Q =>
  ∃ p ys, xs = [.ref p] ∧ (SqL K H p ys ∨ SqT K H p ys) ∧ Q (.int ys.length) H
def rListOf (K : PySem.W.Frag) : List V → Hp → VK → Prop := fun xs H Q =>
  ∃ p ys, xs = [.ref p] ∧ (SqL K H p ys ∨ SqT K H p ys) ∧ ∀ l, H l = none → Q (.ref l) (upd H l (.lst ys))
def rTupF (K : PySem.W.Frag) : List V → Hp → VK → Prop := fun xs H Q => ∃ p ys, xs = [.ref p] ∧ SqL K H p ys ∧
    ∀ (l : Addr) (o : Obj), H l = none → o.dict = none → Q (.ref l) (upd H l (.frz o (.tup ys)))
theorem kbm (K : PySem.W.Frag) (pa : PlainAttrs T) (slot : Slot T name id)
    (hty : typeOf (.builtin id) = pure (.type "method_descriptor")) (hm : MtM X id r) (ho : PE X o to) (ha : PA X (e :: es) t)
    (hK : X.K = K := by rfl)
    (hbase : attributeBase o name X.env (eval o X.env) = eval o X.env := by rfl)
    (hfew : ((backTo cpos (starEach (e :: es) X.env)).all (fun x => !x.1) && (backToKw cpos (keywordEach [] X.env)).all (fun x => x.1.isSome)
      && decide ((e :: es).length + ([] : List Keyword).length + (if ([] : List Keyword).isEmpty then 0 else 1) < 30)) = true := by rfl)
    (hline : (apos.endLine == cpos.line) = true := by rfl)
    (hs : starEach (e :: es) X.env = (false, eval e X.env) :: starEach es X.env := by rfl)
    (hplain : (backTo cpos (starEach es X.env)).any (·.1) = false := by rfl) :
    PE X (.Call (.Attribute o name apos) (e :: es) [] cpos) (tBM K T r to t) := by
  subst hK
  exact pe_bm pa slot hty hm ho ha hbase hfew hline hs hplain
theorem klen (K : PySem.W.Frag) (hK : X.K = K := by rfl) : CallR X (.builtin "len") (rLenS K) := by subst hK; exact call_len_seq
theorem klistof (K : PySem.W.Frag) (hK : X.K = K := by rfl) : CallR X (.type "list") (rListOf K) := by subst hK; exact call_list_of
theorem ktupF (K : PySem.W.Frag) (hK : X.K = K := by rfl) : CallR X (.type "tuple") (rTupF K) := by subst hK; exact call_tupleF
theorem kixL (K : PySem.W.Frag) (hK : X.K = K := by rfl) : IxR X (rIxL K) := by subst hK; exact ix_list
theorem kixT (K : PySem.W.Frag) (hK : X.K = K := by rfl) : IxR X (rIxT K) := by subst hK; exact ix_tup
theorem kslL (K : PySem.W.Frag) (hK : X.K = K := by rfl) : SlR X (rSlL K) := by subst hK; exact sl_list
theorem kslT (K : PySem.W.Frag) (hK : X.K = K := by rfl) : SlR X (rSlT K) := by subst hK; exact sl_tup
theorem kin (K : PySem.W.Frag) (hK : X.K = K := by rfl) : OpR X (compareOp .In) (rIn K false) := by subst hK; exact op_in_seq
theorem knin (K : PySem.W.Frag) (hK : X.K = K := by rfl) : OpR X (compareOp .NotIn) (rIn K true) := by subst hK; exact op_notIn_seq
theorem ksum (K : PySem.W.Frag) (hc : X.calm = true) (hK : X.K = K := by rfl) : CallR X (.builtin "sum") (rSum K) := by subst hK; exact cr_sum hc
theorem kmax (K : PySem.W.Frag) (hc : X.calm = true) (hK : X.K = K := by rfl) : CallR X (.builtin "max") (rMax K) := by subst hK; exact cr_max hc
theorem kmin (K : PySem.W.Frag) (hc : X.calm = true) (hK : X.K = K := by rfl) : CallR X (.builtin "min") (rMin K) := by subst hK; exact cr_min hc
theorem ksort (K : PySem.W.Frag) (hK : X.K = K := by rfl) : CallR X (.builtin "sorted") (rSortedI K) := by subst hK; exact cr_sortedI
theorem krepr (K : PySem.W.Frag) (hgd : X.A.guards = some []) (hu : X.A.units + 64 < cLine) (hK : X.K = K := by rfl) :
    CallR X (.builtin "repr") (rRepr K) := by subst hK; exact call_reprD hgd hu
theorem kdictT (K : PySem.W.Frag) (hc : X.calm = true) (hK : X.K = K := by rfl) : CallR X (.type "dict") (rDictT K) := by subst hK; exact call_dictT hc
theorem keqD (K : PySem.W.Frag) (hu : X.A.units + 64 < cLine) (hK : X.K = K := by rfl) : OpR X (compareOp .Eq) (rEqD K) := by subst hK; exact op_eqD hu
theorem kneD (K : PySem.W.Frag) (hu : X.A.units + 64 < cLine) (hK : X.K = K := by rfl) : OpR X (compareOp .NotEq) (rNeD K) := by subst hK; exact op_neD hu
theorem kgtup (K : PySem.W.Frag) (n : Nat) {k : Nat} {t : TGs} (hc : X.calm = true) (h : PGs X es t) (hK : X.K = K := by rfl)
    (hn : (assignEach es X.env).length = n := by rfl) (hst : (assignEach es X.env).findIdx? (·.1) = none := by rfl) :
    PG X (.Tuple es k pos) (gTup K n t) := by subst hK; exact pg_tup hc h hn hst
theorem kilist (K : PySem.W.Frag) {tg l : Expr} {tl : TE} (hl : PE X l tl) (hK : X.K = K := by rfl) : PI X tg l (iList K tl) := by subst hK; exact pi_list hl
theorem kitup (K : PySem.W.Frag) {tg l : Expr} {tl : TE} (hl : PE X l tl) (hK : X.K = K := by rfl) : PI X tg l (iTup K tl) := by subst hK; exact pi_tup hl
end
structure Bi (mg : Str → Option Value) : Prop where
  len : mg "len" = none
  range : mg "range" = none
  abs : mg "abs" = none
  list : mg "list" = none
  sorted : mg "sorted" = none
  min : mg "min" = none
  max : mg "max" = none
  tuple : mg "tuple" = none
  dict : mg "dict" = none
  repr : mg "repr" = none
  set : mg "set" = none
  sum : mg "sum" = none
  isinstance : mg "isinstance" = none
  int : mg "int" = none
  bool : mg "bool" = none
  enumerate : mg "enumerate" = none
  zip : mg "zip" = none
  str : mg "str" = none
  type : mg "type" = none
  reversed : mg "reversed" = none
  any : mg "any" = none
  all : mg "all" = none

/-! ### heaps -/
/-- all but the two objects of the deck stands as it stood -/
def Keep (a c : Addr) (H H' : Hp) : Prop := ∀ b o, b ≠ a → b ≠ c → H b = some o → H' b = some o
theorem Keep.refl (a c : Addr) (H : Hp) : Keep a c H H := fun _ _ _ _ h => h
theorem Keep.trans {a c : Addr} {H H1 H2 : Hp} (x : Keep a c H H1) (y : Keep a c H1 H2) : Keep a c H H2 :=
  fun b o h1 h2 h => y b o h1 h2 (x b o h1 h2 h)
theorem Keep.of_same {a c : Addr} {H H' : Hp} (h : Same H H') : Keep a c H H' := fun b o _ _ e => h b o e
theorem same_upd {H : Hp} {p : Addr} {o : HO} (h : H p = none) : Same H (upd H p o) := by
  intro b x e
  rw [upd_ne (ne_of_none e h)]
  exact e
theorem Keep.upd_new {a c : Addr} {H : Hp} {p : Addr} {o : HO} (h : H p = none) : Keep a c H (upd H p o) := .of_same (same_upd h)
/-- the deck: its list of the cells and its count, at most k -/
def Deck (H : Hp) (a c : Addr) (k : Int) : Prop := ∃ (ns : List Int) (j : Int), a ≠ c ∧ H a = some (.lst [.ref c, .int j]) ∧
  H c = some (.lst (ns.map V.int)) ∧ (∀ n ∈ ns, 0 ≤ n) ∧ 0 ≤ j ∧ j ≤ k
theorem Deck.mono {H : Hp} {a c : Addr} {k k' : Int} (h : Deck H a c k) (le : k ≤ k') : Deck H a c k' := by
  obtain ⟨ns, j, h1, h2, h3, h4, h5, h6⟩ := h
  exact ⟨ns, j, h1, h2, h3, h4, h5, by omega⟩
theorem Deck.same {H H' : Hp} {a c : Addr} {k : Int} (h : Deck H a c k) (s : Same H H') : Deck H' a c k := by
  obtain ⟨ns, j, h1, h2, h3, h4, h5, h6⟩ := h
  exact ⟨ns, j, h1, s _ _ h2, s _ _ h3, h4, h5, h6⟩
theorem Deck.new {H : Hp} {a c : Addr} {k : Int} {p : Addr} {o : HO} (h : Deck H a c k) (n : H p = none) : Deck (upd H p o) a c k := h.same (same_upd n)
theorem Deck.nea {H : Hp} {a c : Addr} {k : Int} {p : Addr} (h : Deck H a c k) (n : H p = none) : p ≠ a ∧ p ≠ c := by
  obtain ⟨ns, j, h1, h2, h3, h4, h5, h6⟩ := h
  exact ⟨(ne_of_none h2 n).symm, (ne_of_none h3 n).symm⟩
/-! ### a draw -/
def spDraw : Sp := fun vs H Q _ => ∃ (a c : Addr) (k lim : Int), vs = [.ref a, .int lim] ∧ Deck H a c k ∧ k ≤ 1000000 ∧ 1 ≤ lim ∧ lim ≤ 1000000000000000 ∧
  ∀ (v : Int) (H' : Hp), 0 ≤ v → v < lim → Deck H' a c (k + 1) → Keep a c H H' → Q (.int v) H'
theorem atI_pos {α : Type} {xs : List α} {i : Int} {v : α} (h0 : 0 ≤ i) (h : xs[i.toNat]? = some v) : atI xs i = some v := by
  have e : i = ((i.toNat : Nat) : Int) := by omega
  rw [e]
  exact atI_nat h
theorem ixN_pos {n : Nat} {i : Int} (h0 : 0 ≤ i) (h : i < n) : ixN n i = some i.toNat := by
  unfold ixN
  rw [if_pos h0, if_pos h]
theorem pow5 (x : Int) (h0 : 0 ≤ x) : 0 ≤ x ^ 5 := by
  have h2 : 0 ≤ x * x := Int.mul_nonneg h0 h0
  have h4 : 0 ≤ x * x * x := Int.mul_nonneg h2 h0
  have h5 : 0 ≤ x * x * x * x := Int.mul_nonneg h4 h0
  have h6 : 0 ≤ x * x * x * x * x := Int.mul_nonneg h5 h0
  have e : x ^ 5 = x * x * x * x * x := by
    rw [Int.pow_succ, Int.pow_succ, Int.pow_succ, Int.pow_succ, Int.pow_succ, Int.pow_zero, Int.one_mul]
  rw [e]
  exact h6
theorem set0 {x y : V} {v : V} : [x, y].set 1 v = [x, v] := rfl
theorem mem_set_nonneg {ns : List Int} (h : ∀ n ∈ ns, 0 ≤ n) (i : Nat) {v : Int} (hv : 0 ≤ v) : ∀ n ∈ ns.set i v, 0 ≤ n := by
  intro n hn
  rcases List.mem_or_eq_of_mem_set hn with z | z
  · exact h n z
  · rw [z]
    exact hv

/-! ### the deck itself -/
def spDeck (K : PySem.W.Frag) : Sp := fun vs H Q _ => ∃ (s : Addr) (ns : List Int), vs = [.ref s] ∧ SqL K H s (ns.map V.int) ∧ ns.length ≤ 63 ∧
  ∀ (a c : Addr) (H' : Hp), Deck H' a c 0 → Same H H' → H a = none → H c = none → Q (.ref a) H'
theorem cut_to (xs : List V) (k : Nat) : cutV xs none (some (k : Int)) = xs.take k := by
  unfold cutV
  rw [HT.sIx_nat, HT.sIx_none, List.drop_zero, Nat.sub_zero]
  by_cases h : k ≤ xs.length
  · rw [Nat.min_eq_left h]
  · rw [Nat.min_eq_right (by omega), List.take_of_length_le (Nat.le_refl _), List.take_of_length_le (by omega)]
theorem cut_from (xs : List V) (k : Nat) : cutV xs (some (k : Int)) none = xs.drop k := by
  unfold cutV
  rw [HT.sIx_nat, HT.sIx_none]
  by_cases h : k ≤ xs.length
  · rw [Nat.min_eq_left h]
    exact List.take_of_length_le (by rw [List.length_drop]; exact Nat.le_refl _)
  · rw [Nat.min_eq_right (by omega), Nat.sub_self, List.take_zero, List.drop_eq_nil_of_le (by omega)]
theorem take_map_succ {α β : Type} (f : α → β) {xs : List α} {i : Nat} {x : α} (h : xs[i]? = some x) : (xs.take (i + 1)).map f = (xs.take i).map f ++ [f x] := by
  rw [List.take_add_one, h, List.map_append]
  rfl
theorem abs_nonneg (n : Int) : 0 ≤ (if n < 0 then -n else n) := by
  split <;> omega
/-! ### distinct numbers -/
def spDistinct : Sp := fun vs H Q _ => ∃ (a c : Addr) (k m many : Int), vs = [.ref a, .int m, .int many] ∧ Deck H a c k ∧ k + many ≤ 1000000 ∧
  0 ≤ many ∧ many ≤ m ∧ m ≤ 1000 ∧ ∀ (xs : List Int) (p : Addr) (H' : Hp), xs.Pairwise (· < ·) → (xs.length : Int) = many → (∀ x ∈ xs, 0 ≤ x ∧ x < m) →
    Deck H' a c (k + many) → Keep a c H H' → H p = none → H' p = some (.lst (xs.map V.int)) → Q (.ref p) H'
def upto (m : Int) : List Int := (List.range m.toNat).map fun i => ((i : Nat) : Int)
theorem upto_len (m : Int) : (upto m).length = m.toNat := by
  unfold upto
  rw [List.length_map, List.length_range]
theorem upto_V (m : Int) : rgV 0 m = (upto m).map V.int := by
  unfold rgV upto
  rw [List.map_map]
  have e : (m - 0).toNat = m.toNat := by omega
  rw [e]
  apply List.map_congr_left
  intro i _
  show V.int (0 + (i : Nat)) = V.int ((i : Nat) : Int)
  rw [Int.zero_add]
theorem upto_mem {m x : Int} : x ∈ upto m ↔ 0 ≤ x ∧ x < m := by
  unfold upto
  rw [List.mem_map]
  constructor
  · intro ⟨i, hi, e⟩
    rw [List.mem_range] at hi
    omega
  · intro ⟨h0, h1⟩
    exact ⟨x.toNat, by rw [List.mem_range]; omega, by omega⟩
theorem nodup_map_cast : ∀ l : List Nat, l.Nodup → (l.map fun i => ((i : Nat) : Int)).Nodup
  | [], _ => List.nodup_nil
  | a :: l, h => by
    rw [List.nodup_cons] at h
    rw [List.map_cons, List.nodup_cons]
    refine ⟨fun z => ?_, nodup_map_cast l h.2⟩
    rw [List.mem_map] at z
    obtain ⟨b, hb, e⟩ := z
    have e2 : b = a := by omega
    subst e2
    exact h.1 hb
theorem upto_nodup (m : Int) : (upto m).Nodup := nodup_map_cast _ List.nodup_range
theorem lt_of_le_nodup {l : List Int} (h : l.Pairwise (· ≤ ·)) (n : l.Nodup) : l.Pairwise (· < ·) := by
  have h2 : l.Pairwise (fun x y => x ≤ y ∧ x ≠ y) := List.Pairwise.and h n
  exact h2.imp fun {a b} z => by omega
theorem erase_map {α β : Type} (f : α → β) : ∀ (l : List α) (i : Nat), (l.map f).eraseIdx i = (l.eraseIdx i).map f
  | [], _ => rfl
  | _ :: _, 0 => rfl
  | x :: l, i + 1 => by
    show f x :: (l.map f).eraseIdx i = f x :: (l.eraseIdx i).map f
    rw [erase_map f l i]
theorem erase_perm {α : Type} : ∀ (l : List α) (i : Nat) (h : i < l.length), (l[i] :: l.eraseIdx i).Perm l
  | [], _, h => absurd h (Nat.not_lt_zero _)
  | x :: l, 0, _ => List.Perm.refl _
  | x :: l, i + 1, h => by
    have ih := erase_perm l i (Nat.lt_of_succ_lt_succ h)
    show (l[i]'(Nat.lt_of_succ_lt_succ h) :: x :: l.eraseIdx i).Perm (x :: l)
    exact (List.Perm.swap x _ _).trans (List.Perm.cons x ih)
theorem seqIndex_nat {n : Nat} {i : Int} (h0 : 0 ≤ i) (h : i < n) : seqIndex? i n = some i.toNat := (ixN_seq (ixN_pos h0 h)).1

/-! ### tools -/
structure IsTool (m : Int) (tl : List (Int × Int)) : Prop where
  len1 : 1 ≤ tl.length
  len2 : tl.length ≤ 12
  rng : ∀ p ∈ tl, (0 ≤ p.1 ∧ p.1 < m) ∧ 0 ≤ p.2 ∧ p.2 < m
  asc : tl.Pairwise (fun x y => x.1 < y.1)
  ord : tl.Pairwise (fun x y => (x.2 - (tl.headD (0, 0)).2) % m < (y.2 - (tl.headD (0, 0)).2) % m)
  one : tl.length = 1 → ∀ p ∈ tl, p.1 = 0
/-- the pairs of a tool, each an object of its own -/
def PairsAt (H : Hp) (as : List Addr) (tl : List (Int × Int)) : Prop := Paired (fun p bt => H p = some (.tup [.int bt.1, .int bt.2])) as tl
def ToolAt (H : Hp) (a : Addr) (tl : List (Int × Int)) : Prop := ∃ (o : Obj) (as : List Addr), H a = some (.frz o (.tup (as.map V.ref))) ∧ o.dict = none ∧ PairsAt H as tl
/-- what is no list stays -/
def Stay (H H' : Hp) : Prop := ∀ b o, (∀ xs, o ≠ HO.lst xs) → H b = some o → H' b = some o
theorem Stay.refl (H : Hp) : Stay H H := fun _ _ _ h => h
theorem Stay.trans {H H1 H2 : Hp} (x : Stay H H1) (y : Stay H1 H2) : Stay H H2 := fun b o n h => y b o n (x b o n h)
theorem Stay.of_same {H H' : Hp} (h : Same H H') : Stay H H' := fun b o _ e => h b o e
theorem Keep.stay {a c : Addr} {H H' : Hp} {k : Int} (kp : Keep a c H H') (d : Deck H a c k) : Stay H H' := by
  intro b o n e
  obtain ⟨ns, j, h1, h2, h3, h4, h5, h6⟩ := d
  refine kp b o ?_ ?_ e
  · intro z
    subst z
    rw [h2] at e
    exact n _ (Option.some.inj e).symm
  · intro z
    subst z
    rw [h3] at e
    exact n _ (Option.some.inj e).symm
theorem PairsAt.stay {H H' : Hp} {as : List Addr} {tl : List (Int × Int)} (h : PairsAt H as tl) (s : Stay H H') : PairsAt H' as tl :=
  Paired.mono (fun _ _ e => s _ _ (by intro xs z; cases z) e) h
theorem ToolAt.stay {H H' : Hp} {a : Addr} {tl : List (Int × Int)} (h : ToolAt H a tl) (s : Stay H H') : ToolAt H' a tl := by
  obtain ⟨o, as, h1, h2, h3⟩ := h
  exact ⟨o, as, s _ _ (by intro xs z; cases z) h1, h2, h3.stay s⟩
def spTool : Sp := fun vs H Q _ => ∃ (a c : Addr) (k m : Int), vs = [.ref a, .int m] ∧ Deck H a c k ∧ k + 30 ≤ 1000000 ∧ 1 ≤ m ∧ m ≤ 60 ∧
  ∀ (t : Addr) (tl : List (Int × Int)) (H' : Hp), IsTool m tl → ToolAt H' t tl → Deck H' a c (k + 30) → Keep a c H H' → Q (.ref t) H'
/-- a step after which a tool may repeat -/
def Good (m d : Int) : Prop := 1 ≤ d ∧ d ≤ m ∧ m % d = 0 ∧ m / d < 13
theorem good_self {m : Int} (h : 1 ≤ m) : Good m m := ⟨h, Int.le_refl _, Int.emod_self, by rw [Int.ediv_self (by omega)]; decide⟩
theorem Good.mul {m d : Int} (g : Good m d) : m = d * (m / d) := by
  have h := Int.mul_ediv_add_emod m d
  rw [g.2.2.1, Int.add_zero] at h
  exact h.symm
theorem Good.lim {m d : Int} (g : Good m d) (h : 1 ≤ m) : 1 ≤ 12 * d / m := by
  have h1 := g.mul
  have h2 : m / d ≤ 12 := by have := g.2.2.2; omega
  have h3 : d * (m / d) ≤ d * 12 := Int.mul_le_mul_of_nonneg_left h2 (by have := g.1; omega)
  exact (Int.le_ediv_iff_mul_le (by omega)).mpr (by omega)
theorem Good.many {m d n : Int} (g : Good m d) (h : 1 ≤ m) (hn : n ≤ 12 * d / m) : n * (m / d) ≤ 12 := by
  have h0 := g.1
  have h1 := g.mul
  have h2 : n * m ≤ 12 * d := (Int.le_ediv_iff_mul_le (by omega)).mp hn
  have h3 : d * (n * (m / d)) ≤ d * 12 := by
    have e : d * (n * (m / d)) = n * (d * (m / d)) := by rw [← Int.mul_assoc, Int.mul_comm d n, Int.mul_assoc]
    rw [e, ← h1]
    omega
  exact Int.le_of_mul_le_mul_left h3 (by omega)
theorem small60 : ∀ m < 61, ∀ d < 61, 1 ≤ d → Builtin.Range.small 0 ((m : Nat) : Int) ((d : Nat) : Int) = true := by decide +kernel
theorem size60 : ∀ m < 61, ∀ d < 61, 1 ≤ d → 1 ≤ m → m % d = 0 → Builtin.Range.rangeSize 0 ((m : Nat) : Int) ((d : Nat) : Int) = (((m / d : Nat)) : Int) := by decide +kernel
theorem Good.rgc {m d : Int} (g : Good m d) (h1 : 1 ≤ m) (h2 : m ≤ 60) : RgC 0 m d (m / d).toNat := by
  obtain ⟨g1, g2, g3, g4⟩ := g
  have em : m = ((m.toNat : Nat) : Int) := by omega
  have ed : d = ((d.toNat : Nat) : Int) := by omega
  have e3 : m.toNat % d.toNat = 0 := by
    have : ((m.toNat % d.toNat : Nat) : Int) = 0 := by rw [Int.natCast_emod, ← em, ← ed]; exact g3
    omega
  have e4 : (m / d).toNat = m.toNat / d.toNat := by
    have : ((m.toNat / d.toNat : Nat) : Int) = m / d := by rw [Int.natCast_ediv, ← em, ← ed]
    rw [← this]
    exact Int.toNat_natCast _
  refine ⟨by omega, by omega, ?_, ?_⟩
  · rw [em, ed]
    exact small60 _ (by omega) _ (by omega) (by omega)
  · rw [e4, em, ed, size60 _ (by omega) _ (by omega) (by omega) (by omega) e3]
    rfl
/-- the pairs before the shift -/
structure Raw (m d : Int) (bs ts : List Int) (i j : Nat) (raw : List (Int × Int)) : Prop where
  asc : raw.Pairwise (fun x y => x.1 < y.1 ∧ x.2 < y.2)
  low : ∀ x ∈ raw, 0 ≤ x.1 ∧ 0 ≤ x.2
  bnd : ∀ x ∈ raw, (x.1 < i * d ∧ x.2 < i * d) ∨ ∃ k b t, k < j ∧ bs[k]? = some b ∧ ts[k]? = some t ∧ x = (i * d + b, i * d + t)
theorem Raw.nil {m d : Int} {bs ts : List Int} : Raw m d bs ts 0 0 [] := ⟨.nil, fun x h => (List.not_mem_nil h).elim, fun x h => (List.not_mem_nil h).elim⟩
theorem pw_get {l : List Int} (h : l.Pairwise (· < ·)) {i j : Nat} {x y : Int} (hx : l[i]? = some x) (hy : l[j]? = some y) (hij : i < j) : x < y := by
  obtain ⟨hi, ei⟩ := List.getElem?_eq_some_iff.mp hx
  obtain ⟨hj, ej⟩ := List.getElem?_eq_some_iff.mp hy
  have := List.pairwise_iff_getElem.mp h i j hi hj hij
  omega
theorem Raw.add {m d : Int} {bs ts : List Int} {i j : Nat} {raw : List (Int × Int)} (r : Raw m d bs ts i j raw) (hb : bs.Pairwise (· < ·)) (ht : ts.Pairwise (· < ·))
    {b t : Int} (eb : bs[j]? = some b) (et : ts[j]? = some t) (b0 : 0 ≤ b) (t0 : 0 ≤ t) (d0 : 0 ≤ d) : Raw m d bs ts i (j + 1) (raw ++ [(i * d + b, i * d + t)]) := by
  have hid : 0 ≤ (i : Int) * d := Int.mul_nonneg (by omega) d0
  refine ⟨?_, ?_, ?_⟩
  · rw [List.pairwise_append]
    refine ⟨r.asc, List.pairwise_singleton _ _, fun x hx y hy => ?_⟩
    rw [List.mem_singleton] at hy
    subst hy
    rcases r.bnd x hx with ⟨h1, h2⟩ | ⟨k, b', t', hk, h1, h2, e⟩
    · exact ⟨by show x.1 < i * d + b; omega, by show x.2 < i * d + t; omega⟩
    · subst e
      have q1 := pw_get hb h1 eb hk
      have q2 := pw_get ht h2 et hk
      exact ⟨by show i * d + b' < i * d + b; omega, by show i * d + t' < i * d + t; omega⟩
  · intro x hx
    rcases List.mem_append.mp hx with h | h
    · exact r.low x h
    · rw [List.mem_singleton] at h
      subst h
      exact ⟨by show 0 ≤ i * d + b; omega, by show 0 ≤ i * d + t; omega⟩
  · intro x hx
    rcases List.mem_append.mp hx with h | h
    · rcases r.bnd x h with z | ⟨k, b', t', hk, h1, h2, e⟩
      · exact .inl z
      · exact .inr ⟨k, b', t', by omega, h1, h2, e⟩
    · rw [List.mem_singleton] at h
      exact .inr ⟨j, b, t, by omega, eb, et, h⟩
theorem Raw.next {m d : Int} {bs ts : List Int} {i j : Nat} {raw : List (Int × Int)} (r : Raw m d bs ts i j raw) (hb : ∀ x ∈ bs, 0 ≤ x ∧ x < d) (ht : ∀ x ∈ ts, 0 ≤ x ∧ x < d) (d0 : 0 ≤ d) :
    Raw m d bs ts (i + 1) 0 raw := by
  have e1 : ((i + 1 : Nat) : Int) * d = i * d + d := by
    rw [Int.natCast_add, Int.add_mul]
    omega
  refine ⟨r.asc, r.low, fun x hx => .inl ?_⟩
  rw [e1]
  rcases r.bnd x hx with ⟨h1, h2⟩ | ⟨k, b', t', hk, h1, h2, e⟩
  · omega
  · subst e
    have q1 := hb b' (List.mem_of_getElem? h1)
    have q2 := ht t' (List.mem_of_getElem? h2)
    exact ⟨by show i * d + b' < i * d + d; omega, by show i * d + t' < i * d + d; omega⟩
theorem sub_mod_shift (m s u v : Int) : ((u + s) % m - (v + s) % m) % m = (u - v) % m := by
  rw [Int.sub_emod, Int.emod_emod_of_dvd _ (Int.dvd_refl m), Int.emod_emod_of_dvd _ (Int.dvd_refl m), ← Int.sub_emod]
  congr 1
  omega
theorem tool_of_raw {m s : Int} {raw : List (Int × Int)} (h2 : 2 ≤ raw.length) (h12 : raw.length ≤ 12) (asc : raw.Pairwise (fun x y => x.1 < y.1 ∧ x.2 < y.2))
    (bd : ∀ x ∈ raw, (0 ≤ x.1 ∧ x.1 < m) ∧ 0 ≤ x.2 ∧ x.2 < m) : IsTool m (raw.map fun x => (x.1, (x.2 + s) % m)) := by
  have hm : 0 < m := by
    match raw, h2 with
    | x :: _, _ =>
      have := bd x List.mem_cons_self
      omega
  refine ⟨by rw [List.length_map]; omega, by rw [List.length_map]; exact h12, ?_, ?_, ?_, ?_⟩
  · intro p hp
    rw [List.mem_map] at hp
    obtain ⟨x, hx, e⟩ := hp
    subst e
    exact ⟨(bd x hx).1, Int.emod_nonneg _ (by omega), Int.emod_lt_of_pos _ hm⟩
  · rw [List.pairwise_map]
    exact asc.imp fun {a b} z => z.1
  · rw [List.pairwise_map]
    match raw, h2 with
    | x0 :: r, _ =>
      have hmin : ∀ y ∈ x0 :: r, x0.2 ≤ y.2 := by
        intro y hy
        rcases List.mem_cons.mp hy with z | z
        · rw [z]
          exact Int.le_refl _
        · have := (List.pairwise_cons.mp asc).1 y z
          omega
      have hb0 := bd x0 List.mem_cons_self
      refine List.Pairwise.imp_of_mem ?_ asc
      intro a b ha hb hab
      show ((a.2 + s) % m - (x0.2 + s) % m) % m < ((b.2 + s) % m - (x0.2 + s) % m) % m
      rw [sub_mod_shift, sub_mod_shift]
      have q1 := hmin a ha
      have q2 := hmin b hb
      have q3 := bd a ha
      have q4 := bd b hb
      rw [Int.emod_eq_of_lt (by omega) (by omega), Int.emod_eq_of_lt (by omega) (by omega)]
      omega
  · intro e
    rw [List.length_map] at e
    omega
theorem tool_of_one {m t : Int} (h0 : 0 ≤ t) (h1 : t < m) : IsTool m [(0, t)] := by
  refine ⟨Nat.le_refl _, by show 1 ≤ 12; decide, ?_, List.pairwise_singleton _ _, List.pairwise_singleton _ _, ?_⟩
  · intro p hp
    rw [List.mem_singleton] at hp
    subst hp
    exact ⟨⟨Int.le_refl _, by show 0 < m; omega⟩, h0, h1⟩
  · intro _ p hp
    rw [List.mem_singleton] at hp
    subst hp
    rfl

/-! ### comprehensions that change nothing -/
section
variable {K : PySem.W.Frag} {j : Nat} {tt : TT} {te : TE} {vs : List Nat} {σ : L2.St} {H1 : Hp} {D : Addr} {Qd : Hp → Prop}
theorem filter_range_succ {β : Type} (b : Nat → Bool) (f : Nat → β) (i : Nat) :
    ((List.range (i + 1)).filter b).map f = ((List.range i).filter b).map f ++ (if b i = true then [f i] else []) := by
  rw [List.range_succ, List.filter_append, List.map_append]
  congr 1
  by_cases h : b i = true
  · rw [if_pos h, List.filter_cons_of_pos h]
    rfl
  · rw [if_neg h, List.filter_cons_of_neg h]
    rfl
theorem filter_len {β : Type} (b : Nat → Bool) (f : Nat → β) (i : Nat) : (((List.range i).filter b).map f).length ≤ i := by
  rw [List.length_map]
  exact Nat.le_trans (List.length_filter_le _ _) (by rw [List.length_range]; exact Nat.le_refl _)
theorem lc_turn {g : V} (b : Nat → Bool) (f : Nat → V) (nD : H1 D = none) {i n : Nat} (hin : i < n) (hn : n ≤ 100000) {H : Hp}
    (hs : Same H1 H) (hD : H D = some (.lst (((List.range i).filter b).map f)))
    (hw : wipe ((wipe σ vs).set j (some g)) vs = wipe σ vs)
    (ht : ∀ (H : Hp) (Q : Bool → Hp → Prop), Same H1 H → (∀ H', Same H H' → Q (b i) H') → tt ((wipe σ vs).set j (some g)) H Q)
    (he : b i = true → ∀ (H : Hp) (Q : VK), Same H1 H → (∀ H', Same H H' → Q (f i) H') → te ((wipe σ vs).set j (some g)) H Q) :
    gName j g (wipe σ vs) H fun σ2 H2 => wipe σ2 vs = wipe σ vs ∧ tt σ2 H2 fun b' H3 => if b' = true then te σ2 H3 fun y H4 =>
      ∃ acc, H4 D = some (.lst acc) ∧ acc.length < sizeLine ∧ (Same H1 (upd H4 D (.lst (acc ++ [y]))) ∧
        upd H4 D (.lst (acc ++ [y])) D = some (.lst (((List.range (i + 1)).filter b).map f)))
      else Same H1 H3 ∧ H3 D = some (.lst (((List.range (i + 1)).filter b).map f)) := by
  refine ⟨hw, ht H _ hs fun H2 s2 => ?_⟩
  have hD2 := s2 _ _ hD
  have hs2 := hs.trans s2
  by_cases hb : b i = true
  · rw [if_pos hb]
    refine he hb H2 _ hs2 fun H3 s3 => ?_
    refine ⟨_, s3 _ _ hD2, ?_, ?_, ?_⟩
    · have := filter_len b f i
      exact Nat.lt_of_le_of_lt this (Nat.lt_trans hin (Nat.lt_of_le_of_lt hn (by decide)))
    · intro x o e
      rw [upd_ne (ne_of_none e nD)]
      exact s3 _ _ (hs2 _ _ e)
    · rw [upd_same, filter_range_succ, if_pos hb]
  · rw [if_neg hb]
    refine ⟨hs2, ?_⟩
    rw [filter_range_succ, if_neg hb, List.append_nil]
    exact hD2
theorem lcR {lo : Int} {n : Nat} (b : Nat → Bool) (f : Nat → V) (hn : n ≤ 100000) (nD : H1 D = none)
    (hw : ∀ v, wipe ((wipe σ vs).set j (some v)) vs = wipe σ vs)
    (ht : ∀ (i : Nat) (H : Hp) (Q : Bool → Hp → Prop), i < n → Same H1 H → (∀ H', Same H H' → Q (b i) H') → tt ((wipe σ vs).set j (some (.int (lo + i)))) H Q)
    (he : ∀ (i : Nat) (H : Hp) (Q : VK), i < n → b i = true → Same H1 H → (∀ H', Same H H' → Q (f i) H') → te ((wipe σ vs).set j (some (.int (lo + i)))) H Q)
    (hd : ∀ H', Same H1 H' → H' D = some (.lst (((List.range n).filter b).map f)) → Qd H') :
    ∃ W : Nat → Nat → Hp → Prop, (∃ m, W 0 m (upd H1 D (.lst []))) ∧ ∀ i m H, W i m H → ((Itr lo n).stop i H ∧ Qd H) ∨ ((Itr lo n).go i H ∧
      ∃ Nx : Hp → Prop, (∀ H', Nx H' → ∃ m', m' < m ∧ W (i + 1) m' H') ∧ ∀ x H', (Itr lo n).yld i H x H' → gName j x (wipe σ vs) H' fun σ2 H2 =>
        wipe σ2 vs = wipe σ vs ∧ tt σ2 H2 fun b H3 => if b = true then te σ2 H3 fun y H4 => ∃ acc, H4 D = some (.lst acc) ∧ acc.length < sizeLine ∧ Nx (upd H4 D (.lst (acc ++ [y]))) else Nx H3) := by
  refine lc_range (fun i H => Same H1 H ∧ H D = some (.lst (((List.range i).filter b).map f))) ⟨same_upd nD, upd_same⟩ ?_ (fun H h => hd H h.1 h.2)
  intro i H hi h
  exact lc_turn b f nD hi hn h.1 h.2 (hw _) (fun H Q => ht i H Q hi) (fun hb H Q => he i H Q hi hb)
theorem lcL {a : Addr} {xs : List V} (b : Nat → Bool) (f : Nat → V) (hn : xs.length ≤ 100000) (nD : H1 D = none) (hx : SqL K H1 a xs)
    (hw : ∀ v, wipe ((wipe σ vs).set j (some v)) vs = wipe σ vs)
    (ht : ∀ (i : Nat) (x : V) (H : Hp) (Q : Bool → Hp → Prop), xs[i]? = some x → Same H1 H → (∀ H', Same H H' → Q (b i) H') → tt ((wipe σ vs).set j (some x)) H Q)
    (he : ∀ (i : Nat) (x : V) (H : Hp) (Q : VK), xs[i]? = some x → b i = true → Same H1 H → (∀ H', Same H H' → Q (f i) H') → te ((wipe σ vs).set j (some x)) H Q)
    (hd : ∀ H', Same H1 H' → H' D = some (.lst (((List.range xs.length).filter b).map f)) → Qd H') :
    ∃ W : Nat → Nat → Hp → Prop, (∃ m, W 0 m (upd H1 D (.lst []))) ∧ ∀ i m H, W i m H → ((Itl K a).stop i H ∧ Qd H) ∨ ((Itl K a).go i H ∧
      ∃ Nx : Hp → Prop, (∀ H', Nx H' → ∃ m', m' < m ∧ W (i + 1) m' H') ∧ ∀ x H', (Itl K a).yld i H x H' → gName j x (wipe σ vs) H' fun σ2 H2 =>
        wipe σ2 vs = wipe σ vs ∧ tt σ2 H2 fun b H3 => if b = true then te σ2 H3 fun y H4 => ∃ acc, H4 D = some (.lst acc) ∧ acc.length < sizeLine ∧ Nx (upd H4 D (.lst (acc ++ [y]))) else Nx H3) := by
  refine lc_list (xs := xs) (fun i H => Same H1 H ∧ H D = some (.lst (((List.range i).filter b).map f))) ⟨same_upd nD, upd_same⟩ (fun i H _ h => h.1.seq hx) ?_ (fun H h => hd H h.1 h.2)
  intro i x H hi h
  have hlt : i < xs.length := (List.getElem?_eq_some_iff.mp hi).1
  exact lc_turn b f nD hlt hn h.1 h.2 (hw _) (fun H Q => ht i x H Q hi) (fun hb H Q => he i x H Q hi hb)
theorem same_tup {H H' : Hp} {a : Addr} {xs : List V} (e : Same H H') (h : SqT K H a xs) : SqT K H' a xs := by
  rcases h with (h | ⟨o, h⟩) | h
  · exact .inl (.inl (e _ _ h))
  · exact .inl (.inr ⟨o, e _ _ h⟩)
  · exact .inr h
theorem lcT {a : Addr} {xs : List V} (b : Nat → Bool) (f : Nat → V) (hn : xs.length ≤ 100000) (nD : H1 D = none) (hx : SqT K H1 a xs)
    (hw : ∀ v, wipe ((wipe σ vs).set j (some v)) vs = wipe σ vs)
    (ht : ∀ (i : Nat) (x : V) (H : Hp) (Q : Bool → Hp → Prop), xs[i]? = some x → Same H1 H → (∀ H', Same H H' → Q (b i) H') → tt ((wipe σ vs).set j (some x)) H Q)
    (he : ∀ (i : Nat) (x : V) (H : Hp) (Q : VK), xs[i]? = some x → b i = true → Same H1 H → (∀ H', Same H H' → Q (f i) H') → te ((wipe σ vs).set j (some x)) H Q)
    (hd : ∀ H', Same H1 H' → H' D = some (.lst (((List.range xs.length).filter b).map f)) → Qd H') :
    ∃ W : Nat → Nat → Hp → Prop, (∃ m, W 0 m (upd H1 D (.lst []))) ∧ ∀ i m H, W i m H → ((Itt K a).stop i H ∧ Qd H) ∨ ((Itt K a).go i H ∧
      ∃ Nx : Hp → Prop, (∀ H', Nx H' → ∃ m', m' < m ∧ W (i + 1) m' H') ∧ ∀ x H', (Itt K a).yld i H x H' → gName j x (wipe σ vs) H' fun σ2 H2 =>
        wipe σ2 vs = wipe σ vs ∧ tt σ2 H2 fun b H3 => if b = true then te σ2 H3 fun y H4 => ∃ acc, H4 D = some (.lst acc) ∧ acc.length < sizeLine ∧ Nx (upd H4 D (.lst (acc ++ [y]))) else Nx H3) := by
  refine lc_tup (xs := xs) (fun i H => Same H1 H ∧ H D = some (.lst (((List.range i).filter b).map f))) ⟨same_upd nD, upd_same⟩ (fun i H _ h => same_tup h.1 hx) ?_ (fun H h => hd H h.1 h.2)
  intro i x H hi h
  have hlt : i < xs.length := (List.getElem?_eq_some_iff.mp hi).1
  exact lc_turn b f nD hlt hn h.1 h.2 (hw _) (fun H Q => ht i x H Q hi) (fun hb H Q => he i x H Q hi hb)
end
theorem ffalse {β : Type} (f : Nat → β) (n : Nat) : ((List.range n).filter fun _ => true).map f = (List.range n).map f := by
  rw [List.filter_eq_self.mpr fun _ _ => rfl]

/-! ### what a tool does to a place -/
def tgtFrom (p : Int) : Int → List (Int × Int) → Int
  | f, [] => f
  | f, bt :: r => tgtFrom p (if bt.1 ≤ p then bt.2 else f) r
def tgt (tl : List (Int × Int)) (p : Int) : Int := tgtFrom p (tl.getLastD (0, 0)).2 tl
theorem tgtFrom_snoc (p : Int) (bt : Int × Int) : ∀ (l : List (Int × Int)) (f : Int), tgtFrom p f (l ++ [bt]) = if bt.1 ≤ p then bt.2 else tgtFrom p f l
  | [], f => rfl
  | x :: l, f => tgtFrom_snoc p bt l _
theorem tgtFrom_none (p : Int) : ∀ (l : List (Int × Int)) (f : Int), (∀ x ∈ l, ¬ x.1 ≤ p) → tgtFrom p f l = f
  | [], f, _ => rfl
  | x :: l, f, h => by
    unfold tgtFrom
    rw [if_neg (h x List.mem_cons_self)]
    exact tgtFrom_none p l f fun y hy => h y (List.mem_cons_of_mem _ hy)
theorem tgtFrom_congr {p p' : Int} : ∀ (l : List (Int × Int)) (f : Int), (∀ x ∈ l, (x.1 ≤ p ↔ x.1 ≤ p')) → tgtFrom p f l = tgtFrom p' f l
  | [], f, _ => rfl
  | x :: l, f, h => by
    unfold tgtFrom
    have e : (if x.1 ≤ p then x.2 else f) = (if x.1 ≤ p' then x.2 else f) := by
      by_cases z : x.1 ≤ p
      · rw [if_pos z, if_pos ((h x List.mem_cons_self).mp z)]
      · rw [if_neg z, if_neg fun q => z ((h x List.mem_cons_self).mpr q)]
    rw [e]
    exact tgtFrom_congr l _ fun y hy => h y (List.mem_cons_of_mem _ hy)
theorem tgtFrom_all (p : Int) : ∀ (l : List (Int × Int)) (f : Int) (hl : l ≠ []), (∀ x ∈ l, x.1 ≤ p) → tgtFrom p f l = (l.getLastD (0, 0)).2
  | [x], f, _, h => by
    unfold tgtFrom
    rw [if_pos (h x List.mem_cons_self)]
    rfl
  | x :: y :: l, f, _, h => by
    unfold tgtFrom
    rw [tgtFrom_all p (y :: l) _ (List.cons_ne_nil _ _) fun z hz => h z (List.mem_cons_of_mem _ hz)]
    rfl
theorem tgtFrom_hit {p t : Int} : ∀ (l : List (Int × Int)) (f : Int), l.Pairwise (fun x y => x.1 < y.1) → (p, t) ∈ l → tgtFrom p f l = t
  | x :: l, f, asc, h => by
    unfold tgtFrom
    have ac := List.pairwise_cons.mp asc
    rcases List.mem_cons.mp h with e | e
    · subst e
      rw [if_pos (show p ≤ p from Int.le_refl _)]
      exact tgtFrom_none p l t fun y hy => by have := ac.1 y hy; show ¬ y.1 ≤ p; omega
    · exact tgtFrom_hit l _ ac.2 e
theorem tgt_rng {m : Int} {tl : List (Int × Int)} (h : IsTool m tl) (p : Int) : 0 ≤ tgt tl p ∧ tgt tl p < m := by
  have hl : tl ≠ [] := fun e => by
    have := h.len1
    rw [e, List.length_nil] at this
    omega
  have key : ∀ (l : List (Int × Int)) (f : Int), (∀ x ∈ l, 0 ≤ x.2 ∧ x.2 < m) → 0 ≤ f ∧ f < m → 0 ≤ tgtFrom p f l ∧ tgtFrom p f l < m := by
    intro l
    induction l with
    | nil => exact fun f _ hf => hf
    | cons x l ih =>
      intro f hx hf
      unfold tgtFrom
      apply ih
      · exact fun y hy => hx y (List.mem_cons_of_mem _ hy)
      · split
        · exact hx x List.mem_cons_self
        · exact hf
  apply key
  · exact fun x hx => (h.rng x hx).2
  · have e : tl.getLastD (0, 0) = tl.getLast hl := by
      cases tl with
      | nil => exact absurd rfl hl
      | cons x l => exact List.getLastD_cons .. |>.trans (by rw [List.getLast_eq_getLastD])
    rw [e]
    exact (h.rng _ (List.getLast_mem hl)).2
theorem getLastD_eq {tl : List (Int × Int)} (h : tl ≠ []) : tl[tl.length - 1]? = some (tl.getLastD (0, 0)) := by
  cases tl with
  | nil => exact absurd rfl h
  | cons x l =>
    rw [← List.getLast?_eq_getElem?, List.getLastD_eq_getLast?]
    rw [List.getLast?_eq_some_getLast (List.cons_ne_nil x l)]
    rfl
theorem Paired.at {α β : Type} {F : α → β → Prop} : ∀ {l : List α} {r : List β}, Paired F l r → ∀ {i : Nat} {x : α}, l[i]? = some x → ∃ y, r[i]? = some y ∧ F x y
  | _, _, .nil, i, x, h => by simp at h
  | _, _, .cons h t, 0, x, e => by
    cases (Option.some.inj e)
    exact ⟨_, rfl, h⟩
  | _, _, .cons h t, i + 1, x, e => by
    obtain ⟨y, e1, e2⟩ := Paired.at t (i := i) (x := x) (by simpa using e)
    exact ⟨y, by simpa using e1, e2⟩
theorem PairsAt.get {H : Hp} {as : List Addr} {tl : List (Int × Int)} (h : PairsAt H as tl) {i : Nat} {v : V} (e : (as.map V.ref)[i]? = some v) :
    ∃ p bt, v = .ref p ∧ tl[i]? = some bt ∧ H p = some (.tup [.int bt.1, .int bt.2]) := by
  rw [List.getElem?_map] at e
  cases z : as[i]? with
  | none =>
    rw [z] at e
    cases e
  | some p =>
    rw [z] at e
    cases e
    obtain ⟨bt, e1, e2⟩ := Paired.at h z
    exact ⟨p, bt, rfl, e1, e2⟩
theorem atI_neg1 {α : Type} {xs : List α} {v : α} (h : xs[xs.length - 1]? = some v) : atI xs (-1) = some v := by
  have hp : 0 < xs.length := by
    have := (List.getElem?_eq_some_iff.mp h).1
    omega
  unfold atI ixN
  rw [if_neg (by decide), if_pos (by omega)]
  show xs[(-1 + (xs.length : Int)).toNat]? = some v
  have e : (-1 + (xs.length : Int)).toNat = xs.length - 1 := by omega
  rw [e]
  exact h
def spTarget_of : Sp := fun vs H Q _ => ∃ (m : V) (t : Addr) (tl : List (Int × Int)) (p : Int), vs = [m, .ref t, .int p] ∧ ToolAt H t tl ∧ tl ≠ [] ∧
  ∀ H', Same H H' → Q (.int (tgt tl p)) H'
def spLTarget : Sp := fun vs H Q _ => ∃ (m : Int) (t : Addr) (tl : List (Int × Int)) (p : Int), vs = [.int m, .ref t, .int p] ∧ ToolAt H t tl ∧ IsTool m tl ∧ 0 ≤ p ∧ p < m ∧
  ∀ H', Same H H' → Q (.int (tgt tl p)) H'
/-! ### the dict of a tool -/
def kvOf (bt : Int × Int) : Key × V := (.inl bt.1, .int bt.2)
theorem merge_cons (acc : List (Key × V)) (x : Key × V) (r : List (Key × V)) : mergeK acc (x :: r) = mergeK (putK acc x.1 x.2) r := rfl
theorem val_miss (p : Int) : ∀ (tl : List (Int × Int)) (acc : List (Key × V)), (∀ x ∈ tl, x.1 ≠ p) → valV (mergeK acc (tl.map kvOf)) (.inl p) = valV acc (.inl p)
  | [], acc, _ => rfl
  | x :: r, acc, h => by
    rw [List.map_cons, merge_cons, val_miss p r _ fun y hy => h y (List.mem_cons_of_mem _ hy), valV_put, if_neg]
    intro e
    exact h x List.mem_cons_self (Sum.inl.inj e).symm
theorem val_hit {p t : Int} : ∀ (tl : List (Int × Int)) (acc : List (Key × V)), tl.Pairwise (fun x y => x.1 < y.1) → (p, t) ∈ tl → valV (mergeK acc (tl.map kvOf)) (.inl p) = some (.int t)
  | x :: r, acc, asc, h => by
    have ac := List.pairwise_cons.mp asc
    rw [List.map_cons, merge_cons]
    rcases List.mem_cons.mp h with e | e
    · subst e
      rw [val_miss p r _ fun y hy => by have := ac.1 y hy; show y.1 ≠ p; omega, valV_put, if_pos (show (Sum.inl p : Key) = (kvOf (p, t)).1 from rfl)]
      rfl
    · exact val_hit r _ ac.2 e
theorem PairsAt.kvs {K : PySem.W.Frag} {H : Hp} : ∀ {as : List Addr} {tl : List (Int × Int)}, PairsAt H as tl → Paired (fun p kv => SqT K H p [kV kv.1, kv.2]) as (tl.map kvOf)
  | _, _, .nil => .nil
  | _, _, .cons h t => .cons (SqT.of h) (PairsAt.kvs t)
theorem back_lt {m p : Int} (h0 : 0 < p) (h1 : p < m) : (p - 1) % m = p - 1 := Int.emod_eq_of_lt (by omega) (by omega)
theorem back_zero {m : Int} (h : 1 ≤ m) : ((0 : Int) - 1) % m = m - 1 := by
  have e : (0 : Int) - 1 = (m - 1) + m * (-1) := by omega
  rw [e, Int.add_mul_emod_self_left]
  exact Int.emod_eq_of_lt (by omega) (by omega)
theorem tgt_back {m p : Int} {tl : List (Int × Int)} (h : IsTool m tl) (h0 : 0 ≤ p) (h1 : p < m) (nb : ∀ x ∈ tl, x.1 ≠ p) : tgt tl ((p - 1) % m) = tgt tl p := by
  have hl : tl ≠ [] := fun e => by
    have := h.len1
    rw [e, List.length_nil] at this
    omega
  by_cases hp : p = 0
  · subst hp
    rw [back_zero (by omega)]
    unfold tgt
    rw [tgtFrom_all _ tl _ hl fun x hx => by have := (h.rng x hx).1; omega, tgtFrom_none _ tl _ fun x hx => by
      have := (h.rng x hx).1
      have := nb x hx
      omega]
  · rw [back_lt (by omega) h1]
    unfold tgt
    exact tgtFrom_congr tl _ fun x hx => by
      have := nb x hx
      omega

/-! ### data that can be shown -/
structure Fine (d : PyData) (n e : Nat) : Prop where
  sh : d.showable = true
  nd : d.hasDict = false
  dp : d.depth ≤ e
  ln : d.shown.length ≤ n
theorem Fine.mono {d : PyData} {n n' e e' : Nat} (h : Fine d n e) (h1 : n ≤ n') (h2 : e ≤ e') : Fine d n' e' := ⟨h.sh, h.nd, Nat.le_trans h.dp h2, Nat.le_trans h.ln h1⟩
theorem fine_int {i : Int} (h : i.natAbs < 2 ^ 200) : Fine (.int i) 1921 0 := by
  have hl : i.natAbs.log2 < 1920 := by
    by_cases z : i.natAbs = 0
    · rw [z]
      decide
    · exact (Nat.log2_lt z).mpr (Nat.lt_trans h (Nat.pow_lt_pow_right (by decide) (by decide)))
  refine ⟨decide_eq_true hl, rfl, Nat.le_refl _, ?_⟩
  exact PyProof.Rows.int_text_len_1921 hl
theorem showableAll_of : ∀ {ds : List PyData}, (∀ d ∈ ds, d.showable = true) → PyData.showableAll ds = true
  | [], _ => rfl
  | d :: ds, h => by
    show (d.showable && PyData.showableAll ds) = true
    rw [h d List.mem_cons_self, showableAll_of fun x hx => h x (List.mem_cons_of_mem _ hx)]
    rfl
theorem hasDictAll_of : ∀ {ds : List PyData}, (∀ d ∈ ds, d.hasDict = false) → PyData.hasDictAll ds = false
  | [], _ => rfl
  | d :: ds, h => by
    show (d.hasDict || PyData.hasDictAll ds) = false
    rw [h d List.mem_cons_self, hasDictAll_of fun x hx => h x (List.mem_cons_of_mem _ hx)]
    rfl
theorem depthAll_of {e : Nat} : ∀ {ds : List PyData}, (∀ d ∈ ds, d.depth ≤ e) → PyData.depthAll ds ≤ e
  | [], _ => Nat.zero_le _
  | d :: ds, h => by
    show max d.depth (PyData.depthAll ds) ≤ e
    exact Nat.max_le.mpr ⟨h d List.mem_cons_self, depthAll_of fun x hx => h x (List.mem_cons_of_mem _ hx)⟩
theorem piled_of {n : Nat} : ∀ {ds : List PyData}, (∀ d ∈ ds, d.shown.length ≤ n) → piled (PyData.shownAll ds) ≤ ds.length * (n + 2)
  | [], _ => Nat.zero_le _
  | d :: ds, h => by
    show piled (d.shown :: PyData.shownAll ds) ≤ _
    rw [piled_cons, List.length_cons, Nat.add_mul, Nat.one_mul, Nat.add_comm]
    exact Nat.add_le_add (piled_of fun x hx => h x (List.mem_cons_of_mem _ hx)) (Nat.add_le_add_right (h d List.mem_cons_self) 2)
theorem listText_le : ∀ ts : List Str, (listText ts).length ≤ piled ts + 2
  | [] => by decide +kernel
  | t :: r => by
    have e : listText (t :: r) = textFrom 1 (("[" : Str) ++ ((if 0 > 0 then ", " else "" : String) : Str) ++ t) r ++ ("]" : Str) := rfl
    rw [e, strLen_append, textFrom_length_pos _ _ _ (by decide), strLen_append, strLen_append, piled_cons]
    have e1 : ("[" : Str).length = 1 := rfl
    have e2 : (((if 0 > 0 then ", " else "" : String)) : Str).length = 0 := rfl
    have e3 : ("]" : Str).length = 1 := rfl
    omega
theorem tupleText_le : ∀ ts : List Str, (tupleText ts).length ≤ piled ts + 3
  | [] => by decide +kernel
  | t :: r => by
    have j := join_length_add (t :: r) (List.cons_ne_nil _ _)
    have e : tupleText (t :: r) = ("(" : Str) ++ Str.join ", " (t :: r) ++ ((if (t :: r).length == 1 then ",)" else ")" : String) : Str) := rfl
    rw [e, strLen_append, strLen_append]
    have e1 : ("(" : Str).length = 1 := rfl
    have e2 : (((if (t :: r).length == 1 then ",)" else ")" : String)) : Str).length ≤ 2 := by
      split
      · exact Nat.le_refl _
      · exact Nat.le_succ _
    omega
theorem fine_list {ds : List PyData} {n e : Nat} (h : ∀ d ∈ ds, Fine d n e) : Fine (.list ds) (ds.length * (n + 2) + 2) (e + 1) := by
  refine ⟨showableAll_of fun d hd => (h d hd).sh, hasDictAll_of fun d hd => (h d hd).nd, Nat.succ_le_succ (depthAll_of fun d hd => (h d hd).dp), ?_⟩
  exact Nat.le_trans (listText_le _) (Nat.add_le_add_right (piled_of fun d hd => (h d hd).ln) 2)
theorem fine_tuple {ds : List PyData} {n e : Nat} (h : ∀ d ∈ ds, Fine d n e) : Fine (.tuple ds) (ds.length * (n + 2) + 3) (e + 1) := by
  refine ⟨showableAll_of fun d hd => (h d hd).sh, hasDictAll_of fun d hd => (h d hd).nd, Nat.succ_le_succ (depthAll_of fun d hd => (h d hd).dp), ?_⟩
  exact Nat.le_trans (tupleText_le _) (Nat.add_le_add_right (piled_of fun d hd => (h d hd).ln) 3)
/-- data that repr takes -/
def Shows (d : PyData) : Prop := Fine d 16000000 60
theorem Fine.shows {d : PyData} {n e : Nat} (h : Fine d n e) (h1 : n ≤ 16000000 := by decide) (h2 : e ≤ 60 := by decide) : Shows d := h.mono h1 h2
theorem Shows.le {d : PyData} (h : Shows d) : d.shown.length ≤ sizeLine := Nat.le_trans h.ln (by decide)
def intsD (ns : List Int) : PyData := .list (ns.map PyData.int)
theorem dp_ints {K : PySem.W.Frag} {H : Hp} : ∀ ns : List Int, DpAll K H (ns.map V.int) (ns.map PyData.int)
  | [] => .nil
  | n :: r => .cons (.int n) (dp_ints r)
theorem small_int {i : Int} (h : i.natAbs < 10 ^ 40) : i.natAbs < 2 ^ 200 := Nat.lt_of_lt_of_le h (by decide)
theorem ints_shows {ns : List Int} (hl : ns.length ≤ 2000) (h : ∀ n ∈ ns, n.natAbs < 2 ^ 200) : Shows (intsD ns) := by
  have f : Fine (intsD ns) ((ns.map PyData.int).length * (1921 + 2) + 2) (0 + 1) := fine_list fun d hd => by
    rw [List.mem_map] at hd
    obtain ⟨n, hn, e⟩ := hd
    subst e
    exact fine_int (h n hn)
  rw [List.length_map] at f
  exact f.mono (by omega) (by decide)
def pairD (p : Int × Int) : PyData := .tuple [.int p.1, .int p.2]
def toolD (tl : List (Int × Int)) : PyData := .tuple (tl.map pairD)
theorem dp_pairs {K : PySem.W.Frag} {H : Hp} : ∀ {as : List Addr} {tl : List (Int × Int)}, PairsAt H as tl → DpAll K H (as.map V.ref) (tl.map pairD)
  | _, _, .nil => .nil
  | _, _, .cons h t => .cons (.tup (SqT.of h) (.cons (.int _) (.cons (.int _) .nil))) (dp_pairs t)
theorem ToolAt.dp {K : PySem.W.Frag} {H : Hp} {a : Addr} {tl : List (Int × Int)} (h : ToolAt H a tl) : Dp K H (.ref a) (toolD tl) := by
  obtain ⟨o, as, h1, h2, h3⟩ := h
  exact .tup (.inl (.inr ⟨o, h1⟩)) (dp_pairs h3)
theorem tool_fine {m : Int} {tl : List (Int × Int)} (h : IsTool m tl) (hm : m ≤ 60) : Fine (toolD tl) 50000 2 := by
  have hp : ∀ d ∈ tl.map pairD, Fine d (2 * (1921 + 2) + 3) (0 + 1) := by
    intro d hd
    rw [List.mem_map] at hd
    obtain ⟨p, hp, e⟩ := hd
    subst e
    have r := h.rng p hp
    refine fine_tuple (ds := [.int p.1, .int p.2]) fun d hd => ?_
    rcases List.mem_cons.mp hd with z | z
    · rw [z]
      exact fine_int (small_int (by omega))
    · rw [List.mem_singleton.mp z]
      exact fine_int (small_int (by omega))
  have f := fine_tuple hp
  rw [List.length_map] at f
  refine f.mono ?_ (by decide)
  have := h.len2
  omega
/-- two things that are shown alike -/
def spSame (K : PySem.W.Frag) : Sp := fun vs H Q _ => ∃ (x y : Addr) (d : PyData), vs = [.ref x, .ref y] ∧ Dp K H (.ref x) d ∧ Dp K H (.ref y) d ∧ Shows d ∧ Q (.bl true) H
theorem pick3 {K : PySem.W.Frag} {t : Int} (h : 0 ≤ t) (x y z : Int) : ∃ v, atI [V.int x, V.int y, V.int z] (t % 3) = some (.int v) ∧ (v = x ∨ v = y ∨ v = z) := by
  have h1 : t % 3 = 0 ∨ t % 3 = 1 ∨ t % 3 = 2 := by omega
  rcases h1 with e | e | e
  · exact ⟨x, by rw [e]; rfl, .inl rfl⟩
  · exact ⟨y, by rw [e]; rfl, .inr (.inl rfl)⟩
  · exact ⟨z, by rw [e]; rfl, .inr (.inr rfl)⟩
theorem range_upto {β : Type} (f : Int → β) (m : Int) : (List.range m.toNat).map (fun i => f (0 + (i : Nat))) = (upto m).map f := by
  unfold upto
  rw [List.map_map]
  apply List.map_congr_left
  intro i _
  show f (0 + (i : Nat)) = f ((i : Nat) : Int)
  rw [Int.zero_add]
theorem range_ints (f : Int → Int) (m : Int) : (List.range m.toNat).map (fun i => V.int (f (0 + (i : Nat)))) = ((upto m).map f).map V.int := by
  rw [range_upto (fun z => V.int (f z)), List.map_map]
  rfl

theorem mod_of_eq {m x y q : Int} (h : x = y + m * q) : x % m = y % m := by
  rw [h, Int.add_mul_emod_self_left]
theorem mod_split (x m : Int) : x % m = x + m * (-(x / m)) := by
  have h := Int.mul_ediv_add_emod x m
  rw [Int.mul_neg]
  omega
theorem add_mod' (a b m : Int) : (a + b % m) % m = (a + b) % m := by
  apply mod_of_eq (q := -(b / m))
  rw [mod_split b m]
  omega
theorem mod_add' (a b m : Int) : (a % m + b) % m = (a + b) % m := by
  rw [Int.add_comm, add_mod', Int.add_comm]
theorem mod_sub' (a b m : Int) : (a % m - b) % m = (a - b) % m := by
  apply mod_of_eq (q := -(a / m))
  rw [mod_split a m]
  omega
theorem sub_mod' (a b m : Int) : (a - b % m) % m = (a - b) % m := by
  apply mod_of_eq (q := (b / m))
  rw [mod_split b m, Int.mul_neg]
  omega
theorem mem_arc' {m b l x : Int} (hm : 0 < m) (hl : l ≤ m) (hx0 : 0 ≤ x) (hx : x < m) : (x - b) % m < l ↔ ∃ k : Nat, (k : Int) < l ∧ x = (b + k) % m := by
  constructor
  · intro h
    have h0 := Int.emod_nonneg (x - b) (show m ≠ 0 by omega)
    refine ⟨((x - b) % m).toNat, by omega, ?_⟩
    have e : (((x - b) % m).toNat : Int) = (x - b) % m := by omega
    rw [e, add_mod', show b + (x - b) = x by omega, Int.emod_eq_of_lt hx0 hx]
  · intro ⟨k, hk, e⟩
    rw [e, mod_sub', show b + (k : Int) - b = k by omega, Int.emod_eq_of_lt (by omega) (by omega)]
    exact hk

/-! ### data stays -/
section
variable {K : PySem.W.Frag} {H H' : Hp}
mutual
theorem dp_same (s : Same H H') : ∀ (d : PyData) (v : V), Dp K H v d → Dp K H' v d
  | .none, _, h => by
    cases h
    exact .non
  | .bool b, _, h => by
    cases h
    exact .bl b
  | .int i, _, h => by
    cases h
    exact .int i
  | .str x, _, h => by
    cases h
    exact .str x
  | .list ds, _, h => by
    cases h with
    | lst hs ha => exact .lst (s.seq hs) (dpAll_same s ds _ ha)
  | .tuple ds, _, h => by
    cases h with
    | tup hs ha => exact .tup (same_tup s hs) (dpAll_same s ds _ ha)
  | .dict _, _, h => by cases h
theorem dpAll_same (s : Same H H') : ∀ (ds : List PyData) (vs : List V), DpAll K H vs ds → DpAll K H' vs ds
  | [], _, h => by
    cases h
    exact .nil
  | d :: ds, _, h => by
    cases h with
    | cons h1 h2 => exact .cons (dp_same s d _ h1) (dpAll_same s ds _ h2)
end
end
theorem dpAll_snoc {K : PySem.W.Frag} {H : Hp} {v : V} {d : PyData} (h : Dp K H v d) : ∀ {vs : List V} {ds : List PyData}, DpAll K H vs ds → DpAll K H (vs ++ [v]) (ds ++ [d])
  | _, _, .nil => .cons h .nil
  | _, _, .cons a b => .cons a (dpAll_snoc h b)
theorem dpAll_len {K : PySem.W.Frag} {H : Hp} : ∀ {vs : List V} {ds : List PyData}, DpAll K H vs ds → vs.length = ds.length
  | _, _, .nil => rfl
  | _, _, .cons _ b => congrArg Nat.succ (dpAll_len b)
/-! data without lists stays where what is no list stays -/
mutual
def noList : PyData → Bool
  | .none => true
  | .bool _ => true
  | .int _ => true
  | .str _ => true
  | .list _ => false
  | .tuple ds => noLists ds
  | .dict _ => false
def noLists : List PyData → Bool
  | [] => true
  | d :: ds => noList d && noLists ds
end
theorem stay_tup {K : PySem.W.Frag} {H H' : Hp} {a : Addr} {xs : List V} (e : Stay H H') (h : SqT K H a xs) : SqT K H' a xs := by
  rcases h with (h | ⟨o, h⟩) | h
  · exact .inl (.inl (e _ _ (by intro ys z; cases z) h))
  · exact .inl (.inr ⟨o, e _ _ (by intro ys z; cases z) h⟩)
  · exact .inr h
section
variable {K : PySem.W.Frag} {H H' : Hp}
mutual
theorem dp_stay (s : Stay H H') : ∀ (d : PyData) (v : V), noList d = true → Dp K H v d → Dp K H' v d
  | .none, _, _, h => by
    cases h
    exact .non
  | .bool b, _, _, h => by
    cases h
    exact .bl b
  | .int i, _, _, h => by
    cases h
    exact .int i
  | .str x, _, _, h => by
    cases h
    exact .str x
  | .list ds, _, z, h => by cases z
  | .tuple ds, _, z, h => by
    cases h with
    | tup hs ha => exact .tup (stay_tup s hs) (dpAll_stay s ds _ z ha)
  | .dict _, _, _, h => by cases h
theorem dpAll_stay (s : Stay H H') : ∀ (ds : List PyData) (vs : List V), noLists ds = true → DpAll K H vs ds → DpAll K H' vs ds
  | [], _, _, h => by
    cases h
    exact .nil
  | d :: ds, _, z, h => by
    have z : (noList d && noLists ds) = true := z
    rw [Bool.and_eq_true] at z
    cases h with
    | cons h1 h2 => exact .cons (dp_stay s d _ z.1 h1) (dpAll_stay s ds _ z.2 h2)
end
end
theorem noLists_of : ∀ {ds : List PyData}, (∀ d ∈ ds, noList d = true) → noLists ds = true
  | [], _ => rfl
  | d :: ds, h => by
    show (noList d && noLists ds) = true
    rw [h d List.mem_cons_self, noLists_of fun x hx => h x (List.mem_cons_of_mem _ hx)]
    rfl
theorem stay_list {H : Hp} {D : Addr} {us ws : List V} (h : H D = some (.lst us)) : Stay H (upd H D (.lst ws)) := by
  intro b o n e
  have : b ≠ D := by
    intro z
    subst z
    rw [h] at e
    exact n _ (Option.some.inj e).symm
  rw [upd_ne this]
  exact e
/-- a comprehension over a range whose elements are new data -/
theorem lcRD {K : PySem.W.Frag} {j : Nat} {te : TE} {vs : List Nat} {σ : L2.St} {H1 : Hp} {D : Addr} {Qd : Hp → Prop} {lo : Int} {n : Nat} (d : Nat → PyData) (hn : n ≤ 100000) (nD : H1 D = none)
    (nl : ∀ i, noList (d i) = true) (hw : ∀ v, wipe ((wipe σ vs).set j (some v)) vs = wipe σ vs)
    (he : ∀ (i : Nat) (H : Hp) (Q : VK), i < n → Same H1 H → (∀ v H', Same H H' → Dp K H' v (d i) → Q v H') → te ((wipe σ vs).set j (some (.int (lo + i)))) H Q)
    (hd : ∀ us H', Same H1 H' → H' D = some (.lst us) → DpAll K H' us ((List.range n).map d) → Qd H') :
    ∃ W : Nat → Nat → Hp → Prop, (∃ m, W 0 m (upd H1 D (.lst []))) ∧ ∀ i m H, W i m H → ((Itr lo n).stop i H ∧ Qd H) ∨ ((Itr lo n).go i H ∧
      ∃ Nx : Hp → Prop, (∀ H', Nx H' → ∃ m', m' < m ∧ W (i + 1) m' H') ∧ ∀ x H', (Itr lo n).yld i H x H' → gName j x (wipe σ vs) H' fun σ2 H2 =>
        wipe σ2 vs = wipe σ vs ∧ tYes σ2 H2 fun b H3 => if b = true then te σ2 H3 fun y H4 => ∃ acc, H4 D = some (.lst acc) ∧ acc.length < sizeLine ∧ Nx (upd H4 D (.lst (acc ++ [y]))) else Nx H3) := by
  refine lc_range (fun i H => ∃ us, Same H1 H ∧ H D = some (.lst us) ∧ DpAll K H us ((List.range i).map d)) ?_ ?_ ?_
  · exact ⟨[], same_upd nD, upd_same, .nil⟩
  · intro i H hi h
    obtain ⟨us, hs, hD, ha⟩ := h
    refine ⟨hw _, he i H _ hi hs fun v H' s' hv => ⟨us, s' _ _ hD, ?_, us ++ [v], ?_, upd_same, ?_⟩⟩
    · have := dpAll_len ha
      rw [List.length_map, List.length_range] at this
      rw [this]
      exact Nat.lt_trans hi (Nat.lt_of_le_of_lt hn (by decide))
    · intro x o e
      rw [upd_ne (ne_of_none e nD)]
      exact s' _ _ (hs _ _ e)
    · rw [List.range_succ, List.map_append]
      have st := stay_list (ws := us ++ [v]) (s' _ _ hD)
      refine dpAll_snoc (dp_stay st _ _ (nl i) hv) (dpAll_stay st _ _ (noLists_of fun z hz => ?_) (dpAll_same s' _ _ ha))
      rw [List.mem_map] at hz
      obtain ⟨q, _, e⟩ := hz
      rw [← e]
      exact nl q
  · intro H h
    obtain ⟨us, hs, hD, ha⟩ := h
    exact hd us H hs hD ha
def tupD (ns : List Int) : PyData := .tuple (ns.map PyData.int)
theorem tupD_fine {ns : List Int} (hl : ns.length ≤ 2000) (h : ∀ n ∈ ns, n.natAbs < 2 ^ 200) : Fine (tupD ns) 3900000 1 := by
  have f : Fine (tupD ns) ((ns.map PyData.int).length * (1921 + 2) + 3) (0 + 1) := fine_tuple fun d hd => by
    rw [List.mem_map] at hd
    obtain ⟨n, hn, e⟩ := hd
    subst e
    exact fine_int (h n hn)
  rw [List.length_map] at f
  exact f.mono (by omega) (by decide)
theorem noList_tupD (ns : List Int) : noList (tupD ns) = true := noLists_of fun d hd => by
  rw [List.mem_map] at hd
  obtain ⟨n, _, e⟩ := hd
  rw [← e]
  rfl
theorem noList_toolD (tl : List (Int × Int)) : noList (toolD tl) = true := noLists_of fun d hd => by
  rw [List.mem_map] at hd
  obtain ⟨n, _, e⟩ := hd
  rw [← e]
  rfl
theorem two_shows {d : PyData} {n e : Nat} (h : Fine d n e) (hn : n ≤ 7000000) (he : e ≤ 50) : Shows (.list [d, d]) := by
  have f : Fine (.list [d, d]) (2 * (n + 2) + 2) (e + 1) := fine_list (ds := [d, d]) fun x hx => by
    rcases List.mem_cons.mp hx with z | z
    · rw [z]
      exact h
    · rw [List.mem_singleton.mp z]
      exact h
  exact f.mono (by omega) (by omega)

/-! ### arcs -/
def inArc (m b l p : Int) : Bool := decide ((p - b) % m < l)
def spArc : Sp := fun vs H Q _ => ∃ (m b l p : Int), vs = [.int m, .int b, .int l, .int p] ∧ 0 < m ∧ Q (.bl (inArc m b l p)) H
def brought (m : Int) (tl : List (Int × Int)) (b l : Int) : List Int := (upto m).filter fun x => inArc m b l (tgt tl x)
def spBrought : Sp := fun vs H Q _ => ∃ (m b l : Int) (t : Addr) (tl : List (Int × Int)), vs = [.int m, .ref t, .int b, .int l] ∧ ToolAt H t tl ∧ tl ≠ [] ∧ 1 ≤ m ∧ m ≤ 60 ∧
  ∀ (p : Addr) (H' : Hp), Same H H' → H p = none → H' p = some (.tup ((brought m tl b l).map V.int)) → Q (.ref p) H'
theorem range_filter (f : Int → Bool) (m : Int) : ((List.range m.toNat).filter fun i => f (0 + (i : Nat))).map (fun i => V.int (0 + (i : Nat))) = ((upto m).filter f).map V.int := by
  unfold upto
  rw [List.filter_map, List.map_map]
  have e : (List.range m.toNat).filter (fun i => f (0 + (i : Nat))) = (List.range m.toNat).filter (f ∘ fun i => ((i : Nat) : Int)) := by
    apply List.filter_congr
    intro i _
    show f (0 + (i : Nat)) = f ((i : Nat) : Int)
    rw [Int.zero_add]
  rw [e]
  apply List.map_congr_left
  intro i _
  show V.int (0 + (i : Nat)) = V.int ((i : Nat) : Int)
  rw [Int.zero_add]

theorem inV_ints (x : Int) : ∀ ns : List Int, inV (.int x) (ns.map V.int) = true ↔ x ∈ ns
  | [] => ⟨fun h => (by cases h), fun h => (List.not_mem_nil h).elim⟩
  | n :: r => by
    have ih := inV_ints x r
    have e : inV (.int x) ((n :: r).map V.int) = ((n == x) || inV (.int x) (r.map V.int)) := rfl
    rw [e, Bool.or_eq_true, ih, List.mem_cons, beq_iff_eq]
    constructor
    · rintro (h | h)
      · exact .inl h.symm
      · exact .inr h
    · rintro (h | h)
      · exact .inl h.symm
      · exact .inr h
theorem flat_ints : ∀ ns : List Int, (ns.map V.int).all flatV = true
  | [] => rfl
  | n :: r => flat_ints r
def arcOf (m b l : Int) : List Int := (List.range l.toNat).map fun k => (b + (0 + (k : Nat))) % m
theorem arcOf_V (m b l : Int) : (List.range l.toNat).map (fun k => V.int ((b + (0 + (k : Nat))) % m)) = (arcOf m b l).map V.int := by
  unfold arcOf
  rw [List.map_map]
  rfl
theorem mem_arcOf {m b l x : Int} : x ∈ arcOf m b l ↔ ∃ k : Nat, (k : Int) < l ∧ x = (b + k) % m := by
  unfold arcOf
  rw [List.mem_map]
  constructor
  · intro ⟨k, hk, e⟩
    rw [List.mem_range] at hk
    exact ⟨k, by omega, by rw [← e, Int.zero_add]⟩
  · intro ⟨k, hk, e⟩
    exact ⟨k, by rw [List.mem_range]; omega, by rw [e, Int.zero_add]⟩
theorem in_arcOf {m b l x : Int} (hm : 0 < m) (hl : l ≤ m) (hx0 : 0 ≤ x) (hx : x < m) : inV (.int x) ((arcOf m b l).map V.int) = inArc m b l x := by
  have h1 := inV_ints x (arcOf m b l)
  rw [mem_arcOf, ← mem_arc' hm hl hx0 hx] at h1
  unfold inArc
  by_cases h : (x - b) % m < l
  · rw [decide_eq_true h, h1.mpr h]
  · rw [decide_eq_false h]
    cases e : inV (.int x) ((arcOf m b l).map V.int) with
    | false => rfl
    | true => exact absurd (h1.mp e) h
theorem brought_len (m : Int) (tl : List (Int × Int)) (b l : Int) : (brought m tl b l).length ≤ m.toNat := by
  unfold brought
  exact Nat.le_trans (List.length_filter_le _ _) (by rw [upto_len]; exact Nat.le_refl _)
theorem brought_mem {m : Int} {tl : List (Int × Int)} {b l x : Int} (h : x ∈ brought m tl b l) : 0 ≤ x ∧ x < m := by
  unfold brought at h
  exact upto_mem.mp (List.mem_filter.mp h).1

/-! ### sets of numbers by a comprehension -/
section
variable {X : Cx}
/-- what a set comprehension of numbers asks: D the new set -/
def tScI (w : World) (wi : TI) (g : TG) (tt : TT) (te : TE) (vs : List Nat) : TE := fun σ H Q =>
  wi σ H fun J H1 => ∀ D, H1 D = none →
    ∃ W : Nat → Nat → Hp → Prop, (∃ m, W 0 m (upd H1 D (SetO w D (fun _ => false) 0))) ∧
      ∀ i m H, W i m H → (J.stop i H ∧ Q (.ref D) H) ∨ (J.go i H ∧ ∃ Nx : Hp → Prop,
        (∀ H', Nx H' → ∃ m', m' < m ∧ W (i + 1) m' H') ∧
        ∀ x H', J.yld i H x H' → g x (wipe σ vs) H' fun σ2 H2 => wipe σ2 vs = wipe σ vs ∧
          tt σ2 H2 fun b H3 => if b = true then te σ2 H3 fun y H4 => ∃ (c : Int) (S : Int → Bool) (n : Nat),
            y = .int c ∧ H4 D = some (SetO w D S n) ∧ n + 1 < scanBound ∧
            Nx (upd H4 D (SetO w D (fun j => S j || decide (j = c)) (if S c = true then n else n + 1))) else Nx H3)
theorem pe_scI {elt tg iter : Expr} {ifs : List Expr} {scope : Scope} {own : List (Str × Nat)} {pos : Pos}
    {wi : TI} {g : TG} {tt : TT} {te : TE} (calm : X.calm = true) (nodup : X.N.Nodup) (walked : PI X tg iter wi)
    (blk : BlkOk X.N X.env.scope scope own)
    (gOk : ∀ (s : Shared) (H : Hp) (C : Addr) (cl : List (Str × Addr)) (fp : List Addr),
      PG (X.blk s H scope (compEnvC scope cl C X.env) fp) tg g)
    (tOk : ∀ (s : Shared) (H : Hp) (C : Addr) (cl : List (Str × Addr)) (fp : List Addr),
      PTs (X.blk s H scope (compEnvC scope cl C X.env) fp) ifs tt)
    (eOk : ∀ (s : Shared) (H : Hp) (C : Addr) (cl : List (Str × Addr)) (fp : List Addr),
      PE (X.blk s H scope (compEnvC scope cl C X.env) fp) elt te)
    (folded : ∀ x, foldedSetIterable iter X.env x = pure x := by intro _; rfl) :
    PE X (.SetComp elt [⟨tg, iter, ifs, 0⟩] scope pos) (tScI X.w wi g tt te (own.map (·.2))) := by
  constructor
  intro pins s σ H Q inv ask
  rw [PpSet.eval_SetComp]
  have caught : ∀ y ∈ scope.names, y.2 = .free → ∃ c, X.env.cells.lookup y.1 = some c := by
    intro y hy e
    cases blk.free y hy e with
    | inl k => exact inv.ok.has _ (.inl k)
    | inr k => exact inv.ok.has _ (.inr k)
  apply wpAny_comprehension_free (use := none) rfl folded (closure_ok caught) blk.kind
    (fun y hy e => by rw [blk.uniq y hy, e])
  refine thn (walked.run pins s σ H _ inv ask) fun xv sa ha => thn ha fun itv sb hb => ?_
  obtain ⟨it, fp, tn, J, Hb, e, invB, T, stB, fB, q⟩ := hb
  subst e
  apply PpSet.newSet_ok
  apply newEnv_comp
  generalize eD : sb.heap.objs.size = D
  have freeD : Hb D = none := invB.hok.fresh (Nat.le_of_eq eD)
  obtain ⟨W, ⟨m0, w0⟩, turn⟩ := q D freeD
  -- the set is laid
  generalize eC : ({ sb with heap := sb.heap.push { cls := .type "set", dict := none, data := .set #[] 0 (.fresh 0 0 (!X.w.params.followText "set-order")) } } : Shared) = sc
  have heapC : sc.heap = sb.heap.push { cls := .type "set", dict := none, data := .set #[] 0 (.fresh 0 0 (!X.w.params.followText "set-order")) } := by rw [← eC]
  have invC : L2.Inv X pins σ (upd Hb D (SetO X.w D (fun _ => false) 0)) sc := by
    rw [← eC]
    apply invB.laid (t' := sb.toks) (fun b o e => Heap.get?_push_of_some _ e) (Nat.le_of_eq eD)
    rw [← eD]
    exact setO_new (setR_fresh X.w)
  have below : ∀ b ∈ fp, b < sb.heap.objs.size := by
    intro b hb
    obtain ⟨o, e, _⟩ := T.obj _ _ stB b hb
    exact Heap.lt_size e
  have fC : ∀ b ∈ fp, FpOk X pins (upd Hb D (SetO X.w D (fun _ => false) 0)) b ∧ b < sc.heap.objs.size := by
    intro b hb
    have lt := below b hb
    constructor
    · refine ⟨?_, (fB b hb).2⟩
      rw [upd_ne (by rw [← eD]; exact Nat.ne_of_lt lt)]
      exact (fB b hb).1
    · rw [heapC, Heap.size_push]
      exact Nat.lt_succ_of_lt lt
  have stC : tn 0 sc.heap := by
    refine T.keep _ _ _ stB fun b _ o e => ?_
    rw [heapC]
    exact Heap.get?_push_of_some _ e
  have invD := block_start invC blk nodup fC
  have freeF : ∀ b ∈ fp, (upd Hb D (SetO X.w D (fun _ => false) 0)) b = none := fun b hb => (fC b hb).1.1
  generalize eH : upd Hb D (SetO X.w D (fun _ => false) 0) = Hc at invC invD w0 freeF fC
  generalize eCl : cellsFrom (sc.heap.objs.size + 1) scope.names (cloFrom X.env.cells scope.names []) = cl at invD
  have gR := gOk sc Hc sc.heap.objs.size cl fp
  have tR := tOk sc Hc sc.heap.objs.size cl fp
  have eR := eOk sc Hc sc.heap.objs.size cl fp
  show codeAny _ _ (.compStart (.SetComp elt [⟨tg, iter, ifs, 0⟩] scope pos) 0 (.ref it) (.ref D)
    (compEnvC scope cl sc.heap.objs.size X.env))
    (compPost (model X.prog X.w) X.A X.xe none (EP X pins σ Q) (.ref D) sc.heap.objs.size)
    { sc with heap := pushCells (sc.heap.push { cls := .type "dict", data := .dict #[] }) scope.names }
  generalize eE : compEnvC scope cl sc.heap.objs.size X.env = ce at invD gR tR eR
  have locE : ce.locals = sc.heap.objs.size := by rw [← eE]; rfl
  generalize eF : ({ sc with heap := pushCells (sc.heap.push { cls := .type "dict", data := .dict #[] }) scope.names } : Shared) = sd at invD
  have stD : tn 0 sd.heap := by
    refine T.keep _ _ _ stC fun b _ o e => ?_
    rw [← eF]
    exact pushCells_keeps _ _ _ _ (Heap.get?_push_of_some _ e)
  have still : ∀ {σ' : L2.St} {H' : Hp} {s' : Shared}, L2.Inv (X.blk sc Hc scope ce fp) [] σ' H' s' → (∀ b ∈ fp, H' b = none) →
      ∀ b ∈ fp, FpOk (X.blk sc Hc scope ce fp) [] H' b := by
    intro σ' H' s' I' hn b hb
    refine ⟨hn b hb, (I'.ok.exf b hb).1, I'.ok.exfs b hb, .inl hb, fun x c e => (I'.ok.exf b hb).2 x c e, fun p hp => ?_⟩
    exact absurd (show p ∈ ([] : List (Addr × Obj)) ++ [] from hp) (by simp)
  have loop : codeAny (model X.prog X.w) X.A (.compLoop (.SetComp elt [⟨tg, iter, ifs, 0⟩] scope pos) 0 (.ref it) (.ref D) ce)
      (compPost (model X.prog X.w) X.A X.xe none (EP X pins σ Q) (.ref D) sc.heap.objs.size) sd := by
    refine PpSet.compLoopS_any (fun n s' => ∃ i H', L2.Inv (X.blk sc Hc scope ce fp) [] (wipe σ (own.map (·.2))) H' s' ∧
      tn i s'.heap ∧ (∀ b ∈ fp, H' b = none) ∧ W i n H') ?_ m0 ⟨0, Hc, invD, stD, freeF, w0⟩
    intro n s5 h5
    obtain ⟨i, H5, I5, st5, n5, w5⟩ := h5
    cases turn i n H5 w5 with
    | inl hstop =>
      obtain ⟨stop, done⟩ := hstop
      refine thnF (T.done (X.blk sc Hc scope ce fp) rfl rfl rfl calm i [] s5 _ H5 (fun _ _ => False) I5 (still I5 n5) st5 stop) fun r s6 ⟨er, I6⟩ => ?_
      subst er
      have I7 : L2.Inv X pins σ H5 s6 := by
        refine invC.call' (ch := fp) I6.os I6.base I6.hok I6.bare fun b hb => ?_
        have z := (fC b hb).1.2
        exact ⟨z.2.2.1, z.1, z.2.2.2.1, z.2.2.2.2⟩
      have freeL : H5 sc.heap.objs.size = none := by
        have z := I6.free
        rw [show (X.blk sc Hc scope ce fp).env.locals = sc.heap.objs.size from locE] at z
        exact z
      obtain ⟨mm, hn, _⟩ := I6.loc
      rw [show (X.blk sc Hc scope ce fp).env.locals = sc.heap.objs.size from locE] at hn
      obtain ⟨f0, f1, f2, f3, f4, f5⟩ := invC.fpOk (Nat.le_refl _) freeL
      refine ⟨mm, hn, fun h'' sbut => ?_⟩
      exact ⟨.ref D, H5, I7.turned (t' := s6.toks) (fun b o hb e => (sbut.2 b hb).trans e) f0 f1 f3 f4 f5, rfl, done⟩
    | inr hgo =>
      obtain ⟨go, Nx, hNx, step⟩ := hgo
      refine thnF (T.item (X.blk sc Hc scope ce fp) rfl rfl rfl calm i [] s5 _ H5 (fun _ _ => False) I5 (still I5 n5) st5 go) fun r s6 ⟨u, er, h6⟩ => ?_
      subst er
      refine thnF h6 fun _ s7 ⟨x, H7, I7, r7, y7, st7, n7⟩ => ?_
      refine thnF (gR.run _ s7 _ H7 x u _ (I7.pinned (still I7 n7) (T.obj _ _ st7)) r7 (step x H7 y7)) fun _ s8 ⟨σ8, H8, I8, hw8, q8⟩ => ?_
      refine thnF (tR.run _ s8 σ8 H8 _ I8 q8) fun b s9 ⟨H9, I9, q9⟩ => ?_
      have onward : ∀ {s' : Shared} {H' : Hp}, L2.Inv (X.blk sc Hc scope ce fp) ([] ++ pinsAt fp s7.heap) σ8 H' s' → Nx H' →
          ∃ m, m < n ∧ ∃ i H', L2.Inv (X.blk sc Hc scope ce fp) [] (wipe σ (own.map (·.2))) H' s' ∧ tn i s'.heap ∧
            (∀ b ∈ fp, H' b = none) ∧ W i m H' := by
        intro s' H' I' nx
        obtain ⟨m', hm, w'⟩ := hNx H' nx
        have pin' : ∀ b ∈ fp, ∀ o, s7.heap.get? b = some o → s'.heap.get? b = some o ∧ H' b = none := by
          intro b hb o e
          have z := I'.pin (b, o) (List.mem_append_right _ (List.mem_append_right _ (mem_pinsAt hb e)))
          exact ⟨z.1, z.2.1⟩
        have hlen : (wipe σ (own.map (·.2))).length = σ8.length := by rw [← hw8, wipe_length]
        refine ⟨m', hm, i + 1, H', (I'.unpinned (pins := [])).weak hlen (fun j v e => ?_), ?_, fun b hb => ?_, w'⟩
        · rw [← hw8] at e
          exact (wipe_some e).1
        · exact T.keep _ _ _ st7 fun b hb o e => (pin' b hb o e).1
        · obtain ⟨o, e, _⟩ := T.obj _ _ st7 b hb
          exact (pin' b hb o e).2
      cases b with
      | false =>
        rw [if_neg Bool.false_ne_true] at q9 ⊢
        exact onward I9 q9
      | true =>
        rw [if_pos rfl] at q9 ⊢
        refine thnF (eR.run _ s9 σ8 H9 _ I9 q9) fun z s10 ⟨yv, H10, I10, r10, c, S0, n0, ey, hD10, room, nx⟩ => ?_
        subst ey
        have add := mt_sadd (X := X.blk sc Hc scope ce fp) _ s10 σ8 H10 (.ref D) [.int c] (.ref D) [z] (fun _ H' => Nx H') I10 rfl (.cons r10 .nil)
          ⟨D, c, S0, n0, rfl, rfl, hD10, room, nx⟩
        exact thnF add fun _ s11 ⟨_, H11, I11, _, nx11⟩ => onward I11 nx11
  exact PpSet.codeAny_compStart_set loop (T.self X.A 0 _ _ _ stD loop)
end
/-! ### set(xs) of a list of numbers -/
abbrev bareSet (w : World) : Obj := { cls := .type "set", dict := none, data := .set #[] 0 (.fresh 0 0 (!w.params.followText "set-order")) }
section
variable {P : Program} {w : World} {A : Around} {E : Value → Shared → Prop} {s : Shared}
theorem set_of_list {l : Addr} {its : Array Value} (ns : List Int) {Q : Value → Shared → Prop} (calmA : A.handled = none)
    (atL : s.heap.IsList l its) (isI : IntsAre its.toList ns) (room : ns.length + 1 < scanBound)
    (done : ∀ (h' : Heap) (tk c : Nat), SetR w h' s.heap.objs.size (fun j => decide (j ∈ ns)) c → c ≤ ns.length →
      (∀ b o, s.heap.get? b = some o → h'.get? b = some o) → Q (.ref s.heap.objs.size) { s with heap := h', toks := tk }) :
    wpAny (model P w) A (call (.type "set") [.ref l]) Q E s := by
  have sz : its.size = ns.length := by
    have z := IntsAre.length isI
    rw [Array.length_toList] at z
    exact z
  obtain ⟨c0, tl0, hmro⟩ := F.called_set.mro
  have hmade := F.called_set.made
  have hsub := F.called_set.sub
  apply wpAny_call
  apply codeAny_of_tree
  show wpAny _ _ (callAny (.type "set") _) _ _ _
  apply wpAny_pure
  refine ⟨Code.quiet_builtin _ (by decide +kernel), codeAny_builtin F.entry_type_call ?_⟩
  rw [Around.under_plain (weight_type_call_type "set" [.ref l] []) rfl]
  have f1 := F.called_set.notType
  have f2 := F.called_set.canCreate
  have f3 := F.typeCall_set_1 (.ref l)
  repeat (any_goals (first | assumption | wp_step))
  have made := code_set_led1 (P := P) (w := w) (A := A.in1) (s := s) (.ref l) (E := E)
    (Q₁ := fun obj s₁ => obj = .ref s.heap.objs.size ∧ s₁ = { s with heap := s.heap.push (bareSet w) }) ⟨rfl, rfl⟩
  refine codeAny_mono made fun r s₁ hr => ?_
  match r, hr with
  | .error e, hr => exact hr
  | .ok .next, hr => exact hr.elim
  | .ok .brk, hr => exact hr.elim
  | .ok .cont, hr => exact hr.elim
  | .ok (.ret obj), hr =>
    obtain ⟨e1, e2⟩ := hr
    subst e1
    subst e2
    have got : (s.heap.push (bareSet w)).get? s.heap.objs.size = some (bareSet w) := Heap.get?_push_size _ rfl
    have ty : Shared.TypeIs { s with heap := s.heap.push (bareSet w) } (.ref s.heap.objs.size) "set" := ⟨_, got, rfl⟩
    have g1 := F.called_set.init.lookup
    have g2 := F.called_set.init.bind (.ref s.heap.objs.size)
    repeat (any_goals (first | assumption | wp_step))
    refine codeAny_mono (codeAny_call_builtin (R := wants (fun r s₂ => r = .none ∧ ∃ h' tk c, s₂ = { s with heap := h', toks := tk } ∧
      SetR w h' s.heap.objs.size (fun j => decide (j ∈ ns)) c ∧ c ≤ ns.length ∧ ∀ b o, s.heap.get? b = some o → h'.get? b = some o) E)
      F.called_set.init.plain F.entry_set_init (check_set_init_1 ty ?_)) fun r₂ s₂ hr₂ => ?_
    · obtain ⟨ol, hol, hcl, nl, hdl⟩ := atL
      obtain ⟨ocls, odict, odata, oslots⟩ := ol
      simp only at hcl hdl
      subst hcl
      subst hdl
      have hol' : (s.heap.push (bareSet w)).get? l = some { cls := .type "list", dict := odict, data := .seq its nl, slots := oslots } :=
        Heap.get?_push_of_some _ hol
      have n1 := F.sub_list_set
      have n2 := F.sub_list_frozenset
      have n3 : (Value.type "list" == Value.type "dict") = false := by decide
      have atL1 : (s.heap.push (bareSet w)).IsList l its := ⟨_, hol', rfl, nl, rfl⟩
      unfold Builtin.«set.__init__» noKeywords Builtin.Frozenset.updateFrom
      generalize ePI : pyIter = PI
      wp_walk
      subst ePI
      refine wpAny_pyIter_list atL1 ?_
      refine wpAny_bind (wpAny_runValue ?_)
      have lLt : l < s.heap.objs.size := Heap.lt_size hol
      have calm3 : A.in1.in1.in1.handled = none := by simp [calmA]
      have size1 : (s.heap.push (bareSet w)).objs.size = s.heap.objs.size + 1 := Heap.size_push ..
      have apart : l ≠ (s.heap.push (bareSet w)).objs.size := by
        rw [size1]
        exact Nat.ne_of_lt (Nat.lt_succ_of_lt lLt)
      have notIn : s.heap.objs.size ∉ [(s.heap.push (bareSet w)).objs.size, l] := by
        rw [size1]
        simp only [List.mem_cons, List.mem_singleton, List.not_mem_nil, or_false, not_or]
        exact ⟨Nat.ne_of_lt (Nat.lt_succ_self _), Nat.ne_of_gt lLt⟩
      have vals : ∀ (i : Nat) (v : Value), its[i]? = some v → ∃ k t, ns[i]? = some k ∧ v = .int k t := by
        intro i v hv
        have hi : i < ns.length := by
          rw [← sz]
          exact (Array.getElem?_eq_some_iff.mp hv).1
        obtain ⟨t, e⟩ := PyProof.Rows.IntsAre.int_at isI i v (by rw [Array.getElem?_toList]; exact hv)
        refine ⟨ns[i], t, List.getElem?_eq_getElem hi, ?_⟩
        rw [e, List.getD_eq_getElem?_getD, List.getElem?_eq_getElem hi]
        rfl
      refine set_update_ints ((Walks.list calm3 _ l apart its).toS) s.heap.objs.size notIn ns sz room vals
        (its.size - 0) 0 _ (by omega) (Nat.zero_le _) ⟨⟨_, Heap.get?_push_size _ rfl, rfl, rfl⟩, (atL1.push _)⟩ ?first ?last
      case first => exact ⟨0, Nat.le_refl 0, setR_new_at (Heap.get?_push_of_some _ got)⟩
      case last =>
        intro s' c' hm hc' hS'
        obtain ⟨h', g', d', tk', os'⟩ := s'
        cases (show g' = s.gens from hm.gens)
        cases (show d' = s.drawn from hm.drawn)
        cases (show os' = s.os from hm.os)
        apply wpAny_pure
        show wpAny _ _ (ret Value.none) _ _ _
        rw [sz] at hc'
        refine wpAny_pure ⟨rfl, h', tk', c', rfl, hS', hc', fun b o e => ?_⟩
        have b0 : b < s.heap.objs.size := Heap.lt_size e
        refine hm.heap b o ?_ (Heap.get?_push_of_some _ (Heap.get?_push_of_some _ e))
        simp only [List.mem_cons, List.mem_singleton, List.not_mem_nil, or_false, not_or]
        rw [size1]
        exact ⟨Nat.ne_of_lt b0, Nat.ne_of_lt (Nat.lt_succ_of_lt b0)⟩
    · match r₂, hr₂ with
      | .error e, hr₂ => exact hr₂
      | .ok .next, hr₂ => exact hr₂.elim
      | .ok .brk, hr₂ => exact hr₂.elim
      | .ok .cont, hr₂ => exact hr₂.elim
      | .ok (.ret r), hr₂ =>
        obtain ⟨e1, h', tk, c', e2, hS', hc', hk'⟩ := hr₂
        subst e1
        subst e2
        repeat (any_goals (first | assumption | wp_step))
        exact done _ _ _ hS' hc' hk'
end
section
variable {X : Cx}
def rSetL (K : PySem.W.Frag) (w : World) : List V → Hp → VK → Prop := fun xs H Q => ∃ (p : Addr) (ns : List Int), xs = [.ref p] ∧ SqL K H p (ns.map V.int) ∧ ns.length ≤ 1000 ∧
  ∀ (a : Addr) (c : Nat), H a = none → c ≤ ns.length → Q (.ref a) (upd H a (SetO w a (fun j => decide (j ∈ ns)) c))
theorem call_setL (hcalm : X.calm = true) : CallR X (.type "set") (rSetL X.K X.w) := by
  intro pins s σ H xs us Q I r h
  obtain ⟨p, ns, e, hq, hn, q⟩ := h
  subst e
  obtain ⟨u, e, rx⟩ := vals1 r
  subst e
  cases rx
  obtain ⟨its, r', pl, hz⟩ := I.list hq
  refine set_of_list ns (I.ok.hd hcalm) pl.isList (by simpa using (RZ.intsAre_vals r')) (by unfold scanBound; omega) fun h' tk c hS hc hk => ?_
  refine ⟨.ref s.heap.objs.size, _, I.laid (t' := tk) hk (Nat.le_refl _) (setO_new hS), rfl, q _ c (I.hok.fresh (Nat.le_refl _)) hc⟩
/-- sorted(s), s a set of numbers, in the words that are wanted here -/
theorem ksetL (K : PySem.W.Frag) (w : World) (hcalm : X.calm = true) (hK : X.K = K := by rfl) (hw : X.w = w := by rfl) : CallR X (.type "set") (rSetL K w) := by
  subst hK
  subst hw
  exact call_setL hcalm
theorem ksortS (w : World) (hcalm : X.calm = true) (hw : X.w = w := by rfl) : CallR X (.builtin "sorted") (rSortedSet w) := by
  subst hw
  exact cr_sortedSet hcalm
end


/-! ### pushes -/
def spPush : Sp := fun vs H Q _ => ∃ (m b p : Int) (t : Addr) (tl : List (Int × Int)), vs = [.int m, .ref t, .int b, .int p] ∧ 0 < m ∧ ToolAt H t tl ∧ tl ≠ [] ∧
  ∀ H', Same H H' → Q (.int (tgt tl ((p + b) % m))) H'
def spPushes (K : PySem.W.Frag) : Sp := fun vs H Q _ => ∃ (m b : Int) (t pl : Addr) (tl : List (Int × Int)) (ps : List Int), vs = [.int m, .ref t, .int b, .ref pl] ∧ 0 < m ∧ ToolAt H t tl ∧ tl ≠ [] ∧
  SqT K H pl (ps.map V.int) ∧ ps.length ≤ 60 ∧
  ∀ (out : List Int) (p : Addr) (H' : Hp), out.Pairwise (· < ·) → (∀ y, y ∈ out ↔ ∃ x ∈ ps, tgt tl ((x + b) % m) = y) → Same H H' → H p = none → H' p = some (.tup (out.map V.int)) → Q (.ref p) H'
theorem sorted_uniq : ∀ {l r : List Int}, l.Pairwise (· < ·) → r.Pairwise (· < ·) → (∀ x, x ∈ l ↔ x ∈ r) → l = r
  | [], [], _, _, _ => rfl
  | [], y :: r, _, _, h => absurd ((h y).mpr List.mem_cons_self) List.not_mem_nil
  | x :: l, [], _, _, h => absurd ((h x).mp List.mem_cons_self) List.not_mem_nil
  | x :: l, y :: r, hl, hr, h => by
    have al := List.pairwise_cons.mp hl
    have ar := List.pairwise_cons.mp hr
    have exy : x = y := by
      rcases List.mem_cons.mp ((h x).mp List.mem_cons_self) with z | z
      · exact z
      · rcases List.mem_cons.mp ((h y).mpr List.mem_cons_self) with u | u
        · exact u.symm
        · have := ar.1 x z
          have := al.1 y u
          omega
    subst exy
    have e : l = r := sorted_uniq al.2 ar.2 fun z => by
      constructor
      · intro hz
        rcases List.mem_cons.mp ((h z).mp (List.mem_cons_of_mem _ hz)) with u | u
        · have := al.1 z hz
          omega
        · exact u
      · intro hz
        rcases List.mem_cons.mp ((h z).mpr (List.mem_cons_of_mem _ hz)) with u | u
        · have := ar.1 z hz
          omega
        · exact u
    rw [e]
theorem asc_len {m : Int} : ∀ (l : List Int) (lo : Int), l.Pairwise (· < ·) → (∀ x ∈ l, lo ≤ x ∧ x < m) → lo ≤ m → (l.length : Int) ≤ m - lo
  | [], lo, _, _, h => by
    show ((0 : Nat) : Int) ≤ m - lo
    omega
  | x :: r, lo, hp, hb, _ => by
    have hx := hb x List.mem_cons_self
    have ac := List.pairwise_cons.mp hp
    have ih := asc_len r (x + 1) ac.2 (fun y hy => ⟨by have := ac.1 y hy; omega, (hb y (List.mem_cons_of_mem _ hy)).2⟩) (by omega)
    rw [List.length_cons]
    omega
theorem sorted_le {l : List Int} {m : Int} (h : l.Pairwise (· < ·)) (hb : ∀ x ∈ l, 0 ≤ x ∧ x < m) (hm : 0 ≤ m := by omega) : (l.length : Int) ≤ m := by
  have := asc_len l 0 h hb hm
  omega
theorem range_getD {β : Type} (g : Int → β) : ∀ ps : List Int, (List.range ps.length).map (fun i => g (ps.getD i 0)) = ps.map g := by
  intro ps
  apply List.ext_getElem?
  intro i
  rw [List.getElem?_map, List.getElem?_map]
  by_cases h : i < ps.length
  · rw [List.getElem?_range h, List.getElem?_eq_getElem h]
    show some (g (ps.getD i 0)) = some (g ps[i])
    rw [List.getD_eq_getElem?_getD, List.getElem?_eq_getElem h]
    rfl
  · rw [List.getElem?_eq_none (by rw [List.length_range]; omega), List.getElem?_eq_none (by omega)]
    rfl
theorem int_item {ps : List Int} {i : Nat} {x : V} (h : (ps.map V.int)[i]? = some x) : x = .int (ps.getD i 0) ∧ i < ps.length ∧ ps.getD i 0 ∈ ps := by
  rw [List.getElem?_map] at h
  cases e : ps[i]? with
  | none =>
    rw [e] at h
    cases h
  | some n =>
    rw [e] at h
    have hi := (List.getElem?_eq_some_iff.mp e).1
    have ed : ps.getD i 0 = n := by
      rw [List.getD_eq_getElem?_getD, e]
      rfl
    rw [ed]
    exact ⟨(Option.some.inj h).symm, hi, List.mem_of_getElem? e⟩
/-- a set comprehension over a tuple that changes nothing -/
theorem scT {w : World} {K : PySem.W.Frag} {a : Addr} {xs : List V} {j : Nat} {te : TE} {vs : List Nat} {σ : L2.St} {H1 : Hp} {D : Addr} {Qd : Hp → Prop} (f : Nat → Int) (hn : xs.length ≤ 1000) (nD : H1 D = none)
    (hx : SqT K H1 a xs) (hw : ∀ v, wipe ((wipe σ vs).set j (some v)) vs = wipe σ vs)
    (he : ∀ (i : Nat) (x : V) (H : Hp) (Q : VK), xs[i]? = some x → Same H1 H → (∀ H', Same H H' → Q (.int (f i)) H') → te ((wipe σ vs).set j (some x)) H Q)
    (hd : ∀ H' S n, Same H1 H' → H' D = some (SetO w D S n) → n ≤ xs.length → (∀ k, S k = true ↔ ∃ i, i < xs.length ∧ f i = k) → Qd H') :
    ∃ W : Nat → Nat → Hp → Prop, (∃ m, W 0 m (upd H1 D (SetO w D (fun _ => false) 0))) ∧ ∀ i m H, W i m H → ((Itt K a).stop i H ∧ Qd H) ∨ ((Itt K a).go i H ∧
      ∃ Nx : Hp → Prop, (∀ H', Nx H' → ∃ m', m' < m ∧ W (i + 1) m' H') ∧ ∀ x H', (Itt K a).yld i H x H' → gName j x (wipe σ vs) H' fun σ2 H2 => wipe σ2 vs = wipe σ vs ∧
        tYes σ2 H2 fun b H3 => if b = true then te σ2 H3 fun y H4 => ∃ (c : Int) (S : Int → Bool) (n : Nat), y = .int c ∧ H4 D = some (SetO w D S n) ∧ n + 1 < scanBound ∧
          Nx (upd H4 D (SetO w D (fun j => S j || decide (j = c)) (if S c = true then n else n + 1))) else Nx H3) := by
  have key : ∀ i x H, xs[i]? = some x → (∃ S n, Same H1 H ∧ H D = some (SetO w D S n) ∧ n ≤ i ∧ ∀ k, S k = true ↔ ∃ i', i' < i ∧ f i' = k) →
      te ((wipe σ vs).set j (some x)) H fun y H4 => ∃ (c : Int) (S : Int → Bool) (n : Nat), y = .int c ∧ H4 D = some (SetO w D S n) ∧ n + 1 < scanBound ∧
        (∃ S' n', Same H1 (upd H4 D (SetO w D (fun j => S j || decide (j = c)) (if S c = true then n else n + 1))) ∧
          (upd H4 D (SetO w D (fun j => S j || decide (j = c)) (if S c = true then n else n + 1))) D = some (SetO w D S' n') ∧ n' ≤ i + 1 ∧ ∀ k, S' k = true ↔ ∃ i', i' < i + 1 ∧ f i' = k) := by
    intro i x H hi h
    obtain ⟨S, n, hs, hD, hni, hS⟩ := h
    have hlt := (List.getElem?_eq_some_iff.mp hi).1
    refine he i x H _ hi hs fun H' s' => ⟨f i, S, n, rfl, s' _ _ hD, by unfold scanBound; omega, _, _, ?_, upd_same, by split <;> omega, fun k => ?_⟩
    · intro b o e
      rw [upd_ne (ne_of_none e nD)]
      exact s' _ _ (hs _ _ e)
    · rw [Bool.or_eq_true, decide_eq_true_iff, hS k]
      constructor
      · rintro (⟨i', h1, h2⟩ | h1)
        · exact ⟨i', by omega, h2⟩
        · exact ⟨i, by omega, h1.symm⟩
      · intro ⟨i', h1, h2⟩
        by_cases z : i' = i
        · subst z
          exact .inr h2.symm
        · exact .inl ⟨i', by omega, h2⟩
  refine ⟨fun i m H => m = xs.length - i ∧ i ≤ xs.length ∧ ∃ S n, Same H1 H ∧ H D = some (SetO w D S n) ∧ n ≤ i ∧ ∀ k, S k = true ↔ ∃ i', i' < i ∧ f i' = k, ⟨xs.length, by omega, Nat.zero_le _, _, 0, same_upd nD, upd_same, Nat.le_refl _, fun k => ?_⟩, ?_⟩
  · constructor
    · intro h
      cases h
    · intro ⟨i', h, _⟩
      omega
  · intro i m H hW
    obtain ⟨em, hi, pv⟩ := hW
    subst em
    have hq : SqT K H a xs := same_tup pv.choose_spec.choose_spec.1 hx
    by_cases hlt : i < xs.length
    · refine .inr ⟨⟨xs, xs[i], hq, List.getElem?_eq_getElem hlt⟩, fun H' => ∃ S n, Same H1 H' ∧ H' D = some (SetO w D S n) ∧ n ≤ i + 1 ∧ ∀ k, S k = true ↔ ∃ i', i' < i + 1 ∧ f i' = k, fun H' p => ⟨xs.length - (i + 1), by omega, rfl, hlt, p⟩, fun x H' y => ?_⟩
      obtain ⟨e, y⟩ := y
      subst e
      refine ⟨hw _, ?_⟩
      exact key i x _ (y xs hq) pv
    · have e : i = xs.length := by omega
      subst e
      obtain ⟨S, n, h1, h2, h3, h4⟩ := pv
      exact .inl ⟨⟨xs, hq, Nat.le_refl _⟩, hd H S n h1 h2 h3 h4⟩
/-! ### places -/
def spPlaces : Sp := fun vs H Q _ => ∃ (a c : Addr) (k m : Int), vs = [.ref a, .int m] ∧ Deck H a c k ∧ k + 70 ≤ 1000000 ∧ 1 ≤ m ∧ m ≤ 60 ∧
  ∀ (p : Addr) (ps : List Int) (H' : Hp), ps.Pairwise (· < ·) → 1 ≤ ps.length → (∀ x ∈ ps, 0 ≤ x ∧ x < m) → H' p = some (.tup (ps.map V.int)) → Deck H' a c (k + 70) → Keep a c H H' → H p = none → Q (.ref p) H'
theorem pw_lt_upto (m : Int) : (upto m).Pairwise (· < ·) := by
  unfold upto
  rw [List.pairwise_map]
  exact List.pairwise_lt_range.imp fun {a b} h => by omega
theorem stepsOf_V (m b st : Int) (n : Nat) : (List.range n).map (fun k => V.int ((b + st * (0 + (k : Nat))) % m)) = ((List.range n).map fun k => (b + st * (0 + (k : Nat))) % m).map V.int := by
  rw [List.map_map]
  rfl
theorem keep_none {a c p : Addr} {H H' : Hp} {k : Int} (kp : Keep a c H H') (dk : Deck H' a c k) (h : H' p = none) : H p = none := by
  obtain ⟨h1, h2⟩ := dk.nea h
  cases e : H p with
  | none => rfl
  | some o =>
    rw [kp _ _ h1 h2 e] at h
    cases h

def pairL (d e : PyData) : PyData := .list [d, e]
theorem pair_shows {d e : PyData} {n1 n2 e1 e2 : Nat} (h1 : Fine d n1 e1) (h2 : Fine e n2 e2) (a1 : n1 ≤ 7000000) (a2 : n2 ≤ 7000000) (b1 : e1 ≤ 50) (b2 : e2 ≤ 50) : Shows (pairL d e) := by
  have f : Fine (.list [d, e]) (2 * (7000000 + 2) + 2) (50 + 1) := fine_list (ds := [d, e]) fun x hx => by
    rcases List.mem_cons.mp hx with z | z
    · rw [z]
      exact h1.mono a1 b1
    · rw [List.mem_singleton.mp z]
      exact h2.mono a2 b2
  exact f.mono (by decide) (by decide)

/-! ### counting places -/
def cntN (P : Int → Bool) (lo : Int) : Nat → Nat
  | 0 => 0
  | n + 1 => cntN P lo n + (if P (lo + (n : Nat)) = true then 1 else 0)
theorem cntN_add (P : Int → Bool) (lo : Int) (a : Nat) : ∀ b : Nat, cntN P lo (a + b) = cntN P lo a + cntN P (lo + (a : Nat)) b
  | 0 => rfl
  | b + 1 => by
    have ih := cntN_add P lo a b
    show cntN P lo (a + b) + (if P (lo + ((a + b : Nat) : Int)) = true then 1 else 0) = cntN P lo a + (cntN P (lo + (a : Nat)) b + (if P (lo + (a : Nat) + (b : Nat)) = true then 1 else 0))
    have e : lo + ((a + b : Nat) : Int) = lo + (a : Nat) + (b : Nat) := by omega
    rw [ih, e]
    omega
theorem cntN_congr {P P' : Int → Bool} {lo : Int} : ∀ n : Nat, (∀ x, lo ≤ x → x < lo + (n : Nat) → P x = P' x) → cntN P lo n = cntN P' lo n
  | 0, _ => rfl
  | n + 1, h => by
    show cntN P lo n + _ = cntN P' lo n + _
    rw [cntN_congr n fun x h1 h2 => h x h1 (by omega), h (lo + (n : Nat)) (by omega) (by omega)]
theorem cntN_const {lo : Int} (c : Bool) : ∀ n : Nat, cntN (fun _ => c) lo n = if c = true then n else 0
  | 0 => by cases c <;> rfl
  | n + 1 => by
    show cntN (fun _ => c) lo n + _ = _
    rw [cntN_const c n]
    cases c <;> simp
theorem cnt_upto (P : Int → Bool) (m : Int) : ((upto m).filter P).length = cntN P 0 m.toNat := by
  unfold upto
  generalize m.toNat = n
  induction n with
  | zero => rfl
  | succ n ih =>
    show _ = cntN P 0 n + (if P (0 + (n : Nat)) = true then 1 else 0)
    rw [List.range_succ, List.map_append, List.filter_append, List.length_append, ih, Int.zero_add]
    show _ + ([((n : Nat) : Int)].filter P).length = _
    by_cases h : P ((n : Nat) : Int) = true
    · rw [if_pos h, List.filter_cons_of_pos h]
      rfl
    · rw [if_neg h, List.filter_cons_of_neg h]
      rfl
def segSum (P : Int → Bool) (e : Int) : Int → Int → List (Int × Int) → Int
  | f, lo, [] => if P f = true then e - lo else 0
  | f, lo, bt :: r => (if P f = true then bt.1 - lo else 0) + segSum P e bt.2 bt.1 r
theorem cnt_seg (P : Int → Bool) (m : Int) : ∀ (l : List (Int × Int)) (f lo : Int), l.Pairwise (fun x y => x.1 < y.1) → (∀ x ∈ l, lo ≤ x.1 ∧ x.1 ≤ m) → lo ≤ m →
    (cntN (fun x => P (tgtFrom x f l)) lo (m - lo).toNat : Int) = segSum P m f lo l
  | [], f, lo, _, _, hlo => by
    show (cntN (fun _ => P f) lo (m - lo).toNat : Int) = if P f = true then m - lo else 0
    rw [cntN_const]
    split <;> omega
  | bt :: r, f, lo, asc, hb, hlo => by
    have ac := List.pairwise_cons.mp asc
    have h0 := hb bt List.mem_cons_self
    have e : (m - lo).toNat = (bt.1 - lo).toNat + (m - bt.1).toNat := by omega
    have e1 : cntN (fun x => P (tgtFrom x f (bt :: r))) lo (bt.1 - lo).toNat = cntN (fun _ => P f) lo (bt.1 - lo).toNat := by
      apply cntN_congr
      intro x h1 h2
      rw [tgtFrom_none x (bt :: r) f]
      intro y hy
      rcases List.mem_cons.mp hy with z | z
      · rw [z]
        omega
      · have := ac.1 y z
        omega
    have e2 : cntN (fun x => P (tgtFrom x f (bt :: r))) (lo + ((bt.1 - lo).toNat : Nat)) (m - bt.1).toNat = cntN (fun x => P (tgtFrom x bt.2 r)) bt.1 (m - bt.1).toNat := by
      have el : lo + ((bt.1 - lo).toNat : Nat) = bt.1 := by omega
      rw [el]
      apply cntN_congr
      intro x h1 h2
      show P (tgtFrom x (if bt.1 ≤ x then bt.2 else f) r) = P (tgtFrom x bt.2 r)
      rw [if_pos h1]
    have ih := cnt_seg P m r bt.2 bt.1 ac.2 (fun y hy => ⟨by have := ac.1 y hy; omega, (hb y (List.mem_cons_of_mem _ hy)).2⟩) h0.2
    rw [e, cntN_add, e1, e2, cntN_const, Int.natCast_add, ih]
    show _ = (if P f = true then bt.1 - lo else 0) + segSum P m bt.2 bt.1 r
    split <;> omega
theorem segSum_end (P : Int → Bool) (e e' : Int) : ∀ (l : List (Int × Int)) (f lo : Int), segSum P e' f lo l = segSum P e f lo l + (if P (l.getLastD (lo, f)).2 = true then e' - e else 0)
  | [], f, lo => by
    show (if P f = true then e' - lo else 0) = (if P f = true then e - lo else 0) + (if P f = true then e' - e else 0)
    split <;> omega
  | bt :: r, f, lo => by
    show (if P f = true then bt.1 - lo else 0) + segSum P e' bt.2 bt.1 r = (if P f = true then bt.1 - lo else 0) + segSum P e bt.2 bt.1 r + _
    rw [segSum_end P e e' r bt.2 bt.1]
    have : ((bt :: r).getLastD (lo, f)) = r.getLastD (bt.1, bt.2) := by
      rw [List.getLastD_cons]
    rw [this]
    omega
/-! ### the sizes of the arcs -/
def stepsE (e : Int) : Int → List Int → List Int
  | b, [] => [e - b]
  | b, b' :: r => (b' - b) :: stepsE e b' r
def stepsOf (m : Int) (bs : List Int) : List Int := (bs.zip (bs.drop 1 ++ [bs.headD 0 + m])).map fun p => p.2 - p.1
theorem stepsOf_cons (m b : Int) (r : List Int) : stepsOf m (b :: r) = stepsE (b + m) b r := by
  have key : ∀ (r : List Int) (b e : Int), ((b :: r).zip (r ++ [e])).map (fun p => p.2 - p.1) = stepsE e b r := by
    intro r
    induction r with
    | nil => intro b e; rfl
    | cons b' r ih =>
      intro b e
      show (b' - b) :: ((b' :: r).zip (r ++ [e])).map (fun p => p.2 - p.1) = (b' - b) :: stepsE e b' r
      rw [ih]
  exact key r b (b + m)
theorem stepsE_len (e : Int) : ∀ (r : List Int) (b : Int), (stepsE e b r).length = r.length + 1
  | [], _ => rfl
  | b' :: r, b => congrArg Nat.succ (stepsE_len e r b')
def psum (P : Int → Bool) (ts ss : List Int) : Int := (((ts.zip ss).filter fun p => P p.1).map (·.2)).sum
theorem psum_seg (P : Int → Bool) (e : Int) : ∀ (r : List (Int × Int)) (t b : Int), psum P (t :: r.map (·.2)) (stepsE e b (r.map (·.1))) = segSum P e t b r
  | [], t, b => by
    unfold psum
    show ((([(t, e - b)] : List (Int × Int)).filter fun p => P p.1).map (·.2)).sum = if P t = true then e - b else 0
    by_cases h : P t = true
    · rw [if_pos h, List.filter_cons_of_pos (by exact h)]
      show e - b + 0 = e - b
      omega
    · rw [if_neg h, List.filter_cons_of_neg (by exact h)]
      rfl
  | bt :: r, t, b => by
    have ih := psum_seg P e r bt.2 bt.1
    unfold psum at ih ⊢
    show ((((t, bt.1 - b) :: ((bt.2 :: r.map (·.2)).zip (stepsE e bt.1 (r.map (·.1))))).filter fun p => P p.1).map (·.2)).sum = (if P t = true then bt.1 - b else 0) + segSum P e bt.2 bt.1 r
    by_cases h : P t = true
    · rw [if_pos h, List.filter_cons_of_pos (by exact h), List.map_cons, List.sum_cons, ih]
    · rw [if_neg h, List.filter_cons_of_neg (by exact h), ih]
      omega
theorem psum_cnt {m : Int} {tl : List (Int × Int)} (P : Int → Bool) (h : IsTool m tl) : psum P (tl.map (·.2)) (stepsOf m (tl.map (·.1))) = (((upto m).filter fun x => P (tgt tl x)).length : Int) := by
  cases tl with
  | nil =>
    have := h.len1
    rw [List.length_nil] at this
    omega
  | cons bt r =>
    have h0 := h.rng bt List.mem_cons_self
    rw [List.map_cons, List.map_cons, stepsOf_cons, psum_seg, segSum_end P m (bt.1 + m)]
    have c := cnt_seg P m (bt :: r) ((bt :: r).getLastD (0, 0)).2 0 h.asc (fun x hx => by have := (h.rng x hx).1; omega) (by omega)
    have ez : (m - 0).toNat = m.toNat := by omega
    rw [ez] at c
    rw [cnt_upto]
    show _ = (cntN (fun x => P (tgtFrom x ((bt :: r).getLastD (0, 0)).2 (bt :: r))) 0 m.toNat : Int)
    rw [c]
    show _ = (if P ((bt :: r).getLastD (0, 0)).2 = true then bt.1 - 0 else 0) + segSum P m bt.2 bt.1 r
    have e1 : (bt :: r).getLastD (0, 0) = r.getLastD (bt.1, bt.2) := by rw [List.getLastD_cons]
    rw [e1]
    split <;> omega
/-! ### widths -/
def cnt (m : Int) (tl : List (Int × Int)) (b l : Int) : Int := ((brought m tl b l).length : Int)
structure IsWidth (m : Int) (tls : List (List (Int × Int))) (l v : Int) : Prop where
  got : ∃ tl ∈ tls, ∃ b, 0 ≤ b ∧ b < m ∧ cnt m tl b l = v
  all : ∀ tl ∈ tls, ∀ b, 0 ≤ b → b < m → cnt m tl b l ≤ v
theorem IsWidth.uniq {m : Int} {tls : List (List (Int × Int))} {l v v' : Int} (h : IsWidth m tls l v) (h' : IsWidth m tls l v') : v = v' := by
  obtain ⟨tl, ht, b, b0, b1, e⟩ := h.got
  obtain ⟨tl', ht', b', b0', b1', e'⟩ := h'.got
  have q := h'.all tl ht b b0 b1
  have q' := h.all tl' ht' b' b0' b1'
  omega
theorem tgt_mem {tl : List (Int × Int)} (hne : tl ≠ []) (x : Int) : ∃ bt ∈ tl, tgt tl x = bt.2 := by
  have key : ∀ (l : List (Int × Int)) (f : Int), tgtFrom x f l = f ∨ ∃ bt ∈ l, tgtFrom x f l = bt.2 := by
    intro l
    induction l with
    | nil => exact fun f => .inl rfl
    | cons y l ih =>
      intro f
      show tgtFrom x (if y.1 ≤ x then y.2 else f) l = f ∨ _
      rcases ih (if y.1 ≤ x then y.2 else f) with h | ⟨bt, hb, e⟩
      · by_cases hy : y.1 ≤ x
        · rw [if_pos hy] at h
          exact .inr ⟨y, List.mem_cons_self, by show tgtFrom x (if y.1 ≤ x then y.2 else f) l = y.2; rw [if_pos hy, h]⟩
        · rw [if_neg hy] at h ⊢
          exact .inl h
      · exact .inr ⟨bt, List.mem_cons_of_mem _ hb, e⟩
  rcases key tl (tl.getLastD (0, 0)).2 with h | h
  · refine ⟨tl.getLastD (0, 0), ?_, h⟩
    exact List.mem_of_getElem? (getLastD_eq hne)
  · exact h
theorem filter_mono {p q : Int → Bool} : ∀ L : List Int, (∀ x ∈ L, p x = true → q x = true) → (L.filter p).length ≤ (L.filter q).length
  | [], _ => Nat.le_refl _
  | x :: L, h => by
    have ih := filter_mono L fun y hy => h y (List.mem_cons_of_mem _ hy)
    by_cases hp : p x = true
    · rw [List.filter_cons_of_pos hp, List.filter_cons_of_pos (h x List.mem_cons_self hp)]
      exact Nat.succ_le_succ ih
    · rw [List.filter_cons_of_neg hp]
      by_cases hq : q x = true
      · rw [List.filter_cons_of_pos hq]
        exact Nat.le_succ_of_le ih
      · rw [List.filter_cons_of_neg hq]
        exact ih
theorem min_of (g : Int × Int → Int) : ∀ L : List (Int × Int), L ≠ [] → ∃ x ∈ L, ∀ y ∈ L, g x ≤ g y
  | [x], _ => ⟨x, List.mem_cons_self, fun y hy => by rw [List.mem_singleton.mp hy]; exact Int.le_refl _⟩
  | x :: y :: L, _ => by
    obtain ⟨z, hz, hm⟩ := min_of g (y :: L) (List.cons_ne_nil _ _)
    by_cases h : g x ≤ g z
    · refine ⟨x, List.mem_cons_self, fun u hu => ?_⟩
      rcases List.mem_cons.mp hu with e | e
      · rw [e]
        exact Int.le_refl _
      · have := hm u e
        omega
    · refine ⟨z, List.mem_cons_of_mem _ hz, fun u hu => ?_⟩
      rcases List.mem_cons.mp hu with e | e
      · rw [e]
        omega
      · exact hm u e
theorem cnt_shift {m : Int} {tl : List (Int × Int)} {b l : Int} (hm : 0 < m) (hl : l ≤ m) (hne : tl ≠ []) : cnt m tl b l = 0 ∨ ∃ bt ∈ tl, cnt m tl b l ≤ cnt m tl bt.2 l := by
  by_cases h : (tl.filter fun bt => inArc m b l bt.2) = []
  · left
    have e : brought m tl b l = [] := by
      unfold brought
      rw [List.filter_eq_nil_iff]
      intro x _ hx
      obtain ⟨bt, hb, e⟩ := tgt_mem hne x
      rw [e] at hx
      have : bt ∈ tl.filter fun bt => inArc m b l bt.2 := List.mem_filter.mpr ⟨hb, hx⟩
      rw [h] at this
      exact List.not_mem_nil this
    unfold cnt
    rw [e]
    rfl
  · right
    obtain ⟨bt, hb, hmin⟩ := min_of (fun bt => (bt.2 - b) % m) _ h
    have hb' := List.mem_filter.mp hb
    refine ⟨bt, hb'.1, ?_⟩
    unfold cnt brought
    have := filter_mono (p := fun x => inArc m b l (tgt tl x)) (q := fun x => inArc m bt.2 l (tgt tl x)) (upto m) fun x _ hx => by
      obtain ⟨bx, hbx, e⟩ := tgt_mem hne x
      rw [e] at hx ⊢
      have hq := hmin bx (List.mem_filter.mpr ⟨hbx, hx⟩)
      have hx : (bx.2 - b) % m < l := of_decide_eq_true hx
      have n0 := Int.emod_nonneg (bt.2 - b) (show m ≠ 0 by omega)
      have n1 := Int.emod_nonneg (bx.2 - b) (show m ≠ 0 by omega)
      apply decide_eq_true
      have e3 : (bx.2 - bt.2) % m = ((bx.2 - b) % m - (bt.2 - b) % m) % m := by
        rw [mod_sub', sub_mod']
        congr 1
        omega
      rw [e3, Int.emod_eq_of_lt (by omega) (by omega)]
      omega
    omega
/-- the greatest by the targets alone -/
theorem width_of_targets {m : Int} {tls : List (List (Int × Int))} {l v : Int} (hm : 0 < m) (hl : l ≤ m) (ht : ∀ tl ∈ tls, IsTool m tl)
    (got : ∃ tl ∈ tls, ∃ bt ∈ tl, cnt m tl bt.2 l = v) (all : ∀ tl ∈ tls, ∀ bt ∈ tl, cnt m tl bt.2 l ≤ v) : IsWidth m tls l v := by
  constructor
  · obtain ⟨tl, h1, bt, h2, e⟩ := got
    have r := (ht tl h1).rng bt h2
    exact ⟨tl, h1, bt.2, r.2.1, r.2.2, e⟩
  · intro tl h1 b b0 b1
    have hne : tl ≠ [] := fun e => by
      have := (ht tl h1).len1
      rw [e, List.length_nil] at this
      omega
    rcases cnt_shift (b := b) hm hl hne with h | ⟨bt, h2, h⟩
    · obtain ⟨bt, h2⟩ := List.exists_mem_of_ne_nil tl hne
      have q := all tl h1 bt h2
      have : 0 ≤ cnt m tl bt.2 l := Int.natCast_nonneg _
      omega
    · have := all tl h1 bt h2
      omega

/-! ### comprehensions over pairs -/
section
variable {K : PySem.W.Frag} {j1 j2 : Nat} {tt : TT} {te : TE} {vs : List Nat} {σ : L2.St} {H1 : Hp} {D : Addr} {Qd : Hp → Prop}
theorem zip_get {α β : Type} : ∀ {xs : List α} {ys : List β} {i : Nat}, i < (xs.zip ys).length → ∃ x y, xs[i]? = some x ∧ ys[i]? = some y ∧ (xs.zip ys)[i]? = some (x, y)
  | [], _, i, h => absurd h (by simp)
  | _ :: _, [], i, h => absurd h (by simp)
  | x :: xs, y :: ys, 0, _ => ⟨x, y, rfl, rfl, rfl⟩
  | x :: xs, y :: ys, i + 1, h => by
    obtain ⟨u, v, h1, h2, h3⟩ := zip_get (xs := xs) (ys := ys) (i := i) (by simpa using h)
    exact ⟨u, v, by simpa using h1, by simpa using h2, by simpa using h3⟩
theorem take_fm {α β : Type} (q : α → Bool) (f : α → β) {l : List α} {i : Nat} {x : α} (h : l[i]? = some x) :
    ((l.take (i + 1)).filter q).map f = ((l.take i).filter q).map f ++ (if q x = true then [f x] else []) := by
  rw [List.take_add_one, h, List.filter_append, List.map_append]
  congr 1
  show (([x] : List α).filter q).map f = _
  by_cases z : q x = true
  · rw [if_pos z, List.filter_cons_of_pos z]
    rfl
  · rw [if_neg z, List.filter_cons_of_neg z]
    rfl
theorem lcZ {a b : Addr} {xs ys : List V} (q : V × V → Bool) (f : V × V → V) (hn : xs.length ≤ 100000) (nD : H1 D = none) (hx : SqL K H1 a xs) (hy : SqL K H1 b ys)
    (hw : ∀ u v, wipe (((wipe σ vs).set j1 (some u)).set j2 (some v)) vs = wipe σ vs)
    (ht : ∀ (x y : V) (H : Hp) (Q : Bool → Hp → Prop), (x, y) ∈ xs.zip ys → Same H1 H → (∀ H', Same H H' → Q (q (x, y)) H') → tt (((wipe σ vs).set j1 (some x)).set j2 (some y)) H Q)
    (he : ∀ (x y : V) (H : Hp) (Q : VK), (x, y) ∈ xs.zip ys → q (x, y) = true → Same H1 H → (∀ H', Same H H' → Q (f (x, y)) H') → te (((wipe σ vs).set j1 (some x)).set j2 (some y)) H Q)
    (hd : ∀ H', Same H1 H' → H' D = some (.lst (((xs.zip ys).filter q).map f)) → Qd H') :
    ∃ W : Nat → Nat → Hp → Prop, (∃ m, W 0 m (upd H1 D (.lst []))) ∧ ∀ i m H, W i m H → ((Itz K a b).stop i H ∧ Qd H) ∨ ((Itz K a b).go i H ∧
      ∃ Nx : Hp → Prop, (∀ H', Nx H' → ∃ m', m' < m ∧ W (i + 1) m' H') ∧ ∀ x H', (Itz K a b).yld i H x H' → gTup K 2 (gCons (gName j1) (gCons (gName j2) gNil)) x (wipe σ vs) H' fun σ2 H2 =>
        wipe σ2 vs = wipe σ vs ∧ tt σ2 H2 fun b H3 => if b = true then te σ2 H3 fun y H4 => ∃ acc, H4 D = some (.lst acc) ∧ acc.length < sizeLine ∧ Nx (upd H4 D (.lst (acc ++ [y]))) else Nx H3) := by
  have lz : (xs.zip ys).length ≤ xs.length := by
    rw [List.length_zip]
    exact Nat.min_le_left _ _
  refine ⟨fun i m H => m = (xs.zip ys).length - i ∧ i ≤ (xs.zip ys).length ∧ Same H1 H ∧ H D = some (.lst ((((xs.zip ys).take i).filter q).map f)), ⟨_, rfl, Nat.zero_le _, same_upd nD, upd_same⟩, ?_⟩
  intro i m H hW
  obtain ⟨em, hi, hs, hD⟩ := hW
  subst em
  have sx := hs.seq hx
  have sy := hs.seq hy
  by_cases hlt : i < (xs.zip ys).length
  · obtain ⟨x, y, gx, gy, gz⟩ := zip_get hlt
    refine .inr ⟨⟨xs, ys, x, y, sx, sy, gx, gy⟩, fun H' => Same H1 H' ∧ H' D = some (.lst ((((xs.zip ys).take (i + 1)).filter q).map f)), fun H' h => ⟨(xs.zip ys).length - (i + 1), by omega, rfl, hlt, h.1, h.2⟩, fun v H' hy' => ?_⟩
    obtain ⟨T, x', y', ev, nT, eH, fx, fy⟩ := hy'
    subst ev
    subst eH
    have ex : x' = x := Option.some.inj ((fx _ sx).symm.trans gx)
    have ey : y' = y := Option.some.inj ((fy _ sy).symm.trans gy)
    subst ex
    subst ey
    have mem : (x', y') ∈ xs.zip ys := List.mem_of_getElem? gz
    have sT : Same H (upd H T (.tup [x', y'])) := same_upd nT
    refine ⟨T, [x', y'], rfl, SqT.of upd_same, rfl, x', [y'], rfl, y', [], rfl, rfl, hw _ _, ?_⟩
    refine ht x' y' _ _ mem (hs.trans sT) fun H2 s2 => ?_
    have hD2 := s2 _ _ (sT _ _ hD)
    have hs2 := (hs.trans sT).trans s2
    by_cases hq : q (x', y') = true
    · rw [if_pos hq]
      refine he x' y' H2 _ mem hq hs2 fun H3 s3 => ⟨_, s3 _ _ hD2, ?_, ?_, ?_⟩
      · rw [List.length_map]
        have l1 := List.length_filter_le q ((xs.zip ys).take i)
        rw [List.length_take] at l1
        have l2 : i < 100000 := Nat.lt_of_lt_of_le hlt (Nat.le_trans lz hn)
        exact Nat.lt_of_le_of_lt (Nat.le_trans l1 (Nat.min_le_left _ _)) (Nat.lt_trans l2 (by decide))
      · intro z o e
        rw [upd_ne (ne_of_none e nD)]
        exact s3 _ _ (hs2 _ _ e)
      · rw [upd_same, take_fm q f gz, if_pos hq]
    · rw [if_neg hq]
      refine ⟨hs2, ?_⟩
      rw [take_fm q f gz, if_neg hq, List.append_nil]
      exact hD2
  · have e : i = (xs.zip ys).length := by omega
    subst e
    refine .inl ⟨⟨xs, ys, sx, sy, ?_⟩, hd H hs ?_⟩
    · rw [List.length_zip]
      by_cases z : xs.length ≤ ys.length
      · exact .inl (by rw [Nat.min_eq_left z]; exact Nat.le_refl _)
      · exact .inr (by rw [Nat.min_eq_right (by omega)]; exact Nat.le_refl _)
    · rw [List.take_of_length_le (Nat.le_refl _)] at hD
      exact hD
theorem lcTP {t : Addr} {as : List Addr} {tl : List (Int × Int)} (f : Int × Int → V) (hn : tl.length ≤ 100000) (nD : H1 D = none) (hx : SqT K H1 t (as.map V.ref)) (pa : PairsAt H1 as tl)
    (hw : ∀ u v, wipe (((wipe σ vs).set j1 (some u)).set j2 (some v)) vs = wipe σ vs)
    (he : ∀ (bt : Int × Int) (H : Hp) (Q : VK), bt ∈ tl → Same H1 H → (∀ H', Same H H' → Q (f bt) H') → te (((wipe σ vs).set j1 (some (.int bt.1))).set j2 (some (.int bt.2))) H Q)
    (hd : ∀ H', Same H1 H' → H' D = some (.lst (tl.map f)) → Qd H') :
    ∃ W : Nat → Nat → Hp → Prop, (∃ m, W 0 m (upd H1 D (.lst []))) ∧ ∀ i m H, W i m H → ((Itt K t).stop i H ∧ Qd H) ∨ ((Itt K t).go i H ∧
      ∃ Nx : Hp → Prop, (∀ H', Nx H' → ∃ m', m' < m ∧ W (i + 1) m' H') ∧ ∀ x H', (Itt K t).yld i H x H' → gTup K 2 (gCons (gName j1) (gCons (gName j2) gNil)) x (wipe σ vs) H' fun σ2 H2 =>
        wipe σ2 vs = wipe σ vs ∧ tYes σ2 H2 fun b H3 => if b = true then te σ2 H3 fun y H4 => ∃ acc, H4 D = some (.lst acc) ∧ acc.length < sizeLine ∧ Nx (upd H4 D (.lst (acc ++ [y]))) else Nx H3) := by
  have hla : as.length = tl.length := Paired.length pa
  refine lc_tup (xs := as.map V.ref) (fun i H => Same H1 H ∧ H D = some (.lst ((tl.take i).map f))) ⟨same_upd nD, upd_same⟩ (fun i H _ h => same_tup h.1 hx) ?_ ?_
  · intro i x H hi h
    obtain ⟨hs, hD⟩ := h
    obtain ⟨p, bt, e0, e1, e2⟩ := (pa.stay (.of_same hs)).get hi
    subst e0
    refine ⟨p, _, rfl, SqT.of e2, rfl, _, _, rfl, _, _, rfl, rfl, hw _ _, ?_⟩
    refine he bt H _ (List.mem_of_getElem? e1) hs fun H3 s3 => ⟨_, s3 _ _ hD, ?_, ?_, ?_⟩
    · rw [List.length_map, List.length_take]
      have := (List.getElem?_eq_some_iff.mp e1).1
      exact Nat.lt_of_le_of_lt (Nat.min_le_right _ _) (Nat.lt_of_le_of_lt hn (by decide))
    · intro z o e
      rw [upd_ne (ne_of_none e nD)]
      exact s3 _ _ (hs _ _ e)
    · rw [upd_same, take_map_succ f e1]
  · intro H h
    obtain ⟨hs, hD⟩ := h
    rw [List.length_map, hla, List.take_of_length_le (Nat.le_refl _)] at hD
    exact hd H hs hD
end
/-! ### the promises -/
def ToolsAt (H : Hp) (a : Addr) (tls : List (List (Int × Int))) : Prop := ∃ as : List Addr, H a = some (.tup (as.map V.ref)) ∧ Paired (fun p tl => ToolAt H p tl) as tls
theorem ToolsAt.stay {H H' : Hp} {a : Addr} {tls : List (List (Int × Int))} (h : ToolsAt H a tls) (s : Stay H H') : ToolsAt H' a tls := by
  obtain ⟨as, h1, h2⟩ := h
  exact ⟨as, s _ _ (by intro xs z; cases z) h1, Paired.mono (fun _ _ e => e.stay s) h2⟩
theorem ToolsAt.get {K : PySem.W.Frag} {H : Hp} {as : List Addr} {tls : List (List (Int × Int))} (h : Paired (fun p tl => ToolAt H p tl) as tls) {i : Nat} {v : V} (e : (as.map V.ref)[i]? = some v) :
    ∃ p tl, v = .ref p ∧ tls[i]? = some tl ∧ ToolAt H p tl := by
  rw [List.getElem?_map] at e
  cases z : as[i]? with
  | none =>
    rw [z] at e
    cases e
  | some p =>
    rw [z] at e
    cases e
    obtain ⟨tl, e1, e2⟩ := Paired.at h z
    exact ⟨p, tl, rfl, e1, e2⟩
def spStepsL (K : PySem.W.Frag) : Sp := fun vs H Q _ => ∃ (m : Int) (p : Addr) (bs : List Int), vs = [.int m, .ref p] ∧ SqL K H p (bs.map V.int) ∧ bs ≠ [] ∧ bs.length ≤ 1000 ∧
  ∀ (D : Addr) (H' : Hp), Same H H' → H' D = some (.lst ((stepsOf m bs).map V.int)) → Q (.ref D) H'
def spSent (K : PySem.W.Frag) : Sp := fun vs H Q _ => ∃ (m st l : Int) (p r : Addr) (ts ss : List Int), vs = [.int m, .ref p, .ref r, .int st, .int l] ∧ 0 < m ∧ SqL K H p (ts.map V.int) ∧ SqL K H r (ss.map V.int) ∧ ts.length ≤ 1000 ∧
  ∀ H', Same H H' → Q (.int (psum (fun t => inArc m st l t) ts ss)) H'
def spTWidth : Sp := fun vs H Q _ => ∃ (m l : Int) (t : Addr) (tl : List (Int × Int)), vs = [.int m, .ref t, .int l] ∧ 0 < m ∧ ToolAt H t tl ∧ IsTool m tl ∧
  ∀ (v : Int) (H' : Hp), (∃ bt ∈ tl, cnt m tl bt.2 l = v) → (∀ bt ∈ tl, cnt m tl bt.2 l ≤ v) → Same H H' → Q (.int v) H'
def spWidth : Sp := fun vs H Q _ => ∃ (m l : Int) (T : Addr) (tls : List (List (Int × Int))), vs = [.int m, .ref T, .int l] ∧ 0 < m ∧ l ≤ m ∧ ToolsAt H T tls ∧ tls ≠ [] ∧ tls.length ≤ 100 ∧ (∀ tl ∈ tls, IsTool m tl) ∧
  ∀ (v : Int) (H' : Hp), IsWidth m tls l v → Same H H' → Q (.int v) H'
def spLWidth : Sp := fun vs H Q _ => ∃ (m l : Int) (T : Addr) (tls : List (List (Int × Int))), vs = [.int m, .ref T, .int l] ∧ 1 ≤ m ∧ m ≤ 60 ∧ l ≤ m ∧ ToolsAt H T tls ∧ tls ≠ [] ∧ tls.length ≤ 100 ∧ (∀ tl ∈ tls, IsTool m tl) ∧
  ∀ (v : Int) (H' : Hp), IsWidth m tls l v → Same H H' → Q (.int v) H'
def spTools : Sp := fun vs H Q _ => ∃ (a c : Addr) (k m : Int), vs = [.ref a, .int m] ∧ Deck H a c k ∧ k + 130 ≤ 1000000 ∧ 1 ≤ m ∧ m ≤ 60 ∧
  ∀ (T : Addr) (tls : List (List (Int × Int))) (H' : Hp), tls ≠ [] → tls.length ≤ 4 → (∀ tl ∈ tls, IsTool m tl) → ToolsAt H' T tls → Deck H' a c (k + 130) → Keep a c H H' → Q (.ref T) H'
theorem zip_ints (ts ss : List Int) : (ts.map V.int).zip (ss.map V.int) = (ts.zip ss).map fun p => (V.int p.1, V.int p.2) := by
  rw [List.zip_map]
  rfl
def unI : V → Int
  | .int i => i
  | _ => 0
theorem psum_V (P : Int → Bool) (ts ss : List Int) : (((ts.map V.int).zip (ss.map V.int)).filter fun p => P (unI p.1)).map (·.2) = ((((ts.zip ss).filter fun p => P p.1).map (·.2))).map V.int := by
  rw [zip_ints, List.filter_map, List.map_map, List.map_map]
  rfl
theorem steps_V (m : Int) (bs : List Int) : (((bs.map V.int).zip ((bs.map V.int).drop 1 ++ [V.int (bs.headD 0 + m)])).filter fun _ => true).map (fun p => V.int (unI p.2 - unI p.1)) = (stepsOf m bs).map V.int := by
  have e : (bs.map V.int).drop 1 ++ [V.int (bs.headD 0 + m)] = (bs.drop 1 ++ [bs.headD 0 + m]).map V.int := by
    rw [List.map_append, List.map_drop]
    rfl
  unfold stepsOf
  rw [e, zip_ints, List.filter_eq_self.mpr fun _ _ => rfl, List.map_map, List.map_map]
  rfl

theorem Paired.left {α β : Type} {F : α → β → Prop} : ∀ {l : List α} {r : List β}, Paired F l r → ∀ b ∈ r, ∃ a ∈ l, F a b
  | _, _, .nil, b, h => (List.not_mem_nil h).elim
  | _, _, .cons (a := a) h t, b, hb => by
    rcases List.mem_cons.mp hb with e | e
    · rw [e]
      exact ⟨a, List.mem_cons_self, h⟩
    · obtain ⟨a', h1, h2⟩ := Paired.left t b e
      exact ⟨a', List.mem_cons_of_mem _ h1, h2⟩
def toolsD (tls : List (List (Int × Int))) : PyData := .tuple (tls.map toolD)
theorem ToolsAt.dp {K : PySem.W.Frag} {H : Hp} {a : Addr} {tls : List (List (Int × Int))} (h : ToolsAt H a tls) : Dp K H (.ref a) (toolsD tls) := by
  obtain ⟨as, h1, h2⟩ := h
  refine .tup (SqT.of h1) ?_
  have key : ∀ {as : List Addr} {tls : List (List (Int × Int))}, Paired (fun p tl => ToolAt H p tl) as tls → DpAll K H (as.map V.ref) (tls.map toolD) := by
    intro as tls h
    induction h with
    | nil => exact .nil
    | cons h _ ih => exact .cons h.dp ih
  exact key h2
theorem tools_fine {m : Int} {tls : List (List (Int × Int))} (h : ∀ tl ∈ tls, IsTool m tl) (hm : m ≤ 60) (hl : tls.length ≤ 4) : Fine (toolsD tls) 250000 3 := by
  have f : Fine (toolsD tls) ((tls.map toolD).length * (50000 + 2) + 3) (2 + 1) := fine_tuple fun d hd => by
    rw [List.mem_map] at hd
    obtain ⟨tl, h1, e⟩ := hd
    subst e
    exact tool_fine (h tl h1) hm
  rw [List.length_map] at f
  exact f.mono (by omega) (by decide)
theorem cnt_le {m : Int} {tl : List (Int × Int)} {b l : Int} (hm : 0 ≤ m) : cnt m tl b l ≤ m := by
  unfold cnt
  have := brought_len m tl b l
  omega
theorem IsWidth.rng {m : Int} {tls : List (List (Int × Int))} {l v : Int} (h : IsWidth m tls l v) (hm : 0 ≤ m) : 0 ≤ v ∧ v ≤ m := by
  obtain ⟨tl, _, b, _, _, e⟩ := h.got
  have := cnt_le (tl := tl) (b := b) (l := l) hm
  have : 0 ≤ cnt m tl b l := Int.natCast_nonneg _
  omega

/-! ### enumerate of a tuple -/
abbrev en1 (h : Heap) (l : Addr) : Heap := h.push { cls := .type "tuple_iterator", data := .fields #[.ref l, .int 0 0] }
abbrev enO (i : Addr) : Obj := { cls := .type "enumerate", data := .fields #[.none, .bool false, .ref i, rawInt 0, .none, .none] }
abbrev en2 (h : Heap) (l : Addr) : Heap := (en1 h l).push (enO h.objs.size)
theorem en_new (l : Addr) (xs : Array Value) : Meets (Builtin.«enumerate.__new__» ⟨[.type "enumerate", .ref l], []⟩) (fun _ R s =>
    s.heap.IsTuple l xs ∧ R (.ok (.ret (.ref (en1 s.heap l).objs.size))) { s with heap := en2 s.heap l }) := by
  refine .of_wp fun prog w A R s h => ?_
  obtain ⟨hp, g, d, tk, os⟩ := s
  obtain ⟨⟨⟨cl, di, da, sl⟩, ob, hc, k, hd⟩, h⟩ := h
  simp only at hc hd
  subst hc
  subst hd
  have onL : Heap.IsTuple (Shared.heap ⟨hp, g, d, tk, os⟩) l xs := ⟨_, ob, rfl, k, rfl⟩
  have hsub := sub_enumerate
  wp_walk using AutoSeq1.wpAny_loadPart' ob
  refine wpAny_stack_any fun st => wpAny_pure ?_
  split
  · rename_i c _ _ _ _ _
    cases (c == Value.type "enumerate")
    all_goals (wp_walk using AutoSeq1.wpAny_loadPart' ob, wpAny_pyIter_tuple onL; exact ⟨_, rfl, h⟩)
  · wp_walk using AutoSeq1.wpAny_loadPart' ob, wpAny_pyIter_tuple onL
    exact ⟨_, rfl, h⟩
section
variable {prog : Program} {w : World} {A : Around} {E : Value → Shared → Prop} {s : Shared}
theorem en_call {l : Addr} {xs : Array Value} {Q : Value → Shared → Prop} (hl : s.heap.IsTuple l xs)
    (h : ∀ h', IsEnum h' (s.heap.objs.size + 1) s.heap.objs.size 0 .none → h'.IsTupleIter s.heap.objs.size l 0 →
      (∀ c o, s.heap.get? c = some o → h'.get? c = some o) → Q (.ref (s.heap.objs.size + 1)) { s with heap := h' }) :
    wpAny (model prog w) A (call (.type "enumerate") [.ref l]) Q E s := by
  apply callType_new F.called_enumerate (by decide) (F.typeCall_enumerate_1 _) (F.newCall_enumerate_1 _)
    (fun obj => F.args_object_init_2 obj _) F.entry_enumerate_new (en_new l xs)
  refine ⟨hl, ?_⟩
  have q1 : (en1 s.heap l).objs.size = s.heap.objs.size + 1 := Heap.size_push ..
  have up : ∀ {h : Heap} {o : Obj} {c : Addr} {u : Obj}, h.get? c = some u → (h.push o).get? c = some u := fun e => Heap.get?_push_of_some _ e
  have e2 : (en2 s.heap l).get? (en1 s.heap l).objs.size = some (enO s.heap.objs.size) := Heap.get?_push_size _ rfl
  have e1 : (en2 s.heap l).get? s.heap.objs.size = some _ := up (Heap.get?_push_size _ rfl)
  show _ ∧ _
  rw [q1] at e2
  rw [q1]
  exact ⟨⟨_, e2, rfl⟩, h _ e2 ⟨_, e1, rfl, rfl⟩ fun c o x => up (up x)⟩
end
/-- the tuple at a, each item in a new pair with its number -/
def Iet (K : PySem.W.Frag) (a : Addr) : It where
  go i H := ∃ (xs : List V) (x : V), SqT K H a xs ∧ xs[i]? = some x
  yld i H v H' := ∃ T x, v = .ref T ∧ H T = none ∧ H' = upd H T (.tup [.int (i : Nat), x]) ∧ ∀ xs, SqT K H a xs → xs[i]? = some x
  stop i H := ∃ xs : List V, SqT K H a xs ∧ xs.length = i
theorem en_turn {P : Program} {w : World} {K : PySem.W.Frag} {elts : List Expr} {kk : Nat} {tpos : Pos} {a e it : Addr} (ai : a ≠ it) (ae : a ≠ e) (ne : e ≠ it) :
    Turn P w K (.Tuple elts kk tpos) (Iet K a) [e, it] e (fun i h => (∃ old, IsEnum h e it ((i : Nat) : Int) old) ∧ h.IsTupleIter it a i) := by
  have two : ∀ {c : Addr}, c ∈ [e, it] → c = e ∨ c = it := fun h => by simpa using h
  have hef : e ∉ [it, a] := by
    simp only [List.mem_cons, List.not_mem_nil, or_false, not_or]
    exact ⟨ne, Ne.symm ae⟩
  constructor
  · exact List.mem_cons_self
  · intro i h st c hc
    obtain ⟨⟨old, he⟩, ⟨o1, e1, _, d1⟩⟩ := st
    rcases two hc with q | q
    · subst q
      exact ⟨_, he, fun v q => nomatch q⟩
    · subst q
      exact ⟨o1, e1, fun v q => by rw [d1] at q; cases q⟩
  · intro i h h' st k
    obtain ⟨⟨old, he⟩, h1⟩ := st
    exact ⟨⟨old, k e (by simp) _ he⟩, h1.at fun o q => k it (by simp) o q⟩
  · intro X hP hw hK hc i pins s σ H E I hf st hg
    subst hP
    subst hw
    subst hK
    obtain ⟨⟨old, he⟩, h1⟩ := st
    obtain ⟨xs, x, qx, gx⟩ := hg
    obtain ⟨us, rx, px, _⟩ := I.tuple qx
    obtain ⟨u, gu, ru⟩ := rx.get gx
    have lu := (List.getElem?_eq_some_iff.mp gu).1
    have elt : e < s.heap.objs.size := Heap.lt_size he
    have calm : X.A.in1.handled = none := I.ok.hd hc
    have D1 := Draws.tuple (prog := X.prog) (w := X.w) calm it a ai us.toArray
    refine wpAny_pyNext_enum_itemD D1 he ⟨h1, px⟩ (by simpa using lu) ne hef fun u' h' tk eu eo st' hT _ keep => ?_
    have eu' : u' = u := by
      have z := eu.symm.trans (show us.toArray[i]? = some u by simpa using gu)
      exact Option.some.inj z
    subst eu'
    refine ⟨_, rfl, wpAny_letOwnedTupleGo_enum (s := { s with heap := h', toks := tk + 1 }) eo fun h'' e'' sb => ?_⟩
    have hT2 : h''.get? s.heap.objs.size = some { cls := .type "tuple", data := .seq #[.int i tk, u'] } := (sb.2 _ (Nat.ne_of_gt elt)).trans hT
    have fresh : ObjOk X.prog X.w (upd H s.heap.objs.size (.tup [.int (i : Nat), x])) h'' s.heap.objs.size (.tup [.int (i : Nat), x]) := by
      refine ⟨by show 2 ≤ sizeLine; decide, [.int i tk, u'], .cons ⟨_, rfl⟩ (.cons ru .nil), ⟨_, hT2, rfl, _, rfl⟩⟩
    have J : L2.Inv X pins σ (upd H s.heap.objs.size (.tup [.int (i : Nat), x])) { s with heap := h'', toks := tk + 1 } := by
      refine I.turnedNew (t' := tk + 1) (ch := [e, it]) (fun c o nc q => ?_) hf (Nat.le_refl _) fresh
      have n1 : c ≠ e := fun z => nc (by simp [z])
      have n2 : c ≠ it := fun z => nc (by simp [z])
      exact (sb.2 c n1).trans (keep c o n1 n2 q)
    refine ⟨.ref s.heap.objs.size, _, J, rfl, ⟨_, x, rfl, I.hok.fresh (Nat.le_refl _), rfl, fun l hl => ?_⟩, ⟨⟨u', ?_⟩, ?_⟩, fun c hcm => ?_⟩
    · rw [I.tuple_inj hl qx]
      exact gx
    · rw [show ((i + 1 : Nat) : Int) = (i : Int) + 1 by omega]
      exact e''
    · exact st'.1.at fun o q => (sb.2 _ (Ne.symm ne)).trans q
    · have lt : c < s.heap.objs.size := by
        rcases two hcm with q | q
        · subst q
          exact elt
        · subst q
          obtain ⟨_, e1, _⟩ := h1
          exact Heap.lt_size e1
      rw [upd_ne (Nat.ne_of_lt lt)]
      exact (hf c hcm).1
  · intro X hP hw hK hc i pins s σ H E I hf st hg
    subst hP
    subst hw
    subst hK
    obtain ⟨⟨old, he⟩, h1⟩ := st
    obtain ⟨xs, qx, hix⟩ := hg
    obtain ⟨us, rx, px, _⟩ := I.tuple qx
    have l1 := rx.length
    have calm : X.A.in1.handled = none := I.ok.hd hc
    have D1 := Draws.tuple (prog := X.prog) (w := X.w) calm it a ai us.toArray
    refine wpAny_pyNext_enum_endD D1 he ⟨by rw [List.size_toArray, ← l1, hix]; exact h1, px⟩ fun h' eb => ⟨rfl, ?_⟩
    refine I.turnedL (t' := s.toks) (ch := [e, it]) (fun c o nc q => eb c o (fun z => nc (by simp [z])) q) hf
  · intro A i s Q E st h
    obtain ⟨⟨old, he⟩, _⟩ := st
    exact wpAny_pyIter_enum he h
def iEnT (K : PySem.W.Frag) (ta : TA) : TI := fun σ H R => ta σ H fun vs H1 => ∃ a xs, vs = [.ref a] ∧ SqT K H1 a xs ∧ R (Iet K a) H1
theorem pi_enT {X : Cx} {e : Expr} {ta : TA} {p pos tpos : Pos} {elts : List Expr} {kk : Nat} (hg : Gl X "enumerate") (hm : X.mg "enumerate" = none)
    (ha : PA X [e] ta) (hs : starEach [e] X.env = [(false, eval e X.env)] := by rfl) :
    PI X (.Tuple elts kk tpos) (.Call (.Name "enumerate" p) [e] [] pos) (iEnT X.K ta) := by
  constructor
  intro pins s σ H R I h
  refine Call_ (ld_blt I hg hm boot_enumerate (PyProof.Rows.callWith_type1 (thn (ha.run pos pins s σ H _ I h) fun us s1 ⟨vs, H1, I1, r1, q1⟩ => ?_) hs rfl))
  obtain ⟨a, xs, ex, qx, q⟩ := q1
  subst ex
  obtain ⟨u, eu, ra⟩ := vals1 r1
  subst eu
  cases ra
  obtain ⟨as_, rx, px, _⟩ := I1.tuple qx
  obtain ⟨oa, hoa, _⟩ := id px
  have alt : a < s1.heap.objs.size := Heap.lt_size hoa
  refine en_call (show s1.heap.IsTuple a as_.toArray from px) fun h' he h1 hk => wpAny_pyIter_enum he ?_
  refine ⟨s1.heap.objs.size + 1, [s1.heap.objs.size + 1, s1.heap.objs.size], _, _, H1, rfl, I1.kept (t' := s1.toks) hk,
    en_turn (Nat.ne_of_lt alt) (Nat.ne_of_lt (Nat.lt_succ_of_lt alt)) (Nat.succ_ne_self _), ⟨⟨_, he⟩, h1⟩, fun c hcm => ?_, q⟩
  have le : s1.heap.objs.size ≤ c := by
    have e' : c = s1.heap.objs.size + 1 ∨ c = s1.heap.objs.size := by simpa using hcm
    rcases e' with z | z
    all_goals (rw [z]; first | exact Nat.le_refl _ | exact Nat.le_add_right _ _)
  exact I1.fpOk le (I1.hok.fresh le)
theorem for_enT {K : PySem.W.Frag} {a : Addr} {xs : List V} {g : TG} {tb : TS} {D : Ends} {σ : L2.St} {H : Hp} (Pv : Nat → L2.St → Hp → Prop) (h0 : Pv 0 σ H)
    (hl : ∀ i σ H, i ≤ xs.length → Pv i σ H → SqT K H a xs)
    (hs : ∀ i x T σ H, xs[i]? = some x → Pv i σ H → H T = none → g (.ref T) σ (upd H T (.tup [.int (i : Nat), x])) fun σ2 H2 => tb { D with nx := Pv (i + 1), ct := Pv (i + 1), bk := D.nx } σ2 H2)
    (hd : ∀ σ H, Pv xs.length σ H → D.nx σ H) :
    ∃ W : Nat → Nat → L2.St → Hp → Prop, (∃ m, W 0 m σ H) ∧ ∀ i m σ H, W i m σ H →
      ((Iet K a).stop i H ∧ D.nx σ H) ∨ ((Iet K a).go i H ∧ ∃ N : L2.St → Hp → Prop, (∀ σ' H', N σ' H' → ∃ m', m' < m ∧ W (i + 1) m' σ' H') ∧
        ∀ x H', (Iet K a).yld i H x H' → g x σ H' fun σ2 H2 => tb { D with nx := N, ct := N, bk := D.nx } σ2 H2) := by
  refine ⟨fun i m σ H => m = xs.length - i ∧ i ≤ xs.length ∧ Pv i σ H, ⟨xs.length, by simp, Nat.zero_le _, h0⟩, fun i m σ H ⟨em, hi, p⟩ => ?_⟩
  subst em
  have z := hl i σ H hi p
  by_cases lt : i < xs.length
  · refine .inr ⟨⟨xs, xs[i], z, by simp [lt]⟩, Pv (i + 1), fun σ' H' p' => ⟨xs.length - (i + 1), by omega, rfl, lt, p'⟩, fun v H' y => ?_⟩
    obtain ⟨T, x, ev, fr, eH, hx⟩ := y
    subst ev
    subst eH
    exact hs i x T σ H (hx xs z) p fr
  · have ei : i = xs.length := by omega
    subst ei
    exact .inl ⟨⟨xs, z, rfl⟩, hd σ H p⟩

/-! ### a tuple, from its end -/
theorem filterMap_same {α β : Type} {f g : α → Option β} : ∀ {l : List α}, (∀ x ∈ l, f x = g x) → l.filterMap f = l.filterMap g
  | [], _ => rfl
  | x :: l, h => by
    rw [List.filterMap_cons, List.filterMap_cons, h x List.mem_cons_self, filterMap_same fun y hy => h y (List.mem_cons_of_mem _ hy)]
theorem pick_back (us : List Value) : ((List.range us.length).filterMap fun (k : Nat) => us.toArray[(((us.length : Nat) : Int) - 1 + (k : Int) * (-1)).toNat]?) = us.reverse := by
  have e1 : ((List.range us.length).filterMap fun (k : Nat) => us.toArray[(((us.length : Nat) : Int) - 1 + (k : Int) * (-1)).toNat]?) =
      (List.range us.length).filterMap fun (m : Nat) => us.reverse.toArray[(((0 : Nat) : Int) + (m : Int) * 1).toNat]? := by
    apply filterMap_same
    intro k hk
    have hk := List.mem_range.mp hk
    rw [show (((us.length : Nat) : Int) - 1 + (k : Int) * (-1)).toNat = us.length - 1 - k by omega, show (((0 : Nat) : Int) + (k : Int) * 1).toNat = k by omega]
    rw [List.getElem?_toArray, List.getElem?_toArray, List.getElem?_reverse hk]
  have e2 := congrArg Array.toList (HT.pick_gen us.reverse.toArray 0 us.length)
  rw [List.toList_toArray] at e2
  rw [e1, e2, List.toList_toArray, List.toList_toArray, List.drop_zero]
  exact List.take_of_length_le (by rw [List.length_reverse]; exact Nat.le_refl _)
section
variable {prog : Program} {w : World} {A : Around} {E : Value → Shared → Prop} {s : Shared}
theorem places_back (n : Nat) : Builtin.Slice.slicePlaces ((n : Int) - 1) (-1) (-1) = n := by
  unfold Builtin.Slice.slicePlaces
  have h1 : ¬ (-1 : Int) > 0 := by omega
  simp only [h1, if_false]
  split
  · rw [show -(-1 : Int) = 1 by omega, Int.ediv_one]
    omega
  · omega
theorem applied_back {sl : Addr} {vl vu vs : Value} {n : Nat} {Q : Int × Int × Nat → Shared → Prop} (hs : s.heap.IsSliceOf sl vl vu vs) (pl : IsPart vl none) (pu : IsPart vu none) (ps : IsPart vs (some (-1)))
    (h : Q ((n : Int) - 1, -1, n) s) : wpAny (model prog w) A (Builtin.Slice.sliceApplied (.ref sl) (pure (n : Int))) Q E s := by
  obtain ⟨os, hos, hcs, hds⟩ := id hs
  unfold Builtin.Slice.sliceApplied Builtin.Slice.sliceFields
  refine wpAny_bind (wpAny_bind (wpAny_field hos hds (x := vl) rfl ?_))
  refine wpAny_bind (wpAny_field hos hds (x := vu) rfl ?_)
  refine wpAny_bind (wpAny_field hos hds (x := vs) rfl (wpAny_pure ?_))
  refine wpAny_bind (HT.slicePart_ ps ?_)
  show wpAny _ _ (if ((-1 : Int) == 0) = true then _ else _) _ _ s
  rw [if_neg (by decide)]
  refine wpAny_bind (HT.slicePart_ pl ?_)
  refine wpAny_bind (HT.slicePart_ pu ?_)
  refine wpAny_bind (wpAny_pure ?_)
  show wpAny _ _ (pure ((n : Int) - 1, (-1 : Int), Builtin.Slice.slicePlaces ((n : Int) - 1) (-1) (-1))) _ _ s
  rw [places_back]
  exact wpAny_pure h
theorem item_back {t sl : Addr} {us : List Value} {vl vu vs : Value} {Q : Value → Shared → Prop} (ht : IsTup s.heap t us.toArray) (hs : s.heap.IsSliceOf sl vl vu vs) (pl : IsPart vl none) (pu : IsPart vu none) (ps : IsPart vs (some (-1)))
    (h : Q (.ref s.heap.objs.size) { s with heap := s.heap.push { cls := .type "tuple", data := .seq us.reverse.toArray } }) (le : us.length ≤ sizeLine) : wpAny (model prog w) A (getItem (.ref t) (.ref sl)) Q E s := by
  obtain ⟨os, hos, hcs, hds⟩ := id hs
  have ty : s.TypeIs (.ref sl) "slice" := ⟨os, hos, hcs⟩
  have ok : sizeOk (.seq us.reverse.toArray) := by
    show us.reverse.toArray.size ≤ sizeLine
    rw [List.size_toArray, List.length_reverse]
    exact le
  unfold getItem
  try with_reducible refine wpAny_holding ?_
  first | refine wpAny_bind (wpAny_pure ?_) | skip
  refine wpAny_bind (wpAny_sequenceKey ht.typeIs (by decide) ?_)
  refine wpAny_bind (wpAny_callSpecial?_slot (name := Str.ofString "__getitem__") ht.typeIs slot_tuple_getitem ?_)
  refine wpAny_call_entry slot_tuple_getitem ht.typeIs entry_tuple_getitem ?_ (args_tuple_getitem _ _)
  show wpAny _ _ (Builtin.Tuple.tupleItemsOf (.ref t) >>= _) _ _ s
  refine wpAny_bind (tupleItemsOf_ ht (wpAny_bind (wpAny_typeOf ty ?_)))
  rw [if_pos (by decide)]
  refine wpAny_bind (applied_back hs pl pu ps ?_)
  have no : ¬ ((((us.toArray.size : Nat) : Int) - 1 == 0 && (-1 : Int) == 1 && us.toArray.size == us.toArray.size) = true) := by
    rw [show ((-1 : Int) == 1) = false from rfl, Bool.and_false, Bool.false_and]
    exact Bool.false_ne_true
  show wpAny _ _ (if ((((us.toArray.size : Nat) : Int) - 1 == 0 && (-1 : Int) == 1 && us.toArray.size == us.toArray.size) = true) then _ else _) _ _ s
  rw [if_neg no, List.size_toArray, pick_back]
  first
    | exact wpAny_bind (m := Builtin.Tuple.tupleExact _) (wpAny_newObj_type (wpAny_pure ⟨_, rfl, wpAny_pure h⟩) ok)
    | exact wpAny_bind (wpAny_bind (m := Builtin.Tuple.tupleExact _) (wpAny_newObj_type (wpAny_pure (wpAny_pure ⟨_, rfl, wpAny_pure h⟩)) ok))
    | exact wpAny_bind (wpAny_bind (m := Builtin.Tuple.tupleExact _) (wpAny_newObj_type (wpAny_pure ⟨_, rfl, wpAny_pure h⟩) ok))
end
def tRevT (K : PySem.W.Frag) (te : TE) : TE := fun σ H Q => te σ H fun x H1 => ∃ a xs, x = .ref a ∧ SqT K H1 a xs ∧ ∀ p, H1 p = none → Q (.ref p) (upd H1 p (.tup xs.reverse))
theorem pe_revT {X : Cx} {e : Expr} {te : TE} {k : Nat} {p1 p2 p3 pos : Pos} (he : PE X e te) : PE X (.Subscript e (.Slice none none (some (.UnaryOp .USub (.Constant (.int 1) k p1) p2)) p3) pos) (tRevT X.K te) := by
  constructor
  intro pins s σ H Q I h
  refine Subscript_ (thn (he.run pins s σ H _ I h) fun v s1 ⟨x, H1, I1, r1, a, xs, ex, hx, q⟩ => ?_)
  subst ex
  cases r1
  have st : PO X (some (.UnaryOp .USub (.Constant (.int 1) k p1) p2)) (tPart (tUn (rU fun i => .int (-i)) (tC (.int 1)))) := po_some (pe_un un_neg pe_int)
  refine wpAny_Slice ?_
  refine thn (po_none.run pins s1 σ H1 (fun o G => o = none ∧ G = H1) I1 ⟨rfl, rfl⟩) fun vl s2 ⟨o2, G2, I2, pl, e2, g2⟩ => ?_
  subst e2
  subst g2
  refine thn (po_none.run pins s2 σ G2 (fun o G => o = none ∧ G = G2) I2 ⟨rfl, rfl⟩) fun vu s3 ⟨o3, G3, I3, pu, e3, g3⟩ => ?_
  subst e3
  subst g3
  refine thn (st.run pins s3 σ G3 (fun o G => o = some (-1) ∧ G = G3) I3 ⟨1, rfl, -1, rfl, rfl, rfl⟩) fun vs s4 ⟨o4, G4, I4, ps, e4, g4⟩ => ?_
  subst e4
  subst g4
  have J : L2.Inv X pins σ G4 { s4 with heap := s4.heap.push { cls := .type "slice", data := .fields #[vl, vu, vs] } } := I4.kept (t' := s4.toks) fun b ob q => Heap.get?_push_of_some _ q
  obtain ⟨its, r, ht, hz⟩ := J.tuple hx
  have len := r.length
  refine tail_any (ops := [.ref a, .ref s4.heap.objs.size]) ht.typeIs slot_tuple_getitem.lookup ?_ (by with_unfolding_all rfl)
  refine item_back ht (Heap.IsSliceOf.new _ vl vu vs) pl pu ps ?_ (by omega)
  refine ⟨.ref _, _, J.laid (t' := s4.toks) (o := .tup xs.reverse) (fun b ob q => Heap.get?_push_of_some _ q) (Nat.le_refl _) ?_, rfl, q _ (J.hok.fresh (Nat.le_refl _))⟩
  exact ⟨by rw [List.length_reverse]; exact hz, _, r.reverse, ⟨_, Heap.get?_push_size _ rfl, rfl, _, rfl⟩⟩

/-! ### zip of a tuple and a list -/
abbrev zm1 (h : Heap) (l : Addr) : Heap := h.push { cls := .type "tuple_iterator", data := .fields #[.ref l, .int 0 0] }
abbrev zm2 (h : Heap) (l r : Addr) : Heap := (zm1 h l).push { cls := .type "list_iterator", data := .fields #[.ref r, .int 0 0] }
abbrev zm3 (h : Heap) (l r : Addr) : Heap :=
  (zm2 h l r).push { cls := .type "tuple", data := .seq #[.ref h.objs.size, .ref (zm1 h l).objs.size] }
abbrev zm4 (h : Heap) (l r : Addr) : Heap := (zm3 h l r).push { cls := .type "tuple", data := .seq #[.none, .none] }
abbrev zm5 (h : Heap) (l r : Addr) : Heap := (zm4 h l r).push
  { cls := .type "zip", data := .fields #[.none, .bool false, .bool false, .ref (zm2 h l r).objs.size, .ref (zm3 h l r).objs.size] }
theorem zm_new (l r : Addr) (xs ys : Array Value) :
    Meets (Builtin.«zip.__new__» ⟨[.type "zip", .ref l, .ref r], []⟩) (fun _ R s =>
      s.heap.IsTuple l xs ∧ s.heap.IsList r ys ∧ R (.ok (.ret (.ref (zm4 s.heap l r).objs.size))) { s with heap := zm5 s.heap l r }) := by
  refine .of_wp fun prog w A R s h => ?_
  obtain ⟨hp, g, d, tk, os⟩ := s
  obtain ⟨hl, hr, h⟩ := h
  have hsub := sub_zip
  have onL : Heap.IsTuple (Shared.heap ⟨hp, g, d, tk, os⟩) l xs := hl
  have onR : Heap.IsList (Shared.heap ⟨zm1 hp l, g, d, tk, os⟩) r ys := Heap.IsList.push hr _
  wp_walk using wpAny_pyIter_tuple onL, wpAny_pyIter_list onR
  exact ⟨_, rfl, h⟩
section
variable {prog : Program} {w : World} {A : Around} {E : Value → Shared → Prop} {s : Shared}
theorem zm_call {l r : Addr} {xs ys : Array Value} {Q : Value → Shared → Prop} (hl : s.heap.IsTuple l xs) (hr : s.heap.IsList r ys)
    (h : ∀ h', IsZip h' (s.heap.objs.size + 4) (s.heap.objs.size + 2) (s.heap.objs.size + 3) .none →
      IsPair h' (s.heap.objs.size + 2) (.ref s.heap.objs.size) (.ref (s.heap.objs.size + 1)) →
      IsPair h' (s.heap.objs.size + 3) .none .none → h'.IsTupleIter s.heap.objs.size l 0 →
      h'.IsListIter (s.heap.objs.size + 1) r 0 → (∀ c o, s.heap.get? c = some o → h'.get? c = some o) →
      Q (.ref (s.heap.objs.size + 4)) { s with heap := h' }) :
    wpAny (model prog w) A (call (.type "zip") [.ref l, .ref r]) Q E s := by
  apply callType_new F.called_zip (by decide) (F.typeCall_zip_2 _ _) (F.newCall_zip_2 _ _)
    (fun obj => F.args_object_init_3 obj _ _) F.entry_zip_new (zm_new l r xs ys)
  refine ⟨hl, hr, ?_⟩
  have q1 : (zm1 s.heap l).objs.size = s.heap.objs.size + 1 := Heap.size_push ..
  have q2 : (zm2 s.heap l r).objs.size = s.heap.objs.size + 2 := by rw [Heap.size_push, q1]
  have q3 : (zm3 s.heap l r).objs.size = s.heap.objs.size + 3 := by rw [Heap.size_push, q2]
  have q4 : (zm4 s.heap l r).objs.size = s.heap.objs.size + 4 := by rw [Heap.size_push, q3]
  have up : ∀ {h : Heap} {o : Obj} {c : Addr} {u : Obj}, h.get? c = some u → (h.push o).get? c = some u := fun e => Heap.get?_push_of_some _ e
  have e5 : (zm5 s.heap l r).get? (zm4 s.heap l r).objs.size = some _ := Heap.get?_push_size _ rfl
  have e4 : (zm5 s.heap l r).get? (zm3 s.heap l r).objs.size = some _ := up (Heap.get?_push_size _ rfl)
  have e3 : (zm5 s.heap l r).get? (zm2 s.heap l r).objs.size = some _ := up (up (Heap.get?_push_size _ rfl))
  have e2 : (zm5 s.heap l r).get? (zm1 s.heap l).objs.size = some _ := up (up (up (Heap.get?_push_size _ rfl)))
  have e1 : (zm5 s.heap l r).get? s.heap.objs.size = some _ := up (up (up (up (Heap.get?_push_size _ rfl))))
  show _ ∧ _
  rw [q2, q3, q4] at e5
  rw [q1, q2] at e3
  rw [q3] at e4
  rw [q1] at e2
  rw [q4]
  exact ⟨⟨_, e5, rfl⟩, h _ e5 e3 e4 ⟨_, e1, rfl, rfl⟩ ⟨_, e2, rfl, rfl⟩ fun c o x => up (up (up (up (up x))))⟩
end
/-- the tuple at a and the list at b as they stand at each turn, the items in new pairs -/
def Izm (K : PySem.W.Frag) (a b : Addr) : It where
  go := fun i H => ∃ (xs ys : List V) (x y : V), SqT K H a xs ∧ SqL K H b ys ∧ xs[i]? = some x ∧ ys[i]? = some y
  yld := fun i H v H' => ∃ T x y, v = .ref T ∧ H T = none ∧ H' = upd H T (.tup [x, y]) ∧
    (∀ xs, SqT K H a xs → xs[i]? = some x) ∧ ∀ ys, SqL K H b ys → ys[i]? = some y
  stop := fun i H => ∃ xs ys : List V, SqT K H a xs ∧ SqL K H b ys ∧ i ≤ xs.length ∧ i ≤ ys.length ∧ (i = xs.length ∨ i = ys.length)
theorem zm_sep {z TI TO i1 i2 a b : Addr} (D : ZipApart z TI TO i1 i2 a b) : ZipSep2 z TI TO i1 i2 [i1, a] [i2, b] where
  TIz := D.TIz
  TOz := D.TOz
  TITO := D.TITO
  TIi1 := D.TIi1
  mem1 := List.mem_cons_self
  zf1 := by
    simp only [List.mem_cons, List.not_mem_nil, or_false, not_or]
    exact ⟨D.i1z.symm, D.l1z.symm⟩
  Tf1 := by
    simp only [List.mem_cons, List.not_mem_nil, or_false, not_or]
    exact ⟨D.TOi1, D.l1TO.symm⟩
  TIi2 := D.TIi2
  mem2 := List.mem_cons_self
  zf2 := by
    simp only [List.mem_cons, List.not_mem_nil, or_false, not_or]
    exact ⟨D.i2z.symm, D.l2z.symm⟩
  Tf2 := by
    simp only [List.mem_cons, List.not_mem_nil, or_false, not_or]
    exact ⟨D.TOi2, D.l2TO.symm⟩
  sep1_2 := by
    simp only [List.mem_cons, List.not_mem_nil, or_false, not_or]
    exact ⟨D.i12, D.l2i1.symm⟩
  sep2_1 := by
    simp only [List.mem_cons, List.not_mem_nil, or_false, not_or]
    exact ⟨D.i12.symm, D.l1i2.symm⟩
theorem zm_turn {P : Program} {w : World} {K : PySem.W.Frag} {elts : List Expr} {kk : Nat} {tpos : Pos} {a b z TI TO i1 i2 : Addr}
    (D : ZipApart z TI TO i1 i2 a b) : Turn P w K (.Tuple elts kk tpos) (Izm K a b) [z, TI, TO, i1, i2] z
      (fun i h => IsZip h z TI TO .none ∧ IsPair h TI (.ref i1) (.ref i2) ∧ (∃ x y, IsPair h TO x y) ∧ h.IsTupleIter i1 a i ∧ h.IsListIter i2 b i) := by
  have five : ∀ {c : Addr}, c ∈ [z, TI, TO, i1, i2] → c = z ∨ c = TI ∨ c = TO ∨ c = i1 ∨ c = i2 := fun h => by simpa using h
  constructor
  · exact List.mem_cons_self
  · intro i h st c hc
    obtain ⟨hz, hTI, ⟨x, y, hTO⟩, ⟨o1, e1, _, d1⟩, ⟨o2, e2, _, d2⟩⟩ := st
    rcases five hc with q | q | q | q | q
    · subst q
      exact ⟨_, hz, fun v q => nomatch q⟩
    · subst q
      exact ⟨_, hTI, fun v q => nomatch q⟩
    · subst q
      exact ⟨_, hTO, fun v q => nomatch q⟩
    · subst q
      exact ⟨o1, e1, fun v q => by rw [d1] at q; cases q⟩
    · subst q
      exact ⟨o2, e2, fun v q => by rw [d2] at q; cases q⟩
  · intro i h h' st k
    obtain ⟨hz, hTI, ⟨x, y, hTO⟩, h1, h2⟩ := st
    refine ⟨k z ?_ _ hz, k TI ?_ _ hTI, ⟨x, y, k TO ?_ _ hTO⟩, h1.at fun o q => k i1 ?_ o q, h2.at fun o q => k i2 ?_ o q⟩
    all_goals simp
  · intro X hP hw hK hc i pins s σ H E I hf st hg
    subst hP
    subst hw
    subst hK
    obtain ⟨hz, hTI, ⟨x0, y0, hTO⟩, h1, h2⟩ := st
    obtain ⟨xs, ys, x, y, qx, qy, gx, gy⟩ := hg
    obtain ⟨us, rx, px, _⟩ := I.tuple qx
    obtain ⟨vs, ry, py, _⟩ := I.list qy
    obtain ⟨u, gu, ru⟩ := rx.get gx
    obtain ⟨v, gv, rv⟩ := ry.get gy
    have lu := (List.getElem?_eq_some_iff.mp gu).1
    have lv := (List.getElem?_eq_some_iff.mp gv).1
    have zlt : z < s.heap.objs.size := Heap.lt_size hz
    have calm : X.A.in1.handled = none := I.ok.hd hc
    have D1 := Draws.tuple (prog := X.prog) (w := X.w) calm i1 a D.l1i1 us.toArray
    have D2 := Draws.list (prog := X.prog) (w := X.w) calm i2 b D.l2i2 vs.toArray
    refine wpAny_pyNext_zipD2_item (zm_sep D) D1 D2 hz hTI hTO ⟨h1, px⟩ ⟨h2, py.isList⟩ (by simpa using lu) (by simpa using lv)
      fun u' v' h' tk eu ev z' TO' st1 st2 hT sz keep => ?_
    have eu' : u' = u := by
      have e := eu.symm.trans (show us.toArray[i]? = some u by simpa using gu)
      exact Option.some.inj e
    have ev' : v' = v := by
      have e := ev.symm.trans (show vs.toArray[i]? = some v by simpa using gv)
      exact Option.some.inj e
    subst eu'
    subst ev'
    refine ⟨_, rfl, wpAny_letOwnedTupleGo_zip (s := { s with heap := h', toks := tk }) z' fun h'' z'' sb => ?_⟩
    have hT2 : h''.get? s.heap.objs.size = some { cls := .type "tuple", data := .seq #[u', v'] } := (sb.2 _ (Nat.ne_of_gt zlt)).trans hT
    have fresh : ObjOk X.prog X.w (upd H s.heap.objs.size (.tup [x, y])) h'' s.heap.objs.size (.tup [x, y]) := by
      refine ⟨by show 2 ≤ sizeLine; decide, [u', v'], .cons ru (.cons rv .nil), ⟨_, hT2, rfl, _, rfl⟩⟩
    have J : L2.Inv X pins σ (upd H s.heap.objs.size (.tup [x, y])) { s with heap := h'', toks := tk } := by
      refine I.turnedNew (t' := tk) (ch := [z, TI, TO, i1, i2]) (fun c o nc q => ?_) hf (Nat.le_refl _) fresh
      have n1 : c ≠ z := fun e => nc (by simp [e])
      have n2 : c ≠ TO := fun e => nc (by simp [e])
      have n3 : c ≠ i1 := fun e => nc (by simp [e])
      have n4 : c ≠ i2 := fun e => nc (by simp [e])
      exact (sb.2 c n1).trans (keep c o n1 n2 n3 n4 q)
    refine ⟨.ref s.heap.objs.size, _, J, rfl, ⟨_, x, y, rfl, I.hok.fresh (Nat.le_refl _), rfl, fun l hl => ?_, fun l hl => ?_⟩, ⟨z'', ?_, ⟨u', v', ?_⟩, ?_, ?_⟩, fun c hcm => ?_⟩
    · rw [I.tuple_inj hl qx]
      exact gx
    · rw [I.list_inj hl qy]
      exact gy
    · exact (sb.2 _ D.TIz).trans (keep _ _ D.TIz D.TITO D.TIi1 D.TIi2 hTI)
    · exact (sb.2 _ D.TOz).trans TO'
    · exact st1.1.at fun o q => (sb.2 _ D.i1z).trans q
    · exact st2.1.at fun o q => (sb.2 _ D.i2z).trans q
    · have lt : c < s.heap.objs.size := by
        rcases five hcm with q | q | q | q | q
        · subst q
          exact zlt
        · subst q
          exact Heap.lt_size hTI
        · subst q
          exact Heap.lt_size hTO
        · subst q
          obtain ⟨_, e1, _⟩ := h1
          exact Heap.lt_size e1
        · subst q
          obtain ⟨_, e2, _⟩ := h2
          exact Heap.lt_size e2
      rw [upd_ne (Nat.ne_of_lt lt)]
      exact (hf c hcm).1
  · intro X hP hw hK hc i pins s σ H E I hf st hg
    subst hP
    subst hw
    subst hK
    obtain ⟨hz, hTI, ⟨x0, y0, hTO⟩, h1, h2⟩ := st
    obtain ⟨xs, ys, qx, qy, hix, hiy, hend⟩ := hg
    obtain ⟨us, rx, px, _⟩ := I.tuple qx
    obtain ⟨vs, ry, py, _⟩ := I.list qy
    have l1 := rx.length
    have l2 := ry.length
    have calm : X.A.in1.handled = none := I.ok.hd hc
    have D1 := Draws.tuple (prog := X.prog) (w := X.w) calm i1 a D.l1i1 us.toArray
    have D2 := Draws.list (prog := X.prog) (w := X.w) calm i2 b D.l2i2 vs.toArray
    refine wpAny_pyNext_zipD2_end (zm_sep D) D1 D2 hz hTI hTO ⟨h1, px⟩ ⟨h2, py.isList⟩ (by simp; omega) (by simp; omega) (by simp; omega) fun h' tk keep => ⟨rfl, ?_⟩
    refine I.turnedL (t' := tk) (ch := [z, TI, TO, i1, i2]) (fun c o nc q => ?_) hf
    exact keep c o (fun e => nc (by simp [e])) (fun e => nc (by simp [e])) (fun e => nc (by simp [e])) (fun e => nc (by simp [e])) q
  · intro A i s Q E st h
    exact wpAny_pyIter_zip st.1 h
def iZm (K : PySem.W.Frag) (ta : TA) : TI := fun σ H R => ta σ H fun vs H1 =>
  ∃ a b xs ys, vs = [.ref a, .ref b] ∧ SqT K H1 a xs ∧ SqL K H1 b ys ∧ R (Izm K a b) H1
theorem pi_zm {X : Cx} {e e2 : Expr} {ta : TA} {p pos tpos : Pos} {elts : List Expr} {kk : Nat} (hg : Gl X "zip") (hm : X.mg "zip" = none)
    (ha : PA X [e, e2] ta) (hs : starEach [e, e2] X.env = (false, eval e X.env) :: starEach [e2] X.env := by rfl)
    (hpl : (backTo pos (starEach [e2] X.env)).any (·.1) = false := by rfl) :
    PI X (.Tuple elts kk tpos) (.Call (.Name "zip" p) [e, e2] [] pos) (iZm X.K ta) := by
  constructor
  intro pins s σ H R I h
  refine Call_ (ld_blt I hg hm PyProof.Rows.boot_zip (PyProof.Rows.callWith_type1 ?_ hs hpl))
  refine thn (ha.run pos pins s σ H _ I h) fun us s1 ⟨vs, H1, I1, r1, q1⟩ => ?_
  obtain ⟨a, b, xs, ys, ex, qx, qy, q⟩ := q1
  subst ex
  obtain ⟨u1, u2, eu, ra, rb⟩ := vals2 r1
  subst eu
  cases ra
  cases rb
  obtain ⟨as_, rx, px, _⟩ := I1.tuple qx
  obtain ⟨bs_, ry, py, _⟩ := I1.list qy
  obtain ⟨oa, hoa, _⟩ := id px
  refine zm_call (show s1.heap.IsTuple a as_.toArray from px) py.isList fun h' hz hTI hTO h1 h2 hk => wpAny_pyIter_zip hz ?_
  refine ⟨s1.heap.objs.size + 4, [s1.heap.objs.size + 4, s1.heap.objs.size + 2, s1.heap.objs.size + 3, s1.heap.objs.size, s1.heap.objs.size + 1],
    _, _, H1, rfl, I1.kept (t' := s1.toks) hk, zm_turn (PySem.W.ktu_apart s1.heap.objs.size a b (Heap.lt_size hoa) py.lt), ⟨hz, hTI, ⟨_, _, hTO⟩, h1, h2⟩, fun c hcm => ?_, q⟩
  have le : s1.heap.objs.size ≤ c := by
    have e' : c = s1.heap.objs.size + 4 ∨ c = s1.heap.objs.size + 2 ∨ c = s1.heap.objs.size + 3 ∨ c = s1.heap.objs.size ∨ c = s1.heap.objs.size + 1 := by simpa using hcm
    rcases e' with z | z | z | z | z
    all_goals (rw [z]; first | exact Nat.le_refl _ | exact Nat.le_add_right _ _)
  exact I1.fpOk le (I1.hok.fresh le)

/-! ### data, dicts among it -/
structure Neat (d : PyData) (n e : Nat) : Prop where
  sh : d.showable = true
  dp : d.depth ≤ e
  ln : d.shown.length ≤ n
theorem Neat.mono {d : PyData} {n n' e e' : Nat} (h : Neat d n e) (h1 : n ≤ n') (h2 : e ≤ e') : Neat d n' e' := ⟨h.sh, Nat.le_trans h.dp h2, Nat.le_trans h.ln h1⟩
theorem Fine.neat {d : PyData} {n e : Nat} (h : Fine d n e) : Neat d n e := ⟨h.sh, h.dp, h.ln⟩
theorem neat_list {ds : List PyData} {n e : Nat} (h : ∀ d ∈ ds, Neat d n e) : Neat (.list ds) (ds.length * (n + 2) + 2) (e + 1) := by
  refine ⟨showableAll_of fun d hd => (h d hd).sh, ?_, ?_⟩
  · rw [PyData.depth]
    have := depthAll_of (ds := ds) (e := e) fun d hd => (h d hd).dp
    omega
  · rw [PyData.shown]
    exact Nat.le_trans (listText_le _) (Nat.add_le_add_right (piled_of fun d hd => (h d hd).ln) 2)
theorem neat_tuple {ds : List PyData} {n e : Nat} (h : ∀ d ∈ ds, Neat d n e) : Neat (.tuple ds) (ds.length * (n + 2) + 3) (e + 1) := by
  refine ⟨showableAll_of fun d hd => (h d hd).sh, ?_, ?_⟩
  · rw [PyData.depth]
    have := depthAll_of (ds := ds) (e := e) fun d hd => (h d hd).dp
    omega
  · rw [PyData.shown]
    exact Nat.le_trans (tupleText_le _) (Nat.add_le_add_right (piled_of fun d hd => (h d hd).ln) 3)
/-- dicts whose keys are tuples of ints -/
def dTo (es : List (List Int × Int)) : HO := .dT (es.map fun e => (e.1.map Sum.inl, V.int e.2))
abbrev dicD (es : List (List Int × Int)) : PyData := .dict ((.int (2 ^ 2000), .none) :: es.map fun e => (.tuple (e.1.map .int), .int e.2))
theorem dicD_no (es : List (List Int × Int)) : (dicD es).showable = true → False := by
  intro h
  have h : ((PyData.int (2 ^ 2000)).showable && (PyData.none).showable && PyData.showableKv (es.map fun e => (PyData.tuple (e.1.map .int), PyData.int e.2))) = true := h
  rw [show (PyData.int (2 ^ 2000)).showable = false by decide +kernel] at h
  cases h
/-- a way: what it costs, and its last push -/
abbrev Way := Int × Option (Int × Int)
def wayD (e : Way) : PyData := match e.2 with
  | none => .tuple [.int e.1, .none, .none]
  | some (i, l) => .tuple [.int e.1, .int i, .int l]
def wayV (e : Way) : List V := match e.2 with
  | none => [.int e.1, .non, .non]
  | some (i, l) => [.int e.1, .int i, .int l]
abbrev waysD (es : List (Int × Way)) : PyData := .dict ((.none, .int (2 ^ 2000)) :: es.map fun e => (.int e.1, wayD e.2))
theorem waysD_no (es : List (Int × Way)) : (waysD es).showable = true → False := by
  intro h
  have h : ((PyData.none).showable && (PyData.int (2 ^ 2000)).showable && PyData.showableKv (es.map fun e => (PyData.int e.1, wayD e.2))) = true := h
  rw [show (PyData.int (2 ^ 2000)).showable = false by decide +kernel, Bool.and_false] at h
  cases h
/-- the entries of a dict of ways, each at its address -/
def wayE (es : List (Int × Way)) (as : List Addr) : List (Key × V) := List.zipWith (fun e a => ((.inl e.1 : Key), V.ref a)) es as
/-- lists and dicts (data that may be written); what never changes -/
noncomputable def lsy : HO → Bool
  | .lst _ => true
  | .dK _ => true
  | .dT _ => true
  | .ext φ => @decide (¬ ∃ c q, HO.ext φ = LamX.CodeO c q) (Classical.propDecidable _)
  | _ => false
theorem lsy_code {c : Addr} {q : Str} : lsy (LamX.CodeO c q) = false := @decide_eq_false _ (Classical.propDecidable _) (not_not_intro ⟨c, q, rfl⟩)
theorem plain_heap : ∀ n : Nat, ∃ h : Heap, h.objs.size = n ∧ ∀ a o, h.get? a = some o → o.data = .plain
  | 0 => ⟨{}, rfl, fun a o e => absurd (Heap.lt_size e) (Nat.not_lt_zero _)⟩
  | n + 1 => by
    obtain ⟨h, h1, h2⟩ := plain_heap n
    refine ⟨h.push { cls := .none, data := .plain }, by rw [Heap.size_push, h1], fun a o e => ?_⟩
    rcases Heap.get?_push_cases e with ⟨_, z⟩ | z
    · rw [z]
    · exact h2 a o z
theorem set_code {w : World} {D c : Addr} {S : Int → Bool} {n : Nat} {q : Str} : SetO w D S n ≠ LamX.CodeO c q := by
  intro e
  have e := HO.ext.inj e
  obtain ⟨h, h1, h2⟩ := plain_heap c
  have e := congrFun e (h.push { cls := .none, data := .fields #[.none, .str q default] })
  have r : SetR w (h.push { cls := .none, data := .fields #[.none, .str q default] }) D S n := by
    rw [e]
    exact ⟨_, _, _, by rw [← h1]; exact Heap.get?_push_size _ rfl, rfl, rfl⟩
  obtain ⟨o, es, ep, t, g, _, hd, _⟩ := r
  rcases Heap.get?_push_cases g with ⟨_, z⟩ | z
  · rw [z] at hd
    cases hd
  · rw [h2 _ _ z] at hd
    cases hd
theorem lsy_set {w : World} {D : Addr} {S : Int → Bool} {n : Nat} : lsy (SetO w D S n) = true := @decide_eq_true _ (Classical.propDecidable _) fun ⟨_, _, e⟩ => set_code e
def Hard (o : HO) : Prop := (∀ xs, o ≠ HO.lst xs) ∧ (∀ x, o ≠ HO.dK x) ∧ (∀ x, o ≠ HO.dT x) ∧ (∀ a b c, o ≠ HO.ins a b c) ∧ (∀ a, o ≠ HO.own a) ∧ ∀ x, o ≠ HO.tbl x
def StayT (H H' : Hp) : Prop := ∀ b o, Hard o → H b = some o → H' b = some o
theorem StayT.refl (H : Hp) : StayT H H := fun _ _ _ h => h
theorem StayT.trans {H H1 H2 : Hp} (x : StayT H H1) (y : StayT H1 H2) : StayT H H2 := fun b o n h => y b o n (x b o n h)
theorem StayT.of_same {H H' : Hp} (h : Same H H') : StayT H H' := fun b o _ e => h b o e
theorem Stay.t {H H' : Hp} (h : Stay H H') : StayT H H' := fun b o n e => h b o n.1 e
theorem hard_tup {xs : List V} : Hard (.tup xs) := ⟨fun _ z => (by cases z), fun _ z => (by cases z), fun _ z => (by cases z), fun _ _ _ z => (by cases z), fun _ z => (by cases z), fun _ z => (by cases z)⟩
theorem hard_ext {φ : Heap → Prop} : Hard (.ext φ) := ⟨fun _ z => (by cases z), fun _ z => (by cases z), fun _ z => (by cases z), fun _ _ _ z => (by cases z), fun _ z => (by cases z), fun _ z => (by cases z)⟩
theorem hard_frz {o : Obj} {ob : HO} : Hard (.frz o ob) := ⟨fun _ z => (by cases z), fun _ z => (by cases z), fun _ z => (by cases z), fun _ _ _ z => (by cases z), fun _ z => (by cases z), fun _ z => (by cases z)⟩
theorem stayT_tup {K : PySem.W.Frag} {H H' : Hp} {a : Addr} {xs : List V} (e : StayT H H') (h : SqT K H a xs) : SqT K H' a xs := by
  rcases h with (h | ⟨o, h⟩) | h
  · exact .inl (.inl (e _ _ hard_tup h))
  · exact .inl (.inr ⟨o, e _ _ hard_frz h⟩)
  · exact .inr h
theorem stay_dict {H : Hp} {D : Addr} {us ws : List (List Key × V)} (h : H D = some (.dT us)) : StayT H (upd H D (.dT ws)) := by
  intro b o n e
  by_cases z : b = D
  · subst z
    rw [h] at e
    exact absurd (Option.some.inj e).symm (n.2.2.1 _)
  · rw [upd_ne z]
    exact e
mutual
inductive Dv (K : PySem.W.Frag) (H : Hp) (B : List Addr) : V → PyData → Prop
  | non : Dv K H B .non .none
  | bl (b : Bool) : Dv K H B (.bl b) (.bool b)
  | int (i : Int) : Dv K H B (.int i) (.int i)
  | str (x : Str) : Dv K H B (.str x) (.str x)
  | lst {p : Addr} {xs : List V} {ds : List PyData} : H p = some (.lst xs) → p ∉ B → DvAll K H B xs ds → Dv K H B (.ref p) (.list ds)
  | tup {p : Addr} {xs : List V} {ds : List PyData} : H p = some (.tup xs) → DvAll K H B xs ds → Dv K H B (.ref p) (.tuple ds)
  | dic {p : Addr} : H p = some (.dK []) → p ∉ B → Dv K H B (.ref p) (.dict [])
  | dcS {p : Addr} {k : Str} {i : Int} : H p = some (.dK [(.inr k, .int i)]) → p ∉ B → Dv K H B (.ref p) (.dict [(.str k, .int i)])
  | dcT {p : Addr} {o : Obj} {es : List (List Int × Int)} : H p = some (.frz o (dTo es)) → Dv K H B (.ref p) (.dict ((.int (2 ^ 2000), .none) :: es.map fun e => (.tuple (e.1.map .int), .int e.2)))
  | dcI {p : Addr} {o : Obj} {es : List (Int × Way)} {as : List Addr} : H p = some (.frz o (.dK (wayE es as))) → as.length = es.length → (∀ (i : Nat) (a : Addr) (e : Int × Way), as[i]? = some a → es[i]? = some e → SqT K H a (wayV e.2)) → Dv K H B (.ref p) (.dict ((.none, .int (2 ^ 2000)) :: es.map fun e => (.int e.1, wayD e.2)))
inductive DvAll (K : PySem.W.Frag) (H : Hp) (B : List Addr) : List V → List PyData → Prop
  | nil : DvAll K H B [] []
  | cons {v : V} {vs : List V} {d : PyData} {ds : List PyData} : Dv K H B v d → DvAll K H B vs ds → DvAll K H B (v :: vs) (d :: ds)
end
/-- what a deck may do -/
structure Mv (B : List Addr) (H H' : Hp) : Prop where
  st : StayT H H'
  kp : ∀ b o, b ∉ B → lsy o = true → H b = some o → H' b = some o
  al : ∀ a, H a ≠ none → H' a ≠ none
theorem al_same {H H' : Hp} (h : Same H H') : ∀ a, H a ≠ none → H' a ≠ none := fun a n z => by
  cases e : H a with
  | none => exact n e
  | some o =>
    rw [h _ _ e] at z
    cases z
theorem al_upd {H : Hp} {D : Addr} {w : HO} : ∀ a, H a ≠ none → upd H D w a ≠ none := fun a n z => by
  by_cases e : a = D
  · rw [e, upd_same] at z
    cases z
  · rw [upd_ne e] at z
    exact n z
theorem Mv.of_same {B : List Addr} {H H' : Hp} (h : Same H H') : Mv B H H' := ⟨.of_same h, fun b o _ _ e => h b o e, al_same h⟩
theorem Mv.of_keep {a c : Addr} {B : List Addr} {H H' : Hp} {k : Int} (h : Keep a c H H') (d : Deck H a c k) (ha : a ∈ B) (hc : c ∈ B) (al : ∀ a, H a ≠ none → H' a ≠ none) : Mv B H H' :=
  ⟨(h.stay d).t, fun b o n _ e => h b o (fun z => n (by rw [z]; exact ha)) (fun z => n (by rw [z]; exact hc)) e, al⟩
theorem Mv.of_list {B : List Addr} {H : Hp} {D : Addr} {us ws : List V} (h : H D = some (.lst us)) (hD : D ∈ B) : Mv B H (upd H D (.lst ws)) :=
  ⟨(stay_list h).t, fun b o n _ e => by rw [upd_ne (fun z => n (by rw [z]; exact hD))]; exact e, al_upd⟩
theorem Mv.trans {B : List Addr} {H H1 H2 : Hp} (x : Mv B H H1) (y : Mv B H1 H2) : Mv B H H2 := ⟨x.st.trans y.st, fun b o n l e => y.kp b o n l (x.kp b o n l e), fun a h => y.al a (x.al a h)⟩
theorem Mv.refl (B : List Addr) (H : Hp) : Mv B H H := ⟨.refl _, fun _ _ _ _ e => e, fun _ h => h⟩
/-- all of B stands -/
def Stands (B : List Addr) (H : Hp) : Prop := ∀ b ∈ B, H b ≠ none
theorem Stands.same {B : List Addr} {H H' : Hp} (h : Stands B H) (s : Same H H') : Stands B H' := by
  intro b hb z
  cases e : H b with
  | none => exact h b hb e
  | some o =>
    rw [s _ _ e] at z
    cases z
theorem Stands.new {B : List Addr} {H : Hp} {p : Addr} (h : Stands B H) (np : H p = none) : p ∉ B := fun z => h p z np
section
variable {K : PySem.W.Frag} {H H' : Hp} {B : List Addr}
mutual
theorem Dv.mv (s : Mv B H H') : ∀ (d : PyData) (v : V), Dv K H B v d → Dv K H' B v d
  | .none, _, h => by
    cases h
    exact .non
  | .bool b, _, h => by
    cases h
    exact .bl b
  | .int i, _, h => by
    cases h
    exact .int i
  | .str x, _, h => by
    cases h
    exact .str x
  | .list ds, _, h => by
    cases h with
    | lst hs n1 ha => exact .lst (s.kp _ _ n1 rfl hs) n1 (DvAll.mv s ds _ ha)
  | .tuple ds, _, h => by
    cases h with
    | tup hs ha => exact .tup (s.st _ _ hard_tup hs) (DvAll.mv s ds _ ha)
  | .dict _, _, h => by
    cases h with
    | dic hs n1 => exact .dic (s.kp _ _ n1 rfl hs) n1
    | dcS hs n1 => exact .dcS (s.kp _ _ n1 rfl hs) n1
    | dcT hs => exact .dcT (s.st _ _ hard_frz hs)
    | dcI hs hl ha => exact .dcI (s.st _ _ hard_frz hs) hl fun i a e h1 h2 => stayT_tup s.st (ha i a e h1 h2)
theorem DvAll.mv (s : Mv B H H') : ∀ (ds : List PyData) (vs : List V), DvAll K H B vs ds → DvAll K H' B vs ds
  | [], _, h => by
    cases h
    exact .nil
  | d :: ds, _, h => by
    cases h with
    | cons h1 h2 => exact .cons (Dv.mv s d _ h1) (DvAll.mv s ds _ h2)
end
theorem Dv.same (s : Same H H') {d : PyData} {v : V} (h : Dv K H B v d) : Dv K H' B v d := Dv.mv (.of_same s) d v h
theorem DvAll.same (s : Same H H') {ds : List PyData} {vs : List V} (h : DvAll K H B vs ds) : DvAll K H' B vs ds := DvAll.mv (.of_same s) ds vs h
theorem DvAll.len : ∀ {vs : List V} {ds : List PyData}, DvAll K H B vs ds → vs.length = ds.length
  | _, _, .nil => rfl
  | _, _, .cons _ b => congrArg Nat.succ (DvAll.len b)
theorem DvAll.get : ∀ {vs : List V} {ds : List PyData}, DvAll K H B vs ds → ∀ {i : Nat} {v : V}, vs[i]? = some v → ∃ d, ds[i]? = some d ∧ Dv K H B v d
  | _, _, .nil, i, v, h => by cases h
  | _, _, .cons x r, 0, v, h => by
    cases h
    exact ⟨_, rfl, x⟩
  | _, _, .cons x r, i + 1, v, h => DvAll.get r (i := i) h
theorem DvAll.mem : ∀ {vs : List V} {ds : List PyData}, DvAll K H B vs ds → ∀ {v : V}, v ∈ vs → ∃ d, d ∈ ds ∧ Dv K H B v d
  | _, _, .nil, v, h => by cases h
  | _, _, .cons x r, v, h => by
    rcases List.mem_cons.mp h with e | e
    · subst e
      exact ⟨_, List.mem_cons_self, x⟩
    · obtain ⟨d, h1, h2⟩ := DvAll.mem r e
      exact ⟨d, List.mem_cons_of_mem _ h1, h2⟩
theorem DvAll.take : ∀ {vs : List V} {ds : List PyData}, DvAll K H B vs ds → ∀ n, DvAll K H B (vs.take n) (ds.take n)
  | _, _, .nil, n => by
    rw [List.take_nil, List.take_nil]
    exact .nil
  | _, _, .cons x r, 0 => .nil
  | _, _, .cons x r, n + 1 => .cons x (DvAll.take r n)
theorem DvAll.drop : ∀ {vs : List V} {ds : List PyData}, DvAll K H B vs ds → ∀ n, DvAll K H B (vs.drop n) (ds.drop n)
  | _, _, .nil, n => by
    rw [List.drop_nil, List.drop_nil]
    exact .nil
  | _, _, .cons x r, 0 => .cons x r
  | _, _, .cons x r, n + 1 => DvAll.drop r n
theorem DvAll.app : ∀ {vs : List V} {ds : List PyData}, DvAll K H B vs ds → ∀ {us : List V} {es : List PyData}, DvAll K H B us es → DvAll K H B (vs ++ us) (ds ++ es)
  | _, _, .nil, _, _, h => h
  | _, _, .cons x r, _, _, h => .cons x (DvAll.app r h)
theorem DvAll.back : ∀ {vs : List V} {ds : List PyData}, DvAll K H B vs ds → DvAll K H B vs.reverse ds.reverse
  | _, _, .nil => .nil
  | _, _, .cons x r => by
    rw [List.reverse_cons, List.reverse_cons]
    exact DvAll.app (DvAll.back r) (.cons x .nil)
theorem DvAll.many {vs : List V} {ds : List PyData} (h : DvAll K H B vs ds) : ∀ n : Nat, DvAll K H B (List.replicate n vs).flatten (List.replicate n ds).flatten
  | 0 => .nil
  | n + 1 => by
    rw [List.replicate_succ, List.replicate_succ, List.flatten_cons, List.flatten_cons]
    exact h.app (h.many n)
end
/-- the type's name -/
def kindOf : PyData → String
  | .none => "NoneType"
  | .bool _ => "bool"
  | .int _ => "int"
  | .str _ => "str"
  | .list _ => "list"
  | .tuple _ => "tuple"
  | .dict _ => "dict"
def TyZ (K : PySem.W.Frag) (H : Hp) (v : V) (t : Value) : Prop := TyX K H v t ∨ (∃ (a : Addr) (o : Obj) (kvs : List (List Key × V)), v = .ref a ∧ H a = some (.frz o (.dT kvs)) ∧ t = .type "dict") ∨ ∃ (a : Addr) (o : Obj) (kvs : List (Key × V)), v = .ref a ∧ H a = some (.frz o (.dK kvs)) ∧ t = .type "dict"
theorem kit_ofZ {X : Cx} {pins : List (Addr × Obj)} {σ : L2.St} {H : Hp} {s : Shared} {x : V} {u t : Value} (I : L2.Inv X pins σ H s) (rx : RelV x u) (ty : TyZ X.K H x t) : ∃ P : Heap → Prop, PySem.W.KitX X.K u t P ∧ P s.heap ∧ u ≠ .builtin "__main__.__loader__#opaque" := by
  rcases ty with ty | ⟨a, ob, kvs, rfl, ea, rfl⟩ | ⟨a, ob, kvs, rfl, ea, rfl⟩
  · exact kit_of I rx ty
  rotate_left
  · cases (show u = Value.ref a from rx)
    obtain ⟨_, _, _, vs, _, o, es, ep, h1, h2, _⟩ := (show ObjOk X.prog X.w H s.heap a (.frz ob (.dK kvs)) from I.hok a _ ea)
    exact ⟨_, PySem.W.kitx_dict, ⟨o, h1, h2.1⟩, fun z => nomatch z⟩
  · cases (show u = Value.ref a from rx)
    obtain ⟨_, _, _, vs, _, o, es, ep, h1, h2, _⟩ := (show ObjOk X.prog X.w H s.heap a (.frz ob (.dT kvs)) from I.hok a _ ea)
    exact ⟨_, PySem.W.kitx_dict, ⟨o, h1, h2.1⟩, fun z => nomatch z⟩
def rIsi (K : PySem.W.Frag) : List V → Hp → VK → Prop := fun xs H Q => ∃ (x c : V) (t u : Value) (b : Bool), xs = [x, c] ∧ ClsV c u ∧ TyZ K H x t ∧ PySem.W.kitOne K t u = some b ∧ Q (.bl b) H
theorem call_isiZ {X : Cx} : CallR X (.builtin "isinstance") (rIsi X.K) := by
  intro pins s σ H xs us Q I r h
  obtain ⟨x, c, t, u, b, rfl, k, ty, e, q⟩ := h
  obtain ⟨u1, u2, rfl, r1, r2⟩ := vals2 r
  have e2 := k.eq r2
  subst e2
  obtain ⟨P, Z, p, hx⟩ := kit_ofZ I r1 ty
  exact PySem.W.kia_one Z I.kIn p e hx fun tk => ⟨.bl b, H, I.tok tk, rfl, q⟩
theorem Dv.ty {K : PySem.W.Frag} {H : Hp} {B : List Addr} {v : V} {d : PyData} (h : Dv K H B v d) : TyZ K H v (.type (kindOf d)) := by
  cases h with
  | non => exact .inl <| .base .non
  | bl b => exact .inl <| .base (.bl b)
  | int i => exact .inl <| .base (.int i)
  | str x => exact .inl <| .base (.str x)
  | lst hs _ _ => exact .inl <| .base (.lst hs)
  | tup h _ => exact .inl <| .base (.tup h)
  | dic hs _ => exact .inl <| .base (.dK hs)
  | dcS hs _ => exact .inl <| .base (.dK hs)
  | dcT hs => exact .inr <| .inl ⟨_, _, _, rfl, hs, rfl⟩
  | dcI hs _ _ => exact .inr <| .inr ⟨_, _, _, rfl, hs, rfl⟩
/-- isinstance of data -/
def isT (d : PyData) : Bool := match d with
  | .tuple _ => true
  | _ => false
def isI (d : PyData) : Bool := match d with
  | .int _ => true
  | .bool _ => true
  | _ => false
def isB (d : PyData) : Bool := match d with
  | .bool _ => true
  | _ => false
section
variable {X : Cx}
theorem kisi (K : PySem.W.Frag) (hK : X.K = K := by rfl) : CallR X (.builtin "isinstance") (rIsi K) := by
  subst hK
  exact call_isiZ
end
section
variable {K : PySem.W.Frag} {H : Hp} {B : List Addr} {v : V} {d : PyData} {Q : VK}
theorem kit_tuple : PySem.W.kitOne K (.type (kindOf d)) (.type "tuple") = some (isT d) := kit_ty (by cases d <;> rfl)
theorem kit_int : PySem.W.kitOne K (.type (kindOf d)) (.type "int") = some (isI d) := kit_ty (by cases d <;> rfl)
theorem kit_bool : PySem.W.kitOne K (.type (kindOf d)) (.type "bool") = some (isB d) := kit_ty (by cases d <;> rfl)
end
/-! ### repr of such data -/
section
variable {X : Cx} {pins : List (Addr × Obj)} {σ : L2.St} {H : Hp} {s : Shared} {B : List Addr}
mutual
theorem Dv.reads (I : L2.Inv X pins σ H s) (sys : ∃ o, X.base.get? sysModules = some o) : ∀ (d : PyData) (v : V) (u : Value), Dv X.K H B v d → RelV v u → d.showable = true → ∃ as, Reads s.heap u d as ∧ sysModules ∉ as
  | .none, _, _, h, r, sh => by
    cases h
    cases r
    exact ⟨_, Reads.none, List.not_mem_nil⟩
  | .bool b, _, _, h, r, sh => by
    cases h
    cases r
    exact ⟨_, Reads.bool b, List.not_mem_nil⟩
  | .int i, _, _, h, r, sh => by
    cases h
    obtain ⟨t, e⟩ := r
    subst e
    exact ⟨_, Reads.int i t, List.not_mem_nil⟩
  | .str x, _, _, h, r, sh => by
    cases h
    obtain ⟨t, e⟩ := r
    subst e
    exact ⟨_, Reads.str x t, List.not_mem_nil⟩
  | .list ds, _, _, h, r, sh => by
    cases h with
    | @lst p xs _ hs _ ha =>
      cases r
      obtain ⟨its, rv, ⟨o, n, ho, hc, _, hd⟩, _⟩ := I.list (SqL.of hs)
      obtain ⟨as, hr, no⟩ := DvAll.reads I sys ds _ its ha rv sh
      refine ⟨_, Reads.list ho hc hd hr, fun z => ?_⟩
      rcases List.mem_cons.mp z with e | e
      · obtain ⟨o, ho⟩ := sys
        have := (I.bs _ o ho).2
        rw [e, hs] at this
        cases this
      · exact no e
  | .tuple ds, _, _, h, r, sh => by
    cases h with
    | tup hs ha =>
      cases r
      obtain ⟨its, rv, ⟨o, ho, hc, n, hd⟩, _⟩ := I.tuple (SqT.of hs)
      obtain ⟨as, hr, no⟩ := DvAll.reads I sys ds _ its ha rv sh
      exact ⟨_, Reads.tuple ho hc hd hr, no⟩
  | .dict _, _, _, h, r, sh => by
    cases h with
    | @dic p hs _ =>
      cases r
      obtain ⟨_, nsm, vs, kv, o, es, ep, ho, ex, hd, hk, he, _⟩ := (show ObjOk X.prog X.w H s.heap p (.dK []) from I.hok p _ hs)
      cases kv
      have ez : es.toList = [] := by
        generalize es.toList = l at he
        cases he
        rfl
      have k1 : es.toList.map (·.key) = [] := by rw [ez]; rfl
      have k2 : es.toList.map (·.val) = [] := by rw [ez]; rfl
      refine ⟨[p] ++ [] ++ [], Reads.dict (as := []) (bs := []) ho ex.1 hd (by rw [k1]; exact .nil) (by rw [k2]; exact .nil), fun z => ?_⟩
      have z : sysModules = p := by simpa using z
      rw [← z] at nsm
      exact absurd (beq_self_eq_true sysModules) (by rw [nsm]; exact Bool.false_ne_true)
    | @dcS p k i hs _ =>
      cases r
      obtain ⟨_, nsm, vs, kv, o, es, ep, ho, ex, hd, hk, he, _⟩ := (show ObjOk X.prog X.w H s.heap p (.dK [(.inr k, .int i)]) from I.hok p _ hs)
      cases kv with
      | cons hv hr =>
        cases hr
        obtain ⟨hv1, t, hv2⟩ := hv
        have ez : ∃ e : DictEntry, es.toList = [e] ∧ (mixKind X.prog X.w).is (.inr k) e.key = true ∧ e.val = .int i t := by
          generalize es.toList = l at he
          cases he with
          | cons h1 h2 h3 =>
            cases h3
            exact ⟨_, rfl, by rw [show (Sum.inr k : Key) = _ from hv1]; exact h1, h2.trans hv2⟩
        obtain ⟨e, ez, ek, ev⟩ := ez
        rcases keyIs_shape (k := .inr k) (v := e.key) ek with ⟨_, _, z, _⟩ | ⟨x, tx, z, hx⟩
        · cases z
        injection z with z
        subst z
        have k1 : es.toList.map (·.key) = [.str k tx] := by rw [ez]; exact congrArg (· :: []) hx
        have k2 : es.toList.map (·.val) = [.int i t] := by rw [ez]; exact congrArg (· :: []) ev
        refine ⟨[p] ++ ([] ++ []) ++ ([] ++ []), Reads.dict (as := [] ++ []) (bs := [] ++ []) ho ex.1 hd (by rw [k1]; exact .cons (.str k tx) .nil) (by rw [k2]; exact .cons (.int i t) .nil), fun z => ?_⟩
        have z : sysModules = p := by simpa using z
        rw [← z] at nsm
        exact absurd (beq_self_eq_true sysModules) (by rw [nsm]; exact Bool.false_ne_true)
    | dcT hs => exact (dicD_no _ sh).elim
    | dcI _ _ _ => exact (waysD_no _ sh).elim
theorem DvAll.reads (I : L2.Inv X pins σ H s) (sys : ∃ o, X.base.get? sysModules = some o) : ∀ (ds : List PyData) (vs : List V) (us : List Value), DvAll X.K H B vs ds → Vals vs us → PyData.showableAll ds = true → ∃ as, ReadsAll s.heap us ds as ∧ sysModules ∉ as
  | [], _, _, h, r, sh => by
    cases h
    cases r
    exact ⟨_, ReadsAll.nil, List.not_mem_nil⟩
  | d :: ds, _, _, h, r, sh => by
    cases h with
    | cons h1 h2 =>
      cases r with
      | cons r1 r2 =>
        obtain ⟨as, q1, n1⟩ := Dv.reads I sys d _ _ h1 r1 ((Bool.and_eq_true _ _).mp sh).1
        obtain ⟨bs, q2, n2⟩ := DvAll.reads I sys ds _ _ h2 r2 ((Bool.and_eq_true _ _).mp sh).2
        exact ⟨_, ReadsAll.cons q1 q2, fun z => (List.mem_append.mp z).elim n1 n2⟩
end
end
/-- repr(v), v data of any kind -/
def rReprV (K : PySem.W.Frag) : List V → Hp → VK → Prop := fun xs H Q => ∃ (v : V) (d : PyData) (B : List Addr), xs = [v] ∧ Dv K H B v d ∧ Neat d 16000000 60 ∧ Q (.str d.shown) H
theorem kreprV {X : Cx} (K : PySem.W.Frag) (sys : ∃ o, X.base.get? sysModules = some o) (hgd : X.A.guards = some []) (hu : X.A.units + 64 < cLine) (hK : X.K = K := by rfl) : CallR X (.builtin "repr") (rReprV K) := by
  subst hK
  intro pins s σ H xs us Q I r h
  obtain ⟨v, d, B, e, hd, nt, q⟩ := h
  subst e
  obtain ⟨u, e, rx⟩ := vals1 r
  subst e
  have big : (16000000 : Nat) ≤ sizeLine := by decide
  have isref : ∀ p : Addr, v = .ref p → wpAny (model X.prog X.w) X.A (call (.builtin "repr") [u]) (EP X pins σ Q) X.xe s := by
    intro p ev
    subst ev
    obtain ⟨as, rd, no⟩ := Dv.reads I sys d _ _ hd rx nt.sh
    cases rx
    have dp := nt.dp
    refine repr_of_reads' rd nt.sh (fun _ => no) hgd (by omega) (fun b o e => e) (fun h' u tk hk => ?_) (Nat.le_trans nt.ln big)
    exact ⟨.str d.shown, H, I.kept hk, ⟨u, rfl⟩, q⟩
  cases hd with
  | non =>
    cases rx
    exact PySem.P.repr_of_none ⟨.str _, H, I.tok _, ⟨_, rfl⟩, q⟩
  | bl b =>
    cases rx
    refine PySem.P.repr_of_bool ⟨.str _, H, I.tok _, ⟨_, rfl⟩, ?_⟩
    exact q
  | int i =>
    obtain ⟨t, e⟩ := rx
    subst e
    have sh := nt.sh
    exact PySem.P.repr_of_int (by simpa [PyData.showable] using sh) ⟨.str _, H, I.tok _, ⟨_, rfl⟩, q⟩
  | str x =>
    obtain ⟨t, e⟩ := rx
    subst e
    exact PySem.P.repr_of_str ⟨.str _, H, I.tok _, ⟨_, rfl⟩, q⟩ (Nat.le_trans nt.ln big)
  | lst _ _ _ => exact isref _ rfl
  | tup _ _ => exact isref _ rfl
  | dic _ _ => exact isref _ rfl
  | dcS _ _ => exact isref _ rfl
  | dcT _ => exact isref _ rfl
  | dcI _ _ _ => exact isref _ rfl
theorem Stands.keep {a c : Addr} {B : List Addr} {H H' : Hp} {k : Int} (h : Stands B H) (kp : Keep a c H H') (d : Deck H' a c k) : Stands B H' := by
  intro b hb z
  by_cases za : b = a
  · subst za
    obtain ⟨ns, j, _, h2, _⟩ := d
    rw [h2] at z
    cases z
  · by_cases zc : b = c
    · subst zc
      obtain ⟨ns, j, _, _, h3, _⟩ := d
      rw [h3] at z
      cases z
    · cases e : H b with
      | none => exact h b hb e
      | some o =>
        rw [kp _ _ za zc e] at z
        cases z

/-! ### a layer of data: what a def does, told by data alone -/
structure DK where
  w : Bool
  P : Hp → Addr → List Addr → Int → Prop
  mv : ∀ {H H' : Hp} {r : Addr} {as : List Addr} {k : Int}, P H r as k → (∀ a ∈ as, H' a = H a) → (∀ a o, lsy o = false → H a = some o → H' a = some o) → P H' r as k
  mono : ∀ {H : Hp} {r : Addr} {as : List Addr} {k k' : Int}, P H r as k → k ≤ k' → P H r as k'
/-- what a slot holds -/
inductive Sl where
  | free | dat (d : PyData) | own (ds : List PyData) | deck | exc (a D : Addr) (d : Option Addr) (fs : List (Str × PyData)) | odc (es : List (List Int × Int)) | odk (es : List (Int × Way))
def Sl.isOwn : Sl → Bool
  | .own _ => true
  | .odc _ => true
  | .odk _ => true
  | _ => false
structure AS where
  env : List Sl
  k : Option Int
def AS.put (s : AS) (i : Nat) (x : Sl) : AS := ⟨s.env.set i x, s.k⟩
def wipeA (e : List Sl) : List Nat → List Sl
  | [] => e
  | v :: vs => (wipeA e vs).set v .free
def AS.wipe (s : AS) (vs : List Nat) : AS := ⟨wipeA s.env vs, s.k⟩
structure Cy where
  r : Addr
  as : List Addr
  Bc : List Addr
  H0 : Hp
  st0 : Stands Bc H0
/-- what an expression may do to the heap -/
structure Mx (w : Bool) (as : List Addr) (H H' : Hp) : Prop where
  mv : Mv as H H'
  tk : w = false → ∀ b o, b ∉ as → H b = some o → H' b = some o
theorem Mx.al {w : Bool} {as : List Addr} {H H' : Hp} (m : Mx w as H H') : ∀ a, H a ≠ none → H' a ≠ none := m.mv.al
theorem Mx.refl {w : Bool} (as : List Addr) (H : Hp) : Mx w as H H := ⟨.refl _ _, fun _ _ _ _ h => h⟩
theorem Mx.trans {w : Bool} {as : List Addr} {H H1 H2 : Hp} (x : Mx w as H H1) (y : Mx w as H1 H2) : Mx w as H H2 := ⟨x.mv.trans y.mv, fun z b o n e => y.tk z b o n (x.tk z b o n e)⟩
theorem Mx.of_same {w : Bool} {as : List Addr} {H H' : Hp} (h : Same H H') : Mx w as H H' := ⟨.of_same h, fun _ b o _ e => h b o e⟩
theorem Mv.up {as B : List Addr} {H H' : Hp} (m : Mv as H H') (s : ∀ a ∈ as, a ∈ B) : Mv B H H' := ⟨m.st, fun b o n l e => m.kp b o (fun z => n (s b z)) l e, m.al⟩
theorem Mx.up {w : Bool} {as B : List Addr} {H H' : Hp} (m : Mx w as H H') (s : ∀ a ∈ as, a ∈ B) : Mv B H H' := m.mv.up s
theorem Mx.fresh {w : Bool} {as : List Addr} {H0 H : Hp} (m : Mx w as H0 H) {D : Addr} {x : HO} (n0 : H0 D = none) : Mx w as H0 (upd H D x) := by
  refine ⟨⟨fun b o n e => ?_, fun b o n l e => ?_, fun b hb => al_upd b (m.al b hb)⟩, fun z b o n e => ?_⟩
  · rw [upd_ne (ne_of_none e n0)]
    exact m.mv.st b o n e
  · rw [upd_ne (ne_of_none e n0)]
    exact m.mv.kp b o n l e
  · rw [upd_ne (ne_of_none e n0)]
    exact m.tk z b o n e
theorem nl_same {H H' : Hp} (h : Same H H') : ∀ a o, lsy o = false → H a = some o → H' a = some o := fun a o _ e => h a o e
theorem nl_upd {H : Hp} {D : Addr} {u x : HO} (hD : H D = some u) (hu : lsy u = true) : ∀ a o, lsy o = false → H a = some o → upd H D x a = some o := fun a o l e => by
  by_cases z : a = D
  · rw [z, hD] at e
    cases e
    rw [hu] at l
    cases l
  · rw [upd_ne z]
    exact e
/-- what a statement may do -/
structure Go (B : List Addr) (H : Hp) (B' : List Addr) (H' : Hp) : Prop where
  mv : Mv B H H'
  nb : ∀ b ∈ B', b ∈ B ∨ H b = none
theorem Go.out {B B' : List Addr} {H H' : Hp} (s : Go B H B' H') {p : Addr} {o : HO} (hs : H p = some o) (n1 : p ∉ B) : p ∉ B' := fun z => by
  rcases s.nb _ z with q | q
  · exact n1 q
  · rw [q] at hs
    cases hs
theorem Go.refl (B : List Addr) (H : Hp) : Go B H B H := ⟨.refl _ _, fun b h => .inl h⟩
theorem Go.of_mv {B : List Addr} {H H' : Hp} (h : Mv B H H') : Go B H B H' := ⟨h, fun b h => .inl h⟩
theorem Go.trans {B B1 B2 : List Addr} {H H1 H2 : Hp} (x : Go B H B1 H1) (y : Go B1 H1 B2 H2) : Go B H B2 H2 := by
  refine ⟨⟨x.mv.st.trans y.mv.st, fun b o n l e => ?_, fun a h => y.mv.al a (x.mv.al a h)⟩, fun b hb => ?_⟩
  · refine y.mv.kp b o (fun z => ?_) l (x.mv.kp b o n l e)
    rcases x.nb b z with q | q
    · exact n q
    · rw [q] at e
      cases e
  · rcases y.nb b hb with q | q
    · exact x.nb b q
    · by_cases hB : b ∈ B
      · exact .inl hB
      · refine .inr ?_
        cases e : H b with
        | none => rfl
        | some o =>
          exact absurd q (x.mv.al b (by rw [e]; intro z; cases z))
section
variable {K : PySem.W.Frag} {H H' : Hp} {B B' : List Addr}
mutual
theorem Dv.anti (s : ∀ b ∈ B', b ∈ B) : ∀ (d : PyData) (v : V), Dv K H B v d → Dv K H B' v d
  | .none, _, h => by
    cases h
    exact .non
  | .bool b, _, h => by
    cases h
    exact .bl b
  | .int i, _, h => by
    cases h
    exact .int i
  | .str x, _, h => by
    cases h
    exact .str x
  | .list ds, _, h => by
    cases h with
    | lst hs n1 ha => exact .lst hs (fun z => n1 (s _ z)) (DvAll.anti s ds _ ha)
  | .tuple ds, _, h => by
    cases h with
    | tup hs ha => exact .tup hs (DvAll.anti s ds _ ha)
  | .dict _, _, h => by
    cases h with
    | dic hs n1 => exact .dic hs fun z => n1 (s _ z)
    | dcS hs n1 => exact .dcS hs fun z => n1 (s _ z)
    | dcT hs => exact .dcT hs
    | dcI hs hl ha => exact .dcI hs hl ha
theorem DvAll.anti (s : ∀ b ∈ B', b ∈ B) : ∀ (ds : List PyData) (vs : List V), DvAll K H B vs ds → DvAll K H B' vs ds
  | [], _, h => by
    cases h
    exact .nil
  | d :: ds, _, h => by
    cases h with
    | cons h1 h2 => exact .cons (Dv.anti s d _ h1) (DvAll.anti s ds _ h2)
end
mutual
theorem Dv.go (s : Go B H B' H') : ∀ (d : PyData) (v : V), Dv K H B v d → Dv K H' B' v d
  | .none, _, h => by
    cases h
    exact .non
  | .bool b, _, h => by
    cases h
    exact .bl b
  | .int i, _, h => by
    cases h
    exact .int i
  | .str x, _, h => by
    cases h
    exact .str x
  | .list ds, _, h => by
    cases h with
    | lst hs n1 ha =>
      refine .lst (s.mv.kp _ _ n1 rfl hs) (fun z => ?_) (DvAll.go s ds _ ha)
      rcases s.nb _ z with q | q
      · exact n1 q
      · rw [q] at hs
        cases hs
  | .tuple ds, _, h => by
    cases h with
    | tup hs ha => exact .tup (s.mv.st _ _ hard_tup hs) (DvAll.go s ds _ ha)
  | .dict _, _, h => by
    cases h with
    | dic hs n1 => exact .dic (s.mv.kp _ _ n1 rfl hs) (s.out hs n1)
    | dcS hs n1 => exact .dcS (s.mv.kp _ _ n1 rfl hs) (s.out hs n1)
    | dcT hs => exact .dcT (s.mv.st _ _ hard_frz hs)
    | dcI hs hl ha => exact .dcI (s.mv.st _ _ hard_frz hs) hl fun i a e h1 h2 => stayT_tup s.mv.st (ha i a e h1 h2)
theorem DvAll.go (s : Go B H B' H') : ∀ (ds : List PyData) (vs : List V), DvAll K H B vs ds → DvAll K H' B' vs ds
  | [], _, h => by
    cases h
    exact .nil
  | d :: ds, _, h => by
    cases h with
    | cons h1 h2 => exact .cons (Dv.go s d _ h1) (DvAll.go s ds _ h2)
end
end
inductive OwnD (K : PySem.W.Frag) (H : Hp) (B : List Addr) : HO → Sl → Prop
  | l {us : List V} {ds : List PyData} : DvAll K H B us ds → OwnD K H B (.lst us) (.own ds)
  | d {es : List (List Int × Int)} : OwnD K H B (dTo es) (.odc es)
  | k {es : List (Int × Way)} {as : List Addr} : as.length = es.length → (∀ (i : Nat) (a : Addr) (e : Int × Way), as[i]? = some a → es[i]? = some e → SqT K H a (wayV e.2)) → OwnD K H B (.dK (wayE es as)) (.odk es)
theorem OwnD.mv {K : PySem.W.Frag} {H H' : Hp} {B : List Addr} {o : HO} {x : Sl} (h : OwnD K H B o x) (m : Mv B H H') : OwnD K H' B o x := by
  cases h with
  | l h => exact .l (DvAll.mv m _ _ h)
  | d => exact .d
  | k hl ha => exact .k hl fun i a e h1 h2 => stayT_tup m.st (ha i a e h1 h2)
theorem OwnD.go {K : PySem.W.Frag} {H H' : Hp} {B B' : List Addr} {o : HO} {x : Sl} (h : OwnD K H B o x) (m : Go B H B' H') : OwnD K H' B' o x := by
  cases h with
  | l h => exact .l (DvAll.go m _ _ h)
  | d => exact .d
  | k hl ha => exact .k hl fun i a e h1 h2 => stayT_tup m.mv.st (ha i a e h1 h2)
theorem OwnD.anti {K : PySem.W.Frag} {H : Hp} {B B' : List Addr} {o : HO} {x : Sl} (h : OwnD K H B o x) (m : ∀ b ∈ B', b ∈ B) : OwnD K H B' o x := by
  cases h with
  | l h => exact .l (DvAll.anti m _ _ h)
  | d => exact .d
  | k hl ha => exact .k hl ha
theorem OwnD.lsy {K : PySem.W.Frag} {H : Hp} {B : List Addr} {o : HO} {x : Sl} (h : OwnD K H B o x) : BP.lsy o = true := by
  cases h <;> rfl
def ErrAt (K : PySem.W.Frag) (H : Hp) (B : List Addr) (d : Option Addr) (fs : List (Str × PyData)) : Prop := (fs = [] ∧ d = none) ∨ ∃ dd us, d = some dd ∧ H dd = some (.xd us) ∧ us.map (·.1) = fs.map (·.1) ∧ DvAll K H B (us.map (·.2)) (fs.map (·.2))
theorem ErrAt.anti {K : PySem.W.Frag} {H : Hp} {B B' : List Addr} {d : Option Addr} {fs : List (Str × PyData)} (s : ∀ b ∈ B', b ∈ B) (h : ErrAt K H B d fs) : ErrAt K H B' d fs := by
  rcases h with h | ⟨dd, us, h1, h2, h3, h4⟩
  · exact .inl h
  · exact .inr ⟨dd, us, h1, h2, h3, DvAll.anti s _ _ h4⟩
theorem ErrAt.mv {K : PySem.W.Frag} {H H' : Hp} {B : List Addr} {d : Option Addr} {fs : List (Str × PyData)} (h : ErrAt K H B d fs) (m : Mv B H H') : ErrAt K H' B d fs := by
  rcases h with h | ⟨dd, us, h1, h2, h3, h4⟩
  · exact .inl h
  · exact .inr ⟨dd, us, h1, m.st _ _ ⟨fun _ z => (by cases z), fun _ z => (by cases z), fun _ z => (by cases z), fun _ _ _ z => (by cases z), fun _ z => (by cases z), fun _ z => (by cases z)⟩ h2, h3, DvAll.mv m _ _ h4⟩
theorem ErrAt.go {K : PySem.W.Frag} {H H' : Hp} {B B' : List Addr} {d : Option Addr} {fs : List (Str × PyData)} (h : ErrAt K H B d fs) (m : Go B H B' H') : ErrAt K H' B' d fs := by
  rcases h with h | ⟨dd, us, h1, h2, h3, h4⟩
  · exact .inl h
  · exact .inr ⟨dd, us, h1, m.mv.st _ _ ⟨fun _ z => (by cases z), fun _ z => (by cases z), fun _ z => (by cases z), fun _ _ _ z => (by cases z), fun _ z => (by cases z), fun _ z => (by cases z)⟩ h2, h3, DvAll.go m _ _ h4⟩
/-- what a slot knows of an error -/
def ExOk (K : PySem.W.Frag) (e : List Sl) (σ : L2.St) (H : Hp) (B : List Addr) : Prop := ∀ (i : Nat) (a D : Addr) (d : Option Addr) (fs : List (Str × PyData)), e[i]? = some (.exc a D d fs) → σ[i]? = some (some (.ref a)) ∧ ErrAt K H B d fs
theorem ExOk.mv {K : PySem.W.Frag} {e : List Sl} {σ : L2.St} {H H' : Hp} {B : List Addr} (h : ExOk K e σ H B) (m : Mv B H H') : ExOk K e σ H' B := fun i a D d fs z => ⟨(h i a D d fs z).1, (h i a D d fs z).2.mv m⟩
theorem ExOk.go {K : PySem.W.Frag} {e : List Sl} {σ : L2.St} {H H' : Hp} {B B' : List Addr} (h : ExOk K e σ H B) (m : Go B H B' H') : ExOk K e σ H' B' := fun i a D d fs z => ⟨(h i a D d fs z).1, (h i a D d fs z).2.go m⟩
theorem ExOk.anti {K : PySem.W.Frag} {e : List Sl} {σ : L2.St} {H : Hp} {B B' : List Addr} (h : ExOk K e σ H B) (m : ∀ b ∈ B', b ∈ B) : ExOk K e σ H B' := fun i a D d fs z => ⟨(h i a D d fs z).1, (h i a D d fs z).2.anti m⟩
structure En (K : PySem.W.Frag) (Δ : DK) (C : Cy) (B : List Addr) (σ : L2.St) (H : Hp) (s : AS) : Prop where
  len : σ.length = s.env.length
  sl : ∀ (i : Nat) (d : PyData), s.env[i]? = some (.dat d) → ∃ v, σ[i]? = some (some v) ∧ Dv K H B v d
  dr : ∀ i : Nat, s.env[i]? = some .deck → σ[i]? = some (some (.ref C.r))
  ex : ExOk K s.env σ H B
  ow : ∃ ad : Nat → Addr, (∀ (i : Nat) (x : Sl), s.env[i]? = some x → x.isOwn = true → σ[i]? = some (some (.ref (ad i))) ∧ ad i ∈ B ∧ ad i ∉ C.as ∧ C.H0 (ad i) = none ∧ ∃ us, H (ad i) = some us ∧ OwnD K H B us x) ∧
    ∀ (i j : Nat) (x y : Sl), s.env[i]? = some x → s.env[j]? = some y → x.isOwn = true → y.isOwn = true → i ≠ j → ad i ≠ ad j
  st : Stands B H
  sub : ∀ a ∈ C.as, a ∈ B
  bc : ∀ b ∈ C.Bc, b ∈ B
  dk : ∀ k, s.k = some k → Δ.P H C.r C.as k
  mw : Mx Δ.w C.as C.H0 H
section
variable {K : PySem.W.Frag} {Δ : DK} {C : Cy} {B : List Addr} {σ : L2.St} {H H' : Hp} {s : AS}
theorem Mx.stands {w : Bool} {as : List Addr} (m : Mx w as H H') (h : Stands B H) : Stands B H' := fun b hb => m.al b (h b hb)
theorem En.move (E : En K Δ C B σ H s) (m : Mx Δ.w C.as H H') {kk : Option Int} (hk : ∀ k, kk = some k → Δ.P H' C.r C.as k) : En K Δ C B σ H' ⟨s.env, kk⟩ := by
  have mb := m.up E.sub
  refine ⟨E.len, fun i d h => ?_, E.dr, E.ex.mv mb, ?_, m.stands E.st, E.sub, E.bc, hk, E.mw.trans m⟩
  · obtain ⟨v, h1, h2⟩ := E.sl i d h
    exact ⟨v, h1, h2.mv mb⟩
  · obtain ⟨ad, h1, h2⟩ := E.ow
    refine ⟨ad, fun i ds h ho => ?_, h2⟩
    obtain ⟨a1, a2, a3, a4, us, a5, a6⟩ := h1 i ds h ho
    exact ⟨a1, a2, a3, a4, us, m.mv.kp _ _ a3 a6.lsy a5, a6.mv mb⟩
theorem agree_same (h : Same H H') (st : Stands B H) : ∀ a ∈ B, H' a = H a := by
  intro a ha
  cases e : H a with
  | none => exact absurd e (st a ha)
  | some o => exact h _ _ e
theorem En.same (E : En K Δ C B σ H s) (h : Same H H') : En K Δ C B σ H' s :=
  E.move (.of_same h) fun k hk => Δ.mv (E.dk k hk) (fun a ha => agree_same h E.st a (E.sub a ha)) (nl_same h)
theorem En.newB (E : En K Δ C B σ H s) {p : Addr} (np : H p = none) : p ∉ B := E.st.new np
theorem set_get {α : Type} {l : List α} {i j : Nat} {x y : α} (h : (l.set i x)[j]? = some y) : (j = i ∧ y = x ∧ i < l.length) ∨ (j ≠ i ∧ l[j]? = some y) := by
  by_cases e : i = j
  · subst e
    by_cases hl : i < l.length
    · rw [List.getElem?_set_self hl] at h
      exact .inl ⟨rfl, (Option.some.inj h).symm, hl⟩
    · rw [List.getElem?_eq_none (by rw [List.length_set]; omega)] at h
      cases h
  · rw [List.getElem?_set_ne e] at h
    exact .inr ⟨fun z => e z.symm, h⟩
theorem ExOk.put {K : PySem.W.Frag} {e : List Sl} {σ : L2.St} {H : Hp} {B : List Addr} (h : ExOk K e σ H B) (i : Nat) (x : Sl) (hx : ∀ a D d fs, x ≠ .exc a D d fs) (v : Option V) : ExOk K (e.set i x) (σ.set i v) H B := fun j a D d fs z => by
  rcases set_get z with ⟨_, q2, _⟩ | ⟨q1, q2⟩
  · exact absurd q2.symm (hx a D d fs)
  · rw [List.getElem?_set_ne (fun z => q1 z.symm)]
    exact h j a D d fs q2
theorem ExOk.putS {K : PySem.W.Frag} {e : List Sl} {σ : L2.St} {H : Hp} {B : List Addr} (h : ExOk K e σ H B) (i : Nat) (x : Sl) (hx : ∀ a D d fs, x ≠ .exc a D d fs) : ExOk K (e.set i x) σ H B := fun j a D d fs z => by
  rcases set_get z with ⟨_, q2, _⟩ | ⟨q1, q2⟩
  · exact absurd q2.symm (hx a D d fs)
  · exact h j a D d fs q2
theorem own_noe {x : Sl} (h : x.isOwn = true) : ∀ a D d fs, x ≠ .exc a D d fs := fun a D d fs z => by
  subst z
  cases h
/-- a slot gets data -/
theorem En.put (E : En K Δ C B σ H s) {i : Nat} {v : V} {d : PyData} (h : Dv K H B v d) : En K Δ C B (σ.set i (some v)) H (s.put i (.dat d)) := by
  refine ⟨by show _ = (s.env.set i _).length; rw [List.length_set, List.length_set]; exact E.len, fun j e z => ?_, fun j z => ?_, E.ex.put i _ (by intro a D d fs z; cases z) _, ?_, E.st, E.sub, E.bc, E.dk, E.mw⟩
  · rcases set_get z with ⟨h1, h2, h3⟩ | ⟨h1, h2⟩
    · subst h1
      cases h2
      exact ⟨v, by rw [List.getElem?_set_self (by rw [E.len]; exact h3)], h⟩
    · obtain ⟨u, q1, q2⟩ := E.sl j e h2
      exact ⟨u, by rw [List.getElem?_set_ne (fun z => h1 z.symm)]; exact q1, q2⟩
  · rcases set_get z with ⟨h1, h2, h3⟩ | ⟨h1, h2⟩
    · cases h2
    · rw [List.getElem?_set_ne (fun z => h1 z.symm)]
      exact E.dr j h2
  · obtain ⟨ad, h1, h2⟩ := E.ow
    refine ⟨ad, fun j ds z ho => ?_, fun j l ds es z1 z2 o1 o2 ne => ?_⟩
    · rcases set_get z with ⟨q1, q2, q3⟩ | ⟨q1, q2⟩
      · subst q2; cases ho
      · rw [List.getElem?_set_ne (fun z => q1 z.symm)]
        exact h1 j ds q2 ho
    · rcases set_get z1 with ⟨q1, q2, q3⟩ | ⟨q1, q2⟩
      · subst q2; cases o1
      · rcases set_get z2 with ⟨p1, p2, p3⟩ | ⟨p1, p2⟩
        · subst p2; cases o2
        · exact h2 j l ds es q2 p2 o1 o2 ne
/-- a slot gets a list of its own, new at p -/
theorem En.putOwnX (E : En K Δ C B σ H s) {i : Nat} {p : Addr} {us : HO} {x : Sl} (np : H p = none) (hx : x.isOwn = true) (h : OwnD K H B us x) :
    En K Δ C (p :: B) (σ.set i (some (.ref p))) (upd H p us) (s.put i x) := by
  have sm : Same H (upd H p us) := same_upd np
  have g : Go B H (p :: B) (upd H p us) := ⟨.of_same sm, fun b hb => by
    rcases List.mem_cons.mp hb with z | z
    · rw [z]
      exact .inr np
    · exact .inl z⟩
  have nB := E.newB np
  have n0 : C.H0 p = none := by
    cases e : C.H0 p with
    | none => rfl
    | some o => exact absurd np (E.mw.al p (by rw [e]; intro z; cases z))
  refine ⟨by show _ = (s.env.set i _).length; rw [List.length_set, List.length_set]; exact E.len, fun j e z => ?_, fun j z => ?_, (E.ex.go g).put i _ (own_noe hx) _, ?_, ?_, fun a ha => List.mem_cons_of_mem _ (E.sub a ha), fun a ha => List.mem_cons_of_mem _ (E.bc a ha), ?_, E.mw.trans (.of_same sm)⟩
  · rcases set_get z with ⟨h1, h2, h3⟩ | ⟨h1, h2⟩
    · subst h2; cases hx
    · obtain ⟨u, q1, q2⟩ := E.sl j e h2
      exact ⟨u, by rw [List.getElem?_set_ne (fun z => h1 z.symm)]; exact q1, Dv.go g _ _ q2⟩
  · rcases set_get z with ⟨h1, h2, h3⟩ | ⟨h1, h2⟩
    · subst h2; cases hx
    · rw [List.getElem?_set_ne (fun z => h1 z.symm)]
      exact E.dr j h2
  · obtain ⟨ad, h1, h2⟩ := E.ow
    refine ⟨fun j => if j = i then p else ad j, fun j ds' z ho => ?_, fun j l ds' es z1 z2 o1 o2 ne => ?_⟩
    · rcases set_get z with ⟨q1, q2, q3⟩ | ⟨q1, q2⟩
      · subst q1
        subst q2
        dsimp only
        rw [if_pos rfl]
        exact ⟨by rw [List.getElem?_set_self (by rw [E.len]; exact q3)], List.mem_cons_self, fun z => nB (E.sub p z), n0, us, upd_same, h.go g⟩
      · dsimp only
        rw [if_neg q1, List.getElem?_set_ne (fun z => q1 z.symm)]
        obtain ⟨a1, a2, a3, a4, us', a5, a6⟩ := h1 j ds' q2 ho
        exact ⟨a1, List.mem_cons_of_mem _ a2, a3, a4, us', sm _ _ a5, a6.go g⟩
    · have nown : ∀ (j : Nat) (ds' : Sl), s.env[j]? = some ds' → ds'.isOwn = true → p ≠ ad j := fun j ds' z ho => by
        obtain ⟨_, a2, _⟩ := h1 j ds' z ho
        intro e
        exact nB (by rw [e]; exact a2)
      rcases set_get z1 with ⟨q1, q2, q3⟩ | ⟨q1, q2⟩
      · rcases set_get z2 with ⟨p1, p2, p3⟩ | ⟨p1, p2⟩
        · exact absurd (q1.trans p1.symm) ne
        · show (if j = i then p else ad j) ≠ (if l = i then p else ad l)
          rw [if_pos q1, if_neg p1]
          exact nown l es p2 o2
      · rcases set_get z2 with ⟨p1, p2, p3⟩ | ⟨p1, p2⟩
        · show (if j = i then p else ad j) ≠ (if l = i then p else ad l)
          rw [if_neg q1, if_pos p1]
          exact fun e => nown j ds' q2 o1 e.symm
        · show (if j = i then p else ad j) ≠ (if l = i then p else ad l)
          rw [if_neg q1, if_neg p1]
          exact h2 j l ds' es q2 p2 o1 o2 ne
  · intro b hb
    rcases List.mem_cons.mp hb with z | z
    · rw [z, upd_same]
      intro q
      cases q
    · exact E.st.same sm b z
  · intro k hk
    exact Δ.mv (E.dk k hk) (fun a ha => agree_same sm E.st a (E.sub a ha)) (nl_same sm)
theorem En.putOwn (E : En K Δ C B σ H s) {i : Nat} {p : Addr} {us : List V} {ds : List PyData} (np : H p = none) (h : DvAll K H B us ds) :
    En K Δ C (p :: B) (σ.set i (some (.ref p))) (upd H p (.lst us)) (s.put i (.own ds)) := E.putOwnX np rfl (.l h)
/-- a list of its own changes -/
theorem Mv.of_soft {B : List Addr} {H : Hp} {D : Addr} {u w : HO} (h : H D = some u) (hu : ¬ Hard u) (hD : D ∈ B) : Mv B H (upd H D w) := by
  refine ⟨fun b o n e => ?_, fun b o n _ e => by rw [upd_ne (fun z => n (by rw [z]; exact hD))]; exact e, al_upd⟩
  by_cases z : b = D
  · subst z
    rw [h] at e
    rw [Option.some.inj e] at hu
    exact absurd n hu
  · rw [upd_ne z]
    exact e
theorem OwnD.soft {K : PySem.W.Frag} {H : Hp} {B : List Addr} {o : HO} {x : Sl} (h : OwnD K H B o x) : ¬ Hard o := by
  cases h with
  | l h => exact fun z => z.1 _ rfl
  | d => exact fun z => z.2.2.1 _ rfl
  | k _ _ => exact fun z => z.2.1 _ rfl
theorem En.growX (E : En K Δ C B σ H s) {i : Nat} {ds es : Sl} {p : Addr} (hi : s.env[i]? = some ds) (hx : ds.isOwn = true) (hy : es.isOwn = true) (hp : σ[i]? = some (some (.ref p))) {ws : HO} (h : OwnD K H B ws es) :
    En K Δ C B σ (upd H p ws) (s.put i es) ∧ Go B H B (upd H p ws) := by
  obtain ⟨ad, h1, h2⟩ := E.ow
  obtain ⟨a1, a2, a3, a4, us, a5, a6⟩ := h1 i ds hi hx
  have ep : p = ad i := by
    rw [a1] at hp
    exact (V.ref.inj (Option.some.inj (Option.some.inj hp))).symm
  subst ep
  have m : Mv B H (upd H (ad i) ws) := .of_soft a5 a6.soft a2
  have hlt : i < s.env.length := (List.getElem?_eq_some_iff.mp hi).1
  refine ⟨⟨by show _ = (s.env.set i _).length; rw [List.length_set]; exact E.len, fun j e z => ?_, fun j z => ?_, (E.ex.mv m).putS i _ (own_noe hy), ⟨ad, fun j ds' z ho => ?_, fun j l ds' es z1 z2 o1 o2 ne => ?_⟩, ?_, E.sub, E.bc, ?_, ?_⟩, .of_mv m⟩
  · rcases set_get z with ⟨_, q2, _⟩ | ⟨_, q2⟩
    · subst q2; cases hy
    · obtain ⟨v, q3, q4⟩ := E.sl j e q2
      exact ⟨v, q3, q4.mv m⟩
  · rcases set_get z with ⟨_, q2, _⟩ | ⟨_, q2⟩
    · subst q2; cases hy
    · exact E.dr j q2
  · rcases set_get z with ⟨q1, q2, _⟩ | ⟨q1, q2⟩
    · subst q1
      subst q2
      exact ⟨a1, a2, a3, a4, ws, upd_same, h.mv m⟩
    · obtain ⟨b1, b2, b3, b4, us', b5, b6⟩ := h1 j ds' q2 ho
      have ne : ad j ≠ ad i := h2 j i _ _ q2 hi ho hx q1
      exact ⟨b1, b2, b3, b4, us', by rw [upd_ne ne]; exact b5, b6.mv m⟩
  · have l1 : ∃ q, s.env[j]? = some q ∧ q.isOwn = true := by
      rcases set_get z1 with ⟨q1, _, _⟩ | ⟨_, q2⟩
      · rw [q1]
        exact ⟨_, hi, hx⟩
      · exact ⟨_, q2, o1⟩
    have l2 : ∃ q, s.env[l]? = some q ∧ q.isOwn = true := by
      rcases set_get z2 with ⟨q1, _, _⟩ | ⟨_, q2⟩
      · rw [q1]
        exact ⟨_, hi, hx⟩
      · exact ⟨_, q2, o2⟩
    obtain ⟨q, hq, hoq⟩ := l1
    obtain ⟨q', hq', hoq'⟩ := l2
    exact h2 j l q q' hq hq' hoq hoq' ne
  · intro b hb
    by_cases e : b = ad i
    · rw [e, upd_same]
      intro z
      cases z
    · rw [upd_ne e]
      exact E.st b hb
  · intro k hk
    exact Δ.mv (E.dk k hk) (fun a ha => upd_ne fun e => a3 (by rw [← e]; exact ha)) (nl_upd a5 a6.lsy)
  · exact E.mw.fresh a4
theorem En.grow (E : En K Δ C B σ H s) {i : Nat} {ds es : List PyData} {p : Addr} (hi : s.env[i]? = some (.own ds)) (hp : σ[i]? = some (some (.ref p))) {ws : List V} (h : DvAll K H B ws es) :
    En K Δ C B σ (upd H p (.lst ws)) (s.put i (.own es)) ∧ Go B H B (upd H p (.lst ws)) := E.growX hi rfl rfl hp (.l h)
theorem wipeA_get {e : List Sl} {i : Nat} {x : Sl} : ∀ {vs : List Nat}, (wipeA e vs)[i]? = some x → x ≠ .free → e[i]? = some x ∧ i ∉ vs
  | [], h, _ => ⟨h, List.not_mem_nil⟩
  | v :: vs, h, n => by
    rcases set_get h with ⟨_, q2, _⟩ | ⟨q1, q2⟩
    · exact absurd q2 n
    · obtain ⟨h1, h2⟩ := wipeA_get q2 n
      exact ⟨h1, fun z => (List.mem_cons.mp z).elim q1 h2⟩
theorem wipeA_len (e : List Sl) : ∀ vs : List Nat, (wipeA e vs).length = e.length
  | [] => rfl
  | v :: vs => by
    show ((wipeA e vs).set v .free).length = _
    rw [List.length_set, wipeA_len e vs]
theorem wipe_get (σ : L2.St) {i : Nat} : ∀ {vs : List Nat}, i ∉ vs → (wipe σ vs)[i]? = σ[i]?
  | [], _ => rfl
  | v :: vs, h => by
    show ((wipe σ vs).set v none)[i]? = _
    rw [List.getElem?_set_ne (fun z => h (by rw [z]; exact List.mem_cons_self)), wipe_get σ fun z => h (List.mem_cons_of_mem _ z)]
theorem wipe_set (σ : L2.St) {i : Nat} {x : Option V} : ∀ {vs : List Nat}, (i ∈ vs → wipe (σ.set i x) vs = wipe σ vs) ∧ (i ∉ vs → wipe (σ.set i x) vs = (wipe σ vs).set i x)
  | [] => ⟨fun h => (List.not_mem_nil h).elim, fun _ => rfl⟩
  | v :: vs => by
    have ih := wipe_set σ (i := i) (x := x) (vs := vs)
    constructor
    · intro h
      show (wipe (σ.set i x) vs).set v none = (wipe σ vs).set v none
      by_cases hv : i ∈ vs
      · rw [ih.1 hv]
      · rw [ih.2 hv]
        rcases List.mem_cons.mp h with e | e
        · subst e
          rw [List.set_set]
        · exact absurd e hv
    · intro h
      show (wipe (σ.set i x) vs).set v none = ((wipe σ vs).set v none).set i x
      rw [ih.2 fun z => h (List.mem_cons_of_mem _ z), List.set_comm _ _ fun z => h (by rw [z]; exact List.mem_cons_self)]
theorem En.wipe (E : En K Δ C B σ H s) (vs : List Nat) : En K Δ C B (wipe σ vs) H (s.wipe vs) := by
  refine ⟨by rw [wipe_length, E.len]; exact (wipeA_len _ _).symm, fun i d h => ?_, fun i h => ?_, fun i a D d fs h => ?_, ?_, E.st, E.sub, E.bc, E.dk, E.mw⟩
  · obtain ⟨h1, h2⟩ := wipeA_get h (by intro z; cases z)
    rw [wipe_get σ h2]
    exact E.sl i d h1
  · obtain ⟨h1, h2⟩ := wipeA_get h (by intro z; cases z)
    rw [wipe_get σ h2]
    exact E.dr i h1
  · obtain ⟨h1, h2⟩ := wipeA_get h (by intro z; cases z)
    rw [wipe_get σ h2]
    exact E.ex i a D d fs h1
  · obtain ⟨ad, h1, h2⟩ := E.ow
    refine ⟨ad, fun i ds h ho => ?_, fun i j ds es z1 z2 o1 o2 => ?_⟩
    · obtain ⟨q1, q2⟩ := wipeA_get h (by intro z; subst z; cases ho)
      rw [wipe_get σ q2]
      exact h1 i ds q1 ho
    · exact h2 i j ds es (wipeA_get z1 (by intro z; subst z; cases o1)).1 (wipeA_get z2 (by intro z; subst z; cases o2)).1 o1 o2
/-- one more thing is barred -/
theorem En.bar (E : En K Δ C B σ H s) {p : Addr} {us : List V} (np : H p = none) : En K Δ C (p :: B) σ (upd H p (.lst us)) s ∧ Go B H (p :: B) (upd H p (.lst us)) := by
  have sm : Same H (upd H p (.lst us)) := same_upd np
  have g : Go B H (p :: B) (upd H p (.lst us)) := ⟨.of_same sm, fun b hb => by
    rcases List.mem_cons.mp hb with z | z
    · rw [z]
      exact .inr np
    · exact .inl z⟩
  refine ⟨⟨E.len, fun j e z => ?_, E.dr, E.ex.go g, ?_, ?_, fun a ha => List.mem_cons_of_mem _ (E.sub a ha), fun a ha => List.mem_cons_of_mem _ (E.bc a ha), ?_, E.mw.trans (.of_same sm)⟩, g⟩
  · obtain ⟨u, q1, q2⟩ := E.sl j e z
    exact ⟨u, q1, Dv.go g _ _ q2⟩
  · obtain ⟨ad, h1, h2⟩ := E.ow
    refine ⟨ad, fun j ds' z ho => ?_, h2⟩
    obtain ⟨a1, a2, a3, a4, us', a5, a6⟩ := h1 j ds' z ho
    exact ⟨a1, List.mem_cons_of_mem _ a2, a3, a4, us', sm _ _ a5, a6.go g⟩
  · intro b hb
    rcases List.mem_cons.mp hb with z | z
    · rw [z, upd_same]
      intro q
      cases q
    · exact E.st.same sm b z
  · intro k hk
    exact Δ.mv (E.dk k hk) (fun a ha => agree_same sm E.st a (E.sub a ha)) (nl_same sm)
end

/-! ### readings by data -/
abbrev AE := AS → (PyData → AS → Prop) → Prop
abbrev AT := AS → (Bool → AS → Prop) → Prop
abbrev AA := AS → (List PyData → AS → Prop) → Prop
abbrev AI := AS → (List PyData → AS → Prop) → Prop
abbrev AO := AS → (Option Int → AS → Prop) → Prop
abbrev AG := PyData → AS → (AS → Prop) → Prop
abbrev AGs := List PyData → AS → (AS → Prop) → Prop
abbrev A2 := PyData → PyData → AS → (PyData → AS → Prop) → Prop
abbrev A1 := PyData → AS → (PyData → AS → Prop) → Prop
abbrev AC := List PyData → AS → (PyData → AS → Prop) → Prop
structure AEnds where
  nx : AS → Prop
  rt : PyData → AS → Prop
abbrev AStm := AEnds → AS → Prop
section
variable (K : PySem.W.Frag) (Δ : DK)
def RE (te : TE) (ae : AE) : Prop := ∀ (C : Cy) (B : List Addr) (σ : L2.St) (H : Hp) (s : AS) (Q : VK) (A : PyData → AS → Prop), En K Δ C B σ H s → ae s A →
  (∀ v d H' s', A d s' → Mx Δ.w C.as H H' → En K Δ C B σ H' s' → Dv K H' B v d → Q v H') → te σ H Q
def RT (tt : TT) (at_ : AT) : Prop := ∀ (C : Cy) (B : List Addr) (σ : L2.St) (H : Hp) (s : AS) (Q : Bool → Hp → Prop) (A : Bool → AS → Prop), En K Δ C B σ H s → at_ s A →
  (∀ b H' s', A b s' → Mx Δ.w C.as H H' → En K Δ C B σ H' s' → Q b H') → tt σ H Q
def RA (ta : TA) (aa : AA) : Prop := ∀ (C : Cy) (B : List Addr) (σ : L2.St) (H : Hp) (s : AS) (Q : List V → Hp → Prop) (A : List PyData → AS → Prop), En K Δ C B σ H s → aa s A →
  (∀ vs ds H' s', A ds s' → Mx Δ.w C.as H H' → En K Δ C B σ H' s' → DvAll K H' B vs ds → Q vs H') → ta σ H Q
def RO (to : TO) (ao : AO) : Prop := ∀ (C : Cy) (B : List Addr) (σ : L2.St) (H : Hp) (s : AS) (Q : Option Int → Hp → Prop) (A : Option Int → AS → Prop), En K Δ C B σ H s → ao s A →
  (∀ o H' s', A o s' → Mx Δ.w C.as H H' → En K Δ C B σ H' s' → Q o H') → to σ H Q
/-- an operation upon two things, upon one, upon arguments -/
def R2' (r : R2) (a : A2) : Prop := ∀ (C : Cy) (B : List Addr) (σ : L2.St) (H : Hp) (s : AS) (x y : V) (d e : PyData) (Q : VK) (A : PyData → AS → Prop), En K Δ C B σ H s → Dv K H B x d → Dv K H B y e → a d e s A →
  (∀ v d H', A d s → Same H H' → Dv K H' B v d → Q v H') → r x y H Q
def R1' (r : V → Hp → VK → Prop) (a : A1) : Prop := ∀ (C : Cy) (B : List Addr) (σ : L2.St) (H : Hp) (s : AS) (x : V) (d : PyData) (Q : VK) (A : PyData → AS → Prop), En K Δ C B σ H s → Dv K H B x d → a d s A →
  (∀ v d H', A d s → Same H H' → Dv K H' B v d → Q v H') → r x H Q
def RC' (r : List V → Hp → VK → Prop) (a : AC) : Prop := ∀ (C : Cy) (B : List Addr) (σ : L2.St) (H : Hp) (s : AS) (xs : List V) (ds : List PyData) (Q : VK) (A : PyData → AS → Prop), En K Δ C B σ H s → DvAll K H B xs ds → a ds s A →
  (∀ v d H', A d s → Same H H' → Dv K H' B v d → Q v H') → r xs H Q
def ItD (B : List Addr) (J : It) (H1 : Hp) (ds : List PyData) : Prop := ∀ B' H, Go B H1 B' H → (∀ b ∈ B', H b ≠ none) →
  (∀ (i : Nat) d, ds[i]? = some d → J.go i H ∧ ∀ x H', J.yld i H x H' → Same H H' ∧ Dv K H' B' x d) ∧ J.stop ds.length H
def RI (wi : TI) (ai : AI) : Prop := ∀ (C : Cy) (B : List Addr) (σ : L2.St) (H : Hp) (s : AS) (R : It → Hp → Prop) (A : List PyData → AS → Prop), En K Δ C B σ H s → ai s A →
  (∀ J ds H' s', A ds s' → Mx Δ.w C.as H H' → En K Δ C B σ H' s' → ItD K B J H' ds → R J H') → wi σ H R
def RG (g : TG) (ag : AG) (is : List Nat) : Prop := ∀ (C : Cy) (B : List Addr) (σ : L2.St) (H : Hp) (s : AS) (v : V) (d : PyData) (Q : L2.St → Hp → Prop) (A : AS → Prop), En K Δ C B σ H s → Dv K H B v d → ag d s A →
  (∀ σ' s', A s' → En K Δ C B σ' H s' → (∀ vs : List Nat, (∀ i ∈ is, i ∈ vs) → wipe σ' vs = wipe σ vs) → Q σ' H) → g v σ H Q
def RGs (g : TGs) (ag : AGs) (is : List Nat) : Prop := ∀ (C : Cy) (B : List Addr) (σ : L2.St) (H : Hp) (s : AS) (v : List V) (d : List PyData) (Q : L2.St → Hp → Prop) (A : AS → Prop), En K Δ C B σ H s → DvAll K H B v d → ag d s A →
  (∀ σ' s', A s' → En K Δ C B σ' H s' → (∀ vs : List Nat, (∀ i ∈ is, i ∈ vs) → wipe σ' vs = wipe σ vs) → Q σ' H) → g v σ H Q
/-- what is handed back -/
structure Rt (C : Cy) (H : Hp) (s : AS) (v : V) (d : PyData) : Prop where
  dv : Dv K H C.Bc v d
  dk : ∀ k, s.k = some k → Δ.P H C.r C.as k
  mw : Mx Δ.w C.as C.H0 H
def RS (t : TS) (a : AStm) : Prop := ∀ (C : Cy) (B : List Addr) (σ : L2.St) (H : Hp) (s : AS) (D : Ends) (A : AEnds), En K Δ C B σ H s → a A s →
  (∀ B' σ' H' s', A.nx s' → Go B H B' H' → En K Δ C B' σ' H' s' → D.nx σ' H') → (∀ v d H' s', A.rt d s' → Rt K Δ C H' s' v d → D.rt v H') → t D σ H
end
section
variable {K : PySem.W.Frag} {Δ : DK}
theorem DvAll.one {H : Hp} {B : List Addr} {xs : List V} {d : PyData} (h : DvAll K H B xs [d]) : ∃ v, xs = [v] ∧ Dv K H B v d := by
  cases h with
  | cons h1 h2 =>
    cases h2
    exact ⟨_, rfl, h1⟩
theorem DvAll.two {H : Hp} {B : List Addr} {xs : List V} {d e : PyData} (h : DvAll K H B xs [d, e]) : ∃ v u, xs = [v, u] ∧ Dv K H B v d ∧ Dv K H B u e := by
  cases h with
  | cons h1 h2 =>
    obtain ⟨u, e, q⟩ := h2.one
    subst e
    exact ⟨_, _, rfl, h1, q⟩
theorem DvAll.gets : ∀ {H : Hp} {B : List Addr} {vs : List V} {ds : List PyData}, DvAll K H B vs ds → ∀ {i : Nat} {d : PyData}, ds[i]? = some d → ∃ v, vs[i]? = some v ∧ Dv K H B v d
  | _, _, _, _, .nil, i, v, h => by cases h
  | _, _, _, _, .cons x r, 0, v, h => by
    cases h
    exact ⟨_, rfl, x⟩
  | _, _, _, _, .cons x r, i + 1, v, h => DvAll.gets r (i := i) h
theorem DvAll.ints : ∀ {H : Hp} {B : List Addr} {vs : List V} {ns : List Int}, DvAll K H B vs (ns.map PyData.int) → vs = ns.map V.int
  | _, _, [], [], _ => rfl
  | _, _, _ :: _, [], h => by cases h
  | _, _, vs, n :: ns, h => by
    cases h with
    | cons h1 h2 =>
      cases h1
      rw [List.map_cons, DvAll.ints h2]
theorem DvAll.bools : ∀ {H : Hp} {B : List Addr} {vs : List V} {ns : List Bool}, DvAll K H B vs (ns.map PyData.bool) → vs = ns.map V.bl
  | _, _, [], [], _ => rfl
  | _, _, _ :: _, [], h => by cases h
  | _, _, vs, n :: ns, h => by
    cases h with
    | cons h1 h2 =>
      cases h1
      rw [List.map_cons, DvAll.bools h2]
theorem dvInts {H : Hp} {B : List Addr} : ∀ ns : List Int, DvAll K H B (ns.map V.int) (ns.map PyData.int)
  | [] => .nil
  | n :: ns => .cons (.int n) (dvInts ns)
theorem Dv.tupI {H : Hp} {B : List Addr} {v : V} {ds : List PyData} (h : Dv K H B v (.tuple ds)) : ∃ p xs, v = .ref p ∧ SqT K H p xs ∧ DvAll K H B xs ds := by
  cases h with
  | tup h1 h2 => exact ⟨_, _, rfl, SqT.of h1, h2⟩
theorem Dv.tupW {H : Hp} {B : List Addr} {v : V} {ds : List PyData} (h : Dv K H B v (.tuple ds)) : ∃ p xs, v = .ref p ∧ H p = some (.tup xs) ∧ DvAll K H B xs ds := by
  cases h with
  | tup h1 h2 => exact ⟨_, _, rfl, h1, h2⟩
theorem Dv.lstI {H : Hp} {B : List Addr} {v : V} {ds : List PyData} (h : Dv K H B v (.list ds)) : ∃ p xs, v = .ref p ∧ H p = some (.lst xs) ∧ p ∉ B ∧ DvAll K H B xs ds := by
  cases h with
  | lst h1 h2 h3 => exact ⟨_, _, rfl, h1, h2, h3⟩
theorem dv_int {H : Hp} {B : List Addr} {v : V} {i : Int} (h : Dv K H B v (.int i)) : v = .int i := by
  cases h
  rfl
theorem dv_bool {H : Hp} {B : List Addr} {v : V} {i : Bool} (h : Dv K H B v (.bool i)) : v = .bl i := by
  cases h
  rfl
theorem dv_str {H : Hp} {B : List Addr} {v : V} {i : Str} (h : Dv K H B v (.str i)) : v = .str i := by
  cases h
  rfl
theorem dv_none {H : Hp} {B : List Addr} {v : V} (h : Dv K H B v .none) : v = .non := by
  cases h
  rfl
/-- a new tuple, a new list -/
theorem new_tup {H : Hp} {B : List Addr} {p : Addr} {xs : List V} {ds : List PyData} (np : H p = none) (h : DvAll K H B xs ds) : Same H (upd H p (.tup xs)) ∧ Dv K (upd H p (.tup xs)) B (.ref p) (.tuple ds) :=
  ⟨same_upd np, .tup upd_same (h.same (same_upd np))⟩
theorem new_lst {C : Cy} {B : List Addr} {σ : L2.St} {H : Hp} {s : AS} (E : En K Δ C B σ H s) {p : Addr} {xs : List V} {ds : List PyData} (np : H p = none) (h : DvAll K H B xs ds) : Same H (upd H p (.lst xs)) ∧ Dv K (upd H p (.lst xs)) B (.ref p) (.list ds) :=
  ⟨same_upd np, .lst upd_same (E.newB np) (h.same (same_upd np))⟩
/-! #### expressions -/
def aVar (i : Nat) : AE := fun s A => ∃ d, s.env[i]? = some (.dat d) ∧ A d s
theorem re_var {i : Nat} : RE K Δ (tVar i) (aVar i) := by
  intro C B σ H s Q A E h q
  obtain ⟨d, hd, a⟩ := h
  obtain ⟨v, hv, dv⟩ := E.sl i d hd
  exact ⟨v, hv, q v d H s a (.refl _ _) E dv⟩
def aC (d : PyData) : AE := fun s A => A d s
theorem re_int {n : Int} : RE K Δ (tC (.int n)) (aC (.int n)) := fun C B σ H s Q A E h q => q _ _ H s h (.refl _ _) E (.int n)
theorem re_str {n : Str} : RE K Δ (tC (.str n)) (aC (.str n)) := fun C B σ H s Q A E h q => q _ _ H s h (.refl _ _) E (.str n)
theorem re_bl {n : Bool} : RE K Δ (tC (.bl n)) (aC (.bool n)) := fun C B σ H s Q A E h q => q _ _ H s h (.refl _ _) E (.bl n)
theorem re_non : RE K Δ (tC .non) (aC .none) := fun C B σ H s Q A E h q => q _ _ H s h (.refl _ _) E .non
def aOp (r : A2) (a b : AE) : AE := fun s A => a s fun d s1 => b s1 fun e s2 => r d e s2 A
theorem re_op {r : R2} {ar : A2} {ta tb : TE} {aa ab : AE} (hr : R2' K Δ r ar) (ha : RE K Δ ta aa) (hb : RE K Δ tb ab) : RE K Δ (tOp r ta tb) (aOp ar aa ab) := by
  intro C B σ H s Q A E h q
  refine ha C B σ H s _ _ E h fun v d H1 s1 a1 m1 E1 dv1 => hb C B σ H1 s1 _ _ E1 a1 fun u e H2 s2 a2 m2 E2 dv2 => ?_
  refine hr C B σ H2 s2 v u d e Q A E2 (dv1.mv (m2.up E2.sub)) dv2 a2 fun w f H3 a3 s3 dv3 => ?_
  exact q w f H3 s2 a3 ((m1.trans m2).trans (.of_same s3)) (E2.same s3) dv3
def aUn (r : A1) (a : AE) : AE := fun s A => a s fun d s1 => r d s1 A
theorem re_un {r : V → Hp → VK → Prop} {ar : A1} {ta : TE} {aa : AE} (hr : R1' K Δ r ar) (ha : RE K Δ ta aa) : RE K Δ (tUn r ta) (aUn ar aa) := by
  intro C B σ H s Q A E h q
  refine ha C B σ H s _ _ E h fun v d H1 s1 a1 m1 E1 dv1 => ?_
  refine hr C B σ H1 s1 v d Q A E1 dv1 a1 fun w f H3 a3 s3 dv3 => ?_
  exact q w f H3 s1 a3 (m1.trans (.of_same s3)) (E1.same s3) dv3
def aNil : AA := fun s A => A [] s
def aCons (a : AE) (as : AA) : AA := fun s A => a s fun d s1 => as s1 fun ds s2 => A (d :: ds) s2
theorem ra_nil : RA K Δ tNil aNil := fun C B σ H s Q A E h q => q [] [] H s h (.refl _ _) E .nil
theorem ra_cons {te : TE} {ta : TA} {ae : AE} {aa : AA} (h1 : RE K Δ te ae) (h2 : RA K Δ ta aa) : RA K Δ (tCons te ta) (aCons ae aa) := by
  intro C B σ H s Q A E h q
  refine h1 C B σ H s _ _ E h fun v d H1 s1 a1 m1 E1 dv1 => h2 C B σ H1 s1 _ _ E1 a1 fun vs ds H2 s2 a2 m2 E2 dv2 => ?_
  exact q (v :: vs) (d :: ds) H2 s2 a2 (m1.trans m2) E2 (.cons (dv1.mv (m2.up E2.sub)) dv2)
def aCB (r : AC) (aa : AA) : AE := fun s A => aa s fun ds s1 => r ds s1 A
theorem re_cb {r : List V → Hp → VK → Prop} {ar : AC} {ta : TA} {aa : AA} (hr : RC' K Δ r ar) (ha : RA K Δ ta aa) : RE K Δ (tCB r ta) (aCB ar aa) := by
  intro C B σ H s Q A E h q
  refine ha C B σ H s _ _ E h fun vs ds H1 s1 a1 m1 E1 dv1 => ?_
  refine hr C B σ H1 s1 vs ds Q A E1 dv1 a1 fun w f H3 a3 s3 dv3 => ?_
  exact q w f H3 s1 a3 (m1.trans (.of_same s3)) (E1.same s3) dv3
def aLst (aa : AA) : AE := fun s A => aa s fun ds s1 => ds.length ≤ 1000 ∧ A (.list ds) s1
def aTup (aa : AA) : AE := fun s A => aa s fun ds s1 => ds.length ≤ 1000 ∧ A (.tuple ds) s1
theorem re_lst {ta : TA} {aa : AA} (ha : RA K Δ ta aa) : RE K Δ (tLst ta) (aLst aa) := by
  intro C B σ H s Q A E h q
  refine ha C B σ H s _ _ E h fun vs ds H1 s1 a1 m1 E1 dv1 => ⟨?_, fun p np => ?_⟩
  · rw [dv1.len]
    exact Nat.le_of_lt (small1000 a1.1)
  · obtain ⟨sm, dv⟩ := new_lst E1 np dv1
    exact q _ _ _ s1 a1.2 (m1.trans (.of_same sm)) (E1.same sm) dv
theorem re_tup {ta : TA} {aa : AA} (ha : RA K Δ ta aa) : RE K Δ (tTup ta) (aTup aa) := by
  intro C B σ H s Q A E h q
  refine ha C B σ H s _ _ E h fun vs ds H1 s1 a1 m1 E1 dv1 => ⟨?_, fun p np => ?_⟩
  · rw [dv1.len]
    exact Nat.le_of_lt (small1000 a1.1)
  · obtain ⟨sm, dv⟩ := new_tup np dv1
    exact q _ _ _ s1 a1.2 (m1.trans (.of_same sm)) (E1.same sm) dv
/-! slices -/
theorem ro_none : RO K Δ tNoPart (fun s A => A none s) := fun C B σ H s Q A E h q => q none H s h (.refl _ _) E
theorem ro_some {te : TE} {ae : AE} (h1 : RE K Δ te ae) : RO K Δ (tPart te) (fun s A => ae s fun d s1 => ∃ i, d = .int i ∧ A (some i) s1) := by
  intro C B σ H s Q A E h q
  refine h1 C B σ H s _ _ E h fun v d H1 s1 a1 m1 E1 dv1 => ?_
  obtain ⟨i, e, a⟩ := a1
  subst e
  exact ⟨i, dv_int dv1, q _ H1 s1 a m1 E1⟩
def cutD (xs : List PyData) (lo hi : Option Int) : List PyData := (xs.drop (HT.sIx xs.length 0 lo)).take (HT.sIx xs.length xs.length hi - HT.sIx xs.length 0 lo)
theorem cutDv {H : Hp} {B : List Addr} {xs : List V} {ds : List PyData} (h : DvAll K H B xs ds) (lo hi : Option Int) : DvAll K H B (cutV xs lo hi) (cutD ds lo hi) := by
  unfold cutV cutD
  rw [h.len]
  exact (h.drop _).take _
def aSlT (ae : AE) (al ah : AO) : AE := fun s A => ae s fun d s1 => al s1 fun lo s2 => ah s2 fun hi s3 => ∃ ds, d = .tuple ds ∧ A (.tuple (cutD ds lo hi)) s3
def aSlL (ae : AE) (al ah : AO) : AE := fun s A => ae s fun d s1 => al s1 fun lo s2 => ah s2 fun hi s3 => ∃ ds, d = .list ds ∧ A (.list (cutD ds lo hi)) s3
theorem cutD_all {ds : List PyData} {lo hi : Option Int} (h1 : HT.sIx ds.length 0 lo = 0) (h2 : HT.sIx ds.length ds.length hi = ds.length) : cutD ds lo hi = ds := by
  unfold cutD
  rw [h1, h2, List.drop_zero, Nat.sub_zero, List.take_of_length_le (Nat.le_refl _)]
theorem re_slT {te : TE} {tl th : TO} {ae : AE} {al ah : AO} (h1 : RE K Δ te ae) (h2 : RO K Δ tl al) (h3 : RO K Δ th ah) : RE K Δ (tSl (rSlA K) te tl th) (aSlT ae al ah) := by
  intro C B σ H s Q A E h q
  refine h1 C B σ H s _ _ E h fun v d H1 s1 a1 m1 E1 dv1 => h2 C B σ H1 s1 _ _ E1 a1 fun lo H2 s2 a2 m2 E2 => h3 C B σ H2 s2 _ _ E2 a2 fun hi H3 s3 a3 m3 E3 => ?_
  obtain ⟨ds, e, a⟩ := a3
  subst e
  have dv3 := (dv1.mv (m2.up E2.sub)).mv (m3.up E3.sub)
  have m := (m1.trans m2).trans m3
  obtain ⟨p, xs, ev, hp, hd⟩ := dv3.tupI
  subst ev
  refine ⟨p, xs, rfl, hp, fun hh => ?_, fun _ p2 n2 => ?_⟩
  · rw [hd.len] at hh
    refine q _ _ _ s3 a m E3 ?_
    rw [cutD_all hh.1 hh.2]
    exact dv3
  · obtain ⟨sm, dv⟩ := new_tup n2 (cutDv hd lo hi)
    exact q _ _ _ s3 a (m.trans (.of_same sm)) (E3.same sm) dv
theorem re_slL {te : TE} {tl th : TO} {ae : AE} {al ah : AO} (h1 : RE K Δ te ae) (h2 : RO K Δ tl al) (h3 : RO K Δ th ah) : RE K Δ (tSl (rSlL K) te tl th) (aSlL ae al ah) := by
  intro C B σ H s Q A E h q
  refine h1 C B σ H s _ _ E h fun v d H1 s1 a1 m1 E1 dv1 => h2 C B σ H1 s1 _ _ E1 a1 fun lo H2 s2 a2 m2 E2 => h3 C B σ H2 s2 _ _ E2 a2 fun hi H3 s3 a3 m3 E3 => ?_
  obtain ⟨ds, e, a⟩ := a3
  subst e
  have dv3 := (dv1.mv (m2.up E2.sub)).mv (m3.up E3.sub)
  have m := (m1.trans m2).trans m3
  obtain ⟨p, xs, ev, hp, hB, hd⟩ := dv3.lstI
  subst ev
  refine ⟨p, xs, rfl, SqL.of hp, fun p2 n2 => ?_⟩
  obtain ⟨sm, dv⟩ := new_lst E3 n2 (cutDv hd lo hi)
  exact q _ _ _ s3 a (m.trans (.of_same sm)) (E3.same sm) dv
/-! and, or, not, if -/
def aAndV (a b : AE) : AE := fun s A => a s fun d s1 => ∃ c, d = .bool c ∧ if c = true then b s1 A else A (.bool false) s1
def aOrV (a b : AE) : AE := fun s A => a s fun d s1 => ∃ c, d = .bool c ∧ if c = true then A (.bool true) s1 else b s1 A
def aNotV (a : AE) : AE := fun s A => a s fun d s1 => ∃ c, d = .bool c ∧ A (.bool (!c)) s1
theorem re_andV {ta tb : TE} {aa ab : AE} (ha : RE K Δ ta aa) (hb : RE K Δ tb ab) : RE K Δ (tAndV ta tb) (aAndV aa ab) := by
  intro C B σ H s Q A E h q
  refine ha C B σ H s _ _ E h fun v d H1 s1 a1 m1 E1 dv1 => ?_
  obtain ⟨c, e, a⟩ := a1
  subst e
  refine ⟨c, dv_bool dv1, ?_⟩
  cases c with
  | true =>
    rw [if_pos rfl] at a ⊢
    exact hb C B σ H1 s1 _ _ E1 a fun w f H3 s3 a3 m3 E3 dv3 => q w f H3 s3 a3 (m1.trans m3) E3 dv3
  | false =>
    rw [if_neg Bool.false_ne_true] at a ⊢
    exact q _ _ _ _ a m1 E1 (.bl false)
theorem re_orV {ta tb : TE} {aa ab : AE} (ha : RE K Δ ta aa) (hb : RE K Δ tb ab) : RE K Δ (tOrV ta tb) (aOrV aa ab) := by
  intro C B σ H s Q A E h q
  refine ha C B σ H s _ _ E h fun v d H1 s1 a1 m1 E1 dv1 => ?_
  obtain ⟨c, e, a⟩ := a1
  subst e
  refine ⟨c, dv_bool dv1, ?_⟩
  cases c with
  | true =>
    rw [if_pos rfl] at a ⊢
    exact q _ _ _ _ a m1 E1 (.bl true)
  | false =>
    rw [if_neg Bool.false_ne_true] at a ⊢
    exact hb C B σ H1 s1 _ _ E1 a fun w f H3 s3 a3 m3 E3 dv3 => q w f H3 s3 a3 (m1.trans m3) E3 dv3
theorem re_notV {ta : TE} {aa : AE} (ha : RE K Δ ta aa) : RE K Δ (tNotV ta) (aNotV aa) := by
  intro C B σ H s Q A E h q
  refine ha C B σ H s _ _ E h fun v d H1 s1 a1 m1 E1 dv1 => ?_
  obtain ⟨c, e, a⟩ := a1
  subst e
  exact ⟨c, dv_bool dv1, q _ _ _ _ a m1 E1 (.bl _)⟩
def aIf (c : AT) (a b : AE) : AE := fun s A => c s fun k s1 => if k = true then a s1 A else b s1 A
theorem re_if {tc : TT} {ac : AT} {ta tb : TE} {aa ab : AE} (hc : RT K Δ tc ac) (ha : RE K Δ ta aa) (hb : RE K Δ tb ab) : RE K Δ (tIf tc ta tb) (aIf ac aa ab) := by
  intro C B σ H s Q A E h q
  refine hc C B σ H s _ _ E h fun c H1 s1 a1 m1 E1 => ?_
  cases c with
  | true =>
    rw [if_pos rfl] at a1 ⊢
    exact ha C B σ H1 s1 _ _ E1 a1 fun w f H3 s3 a3 m3 E3 dv3 => q w f H3 s3 a3 (m1.trans m3) E3 dv3
  | false =>
    rw [if_neg Bool.false_ne_true] at a1 ⊢
    exact hb C B σ H1 s1 _ _ E1 a1 fun w f H3 s3 a3 m3 E3 dv3 => q w f H3 s3 a3 (m1.trans m3) E3 dv3
def aChain (r r' : A2) (a b c : AE) : AE := fun s A => a s fun d s1 => b s1 fun e s2 => r d e s2 fun z s3 => ∃ k, z = .bool k ∧ if k = true then c s3 fun f s4 => r' e f s4 A else A (.bool false) s3
theorem re_chain {r r' : R2} {ar ar' : A2} {ta tb tc : TE} {aa ab ac : AE} (hr : R2' K Δ r ar) (hr' : R2' K Δ r' ar') (ha : RE K Δ ta aa) (hb : RE K Δ tb ab) (hc : RE K Δ tc ac) : RE K Δ (tChain r r' ta tb tc) (aChain ar ar' aa ab ac) := by
  intro C B σ H s Q A E h q
  refine ha C B σ H s _ _ E h fun v d H1 s1 a1 m1 E1 dv1 => hb C B σ H1 s1 _ _ E1 a1 fun u e H2 s2 a2 m2 E2 dv2 => ?_
  refine hr C B σ H2 s2 v u d e _ _ E2 (dv1.mv (m2.up E2.sub)) dv2 a2 fun w f H3 a3 s3 dv3 => ?_
  obtain ⟨k, ek, a3⟩ := a3
  subst ek
  refine ⟨k, dv_bool dv3, ?_⟩
  have E3 := E2.same s3
  have m := (m1.trans m2).trans (.of_same s3)
  cases k with
  | true =>
    rw [if_pos rfl] at a3 ⊢
    refine hc C B σ H3 s2 _ _ E3 a3 fun x g H4 s4 a4 m4 E4 dv4 => ?_
    refine hr' C B σ H4 s4 u x e g Q A E4 ((dv2.same s3).mv (m4.up E4.sub)) dv4 a4 fun y o H5 a5 s5 dv5 => ?_
    exact q y o H5 s4 a5 ((m.trans m4).trans (.of_same s5)) (E4.same s5) dv5
  | false =>
    rw [if_neg Bool.false_ne_true] at a3 ⊢
    exact q _ _ _ _ a3 m E3 (.bl false)
/-! tests -/
def aTest (a : AE) : AT := fun s A => a s fun d s1 => ∃ k, d = .bool k ∧ A k s1
theorem rt_test {te : TE} {ae : AE} (h1 : RE K Δ te ae) : RT K Δ (tTest te) (aTest ae) := by
  intro C B σ H s Q A E h q
  refine h1 C B σ H s _ _ E h fun v d H1 s1 a1 m1 E1 dv1 => ?_
  obtain ⟨c, e, a⟩ := a1
  subst e
  exact ⟨c, dv_bool dv1, q _ _ _ a m1 E1⟩
theorem rt_b {te : TE} {ae : AE} (h1 : RE K Δ te ae) : RT K Δ (tB te) (aTest ae) := by
  intro C B σ H s Q A E h q
  refine h1 C B σ H s _ _ E h fun v d H1 s1 a1 m1 E1 dv1 => ?_
  obtain ⟨c, e, a⟩ := a1
  subst e
  exact ⟨c, dv_bool dv1, q _ _ _ a m1 E1⟩
theorem rt_yes : RT K Δ tYes (fun s A => A true s) := fun C B σ H s Q A E h q => q true H s h (.refl _ _) E
def aAnd (a b : AT) : AT := fun s A => a s fun c s1 => if c = true then b s1 A else A false s1
def aOr (a b : AT) : AT := fun s A => a s fun c s1 => if c = true then A true s1 else b s1 A
def aNot (a : AT) : AT := fun s A => a s fun c s1 => A (!c) s1
theorem rt_and {ta tb : TT} {aa ab : AT} (ha : RT K Δ ta aa) (hb : RT K Δ tb ab) : RT K Δ (tAnd ta tb) (aAnd aa ab) := by
  intro C B σ H s Q A E h q
  refine ha C B σ H s _ _ E h fun c H1 s1 a m1 E1 => ?_
  cases c with
  | true =>
    rw [if_pos rfl] at a ⊢
    exact hb C B σ H1 s1 _ _ E1 a fun w H3 s3 a3 m3 E3 => q w H3 s3 a3 (m1.trans m3) E3
  | false =>
    rw [if_neg Bool.false_ne_true] at a ⊢
    exact q _ _ _ a m1 E1
theorem rt_or {ta tb : TT} {aa ab : AT} (ha : RT K Δ ta aa) (hb : RT K Δ tb ab) : RT K Δ (tOr ta tb) (aOr aa ab) := by
  intro C B σ H s Q A E h q
  refine ha C B σ H s _ _ E h fun c H1 s1 a m1 E1 => ?_
  cases c with
  | true =>
    rw [if_pos rfl] at a ⊢
    exact q _ _ _ a m1 E1
  | false =>
    rw [if_neg Bool.false_ne_true] at a ⊢
    exact hb C B σ H1 s1 _ _ E1 a fun w H3 s3 a3 m3 E3 => q w H3 s3 a3 (m1.trans m3) E3
theorem rt_not {ta : TT} {aa : AT} (ha : RT K Δ ta aa) : RT K Δ (tNot ta) (aNot aa) := fun C B σ H s Q A E h q =>
  ha C B σ H s _ _ E h fun c H1 s1 a m1 E1 => q _ _ _ a m1 E1
/-! what is walked -/
def aRng1 (aa : AA) : AI := fun s A => aa s fun ds s1 => ∃ j : Int, ds = [.int j] ∧ -(2 ^ 62) ≤ j ∧ j < 2 ^ 62 ∧ A ((List.range j.toNat).map fun i => .int (0 + (i : Nat))) s1
def aRng2 (aa : AA) : AI := fun s A => aa s fun ds s1 => ∃ i j : Int, ds = [.int i, .int j] ∧ (-(2 ^ 62) ≤ i ∧ i < 2 ^ 62 ∧ -(2 ^ 62) ≤ j ∧ j < 2 ^ 62) ∧ A ((List.range (j - i).toNat).map fun x => .int (i + (x : Nat))) s1
theorem itd_range {B : List Addr} {H : Hp} {lo : Int} {n : Nat} : ItD K B (Itr lo n) H ((List.range n).map fun i => .int (lo + (i : Nat))) := by
  intro B' H' g _
  refine ⟨fun i d hd => ?_, ?_⟩
  · rw [List.getElem?_map] at hd
    by_cases hi : i < n
    · rw [List.getElem?_range hi] at hd
      cases hd
      refine ⟨hi, fun x H2 y => ?_⟩
      obtain ⟨e1, e2⟩ := y
      subst e1 e2
      exact ⟨Same.refl _, .int _⟩
    · rw [List.getElem?_eq_none (by rw [List.length_range]; omega)] at hd
      cases hd
  · show n ≤ _
    rw [List.length_map, List.length_range]
    exact Nat.le_refl _
theorem ri_rng1 {ta : TA} {aa : AA} (ha : RA K Δ ta aa) : RI K Δ (iRng1 ta) (aRng1 aa) := by
  intro C B σ H s R A E h q
  refine ha C B σ H s _ _ E h fun vs ds H1 s1 a1 m1 E1 dv1 => ?_
  obtain ⟨j, e, h1, h2, a⟩ := a1
  subst e
  obtain ⟨v, ev, dv⟩ := dv1.one
  cases dv
  exact ⟨j, ev, h1, h2, q _ _ _ _ a m1 E1 itd_range⟩
theorem ri_rng2 {ta : TA} {aa : AA} (ha : RA K Δ ta aa) : RI K Δ (iRng2 ta) (aRng2 aa) := by
  intro C B σ H s R A E h q
  refine ha C B σ H s _ _ E h fun vs ds H1 s1 a1 m1 E1 dv1 => ?_
  obtain ⟨i, j, e, h1, a⟩ := a1
  subst e
  obtain ⟨v, u, ev, dv, du⟩ := dv1.two
  cases dv
  cases du
  exact ⟨i, j, ev, h1, q _ _ _ _ a m1 E1 itd_range⟩
def aItT (a : AE) : AI := fun s A => a s fun d s1 => ∃ ds, d = .tuple ds ∧ A ds s1
def aItL (a : AE) : AI := fun s A => a s fun d s1 => ∃ ds, d = .list ds ∧ A ds s1
theorem ri_tup {te : TE} {ae : AE} (h1 : RE K Δ te ae) : RI K Δ (iTup K te) (aItT ae) := by
  intro C B σ H s R A E h q
  refine h1 C B σ H s _ _ E h fun v d H1 s1 a1 m1 E1 dv1 => ?_
  obtain ⟨ds, e, a⟩ := a1
  subst e
  obtain ⟨p, xs, ev, hp, hd⟩ := dv1.tupI
  subst ev
  refine ⟨p, rfl, ⟨xs, hp⟩, q _ _ _ _ a m1 E1 fun B' H' g _ => ?_⟩
  have hp' := stayT_tup g.mv.st hp
  have hd' := DvAll.go g _ _ hd
  refine ⟨fun i d hd => ?_, ⟨xs, hp', by rw [hd.len]; exact Nat.le_refl _⟩⟩
  obtain ⟨x, hx, dx⟩ := hd'.gets hd
  refine ⟨⟨xs, x, hp', hx⟩, fun y H2 yl => ?_⟩
  obtain ⟨e1, e2⟩ := yl
  subst e1
  have := e2 xs hp'
  rw [hx] at this
  cases this
  exact ⟨Same.refl _, dx⟩
theorem ri_lst {te : TE} {ae : AE} (h1 : RE K Δ te ae) : RI K Δ (iList K te) (aItL ae) := by
  intro C B σ H s R A E h q
  refine h1 C B σ H s _ _ E h fun v d H1 s1 a1 m1 E1 dv1 => ?_
  obtain ⟨ds, e, a⟩ := a1
  subst e
  obtain ⟨p, xs, ev, hp, hB, hd⟩ := dv1.lstI
  subst ev
  refine ⟨p, rfl, ⟨xs, SqL.of hp⟩, q _ _ _ _ a m1 E1 fun B' H' g _ => ?_⟩
  have hp' : SqL K H' p xs := SqL.of (g.mv.kp _ _ hB rfl hp)
  have hd' := DvAll.go g _ _ hd
  refine ⟨fun i d hd => ?_, ⟨xs, hp', by rw [hd.len]; exact Nat.le_refl _⟩⟩
  obtain ⟨x, hx, dx⟩ := hd'.gets hd
  refine ⟨⟨xs, x, hp', hx⟩, fun y H2 yl => ?_⟩
  obtain ⟨e1, e2⟩ := yl
  subst e1
  have := e2 xs hp'
  rw [hx] at this
  cases this
  exact ⟨Same.refl _, dx⟩
/-! targets -/
def gaName (i : Nat) : AG := fun d s A => A (s.put i (.dat d))
theorem rg_name {i : Nat} : RG K Δ (gName i) (gaName i) [i] := by
  intro C B σ H s v d Q A E dv h q
  refine q _ _ h (E.put dv) fun vs hv => ?_
  exact (wipe_set σ).1 (hv i List.mem_cons_self)
def gaNil : AGs := fun ds s A => ds = [] ∧ A s
def gaCons (g : AG) (r : AGs) : AGs := fun ds s A => ∃ d es, ds = d :: es ∧ g d s fun s1 => r es s1 A
theorem rgs_nil : RGs K Δ gNil gaNil [] := by
  intro C B σ H s v d Q A E dv h q
  obtain ⟨e, a⟩ := h
  subst e
  cases dv
  exact ⟨rfl, q _ _ a E fun _ _ => rfl⟩
theorem rgs_cons {g : TG} {ga : AG} {r : TGs} {ra : AGs} {is js : List Nat} (h1 : RG K Δ g ga is) (h2 : RGs K Δ r ra js) : RGs K Δ (gCons g r) (gaCons ga ra) (is ++ js) := by
  intro C B σ H s v d Q A E dv h q
  obtain ⟨d0, es, e, a⟩ := h
  subst e
  cases dv with
  | cons dx dr =>
    refine ⟨_, _, rfl, h1 C B σ H s _ _ _ _ E dx a fun σ1 s1 a1 E1 w1 => h2 C B σ1 H s1 _ _ _ _ E1 dr a1 fun σ2 s2 a2 E2 w2 => ?_⟩
    exact q _ _ a2 E2 fun vs hv => (w2 vs fun i hi => hv i (List.mem_append_right _ hi)).trans (w1 vs fun i hi => hv i (List.mem_append_left _ hi))
def gaTup (n : Nat) (r : AGs) : AG := fun d s A => ∃ ds, d = .tuple ds ∧ ds.length = n ∧ r ds s A
theorem rg_tup {n : Nat} {r : TGs} {ra : AGs} {is : List Nat} (h1 : RGs K Δ r ra is) : RG K Δ (gTup K n r) (gaTup n ra) is := by
  intro C B σ H s v d Q A E dv h q
  obtain ⟨ds, e, hl, a⟩ := h
  subst e
  obtain ⟨p, xs, ev, hp, hd⟩ := dv.tupI
  subst ev
  exact ⟨p, xs, rfl, hp, by rw [hd.len]; exact hl, h1 C B σ H s _ _ _ _ E hd a q⟩
/-! comprehensions -/
def LcB (xs : List PyData) (s1 : AS) (g : AG) (tt : AT) (te : AE) (vs : List Nat) (A : PyData → AS → Prop) : Prop := xs.length ≤ 100000 ∧ ∃ Inv : Nat → List PyData → Option Int → Prop, Inv 0 [] s1.k ∧
  (∀ i x acc k, xs[i]? = some x → Inv i acc k → g x ⟨wipeA s1.env vs, k⟩ fun s2 => tt s2 fun b s3 => if b = true then te s3 fun d s4 => Inv (i + 1) (acc ++ [d]) s4.k else Inv (i + 1) acc s3.k) ∧
  ∀ acc k, Inv xs.length acc k → A (.list acc) ⟨s1.env, k⟩
def aLc (ai : AI) (g : AG) (tt : AT) (te : AE) (vs : List Nat) : AE := fun s A => ai s fun xs s1 => LcB xs s1 g tt te vs A
theorem re_lc {wi : TI} {ai : AI} {g : TG} {ga : AG} {is : List Nat} {tt : TT} {at_ : AT} {te : TE} {ae : AE} {vs : List Nat} (hi : RI K Δ wi ai) (hg : RG K Δ g ga is) (ht : RT K Δ tt at_) (he : RE K Δ te ae) (hv : (is.all fun i => vs.contains i) = true) :
    RE K Δ (tLc wi g tt te vs) (aLc ai ga at_ ae vs) := by
  intro C B σ H s Q A E h q
  refine hi C B σ H s _ _ E h fun J xs H1 s1 a1 m1 E1 itd D nD => ?_
  obtain ⟨hlen, Inv, inv0, turn, done⟩ := a1
  have hvs : ∀ i ∈ is, i ∈ vs := fun i hi => by
    have := List.all_eq_true.mp hv i hi
    exact List.contains_iff_mem.mp this
  have nDB := E1.newB nD
  obtain ⟨E2, g2⟩ := E1.bar (us := []) nD
  refine ⟨fun i m H => m = xs.length - i ∧ i ≤ xs.length ∧ ∃ us acc k, Inv i acc k ∧ H D = some (.lst us) ∧ DvAll K H (D :: B) us acc ∧ En K Δ C (D :: B) σ H ⟨s1.env, k⟩ ∧ Go B H1 (D :: B) H ∧ acc.length ≤ i ∧ Mx Δ.w C.as H1 H, ⟨xs.length, ?_⟩, ?_⟩
  · exact ⟨(Nat.sub_zero _).symm, Nat.zero_le _, [], [], s1.k, inv0, upd_same, .nil, E2, g2, Nat.le_refl _, .of_same (same_upd nD)⟩
  rintro i m H ⟨rfl, hi, us, acc, k, inv, hD, hd, E3, g3, la, mx3⟩
  have st3 : ∀ b ∈ D :: B, H b ≠ none := E3.st
  by_cases hlt : i < xs.length
  · obtain ⟨go, yld⟩ := (itd _ _ g3 st3).1 i xs[i] (List.getElem?_eq_getElem hlt)
    refine .inr ⟨go, fun H' => ∃ us acc k, Inv (i + 1) acc k ∧ H' D = some (.lst us) ∧ DvAll K H' (D :: B) us acc ∧ En K Δ C (D :: B) σ H' ⟨s1.env, k⟩ ∧ Go B H1 (D :: B) H' ∧ acc.length ≤ i + 1 ∧ Mx Δ.w C.as H1 H', fun H' z => ⟨xs.length - (i + 1), by omega, rfl, hlt, z⟩, fun x H' y => ?_⟩
    obtain ⟨sm, dx⟩ := yld x H' y
    have E4 := E3.same sm
    have asB : ∀ a ∈ C.as, a ∈ D :: B := E3.sub
    refine hg C (D :: B) (wipe σ vs) H' ⟨wipeA s1.env vs, k⟩ x _ _ _ (E4.wipe vs) dx (turn i xs[i] acc k (List.getElem?_eq_getElem hlt) inv) fun σ5 s5 a5 E5 w5 => ⟨?_, ?_⟩
    · have := w5 vs hvs
      rw [this]
      have idem : ∀ (us : List Nat), (∀ u ∈ us, u ∈ vs) → wipe (wipe σ vs) us = wipe σ vs := by
        intro us
        induction us with
        | nil => exact fun _ => rfl
        | cons u us ih =>
          intro hu
          show (wipe (wipe σ vs) us).set u none = wipe σ vs
          rw [ih fun z hz => hu z (List.mem_cons_of_mem _ hz)]
          have hm := hu u List.mem_cons_self
          by_cases hl : u < (wipe σ vs).length
          · have : (wipe σ vs)[u]? = some none := by
              cases e : (wipe σ vs)[u]? with
              | none =>
                rw [List.getElem?_eq_none_iff] at e
                omega
              | some o =>
                cases o with
                | none => rfl
                | some v => exact absurd hm (wipe_some e).2
            apply List.ext_getElem?
            intro j
            by_cases hj : u = j
            · subst hj
              rw [List.getElem?_set_self hl, this]
            · rw [List.getElem?_set_ne hj]
          · apply List.ext_getElem?
            intro j
            by_cases hj : u = j
            · subst hj
              rw [List.getElem?_eq_none (by rw [List.length_set]; omega), List.getElem?_eq_none (by omega)]
            · rw [List.getElem?_set_ne hj]
      exact idem vs fun u hu => hu
    · refine ht C (D :: B) σ5 H' s5 _ _ E5 a5 fun b H6 s6 a6 m6 E6 => ?_
      have moved : ∀ {H7 : Hp} {k7 : Option Int}, Mx Δ.w C.as H' H7 → (∀ k, k7 = some k → Δ.P H7 C.r C.as k) → En K Δ C (D :: B) σ H7 ⟨s1.env, k7⟩ ∧ DvAll K H7 (D :: B) us acc ∧ H7 D = some (.lst us) ∧ Go B H1 (D :: B) H7 ∧ Mx Δ.w C.as H1 H7 := by
        intro H7 k7 m7 d7
        have nas : D ∉ C.as := fun z => nDB (E1.sub D z)
        refine ⟨E4.move m7 d7, (hd.same sm).mv (m7.up asB), m7.mv.kp _ _ nas rfl (sm _ _ hD), ⟨g3.mv.trans ((Mv.of_same sm).trans (m7.up E1.sub)), g3.nb⟩, (mx3.trans (.of_same sm)).trans m7⟩
      cases b with
      | true =>
        rw [if_pos rfl] at a6 ⊢
        refine he C (D :: B) σ5 H6 s6 _ _ E6 a6 fun y d H7 s7 a7 m7 E7 dy => ?_
        obtain ⟨F1, F2, F3, F4, F5⟩ := moved (m6.trans m7) (k7 := s7.k) E7.dk
        refine ⟨us, F3, ?_, us ++ [y], acc ++ [d], s7.k, a7, upd_same, ?_, ?_, ?_, ?_, ?_⟩
        · rw [F2.len]
          exact Nat.lt_of_le_of_lt (Nat.le_trans la (Nat.le_trans (Nat.le_of_lt hlt) hlen)) (by decide)
        · have ml : Mv (D :: B) H7 (upd H7 D (.lst (us ++ [y]))) := .of_list F3 List.mem_cons_self
          exact DvAll.mv ml _ _ (F2.app (.cons dy .nil))
        · have ml : Mv (D :: B) H7 (upd H7 D (.lst (us ++ [y]))) := .of_list F3 List.mem_cons_self
          have nas : D ∉ C.as := fun z => nDB (E1.sub D z)
          have n0 : C.H0 D = none := by
            cases e : C.H0 D with
            | none => rfl
            | some o => exact absurd nD (E1.mw.al D (by rw [e]; intro z; cases z))
          refine ⟨F1.len, fun j e z => ?_, F1.dr, F1.ex.mv ml, ?_, ?_, F1.sub, F1.bc, ?_, ?_⟩
          · obtain ⟨v, q1, q2⟩ := F1.sl j e z
            exact ⟨v, q1, q2.mv ml⟩
          · obtain ⟨ad, h1, h2⟩ := E1.ow
            refine ⟨ad, fun j ds z ho => ?_, h2⟩
            obtain ⟨a1, a2, a3, a4, us1, a5, a6⟩ := h1 j ds z ho
            have nj : ad j ≠ D := fun e => nDB (by rw [← e]; exact a2)
            obtain ⟨ad', k1, k2⟩ := F1.ow
            obtain ⟨b1, b2, b3, b4, us2, b5, b6⟩ := k1 j ds z ho
            have ea : ad j = ad' j := by
              rw [a1] at b1
              exact V.ref.inj (Option.some.inj (Option.some.inj b1))
            rw [← ea] at b5
            exact ⟨a1, List.mem_cons_of_mem _ a2, a3, a4, us2, by rw [upd_ne nj]; exact b5, b6.mv ml⟩
          · intro b hb
            by_cases e : b = D
            · rw [e, upd_same]
              intro z
              cases z
            · rw [upd_ne e]
              exact F1.st b hb
          · intro kk hk
            exact Δ.mv (F1.dk kk hk) (fun a ha => upd_ne fun e => nas (by rw [← e]; exact ha)) (nl_upd F3 rfl)
          · exact F1.mw.fresh n0
        · refine ⟨⟨F4.mv.st.trans (stay_list F3).t, fun b o n l e => ?_, fun b hb => al_upd b (F4.mv.al b hb)⟩, F4.nb⟩
          rw [upd_ne (ne_of_none e nD)]
          exact F4.mv.kp b o n l e
        · rw [List.length_append]
          exact Nat.succ_le_succ la
        · exact F5.fresh nD
      | false =>
        rw [if_neg Bool.false_ne_true] at a6 ⊢
        obtain ⟨F1, F2, F3, F4, F5⟩ := moved m6 (k7 := s6.k) E6.dk
        exact ⟨us, acc, s6.k, a6, F3, F2, F1, F4, Nat.le_succ_of_le la, F5⟩
  · have e : i = xs.length := by omega
    subst e
    refine .inl ⟨(itd _ _ g3 st3).2, ?_⟩
    have E5 : En K Δ C B σ H ⟨s1.env, k⟩ := E1.move mx3 E3.dk
    exact q _ _ _ _ (done acc k inv) (m1.trans mx3) E5 (.lst hD nDB (DvAll.anti (fun b hb => List.mem_cons_of_mem _ hb) _ _ hd))
end

/-- tuple(a list): a plain tuple -/
def rTupQ (K : PySem.W.Frag) : List V → Hp → VK → Prop := fun xs H Q => ∃ p ys, xs = [.ref p] ∧ SqL K H p ys ∧ ∀ l, H l = none → Q (.ref l) (upd H l (.tup ys))
theorem ktupQ {X : Cx} (K : PySem.W.Frag) (hK : X.K = K := by rfl) : CallR X (.type "tuple") (rTupQ K) := by
  subst hK
  intro pins s σ H xs us Q I r h
  obtain ⟨p, ys, e, hp, q⟩ := h
  exact call_tuple_of pins s σ H xs us Q I r ⟨p, ys, e, .inl ⟨hp, q⟩⟩

/-! ### statements by data -/
section
variable {K : PySem.W.Frag} {Δ : DK}
def aSeq (a b : AStm) : AStm := fun A s => a ⟨fun s' => b A s', A.rt⟩ s
def aCut (a b : AStm) : AStm := fun A s => ∃ M : AS → Prop, a ⟨M, A.rt⟩ s ∧ ∀ s', M s' → b A s'
theorem rs_seq {t u : TS} {a b : AStm} (h1 : RS K Δ t a) (h2 : RS K Δ u b) : RS K Δ (tSeq t u) (aSeq a b) := by
  intro C B σ H s D A E h qn qr
  refine h1 C B σ H s _ ⟨fun s' => b A s', A.rt⟩ E h (fun B' σ' H' s' a g E' => ?_) qr
  exact h2 C B' σ' H' s' D A E' a (fun B2 σ2 H2 s2 a2 g2 E2 => qn B2 σ2 H2 s2 a2 (g.trans g2) E2) qr
theorem rs_cut {t u : TS} {a b : AStm} (h1 : RS K Δ t a) (h2 : RS K Δ u b) : RS K Δ (tSeq t u) (aCut a b) := by
  intro C B σ H s D A E h qn qr
  obtain ⟨M, h, hm⟩ := h
  refine h1 C B σ H s _ ⟨M, A.rt⟩ E h (fun B' σ' H' s' a g E' => ?_) qr
  exact h2 C B' σ' H' s' D A E' (hm s' a) (fun B2 σ2 H2 s2 a2 g2 E2 => qn B2 σ2 H2 s2 a2 (g.trans g2) E2) qr
theorem rs_next : RS K Δ tNext (fun A s => A.nx s) := fun C B σ H s D A E h qn qr => qn B σ H s h (.refl _ _) E
def aAsg (ae : AE) (ag : AG) : AStm := fun A s => ae s fun d s1 => ag d s1 A.nx
theorem rs_asg {te : TE} {g : TG} {ae : AE} {ag : AG} {is : List Nat} (h1 : RE K Δ te ae) (h2 : RG K Δ g ag is) : RS K Δ (tAsg te g) (aAsg ae ag) := by
  intro C B σ H s D A E h qn qr
  refine h1 C B σ H s _ _ E h fun v d H1 s1 a1 m1 E1 dv => h2 C B σ H1 s1 _ _ _ _ E1 dv a1 fun σ2 s2 a2 E2 _ => ?_
  exact qn B σ2 H1 s2 a2 (.of_mv (m1.up E.sub)) E2
def aPar (i j : Nat) (aa : AA) : AStm := fun A s => aa s fun ds s1 => ∃ d e, ds = [d, e] ∧ A.nx ((s1.put i (.dat d)).put j (.dat e))
theorem rs_par {i j : Nat} {ta : TA} {aa : AA} (h1 : RA K Δ ta aa) : RS K Δ (tPar i j ta) (aPar i j aa) := by
  intro C B σ H s D A E h qn qr
  refine h1 C B σ H s _ _ E h fun vs ds H1 s1 a1 m1 E1 dv => ?_
  obtain ⟨d, e, ed, a⟩ := a1
  subst ed
  obtain ⟨v, u, ev, dv1, dv2⟩ := dv.two
  exact ⟨v, u, ev, qn B _ H1 _ a (.of_mv (m1.up E.sub)) ((E1.put dv1).put dv2)⟩
def aPar3 (i j l : Nat) (aa : AA) : AStm := fun A s => aa s fun ds s1 => ∃ d e f, ds = [d, e, f] ∧ A.nx (((s1.put i (.dat d)).put j (.dat e)).put l (.dat f))
theorem rs_par3 {i j l : Nat} {ta : TA} {aa : AA} (h1 : RA K Δ ta aa) : RS K Δ (tPar3 i j l ta) (aPar3 i j l aa) := by
  intro C B σ H s D A E h qn qr
  refine h1 C B σ H s _ _ E h fun vs ds H1 s1 a1 m1 E1 dv => ?_
  obtain ⟨d, e, f, ed, a⟩ := a1
  subst ed
  cases dv with
  | cons dv0 dr =>
    obtain ⟨v, u, ev, dv1, dv2⟩ := dr.two
    subst ev
    exact ⟨_, v, u, rfl, qn B _ H1 _ a (.of_mv (m1.up E.sub)) (((E1.put dv0).put dv1).put dv2)⟩
def aDrop (ae : AE) : AStm := fun A s => ae s fun _ s1 => A.nx s1
theorem rs_drop {te : TE} {ae : AE} (h1 : RE K Δ te ae) : RS K Δ (tDrop te) (aDrop ae) := by
  intro C B σ H s D A E h qn qr
  exact h1 C B σ H s _ _ E h fun v d H1 s1 a1 m1 E1 dv => qn B σ H1 s1 a1 (.of_mv (m1.up E.sub)) E1
def aRet (ae : AE) : AStm := fun A s => ae s A.rt
theorem rs_ret {te : TE} {ae : AE} (h1 : RE K Δ te ae) : RS K Δ (tRet te) (aRet ae) := by
  intro C B σ H s D A E h qn qr
  exact h1 C B σ H s _ _ E h fun v d H1 s1 a1 m1 E1 dv => qr v d H1 s1 a1 ⟨Dv.anti E1.bc _ _ dv, E1.dk, E1.mw⟩
theorem rs_retN : RS K Δ tRetN (fun A s => A.rt .none s) := fun C B σ H s D A E h qn qr => qr .non .none H s h ⟨.non, E.dk, E.mw⟩
def aIfS (c : AT) (a b : AStm) : AStm := fun A s => c s fun k s1 => if k = true then a A s1 else b A s1
theorem rs_if {tc : TT} {ac : AT} {t u : TS} {a b : AStm} (hc : RT K Δ tc ac) (h1 : RS K Δ t a) (h2 : RS K Δ u b) : RS K Δ (tIfS tc t u) (aIfS ac a b) := by
  intro C B σ H s D A E h qn qr
  refine hc C B σ H s _ _ E h fun k H1 s1 a1 m1 E1 => ?_
  have g := Go.of_mv (m1.up E.sub)
  cases k with
  | true =>
    rw [if_pos rfl] at a1 ⊢
    exact h1 C B σ H1 s1 D A E1 a1 (fun B2 σ2 H2 s2 a2 g2 E2 => qn B2 σ2 H2 s2 a2 (g.trans g2) E2) qr
  | false =>
    rw [if_neg Bool.false_ne_true] at a1 ⊢
    exact h2 C B σ H1 s1 D A E1 a1 (fun B2 σ2 H2 s2 a2 g2 E2 => qn B2 σ2 H2 s2 a2 (g.trans g2) E2) qr
def aFor (ai : AI) (g : AG) (ab : AStm) : AStm := fun A s => ai s fun xs s1 => ∃ W : Nat → AS → Prop, W 0 s1 ∧
  (∀ i x s, xs[i]? = some x → W i s → g x s fun s' => ab ⟨W (i + 1), A.rt⟩ s') ∧ ∀ s, W xs.length s → A.nx s
theorem rs_for {wi : TI} {ai : AI} {g : TG} {ga : AG} {is : List Nat} {t : TS} {ab : AStm} (hi : RI K Δ wi ai) (hg : RG K Δ g ga is) (hb : RS K Δ t ab) : RS K Δ (tFor wi g t) (aFor ai ga ab) := by
  intro C B σ H s D A E h qn qr
  refine hi C B σ H s _ _ E h fun J xs H1 s1 a1 m1 E1 itd => ?_
  obtain ⟨Wa, w0, turn, done⟩ := a1
  refine ⟨fun i m σ H => m = xs.length - i ∧ i ≤ xs.length ∧ ∃ B' s', Wa i s' ∧ Go B H1 B' H ∧ En K Δ C B' σ H s', ⟨xs.length, (Nat.sub_zero _).symm, Nat.zero_le _, B, s1, w0, .refl _ _, E1⟩, ?_⟩
  rintro i m σ2 H2 ⟨rfl, hi, B2, s2, w2, g2, E2⟩
  by_cases hlt : i < xs.length
  · obtain ⟨go, yld⟩ := (itd _ _ g2 E2.st).1 i xs[i] (List.getElem?_eq_getElem hlt)
    refine .inr ⟨go, fun σ' H' => ∃ B' s', Wa (i + 1) s' ∧ Go B H1 B' H' ∧ En K Δ C B' σ' H' s', fun σ' H' z => ⟨xs.length - (i + 1), by omega, rfl, hlt, z⟩, fun x H' y => ?_⟩
    obtain ⟨sm, dx⟩ := yld x H' y
    refine hg C B2 σ2 H' s2 x _ _ _ (E2.same sm) dx (turn i xs[i] s2 (List.getElem?_eq_getElem hlt) w2) fun σ5 s5 a5 E5 _ => ?_
    exact hb C B2 σ5 H' s5 _ ⟨Wa (i + 1), A.rt⟩ E5 a5 (fun B6 σ6 H6 s6 a6 g6 E6 => ⟨B6, s6, a6, (g2.trans (.of_mv (.of_same sm))).trans g6, E6⟩) qr
  · have e : i = xs.length := by omega
    subst e
    exact .inl ⟨(itd _ _ g2 E2.st).2, qn B2 σ2 H2 s2 (done s2 w2) ((Go.of_mv (m1.up E.sub)).trans g2) E2⟩
def aWhile (c : AT) (ab : AStm) : AStm := fun A s => ∃ W : Nat → AS → Prop, (∃ m, W m s) ∧ ∀ m s, W m s → c s fun k s1 => if k = true then ab ⟨fun s' => ∃ m', m' < m ∧ W m' s', A.rt⟩ s1 else A.nx s1
theorem rs_while {tc : TT} {ac : AT} {t : TS} {ab : AStm} (hc : RT K Δ tc ac) (hb : RS K Δ t ab) : RS K Δ (tWhile tc t) (aWhile ac ab) := by
  intro C B σ H s D A E h qn qr
  obtain ⟨Wa, ⟨m0, w0⟩, turn⟩ := h
  refine ⟨fun m σ' H' => ∃ B' s', Wa m s' ∧ Go B H B' H' ∧ En K Δ C B' σ' H' s', ⟨m0, B, s, w0, .refl _ _, E⟩, ?_⟩
  rintro m σ2 H2 ⟨B2, s2, w2, g2, E2⟩
  refine hc C B2 σ2 H2 s2 _ _ E2 (turn m s2 w2) fun k H3 s3 a3 m3 E3 => ?_
  have g3 := g2.trans (Go.of_mv (m3.up E2.sub))
  cases k with
  | true =>
    rw [if_pos rfl] at a3 ⊢
    refine ⟨fun σ' H' => ∃ m', m' < m ∧ ∃ B' s', Wa m' s' ∧ Go B H B' H' ∧ En K Δ C B' σ' H' s', fun σ' H' z => ?_, ?_⟩
    · obtain ⟨m', hm, z⟩ := z
      exact ⟨m', hm, z⟩
    · refine hb C B2 σ2 H3 s3 _ ⟨fun s' => ∃ m', m' < m ∧ Wa m' s', A.rt⟩ E3 a3 (fun B6 σ6 H6 s6 a6 g6 E6 => ?_) qr
      obtain ⟨m', hm, w⟩ := a6
      exact ⟨m', hm, B6, s6, w, g3.trans g6, E6⟩
  | false =>
    rw [if_neg Bool.false_ne_true] at a3 ⊢
    exact qn B2 σ2 H3 s3 a3 g3 E3
/-! lists of one's own -/
def aOwn (i : Nat) (aa : AA) : AStm := fun A s => aa s fun ds s1 => ds.length ≤ 1000 ∧ A.nx (s1.put i (.own ds))
theorem rs_own (i : Nat) {ta : TA} {aa : AA} (h1 : RA K Δ ta aa) : RS K Δ (tAsg (tLst ta) (gName i)) (aOwn i aa) := by
  intro C B σ H s D A E h qn qr
  refine h1 C B σ H s _ _ E h fun vs ds H1 s1 a1 m1 E1 dv => ⟨?_, fun p np => ?_⟩
  · rw [dv.len]
    exact Nat.le_of_lt (small1000 a1.1)
  · refine qn (p :: B) _ _ _ a1.2 ((Go.of_mv (m1.up E.sub)).trans ⟨.of_same (same_upd np), fun b hb => ?_⟩) (E1.putOwn np dv)
    rcases List.mem_cons.mp hb with z | z
    · rw [z]
      exact .inr np
    · exact .inl z
def aApp (i : Nat) (ae : AE) : AStm := fun A s => ae s fun d s1 => ∃ ds, s.env[i]? = some (.own ds) ∧ s1.env[i]? = some (.own ds) ∧ ds.length ≤ 100000 ∧ A.nx (s1.put i (.own (ds ++ [d])))
theorem En.ownAt {C : Cy} {B : List Addr} {σ : L2.St} {H : Hp} {s : AS} (E : En K Δ C B σ H s) {i : Nat} {ds : List PyData} (h : s.env[i]? = some (.own ds)) :
    ∃ p us, σ[i]? = some (some (.ref p)) ∧ H p = some (.lst us) ∧ DvAll K H B us ds := by
  obtain ⟨ad, h1, _⟩ := E.ow
  obtain ⟨a1, _, _, _, us, a5, a6⟩ := h1 i _ h rfl
  cases a6 with
  | l a6 => exact ⟨_, _, a1, a5, a6⟩
theorem En.odcAt {C : Cy} {B : List Addr} {σ : L2.St} {H : Hp} {s : AS} (E : En K Δ C B σ H s) {i : Nat} {es : List (List Int × Int)} (h : s.env[i]? = some (.odc es)) :
    ∃ p, σ[i]? = some (some (.ref p)) ∧ H p = some (dTo es) ∧ p ∈ B ∧ p ∉ C.as ∧ C.H0 p = none := by
  obtain ⟨ad, h1, _⟩ := E.ow
  obtain ⟨a1, a2, a3, a4, us, a5, a6⟩ := h1 i _ h rfl
  cases a6 with
  | d => exact ⟨_, a1, a5, a2, a3, a4⟩
theorem rs_app (i : Nat) {te : TE} {ae : AE} (h1 : RE K Δ te ae) (ho : ∀ s A, ae s A → ∃ ds, s.env[i]? = some (.own ds)) : RS K Δ (tDrop (tBM K "list" rAppend (tVar i) (tCons te tNil))) (aApp i ae) := by
  intro C B σ H s D A E h qn qr
  obtain ⟨ds, hs⟩ := ho s _ h
  obtain ⟨p, us, hp, hus, hd⟩ := E.ownAt hs
  refine ⟨.ref p, hp, .inl ⟨rfl, us, SqL.of hus⟩, h1 C B σ H s _ _ E h fun v d H1 s1 a1 m1 E1 dv => ?_⟩
  obtain ⟨es, h0, h1', hl, a⟩ := a1
  obtain ⟨p', us', hp', hus', hd'⟩ := E1.ownAt h1'
  have ep : p' = p := by
    rw [hp] at hp'
    exact (V.ref.inj (Option.some.inj (Option.some.inj hp'))).symm
  subst ep
  refine ⟨p', us', v, rfl, rfl, hus', ?_, ?_⟩
  · rw [hd'.len]
    exact Nat.lt_of_le_of_lt hl (by decide)
  · obtain ⟨E2, g2⟩ := E1.grow h1' hp' (hd'.app (.cons dv .nil))
    exact qn B σ _ _ a ((Go.of_mv (m1.up E.sub)).trans g2) E2
/-- the same with the list told first -/
def aApp' (i : Nat) (ae : AE) : AStm := fun A s => ∃ ds, s.env[i]? = some (.own ds) ∧ ds.length ≤ 100000 ∧ ae s fun d s1 => s1.env[i]? = some (.own ds) ∧ A.nx (s1.put i (.own (ds ++ [d])))
theorem rs_app' (i : Nat) {te : TE} {ae : AE} (h1 : RE K Δ te ae) : RS K Δ (tDrop (tBM K "list" rAppend (tVar i) (tCons te tNil))) (aApp' i ae) := by
  intro C B σ H s D A E h qn qr
  obtain ⟨ds, hs, hl, h⟩ := h
  obtain ⟨p, us, hp, hus, hd⟩ := E.ownAt hs
  refine ⟨.ref p, hp, .inl ⟨rfl, us, SqL.of hus⟩, h1 C B σ H s _ _ E h fun v d H1 s1 a1 m1 E1 dv => ?_⟩
  obtain ⟨h1', a⟩ := a1
  obtain ⟨p', us', hp', hus', hd'⟩ := E1.ownAt h1'
  have ep : p' = p := by
    rw [hp] at hp'
    exact (V.ref.inj (Option.some.inj (Option.some.inj hp'))).symm
  subst ep
  refine ⟨p', us', v, rfl, rfl, hus', ?_, ?_⟩
  · rw [hd'.len]
    exact Nat.lt_of_le_of_lt hl (by decide)
  · obtain ⟨E2, g2⟩ := E1.grow h1' hp' (hd'.app (.cons dv .nil))
    exact qn B σ _ _ a ((Go.of_mv (m1.up E.sub)).trans g2) E2
def aOwnV (f : List PyData → PyData) (i : Nat) : AE := fun s A => ∃ ds, s.env[i]? = some (.own ds) ∧ A (f ds) s
theorem re_tupFO (i : Nat) : RE K Δ (tCB (rTupQ K) (tCons (tVar i) tNil)) (aOwnV .tuple i) := by
  intro C B σ H s Q A E h q
  obtain ⟨ds, hs, a⟩ := h
  obtain ⟨p, us, hp, hus, hd⟩ := E.ownAt hs
  refine ⟨.ref p, hp, p, us, rfl, SqL.of hus, fun l nl => ?_⟩
  obtain ⟨sm, dv⟩ := new_tup nl hd
  exact q _ _ _ s a (.of_same sm) (E.same sm) dv
theorem re_lenO (i : Nat) : RE K Δ (tCB (rLenS K) (tCons (tVar i) tNil)) (aOwnV (fun ds => .int ds.length) i) := by
  intro C B σ H s Q A E h q
  obtain ⟨ds, hs, a⟩ := h
  obtain ⟨p, us, hp, hus, hd⟩ := E.ownAt hs
  refine ⟨.ref p, hp, p, us, rfl, .inl (SqL.of hus), ?_⟩
  rw [hd.len]
  exact q _ _ _ s a (.refl _ _) E (.int _)
theorem DvAll.atI {H : Hp} {B : List Addr} {xs : List V} {ds : List PyData} (h : DvAll K H B xs ds) {i : Int} {d : PyData} (hd : atI ds i = some d) : ∃ v, atI xs i = some v ∧ Dv K H B v d := by
  unfold L2.atI at hd ⊢
  rw [h.len]
  cases e : ixN ds.length i with
  | none =>
    rw [e] at hd
    cases hd
  | some j =>
    rw [e] at hd
    exact h.gets hd
def aIxO (i : Nat) (ab : AE) : AE := fun s A => ab s fun e s1 => ∃ ds j d, s1.env[i]? = some (.own ds) ∧ e = .int j ∧ atI ds j = some d ∧ A d s1
theorem re_ixO (i : Nat) {c : Int} : RE K Δ (tOp (rIxL K) (tVar i) (tC (.int c))) (aIxO i (aC (.int c))) := by
  intro C B σ H s Q A E h q
  obtain ⟨ds, j, d, hs, e, hd, a⟩ := h
  cases e
  obtain ⟨p, us, hp, hus, hds⟩ := E.ownAt hs
  obtain ⟨v, hv, dv⟩ := hds.atI hd
  exact ⟨.ref p, hp, p, us, c, v, rfl, rfl, SqL.of hus, hv, q _ _ _ s a (.refl _ _) E dv⟩
/-! ### operations -/
def aI0 (g : Int → Int → PyData) : A2 := fun d e s A => ∃ i j, d = .int i ∧ e = .int j ∧ A (g i j) s
def aIc (c : Int → Int → Prop) (g : Int → Int → PyData) : A2 := fun d e s A => ∃ i j, d = .int i ∧ e = .int j ∧ c i j ∧ A (g i j) s
theorem r2_I0 {g : Int → Int → Int} : R2' K Δ (rI0 fun i j => .int (g i j)) (aI0 fun i j => .int (g i j)) := by
  intro C B σ H s x y d e Q A E dx dy h q
  obtain ⟨i, j, e1, e2, a⟩ := h
  subst e1 e2
  exact ⟨i, j, dv_int dx, dv_int dy, q _ _ _ a (Same.refl _) (.int _)⟩
theorem r2_B0 {g : Int → Int → Bool} : R2' K Δ (rI0 fun i j => .bl (g i j)) (aI0 fun i j => .bool (g i j)) := by
  intro C B σ H s x y d e Q A E dx dy h q
  obtain ⟨i, j, e1, e2, a⟩ := h
  subst e1 e2
  exact ⟨i, j, dv_int dx, dv_int dy, q _ _ _ a (Same.refl _) (.bl _)⟩
theorem r2_Ic {c : Int → Int → Prop} {g : Int → Int → Int} : R2' K Δ (rI c fun i j => .int (g i j)) (aIc c fun i j => .int (g i j)) := by
  intro C B σ H s x y d e Q A E dx dy h q
  obtain ⟨i, j, e1, e2, hc, a⟩ := h
  subst e1 e2
  exact ⟨i, j, dv_int dx, dv_int dy, hc, q _ _ _ a (Same.refl _) (.int _)⟩
def aEq (n : Bool) : A2 := fun d e s A => (∃ i j : Int, d = .int i ∧ e = .int j ∧ A (.bool (n ^^ decide (i = j))) s) ∨ (∃ i j : Str, d = .str i ∧ e = .str j ∧ A (.bool (n ^^ decide (i = j))) s) ∨ (∃ i j : Bool, d = .bool i ∧ e = .bool j ∧ A (.bool (n ^^ decide (i = j))) s) ∨
  (∃ i : Int, d = .none ∧ e = .int i ∧ A (.bool n) s)
theorem dec_congr {p q : Prop} [Decidable p] [Decidable q] (h : p ↔ q) : decide p = decide q := by
  by_cases hp : p
  · rw [decide_eq_true hp, decide_eq_true (h.mp hp)]
  · rw [decide_eq_false hp, decide_eq_false fun z => hp (h.mpr z)]
theorem r2_eq : R2' K Δ rEq (aEq false) := by
  intro C B σ H s x y d e Q A E dx dy h q
  rcases h with ⟨i, j, e1, e2, a⟩ | ⟨i, j, e1, e2, a⟩ | ⟨i, j, e1, e2, a⟩ | ⟨i, e1, e2, a⟩
  · subst e1 e2
    cases dx
    cases dy
    refine ⟨rfl, ?_⟩
    rw [dec_congr (show V.int i = V.int j ↔ i = j from ⟨V.int.inj, congrArg V.int⟩)]
    rw [Bool.false_xor] at a
    exact q _ _ _ a (Same.refl _) (.bl _)
  · subst e1 e2
    cases dx
    cases dy
    refine ⟨rfl, ?_⟩
    rw [dec_congr (show V.str i = V.str j ↔ i = j from ⟨V.str.inj, congrArg V.str⟩)]
    rw [Bool.false_xor] at a
    exact q _ _ _ a (Same.refl _) (.bl _)
  · subst e1 e2
    cases dx
    cases dy
    refine ⟨rfl, ?_⟩
    rw [dec_congr (show V.bl i = V.bl j ↔ i = j from ⟨V.bl.inj, congrArg V.bl⟩)]
    rw [Bool.false_xor] at a
    exact q _ _ _ a (Same.refl _) (.bl _)
  · subst e1 e2
    cases dx
    cases dy
    refine ⟨rfl, ?_⟩
    rw [decide_eq_false (by intro z; cases z)]
    exact q _ _ _ a (Same.refl _) (.bl _)
theorem r2_ne : R2' K Δ rNe (aEq true) := by
  intro C B σ H s x y d e Q A E dx dy h q
  rcases h with ⟨i, j, e1, e2, a⟩ | ⟨i, j, e1, e2, a⟩ | ⟨i, j, e1, e2, a⟩ | ⟨i, e1, e2, a⟩
  · subst e1 e2
    cases dx
    cases dy
    refine ⟨rfl, ?_⟩
    rw [dec_congr (show V.int i = V.int j ↔ i = j from ⟨V.int.inj, congrArg V.int⟩)]
    rw [Bool.true_xor] at a
    exact q _ _ _ a (Same.refl _) (.bl _)
  · subst e1 e2
    cases dx
    cases dy
    refine ⟨rfl, ?_⟩
    rw [dec_congr (show V.str i = V.str j ↔ i = j from ⟨V.str.inj, congrArg V.str⟩)]
    rw [Bool.true_xor] at a
    exact q _ _ _ a (Same.refl _) (.bl _)
  · subst e1 e2
    cases dx
    cases dy
    refine ⟨rfl, ?_⟩
    rw [dec_congr (show V.bl i = V.bl j ↔ i = j from ⟨V.bl.inj, congrArg V.bl⟩)]
    rw [Bool.true_xor] at a
    exact q _ _ _ a (Same.refl _) (.bl _)
  · subst e1 e2
    cases dx
    cases dy
    refine ⟨rfl, ?_⟩
    rw [decide_eq_false (by intro z; cases z)]
    exact q _ _ _ a (Same.refl _) (.bl _)
def isNone : PyData → Bool
  | .none => true
  | _ => false
theorem dv_isNone {H : Hp} {B : List Addr} {v : V} {d : PyData} (h : Dv K H B v d) : decide (v = .non) = isNone d := by
  cases h <;> rfl
theorem r2_isN : R2' K Δ (fun x y H Q => y = .non ∧ Q (.bl (decide (x = .non))) H) (fun d e s A => e = .none ∧ A (.bool (isNone d)) s) := by
  intro C B σ H s x y d e Q A E dx dy h q
  obtain ⟨e1, a⟩ := h
  subst e1
  refine ⟨dv_none dy, ?_⟩
  rw [dv_isNone dx]
  exact q _ _ _ a (Same.refl _) (.bl _)
theorem r2_notN : R2' K Δ (fun x y H Q => y = .non ∧ Q (.bl (!decide (x = .non))) H) (fun d e s A => e = .none ∧ A (.bool (!isNone d)) s) := by
  intro C B σ H s x y d e Q A E dx dy h q
  obtain ⟨e1, a⟩ := h
  subst e1
  refine ⟨dv_none dy, ?_⟩
  rw [dv_isNone dx]
  exact q _ _ _ a (Same.refl _) (.bl _)
def aIxT : A2 := fun d e s A => ∃ ds i x, d = .tuple ds ∧ e = .int i ∧ atI ds i = some x ∧ A x s
def aIxL : A2 := fun d e s A => ∃ ds i x, d = .list ds ∧ e = .int i ∧ atI ds i = some x ∧ A x s
theorem r2_ixT : R2' K Δ (rIxT K) aIxT := by
  intro C B σ H s x y d e Q A E dx dy h q
  obtain ⟨ds, i, z, e1, e2, hz, a⟩ := h
  subst e1 e2
  obtain ⟨p, xs, ev, hp, hd⟩ := dx.tupI
  obtain ⟨v, hv, dv⟩ := hd.atI hz
  exact ⟨p, xs, i, v, ev, dv_int dy, hp, hv, q _ _ _ a (Same.refl _) dv⟩
theorem r2_ixL : R2' K Δ (rIxL K) aIxL := by
  intro C B σ H s x y d e Q A E dx dy h q
  obtain ⟨ds, i, z, e1, e2, hz, a⟩ := h
  subst e1 e2
  obtain ⟨p, xs, ev, hp, _, hd⟩ := dx.lstI
  obtain ⟨v, hv, dv⟩ := hd.atI hz
  exact ⟨p, xs, i, v, ev, dv_int dy, SqL.of hp, hv, q _ _ _ a (Same.refl _) dv⟩
def aCatT : A2 := fun d e s A => ∃ xs ys, d = .tuple xs ∧ e = .tuple ys ∧ xs.length + ys.length ≤ 1000 ∧ A (.tuple (xs ++ ys)) s
def aCatL : A2 := fun d e s A => ∃ xs ys, d = .list xs ∧ e = .list ys ∧ xs.length + ys.length ≤ 1000 ∧ A (.list (xs ++ ys)) s
theorem r2_catT : R2' K Δ (rCatA K) aCatT := by
  intro C B σ H s x y d e Q A E dx dy h q
  obtain ⟨xs, ys, e1, e2, hl, a⟩ := h
  subst e1 e2
  have kx := dx
  have ky := dy
  obtain ⟨p, us, ev, hp, hd⟩ := dx.tupI
  obtain ⟨p', us', ev', hp', hd'⟩ := dy.tupI
  subst ev ev'
  have lx := hd.len
  have ly := hd'.len
  refine ⟨p, p', us, us', rfl, rfl, hp, hp', Nat.le_of_lt (small1000 (by omega)), fun z => ?_, fun _ z => ?_, fun _ _ p2 n2 => ?_⟩
  · subst z
    cases hd
    exact q _ _ _ a (Same.refl _) ky
  · subst z
    cases hd'
    rw [List.append_nil] at a
    exact q _ _ _ a (Same.refl _) kx
  · obtain ⟨sm, dv⟩ := new_tup n2 (hd.app hd')
    exact q _ _ _ a sm dv
theorem r2_catL : R2' K Δ rCat aCatL := by
  intro C B σ H s x y d e Q A E dx dy h q
  obtain ⟨xs, ys, e1, e2, hl, a⟩ := h
  subst e1 e2
  obtain ⟨p, us, ev, hp, _, hd⟩ := dx.lstI
  obtain ⟨p', us', ev', hp', _, hd'⟩ := dy.lstI
  subst ev ev'
  have lx := hd.len
  have ly := hd'.len
  refine ⟨p, p', us, us', rfl, rfl, hp, hp', Nat.le_of_lt (small1000 (by omega)), fun p2 n2 => ?_⟩
  obtain ⟨sm, dv⟩ := new_lst E n2 (hd.app hd')
  exact q _ _ _ a sm dv
def aIn (n : Bool) : A2 := fun d e s A => ∃ (i : Int) (ns : List Int), d = .int i ∧ (e = .list (ns.map .int) ∨ e = .tuple (ns.map .int)) ∧ A (.bool (n ^^ decide (i ∈ ns))) s
theorem inV_dec (i : Int) (ns : List Int) : inV (.int i) (ns.map V.int) = decide (i ∈ ns) := by
  have h := inV_ints i ns
  by_cases z : i ∈ ns
  · rw [decide_eq_true z, h.mpr z]
  · rw [decide_eq_false z]
    cases e : inV (.int i) (ns.map V.int) with
    | false => rfl
    | true => exact absurd (h.mp e) z
theorem r2_in {n : Bool} : R2' K Δ (rIn K n) (aIn n) := by
  intro C B σ H s x y d e Q A E dx dy h q
  obtain ⟨i, ns, e1, e2, a⟩ := h
  subst e1
  cases dx
  rcases e2 with e2 | e2
  · subst e2
    obtain ⟨p, us, ev, hp, _, hd⟩ := dy.lstI
    rw [hd.ints] at hp
    refine ⟨p, _, ev, .inl (SqL.of hp), rfl, flat_ints _, ?_⟩
    rw [inV_dec]
    have : (if n = true then !decide (i ∈ ns) else decide (i ∈ ns)) = (n ^^ decide (i ∈ ns)) := by cases n <;> cases decide (i ∈ ns) <;> rfl
    rw [this]
    exact q _ _ _ a (Same.refl _) (.bl _)
  · subst e2
    obtain ⟨p, us, ev, hp, hd⟩ := dy.tupI
    rw [hd.ints] at hp
    refine ⟨p, _, ev, .inr hp, rfl, flat_ints _, ?_⟩
    rw [inV_dec]
    have : (if n = true then !decide (i ∈ ns) else decide (i ∈ ns)) = (n ^^ decide (i ∈ ns)) := by cases n <;> cases decide (i ∈ ns) <;> rfl
    rw [this]
    exact q _ _ _ a (Same.refl _) (.bl _)
mutual
theorem Dv.dp {H : Hp} {B : List Addr} : ∀ (d : PyData) (v : V), d.canLay0 = true → Dv K H B v d → Dp K H v d
  | .none, _, _, h => by
    cases h
    exact .non
  | .bool b, _, _, h => by
    cases h
    exact .bl b
  | .int i, _, _, h => by
    cases h
    exact .int i
  | .str x, _, _, h => by
    cases h
    exact .str x
  | .list ds, _, c, h => by
    cases h with
    | lst hs n1 ha => exact .lst (SqL.of hs) (DvAll.dp ds _ (by simpa [PyData.canLay0] using c) ha)
  | .tuple ds, _, c, h => by
    cases h with
    | tup hs ha => exact .tup (SqT.of hs) (DvAll.dp ds _ (by simpa [PyData.canLay0] using c) ha)
  | .dict _, _, c, h => by simp [PyData.canLay0] at c
theorem DvAll.dp {H : Hp} {B : List Addr} : ∀ (ds : List PyData) (vs : List V), PyData.canLayAll0 ds = true → DvAll K H B vs ds → DpAll K H vs ds
  | [], _, _, h => by
    cases h
    exact .nil
  | d :: ds, _, c, h => by
    have c' : d.canLay0 = true ∧ PyData.canLayAll0 ds = true := by simpa [PyData.canLayAll0] using c
    cases h with
    | cons h1 h2 => exact .cons (Dv.dp d _ c'.1 h1) (DvAll.dp ds _ c'.2 h2)
end
def aEqD (n : Bool) : A2 := fun d e s A => SeqAt.shaped d = true ∧ SeqAt.shaped e = true ∧ A (.bool (n ^^ PyData.eqv d e)) s
theorem r2_eqD : R2' K Δ (rEqD K) (aEqD false) := by
  intro C B σ H s x y d e Q A E dx dy h q
  obtain ⟨h1, h2, a⟩ := h
  rw [Bool.false_xor] at a
  exact ⟨d, e, Dv.dp d _ (SeqAt.canLay_of_shaped h1) dx, Dv.dp e _ (SeqAt.canLay_of_shaped h2) dy, h1, h2, q _ _ _ a (Same.refl _) (.bl _)⟩
theorem r2_neD : R2' K Δ (rNeD K) (aEqD true) := by
  intro C B σ H s x y d e Q A E dx dy h q
  obtain ⟨h1, h2, a⟩ := h
  rw [Bool.true_xor] at a
  exact ⟨d, e, Dv.dp d _ (SeqAt.canLay_of_shaped h1) dx, Dv.dp e _ (SeqAt.canLay_of_shaped h2) dy, h1, h2, q _ _ _ a (Same.refl _) (.bl _)⟩
def aU (g : Int → PyData) : A1 := fun d s A => ∃ i, d = .int i ∧ A (g i) s
theorem r1_neg {g : Int → Int} : R1' K Δ (rU fun i => .int (g i)) (aU fun i => .int (g i)) := by
  intro C B σ H s x d Q A E dx h q
  obtain ⟨i, e1, a⟩ := h
  subst e1
  exact ⟨i, dv_int dx, q _ _ _ a (Same.refl _) (.int _)⟩
/-! ### built-in calls -/
theorem rc_len : RC' K Δ (rLenS K) (fun ds s A => ∃ xs, (ds = [.list xs] ∨ ds = [.tuple xs]) ∧ A (.int xs.length) s) := by
  intro C B σ H s vs ds Q A E dv h q
  obtain ⟨xs, e, a⟩ := h
  rcases e with e | e
  · subst e
    obtain ⟨v, ev, d1⟩ := dv.one
    obtain ⟨p, us, ep, hp, _, hd⟩ := d1.lstI
    subst ev ep
    refine ⟨p, us, rfl, .inl (SqL.of hp), ?_⟩
    rw [hd.len]
    exact q _ _ _ a (Same.refl _) (.int _)
  · subst e
    obtain ⟨v, ev, d1⟩ := dv.one
    obtain ⟨p, us, ep, hp, hd⟩ := d1.tupI
    subst ev ep
    refine ⟨p, us, rfl, .inr hp, ?_⟩
    rw [hd.len]
    exact q _ _ _ a (Same.refl _) (.int _)
theorem rc_tupF : RC' K Δ (rTupQ K) (fun ds s A => ∃ xs, ds = [.list xs] ∧ A (.tuple xs) s) := by
  intro C B σ H s vs ds Q A E dv h q
  obtain ⟨xs, e, a⟩ := h
  subst e
  obtain ⟨v, ev, d1⟩ := dv.one
  obtain ⟨p, us, ep, hp, _, hd⟩ := d1.lstI
  subst ev ep
  refine ⟨p, us, rfl, SqL.of hp, fun l nl => ?_⟩
  obtain ⟨sm, dv⟩ := new_tup nl hd
  exact q _ _ _ a sm dv
theorem rc_listof : RC' K Δ (rListOf K) (fun ds s A => ∃ xs, (ds = [.list xs] ∨ ds = [.tuple xs]) ∧ A (.list xs) s) := by
  intro C B σ H s vs ds Q A E dv h q
  obtain ⟨xs, e, a⟩ := h
  rcases e with e | e
  · subst e
    obtain ⟨v, ev, d1⟩ := dv.one
    obtain ⟨p, us, ep, hp, _, hd⟩ := d1.lstI
    subst ev ep
    refine ⟨p, us, rfl, .inl (SqL.of hp), fun l nl => ?_⟩
    obtain ⟨sm, dv⟩ := new_lst E nl hd
    exact q _ _ _ a sm dv
  · subst e
    obtain ⟨v, ev, d1⟩ := dv.one
    obtain ⟨p, us, ep, hp, hd⟩ := d1.tupI
    subst ev ep
    refine ⟨p, us, rfl, .inr hp, fun l nl => ?_⟩
    obtain ⟨sm, dv⟩ := new_lst E nl hd
    exact q _ _ _ a sm dv
theorem intsAt {H : Hp} {B : List Addr} {vs : List V} {ns : List Int} (dv : DvAll K H B vs [.list (ns.map .int)]) : ∃ p, vs = [.ref p] ∧ SqL K H p (ns.map V.int) := by
  obtain ⟨v, ev, d1⟩ := dv.one
  obtain ⟨p, us, ep, hp, _, hd⟩ := d1.lstI
  rw [hd.ints] at hp
  exact ⟨p, by rw [ev, ep], SqL.of hp⟩
theorem rc_sorted : RC' K Δ (rSortedI K) (fun ds s A => ∃ ns : List Int, ds = [.list (ns.map .int)] ∧ ∀ ns' : List Int, ns'.Perm ns → ns'.Pairwise (· ≤ ·) → A (.list (ns'.map .int)) s) := by
  intro C B σ H s vs ds Q A E dv h q
  obtain ⟨ns, e, a⟩ := h
  subst e
  obtain ⟨p, ev, hp⟩ := intsAt dv
  refine ⟨p, ns, ev, hp, fun ns' l h1 h2 nl => ?_⟩
  obtain ⟨sm, dv⟩ := new_lst E nl (dvInts ns')
  exact q _ _ _ (a ns' h1 h2) sm dv
theorem rc_sum : RC' K Δ (rSum K) (fun ds s A => ∃ ns : List Int, ds = [.list (ns.map .int)] ∧ A (.int ns.sum) s) := by
  intro C B σ H s vs ds Q A E dv h q
  obtain ⟨ns, e, a⟩ := h
  subst e
  obtain ⟨p, ev, hp⟩ := intsAt dv
  exact ⟨p, ns, ev, hp, q _ _ _ a (Same.refl _) (.int _)⟩
theorem rc_max : RC' K Δ (rMax K) (fun ds s A => ∃ ns : List Int, ds = [.list (ns.map .int)] ∧ 0 < ns.length ∧ ∀ m, m ∈ ns → (∀ y, y ∈ ns → y ≤ m) → A (.int m) s) := by
  intro C B σ H s vs ds Q A E dv h q
  obtain ⟨ns, e, hl, a⟩ := h
  subst e
  obtain ⟨p, ev, hp⟩ := intsAt dv
  exact ⟨p, ns, ev, hp, hl, fun m h1 h2 => q _ _ _ (a m h1 h2) (Same.refl _) (.int _)⟩
theorem rc_min : RC' K Δ (rMin K) (fun ds s A => ∃ ns : List Int, ds = [.list (ns.map .int)] ∧ 0 < ns.length ∧ ∀ m, m ∈ ns → (∀ y, y ∈ ns → m ≤ y) → A (.int m) s) := by
  intro C B σ H s vs ds Q A E dv h q
  obtain ⟨ns, e, hl, a⟩ := h
  subst e
  obtain ⟨p, ev, hp⟩ := intsAt dv
  exact ⟨p, ns, ev, hp, hl, fun m h1 h2 => q _ _ _ (a m h1 h2) (Same.refl _) (.int _)⟩
theorem rc_all : RC' K Δ (rAll K) (fun ds s A => ∃ ns : List Bool, ds = [.list (ns.map .bool)] ∧ A (.bool (ns.all id)) s) := by
  intro C B σ H s vs ds Q A E dv h q
  obtain ⟨ns, e, a⟩ := h
  subst e
  obtain ⟨v, ev, d1⟩ := dv.one
  obtain ⟨p, us, ep, hp, _, hd⟩ := d1.lstI
  rw [hd.bools] at hp
  subst ev ep
  exact ⟨p, ns, rfl, SqL.of hp, q _ _ _ a (Same.refl _) (.bl _)⟩
theorem rc_repr : RC' K Δ (rReprV K) (fun ds s A => ∃ d, ds = [d] ∧ Neat d 16000000 60 ∧ A (.str d.shown) s) := by
  intro C B σ H s vs ds Q A E dv h q
  obtain ⟨d, e, nt, a⟩ := h
  subst e
  obtain ⟨v, ev, d1⟩ := dv.one
  exact ⟨v, d, B, ev, d1, nt, q _ _ _ a (Same.refl _) (.str _)⟩
theorem rc_abs : RC' K Δ (fun xs H Q => ∃ i, xs = [.int i] ∧ Q (.int (if i < 0 then -i else i)) H) (fun ds s A => ∃ i : Int, ds = [.int i] ∧ A (.int (if i < 0 then -i else i)) s) := by
  intro C B σ H s vs ds Q A E dv h q
  obtain ⟨i, e, a⟩ := h
  subst e
  obtain ⟨v, ev, d1⟩ := dv.one
  cases d1
  exact ⟨i, ev, q _ _ _ a (Same.refl _) (.int _)⟩
theorem rc_max2 : RC' K Δ (fun xs H Q => ∃ i j, xs = [.int i, .int j] ∧ Q (.int (if j > i then j else i)) H) (fun ds s A => ∃ i j : Int, ds = [.int i, .int j] ∧ A (.int (if j > i then j else i)) s) := by
  intro C B σ H s vs ds Q A E dv h q
  obtain ⟨i, j, e, a⟩ := h
  subst e
  obtain ⟨v, u, ev, d1, d2⟩ := dv.two
  cases d1
  cases d2
  exact ⟨i, j, ev, q _ _ _ a (Same.refl _) (.int _)⟩
theorem rc_min2 : RC' K Δ (fun xs H Q => ∃ i j, xs = [.int i, .int j] ∧ Q (.int (if j < i then j else i)) H) (fun ds s A => ∃ i j : Int, ds = [.int i, .int j] ∧ A (.int (if j < i then j else i)) s) := by
  intro C B σ H s vs ds Q A E dv h q
  obtain ⟨i, j, e, a⟩ := h
  subst e
  obtain ⟨v, u, ev, d1, d2⟩ := dv.two
  cases d1
  cases d2
  exact ⟨i, j, ev, q _ _ _ a (Same.refl _) (.int _)⟩
theorem rc_int1 : RC' K Δ (fun xs H Q => (∃ i, xs = [.int i] ∧ Q (.int i) H) ∨ ∃ k, xs = [.bl k] ∧ Q (.int (if k then 1 else 0)) H) (fun ds s A => (∃ i : Int, ds = [.int i] ∧ A (.int i) s) ∨ ∃ k : Bool, ds = [.bool k] ∧ A (.int (if k then 1 else 0)) s) := by
  intro C B σ H s vs ds Q A E dv h q
  rcases h with ⟨i, e, a⟩ | ⟨k, e, a⟩
  · subst e
    obtain ⟨v, ev, d1⟩ := dv.one
    cases d1
    exact .inl ⟨i, ev, q _ _ _ a (Same.refl _) (.int _)⟩
  · subst e
    obtain ⟨v, ev, d1⟩ := dv.one
    cases d1
    exact .inr ⟨k, ev, q _ _ _ a (Same.refl _) (.int _)⟩
def isOf (T : String) : PyData → Bool := fun d => if T = "tuple" then isT d else if T = "int" then isI d else isB d
def aIsi (T : String) (ae : AE) : AE := fun s A => ae s fun d s1 => A (.bool (isOf T d)) s1
theorem re_isiG {te : TE} {ae : AE} {T : String} {f : PyData → Bool} (hk : ∀ d, PySem.W.kitOne K (.type (kindOf d)) (.type T) = some (f d)) (h1 : RE K Δ te ae) : RE K Δ (tCB (rIsi K) (tCons te (tCons (tC (.ty T)) tNil))) (fun s A => ae s fun d s1 => A (.bool (f d)) s1) := by
  intro C B σ H s Q A E h q
  refine h1 C B σ H s _ _ E h fun v d H1 s1 a1 m1 E1 dv => ?_
  exact ⟨v, .ty T, _, .type T, f d, rfl, .ty T, dv.ty, hk d, q _ _ _ _ a1 m1 E1 (.bl _)⟩
theorem re_isiT {te : TE} {ae : AE} (h1 : RE K Δ te ae) : RE K Δ (tCB (rIsi K) (tCons te (tCons (tC (.ty "tuple")) tNil))) (fun s A => ae s fun d s1 => A (.bool (isT d)) s1) := re_isiG (fun _ => kit_tuple) h1
theorem re_isiI {te : TE} {ae : AE} (h1 : RE K Δ te ae) : RE K Δ (tCB (rIsi K) (tCons te (tCons (tC (.ty "int")) tNil))) (fun s A => ae s fun d s1 => A (.bool (isI d)) s1) := re_isiG (fun _ => kit_int) h1
theorem re_isiB {te : TE} {ae : AE} (h1 : RE K Δ te ae) : RE K Δ (tCB (rIsi K) (tCons te (tCons (tC (.ty "bool")) tNil))) (fun s A => ae s fun d s1 => A (.bool (isB d)) s1) := re_isiG (fun _ => kit_bool) h1
/-! list(range(..)), tuple(range(..)) -/
def aRg1 (a : AE) : AS → (Int → Int → AS → Prop) → Prop := fun s A => a s fun d s1 => ∃ n, d = .int n ∧ A 0 n s1
def aRg2 (a b : AE) : AS → (Int → Int → AS → Prop) → Prop := fun s A => a s fun d s1 => b s1 fun e s2 => ∃ i j, d = .int i ∧ e = .int j ∧ A i j s2
def RRg (t : L2.St → Hp → (Int → Int → Hp → Prop) → Prop) (a : AS → (Int → Int → AS → Prop) → Prop) (K : PySem.W.Frag) (Δ : DK) : Prop := ∀ (C : Cy) (B : List Addr) (σ : L2.St) (H : Hp) (s : AS) (Q : Int → Int → Hp → Prop) (A : Int → Int → AS → Prop), En K Δ C B σ H s → a s A →
  (∀ i j H' s', A i j s' → Mx Δ.w C.as H H' → En K Δ C B σ H' s' → Q i j H') → t σ H Q
theorem rrg1 {te : TE} {ae : AE} (h1 : RE K Δ te ae) : RRg (tRg1 te) (aRg1 ae) K Δ := by
  intro C B σ H s Q A E h q
  refine h1 C B σ H s _ _ E h fun v d H1 s1 a1 m1 E1 dv => ?_
  obtain ⟨n, e, a⟩ := a1
  subst e
  exact ⟨n, dv_int dv, q _ _ _ _ a m1 E1⟩
theorem rrg2 {te tf : TE} {ae af : AE} (h1 : RE K Δ te ae) (h2 : RE K Δ tf af) : RRg (tRg2 te tf) (aRg2 ae af) K Δ := by
  intro C B σ H s Q A E h q
  refine h1 C B σ H s _ _ E h fun v d H1 s1 a1 m1 E1 dv => h2 C B σ H1 s1 _ _ E1 a1 fun u e H2 s2 a2 m2 E2 du => ?_
  obtain ⟨i, j, e1, e2, a⟩ := a2
  subst e1 e2
  exact ⟨i, j, dv_int dv, dv_int du, q _ _ _ _ a (m1.trans m2) E2⟩
def rgD (a b : Int) : List Int := (List.range (b - a).toNat).map fun i => a + (i : Nat)
theorem rgV_eq (a b : Int) : rgV a b = (rgD a b).map V.int := by
  unfold rgV rgD
  rw [List.map_map]
  rfl
theorem re_listRg {t : L2.St → Hp → (Int → Int → Hp → Prop) → Prop} {a : AS → (Int → Int → AS → Prop) → Prop} (h1 : RRg t a K Δ) : RE K Δ (tLstRg t) (fun s A => a s fun i j s1 => RgOk i j ∧ A (.list ((rgD i j).map .int)) s1) := by
  intro C B σ H s Q A E h q
  refine h1 C B σ H s _ _ E h fun i j H1 s1 a1 m1 E1 => ⟨a1.1, fun p np => ?_⟩
  rw [rgV_eq]
  obtain ⟨sm, dv⟩ := new_lst E1 np (dvInts (rgD i j))
  exact q _ _ _ _ a1.2 (m1.trans (.of_same sm)) (E1.same sm) dv
theorem re_tupRg {t : L2.St → Hp → (Int → Int → Hp → Prop) → Prop} {a : AS → (Int → Int → AS → Prop) → Prop} (h1 : RRg t a K Δ) : RE K Δ (tTupRg t) (fun s A => a s fun i j s1 => RgOk i j ∧ A (.tuple ((rgD i j).map .int)) s1) := by
  intro C B σ H s Q A E h q
  refine h1 C B σ H s _ _ E h fun i j H1 s1 a1 m1 E1 => ⟨a1.1, fun p np => ?_⟩
  rw [rgV_eq]
  obtain ⟨sm, dv⟩ := new_tup np (dvInts (rgD i j))
  exact q _ _ _ _ a1.2 (m1.trans (.of_same sm)) (E1.same sm) dv
/-! list.index, reversed tuples -/
def aIndex (ao ae : AE) : AE := fun s A => ao s fun d s1 => (∃ ds, d = .list ds) ∧ ae s1 fun e s2 => ∃ (ns : List Int) (i : Int) (j : Nat), d = .list (ns.map .int) ∧ e = .int i ∧ ns[j]? = some i ∧ (∀ m : Nat, m < j → ns[m]? ≠ some i) ∧ A (.int j) s2
theorem re_index {to te : TE} {ao ae : AE} (h1 : RE K Δ to ao) (h2 : RE K Δ te ae) : RE K Δ (tBM K "list" (rIndex K) to (tCons te tNil)) (aIndex ao ae) := by
  intro C B σ H s Q A E h q
  refine h1 C B σ H s _ _ E h fun v d H1 s1 a1 m1 E1 dv => ?_
  obtain ⟨⟨ds, ed⟩, a1⟩ := a1
  subst ed
  obtain ⟨p, us, ep, hp, hB, hd⟩ := dv.lstI
  subst ep
  refine ⟨.inl ⟨rfl, us, SqL.of hp⟩, h2 C B σ H1 s1 _ _ E1 a1 fun u e H2 s2 a2 m2 E2 du => ?_⟩
  obtain ⟨ns, i, j, ed, ee, hj, hno, a⟩ := a2
  subst ee
  cases du
  cases ed
  rw [hd.ints] at hp
  have hp2 := (m2.up E1.sub).kp _ _ hB rfl hp
  refine ⟨p, ns.map V.int, .int i, j, .int i, rfl, rfl, SqL.of hp2, rfl, flat_ints _, by rw [List.getElem?_map, hj]; rfl, by simp [eqV], fun m z hm hz => ?_, q _ _ _ _ a (m1.trans m2) E2 (.int _)⟩
  rw [List.getElem?_map] at hz
  cases en : ns[m]? with
  | none =>
    rw [en] at hz
    cases hz
  | some n =>
    rw [en] at hz
    cases hz
    have := hno m hm
    rw [en] at this
    have ne : n ≠ i := fun e => this (by rw [e])
    simpa [eqV] using ne
theorem re_revT {te : TE} {ae : AE} (h1 : RE K Δ te ae) : RE K Δ (tRevT K te) (fun s A => ae s fun d s1 => ∃ ds, d = .tuple ds ∧ A (.tuple ds.reverse) s1) := by
  intro C B σ H s Q A E h q
  refine h1 C B σ H s _ _ E h fun v d H1 s1 a1 m1 E1 dv => ?_
  obtain ⟨ds, ed, a⟩ := a1
  subst ed
  obtain ⟨p, us, ep, hp, hd⟩ := dv.tupI
  subst ep
  refine ⟨p, us, rfl, hp, fun l nl => ?_⟩
  obtain ⟨sm, dv⟩ := new_tup nl hd.back
  exact q _ _ _ _ a (m1.trans (.of_same sm)) (E1.same sm) dv
/-! ### calls of defs -/
abbrev RP := List PyData → (PyData → Prop) → Prop
abbrev RKd := List PyData → Int → (PyData → Int → Prop) → Prop
def spP (K : PySem.W.Frag) (R : RP) : Sp := fun vs H Q _ => ∃ (B : List Addr) (ds : List PyData) (A : PyData → Prop), Stands B H ∧ DvAll K H B vs ds ∧ R ds A ∧ ∀ v d H', A d → Same H H' → Dv K H' B v d → Q v H'
def spK (K : PySem.W.Frag) (Δ : DK) (R : RKd) : Sp := fun vs H Q _ => ∃ (r : Addr) (as B : List Addr) (vs' : List V) (ds : List PyData) (k : Int) (A : PyData → Int → Prop), vs = .ref r :: vs' ∧ (∀ a ∈ as, a ∈ B) ∧ Stands B H ∧ Δ.P H r as k ∧ DvAll K H B vs' ds ∧ R ds k A ∧
  ∀ v d k' H', A d k' → Mx Δ.w as H H' → Δ.P H' r as k' → Dv K H' B v d → Q v H'
def aCallP (R : RP) (aa : AA) : AE := fun s A => aa s fun ds s1 => R ds fun d => A d s1
theorem re_callP {R : RP} {ta : TA} {aa : AA} (h1 : RA K Δ ta aa) : RE K Δ (tCall (spP K R) [] E0 ta) (aCallP R aa) := by
  intro C B σ H s Q A E h q
  refine h1 C B σ H s _ _ E h fun vs ds H1 s1 a1 m1 E1 dv => ?_
  rw [List.append_nil]
  exact ⟨B, ds, _, E1.st, dv, a1, fun v d H' a sm dv' => q v d H' s1 a (m1.trans (.of_same sm)) (E1.same sm) dv'⟩
def aCallK (i : Nat) (R : RKd) (aa : AA) : AE := fun s A => s.env[i]? = some .deck ∧ aa s fun ds s1 => ∃ k, s1.k = some k ∧ R ds k fun d k' => A d ⟨s1.env, some k'⟩
theorem re_callK {i : Nat} {R : RKd} {ta : TA} {aa : AA} (h1 : RA K Δ ta aa) : RE K Δ (tCall (spK K Δ R) [] E0 (tCons (tVar i) ta)) (aCallK i R aa) := by
  intro C B σ H s Q A E h q
  refine ⟨.ref C.r, E.dr i h.1, h1 C B σ H s _ _ E h.2 fun vs ds H1 s1 a1 m1 E1 dv => ?_⟩
  show spK K Δ R ((V.ref C.r :: vs) ++ []) H1 Q E0
  rw [List.append_nil]
  obtain ⟨k, hk, a⟩ := a1
  refine ⟨C.r, C.as, B, vs, ds, k, _, rfl, E1.sub, E1.st, E1.dk k hk, dv, a, fun v d k' H' a' mx dk' dv' => ?_⟩
  exact q v d H' _ a' (m1.trans mx) (E1.move mx (kk := some k') fun k'' e => by cases e; exact dk') dv'
/-! ### the body of a def -/
def startP (N : List Str) (ds : List PyData) : AS := ⟨ds.map Sl.dat ++ List.replicate (N.length - ds.length) .free, none⟩
def startK (N : List Str) (ds : List PyData) (k : Int) : AS := ⟨.deck :: (ds.map Sl.dat ++ List.replicate (N.length - (ds.length + 1)) .free), some k⟩
theorem start_dat {N : List Str} {vs : List V} {ds : List PyData} {H : Hp} {B : List Addr} (dv : DvAll K H B vs ds) (n : Nat) {i : Nat} {d : PyData} (h : (ds.map Sl.dat ++ List.replicate n Sl.free)[i]? = some (.dat d)) (w : List (Option V)) :
    ∃ v, (vs.map some ++ w)[i]? = some (some v) ∧ Dv K H B v d := by
  by_cases hi : i < ds.length
  · rw [List.getElem?_append_left (by rw [List.length_map]; exact hi), List.getElem?_map] at h
    rw [List.getElem?_append_left (by rw [List.length_map, dv.len]; exact hi), List.getElem?_map]
    cases e : ds[i]? with
    | none =>
      rw [e] at h
      cases h
    | some x =>
      rw [e] at h
      cases h
      obtain ⟨v, hv, q⟩ := dv.gets e
      exact ⟨v, by rw [hv]; rfl, q⟩
  · rw [List.getElem?_append_right (by rw [List.length_map]; omega), List.getElem?_replicate] at h
    split at h <;> cases h
theorem start_not {ds : List PyData} (n : Nat) {i : Nat} {x : Sl} (h : (ds.map Sl.dat ++ List.replicate n Sl.free)[i]? = some x) : x = .free ∨ ∃ d, x = .dat d := by
  by_cases hi : i < ds.length
  · rw [List.getElem?_append_left (by rw [List.length_map]; exact hi), List.getElem?_map] at h
    cases e : ds[i]? with
    | none =>
      rw [e] at h
      cases h
    | some y =>
      rw [e] at h
      cases h
      exact .inr ⟨y, rfl⟩
  · rw [List.getElem?_append_right (by rw [List.length_map]; omega), List.getElem?_replicate] at h
    split at h
    · cases h
      exact .inl rfl
    · cases h
theorem start_noe {ds : List PyData} {n : Nat} (i : Nat) (a D : Addr) (d : Option Addr) (fs : List (Str × PyData)) : (ds.map Sl.dat ++ List.replicate n Sl.free)[i]? ≠ some (.exc a D d fs) := fun h => by
  rcases start_not _ h with z | ⟨d, z⟩ <;> cases z
theorem startK_noe {N : List Str} {ds : List PyData} {k : Int} (i : Nat) (a D : Addr) (d : Option Addr) (fs : List (Str × PyData)) : (startK N ds k).env[i]? ≠ some (.exc a D d fs) := fun h => by
  cases i with
  | zero => cases h
  | succ i => exact start_noe i a D d fs h
theorem startL_noe {n i : Nat} (j : Nat) (a D : Addr) (d : Option Addr) (fs : List (Str × PyData)) : ((List.replicate n Sl.free).set i .deck)[j]? ≠ some (.exc a D d fs) := fun h => by
  rcases set_get h with ⟨_, z, _⟩ | ⟨_, z⟩
  · cases z
  · rw [List.getElem?_replicate] at z
    split at z <;> cases z
theorem mx_nil {w : Bool} {H H' : Hp} (hw : w = false) (m : Mx w [] H H') : Same H H' := fun b o e => m.tk hw b o List.not_mem_nil e
theorem goP {R : RP} {vs : List V} {H : Hp} {Q : VK} {E : XK} {N : List Str} {t : TS} {a : AStm} (hw : Δ.w = false) (h : spP K R vs H Q E) (rs : RS K Δ t a) (hb : ∀ ds A, R ds A → a ⟨fun _ => A .none, fun d _ => A d⟩ (startP N ds)) :
    t { nx := fun _ H' => Q .non H', rt := Q } (L2.start N vs) H := by
  obtain ⟨B, ds, A, st, dv, r, q⟩ := h
  refine rs ⟨0, [], B, H, st⟩ B _ H (startP N ds) _ ⟨fun _ => A .none, fun d _ => A d⟩ ?_ (hb ds A r) (fun B' σ' H' s' a' g E' => q _ _ _ a' (mx_nil hw E'.mw) .non) (fun v d H' s' a' rt => q _ _ _ a' (mx_nil hw rt.mw) rt.dv)
  refine ⟨?_, fun i d h => start_dat (N := N) dv _ h _, fun i h => ?_, fun i a D d fs h => absurd h (start_noe _ _ _ _ _), ⟨fun _ => 0, fun i es h ho => ?_, fun i j d1 d2 h _ ho => ?_⟩, st, fun a ha => absurd ha List.not_mem_nil, fun b hb => hb, fun k hk => ?_, .refl _ _⟩
  · show (vs.map some ++ List.replicate (N.length - vs.length) none).length = (ds.map Sl.dat ++ List.replicate (N.length - ds.length) Sl.free).length
    rw [List.length_append, List.length_append, List.length_map, List.length_map, List.length_replicate, List.length_replicate, dv.len]
  · rcases start_not _ h with z | ⟨d, z⟩ <;> first | (subst z; cases ho) | cases z
  · rcases start_not _ h with z | ⟨d, z⟩ <;> first | (subst z; cases ho) | cases z
  · rcases start_not _ h with z | ⟨d, z⟩ <;> first | (subst z; cases ho) | cases z
  · cases hk
theorem lenP {R : RP} {vs : List V} {H : Hp} {Q : VK} {E : XK} {n : Nat} (h : spP K R vs H Q E) (hl : ∀ ds A, R ds A → ds.length = n) : vs.length = n := by
  obtain ⟨B, ds, A, st, dv, r, q⟩ := h
  rw [dv.len]
  exact hl ds A r
theorem goK {R : RKd} {vs : List V} {H : Hp} {Q : VK} {E : XK} {N : List Str} {t : TS} {a : AStm} (h : spK K Δ R vs H Q E) (rs : RS K Δ t a)
    (hb : ∀ ds k A, R ds k A → a ⟨fun s => ∃ k1 k', s.k = some k1 ∧ k1 ≤ k' ∧ A .none k', fun d s => ∃ k1 k', s.k = some k1 ∧ k1 ≤ k' ∧ A d k'⟩ (startK N ds k)) :
    t { nx := fun _ H' => Q .non H', rt := Q } (L2.start N vs) H := by
  obtain ⟨r, as, B, vs', ds, k, A, ev, sub, st, dk, dv, hr, q⟩ := h
  subst ev
  refine rs ⟨r, as, B, H, st⟩ B _ H (startK N ds k) _ _ ?_ (hb ds k A hr) (fun B' σ' H' s' a' g E' => ?_) (fun v d H' s' a' rt => ?_)
  · have up : ∀ {i : Nat} {x : Sl}, (startK N ds k).env[i]? = some x → (i = 0 ∧ x = .deck) ∨ ∃ j, i = j + 1 ∧ (ds.map Sl.dat ++ List.replicate (N.length - (ds.length + 1)) Sl.free)[j]? = some x := by
      intro i x h
      cases i with
      | zero =>
        cases h
        exact .inl ⟨rfl, rfl⟩
      | succ j => exact .inr ⟨j, rfl, h⟩
    refine ⟨?_, fun i d h => ?_, fun i h => ?_, fun i a D d fs h => absurd h (startK_noe _ _ _ _ _), ⟨fun _ => 0, fun i es h ho => ?_, fun i j d1 d2 h _ ho => ?_⟩, st, sub, fun b hb => hb, fun k' hk => ?_, .refl _ _⟩
    · show ((V.ref r :: vs').map some ++ List.replicate (N.length - (V.ref r :: vs').length) none).length = (Sl.deck :: (ds.map Sl.dat ++ List.replicate (N.length - (ds.length + 1)) Sl.free)).length
      rw [List.length_append, List.length_cons (as := ds.map Sl.dat ++ _), List.length_append, List.length_map, List.length_map, List.length_replicate, List.length_replicate, List.length_cons, dv.len]
      omega
    · rcases up h with ⟨_, z⟩ | ⟨j, e, z⟩
      · first | (subst z; cases ho) | cases z
      · subst e
        exact start_dat (N := N) dv _ z _
    · rcases up h with ⟨z, _⟩ | ⟨j, e, z⟩
      · subst z
        rfl
      · rcases start_not _ z with z | ⟨d, z⟩ <;> first | (subst z; cases ho) | cases z
    · rcases up h with ⟨_, z⟩ | ⟨j, e, z⟩
      · first | (subst z; cases ho) | cases z
      · rcases start_not _ z with z | ⟨d, z⟩ <;> first | (subst z; cases ho) | cases z
    · rcases up h with ⟨_, z⟩ | ⟨j, e, z⟩
      · first | (subst z; cases ho) | cases z
      · rcases start_not _ z with z | ⟨d, z⟩ <;> first | (subst z; cases ho) | cases z
    · cases hk
      exact dk
  · obtain ⟨k1, k', e, le, a'⟩ := a'
    exact q _ _ k' _ a' E'.mw (Δ.mono (E'.dk k1 e) le) .non
  · obtain ⟨k1, k', e, le, a'⟩ := a'
    exact q _ _ k' _ a' rt.mw (Δ.mono (rt.dk k1 e) le) rt.dv
theorem lenK {R : RKd} {vs : List V} {H : Hp} {Q : VK} {E : XK} {n : Nat} (h : spK K Δ R vs H Q E) (hl : ∀ ds k A, R ds k A → ds.length + 1 = n) : vs.length = n := by
  obtain ⟨r, as, B, vs', ds, k, A, ev, sub, st, dk, dv, hr, q⟩ := h
  rw [ev, List.length_cons, dv.len]
  exact hl ds k A hr
/-- the law's own body, behind its first statement -/
theorem goL {t : TS} {a : AStm} (rs : RS K Δ t a) {σ : L2.St} {H : Hp} {r : Addr} {as : List Addr} {k : Int} {i n : Nat} {D : Ends} (hσ : σ[i]? = some (some (.ref r))) (hl : σ.length = n) (st : Stands as H) (dk : Δ.P H r as k)
    (hq : ∀ H', D.rt (.bl true) H') (hb : a ⟨fun _ => False, fun d _ => d = .bool true⟩ ⟨(List.replicate n Sl.free).set i .deck, some k⟩) : t D σ H := by
  refine rs ⟨r, as, as, H, st⟩ as σ H _ D _ ?_ hb (fun B' σ' H' s' a' g E' => a'.elim) (fun v d H' s' a' rt => ?_)
  · have up : ∀ {j : Nat} {x : Sl}, ((List.replicate n Sl.free).set i .deck)[j]? = some x → (j = i ∧ x = .deck) ∨ x = .free := by
      intro j x h
      rcases set_get h with ⟨z1, z2, _⟩ | ⟨_, z⟩
      · exact .inl ⟨z1, z2⟩
      · rw [List.getElem?_replicate] at z
        split at z
        · cases z
          exact .inr rfl
        · cases z
    refine ⟨by show _ = ((List.replicate n Sl.free).set i .deck).length; rw [List.length_set, List.length_replicate]; exact hl, fun j d h => ?_, fun j h => ?_, fun j a D d fs h => absurd h (startL_noe _ _ _ _ _), ⟨fun _ => 0, fun j es h ho => ?_, fun j l d1 d2 h _ ho => ?_⟩, st, fun a ha => ha, fun b hb => hb, fun k' hk => ?_, .refl _ _⟩
    · rcases up h with ⟨_, z⟩ | z <;> first | (subst z; cases ho) | cases z
    · rcases up h with ⟨z, _⟩ | z
      · rw [z]
        exact hσ
      · cases z
    · rcases up h with ⟨_, z⟩ | z <;> first | (subst z; cases ho) | cases z
    · rcases up h with ⟨_, z⟩ | z <;> first | (subst z; cases ho) | cases z
    · cases hk
      exact dk
  · subst a'
    have e := dv_bool rt.dv
    subst e
    exact hq H'
end

/-! ### more that is walked, rules for lists and tuples alike -/
section
variable {K : PySem.W.Frag} {Δ : DK}
def itemsOf : PyData → Option (List PyData)
  | .list ds => some ds
  | .tuple ds => some ds
  | _ => none
def rIxA (K : PySem.W.Frag) : R2 := fun x y H Q => rIxL K x y H Q ∨ rIxT K x y H Q
theorem kixA {X : Cx} (K : PySem.W.Frag) (hK : X.K = K := by rfl) : IxR X (rIxA K) := by
  subst hK
  intro a b pins s σ H x y v u Q I rx ry h
  rcases h with h | h
  · exact ix_list a b pins s σ H x y v u Q I rx ry h
  · exact ix_tup a b pins s σ H x y v u Q I rx ry h
def aIxA : A2 := fun d e s A => ∃ ds i x, itemsOf d = some ds ∧ e = .int i ∧ atI ds i = some x ∧ A x s
theorem items_cases {d : PyData} {ds : List PyData} (h : itemsOf d = some ds) : d = .list ds ∨ d = .tuple ds := by
  cases d <;> first | cases h | skip
  · exact .inl rfl
  · exact .inr rfl
theorem r2_ixA : R2' K Δ (rIxA K) aIxA := by
  intro C B σ H s x y d e Q A E dx dy h q
  obtain ⟨ds, i, z, e1, e2, hz, a⟩ := h
  rcases items_cases e1 with e | e
  · exact .inl (r2_ixL C B σ H s x y _ _ Q A E dx dy ⟨ds, i, z, e, e2, hz, a⟩ q)
  · exact .inr (r2_ixT C B σ H s x y _ _ Q A E dx dy ⟨ds, i, z, e, e2, hz, a⟩ q)
theorem rc_len' : RC' K Δ (rLenS K) (fun ds s A => ∃ d xs, ds = [d] ∧ itemsOf d = some xs ∧ A (.int xs.length) s) := by
  intro C B σ H s vs ds Q A E dv h q
  obtain ⟨d, xs, e, e1, a⟩ := h
  refine rc_len C B σ H s vs ds Q A E dv ⟨xs, ?_, a⟩ q
  rcases items_cases e1 with z | z
  · exact .inl (by rw [e, z])
  · exact .inr (by rw [e, z])
def rSlU (K : PySem.W.Frag) : V → Option Int → Option Int → Hp → VK → Prop := fun x lo hi H Q => rSlL K x lo hi H Q ∨ rSlA K x lo hi H Q
theorem kslU {X : Cx} (K : PySem.W.Frag) (hK : X.K = K := by rfl) : SlR X (rSlU K) := by
  subst hK
  exact SlR.or sl_list sl_tupA
def sliceD (lo hi : Option Int) : PyData → PyData
  | .list ds => .list (cutD ds lo hi)
  | .tuple ds => .tuple (cutD ds lo hi)
  | d => d
def aSlU (ae : AE) (al ah : AO) : AE := fun s A => ae s fun d s1 => al s1 fun lo s2 => ah s2 fun hi s3 => ∃ ds, itemsOf d = some ds ∧ A (sliceD lo hi d) s3
theorem re_slU {te : TE} {tl th : TO} {ae : AE} {al ah : AO} (h1 : RE K Δ te ae) (h2 : RO K Δ tl al) (h3 : RO K Δ th ah) : RE K Δ (tSl (rSlU K) te tl th) (aSlU ae al ah) := by
  intro C B σ H s Q A E h q
  refine h1 C B σ H s _ _ E h fun v d H1 s1 a1 m1 E1 dv1 => h2 C B σ H1 s1 _ _ E1 a1 fun lo H2 s2 a2 m2 E2 => h3 C B σ H2 s2 _ _ E2 a2 fun hi H3 s3 a3 m3 E3 => ?_
  obtain ⟨ds, e, a⟩ := a3
  have dv3 := (dv1.mv (m2.up E2.sub)).mv (m3.up E3.sub)
  have m := (m1.trans m2).trans m3
  rcases items_cases e with z | z
  · subst z
    obtain ⟨p, xs, ev, hp, hB, hd⟩ := dv3.lstI
    subst ev
    refine .inl ⟨p, xs, rfl, SqL.of hp, fun p2 n2 => ?_⟩
    obtain ⟨sm, dv⟩ := new_lst E3 n2 (cutDv hd lo hi)
    exact q _ _ _ s3 a (m.trans (.of_same sm)) (E3.same sm) dv
  · subst z
    obtain ⟨p, xs, ev, hp, hd⟩ := dv3.tupI
    subst ev
    refine .inr ⟨p, xs, rfl, hp, fun hh => ?_, fun _ p2 n2 => ?_⟩
    · rw [hd.len] at hh
      refine q _ _ _ s3 a m E3 ?_
      show Dv K H3 B (.ref p) (.tuple (cutD ds lo hi))
      rw [cutD_all hh.1 hh.2]
      exact dv3
    · obtain ⟨sm, dv⟩ := new_tup n2 (cutDv hd lo hi)
      exact q _ _ _ s3 a (m.trans (.of_same sm)) (E3.same sm) dv
theorem kall {X : Cx} (K : PySem.W.Frag) (hc : X.calm = true) (hK : X.K = K := by rfl) : CallR X (.builtin "all") (rAll K) := by subst hK; exact cr_all hc
theorem kindexM {X : Cx} (K : PySem.W.Frag) (hK : X.K = K := by rfl) : MtR X "list.index" (rIndex K) := by subst hK; exact mt_index
theorem re_ixAO (i : Nat) {c : Int} : RE K Δ (tOp (rIxA K) (tVar i) (tC (.int c))) (aIxO i (aC (.int c))) := by
  intro C B σ H s Q A E h q
  obtain ⟨v, hv, h'⟩ := re_ixO (K := K) (Δ := Δ) i C B σ H s Q A E h q
  exact ⟨v, hv, .inl h'⟩
/-! pairs -/
def pairUp : Nat → List PyData → List PyData → List PyData
  | _, [], _ => []
  | _, _, [] => []
  | n, x :: xs, y :: ys => .tuple [x, y] :: pairUp (n + 1) xs ys
def zipD (xs ys : List PyData) : List PyData := (xs.zip ys).map fun p => .tuple [p.1, p.2]
def enumD (xs : List PyData) : List PyData := (List.range xs.length).map fun i => .tuple [.int (i : Nat), xs.getD i .none]
theorem zipD_len (xs ys : List PyData) : (zipD xs ys).length = min xs.length ys.length := by
  unfold zipD
  rw [List.length_map, List.length_zip]
theorem zipD_get {xs ys : List PyData} {i : Nat} {d : PyData} (h : (zipD xs ys)[i]? = some d) : ∃ x y, xs[i]? = some x ∧ ys[i]? = some y ∧ d = .tuple [x, y] := by
  unfold zipD at h
  rw [List.getElem?_map] at h
  cases e : (xs.zip ys)[i]? with
  | none =>
    rw [e] at h
    cases h
  | some p =>
    rw [e] at h
    cases h
    rw [List.getElem?_zip_eq_some] at e
    exact ⟨p.1, p.2, e.1, e.2, rfl⟩
theorem enumD_get {xs : List PyData} {i : Nat} {d : PyData} (h : (enumD xs)[i]? = some d) : ∃ x, xs[i]? = some x ∧ d = .tuple [.int (i : Nat), x] := by
  unfold enumD at h
  rw [List.getElem?_map] at h
  by_cases hi : i < xs.length
  · rw [List.getElem?_range hi] at h
    cases h
    refine ⟨xs[i], List.getElem?_eq_getElem hi, ?_⟩
    dsimp only
    rw [List.getD_eq_getElem?_getD, List.getElem?_eq_getElem hi]
    rfl
  · rw [List.getElem?_eq_none (by rw [List.length_range]; omega)] at h
    cases h
theorem enumD_len (xs : List PyData) : (enumD xs).length = xs.length := by
  unfold enumD
  rw [List.length_map, List.length_range]
theorem ri_zip {ta : TA} {aa : AA} (ha : RA K Δ ta aa) : RI K Δ (iZip K ta) (fun s A => aa s fun ds s1 => ∃ xs ys, ds = [.list xs, .list ys] ∧ A (zipD xs ys) s1) := by
  intro C B σ H s R A E h q
  refine ha C B σ H s _ _ E h fun vs ds H1 s1 a1 m1 E1 dv1 => ?_
  obtain ⟨xs, ys, e, a⟩ := a1
  subst e
  obtain ⟨v, u, ev, d1, d2⟩ := dv1.two
  obtain ⟨p, us, ep, hp, hB, hd⟩ := d1.lstI
  obtain ⟨p', us', ep', hp', hB', hd'⟩ := d2.lstI
  subst ev ep ep'
  refine ⟨p, p', us, us', rfl, SqL.of hp, SqL.of hp', q _ _ _ _ a m1 E1 fun B' H' g st => ?_⟩
  have q1 : SqL K H' p us := SqL.of (g.mv.kp _ _ hB rfl hp)
  have q2 : SqL K H' p' us' := SqL.of (g.mv.kp _ _ hB' rfl hp')
  have e1 := DvAll.go g _ _ hd
  have e2 := DvAll.go g _ _ hd'
  refine ⟨fun i d hi => ?_, ⟨us, us', q1, q2, ?_⟩⟩
  · obtain ⟨x, y, hx, hy, e⟩ := zipD_get hi
    subst e
    obtain ⟨vx, gx, dx⟩ := e1.gets hx
    obtain ⟨vy, gy, dy⟩ := e2.gets hy
    refine ⟨⟨us, us', vx, vy, q1, q2, gx, gy⟩, fun z H2 yl => ?_⟩
    obtain ⟨T, x', y', ez, nT, eH, f1, f2⟩ := yl
    have := f1 us q1
    rw [gx] at this
    cases this
    have := f2 us' q2
    rw [gy] at this
    cases this
    subst ez eH
    exact new_tup nT (.cons dx (.cons dy .nil))
  · rw [zipD_len, ← hd.len, ← hd'.len]
    omega
theorem ri_enum {ta : TA} {aa : AA} (ha : RA K Δ ta aa) : RI K Δ (iEnum K ta) (fun s A => aa s fun ds s1 => ∃ xs, ds = [.list xs] ∧ A (enumD xs) s1) := by
  intro C B σ H s R A E h q
  refine ha C B σ H s _ _ E h fun vs ds H1 s1 a1 m1 E1 dv1 => ?_
  obtain ⟨xs, e, a⟩ := a1
  subst e
  obtain ⟨v, ev, d1⟩ := dv1.one
  obtain ⟨p, us, ep, hp, hB, hd⟩ := d1.lstI
  subst ev ep
  refine ⟨p, us, rfl, SqL.of hp, q _ _ _ _ a m1 E1 fun B' H' g st => ?_⟩
  have q1 : SqL K H' p us := SqL.of (g.mv.kp _ _ hB rfl hp)
  have e1 := DvAll.go g _ _ hd
  refine ⟨fun i d hi => ?_, ⟨us, q1, ?_⟩⟩
  · obtain ⟨x, hx, e⟩ := enumD_get hi
    subst e
    obtain ⟨vx, gx, dx⟩ := e1.gets hx
    refine ⟨⟨us, vx, q1, gx⟩, fun z H2 yl => ?_⟩
    obtain ⟨T, x', ez, nT, eH, f1⟩ := yl
    have := f1 us q1
    rw [gx] at this
    cases this
    subst ez eH
    exact new_tup nT (.cons (.int _) (.cons dx .nil))
  · rw [enumD_len, ← hd.len]
    exact Nat.le_refl _
end
/-! ### the deck of two lists -/
def ΔD : DK := ⟨false, fun H r as k => ∃ c, as = [r, c] ∧ Deck H r c k, fun {H H' r as k} h e _ => by
  obtain ⟨c, ea, ns, j, h1, h2, h3, h4⟩ := h
  subst ea
  refine ⟨c, rfl, ns, j, h1, ?_, ?_, h4⟩
  · rw [e r List.mem_cons_self]
    exact h2
  · rw [e c (List.mem_cons_of_mem _ List.mem_cons_self)]
    exact h3, fun {H r as k k'} h le => by
  obtain ⟨c, ea, d⟩ := h
  exact ⟨c, ea, d.mono le⟩⟩
theorem mx_keep {w : Bool} {r c : Addr} {H H' : Hp} {k k' : Int} (kp : Keep r c H H') (d : Deck H r c k) (d' : Deck H' r c k') : Mx w [r, c] H H' := by
  refine ⟨.of_keep kp d List.mem_cons_self (List.mem_cons_of_mem _ List.mem_cons_self) fun b hb => ?_, fun _ b o n e => kp b o (fun z => n (by rw [z]; exact List.mem_cons_self)) (fun z => n (by rw [z]; exact List.mem_cons_of_mem _ List.mem_cons_self)) e⟩
  obtain ⟨ns, j, h1, h2, h3, _⟩ := d'
  by_cases e1 : b = r
  · rw [e1, h2]
    intro z
    cases z
  · by_cases e2 : b = c
    · rw [e2, h3]
      intro z
      cases z
    · cases e : H b with
      | none => exact absurd e hb
      | some o =>
        rw [kp b o e1 e2 e]
        intro z
        cases z
theorem deck_stands {r c : Addr} {H : Hp} {k : Int} (d : Deck H r c k) : Stands [r, c] H := by
  intro b hb
  obtain ⟨ns, j, h1, h2, h3, _⟩ := d
  rcases List.mem_cons.mp hb with e | e
  · rw [e, h2]
    intro z
    cases z
  · rw [List.mem_singleton.mp e, h3]
    intro z
    cases z
theorem kbmR {X : Cx} {o e : Expr} {es : List Expr} {to : TE} {t : TA} {name : Str} {apos cpos : Pos} {T id : String} {r : V → List V → Hp → VK → Prop}
    (K : PySem.W.Frag) (pa : PlainAttrs T) (slot : Slot T name id)
    (hty : typeOf (.builtin id) = pure (.type "method_descriptor")) (hm : MtR X id r) (ho : PE X o to) (ha : PA X (e :: es) t)
    (hK : X.K = K := by rfl)
    (hbase : attributeBase o name X.env (eval o X.env) = eval o X.env := by rfl)
    (hfew : ((backTo cpos (starEach (e :: es) X.env)).all (fun x => !x.1) && (backToKw cpos (keywordEach [] X.env)).all (fun x => x.1.isSome)
      && decide ((e :: es).length + ([] : List Keyword).length + (if ([] : List Keyword).isEmpty then 0 else 1) < 30)) = true := by rfl)
    (hline : (apos.endLine == cpos.line) = true := by rfl)
    (hs : starEach (e :: es) X.env = (false, eval e X.env) :: starEach es X.env := by rfl)
    (hplain : (backTo cpos (starEach es X.env)).any (·.1) = false := by rfl) :
    PE X (.Call (.Attribute o name apos) (e :: es) [] cpos) (tBM K T r to t) := by
  subst hK
  exact pe_bm pa slot hty hm ho ha hbase hfew hline hs hplain

/-! ### what the defs promise, by data -/
def tabD (m : Int) (tl : List (Int × Int)) : PyData := tupD ((upto m).map (tgt tl))
def RTargetOf : RP := fun ds A => ∃ (m : PyData) (tl : List (Int × Int)) (p : Int), ds = [m, toolD tl, .int p] ∧ tl ≠ [] ∧ A (.int (tgt tl p))
def RTableOf : RP := fun ds A => ∃ (m : Int) (tl : List (Int × Int)), ds = [.int m, toolD tl] ∧ tl ≠ [] ∧ 1 ≤ m ∧ m ≤ 60 ∧ A (tabD m tl)
def RLTarget : RP := fun ds A => ∃ (m : Int) (tl : List (Int × Int)) (p : Int), ds = [.int m, toolD tl, .int p] ∧ IsTool m tl ∧ 0 ≤ p ∧ p < m ∧ A (.int (tgt tl p))
def RLTable : RP := fun ds A => ∃ (m : Int) (tl : List (Int × Int)), ds = [.int m, toolD tl] ∧ IsTool m tl ∧ 1 ≤ m ∧ m ≤ 60 ∧ A (tabD m tl)
theorem IsTool.ne {m : Int} {tl : List (Int × Int)} (h : IsTool m tl) : tl ≠ [] := fun e => by
  have := h.len1
  rw [e, List.length_nil] at this
  omega
theorem tgtFrom_take {p f : Int} {tl : List (Int × Int)} {i : Nat} {x : Int × Int} (h : tl[i]? = some x) : tgtFrom p f (tl.take (i + 1)) = if x.1 ≤ p then x.2 else tgtFrom p f (tl.take i) := by
  rw [List.take_add_one, h]
  exact tgtFrom_snoc p x _ _
theorem map_get {α β : Type} {f : α → β} {l : List α} {i : Nat} {y : β} (h : (l.map f)[i]? = some y) : ∃ x, l[i]? = some x ∧ y = f x := by
  rw [List.getElem?_map] at h
  cases e : l[i]? with
  | none =>
    rw [e] at h
    cases h
  | some x =>
    rw [e] at h
    cases h
    exact ⟨x, rfl, rfl⟩
theorem last_at {tl : List (Int × Int)} (h : tl ≠ []) : atI (tl.map pairD) (-1) = some (pairD (tl.getLastD (0, 0))) := by
  apply atI_neg1
  rw [List.length_map, List.getElem?_map, getLastD_eq h]
  rfl
def aYes : AT := fun s A => A true s
/-- a comprehension without a test, each item by itself -/
theorem lcI {g : AG} {te : AE} {vs : List Nat} {s1 : AS} {A : PyData → AS → Prop} {xs : List PyData} (f : Nat → PyData) (h5 : xs.length ≤ 100000)
    (he : ∀ i x, xs[i]? = some x → ∀ B : PyData → AS → Prop, (∀ s : AS, s.k = s1.k → B (f i) s) → g x ⟨wipeA s1.env vs, s1.k⟩ fun s2 => te s2 B)
    (ha : A (.list ((List.range xs.length).map f)) s1) : LcB xs s1 g (fun s A => A true s) te vs A := by
  refine ⟨h5, fun i acc k => k = s1.k ∧ acc = (List.range i).map f, ⟨rfl, rfl⟩, fun i x acc k hx h => ?_, fun acc k h => ?_⟩
  · obtain ⟨e1, e2⟩ := h
    subst e1 e2
    refine he i x hx _ fun s hs => ⟨hs, ?_⟩
    rw [List.range_succ, List.map_append]
    rfl
  · obtain ⟨e1, e2⟩ := h
    subst e1 e2
    exact ha
/-- with a test that changes nothing -/
theorem lcT' {g : AG} {tt : AT} {te : AE} {vs : List Nat} {s1 : AS} {A : PyData → AS → Prop} {xs : List PyData} (b : Nat → Bool) (f : Nat → PyData) (h5 : xs.length ≤ 100000)
    (he : ∀ i x, xs[i]? = some x → ∀ (Bt : AS → Prop) (Bf : AS → Prop), (b i = true → ∀ s : AS, s.k = s1.k → Bt s) → (b i = false → ∀ s : AS, s.k = s1.k → Bf s) → ∀ R : PyData → AS → Prop, (∀ s, Bt s → R (f i) s) →
      g x ⟨wipeA s1.env vs, s1.k⟩ fun s2 => tt s2 fun c s3 => if c = true then te s3 R else Bf s3)
    (ha : A (.list (((List.range xs.length).filter b).map f)) s1) : LcB xs s1 g tt te vs A := by
  refine ⟨h5, fun i acc k => k = s1.k ∧ acc = ((List.range i).filter b).map f, ⟨rfl, rfl⟩, fun i x acc k hx h => ?_, fun acc k h => ?_⟩
  · obtain ⟨e1, e2⟩ := h
    subst e1 e2
    refine he i x hx (fun s => b i = true ∧ s.k = s1.k) _ (fun hb s hs => ⟨hb, hs⟩) (fun hb s hs => ⟨hs, ?y⟩) _ (fun s hs => ⟨hs.2, ?x⟩)
    case y => rw [filter_range_succ, if_neg (by rw [hb]; exact Bool.false_ne_true), List.append_nil]
    case x => rw [filter_range_succ, if_pos hs.1]
  · obtain ⟨e1, e2⟩ := h
    subst e1 e2
    exact ha
theorem range_at {β : Type} {f : Nat → β} {n i : Nat} {x : β} (h : ((List.range n).map f)[i]? = some x) : x = f i ∧ i < n := by
  obtain ⟨j, hj, e⟩ := map_get h
  have hi := (List.getElem?_eq_some_iff.mp hj).1
  rw [List.length_range] at hi
  rw [List.getElem?_range hi] at hj
  cases hj
  exact ⟨e, hi⟩
/-- over a range, no test -/
theorem lcRg {n : Nat} {lo : Int} {g : AG} {te : AE} {vs : List Nat} {s1 : AS} {A : PyData → AS → Prop} (f : Nat → PyData) (h5 : n ≤ 100000)
    (he : ∀ i : Nat, i < n → ∀ B : PyData → AS → Prop, (∀ s : AS, s.k = s1.k → B (f i) s) → g (.int (lo + (i : Nat))) ⟨wipeA s1.env vs, s1.k⟩ fun s2 => te s2 B)
    (ha : A (.list ((List.range n).map f)) s1) : LcB ((List.range n).map fun i => PyData.int (lo + (i : Nat))) s1 g (fun s A => A true s) te vs A := by
  have hl : ((List.range n).map fun i => PyData.int (lo + (i : Nat))).length = n := by rw [List.length_map, List.length_range]
  refine lcI f (by rw [hl]; exact h5) (fun i x hx => ?_) (by rw [hl]; exact ha)
  obtain ⟨e, hi⟩ := range_at hx
  subst e
  exact he i hi
/-- over a range, with a test that changes nothing -/
theorem lcRgT {n : Nat} {lo : Int} {g : AG} {tt : AT} {te : AE} {vs : List Nat} {s1 : AS} {A : PyData → AS → Prop} (b : Nat → Bool) (f : Nat → PyData) (h5 : n ≤ 100000)
    (he : ∀ i : Nat, i < n → ∀ (Bt : AS → Prop) (Bf : AS → Prop), (b i = true → ∀ s : AS, s.k = s1.k → Bt s) → (b i = false → ∀ s : AS, s.k = s1.k → Bf s) → ∀ R : PyData → AS → Prop, (∀ s, Bt s → R (f i) s) →
      g (.int (lo + (i : Nat))) ⟨wipeA s1.env vs, s1.k⟩ fun s2 => tt s2 fun c s3 => if c = true then te s3 R else Bf s3)
    (ha : A (.list (((List.range n).filter b).map f)) s1) : LcB ((List.range n).map fun i => PyData.int (lo + (i : Nat))) s1 g tt te vs A := by
  have hl : ((List.range n).map fun i => PyData.int (lo + (i : Nat))).length = n := by rw [List.length_map, List.length_range]
  refine lcT' b f (by rw [hl]; exact h5) (fun i x hx => ?_) (by rw [hl]; exact ha)
  obtain ⟨e, hi⟩ := range_at hx
  subst e
  exact he i hi
theorem upto_data (f : Int → Int) (m : Int) : (List.range m.toNat).map (fun i => PyData.int (f (0 + (i : Nat)))) = ((upto m).map f).map PyData.int := by
  rw [range_upto (fun z => PyData.int (f z)), List.map_map]
  rfl

/-! ### lists of one's own: made side by side, popped -/
section
variable {K : PySem.W.Frag} {Δ : DK}
theorem go_new {B : List Addr} {H : Hp} {p : Addr} {o : HO} (np : H p = none) : Go B H (p :: B) (upd H p o) := ⟨.of_same (same_upd np), fun b hb => by
  rcases List.mem_cons.mp hb with z | z
  · rw [z]
    exact .inr np
  · exact .inl z⟩
def aParE (i j : Nat) (ae : AE) : AStm := fun A s => ae s fun d s1 => A.nx ((s1.put i (.dat d)).put j (.own []))
theorem rs_parE (i j : Nat) {te : TE} {ae : AE} (h1 : RE K Δ te ae) : RS K Δ (tPar i j (tCons te (tCons (tLst tNil) tNil))) (aParE i j ae) := by
  intro C B σ H s D A E h qn qr
  refine h1 C B σ H s _ _ E h fun v d H1 s1 a1 m1 E1 dv => ⟨Nat.zero_le _, fun p np => ?_⟩
  refine ⟨v, .ref p, rfl, qn (p :: B) _ _ _ a1 ((Go.of_mv (m1.up E.sub)).trans (go_new np)) ?_⟩
  exact (E1.put dv).putOwn np .nil
theorem En.putOwn2 {C : Cy} {B : List Addr} {σ : L2.St} {H : Hp} {s : AS} (E : En K Δ C B σ H s) {i j : Nat} {p q : Addr} {us : List V} {ds : List PyData} (np : H p = none) (h : DvAll K H B us ds) (nq : upd H p (.lst us) q = none) :
    En K Δ C (q :: p :: B) ((σ.set i (some (.ref p))).set j (some (.ref q))) (upd (upd H p (.lst us)) q (.lst [])) ((s.put i (.own ds)).put j (.own [])) :=
  (E.putOwn np h).putOwn nq .nil
def aParO (i j : Nat) (a : AS → (Int → Int → AS → Prop) → Prop) : AStm := fun A s => a s fun x y s1 => RgOk x y ∧ A.nx ((s1.put i (.own ((rgD x y).map .int))).put j (.own []))
theorem rs_parO (i j : Nat) {t : L2.St → Hp → (Int → Int → Hp → Prop) → Prop} {a : AS → (Int → Int → AS → Prop) → Prop} (h1 : RRg t a K Δ) : RS K Δ (tPar i j (tCons (tLstRg t) (tCons (tLst tNil) tNil))) (aParO i j a) := by
  intro C B σ H s D A E h qn qr
  refine h1 C B σ H s _ _ E h fun x y H1 s1 a1 m1 E1 => ⟨a1.1, fun p np => ⟨Nat.zero_le _, fun q nq => ?_⟩⟩
  rw [rgV_eq] at nq ⊢
  refine ⟨.ref p, .ref q, rfl, qn (q :: p :: B) _ _ _ a1.2 (((Go.of_mv (m1.up E.sub)).trans (go_new np)).trans (go_new nq)) ?_⟩
  exact E1.putOwn2 np (dvInts _) nq
theorem DvAll.erase : ∀ {H : Hp} {B : List Addr} {vs : List V} {ds : List PyData}, DvAll K H B vs ds → ∀ i : Nat, DvAll K H B (vs.eraseIdx i) (ds.eraseIdx i)
  | _, _, _, _, .nil, _ => .nil
  | _, _, _, _, .cons x r, 0 => r
  | _, _, _, _, .cons x r, i + 1 => .cons x (DvAll.erase r i)
/-- found.append(left.pop(e)) -/
def aPopApp (i j : Nat) (ae : AE) : AStm := fun A s => ∃ ds es, s.env[i]? = some (.own ds) ∧ s.env[j]? = some (.own es) ∧ i ≠ j ∧ ds.length ≤ 100000 ∧ es.length ≤ 100000 ∧ ae s fun d s1 => s1.env = s.env ∧
  ∃ (v : Int) (x : PyData), d = .int v ∧ 0 ≤ v ∧ es[v.toNat]? = some x ∧ A.nx ((s1.put j (.own (es.eraseIdx v.toNat))).put i (.own (ds ++ [x])))
theorem rs_popApp (i j : Nat) {te : TE} {ae : AE} (h1 : RE K Δ te ae) : RS K Δ (tDrop (tBM K "list" rAppend (tVar i) (tCons (tBM K "list" rPopAt (tVar j) (tCons te tNil)) tNil))) (aPopApp i j ae) := by
  intro C B σ H s D A E h qn qr
  obtain ⟨ds, es, hi, hj, hne, hl, hl2, h⟩ := h
  obtain ⟨p, us, hp, hus, hd⟩ := E.ownAt hi
  obtain ⟨p2, us2, hp2, hus2, hd2⟩ := E.ownAt hj
  refine ⟨.ref p, hp, .inl ⟨rfl, us, SqL.of hus⟩, .ref p2, hp2, .inl ⟨rfl, us2, SqL.of hus2⟩, h1 C B σ H s _ _ E h fun v d H1 s1 a1 m1 E1 dv => ?_⟩
  obtain ⟨es1, n, x, ed, n0, hx, a⟩ := a1
  subst ed
  cases dv
  have hi1 : s1.env[i]? = some (.own ds) := by rw [es1]; exact hi
  have hj1 : s1.env[j]? = some (.own es) := by rw [es1]; exact hj
  obtain ⟨q2, vs2, hq2, hvs2, hd2'⟩ := E1.ownAt hj1
  have e2 : q2 = p2 := by
    rw [hp2] at hq2
    exact (V.ref.inj (Option.some.inj (Option.some.inj hq2))).symm
  subst e2
  obtain ⟨y, hy, dy⟩ := hd2'.gets hx
  have hlt := (List.getElem?_eq_some_iff.mp hy).1
  have hlen := hd2'.len
  refine ⟨q2, vs2, n, n.toNat, y, rfl, rfl, hvs2, by omega, by omega, seqIndex_nat n0 (by omega), hy, ?_⟩
  obtain ⟨E2, g2⟩ := E1.grow hj1 hq2 (hd2'.erase n.toNat)
  have hi2 : (s1.put j (.own (es.eraseIdx n.toNat))).env[i]? = some (.own ds) := by
    show (s1.env.set j _)[i]? = _
    rw [List.getElem?_set_ne (fun z => hne z.symm)]
    exact hi1
  obtain ⟨q, vs, hq, hvs, hd'⟩ := E2.ownAt hi2
  have e1 : q = p := by
    rw [hp] at hq
    exact (V.ref.inj (Option.some.inj (Option.some.inj hq))).symm
  subst e1
  refine ⟨q, vs, y, rfl, rfl, hvs, ?_, ?_⟩
  · rw [hd'.len]
    exact Nat.lt_of_le_of_lt hl (by decide)
  · obtain ⟨E3, g3⟩ := E2.grow hi2 hq (hd'.app (.cons (Dv.go g2 _ _ dy) .nil))
    exact qn B σ _ _ a (((Go.of_mv (m1.up E.sub)).trans g2).trans g3) E3
theorem re_sortO (i : Nat) : RE K Δ (tCB (rSortedI K) (tCons (tVar i) tNil)) (fun s A => ∃ ns : List Int, s.env[i]? = some (.own (ns.map .int)) ∧ ∀ ns' : List Int, ns'.Perm ns → ns'.Pairwise (· ≤ ·) → A (.list (ns'.map .int)) s) := by
  intro C B σ H s Q A E h q
  obtain ⟨ns, hs, a⟩ := h
  obtain ⟨p, us, hp, hus, hd⟩ := E.ownAt hs
  rw [hd.ints] at hus
  refine ⟨.ref p, hp, p, ns, rfl, SqL.of hus, fun ns' l h1 h2 nl => ?_⟩
  obtain ⟨sm, dv⟩ := new_lst E nl (dvInts ns')
  exact q _ _ _ _ (a ns' h1 h2) (.of_same sm) (E.same sm) dv
end
/-! ### the deck of two lists, the first of at most 63 -/
def ΔB : DK := ⟨false, fun H r as k => ∃ c, as = [r, c] ∧ Deck H r c k ∧ ∃ ns : List Int, H c = some (.lst (ns.map V.int)) ∧ ns.length ≤ 63, fun {H H' r as k} h e _ => by
  obtain ⟨c, ea, ⟨ns, j, h1, h2, h3, h4⟩, ms, h5, h6⟩ := h
  subst ea
  have ec := e c (List.mem_cons_of_mem _ List.mem_cons_self)
  refine ⟨c, rfl, ⟨ns, j, h1, ?_, ?_, h4⟩, ms, ?_, h6⟩
  · rw [e r List.mem_cons_self]
    exact h2
  · rw [ec]
    exact h3
  · rw [ec]
    exact h5, fun {H r as k k'} h le => by
  obtain ⟨c, ea, d, z⟩ := h
  exact ⟨c, ea, d.mono le, z⟩⟩
theorem ints_inj : ∀ {xs ys : List Int}, xs.map V.int = ys.map V.int → xs = ys
  | [], [], _ => rfl
  | [], _ :: _, h => by cases h
  | _ :: _, [], h => by cases h
  | x :: xs, y :: ys, h => by
    rw [List.map_cons, List.map_cons] at h
    obtain ⟨h1, h2⟩ := List.cons.inj h
    rw [V.int.inj h1, ints_inj h2]
theorem pow4 (x : Int) (h0 : 0 ≤ x) : 0 ≤ x ^ 4 := by
  have h2 : 0 ≤ x * x := Int.mul_nonneg h0 h0
  have h4 : 0 ≤ x * x * x := Int.mul_nonneg h2 h0
  have h5 : 0 ≤ x * x * x * x := Int.mul_nonneg h4 h0
  have e : x ^ 4 = x * x * x * x := by
    rw [Int.pow_succ, Int.pow_succ, Int.pow_succ, Int.pow_succ, Int.pow_zero, Int.one_mul]
  rw [e]
  exact h5
def RDraw : RKd := fun ds k A => ∃ lim : Int, ds = [.int lim] ∧ k ≤ 1000000 ∧ 1 ≤ lim ∧ lim ≤ 1000000000000000 ∧ ∀ v : Int, 0 ≤ v → v < lim → A (.int v) (k + 1)
def RSub : RKd := fun ds k A => ∃ m many : Int, ds = [.int m, .int many] ∧ k + many ≤ 1000000 ∧ 0 ≤ many ∧ many ≤ m ∧ m ≤ 1000 ∧ ∀ xs : List Int, xs.Pairwise (· < ·) → (xs.length : Int) = many → (∀ x ∈ xs, 0 ≤ x ∧ x < m) → A (.list (xs.map .int)) (k + many)
def RCircle : RKd := fun ds k A => ds = [] ∧ k + 2 ≤ 1000000 ∧ ∀ m : Int, 1 ≤ m → m ≤ 60 → A (.int m) (k + 2)
def RTool : RKd := fun ds k A => ∃ m : Int, ds = [.int m] ∧ k + 30 ≤ 1000000 ∧ 1 ≤ m ∧ m ≤ 60 ∧ ∀ tl, IsTool m tl → A (toolD tl) (k + 30)
def spDrawB : Sp := fun vs H Q _ => ∃ (a c : Addr) (k lim : Int), vs = [.ref a, .int lim] ∧ Deck H a c k ∧ (∃ ns : List Int, H c = some (.lst (ns.map V.int)) ∧ ns.length ≤ 63) ∧ k ≤ 1000000 ∧ 1 ≤ lim ∧ lim ≤ 1000000000000000 ∧
  ∀ (v : Int) (H' : Hp), 0 ≤ v → v < lim → Deck H' a c (k + 1) → (∃ ns : List Int, H' c = some (.lst (ns.map V.int)) ∧ ns.length ≤ 63) → Keep a c H H' → Q (.int v) H'
theorem conv_drawB {K : PySem.W.Frag} : ∀ vs H Q E, spK K ΔB RDraw vs H Q E → spDrawB vs H Q E := by
  rintro vs H Q E ⟨r, as, B, vs', ds, k, A, rfl, sub, st, ⟨c, rfl, dk, ms⟩, dv, ⟨lim, rfl, hk, h1, h2, a⟩, q⟩
  obtain ⟨v, ev, d1⟩ := dv.one
  cases d1
  subst ev
  exact ⟨r, c, k, lim, rfl, dk, ms, hk, h1, h2, fun v H' v0 v1 dk' ms' kp => q _ _ _ _ (a v v0 v1) (mx_keep kp dk dk') ⟨c, rfl, dk', ms'⟩ (.int v)⟩
theorem cell_at {ns : List Int} (hn : ∀ n ∈ ns, 0 ≤ n) {t : Int} (h0 : 0 ≤ t) (h1 : t < (if ((ns.map V.int).length : Int) > 1 then ((ns.map V.int).length : Int) else 1)) :
    ∃ cell : Int, atI (ns.map V.int ++ [V.int 0]) t = some (.int cell) ∧ 0 ≤ cell ∧ (10 ^ 18 ≤ cell → t < ns.length) := by
  rw [List.length_map] at h1
  by_cases hl : t.toNat < ns.length
  · refine ⟨ns[t.toNat], atI_pos h0 ?_, hn _ (List.getElem_mem hl), fun _ => by omega⟩
    rw [List.getElem?_append_left (by rw [List.length_map]; exact hl), List.getElem?_map, List.getElem?_eq_getElem hl]
    rfl
  · refine ⟨0, atI_pos h0 ?_, Int.le_refl _, fun z => absurd z (by decide)⟩
    have e : t.toNat = ns.length := by
      split at h1 <;> omega
    rw [List.getElem?_append_right (by rw [List.length_map]; omega), List.length_map, e, Nat.sub_self]
    rfl

/-! ### tools of the laws of maps -/
theorem pickI {xs : List Int} {u : Int} (h0 : 0 ≤ u) (h1 : u < xs.length) : ∃ x, x ∈ xs ∧ atI (xs.map PyData.int) u = some (.int x) := by
  have hl : u.toNat < xs.length := by omega
  refine ⟨xs[u.toNat], List.getElem_mem hl, atI_pos h0 ?_⟩
  rw [List.getElem?_map, List.getElem?_eq_getElem hl]
  rfl
def goodB (m : Int) (i : Nat) : Bool := decide (m % (1 + (i : Nat)) = 0) && decide (m / (1 + (i : Nat)) ≤ 12)
def goods (m : Int) : List Int := ((List.range (m + 1 - 1).toNat).filter (goodB m)).map fun i => 1 + ((i : Nat) : Int)
theorem goods_good {m d : Int} (h : d ∈ goods m) : Good m d := by
  unfold goods at h
  rw [List.mem_map] at h
  obtain ⟨i, hi, e⟩ := h
  rw [List.mem_filter, List.mem_range] at hi
  obtain ⟨h1, h2⟩ := hi
  unfold goodB at h2
  rw [Bool.and_eq_true, decide_eq_true_eq, decide_eq_true_eq] at h2
  subst e
  exact ⟨by omega, by omega, h2.1, by omega⟩
theorem goods_len {m : Int} (h : 1 ≤ m) : 1 ≤ (goods m).length ∧ (goods m).length ≤ m.toNat := by
  constructor
  · have : m ∈ goods m := by
      unfold goods
      rw [List.mem_map]
      refine ⟨(m - 1).toNat, ?_, by omega⟩
      rw [List.mem_filter, List.mem_range]
      refine ⟨by omega, ?_⟩
      unfold goodB
      have e : 1 + (((m - 1).toNat : Nat) : Int) = m := by omega
      rw [e, Int.emod_self, Int.ediv_self (by omega)]
      rfl
    exact List.length_pos_of_mem this
  · unfold goods
    rw [List.length_map]
    refine Nat.le_trans (List.length_filter_le _ _) ?_
    rw [List.length_range]
    omega
theorem goods_data (m : Int) : ((List.range (m + 1 - 1).toNat).filter (goodB m)).map (fun i => PyData.int (1 + ((i : Nat) : Int))) = (goods m).map .int := by
  unfold goods
  rw [List.map_map]
  rfl
theorem raw_swap {d b t f m : Int} {i : Nat} : PyData.tuple [.int (b + (0 + (i : Nat)) * d), .int ((f + t + (0 + (i : Nat)) * d) % m)] = pairD ((i : Nat) * d + b, ((i : Nat) * d + t + f) % m) := by
  rw [Int.zero_add, Int.add_comm b, show f + t + (i : Nat) * d = (i : Nat) * d + t + f by omega]
  rfl

section
variable {K : PySem.W.Frag} {Δ : DK}
theorem kizip {X : Cx} {e e2 : Expr} {ta : TA} {p pos tpos : Pos} {elts : List Expr} {kk : Nat} (K : PySem.W.Frag) (hg : Gl X "zip") (hm : X.mg "zip" = none) (ha : PA X [e, e2] ta) (hK : X.K = K := by rfl)
    (hs : starEach [e, e2] X.env = (false, eval e X.env) :: starEach [e2] X.env := by rfl) (hpl : (backTo pos (starEach [e2] X.env)).any (·.1) = false := by rfl) :
    PI X (.Tuple elts kk tpos) (.Call (.Name "zip" p) [e, e2] [] pos) (iZip K ta) := by
  subst hK
  exact pi_zip hg hm ha hs hpl
theorem kizm {X : Cx} {e e2 : Expr} {ta : TA} {p pos tpos : Pos} {elts : List Expr} {kk : Nat} (K : PySem.W.Frag) (hg : Gl X "zip") (hm : X.mg "zip" = none) (ha : PA X [e, e2] ta) (hK : X.K = K := by rfl)
    (hs : starEach [e, e2] X.env = (false, eval e X.env) :: starEach [e2] X.env := by rfl) (hpl : (backTo pos (starEach [e2] X.env)).any (·.1) = false := by rfl) :
    PI X (.Tuple elts kk tpos) (.Call (.Name "zip" p) [e, e2] [] pos) (iZm K ta) := by
  subst hK
  exact pi_zm hg hm ha hs hpl
theorem kienum {X : Cx} {e : Expr} {ta : TA} {p pos tpos : Pos} {elts : List Expr} {kk : Nat} (K : PySem.W.Frag) (hg : Gl X "enumerate") (hm : X.mg "enumerate" = none) (ha : PA X [e] ta) (hK : X.K = K := by rfl) (hs : starEach [e] X.env = [(false, eval e X.env)] := by rfl) :
    PI X (.Tuple elts kk tpos) (.Call (.Name "enumerate" p) [e] [] pos) (iEnum K ta) := by
  subst hK
  exact pi_enum hg hm ha hs
theorem kienT {X : Cx} {e : Expr} {ta : TA} {p pos tpos : Pos} {elts : List Expr} {kk : Nat} (K : PySem.W.Frag) (hg : Gl X "enumerate") (hm : X.mg "enumerate" = none) (ha : PA X [e] ta) (hK : X.K = K := by rfl) (hs : starEach [e] X.env = [(false, eval e X.env)] := by rfl) :
    PI X (.Tuple elts kk tpos) (.Call (.Name "enumerate" p) [e] [] pos) (iEnT K ta) := by
  subst hK
  exact pi_enT hg hm ha hs
theorem kirevA {X : Cx} {tg : Expr} {e : Expr} {te : TE} {p pos : Pos} (K : PySem.W.Frag) (hg : Gl X "reversed") (hm : X.mg "reversed" = none) (he : PE X e te) (hK : X.K = K := by rfl) (hs : starEach [e] X.env = (false, eval e X.env) :: starEach [] X.env := by rfl) :
    PI X tg (.Call (.Name "reversed" p) [e] [] pos) (RT.iRevA K te) := by
  subst hK
  exact RT.pi_revA hg hm he hs
theorem ri_enT {ta : TA} {aa : AA} (ha : RA K Δ ta aa) : RI K Δ (iEnT K ta) (fun s A => aa s fun ds s1 => ∃ xs, ds = [.tuple xs] ∧ A (enumD xs) s1) := by
  intro C B σ H s R A E h q
  refine ha C B σ H s _ _ E h fun vs ds H1 s1 a1 m1 E1 dv1 => ?_
  obtain ⟨xs, e, a⟩ := a1
  subst e
  obtain ⟨v, ev, d1⟩ := dv1.one
  obtain ⟨p, us, ep, hp, hd⟩ := d1.tupI
  subst ev ep
  refine ⟨p, us, rfl, hp, q _ _ _ _ a m1 E1 fun B' H' g st => ?_⟩
  have q1 : SqT K H' p us := stayT_tup g.mv.st hp
  have e1 := DvAll.go g _ _ hd
  refine ⟨fun i d hi => ?_, ⟨us, q1, ?_⟩⟩
  · obtain ⟨x, hx, e⟩ := enumD_get hi
    subst e
    obtain ⟨vx, gx, dx⟩ := e1.gets hx
    refine ⟨⟨us, vx, q1, gx⟩, fun z H2 yl => ?_⟩
    obtain ⟨T, x', ez, nT, eH, f1⟩ := yl
    have := f1 us q1
    rw [gx] at this
    cases this
    subst ez eH
    exact new_tup nT (.cons (.int _) (.cons dx .nil))
  · rw [enumD_len, ← hd.len]
theorem ri_zm {ta : TA} {aa : AA} (ha : RA K Δ ta aa) : RI K Δ (iZm K ta) (fun s A => aa s fun ds s1 => ∃ xs ys, ds = [.tuple xs, .list ys] ∧ A (zipD xs ys) s1) := by
  intro C B σ H s R A E h q
  refine ha C B σ H s _ _ E h fun vs ds H1 s1 a1 m1 E1 dv1 => ?_
  obtain ⟨xs, ys, e, a⟩ := a1
  subst e
  obtain ⟨v, u, ev, d1, d2⟩ := dv1.two
  obtain ⟨p, us, ep, hp, hd⟩ := d1.tupI
  obtain ⟨p', us', ep', hp', hB', hd'⟩ := d2.lstI
  subst ev ep ep'
  refine ⟨p, p', us, us', rfl, hp, SqL.of hp', q _ _ _ _ a m1 E1 fun B' H' g st => ?_⟩
  have q1 : SqT K H' p us := stayT_tup g.mv.st hp
  have q2 : SqL K H' p' us' := SqL.of (g.mv.kp _ _ hB' rfl hp')
  have e1 := DvAll.go g _ _ hd
  have e2 := DvAll.go g _ _ hd'
  refine ⟨fun i d hi => ?_, ⟨us, us', q1, q2, ?_⟩⟩
  · obtain ⟨x, y, hx, hy, e⟩ := zipD_get hi
    subst e
    obtain ⟨vx, gx, dx⟩ := e1.gets hx
    obtain ⟨vy, gy, dy⟩ := e2.gets hy
    refine ⟨⟨us, us', vx, vy, q1, q2, gx, gy⟩, fun z H2 yl => ?_⟩
    obtain ⟨T, x', y', ez, nT, eH, f1, f2⟩ := yl
    have := f1 us q1
    rw [gx] at this
    cases this
    have := f2 us' q2
    rw [gy] at this
    cases this
    subst ez eH
    exact new_tup nT (.cons dx (.cons dy .nil))
  · rw [zipD_len, ← hd.len, ← hd'.len]
    omega
theorem rev_get {ds : List PyData} {i : Nat} {d : PyData} (h : ds.reverse[i]? = some d) : ds[ds.length - 1 - i]? = some d ∧ i < ds.length := by
  have hi := (List.getElem?_eq_some_iff.mp h).1
  rw [List.length_reverse] at hi
  rw [List.getElem?_reverse hi] at h
  exact ⟨h, hi⟩
theorem ri_revA {te : TE} {ae : AE} (h1 : RE K Δ te ae) : RI K Δ (RT.iRevA K te) (fun s A => ae s fun d s1 => ∃ ds, itemsOf d = some ds ∧ A ds.reverse s1) := by
  intro C B σ H s R A E h q
  refine h1 C B σ H s _ _ E h fun v d H1 s1 a1 m1 E1 dv1 => ?_
  obtain ⟨ds, e, a⟩ := a1
  rcases items_cases e with z | z
  · subst z
    obtain ⟨p, us, ep, hp, hB, hd⟩ := dv1.lstI
    subst ep
    refine ⟨p, us, rfl, .inl ⟨SqL.of hp, q _ _ _ _ a m1 E1 fun B' H' g st => ?_⟩⟩
    have q1 : SqL K H' p us := SqL.of (g.mv.kp _ _ hB rfl hp)
    have e1 := DvAll.go g _ _ hd
    have hl := hd.len
    refine ⟨fun i d hi => ?_, ?_⟩
    · obtain ⟨hx, hlt⟩ := rev_get hi
      obtain ⟨vx, gx, dx⟩ := e1.gets hx
      rw [← hl] at gx
      refine ⟨⟨by omega, us, vx, q1, gx⟩, fun z H2 yl => ?_⟩
      obtain ⟨eH, f⟩ := yl
      subst eH
      have := f us q1
      rw [gx] at this
      cases this
      exact ⟨Same.refl _, dx⟩
    · show us.length ≤ ds.reverse.length
      rw [List.length_reverse, hl]
      exact Nat.le_refl _
  · subst z
    obtain ⟨p, us, ep, hp, hd⟩ := dv1.tupI
    subst ep
    refine ⟨p, us, rfl, .inr ⟨hp, q _ _ _ _ a m1 E1 fun B' H' g st => ?_⟩⟩
    have q1 : SqT K H' p us := stayT_tup g.mv.st hp
    have e1 := DvAll.go g _ _ hd
    have hl := hd.len
    refine ⟨fun i d hi => ?_, ?_⟩
    · obtain ⟨hx, hlt⟩ := rev_get hi
      obtain ⟨vx, gx, dx⟩ := e1.gets hx
      rw [← hl] at gx
      refine ⟨⟨by omega, us, vx, q1, gx⟩, fun z H2 yl => ?_⟩
      obtain ⟨eH, f⟩ := yl
      subst eH
      have := f us q1
      rw [gx] at this
      cases this
      exact ⟨Same.refl _, dx⟩
    · show us.length ≤ ds.reverse.length
      rw [List.length_reverse, hl]
      exact Nat.le_refl _
end

/-! ### comprehensions over what is a list of something -/
theorem filter_take_succ {α β : Type} (b : α → Bool) (f : α → β) {l : List α} {i : Nat} {x : α} (h : l[i]? = some x) :
    ((l.take (i + 1)).filter b).map f = ((l.take i).filter b).map f ++ (if b x = true then [f x] else []) := by
  rw [List.take_add_one, h]
  show (((l.take i) ++ [x]).filter b).map f = _
  rw [List.filter_append, List.map_append]
  congr 1
  by_cases hb : b x = true
  · rw [if_pos hb, List.filter_cons_of_pos hb]
    rfl
  · rw [if_neg hb, List.filter_cons_of_neg hb]
    rfl
theorem lcMap {α : Type} {l : List α} {e : α → PyData} {g : AG} {te : AE} {vs : List Nat} {s1 : AS} {A : PyData → AS → Prop} (f : α → PyData) (h5 : l.length ≤ 100000)
    (he : ∀ x, x ∈ l → ∀ B : PyData → AS → Prop, (∀ s : AS, s.k = s1.k → B (f x) s) → g (e x) ⟨wipeA s1.env vs, s1.k⟩ fun s2 => te s2 B)
    (ha : A (.list (l.map f)) s1) : LcB (l.map e) s1 g (fun s A => A true s) te vs A := by
  refine ⟨by rw [List.length_map]; exact h5, fun i acc k => k = s1.k ∧ acc = (l.take i).map f, ⟨rfl, rfl⟩, fun i x acc k hx h => ?_, fun acc k h => ?_⟩
  · obtain ⟨e1, e2⟩ := h
    subst e1 e2
    obtain ⟨y, hy, ey⟩ := map_get hx
    subst ey
    exact he y (List.mem_of_getElem? hy) _ fun s hs => ⟨hs, (take_map_succ f hy).symm⟩
  · obtain ⟨e1, e2⟩ := h
    rw [List.length_map, List.take_of_length_le (Nat.le_refl _)] at e2
    subst e1 e2
    exact ha
theorem lcMapT {α : Type} {l : List α} {e : α → PyData} {g : AG} {tt : AT} {te : AE} {vs : List Nat} {s1 : AS} {A : PyData → AS → Prop} (b : α → Bool) (f : α → PyData) (h5 : l.length ≤ 100000)
    (he : ∀ x, x ∈ l → ∀ (Bt : AS → Prop) (Bf : AS → Prop), (b x = true → ∀ s : AS, s.k = s1.k → Bt s) → (b x = false → ∀ s : AS, s.k = s1.k → Bf s) → ∀ R : PyData → AS → Prop, (∀ s, Bt s → R (f x) s) →
      g (e x) ⟨wipeA s1.env vs, s1.k⟩ fun s2 => tt s2 fun c s3 => if c = true then te s3 R else Bf s3)
    (ha : A (.list ((l.filter b).map f)) s1) : LcB (l.map e) s1 g tt te vs A := by
  refine ⟨by rw [List.length_map]; exact h5, fun i acc k => k = s1.k ∧ acc = ((l.take i).filter b).map f, ⟨rfl, rfl⟩, fun i x acc k hx h => ?_, fun acc k h => ?_⟩
  · obtain ⟨e1, e2⟩ := h
    subst e1 e2
    obtain ⟨y, hy, ey⟩ := map_get hx
    subst ey
    refine he y (List.mem_of_getElem? hy) (fun s => b y = true ∧ s.k = s1.k) _ (fun hb s hs => ⟨hb, hs⟩) (fun hb s hs => ⟨hs, ?y⟩) _ (fun s hs => ⟨hs.2, ?x⟩)
    case y => rw [filter_take_succ b f hy, if_neg (by rw [hb]; exact Bool.false_ne_true), List.append_nil]
    case x => rw [filter_take_succ b f hy, if_pos hs.1]
  · obtain ⟨e1, e2⟩ := h
    rw [List.length_map, List.take_of_length_le (Nat.le_refl _)] at e2
    subst e1 e2
    exact ha
/-! ### back to a begin -/
open Classical in
noncomputable def msr (tl : List (Int × Int)) (m p : Int) : Nat := (if ∃ x ∈ tl, x.1 ≤ p then p else p + m + 1).toNat
open Classical in
theorem msr_lt {m p : Int} {tl : List (Int × Int)} (hT : IsTool m tl) (h0 : 0 ≤ p) (h1 : p < m) (nb : ∀ x ∈ tl, x.1 ≠ p) : msr tl m ((p - 1) % m) < msr tl m p := by
  have hl := hT.ne
  unfold msr
  have b0 : 0 ≤ (p - 1) % m := Int.emod_nonneg _ (by omega)
  have b1 : (p - 1) % m < m := Int.emod_lt_of_pos _ (by omega)
  have key : (if ∃ x ∈ tl, x.1 ≤ (p - 1) % m then (p - 1) % m else (p - 1) % m + m + 1) < (if ∃ x ∈ tl, x.1 ≤ p then p else p + m + 1) := by
    by_cases hp : p = 0
    · subst hp
      rw [back_zero (by omega)]
      have x1 : ∃ x ∈ tl, x.1 ≤ m - 1 := by
        obtain ⟨x, hx⟩ := List.exists_mem_of_ne_nil tl hl
        exact ⟨x, hx, by have := (hT.rng x hx).1; omega⟩
      have x2 : ¬ ∃ x ∈ tl, x.1 ≤ 0 := by
        intro ⟨x, hx, hx0⟩
        have := (hT.rng x hx).1
        have := nb x hx
        omega
      rw [if_pos x1, if_neg x2]
      omega
    · rw [back_lt (by omega) h1]
      have iff1 : (∃ x ∈ tl, x.1 ≤ p - 1) ↔ ∃ x ∈ tl, x.1 ≤ p := by
        constructor
        · intro ⟨x, hx, hx0⟩
          exact ⟨x, hx, by omega⟩
        · intro ⟨x, hx, hx0⟩
          exact ⟨x, hx, by have := nb x hx; omega⟩
      by_cases z : ∃ x ∈ tl, x.1 ≤ p
      · rw [if_pos z, if_pos (iff1.mpr z)]
        omega
      · rw [if_neg z, if_neg fun y => z (iff1.mp y)]
        omega
  have nn : 0 ≤ (if ∃ x ∈ tl, x.1 ≤ (p - 1) % m then (p - 1) % m else (p - 1) % m + m + 1) := by split <;> omega
  omega
/-- the first of the pairs with that begin -/
theorem find_begin {m p : Int} {tl : List (Int × Int)} (hT : IsTool m tl) (h : p ∈ tl.map (·.1)) : ∃ (j : Nat) (bt : Int × Int), tl[j]? = some bt ∧ bt.1 = p ∧ (tl.map (·.1))[j]? = some p ∧ (∀ i : Nat, i < j → (tl.map (·.1))[i]? ≠ some p) ∧ bt.2 = tgt tl p := by
  rw [List.mem_map] at h
  obtain ⟨bt, hb, e⟩ := h
  obtain ⟨j, hj⟩ := List.getElem?_of_mem hb
  refine ⟨j, bt, hj, e, by rw [List.getElem?_map, hj]; exact congrArg some e, fun i hi z => ?_, ?_⟩
  · obtain ⟨x, hx, ex⟩ := map_get z
    obtain ⟨l1, e1⟩ := List.getElem?_eq_some_iff.mp hx
    obtain ⟨l2, e2⟩ := List.getElem?_eq_some_iff.mp hj
    have := List.pairwise_iff_getElem.mp hT.asc i j l1 l2 hi
    rw [e1, e2] at this
    omega
  · exact (tgtFrom_hit tl _ hT.asc (by rw [← e]; exact hb)).symm
/-! ### the law -/
def spDk (K : PySem.W.Frag) (Δ : DK) : Sp := fun vs H Q _ => ∃ (s : Addr) (ns : List Int), vs = [.ref s] ∧ SqL K H s (ns.map V.int) ∧ ns.length ≤ 63 ∧
  ∀ (a : Addr) (as : List Addr) (H' : Hp), Δ.P H' a as 0 → Stands as H' → Q (.ref a) H'
def spLaw (K : PySem.W.Frag) : Sp := fun vs H Q _ => ∃ (s : Addr) (ns : List Int), vs = [.ref s] ∧ SqL K H s (ns.map V.int) ∧ ns.length ≤ 63 ∧ ∀ H', Q (.bl true) H'
theorem goLaw {K : PySem.W.Frag} {Δ : DK} {u : TS} {a : AStm} {N : List Str} {i n : Nat} {vs : List V} {H : Hp} {Q : VK} {E : XK} (h : spLaw K vs H Q E) (rs : RS K Δ u a) (hN : N.length = n) (hi : i < n)
    (hb : a ⟨fun _ => False, fun d _ => d = .bool true⟩ ⟨(List.replicate n Sl.free).set i .deck, some 0⟩) :
    tSeq (tAsg (tCall (spDk K Δ) [] E0 (tCons (tVar 0) tNil)) (gName i)) u { nx := fun _ H' => Q .non H', rt := Q } (L2.start N vs) H := by
  obtain ⟨x, ns, e, hS, hl, q⟩ := h
  subst e
  refine ⟨.ref x, rfl, x, ns, rfl, hS, hl, fun r as H1 dk st => ?_⟩
  have hlen : ((L2.start N [V.ref x]).set i (some (V.ref r))).length = n := by
    rw [List.length_set]
    show ([some (V.ref x)] ++ List.replicate (N.length - 1) none).length = n
    rw [List.length_append, List.length_replicate, List.length_singleton]
    omega
  exact goL rs (List.getElem?_set_self (by rw [List.length_set] at hlen; rw [hlen]; exact hi)) hlen st dk (fun H' => q H') hb
theorem neat_ints {ns : List Int} (hl : ns.length ≤ 2000) (h : ∀ n ∈ ns, n.natAbs < 10 ^ 40) : Neat (tupD ns) 3900000 1 := (tupD_fine hl fun n hn => small_int (h n hn)).neat
theorem neat_two {d e : PyData} {n m : Nat} (h1 : Neat d n m) (h2 : Neat e n m) (hn : n ≤ 7000000) (hm : m ≤ 50) : Neat (.list [d, e]) 16000000 60 := by
  have f : Neat (.list [d, e]) (2 * (n + 2) + 2) (m + 1) := neat_list (ds := [d, e]) fun x hx => by
    rcases List.mem_cons.mp hx with z | z
    · rw [z]
      exact h1
    · rw [List.mem_singleton.mp z]
      exact h2
  exact f.mono (by omega) (by omega)
theorem tab_neat {m : Int} {tl : List (Int × Int)} (it : IsTool m tl) (hm : m ≤ 60) : Neat (tabD m tl) 3900000 1 := by
  refine neat_ints (by rw [List.length_map, upto_len]; omega) fun n hn => ?_
  rw [List.mem_map] at hn
  obtain ⟨z, _, e⟩ := hn
  subst e
  have := tgt_rng it z
  omega
theorem tool_neat {m : Int} {tl : List (Int × Int)} (it : IsTool m tl) (hm : m ≤ 60) : Neat (toolD tl) 16000000 60 := (tool_fine it hm).neat.mono (by decide) (by decide)
theorem ifNe {α : Type} [DecidableEq α] {x y : α} (h : x = y) {A B : Prop} (b : B) : if (true ^^ decide (x = y)) = true then A else B := by
  rw [decide_eq_true h]
  exact b
theorem ifEq {α : Type} [DecidableEq α] {x y : α} (h : x = y) {A B : Prop} (b : A) : if (false ^^ decide (x = y)) = true then A else B := by
  rw [decide_eq_true h]
  exact b
theorem ne2 {d e : PyData} {s : AS} {A : PyData → AS → Prop} {x y : Str} (h1 : d = .str x) (h2 : e = .str y) (a : A (.bool (true ^^ decide (x = y))) s) : aEq true d e s A := .inr (.inl ⟨x, y, h1, h2, a⟩)
theorem eq2 {d e : PyData} {s : AS} {A : PyData → AS → Prop} {x y : Str} (h1 : d = .str x) (h2 : e = .str y) (a : A (.bool (false ^^ decide (x = y))) s) : aEq false d e s A := .inr (.inl ⟨x, y, h1, h2, a⟩)
theorem len_ok {ds : List PyData} (h : Nat.ble ds.length 1000 = true) : ds.length ≤ 1000 := Nat.le_of_ble_eq_true h
theorem is_tool1 : IsTool 1 [(0, 0)] := tool_of_one (by decide) (by decide)
theorem eqT {x y : Str} (h : x = y) : PyData.bool (false ^^ decide (x = y)) = .bool true := by
  rw [decide_eq_true h]
  rfl

/-! ### periods -/
theorem upto_dataB (g : Int → Bool) (m : Int) : (List.range m.toNat).map (fun i => PyData.bool (g (0 + (i : Nat)))) = ((upto m).map g).map PyData.bool := by
  rw [range_upto (fun z => PyData.bool (g z)), List.map_map]
  rfl
theorem upto_at {m j : Int} (f : Int → Int) (h0 : 0 ≤ j) (h1 : j < m) : atI (((upto m).map f).map PyData.int) j = some (.int (f j)) := by
  refine atI_pos h0 ?_
  unfold upto
  rw [List.getElem?_map, List.getElem?_map, List.getElem?_map, List.getElem?_range (by omega)]
  show some (PyData.int (f ((j.toNat : Nat) : Int))) = _
  rw [show ((j.toNat : Nat) : Int) = j by omega]
def repF (m : Int) (f : Int → Int) (d : Int) : Bool := (upto m).all fun x => decide (f ((x + d) % m) = (f x + d) % m)
def perB (m : Int) (f : Int → Int) (i : Nat) : Bool := decide (m % (1 + (i : Nat)) = 0) && repF m f (1 + (i : Nat))
def perL (m : Int) (f : Int → Int) : List Int := ((List.range (m + 1 - 1).toNat).filter (perB m f)).map fun i => 1 + ((i : Nat) : Int)
def perOf (m : Int) (f : Int → Int) : Int := (perL m f).headD 0
theorem perL_data (m : Int) (f : Int → Int) : ((List.range (m + 1 - 1).toNat).filter (perB m f)).map (fun i => PyData.int (1 + ((i : Nat) : Int))) = (perL m f).map .int := by
  unfold perL
  rw [List.map_map]
  rfl
theorem repF_self {m : Int} {f : Int → Int} (hf : ∀ x, 0 ≤ x → x < m → 0 ≤ f x ∧ f x < m) : repF m f m = true := by
  unfold repF
  rw [List.all_eq_true]
  intro x hx
  obtain ⟨h0, h1⟩ := upto_mem.mp hx
  have := hf x h0 h1
  rw [decide_eq_true_eq, Int.add_emod_right, Int.add_emod_right, Int.emod_eq_of_lt h0 h1, Int.emod_eq_of_lt this.1 this.2]
theorem mem_perL {m d : Int} {f : Int → Int} : d ∈ perL m f ↔ 1 ≤ d ∧ d ≤ m ∧ m % d = 0 ∧ repF m f d = true := by
  unfold perL
  rw [List.mem_map]
  constructor
  · intro ⟨i, hi, e⟩
    rw [List.mem_filter, List.mem_range] at hi
    obtain ⟨h1, h2⟩ := hi
    unfold perB at h2
    rw [Bool.and_eq_true, decide_eq_true_eq] at h2
    subst e
    exact ⟨by omega, by omega, h2.1, h2.2⟩
  · intro ⟨h1, h2, h3, h4⟩
    refine ⟨(d - 1).toNat, ?_, by omega⟩
    have e : 1 + (((d - 1).toNat : Nat) : Int) = d := by omega
    rw [List.mem_filter, List.mem_range]
    refine ⟨by omega, ?_⟩
    unfold perB
    rw [e, decide_eq_true h3, h4]
    rfl
theorem perL_asc (m : Int) (f : Int → Int) : (perL m f).Pairwise (· < ·) := by
  unfold perL
  rw [List.pairwise_map]
  refine (List.Pairwise.filter _ List.pairwise_lt_range).imp fun {a b} h => ?_
  omega
theorem perL_ne {m : Int} {f : Int → Int} (hm : 1 ≤ m) (hf : ∀ x, 0 ≤ x → x < m → 0 ≤ f x ∧ f x < m) : m ∈ perL m f :=
  mem_perL.mpr ⟨hm, Int.le_refl _, Int.emod_self, repF_self hf⟩
theorem perL_len (m : Int) (f : Int → Int) : (perL m f).length ≤ (m + 1 - 1).toNat := by
  unfold perL
  rw [List.length_map]
  refine Nat.le_trans (List.length_filter_le _ _) ?_
  rw [List.length_range]
  exact Nat.le_refl _
theorem perL_cons {m : Int} {f : Int → Int} (hm : 1 ≤ m) (hf : ∀ x, 0 ≤ x → x < m → 0 ≤ f x ∧ f x < m) : ∃ r, perL m f = perOf m f :: r := by
  have h := perL_ne hm hf
  unfold perOf
  cases e : perL m f with
  | nil =>
    rw [e] at h
    cases h
  | cons x r => exact ⟨r, rfl⟩
theorem per_min {m p : Int} {f : Int → Int} (h1 : p ∈ perL m f) (h2 : ∀ y ∈ perL m f, p ≤ y) : p = perOf m f := by
  have asc := perL_asc m f
  unfold perOf
  cases e : perL m f with
  | nil =>
    rw [e] at h1
    cases h1
  | cons x r =>
    rw [e] at h1 h2 asc
    show p = x
    rcases List.mem_cons.mp h1 with z | z
    · exact z
    · have a1 := (List.pairwise_cons.mp asc).1 p z
      have a2 := h2 x List.mem_cons_self
      omega
theorem perOf_spec {m : Int} {f : Int → Int} (hm : 1 ≤ m) (hf : ∀ x, 0 ≤ x → x < m → 0 ≤ f x ∧ f x < m) : 1 ≤ perOf m f ∧ perOf m f ≤ m ∧ m % perOf m f = 0 ∧ repF m f (perOf m f) = true := by
  obtain ⟨r, e⟩ := perL_cons hm hf
  exact mem_perL.mp (by rw [e]; exact List.mem_cons_self)
def RRep : RP := fun ds A => ∃ (m : Int) (tl : List (Int × Int)) (d : Int), ds = [.int m, toolD tl, .int d] ∧ tl ≠ [] ∧ 1 ≤ m ∧ m ≤ 60 ∧ A (.bool (repF m (tgt tl) d))
def RPer : RP := fun ds A => ∃ (m : Int) (tl : List (Int × Int)), ds = [.int m, toolD tl] ∧ IsTool m tl ∧ 1 ≤ m ∧ m ≤ 60 ∧ A (.int (perOf m (tgt tl)))
def RLRep : RP := fun ds A => ∃ (m : Int) (f : Int → Int) (d : Int), ds = [tupD ((upto m).map f), .int d] ∧ 1 ≤ m ∧ m ≤ 60 ∧ A (.bool (repF m f d))
def RLPer : RP := fun ds A => ∃ (m : Int) (f : Int → Int), ds = [tupD ((upto m).map f)] ∧ 1 ≤ m ∧ m ≤ 60 ∧ (∀ x, 0 ≤ x → x < m → 0 ≤ f x ∧ f x < m) ∧ A (.int (perOf m f))
theorem tup_len {m : Int} (f : Int → Int) (hm : 0 ≤ m) : (((((upto m).map f).map PyData.int).length : Nat) : Int) = m := by
  rw [List.length_map, List.length_map, upto_len]
  omega
theorem empty_filter {α β : Type} (l : List α) (b : α → Bool) (f : α → β) : ((l.filter b).map f = []) ↔ (l.all fun x => !b x) = true := by
  rw [List.map_eq_nil_iff, List.filter_eq_nil_iff, List.all_eq_true]
  constructor
  · intro h x hx
    have := h x hx
    rw [Bool.not_eq_true] at this
    rw [this]
    rfl
  · intro h x hx z
    have := h x hx
    rw [z] at this
    cases this

theorem shaped_flat : ∀ ns : List Int, PyData.canLayAll0 (ns.map PyData.int) = true ∧ PyData.depthAll (ns.map PyData.int) = 0
  | [] => ⟨rfl, rfl⟩
  | n :: r => by
    obtain ⟨h1, h2⟩ := shaped_flat r
    constructor
    · show ((PyData.int n).canLay0 && PyData.canLayAll0 (r.map PyData.int)) = true
      rw [h1]
      rfl
    · show max (PyData.int n).depth (PyData.depthAll (r.map PyData.int)) = 0
      rw [h2]
      rfl
theorem shaped_ints {ns : List Int} : SeqAt.shaped (.list (ns.map PyData.int)) = true := by
  obtain ⟨h1, h2⟩ := shaped_flat ns
  unfold SeqAt.shaped
  rw [show (PyData.list (ns.map PyData.int)).canLay0 = PyData.canLayAll0 (ns.map PyData.int) from rfl, h1, show (PyData.list (ns.map PyData.int)).depth = PyData.depthAll (ns.map PyData.int) + 1 from rfl, h2]
  rfl
theorem eqv_nil (l : List PyData) : PyData.eqv (.list l) (.list []) = l.isEmpty := by
  cases l <;> rfl
theorem empty_rep (m : Int) (f : Int → Int) (d : Int) : (((List.range m.toNat).filter fun i => !decide (f ((0 + (i : Nat) + d) % m) = (f (0 + (i : Nat)) + d) % m)).map fun i => PyData.int (0 + (i : Nat))).isEmpty = repF m f d := by
  unfold repF
  have e : (upto m).all (fun x => decide (f ((x + d) % m) = (f x + d) % m)) = (List.range m.toNat).all fun i => decide (f ((0 + (i : Nat) + d) % m) = (f (0 + (i : Nat)) + d) % m) := by
    unfold upto
    rw [List.all_map]
    congr 1
    funext i
    show decide _ = decide _
    rw [Int.zero_add]
  rw [e]
  have key := empty_filter (List.range m.toNat) (fun i => !decide (f ((0 + (i : Nat) + d) % m) = (f (0 + (i : Nat)) + d) % m)) (fun i => PyData.int (0 + (i : Nat)))
  have e2 : ((List.range m.toNat).all fun i => !!decide (f ((0 + (i : Nat) + d) % m) = (f (0 + (i : Nat)) + d) % m)) = (List.range m.toNat).all fun i => decide (f ((0 + (i : Nat) + d) % m) = (f (0 + (i : Nat)) + d) % m) := by
    congr 1
    funext i
    rw [Bool.not_not]
  rw [e2] at key
  cases h : (List.range m.toNat).all fun i => decide (f ((0 + (i : Nat) + d) % m) = (f (0 + (i : Nat)) + d) % m) with
  | true =>
    rw [key.mpr h]
    rfl
  | false =>
    cases h2 : ((List.range m.toNat).filter fun i => !decide (f ((0 + (i : Nat) + d) % m) = (f (0 + (i : Nat)) + d) % m)).map fun i => PyData.int (0 + (i : Nat)) with
    | nil =>
      rw [key.mp h2] at h
      cases h
    | cons => rfl
theorem rangeI (l : List Nat) : (l.map fun i => PyData.int (0 + (i : Nat))) = (l.map fun i => (0 : Int) + (i : Nat)).map PyData.int := by
  rw [List.map_map]
  rfl

/-! ### tools drawn one after another, common periods -/
theorem lcDraws {α : Type} {n : Nat} {lo : Int} {g : AG} {te : AE} {vs : List Nat} {s1 : AS} {A : PyData → AS → Prop} (e : α → PyData) (P : α → Prop) (k c : Int) (hk : s1.k = some k) (h5 : n ≤ 100000)
    (he : ∀ i : Nat, i < n → ∀ k' : Int, k' ≤ k + c * i → ∀ B : PyData → AS → Prop, (∀ x, P x → ∀ s : AS, (∃ k'', s.k = some k'' ∧ k'' ≤ k' + c) → B (e x) s) → g (.int (lo + (i : Nat))) ⟨wipeA s1.env vs, some k'⟩ fun s2 => te s2 B)
    (ha : ∀ (xs : List α) (k' : Int), xs.length = n → (∀ x ∈ xs, P x) → k' ≤ k + c * n → A (.list (xs.map e)) ⟨s1.env, some k'⟩) : LcB ((List.range n).map fun i => PyData.int (lo + (i : Nat))) s1 g (fun s A => A true s) te vs A := by
  refine ⟨by rw [List.length_map, List.length_range]; exact h5, fun i acc kk => ∃ (xs : List α) (k' : Int), acc = xs.map e ∧ kk = some k' ∧ xs.length = i ∧ (∀ x ∈ xs, P x) ∧ k' ≤ k + c * i, ?_, fun i x acc kk hx h => ?_, fun acc kk h => ?_⟩
  · refine ⟨[], k, rfl, hk, rfl, fun x hx => (List.not_mem_nil hx).elim, ?_⟩
    rw [show ((0 : Nat) : Int) = 0 from rfl, Int.mul_zero, Int.add_zero]
    exact Int.le_refl _
  · obtain ⟨xs, k', e1, e2, hl, hp, hb⟩ := h
    subst e1 e2
    obtain ⟨ex, hi⟩ := range_at hx
    subst ex
    refine he i hi k' hb _ fun y hy s hs => ?_
    obtain ⟨k'', h1, h2⟩ := hs
    refine ⟨xs ++ [y], k'', by rw [List.map_append]; rfl, h1, by rw [List.length_append, hl]; rfl, fun z hz => ?_, ?_⟩
    · rcases List.mem_append.mp hz with q | q
      · exact hp z q
      · rw [List.mem_singleton.mp q]
        exact hy
    · rw [Int.natCast_add, Int.mul_add, show c * ((1 : Nat) : Int) = c from Int.mul_one c]
      omega
  · obtain ⟨xs, k', e1, e2, hl, hp, hb⟩ := h
    rw [List.length_map, List.length_range] at hl hb
    subst e1 e2
    exact ha xs k' hl hp hb
theorem krevT {X : Cx} (K : PySem.W.Frag) {e : Expr} {te : TE} {k : Nat} {p1 p2 p3 pos : Pos} (he : PE X e te) (hK : X.K = K := by rfl) :
    PE X (.Subscript e (.Slice none none (some (.UnaryOp .USub (.Constant (.int 1) k p1) p2)) p3) pos) (tRevT K te) := by
  subst hK
  exact pe_revT he
theorem kcatB {X : Cx} (K : PySem.W.Frag) (hK : X.K = K := by rfl) : OpR X (binaryOp .Add) (rCatA K) := by
  subst hK
  exact op_catA
theorem pick2 {u : Int} (h0 : 0 ≤ u) (h1 : u < 2) (x y : PyData) : ∃ z, atI [x, y] u = some z ∧ (z = x ∨ z = y) := by
  have : u = 0 ∨ u = 1 := by omega
  rcases this with e | e
  · exact ⟨x, by rw [e]; rfl, .inl rfl⟩
  · exact ⟨y, by rw [e]; rfl, .inr rfl⟩
theorem cutD_to (xs : List PyData) (k : Nat) : cutD xs none (some (k : Int)) = xs.take k := by
  unfold cutD
  rw [HT.sIx_nat, HT.sIx_none, List.drop_zero, Nat.sub_zero]
  by_cases h : k ≤ xs.length
  · rw [Nat.min_eq_left h]
  · rw [Nat.min_eq_right (by omega), List.take_of_length_le (Nat.le_refl _), List.take_of_length_le (by omega)]
theorem cutD_from (xs : List PyData) (k : Nat) : cutD xs (some (k : Int)) none = xs.drop k := by
  unfold cutD
  rw [HT.sIx_nat, HT.sIx_none]
  by_cases h : k ≤ xs.length
  · rw [Nat.min_eq_left h]
    exact List.take_of_length_le (by rw [List.length_drop]; exact Nat.le_refl _)
  · rw [Nat.min_eq_right (by omega), Nat.sub_self, List.take_zero, List.drop_eq_nil_of_le (by omega)]
/-- the least common multiple of all -/
def lcmN (ps : List Nat) : Nat := ps.foldl Nat.lcm 1
theorem foldl_lcm : ∀ (ps : List Nat) (c : Nat), (c ∣ ps.foldl Nat.lcm c) ∧ (∀ p ∈ ps, p ∣ ps.foldl Nat.lcm c) ∧ ∀ x, c ∣ x → (∀ p ∈ ps, p ∣ x) → ps.foldl Nat.lcm c ∣ x
  | [], c => ⟨Nat.dvd_refl _, fun p h => (List.not_mem_nil h).elim, fun x h _ => h⟩
  | p :: ps, c => by
    obtain ⟨h1, h2, h3⟩ := foldl_lcm ps (Nat.lcm c p)
    refine ⟨Nat.dvd_trans (Nat.dvd_lcm_left c p) h1, fun q hq => ?_, fun x hx hp => ?_⟩
    · rcases List.mem_cons.mp hq with e | e
      · rw [e]
        exact Nat.dvd_trans (Nat.dvd_lcm_right c p) h1
      · exact h2 q e
    · exact h3 x (Nat.lcm_dvd hx (hp p List.mem_cons_self)) fun q hq => hp q (List.mem_cons_of_mem _ hq)
theorem lcmN_dvd {ps : List Nat} {p : Nat} (h : p ∈ ps) : p ∣ lcmN ps := (foldl_lcm ps 1).2.1 p h
theorem dvd_lcmN {ps : List Nat} {x : Nat} (h : ∀ p ∈ ps, p ∣ x) : lcmN ps ∣ x := (foldl_lcm ps 1).2.2 x (Nat.one_dvd _) h
theorem lcmN_congr {ps qs : List Nat} (h : ∀ p, p ∈ ps ↔ p ∈ qs) : lcmN ps = lcmN qs :=
  Nat.dvd_antisymm (dvd_lcmN fun p hp => lcmN_dvd ((h p).mp hp)) (dvd_lcmN fun p hp => lcmN_dvd ((h p).mpr hp))
theorem lcmN_snoc (ps : List Nat) (p : Nat) : lcmN (ps ++ [p]) = Nat.lcm (lcmN ps) p := by
  unfold lcmN
  rw [List.foldl_append]
  rfl
theorem lcmN_pos {ps : List Nat} (h : ∀ p ∈ ps, 0 < p) : 0 < lcmN ps := by
  have : ∀ (ps : List Nat) (c : Nat), 0 < c → (∀ p ∈ ps, 0 < p) → 0 < ps.foldl Nat.lcm c := by
    intro ps
    induction ps with
    | nil => exact fun c hc _ => hc
    | cons p ps ih => exact fun c hc hp => ih _ (Nat.lcm_pos hc (hp p List.mem_cons_self)) fun q hq => hp q (List.mem_cons_of_mem _ hq)
  exact this ps 1 Nat.one_pos h
def perN (m : Int) (tl : List (Int × Int)) : Nat := (perOf m (tgt tl)).toNat
def comP (m : Int) (tls : List (List (Int × Int))) : Nat := lcmN (tls.map (perN m))
theorem perN_spec {m : Int} {tl : List (Int × Int)} (hm : 1 ≤ m) (it : IsTool m tl) : ((perN m tl : Nat) : Int) = perOf m (tgt tl) ∧ 0 < perN m tl ∧ perN m tl ∣ m.toNat := by
  obtain ⟨h1, h2, h3, h4⟩ := perOf_spec hm (f := tgt tl) fun x _ _ => tgt_rng it x
  have e : ((perN m tl : Nat) : Int) = perOf m (tgt tl) := by
    unfold perN
    omega
  refine ⟨e, by omega, ?_⟩
  apply Nat.dvd_of_mod_eq_zero
  have h5 : ((m.toNat % perN m tl : Nat) : Int) = 0 := by
    rw [Int.natCast_emod, e, show ((m.toNat : Nat) : Int) = m by omega]
    exact h3
  omega
theorem comP_dvd {m : Int} {tls : List (List (Int × Int))} (hm : 1 ≤ m) (its : ∀ t ∈ tls, IsTool m t) : comP m tls ∣ m.toNat := by
  refine dvd_lcmN fun p hp => ?_
  rw [List.mem_map] at hp
  obtain ⟨t, ht, e⟩ := hp
  subst e
  exact (perN_spec hm (its t ht)).2.2
theorem comP_pos {m : Int} {tls : List (List (Int × Int))} (hm : 1 ≤ m) (its : ∀ t ∈ tls, IsTool m t) : 0 < comP m tls := by
  refine lcmN_pos fun p hp => ?_
  rw [List.mem_map] at hp
  obtain ⟨t, ht, e⟩ := hp
  subst e
  exact (perN_spec hm (its t ht)).2.1
def RGcd : RP := fun ds A => ∃ a b : Nat, ds = [.int a, .int b] ∧ A (.int (Nat.gcd a b))
def RCom : RP := fun ds A => ∃ (m : Int) (tls : List (List (Int × Int))), ds = [.int m, toolsD tls] ∧ (∀ t ∈ tls, IsTool m t) ∧ 1 ≤ m ∧ m ≤ 60 ∧ A (.int (comP m tls))
theorem modI (a b : Nat) : ((a : Int) % (b : Int)) = ((a % b : Nat) : Int) := (Int.natCast_emod a b).symm

/-! ### counting twice -/
def sumN (f : Nat → Nat) : Nat → Nat
  | 0 => 0
  | n + 1 => sumN f n + f n
theorem sumN_zero : ∀ n : Nat, sumN (fun _ => 0) n = 0
  | 0 => rfl
  | n + 1 => by
    show sumN (fun _ => 0) n + 0 = 0
    rw [sumN_zero n]
theorem sumN_add (f g : Nat → Nat) : ∀ n : Nat, sumN (fun i => f i + g i) n = sumN f n + sumN g n
  | 0 => rfl
  | n + 1 => by
    show sumN (fun i => f i + g i) n + (f n + g n) = (sumN f n + f n) + (sumN g n + g n)
    rw [sumN_add f g n]
    omega
theorem sumN_comm (a : Nat → Nat → Nat) (k : Nat) : ∀ n : Nat, sumN (fun i => sumN (fun j => a i j) k) n = sumN (fun j => sumN (fun i => a i j) n) k
  | 0 => (sumN_zero k).symm
  | n + 1 => by
    show sumN (fun i => sumN (fun j => a i j) k) n + sumN (fun j => a n j) k = sumN (fun j => sumN (fun i => a i j) n + a n j) k
    rw [sumN_comm a k n, sumN_add]
theorem sumN_congr {f g : Nat → Nat} : ∀ n : Nat, (∀ i, i < n → f i = g i) → sumN f n = sumN g n
  | 0, _ => rfl
  | n + 1, h => by
    show sumN f n + f n = sumN g n + g n
    rw [sumN_congr n fun i hi => h i (by omega), h n (by omega)]
theorem sumN_const (c : Nat) : ∀ n : Nat, sumN (fun _ => c) n = n * c
  | 0 => by simp [sumN]
  | n + 1 => by
    show sumN (fun _ => c) n + c = (n + 1) * c
    rw [sumN_const c n, Nat.add_mul, Nat.one_mul]
theorem sumN_le {f : Nat → Nat} {c : Nat} : ∀ n : Nat, (∀ i, i < n → f i ≤ c) → sumN f n ≤ n * c
  | 0, _ => by simp [sumN]
  | n + 1, h => by
    show sumN f n + f n ≤ (n + 1) * c
    have := sumN_le n fun i hi => h i (by omega)
    have := h n (by omega)
    rw [Nat.add_mul, Nat.one_mul]
    omega
theorem cntN_sum (P : Int → Bool) : ∀ n : Nat, cntN P 0 n = sumN (fun i => if P ((i : Nat) : Int) = true then 1 else 0) n
  | 0 => rfl
  | n + 1 => by
    show cntN P 0 n + (if P (0 + (n : Nat)) = true then 1 else 0) = _
    rw [cntN_sum P n, Int.zero_add]
    rfl
theorem cntN_or {P A B : Int → Bool} : ∀ n : Nat, (∀ x : Int, 0 ≤ x → x < (n : Nat) → P x = (A x || B x) ∧ ¬ (A x = true ∧ B x = true)) → cntN P 0 n = cntN A 0 n + cntN B 0 n
  | 0, _ => rfl
  | n + 1, h => by
    have ih := cntN_or n fun x h0 h1 => h x h0 (by omega)
    have z := h (0 + (n : Nat)) (by omega) (by omega)
    show cntN P 0 n + (if P (0 + (n : Nat)) = true then 1 else 0) = (cntN A 0 n + (if A (0 + (n : Nat)) = true then 1 else 0)) + (cntN B 0 n + (if B (0 + (n : Nat)) = true then 1 else 0))
    rw [ih, z.1]
    cases ha : A (0 + (n : Nat)) <;> cases hb : B (0 + (n : Nat))
    · simp
    · simp
      omega
    · simp
      omega
    · exact absurd ⟨ha, hb⟩ z.2
theorem cntN_one {c : Int} : ∀ n : Nat, 0 ≤ c → c < (n : Nat) → cntN (fun x => decide (x = c)) 0 n = 1
  | 0, h0, h1 => absurd h1 (by omega)
  | n + 1, h0, h1 => by
    show cntN (fun x => decide (x = c)) 0 n + (if decide (0 + ((n : Nat) : Int) = c) = true then 1 else 0) = 1
    by_cases e : c = (n : Nat)
    · have z : cntN (fun x => decide (x = c)) 0 n = cntN (fun _ => false) 0 n := cntN_congr n fun x h2 h3 => decide_eq_false (by omega)
      rw [z, cntN_const, if_pos (decide_eq_true (by omega))]
      rfl
    · rw [cntN_one n h0 (by omega), if_neg (by rw [decide_eq_true_iff]; omega)]
/-- an arc of l places has l places -/
theorem cnt_begins {m t : Int} (hm : 0 < m) : ∀ l : Nat, (l : Int) ≤ m → cntN (fun b => decide ((t - b) % m < (l : Nat))) 0 m.toNat = l
  | 0, _ => by
    have z : cntN (fun b => decide ((t - b) % m < ((0 : Nat) : Int))) 0 m.toNat = cntN (fun _ => false) 0 m.toNat := cntN_congr _ fun x _ _ => decide_eq_false (by
      have := Int.emod_nonneg (t - x) (show m ≠ 0 by omega)
      omega)
    rw [z, cntN_const]
    rfl
  | l + 1, hl => by
    have ih := cnt_begins (t := t) hm l (by omega)
    have one : cntN (fun b => decide ((t - b) % m = (l : Nat))) 0 m.toNat = 1 := by
      have e : cntN (fun b => decide ((t - b) % m = (l : Nat))) 0 m.toNat = cntN (fun b => decide (b = (t - (l : Nat)) % m)) 0 m.toNat := by
        apply cntN_congr
        intro x h0 h1
        have hx : x < m := by omega
        by_cases z : (t - x) % m = (l : Nat)
        · rw [decide_eq_true z]
          symm
          apply decide_eq_true
          rw [← z, sub_mod', show t - (t - x) = x by omega, Int.emod_eq_of_lt h0 hx]
        · rw [decide_eq_false z]
          symm
          apply decide_eq_false
          intro e
          apply z
          rw [e, sub_mod', show t - (t - (l : Nat)) = ((l : Nat) : Int) by omega]
          exact Int.emod_eq_of_lt (by omega) (by omega)
      rw [e]
      have h0 := Int.emod_nonneg (t - (l : Nat)) (show m ≠ 0 by omega)
      have h1 := Int.emod_lt_of_pos (t - (l : Nat)) hm
      exact cntN_one _ h0 (by omega)
    have or := cntN_or (P := fun b => decide ((t - b) % m < ((l + 1 : Nat) : Int))) (A := fun b => decide ((t - b) % m < (l : Nat))) (B := fun b => decide ((t - b) % m = (l : Nat))) m.toNat fun x _ _ => by
      constructor
      · by_cases z : (t - x) % m < (l : Nat)
        · rw [decide_eq_true z, decide_eq_true (by omega)]
          rfl
        · rw [decide_eq_false z]
          by_cases y : (t - x) % m = (l : Nat)
          · rw [decide_eq_true y, decide_eq_true (by omega)]
            rfl
          · rw [decide_eq_false y, decide_eq_false (by omega)]
            rfl
      · intro ⟨z, y⟩
        have z := of_decide_eq_true z
        have y := of_decide_eq_true y
        omega
    rw [or, ih, one]
theorem cnt_eq (m : Int) (tl : List (Int × Int)) (b l : Int) : cnt m tl b l = (cntN (fun x => inArc m b l (tgt tl x)) 0 m.toNat : Int) := by
  unfold cnt brought
  rw [cnt_upto]
theorem cnt_total {m : Int} (tl : List (Int × Int)) {l : Int} (hm : 0 < m) (h0 : 0 ≤ l) (hl : l ≤ m) :
    sumN (fun b => cntN (fun x => inArc m ((b : Nat) : Int) l (tgt tl x)) 0 m.toNat) m.toNat = m.toNat * l.toNat := by
  have e1 : sumN (fun b => cntN (fun x => inArc m ((b : Nat) : Int) l (tgt tl x)) 0 m.toNat) m.toNat = sumN (fun b => sumN (fun x => if inArc m ((b : Nat) : Int) l (tgt tl ((x : Nat) : Int)) = true then 1 else 0) m.toNat) m.toNat :=
    sumN_congr _ fun b _ => cntN_sum _ _
  rw [e1, sumN_comm]
  have e2 : ∀ x, x < m.toNat → sumN (fun b => if inArc m ((b : Nat) : Int) l (tgt tl ((x : Nat) : Int)) = true then 1 else 0) m.toNat = l.toNat := by
    intro x _
    have c := cnt_begins (t := tgt tl ((x : Nat) : Int)) hm l.toNat (by omega)
    have el : ((l.toNat : Nat) : Int) = l := by omega
    rw [el] at c
    rw [← cntN_sum (fun b => inArc m b l (tgt tl ((x : Nat) : Int)))]
    exact c
  rw [sumN_congr _ e2, sumN_const]
theorem width_ge {m : Int} {tls : List (List (Int × Int))} {l v : Int} (h : IsWidth m tls l v) (h0 : 0 ≤ l) (hl : l ≤ m) : l ≤ v := by
  obtain ⟨tl, ht, b, b0, b1, _⟩ := h.got
  have hm : 0 < m := by omega
  have t := cnt_total tl hm h0 hl
  have v0 : 0 ≤ v := by
    have := h.all tl ht b b0 b1
    have : 0 ≤ cnt m tl b l := Int.natCast_nonneg _
    omega
  have le := sumN_le (c := v.toNat) (f := fun b => cntN (fun x => inArc m ((b : Nat) : Int) l (tgt tl x)) 0 m.toNat) m.toNat fun i hi => by
    have := h.all tl ht (i : Nat) (by omega) (by omega)
    rw [cnt_eq] at this
    show cntN (fun x => inArc m ((i : Nat) : Int) l (tgt tl x)) 0 m.toNat ≤ v.toNat
    omega
  rw [t] at le
  have := Nat.le_of_mul_le_mul_left le (show 0 < m.toNat by omega)
  omega
/-! ### the lengths of a goal -/
inductive Chain (m : Int) (tls : List (List (Int × Int))) : Int → List Int → Prop
  | stop {g : Int} : IsWidth m tls g g → Chain m tls g [g]
  | next {g v : Int} {r : List Int} : IsWidth m tls g v → v ≠ g → Chain m tls v r → Chain m tls g (g :: r)
theorem Chain.uniq {m : Int} {tls : List (List (Int × Int))} {g : Int} {l : List Int} (h : Chain m tls g l) : ∀ {l' : List Int}, Chain m tls g l' → l = l' := by
  induction h with
  | stop w =>
    intro l' h'
    cases h' with
    | stop _ => rfl
    | next w' ne _ => exact absurd (w'.uniq w) ne
  | next w ne _ ih =>
    intro l' h'
    cases h' with
    | stop w' => exact absurd (w.uniq w') ne
    | next w' ne' h'' =>
      have e := w.uniq w'
      subst e
      rw [ih h'']
inductive Path (m : Int) (tls : List (List (Int × Int))) (g : Int) : List Int → Int → Prop
  | one : Path m tls g [g] g
  | more {xs : List Int} {x v : Int} : Path m tls g xs x → IsWidth m tls x v → v ≠ x → Path m tls g (xs ++ [v]) v
theorem Path.last {m : Int} {tls : List (List (Int × Int))} {g x : Int} {xs : List Int} (h : Path m tls g xs x) : ∃ ys, xs = ys ++ [x] := by
  cases h with
  | one => exact ⟨[], rfl⟩
  | more h _ _ => exact ⟨_, rfl⟩
theorem Path.chain {m : Int} {tls : List (List (Int × Int))} {g x : Int} {xs : List Int} (h : Path m tls g xs x) : ∀ {r : List Int}, Chain m tls x r → Chain m tls g (xs.dropLast ++ r) := by
  induction h with
  | one => exact fun c => c
  | more p w ne ih =>
    rename_i xs x v
    intro r c
    have e := ih (.next w ne c)
    obtain ⟨ys, ey⟩ := p.last
    subst ey
    rw [List.dropLast_concat] at e
    rw [List.dropLast_concat]
    rw [List.append_assoc]
    exact e
theorem Path.done {m : Int} {tls : List (List (Int × Int))} {g x : Int} {xs : List Int} (h : Path m tls g xs x) (w : IsWidth m tls x x) : Chain m tls g xs := by
  have c := h.chain (.stop w)
  obtain ⟨ys, ey⟩ := h.last
  subst ey
  rw [List.dropLast_concat] at c
  exact c
theorem Path.rng {m : Int} {tls : List (List (Int × Int))} {g x : Int} {xs : List Int} (h : Path m tls g xs x) (g1 : 1 ≤ g) (gm : g ≤ m) : 1 ≤ x ∧ x ≤ m ∧ g ≤ x ∧ (xs.length : Int) ≤ x - g + 1 ∧ ∀ y ∈ xs, g ≤ y ∧ y ≤ x := by
  induction h with
  | one =>
    refine ⟨g1, gm, Int.le_refl _, by show ((1 : Nat) : Int) ≤ _; omega, fun y hy => ?_⟩
    rw [List.mem_singleton.mp hy]
    omega
  | more p w ne ih =>
    rename_i xs x v
    obtain ⟨i1, i2, i3, i4, i5⟩ := ih
    have w1 := width_ge w (by omega) i2
    have w2 := w.rng (by omega)
    refine ⟨by omega, w2.2, by omega, ?_, fun y hy => ?_⟩
    · rw [List.length_append]
      show ((xs.length + 1 : Nat) : Int) ≤ _
      omega
    · rcases List.mem_append.mp hy with z | z
      · have := i5 y z
        omega
      · rw [List.mem_singleton.mp z]
        omega
theorem Path.asc {m : Int} {tls : List (List (Int × Int))} {g x : Int} {xs : List Int} (h : Path m tls g xs x) (g1 : 1 ≤ g) (gm : g ≤ m) : xs.Pairwise (· < ·) := by
  induction h with
  | one => exact List.pairwise_singleton _ _
  | more p w ne ih =>
    rename_i xs x v
    obtain ⟨i1, i2, i3, i4, i5⟩ := p.rng g1 gm
    have w1 := width_ge w (by omega) i2
    rw [List.pairwise_append]
    refine ⟨ih, List.pairwise_singleton _ _, fun y hy z hz => ?_⟩
    rw [List.mem_singleton.mp hz]
    have := i5 y hy
    omega

/-! ### a tool keeps the order of the circle -/
theorem tf_low (g : Int → Int) {p : Int} : ∀ (l : List (Int × Int)) (f : Int), l.Pairwise (fun x y => g x.2 < g y.2) → (∀ x ∈ l, g f ≤ g x.2) → g f ≤ g (tgtFrom p f l)
  | [], f, _, _ => Int.le_refl _
  | x :: l, f, ord, h => by
    have oc := List.pairwise_cons.mp ord
    have hx := h x List.mem_cons_self
    unfold tgtFrom
    split
    · have := tf_low g (p := p) l x.2 oc.2 fun y hy => by have := oc.1 y hy; omega
      omega
    · exact tf_low g l f oc.2 fun y hy => h y (List.mem_cons_of_mem _ hy)
theorem tf_mono (g : Int → Int) {p p' : Int} (hp : p ≤ p') : ∀ (l : List (Int × Int)) (f : Int), l.Pairwise (fun x y => x.1 < y.1) → l.Pairwise (fun x y => g x.2 < g y.2) → (∀ x ∈ l, g f ≤ g x.2) →
    g (tgtFrom p f l) ≤ g (tgtFrom p' f l)
  | [], f, _, _, _ => Int.le_refl _
  | x :: l, f, asc, ord, h => by
    have ac := List.pairwise_cons.mp asc
    have oc := List.pairwise_cons.mp ord
    have hx := h x List.mem_cons_self
    have hl : ∀ y ∈ l, g x.2 ≤ g y.2 := fun y hy => by have := oc.1 y hy; omega
    show g (tgtFrom p (if x.1 ≤ p then x.2 else f) l) ≤ g (tgtFrom p' (if x.1 ≤ p' then x.2 else f) l)
    by_cases h1 : x.1 ≤ p
    · rw [if_pos h1, if_pos (by omega)]
      exact tf_mono g hp l x.2 ac.2 oc.2 hl
    · rw [if_neg h1, tgtFrom_none p l f fun y hy => by have := ac.1 y hy; omega]
      by_cases h2 : x.1 ≤ p'
      · rw [if_pos h2]
        have := tf_low g (p := p') l x.2 oc.2 hl
        omega
      · rw [if_neg h2]
        exact tf_low g l f oc.2 fun y hy => h y (List.mem_cons_of_mem _ hy)
/-- the tool as a map of all whole numbers -/
structure Lift (m : Int) (tl : List (Int × Int)) (L P : Int → Int) : Prop where
  mono : ∀ x y, x ≤ y → L x ≤ L y
  per : ∀ x, L (x + m) = L x + m
  tg : ∀ x, tgt tl (x % m) = L x % m
  lt : ∀ x t, L x < t ↔ x < P t
theorem tgt_lift {m a : Int} {tl : List (Int × Int)} (h : IsTool m tl) (h0 : (tl.headD (0, 0)).1 ≤ a) (h1 : a < (tl.headD (0, 0)).1 + m) : tgt tl (a % m) = tgtFrom a (tl.getLastD (0, 0)).2 tl := by
  have hl : tl ≠ [] := fun e => by
    have := h.len1
    rw [e, List.length_nil] at this
    omega
  obtain ⟨x, r, e⟩ : ∃ x r, tl = x :: r := by
    cases tl with
    | nil => exact absurd rfl hl
    | cons x r => exact ⟨x, r, rfl⟩
  have eh : tl.headD (0, 0) = x := by rw [e]; rfl
  rw [eh] at h0 h1
  have rx := (h.rng x (by rw [e]; exact List.mem_cons_self)).1
  by_cases z : a < m
  · rw [Int.emod_eq_of_lt (by omega) z]
    rfl
  · have ea : a % m = a - m := by
      have e1 : a = (a - m) + m * 1 := by omega
      rw [e1, Int.add_mul_emod_self_left, Int.emod_eq_of_lt (by omega) (by omega)]
      omega
    unfold tgt
    rw [ea, tgtFrom_all a tl _ hl fun y hy => by have := (h.rng y hy).1; omega, tgtFrom_none _ tl _ fun y hy => ?_]
    have asc := h.asc
    rw [e] at asc hy
    have ac := List.pairwise_cons.mp asc
    rcases List.mem_cons.mp hy with w | w
    · rw [w]
      omega
    · have := ac.1 y w
      omega
theorem F_mono {m a a' : Int} {tl : List (Int × Int)} (hm : 0 < m) (h : IsTool m tl) (h0 : (tl.headD (0, 0)).1 ≤ a) (ha : a ≤ a') (h1 : a' < (tl.headD (0, 0)).1 + m) :
    (tgt tl (a % m) - (tl.headD (0, 0)).2) % m ≤ (tgt tl (a' % m) - (tl.headD (0, 0)).2) % m := by
  rw [tgt_lift h h0 (by omega), tgt_lift h (by omega) h1]
  have hl : tl ≠ [] := fun e => by
    have := h.len1
    rw [e, List.length_nil] at this
    omega
  obtain ⟨x, r, e⟩ : ∃ x r, tl = x :: r := by
    cases tl with
    | nil => exact absurd rfl hl
    | cons x r => exact ⟨x, r, rfl⟩
  have eh : tl.headD (0, 0) = x := by rw [e]; rfl
  have asc := h.asc
  have ord := h.ord
  rw [eh] at h0 h1 ord ⊢
  generalize (tl.getLastD (0, 0)).2 = f0
  rw [e] at asc ord ⊢
  have ac := List.pairwise_cons.mp asc
  have oc := List.pairwise_cons.mp ord
  show (tgtFrom a (if x.1 ≤ a then x.2 else f0) r - x.2) % m ≤ (tgtFrom a' (if x.1 ≤ a' then x.2 else f0) r - x.2) % m
  rw [if_pos h0, if_pos (by omega)]
  exact tf_mono (fun z => (z - x.2) % m) ha r x.2 ac.2 oc.2 fun y hy => by have := oc.1 y hy; show (x.2 - x.2) % m ≤ (y.2 - x.2) % m; omega
theorem thresh {D : Int → Prop} (dec : ∀ x, D x ∨ ¬ D x) (down : ∀ x y, x ≤ y → D y → D x) {lo : Int} (h0 : D lo) : ∀ n : Nat, ¬ D (lo + (n : Nat)) → ∃ p, ∀ x, D x ↔ x < p
  | 0, h => absurd h0 (by rw [Int.natCast_zero, Int.add_zero] at h; exact h)
  | n + 1, h => by
    rcases dec (lo + (n : Nat)) with z | z
    · refine ⟨lo + ((n + 1 : Nat) : Int), fun x => ⟨fun hx => ?_, fun hx => down x _ (by omega) z⟩⟩
      by_cases w : x < lo + ((n + 1 : Nat) : Int)
      · exact w
      · exact absurd (down (lo + ((n + 1 : Nat) : Int)) x (by omega) hx) h
    · exact thresh dec down h0 n z
theorem iter_per {m : Int} {L : Int → Int} (per : ∀ x, L (x + m) = L x + m) (x k : Int) : L (x + m * k) = L x + m * k := by
  have up : ∀ (n : Nat) (x : Int), L (x + m * (n : Nat)) = L x + m * (n : Nat) := by
    intro n
    induction n with
    | zero => intro x; rw [Int.natCast_zero, Int.mul_zero, Int.add_zero, Int.add_zero]
    | succ n ih =>
      intro x
      have e : m * ((n + 1 : Nat) : Int) = m * (n : Nat) + m := by rw [Int.natCast_add, Int.mul_add]; show _ + m * 1 = _; rw [Int.mul_one]
      rw [e, ← Int.add_assoc, per, ih, Int.add_assoc]
  by_cases h : 0 ≤ k
  · have := up k.toNat x
    rw [show ((k.toNat : Nat) : Int) = k by omega] at this
    exact this
  · have := up (-k).toNat (x + m * k)
    have e : ((((-k).toNat : Nat)) : Int) = -k := by omega
    rw [e, Int.mul_neg, show x + m * k + -(m * k) = x by omega] at this
    omega
theorem lift_mk {m : Int} {tl : List (Int × Int)} {L : Int → Int} (hm : 0 < m) (mono : ∀ x y, x ≤ y → L x ≤ L y) (per : ∀ x, L (x + m) = L x + m) (tg : ∀ x, tgt tl (x % m) = L x % m) : ∃ P, Lift m tl L P := by
  have ex : ∀ t, ∃ p, ∀ x, L x < t ↔ x < p := by
    intro t
    let k : Int := ((t - L 0).natAbs : Nat) + 1
    have hk : (t - L 0) < k ∧ -k < t - L 0 := by show _ < (((t - L 0).natAbs : Nat) : Int) + 1 ∧ -((((t - L 0).natAbs : Nat) : Int) + 1) < _; omega
    have k1 : 1 ≤ k := by show 1 ≤ (((t - L 0).natAbs : Nat) : Int) + 1; omega
    have mk : k ≤ m * k := by
      have := Int.mul_le_mul_of_nonneg_right (show 1 ≤ m by omega) (show 0 ≤ k by omega)
      omega
    have lo := iter_per per 0 (-k)
    have hi := iter_per per 0 k
    rw [Int.mul_neg] at lo
    refine thresh (D := fun x => L x < t) (lo := 0 + -(m * k)) (fun x => by by_cases z : L x < t; exact .inl z; exact .inr z) (fun x y hxy hy => by have := mono x y hxy; omega) (by show L (0 + -(m * k)) < t; omega) (m * k + m * k).toNat ?_
    have e : 0 + -(m * k) + (((m * k + m * k).toNat : Nat) : Int) = 0 + m * k := by omega
    rw [e]
    omega
  exact ⟨fun t => (ex t).choose, mono, per, tg, fun x t => (ex t).choose_spec x⟩
theorem lift_of {m : Int} {tl : List (Int × Int)} (hm : 0 < m) (h : IsTool m tl) : ∃ L P, Lift m tl L P := by
  let b0 := (tl.headD (0, 0)).1
  let t0 := (tl.headD (0, 0)).2
  refine ⟨fun x => t0 + (tgt tl (x % m) - t0) % m + m * ((x - b0) / m), ?_⟩
  refine lift_mk hm (fun x y hxy => ?_) (fun x => ?_) (fun x => ?_)
  · show t0 + (tgt tl (x % m) - t0) % m + m * ((x - b0) / m) ≤ t0 + (tgt tl (y % m) - t0) % m + m * ((y - b0) / m)
    have hq : (x - b0) / m ≤ (y - b0) / m := Int.ediv_le_ediv hm (by omega)
    have fx := Int.emod_lt_of_pos (tgt tl (x % m) - t0) hm
    have fy := Int.emod_nonneg (tgt tl (y % m) - t0) (show m ≠ 0 by omega)
    by_cases z : (x - b0) / m = (y - b0) / m
    · rw [z]
      have ex := Int.mul_ediv_add_emod (x - b0) m
      have ey := Int.mul_ediv_add_emod (y - b0) m
      have lx := Int.emod_nonneg (x - b0) (show m ≠ 0 by omega)
      have ly := Int.emod_lt_of_pos (y - b0) hm
      rw [z] at ex
      have kx : x % m = (x + m * -((y - b0) / m)) % m := by rw [Int.add_mul_emod_self_left]
      have ky : y % m = (y + m * -((y - b0) / m)) % m := by rw [Int.add_mul_emod_self_left]
      have f := F_mono (a := x + m * -((y - b0) / m)) (a' := y + m * -((y - b0) / m)) hm h (by show b0 ≤ _; rw [Int.mul_neg]; omega) (by omega) (by show _ < b0 + m; rw [Int.mul_neg]; omega)
      rw [← kx, ← ky] at f
      have f : (tgt tl (x % m) - t0) % m ≤ (tgt tl (y % m) - t0) % m := f
      omega
    · have : m * ((x - b0) / m) + m ≤ m * ((y - b0) / m) := by
        have := Int.mul_le_mul_of_nonneg_left (show (x - b0) / m + 1 ≤ (y - b0) / m by omega) (show 0 ≤ m by omega)
        rw [Int.mul_add, Int.mul_one] at this
        exact this
      omega
  · show t0 + (tgt tl ((x + m) % m) - t0) % m + m * ((x + m - b0) / m) = t0 + (tgt tl (x % m) - t0) % m + m * ((x - b0) / m) + m
    rw [Int.add_emod_right, show x + m - b0 = x - b0 + m * 1 by omega, Int.add_mul_ediv_left _ _ (show m ≠ 0 by omega), Int.mul_add, Int.mul_one]
    omega
  · show tgt tl (x % m) = (t0 + (tgt tl (x % m) - t0) % m + m * ((x - b0) / m)) % m
    have r := tgt_rng h (x % m)
    rw [Int.add_mul_emod_self_left, add_mod', show t0 + (tgt tl (x % m) - t0) = tgt tl (x % m) by omega, Int.emod_eq_of_lt r.1 r.2]
section
variable {m : Int} {tl : List (Int × Int)} {L P : Int → Int}
theorem Lift.pmono (h : Lift m tl L P) {t t' : Int} (ht : t ≤ t') : P t ≤ P t' := by
  by_cases z : P t ≤ P t'
  · exact z
  · have h1 := (h.lt (P t') t).mpr (by omega)
    have h2 := (h.lt (P t') t').mp (by omega)
    omega
theorem Lift.pper (h : Lift m tl L P) (t : Int) : P (t + m) = P t + m := by
  have e : ∀ x, x < P (t + m) ↔ x < P t + m := by
    intro x
    rw [← h.lt]
    have p := h.per (x - m)
    rw [show x - m + m = x by omega] at p
    have q := h.lt (x - m) t
    constructor
    · intro z
      have := q.mp (by omega)
      omega
    · intro z
      have := q.mpr (by omega)
      omega
  have h1 := e (P t + m)
  have h2 := e (P (t + m))
  omega
theorem Lift.arc (h : Lift m tl L P) (hm : 0 < m) {b l : Int} (x : Int) : (L x - b) % m < l ↔ (x - P b) % m < P (b + l) - P b := by
  have k0 := Int.emod_nonneg (L x - b) (show m ≠ 0 by omega)
  have k1 := Int.emod_lt_of_pos (L x - b) hm
  have ke := Int.mul_ediv_add_emod (L x - b) m
  have lx := iter_per h.per x (-((L x - b) / m))
  rw [Int.mul_neg] at lx
  have h1 : ¬ (x + -(m * ((L x - b) / m)) < P b) := fun z => by
    have := (h.lt _ _).mpr z
    omega
  have h2 := (h.lt (x + -(m * ((L x - b) / m))) (b + m)).mp (by omega)
  rw [h.pper] at h2
  have h3 := h.lt (x + -(m * ((L x - b) / m))) (b + l)
  have e : (x - P b) % m = x + -(m * ((L x - b) / m)) - P b := by
    rw [← Int.emod_eq_of_lt (a := x + -(m * ((L x - b) / m)) - P b) (b := m) (by omega) (by omega)]
    apply mod_of_eq (q := (L x - b) / m)
    omega
  rw [e]
  constructor
  · intro z
    have := h3.mp (by omega)
    omega
  · intro z
    have := h3.mpr (by omega)
    omega
theorem Lift.inArc (h : Lift m tl L P) (hm : 0 < m) {b l x : Int} (h0 : 0 ≤ x) (h1 : x < m) : inArc m b l (tgt tl x) = true ↔ (x - P b) % m < P (b + l) - P b := by
  have e := h.tg x
  rw [Int.emod_eq_of_lt h0 h1] at e
  unfold BP.inArc
  rw [decide_eq_true_iff, e, mod_sub']
  exact h.arc hm x
theorem Lift.wide (h : Lift m tl L P) {b l : Int} (h0 : 0 ≤ l) (h1 : l ≤ m) : 0 ≤ P (b + l) - P b ∧ P (b + l) - P b ≤ m := by
  have a := h.pmono (show b ≤ b + l by omega)
  have c := h.pmono (show b + l ≤ b + m by omega)
  rw [h.pper] at c
  omega
end
theorem cnt_places {m s : Int} (hm : 0 < m) : ∀ l : Nat, (l : Int) ≤ m → cntN (fun x => decide ((x - s) % m < (l : Nat))) 0 m.toNat = l
  | 0, _ => by
    have z : cntN (fun x => decide ((x - s) % m < ((0 : Nat) : Int))) 0 m.toNat = cntN (fun _ => false) 0 m.toNat := cntN_congr _ fun x _ _ => decide_eq_false (by
      have := Int.emod_nonneg (x - s) (show m ≠ 0 by omega)
      omega)
    rw [z, cntN_const]
    rfl
  | l + 1, hl => by
    have ih := cnt_places (s := s) hm l (by omega)
    have one : cntN (fun x => decide ((x - s) % m = (l : Nat))) 0 m.toNat = 1 := by
      have e : cntN (fun x => decide ((x - s) % m = (l : Nat))) 0 m.toNat = cntN (fun x => decide (x = (s + (l : Nat)) % m)) 0 m.toNat := by
        apply cntN_congr
        intro x h0 h1
        have hx : x < m := by omega
        by_cases z : (x - s) % m = (l : Nat)
        · rw [decide_eq_true z]
          symm
          apply decide_eq_true
          rw [← z, add_mod', show s + (x - s) = x by omega, Int.emod_eq_of_lt h0 hx]
        · rw [decide_eq_false z]
          symm
          apply decide_eq_false
          intro e
          apply z
          rw [e, mod_sub', show s + (l : Nat) - s = ((l : Nat) : Int) by omega]
          exact Int.emod_eq_of_lt (by omega) (by omega)
      rw [e]
      have h0 := Int.emod_nonneg (s + (l : Nat)) (show m ≠ 0 by omega)
      have h1 := Int.emod_lt_of_pos (s + (l : Nat)) hm
      exact cntN_one _ h0 (by omega)
    have or := cntN_or (P := fun x => decide ((x - s) % m < ((l + 1 : Nat) : Int))) (A := fun x => decide ((x - s) % m < (l : Nat))) (B := fun x => decide ((x - s) % m = (l : Nat))) m.toNat fun x _ _ => by
      constructor
      · by_cases z : (x - s) % m < (l : Nat)
        · rw [decide_eq_true z, decide_eq_true (by omega)]
          rfl
        · rw [decide_eq_false z]
          by_cases y : (x - s) % m = (l : Nat)
          · rw [decide_eq_true y, decide_eq_true (by omega)]
            rfl
          · rw [decide_eq_false y, decide_eq_false (by omega)]
            rfl
      · intro ⟨z, y⟩
        have z := of_decide_eq_true z
        have y := of_decide_eq_true y
        omega
    rw [or, ih, one]
theorem Lift.cnt {m : Int} {tl : List (Int × Int)} {L P : Int → Int} (h : Lift m tl L P) (hm : 0 < m) {b l : Int} (h0 : 0 ≤ l) (h1 : l ≤ m) : cnt m tl b l = P (b + l) - P b := by
  have w := h.wide (b := b) h0 h1
  unfold BP.cnt brought
  rw [cnt_upto]
  have e : cntN (fun x => BP.inArc m b l (tgt tl x)) 0 m.toNat = cntN (fun x => decide ((x - P b) % m < (((P (b + l) - P b).toNat : Nat) : Int))) 0 m.toNat := by
    apply cntN_congr
    intro x x0 x1
    have k := h.inArc hm (b := b) (l := l) x0 (show x < m by omega)
    rw [show (((P (b + l) - P b).toNat : Nat) : Int) = P (b + l) - P b by omega]
    by_cases z : (x - P b) % m < P (b + l) - P b
    · rw [decide_eq_true z]
      exact k.mpr z
    · rw [decide_eq_false z]
      cases hh : BP.inArc m b l (tgt tl x)
      · rfl
      · exact absurd (k.mp hh) z
  rw [e, cnt_places hm _ (by omega)]
  omega

/-! ### tools from their tables -/
structure Lf (m : Int) (f L : Int → Int) : Prop where
  mono : ∀ x y, x ≤ y → L x ≤ L y
  per : ∀ x, L (x + m) = L x + m
  val : ∀ x, 0 ≤ x → x < m → f x = L x % m
def chF (m : Int) (g : Int → Int) : List Int := (upto m).filter fun x => decide (g x ≠ g ((x - 1) % m))
def pO (m : Int) (g : Int → Int) : List (Int × Int) := if chF m g = [] then [(0, g 0)] else (chF m g).map fun x => (x, g x)
theorem upto_asc (m : Int) : (upto m).Pairwise (· < ·) := by
  unfold upto
  rw [List.pairwise_map]
  exact List.pairwise_lt_range.imp fun {a b} h => by omega
theorem chF_mem {m x : Int} {g : Int → Int} : x ∈ chF m g ↔ 0 ≤ x ∧ x < m ∧ g x ≠ g ((x - 1) % m) := by
  unfold chF
  rw [List.mem_filter, upto_mem, decide_eq_true_eq]
  exact ⟨fun h => ⟨h.1.1, h.1.2, h.2⟩, fun h => ⟨⟨h.1, h.2.1⟩, h.2.2⟩⟩
theorem chF_asc (m : Int) (g : Int → Int) : (chF m g).Pairwise (· < ·) := (upto_asc m).filter _
theorem chF_congr {m : Int} {g h : Int → Int} (hm : 0 < m) (e : ∀ x, 0 ≤ x → x < m → g x = h x) : chF m g = chF m h := by
  unfold chF
  apply List.filter_congr
  intro x hx
  obtain ⟨h0, h1⟩ := upto_mem.mp hx
  rw [e x h0 h1, e _ (Int.emod_nonneg _ (by omega)) (Int.emod_lt_of_pos _ hm)]
theorem pO_congr {m : Int} {g h : Int → Int} (hm : 0 < m) (e : ∀ x, 0 ≤ x → x < m → g x = h x) : pO m g = pO m h := by
  unfold pO
  rw [chF_congr hm e, e 0 (by omega) hm]
  split
  · rfl
  · apply List.map_congr_left
    intro x hx
    obtain ⟨h0, h1, _⟩ := chF_mem.mp hx
    rw [e x h0 h1]
theorem tgtFrom_mem (p : Int) : ∀ (l : List (Int × Int)) (f : Int), l.Pairwise (fun x y => x.1 < y.1) →
    (∃ q ∈ l, tgtFrom p f l = q.2 ∧ q.1 ≤ p ∧ ∀ r ∈ l, r.1 ≤ p → r.1 ≤ q.1) ∨ (tgtFrom p f l = f ∧ ∀ r ∈ l, ¬ r.1 ≤ p)
  | [], f, _ => .inr ⟨rfl, fun r h => (List.not_mem_nil h).elim⟩
  | x :: l, f, asc => by
    obtain ⟨a1, a2⟩ := List.pairwise_cons.mp asc
    unfold tgtFrom
    rcases tgtFrom_mem p l (if x.1 ≤ p then x.2 else f) a2 with ⟨q, hq, e, h1, h2⟩ | ⟨e, h1⟩
    · refine .inl ⟨q, List.mem_cons_of_mem _ hq, e, h1, fun r hr hp => ?_⟩
      rcases List.mem_cons.mp hr with z | z
      · rw [z]
        have := a1 q hq
        omega
      · exact h2 r z hp
    · by_cases hx : x.1 ≤ p
      · rw [if_pos hx] at e ⊢
        refine .inl ⟨x, List.mem_cons_self, e, hx, fun r hr hp => ?_⟩
        rcases List.mem_cons.mp hr with z | z
        · rw [z]
          exact Int.le_refl _
        · exact absurd hp (h1 r z)
      · rw [if_neg hx] at e ⊢
        refine .inr ⟨e, fun r hr => ?_⟩
        rcases List.mem_cons.mp hr with z | z
        · rw [z]
          exact hx
        · exact h1 r z
theorem last_mem {tl : List (Int × Int)} (h : tl ≠ []) (asc : tl.Pairwise (fun x y => x.1 < y.1)) : tl.getLastD (0, 0) ∈ tl ∧ ∀ r ∈ tl, r.1 ≤ (tl.getLastD (0, 0)).1 := by
  induction tl with
  | nil => exact absurd rfl h
  | cons x l ih =>
    obtain ⟨a1, a2⟩ := List.pairwise_cons.mp asc
    cases l with
    | nil =>
      refine ⟨List.mem_cons_self, fun r hr => ?_⟩
      rw [List.mem_singleton.mp hr]
      exact Int.le_refl _
    | cons y l =>
      obtain ⟨h1, h2⟩ := ih (List.cons_ne_nil _ _) a2
      have e : (x :: y :: l).getLastD (0, 0) = (y :: l).getLastD (0, 0) := rfl
      rw [e]
      refine ⟨List.mem_cons_of_mem _ h1, fun r hr => ?_⟩
      rcases List.mem_cons.mp hr with z | z
      · rw [z]
        have := a1 _ h1
        omega
      · exact h2 r z
theorem tgt_arc {tl : List (Int × Int)} (h : tl ≠ []) (asc : tl.Pairwise (fun x y => x.1 < y.1)) (p : Int) :
    ∃ q ∈ tl, tgt tl p = q.2 ∧ ((q.1 ≤ p ∧ ∀ r ∈ tl, r.1 ≤ p → r.1 ≤ q.1) ∨ ((∀ r ∈ tl, ¬ r.1 ≤ p) ∧ ∀ r ∈ tl, r.1 ≤ q.1)) := by
  unfold tgt
  rcases tgtFrom_mem p tl (tl.getLastD (0, 0)).2 asc with ⟨q, hq, e, h1, h2⟩ | ⟨e, h1⟩
  · exact ⟨q, hq, e, .inl ⟨h1, h2⟩⟩
  · obtain ⟨l1, l2⟩ := last_mem h asc
    exact ⟨_, l1, e, .inr ⟨h1, l2⟩⟩
theorem IsTool.inj {m : Int} {tl : List (Int × Int)} (it : IsTool m tl) {p q : Int × Int} (hp : p ∈ tl) (hq : q ∈ tl) (e : p.2 = q.2) : p = q := by
  obtain ⟨i, hi⟩ := List.getElem?_of_mem hp
  obtain ⟨j, hj⟩ := List.getElem?_of_mem hq
  obtain ⟨li, ei⟩ := List.getElem?_eq_some_iff.mp hi
  obtain ⟨lj, ej⟩ := List.getElem?_eq_some_iff.mp hj
  have ord := List.pairwise_iff_getElem.mp it.ord
  have same : i = j := by
    rcases Nat.lt_trichotomy i j with z | z | z
    · have := ord i j li lj z
      rw [ei, ej, e] at this
      omega
    · exact z
    · have := ord j i lj li z
      rw [ei, ej, e] at this
      omega
  subst same
  rw [← ei, ← ej]
theorem asc_eq : ∀ {l r : List Int}, l.Pairwise (· < ·) → r.Pairwise (· < ·) → (∀ x, x ∈ l ↔ x ∈ r) → l = r
  | [], [], _, _, _ => rfl
  | [], y :: r, _, _, h => absurd ((h y).mpr List.mem_cons_self) List.not_mem_nil
  | x :: l, [], _, _, h => absurd ((h x).mp List.mem_cons_self) List.not_mem_nil
  | x :: l, y :: r, hl, hr, h => by
    obtain ⟨l1, l2⟩ := List.pairwise_cons.mp hl
    obtain ⟨r1, r2⟩ := List.pairwise_cons.mp hr
    have e : x = y := by
      rcases List.mem_cons.mp ((h x).mp List.mem_cons_self) with z | z
      · exact z
      · rcases List.mem_cons.mp ((h y).mpr List.mem_cons_self) with w | w
        · exact w.symm
        · have := r1 x z
          have := l1 y w
          omega
    subst e
    rw [asc_eq l2 r2 fun z => ?_]
    constructor
    · intro hz
      rcases List.mem_cons.mp ((h z).mp (List.mem_cons_of_mem _ hz)) with w | w
      · have := l1 z hz
        omega
      · exact w
    · intro hz
      rcases List.mem_cons.mp ((h z).mpr (List.mem_cons_of_mem _ hz)) with w | w
      · have := r1 z hz
        omega
      · exact w
/-- a table gives its tool back -/
theorem pO_tgt {m : Int} {tl : List (Int × Int)} (hm : 0 < m) (it : IsTool m tl) : pO m (tgt tl) = tl := by
  have ne := it.ne
  have hit : ∀ p ∈ tl, tgt tl p.1 = p.2 := fun p hp => tgtFrom_hit tl _ it.asc hp
  by_cases h1 : tl.length = 1
  · match tl, h1, it, ne, hit with
    | [p], _, it, _, hit =>
      have p0 := it.one rfl p List.mem_cons_self
      have all : ∀ x, tgt [p] x = p.2 := fun x => by
        obtain ⟨q, hq, e, _⟩ := tgt_arc (List.cons_ne_nil p []) it.asc x
        rw [e, List.mem_singleton.mp hq]
      have ec : chF m (tgt [p]) = [] := by
        unfold chF
        rw [List.filter_eq_nil_iff]
        intro x _
        rw [decide_eq_true_eq, all, all]
        exact fun z => z rfl
      unfold pO
      rw [if_pos ec, all, ← p0]
  · have ec : chF m (tgt tl) = tl.map (·.1) := by
      refine asc_eq (chF_asc _ _) (by rw [List.pairwise_map]; exact it.asc) fun x => ?_
      rw [chF_mem, List.mem_map]
      constructor
      · intro ⟨h0, hx, hc⟩
        by_cases z : ∃ p ∈ tl, p.1 = x
        · obtain ⟨p, hp, e⟩ := z
          exact ⟨p, hp, e⟩
        · exact absurd (tgt_back it h0 hx fun p hp e => z ⟨p, hp, e⟩).symm hc
      · intro ⟨p, hp, e⟩
        have r := (it.rng p hp).1
        refine ⟨by omega, by omega, fun z => ?_⟩
        rw [← e, hit p hp, e] at z
        obtain ⟨q, hq, eq, hh⟩ := tgt_arc ne it.asc ((x - 1) % m)
        have same : p = q := it.inj hp hq (z.trans eq)
        subst same
        have two : ∃ r ∈ tl, r ≠ p := by
          match tl, h1, ne, it with
          | [], _, ne, _ => exact absurd rfl ne
          | [y], h1, _, _ => exact absurd rfl h1
          | y :: w :: l, _, _, it =>
            have lt := (List.pairwise_cons.mp it.asc).1 w List.mem_cons_self
            by_cases ey : y = p
            · refine ⟨w, List.mem_cons_of_mem _ List.mem_cons_self, fun ew => ?_⟩
              rw [ey, ew] at lt
              omega
            · exact ⟨y, List.mem_cons_self, ey⟩
        obtain ⟨r', hr', ner⟩ := two
        have nle : r'.1 ≠ p.1 := fun z => ner (by
          have h1 := hit r' hr'
          have h2 := hit p hp
          rw [z, h2] at h1
          exact it.inj hr' hp h1.symm)
        have rr := (it.rng r' hr').1
        by_cases x0 : x = 0
        · rw [x0, back_zero (by omega)] at hh
          rcases hh with ⟨_, h2⟩ | ⟨h2, _⟩
          · have := h2 r' hr' (by omega)
            omega
          · exact h2 p hp (by omega)
        · rw [back_lt (by omega) (by omega)] at hh
          rcases hh with ⟨h2, _⟩ | ⟨h2, h3⟩
          · omega
          · have a := h2 r' hr'
            have b := h3 r' hr'
            omega
    unfold pO
    rw [if_neg (by rw [ec]; intro z; exact ne (List.map_eq_nil_iff.mp z)), ec, List.map_map]
    refine (List.map_congr_left fun p hp => ?_).trans (List.map_id tl)
    show (p.1, tgt tl p.1) = p
    rw [hit p hp]
theorem pigeon {l : List Int} : ∀ {ys : List Int}, l.Nodup → (∀ x ∈ l, x ∈ ys) → l.length ≤ ys.length := by
  induction l with
  | nil => exact fun _ _ => Nat.zero_le _
  | cons x l ih =>
    intro ys nd h
    rw [List.nodup_cons] at nd
    have hx := h x List.mem_cons_self
    have := ih (ys := ys.erase x) nd.2 fun y hy => (List.mem_erase_of_ne fun e => nd.1 (by rw [← e]; exact hy)).mpr (h y (List.mem_cons_of_mem _ hy))
    rw [List.length_erase_of_mem hx] at this
    have hp := List.length_pos_of_mem hx
    rw [List.length_cons]
    omega
section
variable {m : Int} {f L : Int → Int}
theorem Lf.le (h : Lf m f L) (hm : 1 ≤ m) (x : Int) : L x ≤ L (x - 1) + m := by
  have := h.mono x (x - 1 + m) (by omega)
  have e := h.per (x - 1)
  omega
theorem Lf.const (h : Lf m f L) : ∀ (n : Nat) (a b : Int), b - a = (n : Nat) → (∀ x, a < x → x ≤ b → L x = L (x - 1)) → L b = L a
  | 0, a, b, e, _ => by rw [show b = a by omega]
  | n + 1, a, b, e, hn => by
    have h1 := hn b (by omega) (Int.le_refl _)
    rw [h1]
    exact Lf.const h n a (b - 1) (by omega) fun x h2 h3 => hn x h2 (by omega)
theorem Lf.before (h : Lf m f L) (hm : 1 ≤ m) {x : Int} (h0 : 0 ≤ x) (h1 : x < m) : f ((x - 1) % m) = L (x - 1) % m := by
  by_cases x0 : x = 0
  · subst x0
    rw [back_zero hm, h.val _ (by omega) (by omega)]
    have e := h.per (0 - 1)
    rw [show (0 : Int) - 1 + m = m - 1 by omega] at e
    rw [e, Int.add_emod_right]
  · rw [back_lt (by omega) h1, h.val _ (by omega) (by omega)]
theorem mod_ne {m a b : Int} (h1 : b < a) (h2 : a < b + m) : a % m ≠ b % m := by
  intro e
  have h3 := Int.emod_emod_of_dvd (a - b) (Int.dvd_refl m)
  have e1 : (a - b) % m = 0 := by
    rw [Int.sub_emod, e, Int.sub_self]
    exact Int.zero_emod m
  rw [Int.emod_eq_of_lt (by omega) (by omega)] at e1
  omega
theorem lf_tool (h : Lf m f L) (hm : 1 ≤ m) {ys : List Int} (hy : ∀ x, 0 ≤ x → x < m → f x ∈ ys) (h12 : ys.length ≤ 12) :
    IsTool m (pO m f) ∧ (∀ x, 0 ≤ x → x < m → tgt (pO m f) x = f x) ∧ (pO m f).length ≤ ys.length := by
  have fr : ∀ x, 0 ≤ x → x < m → 0 ≤ f x ∧ f x < m := fun x h0 h1 => by
    rw [h.val x h0 h1]
    exact ⟨Int.emod_nonneg _ (by omega), Int.emod_lt_of_pos _ (by omega)⟩
  have hys : 1 ≤ ys.length := List.length_pos_of_mem (hy 0 (by omega) (by omega))
  by_cases hA : ∃ x, 0 ≤ x ∧ x < m ∧ L x = L (x - 1) + m
  · obtain ⟨x, x0, x1, hx⟩ := hA
    have cst : ∀ z, x ≤ z → z ≤ x + m - 1 → L z = L x := fun z z0 z1 => by
      have a := h.mono x z z0
      have b := h.mono z (x - 1 + m) (by omega)
      have e := h.per (x - 1)
      omega
    have all : ∀ y, 0 ≤ y → y < m → f y = L x % m := fun y y0 y1 => by
      rw [h.val y y0 y1]
      by_cases hxy : x ≤ y
      · rw [cst y hxy (by omega)]
      · have a := cst (y + m) (by omega) (by omega)
        rw [← a, h.per, Int.add_emod_right]
    have ec : chF m f = [] := by
      unfold chF
      rw [List.filter_eq_nil_iff]
      intro y hy
      obtain ⟨y0, y1⟩ := upto_mem.mp hy
      rw [decide_eq_true_eq, all y y0 y1, all _ (Int.emod_nonneg _ (by omega)) (Int.emod_lt_of_pos _ (by omega))]
      exact fun z => z rfl
    have ep : pO m f = [(0, f 0)] := by
      unfold pO
      rw [if_pos ec]
    have r0 := fr 0 (by omega) (by omega)
    rw [ep]
    refine ⟨tool_of_one r0.1 r0.2, fun y y0 y1 => ?_, hys⟩
    obtain ⟨q, hq, e, _⟩ := tgt_arc (List.cons_ne_nil (0, f 0) []) (List.pairwise_singleton _ _) y
    rw [e, List.mem_singleton.mp hq, all y y0 y1]
    exact all 0 (by omega) (by omega)
  · have nA : ∀ x, 0 ≤ x → x < m → L x ≠ L (x - 1) + m := fun x x0 x1 e => hA ⟨x, x0, x1, e⟩
    have cm : ∀ {x}, x ∈ chF m f ↔ 0 ≤ x ∧ x < m ∧ L x ≠ L (x - 1) := by
      intro x
      rw [chF_mem]
      constructor
      · intro ⟨x0, x1, hc⟩
        refine ⟨x0, x1, fun e => hc ?_⟩
        rw [h.before hm x0 x1, h.val x x0 x1, e]
      · intro ⟨x0, x1, hc⟩
        refine ⟨x0, x1, ?_⟩
        rw [h.before hm x0 x1, h.val x x0 x1]
        have a := h.mono (x - 1) x (by omega)
        have b := h.le hm x
        have c := nA x x0 x1
        exact mod_ne (by omega) (by omega)
    have whole : L (m - 1) = L (-1) + m := by
      have := h.per (-1)
      rw [show (-1 : Int) + m = m - 1 by omega] at this
      exact this
    have step : ∀ a b, -1 ≤ a → a ≤ b → b < m → (∀ x ∈ chF m f, ¬ (a < x ∧ x ≤ b)) → L b = L a := by
      intro a b a0 ab bm hn
      refine h.const (b - a).toNat a b (by omega) fun x x1 x2 => ?_
      by_cases z : L x = L (x - 1)
      · exact z
      · exact absurd ⟨x1, x2⟩ (hn x (cm.mpr ⟨by omega, by omega, z⟩))
    have asc := chF_asc m f
    have cne : chF m f ≠ [] := by
      intro e
      have := step (-1) (m - 1) (by omega) (by omega) (by omega) fun x hx => by rw [e] at hx; exact (List.not_mem_nil hx).elim
      omega
    obtain ⟨x0, r, ec⟩ : ∃ x0 r, chF m f = x0 :: r := by
      cases e : chF m f with
      | nil => exact absurd e cne
      | cons a b => exact ⟨a, b, rfl⟩
    have low : ∀ x ∈ chF m f, x0 ≤ x := fun x hx => by
      rw [ec] at hx asc
      rcases List.mem_cons.mp hx with z | z
      · omega
      · have := (List.pairwise_cons.mp asc).1 x z
        omega
    obtain ⟨x00, x0m, x0c⟩ := cm.mp (show x0 ∈ chF m f by rw [ec]; exact List.mem_cons_self)
    have bnd : ∀ x, x0 ≤ x → x < m → 0 ≤ L x - L x0 ∧ L x - L x0 < m := fun x h0 h1 => by
      have a := h.mono x0 x h0
      have b := h.mono x (m - 1) (by omega)
      have c := h.mono (-1) (x0 - 1) (by omega)
      have d := h.mono (x0 - 1) x0 (by omega)
      omega
    have lt : ∀ x y, x ∈ chF m f → y ∈ chF m f → x < y → L x < L y := fun x y hx hy hxy => by
      obtain ⟨_, _, c⟩ := cm.mp hy
      have a := h.mono x (y - 1) (by omega)
      have b := h.mono (y - 1) y (by omega)
      omega
    have dif : ∀ x ∈ chF m f, (f x - f x0) % m = L x - L x0 := fun x hx => by
      obtain ⟨a0, a1, _⟩ := cm.mp hx
      have b := bnd x (low x hx) a1
      rw [h.val x a0 a1, h.val x0 x00 x0m, ← Int.sub_emod, Int.emod_eq_of_lt b.1 b.2]
    have ep : pO m f = (chF m f).map fun x => (x, f x) := by
      unfold pO
      rw [if_neg cne]
    have two : r ≠ [] := by
      intro e
      rw [e] at ec
      have hn : ∀ x ∈ chF m f, x = x0 := fun x hx => by
        rw [ec] at hx
        exact List.mem_singleton.mp hx
      have a := step (-1) (x0 - 1) (by omega) (by omega) (by omega) fun x hx z => by
        have := hn x hx
        omega
      have b := step x0 (m - 1) (by omega) (by omega) (by omega) fun x hx z => by
        have := hn x hx
        omega
      have := nA x0 x00 x0m
      omega
    have plen : (pO m f).length ≤ ys.length := by
      have e : (pO m f).length = ((chF m f).map f).length := by rw [ep, List.length_map, List.length_map]
      rw [e]
      refine pigeon ?_ fun y hy' => ?_
      · have nd : ((chF m f).map f).Pairwise (fun a b => a ≠ b) := by
          rw [List.pairwise_map]
          refine List.Pairwise.imp_of_mem ?_ asc
          intro a b ha hb hab e
          have d1 := dif a ha
          have d2 := dif b hb
          rw [e] at d1
          have := lt a b ha hb hab
          omega
        exact nd
      · rw [List.mem_map] at hy'
        obtain ⟨x, hx, e⟩ := hy'
        obtain ⟨a0, a1, _⟩ := cm.mp hx
        rw [← e]
        exact hy x a0 a1
    have len2 : 2 ≤ (pO m f).length := by
      rw [ep, List.length_map, ec]
      cases r with
      | nil => exact absurd rfl two
      | cons a b => exact Nat.le_add_left _ _
    have hd : ((pO m f).headD (0, 0)).2 = f x0 := by
      rw [ep, ec]
      rfl
    have it : IsTool m (pO m f) := by
      refine ⟨by omega, by omega, fun p hp => ?_, ?_, ?_, fun e => by omega⟩
      · rw [ep, List.mem_map] at hp
        obtain ⟨x, hx, e⟩ := hp
        obtain ⟨a0, a1, _⟩ := cm.mp hx
        subst e
        exact ⟨⟨a0, a1⟩, fr x a0 a1⟩
      · rw [ep, List.pairwise_map]
        exact asc
      · rw [hd, ep, List.pairwise_map]
        refine List.Pairwise.imp_of_mem ?_ asc
        intro a b ha hb hab
        show (f a - f x0) % m < (f b - f x0) % m
        rw [dif a ha, dif b hb]
        have := lt a b ha hb hab
        omega
    refine ⟨it, fun y y0 y1 => ?_, plen⟩
    obtain ⟨q, hq, e, hh⟩ := tgt_arc it.ne it.asc y
    have inp : ∀ {x}, x ∈ chF m f → (x, f x) ∈ pO m f := fun {x} hx => by
      rw [ep, List.mem_map]
      exact ⟨x, hx, rfl⟩
    rw [e]
    rw [ep, List.mem_map] at hq
    obtain ⟨x, hx, eq⟩ := hq
    subst eq
    obtain ⟨a0, a1, _⟩ := cm.mp hx
    show f x = f y
    rw [h.val x a0 a1, h.val y y0 y1]
    rcases hh with ⟨h2, h3⟩ | ⟨h2, h3⟩
    · have h2 : x ≤ y := h2
      rw [step x y (by omega) h2 y1 fun z hz hzz => by
        have : z ≤ x := h3 _ (inp hz) hzz.2
        omega]
    · have e1 := step x (m - 1) (by omega) (by omega) (by omega) fun z hz hzz => by
        have : z ≤ x := h3 _ (inp hz)
        omega
      have e2 := step (-1) y (by omega) (by omega) y1 fun z hz hzz => h2 _ (inp hz) hzz.2
      rw [e2, ← e1, whole, Int.add_emod_right]
end
/-! closed under what the program does -/
theorem lf_tgt {m : Int} {tl : List (Int × Int)} (hm : 1 ≤ m) (it : IsTool m tl) : ∃ L, Lf m (tgt tl) L ∧ ∀ x, tgt tl (x % m) = L x % m := by
  obtain ⟨L, P, h⟩ := lift_of (by omega) it
  refine ⟨L, ⟨h.mono, h.per, fun x h0 h1 => ?_⟩, h.tg⟩
  rw [← h.tg, Int.emod_eq_of_lt h0 h1]
theorem lf_id {m : Int} : Lf m (fun x => x) (fun x => x) := ⟨fun _ _ h => h, fun _ => rfl, fun x h0 h1 => (Int.emod_eq_of_lt h0 h1).symm⟩
theorem lf_push {m t : Int} {f L : Int → Int} {tl : List (Int × Int)} (hm : 1 ≤ m) (h : Lf m f L) (it : IsTool m tl) : ∃ L', Lf m (fun x => tgt tl ((f x + t) % m)) L' := by
  obtain ⟨Lt, ht, tg⟩ := lf_tgt hm it
  refine ⟨fun x => Lt (L x + t), fun x y hxy => ht.mono _ _ (by have := h.mono x y hxy; omega), fun x => ?_, fun x h0 h1 => ?_⟩
  · show Lt (L (x + m) + t) = Lt (L x + t) + m
    rw [h.per, show L x + m + t = L x + t + m by omega, ht.per]
  · show tgt tl ((f x + t) % m) = Lt (L x + t) % m
    rw [h.val x h0 h1, Int.emod_add_emod, tg]
theorem lf_turn {m t : Int} {tl : List (Int × Int)} (hm : 1 ≤ m) (it : IsTool m tl) : ∃ L', Lf m (fun x => (tgt tl ((x + t) % m) - t) % m) L' := by
  obtain ⟨Lt, ht, tg⟩ := lf_tgt hm it
  refine ⟨fun x => Lt (x + t) - t, fun x y hxy => ?_, fun x => ?_, fun x h0 h1 => ?_⟩
  · have := ht.mono (x + t) (y + t) (by omega)
    show Lt (x + t) - t ≤ Lt (y + t) - t
    omega
  · show Lt (x + m + t) - t = Lt (x + t) - t + m
    rw [show x + m + t = x + t + m by omega, ht.per]
    omega
  · show (tgt tl ((x + t) % m) - t) % m = (Lt (x + t) - t) % m
    rw [tg, Int.emod_sub_emod]
theorem lf_mirror {m : Int} {tl : List (Int × Int)} (hm : 1 ≤ m) (it : IsTool m tl) : ∃ L', Lf m (fun x => (0 - tgt tl ((0 - x) % m)) % m) L' := by
  obtain ⟨Lt, ht, tg⟩ := lf_tgt hm it
  refine ⟨fun x => 0 - Lt (0 - x), fun x y hxy => ?_, fun x => ?_, fun x h0 h1 => ?_⟩
  · have := ht.mono (0 - y) (0 - x) (by omega)
    show 0 - Lt (0 - x) ≤ 0 - Lt (0 - y)
    omega
  · show 0 - Lt (0 - (x + m)) = 0 - Lt (0 - x) + m
    have := ht.per (0 - (x + m))
    rw [show 0 - (x + m) + m = 0 - x by omega] at this
    omega
  · show (0 - tgt tl ((0 - x) % m)) % m = (0 - Lt (0 - x)) % m
    rw [tg, Int.sub_emod, Int.emod_emod_of_dvd _ (Int.dvd_refl m), ← Int.sub_emod]
theorem tgt_in {m : Int} {tl : List (Int × Int)} (it : IsTool m tl) (x : Int) : tgt tl x ∈ tl.map (·.2) := by
  obtain ⟨q, hq, e, _⟩ := tgt_arc it.ne it.asc x
  rw [e]
  exact List.mem_map_of_mem hq
/-- a tool made from another map -/
structure Made (m : Int) (g : Int → Int) : Prop where
  it : IsTool m (pO m g)
  at_ : ∀ x, 0 ≤ x → x < m → tgt (pO m g) x = g x
theorem made_tgt {m : Int} {tl : List (Int × Int)} (hm : 1 ≤ m) (it : IsTool m tl) : Made m (tgt tl) := ⟨by rw [pO_tgt (by omega) it]; exact it, fun x _ _ => by rw [pO_tgt (by omega) it]⟩
theorem made_turn {m t : Int} {tl : List (Int × Int)} (hm : 1 ≤ m) (it : IsTool m tl) : Made m (fun x => (tgt tl ((x + t) % m) - t) % m) := by
  obtain ⟨L, h⟩ := lf_turn (t := t) hm it
  obtain ⟨h1, h2, _⟩ := lf_tool h hm (ys := (tl.map (·.2)).map fun y => (y - t) % m) (fun x _ _ => List.mem_map_of_mem (tgt_in it _)) (by rw [List.length_map, List.length_map]; exact it.len2)
  exact ⟨h1, h2⟩
theorem made_mirror {m : Int} {tl : List (Int × Int)} (hm : 1 ≤ m) (it : IsTool m tl) : Made m (fun x => (0 - tgt tl ((0 - x) % m)) % m) := by
  obtain ⟨L, h⟩ := lf_mirror hm it
  obtain ⟨h1, h2, _⟩ := lf_tool h hm (ys := (tl.map (·.2)).map fun y => (0 - y) % m) (fun x _ _ => List.mem_map_of_mem (tgt_in it _)) (by rw [List.length_map, List.length_map]; exact it.len2)
  exact ⟨h1, h2⟩
theorem made_push {m t : Int} {f L : Int → Int} {tl : List (Int × Int)} (hm : 1 ≤ m) (h : Lf m f L) (it : IsTool m tl) : Made m (fun x => tgt tl ((f x + t) % m)) := by
  obtain ⟨L, h⟩ := lf_push (t := t) hm h it
  obtain ⟨h1, h2, _⟩ := lf_tool h hm (ys := tl.map (·.2)) (fun x _ _ => tgt_in it _) (by rw [List.length_map]; exact it.len2)
  exact ⟨h1, h2⟩
theorem Made.eq {m : Int} {g h : Int → Int} (hm : 0 < m) (a : Made m g) (e : ∀ x, 0 ≤ x → x < m → tgt (pO m g) x = h x) : pO m g = pO m h := by
  exact (pO_tgt hm a.it).symm.trans (pO_congr hm e)
theorem Made.tab {m : Int} {g : Int → Int} (a : Made m g) : (upto m).map g = (upto m).map (tgt (pO m g)) := by
  apply List.map_congr_left
  intro x hx
  obtain ⟨h0, h1⟩ := upto_mem.mp hx
  exact (a.at_ x h0 h1).symm

/-! ### values judged -/
def isNumD : PyData → Bool
  | .int _ => true
  | _ => false
def numIn (lo hi : Int) : PyData → Bool
  | .int i => decide (lo ≤ i) && decide (i ≤ hi)
  | _ => false
def tupIn (lo hi : Int) : PyData → Bool
  | .tuple ds => decide (lo ≤ (ds.length : Nat)) && decide (((ds.length : Nat) : Int) ≤ hi)
  | _ => false
def isTabD (m : Int) : PyData → Bool
  | .tuple ds => decide (((ds.length : Nat) : Int) = m) && ds.all (numIn 0 (m - 1))
  | _ => false
def rngB (m : Int) (p : Int × Int) : Bool := numIn 0 (m - 1) (.int p.1) && numIn 0 (m - 1) (.int p.2)
def tlAt (tl : List (Int × Int)) (i : Nat) : Int × Int := tl.getD i (0, 0)
def bF (tl : List (Int × Int)) (i : Nat) : Bool := if tl.length = 1 then decide ((tlAt tl i).1 = 0) else decide (i = 0) || decide ((tlAt tl (i - 1)).1 < (tlAt tl i).1)
def tF (m : Int) (tl : List (Int × Int)) (i : Nat) : Bool := decide (i = 0) || decide (((tlAt tl (i - 1)).2 - (tlAt tl 0).2) % m < ((tlAt tl i).2 - (tlAt tl 0).2) % m)
def itemB (m : Int) (tl : List (Int × Int)) (i : Nat) : Bool := rngB m (tlAt tl i) && bF tl i && tF m tl i
def toolB (m : Int) (tl : List (Int × Int)) : Bool := (decide (1 ≤ tl.length) && decide (tl.length ≤ 12)) && (List.range tl.length).all (itemB m tl)
theorem tlAt_of {tl : List (Int × Int)} {i : Nat} {p : Int × Int} (h : tl[i]? = some p) : tlAt tl i = p := by
  unfold tlAt
  rw [List.getD_eq_getElem?_getD, h]
  rfl
theorem at_tool {tl : List (Int × Int)} {i : Nat} (h : i < tl.length) : atI (tl.map pairD) ((i : Nat) : Int) = some (pairD (tlAt tl i)) := by
  apply atI_nat
  rw [List.getElem?_map, List.getElem?_eq_getElem h, tlAt_of (List.getElem?_eq_getElem h)]
  rfl
theorem pw_of_step {α : Type} {R : α → α → Prop} (tr : ∀ x y z, R x y → R y z → R x z) : ∀ (l : List α), (∀ (i : Nat) x y, l[i]? = some x → l[i + 1]? = some y → R x y) → l.Pairwise R
  | [], _ => .nil
  | [x], _ => List.pairwise_singleton _ _
  | x :: y :: l, h => by
    have ih := pw_of_step tr (y :: l) fun i a b ha hb => h (i + 1) a b ha hb
    have xy := h 0 x y rfl rfl
    refine List.pairwise_cons.mpr ⟨fun z hz => ?_, ih⟩
    rcases List.mem_cons.mp hz with e | e
    · rw [e]
      exact xy
    · exact tr x y z xy ((List.pairwise_cons.mp ih).1 z e)
theorem headD_at (tl : List (Int × Int)) : tl.headD (0, 0) = tlAt tl 0 := by cases tl <;> rfl
theorem toolB_iff {m : Int} {tl : List (Int × Int)} : toolB m tl = true ↔ IsTool m tl := by
  unfold toolB
  rw [Bool.and_eq_true, Bool.and_eq_true, decide_eq_true_eq, decide_eq_true_eq, List.all_eq_true]
  constructor
  · intro ⟨⟨h1, h2⟩, h⟩
    have one : ∀ i, i < tl.length → rngB m (tlAt tl i) = true ∧ bF tl i = true ∧ tF m tl i = true := fun i hi => by
      have := h i (List.mem_range.mpr hi)
      unfold itemB at this
      rw [Bool.and_eq_true, Bool.and_eq_true] at this
      exact ⟨this.1.1, this.1.2, this.2⟩
    have rg : ∀ p ∈ tl, (0 ≤ p.1 ∧ p.1 < m) ∧ 0 ≤ p.2 ∧ p.2 < m := fun p hp => by
      obtain ⟨i, hi⟩ := List.getElem?_of_mem hp
      have a := (one i (List.getElem?_eq_some_iff.mp hi).1).1
      rw [tlAt_of hi] at a
      unfold rngB numIn at a
      simp only [Bool.and_eq_true, decide_eq_true_eq] at a
      omega
    refine ⟨h1, h2, rg, ?_, ?_, fun e p hp => ?_⟩
    · refine pw_of_step (fun x y z h1 h2 => by omega) tl fun i x y hx hy => ?_
      have hl := (List.getElem?_eq_some_iff.mp hy).1
      have a := (one (i + 1) hl).2.1
      unfold bF at a
      rw [if_neg (by omega), tlAt_of hy, show i + 1 - 1 = i from rfl, tlAt_of hx, Bool.or_eq_true, decide_eq_true_eq, decide_eq_true_eq] at a
      omega
    · rw [headD_at]
      refine pw_of_step (R := fun x y => (x.2 - (tlAt tl 0).2) % m < (y.2 - (tlAt tl 0).2) % m) (fun x y z h1 h2 => by omega) tl fun i x y hx hy => ?_
      have hl := (List.getElem?_eq_some_iff.mp hy).1
      have a := (one (i + 1) hl).2.2
      unfold tF at a
      rw [tlAt_of hy, show i + 1 - 1 = i from rfl, tlAt_of hx, Bool.or_eq_true, decide_eq_true_eq, decide_eq_true_eq] at a
      rcases a with z | z
      · omega
      · exact z
    · obtain ⟨i, hi⟩ := List.getElem?_of_mem hp
      have a := (one i (List.getElem?_eq_some_iff.mp hi).1).2.1
      unfold bF at a
      rw [if_pos e, tlAt_of hi, decide_eq_true_eq] at a
      exact a
  · intro it
    refine ⟨⟨it.len1, it.len2⟩, fun i hi => ?_⟩
    have hl := List.mem_range.mp hi
    have hg := List.getElem?_eq_getElem hl
    have mem : tlAt tl i ∈ tl := by rw [tlAt_of hg]; exact List.getElem_mem hl
    have r := it.rng _ mem
    have a1 : rngB m (tlAt tl i) = true := by
      unfold rngB numIn
      simp only [Bool.and_eq_true, decide_eq_true_eq]
      omega
    have a2 : bF tl i = true := by
      unfold bF
      by_cases e : tl.length = 1
      · rw [if_pos e, decide_eq_true_eq]
        exact it.one e _ mem
      · rw [if_neg e, Bool.or_eq_true, decide_eq_true_eq, decide_eq_true_eq]
        by_cases z : i = 0
        · exact .inl z
        · have hl' : i - 1 < tl.length := by omega
          refine .inr ?_
          rw [tlAt_of hg, tlAt_of (List.getElem?_eq_getElem hl')]
          exact List.pairwise_iff_getElem.mp it.asc (i - 1) i hl' hl (by omega)
    have a3 : tF m tl i = true := by
      unfold tF
      rw [Bool.or_eq_true, decide_eq_true_eq, decide_eq_true_eq]
      by_cases z : i = 0
      · exact .inl z
      · have hl' : i - 1 < tl.length := by omega
        refine .inr ?_
        have := List.pairwise_iff_getElem.mp it.ord (i - 1) i hl' hl (by omega)
        rw [headD_at] at this
        rw [tlAt_of hg, tlAt_of (List.getElem?_eq_getElem hl')]
        exact this
    unfold itemB
    rw [a1, a2, a3]
    rfl
def RNum : RP := fun ds A => ∃ d, ds = [d] ∧ A (.bool (isNumD d))
def RNumW : RP := fun ds A => ∃ d lo hi, ds = [d, .int lo, .int hi] ∧ A (.bool (numIn lo hi d))
def RPlace : RP := fun ds A => ∃ m d, ds = [.int m, d] ∧ A (.bool (numIn 0 (m - 1) d))
def RTupW : RP := fun ds A => ∃ d lo hi, ds = [d, .int lo, .int hi] ∧ A (.bool (tupIn lo hi d))
def RPairV : RP := fun ds A => ∃ d, ds = [d] ∧ A (.bool (tupIn 2 2 d))
def RPPl : RP := fun ds A => ∃ m p, ds = [.int m, pairD p] ∧ A (.bool (rngB m p))
def RBf : RP := fun ds A => ∃ (tl : List (Int × Int)) (i : Nat), ds = [toolD tl, .int i] ∧ i < tl.length ∧ A (.bool (bF tl i))
def RTf : RP := fun ds A => ∃ (m : Int) (tl : List (Int × Int)) (i : Nat), ds = [.int m, toolD tl, .int i] ∧ 1 ≤ m ∧ i < tl.length ∧ A (.bool (tF m tl i))
def RIe : RP := fun ds A => ∃ (m : Int) (tl : List (Int × Int)) (i : Nat), ds = [.int m, toolD tl, .int i] ∧ 1 ≤ m ∧ i < tl.length ∧ (itemB m tl i = true → A .none) ∧ (itemB m tl i = false → ∀ x : Str, A (.str x))
def RTe : RP := fun ds A => ∃ (m : Int) (tl : List (Int × Int)), ds = [.int m, toolD tl] ∧ 1 ≤ m ∧ tl.length ≤ 1000 ∧ (toolB m tl = true → A .none) ∧ (toolB m tl = false → ∀ xs, A (.tuple xs))
def RIt : RP := fun ds A => ∃ (m : Int) (tl : List (Int × Int)), ds = [.int m, toolD tl] ∧ 1 ≤ m ∧ tl.length ≤ 1000 ∧ A (.bool (toolB m tl))
def RIsTab : RP := fun ds A => ∃ m d, ds = [.int m, d] ∧ 1 ≤ m ∧ m ≤ 60 ∧ A (.bool (isTabD m d))
def RPairs : RP := fun ds A => ∃ (m : Int) (g : Int → Int), ds = [tupD ((upto m).map g)] ∧ 1 ≤ m ∧ m ≤ 60 ∧ A (toolD (pO m g))
def RToolOf : RP := fun ds A => ∃ m d, ds = [.int m, d] ∧ 1 ≤ m ∧ m ≤ 60 ∧ (isTabD m d = false → A .none) ∧ (isTabD m d = true → ∃ g : Int → Int, d = tupD ((upto m).map g) ∧ A (if toolB m (pO m g) = true then toolD (pO m g) else .none))
def RPush : RP := fun ds A => ∃ (m : Int) (tl : List (Int × Int)) (t p : Int), ds = [.int m, toolD tl, .int t, .int p] ∧ 1 ≤ m ∧ tl ≠ [] ∧ A (.int (tgt tl ((p + t) % m)))
def turnF (m : Int) (tl : List (Int × Int)) (t : Int) : Int → Int := fun x => (tgt tl ((x + t) % m) - t) % m
def mirF (m : Int) (tl : List (Int × Int)) : Int → Int := fun x => (0 - tgt tl ((0 - x) % m)) % m
def RTurned : RP := fun ds A => ∃ (m : Int) (tl : List (Int × Int)) (t : Int), ds = [.int m, toolD tl, .int t] ∧ IsTool m tl ∧ 1 ≤ m ∧ m ≤ 60 ∧ A (toolD (pO m (turnF m tl t)))
def RMirr : RP := fun ds A => ∃ (m : Int) (tl : List (Int × Int)), ds = [.int m, toolD tl] ∧ IsTool m tl ∧ 1 ≤ m ∧ m ≤ 60 ∧ A (toolD (pO m (mirF m tl)))
theorem pO_len (m : Int) (g : Int → Int) (hm : m ≤ 60) : (pO m g).length ≤ 1000 := by
  unfold pO
  split
  · exact Nat.le_of_ble_eq_true rfl
  · rw [List.length_map]
    unfold chF
    refine Nat.le_trans (List.length_filter_le _ _) ?_
    rw [upto_len]
    omega
theorem tab_is {m : Int} {g : Int → Int} (hm : 0 ≤ m) (hg : ∀ x, 0 ≤ x → x < m → 0 ≤ g x ∧ g x < m) : isTabD m (tupD ((upto m).map g)) = true := by
  show (decide (((((((upto m).map g).map PyData.int).length : Nat)) : Int) = m) && (((upto m).map g).map PyData.int).all (numIn 0 (m - 1))) = true
  rw [tup_len g hm, decide_eq_true rfl, Bool.true_and, List.all_eq_true]
  intro d hd
  rw [List.mem_map] at hd
  obtain ⟨y, hy, e⟩ := hd
  rw [List.mem_map] at hy
  obtain ⟨x, hx, e2⟩ := hy
  obtain ⟨h0, h1⟩ := upto_mem.mp hx
  have := hg x h0 h1
  subst e e2
  show (decide (0 ≤ g x) && decide (g x ≤ m - 1)) = true
  rw [decide_eq_true this.1, decide_eq_true (by omega)]
  rfl
theorem tab_fun {m : Int} {ds : List PyData} (h : isTabD m (.tuple ds) = true) : ∃ g : Int → Int, ds = ((upto m).map g).map PyData.int := by
  have h : (decide (((ds.length : Nat) : Int) = m) && ds.all (numIn 0 (m - 1))) = true := h
  rw [Bool.and_eq_true, decide_eq_true_eq, List.all_eq_true] at h
  obtain ⟨h1, h2⟩ := h
  refine ⟨fun x => match ds.getD x.toNat .none with | .int i => i | _ => 0, ?_⟩
  apply List.ext_getElem?
  intro i
  by_cases hi : i < ds.length
  · rw [List.getElem?_map, List.getElem?_map]
    unfold upto
    rw [List.getElem?_map, List.getElem?_range (by omega), List.getElem?_eq_getElem hi]
    show some ds[i] = some (PyData.int (match ds.getD ((i : Nat) : Int).toNat .none with | .int i => i | _ => 0))
    rw [Int.toNat_natCast, List.getD_eq_getElem?_getD, List.getElem?_eq_getElem hi]
    have := h2 ds[i] (List.getElem_mem hi)
    revert this
    show numIn 0 (m - 1) ds[i] = true → some ds[i] = some (PyData.int (match ds[i] with | .int i => i | _ => 0))
    generalize ds[i] = z
    cases z <;> intro hz <;> first | rfl | cases hz
  · rw [List.getElem?_eq_none (by omega), List.getElem?_eq_none (by rw [List.length_map, List.length_map, upto_len]; omega)]
/-! a list or a tuple as a test -/
def tTru (K : PySem.W.Frag) (te : TE) : TT := fun σ H Q => te σ H fun x H' => ∃ k, TruV K x H' k ∧ Q k H'
theorem kptru {X : Cx} {a : Expr} {ta : TE} (K : PySem.W.Frag) (h : PE X a ta) (hK : X.K = K := by rfl) (he : ∀ whole, isTrue a X.env whole = (do let v ← whole; standAt a.pos; holding [v] (truthy v)) := by intro _; rfl) : PT X a (tTru K ta) := by
  subst hK
  exact pt_truth h he
theorem isEmpty_dv {K : PySem.W.Frag} {H : Hp} {B : List Addr} {vs : List V} {ds : List PyData} (h : DvAll K H B vs ds) : vs.isEmpty = ds.isEmpty := by
  cases h <;> rfl
/-- a list or a tuple as a test -/
def aTru (ae : AE) : AT := fun s A => ae s fun d s1 => ∃ ds, itemsOf d = some ds ∧ A (!ds.isEmpty) s1
theorem rt_tru {K : PySem.W.Frag} {Δ : DK} {te : TE} {ae : AE} (h1 : RE K Δ te ae) : RT K Δ (tTru K te) (aTru ae) := by
  intro C B σ H s Q A E h q
  refine h1 C B σ H s _ _ E h fun v d H1 s1 a1 m1 E1 dv => ?_
  obtain ⟨ds, e, a⟩ := a1
  rcases items_cases e with z | z
  · subst z
    obtain ⟨p, us, ep, hp, _, hd⟩ := dv.lstI
    subst ep
    refine ⟨_, .inl ⟨us, SqL.of hp, rfl⟩, ?_⟩
    rw [isEmpty_dv hd]
    exact q _ _ _ a m1 E1
  · subst z
    obtain ⟨p, us, ep, hp, hd⟩ := dv.tupI
    subst ep
    refine ⟨_, .inr (.inl ⟨us, hp, rfl⟩), ?_⟩
    rw [isEmpty_dv hd]
    exact q _ _ _ a m1 E1
theorem enum_upto {m : Int} (g : Int → Int) (hm : 0 ≤ m) : enumD (((upto m).map g).map PyData.int) = (upto m).map fun x => PyData.tuple [.int x, .int (g x)] := by
  unfold enumD
  rw [List.length_map, List.length_map, upto_len]
  have e : (upto m).map (fun x => PyData.tuple [.int x, .int (g x)]) = (List.range m.toNat).map fun i => PyData.tuple [.int ((i : Nat) : Int), .int (g ((i : Nat) : Int))] := by
    unfold upto
    rw [List.map_map]
    rfl
  rw [e]
  apply List.map_congr_left
  intro i hi
  have hi := List.mem_range.mp hi
  rw [List.getD_eq_getElem?_getD, List.getElem?_map, List.getElem?_map]
  unfold upto
  rw [List.getElem?_map, List.getElem?_range hi]
  rfl
theorem back_at {m x : Int} (g : Int → Int) (h0 : 0 ≤ x) (h1 : x < m) : atI (((upto m).map g).map PyData.int) (x - 1) = some (.int (g ((x - 1) % m))) := by
  by_cases z : x = 0
  · subst z
    rw [back_zero (by omega), show (0 : Int) - 1 = -1 from rfl]
    apply atI_neg1
    rw [List.length_map, List.length_map, upto_len]
    unfold upto
    rw [List.getElem?_map, List.getElem?_map, List.getElem?_map, List.getElem?_range (by omega)]
    show some (PyData.int (g ((m.toNat - 1 : Nat) : Int))) = _
    rw [show ((m.toNat - 1 : Nat) : Int) = m - 1 by omega]
  · rw [back_lt (by omega) h1]
    exact upto_at g (by omega) (by omega)

/-! ### the laws' own judgement of a tool -/
theorem canLay_pairs : ∀ tl : List (Int × Int), PyData.canLayAll0 (tl.map pairD) = true ∧ PyData.depthAll (tl.map pairD) ≤ 1
  | [] => ⟨rfl, by decide⟩
  | p :: r => by
    obtain ⟨h1, h2⟩ := canLay_pairs r
    constructor
    · show ((pairD p).canLay0 && PyData.canLayAll0 (r.map pairD)) = true
      rw [h1]
      rfl
    · show max (pairD p).depth (PyData.depthAll (r.map pairD)) ≤ 1
      exact Nat.max_le.mpr ⟨Nat.le_refl _, h2⟩
theorem shaped_tool (tl : List (Int × Int)) : SeqAt.shaped (toolD tl) = true := by
  obtain ⟨h1, h2⟩ := canLay_pairs tl
  unfold SeqAt.shaped
  rw [show (toolD tl).canLay0 = PyData.canLayAll0 (tl.map pairD) from rfl, h1, Bool.true_and, decide_eq_true_eq, show (toolD tl).depth = PyData.depthAll (tl.map pairD) + 1 from rfl]
  omega
theorem eqv_shaped {d : PyData} (h : SeqAt.shaped d = true) : PyData.eqv d d = true := PySem.SeqAt.eqv_refl d (SeqAt.canLay_of_shaped h)
theorem shaped_tup (ns : List Int) : SeqAt.shaped (tupD ns) = true := by
  obtain ⟨h1, h2⟩ := shaped_flat ns
  unfold SeqAt.shaped
  rw [show (tupD ns).canLay0 = PyData.canLayAll0 (ns.map PyData.int) from rfl, h1, show (tupD ns).depth = PyData.depthAll (ns.map PyData.int) + 1 from rfl, h2]
  rfl
/-- two things that are the same: == and != -/
theorem neSame {d e : PyData} {s : AS} {A : PyData → AS → Prop} (h : SeqAt.shaped d = true) (he : d = e) (a : A (.bool false) s) : aEqD true d e s A := by
  subst he
  refine ⟨h, h, ?_⟩
  rw [eqv_shaped h]
  exact a
theorem eqSame {d e : PyData} {s : AS} {A : PyData → AS → Prop} (h : SeqAt.shaped d = true) (he : d = e) (a : A (.bool true) s) : aEqD false d e s A := by
  subst he
  refine ⟨h, h, ?_⟩
  rw [eqv_shaped h]
  exact a
def risB (m : Int) (tl : List (Int × Int)) (k : Nat) : Bool := decide ((tlAt tl k).1 ≥ (tlAt tl (k + 1)).1) || decide (((tlAt tl k).2 - (tlAt tl 0).2) % m ≥ ((tlAt tl (k + 1)).2 - (tlAt tl 0).2) % m)
theorem rise_iff {m : Int} {tl : List (Int × Int)} (h1 : 1 ≤ tl.length) (h2 : tl.length ≤ 12) (hr : ∀ p ∈ tl, rngB m p = true) :
    (((List.range (tl.length - 1)).all fun k => !risB m tl k) && (decide (1 < tl.length) || decide ((tlAt tl 0).1 = 0))) = toolB m tl := by
  have rg : ∀ i, i < tl.length → rngB m (tlAt tl i) = true := fun i hi => by
    rw [tlAt_of (List.getElem?_eq_getElem hi)]
    exact hr _ (List.getElem_mem hi)
  apply Bool.eq_iff_iff.mpr
  unfold toolB
  rw [Bool.and_eq_true, Bool.and_eq_true, Bool.and_eq_true, decide_eq_true_eq, decide_eq_true_eq, Bool.or_eq_true, decide_eq_true_eq, decide_eq_true_eq, List.all_eq_true, List.all_eq_true]
  constructor
  · intro ⟨ha, hb⟩
    refine ⟨⟨h1, h2⟩, fun i hi => ?_⟩
    have hi := List.mem_range.mp hi
    have st : i ≠ 0 → (tlAt tl (i - 1)).1 < (tlAt tl i).1 ∧ ((tlAt tl (i - 1)).2 - (tlAt tl 0).2) % m < ((tlAt tl i).2 - (tlAt tl 0).2) % m := fun z => by
      have := ha (i - 1) (List.mem_range.mpr (by omega))
      unfold risB at this
      rw [show i - 1 + 1 = i by omega, Bool.not_eq_true', Bool.or_eq_false_iff, decide_eq_false_iff_not, decide_eq_false_iff_not] at this
      omega
    unfold itemB bF tF
    rw [rg i hi, Bool.true_and, Bool.and_eq_true]
    constructor
    · by_cases e : tl.length = 1
      · rw [if_pos e, decide_eq_true_eq, show i = 0 by omega]
        omega
      · rw [if_neg e, Bool.or_eq_true, decide_eq_true_eq, decide_eq_true_eq]
        by_cases z : i = 0
        · exact .inl z
        · exact .inr (st z).1
    · rw [Bool.or_eq_true, decide_eq_true_eq, decide_eq_true_eq]
      by_cases z : i = 0
      · exact .inl z
      · exact .inr (st z).2
  · intro ⟨_, ha⟩
    have it : ∀ i, i < tl.length → bF tl i = true ∧ tF m tl i = true := fun i hi => by
      have := ha i (List.mem_range.mpr hi)
      unfold itemB at this
      rw [Bool.and_eq_true, Bool.and_eq_true] at this
      exact ⟨this.1.2, this.2⟩
    refine ⟨fun k hk => ?_, ?_⟩
    · have hk := List.mem_range.mp hk
      obtain ⟨b1, b2⟩ := it (k + 1) (by omega)
      unfold bF at b1
      unfold tF at b2
      rw [if_neg (by omega), show k + 1 - 1 = k from rfl, Bool.or_eq_true, decide_eq_true_eq, decide_eq_true_eq] at b1
      rw [show k + 1 - 1 = k from rfl, Bool.or_eq_true, decide_eq_true_eq, decide_eq_true_eq] at b2
      unfold risB
      rw [Bool.not_eq_true', Bool.or_eq_false_iff, decide_eq_false_iff_not, decide_eq_false_iff_not]
      omega
    · by_cases e : tl.length = 1
      · obtain ⟨b1, _⟩ := it 0 (by omega)
        unfold bF at b1
        rw [if_pos e, decide_eq_true_eq] at b1
        exact .inr b1
      · exact .inl (by omega)
def RLIt : RP := fun ds A => ∃ (m : Int) (tl : List (Int × Int)), ds = [.int m, toolD tl] ∧ 1 ≤ m ∧ tl.length ≤ 100 ∧ A (.bool (toolB m tl))
def RTold : RP := fun ds A => ∃ (m : Int) (tl : List (Int × Int)) (ts : List PyData), ds = [.int m, toolD tl, .list ts] ∧ IsTool m tl ∧ 1 ≤ m ∧ m ≤ 60 ∧ ts = ((upto m).map (tgt tl)).map .int ∧ A (.bool true)
def RTurn : RKd := fun ds k A => ∃ m : Int, ds = [.int m] ∧ 1 ≤ m ∧ m ≤ 60 ∧ k + 3 ≤ 1000000 ∧ ∀ t : Int, t.natAbs < 10 ^ 30 → A (.int t) (k + 3)
theorem begins_ints (tl : List (Int × Int)) : (tl.map fun p => PyData.int p.1) = (tl.map (·.1)).map PyData.int := by rw [List.map_map]; rfl
theorem at_begin {tl : List (Int × Int)} {i : Nat} (h : i < tl.length) : atI (tl.map fun p => PyData.int p.1) ((i : Nat) : Int) = some (.int (tlAt tl i).1) := by
  apply atI_nat
  rw [List.getElem?_map, List.getElem?_eq_getElem h, tlAt_of (List.getElem?_eq_getElem h)]
  rfl
theorem at_off {m t0 : Int} {tl : List (Int × Int)} {i : Nat} (h : i < tl.length) : atI (tl.map fun p => PyData.int ((p.2 - t0) % m)) ((i : Nat) : Int) = some (.int (((tlAt tl i).2 - t0) % m)) := by
  apply atI_nat
  rw [List.getElem?_map, List.getElem?_eq_getElem h, tlAt_of (List.getElem?_eq_getElem h)]
  rfl
theorem eqv_ints_one (ns : List Int) (x : Int) : PyData.eqv (.list (ns.map PyData.int)) (.list [.int x]) = decide (ns = [x]) := by
  match ns with
  | [] => rfl
  | [a] =>
    show ((a == x) && true) = decide ([a] = [x])
    rw [Bool.and_true]
    by_cases h : a = x
    · rw [h]
      simp
    · rw [decide_eq_false (fun z => h (List.cons.inj z).1)]
      exact beq_eq_false_iff_ne.mpr h
  | a :: b :: r =>
    rw [decide_eq_false (fun z => by cases z)]
    show ((a == x) && false) = false
    rw [Bool.and_false]
theorem isEmpty_all {α β : Type} (l : List α) (b : α → Bool) (f : α → β) : ((l.filter b).map f).isEmpty = l.all fun x => !b x := by
  have key := empty_filter l b f
  cases h : l.all fun x => !b x with
  | true =>
    rw [key.mpr h]
    rfl
  | false =>
    cases h2 : (l.filter b).map f with
    | nil =>
      rw [key.mp h2] at h
      cases h
    | cons => rfl
theorem shaped_any {α : Type} (l : List α) (g : α → Int) : SeqAt.shaped (.list (l.map fun i => PyData.int (g i))) = true := by
  rw [show (l.map fun i => PyData.int (g i)) = (l.map g).map PyData.int by rw [List.map_map]; rfl]
  exact shaped_ints

theorem rng_all (m : Int) (p : Int × Int) : ([p.1, p.2].all fun x => !(!(decide (0 ≤ x) && decide (x < m)))) = rngB m p := by
  show (!(!(decide (0 ≤ p.1) && decide (p.1 < m))) && (!(!(decide (0 ≤ p.2) && decide (p.2 < m))) && true)) = ((decide (0 ≤ p.1) && decide (p.1 ≤ m - 1)) && (decide (0 ≤ p.2) && decide (p.2 ≤ m - 1)))
  rw [Bool.not_not, Bool.not_not, Bool.and_true, dec_congr (show p.1 < m ↔ p.1 ≤ m - 1 by omega), dec_congr (show p.2 < m ↔ p.2 ≤ m - 1 by omega)]

/-! ### turned and mirrored tools -/
theorem modeq {m a b : Int} (h : (a - b) % m = 0) : a % m = b % m := Int.emod_eq_emod_iff_emod_sub_eq_zero.mpr h
theorem modeq_of {m a b : Int} (h : a % m = b % m) : (a - b) % m = 0 := Int.emod_eq_emod_iff_emod_sub_eq_zero.mp h
theorem turnF_congr {m t t' : Int} (tl : List (Int × Int)) (h : t % m = t' % m) : turnF m tl t = turnF m tl t' := by
  funext x
  unfold turnF
  have h1 : (x + t) % m = (x + t') % m := by rw [Int.add_emod, h, ← Int.add_emod]
  have h2 : ∀ y : Int, (y - t) % m = (y - t') % m := fun y => by rw [Int.sub_emod, h, ← Int.sub_emod]
  rw [h1, h2]
theorem turn_turn {m t u : Int} {tl : List (Int × Int)} (hm : 1 ≤ m) (it : IsTool m tl) : pO m (turnF m (pO m (turnF m tl t)) u) = pO m (turnF m tl (t + u)) := by
  have md : Made m (turnF m tl t) := made_turn hm it
  refine pO_congr (by omega) fun x h0 h1 => ?_
  show (tgt (pO m (turnF m tl t)) ((x + u) % m) - u) % m = (tgt tl ((x + (t + u)) % m) - (t + u)) % m
  rw [md.at_ _ (Int.emod_nonneg _ (by omega)) (Int.emod_lt_of_pos _ (by omega))]
  show ((tgt tl (((x + u) % m + t) % m) - t) % m - u) % m = _
  rw [Int.emod_add_emod, Int.emod_sub_emod, show x + u + t = x + (t + u) by omega, show tgt tl ((x + (t + u)) % m) - t - u = tgt tl ((x + (t + u)) % m) - (t + u) by omega]
theorem turn_none {m t : Int} {tl : List (Int × Int)} (hm : 1 ≤ m) (it : IsTool m tl) (h : t % m = 0) : pO m (turnF m tl t) = tl := by
  rw [turnF_congr tl (t' := 0) (by rw [h, Int.zero_emod])]
  refine (pO_congr (by omega) fun x h0 h1 => ?_).trans (pO_tgt (by omega) it)
  show (tgt tl ((x + 0) % m) - 0) % m = tgt tl x
  have := tgt_rng it x
  rw [Int.add_zero, Int.sub_zero, Int.emod_eq_of_lt h0 h1, Int.emod_eq_of_lt this.1 this.2]
theorem mir_mir {m : Int} {tl : List (Int × Int)} (hm : 1 ≤ m) (it : IsTool m tl) : pO m (mirF m (pO m (mirF m tl))) = tl := by
  have md : Made m (mirF m tl) := made_mirror hm it
  refine (pO_congr (by omega) fun x h0 h1 => ?_).trans (pO_tgt (by omega) it)
  show (0 - tgt (pO m (mirF m tl)) ((0 - x) % m)) % m = tgt tl x
  rw [md.at_ _ (Int.emod_nonneg _ (by omega)) (Int.emod_lt_of_pos _ (by omega))]
  show (0 - (0 - tgt tl ((0 - (0 - x) % m) % m)) % m) % m = tgt tl x
  have := tgt_rng it x
  rw [Int.sub_emod_emod, Int.sub_emod_emod, show 0 - (0 - x) = x by omega, Int.emod_eq_of_lt h0 h1, show 0 - (0 - tgt tl x) = tgt tl x by omega, Int.emod_eq_of_lt this.1 this.2]
theorem mir_turn {m t : Int} {tl : List (Int × Int)} (hm : 1 ≤ m) (it : IsTool m tl) : pO m (turnF m (pO m (mirF m tl)) t) = pO m (mirF m (pO m (turnF m tl (0 - t)))) := by
  have md : Made m (mirF m tl) := made_mirror hm it
  have md2 : Made m (turnF m tl (0 - t)) := made_turn hm it
  refine pO_congr (by omega) fun x h0 h1 => ?_
  show (tgt (pO m (mirF m tl)) ((x + t) % m) - t) % m = (0 - tgt (pO m (turnF m tl (0 - t))) ((0 - x) % m)) % m
  rw [md.at_ _ (Int.emod_nonneg _ (by omega)) (Int.emod_lt_of_pos _ (by omega)), md2.at_ _ (Int.emod_nonneg _ (by omega)) (Int.emod_lt_of_pos _ (by omega))]
  show ((0 - tgt tl ((0 - (x + t) % m) % m)) % m - t) % m = (0 - (tgt tl (((0 - x) % m + (0 - t)) % m) - (0 - t)) % m) % m
  rw [Int.sub_emod_emod, Int.emod_sub_emod, Int.emod_add_emod, Int.sub_emod_emod, show 0 - (x + t) = 0 - x + (0 - t) by omega]
  congr 1
  omega
theorem mod_at {m x : Int} (hm : 1 ≤ m) : 0 ≤ x % m ∧ x % m < m := ⟨Int.emod_nonneg _ (by omega), Int.emod_lt_of_pos _ (by omega)⟩

/-! ### texts put together -/
theorem shown_two (d e : PyData) : (PyData.list [d, e]).shown = ("[" : Str) ++ d.shown ++ (", " : Str) ++ e.shown ++ ("]" : Str) := by
  have h : (PyData.list [d, e]).shown = (("[" : Str) ++ (("" : String) : Str) ++ d.shown ++ ((", " : String) : Str) ++ e.shown) ++ ("]" : Str) := rfl
  have h2 : (("[" : Str) ++ (("" : String) : Str)) = ("[" : Str) := Str.append_empty _
  rw [h, h2]
theorem r2_catS {K : PySem.W.Frag} {Δ : DK} : R2' K Δ (fun x y H Q => ∃ i j, x = .str i ∧ y = .str j ∧ i.length + j.length ≤ sizeLine ∧ Q (.str (i ++ j)) H) (fun d e s A => ∃ i j : Str, d = .str i ∧ e = .str j ∧ i.length + j.length ≤ 16000000 ∧ A (.str (i ++ j)) s) := by
  intro C B σ H s x y d e Q A E dx dy h q
  obtain ⟨i, j, e1, e2, hl, a⟩ := h
  subst e1 e2
  exact ⟨i, j, dv_str dx, dv_str dy, Nat.le_trans hl (by decide), q _ _ _ a (Same.refl _) (.str _)⟩
theorem len_two {k : Str} (h : k.length ≤ 50000) : (("[" : Str) ++ k).length ≤ 50001 ∧ (("[" : Str) ++ k ++ (", " : Str)).length ≤ 50003 ∧ (("[" : Str) ++ k ++ (", " : Str) ++ k).length ≤ 100003 ∧ ("[" : Str).length = 1 ∧ (", " : Str).length = 2 ∧ ("]" : Str).length = 1 := by
  have a : ("[" : Str).length = 1 := rfl
  have b : (", " : Str).length = 2 := rfl
  have c : ("]" : Str).length = 1 := rfl
  refine ⟨?_, ?_, ?_, a, b, c⟩
  · rw [strLen_append]
    omega
  · rw [strLen_append, strLen_append]
    omega
  · rw [strLen_append, strLen_append, strLen_append]
    omega

/-! ### plans as tools -/
def stepF (m : Int) (tls : List (List (Int × Int))) (y : Int) (p : Int × Nat) : Int := tgt (tls.getD p.2 []) ((y + p.1) % m)
def planF (m : Int) (tls : List (List (Int × Int))) (pl : List (Int × Nat)) : Int → Int := fun x => pl.foldl (stepF m tls) x
def pushD (p : Int × Nat) : PyData := .tuple [.int p.1, .int ((p.2 : Nat) : Int)]
def planD (pl : List (Int × Nat)) : PyData := .tuple (pl.map pushD)
def OkPlan (n : Nat) (pl : List (Int × Nat)) : Prop := ∀ p ∈ pl, p.2 < n
theorem getD_mem {tls : List (List (Int × Int))} {i : Nat} (h : i < tls.length) : tls.getD i [] ∈ tls := by
  rw [List.getD_eq_getElem?_getD, List.getElem?_eq_getElem h]
  exact List.getElem_mem h
theorem lf_plan {m : Int} {tls : List (List (Int × Int))} (hm : 1 ≤ m) (its : ∀ t ∈ tls, IsTool m t) : ∀ (pl : List (Int × Nat)) (f L : Int → Int), OkPlan tls.length pl → Lf m f L → ∃ L', Lf m (fun x => pl.foldl (stepF m tls) (f x)) L'
  | [], f, L, _, h => ⟨L, h⟩
  | p :: r, f, L, ok, h => by
    obtain ⟨L1, h1⟩ := lf_push (t := p.1) hm h (its _ (getD_mem (ok p List.mem_cons_self)))
    exact lf_plan hm its r _ L1 (fun q hq => ok q (List.mem_cons_of_mem _ hq)) h1
theorem made_plan {m : Int} {tls : List (List (Int × Int))} (hm : 1 ≤ m) (its : ∀ t ∈ tls, IsTool m t) : ∀ (pl : List (Int × Nat)) (f L : Int → Int), OkPlan tls.length pl → Lf m f L → pl ≠ [] → Made m (fun x => pl.foldl (stepF m tls) (f x))
  | [], f, L, _, h, ne => absurd rfl ne
  | [p], f, L, ok, h, _ => made_push (t := p.1) hm h (its _ (getD_mem (ok p List.mem_cons_self)))
  | p :: q :: r, f, L, ok, h, _ => by
    obtain ⟨L1, h1⟩ := lf_push (t := p.1) hm h (its _ (getD_mem (ok p List.mem_cons_self)))
    exact made_plan hm its (q :: r) _ L1 (fun z hz => ok z (List.mem_cons_of_mem _ hz)) h1 (List.cons_ne_nil _ _)
theorem made_planF {m : Int} {tls : List (List (Int × Int))} {pl : List (Int × Nat)} (hm : 1 ≤ m) (its : ∀ t ∈ tls, IsTool m t) (ok : OkPlan tls.length pl) (ne : pl ≠ []) : Made m (planF m tls pl) :=
  made_plan hm its pl _ _ ok (lf_id (m := m)) ne
theorem planF_snoc (m : Int) (tls : List (List (Int × Int))) (pl : List (Int × Nat)) (p : Int × Nat) : planF m tls (pl ++ [p]) = fun x => stepF m tls (planF m tls pl x) p := by
  funext x
  unfold planF
  rw [List.foldl_append]
  rfl
theorem planF_rng {m : Int} {tls : List (List (Int × Int))} (hm : 1 ≤ m) (its : ∀ t ∈ tls, IsTool m t) {pl : List (Int × Nat)} (ok : OkPlan tls.length pl) {x : Int} (h0 : 0 ≤ x) (h1 : x < m) : 0 ≤ planF m tls pl x ∧ planF m tls pl x < m := by
  have : ∀ (pl : List (Int × Nat)) (y : Int), OkPlan tls.length pl → 0 ≤ y → y < m → 0 ≤ pl.foldl (stepF m tls) y ∧ pl.foldl (stepF m tls) y < m := by
    intro pl
    induction pl with
    | nil => exact fun y _ h0 h1 => ⟨h0, h1⟩
    | cons p r ih =>
      intro y ok h0 h1
      have r1 := tgt_rng (its _ (getD_mem (ok p List.mem_cons_self))) ((y + p.1) % m)
      exact ih _ (fun q hq => ok q (List.mem_cons_of_mem _ hq)) r1.1 r1.2
  exact this pl x ok h0 h1
def RPlanT : RP := fun ds A => ∃ (m : Int) (tls : List (List (Int × Int))) (pl : List (Int × Nat)), ds = [.int m, toolsD tls, planD pl] ∧ (∀ t ∈ tls, IsTool m t) ∧ 1 ≤ m ∧ m ≤ 60 ∧ OkPlan tls.length pl ∧ pl ≠ [] ∧ A (toolD (pO m (planF m tls pl)))
def comF (m : Int) (a : List (Int × Int)) (t : Int) (b : List (Int × Int)) : Int → Int := fun x => tgt b ((tgt a x + t) % m)
def RComb : RP := fun ds A => ∃ (m : Int) (a : List (Int × Int)) (t : Int) (b : List (Int × Int)), ds = [.int m, toolD a, .int t, toolD b] ∧ IsTool m a ∧ IsTool m b ∧ 1 ≤ m ∧ m ≤ 60 ∧ A (toolD (pO m (comF m a t b)))
theorem comF_plan {m t : Int} {a b : List (Int × Int)} (hm : 1 ≤ m) : pO m (planF m [a, b] [(0, 0), (t, 1)]) = pO m (comF m a t b) := by
  refine pO_congr (by omega) fun x h0 h1 => ?_
  show tgt b ((tgt a ((x + 0) % m) + t) % m) = tgt b ((tgt a x + t) % m)
  rw [Int.add_zero, Int.emod_eq_of_lt h0 h1]
theorem made_com {m t : Int} {a b : List (Int × Int)} (hm : 1 ≤ m) (ia : IsTool m a) (ib : IsTool m b) : Made m (comF m a t b) ∧ (pO m (comF m a t b)).length ≤ a.length := by
  obtain ⟨L, h, _⟩ := lf_tgt hm ia
  refine ⟨made_push hm h ib, ?_⟩
  obtain ⟨L', h'⟩ := lf_push (t := t) hm h ib
  obtain ⟨_, _, h3⟩ := lf_tool h' hm (ys := (a.map (·.2)).map fun y => tgt b ((y + t) % m)) (fun x _ _ => List.mem_map_of_mem (tgt_in ia _)) (by rw [List.length_map, List.length_map]; exact ia.len2)
  rw [List.length_map, List.length_map] at h3
  exact h3
theorem id_ints (m : Int) : (rgD 0 m).map PyData.int = (upto m).map fun x => PyData.int x := by
  rw [show rgD 0 m = upto m by unfold rgD upto; rw [Int.sub_zero]; apply List.map_congr_left; intro i _; exact Int.zero_add _]
theorem at_tools {tls : List (List (Int × Int))} {i : Nat} (h : i < tls.length) : atI (tls.map toolD) ((i : Nat) : Int) = some (toolD (tls.getD i [])) := by
  apply atI_nat
  rw [List.getElem?_map, List.getD_eq_getElem?_getD, List.getElem?_eq_getElem h]
  rfl
def rRepD : A2 := fun d e s A => ∃ (ds : List PyData) (k : Int), d = .tuple ds ∧ e = .int k ∧ ds ≠ [] ∧ 2 ≤ k ∧ k ≤ 1000 ∧ ds.length ≤ 1000 ∧ A (.tuple (List.replicate k.toNat ds).flatten) s
theorem r2_repT {K : PySem.W.Frag} {Δ : DK} : R2' K Δ (rRepT K) rRepD := by
  intro C B σ H s x y d e Q A E dx dy h q
  obtain ⟨ds, k, e1, e2, hne, k1, k2, hl, a⟩ := h
  subst e1 e2
  obtain ⟨p, us, ep, hp, hd⟩ := dx.tupI
  subst ep
  refine ⟨p, k, us, rfl, dv_int dy, hp, fun z => hne ?_, k1, k2, by rw [hd.len]; exact hl, fun l nl => ?_⟩
  · subst z
    cases hd
    rfl
  · obtain ⟨sm, dv⟩ := new_tup nl (hd.many k.toNat)
    exact q _ _ _ a sm dv
theorem krepT {X : Cx} (K : PySem.W.Frag) (hK : X.K = K := by rfl) : OpR X (binaryOp .Mult) (rRepT K) := by
  subst hK
  exact op_repT
theorem tools_neat {m : Int} {tls : List (List (Int × Int))} (its : ∀ t ∈ tls, IsTool m t) (hm : m ≤ 60) (hl : tls.length ≤ 4) : Neat (toolsD tls) 500000 3 := by
  have f : Neat (toolsD tls) ((tls.map toolD).length * (50000 + 2) + 3) (2 + 1) := neat_tuple fun d hd => by
    rw [List.mem_map] at hd
    obtain ⟨t, ht, e⟩ := hd
    subst e
    exact (tool_fine (its t ht) hm).neat
  rw [List.length_map] at f
  exact f.mono (by omega) (by omega)
theorem plan_neat {pl : List (Int × Nat)} (h : ∀ p ∈ pl, p.1.natAbs < 10 ^ 30 ∧ p.2 < 1000) (hl : pl.length ≤ 200) : Neat (planD pl) 1000000 3 := by
  have f : Neat (planD pl) ((pl.map pushD).length * (2 * (1921 + 2) + 3 + 2) + 3) (1 + 1) := neat_tuple fun d hd => by
    rw [List.mem_map] at hd
    obtain ⟨p, hp, e⟩ := hd
    subst e
    have hh := h p hp
    have b : (10 : Nat) ^ 30 ≤ 10 ^ 40 := by decide
    refine neat_tuple (ds := [.int p.1, .int ((p.2 : Nat) : Int)]) (n := 1921) (e := 0) fun d hd => ?_
    rcases List.mem_cons.mp hd with z | z
    · rw [z]
      exact (fine_int (small_int (by omega))).neat
    · rw [List.mem_singleton.mp z]
      exact (fine_int (small_int (by omega))).neat
  rw [List.length_map] at f
  exact f.mono (by omega) (by omega)

/-! ### sorted sets of numbers -/
section
variable {K : PySem.W.Frag} {Δ : DK} {w : World}
def SrtB (xs : List PyData) (s1 : AS) (g : AG) (tt : AT) (te : AE) (vs : List Nat) (A : PyData → AS → Prop) : Prop := xs.length ≤ 63 ∧ ∃ Inv : Nat → List Int → Option Int → Prop, Inv 0 [] s1.k ∧
  (∀ i x acc k, xs[i]? = some x → Inv i acc k → g x ⟨wipeA s1.env vs, k⟩ fun s2 => tt s2 fun b s3 => if b = true then te s3 fun d s4 => ∃ c, d = .int c ∧ Inv (i + 1) (acc ++ [c]) s4.k else Inv (i + 1) acc s3.k) ∧
  ∀ acc k, Inv xs.length acc k → ∀ ns : List Int, ns.Pairwise (· < ·) → (∀ y, y ∈ ns ↔ y ∈ acc) → A (.list (ns.map .int)) ⟨s1.env, k⟩
def aSrtSc (ai : AI) (g : AG) (tt : AT) (te : AE) (vs : List Nat) : AE := fun s A => ai s fun xs s1 => SrtB xs s1 g tt te vs A
theorem wipe_idem (σ : L2.St) (vs : List Nat) : wipe (wipe σ vs) vs = wipe σ vs := by
  have idem : ∀ (us : List Nat), (∀ u ∈ us, u ∈ vs) → wipe (wipe σ vs) us = wipe σ vs := by
    intro us
    induction us with
    | nil => exact fun _ => rfl
    | cons u us ih =>
      intro hu
      show (wipe (wipe σ vs) us).set u none = wipe σ vs
      rw [ih fun z hz => hu z (List.mem_cons_of_mem _ hz)]
      have hm := hu u List.mem_cons_self
      by_cases hl : u < (wipe σ vs).length
      · have : (wipe σ vs)[u]? = some none := by
          cases e : (wipe σ vs)[u]? with
          | none =>
            rw [List.getElem?_eq_none_iff] at e
            omega
          | some o =>
            cases o with
            | none => rfl
            | some v => exact absurd hm (wipe_some e).2
        apply List.ext_getElem?
        intro j
        by_cases hj : u = j
        · subst hj
          rw [List.getElem?_set_self hl, this]
        · rw [List.getElem?_set_ne hj]
      · apply List.ext_getElem?
        intro j
        by_cases hj : u = j
        · subst hj
          rw [List.getElem?_eq_none (by rw [List.length_set]; omega), List.getElem?_eq_none (by omega)]
        · rw [List.getElem?_set_ne hj]
  exact idem vs fun u hu => hu
theorem re_srtSc {wi : TI} {ai : AI} {g : TG} {ga : AG} {is : List Nat} {tt : TT} {at_ : AT} {te : TE} {ae : AE} {vs : List Nat} (hi : RI K Δ wi ai) (hg : RG K Δ g ga is) (ht : RT K Δ tt at_) (he : RE K Δ te ae) (hv : (is.all fun i => vs.contains i) = true) :
    RE K Δ (tCB (rSortedSet w) (tCons (tScI w wi g tt te vs) tNil)) (aSrtSc ai ga at_ ae vs) := by
  intro C B σ H s Q A E h q
  refine hi C B σ H s _ _ E h fun J xs H1 s1 a1 m1 E1 itd D nD => ?_
  obtain ⟨hlen, Inv, inv0, turn, done⟩ := a1
  have hvs : ∀ i ∈ is, i ∈ vs := fun i hi => List.contains_iff_mem.mp (List.all_eq_true.mp hv i hi)
  have nas : D ∉ C.as := fun z => E1.newB nD (E1.sub D z)
  refine ⟨fun i m H => m = xs.length - i ∧ i ≤ xs.length ∧ ∃ (acc : List Int) (k : Option Int) (S : Int → Bool) (n : Nat), Inv i acc k ∧ H D = some (SetO w D S n) ∧ n ≤ i ∧ (∀ y, S y = true ↔ y ∈ acc) ∧ Mx Δ.w C.as H1 H ∧ (∀ k', k = some k' → Δ.P H C.r C.as k'), ⟨xs.length, ?_⟩, ?_⟩
  · refine ⟨(Nat.sub_zero _).symm, Nat.zero_le _, [], s1.k, _, 0, inv0, upd_same, Nat.le_refl _, fun y => ⟨fun z => (by cases z), fun z => (List.not_mem_nil z).elim⟩, .of_same (same_upd nD), (E1.same (same_upd nD)).dk⟩
  rintro i m H ⟨rfl, hi, acc, k, S, n, inv, hD, hn, hS, mx, dk⟩
  have E3 : En K Δ C B σ H ⟨s1.env, k⟩ := E1.move mx dk
  have g3 : Go B H1 B H := .of_mv (mx.up E1.sub)
  by_cases hlt : i < xs.length
  · obtain ⟨go, yld⟩ := (itd _ _ g3 E3.st).1 i xs[i] (List.getElem?_eq_getElem hlt)
    refine .inr ⟨go, fun H' => ∃ (acc : List Int) (k : Option Int) (S : Int → Bool) (n : Nat), Inv (i + 1) acc k ∧ H' D = some (SetO w D S n) ∧ n ≤ i + 1 ∧ (∀ y, S y = true ↔ y ∈ acc) ∧ Mx Δ.w C.as H1 H' ∧ (∀ k', k = some k' → Δ.P H' C.r C.as k'), fun H' z => ⟨xs.length - (i + 1), by omega, rfl, hlt, z⟩, fun x H' y => ?_⟩
    obtain ⟨sm, dx⟩ := yld x H' y
    have E4 := E3.same sm
    refine hg C B (wipe σ vs) H' ⟨wipeA s1.env vs, k⟩ x _ _ _ (E4.wipe vs) dx (turn i xs[i] acc k (List.getElem?_eq_getElem hlt) inv) fun σ5 s5 a5 E5 w5 => ⟨by rw [w5 vs hvs]; exact wipe_idem σ vs, ?_⟩
    refine ht C B σ5 H' s5 _ _ E5 a5 fun b H6 s6 a6 m6 E6 => ?_
    cases b with
    | true =>
      rw [if_pos rfl] at a6 ⊢
      refine he C B σ5 H6 s6 _ _ E6 a6 fun y d H7 s7 a7 m7 E7 dy => ?_
      obtain ⟨c, ec, inv'⟩ := a7
      subst ec
      have hD7 : H7 D = some (SetO w D S n) := m7.mv.st _ (SetO w D S n) hard_ext (m6.mv.st _ (SetO w D S n) hard_ext (sm _ _ hD))
      have mx7 : Mx Δ.w C.as H1 H7 := ((mx.trans (.of_same sm)).trans m6).trans m7
      refine ⟨c, S, n, dv_int dy, hD7, ?_, acc ++ [c], s7.k, _, _, inv', upd_same, ?_, ?_, ?_, ?_⟩
      · unfold scanBound
        omega
      · split <;> omega
      · intro y
        show (S y || decide (y = c)) = true ↔ _
        rw [Bool.or_eq_true, decide_eq_true_eq, hS y, List.mem_append, List.mem_singleton]
      · exact mx7.fresh nD
      · intro k' hk
        exact Δ.mv (E7.dk k' hk) (fun a ha => upd_ne fun e => nas (by rw [← e]; exact ha)) (nl_upd hD7 lsy_set)
    | false =>
      rw [if_neg Bool.false_ne_true] at a6 ⊢
      exact ⟨acc, s6.k, S, n, a6, m6.mv.st _ (SetO w D S n) hard_ext (sm _ _ hD), by omega, hS, (mx.trans (.of_same sm)).trans m6, E6.dk⟩
  · have e : i = xs.length := by omega
    subst e
    refine .inl ⟨(itd _ _ g3 E3.st).2, D, S, n, rfl, hD, by omega, fun ns p srt mem _ np => ?_⟩
    obtain ⟨sm, dv⟩ := new_lst E3 np (dvInts ns)
    exact q _ _ _ _ (done acc k inv ns srt fun y => (mem y).trans (hS y)) ((m1.trans mx).trans (.of_same sm)) (E3.same sm) dv
theorem re_srtSet {ta : TA} {aa : AA} (h1 : RA K Δ ta aa) : RE K Δ (tCB (rSortedSet w) (tCons (tCB (rSetL K w) ta) tNil)) (fun s A => aa s fun ds s1 => ∃ ns : List Int, ds = [.list (ns.map .int)] ∧ ns.length ≤ 63 ∧ ∀ out : List Int, out.Pairwise (· < ·) → (∀ y, y ∈ out ↔ y ∈ ns) → A (.list (out.map .int)) s1) := by
  intro C B σ H s Q A E h q
  refine h1 C B σ H s _ _ E h fun vs ds H1 s1 a1 m1 E1 dv => ?_
  obtain ⟨ns, e, hl, a⟩ := a1
  subst e
  obtain ⟨p, ev, hp⟩ := intsAt dv
  refine ⟨p, ns, ev, hp, by omega, fun l c nl hc => ?_⟩
  have sm := same_upd (o := SetO w l (fun j => decide (j ∈ ns)) c) nl
  refine ⟨l, _, c, rfl, upd_same, by omega, fun out q2 srt mem _ nq => ?_⟩
  obtain ⟨sm2, dv2⟩ := new_lst (E1.same sm) nq (dvInts out)
  exact q _ _ _ _ (a out srt fun y => by rw [mem y, decide_eq_true_eq]) ((m1.trans (.of_same sm)).trans (.of_same sm2)) ((E1.same sm).same sm2) dv2
theorem rs_never : RS K Δ tNever (fun _ _ => False) := fun C B σ H s D A E h qn qr => h.elim
end
/-- over what is a list of something, no test -/
theorem srtMap {α : Type} {l : List α} {e : α → PyData} {g : AG} {te : AE} {vs : List Nat} {s1 : AS} {A : PyData → AS → Prop} (f : α → Int) (h5 : l.length ≤ 63)
    (he : ∀ x, x ∈ l → ∀ B : PyData → AS → Prop, (∀ s : AS, s.k = s1.k → B (.int (f x)) s) → g (e x) ⟨wipeA s1.env vs, s1.k⟩ fun s2 => te s2 B)
    (ha : ∀ ns : List Int, ns.Pairwise (· < ·) → (∀ y, y ∈ ns ↔ y ∈ l.map f) → A (.list (ns.map .int)) s1) : SrtB (l.map e) s1 g (fun s A => A true s) te vs A := by
  refine ⟨by rw [List.length_map]; exact h5, fun i acc k => k = s1.k ∧ acc = (l.take i).map f, ⟨rfl, rfl⟩, fun i x acc k hx h => ?_, fun acc k h => ?_⟩
  · obtain ⟨e1, e2⟩ := h
    subst e1 e2
    obtain ⟨y, hy, ey⟩ := map_get hx
    subst ey
    exact he y (List.mem_of_getElem? hy) _ fun s hs => ⟨_, rfl, hs, (take_map_succ f hy).symm⟩
  · obtain ⟨e1, e2⟩ := h
    rw [List.length_map, List.take_of_length_le (Nat.le_refl _)] at e2
    subst e1 e2
    exact ha
/-! ### places pushed -/
def imgP (m : Int) (f : Int → Int) (ps : List Int) : List Int := (upto m).filter fun y => decide (y ∈ ps.map f)
theorem imgP_mem {m y : Int} {f : Int → Int} {ps : List Int} (hf : ∀ x ∈ ps, 0 ≤ f x ∧ f x < m) : y ∈ imgP m f ps ↔ ∃ x ∈ ps, f x = y := by
  unfold imgP
  rw [List.mem_filter, decide_eq_true_eq, List.mem_map, upto_mem]
  constructor
  · exact fun h => h.2
  · intro h
    obtain ⟨x, hx, e⟩ := h
    have := hf x hx
    exact ⟨by omega, x, hx, e⟩
theorem imgP_asc (m : Int) (f : Int → Int) (ps : List Int) : (imgP m f ps).Pairwise (· < ·) := (upto_asc m).filter _
theorem imgP_rng {m y : Int} {f : Int → Int} {ps : List Int} (h : y ∈ imgP m f ps) : 0 ≤ y ∧ y < m := by
  unfold imgP at h
  exact upto_mem.mp (List.mem_filter.mp h).1
theorem imgP_len (m : Int) (f : Int → Int) (ps : List Int) : (imgP m f ps).length ≤ m.toNat := by
  unfold imgP
  refine Nat.le_trans (List.length_filter_le _ _) ?_
  rw [upto_len]
  exact Nat.le_refl _
/-- ascending places of the circle -/
structure Places (m : Int) (ps : List Int) : Prop where
  asc : ps.Pairwise (· < ·)
  rng : ∀ x ∈ ps, 0 ≤ x ∧ x < m
theorem Places.img {m : Int} {f : Int → Int} {ps : List Int} : Places m (imgP m f ps) := ⟨imgP_asc _ _ _, fun _ h => imgP_rng h⟩
theorem Places.len {m : Int} {ps : List Int} (h : Places m ps) : ps.length ≤ m.toNat := by
  have := pigeon (l := ps) (ys := upto m) (h.asc.imp fun {a b} z => by omega) fun x hx => upto_mem.mpr (h.rng x hx)
  rw [upto_len] at this
  exact this
theorem imgP_id {m : Int} {ps : List Int} (h : Places m ps) : imgP m (fun x => x) ps = ps :=
  asc_eq (imgP_asc _ _ _) h.asc fun x => by
    rw [imgP_mem h.rng]
    exact ⟨fun ⟨y, hy, e⟩ => by rw [← e]; exact hy, fun hx => ⟨x, hx, rfl⟩⟩
theorem imgP_comp {m : Int} {f g : Int → Int} {ps : List Int} (hf : ∀ x ∈ ps, 0 ≤ f x ∧ f x < m) (hg : ∀ x, 0 ≤ x → x < m → 0 ≤ g x ∧ g x < m) : imgP m g (imgP m f ps) = imgP m (fun x => g (f x)) ps := by
  refine asc_eq (imgP_asc _ _ _) (imgP_asc _ _ _) fun y => ?_
  rw [imgP_mem fun x hx => hg x (imgP_rng hx).1 (imgP_rng hx).2, imgP_mem (f := fun x => g (f x)) fun x hx => hg _ (hf x hx).1 (hf x hx).2]
  constructor
  · intro ⟨x, hx, e⟩
    obtain ⟨z, hz, e2⟩ := (imgP_mem hf).mp hx
    exact ⟨z, hz, by rw [e2]; exact e⟩
  · intro ⟨z, hz, e⟩
    exact ⟨f z, (imgP_mem hf).mpr ⟨z, hz, rfl⟩, e⟩
theorem imgP_congr {m : Int} {f g : Int → Int} {ps : List Int} (h : ∀ x ∈ ps, f x = g x) : imgP m f ps = imgP m g ps := by
  unfold imgP
  rw [List.map_congr_left h]
theorem imgP_uniq {m : Int} {f : Int → Int} {ps out : List Int} (hf : ∀ x ∈ ps, 0 ≤ f x ∧ f x < m) (asc : out.Pairwise (· < ·)) (mem : ∀ y, y ∈ out ↔ y ∈ ps.map f) : out = imgP m f ps :=
  asc_eq asc (imgP_asc _ _ _) fun y => by rw [mem y, imgP_mem hf, List.mem_map]
def pushF (m : Int) (tl : List (Int × Int)) (t : Int) : Int → Int := fun p => tgt tl ((p + t) % m)
def RPushes : RP := fun ds A => ∃ (m : Int) (tl : List (Int × Int)) (t : Int) (ps : List Int), ds = [.int m, toolD tl, .int t, tupD ps] ∧ IsTool m tl ∧ 1 ≤ m ∧ m ≤ 60 ∧ Places m ps ∧ A (tupD (imgP m (pushF m tl t) ps))
def RTurnV : RP := fun ds A => ∃ d, ds = [d] ∧ A (.bool (numIn (-999999999999999999999999999999) 999999999999999999999999999999 d))
def RIdx : RP := fun ds A => ∃ (xs : List PyData) (d : PyData), ds = [.tuple xs, d] ∧ A (.bool (numIn 0 ((xs.length : Nat) - 1) d))
/-- a push, of any value -/
def pushOk (n : Nat) : PyData → Bool
  | .tuple [a, b] => numIn (-999999999999999999999999999999) 999999999999999999999999999999 a && numIn 0 ((n : Nat) - 1) b
  | _ => false
def RIsPush : RP := fun ds A => ∃ (xs : List PyData) (d : PyData), ds = [.tuple xs, d] ∧ A (.bool (pushOk xs.length d))
def FinePlan (n : Nat) (pl : List (Int × Nat)) : Prop := (∀ p ∈ pl, p.1.natAbs < 10 ^ 30 ∧ p.2 < n) ∧ pl.length ≤ 100
theorem pushOk_of {n : Nat} {p : Int × Nat} (h1 : p.1.natAbs < 10 ^ 30) (h2 : p.2 < n) : pushOk n (pushD p) = true := by
  have big : (10 : Nat) ^ 30 = 1000000000000000000000000000000 := by decide
  show (numIn _ _ (.int p.1) && numIn _ _ (.int ((p.2 : Nat) : Int))) = true
  unfold numIn
  simp only [Bool.and_eq_true, decide_eq_true_eq]
  omega
def RCheck : RP := fun ds A => ∃ (xs : List PyData) (pl : List (Int × Nat)), ds = [.tuple xs, planD pl] ∧ FinePlan xs.length pl ∧ A .none
def RAfter : RP := fun ds A => ∃ (m : Int) (tls : List (List (Int × Int))) (pl : List (Int × Nat)) (ps : List Int), ds = [.int m, toolsD tls, planD pl, tupD ps] ∧ (∀ t ∈ tls, IsTool m t) ∧ 1 ≤ m ∧ m ≤ 60 ∧ FinePlan tls.length pl ∧ Places m ps ∧ A (tupD (imgP m (planF m tls pl) ps))
theorem enum_map {α : Type} (l : List α) (f : α → PyData) : enumD (l.map f) = (List.range l.length).map fun i => PyData.tuple [.int (i : Nat), (l.map f).getD i .none] := by
  unfold enumD
  rw [List.length_map]
theorem r2_notB {K : PySem.W.Frag} {Δ : DK} : R2' K Δ rNotB (fun d e s A => ∃ a b : Bool, d = .bool a ∧ e = .bool b ∧ A (.bool (!decide (a = b))) s) := by
  intro C B σ H s x y d e Q A E dx dy h q
  obtain ⟨i, j, e1, e2, a⟩ := h
  subst e1 e2
  exact ⟨i, j, dv_bool dx, dv_bool dy, q _ _ _ a (Same.refl _) (.bl _)⟩
theorem push_img {m t : Int} {tl : List (Int × Int)} {tls : List (List (Int × Int))} {pl : List (Int × Nat)} {ps : List Int} (hm : 1 ≤ m) (its : ∀ t ∈ tls, IsTool m t) (ok : OkPlan tls.length pl) (pp : Places m ps) (it : IsTool m tl) :
    imgP m (pushF m tl t) (imgP m (planF m tls pl) ps) = imgP m (fun x => tgt tl ((planF m tls pl x + t) % m)) ps :=
  imgP_comp (g := pushF m tl t) (fun x hx => planF_rng hm its ok (pp.rng x hx).1 (pp.rng x hx).2) fun x _ _ => tgt_rng it _
theorem planF_app (m : Int) (tls : List (List (Int × Int))) (p q : List (Int × Nat)) (x : Int) : planF m tls (p ++ q) x = planF m tls q (planF m tls p x) := by
  unfold planF
  rw [List.foldl_append]
theorem all_places (m : Int) : Places m (upto m) := ⟨upto_asc m, fun _ h => upto_mem.mp h⟩
theorem kscI {X : Cx} {elt tg iter : Expr} {ifs : List Expr} {scope : Scope} {own : List (Str × Nat)} {pos : Pos}
    {wi : TI} {g : TG} {tt : TT} {te : TE} (w : World) (calm : X.calm = true) (nodup : X.N.Nodup) (walked : PI X tg iter wi)
    (blk : BlkOk X.N X.env.scope scope own)
    (gOk : ∀ (s : Shared) (H : Hp) (C : Addr) (cl : List (Str × Addr)) (fp : List Addr), PG (X.blk s H scope (compEnvC scope cl C X.env) fp) tg g)
    (tOk : ∀ (s : Shared) (H : Hp) (C : Addr) (cl : List (Str × Addr)) (fp : List Addr), PTs (X.blk s H scope (compEnvC scope cl C X.env) fp) ifs tt)
    (eOk : ∀ (s : Shared) (H : Hp) (C : Addr) (cl : List (Str × Addr)) (fp : List Addr), PE (X.blk s H scope (compEnvC scope cl C X.env) fp) elt te)
    (hw : X.w = w := by rfl) (folded : ∀ x, foldedSetIterable iter X.env x = pure x := by intro _; rfl) :
    PE X (.SetComp elt [⟨tg, iter, ifs, 0⟩] scope pos) (tScI w wi g tt te (own.map (·.2))) := by
  subst hw
  exact pe_scI calm nodup walked blk gOk tOk eOk folded

/-! ### the spread of places -/
structure IsSpread (m : Int) (ps : List Int) (v : Int) : Prop where
  holds : ∃ b, 0 ≤ b ∧ b < m ∧ ∀ p ∈ ps, (p - b) % m < v
  least : ∀ b, 0 ≤ b → b < m → ∃ p ∈ ps, v ≤ (p - b) % m + 1
theorem IsSpread.uniq {m : Int} {ps : List Int} {v v' : Int} (h : IsSpread m ps v) (h' : IsSpread m ps v') : v = v' := by
  obtain ⟨b, b0, b1, hb⟩ := h.holds
  obtain ⟨c, c0, c1, hc⟩ := h'.holds
  obtain ⟨p, hp, e⟩ := h'.least b b0 b1
  obtain ⟨r, hr, e'⟩ := h.least c c0 c1
  have := hb p hp
  have := hc r hr
  omega
theorem IsSpread.rng {m : Int} {ps : List Int} {v : Int} (h : IsSpread m ps v) : 1 ≤ v ∧ v ≤ m := by
  obtain ⟨b, b0, b1, hb⟩ := h.holds
  obtain ⟨p, hp, e⟩ := h.least b b0 b1
  have h1 := hb p hp
  have h2 := Int.emod_nonneg (p - b) (show m ≠ 0 by omega)
  have h3 := Int.emod_lt_of_pos (p - b) (show 0 < m by omega)
  omega
theorem steps_gap (e : Int) : ∀ (r : List Int) (b : Int), (b :: r).Pairwise (· < ·) → (∀ x ∈ b :: r, x < e) → ∀ g ∈ stepsE e b r, ∃ p ∈ b :: r, 0 < g ∧ p + g ≤ e ∧ ∀ q ∈ b :: r, q ≤ p ∨ p + g ≤ q
  | [], b, _, hx, g, hg => by
    have eg : g = e - b := List.mem_singleton.mp hg
    have := hx b List.mem_cons_self
    refine ⟨b, List.mem_cons_self, by omega, by omega, fun q hq => ?_⟩
    rw [List.mem_singleton.mp hq]
    exact .inl (Int.le_refl _)
  | b' :: r, b, hp, hx, g, hg => by
    have ac := List.pairwise_cons.mp hp
    have ac2 := List.pairwise_cons.mp ac.2
    have hb' := ac.1 b' List.mem_cons_self
    rcases List.mem_cons.mp hg with eg | hg
    · have := hx b' (List.mem_cons_of_mem _ List.mem_cons_self)
      refine ⟨b, List.mem_cons_self, by omega, by omega, fun q hq => ?_⟩
      rcases List.mem_cons.mp hq with z | z
      · exact .inl (by omega)
      · rcases List.mem_cons.mp z with y | y
        · exact .inr (by omega)
        · have := ac2.1 q y
          exact .inr (by omega)
    · obtain ⟨p, hp', g0, ge, hq⟩ := steps_gap e r b' ac.2 (fun x h => hx x (List.mem_cons_of_mem _ h)) g hg
      refine ⟨p, List.mem_cons_of_mem _ hp', g0, ge, fun q hq' => ?_⟩
      rcases List.mem_cons.mp hq' with z | z
      · have := ac.1 p hp'
        exact .inl (by omega)
      · exact hq q z
theorem steps_cover (e : Int) : ∀ (r : List Int) (b x : Int), (b :: r).Pairwise (· < ·) → b < x → x ≤ e → ∃ p ∈ b :: r, ∃ g ∈ stepsE e b r, p < x ∧ x ≤ p + g
  | [], b, x, _, h0, h1 => ⟨b, List.mem_cons_self, e - b, List.mem_cons_self, h0, by omega⟩
  | b' :: r, b, x, hp, h0, h1 => by
    by_cases h : x ≤ b'
    · exact ⟨b, List.mem_cons_self, b' - b, List.mem_cons_self, h0, by omega⟩
    · obtain ⟨p, hp', g, hg, z⟩ := steps_cover e r b' x (List.pairwise_cons.mp hp).2 (by omega) h1
      exact ⟨p, List.mem_cons_of_mem _ hp', g, List.mem_cons_of_mem _ hg, z⟩
theorem spread_steps {m : Int} {ps : List Int} {M : Int} (hm : 0 < m) (hne : ps ≠ []) (asc : ps.Pairwise (· < ·)) (rng : ∀ x ∈ ps, 0 ≤ x ∧ x < m)
    (got : M ∈ (stepsOf m ps).map fun s => s - 1) (all : ∀ y ∈ (stepsOf m ps).map fun s => s - 1, y ≤ M) : IsSpread m ps (m - M) := by
  cases ps with
  | nil => exact absurd rfl hne
  | cons b0 r =>
    rw [stepsOf_cons] at got all
    have r0 := rng b0 List.mem_cons_self
    have below : ∀ x ∈ b0 :: r, x < b0 + m := fun x hx => by have := rng x hx; omega
    constructor
    · rw [List.mem_map] at got
      obtain ⟨g, hg, eg⟩ := got
      obtain ⟨p, hp, g0, ge, hq⟩ := steps_gap (b0 + m) r b0 asc below g hg
      have rp := rng p hp
      refine ⟨(p + g) % m, Int.emod_nonneg _ (by omega), Int.emod_lt_of_pos _ hm, fun q hq' => ?_⟩
      rw [sub_mod']
      have rq := rng q hq'
      have lowq : b0 ≤ q := by
        rcases List.mem_cons.mp hq' with z | z
        · omega
        · have := (List.pairwise_cons.mp asc).1 q z
          omega
      rcases hq q hq' with z | z
      · have e : (q - (p + g)) % m = q - (p + g) + m := by
          by_cases h : q - (p + g) + m < m
          · have e1 : q - (p + g) = (q - (p + g) + m) + m * (-1) := by omega
            rw [e1, Int.add_mul_emod_self_left, Int.emod_eq_of_lt (by omega) (by omega)]
            omega
          · omega
        rw [e]
        omega
      · rw [Int.emod_eq_of_lt (by omega) (by omega)]
        omega
    · intro b b0' b1
      have cover : ∃ x, (x = b ∨ x = b + m) ∧ b0 < x ∧ x ≤ b0 + m := by
        by_cases h : b ≤ b0
        · exact ⟨b + m, .inr rfl, by omega, by omega⟩
        · exact ⟨b, .inl rfl, by omega, by omega⟩
      obtain ⟨x, hx, x0, x1⟩ := cover
      obtain ⟨p, hp, g, hg, h1, h2⟩ := steps_cover (b0 + m) r b0 x asc x0 x1
      refine ⟨p, hp, ?_⟩
      have hgM := all (g - 1) (List.mem_map.mpr ⟨g, hg, rfl⟩)
      have rp := rng p hp
      have lowp : b0 ≤ p := by
        rcases List.mem_cons.mp hp with z | z
        · omega
        · have := (List.pairwise_cons.mp asc).1 p z
          omega
      have e1 : (p - b) % m = (p - x) % m := by
        rcases hx with z | z
        · rw [z]
        · apply mod_of_eq (q := 1)
          omega
      have e2 : (p - x) % m = p - x + m := by
        have e3 : p - x = (p - x + m) + m * (-1) := by omega
        rw [e3, Int.add_mul_emod_self_left, Int.emod_eq_of_lt (by omega) (by omega)]
        omega
      rw [e1, e2]
      omega
theorem IsSpread.turn {m : Int} {ps qs : List Int} {v by_ : Int} (hm : 0 < m) (h : IsSpread m ps v) (hq : ∀ y, y ∈ qs ↔ ∃ p ∈ ps, y = (p + by_) % m) : IsSpread m qs v := by
  constructor
  · obtain ⟨b, b0, b1, hb⟩ := h.holds
    refine ⟨(b + by_) % m, Int.emod_nonneg _ (by omega), Int.emod_lt_of_pos _ hm, fun y hy => ?_⟩
    obtain ⟨p, hp, e⟩ := (hq y).mp hy
    rw [e, mod_sub', sub_mod', show p + by_ - (b + by_) = p - b by omega]
    exact hb p hp
  · intro b b0 b1
    obtain ⟨p, hp, e⟩ := h.least ((b - by_) % m) (Int.emod_nonneg _ (by omega)) (Int.emod_lt_of_pos _ hm)
    refine ⟨(p + by_) % m, (hq _).mpr ⟨p, hp, rfl⟩, ?_⟩
    rw [sub_mod', show p - (b - by_) = p + by_ - b by omega] at e
    rw [mod_sub']
    exact e
theorem spread_one {m p : Int} (hm : 0 < m) (h0 : 0 ≤ p) (h1 : p < m) : IsSpread m [p] 1 := by
  constructor
  · refine ⟨p, h0, h1, fun q hq => ?_⟩
    rw [List.mem_singleton.mp hq, Int.sub_self, Int.zero_emod]
    decide
  · intro b _ _
    exact ⟨p, List.mem_cons_self, by have := Int.emod_nonneg (p - b) (show m ≠ 0 by omega); omega⟩
theorem spread_all {m : Int} (hm : 0 < m) : IsSpread m (upto m) m := by
  constructor
  · exact ⟨0, by decide, hm, fun p _ => Int.emod_lt_of_pos _ hm⟩
  · intro b b0 b1
    refine ⟨(b - 1) % m, upto_mem.mpr ⟨Int.emod_nonneg _ (by omega), Int.emod_lt_of_pos _ hm⟩, ?_⟩
    rw [mod_sub', show b - 1 - b = 0 - 1 by omega, back_zero (by omega)]
    omega
theorem turn_nodup {m by_ : Int} (hm : 0 < m) : ∀ {ps : List Int}, ps.Nodup → (∀ x ∈ ps, 0 ≤ x ∧ x < m) → (ps.map fun p => (p + by_) % m).Nodup
  | [], _, _ => List.nodup_nil
  | p :: r, nd, hr => by
    rw [List.nodup_cons] at nd
    rw [List.map_cons, List.nodup_cons]
    refine ⟨fun z => ?_, turn_nodup hm nd.2 fun x hx => hr x (List.mem_cons_of_mem _ hx)⟩
    rw [List.mem_map] at z
    obtain ⟨y, hy, e⟩ := z
    have h1 := hr p List.mem_cons_self
    have h2 := hr y (List.mem_cons_of_mem _ hy)
    have e2 : y = p := by
      have k1 : ((y + by_) % m - by_) % m = y := by rw [mod_sub', show y + by_ - by_ = y by omega, Int.emod_eq_of_lt h2.1 h2.2]
      have k2 : ((p + by_) % m - by_) % m = p := by rw [mod_sub', show p + by_ - by_ = p by omega, Int.emod_eq_of_lt h1.1 h1.2]
      rw [← k1, ← k2, e]
    subst e2
    exact nd.1 hy

/-! ### arcs, widths, lengths, by data -/
section
variable {K : PySem.W.Frag} {Δ : DK}
def aIxOg (i : Nat) (ab : AE) : AE := fun s A => (∃ ds, s.env[i]? = some (.own ds)) ∧ ab s fun e s1 => ∃ ds j d, s1.env[i]? = some (.own ds) ∧ e = .int j ∧ atI ds j = some d ∧ A d s1
theorem re_ixOg (i : Nat) {tb : TE} {ab : AE} (hb : RE K Δ tb ab) : RE K Δ (tOp (rIxA K) (tVar i) tb) (aIxOg i ab) := by
  intro C B σ H s Q A E h q
  obtain ⟨⟨ds0, h0⟩, h⟩ := h
  obtain ⟨p, us, hp, hus, hds⟩ := E.ownAt h0
  refine ⟨.ref p, hp, hb C B σ H s _ _ E h fun v d H1 s1 a1 m1 E1 dv => ?_⟩
  obtain ⟨ds, j, x, hs, e, hx, a⟩ := a1
  subst e
  obtain ⟨p', us', hp', hus', hds'⟩ := E1.ownAt hs
  have ep : p' = p := by
    rw [hp] at hp'
    exact (V.ref.inj (Option.some.inj (Option.some.inj hp'))).symm
  subst ep
  obtain ⟨v', hv', dv'⟩ := hds'.atI hx
  exact .inl ⟨p', us', j, v', rfl, dv_int dv, SqL.of hus', hv', q _ _ _ _ a m1 E1 dv'⟩
/-- one of two ways to walk -/
def iU (w1 w2 : TI) : TI := fun σ H R => w1 σ H R ∨ w2 σ H R
theorem kiZZ {X : Cx} {e e2 : Expr} {ta : TA} {p pos tpos : Pos} {elts : List Expr} {kk : Nat} (K : PySem.W.Frag) (hg : Gl X "zip") (hm : X.mg "zip" = none) (ha : PA X [e, e2] ta) (hK : X.K = K := by rfl)
    (hs : starEach [e, e2] X.env = (false, eval e X.env) :: starEach [e2] X.env := by rfl) (hpl : (backTo pos (starEach [e2] X.env)).any (·.1) = false := by rfl) :
    PI X (.Tuple elts kk tpos) (.Call (.Name "zip" p) [e, e2] [] pos) (iU (iZip K ta) (iZm K ta)) := by
  constructor
  intro pins s σ H R I h
  rcases h with h | h
  · exact (kizip K hg hm ha hK hs hpl).run pins s σ H R I h
  · exact (kizm K hg hm ha hK hs hpl).run pins s σ H R I h
theorem ri_U {w1 w2 : TI} {a1 a2 : AI} (h1 : RI K Δ w1 a1) (h2 : RI K Δ w2 a2) : RI K Δ (iU w1 w2) (fun s A => a1 s A ∨ a2 s A) := by
  intro C B σ H s R A E h q
  rcases h with h | h
  · exact .inl (h1 C B σ H s R A E h q)
  · exact .inr (h2 C B σ H s R A E h q)
end
theorem zip_intsD (xs ys : List Int) : zipD (xs.map PyData.int) (ys.map PyData.int) = (xs.zip ys).map fun p => PyData.tuple [.int p.1, .int p.2] := by
  unfold zipD
  rw [List.zip_map, List.map_map]
  rfl
def RSteps : RP := fun ds A => ∃ (m : Int) (d : PyData) (ns : List Int), ds = [.int m, d] ∧ (d = .list (ns.map .int) ∨ d = .tuple (ns.map .int)) ∧ ns ≠ [] ∧ ns.length ≤ 100 ∧ A (.list ((stepsOf m ns).map .int))
def RSpread : RP := fun ds A => ∃ (m : Int) (ps : List Int), ds = [.int m, tupD ps] ∧ 1 ≤ m ∧ m ≤ 60 ∧ Places m ps ∧ ps ≠ [] ∧ ∀ v, IsSpread m ps v → A (.int v)
def RInArc : RP := fun ds A => ∃ (m b l p : Int), ds = [.int m, .int b, .int l, .int p] ∧ 0 < m ∧ A (.bool (inArc m b l p))
def RFrom : RP := fun ds A => ∃ (m st l : Int) (ts ss : List Int), ds = [.int m, .list (ts.map .int), .list (ss.map .int), .int st, .int l] ∧ 0 < m ∧ ts.length ≤ 100 ∧ A (.int (psum (inArc m st l) ts ss))
def RSent : RP := fun ds A => ∃ (m l : Int) (tl : List (Int × Int)), ds = [.int m, toolD tl, .int l] ∧ IsTool m tl ∧ 1 ≤ m ∧ m ≤ 60 ∧ A (.list ((tl.map fun q => cnt m tl q.2 l).map .int))
def RTW : RP := fun ds A => ∃ (m l : Int) (tl : List (Int × Int)), ds = [.int m, toolD tl, .int l] ∧ IsTool m tl ∧ 1 ≤ m ∧ m ≤ 60 ∧ ∀ v, (∃ q ∈ tl, cnt m tl q.2 l = v) → (∀ q ∈ tl, cnt m tl q.2 l ≤ v) → A (.int v)
def RWidth : RP := fun ds A => ∃ (m l : Int) (tls : List (List (Int × Int))), ds = [.int m, toolsD tls, .int l] ∧ (∀ t ∈ tls, IsTool m t) ∧ tls ≠ [] ∧ tls.length ≤ 100 ∧ 1 ≤ m ∧ m ≤ 60 ∧ l ≤ m ∧ ∀ v, IsWidth m tls l v → A (.int v)
def RLens : RP := fun ds A => ∃ (m g : Int) (tls : List (List (Int × Int))), ds = [.int m, toolsD tls, .int g] ∧ (∀ t ∈ tls, IsTool m t) ∧ tls ≠ [] ∧ tls.length ≤ 100 ∧ 1 ≤ m ∧ m ≤ 60 ∧ 1 ≤ g ∧ g ≤ m ∧ ∀ xs x, Path m tls g xs x → IsWidth m tls x x → A (tupD xs)
theorem psum_filter (P : Int → Bool) (ts ss : List Int) : psum P ts ss = (((ts.zip ss).filter fun p => P p.1).map (·.2)).sum := rfl
theorem sent_cnt {m l t : Int} {tl : List (Int × Int)} (it : IsTool m tl) : psum (inArc m t l) (tl.map (·.2)) (stepsOf m (tl.map (·.1))) = cnt m tl t l := psum_cnt (inArc m t l) it
theorem width_by {m l : Int} {tls : List (List (Int × Int))} {ws : List Int} {v : Int} (hm : 0 < m) (hl : l ≤ m) (its : ∀ t ∈ tls, IsTool m t) (hw : ws.length = tls.length)
    (hi : ∀ (i : Nat) t x, tls[i]? = some t → ws[i]? = some x → (∃ q ∈ t, cnt m t q.2 l = x) ∧ ∀ q ∈ t, cnt m t q.2 l ≤ x) (got : v ∈ ws) (all : ∀ y ∈ ws, y ≤ v) : IsWidth m tls l v := by
  refine width_of_targets hm hl its ?_ ?_
  · obtain ⟨i, e⟩ := List.getElem?_of_mem got
    have li := (List.getElem?_eq_some_iff.mp e).1
    have et := List.getElem?_eq_getElem (show i < tls.length by omega)
    obtain ⟨⟨q, hq, eq⟩, _⟩ := hi i _ _ et e
    exact ⟨_, List.getElem_mem _, q, hq, eq⟩
  · intro t ht q hq
    obtain ⟨i, e⟩ := List.getElem?_of_mem ht
    have li := (List.getElem?_eq_some_iff.mp e).1
    have ew := List.getElem?_eq_getElem (show i < ws.length by omega)
    obtain ⟨_, h2⟩ := hi i _ _ e ew
    exact Int.le_trans (h2 q hq) (all _ (List.getElem_mem _))

/-! ### widths and repeats -/
theorem ex_most {S : Int → Prop} {m : Int} (hb : ∀ v, S v → v ≤ m) : ∀ (n : Nat) (v0 : Int), S v0 → m - v0 ≤ (n : Nat) → ∃ v, S v ∧ ∀ u, S u → u ≤ v
  | 0, v0, h0, hn => ⟨v0, h0, fun u hu => by have := hb u hu; omega⟩
  | n + 1, v0, h0, hn => by
    by_cases h : ∃ u, S u ∧ v0 < u
    · obtain ⟨u, hu, lt⟩ := h
      exact ex_most hb n u hu (by omega)
    · refine ⟨v0, h0, fun u hu => ?_⟩
      by_cases z : u ≤ v0
      · exact z
      · exact absurd ⟨u, hu, by omega⟩ h
theorem width_ex {m : Int} {tls : List (List (Int × Int))} (hm : 0 < m) (ne : tls ≠ []) (l : Int) : ∃ v, IsWidth m tls l v := by
  obtain ⟨tl, r, e⟩ : ∃ tl r, tls = tl :: r := by
    cases tls with
    | nil => exact absurd rfl ne
    | cons tl r => exact ⟨tl, r, rfl⟩
  have h := ex_most (S := fun v => ∃ tl ∈ tls, ∃ b, 0 ≤ b ∧ b < m ∧ cnt m tl b l = v) (m := m) (fun v ⟨tl, _, b, _, _, e⟩ => by rw [← e]; exact cnt_le (by omega)) (m - cnt m tl 0 l).toNat
    (cnt m tl 0 l) ⟨tl, by rw [e]; exact List.mem_cons_self, 0, by decide, hm, rfl⟩ (by omega)
  obtain ⟨v, h1, h2⟩ := h
  exact ⟨v, h1, fun tl ht b b0 b1 => h2 _ ⟨tl, ht, b, b0, b1, rfl⟩⟩
theorem width_mono {m : Int} {tls : List (List (Int × Int))} {l l' v v' : Int} (h : IsWidth m tls l v) (h' : IsWidth m tls l' v') (hl : l ≤ l') : v ≤ v' := by
  obtain ⟨tl, ht, b, b0, b1, e⟩ := h.got
  have a := h'.all tl ht b b0 b1
  have c : cnt m tl b l ≤ cnt m tl b l' := by
    unfold cnt brought
    have := filter_mono (p := fun x => inArc m b l (tgt tl x)) (q := fun x => inArc m b l' (tgt tl x)) (upto m) fun x _ z => by
      unfold inArc at z ⊢
      have := of_decide_eq_true z
      exact decide_eq_true (by omega)
    omega
  omega
theorem sumN_full {f : Nat → Nat} {c : Nat} : ∀ n : Nat, (∀ i, i < n → f i ≤ c) → sumN f n = n * c → ∀ i, i < n → f i = c
  | 0, _, _, i, hi => absurd hi (Nat.not_lt_zero _)
  | n + 1, h, e, i, hi => by
    have le := sumN_le (f := f) (c := c) n fun j hj => h j (by omega)
    have ln := h n (Nat.lt_succ_self n)
    have e' : sumN f n + f n = (n + 1) * c := e
    rw [Nat.add_mul, Nat.one_mul] at e'
    by_cases z : i = n
    · subst z
      omega
    · exact sumN_full n (fun j hj => h j (by omega)) (by omega) i (by omega)
/-- a width is its own length just if no arc gets more -/
theorem width_own {m : Int} {tls : List (List (Int × Int))} {l : Int} (hm : 0 < m) (ne : tls ≠ []) (l0 : 0 ≤ l) (lm : l ≤ m) : IsWidth m tls l l ↔ ∀ tl ∈ tls, ∀ b, 0 ≤ b → b < m → cnt m tl b l = l := by
  constructor
  · intro h tl ht b b0 b1
    have t := cnt_total tl hm l0 lm
    have f := sumN_full (f := fun b => cntN (fun x => inArc m ((b : Nat) : Int) l (tgt tl x)) 0 m.toNat) (c := l.toNat) m.toNat (fun i hi => by
      have := h.all tl ht (i : Nat) (by omega) (by omega)
      rw [cnt_eq] at this
      show cntN (fun x => inArc m ((i : Nat) : Int) l (tgt tl x)) 0 m.toNat ≤ l.toNat
      omega) t b.toNat (by omega)
    have f : cntN (fun x => inArc m ((b.toNat : Nat) : Int) l (tgt tl x)) 0 m.toNat = l.toNat := f
    rw [show ((b.toNat : Nat) : Int) = b by omega] at f
    rw [cnt_eq, f]
    omega
  · intro h
    obtain ⟨tl, r, e⟩ : ∃ tl r, tls = tl :: r := by
      cases tls with
      | nil => exact absurd rfl ne
      | cons tl r => exact ⟨tl, r, rfl⟩
    have ht : tl ∈ tls := by rw [e]; exact List.mem_cons_self
    exact ⟨⟨tl, ht, 0, by decide, hm, h tl ht 0 (by decide) hm⟩, fun tl ht b b0 b1 => by rw [h tl ht b b0 b1]; exact Int.le_refl _⟩
def Rep (m : Int) (tl : List (Int × Int)) (d : Int) : Prop := ∀ x, 0 ≤ x → x < m → tgt tl ((x + d) % m) = (tgt tl x + d) % m
/-- closed under differences -/
def Dif (S : Int → Prop) : Prop := ∀ a b, S a → S b → S (a - b)
theorem Dif.mul {S : Int → Prop} (h : Dif S) {a : Int} (ha : S a) (k : Int) : S (a * k) := by
  have z : S 0 := by
    have := h a a ha ha
    rw [Int.sub_self] at this
    exact this
  have neg : ∀ x, S x → S (-x) := fun x hx => by
    have := h 0 x z hx
    rw [Int.zero_sub] at this
    exact this
  have up : ∀ n : Nat, S (a * (n : Nat)) := by
    intro n
    induction n with
    | zero => rw [Int.natCast_zero, Int.mul_zero]; exact z
    | succ n ih =>
      have := h _ _ ih (neg a ha)
      rw [show a * (n : Nat) - -a = a * ((n + 1 : Nat) : Int) by rw [Int.natCast_add, Int.mul_add]; show _ = _ + a * 1; rw [Int.mul_one]; omega] at this
      exact this
  by_cases hk : 0 ≤ k
  · have := up k.toNat
    rw [show ((k.toNat : Nat) : Int) = k by omega] at this
    exact this
  · have := neg _ (up (-k).toNat)
    rw [show (((-k).toNat : Nat) : Int) = -k by omega, Int.mul_neg, Int.neg_neg] at this
    exact this
section
variable {m : Int} {tl : List (Int × Int)} {L P : Int → Int}
theorem Lift.dif (h : Lift m tl L P) : Dif fun k => ∀ t, P (t + k) = P t + k := by
  intro a b ha hb t
  have h1 := ha (t - b)
  have h2 := hb (t - b)
  rw [show t - b + b = t by omega] at h2
  rw [show t + (a - b) = t - b + a by omega, h1]
  omega
theorem Lift.own (h : Lift m tl L P) (hm : 0 < m) {l : Int} (l0 : 0 ≤ l) (lm : l ≤ m) : (∀ b, 0 ≤ b → b < m → BP.cnt m tl b l = l) ↔ ∀ t, P (t + l) = P t + l := by
  constructor
  · intro hc t
    have r0 := Int.emod_nonneg t (show m ≠ 0 by omega)
    have r1 := Int.emod_lt_of_pos t hm
    have re := Int.mul_ediv_add_emod t m
    have c := hc (t % m) r0 r1
    rw [h.cnt hm l0 lm] at c
    have i1 := iter_per h.pper (t % m) (t / m)
    have i2 := iter_per h.pper (t % m + l) (t / m)
    rw [show t % m + m * (t / m) = t by omega] at i1
    rw [show t % m + l + m * (t / m) = t + l by omega] at i2
    omega
  · intro hp b _ _
    rw [h.cnt hm l0 lm, hp]
    omega
theorem Lift.rep (h : Lift m tl L P) (hm : 0 < m) {d : Int} (d0 : 0 < d) (d1 : d < m) : Rep m tl d ↔ ∀ t, P (t + d) = P t + d := by
  constructor
  · intro hr
    have hL : ∀ x, L (x + d) = L x + d := by
      intro x
      have r := hr (x % m) (Int.emod_nonneg _ (by omega)) (Int.emod_lt_of_pos _ hm)
      rw [mod_add', h.tg, h.tg, mod_add'] at r
      have a := h.mono x (x + d) (by omega)
      have b := h.mono (x + d) (x + m) (by omega)
      rw [h.per] at b
      have z : (L (x + d) - (L x + d)) % m = 0 := by
        rw [← mod_sub', r, mod_sub', Int.sub_self, Int.zero_emod]
      have e := Int.mul_ediv_add_emod (L (x + d) - (L x + d)) m
      rw [z, Int.add_zero] at e
      have k1 : (L (x + d) - (L x + d)) / m = 0 := by
        generalize (L (x + d) - (L x + d)) / m = k at e
        by_cases kp : 1 ≤ k
        · have := Int.mul_le_mul_of_nonneg_left kp (show 0 ≤ m by omega)
          rw [Int.mul_one] at this
          omega
        · by_cases kn : k ≤ -1
          · have := Int.mul_le_mul_of_nonneg_left kn (show 0 ≤ m by omega)
            rw [Int.mul_neg, Int.mul_one] at this
            omega
          · omega
      rw [k1, Int.mul_zero] at e
      omega
    intro t
    have key : ∀ x, x < P (t + d) ↔ x < P t + d := by
      intro x
      have e := hL (x - d)
      rw [show x - d + d = x by omega] at e
      have q := h.lt (x - d) t
      have q2 := h.lt x (t + d)
      constructor
      · intro z
        have := q.mp (by have := q2.mpr z; omega)
        omega
      · intro z
        have := q.mpr (by omega)
        exact q2.mp (by omega)
    have h1 := key (P t + d)
    have h2 := key (P (t + d))
    omega
  · intro hp x x0 x1
    have e : L (x + d) = L x + d := by
      have q1 := h.lt (x + d) (L x + 1 + d)
      have q2 := h.lt (x + d) (L x + d)
      rw [hp] at q1 q2
      have r1 := h.lt x (L x + 1)
      have r2 := h.lt x (L x)
      have a1 := q1.mpr (by have := r1.mp (by omega); omega)
      have a2 : ¬ L (x + d) < L x + d := fun z => by
        have := q2.mp z
        have := r2.mpr (by omega)
        omega
      omega
    have tx := h.tg x
    rw [Int.emod_eq_of_lt x0 x1] at tx
    rw [h.tg, e, tx, mod_add']
end
theorem rep_iff {m l d : Int} {tl : List (Int × Int)} (hm : 0 < m) (it : IsTool m tl) (l1 : 1 ≤ l) (lm : l < m) (d1 : 1 ≤ d) (dl : d ∣ l) (dS : ∀ S, Dif S → S m → S l → S d) :
    (∀ b, 0 ≤ b → b < m → cnt m tl b l = l) ↔ Rep m tl d := by
  obtain ⟨L, P, lf⟩ := lift_of hm it
  have dle : d ≤ l := Int.le_of_dvd (by omega) dl
  rw [lf.own hm (by omega) (by omega), lf.rep hm (by omega) (by omega)]
  constructor
  · intro h
    exact dS _ lf.dif (fun t => lf.pper t) h
  · intro h
    obtain ⟨k, e⟩ := dl
    have := lf.dif.mul h k
    rw [← e] at this
    exact this
theorem own_iff {m l d : Int} {tls : List (List (Int × Int))} (hm : 0 < m) (ne : tls ≠ []) (its : ∀ tl ∈ tls, IsTool m tl) (l1 : 1 ≤ l) (lm : l < m) (d1 : 1 ≤ d) (dl : d ∣ l) (dS : ∀ S, Dif S → S m → S l → S d) :
    IsWidth m tls l l ↔ ∀ tl ∈ tls, Rep m tl d := by
  rw [width_own hm ne (by omega) (by omega)]
  constructor
  · intro h tl ht
    exact (rep_iff hm (its tl ht) l1 lm d1 dl dS).mp (h tl ht)
  · intro h tl ht
    exact (rep_iff hm (its tl ht) l1 lm d1 dl dS).mpr (h tl ht)
theorem sum_range (f : Nat → Nat) : ∀ n : Nat, ((List.range n).map fun b => ((f b : Nat) : Int)).sum = ((sumN f n : Nat) : Int)
  | 0 => rfl
  | n + 1 => by
    rw [List.range_succ, List.map_append, List.sum_append, sum_range f n]
    show _ + (((f n : Nat) : Int) + 0) = ((sumN f n + f n : Nat) : Int)
    omega
theorem Path.head {m : Int} {tls : List (List (Int × Int))} {g x : Int} {xs : List Int} (h : Path m tls g xs x) : ∃ r, xs = g :: r := by
  induction h with
  | one => exact ⟨[], rfl⟩
  | more p w n ih =>
    obtain ⟨r, e⟩ := ih
    exact ⟨r ++ [_], by rw [e]; rfl⟩

/-! ### periods and repeats -/
def RepZ (m : Int) (f : Int → Int) (d : Int) : Prop := ∀ x, 0 ≤ x → x < m → f ((x + d) % m) = (f x + d) % m
theorem repF_iff {m d : Int} {f : Int → Int} : repF m f d = true ↔ RepZ m f d := by
  unfold repF
  rw [List.all_eq_true]
  constructor
  · intro h x h0 h1
    exact of_decide_eq_true (h x (upto_mem.mpr ⟨h0, h1⟩))
  · intro h x hx
    obtain ⟨h0, h1⟩ := upto_mem.mp hx
    exact decide_eq_true (h x h0 h1)
theorem RepZ.dif {m : Int} {f : Int → Int} (hm : 1 ≤ m) (hf : ∀ x, 0 ≤ x → x < m → 0 ≤ f x ∧ f x < m) : Dif (RepZ m f) := by
  intro a b ha hb x h0 h1
  have y := mod_at (x := x - b) hm
  have e1 := hb ((x - b) % m) y.1 y.2
  rw [Int.emod_add_emod, show x - b + b = x by omega, Int.emod_eq_of_lt h0 h1] at e1
  have e2 := ha ((x - b) % m) y.1 y.2
  rw [Int.emod_add_emod] at e2
  have ry := hf _ y.1 y.2
  rw [show x + (a - b) = x - b + a by omega, e2, e1, Int.emod_add_emod]
  congr 1
  omega
theorem RepZ.self {m : Int} {f : Int → Int} (hf : ∀ x, 0 ≤ x → x < m → 0 ≤ f x ∧ f x < m) : RepZ m f m := repF_iff.mp (repF_self hf)
theorem dif_gcd {S : Int → Prop} (h : Dif S) (a b : Nat) : S a → S b → S ((Nat.gcd a b : Nat) : Int) := by
  induction a, b using Nat.gcd.induction with
  | H0 n => exact fun _ hb => by rw [Nat.gcd_zero_left]; exact hb
  | H1 a b ha ih =>
    intro h1 h2
    rw [Nat.gcd_rec]
    refine ih ?_ h1
    have e : ((b % a : Nat) : Int) = b - a * ((b / a : Nat) : Int) := by
      have := Nat.mod_add_div b a
      have z : ((b % a : Nat) : Int) + a * ((b / a : Nat) : Int) = b := by
        rw [← Int.natCast_mul, ← Int.natCast_add, this]
      omega
    rw [e]
    exact h _ _ h2 (h.mul h1 _)
/-- what repeats are: the multiples of the period -/
theorem rep_period {m d : Int} {tl : List (Int × Int)} (hm : 1 ≤ m) (it : IsTool m tl) : RepZ m (tgt tl) d ↔ ((perN m tl : Nat) : Int) ∣ d := by
  have hf : ∀ x, 0 ≤ x → x < m → 0 ≤ tgt tl x ∧ tgt tl x < m := fun x _ _ => tgt_rng it x
  obtain ⟨p1, p2, p3⟩ := perN_spec hm it
  obtain ⟨s1, s2, s3, s4⟩ := perOf_spec hm hf
  have dif := RepZ.dif hm hf
  have hp : RepZ m (tgt tl) ((perN m tl : Nat) : Int) := by
    rw [p1]
    exact repF_iff.mp s4
  constructor
  · intro hd
    have ha : RepZ m (tgt tl) ((d.natAbs : Nat) : Int) := by
      have hn : RepZ m (tgt tl) (d * (-1)) := dif.mul hd (-1)
      rcases Int.natAbs_eq d with e | e
      · rw [← e]
        exact hd
      · rw [show ((d.natAbs : Nat) : Int) = d * (-1) by omega]
        exact hn
    have hg := dif_gcd dif _ _ ha hp
    have g1 : Nat.gcd d.natAbs (perN m tl) ∣ perN m tl := Nat.gcd_dvd_right _ _
    have g2 : Nat.gcd d.natAbs (perN m tl) ∣ d.natAbs := Nat.gcd_dvd_left _ _
    have gpos : 0 < Nat.gcd d.natAbs (perN m tl) := Nat.gcd_pos_of_pos_right _ p2
    have gm : Nat.gcd d.natAbs (perN m tl) ∣ m.toNat := Nat.dvd_trans g1 p3
    have mem : ((Nat.gcd d.natAbs (perN m tl) : Nat) : Int) ∈ perL m (tgt tl) := by
      refine mem_perL.mpr ⟨by omega, ?_, ?_, repF_iff.mpr hg⟩
      · have := Nat.le_of_dvd (by omega) gm
        omega
      · have h0 := Nat.mod_eq_zero_of_dvd gm
        have : ((m.toNat % Nat.gcd d.natAbs (perN m tl) : Nat) : Int) = 0 := by rw [h0]; rfl
        rw [Int.natCast_emod, show ((m.toNat : Nat) : Int) = m by omega] at this
        exact this
    obtain ⟨r, er⟩ := perL_cons hm hf
    have le : perOf m (tgt tl) ≤ ((Nat.gcd d.natAbs (perN m tl) : Nat) : Int) := by
      have asc := perL_asc m (tgt tl)
      rw [er] at mem asc
      rcases List.mem_cons.mp mem with z | z
      · omega
      · have := (List.pairwise_cons.mp asc).1 _ z
        omega
    have eq : Nat.gcd d.natAbs (perN m tl) = perN m tl := Nat.le_antisymm (Nat.le_of_dvd p2 g1) (by omega)
    rw [eq] at g2
    exact Int.ofNat_dvd_left.mpr g2
  · intro ⟨k, e⟩
    rw [e]
    exact dif.mul hp k
theorem rep_dec {m d : Int} {tl : List (Int × Int)} (hm : 1 ≤ m) (it : IsTool m tl) : repF m (tgt tl) d = decide (d % ((perN m tl : Nat) : Int) = 0) := by
  apply Bool.eq_iff_iff.mpr
  rw [repF_iff, rep_period hm it, decide_eq_true_eq]
  exact ⟨fun h => Int.emod_eq_zero_of_dvd h, fun h => Int.dvd_of_emod_eq_zero h⟩
theorem rep_com {m t c : Int} {a b : List (Int × Int)} (hm : 1 ≤ m) (ha : RepZ m (tgt a) c) (hb : RepZ m (tgt b) c) : RepZ m (comF m a t b) c := by
  intro x h0 h1
  show tgt b ((tgt a ((x + c) % m) + t) % m) = (tgt b ((tgt a x + t) % m) + c) % m
  have y := mod_at (x := tgt a x + t) hm
  rw [ha x h0 h1, ← hb _ y.1 y.2, Int.emod_add_emod, Int.emod_add_emod, show tgt a x + c + t = tgt a x + t + c by omega]
theorem RepZ.congr {m c : Int} {f g : Int → Int} (hm : 1 ≤ m) (e : ∀ x, 0 ≤ x → x < m → f x = g x) (h : RepZ m f c) : RepZ m g c := by
  intro x h0 h1
  have y := mod_at (x := x + c) hm
  rw [← e x h0 h1, ← e _ y.1 y.2]
  exact h x h0 h1
/-! the number of arcs -/
theorem cntN_shift (P : Int → Bool) (lo s : Int) : ∀ n : Nat, cntN P (lo + s) n = cntN (fun x => P (x + s)) lo n
  | 0 => rfl
  | n + 1 => by
    show cntN P (lo + s) n + _ = cntN (fun x => P (x + s)) lo n + _
    rw [cntN_shift P lo s n, show lo + s + ((n : Nat) : Int) = lo + ((n : Nat) : Int) + s by omega]
theorem cntN_per {P : Int → Bool} {p : Nat} (h : ∀ x, P (x + (p : Nat)) = P x) : ∀ q : Nat, cntN P 0 (q * p) = q * cntN P 0 p
  | 0 => by rw [Nat.zero_mul, Nat.zero_mul]; rfl
  | q + 1 => by
    have e : (q + 1) * p = p + q * p := by rw [Nat.add_mul, Nat.one_mul, Nat.add_comm]
    rw [e, cntN_add, cntN_shift P 0 (p : Nat) (q * p), show (fun x => P (x + (p : Nat))) = P from funext h, cntN_per h q, Nat.add_mul, Nat.one_mul, Nat.add_comm]
theorem arcs_period {m : Int} {tl : List (Int × Int)} (hm : 1 ≤ m) (it : IsTool m tl) : ∃ c : Nat, tl.length * perN m tl = c * m.toNat := by
  obtain ⟨p1, p2, p3⟩ := perN_spec hm it
  have hp : RepZ m (tgt tl) ((perN m tl : Nat) : Int) := (rep_period hm it).mpr (Int.dvd_refl _)
  have ep := pO_tgt (by omega : 0 < m) it
  by_cases hc : chF m (tgt tl) = []
  · -- one arc
    have e1 : tl = [(0, tgt tl 0)] := by
      unfold pO at ep
      rw [if_pos hc] at ep
      exact ep.symm
    have all : ∀ x, tgt tl x = tgt tl 0 := by
      intro x
      obtain ⟨q, hq, e, _⟩ := tgt_arc it.ne it.asc x
      rw [e1] at hq
      rw [e, List.mem_singleton.mp hq]
    have h0 := hp 0 (by omega) (by omega)
    rw [all] at h0
    have r := tgt_rng it 0
    have dv : m ∣ ((perN m tl : Nat) : Int) := by
      apply Int.dvd_of_emod_eq_zero
      have e2 : (tgt tl 0 + ((perN m tl : Nat) : Int) - tgt tl 0) % m = 0 := modeq_of (by rw [← h0, Int.emod_eq_of_lt r.1 r.2])
      rw [show tgt tl 0 + ((perN m tl : Nat) : Int) - tgt tl 0 = ((perN m tl : Nat) : Int) by omega] at e2
      exact e2
    have dn : m.toNat ∣ perN m tl := by
      have : ((m.toNat : Nat) : Int) ∣ ((perN m tl : Nat) : Int) := by rw [show ((m.toNat : Nat) : Int) = m by omega]; exact dv
      exact Int.natCast_dvd_natCast.mp this
    obtain ⟨c, e2⟩ := dn
    have l1 : tl.length = 1 := by rw [e1]; rfl
    exact ⟨c, by rw [l1, Nat.one_mul, e2, Nat.mul_comm]⟩
  · have el : tl.length = (chF m (tgt tl)).length := by
      have := congrArg List.length ep
      unfold pO at this
      rw [if_neg hc, List.length_map] at this
      exact this.symm
    have ec : (chF m (tgt tl)).length = cntN (fun x => decide (tgt tl (x % m) ≠ tgt tl ((x - 1) % m))) 0 m.toNat := by
      rw [← cnt_upto]
      unfold chF
      rw [List.filter_congr (q := fun x => decide (tgt tl (x % m) ≠ tgt tl ((x - 1) % m)))]
      intro x hx
      obtain ⟨h0, h1⟩ := upto_mem.mp hx
      rw [Int.emod_eq_of_lt h0 h1]
    obtain ⟨q, eq⟩ := p3
    have per : ∀ x : Int, decide (tgt tl ((x + ((perN m tl : Nat) : Int)) % m) ≠ tgt tl ((x + ((perN m tl : Nat) : Int) - 1) % m)) = decide (tgt tl (x % m) ≠ tgt tl ((x - 1) % m)) := by
      intro x
      have y := mod_at (x := x) hm
      have z := mod_at (x := x - 1) hm
      have a1 := hp (x % m) y.1 y.2
      have a2 := hp ((x - 1) % m) z.1 z.2
      rw [Int.emod_add_emod] at a1 a2
      rw [show x + ((perN m tl : Nat) : Int) - 1 = x - 1 + ((perN m tl : Nat) : Int) by omega, a1, a2]
      apply dec_congr
      have r1 := tgt_rng it (x % m)
      have r2 := tgt_rng it ((x - 1) % m)
      constructor
      · intro h e
        exact h (by rw [e])
      · intro h e
        apply h
        have := modeq_of e
        rw [show tgt tl (x % m) + ((perN m tl : Nat) : Int) - (tgt tl ((x - 1) % m) + ((perN m tl : Nat) : Int)) = tgt tl (x % m) - tgt tl ((x - 1) % m) by omega] at this
        have := modeq this
        rw [Int.emod_eq_of_lt r1.1 r1.2, Int.emod_eq_of_lt r2.1 r2.2] at this
        exact this
    have key := cntN_per (P := fun x => decide (tgt tl (x % m) ≠ tgt tl ((x - 1) % m))) (p := perN m tl) per q
    rw [el, ec]
    refine ⟨cntN (fun x => decide (tgt tl (x % m) ≠ tgt tl ((x - 1) % m))) 0 (perN m tl), ?_⟩
    rw [show m.toNat = q * perN m tl by rw [eq, Nat.mul_comm], key, Nat.mul_comm q, Nat.mul_assoc]
/-- own widths: the multiples of the common period -/
theorem own_common {m l : Int} {tls : List (List (Int × Int))} (hm : 1 ≤ m) (ne : tls ≠ []) (its : ∀ t ∈ tls, IsTool m t) (l1 : 1 ≤ l) (lm : l < m) : IsWidth m tls l l ↔ l % ((comP m tls : Nat) : Int) = 0 := by
  have el : ((l.toNat : Nat) : Int) = l := by omega
  have em : ((m.toNat : Nat) : Int) = m := by omega
  have gp : 0 < Nat.gcd l.toNat m.toNat := Nat.gcd_pos_of_pos_left _ (by omega)
  rw [own_iff (d := ((Nat.gcd l.toNat m.toNat : Nat) : Int)) (by omega) ne its l1 lm (by omega) (by rw [← el]; exact Int.natCast_dvd_natCast.mpr (Nat.gcd_dvd_left _ _)) fun S hS h1 h2 => dif_gcd hS _ _ (by rw [el]; exact h2) (by rw [em]; exact h1)]
  have conv : ∀ tl ∈ tls, (Rep m tl ((Nat.gcd l.toNat m.toNat : Nat) : Int) ↔ perN m tl ∣ l.toNat) := by
    intro tl ht
    have it := its tl ht
    obtain ⟨p1, p2, p3⟩ := perN_spec hm it
    refine (rep_period hm it).trans ⟨fun h => ?_, fun h => ?_⟩
    · exact Nat.dvd_trans (Int.natCast_dvd_natCast.mp h) (Nat.gcd_dvd_left _ _)
    · exact Int.natCast_dvd_natCast.mpr (Nat.dvd_gcd h p3)
  constructor
  · intro h
    have : comP m tls ∣ l.toNat := dvd_lcmN fun p hp => by
      rw [List.mem_map] at hp
      obtain ⟨t, ht, e⟩ := hp
      subst e
      exact (conv t ht).mp (h t ht)
    have := Nat.mod_eq_zero_of_dvd this
    have z : ((l.toNat % comP m tls : Nat) : Int) = 0 := by rw [this]; rfl
    rw [Int.natCast_emod, el] at z
    exact z
  · intro h tl ht
    refine (conv tl ht).mpr ?_
    have : comP m tls ∣ l.toNat := by
      apply Nat.dvd_of_mod_eq_zero
      have z : ((l.toNat % comP m tls : Nat) : Int) = 0 := by rw [Int.natCast_emod, el]; exact h
      omega
    exact Nat.dvd_trans (lcmN_dvd (List.mem_map_of_mem ht)) this

/-! ### fewest pushes; what turning and mirroring leaves as it is -/
def fewD (xs : List Int) (v : Int) : PyData := match xs.findIdx? (fun y => decide (v ≤ y)) with
  | some t => .int (t : Nat)
  | none => .none
def RFew : RP := fun ds A => ∃ (m g : Int) (tls : List (List (Int × Int))) (ps : List Int), ds = [.int m, toolsD tls, tupD ps, .int g] ∧ (∀ t ∈ tls, IsTool m t) ∧ tls ≠ [] ∧ tls.length ≤ 100 ∧ 1 ≤ m ∧ m ≤ 60 ∧ 1 ≤ g ∧ g ≤ m ∧ Places m ps ∧ ps ≠ [] ∧
  ∀ xs x v, Path m tls g xs x → IsWidth m tls x x → IsSpread m ps v → A (fewD xs v)
theorem few_some {xs : List Int} {v y : Int} {i : Nat} (h : xs[i]? = some y) (hy : v ≤ y) (hb : ∀ (j : Nat) z, j < i → xs[j]? = some z → z < v) : fewD xs v = .int ((i : Nat) : Int) := by
  have hi := (List.getElem?_eq_some_iff.mp h).1
  have e : xs.findIdx? (fun y => decide (v ≤ y)) = some i := by
    rw [List.findIdx?_eq_some_iff_getElem]
    refine ⟨hi, ?_, fun j hj => ?_⟩
    · rw [(List.getElem?_eq_some_iff.mp h).2]
      exact decide_eq_true hy
    · have := hb j xs[j] hj (List.getElem?_eq_getElem (by omega))
      exact fun z => by
        have := of_decide_eq_true z
        omega
  unfold fewD
  rw [e]
theorem few_none {xs : List Int} {v : Int} (hb : ∀ (j : Nat) z, xs[j]? = some z → z < v) : fewD xs v = .none := by
  have e : xs.findIdx? (fun y => decide (v ≤ y)) = none := by
    rw [List.findIdx?_eq_none_iff]
    intro y hy
    obtain ⟨j, hj⟩ := List.getElem?_of_mem hy
    have := hb j y hj
    exact decide_eq_false (by omega)
  unfold fewD
  rw [e]
theorem cnt_bij {m : Int} {Q : Int → Bool} {σ τ : Int → Int} (hσ : ∀ x, 0 ≤ x → x < m → (0 ≤ σ x ∧ σ x < m) ∧ τ (σ x) = x) (hτ : ∀ x, 0 ≤ x → x < m → (0 ≤ τ x ∧ τ x < m) ∧ σ (τ x) = x) :
    ((upto m).filter fun x => Q (σ x)).length = ((upto m).filter Q).length := by
  have nd : ∀ (P : Int → Bool) (f g : Int → Int), (∀ x, 0 ≤ x → x < m → g (f x) = x) → (((upto m).filter P).map f).Nodup := by
    intro P f g h
    have : (((upto m).filter P).map f).Pairwise (fun a b => a ≠ b) := by
      rw [List.pairwise_map]
      refine List.Pairwise.imp_of_mem ?_ ((upto_asc m).filter P)
      intro a b ha hb hab e
      have a1 := upto_mem.mp (List.mem_filter.mp ha).1
      have b1 := upto_mem.mp (List.mem_filter.mp hb).1
      have := congrArg g e
      rw [h a a1.1 a1.2, h b b1.1 b1.2] at this
      omega
    exact this
  apply Nat.le_antisymm
  · have := pigeon (nd (fun x => Q (σ x)) σ τ fun x h0 h1 => (hσ x h0 h1).2) (ys := (upto m).filter Q) fun y hy => by
      rw [List.mem_map] at hy
      obtain ⟨x, hx, e⟩ := hy
      obtain ⟨h1, h2⟩ := List.mem_filter.mp hx
      have r := upto_mem.mp h1
      subst e
      exact List.mem_filter.mpr ⟨upto_mem.mpr (hσ x r.1 r.2).1, h2⟩
    rw [List.length_map] at this
    exact this
  · have := pigeon (nd Q τ σ fun x h0 h1 => (hτ x h0 h1).2) (ys := (upto m).filter fun x => Q (σ x)) fun y hy => by
      rw [List.mem_map] at hy
      obtain ⟨x, hx, e⟩ := hy
      obtain ⟨h1, h2⟩ := List.mem_filter.mp hx
      have r := upto_mem.mp h1
      have z := hτ x r.1 r.2
      subst e
      exact List.mem_filter.mpr ⟨upto_mem.mpr z.1, by show Q (σ (τ x)) = true; rw [z.2]; exact h2⟩
    rw [List.length_map] at this
    exact this
theorem cnt_made {m b l : Int} {g : Int → Int} (md : Made m g) : cnt m (pO m g) b l = (((upto m).filter fun x => inArc m b l (g x)).length : Int) := by
  unfold cnt brought
  rw [List.filter_congr (q := fun x => inArc m b l (g x))]
  intro x hx
  obtain ⟨h0, h1⟩ := upto_mem.mp hx
  rw [md.at_ x h0 h1]
theorem cnt_turn {m t b l : Int} {tl : List (Int × Int)} (hm : 1 ≤ m) (it : IsTool m tl) : cnt m (pO m (turnF m tl t)) b l = cnt m tl ((b + t) % m) l := by
  rw [cnt_made (show Made m (turnF m tl t) from made_turn hm it)]
  have e : ((upto m).filter fun x => inArc m b l (turnF m tl t x)) = (upto m).filter fun x => (fun y => inArc m ((b + t) % m) l (tgt tl y)) ((x + t) % m) := by
    apply List.filter_congr
    intro x hx
    show decide (((tgt tl ((x + t) % m) - t) % m - b) % m < l) = decide ((tgt tl ((x + t) % m) - (b + t) % m) % m < l)
    rw [Int.emod_sub_emod, Int.sub_emod_emod, show tgt tl ((x + t) % m) - t - b = tgt tl ((x + t) % m) - (b + t) by omega]
  rw [e]
  have := cnt_bij (m := m) (Q := fun y => inArc m ((b + t) % m) l (tgt tl y)) (σ := fun x => (x + t) % m) (τ := fun x => (x - t) % m) (fun x h0 h1 => ⟨mod_at hm, ?_⟩) (fun x h0 h1 => ⟨mod_at hm, ?_⟩)
  · unfold cnt brought
    rw [this]
  · show ((x + t) % m - t) % m = x
    rw [Int.emod_sub_emod, show x + t - t = x by omega, Int.emod_eq_of_lt h0 h1]
  · show ((x - t) % m + t) % m = x
    rw [Int.emod_add_emod, show x - t + t = x by omega, Int.emod_eq_of_lt h0 h1]
theorem mir_arc {m l p b : Int} (hm : 1 ≤ m) (l1 : 1 ≤ l) (lm : l ≤ m) : ((0 - p) % m - b) % m < l ↔ (p - (1 - b - l) % m) % m < l := by
  rw [Int.emod_sub_emod, Int.sub_emod_emod]
  have r := mod_at (x := 0 - p - b) hm
  have e := Int.mul_ediv_add_emod (0 - p - b) m
  have e2 : (p - (1 - b - l)) % m = (l - 1 - (0 - p - b) % m) % m := by
    have : p - (1 - b - l) = (l - 1 - (0 - p - b) % m) + m * (-((0 - p - b) / m)) := by
      rw [Int.mul_neg]
      omega
    rw [this, Int.add_mul_emod_self_left]
  rw [e2]
  clear e2 e
  revert r
  generalize (0 - p - b) % m = q
  intro r
  by_cases h : q < l
  · rw [Int.emod_eq_of_lt (by omega) (by omega)]
    omega
  · have e3 : (l - 1 - q) % m = l - 1 - q + m := by
      have : l - 1 - q = (l - 1 - q + m) + m * (-1) := by omega
      rw [this, Int.add_mul_emod_self_left, Int.emod_eq_of_lt (by omega) (by omega)]
      omega
    rw [e3]
    omega
theorem cnt_mir {m b l : Int} {tl : List (Int × Int)} (hm : 1 ≤ m) (it : IsTool m tl) (l1 : 1 ≤ l) (lm : l ≤ m) : cnt m (pO m (mirF m tl)) b l = cnt m tl ((1 - b - l) % m) l := by
  rw [cnt_made (show Made m (mirF m tl) from made_mirror hm it)]
  have e : ((upto m).filter fun x => inArc m b l (mirF m tl x)) = (upto m).filter fun x => (fun y => inArc m ((1 - b - l) % m) l (tgt tl y)) ((0 - x) % m) := by
    apply List.filter_congr
    intro x hx
    show decide (((0 - tgt tl ((0 - x) % m)) % m - b) % m < l) = decide ((tgt tl ((0 - x) % m) - (1 - b - l) % m) % m < l)
    exact dec_congr (mir_arc hm l1 lm)
  rw [e]
  have inv : ∀ x, 0 ≤ x → x < m → (0 - (0 - x) % m) % m = x := fun x h0 h1 => by
    rw [Int.sub_emod_emod, show 0 - (0 - x) = x by omega, Int.emod_eq_of_lt h0 h1]
  have := cnt_bij (m := m) (Q := fun y => inArc m ((1 - b - l) % m) l (tgt tl y)) (σ := fun x => (0 - x) % m) (τ := fun x => (0 - x) % m) (fun x h0 h1 => ⟨mod_at hm, inv x h0 h1⟩) (fun x h0 h1 => ⟨mod_at hm, inv x h0 h1⟩)
  unfold cnt brought
  rw [this]
/-- what one of these sends, one of those sends, too -/
def CntIn (m : Int) (tls tls' : List (List (Int × Int))) : Prop := ∀ tl ∈ tls, ∀ l, 1 ≤ l → l ≤ m → ∀ b, 0 ≤ b → b < m → ∃ tl' ∈ tls', ∃ b', 0 ≤ b' ∧ b' < m ∧ cnt m tl b l = cnt m tl' b' l
def SameW (m : Int) (tls tls' : List (List (Int × Int))) : Prop := ∀ l v, 1 ≤ l → l ≤ m → IsWidth m tls l v → IsWidth m tls' l v
theorem sameW_of {m : Int} {tls tls' : List (List (Int × Int))} (h1 : CntIn m tls tls') (h2 : CntIn m tls' tls) : SameW m tls tls' := by
  intro l v l1 lm hw
  constructor
  · obtain ⟨tl, ht, b, b0, b1, e⟩ := hw.got
    obtain ⟨tl', ht', b', b0', b1', e'⟩ := h1 tl ht l l1 lm b b0 b1
    exact ⟨tl', ht', b', b0', b1', by rw [← e', e]⟩
  · intro tl' ht' b' b0' b1'
    obtain ⟨tl, ht, b, b0, b1, e⟩ := h2 tl' ht' l l1 lm b' b0' b1'
    rw [e]
    exact hw.all tl ht b b0 b1
theorem Path.same {m : Int} {tls tls' : List (List (Int × Int))} (hs : SameW m tls tls') {g x : Int} {xs : List Int} (g1 : 1 ≤ g) (gm : g ≤ m) (h : Path m tls g xs x) : Path m tls' g xs x := by
  induction h with
  | one => exact .one
  | more h w ne ih =>
    have r := h.rng g1 gm
    exact .more ih (hs _ _ r.1 r.2.1 w) ne
theorem cntIn_self {m : Int} {tls tls' : List (List (Int × Int))} (h : ∀ t ∈ tls, t ∈ tls') : CntIn m tls tls' := fun tl ht l _ _ b b0 b1 => ⟨tl, h tl ht, b, b0, b1, rfl⟩
theorem RepZ.turn1 {m t d : Int} {tl : List (Int × Int)} (hm : 1 ≤ m) (it : IsTool m tl) (h : RepZ m (tgt tl) d) : RepZ m (tgt (pO m (turnF m tl t))) d := by
  have md : Made m (turnF m tl t) := made_turn hm it
  intro x h0 h1
  have z := mod_at (x := x + d) hm
  rw [md.at_ _ z.1 z.2, md.at_ _ h0 h1]
  have y := mod_at (x := x + t) hm
  have a := h ((x + t) % m) y.1 y.2
  show (tgt tl (((x + d) % m + t) % m) - t) % m = ((tgt tl ((x + t) % m) - t) % m + d) % m
  rw [Int.emod_add_emod] at a
  rw [Int.emod_add_emod, show x + d + t = x + t + d by omega, a, Int.emod_sub_emod, Int.emod_add_emod, show tgt tl ((x + t) % m) + d - t = tgt tl ((x + t) % m) - t + d by omega]
theorem RepZ.turn {m t d : Int} {tl : List (Int × Int)} (hm : 1 ≤ m) (it : IsTool m tl) : RepZ m (tgt (pO m (turnF m tl t))) d ↔ RepZ m (tgt tl) d := by
  refine ⟨fun h => ?_, RepZ.turn1 hm it⟩
  have md : Made m (turnF m tl t) := made_turn hm it
  have := RepZ.turn1 (t := 0 - t) hm md.it h
  rw [turn_turn hm it, turn_none hm it (by rw [show t + (0 - t) = 0 by omega, Int.zero_emod])] at this
  exact this
theorem RepZ.mir1 {m d : Int} {tl : List (Int × Int)} (hm : 1 ≤ m) (it : IsTool m tl) (h : RepZ m (tgt tl) d) : RepZ m (tgt (pO m (mirF m tl))) d := by
  have md : Made m (mirF m tl) := made_mirror hm it
  have hn : RepZ m (tgt tl) (d * (-1)) := (RepZ.dif hm fun x _ _ => tgt_rng it x).mul h (-1)
  intro x h0 h1
  have z := mod_at (x := x + d) hm
  rw [md.at_ _ z.1 z.2, md.at_ _ h0 h1]
  have y := mod_at (x := 0 - x) hm
  have a := hn ((0 - x) % m) y.1 y.2
  show (0 - tgt tl ((0 - (x + d) % m) % m)) % m = ((0 - tgt tl ((0 - x) % m)) % m + d) % m
  rw [Int.emod_add_emod] at a
  rw [Int.sub_emod_emod, show 0 - (x + d) = 0 - x + d * (-1) by omega, a, Int.sub_emod_emod, Int.emod_add_emod]
  congr 1
  omega
theorem RepZ.mir {m d : Int} {tl : List (Int × Int)} (hm : 1 ≤ m) (it : IsTool m tl) : RepZ m (tgt (pO m (mirF m tl))) d ↔ RepZ m (tgt tl) d := by
  refine ⟨fun h => ?_, RepZ.mir1 hm it⟩
  have md : Made m (mirF m tl) := made_mirror hm it
  have := RepZ.mir1 hm md.it h
  rw [mir_mir hm it] at this
  exact this
theorem perN_eq {m : Int} {tl tl' : List (Int × Int)} (hm : 1 ≤ m) (it : IsTool m tl) (it' : IsTool m tl') (h : ∀ d, RepZ m (tgt tl') d ↔ RepZ m (tgt tl) d) : perN m tl' = perN m tl := by
  apply Nat.dvd_antisymm
  · exact Int.natCast_dvd_natCast.mp ((rep_period hm it').mp ((h _).mpr ((rep_period hm it).mpr (Int.dvd_refl _))))
  · exact Int.natCast_dvd_natCast.mp ((rep_period hm it).mp ((h _).mp ((rep_period hm it').mpr (Int.dvd_refl _))))
/-! spreads -/
theorem spread_mirror {m v : Int} {ps qs : List Int} (hm : 1 ≤ m) (h : IsSpread m ps v) (hq : ∀ y, y ∈ qs ↔ ∃ p ∈ ps, y = (0 - p) % m) : IsSpread m qs v := by
  have r := h.rng
  constructor
  · obtain ⟨b, b0, b1, hb⟩ := h.holds
    refine ⟨(1 - b - v) % m, (mod_at hm).1, (mod_at hm).2, fun y hy => ?_⟩
    obtain ⟨p, hp, e⟩ := (hq y).mp hy
    subst e
    have := hb p hp
    refine (mir_arc hm r.1 r.2).mpr ?_
    rw [Int.sub_emod_emod, show p - (1 - (1 - b - v) % m - v) = (1 - b - v) % m + (p + v - 1) by omega, Int.emod_add_emod, show 1 - b - v + (p + v - 1) = p - b by omega]
    exact this
  · intro b b0 b1
    by_cases hz : ∃ p ∈ qs, v ≤ (p - b) % m + 1
    · exact hz
    · exfalso
      have hlt : ∀ p ∈ ps, (p - (1 - b - (v - 1)) % m) % m < v - 1 ∨ v ≤ 1 := fun p hp => by
        by_cases v1 : v ≤ 1
        · exact .inr v1
        · refine .inl ?_
          have hh : ¬ v ≤ ((0 - p) % m - b) % m + 1 := fun z => hz ⟨_, (hq _).mpr ⟨p, hp, rfl⟩, z⟩
          exact (mir_arc hm (by omega) (by omega)).mp (by omega)
      by_cases v1 : v ≤ 1
      · obtain ⟨p, hp, _⟩ := h.least 0 (by omega) (by omega)
        have hh : ¬ v ≤ ((0 - p) % m - b) % m + 1 := fun z => hz ⟨_, (hq _).mpr ⟨p, hp, rfl⟩, z⟩
        have := (mod_at (x := (0 - p) % m - b) hm).1
        omega
      · obtain ⟨p, hp, hl⟩ := h.least ((1 - b - (v - 1)) % m) (mod_at hm).1 (mod_at hm).2
        rcases hlt p hp with z | z
        · omega
        · omega

/-! ### where arcs begin, and the widest tool -/
def FirstMax (xs : List Int) (j : Nat) : Prop := ∃ M, xs[j]? = some M ∧ (∀ i : Nat, i < j → xs[i]? ≠ some M) ∧ ∀ y ∈ xs, y ≤ M
theorem FirstMax.uniq {xs : List Int} {i j : Nat} (h1 : FirstMax xs i) (h2 : FirstMax xs j) : i = j := by
  obtain ⟨M, a1, a2, a3⟩ := h1
  obtain ⟨N, b1, b2, b3⟩ := h2
  have e : M = N := Int.le_antisymm (b3 _ (List.mem_of_getElem? a1)) (a3 _ (List.mem_of_getElem? b1))
  subst e
  rcases Nat.lt_trichotomy i j with z | z | z
  · exact absurd a1 (b2 i z)
  · exact z
  · exact absurd b1 (a2 j z)
def WBP (m : Int) (tl : List (Int × Int)) (l b : Int) : Prop := ∃ (j : Nat) (q : Int × Int), tl[j]? = some q ∧ q.1 = b ∧ FirstMax (tl.map fun q => cnt m tl q.2 l) j
theorem WBP.uniq {m l a b : Int} {tl : List (Int × Int)} (h1 : WBP m tl l a) (h2 : WBP m tl l b) : a = b := by
  obtain ⟨i, p, a1, a2, a3⟩ := h1
  obtain ⟨j, q, b1, b2, b3⟩ := h2
  have e := a3.uniq b3
  subst e
  rw [a1] at b1
  cases b1
  rw [← a2, ← b2]
def SBP (m : Int) (ps : List Int) (b : Int) : Prop := ∃ j : Nat, FirstMax (stepsOf m ps) j ∧ ps[(j + 1) % ps.length]? = some b
theorem SBP.uniq {m a b : Int} {ps : List Int} (h1 : SBP m ps a) (h2 : SBP m ps b) : a = b := by
  obtain ⟨i, a1, a2⟩ := h1
  obtain ⟨j, b1, b2⟩ := h2
  have e := a1.uniq b1
  subst e
  rw [a2] at b2
  exact Option.some.inj b2
def TWP (m : Int) (t : List (Int × Int)) (l w : Int) : Prop := (∃ q ∈ t, cnt m t q.2 l = w) ∧ ∀ q ∈ t, cnt m t q.2 l ≤ w
theorem TWP.uniq {m l a b : Int} {t : List (Int × Int)} (h1 : TWP m t l a) (h2 : TWP m t l b) : a = b := by
  obtain ⟨⟨p, a1, a2⟩, a3⟩ := h1
  obtain ⟨⟨q, b1, b2⟩, b3⟩ := h2
  exact Int.le_antisymm (by rw [← a2]; exact b3 p a1) (by rw [← b2]; exact a3 q b1)
def WIP (m : Int) (tls : List (List (Int × Int))) (l : Int) (i : Nat) : Prop := ∃ ws : List Int, ws.length = tls.length ∧ (∀ (j : Nat) t w, tls[j]? = some t → ws[j]? = some w → TWP m t l w) ∧ FirstMax ws i
theorem WIP.uniq {m l : Int} {tls : List (List (Int × Int))} {i j : Nat} (h1 : WIP m tls l i) (h2 : WIP m tls l j) : i = j := by
  obtain ⟨ws, a1, a2, a3⟩ := h1
  obtain ⟨us, b1, b2, b3⟩ := h2
  have e : ws = us := by
    apply List.ext_getElem?
    intro z
    by_cases hz : z < tls.length
    · have t := List.getElem?_eq_getElem (l := tls) (i := z) hz
      have w := List.getElem?_eq_getElem (l := ws) (i := z) (by omega)
      have u := List.getElem?_eq_getElem (l := us) (i := z) (by omega)
      rw [w, u, (a2 z _ _ t w).uniq (b2 z _ _ t u)]
    · rw [List.getElem?_eq_none (by omega), List.getElem?_eq_none (by omega)]
  subst e
  exact a3.uniq b3
def RWIdx : RP := fun ds A => ∃ (m l : Int) (tls : List (List (Int × Int))), ds = [.int m, toolsD tls, .int l] ∧ (∀ t ∈ tls, IsTool m t) ∧ tls ≠ [] ∧ tls.length ≤ 100 ∧ 1 ≤ m ∧ m ≤ 60 ∧ l ≤ m ∧
  ∀ (i : Nat) t v, tls[i]? = some t → IsWidth m tls l v → (∃ q ∈ t, cnt m t q.2 l = v) → WIP m tls l i → A (.int (i : Nat))
def RWBeg : RP := fun ds A => ∃ (m l : Int) (tl : List (Int × Int)), ds = [.int m, toolD tl, .int l] ∧ IsTool m tl ∧ 1 ≤ m ∧ m ≤ 60 ∧ ∀ q ∈ tl, (∀ q' ∈ tl, cnt m tl q'.2 l ≤ cnt m tl q.2 l) → WBP m tl l q.1 → A (.int q.1)
def RSBeg : RP := fun ds A => ∃ (m : Int) (ps : List Int), ds = [.int m, tupD ps] ∧ 1 ≤ m ∧ m ≤ 60 ∧ Places m ps ∧ ps ≠ [] ∧ ∀ p ∈ ps, (∃ v, IsSpread m ps v ∧ ∀ x ∈ ps, (x - p) % m < v) → SBP m ps p → A (.int p)
theorem first_at {M : Int} : ∀ {ns : List Int}, M ∈ ns → ∃ j : Nat, ns[j]? = some M ∧ ∀ i : Nat, i < j → ns[i]? ≠ some M
  | [], h => (List.not_mem_nil h).elim
  | x :: r, h => by
    by_cases e : x = M
    · exact ⟨0, by rw [e]; rfl, fun i hi => absurd hi (Nat.not_lt_zero _)⟩
    · rcases List.mem_cons.mp h with z | z
      · exact absurd z.symm e
      · obtain ⟨j, h1, h2⟩ := first_at z
        refine ⟨j + 1, h1, fun i hi => ?_⟩
        cases i with
        | zero => exact fun q => e (Option.some.inj q)
        | succ i => exact h2 i (by omega)
theorem step_at {m g : Int} {ps : List Int} {j : Nat} (h : (stepsOf m ps)[j]? = some g) : ∃ q, ps[j]? = some q ∧ ((j + 1 < ps.length ∧ ps[j + 1]? = some (q + g)) ∨ (j + 1 = ps.length ∧ ∃ p0, ps[0]? = some p0 ∧ p0 + m = q + g)) := by
  unfold stepsOf at h
  rw [List.getElem?_map] at h
  cases e : (ps.zip (ps.drop 1 ++ [ps.headD 0 + m]))[j]? with
  | none =>
    rw [e] at h
    cases h
  | some z =>
    rw [e] at h
    have hg : z.2 - z.1 = g := Option.some.inj h
    obtain ⟨e1, e2⟩ := List.getElem?_zip_eq_some.mp e
    refine ⟨z.1, e1, ?_⟩
    have hj := (List.getElem?_eq_some_iff.mp e1).1
    by_cases hlt : j + 1 < ps.length
    · refine .inl ⟨hlt, ?_⟩
      rw [List.getElem?_append_left (by rw [List.length_drop]; omega), List.getElem?_drop, show 1 + j = j + 1 by omega] at e2
      rw [e2]
      congr 1
      omega
    · refine .inr ⟨by omega, ?_⟩
      rw [List.getElem?_append_right (by rw [List.length_drop]; omega), List.length_drop, show j - (ps.length - 1) = 0 by omega] at e2
      have e3 : ps.headD 0 + m = z.2 := Option.some.inj e2
      cases ps with
      | nil => exact absurd hj (Nat.not_lt_zero _)
      | cons p0 r => exact ⟨p0, rfl, by
          have : p0 + m = z.2 := e3
          omega⟩
theorem asc_lt {ps : List Int} (asc : ps.Pairwise (· < ·)) {i j : Nat} {x y : Int} (hx : ps[i]? = some x) (hy : ps[j]? = some y) (h : i < j) : x < y := by
  obtain ⟨i1, e1⟩ := List.getElem?_eq_some_iff.mp hx
  obtain ⟨j1, e2⟩ := List.getElem?_eq_some_iff.mp hy
  have := List.pairwise_iff_getElem.mp asc i j i1 j1 h
  rw [e1, e2] at this
  exact this
theorem begin_at {m g : Int} {ps : List Int} {j : Nat} (hm : 1 ≤ m) (pp : Places m ps) (h : (stepsOf m ps)[j]? = some g) : ∃ p, ps[(j + 1) % ps.length]? = some p ∧ ∀ x ∈ ps, (x - p) % m ≤ m - g := by
  obtain ⟨q, hq, hh⟩ := step_at h
  have rq := pp.rng q (List.mem_of_getElem? hq)
  have key : ∀ (d : Int), 0 ≤ d → d < m → (d = 0 ∨ g ≤ d) → 0 < g → g ≤ m → (d - g) % m ≤ m - g := by
    intro d d0 d1 hd g0 g1
    rcases hd with z | z
    · subst z
      by_cases e : g = m
      · subst e
        rw [show (0 : Int) - g = g * (-1) by omega, Int.mul_emod_right]
        omega
      · have : (0 - g) % m = m - g := by
          rw [show (0 : Int) - g = (m - g) + m * (-1) by omega, Int.add_mul_emod_self_left, Int.emod_eq_of_lt (by omega) (by omega)]
        omega
    · rw [Int.emod_eq_of_lt (by omega) (by omega)]
      omega
  have gap : ∀ (p x : Int), x ∈ ps → (p = q + g ∨ p + m = q + g) → 0 < g → g ≤ m → (x = q ∨ (q < x ∧ q + g ≤ x) ∨ (x < q ∧ q + g ≤ x + m)) → (x - p) % m ≤ m - g := by
    intro p x hx hp g0 g1 hc
    have rx := pp.rng x hx
    have e : (x - p) % m = (x - q - g) % m := by
      rcases hp with z | z
      · rw [z, show x - (q + g) = x - q - g by omega]
      · rw [show x - p = (x - q - g) + m * 1 by omega, Int.add_mul_emod_self_left]
    rw [e]
    rcases hc with z | z | z
    · have := key 0 (by omega) (by omega) (.inl rfl) g0 g1
      rw [show x - q - g = 0 - g by omega]
      exact this
    · exact key (x - q) (by omega) (by omega) (.inr (by omega)) g0 g1
    · have := key (x - q + m) (by omega) (by omega) (.inr (by omega)) g0 g1
      rw [show x - q + m - g = (x - q - g) + m * 1 by omega, Int.add_mul_emod_self_left] at this
      exact this
  rcases hh with ⟨hlt, hn⟩ | ⟨hlast, p0, h0, e0⟩
  · refine ⟨q + g, by rw [Nat.mod_eq_of_lt hlt]; exact hn, fun x hx => ?_⟩
    have rn := pp.rng _ (List.mem_of_getElem? hn)
    have lt := asc_lt pp.asc hq hn (by omega)
    obtain ⟨i, hi⟩ := List.getElem?_of_mem hx
    have rx := pp.rng x hx
    refine gap _ x hx (.inl rfl) (by omega) (by omega) ?_
    rcases Nat.lt_trichotomy i j with z | z | z
    · have := asc_lt pp.asc hi hq z
      exact .inr (.inr ⟨by omega, by omega⟩)
    · subst z
      rw [hi] at hq
      exact .inl (Option.some.inj hq)
    · have a1 := asc_lt pp.asc hq hi z
      by_cases e : i = j + 1
      · subst e
        rw [hi] at hn
        have := Option.some.inj hn
        exact .inr (.inl ⟨by omega, by omega⟩)
      · have := asc_lt pp.asc hn hi (by omega)
        exact .inr (.inl ⟨by omega, by omega⟩)
  · refine ⟨p0, by rw [hlast, Nat.mod_self]; exact h0, fun x hx => ?_⟩
    have r0 := pp.rng p0 (List.mem_of_getElem? h0)
    obtain ⟨i, hi⟩ := List.getElem?_of_mem hx
    have hil := (List.getElem?_eq_some_iff.mp hi).1
    have le0 : p0 ≤ q := by
      by_cases e : j = 0
      · subst e
        rw [h0] at hq
        have := Option.some.inj hq
        omega
      · have := asc_lt pp.asc h0 hq (by omega)
        omega
    refine gap p0 x hx (.inr e0) (by omega) (by omega) ?_
    rcases Nat.lt_trichotomy i j with z | z | z
    · have a1 := asc_lt pp.asc hi hq z
      by_cases e : i = 0
      · subst e
        rw [h0] at hi
        have := Option.some.inj hi
        exact .inr (.inr ⟨by omega, by omega⟩)
      · have := asc_lt pp.asc h0 hi (by omega)
        exact .inr (.inr ⟨by omega, by omega⟩)
    · subst z
      rw [hi] at hq
      exact .inl (Option.some.inj hq)
    · omega
theorem wide_begin {m l x : Int} {q : Int × Int} {tl : List (Int × Int)} (hm : 1 ≤ m) (it : IsTool m tl) (hq : q ∈ tl) (l1 : 1 ≤ l) (lm : l ≤ m) (h0 : 0 ≤ x) (h1 : x < m) (h : (x - q.1) % m < cnt m tl q.2 l) : inArc m q.2 l (tgt tl x) = true := by
  have hit : tgt tl q.1 = q.2 := tgtFrom_hit tl _ it.asc hq
  have ep := pO_tgt (by omega) it
  unfold pO at ep
  by_cases hc : chF m (tgt tl) = []
  · rw [if_pos hc] at ep
    obtain ⟨bt, hb, e⟩ := tgt_mem it.ne x
    rw [← ep] at hq hb
    have e1 := List.mem_singleton.mp hq
    have e2 := List.mem_singleton.mp hb
    rw [e, e2, ← e1]
    show decide ((q.2 - q.2) % m < l) = true
    rw [Int.sub_self, Int.zero_emod]
    exact decide_eq_true (by omega)
  · rw [if_neg hc] at ep
    have hq2 := hq
    rw [← ep] at hq2
    obtain ⟨a0, ha, e⟩ := List.mem_map.mp hq2
    have ea : a0 = q.1 := by rw [← e]
    subst ea
    unfold chF at ha
    obtain ⟨hu, hne⟩ := List.mem_filter.mp ha
    obtain ⟨r0, r1⟩ := upto_mem.mp hu
    have hne := of_decide_eq_true hne
    obtain ⟨L, P, lf⟩ := lift_of (by omega) it
    have hL : L q.1 % m = q.2 := by rw [← lf.tg, Int.emod_eq_of_lt r0 r1, hit]
    have eL := Int.mul_ediv_add_emod (L q.1) m
    have ea : L (q.1 + m * (-(L q.1 / m))) = q.2 := by
      rw [iter_per lf.per, Int.mul_neg]
      omega
    have lt1 : ¬ (q.1 + m * (-(L q.1 / m))) < P q.2 := fun z => by
      have := (lf.lt _ _).mpr z
      omega
    have lt2 : (q.1 + m * (-(L q.1 / m))) - 1 < P q.2 := by
      refine (lf.lt _ _).mp ?_
      have mo := lf.mono ((q.1 + m * (-(L q.1 / m))) - 1) (q.1 + m * (-(L q.1 / m))) (by omega)
      have nq : L ((q.1 + m * (-(L q.1 / m))) - 1) ≠ q.2 := fun z => by
        have t1 := lf.tg ((q.1 + m * (-(L q.1 / m))) - 1)
        rw [z, show q.1 + m * (-(L q.1 / m)) - 1 = (q.1 - 1) + m * (-(L q.1 / m)) by omega, Int.add_mul_emod_self_left] at t1
        have rq := tgt_rng it q.1
        rw [hit] at rq
        rw [Int.emod_eq_of_lt rq.1 rq.2] at t1
        exact hne (by rw [hit, t1])
      omega
    have eP : P q.2 = q.1 + m * (-(L q.1 / m)) := by omega
    rw [lf.inArc (by omega) h0 h1, ← lf.cnt (by omega) (by omega) lm, eP]
    rw [show x - (q.1 + m * (-(L q.1 / m))) = (x - q.1) + m * (L q.1 / m) by rw [Int.mul_neg]; omega, Int.add_mul_emod_self_left]
    exact h
def stepD (p : Nat × Int) : PyData := .tuple [.int (p.1 : Nat), .int p.2]
def bAt (s : Int) (st : List (Nat × Int)) : Nat → Int
  | 0 => s
  | i + 1 => (st.getD i (0, 0)).2
inductive ThrP (m : Int) (tls : List (List (Int × Int))) (ps : List Int) : List (Nat × Int) → List (Int × Nat) → List Int → Prop
  | nil : ThrP m tls ps [] [] ps
  | snoc {st : List (Nat × Int)} {pl : List (Int × Nat)} {r : List Int} {i : Nat} {l w b : Int} : ThrP m tls ps st pl r → WBP m (tls.getD i []) l w → SBP m r b →
    ThrP m tls ps (st ++ [(i, l)]) (pl ++ [((w - b) % m, i)]) (imgP m (pushF m (tls.getD i []) ((w - b) % m)) r)
theorem ThrP.uniq {m : Int} {tls : List (List (Int × Int))} {ps : List Int} {st : List (Nat × Int)} {pl : List (Int × Nat)} {r : List Int} (h1 : ThrP m tls ps st pl r) : ∀ {pl' r'}, ThrP m tls ps st pl' r' → pl' = pl ∧ r' = r := by
  induction h1 with
  | nil =>
    intro pl' r' h2
    generalize e : ([] : List (Nat × Int)) = st at h2
    cases h2 with
    | nil => exact ⟨rfl, rfl⟩
    | snoc a b c =>
      have := congrArg List.length e
      rw [List.length_append, List.length_singleton, List.length_nil] at this
      omega
  | @snoc st pl r i l w b a1 a2 a3 ih =>
    intro pl' r' h2
    generalize e : st ++ [(i, l)] = st' at h2
    cases h2 with
    | nil =>
      have := congrArg List.length e
      rw [List.length_append, List.length_singleton, List.length_nil] at this
      omega
    | @snoc st2 pl2 r2 i2 l2 w2 b2 c1 c2 c3 =>
      obtain ⟨e1, e2⟩ := List.append_inj' e rfl
      subst e1
      cases e2
      obtain ⟨e3, e4⟩ := ih c1
      subst e3 e4
      rw [a2.uniq c2, a3.uniq c3]
      exact ⟨rfl, rfl⟩
def FindP (m : Int) (tls : List (List (Int × Int))) (ps : List Int) (g : Int) (pl : List (Int × Nat)) : Prop := ∃ (xs : List Int) (x v : Int) (t : Nat) (st : List (Nat × Int)) (r : List Int), Path m tls g xs x ∧ IsWidth m tls x x ∧ IsSpread m ps v ∧ fewD xs v = .int (t : Nat) ∧ st.length = t ∧
  (∀ (j : Nat) p y, st[j]? = some p → (xs.take t).reverse[j]? = some y → p.2 = y ∧ WIP m tls y p.1) ∧ t ≤ xs.length ∧ ThrP m tls ps st pl r
theorem FindP.uniq {m g : Int} {tls : List (List (Int × Int))} {ps : List Int} {pl pl' : List (Int × Nat)} (h1 : FindP m tls ps g pl) (h2 : FindP m tls ps g pl') : pl = pl' := by
  obtain ⟨xs, x, v, t, st, r, a1, a2, a3, a4, a5, a6, a7, a8⟩ := h1
  obtain ⟨xs', x', v', t', st', r', b1, b2, b3, b4, b5, b6, b7, b8⟩ := h2
  have ex : xs' = xs := Chain.uniq (b1.done b2) (a1.done a2)
  subst ex
  have ev := a3.uniq b3
  subst ev
  rw [a4] at b4
  have et : t = t' := by
    have := PyData.int.inj b4
    omega
  subst et
  have es : st' = st := by
    apply List.ext_getElem?
    intro j
    by_cases hj : j < t
    · have y1 := List.getElem?_eq_getElem (l := (xs'.take t).reverse) (i := j) (by rw [List.length_reverse, List.length_take]; omega)
      have p1 := List.getElem?_eq_getElem (l := st) (i := j) (by omega)
      have p2 := List.getElem?_eq_getElem (l := st') (i := j) (by omega)
      obtain ⟨c1, c2⟩ := a6 j _ _ p1 y1
      obtain ⟨d1, d2⟩ := b6 j _ _ p2 y1
      rw [p1, p2]
      congr 1
      exact Prod.ext (d2.uniq c2) (d1.trans c1.symm)
    · rw [List.getElem?_eq_none (by omega), List.getElem?_eq_none (by omega)]
  subst es
  exact (b8.uniq a8).1
def RThr : RP := fun ds A => ∃ (m : Int) (tls : List (List (Int × Int))) (ps : List Int) (st : List (Nat × Int)) (s : Int), ds = [.int m, toolsD tls, tupD ps, .list (st.map stepD)] ∧ (∀ t ∈ tls, IsTool m t) ∧ 1 ≤ m ∧ m ≤ 60 ∧ Places m ps ∧ ps ≠ [] ∧ IsSpread m ps s ∧ st.length ≤ 100 ∧
  (∀ (i : Nat) p, st[i]? = some p → p.1 < tls.length ∧ 1 ≤ p.2 ∧ p.2 ≤ m ∧ ∃ q ∈ tls.getD p.1 [], bAt s st i ≤ cnt m (tls.getD p.1 []) q.2 p.2) ∧
  ∀ pl : List (Int × Nat), pl.length = st.length → (∀ p ∈ pl, 0 ≤ p.1 ∧ p.1 < m ∧ p.2 < tls.length) → (∀ v, IsSpread m (imgP m (planF m tls pl) ps) v → v ≤ bAt s st st.length) → (∃ r, ThrP m tls ps st pl r) → A (planD pl)
theorem step_fits {m l v p : Int} {q : Int × Int} {tl : List (Int × Int)} {ps : List Int} (hm : 1 ≤ m) (it : IsTool m tl) (hq : q ∈ tl) (l1 : 1 ≤ l) (lm : l ≤ m) (hx : ∀ x ∈ ps, (x - p) % m < v) (hv : v ≤ cnt m tl q.2 l)
    {w : Int} (hs : IsSpread m (imgP m (pushF m tl ((q.1 - p) % m)) ps) w) : w ≤ l := by
  have rq := it.rng q hq
  obtain ⟨y, hy, hw⟩ := hs.least q.2 rq.2.1 rq.2.2
  obtain ⟨x, hxm, e⟩ := (imgP_mem fun x _ => tgt_rng it _).mp hy
  have z := mod_at (x := x + (q.1 - p) % m) hm
  have h := wide_begin (x := (x + (q.1 - p) % m) % m) hm it hq l1 lm z.1 z.2 (by
    rw [Int.emod_sub_emod, show x + (q.1 - p) % m - q.1 = (q.1 - p) % m + (x - q.1) by omega, Int.emod_add_emod, show q.1 - p + (x - q.1) = x - p by omega]
    exact Int.lt_of_lt_of_le (hx x hxm) hv)
  have h2 : (tgt tl ((x + (q.1 - p) % m) % m) - q.2) % m < l := of_decide_eq_true h
  have e2 : tgt tl ((x + (q.1 - p) % m) % m) = y := e
  rw [e2] at h2
  omega
theorem img_ne {m : Int} {f : Int → Int} {ps : List Int} (hf : ∀ x ∈ ps, 0 ≤ f x ∧ f x < m) (ne : ps ≠ []) : imgP m f ps ≠ [] := by
  obtain ⟨x, hx⟩ := List.exists_mem_of_ne_nil _ ne
  exact List.ne_nil_of_mem ((imgP_mem hf).mpr ⟨x, hx, rfl⟩)
theorem Path.step {m g x : Int} {tls : List (List (Int × Int))} {xs : List Int} (h : Path m tls g xs x) : ∀ (j : Nat) (y z : Int), xs[j]? = some y → xs[j + 1]? = some z → IsWidth m tls y z := by
  induction h with
  | one =>
    intro j y z hy hz
    have := (List.getElem?_eq_some_iff.mp hz).1
    rw [List.length_singleton] at this
    omega
  | @more zs x v h w ne ih =>
    intro j y z hy hz
    have hz1 := (List.getElem?_eq_some_iff.mp hz).1
    rw [List.length_append, List.length_singleton] at hz1
    rw [List.getElem?_append_left (by omega)] at hy
    by_cases hlt : j + 1 < zs.length
    · rw [List.getElem?_append_left hlt] at hz
      exact ih j y z hy hz
    · rw [List.getElem?_append_right (by omega), show j + 1 - zs.length = 0 by omega] at hz
      have e1 : v = z := Option.some.inj hz
      obtain ⟨ys, ey⟩ := h.last
      have el : zs.length = ys.length + 1 := by rw [ey, List.length_append, List.length_singleton]
      rw [ey, List.getElem?_append_right (by omega), show j - ys.length = 0 by omega] at hy
      have e2 : x = y := Option.some.inj hy
      rw [← e1, ← e2]
      exact w
def RFind : RP := fun ds A => ∃ (m g : Int) (tls : List (List (Int × Int))) (ps : List Int), ds = [.int m, toolsD tls, tupD ps, .int g] ∧ (∀ t ∈ tls, IsTool m t) ∧ tls ≠ [] ∧ tls.length ≤ 100 ∧ 1 ≤ m ∧ m ≤ 60 ∧ 1 ≤ g ∧ g ≤ m ∧ Places m ps ∧ ps ≠ [] ∧
  ∀ xs x v, Path m tls g xs x → IsWidth m tls x x → IsSpread m ps v → (fewD xs v = .none → A .none) ∧
    ∀ (t : Nat) (pl : List (Int × Nat)), fewD xs v = .int (t : Nat) → pl.length = t → (∀ p ∈ pl, 0 ≤ p.1 ∧ p.1 < m ∧ p.2 < tls.length) → (∀ w, IsSpread m (imgP m (planF m tls pl) ps) w → w ≤ g) → FindP m tls ps g pl → A (planD pl)
theorem few_cases (xs : List Int) (v : Int) : (fewD xs v = .none ∧ ∀ y ∈ xs, y < v) ∨ ∃ (t : Nat) (y : Int), fewD xs v = .int (t : Nat) ∧ xs[t]? = some y ∧ v ≤ y := by
  unfold fewD
  split
  · rename_i t h
    rw [List.findIdx?_eq_some_iff_getElem] at h
    obtain ⟨h1, h2, h3⟩ := h
    exact .inr ⟨t, _, rfl, List.getElem?_eq_getElem h1, of_decide_eq_true h2⟩
  · rename_i h
    rw [List.findIdx?_eq_none_iff] at h
    refine .inl ⟨rfl, fun y hy => ?_⟩
    have := of_decide_eq_false (h y hy)
    omega
theorem steps_wide {m g x v : Int} {tls : List (List (Int × Int))} {xs : List Int} {t : Nat} {y0 : Int} {st : List (Nat × Int)} (hp : Path m tls g xs x) (ht : xs[t]? = some y0) (hv : v ≤ y0) (hl : st.length = t)
    (hst : ∀ (j : Nat) p y, st[j]? = some p → (xs.take t).reverse[j]? = some y → p.2 = y ∧ p.1 < tls.length ∧ ∃ w, IsWidth m tls y w ∧ ∃ q ∈ tls.getD p.1 [], cnt m (tls.getD p.1 []) q.2 y = w) :
    (∀ (j : Nat) p, st[j]? = some p → xs[t - 1 - j]? = some p.2) ∧ ∀ (j : Nat) p, st[j]? = some p → p.1 < tls.length ∧ ∃ q ∈ tls.getD p.1 [], bAt v st j ≤ cnt m (tls.getD p.1 []) q.2 p.2 := by
  have htl := (List.getElem?_eq_some_iff.mp ht).1
  have at_ : ∀ (j : Nat), j < t → (xs.take t).reverse[j]? = xs[t - 1 - j]? := fun j hj => by
    have lt : (xs.take t).length = t := by rw [List.length_take]; omega
    rw [List.getElem?_reverse (by omega), lt, List.getElem?_take_of_lt (by omega)]
  have key : ∀ (j : Nat) p, st[j]? = some p → xs[t - 1 - j]? = some p.2 := fun j p hj => by
    have hjl := (List.getElem?_eq_some_iff.mp hj).1
    have e := List.getElem?_eq_getElem (l := xs) (i := t - 1 - j) (by omega)
    have h1 := hst j p _ hj (by rw [at_ j (by omega)]; exact e)
    rw [e, h1.1]
  refine ⟨key, fun j p hj => ?_⟩
  have hjl := (List.getElem?_eq_some_iff.mp hj).1
  obtain ⟨_, h2, w, hw, q, hq, e⟩ := hst j p p.2 hj (by rw [at_ j (by omega)]; exact key j p hj)
  refine ⟨h2, q, hq, ?_⟩
  rw [e]
  cases j with
  | zero =>
    have h3 := hp.step (t - 1) p.2 y0 (key 0 p hj) (by rw [show t - 1 + 1 = t by omega]; exact ht)
    have := hw.uniq h3
    show v ≤ w
    omega
  | succ j =>
    have hj' := List.getElem?_eq_getElem (l := st) (i := j) (by omega)
    have h3 := hp.step (t - 1 - (j + 1)) p.2 _ (key (j + 1) p hj) (by rw [show t - 1 - (j + 1) + 1 = t - 1 - j by omega]; exact key j _ hj')
    have := hw.uniq h3
    show (st.getD j (0, 0)).2 ≤ w
    rw [List.getD_eq_getElem?_getD, hj', this]
    exact Int.le_refl _
def RCert : RP := fun ds A => ∃ (m g : Int) (tls : List (List (Int × Int))) (ps : List Int), ds = [.int m, toolsD tls, tupD ps, .int g] ∧ (∀ t ∈ tls, IsTool m t) ∧ tls ≠ [] ∧ tls.length ≤ 100 ∧ 1 ≤ m ∧ m ≤ 60 ∧ 1 ≤ g ∧ g ≤ m ∧ Places m ps ∧ ps ≠ [] ∧
  ∀ xs x v, Path m tls g xs x → IsWidth m tls x x → IsSpread m ps v → (fewD xs v = .none → A (.tuple [.str "never", .int x])) ∧
    ∀ (t : Nat) (pl : List (Int × Nat)), fewD xs v = .int (t : Nat) → pl.length = t → (∀ p ∈ pl, 0 ≤ p.1 ∧ p.1 < m ∧ p.2 < tls.length) → (∀ w, IsSpread m (imgP m (planF m tls pl) ps) w → w ≤ g) → FindP m tls ps g pl → A (.tuple [.str "plan", planD pl])
def exclB (m : Int) (tls : List (List (Int × Int))) (n : Int) : Bool := tls.all fun t => repF m (tgt t) ((Nat.gcd n.toNat m.toNat : Nat) : Int)
def RExcl : RP := fun ds A => ∃ (m g : Int) (tls : List (List (Int × Int))) (ps : List Int) (d : PyData), ds = [.int m, toolsD tls, tupD ps, .int g, d] ∧ (∀ t ∈ tls, IsTool m t) ∧ tls.length ≤ 100 ∧ 1 ≤ m ∧ m ≤ 60 ∧ 1 ≤ g ∧ Places m ps ∧ ps ≠ [] ∧
  ∀ v, IsSpread m ps v → (numIn g (v - 1) d = false → A (.bool false)) ∧ ∀ n : Int, d = .int n → g ≤ n → n < v → A (.bool (exclB m tls n))
theorem numIn_int {lo hi : Int} {d : PyData} (h : numIn lo hi d = true) : ∃ n, d = .int n ∧ lo ≤ n ∧ n ≤ hi := by
  cases d with
  | int n =>
    have h2 : (decide (lo ≤ n) && decide (n ≤ hi)) = true := h
    rw [Bool.and_eq_true, decide_eq_true_eq, decide_eq_true_eq] at h2
    exact ⟨n, rfl, h2.1, h2.2⟩
  | _ => cases h

/-! ### the deck of three: cells, how many, rests -/
open L2 in
theorem kgunl {X : Cx} {es : List Expr} {pos : Pos} (K : PySem.W.Frag) (n : Nat) {k : Nat} {t : TGs} (hc : X.calm = true) (h : PGs X es t) (hK : X.K = K := by rfl)
    (hn : (assignEach es X.env).length = n := by rfl) (hst : (assignEach es X.env).findIdx? (·.1) = none := by rfl) :
    PG X (.Tuple es k pos) (gLst K n t) := by subst hK; exact pg_lst hc h hn hst
def DeckA (H : Hp) (r c z : Addr) (k : Int) : Prop := ∃ (ns ms : List Int) (j : Int), r ≠ c ∧ r ≠ z ∧ c ≠ z ∧ H r = some (.lst [.ref c, .int j, .ref z]) ∧ H c = some (.lst (ns.map V.int)) ∧ H z = some (.lst (ms.map V.int)) ∧ ns ≠ [] ∧ ms.length = ns.length ∧ ns.length ≤ 64 ∧ (∀ x ∈ ms, 0 ≤ x) ∧ 0 ≤ j ∧ j ≤ k
def ΔA : DK := ⟨false, fun H r as k => ∃ c z, as = [r, c, z] ∧ DeckA H r c z k, fun {H H' r as k} h e _ => by
  obtain ⟨c, z, ea, ns, ms, j, n1, n2, n3, h1, h2, h3, h4⟩ := h
  subst ea
  refine ⟨c, z, rfl, ns, ms, j, n1, n2, n3, ?_, ?_, ?_, h4⟩
  · rw [e r List.mem_cons_self]
    exact h1
  · rw [e c (List.mem_cons_of_mem _ List.mem_cons_self)]
    exact h2
  · rw [e z (List.mem_cons_of_mem _ (List.mem_cons_of_mem _ List.mem_cons_self))]
    exact h3, fun {H r as k k'} h le => by
  obtain ⟨c, z, ea, ns, ms, j, n1, n2, n3, h1, h2, h3, g1, g2, g3, g4, g5, g6⟩ := h
  exact ⟨c, z, ea, ns, ms, j, n1, n2, n3, h1, h2, h3, g1, g2, g3, g4, g5, Int.le_trans g6 le⟩⟩
def KeepA (a z : Addr) (H H' : Hp) : Prop := ∀ b o, b ≠ a → b ≠ z → H b = some o → H' b = some o
def spNextA : Sp := fun vs H Q _ => ∃ (a c z : Addr) (k lim : Int), vs = [.ref a, .int lim] ∧ DeckA H a c z k ∧ k ≤ 1000000 ∧ 1 ≤ lim ∧ lim ≤ 1000000000000000 ∧
  ∀ (v : Int) (H' : Hp), 0 ≤ v → v < lim → DeckA H' a c z (k + 1) → KeepA a z H H' → Q (.int v) H'
theorem mx_keepA {w : Bool} {a c z : Addr} {H H' : Hp} {k k' : Int} (kp : KeepA a z H H') (d : DeckA H a c z k) (d' : DeckA H' a c z k') : Mx w [a, c, z] H H' := by
  obtain ⟨ns, ms, j, n1, n2, n3, h1, h2, h3, _⟩ := d
  obtain ⟨ns', ms', j', _, _, _, g1, g2, g3, _⟩ := d'
  refine ⟨⟨fun b o no e => ?_, fun b o nb _ e => kp b o (fun x => nb (by rw [x]; exact List.mem_cons_self)) (fun x => nb (by rw [x]; exact List.mem_cons_of_mem _ (List.mem_cons_of_mem _ List.mem_cons_self))) e, fun b hb => ?_⟩, fun _ b o nb e => kp b o (fun x => nb (by rw [x]; exact List.mem_cons_self)) (fun x => nb (by rw [x]; exact List.mem_cons_of_mem _ (List.mem_cons_of_mem _ List.mem_cons_self))) e⟩
  · refine kp b o (fun x => ?_) (fun x => ?_) e
    · subst x
      rw [h1] at e
      exact no.1 _ (Option.some.inj e).symm
    · subst x
      rw [h3] at e
      exact no.1 _ (Option.some.inj e).symm
  · by_cases e1 : b = a
    · rw [e1, g1]
      intro x
      cases x
    · by_cases e2 : b = z
      · rw [e2, g3]
        intro x
        cases x
      · cases e : H b with
        | none => exact absurd e hb
        | some o =>
          rw [kp b o e1 e2 e]
          intro x
          cases x
theorem conv_nextA {K : PySem.W.Frag} : ∀ vs H Q E, spK K ΔA RDraw vs H Q E → spNextA vs H Q E := by
  rintro vs H Q E ⟨r, as, B, vs', ds, k, A, rfl, sub, st, ⟨c, z, rfl, dk⟩, dv, ⟨lim, rfl, hk, h1, h2, a⟩, q⟩
  obtain ⟨v, ev, d1⟩ := dv.one
  cases d1
  subst ev
  exact ⟨r, c, z, k, lim, rfl, dk, hk, h1, h2, fun v H' v0 v1 dk' kp => q _ _ _ _ (a v v0 v1) (mx_keepA kp dk dk') ⟨c, z, rfl, dk'⟩ (.int v)⟩
theorem deckA_stands {a c z : Addr} {H : Hp} {k : Int} (d : DeckA H a c z k) : Stands [a, c, z] H := by
  obtain ⟨ns, ms, j, n1, n2, n3, h1, h2, h3, _⟩ := d
  intro b hb
  rcases List.mem_cons.mp hb with e | hb
  · rw [e, h1]
    intro x
    cases x
  rcases List.mem_cons.mp hb with e | hb
  · rw [e, h2]
    intro x
    cases x
  · rw [List.mem_singleton.mp hb, h3]
    intro x
    cases x
def ROne : RKd := fun ds k A => ∃ xs : List PyData, ds = [.list xs] ∧ k ≤ 1000000 ∧ xs ≠ [] ∧ xs.length ≤ 1000 ∧ ∀ x ∈ xs, A x (k + 1)

/-! ### sorted(t), t a tuple of numbers -/
section
variable {P : Program} {w : World} {A : Around} {E : Value → Shared → Prop} {s : Shared}
theorem gathered {t : Addr} {us : List Value} {Q : List Value → Shared → Prop} (at_ : IsTup s.heap t us.toArray) (le : us.length ≤ sizeLine)
    (q : Q us { s with heap := (s.heap.push (seqObj "list" #[] 0)).update s.heap.objs.size (Obj.mapSeq (· ++ us.toArray)) }) : wpAny (model P w) A (collect (.ref t)) Q E s := by
  obtain ⟨o, ob, cl, k, dt⟩ := id at_
  have ob' : (s.heap.push (seqObj "list" #[] 0)).get? t = some o := Heap.get?_push_of_some _ ob
  have nw : (s.heap.push (seqObj "list" #[] 0)).get? s.heap.objs.size = some (seqObj "list" #[] 0) := Heap.get?_push_size _ rfl
  unfold collect
  refine wpAny_bind (wpAny_runValue (codeAny_builtin entry_proto_collect' ?_))
  refine wpAny_bind (wpAny_newList (wpAny_pure ⟨Code.quiet_builtin _ (by decide +kernel), codeAny_builtin entry_list_iadd' ?_⟩))
  show wpAny _ _ (Builtin.List.listExtendWith (.ref s.heap.objs.size) (.ref t) (.ref s.heap.objs.size)) _ _ _
  unfold Builtin.List.listExtendWith
  refine wpAny_bind (wpAny_typeOf (T := "tuple") ⟨o, ob', cl⟩ ?_)
  have same : (Value.type "tuple" == Value.type "tuple") = true := rfl
  rw [same, Bool.or_true, if_pos rfl]
  refine wpAny_bind (listItems_at ob' dt ?_)
  refine wpAny_bind (listItems_at nw rfl ?_)
  rw [if_neg (by simp)]
  refine wpAny_bind (listUpdate_at nw rfl ?_ (Nat.zero_le _) ?_)
  · refine wpAny_pure ?_
    refine wpAny_bind (wpAny_load (get?_update_seq nw _) ?_)
    show wpAny _ _ (pure ((#[] : Array Value) ++ us.toArray).toList) Q E _
    rw [Array.empty_append, List.toList_toArray]
    exact wpAny_pure q
  · show ((#[] : Array Value) ++ us.toArray).size ≤ sizeLine + 1
    rw [Array.empty_append, List.size_toArray]
    omega
theorem sorted_tup {t : Addr} {us : List Value} {lt : Value → Value → Bool} {Q : Value → Shared → Prop} (O : SrtO.Swo lt) (at_ : IsTup s.heap t us.toArray) (le : us.length ≤ sizeLine)
    (S : 2 ≤ us.length → ∀ (h1 : Heap) (a : Addr), SrtO.SortableO P w A.in1.in1 { s with heap := h1 } a us lt)
    (q : ∀ out : List Value, SrtO.Srtd lt out → SrtO.Stb lt out us → Q (.ref (s.heap.objs.size + 1)) { s with heap := sortedAll s.heap us out.toArray }) :
    wpAny (model P w) A (call (.builtin "sorted") [.ref t]) Q E s := by
  refine Calls.call_function_entry kind_sorted plain_sorted entry_sorted (args_sorted1 _) ?_
  unfold Builtin.«sorted»
  refine wpAny_bind (m := checkCount "sorted" 1 1 _) (wpAny_pure (wpAny_bind (gathered at_ le (wpAny_bind (wpAny_newList ?_ le)))))
  have big : ((s.heap.push (seqObj "list" #[] 0)).update s.heap.objs.size (Obj.mapSeq (· ++ us.toArray))).objs.size = s.heap.objs.size + 1 := (Heap.size_update _ _ _).trans (size_push' _ _)
  generalize hh : (s.heap.push (seqObj "list" #[] 0)).update s.heap.objs.size (Obj.mapSeq (· ++ us.toArray)) = h0 at big
  have ob : (h0.push (seqObj "list" us.toArray 0)).get? (s.heap.objs.size + 1) = some (seqObj "list" us.toArray 0) := by
    rw [← big]
    exact Heap.get?_push_size _ rfl
  show wpAny _ _ _ _ _ { s with heap := h0.push (seqObj "list" us.toArray 0) }
  rw [big]
  refine wpAny_bind (wpAny_holding (wpAny_call_entry slot_list_sort ⟨_, ob, rfl⟩ entry_list_sort (SrtO.list_sort_ord O ob le (fun h2 => S h2 _ _) fun out hs hb => ⟨_, rfl, wpAny_pure ⟨_, rfl, ?_⟩⟩) (args_list_sort _)))
  subst hh
  exact q out hs hb
end
def rSortT (K : PySem.W.Frag) : List V → Hp → VK → Prop := fun vs H Q => ∃ (a : Addr) (ns : List Int), vs = [V.ref a] ∧ SqT K H a (ns.map V.int) ∧
  ∀ (ms : List Int) (p : Addr), ms.Perm ns → ms.Pairwise (· ≤ ·) → H p = none → Q (.ref p) (upd H p (.lst (ms.map V.int)))
theorem ksortT {X : Cx} (K : PySem.W.Frag) (hK : X.K = K := by rfl) : CallR X (.builtin "sorted") (rSortT K) := by
  subst hK
  intro pins s σ H vs us Q I r h
  obtain ⟨a, ns, e, hs, q⟩ := h
  subst e
  obtain ⟨its, rv, ht, hz⟩ := I.tuple hs
  rw [Vals.ref1 r]
  have hi := rv.ints
  refine sorted_tup SrtO.swo_int ht (by rw [← rv.length]; exact hz) (fun h2 h1 a' => SrtO.ints_sortable hi h2) fun out h1 h2 => ?_
  obtain ⟨k1, k2, k3⟩ := SrtO.ints_out hi h1 h2
  obtain ⟨ep, he⟩ := sortedAll_at s.heap its out.toArray
  have le : ((out.map SrtO.iv).map V.int).length ≤ sizeLine := by
    rw [List.length_map] at hz ⊢
    rw [k2.length_eq]
    exact hz
  refine ⟨.ref _, upd H (s.heap.objs.size + 1) (.lst ((out.map SrtO.iv).map V.int)), I.laid (t' := s.toks) (fun _ _ => sortedAll_old) (Nat.le_succ _) ⟨le, out, ep, vals_of_ints k1, he⟩, rfl, q _ _ k2 k3 (I.hok.fresh (Nat.le_succ _))⟩

/-! ### lists of one's own that are popped while a list is made -/
section
variable {K : PySem.W.Frag} {Δ : DK}
theorem En.setD {C : Cy} {B : List Addr} {σ : L2.St} {H : Hp} {s : AS} {D : Addr} {us ws : List V} (E : En K Δ C (D :: B) σ H s) (hD : H D = some (.lst us)) (nas : D ∉ C.as) (n0 : C.H0 D = none)
    (how : ∀ (j : Nat) (x : Sl), s.env[j]? = some x → x.isOwn = true → σ[j]? ≠ some (some (.ref D))) : En K Δ C (D :: B) σ (upd H D (.lst ws)) s ∧ Mv (D :: B) H (upd H D (.lst ws)) := by
  have ml : Mv (D :: B) H (upd H D (.lst ws)) := .of_list hD List.mem_cons_self
  refine ⟨⟨E.len, fun j e z => ?_, E.dr, E.ex.mv ml, ?_, ?_, E.sub, E.bc, ?_, ?_⟩, ml⟩
  · obtain ⟨v, q1, q2⟩ := E.sl j e z
    exact ⟨v, q1, q2.mv ml⟩
  · obtain ⟨ad, h1, h2⟩ := E.ow
    refine ⟨ad, fun j ds z ho => ?_, h2⟩
    obtain ⟨a1, a2, a3, a4, us1, a5, a6⟩ := h1 j ds z ho
    have nj : ad j ≠ D := fun e => how j ds z ho (by rw [a1, e])
    exact ⟨a1, a2, a3, a4, us1, by rw [upd_ne nj]; exact a5, a6.mv ml⟩
  · intro b hb
    by_cases e : b = D
    · rw [e, upd_same]
      intro z
      cases z
    · rw [upd_ne e]
      exact E.st b hb
  · intro kk hk
    exact Δ.mv (E.dk kk hk) (fun a ha => upd_ne fun e => nas (by rw [← e]; exact ha)) (nl_upd hD rfl)
  · exact E.mw.fresh n0
theorem En.unbar {C : Cy} {B : List Addr} {σ : L2.St} {H : Hp} {s : AS} {D : Addr} (E : En K Δ C (D :: B) σ H s) (sub : ∀ a ∈ C.as, a ∈ B) (bc : ∀ b ∈ C.Bc, b ∈ B)
    (how : ∀ (j : Nat) (x : Sl), s.env[j]? = some x → x.isOwn = true → σ[j]? ≠ some (some (.ref D))) : En K Δ C B σ H s := by
  have an : ∀ b ∈ B, b ∈ D :: B := fun b hb => List.mem_cons_of_mem _ hb
  refine ⟨E.len, fun j e z => ?_, E.dr, E.ex.anti an, ?_, fun b hb => E.st b (an b hb), sub, bc, E.dk, E.mw⟩
  · obtain ⟨v, q1, q2⟩ := E.sl j e z
    exact ⟨v, q1, Dv.anti an _ _ q2⟩
  · obtain ⟨ad, h1, h2⟩ := E.ow
    refine ⟨ad, fun j ds z ho => ?_, h2⟩
    obtain ⟨a1, a2, a3, a4, us1, a5, a6⟩ := h1 j ds z ho
    have nj : ad j ≠ D := fun e => how j ds z ho (by rw [a1, e])
    exact ⟨a1, (List.mem_cons.mp a2).elim (fun e => absurd e nj) id, a3, a4, us1, a5, a6.anti an⟩
theorem rs_ownL (i : Nat) {ta : TA} {aa : AA} (h1 : RA K Δ ta aa) : RS K Δ (tAsg (tCB (rListOf K) ta) (gName i)) (fun A s => aa s fun ds s1 => ∃ d xs, ds = [d] ∧ itemsOf d = some xs ∧ A.nx (s1.put i (.own xs))) := by
  intro C B σ H s D A E h qn qr
  refine h1 C B σ H s _ _ E h fun vs ds H1 s1 a1 m1 E1 dv => ?_
  obtain ⟨d, xs, e, ei, a⟩ := a1
  subst e
  obtain ⟨v, ev, d1⟩ := dv.one
  have fin : ∀ p us, H1 p = none → DvAll K H1 B us xs → gName i (.ref p) σ (upd H1 p (.lst us)) D.nx := fun p us np hd =>
    qn (p :: B) _ _ _ a ((Go.of_mv (m1.up E.sub)).trans (go_new np)) (E1.putOwn np hd)
  rcases items_cases ei with z | z
  · subst z
    obtain ⟨p, us, ep, hp, _, hd⟩ := d1.lstI
    subst ev ep
    exact ⟨p, us, rfl, .inl (SqL.of hp), fun l nl => fin l us nl hd⟩
  · subst z
    obtain ⟨p, us, ep, hp, hd⟩ := d1.tupI
    subst ev ep
    exact ⟨p, us, rfl, .inr hp, fun l nl => fin l us nl hd⟩
theorem rs_ownRg (i : Nat) {t : L2.St → Hp → (Int → Int → Hp → Prop) → Prop} {a : AS → (Int → Int → AS → Prop) → Prop} (h1 : RRg t a K Δ) : RS K Δ (tAsg (tLstRg t) (gName i)) (fun A s => a s fun x y s1 => RgOk x y ∧ A.nx (s1.put i (.own ((rgD x y).map .int)))) := by
  intro C B σ H s D A E h qn qr
  refine h1 C B σ H s _ _ E h fun x y H1 s1 a1 m1 E1 => ⟨a1.1, fun p np => ?_⟩
  rw [rgV_eq]
  exact qn (p :: B) _ _ _ a1.2 ((Go.of_mv (m1.up E.sub)).trans (go_new np)) (E1.putOwn np (dvInts _))
/-- return r([left.pop(draw(deck, len(left))) for k in range(n)]) -/
def aRetPop (i : Nat) (ar : AC) (aa : AA) : AStm := fun A s => ∃ es k, s.env[0]? = some .deck ∧ s.env[i]? = some (.own es) ∧ s.k = some k ∧ es.length ≤ 1000 ∧ aa s fun ds s1 => s1 = s ∧
  ∃ n : Int, ds = [.int n] ∧ 0 ≤ n ∧ n ≤ es.length ∧ k + n ≤ 1000000 ∧ ∀ ys rest, (ys ++ rest).Perm es → (ys.length : Int) = n → ar [.list ys] ⟨s.env.set i (.own rest), some (k + n)⟩ A.rt
theorem rs_retPop (i j : Nat) {r : List V → Hp → VK → Prop} {ar : AC} {ta : TA} {aa : AA} {vs : List Nat} (hr : RC' K Δ r ar) (ha : RA K Δ ta aa) (hij : (vs.contains j && !vs.contains i && !vs.contains 0) = true) :
    RS K Δ (tRet (tCB r (tCons (tLc (iRng1 ta) (gName j) tYes (tBM K "list" rPopAt (tVar i) (tCons (tCall (spK K Δ RDraw) [] E0 (tCons (tVar 0) (tCons (tCB (rLenS K) (tCons (tVar i) tNil)) tNil))) tNil)) vs) tNil))) (aRetPop i ar aa) := by
  intro C B σ H s D0 A E h qn qr
  rw [Bool.and_eq_true, Bool.and_eq_true, Bool.not_eq_true', Bool.not_eq_true'] at hij
  obtain ⟨⟨hj, hi'⟩, h0'⟩ := hij
  have hjv : j ∈ vs := List.contains_iff_mem.mp hj
  have hiv : i ∉ vs := fun z => by
    rw [List.contains_iff_mem.mpr z] at hi'
    cases hi'
  have h0v : 0 ∉ vs := fun z => by
    rw [List.contains_iff_mem.mpr z] at h0'
    cases h0'
  have hji : j ≠ i := fun e => hiv (by rw [← e]; exact hjv)
  have hj0 : j ≠ 0 := fun e => h0v (by rw [← e]; exact hjv)
  obtain ⟨es, k, hdk, hi, hk, hes, h⟩ := h
  refine ha C B σ H s _ _ E h fun us ds H1 s1 a1 m1 E1 dv1 => ?_
  obtain ⟨es1, n, ed, n0, n1, hkn, a⟩ := a1
  subst es1 ed
  obtain ⟨v, ev, dvv⟩ := dv1.one
  cases dvv
  refine ⟨n, ev, by omega, by omega, fun D nD => ?_⟩
  have nDB := E1.newB nD
  have nas : D ∉ C.as := fun z => nDB (E1.sub D z)
  have n0D : C.H0 D = none := by
    cases e : C.H0 D with
    | none => rfl
    | some o => exact absurd nD (E1.mw.al D (by rw [e]; intro z; cases z))
  have ilt : i < s1.env.length := (List.getElem?_eq_some_iff.mp hi).1
  have i0 : i ≠ 0 := fun z => by
    rw [z, hdk] at hi
    cases hi
  have how : ∀ (rest : List PyData) (j : Nat) (x : Sl), (s1.env.set i (.own rest))[j]? = some x → x.isOwn = true → σ[j]? ≠ some (some (.ref D)) := by
    intro rest j ds z ho e
    have : ∃ q : Sl, s1.env[j]? = some q ∧ q.isOwn = true := by
      rcases set_get z with ⟨q1, _, _⟩ | ⟨_, q2⟩
      · rw [q1]
        exact ⟨_, hi, rfl⟩
      · exact ⟨_, q2, ho⟩
    obtain ⟨q, hq, hoq⟩ := this
    obtain ⟨ad, g1, _⟩ := E1.ow
    obtain ⟨a1, a2, _⟩ := g1 j q hq hoq
    rw [a1] at e
    exact nDB (by rw [← V.ref.inj (Option.some.inj (Option.some.inj e))]; exact a2)
  have s1e : s1 = ⟨s1.env.set i (.own es), some (k + (0 : Nat))⟩ := by
    have e1 : s1.env.set i (.own es) = s1.env := by
      apply List.ext_getElem?
      intro z
      by_cases e : i = z
      · subst e
        rw [List.getElem?_set_self ilt, hi]
      · rw [List.getElem?_set_ne e]
    rw [e1, show k + ((0 : Nat) : Int) = k by omega, ← hk]
  refine ⟨fun t m H => m = n.toNat - t ∧ t ≤ n.toNat ∧ ∃ acc rest us, En K Δ C (D :: B) σ H ⟨s1.env.set i (.own rest), some (k + (t : Nat))⟩ ∧ H D = some (.lst us) ∧ DvAll K H (D :: B) us acc ∧ (acc ++ rest).Perm es ∧ acc.length = t, ⟨n.toNat, (Nat.sub_zero _).symm, Nat.zero_le _, [], es, [], ?_, upd_same, .nil, List.Perm.refl _, rfl⟩, ?_⟩
  · rw [← s1e]
    exact (E1.bar (us := []) nD).1
  rintro t m H2 ⟨rfl, htn, acc, rest, us, E2, hD, hd, pm, hacc⟩
  have hlen : acc.length + rest.length = es.length := by
    have := pm.length_eq
    rw [List.length_append] at this
    exact this
  by_cases hlt : t < n.toNat
  · refine .inr ⟨hlt, fun H' => ∃ acc rest us, En K Δ C (D :: B) σ H' ⟨s1.env.set i (.own rest), some (k + ((t + 1 : Nat) : Nat))⟩ ∧ H' D = some (.lst us) ∧ DvAll K H' (D :: B) us acc ∧ (acc ++ rest).Perm es ∧ acc.length = t + 1, fun H' z => ⟨n.toNat - (t + 1), by omega, rfl, hlt, z⟩, fun x H' y => ?_⟩
    obtain ⟨ey, eH⟩ := y
    subst ey eH
    refine ⟨?_, ?_⟩
    · rw [(wipe_set _).1 hjv]
      exact wipe_idem σ vs
    have hown : (s1.env.set i (Sl.own rest))[i]? = some (.own rest) := List.getElem?_set_self ilt
    obtain ⟨p, ws, hp, hws, hdw⟩ := E2.ownAt hown
    have hpS : ((wipe σ vs).set j (some (V.int (0 + (t : Nat)))))[i]? = some (some (.ref p)) := by
      rw [List.getElem?_set_ne hji, wipe_get σ hiv]
      exact hp
    have hdS : ((wipe σ vs).set j (some (V.int (0 + (t : Nat)))))[0]? = some (some (.ref C.r)) := by
      rw [List.getElem?_set_ne hj0, wipe_get σ h0v]
      exact E1.dr 0 hdk
    have hwl : ws.length = rest.length := hdw.len
    refine ⟨.ref p, hpS, .inl ⟨rfl, ws, SqL.of hws⟩, .ref C.r, hdS, .ref p, hpS, p, ws, rfl, .inl (SqL.of hws), ?_⟩
    refine ⟨C.r, C.as, D :: B, [.int (ws.length : Nat)], [.int (ws.length : Nat)], k + (t : Nat), fun d k' => ∃ v' : Int, d = .int v' ∧ 0 ≤ v' ∧ v' < (ws.length : Nat) ∧ k' = k + (t : Nat) + 1, rfl, E2.sub, E2.st, E2.dk _ rfl, .cons (.int _) .nil, ⟨(ws.length : Nat), rfl, by omega, by omega, by omega, fun v v0 v1 => ⟨v, rfl, v0, v1, rfl⟩⟩, ?_⟩
    intro y d k' H3 hA mx dk' dy
    obtain ⟨v, ev, v0, v1, ek⟩ := hA
    subst ev
    cases dy
    have E3 : En K Δ C (D :: B) σ H3 ⟨s1.env.set i (.own rest), some (k + ((t + 1 : Nat) : Nat))⟩ := E2.move mx (kk := some (k + ((t + 1 : Nat) : Nat))) fun k'' e => by
      cases e
      exact Δ.mono dk' (by omega)
    obtain ⟨p', ws', hp', hws', hdw'⟩ := E3.ownAt hown
    have ep : p' = p := by
      rw [hp] at hp'
      exact (V.ref.inj (Option.some.inj (Option.some.inj hp'))).symm
    subst ep
    have hl' := hdw'.len
    obtain ⟨z, hz, dz⟩ := hdw'.gets (i := v.toNat) (List.getElem?_eq_getElem (l := rest) (i := v.toNat) (by omega))
    refine ⟨p', ws', v, v.toNat, z, rfl, rfl, hws', by omega, by omega, seqIndex_nat v0 (by omega), hz, ?_⟩
    obtain ⟨E4, g4⟩ := E3.grow hown hp (hdw'.erase v.toNat)
    have npD : p' ≠ D := fun e => how rest i _ hown rfl (by rw [hp, e])
    have hD3 : H3 D = some (.lst us) := mx.mv.kp _ _ nas rfl hD
    have hD4 : upd H3 p' (.lst (ws'.eraseIdx v.toNat)) D = some (.lst us) := by
      rw [upd_ne npD.symm]
      exact hD3
    have e4 : (AS.mk (s1.env.set i (.own rest)) (some (k + ((t + 1 : Nat) : Nat)))).put i (.own (rest.eraseIdx v.toNat)) = ⟨s1.env.set i (.own (rest.eraseIdx v.toNat)), some (k + ((t + 1 : Nat) : Nat))⟩ := by
      show AS.mk ((s1.env.set i (.own rest)).set i _) _ = _
      rw [List.set_set]
    rw [e4] at E4
    obtain ⟨E5, ml⟩ := E4.setD (ws := us ++ [z]) hD4 nas n0D (how _)
    have hd4 : DvAll K (upd H3 p' (.lst (ws'.eraseIdx v.toNat))) (D :: B) us acc := DvAll.go g4 _ _ (hd.mv (mx.up E2.sub))
    refine ⟨us, hD4, ?_, acc ++ [rest[v.toNat]'(by omega)], rest.eraseIdx v.toNat, us ++ [z], E5, upd_same, ?_, ?_, ?_⟩
    · rw [hd4.len, hacc]
      exact small1000 (by omega)
    · exact DvAll.mv ml _ _ (hd4.app (.cons (Dv.go g4 _ _ dz) .nil))
    · have p1 : (rest[v.toNat]'(by omega) :: rest.eraseIdx v.toNat).Perm rest := erase_perm rest v.toNat (by omega)
      rw [List.append_assoc]
      exact (List.Perm.append_left acc p1).trans pm
    · rw [List.length_append, hacc]
      rfl
  · have et : t = n.toNat := by omega
    subst et
    refine .inl ⟨Nat.le_refl _, ?_⟩
    have E6 := E2.unbar E1.sub E1.bc (how rest)
    have ek : k + ((n.toNat : Nat) : Int) = k + n := by omega
    rw [ek] at E6
    refine hr C B σ H2 _ [.ref D] [.list acc] _ _ E6 (.cons (.lst hD nDB (DvAll.anti (fun b hb => List.mem_cons_of_mem _ hb) _ _ hd)) .nil) (a acc rest pm (by omega)) fun w d H' a' sm dv' => ?_
    have E7 := E6.same sm
    exact qr w d H' _ a' ⟨Dv.anti E7.bc _ _ dv', E7.dk, E7.mw⟩
/-! sorted(t), t a tuple of numbers -/
theorem rc_sortT : RC' K Δ (rSortT K) (fun ds s A => ∃ ns : List Int, ds = [.tuple (ns.map .int)] ∧ ∀ ns' : List Int, ns'.Perm ns → ns'.Pairwise (· ≤ ·) → A (.list (ns'.map .int)) s) := by
  intro C B σ H s vs ds Q A E dv h q
  obtain ⟨ns, e, a⟩ := h
  subst e
  obtain ⟨v, ev, d1⟩ := dv.one
  obtain ⟨p, us, ep, hp, hd⟩ := d1.tupI
  rw [hd.ints] at hp
  subst ev ep
  refine ⟨p, ns, rfl, hp, fun ns' l h1 h2 nl => ?_⟩
  obtain ⟨sm, dv⟩ := new_lst E nl (dvInts ns')
  exact q _ _ _ (a ns' h1 h2) sm dv
end
def RMix : RKd := fun ds k A => ∃ d xs, ds = [d] ∧ itemsOf d = some xs ∧ xs.length ≤ 1000 ∧ k + xs.length ≤ 1000000 ∧ ∀ ys : List PyData, ys.Perm xs → A (.tuple ys) (k + xs.length)
def RSome : RKd := fun ds k A => ∃ m many : Int, ds = [.int m, .int many] ∧ k + m ≤ 1000000 ∧ 0 ≤ many ∧ many ≤ m ∧ m ≤ 1000 ∧ ∀ xs : List Int, xs.Pairwise (· < ·) → (xs.length : Int) = many → (∀ x ∈ xs, 0 ≤ x ∧ x < m) → A (.list (xs.map .int)) (k + m)
/-! ranges with a step; an if that only sets a name -/
section
variable {K : PySem.W.Frag} {Δ : DK}
theorem itd_rangeC {B : List Addr} {H : Hp} {lo c : Int} {n : Nat} : ItD K B (Itc lo c n) H ((List.range n).map fun i => .int (lo + (i : Nat) * c)) := by
  intro B' H' g _
  refine ⟨fun i d hd => ?_, ?_⟩
  · obtain ⟨e, hi⟩ := range_at hd
    subst e
    refine ⟨hi, fun x H2 y => ?_⟩
    obtain ⟨e1, e2⟩ := y
    subst e1 e2
    exact ⟨Same.refl _, .int _⟩
  · show n ≤ _
    rw [List.length_map, List.length_range]
    exact Nat.le_refl _
theorem ri_rng3 {ta : TA} {aa : AA} (ha : RA K Δ ta aa) : RI K Δ (iRng3 ta) (fun s A => aa s fun ds s1 => ∃ (i j c : Int) (n : Nat), ds = [.int i, .int j, .int c] ∧ RgC i j c n ∧ A ((List.range n).map fun x => .int (i + (x : Nat) * c)) s1) := by
  intro C B σ H s R A E h q
  refine ha C B σ H s _ _ E h fun vs ds H1 s1 a1 m1 E1 dv1 => ?_
  obtain ⟨i, j, c, n, e, h1, a⟩ := a1
  subst e
  cases dv1 with
  | cons d0 dr =>
    obtain ⟨v, u, ev, dv, du⟩ := dr.two
    subst ev
    cases d0
    cases dv
    cases du
    exact ⟨i, j, c, n, rfl, h1, q _ _ _ _ a m1 E1 itd_rangeC⟩
theorem rs_cutA {tc : TT} {ac : AT} {te : TE} {g : TG} {ae : AE} {ag : AG} {is : List Nat} {u : TS} {b : AStm} (hc : RT K Δ tc ac) (h1 : RE K Δ te ae) (h2 : RG K Δ g ag is) (hu : RS K Δ u b) :
    RS K Δ (tSeq (tIfS tc (tAsg te g) tNext) u) (aCut (aIfS ac (aAsg ae ag) (fun A s => A.nx s)) b) := rs_cut (rs_if hc (rs_asg h1 h2) rs_next) hu
end
theorem perm_ints {ys : List PyData} {l : List Int} (h : ys.Perm (l.map PyData.int)) : ∃ zs : List Int, ys = zs.map PyData.int ∧ zs.Perm l := by
  let g : PyData → Int := fun d => match d with
    | .int i => i
    | _ => 0
  refine ⟨ys.map g, ?_, ?_⟩
  · rw [List.map_map]
    conv => lhs; rw [← List.map_id ys]
    apply List.map_congr_left
    intro y hy
    obtain ⟨i, _, e⟩ := List.mem_map.mp (h.mem_iff.mp hy)
    subst e
    rfl
  · have := h.map g
    rw [List.map_map] at this
    have e : l.map (g ∘ PyData.int) = l := by
      conv => rhs; rw [← List.map_id l]
      apply List.map_congr_left
      intro i _
      rfl
    rw [e] at this
    exact this
theorem rgD_upto (m : Int) : rgD 0 m = upto m := by
  unfold rgD upto
  rw [Int.sub_zero]
  apply List.map_congr_left
  intro i _
  exact Int.zero_add _
def RToolA : RKd := fun ds k A => ∃ m : Int, ds = [.int m] ∧ k + 130 ≤ 1000000 ∧ 1 ≤ m ∧ m ≤ 60 ∧ ∀ tl, IsTool m tl → A (toolD tl) (k + 130)
def caseD (m : Int) (tls : List (List (Int × Int))) (ps : List Int) (g : Int) : PyData := .tuple [.int m, toolsD tls, tupD ps, .int g]
def RCase : RKd := fun ds k A => ∃ most : Int, ds = [.int most] ∧ k + 1000 ≤ 1000000 ∧ 1 ≤ most ∧ most ≤ 60 ∧ ∀ m tls ps g, 1 ≤ m → m ≤ most → (∀ t ∈ tls, IsTool m t) → tls ≠ [] → tls.length ≤ 3 → Places m ps → ps ≠ [] → 1 ≤ g → g ≤ m → A (caseD m tls ps g) (k + 1000)
theorem rs_cutE {K : PySem.W.Frag} {Δ : DK} {tc : TT} {ac : AT} {ta tb : TE} {g : TG} {aa ab : AE} {ag : AG} {is : List Nat} {u : TS} {b : AStm} (hc : RT K Δ tc ac) (h1 : RE K Δ ta aa) (h3 : RE K Δ tb ab) (h2 : RG K Δ g ag is) (hu : RS K Δ u b) :
    RS K Δ (tSeq (tAsg (tIf tc ta tb) g) u) (aCut (aAsg (aIf ac aa ab) ag) b) := rs_cut (rs_asg (re_if hc h1 h3) h2) hu
theorem raw_swap2 {d b t f m : Int} {i : Nat} : PyData.tuple [.int (b + (0 + (i : Nat) * d)), .int ((t + f + (0 + (i : Nat) * d)) % m)] = pairD ((i : Nat) * d + b, ((i : Nat) * d + t + f) % m) := by
  rw [Int.zero_add, Int.add_comm b, show t + f + (i : Nat) * d = (i : Nat) * d + t + f by omega]
  rfl
theorem sqL_same {K : PySem.W.Frag} {H H' : Hp} {a : Addr} {xs : List V} (h : SqL K H a xs) (e : Same H H') : SqL K H' a xs :=
  h.elim (fun h => .inl (h.elim (fun h => .inl (e _ _ h)) fun ⟨o, h⟩ => .inr ⟨o, e _ _ h⟩)) fun h => .inr h
/-- what the deck of three begins with -/
theorem deckA_new {H : Hp} {c z a : Addr} {ns : List Int} {ms : List Int} (hc : H c = some (.lst (ns.map V.int))) (hz : H z = some (.lst (ms.map V.int))) (ncz : c ≠ z) (na : H a = none) (ne : ns ≠ []) (hl : ns.length ≤ 64) (hm : ms.length = ns.length) (h0 : ∀ x ∈ ms, 0 ≤ x) :
    DeckA (upd H a (.lst [.ref c, .int 0, .ref z])) a c z 0 := by
  have nac : a ≠ c := (ne_of_none hc na).symm
  have naz : a ≠ z := (ne_of_none hz na).symm
  exact ⟨ns, ms, 0, nac, naz, ncz, upd_same, by rw [upd_ne nac.symm]; exact hc, by rw [upd_ne naz.symm]; exact hz, ne, hm, hl, h0, Int.le_refl _, Int.le_refl _⟩
/-- return l, l a list of one's own -/
theorem rs_retOwn {K : PySem.W.Frag} {Δ : DK} (i : Nat) : RS K Δ (tRet (tVar i)) (fun A s => ∃ ds, s.env[i]? = some (.own ds) ∧ A.rt (.list ds) s) := by
  intro C B σ H s D A E h qn qr
  obtain ⟨ds, hi, a⟩ := h
  obtain ⟨ad, h1, _⟩ := E.ow
  obtain ⟨a1, a2, a3, a4, us, a5, a6⟩ := h1 i _ hi rfl
  cases a6 with
  | l a6 =>
  exact ⟨_, a1, qr _ _ H s a ⟨.lst a5 (fun z => C.st0 _ z a4) (DvAll.anti E.bc _ _ a6), E.dk, E.mw⟩⟩

/-! ### the laws' own spreads, widths, lengths -/
theorem lcRel {α : Type} {l : List α} {e : α → PyData} {g : AG} {te : AE} {vs : List Nat} {s1 : AS} {A : PyData → AS → Prop} (P : α → Int → Prop) (h5 : l.length ≤ 100000)
    (he : ∀ x, x ∈ l → ∀ B : PyData → AS → Prop, (∀ v, P x v → ∀ s : AS, s.k = s1.k → B (.int v) s) → g (e x) ⟨wipeA s1.env vs, s1.k⟩ fun s2 => te s2 B)
    (ha : ∀ ws : List Int, ws.length = l.length → (∀ (j : Nat) x w, l[j]? = some x → ws[j]? = some w → P x w) → A (.list (ws.map .int)) s1) : LcB (l.map e) s1 g (fun s A => A true s) te vs A := by
  refine ⟨by rw [List.length_map]; exact h5, fun i acc k => k = s1.k ∧ ∃ ws : List Int, acc = ws.map .int ∧ ws.length = i ∧ ∀ (j : Nat) x w, l[j]? = some x → ws[j]? = some w → P x w, ⟨rfl, [], rfl, rfl, fun j x w _ h => by cases h⟩, fun i x acc k hx h => ?_, fun acc k h => ?_⟩
  · obtain ⟨e1, ws, e2, hl, hp⟩ := h
    subst e1 e2
    obtain ⟨y, hy, ey⟩ := map_get hx
    subst ey
    refine he y (List.mem_of_getElem? hy) _ fun v hv s hs => ⟨hs, ws ++ [v], by rw [List.map_append]; rfl, by rw [List.length_append, hl]; rfl, fun j x w hj hw => ?_⟩
    by_cases hji : j < ws.length
    · rw [List.getElem?_append_left hji] at hw
      exact hp j x w hj hw
    · have hj1 := (List.getElem?_eq_some_iff.mp hw).1
      rw [List.length_append, List.length_singleton] at hj1
      have ej : j = ws.length := by omega
      subst ej
      rw [List.getElem?_append_right (Nat.le_refl _), Nat.sub_self] at hw
      have e1 : v = w := Option.some.inj hw
      rw [hl, hy] at hj
      have e2 := Option.some.inj hj
      rw [← e1, ← e2]
      exact hv
  · obtain ⟨e1, ws, e2, hl, hp⟩ := h
    rw [List.length_map] at hl
    subst e1 e2
    exact ha ws hl hp
theorem least_at (f : Int → Int) : ∀ {ps : List Int}, ps ≠ [] → ∃ p ∈ ps, ∀ q ∈ ps, f p ≤ f q
  | [], h => absurd rfl h
  | [p], _ => ⟨p, List.mem_cons_self, fun q hq => by rw [List.mem_singleton.mp hq]; exact Int.le_refl _⟩
  | p :: q :: r, _ => by
    obtain ⟨x, hx, h⟩ := least_at f (List.cons_ne_nil q r)
    by_cases c : f p ≤ f x
    · refine ⟨p, List.mem_cons_self, fun y hy => ?_⟩
      rcases List.mem_cons.mp hy with e | e
      · rw [e]
        exact Int.le_refl _
      · exact Int.le_trans c (h y e)
    · refine ⟨x, List.mem_cons_of_mem _ hx, fun y hy => ?_⟩
      rcases List.mem_cons.mp hy with e | e
      · rw [e]
        omega
      · exact h y e
def FarP (m : Int) (ps : List Int) (b w : Int) : Prop := (∃ p ∈ ps, w = 1 + (p - b) % m) ∧ ∀ p ∈ ps, 1 + (p - b) % m ≤ w
theorem spread_far {m v : Int} {ps ws : List Int} (hm : 1 ≤ m) (pp : Places m ps) (ne : ps ≠ []) (hl : ws.length = ps.length) (hw : ∀ (j : Nat) x w, ps[j]? = some x → ws[j]? = some w → FarP m ps x w)
    (got : v ∈ ws) (all : ∀ y ∈ ws, v ≤ y) : IsSpread m ps v := by
  constructor
  · obtain ⟨j, hj⟩ := List.getElem?_of_mem got
    have hlt := (List.getElem?_eq_some_iff.mp hj).1
    have hb := List.getElem?_eq_getElem (l := ps) (i := j) (by omega)
    have h := hw j _ v hb hj
    have r := pp.rng _ (List.mem_of_getElem? hb)
    exact ⟨_, r.1, r.2, fun p hp => by have := h.2 p hp; omega⟩
  · intro b b0 b1
    obtain ⟨p0, hp0, hmin⟩ := least_at (fun p => (p - b) % m) ne
    obtain ⟨j, hj⟩ := List.getElem?_of_mem hp0
    have hlt := (List.getElem?_eq_some_iff.mp hj).1
    have hwj := List.getElem?_eq_getElem (l := ws) (i := j) (by omega)
    obtain ⟨⟨p, hp, e⟩, _⟩ := hw j p0 _ hj hwj
    have h1 := all _ (List.mem_of_getElem? hwj)
    refine ⟨p, hp, ?_⟩
    have h2 : (p0 - b) % m ≤ (p - b) % m := hmin p hp
    have r0 := mod_at (x := p0 - b) hm
    have r1 := mod_at (x := p - b) hm
    have e2 : (p - p0) % m = (p - b) % m - (p0 - b) % m := by
      rw [show p - p0 = (p - b) - (p0 - b) by omega, Int.sub_emod, Int.emod_eq_of_lt (by omega) (by omega)]
    omega
def RLT2 : RP := fun ds A => ∃ (tl : List (Int × Int)) (p : Int), ds = [toolD tl, .int p] ∧ tl ≠ [] ∧ A (.int (tgt tl p))
def BestW (m l : Int) (ts : List (List (Int × Int))) (v : Int) : Prop := 0 ≤ v ∧ (∀ t ∈ ts, ∀ q ∈ t, cnt m t q.2 l ≤ v) ∧ (v = 0 ∨ ∃ t ∈ ts, ∃ q ∈ t, cnt m t q.2 l = v)
theorem cnt_nonneg (m : Int) (t : List (Int × Int)) (b l : Int) : 0 ≤ cnt m t b l := by
  unfold cnt
  omega
theorem BestW.width {m l v : Int} {tls : List (List (Int × Int))} (h : BestW m l tls v) (hm : 1 ≤ m) (hl : l ≤ m) (its : ∀ t ∈ tls, IsTool m t) (ne : tls ≠ []) : IsWidth m tls l v := by
  obtain ⟨h0, h1, h2⟩ := h
  refine width_of_targets (by omega) hl its ?_ h1
  rcases h2 with z | z
  · obtain ⟨t, ht⟩ := List.exists_mem_of_ne_nil _ ne
    obtain ⟨q, hq⟩ := List.exists_mem_of_ne_nil _ (its t ht).ne
    have a := h1 t ht q hq
    have b := cnt_nonneg m t q.2 l
    exact ⟨t, ht, q, hq, by omega⟩
  · exact z
theorem cnt_len {m b l : Int} {t : List (Int × Int)} : ((((upto m).map (tgt t)).filter fun y => decide ((y - b) % m < l)).length : Int) = cnt m t b l := by
  rw [List.filter_map, List.length_map]
  rfl
theorem BestW.step {m l v v' : Int} {ts : List (List (Int × Int))} {t : List (Int × Int)} {out : List Int} (it : IsTool m t) (hm : 1 ≤ m) (h : BestW m l ts v) (mem : ∀ y, y ∈ out ↔ y ∈ (upto m).map (tgt t)) (hv : v ≤ v') (all : ∀ b ∈ out, cnt m t b l ≤ v')
    (got : v' = v ∨ ∃ b ∈ out, cnt m t b l = v') : BestW m l (ts ++ [t]) v' := by
  obtain ⟨h0, h1, h2⟩ := h
  have inq : ∀ q ∈ t, q.2 ∈ out := fun q hq => by
    rw [mem, List.mem_map]
    have r := it.rng q hq
    exact ⟨q.1, upto_mem.mpr r.1, tgtFrom_hit t _ it.asc hq⟩
  refine ⟨by omega, fun t' ht q hq => ?_, ?_⟩
  · rcases List.mem_append.mp ht with z | z
    · exact Int.le_trans (h1 t' z q hq) hv
    · rw [List.mem_singleton.mp z] at hq ⊢
      exact all _ (inq q hq)
  · rcases got with z | ⟨b, hb, e⟩
    · subst z
      rcases h2 with y | ⟨t', ht, q, hq, e⟩
      · exact .inl y
      · exact .inr ⟨t', List.mem_append_left _ ht, q, hq, e⟩
    · rw [mem, List.mem_map] at hb
      obtain ⟨x, _, ex⟩ := hb
      obtain ⟨q, hq, eq⟩ := tgt_mem it.ne x
      exact .inr ⟨t, List.mem_append_right _ (List.mem_singleton.mpr rfl), q, hq, by rw [← eq, ex]; exact e⟩
def RLLens : RP := fun ds A => ∃ (m g : Int) (tls : List (List (Int × Int))), ds = [.int m, toolsD tls, .int g] ∧ (∀ t ∈ tls, IsTool m t) ∧ tls ≠ [] ∧ tls.length ≤ 100 ∧ 1 ≤ m ∧ m ≤ 60 ∧ 1 ≤ g ∧ g ≤ m ∧ ∀ xs x, Path m tls g xs x → IsWidth m tls x x → A (.list (xs.map .int))
theorem neat_tup2 {d e : PyData} {n m : Nat} (h1 : Neat d n m) (h2 : Neat e n m) : Neat (.tuple [d, e]) (2 * (n + 2) + 3) (m + 1) := neat_tuple (ds := [d, e]) fun x hx => by
  rcases List.mem_cons.mp hx with z | z
  · rw [z]
    exact h1
  · rw [List.mem_singleton.mp z]
    exact h2
theorem neat_lst2 {d e : PyData} {n m : Nat} (h1 : Neat d n m) (h2 : Neat e n m) : Neat (.list [d, e]) (2 * (n + 2) + 2) (m + 1) := neat_list (ds := [d, e]) fun x hx => by
  rcases List.mem_cons.mp hx with z | z
  · rw [z]
    exact h1
  · rw [List.mem_singleton.mp z]
    exact h2
theorem places_neat {m : Int} {ps : List Int} (pp : Places m ps) (hm : m ≤ 60) : Neat (tupD ps) 3900000 3 := by
  refine (neat_ints (by have := pp.len; omega) fun n hn => ?_).mono (Nat.le_refl _) (by decide)
  have := pp.rng n hn
  omega
theorem tp_neat {m : Int} {tls : List (List (Int × Int))} {ps : List Int} (its : ∀ t ∈ tls, IsTool m t) (hl : tls.length ≤ 4) (pp : Places m ps) (hm : m ≤ 60) : Neat (.list [toolsD tls, tupD ps]) 16000000 60 :=
  neat_two ((tools_neat its hm hl).mono (n' := 3900000) (by decide) (by decide)) (places_neat pp hm) (by decide) (by decide)
theorem path_last {m g x : Int} {tls : List (List (Int × Int))} {xs : List Int} (hp : Path m tls g xs x) : atI (xs.map PyData.int) (-1) = some (.int x) := by
  obtain ⟨ys, ey⟩ := hp.last
  rw [ey]
  apply atI_neg1
  rw [List.length_map, List.length_append, List.getElem?_map, List.length_singleton, Nat.add_sub_cancel, List.getElem?_append_right (Nat.le_refl _), Nat.sub_self]
  rfl
theorem path_in {m g x : Int} {tls : List (List (Int × Int))} {xs : List Int} (hp : Path m tls g xs x) : x ∈ xs := by
  obtain ⟨ys, ey⟩ := hp.last
  rw [ey]
  exact List.mem_append_right _ (List.mem_singleton.mpr rfl)
theorem neat_small {n : Int} (h : n.natAbs < 10 ^ 40) : Neat (.int n) 3900000 1 := (fine_int (small_int h)).neat.mono (by decide) (by decide)
/-- what a certificate is -/
def CertP (m : Int) (tls : List (List (Int × Int))) (ps : List Int) (g : Int) (d : PyData) : Prop := ∃ xs x v, Path m tls g xs x ∧ IsWidth m tls x x ∧ IsSpread m ps v ∧ ((fewD xs v = .none ∧ d = .tuple [.str "never", .int x]) ∨
  ∃ (t : Nat) (pl : List (Int × Nat)), fewD xs v = .int (t : Nat) ∧ pl.length = t ∧ (∀ p ∈ pl, 0 ≤ p.1 ∧ p.1 < m ∧ p.2 < tls.length) ∧ FindP m tls ps g pl ∧ d = .tuple [.str "plan", planD pl])
theorem CertP.uniq {m g : Int} {tls : List (List (Int × Int))} {ps : List Int} {d d' : PyData} (h : CertP m tls ps g d) (h' : CertP m tls ps g d') : d = d' := by
  obtain ⟨xs, x, v, a1, a2, a3, a4⟩ := h
  obtain ⟨xs', x', v', b1, b2, b3, b4⟩ := h'
  have ex : xs' = xs := Chain.uniq (b1.done b2) (a1.done a2)
  subst ex
  have ev := a3.uniq b3
  subst ev
  have exx : x' = x := by
    have h1 := path_last a1
    have h2 := path_last b1
    rw [h1] at h2
    exact (PyData.int.inj (Option.some.inj h2)).symm
  subst exx
  rcases a4 with ⟨c1, c2⟩ | ⟨t, pl, c1, _, _, c4, c5⟩
  · rcases b4 with ⟨e1, e2⟩ | ⟨t', pl', e1, _⟩
    · rw [c2, e2]
    · rw [c1] at e1
      cases e1
  · rcases b4 with ⟨e1, e2⟩ | ⟨t', pl', e1, _, _, e4, e5⟩
    · rw [c1] at e1
      cases e1
    · rw [c5, e5, c4.uniq e4]
theorem CertP.neat {m g : Int} {tls : List (List (Int × Int))} {ps : List Int} {d : PyData} (h : CertP m tls ps g d) (hm : m ≤ 60) (g1 : 1 ≤ g) (gm : g ≤ m) (h4 : tls.length ≤ 100) : Neat d 16000000 60 := by
  obtain ⟨xs, x, v, a1, a2, a3, a4⟩ := h
  have r := a1.rng g1 gm
  rcases a4 with ⟨_, e⟩ | ⟨t, pl, c1, c2, c3, _, e⟩
  · subst e
    exact (neat_tup2 (n := 3900000) (m := 1) ⟨rfl, by decide, by decide +kernel⟩ (neat_small (by omega))).mono (by decide) (by decide)
  · subst e
    have ht : t ≤ 100 := by
      rcases few_cases xs v with ⟨ef, _⟩ | ⟨t', y, ef, ht, _⟩
      · rw [ef] at c1
        cases c1
      · rw [ef] at c1
        have := PyData.int.inj c1
        have := (List.getElem?_eq_some_iff.mp ht).1
        omega
    refine (neat_tup2 (n := 1000000) (m := 3) ⟨rfl, by decide, by decide +kernel⟩ (plan_neat (fun p hp => ?_) (by omega))).mono (by decide) (by decide)
    have := c3 p hp
    have b : (10 : Nat) ^ 30 = 1000000000000000000000000000000 := by decide
    omega
/-- find_certificate, told by that -/
theorem cert_of {m g : Int} {tls : List (List (Int × Int))} {ps : List Int} (its : ∀ t ∈ tls, IsTool m t) (ne : tls ≠ []) (h100 : tls.length ≤ 100) (hm1 : 1 ≤ m) (hm2 : m ≤ 60) (g1 : 1 ≤ g) (gm : g ≤ m) (pp : Places m ps) (pne : ps ≠ []) {A : PyData → Prop}
    (a : ∀ d, CertP m tls ps g d → A d) : RCert [.int m, toolsD tls, tupD ps, .int g] A :=
  ⟨m, g, tls, ps, rfl, its, ne, h100, hm1, hm2, g1, gm, pp, pne, fun xs x v hp hw hv => ⟨fun ef => a _ ⟨xs, x, v, hp, hw, hv, .inl ⟨ef, rfl⟩⟩, fun t pl ef hl fine hs hf => a _ ⟨xs, x, v, hp, hw, hv, .inr ⟨t, pl, ef, hl, fine, hf, rfl⟩⟩⟩⟩
/-- what find_plan returns -/
def PlanR (m : Int) (tls : List (List (Int × Int))) (ps : List Int) (g : Int) (d : PyData) : Prop := ∃ xs x v, Path m tls g xs x ∧ IsWidth m tls x x ∧ IsSpread m ps v ∧ ((fewD xs v = .none ∧ d = .none) ∨
  ∃ (t : Nat) (pl : List (Int × Nat)), fewD xs v = .int (t : Nat) ∧ pl.length = t ∧ t ≤ 100 ∧ (∀ p ∈ pl, 0 ≤ p.1 ∧ p.1 < m ∧ p.2 < tls.length) ∧ (∀ w, IsSpread m (imgP m (planF m tls pl) ps) w → w ≤ g) ∧ FindP m tls ps g pl ∧ d = planD pl)
theorem plan_of {m g : Int} {tls : List (List (Int × Int))} {ps : List Int} (its : ∀ t ∈ tls, IsTool m t) (ne : tls ≠ []) (h100 : tls.length ≤ 100) (hm1 : 1 ≤ m) (hm2 : m ≤ 60) (g1 : 1 ≤ g) (gm : g ≤ m) (pp : Places m ps) (pne : ps ≠ []) {A : PyData → Prop}
    (a : ∀ d, PlanR m tls ps g d → A d) : RFind [.int m, toolsD tls, tupD ps, .int g] A := by
  refine ⟨m, g, tls, ps, rfl, its, ne, h100, hm1, hm2, g1, gm, pp, pne, fun xs x v hp hw hv => ⟨fun ef => a _ ⟨xs, x, v, hp, hw, hv, .inl ⟨ef, rfl⟩⟩, fun t pl ef hl fine hs hf => a _ ⟨xs, x, v, hp, hw, hv, .inr ⟨t, pl, ef, hl, ?_, fine, hs, hf, rfl⟩⟩⟩⟩
  have r := hp.rng g1 gm
  rcases few_cases xs v with ⟨ef', _⟩ | ⟨t', y, ef', ht, _⟩
  · rw [ef'] at ef
    cases ef
  · rw [ef'] at ef
    have := PyData.int.inj ef
    have := (List.getElem?_eq_some_iff.mp ht).1
    omega
theorem PlanR.uniq {m g : Int} {tls : List (List (Int × Int))} {ps : List Int} {d d' : PyData} (h : PlanR m tls ps g d) (h' : PlanR m tls ps g d') : d = d' := by
  obtain ⟨xs, x, v, a1, a2, a3, a4⟩ := h
  obtain ⟨xs', x', v', b1, b2, b3, b4⟩ := h'
  have ex : xs' = xs := Chain.uniq (b1.done b2) (a1.done a2)
  subst ex
  have ev := a3.uniq b3
  subst ev
  rcases a4 with ⟨c1, c2⟩ | ⟨t, pl, c1, _, _, _, _, c4, c5⟩
  · rcases b4 with ⟨e1, e2⟩ | ⟨t', pl', e1, _⟩
    · rw [c2, e2]
    · rw [c1] at e1
      cases e1
  · rcases b4 with ⟨e1, e2⟩ | ⟨t', pl', e1, _, _, _, _, e4, e5⟩
    · rw [c1] at e1
      cases e1
    · rw [c5, e5, c4.uniq e4]
theorem plan_small {m : Int} {tls : List (List (Int × Int))} {pl : List (Int × Nat)} (hm : m ≤ 60) (hn : tls.length ≤ 100) (fine : ∀ p ∈ pl, 0 ≤ p.1 ∧ p.1 < m ∧ p.2 < tls.length) (hl : pl.length ≤ 100) : Neat (planD pl) 1000000 3 := by
  refine plan_neat (fun p hp => ?_) (by omega)
  have := fine p hp
  have b : (10 : Nat) ^ 30 = 1000000000000000000000000000000 := by decide
  omega
theorem PlanR.neat {m g : Int} {tls : List (List (Int × Int))} {ps : List Int} {d : PyData} (h : PlanR m tls ps g d) (hm : m ≤ 60) (hn : tls.length ≤ 100) : Neat d 1000000 3 := by
  obtain ⟨xs, x, v, a1, a2, a3, a4⟩ := h
  rcases a4 with ⟨_, e⟩ | ⟨t, pl, c1, c2, c3, c4, _, _, e⟩
  · subst e
    exact ⟨rfl, by decide, by decide⟩
  · subst e
    exact plan_small hm hn c4 (by omega)
theorem rs_cutI2 {K : PySem.W.Frag} {Δ : DK} {tc : TT} {ac : AT} {t1 t2 u : TS} {a1 a2 b : AStm} (hc : RT K Δ tc ac) (h1 : RS K Δ t1 a1) (h2 : RS K Δ t2 a2) (hu : RS K Δ u b) :
    RS K Δ (tSeq (tIfS tc (tSeq t1 t2) tNext) u) (aCut (aIfS ac (aSeq a1 a2) (fun A s => A.nx s)) b) := rs_cut (rs_if hc (rs_seq h1 h2) rs_next) hu
def RFindR : RP := fun ds A => ∃ (m g : Int) (tls : List (List (Int × Int))) (ps : List Int), ds = [.int m, toolsD tls, tupD ps, .int g] ∧ (∀ t ∈ tls, IsTool m t) ∧ tls ≠ [] ∧ tls.length ≤ 100 ∧ 1 ≤ m ∧ m ≤ 60 ∧ 1 ≤ g ∧ g ≤ m ∧ Places m ps ∧ ps ≠ [] ∧ ∀ d, PlanR m tls ps g d → A d
def RCertR : RP := fun ds A => ∃ (m g : Int) (tls : List (List (Int × Int))) (ps : List Int), ds = [.int m, toolsD tls, tupD ps, .int g] ∧ (∀ t ∈ tls, IsTool m t) ∧ tls ≠ [] ∧ tls.length ≤ 100 ∧ 1 ≤ m ∧ m ≤ 60 ∧ 1 ≤ g ∧ g ≤ m ∧ Places m ps ∧ ps ≠ [] ∧ ∀ d, CertP m tls ps g d → A d
theorem find_conv {ds : List PyData} {A : PyData → Prop} (h : RFindR ds A) : RFind ds A := by
  obtain ⟨m, g, tls, ps, e, its, ne, h100, hm1, hm2, g1, gm, pp, pne, a⟩ := h
  subst e
  exact plan_of its ne h100 hm1 hm2 g1 gm pp pne a
theorem cert_conv {ds : List PyData} {A : PyData → Prop} (h : RCertR ds A) : RCert ds A := by
  obtain ⟨m, g, tls, ps, e, its, ne, h100, hm1, hm2, g1, gm, pp, pne, a⟩ := h
  subst e
  exact cert_of its ne h100 hm1 hm2 g1 gm pp pne a
theorem find_back {ds : List PyData} {A : PyData → Prop} (h : RFind ds A) : RFindR ds A := by
  obtain ⟨m, g, tls, ps, e, its, ne, h100, hm1, hm2, g1, gm, pp, pne, a⟩ := h
  refine ⟨m, g, tls, ps, e, its, ne, h100, hm1, hm2, g1, gm, pp, pne, fun d hd => ?_⟩
  obtain ⟨xs, x, v, a1, a2, a3, a4⟩ := hd
  obtain ⟨b1, b2⟩ := a xs x v a1 a2 a3
  rcases a4 with ⟨c1, c2⟩ | ⟨t, pl, c1, c2, _, c3, c4, c5, c6⟩
  · rw [c2]
    exact b1 c1
  · rw [c6]
    exact b2 t pl c1 c2 c3 c4 c5
/-! ### plans judged by the laws -/
def FinePl (n : Nat) (d : PyData) : Prop := ∃ pl : List (Int × Nat), d = planD pl ∧ FinePlan n pl
def RLAfter : RP := fun ds A => ∃ (m : Int) (tls : List (List (Int × Int))) (d : PyData) (ps : List Int), ds = [.int m, toolsD tls, d, tupD ps] ∧ (∀ t ∈ tls, IsTool m t) ∧ tls.length ≤ 1000 ∧ 1 ≤ m ∧ m ≤ 60 ∧ Places m ps ∧ (∀ pl, d = planD pl → FinePlan tls.length pl → A (tupD (imgP m (planF m tls pl) ps))) ∧ (¬ FinePl tls.length d → A .none)
def RLIsInt : RP := fun ds A => ∃ d lo hi, ds = [d, .int lo, .int hi] ∧ A (.bool (numIn lo hi d))
theorem turn_num {d : PyData} : numIn (1 - 10 ^ 30) (10 ^ 30 - 1) d = true ↔ ∃ t : Int, d = .int t ∧ t.natAbs < 10 ^ 30 := by
  constructor
  · intro h
    obtain ⟨n, e, h1, h2⟩ := numIn_int h
    have b : (10 : Int) ^ 30 = 1000000000000000000000000000000 := by decide
    have b' : (10 : Nat) ^ 30 = 1000000000000000000000000000000 := by decide
    exact ⟨n, e, by omega⟩
  · intro h
    obtain ⟨t, e, ht⟩ := h
    subst e
    have b : (10 : Int) ^ 30 = 1000000000000000000000000000000 := by decide
    have b' : (10 : Nat) ^ 30 = 1000000000000000000000000000000 := by decide
    show (decide (1 - 10 ^ 30 ≤ t) && decide (t ≤ 10 ^ 30 - 1)) = true
    rw [Bool.and_eq_true, decide_eq_true_eq, decide_eq_true_eq]
    omega
theorem idx_num {d : PyData} {n : Nat} : numIn 0 ((n : Nat) - 1) d = true ↔ ∃ i : Nat, d = .int (i : Nat) ∧ i < n := by
  constructor
  · intro h
    obtain ⟨z, e, h1, h2⟩ := numIn_int h
    exact ⟨z.toNat, by rw [e]; congr 1; omega, by omega⟩
  · intro h
    obtain ⟨i, e, hi⟩ := h
    subst e
    show (decide ((0 : Int) ≤ (i : Nat)) && decide (((i : Nat) : Int) ≤ (n : Nat) - 1)) = true
    rw [Bool.and_eq_true, decide_eq_true_eq, decide_eq_true_eq]
    omega
theorem planD_inj {pl pl' : List (Int × Nat)} (h : planD pl = planD pl') : pl = pl' := by
  have h : pl.map pushD = pl'.map pushD := PyData.tuple.inj h
  have inj : ∀ (a b : List (Int × Nat)), a.map pushD = b.map pushD → a = b := by
    intro a
    induction a with
    | nil =>
      intro b h
      cases b with
      | nil => rfl
      | cons => cases h
    | cons x r ih =>
      intro b h
      cases b with
      | nil => cases h
      | cons y s =>
        rw [List.map_cons, List.map_cons] at h
        obtain ⟨h1, h2⟩ := List.cons.inj h
        have h3 := PyData.tuple.inj h1
        obtain ⟨e1, e2⟩ := List.cons.inj h3
        have e1 := PyData.int.inj e1
        have e2 := PyData.int.inj (List.cons.inj e2).1
        have : x = y := Prod.ext e1 (by omega)
        rw [this, ih s h2]
  exact inj _ _ h
theorem not_fine_item {n : Nat} {ds : List PyData} {i : Nat} {x : PyData} (hx : ds[i]? = some x) (h : ∀ p : Int × Nat, x = pushD p → ¬ (p.1.natAbs < 10 ^ 30 ∧ p.2 < n)) : ¬ FinePl n (.tuple ds) := by
  rintro ⟨pl, e, fp⟩
  have e := PyData.tuple.inj e
  rw [e, List.getElem?_map] at hx
  cases hp : pl[i]? with
  | none =>
    rw [hp] at hx
    cases hx
  | some p =>
    rw [hp] at hx
    exact h p (Option.some.inj hx).symm (fp.1 p (List.mem_of_getElem? hp))
def RLRight : RP := fun ds A => ∃ (m g : Int) (tls : List (List (Int × Int))) (ps : List Int) (d : PyData), ds = [.int m, toolsD tls, tupD ps, .int g, d] ∧ (∀ t ∈ tls, IsTool m t) ∧ tls.length ≤ 1000 ∧ 1 ≤ m ∧ m ≤ 60 ∧ Places m ps ∧ ps ≠ [] ∧
  (∀ pl, d = planD pl → FinePlan tls.length pl → ∀ v, IsSpread m (imgP m (planF m tls pl) ps) v → A (.bool (decide (v ≤ g)))) ∧ (¬ FinePl tls.length d → A (.bool false))
def RLFew : RP := fun ds A => ∃ (m g : Int) (tls : List (List (Int × Int))) (ps : List Int), ds = [.int m, toolsD tls, tupD ps, .int g] ∧ (∀ t ∈ tls, IsTool m t) ∧ tls ≠ [] ∧ tls.length ≤ 100 ∧ 1 ≤ m ∧ m ≤ 60 ∧ 1 ≤ g ∧ g ≤ m ∧ Places m ps ∧ ps ≠ [] ∧
  ∀ xs x v, Path m tls g xs x → IsWidth m tls x x → IsSpread m ps v → A (fewD xs v)
theorem few_filter {xs : List Int} {v : Int} : (((List.range xs.length).filter fun i => decide (v ≤ xs.getD i 0)).map fun i => PyData.int (i : Nat)) = [] ∧ fewD xs v = .none ∨
    ∃ (t : Nat) (r : List PyData), (((List.range xs.length).filter fun i => decide (v ≤ xs.getD i 0)).map fun i => PyData.int (i : Nat)) = .int (t : Nat) :: r ∧ fewD xs v = .int (t : Nat) := by
  cases e : (List.range xs.length).filter fun i => decide (v ≤ xs.getD i 0) with
  | nil =>
    refine .inl ⟨rfl, few_none fun j z hj => ?_⟩
    have hlt := (List.getElem?_eq_some_iff.mp hj).1
    rw [List.filter_eq_nil_iff] at e
    have := e j (List.mem_range.mpr hlt)
    rw [List.getD_eq_getElem?_getD, hj] at this
    have h2 : ¬ v ≤ z := fun q => this (decide_eq_true q)
    omega
  | cons t r =>
    refine .inr ⟨t, _, rfl, ?_⟩
    have hm : t ∈ (List.range xs.length).filter fun i => decide (v ≤ xs.getD i 0) := by
      rw [e]
      exact List.mem_cons_self
    obtain ⟨h1, h2⟩ := List.mem_filter.mp hm
    have h1 := List.mem_range.mp h1
    have h2 := of_decide_eq_true h2
    have hg := List.getElem?_eq_getElem h1
    refine few_some hg (by rw [List.getD_eq_getElem?_getD, hg] at h2; exact h2) fun j z hj hz => ?_
    by_cases c : v ≤ z
    · exfalso
      have hjl := (List.getElem?_eq_some_iff.mp hz).1
      have hm2 : j ∈ (List.range xs.length).filter fun i => decide (v ≤ xs.getD i 0) := by
        rw [List.mem_filter]
        refine ⟨List.mem_range.mpr hjl, decide_eq_true ?_⟩
        rw [List.getD_eq_getElem?_getD, hz]
        exact c
      rw [e] at hm2
      have pw : ((List.range xs.length).filter fun i => decide (v ≤ xs.getD i 0)).Pairwise (· < ·) := List.pairwise_lt_range.filter _
      rw [e] at pw
      rcases List.mem_cons.mp hm2 with q | q
      · omega
      · have := (List.pairwise_cons.mp pw).1 j q
        omega
    · omega
theorem few_neat {m g x v : Int} {tls : List (List (Int × Int))} {xs : List Int} (hp : Path m tls g xs x) (g1 : 1 ≤ g) (gm : g ≤ m) (hm : m ≤ 60) : Neat (fewD xs v) 3900000 1 := by
  have r := hp.rng g1 gm
  rcases few_cases xs v with ⟨ef, _⟩ | ⟨t, y, ef, ht, _⟩
  · rw [ef]
    exact ⟨rfl, by decide, by decide⟩
  · rw [ef]
    have := (List.getElem?_eq_some_iff.mp ht).1
    exact neat_small (by omega)
theorem boolNe {d e : PyData} {s : AS} {A : PyData → AS → Prop} {x y : Bool} (h1 : d = .bool x) (h2 : e = .bool y) (a : A (.bool (true ^^ decide (x = y))) s) : aEq true d e s A := .inr (.inr (.inl ⟨x, y, h1, h2, a⟩))
def atMost : PyData → PyData → Bool
  | _, .none => true
  | .int x, .int y => decide (x ≤ y)
  | _, _ => false
def RAtMost : RP := fun ds A => ∃ d e : PyData, ds = [d, e] ∧ (d = .none ∨ ∃ x, d = .int x) ∧ (e = .none ∨ ∃ y, e = .int y) ∧ A (.bool (atMost d e))

/-! ### defs that may raise -/
def HasX (P : Program) (w : World) (K : PySem.W.Frag) (mg : Str → Option Value) (base : Heap) (k : Nat) (x : Str) (ps : List Str) (sp : Sp) : Prop :=
  ∃ f fd, FnOk P w K mg base (L2.CX P w) k f fd ps sp ∧ mg x = some (.ref f) ∧ PySem.W.keepIn K (.ref f) = true ∧ L2.Binds K fd ps []
section
variable {X : Cx} {k j : Nat} {ps : List Str} {sp : Sp} {x : Str} {p pos : Pos} {e : Expr} {es : List Expr} {t : TA} {W : WX}
theorem pe_callHX (h : HasX X.prog X.w X.K X.mg X.base k x ps sp) (hr : Room j X.A) (hk : k ≤ j) (tk : Takes X W) (hg : Gl X x) (ha : PA X (e :: es) t)
    (hdb : (x == ("__debug__" : Str)) = false := by decide)
    (he : starEach (e :: es) X.env = (false, eval e X.env) :: starEach es X.env := by rfl)
    (hpl : (backTo pos (starEach es X.env)).any (·.1) = false := by rfl) :
    PE X (.Call (.Name x p) (e :: es) [] pos) (tCallS sp (WE W) t) := by
  obtain ⟨f, fd, F, hm, hkp, hb⟩ := h
  exact pe_callS F (hr.mono hk) hg hm hkp hb (fun σ => passAt tk σ) ha hdb he hpl
end
/-! ### an error with one field -/
def spInit (K : PySem.W.Frag) (fld : Str) : Sp := fun vs H Q _ => ∃ (a C : Addr) (v : V), vs = [.ref a, v] ∧ OexC K C ∧ PySem.W.findIn K (.ref C) fld = some none ∧ H a = some (exo a C none) ∧
  ∀ dx, H dx = none → dx ≠ a → Q .non (upd (upd H dx (exd dx [(fld, v)])) a (exo a C (some dx)))
structure ErrC (P : Program) (w : World) (K : PySem.W.Frag) (mg : Str → Option Value) (base : Heap) (x : Str) (fld : Str) (C : Addr) : Prop where
  gC : mg x = some (.ref C)
  ox : OexC K C
  xf : XfC K C
  ec : ExcC K C
  no : PySem.W.findIn K (.ref C) fld = some none
  ini : ∃ fI fd, PySem.W.findIn K (.ref C) "__init__" = some (some (.ref fI)) ∧ PySem.W.typeIn K (.ref fI) = some (.type "function") ∧ FnOk P w K mg base CX0 1 fI fd ["self", fld] (spInit K fld) ∧ L2.Binds K fd ["self", fld] []
theorem pmk_err {X : Cx} {x fld : Str} {C : Addr} {e : Expr} {ta : TA} {p pos : Pos} {k : Nat} (T : ErrC X.prog X.w X.K X.mg X.base x fld C) (hr : Room k X.A) (hk : 2 ≤ k) (hg : Gl X x) (ha : PA X [e] ta)
    (hdb : (x == ("__debug__" : Str)) = false := by decide) (he : starEach [e] X.env = (false, eval e X.env) :: starEach [] X.env := by rfl) (hpl : (backTo pos (starEach [] X.env)).any (·.1) = false := by rfl) :
    PMk X (.Call (.Name x p) [e] [] pos) (tMkO C (spInit X.K fld) [] ta) := by
  obtain ⟨fI, fd, h1, h2, F, b⟩ := T.ini
  exact pmk_oex T.ox h1 h2 F (hr.mono hk) b .nil pass0 hg T.gC ha hdb he hpl
theorem mk_bad {K : PySem.W.Frag} {C : Addr} {fld : Str} {v : V} {H1 : Hp} {Q : XK} (T : OexC K C) (no : PySem.W.findIn K (.ref C) fld = some none)
    (q : ∀ d H', Same H1 H' → H1 d = none → H' d = some (.xd [(fld, v)]) → Q (.ref C) (some d) H') :
    [v].length ≤ 1000 ∧ ∀ a, H1 a = none → spInit K fld (.ref a :: ([v] ++ [])) (upd H1 a (exo a C none))
      (fun v H2 => v = .non ∧ ∃ (d : Addr) (fs : List (Str × V)), H2 a = some (exo a C (some d)) ∧ H2 d = some (exd d fs) ∧ H1 d = none ∧ Q (.ref C) (some d) (upd (del H2 a) d (.xd fs))) (fun _ _ _ => False) := by
  refine ⟨by show 1 ≤ 1000; decide, fun a na => ⟨a, C, v, rfl, T, no, upd_same, fun dx nd ne => ⟨rfl, dx, [(fld, v)], upd_same, ?_, ?_, ?_⟩⟩⟩
  · rw [upd_ne ne, upd_same]
  · rw [upd_ne ne] at nd
    exact nd
  · rw [upd_ne ne] at nd
    refine q dx _ (fun b o e => ?_) nd upd_same
    have ba : b ≠ a := ne_of_none e na
    have bd : b ≠ dx := ne_of_none e nd
    rw [upd_ne bd, del_ne ba, upd_ne ba, upd_ne bd, upd_ne ba]
    exact e
/-! ### what the suite asks of the error -/
def rIsX (K : PySem.W.Frag) (a : Addr) (cls : Value) (d : Option Addr) : List V → Hp → VK → Prop := fun xs H Q => ∃ (D dd : Addr) (fs : List (Str × V)) (c : V) (cv : Value) (b : Bool), cls = .ref D ∧ d = some dd ∧ ExcC K D ∧ xs = [.ref a, c] ∧ H dd = some (.xd fs) ∧ ClsV c cv ∧ PySem.W.kitOne K (.ref D) cv = some b ∧ Q (.bl b) H
def rIsXT (K : PySem.W.Frag) (a : Addr) (cls : Value) (d : Option Addr) : List V → Hp → VK → Prop := fun xs H Q => ∃ (D dd tp : Addr) (fs : List (Str × V)) (cs : List V) (us : List Value) (b : Bool), cls = .ref D ∧ d = some dd ∧ ExcC K D ∧ xs = [.ref a, .ref tp] ∧ H dd = some (.xd fs) ∧ H tp = some (.tup cs) ∧ Paired ClsV cs us ∧ PySem.W.kitAny K (.ref D) us = some b ∧ Q (.bl b) H
section
variable {X : Cx} {a : Addr} {oe : Obj} {cls : Value} {d : Option Addr} {pn : List (Addr × Obj)}
theorem inst_of {D dd : Addr} {fs : List (Str × V)} {pins : List (Addr × Obj)} {s : Shared} {σ : L2.St} {H : Hp} (hz : Zc (.ref D) (some dd) oe) (hf : ∃ vs, oe.data = .fields vs)
    (I : L2.Inv (X.suite a ((a, oe) :: pn)) pins σ H s) (hd : H dd = some (.xd fs)) : ∃ od, PySem.W.InstAt s.heap a oe D (some od) := by
  obtain ⟨ha, _⟩ := I.pin (a, oe) (List.mem_append_left _ List.mem_cons_self)
  obtain ⟨vs, hv⟩ := hf
  obtain ⟨mA, hns, hr⟩ := (show ObjOk X.prog X.w H s.heap dd (.xd fs) from I.hok dd _ hd)
  obtain ⟨od, ho, hl⟩ := lookIn_ns hns
  exact ⟨od, ha, hz.1, by unfold PySem.W.notCls; rw [hv] <;> rfl, by rw [hz.2]; exact ho⟩
theorem kit_x {D : Addr} {od : Option Obj} (C : ExcC X.K D) : PySem.W.KitX X.K (.ref a) (.ref D) (fun h => PySem.W.InstAt h a oe D od) :=
  PySem.W.kitx_exc (by obtain ⟨cd, hc, _⟩ := PySem.W.any_some C.hd; rw [hc]; rfl) C.hg C.hk C.hs C.ha C.hn C.ht C.hm
theorem call_isX (K : PySem.W.Frag) (hz : Zc cls d oe) (hf : ∃ vs, oe.data = .fields vs) (hK : X.K = K := by rfl) : CallR (X.suite a ((a, oe) :: pn)) (.builtin "isinstance") (rIsX K a cls d) := by
  subst hK
  intro pins s σ H xs us Q I r h
  obtain ⟨D, dd, fs, c, cv, b, e1, e2, C, e3, hd, k, e, q⟩ := h
  subst e1
  subst e2
  subst e3
  obtain ⟨u1, u2, eu, r1, r2⟩ := vals2 r
  subst eu
  cases r1
  have e4 := k.eq r2
  subst e4
  obtain ⟨od, J⟩ := inst_of hz hf I hd
  exact PySem.W.kia_one (kit_x C) I.kIn J e (fun z => nomatch z) fun tk => ⟨.bl b, H, I.tok tk, rfl, q⟩
theorem call_isXT (K : PySem.W.Frag) (hz : Zc cls d oe) (hf : ∃ vs, oe.data = .fields vs) (hK : X.K = K := by rfl) : CallR (X.suite a ((a, oe) :: pn)) (.builtin "isinstance") (rIsXT K a cls d) := by
  subst hK
  intro pins s σ H xs us Q I r h
  obtain ⟨D, dd, tp, fs, cs, ws, b, e1, e2, C, e3, hd, hT, k, e, q⟩ := h
  subst e1
  subst e2
  subst e3
  obtain ⟨u1, u2, eu, r1, r2⟩ := vals2 r
  subst eu
  cases r1
  cases (show u2 = Value.ref tp from r2)
  obtain ⟨od, J⟩ := inst_of hz hf I hd
  obtain ⟨_, its, rv, o, h1, h2, n, h3⟩ := (show ObjOk X.prog X.w H s.heap tp (.tup cs) from I.hok tp _ hT)
  have e3 := ClsV.all k rv
  subst e3
  obtain ⟨oc, od2, dt, sl⟩ := o
  simp only at h2 h3
  subst h2 h3
  exact PySem.W.kia_tup (kit_x C) I.kIn J h1 e (fun z => nomatch z) fun tk => ⟨.bl b, H, I.tok tk, rfl, q⟩
/-- e.f -/
theorem kxf (K : PySem.W.Frag) {C : Addr} {e : Expr} {te : TE} {pos : Pos} {n : Str} (T : XfC K C) (hno : PySem.W.findIn K (.ref C) n = some none)
    (hz : Zc cls d oe) (hf : ∃ vs, oe.data = .fields vs) (he : PE (X.suite a ((a, oe) :: pn)) e te) (hK : X.K = K := by rfl) (hb : attributeBase e n X.env (eval e X.env) = eval e X.env := by rfl) :
    PE (X.suite a ((a, oe) :: pn)) (.Attribute e n pos) (tXf a cls d C n te) := by
  subst hK
  exact pe_xf T hno hz hf he hb
end
/-- «except P» of an error whose class stands under P -/
theorem exm_sub {K : PySem.W.Frag} {C S : Addr} (h1 : PySem.W.subIn K (.ref S) (.type "BaseException") = some true) (hd : PySem.W.hasDictIn K S = true) (ht : PySem.W.typeIn K (.ref S) = some (.type "type")) (h4 : PySem.W.subIn K (.ref C) (.ref S) = some true) : PySem.W.exmOne K (.ref C) (.ref S) = some true :=
  PySem.W.exm_ref h1 hd ht h4
theorem hasx_mk {P : Program} {w : World} {K : PySem.W.Frag} {mg : Str → Option Value} {base : Heap} {k : Nat} {x : Str} {st : Stmt} {f : Addr} {fd : FuncData} {ps : List Str} {sp : Sp}
    (F : Fun K x x st f fd) (ok : FnOk P w K mg base (L2.CX P w) k f fd ps sp) (hm : mg x = some (.ref f)) (hb : L2.Binds K fd ps []) : HasX P w K mg base k x ps sp := ⟨f, fd, ok, hm, F.kp, hb⟩

/-! ### what may be raised, by data -/
abbrev AX := Addr → List (Str × PyData) → AS → Prop
abbrev AStmX := AEnds → AX → AS → Prop
abbrev RPX := List PyData → (PyData → Prop) → (Addr → List (Str × PyData) → Prop) → Prop
def spX (K : PySem.W.Frag) (R : RPX) : Sp := fun vs H Q E => ∃ (B : List Addr) (ds : List PyData) (A : PyData → Prop) (X : Addr → List (Str × PyData) → Prop), Stands B H ∧ DvAll K H B vs ds ∧ R ds A X ∧ (∀ v d H', A d → Same H H' → Dv K H' B v d → Q v H') ∧
  ∀ D fs d H', X D fs → Same H H' → ErrAt K H' B d fs → E (.ref D) d H'
section
variable (K : PySem.W.Frag) (Δ : DK)
def RSX (W : WX) (t : TS) (a : AStmX) : Prop := ∀ (C : Cy) (B : List Addr) (σ : L2.St) (H : Hp) (s : AS) (D : Ends) (A : AEnds) (X : AX), En K Δ C B σ H s → a A X s →
  (∀ B' σ' H' s', A.nx s' → Go B H B' H' → En K Δ C B' σ' H' s' → D.nx σ' H') → (∀ v d H' s', A.rt d s' → Rt K Δ C H' s' v d → D.rt v H') →
  (∀ D' fs d B' σ' H' s', X D' fs s' → Go B H B' H' → En K Δ C B' σ' H' s' → ErrAt K H' B' d fs → W (.ref D') d σ' H') → t D σ H
end
section
variable {K : PySem.W.Frag} {Δ : DK} {W : WX}
theorem rsx_of {t : TS} {a : AStm} (h : RS K Δ t a) : RSX K Δ W t (fun A _ s => a A s) := fun C B σ H s D A X E ha qn qr _ => h C B σ H s D A E ha qn qr
theorem rsx_seq {t u : TS} {a b : AStmX} (h1 : RSX K Δ W t a) (h2 : RSX K Δ W u b) : RSX K Δ W (tSeq t u) (fun A X s => a ⟨fun s' => b A X s', A.rt⟩ X s) := by
  intro C B σ H s D A X E h qn qr qx
  refine h1 C B σ H s _ ⟨fun s' => b A X s', A.rt⟩ X E h (fun B' σ' H' s' a g E' => ?_) qr qx
  exact h2 C B' σ' H' s' D A X E' a (fun B2 σ2 H2 s2 a2 g2 E2 => qn B2 σ2 H2 s2 a2 (g.trans g2) E2) qr fun D' fs d B2 σ2 H2 s2 a2 g2 E2 er => qx D' fs d B2 σ2 H2 s2 a2 (g.trans g2) E2 er
theorem rsx_if {tc : TT} {ac : AT} {t u : TS} {a b : AStmX} (hc : RT K Δ tc ac) (h1 : RSX K Δ W t a) (h2 : RSX K Δ W u b) : RSX K Δ W (tIfS tc t u) (fun A X s => ac s fun k s1 => if k = true then a A X s1 else b A X s1) := by
  intro C B σ H s D A X E h qn qr qx
  refine hc C B σ H s _ _ E h fun k H1 s1 a1 m1 E1 => ?_
  have g := Go.of_mv (m1.up E.sub)
  cases k with
  | true =>
    rw [if_pos rfl] at a1 ⊢
    exact h1 C B σ H1 s1 D A X E1 a1 (fun B2 σ2 H2 s2 a2 g2 E2 => qn B2 σ2 H2 s2 a2 (g.trans g2) E2) qr fun D' fs d B2 σ2 H2 s2 a2 g2 E2 er => qx D' fs d B2 σ2 H2 s2 a2 (g.trans g2) E2 er
  | false =>
    rw [if_neg Bool.false_ne_true] at a1 ⊢
    exact h2 C B σ H1 s1 D A X E1 a1 (fun B2 σ2 H2 s2 a2 g2 E2 => qn B2 σ2 H2 s2 a2 (g.trans g2) E2) qr fun D' fs d B2 σ2 H2 s2 a2 g2 E2 er => qx D' fs d B2 σ2 H2 s2 a2 (g.trans g2) E2 er
theorem rsx_for {wi : TI} {ai : AI} {g : TG} {ga : AG} {is : List Nat} {t : TS} {ab : AStmX} (hi : RI K Δ wi ai) (hg : RG K Δ g ga is) (hb : RSX K Δ W t ab) :
    RSX K Δ W (tFor wi g t) (fun A X s => ai s fun xs s1 => ∃ W : Nat → AS → Prop, W 0 s1 ∧ (∀ i x s, xs[i]? = some x → W i s → ga x s fun s' => ab ⟨W (i + 1), A.rt⟩ X s') ∧ ∀ s, W xs.length s → A.nx s) := by
  intro C B σ H s D A X E h qn qr qx
  refine hi C B σ H s _ _ E h fun J xs H1 s1 a1 m1 E1 itd => ?_
  obtain ⟨Wa, w0, turn, done⟩ := a1
  refine ⟨fun i m σ H => m = xs.length - i ∧ i ≤ xs.length ∧ ∃ B' s', Wa i s' ∧ Go B H1 B' H ∧ En K Δ C B' σ H s', ⟨xs.length, (Nat.sub_zero _).symm, Nat.zero_le _, B, s1, w0, .refl _ _, E1⟩, ?_⟩
  rintro i m σ2 H2 ⟨rfl, hi, B2, s2, w2, g2, E2⟩
  by_cases hlt : i < xs.length
  · obtain ⟨go, yld⟩ := (itd _ _ g2 E2.st).1 i xs[i] (List.getElem?_eq_getElem hlt)
    refine .inr ⟨go, fun σ' H' => ∃ B' s', Wa (i + 1) s' ∧ Go B H1 B' H' ∧ En K Δ C B' σ' H' s', fun σ' H' z => ⟨xs.length - (i + 1), by omega, rfl, hlt, z⟩, fun x H' y => ?_⟩
    obtain ⟨sm, dx⟩ := yld x H' y
    refine hg C B2 σ2 H' s2 x _ _ _ (E2.same sm) dx (turn i xs[i] s2 (List.getElem?_eq_getElem hlt) w2) fun σ5 s5 a5 E5 _ => ?_
    exact hb C B2 σ5 H' s5 _ ⟨Wa (i + 1), A.rt⟩ X E5 a5 (fun B6 σ6 H6 s6 a6 g6 E6 => ⟨B6, s6, a6, (g2.trans (.of_mv (.of_same sm))).trans g6, E6⟩) qr
      fun D' fs d B6 σ6 H6 s6 a6 g6 E6 er => qx D' fs d B6 σ6 H6 s6 a6 (((Go.of_mv (m1.up E.sub)).trans (g2.trans (.of_mv (.of_same sm)))).trans g6) E6 er
  · have e : i = xs.length := by omega
    subst e
    exact .inl ⟨(itd _ _ g2 E2.st).2, qn B2 σ2 H2 s2 (done s2 w2) ((Go.of_mv (m1.up E.sub)).trans g2) E2⟩
/-! a def that may raise, called -/
theorem callX {R : RPX} {ta : TA} {aa : AA} (h1 : RA K Δ ta aa) {C : Cy} {B : List Addr} {σ : L2.St} {H : Hp} {s : AS} {Q : VK} {A : PyData → AS → Prop} {X : AX} (E : En K Δ C B σ H s) (h : aa s fun ds s1 => R ds (fun d => A d s1) fun D fs => X D fs s1)
    (q : ∀ v d H' s', A d s' → Mx Δ.w C.as H H' → En K Δ C B σ H' s' → Dv K H' B v d → Q v H') (qx : ∀ D fs d H' s', X D fs s' → Mx Δ.w C.as H H' → En K Δ C B σ H' s' → ErrAt K H' B d fs → W (.ref D) d σ H') : tCallS (spX K R) (WE W) ta σ H Q := by
  refine h1 C B σ H s _ _ E h fun vs ds H1 s1 a1 m1 E1 dv => ?_
  exact ⟨B, ds, _, _, E1.st, dv, a1, fun v d H' a sm dv' => q v d H' s1 a (m1.trans (.of_same sm)) (E1.same sm) dv', fun D fs d H' x sm er => qx D fs d H' s1 x (m1.trans (.of_same sm)) (E1.same sm) er⟩
theorem rsx_asgX {R : RPX} {ta : TA} {aa : AA} {g : TG} {ag : AG} {is : List Nat} (h1 : RA K Δ ta aa) (h2 : RG K Δ g ag is) : RSX K Δ W (tAsg (tCallS (spX K R) (WE W) ta) g) (fun A X s => aa s fun ds s1 => R ds (fun d => ag d s1 A.nx) fun D fs => X D fs s1) := by
  intro C B σ H s D A X E h qn qr qx
  refine callX (A := fun d s1 => ag d s1 A.nx) h1 E h (fun v d H1 s1 a1 m1 E1 dv => ?_) fun D fs d H' s' x m E' er => qx D fs d B σ H' s' x (.of_mv (m.up E.sub)) E' er
  exact h2 C B σ H1 s1 _ _ _ _ E1 dv a1 fun σ2 s2 a2 E2 _ => qn B σ2 H1 s2 a2 (.of_mv (m1.up E.sub)) E2
theorem rsx_dropX {R : RPX} {ta : TA} {aa : AA} (h1 : RA K Δ ta aa) : RSX K Δ W (tDrop (tCallS (spX K R) (WE W) ta)) (fun A X s => aa s fun ds s1 => R ds (fun _ => A.nx s1) fun D fs => X D fs s1) := by
  intro C B σ H s D A X E h qn qr qx
  exact callX (A := fun _ s1 => A.nx s1) h1 E h (fun v d H1 s1 a1 m1 E1 dv => qn B σ H1 s1 a1 (.of_mv (m1.up E.sub)) E1) fun D fs d H' s' x m E' er => qx D fs d B σ H' s' x (.of_mv (m.up E.sub)) E' er
theorem rsx_retX {R : RPX} {ta : TA} {aa : AA} (h1 : RA K Δ ta aa) : RSX K Δ W (tRet (tCallS (spX K R) (WE W) ta)) (fun A X s => aa s fun ds s1 => R ds (fun d => A.rt d s1) fun D fs => X D fs s1) := by
  intro C B σ H s D A X E h qn qr qx
  exact callX (A := fun d s1 => A.rt d s1) h1 E h (fun v d H1 s1 a1 m1 E1 dv => qr v d H1 s1 a1 ⟨Dv.anti E1.bc _ _ dv, E1.dk, E1.mw⟩) fun D fs d H' s' x m E' er => qx D fs d B σ H' s' x (.of_mv (m.up E.sub)) E' er
/-- raise E(x) -/
def tRaiseO (K : PySem.W.Frag) (Cc : Addr) (fld : Str) (ta : TA) (W : WX) : TS := fun _ σ H => tMkO Cc (spInit K fld) [] ta σ H fun cls d H' => W cls d σ H'
theorem kps_raise {X : Cx} {W : WX} {x fld : Str} {C : Addr} {e : Expr} {ta : TA} {p pos pos2 : Pos} {k : Nat} (K : PySem.W.Frag) (hc : X.calm = true) (tk : Takes X W) (T : ErrC X.prog X.w X.K X.mg X.base x fld C) (hr : Room k X.A) (hk : 2 ≤ k) (hg : Gl X x) (ha : PA X [e] ta)
    (hK : X.K = K := by rfl) (hdb : (x == ("__debug__" : Str)) = false := by decide) (he : starEach [e] X.env = (false, eval e X.env) :: starEach [] X.env := by rfl) (hpl : (backTo pos (starEach [] X.env)).any (·.1) = false := by rfl) :
    PS X (.Raise (some (.Call (.Name x p) [e] [] pos)) none pos2) (tRaiseO K C fld ta W) := by
  subst hK
  exact ps_raise hc tk (pmk_err T hr hk hg ha hdb he hpl)
theorem rsx_raise {Cc : Addr} {fld : Str} {ta : TA} {aa : AA} (T : OexC K Cc) (no : PySem.W.findIn K (.ref Cc) fld = some none) (h1 : RA K Δ ta aa) :
    RSX K Δ W (tRaiseO K Cc fld ta W) (fun A X s => aa s fun ds s1 => ∃ d, ds = [d] ∧ X Cc [(fld, d)] s1) := by
  intro C B σ H s D A X E h qn qr qx
  refine h1 C B σ H s _ _ E h fun vs ds H1 s1 a1 m1 E1 dv => ?_
  obtain ⟨d, e, x⟩ := a1
  subst e
  obtain ⟨v, ev, dvv⟩ := dv.one
  subst ev
  exact mk_bad (Q := fun cls d H' => W cls d σ H') T no fun dd H' sm nd hd => qx Cc _ (some dd) B σ H' s1 x ((Go.of_mv (m1.up E.sub)).trans (.of_mv (.of_same sm))) (E1.same sm) (.inr ⟨dd, [(fld, v)], rfl, hd, rfl, .cons (dvv.same sm) .nil⟩)
/-- try: body; except S: suite -/
def tTryO (K : PySem.W.Frag) (tb : WX → TS) (c : Value) (ts : Addr → Value → Option Addr → TS) (Wout : WX) : TS := fun D σ H => tb (wOnly K c ts Wout D) D σ H
theorem rs_tryOnly {S : Addr} {tb : WX → TS} {ab : AStmX} {ts : Addr → Value → Option Addr → TS} {as_ : AStm} {Wout : WX} (hb : ∀ W, RSX K Δ W (tb W) ab) (hs : ∀ a cls d, RS K Δ (ts a cls d) as_) :
    RS K Δ (tTryO K tb (.ref S) ts Wout) (fun A s => ab A (fun C _ s' => PySem.W.exmOne K (.ref C) (.ref S) = some true ∧ as_ A s') s) := by
  intro C B σ H s D A E h qn qr
  refine hb _ C B σ H s D A _ E h qn qr fun D' fs d B' σ' H' s' hx g E' er => ⟨true, hx.1, fun _ a ha => ?_, fun z => nomatch z⟩
  exact hs a _ d C B' σ' H' s' D A E' hx.2 (fun B2 σ2 H2 s2 a2 g2 E2 => qn B2 σ2 H2 s2 a2 (g.trans g2) E2) qr
theorem goX {R : RPX} {vs : List V} {H : Hp} {Q : VK} {E : XK} {N : List Str} {t : TS} {a : AStmX} (hw : Δ.w = false) (h : spX K R vs H Q E) (rs : RSX K Δ (fun cls d _ H' => E cls d H') t a)
    (hb : ∀ ds A X, R ds A X → a ⟨fun _ => A .none, fun d _ => A d⟩ (fun D fs _ => X D fs) (startP N ds)) : t { nx := fun _ H' => Q .non H', rt := Q } (L2.start N vs) H := by
  obtain ⟨B, ds, A, X, st, dv, r, q, qx⟩ := h
  refine rs ⟨0, [], B, H, st⟩ B _ H (startP N ds) _ ⟨fun _ => A .none, fun d _ => A d⟩ (fun D fs _ => X D fs) ?_ (hb ds A X r) (fun B' σ' H' s' a' g E' => q _ _ _ a' (mx_nil hw E'.mw) .non) (fun v d H' s' a' rt => q _ _ _ a' (mx_nil hw rt.mw) rt.dv)
    fun D' fs d B' σ' H' s' x g E' er => qx D' fs d H' x (mx_nil hw E'.mw) (er.anti E'.bc)
  refine ⟨?_, fun i d h => start_dat (N := N) dv _ h _, fun i h => ?_, fun i a D d fs h => absurd h (start_noe _ _ _ _ _), ⟨fun _ => 0, fun i es h ho => ?_, fun i j d1 d2 h _ ho => ?_⟩, st, fun a ha => absurd ha List.not_mem_nil, fun b hb => hb, fun k hk => ?_, .refl _ _⟩
  · show (vs.map some ++ List.replicate (N.length - vs.length) none).length = (ds.map Sl.dat ++ List.replicate (N.length - ds.length) Sl.free).length
    rw [List.length_append, List.length_append, List.length_map, List.length_map, List.length_replicate, List.length_replicate, dv.len]
  · rcases start_not _ h with z | ⟨d, z⟩ <;> first | (subst z; cases ho) | cases z
  · rcases start_not _ h with z | ⟨d, z⟩ <;> first | (subst z; cases ho) | cases z
  · rcases start_not _ h with z | ⟨d, z⟩ <;> first | (subst z; cases ho) | cases z
  · cases hk
theorem lenX {R : RPX} {vs : List V} {H : Hp} {Q : VK} {E : XK} {n : Nat} (h : spX K R vs H Q E) (hl : ∀ ds A X, R ds A X → ds.length = n) : vs.length = n := by
  obtain ⟨B, ds, A, X, st, dv, r, q⟩ := h
  rw [dv.len]
  exact hl ds A X r
end
section
variable {X : Cx} {x : Str} {c : Value} {body suite : List Stmt} {b₀ : Stmt} {np pos pos' : Pos} {tb : WX → TS} {ts : Addr → Value → Option Addr → TS} {Wout : WX}
theorem kps_tryO (K : PySem.W.Frag) (hs : X.stack = X.env :: X.outer) (hf : X.env.frame = some X.env.locals) (hc : Names X x c) (tk : Takes X Wout)
    (hb : ∀ (W : WX) (pn : List (Addr × Obj)) (xe : Value → Shared → Prop), Takes (X.tr pn xe) W → PassesOwn (model X.prog X.w) X.A X.env xe → PSs (X.tr pn xe) body (tb W))
    (hsu : ∀ (a : Addr) (oe : Obj) (cls : Value) (d : Option Addr) (pn : List (Addr × Obj)), Zc cls d oe → (∃ vs, oe.data = .fields vs) → PSs (X.suite a ((a, oe) :: pn)) (b₀ :: suite) (ts a cls d)) (hK : X.K = K := by rfl) :
    PS X (.Try body [.ExceptHandler (some (.Name x np)) none (b₀ :: suite) pos'] [] [] pos) (tTryO K tb c ts Wout) := by
  subst hK
  exact ps_try_only hs hf hc tk hb hsu
end
/-! plans checked: any value -/
def RCheckX (CP : Addr) : RPX := fun ds A X => ∃ (xs : List PyData) (d : PyData), ds = [.tuple xs, d] ∧ (FinePl xs.length d → A .none) ∧ (¬ FinePl xs.length d → ∀ i, X CP [("index", i)])
def RAfterX (CP : Addr) : RPX := fun ds A X => ∃ (m : Int) (tls : List (List (Int × Int))) (d : PyData) (ps : List Int), ds = [.int m, toolsD tls, d, tupD ps] ∧ (∀ t ∈ tls, IsTool m t) ∧ tls.length ≤ 1000 ∧ 1 ≤ m ∧ m ≤ 60 ∧ Places m ps ∧
  (∀ pl, d = planD pl → FinePlan tls.length pl → A (tupD (imgP m (planF m tls pl) ps))) ∧ (¬ FinePl tls.length d → ∀ i, X CP [("index", i)])
theorem pushOk_iff {n : Nat} {d : PyData} : pushOk n d = true ↔ ∃ p : Int × Nat, d = pushD p ∧ p.1.natAbs < 10 ^ 30 ∧ p.2 < n := by
  constructor
  · intro h
    unfold pushOk at h
    split at h
    · rename_i a b
      rw [Bool.and_eq_true] at h
      obtain ⟨t, e1, h1, h2⟩ := numIn_int h.1
      obtain ⟨i, e2, hi⟩ := idx_num.mp h.2
      subst e1 e2
      have b30 : (10 : Nat) ^ 30 = 1000000000000000000000000000000 := by decide
      exact ⟨(t, i), rfl, by show t.natAbs < _; omega, hi⟩
    · cases h
  · rintro ⟨p, e, h1, h2⟩
    subst e
    exact pushOk_of h1 h2
theorem fine_of_items {n : Nat} : ∀ {ds : List PyData}, (∀ x ∈ ds, pushOk n x = true) → ∃ pl : List (Int × Nat), ds = pl.map pushD ∧ ∀ p ∈ pl, p.1.natAbs < 10 ^ 30 ∧ p.2 < n
  | [], _ => ⟨[], rfl, fun p hp => (List.not_mem_nil hp).elim⟩
  | x :: r, h => by
    obtain ⟨p, e, hp⟩ := pushOk_iff.mp (h x List.mem_cons_self)
    obtain ⟨pl, e2, hpl⟩ := fine_of_items fun y hy => h y (List.mem_cons_of_mem _ hy)
    refine ⟨p :: pl, by rw [e, e2]; rfl, fun q hq => ?_⟩
    rcases List.mem_cons.mp hq with z | z
    · rw [z]
      exact hp
    · exact hpl q z
theorem not_fine_push {n : Nat} {ds : List PyData} {i : Nat} {x : PyData} (hx : ds[i]? = some x) (h : pushOk n x = false) : ¬ FinePl n (.tuple ds) :=
  not_fine_item hx fun p e hp => by
    rw [pushOk_iff.mpr ⟨p, e, hp⟩] at h
    cases h

/-! ### lengths, goals and sets compared -/
theorem spread_sub {m v v' : Int} {ps qs : List Int} (h : IsSpread m ps v) (h' : IsSpread m qs v') (sub : ∀ x ∈ qs, x ∈ ps) : v' ≤ v := by
  obtain ⟨b, b0, b1, hb⟩ := h.holds
  obtain ⟨p, hp, e⟩ := h'.least b b0 b1
  have := hb p (sub p hp)
  omega
theorem few_le {xs : List Int} {v y : Int} {t : Nat} (h : xs[t]? = some y) (hv : v ≤ y) : ∃ t' : Nat, t' ≤ t ∧ fewD xs v = .int (t' : Nat) := by
  rcases few_cases xs v with ⟨ef, hall⟩ | ⟨t', y', ef, ht, hv'⟩
  · have := hall y (List.mem_of_getElem? h)
    omega
  · refine ⟨t', ?_, ef⟩
    by_cases c : t' ≤ t
    · exact c
    · exfalso
      unfold fewD at ef
      split at ef
      · rename_i t2 h2
        have e2 : t2 = t' := by
          have := PyData.int.inj ef
          omega
        subst e2
        rw [List.findIdx?_eq_some_iff_getElem] at h2
        obtain ⟨h1, _, h3⟩ := h2
        have := h3 t (by omega)
        rw [(List.getElem?_eq_some_iff.mp h).2] at this
        exact this (decide_eq_true hv)
      · cases ef
/-- so many widths, one of the other -/
inductive WIter (m : Int) (tls : List (List (Int × Int))) (g : Int) : Nat → Int → Prop
  | zero : WIter m tls g 0 g
  | succ {t : Nat} {v w : Int} : WIter m tls g t v → IsWidth m tls v w → WIter m tls g (t + 1) w
theorem WIter.uniq {m g : Int} {tls : List (List (Int × Int))} {t : Nat} {a b : Int} (h : WIter m tls g t a) (h' : WIter m tls g t b) : a = b := by
  induction h generalizing b with
  | zero =>
    cases h'
    rfl
  | succ h1 w ih =>
    cases h' with
    | succ h2 w2 =>
      have := ih h2
      subst this
      exact w.uniq w2
theorem WIter.mono {m g g' : Int} {tls tls' : List (List (Int × Int))} (hg : g ≤ g') (hw : ∀ l l' w w', l ≤ l' → IsWidth m tls l w → IsWidth m tls' l' w' → w ≤ w') {t : Nat} {a b : Int} (h : WIter m tls g t a) (h' : WIter m tls' g' t b) : a ≤ b := by
  induction h generalizing b with
  | zero =>
    cases h'
    exact hg
  | succ h1 w ih =>
    cases h' with
    | succ h2 w2 => exact hw _ _ _ _ (ih h2) w w2
theorem path_iter {m : Int} {tls : List (List (Int × Int))} {g x : Int} {xs : List Int} (h : Path m tls g xs x) : ∀ (t : Nat) (v : Int), xs[t]? = some v → WIter m tls g t v := by
  induction h with
  | one =>
    intro t v e
    match t, e with
    | 0, e =>
      cases e
      exact .zero
  | more hp hw ne ih =>
    intro t v e
    rename_i xs x w
    obtain ⟨ys, ey⟩ := hp.last
    by_cases lt : t < xs.length
    · rw [List.getElem?_append_left lt] at e
      exact ih t v e
    · rw [List.getElem?_append_right (by omega)] at e
      have t0 : t - xs.length = 0 := by
        have := (List.getElem?_eq_some_iff.mp e).1
        rw [List.length_singleton] at this
        omega
      rw [t0] at e
      cases e
      have el : xs.length = ys.length + 1 := by rw [ey, List.length_append]; rfl
      have e2 : xs[ys.length]? = some x := by
        rw [ey, List.getElem?_append_right (Nat.le_refl _), Nat.sub_self]
        rfl
      have := WIter.succ (ih _ _ e2) hw
      rw [show t = ys.length + 1 by omega]
      exact this
theorem iter_stays {m : Int} {tls : List (List (Int × Int))} {g x : Int} {t : Nat} (h : WIter m tls g t x) (w : IsWidth m tls x x) : ∀ n : Nat, WIter m tls g (t + n) x
  | 0 => h
  | n + 1 => .succ (iter_stays h w n) w
theorem path_end {m : Int} {tls : List (List (Int × Int))} {g x : Int} {xs : List Int} (h : Path m tls g xs x) : 0 < xs.length ∧ xs[xs.length - 1]? = some x := by
  obtain ⟨ys, ey⟩ := h.last
  have el : xs.length = ys.length + 1 := by rw [ey, List.length_append]; rfl
  refine ⟨by omega, ?_⟩
  rw [el, ey, Nat.add_sub_cancel, List.getElem?_append_right (Nat.le_refl _), Nat.sub_self]
  rfl
/-- every number of turns has its length -/
theorem path_all {m : Int} {tls : List (List (Int × Int))} {g x : Int} {xs : List Int} (h : Path m tls g xs x) (w : IsWidth m tls x x) (t : Nat) : ∃ y, WIter m tls g t y ∧ ((t < xs.length ∧ xs[t]? = some y) ∨ (xs.length ≤ t ∧ y = x)) := by
  by_cases lt : t < xs.length
  · exact ⟨xs[t], path_iter h t _ (List.getElem?_eq_getElem lt), .inl ⟨lt, List.getElem?_eq_getElem lt⟩⟩
  · obtain ⟨h0, he⟩ := path_end h
    have := iter_stays (path_iter h _ _ he) w (t - (xs.length - 1))
    rw [show xs.length - 1 + (t - (xs.length - 1)) = t by omega] at this
    exact ⟨x, this, .inr ⟨by omega, rfl⟩⟩
theorem few_iter {m : Int} {tls : List (List (Int × Int))} {g x v y : Int} {xs : List Int} (h : Path m tls g xs x) (w : IsWidth m tls x x) {t : Nat} (hi : WIter m tls g t y) (hv : v ≤ y) : ∃ t' : Nat, t' ≤ t ∧ fewD xs v = .int (t' : Nat) := by
  obtain ⟨y', hy, c⟩ := path_all h w t
  have e := hi.uniq hy
  subst e
  rcases c with ⟨_, hx⟩ | ⟨hl, e⟩
  · exact few_le hx hv
  · subst e
    obtain ⟨h0, he⟩ := path_end h
    obtain ⟨t', ht, ef⟩ := few_le he hv
    exact ⟨t', by omega, ef⟩
/-- greater lengths need no more pushes -/
theorem few_mono {m : Int} {tls tls' : List (List (Int × Int))} {g g' x x' v v' : Int} {xs xs' : List Int} (h : Path m tls g xs x) (h' : Path m tls' g' xs' x') (w' : IsWidth m tls' x' x') (hg : g ≤ g') (hv : v' ≤ v)
    (hw : ∀ l l' w w', l ≤ l' → IsWidth m tls l w → IsWidth m tls' l' w' → w ≤ w') : atMost (fewD xs' v') (fewD xs v) = true := by
  rcases few_cases xs v with ⟨ef, _⟩ | ⟨t, y, ef, ht, hy⟩
  · rw [ef]
    cases fewD xs' v' <;> rfl
  · obtain ⟨y', hi, _⟩ := path_all h' w' t
    have hle := WIter.mono hg hw (path_iter h t y ht) hi
    obtain ⟨t', hle', ef'⟩ := few_iter h' w' hi (v := v') (by omega)
    rw [ef, ef']
    show decide (((t' : Nat) : Int) ≤ ((t : Nat) : Int)) = true
    exact decide_eq_true (by omega)
theorem few_kind (xs : List Int) (v : Int) : fewD xs v = .none ∨ ∃ n, fewD xs v = .int n := by
  rcases few_cases xs v with ⟨ef, _⟩ | ⟨t, y, ef, ht, hy⟩
  · exact .inl ef
  · exact .inr ⟨_, ef⟩
theorem path_first {m : Int} {tls : List (List (Int × Int))} {g x : Int} {xs : List Int} (h : Path m tls g xs x) : xs[0]? = some g := by
  obtain ⟨r0, er0⟩ := h.head
  rw [er0]
  rfl
theorem few_zero {m : Int} {tls : List (List (Int × Int))} {g x v : Int} {xs : List Int} (h : Path m tls g xs x) : fewD xs v = .int 0 ↔ v ≤ g := by
  have h0 := path_first h
  constructor
  · intro e
    rcases few_cases xs v with ⟨ef, _⟩ | ⟨t, y, ef, ht, hy⟩
    · rw [ef] at e
      cases e
    · rw [ef] at e
      have : t = 0 := by
        have := PyData.int.inj e
        omega
      subst this
      rw [h0] at ht
      cases ht
      exact hy
  · intro hv
    obtain ⟨t, ht, ef⟩ := few_le h0 hv
    have : t = 0 := by omega
    subst this
    exact ef
theorem eqv_kind {d : PyData} (h : d = .none ∨ ∃ n, d = .int n) : PyData.eqv d d = true ∧ SeqAt.shaped d = true := by
  rcases h with e | ⟨n, e⟩
  · subst e
    exact ⟨rfl, rfl⟩
  · subst e
    refine ⟨?_, rfl⟩
    show decide (n = n) = true
    exact decide_eq_true rfl
theorem shaped_tupI {ns : List Int} : SeqAt.shaped (tupD ns) = true := by
  obtain ⟨h1, h2⟩ := shaped_flat ns
  unfold SeqAt.shaped tupD
  rw [show (PyData.tuple (ns.map PyData.int)).canLay0 = PyData.canLayAll0 (ns.map PyData.int) from rfl, h1, show (PyData.tuple (ns.map PyData.int)).depth = PyData.depthAll (ns.map PyData.int) + 1 from rfl, h2]
  rfl
theorem eqv_nilT (l : List PyData) : PyData.eqv (.tuple l) (.tuple []) = l.isEmpty := by
  cases l <;> rfl
def isZero : PyData → Bool
  | .int n => decide (n = 0)
  | _ => false
theorem eq_zero {d : PyData} {s : AS} {A : PyData → AS → Prop} (h : d = .none ∨ ∃ n, d = .int n) (a : A (.bool (isZero d)) s) : aEq false d (.int 0) s A := by
  rcases h with e | ⟨n, e⟩
  · subst e
    exact .inr (.inr (.inr ⟨0, rfl, rfl, a⟩))
  · subst e
    refine .inl ⟨n, 0, rfl, rfl, ?_⟩
    rw [Bool.false_xor]
    exact a
theorem few_isZero {m : Int} {tls : List (List (Int × Int))} {g x v : Int} {xs : List Int} (h : Path m tls g xs x) : isZero (fewD xs v) = decide (v ≤ g) := by
  have := few_zero (v := v) h
  by_cases c : v ≤ g
  · rw [this.mpr c, decide_eq_true c]
    rfl
  · rw [decide_eq_false c]
    rcases few_kind xs v with e | ⟨n, e⟩
    · rw [e]
      rfl
    · rw [e] at this ⊢
      show decide (n = 0) = false
      refine decide_eq_false fun z => c (this.mp (by rw [z]))
theorem slice_to {ns : List Int} {k : Nat} : sliceD none (some ((k : Nat) : Int)) (tupD ns) = tupD (ns.take k) := by
  show PyData.tuple (cutD (ns.map .int) none (some ((k : Nat) : Int))) = _
  rw [cutD_to, ← List.map_take]
  rfl
/-- a smaller set goes where the greater one goes -/
theorem img_sub {m : Int} {f : Int → Int} {ps qs : List Int} (sub : ∀ x ∈ qs, x ∈ ps) : ∀ y ∈ imgP m f qs, y ∈ imgP m f ps := by
  intro y hy
  unfold imgP at hy ⊢
  rw [List.mem_filter, decide_eq_true_eq, List.mem_map] at hy ⊢
  obtain ⟨h1, x, hx, e⟩ := hy
  exact ⟨h1, x, sub x hx, e⟩
theorem exists_spread {m : Int} {ps : List Int} (hm : 1 ≤ m) (pp : Places m ps) (ne : ps ≠ []) : ∃ v, IsSpread m ps v := by
  have far : ∀ b : Int, ∃ w, FarP m ps b w := fun b => by
    obtain ⟨p, hp, h⟩ := least_at (fun p => -((p - b) % m)) ne
    refine ⟨1 + (p - b) % m, ⟨p, hp, rfl⟩, fun q hq => ?_⟩
    have := h q hq
    omega
  obtain ⟨b, hb, h⟩ := least_at (fun b => (far b).choose) ne
  have hw := (far b).choose_spec
  refine ⟨(far b).choose, spread_far (ws := ps.map fun b => (far b).choose) hm pp ne (List.length_map _) (fun j x w hj hwj => ?_) (List.mem_map_of_mem (f := fun b => (far b).choose) hb) fun y hy => ?_⟩
  · rw [List.getElem?_map, hj] at hwj
    have e : (far x).choose = w := Option.some.inj hwj
    rw [← e]
    exact (far x).choose_spec
  · obtain ⟨x, hx, e⟩ := List.mem_map.mp hy
    rw [← e]
    exact h x hx
theorem turned_places {m f : Int} {ps ns : List Int} (hm : 1 ≤ m) (pp : Places m ps) (pn : ns.Perm (ps.map fun p => (p + f) % m)) (srt : ns.Pairwise (· ≤ ·)) : Places m ns ∧ ∀ v, IsSpread m ps v → IsSpread m ns v := by
  have nd0 : ps.Nodup := by
    refine pp.asc.imp fun {a b} h => by omega
  have nd : ns.Nodup := pn.nodup_iff.mpr (turn_nodup (by omega) nd0 pp.rng)
  refine ⟨⟨lt_of_le_nodup srt nd, fun x hx => ?_⟩, fun v hv => hv.turn (by_ := f) (by omega) fun y => ?_⟩
  · obtain ⟨p, _, e⟩ := List.mem_map.mp (pn.mem_iff.mp hx)
    rw [← e]
    exact mod_at hm
  · rw [pn.mem_iff, List.mem_map]
    constructor
    · rintro ⟨p, hp, e⟩
      exact ⟨p, hp, e.symm⟩
    · rintro ⟨p, hp, e⟩
      exact ⟨p, hp, e.symm⟩
def rTupU (K : PySem.W.Frag) : List V → Hp → VK → Prop := fun xs H Q => ∃ p ys, xs = [.ref p] ∧ ((SqL K H p ys ∧ ∀ l, H l = none → Q (.ref l) (upd H l (.tup ys))) ∨ (SqT K H p ys ∧ Q (.ref p) H))
theorem ktupU {X : Cx} (K : PySem.W.Frag) (hK : X.K = K := by rfl) : CallR X (.type "tuple") (rTupU K) := by
  subst hK
  exact call_tuple_of
theorem rc_tupU {K : PySem.W.Frag} {Δ : DK} : RC' K Δ (rTupU K) (fun ds s A => ∃ d xs, ds = [d] ∧ itemsOf d = some xs ∧ A (.tuple xs) s) := by
  intro C B σ H s vs ds Q A E dv h q
  obtain ⟨d, xs, e, ei, a⟩ := h
  subst e
  obtain ⟨v, ev, d1⟩ := dv.one
  rcases items_cases ei with z | z
  · subst z
    obtain ⟨p, us, ep, hp, _, hd⟩ := d1.lstI
    subst ev ep
    refine ⟨p, us, rfl, .inl ⟨SqL.of hp, fun l nl => ?_⟩⟩
    obtain ⟨sm, dv⟩ := new_tup nl hd
    exact q _ _ _ a sm dv
  · subst z
    have d2 := d1
    obtain ⟨p, us, ep, hp, hd⟩ := d1.tupI
    subst ev ep
    exact ⟨p, us, rfl, .inr ⟨hp, q _ _ _ a (Same.refl _) d2⟩⟩
/-! ### several tools -/
theorem cnt_le_len {m b l l' : Int} {t : List (Int × Int)} (h : l ≤ l') : cnt m t b l ≤ cnt m t b l' := by
  rw [← cnt_len, ← cnt_len]
  have : ((((upto m).map (tgt t)).filter fun y => decide ((y - b) % m < l)).length) ≤ ((((upto m).map (tgt t)).filter fun y => decide ((y - b) % m < l')).length) := by
    rw [← List.countP_eq_length_filter, ← List.countP_eq_length_filter]
    refine List.countP_mono_left fun x _ hx => ?_
    have := of_decide_eq_true hx
    exact decide_eq_true (by omega)
  omega
theorem width_more {m : Int} {tls tls' : List (List (Int × Int))} (sub : ∀ t ∈ tls, t ∈ tls') : ∀ l l' w w', l ≤ l' → IsWidth m tls l w → IsWidth m tls' l' w' → w ≤ w' := by
  intro l l' w w' h h1 h2
  obtain ⟨t, ht, b, b0, b1, e⟩ := h1.got
  have := h2.all t (sub t ht) b b0 b1
  have := cnt_le_len (m := m) (b := b) (t := t) h
  omega
theorem few_same {m g x x' v : Int} {tls tls' : List (List (Int × Int))} {xs xs' : List Int} (g1 : 1 ≤ g) (gm : g ≤ m) (h : Path m tls g xs x) (w : IsWidth m tls x x) (h' : Path m tls' g xs' x') (w' : IsWidth m tls' x' x') (s1 : ∀ t ∈ tls, t ∈ tls') (s2 : ∀ t ∈ tls', t ∈ tls) : fewD xs' v = fewD xs v := by
  have sw : SameW m tls tls' := sameW_of (cntIn_self s1) (cntIn_self s2)
  have p2 := h.same sw g1 gm
  have r := h.rng g1 gm
  have w2 := sw x x r.1 r.2.1 w
  rw [Chain.uniq (h'.done w') (p2.done w2)]
theorem planF_more {m : Int} {tls : List (List (Int × Int))} {t : List (Int × Int)} {pl : List (Int × Nat)} (ok : OkPlan tls.length pl) : planF m (tls ++ [t]) pl = planF m tls pl := by
  funext x
  unfold planF
  have : ∀ (pl : List (Int × Nat)) (y : Int), OkPlan tls.length pl → pl.foldl (stepF m (tls ++ [t])) y = pl.foldl (stepF m tls) y := by
    intro pl
    induction pl with
    | nil => exact fun y _ => rfl
    | cons p r ih =>
      intro y ok
      rw [List.foldl_cons, List.foldl_cons]
      have e : stepF m (tls ++ [t]) y p = stepF m tls y p := by
        unfold stepF
        have := ok p List.mem_cons_self
        rw [List.getD_eq_getElem?_getD, List.getD_eq_getElem?_getD, List.getElem?_append_left this]
      rw [e]
      exact ih _ fun q hq => ok q (List.mem_cons_of_mem _ hq)
  exact this pl x ok
/-- the tool of one target -/
theorem cnt_alone {m c l : Int} (hm : 1 ≤ m) (hl : 1 ≤ l) : cnt m [(0, c)] c l = m := by
  rw [← cnt_len]
  have e : ((upto m).map (tgt [(0, c)])).filter (fun y => decide ((y - c) % m < l)) = (upto m).map (tgt [(0, c)]) := by
    rw [List.filter_eq_self]
    intro y hy
    obtain ⟨x, hx, e⟩ := List.mem_map.mp hy
    obtain ⟨bt, hb, eb⟩ := tgt_mem (tl := [(0, c)]) (List.cons_ne_nil _ _) x
    rw [List.mem_singleton.mp hb] at eb
    rw [← e, eb]
    show decide ((c - c) % m < l) = true
    rw [Int.sub_self, Int.zero_emod]
    exact decide_eq_true (by omega)
  rw [e, List.length_map, upto_len]
  omega
theorem few_alone {m g x v c : Int} {tls : List (List (Int × Int))} {ps xs : List Int} (hm : 1 ≤ m) (g1 : 1 ≤ g) (gm : g ≤ m) (c0 : 0 ≤ c) (c1 : c < m) (h : Path m tls g xs x) (w : IsWidth m tls x x) (hv : IsSpread m ps v) (ha : [(0, c)] ∈ tls) :
    fewD xs v = .int (if decide (g < v) = true then 1 else 0) := by
  by_cases hz : v ≤ g
  · rw [(few_zero h).mpr hz, decide_eq_false (by omega)]
    rfl
  · rw [decide_eq_true (by omega)]
    obtain ⟨y, hi, _⟩ := path_all h w 1
    have hy : v ≤ y := by
      cases hi with
      | succ h1 w1 =>
        cases h1
        have := w1.all _ ha c c0 c1
        rw [cnt_alone hm g1] at this
        have := hv.rng
        omega
    obtain ⟨t, ht, ef⟩ := few_iter h w hi hy
    rw [ef]
    have : t ≠ 0 := fun z => by
      subst z
      exact hz ((few_zero h).mp ef)
    have : t = 1 := by omega
    subst this
    rfl
/-- the tool that turns by one place -/
def rotT (n : Int) : List (Int × Int) := (List.range n.toNat).map fun i => (((i : Nat) : Int), (((i : Nat) : Int) + 1) % n)
theorem rot_tool {n : Int} (h2 : 2 ≤ n) (h12 : n ≤ 12) : IsTool n (rotT n) := by
  have := tool_of_raw (m := n) (s := 1) (raw := (List.range n.toNat).map fun i => (((i : Nat) : Int), ((i : Nat) : Int))) (by rw [List.length_map, List.length_range]; omega) (by rw [List.length_map, List.length_range]; omega) (by
    rw [List.pairwise_map]
    refine List.pairwise_lt_range.imp fun {a b} h => ?_
    constructor
    · show ((a : Nat) : Int) < b
      omega
    · show ((a : Nat) : Int) < b
      omega) (fun x hx => by
    obtain ⟨i, hi, e⟩ := List.mem_map.mp hx
    rw [List.mem_range] at hi
    subst e
    show (0 ≤ ((i : Nat) : Int) ∧ ((i : Nat) : Int) < n) ∧ 0 ≤ ((i : Nat) : Int) ∧ ((i : Nat) : Int) < n
    omega)
  rw [List.map_map] at this
  exact this
theorem rot_tgt {n x : Int} (h2 : 2 ≤ n) (h12 : n ≤ 12) (h0 : 0 ≤ x) (h1 : x < n) : tgt (rotT n) x = (x + 1) % n := by
  have : (x, (x + 1) % n) ∈ rotT n := by
    unfold rotT
    rw [List.mem_map]
    refine ⟨x.toNat, by rw [List.mem_range]; omega, ?_⟩
    rw [show ((x.toNat : Nat) : Int) = x by omega]
  exact tgtFrom_hit _ _ (rot_tool h2 h12).asc this
theorem cnt_rot_b : ((List.range 13).all fun n => (List.range 13).all fun l => (List.range 13).all fun b => decide (n = 0) || decide (n < l) || decide (n ≤ b) || decide (cnt ((n : Nat) : Int) (rotT ((n : Nat) : Int)) ((b : Nat) : Int) ((l : Nat) : Int) = ((l : Nat) : Int))) = true := by decide +kernel
theorem cnt_rot_all (n l b : Nat) (hn : n < 13) (hl : l < 13) (hb : b < 13) (h1 : 1 ≤ n) (h2 : l ≤ n) (h3 : b < n) : cnt ((n : Nat) : Int) (rotT ((n : Nat) : Int)) ((b : Nat) : Int) ((l : Nat) : Int) = ((l : Nat) : Int) := by
  have h := List.all_eq_true.mp (List.all_eq_true.mp (List.all_eq_true.mp cnt_rot_b n (List.mem_range.mpr hn)) l (List.mem_range.mpr hl)) b (List.mem_range.mpr hb)
  simp only [Bool.or_eq_true, decide_eq_true_eq] at h
  rcases h with ((h | h) | h) | h
  · omega
  · omega
  · omega
  · exact h
theorem rot_width {n l w : Int} (h1 : 1 ≤ n) (h12 : n ≤ 12) (l1 : 0 ≤ l) (ln : l ≤ n) (h : IsWidth n [rotT n] l w) : w = l := by
  obtain ⟨t, ht, b, b0, b1, e⟩ := h.got
  rw [List.mem_singleton.mp ht] at e
  have := cnt_rot_all n.toNat l.toNat b.toNat (by omega) (by omega) (by omega) (by omega) (by omega) (by omega)
  rw [show ((n.toNat : Nat) : Int) = n by omega, show ((l.toNat : Nat) : Int) = l by omega, show ((b.toNat : Nat) : Int) = b by omega] at this
  omega
theorem rot_path {n g x : Int} {xs : List Int} (h1 : 1 ≤ n) (h12 : n ≤ 12) (g1 : 1 ≤ g) (gn : g ≤ n) (h : Path n [rotT n] g xs x) : xs = [g] ∧ x = g := by
  induction h with
  | one => exact ⟨rfl, rfl⟩
  | more hp hw ne ih =>
    have r := hp.rng g1 gn
    exact absurd (rot_width h1 h12 (by omega) r.2.1 hw) ne
theorem rot_few {n g x v : Int} {xs : List Int} (h1 : 1 ≤ n) (h12 : n ≤ 12) (g1 : 1 ≤ g) (gn : g ≤ n) (h : Path n [rotT n] g xs x) : fewD xs v = if decide (v ≤ g) = true then .int 0 else .none := by
  obtain ⟨e, _⟩ := rot_path h1 h12 g1 gn h
  subst e
  by_cases c : v ≤ g
  · rw [(few_zero h).mpr c, decide_eq_true c]
    rfl
  · rw [decide_eq_false c]
    exact few_none fun j z hz => by
      have := List.mem_singleton.mp (List.mem_of_getElem? hz)
      omega
theorem rot_isTool {n : Int} (h1 : 1 ≤ n) (h12 : n ≤ 12) : IsTool n (rotT n) := by
  by_cases h : n = 1
  · subst h
    exact is_tool1
  · exact rot_tool (by omega) h12
theorem shaped_toolsD (tls : List (List (Int × Int))) : True := trivial
theorem toolD_inj {a b : List (Int × Int)} (h : toolD a = toolD b) : a = b := by
  have h : a.map pairD = b.map pairD := PyData.tuple.inj h
  have inj : ∀ (a b : List (Int × Int)), a.map pairD = b.map pairD → a = b := by
    intro a
    induction a with
    | nil =>
      intro b h
      cases b with
      | nil => rfl
      | cons => cases h
    | cons x r ih =>
      intro b h
      cases b with
      | nil => cases h
      | cons y s =>
        rw [List.map_cons, List.map_cons] at h
        obtain ⟨h1, h2⟩ := List.cons.inj h
        have h3 := PyData.tuple.inj h1
        obtain ⟨e1, e2⟩ := List.cons.inj h3
        have e1 := PyData.int.inj e1
        have e2 := PyData.int.inj (List.cons.inj e2).1
        have : x = y := Prod.ext e1 e2
        rw [this, ih s h2]
  exact inj _ _ h
theorem perm_tools {ys : List PyData} {tls : List (List (Int × Int))} (pm : ys.Perm (tls.map toolD)) : ∃ zs : List (List (Int × Int)), ys = zs.map toolD ∧ ∀ t, t ∈ zs ↔ t ∈ tls := by
  have key : ∀ (ys : List PyData), (∀ y ∈ ys, ∃ t ∈ tls, toolD t = y) → ∃ zs : List (List (Int × Int)), ys = zs.map toolD := by
    intro ys
    induction ys with
    | nil => exact fun _ => ⟨[], rfl⟩
    | cons y r ih =>
      intro h
      obtain ⟨t, _, e⟩ := h y List.mem_cons_self
      obtain ⟨zs, ez⟩ := ih fun z hz => h z (List.mem_cons_of_mem _ hz)
      exact ⟨t :: zs, by rw [List.map_cons, e, ez]⟩
  obtain ⟨zs, ez⟩ := key ys fun y hy => List.mem_map.mp (pm.mem_iff.mp hy)
  refine ⟨zs, ez, fun t => ?_⟩
  subst ez
  constructor
  · intro h
    obtain ⟨t', h', e⟩ := List.mem_map.mp (pm.mem_iff.mp (List.mem_map_of_mem (f := toolD) h))
    rw [← toolD_inj e]
    exact h'
  · intro h
    obtain ⟨t', h', e⟩ := List.mem_map.mp (pm.mem_iff.mpr (List.mem_map_of_mem (f := toolD) h))
    rw [← toolD_inj e]
    exact h'
/-- an if with two tests that only may leave -/
theorem rs_cutB {K : PySem.W.Frag} {Δ : DK} {ta tb : TT} {aa ab : AT} {te : TE} {ae : AE} {u : TS} {b : AStm} (ha : RT K Δ ta aa) (hb : RT K Δ tb ab) (h1 : RE K Δ te ae) (hu : RS K Δ u b) :
    RS K Δ (tSeq (tIfS (tAnd ta tb) (tRet te) tNext) u) (aCut (aIfS (aAnd aa ab) (aRet ae) (fun A s => A.nx s)) b) := rs_cut (rs_if (rt_and ha hb) (rs_ret h1) rs_next) hu

/-! ### numbers that exclude all plans -/
theorem excl_iff {m n : Int} {tls : List (List (Int × Int))} (hm : 1 ≤ m) (ne : tls ≠ []) (its : ∀ t ∈ tls, IsTool m t) (n1 : 1 ≤ n) (nm : n < m) : exclB m tls n = true ↔ IsWidth m tls n n := by
  rw [own_common hm ne its n1 nm]
  unfold exclB
  rw [List.all_eq_true]
  have key : (∀ t ∈ tls, repF m (tgt t) ((Nat.gcd n.toNat m.toNat : Nat) : Int) = true) ↔ comP m tls ∣ n.toNat := by
    constructor
    · intro h
      refine dvd_lcmN fun p hp => ?_
      obtain ⟨t, ht, e⟩ := List.mem_map.mp hp
      have := (rep_period hm (its t ht)).mp (repF_iff.mp (h t ht))
      rw [← e]
      exact Nat.dvd_trans (Int.natCast_dvd_natCast.mp this) (Nat.gcd_dvd_left _ _)
    · intro h t ht
      refine repF_iff.mpr ((rep_period hm (its t ht)).mpr (Int.natCast_dvd_natCast.mpr (Nat.dvd_gcd ?_ (perN_spec hm (its t ht)).2.2)))
      exact Nat.dvd_trans (lcmN_dvd (List.mem_map_of_mem ht)) h
  rw [key]
  constructor
  · intro h
    have := Nat.mod_eq_zero_of_dvd h
    have e : ((n.toNat % comP m tls : Nat) : Int) = 0 := by rw [this]; rfl
    rw [Int.natCast_emod, show ((n.toNat : Nat) : Int) = n by omega] at e
    exact e
  · intro h
    apply Nat.dvd_of_mod_eq_zero
    have e : ((n.toNat % comP m tls : Nat) : Int) = 0 := by
      rw [Int.natCast_emod, show ((n.toNat : Nat) : Int) = n by omega]
      exact h
    omega
/-- what fits behind a push has fitted before it, for the width -/
theorem push_back {m l w v v' t : Int} {tl : List (Int × Int)} {tls : List (List (Int × Int))} {ps : List Int} (hm : 1 ≤ m) (it : IsTool m tl) (ht : tl ∈ tls) (l0 : 0 ≤ l) (lm : l ≤ m) (hw : IsWidth m tls l w)
    (hv : IsSpread m ps v) (hv' : IsSpread m (imgP m (pushF m tl t) ps) v') (h : v' ≤ l) : v ≤ w := by
  obtain ⟨L, P, lf⟩ := lift_of (by omega) it
  obtain ⟨s, s0, s1, hs⟩ := hv'.holds
  have hc := hw.all tl ht s s0 s1
  obtain ⟨p, hp, e⟩ := hv.least ((P s - t) % m) (mod_at hm).1 (mod_at hm).2
  have h1 := hs _ ((imgP_mem fun x _ => tgt_rng it _).mpr ⟨p, hp, rfl⟩)
  have h1 : (tgt tl ((p + t) % m) - s) % m < v' := h1
  rw [lf.tg, Int.emod_sub_emod] at h1
  have h2 : (L (p + t) - s) % m < l := by omega
  have h3 := (lf.arc (by omega) (b := s) (l := l) (p + t)).mp h2
  rw [← lf.cnt (by omega) l0 lm] at h3
  rw [Int.sub_emod_emod, show p - (P s - t) = p + t - P s by omega] at e
  omega
theorem plan_back {m n : Int} {tls : List (List (Int × Int))} (hm : 1 ≤ m) (its : ∀ t ∈ tls, IsTool m t) (n0 : 0 ≤ n) (nm : n ≤ m) (hn : IsWidth m tls n n) : ∀ (pl : List (Int × Nat)) (ps : List Int) (v v' : Int), OkPlan tls.length pl → Places m ps → ps ≠ [] → IsSpread m ps v → IsSpread m (imgP m (planF m tls pl) ps) v' → v' ≤ n → v ≤ n
  | [], ps, v, v', _, pp, _, hv, hv', h => by
    rw [show planF m tls [] = fun x => x from rfl, imgP_id pp] at hv'
    rw [hv.uniq hv']
    exact h
  | p :: r, ps, v, v', ok, pp, pne, hv, hv', h => by
    have hp := ok p List.mem_cons_self
    have itp := its _ (getD_mem hp)
    have okr : OkPlan tls.length r := fun q hq => ok q (List.mem_cons_of_mem _ hq)
    have e : imgP m (planF m tls (p :: r)) ps = imgP m (planF m tls r) (imgP m (pushF m (tls.getD p.2 []) p.1) ps) :=
      (imgP_comp (f := pushF m (tls.getD p.2 []) p.1) (g := planF m tls r) (fun x _ => tgt_rng itp _) fun x h0 h1 => planF_rng hm its okr h0 h1).symm
    rw [e] at hv'
    have ine := img_ne (m := m) (f := pushF m (tls.getD p.2 []) p.1) (fun x _ => tgt_rng itp _) pne
    obtain ⟨u, hu⟩ := exists_spread hm Places.img ine
    exact push_back hm itp (getD_mem hp) n0 nm hn hv hu (plan_back hm its n0 nm hn r _ u v' okr Places.img ine hu hv' h)
theorem iter_below {m g n : Int} {tls : List (List (Int × Int))} (hg : g ≤ n) (hn : IsWidth m tls n n) {t : Nat} {y : Int} (h : WIter m tls g t y) : y ≤ n := by
  induction h with
  | zero => exact hg
  | succ h1 w ih => exact width_mono w hn ih
theorem few_excl {m g x v n : Int} {tls : List (List (Int × Int))} {xs : List Int} (hp : Path m tls g xs x) (hg : g ≤ n) (hn : IsWidth m tls n n) (hv : n < v) : fewD xs v = .none :=
  few_none fun j z hz => by
    have := iter_below hg hn (path_iter hp j z hz)
    omega
def RCertH : RP := fun ds A => ∃ (m g : Int) (tls : List (List (Int × Int))) (ps : List Int) (d : PyData), ds = [.int m, toolsD tls, tupD ps, .int g, d] ∧ (∀ t ∈ tls, IsTool m t) ∧ tls.length ≤ 100 ∧ 1 ≤ m ∧ m ≤ 60 ∧ 1 ≤ g ∧ Places m ps ∧ ps ≠ [] ∧
  (tupIn 2 2 d = false → A (.bool false)) ∧ ∀ w p, d = .tuple [w, p] → SeqAt.shaped w = true ∧
    (PyData.eqv w (.str "plan") = true → (∀ pl, p = planD pl → FinePlan tls.length pl → ∀ v, IsSpread m (imgP m (planF m tls pl) ps) v → A (.bool (decide (v ≤ g)))) ∧ (¬ FinePl tls.length p → A (.bool false))) ∧
    (PyData.eqv w (.str "plan") = false → PyData.eqv w (.str "never") = false → A (.bool false)) ∧
    (PyData.eqv w (.str "plan") = false → PyData.eqv w (.str "never") = true → ∀ v, IsSpread m ps v → (numIn g (v - 1) p = false → A (.bool false)) ∧ ∀ n : Int, p = .int n → g ≤ n → n < v → A (.bool (exclB m tls n)))
def okN (m : Int) (tls : List (List (Int × Int))) (g v n : Int) : Bool := decide (g ≤ n) && decide (n < v) && exclB m tls n
theorem numIn_dec {lo hi n : Int} : numIn lo hi (.int n) = (decide (lo ≤ n) && decide (n ≤ hi)) := rfl
theorem tup2_of {d : PyData} (h : tupIn 2 2 d = true) : ∃ w p, d = .tuple [w, p] := by
  cases d with
  | tuple ds =>
    have h : (decide ((2 : Int) ≤ (ds.length : Nat)) && decide (((ds.length : Nat) : Int) ≤ 2)) = true := h
    rw [Bool.and_eq_true] at h
    have h1 := of_decide_eq_true h.1
    have h2 := of_decide_eq_true h.2
    match ds, h1, h2 with
    | [w, p], _, _ => exact ⟨w, p, rfl⟩
    | [], h1, _ => exact absurd h1 (by decide)
    | [x], h1, _ => exact absurd (show (2 : Int) ≤ ((1 : Nat) : Int) from h1) (by decide)
    | _ :: _ :: _ :: _, _, h2 =>
      rw [List.length_cons, List.length_cons, List.length_cons] at h2
      omega
  | _ => cases h
def RStay : RKd := fun ds k A => ∃ (m d : Int) (tls : List (List (Int × Int))) (ps : List Int), ds = [.int m, toolsD tls, tupD ps, .int d] ∧ (∀ t ∈ tls, IsTool m t ∧ RepZ m (tgt t) d) ∧ tls ≠ [] ∧ tls.length ≤ 100 ∧ 1 ≤ m ∧ m ≤ 60 ∧ Places m ps ∧ ps ≠ [] ∧ k + 8 ≤ 1000000 ∧ A (.bool true) (k + 8)
theorem apart_step {m d t x : Int} {tl : List (Int × Int)} (hm : 1 ≤ m) (h0 : 0 ≤ x) (h1 : x < m) (h : RepZ m (tgt tl) d) : tgt tl (((x + d) % m + t) % m) = (tgt tl ((x + t) % m) + d) % m := by
  have z := mod_at (x := x + t) hm
  have := h ((x + t) % m) z.1 z.2
  rw [Int.emod_add_emod] at this
  rw [Int.emod_add_emod, show x + d + t = x + t + d by omega]
  exact this
theorem shaped_plan : SeqAt.shaped (.str "plan") = true := by decide +kernel
theorem shaped_never : SeqAt.shaped (.str "never") = true := by decide +kernel
theorem eqv_np : PyData.eqv (.str "never") (.str "plan") = false := by decide +kernel
theorem eqv_nn : PyData.eqv (.str "never") (.str "never") = true := by decide +kernel
theorem eqv_pp : PyData.eqv (.str "plan") (.str "plan") = true := by decide +kernel
theorem dec_np : decide (("never" : Str) = "plan") = false := by decide +kernel
theorem dec_pp : decide (("plan" : Str) = "plan") = true := by decide +kernel
theorem at_toolsI {tls : List (List (Int × Int))} {j : Int} (h0 : 0 ≤ j) (h1 : j < (tls.length : Nat)) : atI (tls.map toolD) j = some (toolD (tls.getD j.toNat [])) := by
  have := at_tools (tls := tls) (i := j.toNat) (by omega)
  rw [show ((j.toNat : Nat) : Int) = j by omega] at this
  exact this
theorem rs_cutN {K : PySem.W.Frag} {Δ : DK} {ta tb te : TE} {aa ab ae : AE} {u : TS} {b : AStm} (ha : RE K Δ ta aa) (hb : RE K Δ tb ab) (h1 : RE K Δ te ae) (hu : RS K Δ u b) :
    RS K Δ (tSeq (tIfS (tTest (tOp rNotB ta tb)) (tRet te) tNext) u) (aCut (aIfS (aTest (aOp (fun d e s A => ∃ a b : Bool, d = .bool a ∧ e = .bool b ∧ A (.bool (!decide (a = b))) s) aa ab)) (aRet ae) (fun A s => A.nx s)) b) := rs_cut (rs_if (rt_test (re_op r2_notB ha hb)) (rs_ret h1) rs_next) hu
theorem rs_cutN2 {K : PySem.W.Frag} {Δ : DK} {ta tb te : TE} {aa ab ae : AE} {u : TS} {b : AStm} (ha : RE K Δ ta aa) (hb : RE K Δ tb ab) (h1 : RE K Δ te ae) (hu : RS K Δ u b) :
    RS K Δ (tSeq (tIfS (tB (tOp rNotB ta tb)) (tRet te) tNext) u) (aCut (aIfS (aTest (aOp (fun d e s A => ∃ a b : Bool, d = .bool a ∧ e = .bool b ∧ A (.bool (!decide (a = b))) s) aa ab)) (aRet ae) (fun A s => A.nx s)) b) := rs_cut (rs_if (rt_b (re_op r2_notB ha hb)) (rs_ret h1) rs_next) hu

/-! ### the least goals -/
section
variable {K : PySem.W.Frag} {Δ : DK}
theorem krevL {X : Cx} {e : Expr} {te : TE} {k : Nat} {p1 p2 p3 pos : Pos} (K : PySem.W.Frag) (he : PE X e te) (hK : X.K = K := by rfl) :
    PE X (.Subscript e (.Slice none none (some (.UnaryOp .USub (.Constant (.int 1) k p1) p2)) p3) pos) (tRevL K te) := by
  subst hK
  exact pe_revL he
theorem re_revL {te : TE} {ae : AE} (h1 : RE K Δ te ae) : RE K Δ (tRevL K te) (fun s A => ae s fun d s1 => ∃ ds, d = .list ds ∧ A (.list ds.reverse) s1) := by
  intro C B σ H s Q A E h q
  refine h1 C B σ H s _ _ E h fun v d H1 s1 a1 m1 E1 dv => ?_
  obtain ⟨ds, ed, a⟩ := a1
  subst ed
  obtain ⟨p, us, ep, hp, _, hd⟩ := dv.lstI
  subst ep
  refine ⟨p, us, rfl, SqL.of hp, fun l nl => ?_⟩
  obtain ⟨sm, dv⟩ := new_lst E1 nl hd.back
  exact q _ _ _ _ a (m1.trans (.of_same sm)) (E1.same sm) dv
end
def RLRepA : RP := fun ds A => ∃ (m d : Int) (tl : List (Int × Int)), ds = [.int m, toolD tl, .int d] ∧ IsTool m tl ∧ 1 ≤ m ∧ m ≤ 60 ∧ A (.bool (repF m (tgt tl) d))
def RIsCom : RP := fun ds A => ∃ (m d : Int) (tls : List (List (Int × Int))), ds = [.int m, toolsD tls, .int d] ∧ (∀ t ∈ tls, IsTool m t) ∧ tls.length ≤ 100 ∧ 1 ≤ m ∧ m ≤ 60 ∧ 1 ≤ d ∧ A (.bool (decide (m % d = 0) && tls.all fun t => repF m (tgt t) d))
def RPerA : RP := fun ds A => ∃ (m : Int) (tls : List (List (Int × Int))), ds = [.int m, toolsD tls] ∧ (∀ t ∈ tls, IsTool m t) ∧ tls.length ≤ 100 ∧ 1 ≤ m ∧ m ≤ 60 ∧ A (.int (comP m tls))
theorem rep_cond {m a b d : Int} (hm : 1 ≤ m) (a0 : 0 ≤ a) (a1 : a < m) : (a - b - d) % m = 0 ↔ a = (b + d) % m := by
  constructor
  · intro h
    have h2 : a % m = (b + d) % m := Int.emod_eq_emod_iff_emod_sub_eq_zero.mpr (by rw [show a - (b + d) = a - b - d by omega]; exact h)
    rw [← h2, Int.emod_eq_of_lt a0 a1]
  · intro h
    rw [h, show (b + d) % m - b - d = (b + d) % m - (b + d) by omega, Int.emod_sub_emod, Int.sub_self, Int.zero_emod]

theorem rep_false {m d : Int} {f : Int → Int} {x : Int} (h0 : 0 ≤ x) (h1 : x < m) (h : ¬ f ((x + d) % m) = (f x + d) % m) : repF m f d = false := by
  cases e : repF m f d with
  | false => rfl
  | true => exact absurd (repF_iff.mp e x h0 h1) h
theorem all_rep {m d : Int} {tls : List (List (Int × Int))} (hm : 1 ≤ m) (its : ∀ t ∈ tls, IsTool m t) (d1 : 0 ≤ d) : (tls.all fun t => repF m (tgt t) d) = true ↔ comP m tls ∣ d.toNat := by
  rw [List.all_eq_true]
  constructor
  · intro h
    refine dvd_lcmN fun p hp => ?_
    obtain ⟨t, ht, e⟩ := List.mem_map.mp hp
    have := (rep_period hm (its t ht)).mp (repF_iff.mp (h t ht))
    rw [← e]
    rw [show d = ((d.toNat : Nat) : Int) by omega] at this
    exact Int.natCast_dvd_natCast.mp this
  · intro h t ht
    refine repF_iff.mpr ((rep_period hm (its t ht)).mpr ?_)
    rw [show d = ((d.toNat : Nat) : Int) by omega]
    exact Int.natCast_dvd_natCast.mpr (Nat.dvd_trans (lcmN_dvd (List.mem_map_of_mem ht)) h)
theorem range_first {c : Nat} {b : Nat → Bool} (h : b c = true) (hno : ∀ j, j < c → b j = false) : ∀ n : Nat, c < n → ∃ r, (List.range n).filter b = c :: r := by
  intro n
  induction n with
  | zero => exact fun h => absurd h (Nat.not_lt_zero _)
  | succ n ih =>
    intro hc
    rw [List.range_succ, List.filter_append]
    by_cases e : c < n
    · obtain ⟨r, er⟩ := ih e
      rw [er]
      exact ⟨_, rfl⟩
    · have e : c = n := by omega
      subst e
      have : (List.range c).filter b = [] := by
        rw [List.filter_eq_nil_iff]
        intro j hj
        rw [hno j (List.mem_range.mp hj)]
        exact Bool.false_ne_true
      rw [this, List.filter_cons_of_pos h]
      exact ⟨[], rfl⟩
def comB (m : Int) (tls : List (List (Int × Int))) (d : Int) : Bool := decide (m % d = 0) && tls.all fun t => repF m (tgt t) d
theorem com_first {m : Int} {tls : List (List (Int × Int))} (hm : 1 ≤ m) (its : ∀ t ∈ tls, IsTool m t) : ∃ r, ((List.range (m + 1 - 1).toNat).filter fun i => comB m tls (1 + (i : Nat))).map (fun i => PyData.int (1 + ((i : Nat) : Int))) = .int (comP m tls) :: r := by
  have cp := comP_pos hm its
  have cd := comP_dvd hm its
  have cle := Nat.le_of_dvd (by omega) cd
  obtain ⟨r, er⟩ := range_first (c := comP m tls - 1) (b := fun i => comB m tls (1 + (i : Nat))) (by
    unfold comB
    rw [show (1 : Int) + ((comP m tls - 1 : Nat) : Int) = ((comP m tls : Nat) : Int) by omega, (all_rep hm its (by omega)).mpr (by rw [Int.toNat_natCast]; exact Nat.dvd_refl _)]
    have h1 := Nat.mod_eq_zero_of_dvd cd
    have : ((m.toNat % comP m tls : Nat) : Int) = 0 := by rw [h1]; rfl
    rw [Int.natCast_emod, show ((m.toNat : Nat) : Int) = m by omega] at this
    rw [decide_eq_true this]
    rfl) (fun j hj => by
    unfold comB
    cases e : tls.all fun t => repF m (tgt t) (1 + (j : Nat)) with
    | false => rw [Bool.and_false]
    | true =>
      have := Nat.le_of_dvd (by omega) ((all_rep hm its (by omega)).mp e)
      omega) (m + 1 - 1).toNat (by omega)
  rw [er]
  refine ⟨r.map fun i => PyData.int (1 + ((i : Nat) : Int)), ?_⟩
  rw [List.map_cons, show (1 : Int) + ((comP m tls - 1 : Nat) : Int) = ((comP m tls : Nat) : Int) by omega]
/-- from the whole circle -/
theorem whole_few {m a x : Int} {tls : List (List (Int × Int))} {xs : List Int} (hm : 1 ≤ m) (ne : tls ≠ []) (its : ∀ t ∈ tls, IsTool m t) (a1 : 1 ≤ a) (am : a ≤ m) (hp : Path m tls a xs x) (hw : IsWidth m tls x x) :
    (!isNone (fewD xs m)) = decide (m - ((comP m tls : Nat) : Int) + 1 ≤ a) := by
  have cp := comP_pos hm its
  have cd := comP_dvd hm its
  have cle := Nat.le_of_dvd (by omega) cd
  have rg := hp.rng a1 am
  by_cases h : m - ((comP m tls : Nat) : Int) + 1 ≤ a
  · rw [decide_eq_true h]
    have hx : x = m := by
      by_cases c : x = m
      · exact c
      · exfalso
        have h1 := (own_common hm ne its rg.1 (by omega)).mp hw
        have d1 : ((comP m tls : Nat) : Int) ∣ x := Int.dvd_of_emod_eq_zero h1
        have d2 : ((comP m tls : Nat) : Int) ∣ m := by
          have := Int.natCast_dvd_natCast.mpr cd
          rw [show ((m.toNat : Nat) : Int) = m by omega] at this
          exact this
        have d3 := Int.dvd_sub d2 d1
        have := Int.le_of_dvd (by omega) d3
        omega
    obtain ⟨h0, he⟩ := path_end hp
    obtain ⟨t, _, ef⟩ := few_le (v := m) he (by omega)
    rw [ef]
    rfl
  · rw [decide_eq_false h]
    have hn : IsWidth m tls (m - ((comP m tls : Nat) : Int)) (m - ((comP m tls : Nat) : Int)) := by
      refine (own_common hm ne its (by omega) (by omega)).mpr ?_
      have d2 : ((comP m tls : Nat) : Int) ∣ m := by
        have := Int.natCast_dvd_natCast.mpr cd
        rw [show ((m.toNat : Nat) : Int) = m by omega] at this
        exact this
      exact Int.emod_eq_zero_of_dvd (Int.dvd_sub d2 (Int.dvd_refl _))
    rw [few_excl hp (by omega) hn (by omega)]
    rfl
theorem lcRelD {α : Type} {l : List α} {e : α → PyData} {g : AG} {te : AE} {vs : List Nat} {s1 : AS} {A : PyData → AS → Prop} (P : α → PyData → Prop) (h5 : l.length ≤ 100000)
    (he : ∀ x, x ∈ l → ∀ B : PyData → AS → Prop, (∀ v, P x v → ∀ s : AS, s.k = s1.k → B v s) → g (e x) ⟨wipeA s1.env vs, s1.k⟩ fun s2 => te s2 B)
    (ha : ∀ ws : List PyData, ws.length = l.length → (∀ (j : Nat) x w, l[j]? = some x → ws[j]? = some w → P x w) → A (.list ws) s1) : LcB (l.map e) s1 g (fun s A => A true s) te vs A := by
  refine ⟨by rw [List.length_map]; exact h5, fun i acc k => k = s1.k ∧ acc.length = i ∧ ∀ (j : Nat) x w, l[j]? = some x → acc[j]? = some w → P x w, ⟨rfl, rfl, fun j x w _ h => by cases h⟩, fun i x acc k hx h => ?_, fun acc k h => ?_⟩
  · obtain ⟨e1, hl, hp⟩ := h
    subst e1
    obtain ⟨y, hy, ey⟩ := map_get hx
    subst ey
    refine he y (List.mem_of_getElem? hy) _ fun v hv s hs => ⟨hs, by rw [List.length_append, hl]; rfl, fun j x w hj hw => ?_⟩
    by_cases hji : j < acc.length
    · rw [List.getElem?_append_left hji] at hw
      exact hp j x w hj hw
    · have hj1 := (List.getElem?_eq_some_iff.mp hw).1
      rw [List.length_append, List.length_singleton] at hj1
      have ej : j = acc.length := by omega
      subst ej
      rw [List.getElem?_append_right (Nat.le_refl _), Nat.sub_self] at hw
      have e1 : v = w := Option.some.inj hw
      rw [hl, hy] at hj
      have e2 := Option.some.inj hj
      rw [← e1, ← e2]
      exact hv
  · obtain ⟨e1, hl, hp⟩ := h
    rw [List.length_map] at hl
    subst e1
    exact ha acc hl hp
theorem sorted_uniqI : ∀ {a b : List Int}, a.Perm b → a.Pairwise (· ≤ ·) → b.Pairwise (· ≤ ·) → a = b
  | [], b, h, _, _ => (List.Perm.nil_eq h)
  | x :: r, [], h, _, _ => by
    have := h.length_eq
    rw [List.length_cons, List.length_nil] at this
    omega
  | x :: r, y :: s, h, ha, hb => by
    have hx := (List.pairwise_cons.mp ha).1
    have hy := (List.pairwise_cons.mp hb).1
    have exy : x = y := by
      have h1 : x ∈ y :: s := h.mem_iff.mp List.mem_cons_self
      have h2 : y ∈ x :: r := h.mem_iff.mpr List.mem_cons_self
      have l1 : y ≤ x := by
        rcases List.mem_cons.mp h1 with e | e
        · omega
        · exact hy x e
      have l2 : x ≤ y := by
        rcases List.mem_cons.mp h2 with e | e
        · omega
        · exact hx y e
      omega
    subst exy
    rw [sorted_uniqI (List.Perm.cons_inv h) (List.pairwise_cons.mp ha).2 (List.pairwise_cons.mp hb).2]
def FewW (m : Int) (tls : List (List (Int × Int))) (a : Int) (d : PyData) : Prop := ∃ xs x, Path m tls a xs x ∧ IsWidth m tls x x ∧ d = fewD xs m
theorem fewW_desc {m : Int} {tls : List (List (Int × Int))} {ns : List Int} {ds : List PyData} (asc : ns.Pairwise (· < ·)) (hl : ds.length = ns.length) (h : ∀ (j : Nat) a d, ns[j]? = some a → ds[j]? = some d → FewW m tls a d) :
    ∃ is : List Int, ds.filter (fun d => !isNone d) = is.map PyData.int ∧ is.Pairwise (fun x y => y ≤ x) := by
  induction ns generalizing ds with
  | nil =>
    have : ds = [] := List.eq_nil_of_length_eq_zero hl
    subst this
    exact ⟨[], rfl, .nil⟩
  | cons a r ih =>
    cases ds with
    | nil => cases hl
    | cons d ds =>
      have asc' := List.pairwise_cons.mp asc
      obtain ⟨is, e, pw⟩ := ih asc'.2 (by simpa using hl) fun j a d h1 h2 => h (j + 1) a d h1 h2
      obtain ⟨xs, x, hp, hw, ed⟩ := h 0 a d rfl rfl
      have small : ∀ y ∈ is, atMost (.int y) d = true := fun y hy => by
        have hm : PyData.int y ∈ ds.filter (fun d => !isNone d) := by
          rw [e]
          exact List.mem_map_of_mem hy
        obtain ⟨j, hj⟩ := List.getElem?_of_mem (List.mem_filter.mp hm).1
        have hjl := (List.getElem?_eq_some_iff.mp hj).1
        have hlen : ds.length = r.length := by simpa using hl
        have ha := List.getElem?_eq_getElem (l := r) (i := j) (by omega)
        obtain ⟨xs', x', hp', hw', ed'⟩ := h (j + 1) _ _ ha hj
        rw [ed', ed]
        exact few_mono hp hp' hw' (by have := asc'.1 _ (List.getElem_mem (l := r) (n := j) (by omega)); omega) (Int.le_refl _) fun l l' w w' h h1 h2 => width_mono h1 h2 h
      rcases few_kind xs m with z | ⟨n, z⟩
      · rw [ed, z, List.filter_cons_of_neg (by decide)]
        exact ⟨is, e, pw⟩
      · rw [ed, z] at small
        rw [ed, z, List.filter_cons_of_pos rfl, e]
        refine ⟨n :: is, rfl, List.pairwise_cons.mpr ⟨fun y hy => ?_, pw⟩⟩
        exact of_decide_eq_true (small y hy)
theorem shaped_toolL {m : Int} (ts : List (List (Int × Int))) (its : ∀ t ∈ ts, IsTool m t) : SeqAt.shaped (.list (ts.map toolD)) = true := by
  have flat : ∀ (t : List (Int × Int)), PyData.canLayAll0 (t.map pairD) = true ∧ PyData.depthAll (t.map pairD) ≤ 1 := by
    intro t
    induction t with
    | nil => exact ⟨rfl, by decide⟩
    | cons x r ih =>
      refine ⟨?_, ?_⟩
      · show ((pairD x).canLay0 && PyData.canLayAll0 (r.map pairD)) = true
        rw [ih.1]
        rfl
      · show max (pairD x).depth (PyData.depthAll (r.map pairD)) ≤ 1
        have : (pairD x).depth = 1 := rfl
        omega
  have all : ∀ (ts : List (List (Int × Int))), PyData.canLayAll0 (ts.map toolD) = true ∧ PyData.depthAll (ts.map toolD) ≤ 2 := by
    intro ts
    induction ts with
    | nil => exact ⟨rfl, by decide⟩
    | cons t r ih =>
      refine ⟨?_, ?_⟩
      · show ((toolD t).canLay0 && PyData.canLayAll0 (r.map toolD)) = true
        rw [ih.1, show (toolD t).canLay0 = PyData.canLayAll0 (t.map pairD) from rfl, (flat t).1]
        rfl
      · show max (toolD t).depth (PyData.depthAll (r.map toolD)) ≤ 2
        have : (toolD t).depth = PyData.depthAll (t.map pairD) + 1 := rfl
        have := (flat t).2
        omega
  have h := all ts
  unfold SeqAt.shaped
  rw [show (PyData.list (ts.map toolD)).canLay0 = PyData.canLayAll0 (ts.map toolD) from rfl, h.1, show (PyData.list (ts.map toolD)).depth = PyData.depthAll (ts.map toolD) + 1 from rfl]
  have : PyData.depthAll (ts.map toolD) + 1 ≤ 3 := by have := h.2; omega
  simp only [Bool.true_and, decide_eq_true_eq]
  omega
theorem lcId {xs : List PyData} {g : AG} {te : AE} {vs : List Nat} {s1 : AS} {A : PyData → AS → Prop} (f : PyData → PyData) (h5 : xs.length ≤ 100000)
    (he : ∀ x, x ∈ xs → ∀ B : PyData → AS → Prop, (∀ s : AS, s.k = s1.k → B (f x) s) → g x ⟨wipeA s1.env vs, s1.k⟩ fun s2 => te s2 B)
    (ha : A (.list (xs.map f)) s1) : LcB xs s1 g (fun s A => A true s) te vs A := by
  have := lcMap (l := xs) (e := id) (g := g) (te := te) (vs := vs) (s1 := s1) (A := A) f h5 he ha
  rw [List.map_id] at this
  exact this
theorem lcIdT {xs : List PyData} {g : AG} {tt : AT} {te : AE} {vs : List Nat} {s1 : AS} {A : PyData → AS → Prop} (b : PyData → Bool) (f : PyData → PyData) (h5 : xs.length ≤ 100000)
    (he : ∀ x, x ∈ xs → ∀ (Bt : AS → Prop) (Bf : AS → Prop), (b x = true → ∀ s : AS, s.k = s1.k → Bt s) → (b x = false → ∀ s : AS, s.k = s1.k → Bf s) → ∀ R : PyData → AS → Prop, (∀ s, Bt s → R (f x) s) →
      g x ⟨wipeA s1.env vs, s1.k⟩ fun s2 => tt s2 fun c s3 => if c = true then te s3 R else Bf s3)
    (ha : A (.list ((xs.filter b).map f)) s1) : LcB xs s1 g tt te vs A := by
  have := lcMapT (l := xs) (e := id) (g := g) (tt := tt) (te := te) (vs := vs) (s1 := s1) (A := A) b f h5 he ha
  rw [List.map_id] at this
  exact this
theorem shaped_bools (bs : List Bool) : SeqAt.shaped (.list (bs.map PyData.bool)) = true := by
  have all : ∀ (bs : List Bool), PyData.canLayAll0 (bs.map PyData.bool) = true ∧ PyData.depthAll (bs.map PyData.bool) = 0 := by
    intro bs
    induction bs with
    | nil => exact ⟨rfl, rfl⟩
    | cons b r ih =>
      refine ⟨?_, ?_⟩
      · show ((PyData.bool b).canLay0 && PyData.canLayAll0 (r.map PyData.bool)) = true
        rw [ih.1]
        rfl
      · show max (PyData.bool b).depth (PyData.depthAll (r.map PyData.bool)) = 0
        rw [ih.2]
        rfl
  have h := all bs
  unfold SeqAt.shaped
  rw [show (PyData.list (bs.map PyData.bool)).canLay0 = PyData.canLayAll0 (bs.map PyData.bool) from rfl, h.1, show (PyData.list (bs.map PyData.bool)).depth = PyData.depthAll (bs.map PyData.bool) + 1 from rfl, h.2]
  rfl

/-! ### dicts whose keys are tuples of ints. Own work. -/
def ent (e : List Int × Int) : List Key × V := (e.1.map Sum.inl, V.int e.2)
def valE (es : List (List Int × Int)) (k : List Int) : Option Int := (es.find? fun e => decide (e.1 = k)).map (·.2)
def putE (es : List (List Int × Int)) (k : List Int) (v : Int) : List (List Int × Int) :=
  if (es.any fun e => decide (e.1 = k)) = true then es.map (fun e => if e.1 = k then (e.1, v) else e) else es ++ [(k, v)]
theorem inl_inj {a b : List Int} : a.map (Sum.inl : Int → Key) = b.map Sum.inl ↔ a = b :=
  ⟨fun h => List.map_inj_right (fun _ _ => Sum.inl.inj) |>.mp h, fun h => by rw [h]⟩
theorem ent_eq (e : List Int × Int) (k : List Int) : decide ((ent e).1 = k.map Sum.inl) = decide (e.1 = k) := by
  have q : (ent e).1 = k.map Sum.inl ↔ e.1 = k := inl_inj
  by_cases h : e.1 = k
  · rw [decide_eq_true h, decide_eq_true (q.mpr h)]
  · rw [decide_eq_false h, decide_eq_false (fun z => h (q.mp z))]
theorem val_ent (k : List Int) : ∀ es : List (List Int × Int), valV (es.map ent) (k.map Sum.inl) = (valE es k).map V.int
  | [] => rfl
  | e :: es => by
    have ih := val_ent k es
    unfold valV valE at *
    rw [List.map_cons, List.find?_cons, List.find?_cons, ent_eq]
    cases decide (e.1 = k) with
    | true => rfl
    | false => exact ih
theorem any_ent (k : List Int) (es : List (List Int × Int)) : ((es.map ent).any fun kv => decide (kv.1 = k.map Sum.inl)) = es.any fun e => decide (e.1 = k) := by
  rw [List.any_map]
  congr 1
  funext e
  exact ent_eq e k
theorem put_ent (es : List (List Int × Int)) (k : List Int) (v : Int) : putK (es.map ent) (k.map Sum.inl) (.int v) = (putE es k v).map ent := by
  unfold putK putE
  rw [any_ent]
  by_cases h : (es.any fun e => decide (e.1 = k)) = true
  · rw [if_pos h, if_pos h, List.map_map, List.map_map]
    apply List.map_congr_left
    intro e _
    show (if (ent e).1 = k.map Sum.inl then ((ent e).1, V.int v) else ent e) = ent (if e.1 = k then (e.1, v) else e)
    have q : (ent e).1 = k.map Sum.inl ↔ e.1 = k := inl_inj
    by_cases z : e.1 = k
    · rw [if_pos (q.mpr z), if_pos z]
      rfl
    · rw [if_neg (fun y => z (q.mp y)), if_neg z]
  · rw [if_neg h, if_neg h, List.map_append]
    rfl
theorem putE_len (es : List (List Int × Int)) (k : List Int) (v : Int) : (putE es k v).length ≤ es.length + 1 := by
  unfold putE
  split
  · rw [List.length_map]; omega
  · rw [List.length_append]; exact Nat.le_refl _
theorem kV_inl (ns : List Int) : (ns.map (Sum.inl : Int → Key)).map kV = ns.map V.int := by
  rw [List.map_map]
  rfl
theorem dTo_eq (es : List (List Int × Int)) : dTo es = .dT (es.map ent) := rfl
theorem tupD_of {a b : List Int} (h : a.map PyData.int = b.map PyData.int) : a = b := (List.map_inj_right fun _ _ z => PyData.int.inj z).mp h
theorem dicD_inj {a b : List (List Int × Int)} (h : dicD a = dicD b) : a = b := by
  have h := (List.cons.inj (PyData.dict.inj h)).2
  refine (List.map_inj_right fun x y z => ?_).mp h
  have z1 := tupD_of (PyData.tuple.inj (congrArg Prod.fst z))
  have z2 := PyData.int.inj (congrArg Prod.snd z)
  exact Prod.ext z1 z2
theorem Dv.dicI {K : PySem.W.Frag} {H : Hp} {B : List Addr} {v : V} {es : List (List Int × Int)} (h : Dv K H B v (dicD es)) : ∃ p o, v = .ref p ∧ H p = some (.frz o (dTo es)) := by
  generalize hd : dicD es = d at h
  cases h with
  | dcT hs =>
    have := dicD_inj hd
    subst this
    exact ⟨_, _, rfl, hs⟩
  | _ => cases hd
/-! #### the rules -/
section
variable {X : Cx} {pins : List (Addr × Obj)} {σ : L2.St} {H : Hp} {s : Shared} {a : Addr} {y v d : V} {u r : Value} {o : Option V} {A : Around} {E : Value → Shared → Prop}
theorem key_ofS {b : Addr} {ks : List Key} (I : L2.Inv X pins σ H s) (e : SqT X.K H b (ks.map kV)) : (tupleKind (mixKind X.prog X.w)).is s.heap ks b := by
  obtain ⟨its, rv, ⟨o, ho, hc, n, hd⟩, _⟩ := I.tuple e
  exact ⟨o, its.toArray, n, ho, hc, hd, by simpa using items_are rv⟩
def DGetS (K : PySem.W.Frag) (H : Hp) (a : Addr) (y : V) (r : Option V) : Prop := ∃ (kvs : List (List Key × V)) (k : List Key) (b : Addr), Rd H a (.dT kvs) ∧ y = .ref b ∧ SqT K H b (k.map kV) ∧ r = valV kvs k
theorem d_getItemS {Q : Value → Shared → Prop} (hu : A.units + 1 < cLine) (I : L2.Inv X pins σ H s) (g : DGetS X.K H a y (some v)) (ry : RelV y u) (h : ∀ w' s', L2.Inv X pins σ H s' → RelV v w' → Q w' s') :
    wpAny (model X.prog X.w) A (getItem (.ref a) u) Q E s := by
  obtain ⟨kvs, k, b, e, ey, eb, l⟩ := g
  subst ey
  cases (show u = Value.ref b from ry)
  obtain ⟨z, hd, xs, rel, dd⟩ := dt_rd I.hok e
  obtain ⟨w', hw, rw'⟩ := RelO.some_of (v := v) (o := (atKey xs k).map (·.2)) (by rw [l]; exact rel.val k)
  obtain ⟨p, hp, hp2⟩ := Option.map_eq_some_iff.mp hw
  refine wpAny_getItem_heap (tupleKind_room_in1 hu) (key_ofS I eb) dd hp ?_
  rw [hp2]
  exact h w' _ (I.tok _) rw'
theorem dict_typeIsS (I : L2.Inv X pins σ H s) (g : DGetS X.K H a y o) : s.TypeIs (.ref a) "dict" := by
  obtain ⟨kvs, k, b, e, _⟩ := g
  obtain ⟨_, _, _, _, dd⟩ := dt_rd I.hok e
  exact dd.typeIs
theorem d_get2S {Q : Value → Shared → Prop} (hu : A.units + 1 < cLine) (I : L2.Inv X pins σ H s) (g : DGetS X.K H a y o) (ry : RelV y u) (rd : RelV d r) (h : ∀ w' s', L2.Inv X pins σ H s' → RelV (o.getD d) w' → Q w' s') :
    wpAny (model X.prog X.w) A (call (.builtin "dict.get") [.ref a, u, r]) Q E s := by
  obtain ⟨kvs, k, b, e, ey, eb, l⟩ := g
  subst ey
  cases (show u = Value.ref b from ry)
  obtain ⟨z, hd, xs, rel, dd⟩ := dt_rd I.hok e
  refine call_meetsIn PySem.F.slot_dict_get dd.typeIs PySem.F.entry_dict_get (PySem.F.args_dict_get_3 _ _ _) (meetsH_dict_get_default (tupleKind (mixKind X.prog X.w)) a b hd r) ⟨tupleKind_room_in1 hu, k, xs, key_ofS I eb, dd, h _ _ (I.tok _) ?_⟩
  rw [l]
  exact (rel.val k).getD rd
end
def tDGetS (K : PySem.W.Frag) (td ty : TE) : TE := fun σ H Q => td σ H fun x H1 => ty σ H1 fun y H2 => ∃ a v, x = .ref a ∧ DGetS K H2 a y (some v) ∧ Q v H2
def tDGet2S (K : PySem.W.Frag) (td ty tx : TE) : TE := fun σ H Q => td σ H fun x H1 => ∃ a, x = .ref a ∧ IsD H1 a ∧ ty σ H1 fun y H2 => tx σ H2 fun z H3 => ∃ o, DGetS K H3 a y o ∧ Q (o.getD z) H3
/-- what is made is locked -/
def tLk (t : TE) : TE := fun σ H Q => t σ H fun v H1 => ∃ d u, v = .ref d ∧ H1 d = some u ∧ Mut (some u) ∧ ∀ od, Q v (upd H1 d (.frz od u))
def rSetD : V → V → V → Hp → (Hp → Prop) → Prop := fun o i v H Q => ∃ a H', o = .ref a ∧ DPut H a i v H' ∧ Q H'
def tDispT (tk tv : TE) : TE := fun σ H Q => ∀ p, H p = none → tk σ (upd H p (.dT [])) fun x H1 => tv σ H1 fun y H2 => H2 p = some (.dT []) ∧ ∃ (b : Addr) (k : List Key), x = .ref b ∧ H2 b = some (.tup (k.map kV)) ∧ Q (.ref p) (upd H2 p (.dT [(k, y)]))
def rTupP (K : PySem.W.Frag) : List V → Hp → VK → Prop := fun xs H Q => ∃ p ys, xs = [.ref p] ∧ SqL K H p ys ∧ ∀ l, H l = none → Q (.ref l) (upd H l (.tup ys))
section
variable {X : Cx} {o i e f k v : Expr} {pos apos cpos : Pos} {td ty tx tk tv t : TE}
theorem kdget (K : PySem.W.Frag) (hu : X.A.units + 1 < cLine) (ho : PE X o td) (hi : PE X i ty) (hs : NoSl i) (hK : X.K = K := by rfl) : PE X (.Subscript o i pos) (tDGetS K td ty) := by
  subst hK
  refine ⟨fun pins s σ H Q I h => ?_⟩
  refine subD_of PySem.F.slot_dict_getitem.lookup hs (thn (ho.run pins s σ H _ I h) fun u s1 ⟨x, H1, I1, rx, q1⟩ => thn (hi.run pins s1 σ H1 _ I1 q1) fun iv s2 ⟨y, H2, I2, ry, a, v, ex, g, q2⟩ => ?_)
  subst ex
  obtain rfl : u = Value.ref a := rx
  exact ⟨dict_typeIsS I2 g, d_getItemS hu I2 g ry fun w' s3 I3 rw' => ⟨v, H2, I3, rw', q2⟩⟩
theorem kdget2 (K : PySem.W.Frag) (hu : X.A.units + 1 < cLine) (ho : PE X o td) (he : PE X e ty) (hf : PE X f tx) (m : M2 X o "get" apos e f cpos) (hK : X.K = K := by rfl) : PE X (.Call (.Attribute o "get" apos) [e, f] [] cpos) (tDGet2S K td ty tx) := by
  subst hK
  refine ⟨fun pins s σ H Q I h => ?_⟩
  refine wpAny_Call_method m.base m.few m.line PySem.F.plainAttrs_dict PySem.F.slot_dict_get PySem.F.type_dict_get (thn (ho.run pins s σ H _ I h) fun u s1 ⟨x, H1, I1, rx, a, ex, d, q1⟩ => ?_)
  subst ex
  obtain rfl : u = Value.ref a := rx
  obtain ⟨t1, t2, _⟩ := isD_at I1 d
  refine ⟨t1, t2, ?_⟩
  rw [m.trees]
  refine Calls.callWith_builtin rfl (Calls.evalArgs_plain (Calls.spliced_cons (thn (he.run pins s1 σ H1 _ I1 q1) fun iv s2 ⟨y, H2, I2, ry, q2⟩ =>
    Calls.spliced_cons (thn (hf.run pins s2 σ H2 _ I2 q2) fun fv s3 ⟨z, H3, I3, rz, ov, g, q3⟩ => Calls.spliced_nil ?_))))
  exact d_get2S hu I3 g ry rz fun w' s4 I4 rw' => ⟨_, H3, I4, rw', q3⟩
theorem pe_lk (h : PE X e t) : PE X e (tLk t) := by
  refine ⟨fun pins s σ H Q I hw => thn (h.run pins s σ H _ I hw) fun v s1 ⟨x, H1, I1, r, d, u, ex, hd, mu, q⟩ => ?_⟩
  obtain ⟨od, I2⟩ := I1.lock hd mu
  exact ⟨x, _, I2, r, q od⟩
theorem set_dict (hu : X.A.units + 1 < cLine) : PSet X rSetD := by
  intro pins s σ H o i v ov iv u Q I ro ri rv h
  obtain ⟨a, H', rfl, g, q⟩ := h
  obtain rfl : ov = Value.ref a := ro
  exact d_setItem hu I g ri rv fun s' I' => ⟨H', I', q⟩
theorem ktupP (K : PySem.W.Frag) (hK : X.K = K := by rfl) : CallR X (.type "tuple") (rTupP K) := by
  subst hK
  intro pins s σ H xs us Q I r h
  obtain ⟨p, ys, e, hp, q⟩ := h
  exact call_tuple_of pins s σ H xs us Q I r ⟨p, ys, e, .inl ⟨hp, q⟩⟩
theorem pe_dispT (hu : X.A.units + 1 < cLine) (hk : PE X k tk) (hv : PE X v tv) : PE X (.Dict [some k] [v] pos) (tDispT tk tv) := by
  refine ⟨fun pins s σ H Q I q => ?_⟩
  have hn := I.hok.fresh (Nat.le_refl s.heap.objs.size)
  have I1 := I.laid (a := s.heap.objs.size) (o := .dT []) (h' := s.heap.push { cls := .type "dict", data := .dict #[] }) (t' := s.toks) (fun _ _ q => Heap.get?_push_of_some _ q) (Nat.le_refl _) (dt_empty s.heap I.big)
  rw [arm_eval_Dict, zip_pairTrees [some k] [v] X.env pos rfl rfl, dictDisplay_pairs (pairTrees [some k] [v] X.env pos) (by intro z; cases z) (by show 1 < 17; decide)]
  refine wpAny_bind (wpAny_standAt (wpAny_bind (wpAny_subDictH (knd := tupleKind (mixKind X.prog X.w)) (show X.A.units < cLine from Nat.lt_of_succ_lt hu) (by show 1 ≤ 15; decide) ?_)))
  refine pairTrees_cons_walk (thn (hk.run pins _ σ _ _ I1 (q _ hn)) fun u s1 ⟨x, H1, I2, rx, q1⟩ => thn (hv.run pins s1 σ H1 _ I2 q1) fun w2 s2 ⟨y, H2, I3, ry, e, b, ks, ex, hb, q2⟩ => pairTrees_nil_walk ?_)
  subst ex
  obtain rfl : u = Value.ref b := rx
  obtain ⟨z, hd, xs0, r0, dd⟩ := dt_of I3.hok e
  cases r0
  refine ⟨[(ks, b, w2)], ⟨rfl, rfl, key_of I3.hok hb, True.intro⟩, dd, fun h' tk dd' hs => wpAny_pure ⟨.ref s.heap.objs.size, _, ?_, rfl, q2⟩⟩
  obtain ⟨q, es, ep, hq, h2, h3, h4, _, h5⟩ := dd'
  have rel : KT H2 [(ks, y)] [(ks, b, w2)] := .cons ⟨rfl, hb, ry⟩ .nil
  refine d_write I3 (by rw [e]; exact True.intro) hs ⟨q, hq⟩ ⟨by show 1 ≤ sizeLine; decide, hd, [(ks, b, w2)], rel.keeps fun c ys ec => ?_, q, es, ep, hq, h2, h3, h4, h5⟩
  rw [upd_ne (ne_of ec e (fun z => nomatch z))]
  exact ec
end

/-! ### dicts with tuple keys, by data. Own work. -/
section
variable {K : PySem.W.Frag} {Δ : DK}
theorem sqt_key {H : Hp} {b : Addr} {ns : List Int} (h : SqT K H b (ns.map V.int)) : SqT K H b ((ns.map (Sum.inl : Int → Key)).map kV) := by
  rw [kV_inl]
  exact h
theorem Dv.tupN {H : Hp} {B : List Addr} {v : V} {ns : List Int} (h : Dv K H B v (tupD ns)) : ∃ p, v = .ref p ∧ SqT K H p (ns.map V.int) := by
  obtain ⟨p, xs, e, hp, hd⟩ := Dv.tupI h
  have := hd.ints
  subst this
  exact ⟨p, e, hp⟩
theorem re_dgetF {te tk : TE} {ae ak : AE} (h1 : RE K Δ te ae) (h2 : RE K Δ tk ak) : RE K Δ (tDGetS K te tk) (fun s A => ae s fun d s1 => ak s1 fun e s2 => ∃ es ns v, d = dicD es ∧ e = tupD ns ∧ valE es ns = some v ∧ A (.int v) s2) := by
  intro C B σ H s Q A E h q
  refine h1 C B σ H s _ _ E h fun v d H1 s1 a1 m1 E1 dv1 => h2 C B σ H1 s1 _ _ E1 a1 fun u e H2 s2 a2 m2 E2 dv2 => ?_
  obtain ⟨es, ns, w, ed, ee, hv, a⟩ := a2
  subst ed ee
  obtain ⟨p, o, ev, hp⟩ := (Dv.mv (m2.up E2.sub) _ _ dv1).dicI
  obtain ⟨b, eu, hb⟩ := dv2.tupN
  subst ev eu
  exact ⟨p, .int w, rfl, ⟨es.map ent, ns.map Sum.inl, b, .inr ⟨o, hp⟩, rfl, sqt_key hb, by rw [val_ent, hv]; rfl⟩, q _ _ _ _ a (m1.trans m2) E2 (.int w)⟩
theorem re_dget2O (i : Nat) {tk tx : TE} {ak ax : AE} (h1 : RE K Δ tk ak) (h2 : RE K Δ tx ax) : RE K Δ (tDGet2S K (tVar i) tk tx) (fun s A => ∃ es, s.env[i]? = some (.odc es) ∧ ak s fun e s1 => ax s1 fun z s2 => s2.env[i]? = some (.odc es) ∧
    ∃ ns c, e = tupD ns ∧ z = .int c ∧ A (.int ((valE es ns).getD c)) s2) := by
  intro C B σ H s Q A E h q
  obtain ⟨es, hi, h⟩ := h
  obtain ⟨p, hp, hH, _⟩ := E.odcAt hi
  refine ⟨.ref p, hp, p, rfl, .inr ⟨_, .inl hH⟩, h1 C B σ H s _ _ E h fun u e H1 s1 a1 m1 E1 dv1 => h2 C B σ H1 s1 _ _ E1 a1 fun z f H2 s2 a2 m2 E2 dv2 => ?_⟩
  obtain ⟨hi2, ns, c, ee, ef, a⟩ := a2
  subst ee ef
  obtain ⟨p', hp', hH', _⟩ := E2.odcAt hi2
  have ep : p' = p := by
    rw [hp] at hp'
    exact (V.ref.inj (Option.some.inj (Option.some.inj hp'))).symm
  subst ep
  obtain ⟨b, eu, hb⟩ := (Dv.mv (m2.up E2.sub) _ _ dv1).tupN
  subst eu
  have ez := dv_int dv2
  subst ez
  refine ⟨_, ⟨es.map ent, ns.map Sum.inl, b, .inl hH', rfl, sqt_key hb, rfl⟩, ?_⟩
  have : (valV (es.map ent) (ns.map Sum.inl)).getD (.int c) = .int ((valE es ns).getD c) := by
    rw [val_ent]
    cases valE es ns <;> rfl
  rw [this]
  exact q _ _ _ _ a (m1.trans m2) E2 (.int _)
theorem ri_keysD {te : TE} {ae : AE} (h1 : RE K Δ te ae) : RI K Δ (iKeys te) (fun s A => ae s fun d s1 => ∃ es, d = dicD es ∧ A (es.map fun e => tupD e.1) s1) := by
  intro C B σ H s R A E h q
  refine h1 C B σ H s _ _ E h fun v d H1 s1 a1 m1 E1 dv1 => ?_
  obtain ⟨es, ed, a⟩ := a1
  subst ed
  obtain ⟨p, o, ev, hp⟩ := dv1.dicI
  subst ev
  refine ⟨p, o, rfl, .inr ⟨es.map ent, hp, q _ _ _ _ a m1 E1 fun B' H' g st => ?_⟩⟩
  have hp' : H' p = some (.frz o (.dT (es.map ent))) := g.mv.st _ _ hard_frz hp
  refine ⟨fun i d hd => ?_, ⟨hp', by rw [List.length_map, List.length_map]; exact Nat.le_refl _⟩⟩
  rw [List.getElem?_map] at hd
  obtain ⟨e, he, ed⟩ := Option.map_eq_some_iff.mp hd
  subst ed
  have hl := (List.getElem?_eq_some_iff.mp he).1
  refine ⟨⟨hp', by rw [List.length_map]; exact hl⟩, fun x H2 yl => ?_⟩
  obtain ⟨e1, k, v, b, hk, ex, hb⟩ := yl
  subst e1 ex
  rw [List.getElem?_map, he] at hk
  have hk := Option.some.inj hk
  have ek : k = e.1.map Sum.inl := (congrArg Prod.fst hk).symm
  subst ek
  rw [kV_inl] at hb
  exact ⟨Same.refl _, .tup hb (dvInts e.1)⟩
theorem rs_odc (i : Nat) : RS K Δ (tAsg tDNewT (gName i)) (fun A s => A.nx (s.put i (.odc []))) := by
  intro C B σ H s D A E h qn qr p np
  refine qn (p :: B) _ _ _ h ⟨.of_same (same_upd np), fun b hb => ?_⟩ (E.putOwnX (us := dTo []) np rfl .d)
  rcases List.mem_cons.mp hb with z | z
  · rw [z]
    exact .inr np
  · exact .inl z
/-- what makes a plain tuple of ints -/
def RKey (K : PySem.W.Frag) (Δ : DK) (te : TE) (ak : AS → (List Int → AS → Prop) → Prop) : Prop := ∀ (C : Cy) (B : List Addr) (σ : L2.St) (H : Hp) (s : AS) (Q : VK) (A : List Int → AS → Prop), En K Δ C B σ H s → ak s A →
  (∀ p ns H' s', A ns s' → Mx Δ.w C.as H H' → En K Δ C B σ H' s' → H' p = some (.tup (ns.map V.int)) → Q (.ref p) H') → te σ H Q
theorem rk_tup {ta : TA} {aa : AA} (h1 : RA K Δ ta aa) : RKey K Δ (tCB (rTupP K) ta) (fun s A => aa s fun ds s1 => ∃ ns : List Int, ds = [.list (ns.map .int)] ∧ A ns s1) := by
  intro C B σ H s Q A E h q
  refine h1 C B σ H s _ _ E h fun vs ds H1 s1 a1 m1 E1 dv => ?_
  obtain ⟨ns, e, a⟩ := a1
  subst e
  obtain ⟨p, ev, hp⟩ := intsAt dv
  refine ⟨p, _, ev, hp, fun l nl => ?_⟩
  have sm := same_upd (o := .tup (ns.map V.int)) nl
  exact q _ _ _ _ a (m1.trans (.of_same sm)) (E1.same sm) upd_same
def spT (K : PySem.W.Frag) (R : List PyData → (List Int → Prop) → Prop) : Sp := fun vs H Q _ => ∃ (B : List Addr) (ds : List PyData) (A : List Int → Prop), Stands B H ∧ DvAll K H B vs ds ∧ R ds A ∧ ∀ p ns H', A ns → Same H H' → H' p = some (.tup (ns.map V.int)) → Q (.ref p) H'
theorem rk_call {R : List PyData → (List Int → Prop) → Prop} {ta : TA} {aa : AA} (h1 : RA K Δ ta aa) : RKey K Δ (tCall (spT K R) [] E0 ta) (fun s A => aa s fun ds s1 => R ds fun ns => A ns s1) := by
  intro C B σ H s Q A E h q
  refine h1 C B σ H s _ _ E h fun vs ds H1 s1 a1 m1 E1 dv => ?_
  exact ⟨B, ds, _, E1.st, by rw [List.append_nil]; exact dv, a1, fun p ns H' a sm hp => q _ _ _ _ a (m1.trans (.of_same sm)) (E1.same sm) hp⟩
theorem re_key {te : TE} {ak : AS → (List Int → AS → Prop) → Prop} (h : RKey K Δ te ak) : RE K Δ te (fun s A => ak s fun ns s1 => A (tupD ns) s1) := by
  intro C B σ H s Q A E h0 q
  exact h C B σ H s _ _ E h0 fun p ns H' s' a m E' hp => q _ _ _ _ a m E' (.tup hp (dvInts ns))
/-- k = ..; d[k] = .. -/
theorem rs_keyPut (i j : Nat) {te tv : TE} {ak : AS → (List Int → AS → Prop) → Prop} {av : AE} (hk : RKey K Δ te ak) (hv : RE K Δ tv av) :
    RS K Δ (tSeq (tAsg te (gName j)) (tAsg tv (gSub (tVar i) (tVar j) rSetD))) (fun A s => ak s fun ns s1 => av (s1.put j (.dat (tupD ns))) fun d s2 => ∃ es v, s2.env[i]? = some (.odc es) ∧ s2.env[j]? = some (.dat (tupD ns)) ∧ d = .int v ∧ es.length ≤ 100000 ∧ A.nx (s2.put i (.odc (putE es ns v)))) := by
  intro C B σ H s D A E h qn qr
  refine hk C B σ H s _ _ E h fun p ns H1 s1 a1 m1 E1 hp => ?_
  have E2 := E1.put (i := j) (v := .ref p) (d := tupD ns) (.tup hp (dvInts ns))
  refine hv C B _ H1 _ _ _ E2 a1 fun v d H2 s2 a2 m2 E3 dv => ?_
  obtain ⟨es, w, hi, hj, ed, hl, a⟩ := a2
  subst ed
  have ev := dv_int dv
  subst ev
  obtain ⟨q, hq, hH, _⟩ := E3.odcAt hi
  obtain ⟨v', hv', _⟩ := E3.sl j _ hj
  have hjl : j < (σ.set j (some (V.ref p))).length := (List.getElem?_eq_some_iff.mp hv').1
  have hp2 : H2 p = some (.tup (ns.map V.int)) := m2.mv.st _ _ hard_tup hp
  have hkey : H2 p = some (.tup ((ns.map (Sum.inl : Int → Key)).map kV)) := by rw [kV_inl]; exact hp2
  obtain ⟨E4, g4⟩ := E3.growX hi rfl rfl hq (.d (es := putE es ns w))
  have e4 : upd H2 q (dTo (putE es ns w)) = upd H2 q (.dT (putK (es.map ent) (ns.map Sum.inl) (.int w))) := by rw [put_ent]; rfl
  refine ⟨.ref q, hq, .ref p, by rw [List.getElem?_set_self (by rw [List.length_set] at hjl; exact hjl)], q, _, rfl, .inr ⟨es.map ent, ns.map Sum.inl, p, hH, rfl, hkey, ?_, rfl⟩, ?_⟩
  · rw [List.length_map]
    exact Nat.lt_of_le_of_lt hl (by decide)
  · rw [← e4]
    exact qn B _ _ _ a ((Go.of_mv (m1.up E.sub)).trans ((Go.of_mv (m2.up E.sub)).trans g4)) E4
/-- a dict of one's own is locked: data from now on -/
theorem En.lockD {C : Cy} {B : List Addr} {σ : L2.St} {H : Hp} {s : AS} (E : En K Δ C B σ H s) {i : Nat} {es : List (List Int × Int)} {p : Addr} (hi : s.env[i]? = some (.odc es)) (hp : σ[i]? = some (some (.ref p))) (o : Obj) :
    En K Δ C B σ (upd H p (.frz o (dTo es))) (s.put i .free) ∧ Mv B H (upd H p (.frz o (dTo es))) ∧ Mx Δ.w C.as C.H0 (upd H p (.frz o (dTo es))) ∧ ∀ k, s.k = some k → Δ.P (upd H p (.frz o (dTo es))) C.r C.as k := by
  obtain ⟨ad, h1, h2⟩ := E.ow
  obtain ⟨a1, a2, a3, a4, us, a5, a6⟩ := h1 i _ hi rfl
  have ep : p = ad i := by
    rw [a1] at hp
    exact (V.ref.inj (Option.some.inj (Option.some.inj hp))).symm
  subst ep
  have m : Mv B H (upd H (ad i) (.frz o (dTo es))) := .of_soft a5 a6.soft a2
  have mw : Mx Δ.w C.as C.H0 (upd H (ad i) (.frz o (dTo es))) := E.mw.fresh a4
  have dk : ∀ k, s.k = some k → Δ.P (upd H (ad i) (.frz o (dTo es))) C.r C.as k := fun k hk => Δ.mv (E.dk k hk) (fun a ha => upd_ne fun e => a3 (by rw [← e]; exact ha)) (nl_upd a5 a6.lsy)
  refine ⟨⟨by show _ = (s.env.set i _).length; rw [List.length_set]; exact E.len, fun j e z => ?_, fun j z => ?_, (E.ex.mv m).putS i _ (by intro a D d fs z; cases z), ⟨ad, fun j x z ho => ?_, fun j l x y z1 z2 o1 o2 ne => ?_⟩, ?_, E.sub, E.bc, dk, mw⟩, m, mw, dk⟩
  · rcases set_get z with ⟨_, q2, _⟩ | ⟨_, q2⟩
    · cases q2
    · obtain ⟨v, q3, q4⟩ := E.sl j e q2
      exact ⟨v, q3, q4.mv m⟩
  · rcases set_get z with ⟨_, q2, _⟩ | ⟨_, q2⟩
    · cases q2
    · exact E.dr j q2
  · rcases set_get z with ⟨q1, q2, _⟩ | ⟨q1, q2⟩
    · subst q2; cases ho
    · obtain ⟨b1, b2, b3, b4, us', b5, b6⟩ := h1 j x q2 ho
      have ne : ad j ≠ ad i := h2 j i _ _ q2 hi ho rfl q1
      exact ⟨b1, b2, b3, b4, us', by rw [upd_ne ne]; exact b5, b6.mv m⟩
  · rcases set_get z1 with ⟨_, q2, _⟩ | ⟨_, q2⟩
    · subst q2; cases o1
    · rcases set_get z2 with ⟨_, p2, _⟩ | ⟨_, p2⟩
      · subst p2; cases o2
      · exact h2 j l x y q2 p2 o1 o2 ne
  · intro b hb
    by_cases e : b = ad i
    · rw [e, upd_same]
      intro z
      cases z
    · rw [upd_ne e]
      exact E.st b hb
theorem rs_retD (i : Nat) : RS K Δ (tRet (tLk (tVar i))) (fun A s => ∃ es, s.env[i]? = some (.odc es) ∧ A.rt (dicD es) s) := by
  intro C B σ H s D A E h qn qr
  obtain ⟨es, hi, a⟩ := h
  obtain ⟨p, hp, hH, _⟩ := E.odcAt hi
  refine ⟨_, hp, p, dTo es, rfl, hH, True.intro, fun od => ?_⟩
  obtain ⟨_, _, mw, dk⟩ := E.lockD hi hp od
  exact qr _ _ _ s a ⟨.dcT upd_same, dk, mw⟩
theorem rs_give (i j : Nat) : RS K Δ (tAsg (tLk (tVar j)) (gName i)) (fun A s => ∃ es, s.env[j]? = some (.odc es) ∧ A.nx ((s.put j .free).put i (.dat (dicD es)))) := by
  intro C B σ H s D A E h qn qr
  obtain ⟨es, hi, a⟩ := h
  obtain ⟨p, hp, hH, _⟩ := E.odcAt hi
  refine ⟨_, hp, p, dTo es, rfl, hH, True.intro, fun od => ?_⟩
  obtain ⟨E1, m, _, _⟩ := E.lockD hi hp od
  exact qn B _ _ _ a (.of_mv m) (E1.put (.dcT upd_same))
/-- {tuple(range(x)): c} -/
theorem re_disV (i : Nat) {c : Int} : RE K Δ (tLk (tDispT (tTupRg (tRg1 (tVar i))) (tC (.int c)))) (fun s A => ∃ n, s.env[i]? = some (.dat (.int n)) ∧ RgOk 0 n ∧ A (dicD [(rgD 0 n, c)]) s) := by
  intro C B σ H s Q A E h q p np
  obtain ⟨n, hi, rg, a⟩ := h
  obtain ⟨v, hv, dv⟩ := E.sl i _ hi
  have ev := dv_int dv
  subst ev
  refine ⟨_, hv, n, rfl, rg, fun t nt => ?_⟩
  have npt : t ≠ p := fun z => by
    rw [z, upd_same] at nt
    cases nt
  have nt0 : H t = none := by rw [upd_ne npt] at nt; exact nt
  refine ⟨by rw [upd_ne npt.symm, upd_same], t, (rgD 0 n).map Sum.inl, rfl, by rw [upd_same, kV_inl, rgV_eq], p, _, rfl, upd_same, True.intro, fun od => ?_⟩
  have sm : Same H (upd (upd (upd (upd H p (.dT [])) t (.tup (rgV 0 n))) p (.dT [((rgD 0 n).map Sum.inl, .int c)])) p (.frz od (.dT [((rgD 0 n).map Sum.inl, .int c)]))) := by
    intro b o e
    have n1 : b ≠ p := fun z => by rw [z, np] at e; cases e
    have n2 : b ≠ t := fun z => by rw [z, nt0] at e; cases e
    rw [upd_ne n1, upd_ne n1, upd_ne n2, upd_ne n1]
    exact e
  exact q _ _ _ _ a (.of_same sm) (E.same sm) (.dcT (es := [(rgD 0 n, c)]) upd_same)
/-! lists of one's own: made by *, changed at a place -/
theorem rep_one {α : Type} (x : α) (n : Nat) : (List.replicate n [x]).flatten = List.replicate n x := by
  induction n with
  | zero => rfl
  | succ n ih => rw [List.replicate_succ, List.flatten_cons, ih, List.replicate_succ]; rfl
theorem DvAll.rep {H : Hp} {B : List Addr} {v : V} {d : PyData} (h : Dv K H B v d) : ∀ n : Nat, DvAll K H B (List.replicate n v) (List.replicate n d)
  | 0 => .nil
  | n + 1 => .cons h (DvAll.rep h n)
theorem DvAll.set : ∀ {H : Hp} {B : List Addr} {vs : List V} {ds : List PyData}, DvAll K H B vs ds → ∀ {v : V} {d : PyData}, Dv K H B v d → ∀ n : Nat, DvAll K H B (vs.set n v) (ds.set n d)
  | _, _, _, _, .nil, _, _, _, _ => .nil
  | _, _, _, _, .cons x r, _, _, h, 0 => .cons h r
  | _, _, _, _, .cons x r, _, _, h, n + 1 => .cons x (DvAll.set r h n)
theorem rs_ownRep (i : Nat) {te tn : TE} {ae an : AE} (h1 : RE K Δ te ae) (h2 : RE K Δ tn an) : RS K Δ (tAsg (tOp rRep (tLst (tCons te tNil)) tn) (gName i)) (fun A s => ae s fun d s1 => an s1 fun e s2 => ∃ n : Int, e = .int n ∧ -1000 ≤ n ∧ n ≤ 1000 ∧ A.nx (s2.put i (.own (List.replicate n.toNat d)))) := by
  intro C B σ H s D A E h qn qr
  refine h1 C B σ H s _ _ E h fun v d H1 s1 a1 m1 E1 dv1 => ⟨by show 1 ≤ sizeLine; decide, fun l nl => ?_⟩
  obtain ⟨sm, _⟩ := new_lst E1 nl (.cons dv1 .nil)
  refine h2 C B σ _ s1 _ _ (E1.same sm) a1 fun u e H2 s2 a2 m2 E2 dv2 => ?_
  obtain ⟨n, ee, n0, n1, a⟩ := a2
  subst ee
  have eu := dv_int dv2
  subst eu
  have hl2 : H2 l = some (.lst [v]) := m2.mv.kp _ _ (fun z => E1.newB nl (E1.sub _ z)) rfl upd_same
  refine ⟨l, n, [v], rfl, rfl, hl2, by omega, by omega, ?_, fun p np => ?_⟩
  · refine Nat.le_of_lt (small1000 ?_)
    show 1 * n.toNat ≤ 1000
    omega
  · rw [rep_one]
    have dv3 : Dv K H2 B v d := Dv.mv (m2.up E2.sub) _ _ (dv1.same sm)
    refine qn (p :: B) _ _ _ a ((Go.of_mv ((m1.trans (.of_same sm)).trans m2 |>.up E.sub)).trans ⟨.of_same (same_upd np), fun b hb => ?_⟩) (E2.putOwn np (DvAll.rep dv3 n.toNat))
    rcases List.mem_cons.mp hb with z | z
    · rw [z]
      exact .inr np
    · exact .inl z
theorem rs_setO (i : Nat) {te tk : TE} {ae ak : AE} (h1 : RE K Δ te ae) (h2 : RE K Δ tk ak) : RS K Δ (tAsg te (gSub (tVar i) tk L2.rSetL)) (fun A s => ae s fun d s1 => ∃ es, s1.env[i]? = some (.own es) ∧ ak s1 fun e s2 => ∃ (ds : List PyData) (n : Int), s2.env[i]? = some (.own ds) ∧ e = .int n ∧ 0 ≤ n ∧ n < ((ds.length : Nat) : Int) ∧ A.nx (s2.put i (.own (ds.set n.toNat d)))) := by
  intro C B σ H s D A E h qn qr
  refine h1 C B σ H s _ _ E h fun v d H1 s1 a1 m1 E1 dv1 => ?_
  obtain ⟨es, hi1, a1⟩ := a1
  obtain ⟨w, _, hw, _, _⟩ := E1.ownAt hi1
  refine ⟨_, hw, h2 C B σ H1 s1 _ _ E1 a1 fun u e H2 s2 a2 m2 E2 dv2 => ?_⟩
  obtain ⟨ds, n, hi, ee, n0, n1, a⟩ := a2
  subst ee
  have eu := dv_int dv2
  subst eu
  obtain ⟨p, us, hp, hus, hd⟩ := E2.ownAt hi
  have ew : w = p := by
    rw [hw] at hp
    exact V.ref.inj (Option.some.inj (Option.some.inj hp))
  subst ew
  have ll := hd.len
  refine ⟨w, us, n, n.toNat, rfl, rfl, hus, ixN_pos n0 (by omega), ?_⟩
  obtain ⟨E3, g3⟩ := E2.grow hi hp (hd.set (Dv.mv (m2.up E2.sub) _ _ dv1) n.toNat)
  exact qn B _ _ _ a ((Go.of_mv ((m1.trans m2).up E.sub)).trans g3) E3
end

/-! ### a dict with tuple keys that is updated, asked and lent. Own work. -/
def mergeT (kvs more : List (List Key × V)) : List (List Key × V) := more.foldl (fun acc kv => putK acc kv.1 kv.2) kvs
theorem KT.merge {H : Hp} {more : List (List Key × V)} {rs : List (List Key × Addr × Value)} (h : KT H more rs) : ∀ {kvs : List (List Key × V)} {xs : List (List Key × Addr × Value)}, KT H kvs xs → KT H (mergeT kvs more) (storedAllH xs rs) := by
  induction h with
  | nil => exact fun h => h
  | @cons p q ps qs h1 _ ih =>
    intro kvs xs h
    obtain ⟨e1, e2, e3⟩ := h1
    have := ih (h.put p.1 (b := q.2.1) (y := p.2) (u := q.2.2) e2 e3)
    rw [e1] at this
    show KT H (mergeT (putK kvs p.1 p.2) ps) (storedAllH (storedH xs q.1 q.2.1 q.2.2) qs)
    rw [e1]
    exact this
theorem KT.left {H : Hp} {kvs : List (List Key × V)} {rs : List (List Key × Addr × Value)} (h : KT H kvs rs) : ∀ x ∈ rs, ∃ y : List Key × V, y.1 = x.1 ∧ H x.2.1 = some (.tup (y.1.map kV)) ∧ L2.RelV y.2 x.2.2 := by
  induction h with
  | nil => exact fun x h => (List.not_mem_nil h).elim
  | @cons p q ps qs h1 _ ih =>
    intro x hx
    rcases List.mem_cons.mp hx with z | z
    · subst z
      exact ⟨p, h1⟩
    · exact ih x z
theorem KT.keys {H : Hp} {kvs : List (List Key × V)} {rs : List (List Key × Addr × Value)} (h : KT H kvs rs) : rs.map (·.1) = kvs.map (·.1) := by
  induction h with
  | nil => rfl
  | @cons p q ps qs h1 _ ih => rw [List.map_cons, List.map_cons, ih, h1.1]
def hashK (ns : List Int) : Int := reduceHash (Builtin.Tuple.tupleHashOf (ns.map hashInt))
theorem hash_inl (P : Program) (w : World) (ns : List Int) : (tupleKind (mixKind P w)).hash (ns.map (Sum.inl : Int → Key)) = hashK ns := by
  show reduceHash (Builtin.Tuple.tupleHashOf ((ns.map (Sum.inl : Int → Key)).map (keyH w))) = _
  rw [List.map_map]
  rfl
theorem putK_len {kvs : List (List Key × V)} {k : List Key} {v : V} : (putK kvs k v).length ≤ kvs.length + 1 := by
  unfold putK
  split
  · rw [List.length_map]; omega
  · rw [List.length_append]; exact Nat.le_refl _
theorem mergeT_len : ∀ {more kvs : List (List Key × V)}, (mergeT kvs more).length ≤ kvs.length + more.length
  | [], _ => Nat.le_refl _
  | e :: more, kvs => by
    have h1 := mergeT_len (more := more) (kvs := putK kvs e.1 e.2)
    have h2 := putK_len (kvs := kvs) (k := e.1) (v := e.2)
    show (mergeT (putK kvs e.1 e.2) more).length ≤ kvs.length + (more.length + 1)
    omega
section
variable {X : Cx} {pins : List (Addr × Obj)} {σ : L2.St} {H : Hp} {s : Shared}
/-- what a list of pairs (tuple of keys, value) holds -/
def PairTs (H : Hp) (ps : List Addr) (kvs : List (List Key × Addr × V)) : Prop := Paired (fun p (kv : List Key × Addr × V) => H p = some (.tup [.ref kv.2.1, kv.2.2]) ∧ H kv.2.1 = some (.tup (kv.1.map kV))) ps kvs
theorem pairTs {ps : List Addr} {kvs : List (List Key × Addr × V)} (I : L2.Inv X pins σ H s) (h : PairTs H ps kvs) :
    ∃ (rs : List (List Key × Addr × Value)), KT H (kvs.map fun z => (z.1, z.2.2)) rs ∧ rs.length = ps.length ∧
      ∀ (j : Nat) (k v : Value), (rs.map fun r => (Value.ref r.2.1, r.2.2))[j]? = some (k, v) → ∃ b, ps[j]? = some b ∧ IsTup s.heap b #[k, v] := by
  induction h with
  | nil => exact ⟨[], .nil, rfl, fun j k v e => by simp at e⟩
  | @cons p kv ps kvs h1 _ ih =>
    obtain ⟨rs, r, hl, hp⟩ := ih
    obtain ⟨its, rv, ht, _⟩ := I.tuple (SqT.of h1.1)
    obtain ⟨u, y, ei, ru, ry⟩ := vals2 rv
    subst ei
    obtain rfl : u = Value.ref kv.2.1 := ru
    refine ⟨(kv.1, kv.2.1, y) :: rs, .cons ⟨rfl, h1.2, ry⟩ r, by rw [List.length_cons, List.length_cons, hl], fun j k v e => ?_⟩
    cases j with
    | zero =>
      cases (Option.some.inj e)
      exact ⟨p, rfl, ht⟩
    | succ j => exact hp j k v (by simpa using e)
def rDictPT (K : PySem.W.Frag) : List V → Hp → VK → Prop := fun xs H Q => ∃ (a : Addr) (ps : List Addr) (kvs : List (List Key × Addr × V)), xs = [.ref a] ∧ SqL K H a (ps.map V.ref) ∧ PairTs H ps kvs ∧
  ∀ p, H p = none → Q (.ref p) (upd H p (.dT (mergeT [] (kvs.map fun z => (z.1, z.2.2)))))
theorem call_dictPT (hcalm : X.calm = true) (hu : X.A.units + 2 < cLine) : CallR X (.type "dict") (rDictPT X.K) := by
  intro pins s σ H xs us Q I r h
  obtain ⟨a, ps, kvs, e, ha, hp, q⟩ := h
  subst e
  obtain ⟨u, e, rx⟩ := vals1 r
  subst e
  obtain rfl : u = Value.ref a := rx
  obtain ⟨its, rv, ⟨o, n, ho, hc, hod, hd⟩, hz⟩ := I.list ha
  obtain ⟨rs, rel, hl, hpr⟩ := pairTs I hp
  have ei := refs_at rv
  subst ei
  rw [List.length_map] at hz
  have PA1 := PairArg.list (prog := X.prog) (w := X.w) a (ps.map Value.ref).toArray (fun j => ps.getD j 0) (rs.map fun r => (Value.ref r.2.1, r.2.2))
  refine PySem.call_dict_pairsH (knd := tupleKind (mixKind X.prog X.w)) (ps := rs) PA1 (I.ok.hd hcalm) ?_ ⟨⟨o, n, ho, hc, hod, hd⟩, ?_, ?_⟩ ⟨?_, ?_⟩ ?_ (by rw [List.length_map, hl]; exact hz) ?_
  · exact tupleKind_room_in1 (A := X.A.in1) hu
  · rw [List.size_toArray, List.length_map, List.length_map, hl]
  · intro j k v e
    obtain ⟨b, e1, e2⟩ := hpr j k v e
    have eb : ps.getD j 0 = b := by
      rw [List.getD_eq_getElem?_getD, e1]
      rfl
    refine ⟨?_, .inl ?_⟩
    · show (ps.map Value.ref).toArray[j]? = some (.ref (ps.getD j 0))
      rw [eb, List.getElem?_toArray, List.getElem?_map, e1]
      rfl
    · show s.heap.IsTuple (ps.getD j 0) #[k, v]
      rw [eb]
      exact e2
  · rw [List.length_map]
  · intro i key v e
    have e : (rs.map fun r => (Value.ref r.2.1, r.2.2))[i]? = some (key, v) := e
    rw [List.getElem?_map] at e
    obtain ⟨z, e1, e2⟩ := Option.map_eq_some_iff.mp e
    cases e2
    exact ⟨z.1, z.2.1, e1, rfl⟩
  · intro h' kp x hx
    have kp' : ∀ b o, s.heap.get? b = some o → h'.get? b = some o := fun b o e => kp b o (fun z => by
      rw [z] at e
      simp [Heap.get?] at e) List.not_mem_nil e
    obtain ⟨y, q1, q2, _⟩ := KT.left rel x hx
    have := key_of (I.kept (t' := s.toks) kp').hok q2
    rw [q1] at this
    exact this
  · intro h' tk hd' hk
    have hm : (s.heap.objs.size == sysModules) = false := beq_eq_false_iff_ne.mpr (Nat.ne_of_gt I.big)
    have hlen : (mergeT [] (kvs.map fun z => (z.1, z.2.2))).length ≤ sizeLine := by
      have h1 := mergeT_len (more := kvs.map fun z => (z.1, z.2.2)) (kvs := [])
      have h2 := rel.length
      rw [List.length_nil] at h1
      omega
    obtain ⟨o', es, ep, d1, d2, d3, d4, _, d5⟩ := hd'
    have hn := I.hok.fresh (Nat.le_refl s.heap.objs.size)
    refine ⟨.ref s.heap.objs.size, upd H s.heap.objs.size (.dT (mergeT [] (kvs.map fun z => (z.1, z.2.2)))), ?_, rfl, q _ hn⟩
    exact I.laid (t' := tk) (fun b o e => hk b o List.not_mem_nil e) (Nat.le_refl _)
      (show ObjOk X.prog X.w _ _ _ (.dT (mergeT [] (kvs.map fun z => (z.1, z.2.2)))) from ⟨hlen, hm, storedAllH [] rs, (KT.merge rel .nil).keeps fun b ys e => by rw [upd_ne (ne_of_none e hn)]; exact e, o', es, ep, d1, d2, d3, d4, d5⟩)
/-- d.update(e), both with tuple keys -/
def rUpdT : V → List V → Hp → VK → Prop := fun x xs H Q => ∃ (a b : Addr) (kvs more : List (List Key × V)), x = .ref a ∧ xs = [.ref b] ∧ a ≠ b ∧ H a = some (.dT kvs) ∧ H b = some (.dT more) ∧
  (kvs ≠ [] ∨ ∃ nss : List (List Int), more.map (·.1) = nss.map (fun ns => ns.map Sum.inl) ∧ (nss.map hashK).Nodup) ∧ kvs.length + more.length ≤ sizeLine ∧ Q .non (upd H a (.dT (mergeT kvs more)))
theorem mt_updT (hu : X.A.units + 1 < cLine) : MtR X "dict.update" rUpdT := by
  intro pins s σ H x xs v us Q I rx r h
  obtain ⟨a, b, kvs, more, ex, exs, ne, ha, hb, hh, hl, q⟩ := h
  subst ex exs
  obtain rfl : v = Value.ref a := rx
  obtain ⟨u, e, ru⟩ := vals1 r
  subst e
  obtain rfl : u = Value.ref b := ru
  obtain ⟨l1, m1, xa, ra, da⟩ := dt_of I.hok ha
  obtain ⟨l2, m2, xb, rb, db⟩ := dt_of I.hok hb
  refine call_update_dictH (knd := tupleKind (mixKind X.prog X.w)) (kvs := xa) (more := xb) (tupleKind_room_in1 hu) ne m2 da db ?_ (by rw [← ra.length, ← rb.length]; exact hl) ?_
  · rcases hh with hh | ⟨nss, hn, hh⟩
    · refine .inl fun z => hh ?_
      have := ra.length
      rw [z, List.length_nil] at this
      exact List.eq_nil_of_length_eq_zero this
    · refine .inr ⟨fun x hx => ?_, ?_⟩
      · obtain ⟨y, _, q2, _⟩ := KT.left rb x hx
        obtain ⟨its, rv, ⟨o, ho, hc, n, hd⟩, _⟩ := I.tuple (SqT.of q2)
        exact ⟨o, ho, hc⟩
      · have : xb.map (fun x => (tupleKind (mixKind X.prog X.w)).hash x.1) = nss.map hashK := by
          have e1 := KT.keys rb
          rw [hn] at e1
          have e2 : (xb.map (·.1)).map (fun k => (tupleKind (mixKind X.prog X.w)).hash k) = (nss.map (fun ns => ns.map (Sum.inl : Int → Key))).map (fun k => (tupleKind (mixKind X.prog X.w)).hash k) := by rw [e1]
          rw [List.map_map, List.map_map] at e2
          refine e2.trans (List.map_congr_left fun ns _ => ?_)
          exact hash_inl _ _ ns
        rw [this]
        exact hh
  · intro h' d1 d2 sb
    obtain ⟨o', es, ep, e1, e2, e3, e4, _, e5⟩ := d1
    refine ⟨.non, upd H a (.dT (mergeT kvs more)), d_write I (by rw [ha]; exact True.intro) sb ⟨_, e1⟩ ⟨?_, m1, storedAllH xa xb, (KT.merge rb ra).keeps fun c ys ec => ?_, o', es, ep, e1, e2, e3, e4, e5⟩, rfl, q⟩
    · exact Nat.le_trans mergeT_len hl
    · rw [upd_ne (ne_of ec ha (fun z => nomatch z))]
      exact ec
theorem kdictPT (K : PySem.W.Frag) (hc : X.calm = true) (hu : X.A.units + 64 < cLine) (hK : X.K = K := by rfl) : CallR X (.type "dict") (rDictPT K) := by
  subst hK
  exact call_dictPT hc (by omega)
theorem kupdT (hu : X.A.units + 64 < cLine) : MtR X "dict.update" rUpdT := mt_updT (by omega)
end
/-! by data -/
def mergeE (es more : List (List Int × Int)) : List (List Int × Int) := more.foldl (fun acc e => putE acc e.1 e.2) es
theorem putE_new {es : List (List Int × Int)} {k : List Int} {v : Int} (h : k ∉ es.map (·.1)) : putE es k v = es ++ [(k, v)] := by
  unfold putE
  rw [if_neg fun z => ?_]
  obtain ⟨e, he, z⟩ := List.any_eq_true.mp z
  exact h (List.mem_map.mpr ⟨e, he, of_decide_eq_true z⟩)
theorem mergeE_nd : ∀ (more es : List (List Int × Int)), ((es ++ more).map (·.1)).Nodup → mergeE es more = es ++ more
  | [], es, _ => (List.append_nil es).symm
  | e :: more, es, h => by
    show mergeE (putE es e.1 e.2) more = _
    have h' := h
    rw [List.map_append, List.map_cons] at h'
    rw [putE_new fun z => ?_]
    · have := mergeE_nd more (es ++ [(e.1, e.2)]) (by rw [List.append_assoc]; exact h)
      rw [this, List.append_assoc]
      rfl
    · exact (List.nodup_append.mp h').2.2 _ z _ List.mem_cons_self rfl
theorem merge_ent : ∀ (more es : List (List Int × Int)), mergeT (es.map ent) (more.map ent) = (mergeE es more).map ent
  | [], es => rfl
  | e :: more, es => by
    show mergeT (putK (es.map ent) (e.1.map Sum.inl) (.int e.2)) (more.map ent) = (mergeE (putE es e.1 e.2) more).map ent
    rw [put_ent]
    exact merge_ent more _
section
variable {K : PySem.W.Frag} {Δ : DK}
theorem En.give {C : Cy} {B : List Addr} {σ : L2.St} {H : Hp} {s : AS} (E : En K Δ C B σ H s) {j : Nat} {ds : List PyData} (hj : s.env[j]? = some (.own ds)) : ∃ B', (∀ b ∈ B', b ∈ B) ∧ En K Δ C B' σ H (s.put j (.dat (.list ds))) := by
  obtain ⟨ad, h1, h2⟩ := E.ow
  obtain ⟨a1, a2, a3, a4, u, a5, a6⟩ := h1 j _ hj rfl
  cases a6 with
  | @l us _ hd =>
  have sub : ∀ b ∈ B.filter (fun b => decide (b ≠ ad j)), b ∈ B := fun b hb => (List.mem_filter.mp hb).1
  have inn : ∀ b ∈ B, b ≠ ad j → b ∈ B.filter (fun b => decide (b ≠ ad j)) := fun b hb n => List.mem_filter.mpr ⟨hb, decide_eq_true n⟩
  have out : ad j ∉ B.filter (fun b => decide (b ≠ ad j)) := fun z => (of_decide_eq_true (List.mem_filter.mp z).2) rfl
  refine ⟨_, sub, ⟨by show _ = (s.env.set j _).length; rw [List.length_set]; exact E.len, fun l e z => ?_, fun l z => ?_, (E.ex.anti sub).putS j _ (by intro a D d fs z; cases z), ⟨ad, fun l x z ho => ?_, fun l k x y z1 z2 o1 o2 ne => ?_⟩, fun b hb => E.st b (sub b hb), fun b hb => inn b (E.sub b hb) (fun e => a3 (by rw [← e]; exact hb)), fun b hb => inn b (E.bc b hb) (fun e => C.st0 b hb (by rw [e]; exact a4)), E.dk, E.mw⟩⟩
  · rcases set_get z with ⟨q1, q2, _⟩ | ⟨_, q2⟩
    · subst q1
      cases q2
      exact ⟨_, a1, .lst a5 out (DvAll.anti sub _ _ hd)⟩
    · obtain ⟨v, q3, q4⟩ := E.sl l e q2
      exact ⟨v, q3, Dv.anti sub _ _ q4⟩
  · rcases set_get z with ⟨_, q2, _⟩ | ⟨_, q2⟩
    · cases q2
    · exact E.dr l q2
  · rcases set_get z with ⟨_, q2, _⟩ | ⟨q1, q2⟩
    · subst q2; cases ho
    · obtain ⟨b1, b2, b3, b4, us', b5, b6⟩ := h1 l x q2 ho
      exact ⟨b1, inn _ b2 (h2 l j _ _ q2 hj ho rfl q1), b3, b4, us', b5, b6.anti sub⟩
  · rcases set_get z1 with ⟨_, q2, _⟩ | ⟨_, q2⟩
    · subst q2; cases o1
    · rcases set_get z2 with ⟨_, p2, _⟩ | ⟨_, p2⟩
      · subst p2; cases o2
      · exact h2 l k x y q2 p2 o1 o2 ne
/-- ys, d, n = e, {}, c -/
theorem rs_par3D (i j l : Nat) {c : Int} {te : TE} {ae : AE} (h1 : RE K Δ te ae) : RS K Δ (tAsg (tTup (tCons te (tCons tDNewT (tCons (tC (.int c)) tNil)))) (gTup K 3 (gCons (gName i) (gCons (gName j) (gCons (gName l) gNil))))) (fun A s => ae s fun d s1 => A.nx (((s1.put i (.dat d)).put j (.odc [])).put l (.dat (.int c)))) := by
  intro C B σ H s D A E h qn qr
  refine h1 C B σ H s _ _ E h fun v d H1 s1 a1 m1 E1 dv p np => ?_
  refine ⟨by show 3 ≤ sizeLine; decide, fun r nr => ⟨r, [v, .ref p, .int c], rfl, SqT.of upd_same, rfl, _, _, rfl, _, _, rfl, _, _, rfl, rfl, ?_⟩⟩
  have sm := same_upd (o := .tup [v, V.ref p, .int c]) nr
  refine qn (p :: B) _ _ _ a1 (((Go.of_mv (m1.up E.sub)).trans ⟨.of_same (same_upd np), fun b hb => ?_⟩).trans (.of_mv (.of_same sm))) ((((E1.put dv).putOwnX (us := dTo []) np rfl .d).put (.int c)).same sm)
  rcases List.mem_cons.mp hb with z | z
  · rw [z]
    exact .inr np
  · exact .inl z
/-- ys, zs, n = e, [], n + c -/
theorem rs_par3L (i j l k : Nat) {c : Int} {te : TE} {ae : AE} (h1 : RE K Δ te ae) : RS K Δ (tAsg (tTup (tCons te (tCons (tLst tNil) (tCons (tOp (rI0 fun i j => .int (i + j)) (tVar k) (tC (.int c))) tNil)))) (gTup K 3 (gCons (gName i) (gCons (gName j) (gCons (gName l) gNil))))) (fun A s => ae s fun d s1 => ∃ n, s1.env[k]? = some (.dat (.int n)) ∧ A.nx (((s1.put i (.dat d)).put j (.own [])).put l (.dat (.int (n + c))))) := by
  intro C B σ H s D A E h qn qr
  refine h1 C B σ H s _ _ E h fun v d H1 s1 a1 m1 E1 dv => ⟨Nat.zero_le _, fun p np => ?_⟩
  obtain ⟨n, hk, a⟩ := a1
  obtain ⟨x, hx, dx⟩ := E1.sl k _ hk
  have ex := dv_int dx
  subst ex
  refine ⟨_, hx, n, c, rfl, rfl, by show 3 ≤ sizeLine; decide, fun r nr => ⟨r, [v, .ref p, .int (n + c)], rfl, SqT.of upd_same, rfl, _, _, rfl, _, _, rfl, _, _, rfl, rfl, ?_⟩⟩
  have sm := same_upd (o := .tup [v, V.ref p, .int (n + c)]) nr
  exact qn (p :: B) _ _ _ a (((Go.of_mv (m1.up E.sub)).trans (go_new np)).trans (.of_mv (.of_same sm))) ((((E1.put dv).putOwn np .nil).put (.int _)).same sm)
theorem PairTs.of {H : Hp} {B : List Addr} : ∀ {us : List V} {es : List (List Int × Int)}, DvAll K H B us (es.map fun e => .tuple [tupD e.1, .int e.2]) → ∃ (ps : List Addr) (kvs : List (List Key × Addr × V)), us = ps.map V.ref ∧ PairTs H ps kvs ∧ kvs.map (fun z => (z.1, z.2.2)) = es.map ent
  | us, [], h => by
    cases h
    exact ⟨[], [], rfl, .nil, rfl⟩
  | us, e :: es, h => by
    cases h with
    | cons h1 h2 =>
      obtain ⟨ps, kvs, e1, e2, e3⟩ := PairTs.of h2
      obtain ⟨p, xs, ev, hp, hd⟩ := Dv.tupW h1
      obtain ⟨x, y, exs, dx, dy⟩ := hd.two
      have ey := dv_int dy
      obtain ⟨b, ys, eb, hb, hd⟩ := Dv.tupW dx
      have := hd.ints
      subst this
      subst ev exs ey eb e1
      refine ⟨p :: ps, (e.1.map Sum.inl, b, .int e.2) :: kvs, rfl, .cons ⟨hp, by rw [kV_inl]; exact hb⟩ e2, ?_⟩
      rw [List.map_cons, List.map_cons, e3]
      rfl
/-- d.update(dict([(k, n), ..])) -/
theorem rs_updO (i : Nat) {te : TE} {ae : AE} (h1 : RE K Δ te ae) : RS K Δ (tDrop (tBM K "dict" rUpdT (tVar i) (tCons (tCB (rDictPT K) (tCons te tNil)) tNil)))
    (fun A s => (∃ es, s.env[i]? = some (.odc es)) ∧ ae s fun d s1 => ∃ (es more : List (List Int × Int)), s1.env[i]? = some (.odc es) ∧ d = .list (more.map fun e => .tuple [tupD e.1, .int e.2]) ∧ (es ≠ [] ∨ (more.map fun e => hashK e.1).Nodup) ∧
      (more.map (·.1)).Nodup ∧ es.length + more.length ≤ 100000 ∧ A.nx (s1.put i (.odc (mergeE es more)))) := by
  intro C B σ H s D A E h qn qr
  obtain ⟨⟨es0, hi0⟩, h⟩ := h
  obtain ⟨p0, hp0, hH0, _⟩ := E.odcAt hi0
  refine ⟨.ref p0, hp0, .inr (.inr (.inl ⟨rfl, .inr ⟨_, hH0⟩⟩)), h1 C B σ H s _ _ E h fun v d H1 s1 a1 m1 E1 dv => ?_⟩
  obtain ⟨es, more, hi, ed, hh, hnd, hl, a⟩ := a1
  subst ed
  obtain ⟨p, hp, hH, pb⟩ := E1.odcAt hi
  obtain rfl : p = p0 := by
    rw [hp0] at hp
    exact (V.ref.inj (Option.some.inj (Option.some.inj hp))).symm
  obtain ⟨q, us, ev, hq, _, hd⟩ := Dv.lstI dv
  obtain ⟨ps, kvs, e1, e2, e3⟩ := PairTs.of hd
  subst ev e1
  refine ⟨q, ps, kvs, rfl, SqL.of hq, e2, fun r nr => ?_⟩
  rw [e3]
  have em : mergeT [] (more.map ent) = more.map ent := (merge_ent more []).trans (by rw [mergeE_nd more [] hnd]; rfl)
  rw [em]
  have sm : Same H1 (upd H1 r (.dT (more.map ent))) := same_upd nr
  have E2 := E1.same sm
  have hp2 : upd H1 r (.dT (more.map ent)) p = some (.dT (es.map ent)) := sm _ _ hH
  refine ⟨p, r, es.map ent, more.map ent, rfl, rfl, fun z => ?_, hp2, upd_same, ?_, ?_, ?_⟩
  · rw [← z, hH] at nr
    cases nr
  · rcases hh with hh | hh
    · exact .inl fun z => hh (List.map_eq_nil_iff.mp z)
    · refine .inr ⟨more.map (·.1), by rw [List.map_map, List.map_map]; rfl, by rw [List.map_map]; exact hh⟩
  · rw [List.length_map, List.length_map]
    exact Nat.le_trans hl (by decide)
  · rw [merge_ent]
    obtain ⟨E3, g3⟩ := E2.growX hi rfl rfl hp (.d (es := mergeE es more))
    exact qn B _ _ _ a ((Go.of_mv (m1.up E.sub)).trans ((Go.of_mv (.of_same sm)).trans g3)) E3
/-- x in d, x not in d: d one's own -/
theorem re_dnin (i : Nat) {te : TE} {ae : AE} (h1 : RE K Δ te ae) : RE K Δ (tDNotIn te (tVar i)) (fun s A => ae s fun d s1 => ∃ es ns, s1.env[i]? = some (.odc es) ∧ d = tupD ns ∧ A (.bool (!(valE es ns).isSome)) s1) := by
  intro C B σ H s Q A E h q
  refine h1 C B σ H s _ _ E h fun v d H1 s1 a1 m1 E1 dv => ?_
  obtain ⟨es, ns, hi, ed, a⟩ := a1
  subst ed
  obtain ⟨p, hp, hH, _⟩ := E1.odcAt hi
  obtain ⟨b, ys, eb, hb, hd⟩ := Dv.tupW dv
  have := hd.ints
  subst this eb
  refine ⟨_, hp, p, _, rfl, .inr ⟨es.map ent, ns.map Sum.inl, b, .inl hH, rfl, by rw [kV_inl]; exact hb, rfl⟩, ?_⟩
  have e : (valV (es.map ent) (ns.map Sum.inl)).isSome = (valE es ns).isSome := by
    rw [val_ent]
    cases valE es ns <;> rfl
  rw [e]
  exact q _ _ _ _ a m1 E1 (.bl _)
theorem re_dinD {te td : TE} {ae ad : AE} (h1 : RE K Δ te ae) (h2 : RE K Δ td ad) : RE K Δ (tDIn te td) (fun s A => ae s fun d s1 => ad s1 fun e s2 => ∃ es ns, e = dicD es ∧ d = tupD ns ∧ A (.bool (valE es ns).isSome) s2) := by
  intro C B σ H s Q A E h q
  refine h1 C B σ H s _ _ E h fun v d H1 s1 a1 m1 E1 dv => h2 C B σ H1 s1 _ _ E1 a1 fun u e H2 s2 a2 m2 E2 du => ?_
  obtain ⟨es, ns, ee, ed, a⟩ := a2
  subst ed ee
  obtain ⟨p, o, ev, hp⟩ := du.dicI
  obtain ⟨b, ys, eb, hb, hd⟩ := Dv.tupW (Dv.mv (m2.up E2.sub) _ _ dv)
  have := hd.ints
  subst this eb ev
  refine ⟨p, _, rfl, .inr ⟨es.map ent, ns.map Sum.inl, b, .inr ⟨o, hp⟩, rfl, by rw [kV_inl]; exact hb, rfl⟩, ?_⟩
  have e : (valV (es.map ent) (ns.map Sum.inl)).isSome = (valE es ns).isSome := by
    rw [val_ent]
    cases valE es ns <;> rfl
  rw [e]
  exact q _ _ _ _ a (m1.trans m2) E2 (.bl _)
def optD : Option Int → PyData
  | none => .none
  | some v => .int v
/-- d.get(x) -/
theorem re_dget1D {td te : TE} {ad ae : AE} (h1 : RE K Δ td ad) (h2 : RE K Δ te ae) : RE K Δ (tDGet1 td te) (fun s A => ad s fun d s1 => ∃ es, d = dicD es ∧ ae s1 fun e s2 => ∃ ns, e = tupD ns ∧ A (optD (valE es ns)) s2) := by
  intro C B σ H s Q A E h q
  refine h1 C B σ H s _ _ E h fun v d H1 s1 a1 m1 E1 dv => ?_
  obtain ⟨es, ed, a1⟩ := a1
  subst ed
  obtain ⟨p, o, ev, hp⟩ := dv.dicI
  subst ev
  refine ⟨p, rfl, .inr ⟨_, .inr ⟨o, hp⟩⟩, h2 C B σ H1 s1 _ _ E1 a1 fun u e H2 s2 a2 m2 E2 du => ?_⟩
  obtain ⟨ns, ee, a⟩ := a2
  subst ee
  obtain ⟨b, ys, eb, hb, hd⟩ := Dv.tupW du
  have := hd.ints
  subst this eb
  refine ⟨_, .inr ⟨es.map ent, ns.map Sum.inl, b, .inr ⟨o, m2.mv.st _ _ hard_frz hp⟩, rfl, by rw [kV_inl]; exact hb, rfl⟩, ?_⟩
  refine q _ _ _ _ a (m1.trans m2) E2 ?_
  rw [val_ent]
  cases valE es ns with
  | none => exact .non
  | some v => exact .int v
/-- a def that reads a dict of one's own, lent for the call -/
theorem re_lk4 (i j1 j2 j3 : Nat) {R : RP} : RE K Δ (tLockE (tCall (spP K R) [] E0 (tCons (tVar j1) (tCons (tVar j2) (tCons (tVar j3) (tCons (tVar i) tNil)))))) (fun s A => ∃ d1 d2 d3 es, s.env[j1]? = some (.dat d1) ∧ s.env[j2]? = some (.dat d2) ∧ s.env[j3]? = some (.dat d3) ∧ s.env[i]? = some (.odc es) ∧
    R [d1, d2, d3, dicD es] fun d => ∃ b, d = .bool b ∧ A (.bool b) s) := by
  intro C B σ H s Q A E h q
  obtain ⟨d1, d2, d3, es, k1, k2, k3, hi, h⟩ := h
  obtain ⟨p, hp, hH, pb⟩ := E.odcAt hi
  refine ⟨p, dTo es, hH, True.intro, fun od => ?_⟩
  obtain ⟨v1, e1, x1⟩ := E.sl _ _ k1
  obtain ⟨v2, e2, x2⟩ := E.sl _ _ k2
  obtain ⟨v3, e3, x3⟩ := E.sl _ _ k3
  obtain ⟨_, m, _, _⟩ := E.lockD hi hp od
  refine ⟨v1, e1, v2, e2, v3, e3, .ref p, hp, B, _, _, fun b hb => m.al b (E.st b hb), .cons (x1.mv m) (.cons (x2.mv m) (.cons (x3.mv m) (.cons (.dcT upd_same) .nil))), h, fun v d H' a sm dv => ?_⟩
  obtain ⟨b, ed, a⟩ := a
  subst ed
  cases dv
  refine ⟨sm _ _ upd_same, ?_⟩
  have sm2 : Same H (upd H' p (dTo es)) := fun c o e => by
    by_cases z : c = p
    · subst z
      rw [hH] at e
      rw [upd_same]
      exact e
    · rw [upd_ne z]
      exact sm _ _ (by rw [upd_ne z]; exact e)
  exact q _ _ _ _ a (.of_same sm2) (E.same sm2) (.bl _)
/-- a list of one's own that a loop fills is data behind it -/
theorem rs_gvFor (j n : Nat) {wi : TI} {ai : AI} {ga : AG} {is : List Nat} {t : TS} {ab : AStm} (hi : RI K Δ wi ai) (hg : RG K Δ (gName n) ga is) (hb : RS K Δ t ab) :
    RS K Δ (tFor wi (gName n) t) (fun A s => aFor ai ga ab ⟨fun s' => ∃ ds, s'.env[j]? = some (.own ds) ∧ A.nx (s'.put j (.dat (.list ds))), A.rt⟩ s) := by
  intro C B σ H s D A E h qn qr
  refine rs_for hi hg hb C B σ H s D ⟨_, A.rt⟩ E h (fun B2 σ2 H2 s2 a2 g2 E2 => ?_) qr
  obtain ⟨ds, hj, a⟩ := a2
  obtain ⟨B', sub, E'⟩ := E2.give hj
  exact qn B' σ2 H2 _ a (g2.trans ⟨.refl _ _, fun b hb => .inl (sub b hb)⟩) E'
end
def rNeNil44 (K : PySem.W.Frag) : R2 := fun x y H Q => ∃ a b xs, x = .ref a ∧ y = .ref b ∧ SqL K H a xs ∧ SqL K H b [] ∧ Q (.bl (!xs.isEmpty)) H
theorem kneNil44 {X : Cx} (K : PySem.W.Frag) (hu : X.A.units + 64 < cLine) (hK : X.K = K := by rfl) : OpR X (compareOp .NotEq) (rNeNil44 K) := by
  subst hK
  intro pins s σ H x y v u Q I rx ry h
  obtain ⟨a, b, xs, ex, ey, ha, hb, q⟩ := h
  subst ex
  subst ey
  cases rx
  cases ry
  obtain ⟨its, r1, p1, _⟩ := I.list ha
  obtain ⟨its2, r2, p2, _⟩ := I.list hb
  cases r2
  have room : X.A.units < cLine := by omega
  cases r1 with
  | nil =>
    have z := PySem.SeqAt.RcNeAt.lists (A := X.A) (s := s) (e := fun _ => true) p1.isList p2.isList rfl room (fun j j1 _ => absurd j1 (by simp))
    exact z X.prog X.w X.xe _ ⟨.bl _, H, I, rfl, q⟩
  | cons r rr =>
    have z := PySem.SeqAt.RcNeAt.lists_lengths (A := X.A) (s := s) p1.isList p2.isList (by simp) room
    exact z X.prog X.w X.xe _ ⟨.bl _, H, I, rfl, q⟩
section
variable {K : PySem.W.Frag} {Δ : DK}
theorem r2_neNil44 : R2' K Δ (rNeNil44 K) (fun d e s A => ∃ xs, d = .list xs ∧ e = .list [] ∧ A (.bool (!xs.isEmpty)) s) := by
  intro C B σ H s x y d e Q A E dx dy h q
  obtain ⟨xs, e1, e2, a⟩ := h
  subst e1 e2
  obtain ⟨p, us, ev, hp, _, hd⟩ := dx.lstI
  obtain ⟨p', us', ev', hp', _, hd'⟩ := dy.lstI
  subst ev ev'
  cases hd'
  refine ⟨p, p', us, rfl, rfl, SqL.of hp, SqL.of hp', q _ _ _ a (Same.refl _) ?_⟩
  have e : us.isEmpty = xs.isEmpty := by cases hd <;> rfl
  rw [e]
  exact .bl _
end

/-! what fits -/
def FitP (m : Int) (ps : List Int) (l : Int) : Prop := ∃ s, ∀ p ∈ ps, (p - s) % m < l
theorem fit_width {m : Int} {tls : List (List (Int × Int))} (hm : 1 ≤ m) (its : ∀ t ∈ tls, IsTool m t) {k : List Int} {l w : Int} (l0 : 0 ≤ l) (l1 : l ≤ m) (hw : IsWidth m tls l w) :
    (∃ t ∈ tls, ∃ u ∈ upto m, FitP m (imgP m (pushF m t u) k) l) ↔ FitP m k w := by
  constructor
  · rintro ⟨t, ht, u, _, s, hs⟩
    obtain ⟨L, P, lg⟩ := lift_of (by omega) (its t ht)
    have hc := hw.all t ht (s % m) (Int.emod_nonneg _ (by omega)) (Int.emod_lt_of_pos _ (by omega))
    refine ⟨P (s % m) - u, fun p hp => ?_⟩
    have h1 : (tgt t ((p + u) % m) - s) % m < l := hs _ ((imgP_mem fun x _ => tgt_rng (its t ht) _).mpr ⟨p, hp, rfl⟩)
    rw [lg.tg, Int.emod_sub_emod] at h1
    have h2 : (L (p + u) - s % m) % m < l := by
      rw [Int.sub_emod_emod]
      exact h1
    have h3 := (lg.arc (by omega) (b := s % m) (l := l) (p + u)).mp h2
    rw [← lg.cnt (by omega) l0 l1] at h3
    rw [show p - (P (s % m) - u) = p + u - P (s % m) by omega]
    omega
  · rintro ⟨s0, hs⟩
    obtain ⟨t, ht, s, _, _, e⟩ := hw.got
    obtain ⟨L, P, lg⟩ := lift_of (by omega) (its t ht)
    refine ⟨t, ht, (P s - s0) % m, upto_mem.mpr ⟨Int.emod_nonneg _ (by omega), Int.emod_lt_of_pos _ (by omega)⟩, s, fun y hy => ?_⟩
    obtain ⟨p, hp, ey⟩ := (imgP_mem fun x _ => tgt_rng (its t ht) _).mp hy
    have h1 := hs p hp
    rw [← e, lg.cnt (by omega) l0 l1] at h1
    rw [← ey]
    show (tgt t ((p + (P s - s0) % m) % m) - s) % m < l
    rw [Int.add_emod_emod, lg.tg, Int.emod_sub_emod]
    refine (lg.arc (by omega) (b := s) (l := l) (p + (P s - s0))).mpr ?_
    rw [show p + (P s - s0) - P s = p - s0 by omega]
    exact h1

/-! ### k11: the search through all sets of places. Own work. -/
theorem fitP_spread {m : Int} {ps : List Int} {v l : Int} (hm : 1 ≤ m) (h : IsSpread m ps v) : FitP m ps l ↔ v ≤ l := by
  constructor
  · intro ⟨s, hs⟩
    obtain ⟨p, hp, e⟩ := h.least (s % m) (Int.emod_nonneg _ (by omega)) (Int.emod_lt_of_pos _ (by omega))
    have := hs p hp
    rw [Int.sub_emod_emod] at e
    omega
  · intro le
    obtain ⟨b, _, _, hb⟩ := h.holds
    exact ⟨b, fun p hp => by have := hb p hp; omega⟩
theorem WIter.within {m l : Int} {tls : List (List (Int × Int))} {t : Nat} {z : Int} (h : WIter m tls l t z) (hm : 1 ≤ m) (l0 : 0 ≤ l) (lm : l ≤ m) : 0 ≤ z ∧ z ≤ m := by
  induction h with
  | zero => exact ⟨l0, lm⟩
  | succ h1 w ih => exact ⟨Int.le_trans ih.1 (width_ge w ih.1 ih.2), by
    obtain ⟨tl, ht, b, b0, b1, e⟩ := w.got
    rw [← e]
    exact cnt_le (by omega)⟩
/-- within n pushes -/
def RchN (m : Int) (tls : List (List (Int × Int))) (g : Int) : Nat → List Int → Prop
  | 0, ps => FitP m ps g
  | n + 1, ps => RchN m tls g n ps ∨ ∃ t ∈ tls, ∃ u ∈ upto m, RchN m tls g n (imgP m (pushF m t u) ps)
theorem RchN.up {m g : Int} {tls : List (List (Int × Int))} {ps : List Int} {n : Nat} (h : RchN m tls g n ps) : ∀ k : Nat, RchN m tls g (n + k) ps
  | 0 => h
  | k + 1 => .inl (RchN.up h k)
theorem RchN.le {m g : Int} {tls : List (List (Int × Int))} {ps : List Int} {n k : Nat} (h : RchN m tls g n ps) (l : n ≤ k) : RchN m tls g k ps := by
  have := h.up (k - n)
  rwa [Nat.add_sub_cancel' l] at this
theorem rch_iter {m g : Int} {tls : List (List (Int × Int))} (hm : 1 ≤ m) (its : ∀ t ∈ tls, IsTool m t) (g0 : 0 ≤ g) (gm : g ≤ m) : ∀ {n : Nat} {v : Int}, WIter m tls g n v → ∀ ps, RchN m tls g n ps ↔ FitP m ps v
  | 0, v, h, ps => by
    cases h
    exact Iff.rfl
  | n + 1, w, h, ps => by
    cases h with
    | @succ _ v _ h1 hw =>
      have rg := h1.within hm g0 gm
      have ih := rch_iter hm its g0 gm h1
      show (RchN m tls g n ps ∨ ∃ t ∈ tls, ∃ u ∈ upto m, RchN m tls g n (imgP m (pushF m t u) ps)) ↔ _
      rw [ih ps]
      have e : (∃ t ∈ tls, ∃ u ∈ upto m, RchN m tls g n (imgP m (pushF m t u) ps)) ↔ FitP m ps w := by
        rw [← fit_width hm its rg.1 rg.2 hw]
        constructor
        · rintro ⟨t, ht, u, hu, h⟩
          exact ⟨t, ht, u, hu, (ih _).mp h⟩
        · rintro ⟨t, ht, u, hu, h⟩
          exact ⟨t, ht, u, hu, (ih _).mpr h⟩
      rw [e]
      refine ⟨fun h => h.elim (fun h => ?_) id, .inr⟩
      have := width_ge hw rg.1 rg.2
      obtain ⟨s, hs⟩ := h
      exact ⟨s, fun p hp => by have := hs p hp; omega⟩
/-- n is the fewest -/
def MinN (m : Int) (tls : List (List (Int × Int))) (g : Int) (ps : List Int) (n : Nat) : Prop := RchN m tls g n ps ∧ ∀ k : Nat, k < n → ¬ RchN m tls g k ps
def KnownOK (m : Int) (tls : List (List (Int × Int))) (g : Int) (es : List (List Int × Int)) : Prop := ∀ ps, Places m ps → ps ≠ [] →
  (∃ n : Nat, valE es ps = some (n : Int) ∧ MinN m tls g ps n) ∨ (valE es ps = none ∧ ∀ n, ¬ RchN m tls g n ps)
theorem known_few {m g x v : Int} {tls : List (List (Int × Int))} {es : List (List Int × Int)} {ps xs : List Int} (hm : 1 ≤ m) (its : ∀ t ∈ tls, IsTool m t) (g0 : 0 ≤ g) (gm : g ≤ m) (ok : KnownOK m tls g es)
    (pp : Places m ps) (ne : ps ≠ []) (hp : Path m tls g xs x) (hw : IsWidth m tls x x) (hv : IsSpread m ps v) : fewD xs v = optD (valE es ps) := by
  have key : ∀ (t : Nat) (y : Int), xs[t]? = some y → (RchN m tls g t ps ↔ v ≤ y) := fun t y h => (rch_iter hm its g0 gm (path_iter hp t y h) ps).trans (fitP_spread hm hv)
  obtain ⟨ys, ey⟩ := hp.last
  have hlast : xs[ys.length]? = some x := by
    rw [ey, List.getElem?_append_right (Nat.le_refl _), Nat.sub_self]
    rfl
  have hlen : xs.length = ys.length + 1 := by
    rw [ey, List.length_append]
    rfl
  rcases ok ps pp ne with ⟨n, e, h1, h2⟩ | ⟨e, h⟩
  · rw [e]
    have hn : n < xs.length := by
      by_cases z : n < xs.length
      · exact z
      · exfalso
        have := iter_stays (path_iter hp _ _ hlast) hw (n - ys.length)
        rw [Nat.add_sub_cancel' (by omega)] at this
        have h3 := (rch_iter hm its g0 gm this ps).mp h1
        exact h2 ys.length (by omega) ((rch_iter hm its g0 gm (path_iter hp _ _ hlast) ps).mpr h3)
    refine few_some (List.getElem?_eq_getElem hn) ((key n _ (List.getElem?_eq_getElem hn)).mp h1) fun j z hj hz => ?_
    have := h2 j hj
    rw [key j z hz] at this
    omega
  · rw [e]
    refine few_none fun j z hz => ?_
    have := h j
    rw [key j z hz] at this
    omega
/-! all sets -/
def subsI : Nat → List (List Int)
  | 0 => [[]]
  | n + 1 => subsI n ++ (subsI n).map fun ps => ps ++ [((n : Nat) : Int)]
theorem subs_len : ∀ n, (subsI n).length = 2 ^ n
  | 0 => rfl
  | n + 1 => by
    show (subsI n ++ (subsI n).map _).length = _
    rw [List.length_append, List.length_map, subs_len n, Nat.pow_succ]
    omega
theorem subs_head : ∀ n, ∃ r, subsI n = [] :: r ∧ ∀ ps ∈ r, ps ≠ []
  | 0 => ⟨[], rfl, fun _ h => (List.not_mem_nil h).elim⟩
  | n + 1 => by
    obtain ⟨r, e, h⟩ := subs_head n
    refine ⟨r ++ (subsI n).map fun ps => ps ++ [((n : Nat) : Int)], by show subsI n ++ _ = _; rw [e]; rfl, fun ps hp => ?_⟩
    rcases List.mem_append.mp hp with z | z
    · exact h ps z
    · obtain ⟨q, _, e⟩ := List.mem_map.mp z
      rw [← e]
      exact List.append_ne_nil_of_right_ne_nil _ (List.cons_ne_nil _ _)
theorem subs_rng : ∀ (n : Nat) (ps : List Int), ps ∈ subsI n → Places (n : Int) ps
  | 0, ps, h => by
    have := List.mem_singleton.mp h
    subst this
    exact ⟨List.Pairwise.nil, fun x h => (List.not_mem_nil h).elim⟩
  | n + 1, ps, h => by
    have h : ps ∈ subsI n ++ (subsI n).map _ := h
    rcases List.mem_append.mp h with z | z
    · have p := subs_rng n ps z
      exact ⟨p.asc, fun x hx => by have := p.rng x hx; omega⟩
    · obtain ⟨q, hq, e⟩ := List.mem_map.mp z
      subst e
      have p := subs_rng n q hq
      refine ⟨List.pairwise_append.mpr ⟨p.asc, List.pairwise_singleton _ _, fun a ha b hb => ?_⟩, fun x hx => ?_⟩
      · rw [List.mem_singleton.mp hb]
        have := p.rng a ha
        omega
      · rcases List.mem_append.mp hx with z | z
        · have := p.rng x z
          omega
        · rw [List.mem_singleton.mp z]
          omega
theorem subs_mem : ∀ (n : Nat) (ps : List Int), Places (n : Int) ps → ps ∈ subsI n
  | 0, ps, h => by
    cases ps with
    | nil => exact List.mem_singleton.mpr rfl
    | cons a r =>
      have := h.rng a List.mem_cons_self
      omega
  | n + 1, ps, h => by
    show ps ∈ subsI n ++ (subsI n).map _
    by_cases z : ((n : Nat) : Int) ∈ ps
    · refine List.mem_append_right _ (List.mem_map.mpr ⟨ps.dropLast, subs_mem n _ ?_, ?_⟩)
      · have hne : ps ≠ [] := fun e => by rw [e] at z; cases z
        have e := List.dropLast_concat_getLast hne
        have asc := h.asc
        rw [← e] at asc
        have pa := List.pairwise_append.mp asc
        refine ⟨pa.1, fun x hx => ?_⟩
        have h1 := h.rng x ((List.dropLast_sublist ps).mem hx)
        have h2 := pa.2.2 x hx _ (List.mem_singleton.mpr rfl)
        have h3 := h.rng _ (List.getLast_mem hne)
        omega
      · have hne : ps ≠ [] := fun e => by rw [e] at z; cases z
        have e := List.dropLast_concat_getLast hne
        have asc := h.asc
        rw [← e] at asc z
        have pa := List.pairwise_append.mp asc
        have h3 := h.rng _ (List.getLast_mem hne)
        have el : ps.getLast hne = ((n : Nat) : Int) := by
          rcases List.mem_append.mp z with y | y
          · have := pa.2.2 _ y _ (List.mem_singleton.mpr rfl)
            omega
          · exact (List.mem_singleton.mp y).symm
        rw [← el]
        exact e
    · refine List.mem_append_left _ (subs_mem n ps ⟨h.asc, fun x hx => ?_⟩)
      have := h.rng x hx
      have : x ≠ ((n : Nat) : Int) := fun e => z (by rw [← e]; exact hx)
      omega
theorem subs_nd : ∀ n, (subsI n).Nodup
  | 0 => List.nodup_cons.mpr ⟨List.not_mem_nil, List.nodup_nil⟩
  | n + 1 => by
    show (subsI n ++ (subsI n).map _).Nodup
    refine List.nodup_append.mpr ⟨subs_nd n, ?_, fun a ha b hb e => ?_⟩
    · have := subs_nd n
      unfold List.Nodup at this ⊢
      rw [List.pairwise_map]
      exact this.imp fun h e => h (List.append_cancel_right e)
    · subst e
      obtain ⟨q, _, e⟩ := List.mem_map.mp hb
      have := (subs_rng n a ha).rng ((n : Nat) : Int) (by rw [← e]; exact List.mem_append_right _ (List.mem_singleton.mpr rfl))
      omega
theorem subs_pre {n k : Nat} (h : n ≤ k) : (subsI n).Sublist (subsI k) := by
  induction k with
  | zero =>
    have : n = 0 := by omega
    subst this
    exact List.Sublist.refl _
  | succ k ih =>
    by_cases z : n = k + 1
    · subst z
      exact List.Sublist.refl _
    · exact (ih (by omega)).trans (List.sublist_append_left _ _)
theorem hash_nd6 : ((subsI 6).map hashK).Nodup := by decide +kernel
/-- the sets that are searched -/
def uni (m : Int) : List (List Int) := (subsI m.toNat).tail
theorem uni_mem {m : Int} (hm : 1 ≤ m) {ps : List Int} : ps ∈ uni m ↔ Places m ps ∧ ps ≠ [] := by
  obtain ⟨r, e, h⟩ := subs_head m.toNat
  have em : ((m.toNat : Nat) : Int) = m := by omega
  unfold uni
  rw [e, List.tail_cons]
  constructor
  · intro hp
    have := subs_rng m.toNat ps (by rw [e]; exact List.mem_cons_of_mem _ hp)
    rw [em] at this
    exact ⟨this, h ps hp⟩
  · intro ⟨pp, ne⟩
    have := subs_mem m.toNat ps (by rw [em]; exact pp)
    rw [e] at this
    exact (List.mem_cons.mp this).resolve_left ne
theorem uni_nd (m : Int) : (uni m).Nodup := (subs_nd _).sublist (List.tail_sublist _)
theorem uni_hash {m : Int} (hm : m ≤ 6) {l : List (List Int)} (h : l.Sublist (uni m)) : (l.map hashK).Nodup :=
  hash_nd6.sublist (((h.trans (List.tail_sublist _)).trans (subs_pre (by omega))).map _)
theorem uni_len {m : Int} (hm : m ≤ 6) : (uni m).length ≤ 64 := by
  have h1 := (List.tail_sublist (subsI m.toNat)).length_le
  have h2 := (subs_pre (n := m.toNat) (k := 6) (by omega)).length_le
  rw [subs_len 6] at h2
  exact Nat.le_trans h1 h2
/-! the search -/
def isK (es : List (List Int × Int)) (ps : List Int) : Bool := (valE es ps).isSome
def canR (m : Int) (tls : List (List (Int × Int))) (es : List (List Int × Int)) (ps : List Int) : Bool := tls.any fun t => (upto m).any fun u => isK es (imgP m (pushF m t u) ps)
theorem valE_app (es more : List (List Int × Int)) (ps : List Int) : valE (es ++ more) ps = (valE es ps).or (valE more ps) := by
  unfold valE
  rw [List.find?_append]
  cases es.find? _ <;> rfl
theorem valE_map {l : List (List Int)} {n : Int} {ps : List Int} : valE (l.map fun p => (p, n)) ps = if ps ∈ l then some n else none := by
  induction l with
  | nil => rfl
  | cons a l ih =>
    unfold valE at *
    rw [List.map_cons, List.find?_cons]
    by_cases z : a = ps
    · subst z
      rw [decide_eq_true rfl, if_pos List.mem_cons_self]
      rfl
    · rw [decide_eq_false (fun y => z y)]
      dsimp only
      rw [ih]
      by_cases y : ps ∈ l
      · rw [if_pos y, if_pos (List.mem_cons_of_mem _ y)]
      · rw [if_neg y, if_neg fun h => (List.mem_cons.mp h).elim (fun e => z e.symm) y]
theorem valE_key {es : List (List Int × Int)} {ps : List Int} : isK es ps = true ↔ ps ∈ es.map (·.1) := by
  unfold isK valE
  rw [Option.isSome_map, List.find?_isSome, List.mem_map]
  constructor
  · rintro ⟨x, hx, e⟩
    exact ⟨x, hx, of_decide_eq_true e⟩
  · rintro ⟨x, hx, e⟩
    exact ⟨x, hx, decide_eq_true e⟩
/-- where the search stands: es known, left, fresh, n -/
structure Srch (m : Int) (tls : List (List (Int × Int))) (g : Int) (es : List (List Int × Int)) (lft fr : List (List Int)) (n : Nat) : Prop where
  nd : (es.map (·.1)).Nodup
  kn : ∀ ps ∈ uni m, (∃ k : Nat, k < n ∧ valE es ps = some (k : Int) ∧ MinN m tls g ps k) ∨ (valE es ps = none ∧ ∀ k : Nat, k < n → ¬ RchN m tls g k ps)
  le : es.length ≤ 64 * n
  lf : lft = (uni m).filter fun ps => !isK es ps
  fs : fr.Sublist lft
  fm : ∀ ps ∈ lft, (ps ∈ fr ↔ RchN m tls g n ps)
theorem Srch.start {m g : Int} {tls : List (List (Int × Int))} {fr : List (List Int)} (fs : fr.Sublist (uni m)) (fm : ∀ ps ∈ uni m, (ps ∈ fr ↔ FitP m ps g)) : Srch m tls g [] (uni m) fr 0 := by
  refine ⟨List.nodup_nil, fun ps hp => .inr ⟨rfl, fun k hk => absurd hk (Nat.not_lt_zero _)⟩, Nat.zero_le _, ?_, fs, fm⟩
  exact (List.filter_eq_self.mpr fun ps _ => rfl).symm
theorem push_uni {m : Int} {t : List (Int × Int)} {u : Int} (hm : 1 ≤ m) (it : IsTool m t) {ps : List Int} (hp : ps ∈ uni m) : imgP m (pushF m t u) ps ∈ uni m := by
  refine (uni_mem hm).mpr ⟨.img, fun z => ?_⟩
  obtain ⟨x, hx⟩ := List.exists_mem_of_ne_nil _ ((uni_mem hm).mp hp).2
  have := (imgP_mem (f := pushF m t u) (ps := ps) fun x _ => tgt_rng it _).mpr ⟨x, hx, rfl⟩
  rw [z] at this
  cases this
theorem Srch.done {m g : Int} {tls : List (List (Int × Int))} {es : List (List Int × Int)} {lft : List (List Int)} {n : Nat} (hm : 1 ≤ m) (its : ∀ t ∈ tls, IsTool m t) (h : Srch m tls g es lft [] n) : KnownOK m tls g es := by
  have L0 : ∀ ps ∈ uni m, RchN m tls g n ps → ∃ j, j < n ∧ RchN m tls g j ps := by
    intro ps hp hr
    rcases h.kn ps hp with ⟨k, hk, _, mn⟩ | ⟨e, _⟩
    · exact ⟨k, hk, mn.1⟩
    · have hl : ps ∈ lft := by
        rw [h.lf]
        refine List.mem_filter.mpr ⟨hp, ?_⟩
        unfold isK
        rw [e]
        rfl
      exact (List.not_mem_nil ((h.fm ps hl).mpr hr)).elim
  have L1 : ∀ k ps, ps ∈ uni m → RchN m tls g k ps → ∃ j, j < n ∧ RchN m tls g j ps := by
    intro k
    induction k with
    | zero => exact fun ps hp hr => L0 ps hp (hr.le (Nat.zero_le _))
    | succ k ih =>
      intro ps hp hr
      rcases hr with hr | ⟨t, ht, u, hu, hr⟩
      · exact ih ps hp hr
      · obtain ⟨j, hj, hr⟩ := ih _ (push_uni hm (its t ht) hp) hr
        have h1 : RchN m tls g (j + 1) ps := .inr ⟨t, ht, u, hu, hr⟩
        exact L0 ps hp (h1.le hj)
  intro ps pp ne
  have hp := (uni_mem hm).mpr ⟨pp, ne⟩
  rcases h.kn ps hp with ⟨k, _, e, mn⟩ | ⟨e, hn⟩
  · exact .inl ⟨k, e, mn⟩
  · refine .inr ⟨e, fun k hr => ?_⟩
    obtain ⟨j, hj, hr⟩ := L1 k ps hp hr
    exact hn j hj hr
def esN (es : List (List Int × Int)) (fr : List (List Int)) (n : Nat) : List (List Int × Int) := es ++ fr.map fun p => (p, (n : Int))
def lfN (es' : List (List Int × Int)) (lft : List (List Int)) : List (List Int) := lft.filter fun ps => !isK es' ps
theorem Srch.keys {m g : Int} {tls : List (List (Int × Int))} {es : List (List Int × Int)} {lft fr : List (List Int)} {n : Nat} (h : Srch m tls g es lft fr n) : ((esN es fr n).map (·.1)).Nodup := by
  unfold esN
  rw [List.map_append, List.map_map]
  have e : (fr.map ((fun x : List Int × Int => x.1) ∘ fun p => (p, (n : Int)))) = fr := by
    have : ((fun x : List Int × Int => x.1) ∘ fun p => (p, (n : Int))) = id := rfl
    rw [this, List.map_id]
  rw [e]
  refine List.nodup_append.mpr ⟨h.nd, (((uni_nd m).filter _).sublist (by rw [← h.lf]; exact h.fs)), fun a ha b hb z => ?_⟩
  subst z
  have h1 := h.fs.mem hb
  rw [h.lf] at h1
  have h2 := (List.mem_filter.mp h1).2
  rw [valE_key.mpr ha] at h2
  cases h2
theorem esN_val {es : List (List Int × Int)} {fr : List (List Int)} {n : Nat} {ps : List Int} : valE (esN es fr n) ps = (valE es ps).or (if ps ∈ fr then some (n : Int) else none) := by
  unfold esN
  rw [valE_app, valE_map]
theorem isK_up {es : List (List Int × Int)} {fr : List (List Int)} {n : Nat} {ps : List Int} (h : isK es ps = true) : isK (esN es fr n) ps = true := by
  unfold isK at *
  rw [esN_val]
  cases hv : valE es ps with
  | none => rw [hv] at h; cases h
  | some v => rfl
theorem Srch.step {m g : Int} {tls : List (List (Int × Int))} {es : List (List Int × Int)} {lft fr : List (List Int)} {n : Nat} (hm : 1 ≤ m) (m6 : m ≤ 6) (its : ∀ t ∈ tls, IsTool m t) (h : Srch m tls g es lft fr n) :
    Srch m tls g (esN es fr n) (lfN (esN es fr n) lft) ((lfN (esN es fr n) lft).filter (canR m tls (esN es fr n))) (n + 1) := by
  have kn : ∀ ps ∈ uni m, (∃ k : Nat, k < n + 1 ∧ valE (esN es fr n) ps = some (k : Int) ∧ MinN m tls g ps k) ∨ (valE (esN es fr n) ps = none ∧ ∀ k : Nat, k < n + 1 → ¬ RchN m tls g k ps) := by
    intro ps hp
    rw [esN_val]
    rcases h.kn ps hp with ⟨k, hk, e, mn⟩ | ⟨e, hn⟩
    · rw [e]
      exact .inl ⟨k, by omega, rfl, mn⟩
    · have hl : ps ∈ lft := by
        rw [h.lf]
        refine List.mem_filter.mpr ⟨hp, ?_⟩
        unfold isK
        rw [e]
        rfl
      rw [e]
      by_cases z : ps ∈ fr
      · rw [if_pos z]
        exact .inl ⟨n, Nat.lt_succ_self _, rfl, (h.fm ps hl).mp z, hn⟩
      · rw [if_neg z]
        refine .inr ⟨rfl, fun k hk hr => ?_⟩
        by_cases y : k = n
        · subst y
          exact z ((h.fm ps hl).mpr hr)
        · exact hn k (by omega) hr
  have lf : lfN (esN es fr n) lft = (uni m).filter fun ps => !isK (esN es fr n) ps := by
    unfold lfN
    rw [h.lf, List.filter_filter]
    apply List.filter_congr
    intro ps _
    cases e : isK es ps with
    | false => rw [Bool.not_false, Bool.and_true]
    | true => rw [isK_up e]; rfl
  refine ⟨h.keys, kn, ?_, lf, List.filter_sublist, fun ps hp => ?_⟩
  · have h1 := h.fs.length_le
    have h2 : lft.length ≤ (uni m).length := by
      rw [h.lf]
      exact List.length_filter_le _ _
    have h3 := uni_len m6
    have h4 := h.le
    unfold esN
    rw [List.length_append, List.length_map]
    omega
  · have hp0 := hp
    rw [lf] at hp
    obtain ⟨hu, hk⟩ := List.mem_filter.mp hp
    have hn : ∀ k : Nat, k < n + 1 → ¬ RchN m tls g k ps := by
      rcases kn ps hu with ⟨k, _, e, _⟩ | ⟨_, h⟩
      · exfalso
        unfold isK at hk
        rw [e] at hk
        cases hk
      · exact h
    rw [List.mem_filter]
    have key : ∀ qs ∈ uni m, isK (esN es fr n) qs = true ↔ RchN m tls g n qs := by
      intro qs hq
      unfold isK
      rcases kn qs hq with ⟨k, hk, e, mn⟩ | ⟨e, hn⟩
      · rw [e]
        exact ⟨fun _ => mn.1.le (by omega), fun _ => rfl⟩
      · rw [e]
        exact ⟨fun z => (by cases z), fun z => absurd z (hn n (Nat.lt_succ_self _))⟩
    constructor
    · rintro ⟨_, hc⟩
      obtain ⟨t, ht, hc⟩ := List.any_eq_true.mp hc
      obtain ⟨u, hu', hc⟩ := List.any_eq_true.mp hc
      exact .inr ⟨t, ht, u, hu', (key _ (push_uni hm (its t ht) hu)).mp hc⟩
    · intro hr
      refine ⟨hp0, ?_⟩
      rcases hr with hr | ⟨t, ht, u, hu', hr⟩
      · exact absurd hr (hn n (Nat.lt_succ_self _))
      · exact List.any_eq_true.mpr ⟨t, ht, List.any_eq_true.mpr ⟨u, hu', (key _ (push_uni hm (its t ht) hu)).mpr hr⟩⟩
theorem Srch.less {m g : Int} {tls : List (List (Int × Int))} {es : List (List Int × Int)} {lft fr : List (List Int)} {n : Nat} (h : Srch m tls g es lft fr n) (ne : fr ≠ []) : (lfN (esN es fr n) lft).length < lft.length := by
  obtain ⟨x, hx⟩ := List.exists_mem_of_ne_nil _ ne
  refine List.length_filter_lt_length_iff_exists.mpr ⟨x, h.fs.mem hx, ?_⟩
  have : isK (esN es fr n) x = true := by
    refine valE_key.mpr ?_
    unfold esN
    rw [List.map_append, List.map_map]
    exact List.mem_append_right _ (List.mem_map.mpr ⟨x, hx, rfl⟩)
  rw [this]
  exact fun z => by cases z
theorem Srch.upd {m g : Int} {tls : List (List (Int × Int))} {es : List (List Int × Int)} {lft fr : List (List Int)} {n : Nat} (h : Srch m tls g es lft fr n) : mergeE es (fr.map fun p => (p, (n : Int))) = esN es fr n := mergeE_nd _ _ h.keys
def RCan : RP := fun ds A => ∃ (m : Int) (tls : List (List (Int × Int))) (ps : List Int) (es : List (List Int × Int)), ds = [.int m, toolsD tls, tupD ps, dicD es] ∧ (∀ t ∈ tls, IsTool m t) ∧ 1 ≤ m ∧ m ≤ 60 ∧ Places m ps ∧ A (.bool (canR m tls es ps))
def RStp : RP := fun ds A => ∃ (m g : Int) (tls : List (List (Int × Int))), ds = [.int m, toolsD tls, .int g] ∧ (∀ t ∈ tls, IsTool m t) ∧ tls.length ≤ 100 ∧ 1 ≤ m ∧ m ≤ 6 ∧ 1 ≤ g ∧ g ≤ m ∧ ∀ es, KnownOK m tls g es → es.length ≤ 10000 → A (dicD es)
theorem cutD_fromK (xs : List PyData) (k : Nat) : cutD xs (some (k : Int)) none = xs.drop k := by
  unfold cutD
  rw [HT.sIx_nat, HT.sIx_none]
  by_cases h : k ≤ xs.length
  · rw [Nat.min_eq_left h]
    exact List.take_of_length_le (by rw [List.length_drop]; exact Nat.le_refl _)
  · rw [Nat.min_eq_right (by omega), Nat.sub_self, List.take_zero, List.drop_eq_nil_of_le (by omega)]
theorem cutD_tl {d : PyData} {ds : List PyData} : cutD (d :: ds) (some 1) none = ds := by
  have := cutD_fromK (d :: ds) 1
  exact this.trans rfl
theorem iteP {c : Bool} {A B : Prop} (h : c = true) (a : A) : if c = true then A else B := by
  rw [if_pos h]
  exact a
theorem iteN {c : Bool} {A B : Prop} (h : c = false) (b : B) : if c = true then A else B := by
  rw [if_neg (by rw [h]; exact Bool.false_ne_true)]
  exact b

def topS (i : Nat) : Stmt := PySem.Challenge.pw_blindpush_k11_fewest_pushes_by_search.main.body.getD i (.Pass ⟨0, 0, 0, 0⟩)
section
open Classical
variable {P : Program} {w : World} {K : PySem.W.Frag} {mg : Str → Option Value} {base : Heap}
abbrev s__law_draws : Stmt := topS 12
abbrev N__law_draws : List Str := ["_law_script", "_law_cells", "_law_cell"]
theorem sc__law_draws : FnScope N__law_draws ["_law_script"] (defScope s__law_draws) :=
  ⟨rfl, rfl, rfl, by decide +kernel, rfl, by decide +kernel, by decide +kernel⟩

theorem ok__law_draws {f : Addr} {fd : FuncData} (F : Fun K "_law_draws" "_law_draws" s__law_draws f fd) (T : Bi mg) :
    FnOk P w K mg base CX0 1 f fd ["_law_script"] (spDk K ΔA) := by
  refine F.ok sc__law_draws (fun vs H Q E h => ?_) (fun cdv A outer s H vs Q E hr h => ?_)
  · obtain ⟨a, ns, e, _⟩ := h
    subst e
    rfl
  obtain ⟨s0, ns, e, hS, hl, q⟩ := h
  subst e
  refine ⟨_, (pss_cons (ps_set (i := 1) sc__law_draws.nd rfl (.inl rfl) (pe_op op_cat (pe_callTy (klistof K) (by rfl) T.list (by decide +kernel) (pa_cons (pe_slice (kslL K) (pv 0) po_none (po_some pe_int)) pa_nil)) (pe_op op_rep (pe_lst (pa_cons pe_int pa_nil)) (pe_callTy call_int1 (by rfl) T.int (by decide +kernel) (pa_cons (pe_cmpR op_eq (pe_callB (klen K) (by rfl) T.len (by decide +kernel) (pa_cons (pv 0) pa_nil)) pe_int (nomark _)) pa_nil)))))
  (pss_one (ps_ret (pe_lst (pa_cons (pv 1) (pa_cons pe_int (pa_cons (pe_lc (own := [("_law_cell", 2)]) rfl sc__law_draws.nd (kilist K (pv 1)) (blkOk_by (own := [("_law_cell", 2)]) (N := N__law_draws) (sc := defScope s__law_draws) (by decide +kernel))
    (fun _ _ _ _ _ => (pg_name (i := 2) sc__law_draws.nd rfl (.inl rfl))) (fun _ _ _ _ _ => pts_nil)
    (fun _ _ _ _ _ => (pe_op op_mul (pv 2) (pe_callTy call_int1 (by rfl) T.int (by decide +kernel) (pa_cons (pe_cmpR op_ge (pv 2) (pe_op op_pow pe_int pe_int) (nomark _)) pa_nil))))) pa_nil))))))), ?_⟩
  refine ⟨.ref s0, rfl, 63, rfl, s0, ns.map V.int, rfl, hS, fun p np => ⟨p, _, rfl, .inl (SqL.of upd_same), fun l nl => ?_⟩⟩
  rw [show cutV (ns.map V.int) none (some 63) = (ns.map V.int).take 63 from cut_to _ 63, List.take_of_length_le (by rw [List.length_map]; exact hl)] at nl ⊢
  have sm1 : Same H (upd H p (.lst (ns.map V.int))) := same_upd np
  have sm2 := sm1.trans (same_upd (o := .lst (ns.map V.int)) nl)
  have hl2 : upd (upd H p (.lst (ns.map V.int))) l (.lst (ns.map V.int)) l = some (.lst (ns.map V.int)) := upd_same
  revert sm2 hl2
  generalize upd (upd H p (.lst (ns.map V.int))) l (.lst (ns.map V.int)) = H2
  intro sm2 hl2
  obtain ⟨cs, ecs, hcl⟩ : ∃ cs : List Int, cs = ns ∧ cs.length = ns.length := ⟨ns, rfl, rfl⟩
  have hl2 : H2 l = some (.lst (cs.map V.int)) := by rw [ecs]; exact hl2
  clear ecs
  refine ⟨by show 1 ≤ sizeLine; decide, fun p3 np3 => ?_⟩
  have sm3 := same_upd (o := .lst [.int 0]) np3
  refine ⟨.ref s0, rfl, s0, _, rfl, .inl (sqL_same hS (sm2.trans sm3)), rfl, .inr ⟨_, rfl, ?_⟩⟩
  refine ⟨p3, _, [.int 0], rfl, rfl, upd_same, by split <;> decide, by split <;> decide, by split <;> decide, fun p4 np4 => ?_⟩
  have sm4 := sm3.trans (same_upd (o := .lst (List.replicate (if decide (V.int ((ns.map V.int).length : Nat) = V.int 0) = true then (1 : Int) else 0).toNat [V.int 0]).flatten) np4)
  refine ⟨l, p4, _, _, rfl, rfl, sm4 _ _ hl2, upd_same, ?_, fun p5 np5 => ?_⟩
  · refine Nat.le_of_lt (small1000 ?_)
    rw [List.length_map]
    split
    · show cs.length + 1 ≤ 1000
      omega
    · show cs.length + 0 ≤ 1000
      omega
  obtain ⟨xs, ex, xne, xl⟩ : ∃ xs : List Int, cs.map V.int ++ (List.replicate (if decide (V.int ((ns.map V.int).length : Nat) = V.int 0) = true then (1 : Int) else 0).toNat [V.int 0]).flatten = xs.map V.int ∧ xs ≠ [] ∧ xs.length ≤ 64 := by
    by_cases h0 : ns = []
    · subst h0
      have hc0 : cs = [] := List.eq_nil_of_length_eq_zero hcl
      subst hc0
      exact ⟨[0], rfl, List.cons_ne_nil _ _, by decide⟩
    · have hne : ¬ V.int ((ns.map V.int).length : Nat) = V.int 0 := by
        intro z
        have z := V.int.inj z
        rw [List.length_map] at z
        exact h0 (List.eq_nil_of_length_eq_zero (by omega))
      rw [decide_eq_false hne]
      refine ⟨cs, List.append_nil _, fun z => h0 ?_, by omega⟩
      subst z
      exact List.eq_nil_of_length_eq_zero hcl.symm
  rw [ex]
  have h5 : ∀ H : Hp, upd H p5 (.lst (xs.map V.int)) p5 = some (.lst (xs.map V.int)) := fun H => upd_same
  have h5 := h5 (upd (upd H2 p3 (.lst [.int 0])) p4 (.lst (List.replicate (if decide (V.int ((ns.map V.int).length : Nat) = V.int 0) = true then (1 : Int) else 0).toNat [V.int 0]).flatten))
  revert h5
  generalize upd (upd (upd H2 p3 (.lst [.int 0])) p4 (.lst (List.replicate (if decide (V.int ((ns.map V.int).length : Nat) = V.int 0) = true then (1 : Int) else 0).toNat [V.int 0]).flatten)) p5 (.lst (xs.map V.int)) = H5
  intro h5
  refine ⟨.ref p5, rfl, .ref p5, rfl, p5, rfl, ⟨_, SqL.of h5⟩, fun D nD => ?_⟩
  refine lc_list (K := K) (a := p5) (xs := xs.map V.int) (fun i H' => Same H5 H' ∧ H' D = some (.lst (((xs.take i).map fun n => n * (if decide (10 ^ (18 : Int).toNat ≤ n) = true then 1 else 0)).map V.int))) ?_ ?_ ?_ ?_
  · exact ⟨same_upd nD, upd_same⟩
  · intro i H' _ h
    exact SqL.of (h.1 _ _ h5)
  · intro i x H' hx h
    obtain ⟨hs, hD⟩ := h
    obtain ⟨n, hn, e⟩ := map_get hx
    subst e
    refine ⟨rfl, .int n, rfl, .int n, rfl, 10, 18, rfl, rfl, ⟨by decide, by decide, by decide⟩, n, _, rfl, rfl, .inr ⟨_, rfl, ?_⟩⟩
    refine ⟨n, _, rfl, rfl, .inr (by split <;> exact ⟨by decide, by decide⟩), _, hD, ?_, ?_, ?_⟩
    · rw [List.length_map, List.length_map, List.length_take]
      exact Nat.lt_of_le_of_lt (Nat.min_le_right _ _) (small1000 (by omega))
    · intro b o e
      rw [upd_ne (ne_of_none e nD)]
      exact hs b o e
    · rw [upd_same, take_map_succ _ hn, List.map_append]
      rfl
  · intro H' h
    obtain ⟨hs, hD⟩ := h
    rw [List.length_map, List.take_of_length_le (Nat.le_refl _)] at hD
    refine ⟨by show 3 ≤ sizeLine; decide, fun a na => ?_⟩
    have dk := deckA_new (hs _ _ h5) hD (ne_of_none h5 nD) na xne xl (List.length_map _) (fun z hz => ?_)
    · exact q a [a, p5, D] _ ⟨p5, D, rfl, dk⟩ (deckA_stands dk)
    · obtain ⟨n, _, e⟩ := List.mem_map.mp hz
      subst e
      split
      · rename_i hh
        have hh := of_decide_eq_true hh
        have : (0 : Int) ≤ 10 ^ (18 : Int).toNat := by decide
        omega
      · omega
abbrev s__law_next : Stmt := topS 13
abbrev N__law_next : List Str := ["_law_drawn", "_law_many", "_law_cells", "_law_nth", "_law_rests", "_law_spot", "_law_digit", "_law_mixed_here", "_law_more"]
theorem sc__law_next : FnScope N__law_next ["_law_drawn", "_law_many"] (defScope s__law_next) :=
  ⟨rfl, rfl, rfl, by decide +kernel, rfl, by decide +kernel, by decide +kernel⟩

theorem ok_nextA {f : Addr} {fd : FuncData} (F : Fun K "_law_next" "_law_next" s__law_next f fd) (T : Bi mg) :
    FnOk P w K mg base CX0 1 f fd ["_law_drawn", "_law_many"] spNextA := by
  refine F.ok sc__law_next (fun vs H Q E h => ?_) (fun cdv A outer s H vs Q E hr h => ?_)
  · obtain ⟨a, c, z, k, lim, e, _⟩ := h
    subst e
    rfl
  obtain ⟨a, c, z, k, lim, e, dk, hk, hl1, hl2, q⟩ := h
  subst e
  obtain ⟨ns, ms, j, n1, n2, n3, ha, hc, hz, nne, hml, hnl, hms, hj0, hjk⟩ := dk
  have hpos : 0 < ns.length := List.length_pos_iff.mpr nne
  refine ⟨_, (pss_cons (ps_asg (pv 0) (kgunl K 3 rfl (pgs_cons (pg_name (i := 2) sc__law_next.nd rfl (.inl rfl)) (pgs_cons (pg_name (i := 3) sc__law_next.nd rfl (.inl rfl)) (pgs_cons (pg_name (i := 4) sc__law_next.nd rfl (.inl rfl)) pgs_nil)))))
  (pss_cons (ps_set (i := 5) sc__law_next.nd rfl (.inl rfl) (pe_op op_mod (pv 3) (pe_callB (klen K) (by rfl) T.len (by decide +kernel) (pa_cons (pv 2) pa_nil))))
  (pss_cons (ps_asg (pe_op op_add (pv 3) pe_int) (pg_sub (pv 0) pe_int set_list))
  (pss_cons (ps_if (pt_cmpR op_gt (pe_ix (kixL K) (pv 4) (pv 5) (fun _ _ => rfl)) pe_int (nomark _))
  (pss_cons (ps_set (i := 6) sc__law_next.nd rfl (.inl rfl) (pe_op op_mod (pe_ix (kixL K) (pv 4) (pv 5) (fun _ _ => rfl)) (pv 1)))
  (pss_cons (ps_asg (pe_op op_fdivW (pe_ix (kixL K) (pv 4) (pv 5) (fun _ _ => rfl)) (pv 1)) (pg_sub (pv 4) (pv 5) set_list))
  (pss_one (ps_ret (pv 6)))))
  pss_nil)
  (pss_cons (ps_set (i := 7) sc__law_next.nd rfl (.inl rfl) (pe_op op_mod (pe_op op_pow (pe_op op_add (pe_op op_add (pe_op op_mod (pe_ix (kixL K) (pv 2) (pv 5) (fun _ _ => rfl)) pe_int) (pe_op op_mul pe_int (pv 3))) pe_int) pe_int) pe_int))
  (pss_cons (ps_set (i := 8) sc__law_next.nd rfl (.inl rfl) (pe_op op_mod (pe_op op_pow (pe_op op_add (pe_op op_add (pv 7) (pe_op op_mul (pe_op op_mul pe_int (pv 3)) (pv 3))) pe_int) pe_int) pe_int))
  (pss_one (ps_ret (pe_op op_mod (pe_op op_mod (pe_op op_add (pe_op op_mul (pv 8) pe_int) (pv 7)) pe_int) (pv 1)))))))))), ?_⟩
  refine ⟨.ref a, rfl, a, [.ref c, .int j, .ref z], rfl, SqL.of ha, rfl, .ref c, _, rfl, .int j, _, rfl, .ref z, [], rfl, rfl, ?_⟩
  have lpos : (0 : Int) < ((ns.map V.int).length : Nat) := by
    rw [List.length_map]
    omega
  refine ⟨.int j, rfl, .ref c, rfl, c, _, rfl, .inl (SqL.of hc), j, _, rfl, rfl, lpos, ?_⟩
  refine ⟨.int j, rfl, j, 1, rfl, rfl, .ref a, rfl, a, _, 1, 1, rfl, rfl, ha, rfl, ?_⟩
  rw [List.length_map] at lpos ⊢
  have t0 : 0 ≤ j % ((ns.length : Nat) : Int) := Int.emod_nonneg _ (by omega)
  have t1 : j % ((ns.length : Nat) : Int) < ((ns.length : Nat) : Int) := Int.emod_lt_of_pos j lpos
  have ha1 : upd H a (.lst [.ref c, .int (j + 1), .ref z]) a = some (.lst [.ref c, .int (j + 1), .ref z]) := upd_same
  have hc1 : upd H a (.lst [.ref c, .int (j + 1), .ref z]) c = some (.lst (ns.map V.int)) := by
    rw [upd_ne n1.symm]
    exact hc
  have hz1 : upd H a (.lst [.ref c, .int (j + 1), .ref z]) z = some (.lst (ms.map V.int)) := by
    rw [upd_ne n2.symm]
    exact hz
  have kp1 : KeepA a z H (upd H a (.lst [.ref c, .int (j + 1), .ref z])) := by
    intro b o h1 h2 h3
    rw [upd_ne h1]
    exact h3
  have es : ([.ref c, .int j, .ref z] : List V).set 1 (.int (j + 1)) = [.ref c, .int (j + 1), .ref z] := rfl
  rw [es]
  revert ha1 hc1 hz1 kp1
  generalize upd H a (.lst [.ref c, .int (j + 1), .ref z]) = H1
  intro ha1 hc1 hz1 kp1
  have tm : (j % ((ns.length : Nat) : Int)).toNat < ms.length := by omega
  have hrest : atI (ms.map V.int) (j % ((ns.length : Nat) : Int)) = some (.int ms[(j % ((ns.length : Nat) : Int)).toNat]) := atI_pos t0 (by rw [List.getElem?_map, List.getElem?_eq_getElem tm]; rfl)
  have hr0 : 0 ≤ ms[(j % ((ns.length : Nat) : Int)).toNat] := hms _ (List.getElem_mem tm)
  have tn : (j % ((ns.length : Nat) : Int)).toNat < ns.length := by omega
  have hcell : atI (ns.map V.int) (j % ((ns.length : Nat) : Int)) = some (.int ns[(j % ((ns.length : Nat) : Int)).toNat]) := atI_pos t0 (by rw [List.getElem?_map, List.getElem?_eq_getElem tn]; rfl)
  revert hrest hr0 hcell
  generalize ms[(j % ((ns.length : Nat) : Int)).toNat] = rest
  generalize ns[(j % ((ns.length : Nat) : Int)).toNat] = cell
  intro hrest hr0 hcell
  refine ⟨.ref z, rfl, .int (j % ((ns.length : Nat) : Int)), rfl, z, _, j % ((ns.length : Nat) : Int), .int rest, rfl, rfl, SqL.of hz1, hrest, rest, 0, rfl, rfl, _, rfl, ite2 (fun hp => ?_) (fun hp => ?_)⟩
  · refine ⟨.ref z, rfl, .int (j % ((ns.length : Nat) : Int)), rfl, z, _, j % ((ns.length : Nat) : Int), .int rest, rfl, rfl, SqL.of hz1, hrest, .int lim, rfl, rest, lim, rfl, rfl, (by omega : 0 < lim), ?_⟩
    refine ⟨.ref z, rfl, .int (j % ((ns.length : Nat) : Int)), rfl, z, _, j % ((ns.length : Nat) : Int), .int rest, rfl, rfl, SqL.of hz1, hrest, .int lim, rfl, rest, lim, rfl, rfl, wide_div (b := 50) (by omega) (by omega) (by decide) (by decide), .ref z, rfl, .int (j % ((ns.length : Nat) : Int)), rfl, z, _, j % ((ns.length : Nat) : Int), (j % ((ns.length : Nat) : Int)).toNat, rfl, rfl, hz1, ixN_pos t0 (by rw [List.length_map]; omega), ?_⟩
    have hd0 : 0 ≤ rest / lim := Int.ediv_nonneg hr0 (by omega)
    refine ⟨.int (rest % lim), rfl, q _ _ (Int.emod_nonneg _ (by omega)) (Int.emod_lt_of_pos _ (by omega)) ?_ ?_⟩
    · refine ⟨ns, ms.set (j % ((ns.length : Nat) : Int)).toNat (rest / lim), j + 1, n1, n2, n3, ?_, ?_, ?_, nne, by rw [List.length_set]; exact hml, hnl, mem_set_nonneg hms _ hd0, by omega, by omega⟩
      · rw [upd_ne n2]
        exact ha1
      · rw [upd_ne n3]
        exact hc1
      · rw [upd_same, List.map_set]
    · intro b o h1 h2 h3
      rw [upd_ne h2]
      exact kp1 b o h1 h2 h3
  · have m0 : 0 ≤ cell % 2147483647 := Int.emod_nonneg _ (by decide)
    have m1 : cell % 2147483647 < 2147483647 := Int.emod_lt_of_pos _ (by decide)
    have b64 : (2 : Nat) ^ 64 = 18446744073709551616 := by decide
    refine ⟨.ref c, rfl, .int (j % ((ns.length : Nat) : Int)), rfl, c, _, j % ((ns.length : Nat) : Int), .int cell, rfl, rfl, SqL.of hc1, hcell, cell, _, rfl, rfl, (by decide : (0 : Int) < 2147483647), .int j, rfl, 69621, j, rfl, rfl, .inl ⟨by decide, by decide⟩, _, _, rfl, rfl, _, 30269, rfl, rfl, _, 3, rfl, rfl, ⟨by decide, by decide, by omega⟩, _, _, rfl, rfl, (by decide : (0 : Int) < 2147483629), ?_⟩
    have M0 : 0 ≤ ((cell % 2147483647 + 69621 * j + 30269) ^ (3 : Int).toNat % 2147483629) := Int.emod_nonneg _ (by decide)
    have M1 : ((cell % 2147483647 + 69621 * j + 30269) ^ (3 : Int).toNat % 2147483629) < 2147483629 := Int.emod_lt_of_pos _ (by decide)
    have j6 : j ≤ 1000000 := by omega
    have jj0 : 0 ≤ 6007 * j * j := Int.mul_nonneg (by omega) hj0
    have jj1 : 6007 * j * j ≤ 6007 * 1000000 * 1000000 := Int.mul_le_mul (by omega) j6 hj0 (by omega)
    refine ⟨.int (((cell % 2147483647 + 69621 * j + 30269) ^ (3 : Int).toNat % 2147483629)), rfl, .int j, rfl, 6007, j, rfl, rfl, .inl ⟨by decide, by decide⟩, .int j, rfl, 6007 * j, j, rfl, rfl, .inl ⟨by omega, by omega⟩, ((cell % 2147483647 + 69621 * j + 30269) ^ (3 : Int).toNat % 2147483629), 6007 * j * j, rfl, rfl, ((cell % 2147483647 + 69621 * j + 30269) ^ (3 : Int).toNat % 2147483629) + 6007 * j * j, 17, rfl, rfl, ((cell % 2147483647 + 69621 * j + 30269) ^ (3 : Int).toNat % 2147483629) + 6007 * j * j + 17, 3, rfl, rfl, ⟨by decide, by decide, ?_⟩, _, _, rfl, rfl, (by decide : (0 : Int) < 2147483587), ?_⟩
    · revert M0 M1 jj0 jj1
      generalize ((cell % 2147483647 + 69621 * j + 30269) ^ (3 : Int).toNat % 2147483629) = M
      generalize 6007 * j * j = J
      intro M0 M1 jj0 jj1
      omega
    have R0 : 0 ≤ ((((cell % 2147483647 + 69621 * j + 30269) ^ (3 : Int).toNat % 2147483629) + 6007 * j * j + 17) ^ (3 : Int).toNat % 2147483587) := Int.emod_nonneg _ (by decide)
    have R1 : ((((cell % 2147483647 + 69621 * j + 30269) ^ (3 : Int).toNat % 2147483629) + 6007 * j * j + 17) ^ (3 : Int).toNat % 2147483587) < 2147483587 := Int.emod_lt_of_pos _ (by decide)
    refine ⟨.int (((((cell % 2147483647 + 69621 * j + 30269) ^ (3 : Int).toNat % 2147483629) + 6007 * j * j + 17) ^ (3 : Int).toNat % 2147483587)), rfl, ((((cell % 2147483647 + 69621 * j + 30269) ^ (3 : Int).toNat % 2147483629) + 6007 * j * j + 17) ^ (3 : Int).toNat % 2147483587), 2147483423, rfl, rfl, ?_, .int (((cell % 2147483647 + 69621 * j + 30269) ^ (3 : Int).toNat % 2147483629)), rfl, ((((cell % 2147483647 + 69621 * j + 30269) ^ (3 : Int).toNat % 2147483629) + 6007 * j * j + 17) ^ (3 : Int).toNat % 2147483587) * 2147483423, ((cell % 2147483647 + 69621 * j + 30269) ^ (3 : Int).toNat % 2147483629), rfl, rfl, _, 4611686018427387847, rfl, rfl, (by decide : (0 : Int) < 4611686018427387847), .int lim, rfl, _, lim, rfl, rfl, (by omega : 0 < lim), q _ _ (Int.emod_nonneg _ (by omega)) (Int.emod_lt_of_pos _ (by omega)) ⟨ns, ms, j + 1, n1, n2, n3, ha1, hc1, hz1, nne, hml, hnl, hms, by omega, by omega⟩ kp1⟩
    revert R0 R1
    generalize ((((cell % 2147483647 + 69621 * j + 30269) ^ (3 : Int).toNat % 2147483629) + 6007 * j * j + 17) ^ (3 : Int).toNat % 2147483587) = R
    intro R0 R1
    exact .inl ⟨by omega, by omega⟩
theorem ok__law_next {f : Addr} {fd : FuncData} (F : Fun K "_law_next" "_law_next" s__law_next f fd) (T : Bi mg) :
    FnOk P w K mg base CX0 1 f fd ["_law_drawn", "_law_many"] (spK K ΔA RDraw) := (ok_nextA F T).imp conv_nextA
abbrev s__law_mixed : Stmt := topS 15
abbrev N__law_mixed : List Str := ["_law_drawn", "_law_items", "_law_left", "_law_k"]
theorem sc__law_mixed : FnScope N__law_mixed ["_law_drawn", "_law_items"] (defScope s__law_mixed) :=
  ⟨rfl, rfl, rfl, by decide +kernel, rfl, by decide +kernel, by decide +kernel⟩
theorem ok__law_mixed {f : Addr} {fd : FuncData} (F : Fun K "_law_mixed" "_law_mixed" s__law_mixed f fd) (T : Bi mg)
    (h__law_next : Has P w K mg base 1 "_law_next" ["_law_drawn", "_law_many"] (spK K ΔA RDraw))
    : FnOk P w K mg base CX0 2 f fd ["_law_drawn", "_law_items"] (spK K ΔA RMix) := by
  refine F.ok sc__law_mixed (fun vs H Q E h => lenK h (by rintro ds k A ⟨_, _, rfl, _⟩; rfl)) (fun cdv Ar outer s H vs Q E hr h => ?_)
  refine ⟨_, (pss_cons (ps_set (i := 2) sc__law_mixed.nd rfl (.inr rfl) (pe_callTy (klistof K) (by rfl) T.list (by decide +kernel) (pa_cons (pv 1) pa_nil)))
  (pss_one (ps_ret (pe_callTy (ktupQ K) (by rfl) T.tuple (by decide +kernel) (pa_cons (pe_lc (own := [("_law_k", 3)]) rfl sc__law_mixed.nd (pi_range1 (by rfl) T.range (pa_cons (pe_callB (klen K) (by rfl) T.len (by decide +kernel) (pa_cons (pv 1) pa_nil)) pa_nil)) (blkOk_by (own := [("_law_k", 3)]) (N := N__law_mixed) (sc := defScope s__law_mixed) (by decide +kernel))
    (fun _ _ _ _ _ => (pg_name (i := 3) sc__law_mixed.nd rfl (.inl rfl))) (fun _ _ _ _ _ => pts_nil)
    (fun _ _ _ _ _ => (kbm K PySem.F.plainAttrs_list PySem.F.slot_list_pop PySem.F.type_list_pop mt_popAt (pv 2) (pa_cons (pe_callH h__law_next hr (by decide) (by rfl) (pa_cons (pv 0) (pa_cons (pe_callB (klen K) (by rfl) T.len (by decide +kernel) (pa_cons (pv 2) pa_nil)) pa_nil))) pa_nil)))) pa_nil))))), ?_⟩
  refine goK h (by repeat' (first | (with_reducible (first | apply rs_ownL 2 | apply rs_retPop 2 3 | apply rs_seq | exact rs_never | exact rs_next | exact rs_retN | apply rs_asg | apply rs_par | apply rs_par3 | apply rs_drop | apply rs_ret | apply rs_if | apply rs_for | apply rs_while | exact re_var | exact re_int | exact re_str | exact re_bl | exact re_non | apply re_op | apply re_un | apply re_isiT | apply re_isiI | apply re_isiB | apply re_srtSc | apply re_srtSet | apply re_cb | apply re_lst | apply re_tup | apply re_slU | apply re_slT | apply re_slL | exact ro_none | apply ro_some | apply re_andV | apply re_orV | apply re_notV | apply re_if | apply re_chain | apply rt_test | apply rt_b | apply rt_tru | exact rt_yes | apply rt_and | apply rt_or | apply rt_not | exact ra_nil | apply ra_cons | apply ri_rng1 | apply ri_rng2 | apply ri_tup | apply ri_lst | apply ri_zip | apply ri_enum | apply ri_enT | apply ri_U | apply ri_zm | apply ri_revA | exact rg_name | exact rgs_nil | apply rgs_cons | apply rg_tup | apply re_lc | apply re_listRg | apply re_tupRg | apply rrg1 | apply rrg2 | apply re_index | apply re_revT | apply re_revL | apply re_callK | apply re_callP | exact r2_I0 | exact r2_B0 | exact r2_Ic | exact r2_eq | exact r2_ne | exact r2_isN | exact r2_notN | exact r2_ixA | exact r2_ixT | exact r2_ixL | exact r2_catT | exact r2_catL | exact r2_catS | exact r2_notB | exact r2_repT | exact r2_in | exact r2_eqD | exact r2_neD | exact r1_neg | exact rc_len' | exact rc_tupF | exact rc_listof | exact rc_sorted | exact rc_sum | exact rc_max | exact rc_min | exact rc_all | exact rc_repr | exact rc_abs | exact rc_max2 | exact rc_min2 | exact rc_int1 | exact rc_sortT | apply ri_rng3)) | decide)) (fun ds k A hR => ?_)
  obtain ⟨d, xs, e, ei, hl, hk, a⟩ := hR
  subst e
  refine ⟨_, rfl, d, xs, rfl, ei, ?_⟩
  refine ⟨xs, k, rfl, rfl, rfl, hl, _, rfl, d, xs, rfl, ei, rfl, _, rfl, by omega, Int.le_refl _, hk, fun ys rest pm hy => ?_⟩
  refine ⟨ys, rfl, _, k + xs.length, rfl, Int.le_refl _, a ys ?_⟩
  have hlen := pm.length_eq
  rw [List.length_append] at hlen
  have er : rest = [] := List.eq_nil_of_length_eq_zero (by omega)
  rw [er, List.append_nil] at pm
  exact pm
abbrev s__law_some : Stmt := topS 16
abbrev N__law_some : List Str := ["_law_drawn", "_law_m", "_law_many"]
theorem sc__law_some : FnScope N__law_some ["_law_drawn", "_law_m", "_law_many"] (defScope s__law_some) :=
  ⟨rfl, rfl, rfl, by decide +kernel, rfl, by decide +kernel, by decide +kernel⟩
theorem ok__law_some {f : Addr} {fd : FuncData} (F : Fun K "_law_some" "_law_some" s__law_some f fd) (T : Bi mg)
    (h__law_mixed : Has P w K mg base 2 "_law_mixed" ["_law_drawn", "_law_items"] (spK K ΔA RMix))
    : FnOk P w K mg base CX0 3 f fd ["_law_drawn", "_law_m", "_law_many"] (spK K ΔA RSome) := by
  refine F.ok sc__law_some (fun vs H Q E h => lenK h (by rintro ds k A ⟨_, _, rfl, _⟩; rfl)) (fun cdv Ar outer s H vs Q E hr h => ?_)
  refine ⟨_, (pss_one (ps_ret (pe_callB (ksortT K) (by rfl) T.sorted (by decide +kernel) (pa_cons (pe_slice (kslU K) (pe_callH h__law_mixed hr (by decide) (by rfl) (pa_cons (pv 0) (pa_cons (pe_listRg (by rfl) (by rfl) T.list (prg_1 (by rfl) T.range (pv 1))) pa_nil))) po_none (po_some (pv 2))) pa_nil)))), ?_⟩
  refine goK h (by repeat' (first | (with_reducible (first | apply rs_seq | exact rs_never | exact rs_next | exact rs_retN | apply rs_asg | apply rs_par | apply rs_par3 | apply rs_drop | apply rs_ret | apply rs_if | apply rs_for | apply rs_while | exact re_var | exact re_int | exact re_str | exact re_bl | exact re_non | apply re_op | apply re_un | apply re_isiT | apply re_isiI | apply re_isiB | apply re_srtSc | apply re_srtSet | apply re_cb | apply re_lst | apply re_tup | apply re_slU | apply re_slT | apply re_slL | exact ro_none | apply ro_some | apply re_andV | apply re_orV | apply re_notV | apply re_if | apply re_chain | apply rt_test | apply rt_b | apply rt_tru | exact rt_yes | apply rt_and | apply rt_or | apply rt_not | exact ra_nil | apply ra_cons | apply ri_rng1 | apply ri_rng2 | apply ri_tup | apply ri_lst | apply ri_zip | apply ri_enum | apply ri_enT | apply ri_U | apply ri_zm | apply ri_revA | exact rg_name | exact rgs_nil | apply rgs_cons | apply rg_tup | apply re_lc | apply re_listRg | apply re_tupRg | apply rrg1 | apply rrg2 | apply re_index | apply re_revT | apply re_revL | apply re_callK | apply re_callP | exact r2_I0 | exact r2_B0 | exact r2_Ic | exact r2_eq | exact r2_ne | exact r2_isN | exact r2_notN | exact r2_ixA | exact r2_ixT | exact r2_ixL | exact r2_catT | exact r2_catL | exact r2_catS | exact r2_notB | exact r2_repT | exact r2_in | exact r2_eqD | exact r2_neD | exact r1_neg | exact rc_len' | exact rc_tupF | exact rc_listof | exact rc_sorted | exact rc_sum | exact rc_max | exact rc_min | exact rc_all | exact rc_repr | exact rc_abs | exact rc_max2 | exact rc_min2 | exact rc_int1 | exact rc_sortT | apply ri_rng3)) | decide)) (fun ds k A hR => ?_)
  obtain ⟨m, many, e, hk, h0, h1, h2, a⟩ := hR
  subst e
  have el : ((rgD 0 m).map PyData.int).length = m.toNat := by rw [List.length_map, rgD_upto, upto_len]
  refine ⟨rfl, _, rfl, m, rfl, RgOk.of_le (by decide) (by omega) (by decide) (by omega), k, rfl, _, _, rfl, rfl, by rw [el]; omega, by rw [el]; omega, fun ys pm => ?_⟩
  obtain ⟨zs, ez, pz⟩ := perm_ints pm
  rw [rgD_upto] at pz
  subst ez
  refine ⟨_, rfl, many, rfl, _, rfl, zs.take many.toNat, ?_, fun ns' pn srt => ?_⟩
  · show [PyData.tuple (cutD (zs.map .int) none (some many))] = _
    rw [show many = ((many.toNat : Nat) : Int) by omega, cutD_to, List.map_take]
    rfl
  have nd : zs.Nodup := pz.nodup_iff.mpr (upto_nodup m)
  have nd2 : (zs.take many.toNat).Nodup := List.Sublist.nodup (List.take_sublist _ _) nd
  have nda : ns'.Nodup := pn.nodup_iff.mpr nd2
  have hzl := pz.length_eq
  rw [upto_len] at hzl
  refine ⟨_, k + m, rfl, by rw [el]; omega, a ns' (lt_of_le_nodup srt nda) ?_ fun x hx => ?_⟩
  · rw [pn.length_eq, List.length_take]
    omega
  · exact upto_mem.mp (pz.mem_iff.mp (List.mem_of_mem_take (pn.mem_iff.mp hx)))
abbrev s__law_one : Stmt := topS 14
abbrev N__law_one : List Str := ["_law_drawn", "_law_items"]
theorem sc__law_one : FnScope N__law_one ["_law_drawn", "_law_items"] (defScope s__law_one) :=
  ⟨rfl, rfl, rfl, by decide +kernel, rfl, by decide +kernel, by decide +kernel⟩
theorem ok__law_one {f : Addr} {fd : FuncData} (F : Fun K "_law_one" "_law_one" s__law_one f fd) (T : Bi mg)
    (h__law_next : Has P w K mg base 1 "_law_next" ["_law_drawn", "_law_many"] (spK K ΔA RDraw))
    : FnOk P w K mg base CX0 2 f fd ["_law_drawn", "_law_items"] (spK K ΔA ROne) := by
  refine F.ok sc__law_one (fun vs H Q E h => lenK h (by rintro ds k A ⟨_, rfl, _⟩; rfl)) (fun cdv Ar outer s H vs Q E hr h => ?_)
  refine ⟨_, (pss_one (ps_ret (pe_ix (kixA K) (pv 1) (pe_callH h__law_next hr (by decide) (by rfl) (pa_cons (pv 0) (pa_cons (pe_callB (klen K) (by rfl) T.len (by decide +kernel) (pa_cons (pv 1) pa_nil)) pa_nil))) (fun _ _ => rfl)))), ?_⟩
  refine goK h (by repeat' (first | (with_reducible (first | apply rs_seq | exact rs_never | exact rs_next | exact rs_retN | apply rs_asg | apply rs_par | apply rs_par3 | apply rs_drop | apply rs_ret | apply rs_if | apply rs_for | apply rs_while | exact re_var | exact re_int | exact re_str | exact re_bl | exact re_non | apply re_op | apply re_un | apply re_isiT | apply re_isiI | apply re_isiB | apply re_srtSc | apply re_srtSet | apply re_cb | apply re_lst | apply re_tup | apply re_slU | apply re_slT | apply re_slL | exact ro_none | apply ro_some | apply re_andV | apply re_orV | apply re_notV | apply re_if | apply re_chain | apply rt_test | apply rt_b | apply rt_tru | exact rt_yes | apply rt_and | apply rt_or | apply rt_not | exact ra_nil | apply ra_cons | apply ri_rng1 | apply ri_rng2 | apply ri_tup | apply ri_lst | apply ri_zip | apply ri_enum | apply ri_enT | apply ri_U | apply ri_zm | apply ri_revA | exact rg_name | exact rgs_nil | apply rgs_cons | apply rg_tup | apply re_lc | apply re_listRg | apply re_tupRg | apply rrg1 | apply rrg2 | apply re_index | apply re_revT | apply re_revL | apply re_callK | apply re_callP | exact r2_I0 | exact r2_B0 | exact r2_Ic | exact r2_eq | exact r2_ne | exact r2_isN | exact r2_notN | exact r2_ixA | exact r2_ixT | exact r2_ixL | exact r2_catT | exact r2_catL | exact r2_catS | exact r2_notB | exact r2_repT | exact r2_in | exact r2_eqD | exact r2_neD | exact r1_neg | exact rc_len' | exact rc_tupF | exact rc_listof | exact rc_sorted | exact rc_sum | exact rc_max | exact rc_min | exact rc_all | exact rc_repr | exact rc_abs | exact rc_max2 | exact rc_min2 | exact rc_int1 | exact rc_sortT | apply ri_rng3)) | decide)) (fun ds k A hR => ?_)
  obtain ⟨xs, e, hk, ne, hl, a⟩ := hR
  subst e
  have hp : 0 < xs.length := List.length_pos_iff.mpr ne
  refine ⟨_, rfl, rfl, _, rfl, _, _, rfl, rfl, _, rfl, _, rfl, hk, by omega, by omega, fun v v0 v1 => ?_⟩
  have hv : v.toNat < xs.length := by omega
  obtain ⟨x, hx⟩ : ∃ x, xs[v.toNat]? = some x := ⟨_, List.getElem?_eq_getElem hv⟩
  have hat : atI xs v = some x := by
    have := atI_nat hx
    rw [show ((v.toNat : Nat) : Int) = v by omega] at this
    exact this
  exact ⟨_, v, x, rfl, rfl, hat, k + 1, k + 1, rfl, Int.le_refl _, a x (List.mem_of_getElem? hx)⟩
abbrev s__law_tool : Stmt := topS 17
abbrev N__law_tool : List Str := ["_law_drawn", "_law_m", "_law_many", "_law_period", "_law_way", "_law_turn", "_law_most", "_law_each", "_law_begins", "_law_targets", "_law_rows", "_law_step", "_law_begin", "_law_target_here", "_law_d"]
theorem sc__law_tool : FnScope N__law_tool ["_law_drawn", "_law_m"] (defScope s__law_tool) :=
  ⟨rfl, rfl, rfl, by decide +kernel, rfl, by decide +kernel, by decide +kernel⟩
theorem ok__law_tool {f : Addr} {fd : FuncData} (F : Fun K "_law_tool" "_law_tool" s__law_tool f fd) (T : Bi mg)
    (h__law_next : Has P w K mg base 1 "_law_next" ["_law_drawn", "_law_many"] (spK K ΔA RDraw))
    (h__law_one : Has P w K mg base 2 "_law_one" ["_law_drawn", "_law_items"] (spK K ΔA ROne))
    (h__law_some : Has P w K mg base 3 "_law_some" ["_law_drawn", "_law_m", "_law_many"] (spK K ΔA RSome))
    : FnOk P w K mg base CX0 4 f fd ["_law_drawn", "_law_m"] (spK K ΔA RToolA) := by
  refine F.ok sc__law_tool (fun vs H Q E h => lenK h (by rintro ds k A ⟨_, rfl, _⟩; rfl)) (fun cdv Ar outer s H vs Q E hr h => ?_)
  refine ⟨_, (pss_cons (ps_set (i := 2) sc__law_tool.nd rfl (.inl rfl) (pe_op op_add pe_int (pe_callH h__law_next hr (by decide) (by rfl) (pa_cons (pv 0) (pa_cons (pe_callB (call_min2 rfl) (by rfl) T.min (by decide +kernel) (pa_cons (pv 1) (pa_cons pe_int pa_nil))) pa_nil)))))
  (pss_cons (ps_set (i := 3) sc__law_tool.nd rfl (.inl rfl) (pe_callH h__law_one hr (by decide) (by rfl) (pa_cons (pv 0) (pa_cons (pe_lc (own := [("_law_d", 14)]) rfl sc__law_tool.nd (pi_range2 (by rfl) T.range (pa_cons pe_int (pa_cons (pe_op op_add (pv 1) pe_int) pa_nil))) (blkOk_by (own := [("_law_d", 14)]) (N := N__law_tool) (sc := defScope s__law_tool) (by decide +kernel))
    (fun _ _ _ _ _ => (pg_name (i := 14) sc__law_tool.nd rfl (.inl rfl))) (fun _ _ _ _ _ => (pts_one (PW.pt (pw_and (pt_cmpR op_eq (pe_op op_mod (pv 1) (pv 14)) pe_int (nomark _)) (pw_and1 (pt_cmpR op_le (pe_op op_fdiv (pv 1) (pv 14)) pe_int (nomark _)))))))
    (fun _ _ _ _ _ => (pv 14))) pa_nil))))
  (pss_cons (ps_par (i := 4) (j := 5) (by rfl) sc__law_tool.nd rfl rfl (by decide) rfl rfl (pa_cons (pe_callH h__law_next hr (by decide) (by rfl) (pa_cons (pv 0) (pa_cons pe_int pa_nil))) (pa_cons (pe_callH h__law_next hr (by decide) (by rfl) (pa_cons (pv 0) (pa_cons (pv 1) pa_nil))) pa_nil)) (by rfl))
  (pss_cons (ps_if (pt_cmpR op_eq (pv 4) pe_int (nomark _))
  (pss_one (ps_ret (pe_tup (pa_cons (pe_tup (pa_cons pe_int (pa_cons (pv 5) pa_nil))) pa_nil))))
  pss_nil)
  (pss_cons (ps_if (pt_cmpR op_gt (pv 4) pe_int (nomark _))
  (pss_one (ps_set (i := 3) sc__law_tool.nd rfl (.inl rfl) (pv 1)))
  pss_nil)
  (pss_cons (ps_set (i := 6) sc__law_tool.nd rfl (.inl rfl) (pe_callB (call_min2 rfl) (by rfl) T.min (by decide +kernel) (pa_cons (pv 3) (pa_cons (pe_op op_fdiv pe_int (pe_op op_fdiv (pv 1) (pv 3))) pa_nil))))
  (pss_cons (ps_set (i := 7) sc__law_tool.nd rfl (.inl rfl) (pe_ifExp (pt_cmpR op_eq (pv 3) (pv 1) (nomark _)) (pv 2) (pe_op op_add pe_int (pe_callH h__law_next hr (by decide) (by rfl) (pa_cons (pv 0) (pa_cons (pv 6) pa_nil))))))
  (pss_cons (ps_set (i := 8) sc__law_tool.nd rfl (.inl rfl) (pe_callH h__law_some hr (by decide) (by rfl) (pa_cons (pv 0) (pa_cons (pv 3) (pa_cons (pv 7) pa_nil)))))
  (pss_cons (ps_set (i := 9) sc__law_tool.nd rfl (.inl rfl) (pe_callH h__law_some hr (by decide) (by rfl) (pa_cons (pv 0) (pa_cons (pv 3) (pa_cons (pv 7) pa_nil)))))
  (pss_cons (ps_set (i := 10) sc__law_tool.nd rfl (.inl rfl) (pe_lst pa_nil))
  (pss_cons (ps_for PassesOwn.never rfl (pi_range3 (by rfl) T.range (pa_cons pe_int (pa_cons (pv 1) (pa_cons (pv 3) pa_nil)))) (pg_name (i := 11) sc__law_tool.nd rfl (.inl rfl))
  (pss_one (ps_for PassesOwn.never rfl (kizip K (by rfl) T.zip (pa_cons (pv 8) (pa_cons (pv 9) pa_nil))) (kgtup K 2 rfl (pgs_cons (pg_name (i := 12) sc__law_tool.nd rfl (.inl rfl)) (pgs_cons (pg_name (i := 13) sc__law_tool.nd rfl (.inl rfl)) pgs_nil)))
  (pss_one (ps_expr (kbm K PySem.F.plainAttrs_list PySem.F.slot_list_append PySem.F.type_list_append mt_append (pv 10) (pa_cons (pe_tup (pa_cons (pe_op op_add (pv 12) (pv 11)) (pa_cons (pe_op op_mod (pe_op op_add (pe_op op_add (pv 13) (pv 5)) (pv 11)) (pv 1)) pa_nil))) pa_nil)))))))
  (pss_one (ps_ret (pe_ifExp (pt_cmpR op_gt (pe_callB (klen K) (by rfl) T.len (by decide +kernel) (pa_cons (pv 10) pa_nil)) pe_int (nomark _)) (pe_callTy (ktupQ K) (by rfl) T.tuple (by decide +kernel) (pa_cons (pv 10) pa_nil)) (pe_tup (pa_cons (pe_tup (pa_cons pe_int (pa_cons (pe_ix (kixA K) (pe_ix (kixA K) (pv 10) pe_int (fun _ _ => rfl)) pe_int (fun _ _ => rfl)) pa_nil))) pa_nil)))))))))))))))), ?_⟩
  refine goK h (by repeat' (first | (with_reducible (first | apply rs_cutA | apply rs_cutE | apply rs_own 10 | apply rs_app' 10 | exact re_tupFO 10 | exact re_lenO 10 | exact re_ixAO 10 | apply re_ixOg 10 | apply rs_seq | exact rs_never | exact rs_next | exact rs_retN | apply rs_asg | apply rs_par | apply rs_par3 | apply rs_drop | apply rs_ret | apply rs_if | apply rs_for | apply rs_while | exact re_var | exact re_int | exact re_str | exact re_bl | exact re_non | apply re_op | apply re_un | apply re_isiT | apply re_isiI | apply re_isiB | apply re_srtSc | apply re_srtSet | apply re_cb | apply re_lst | apply re_tup | apply re_slU | apply re_slT | apply re_slL | exact ro_none | apply ro_some | apply re_andV | apply re_orV | apply re_notV | apply re_if | apply re_chain | apply rt_test | apply rt_b | apply rt_tru | exact rt_yes | apply rt_and | apply rt_or | apply rt_not | exact ra_nil | apply ra_cons | apply ri_rng1 | apply ri_rng2 | apply ri_tup | apply ri_lst | apply ri_zip | apply ri_enum | apply ri_enT | apply ri_U | apply ri_zm | apply ri_revA | exact rg_name | exact rgs_nil | apply rgs_cons | apply rg_tup | apply re_lc | apply re_listRg | apply re_tupRg | apply rrg1 | apply rrg2 | apply re_index | apply re_revT | apply re_revL | apply re_callK | apply re_callP | exact r2_I0 | exact r2_B0 | exact r2_Ic | exact r2_eq | exact r2_ne | exact r2_isN | exact r2_notN | exact r2_ixA | exact r2_ixT | exact r2_ixL | exact r2_catT | exact r2_catL | exact r2_catS | exact r2_notB | exact r2_repT | exact r2_in | exact r2_eqD | exact r2_neD | exact r1_neg | exact rc_len' | exact rc_tupF | exact rc_listof | exact rc_sorted | exact rc_sum | exact rc_max | exact rc_min | exact rc_all | exact rc_repr | exact rc_abs | exact rc_max2 | exact rc_min2 | exact rc_int1 | exact rc_sortT | apply ri_rng3)) | decide)) (fun ds k A hR => ?_)
  obtain ⟨m, e, hk, hm1, hm2, a⟩ := hR
  subst e
  -- many
  refine ⟨rfl, _, rfl, m, 12, rfl, k, rfl, _, rfl, by omega, by split <;> omega, by split <;> omega, fun v v0 v1 => ⟨1, v, rfl, rfl, ?_⟩⟩
  -- the period
  refine ⟨rfl, _, rfl, m, 1, rfl, rfl, 1, _, rfl, ⟨by omega, by omega, by omega, by omega⟩, lcRgT (n := (m + 1 - 1).toNat) (goodB m) (fun i => .int (1 + (i : Nat))) (by omega) ?_ ?_⟩
  · intro i hi Bt Bf hbt hbf R hR
    refine ⟨_, rfl, _, rfl, m, 1 + (i : Nat), rfl, rfl, (by omega : (0 : Int) < 1 + (i : Nat)), .inl ⟨_, 0, rfl, rfl, _, rfl, ite2 (fun h1 => ?_) (fun h1 => ?_)⟩⟩
    · have h1 : m % (1 + (i : Nat)) = 0 := of_decide_eq_true ((Bool.false_xor _).symm.trans h1)
      refine ⟨_, rfl, _, rfl, m, 1 + (i : Nat), rfl, rfl, ⟨by omega, by omega⟩, _, 12, rfl, rfl, _, rfl, ite2 (fun h2 => ⟨_, rfl, hR _ (hbt ?_ _ rfl)⟩) (fun h2 => hbf ?_ _ rfl)⟩
      · unfold goodB
        rw [decide_eq_true h1, h2]
        rfl
      · unfold goodB
        rw [Bool.not_eq_true] at h2
        rw [h2, Bool.and_false]
    · have h1 : ¬ m % (1 + (i : Nat)) = 0 := fun z => h1 ((Bool.false_xor _).trans (decide_eq_true z))
      refine iteF (hbf ?_ _ rfl)
      unfold goodB
      rw [decide_eq_false h1]
      rfl
  rw [goods_data]
  have hgl := goods_len hm1
  refine ⟨_, rfl, _, rfl, by omega, fun z => ?_, by rw [List.length_map]; omega, fun x hx => ?_⟩
  · rw [List.map_eq_nil_iff] at z
    rw [z] at hgl
    exact absurd hgl.1 (by decide)
  obtain ⟨d0, hd0, ex⟩ := List.mem_map.mp hx
  subst ex
  have gd0 := goods_good hd0
  clear hx
  -- way and turn
  refine ⟨rfl, _, rfl, 4, rfl, by omega, by decide, by decide, fun w w0 w1 => ?_⟩
  refine ⟨rfl, _, rfl, _, rfl, m, rfl, by omega, hm1, by omega, fun f f0 f1 => ⟨_, _, rfl, ?_⟩⟩
  refine ⟨_, rfl, .inl ⟨w, 1, rfl, rfl, _, rfl, ite2 (fun h => ?_) (fun h => ?_)⟩⟩
  · exact ⟨_, rfl, len_ok rfl, len_ok rfl, _, k + 130, rfl, by omega, a [(0, f)] (tool_of_one f0 f1)⟩
  refine ⟨fun s => ∃ d kk, Good m d ∧ kk ≤ k + 4 ∧ s = ⟨[.deck, .dat (.int m), .dat (.int (1 + v)), .dat (.int d), .dat (.int w), .dat (.int f), .free, .free, .free, .free, .free, .free, .free, .free, .free], some kk⟩, ⟨_, rfl, w, 1, rfl, rfl, _, rfl, ite2 (fun h2 => ⟨_, rfl, m, _, good_self hm1, ?_, rfl⟩) (fun h2 => ⟨d0, _, gd0, ?_, rfl⟩)⟩, ?_⟩
  · omega
  · omega
  rintro s' ⟨d, kk, gd, hkk, es⟩
  subst es
  clear gd0 hd0 d0 hgl
  have gd1 := gd.1
  have gd2 := gd.2.1
  have gq := gd.2.2.2
  have hmq := gd.mul
  have hq0 : 1 ≤ m / d := (Int.le_ediv_iff_mul_le (by omega)).mpr (by omega)
  refine ⟨_, rfl, _, rfl, _, rfl, m, d, rfl, rfl, ⟨by omega, by omega⟩, 12, m / d, rfl, rfl, ⟨by omega, by omega⟩, d, _, rfl, ?_⟩
  refine ⟨fun s => ∃ (n kk : Int) (y6 : Sl), 1 ≤ n ∧ n ≤ d ∧ n * (m / d) ≤ 12 ∧ kk ≤ k + 5 ∧ s = ⟨[.deck, .dat (.int m), .dat (.int (1 + v)), .dat (.int d), .dat (.int w), .dat (.int f), y6, .dat (.int n), .free, .free, .free, .free, .free, .free, .free], some kk⟩, ⟨_, rfl, _, rfl, .inl ⟨d, m, rfl, rfl, _, rfl, ite2 (fun h2 => ⟨_, rfl, _, _, _, ?_, ?_, ?_, ?_, rfl⟩) (fun h2 => ?_)⟩⟩, ?_⟩
  · omega
  · have e : d = m := of_decide_eq_true ((Bool.false_xor _).symm.trans h2)
    rw [e]
    split at v1 <;> omega
  · have e : d = m := of_decide_eq_true ((Bool.false_xor _).symm.trans h2)
    rw [e, Int.ediv_self (by omega)]
    split at v1 <;> omega
  · omega
  · have hq2 : 1 ≤ 12 / (m / d) := (Int.le_ediv_iff_mul_le (by omega)).mpr (by omega)
    refine ⟨rfl, _, rfl, kk, rfl, _, rfl, by omega, by split <;> omega, by split <;> omega, fun u u0 u1 => ⟨1, u, rfl, rfl, _, _, _, ?_, ?_, ?_, ?_, rfl⟩⟩
    · omega
    · split at u1 <;> omega
    · have h5 : 1 + u ≤ 12 / (m / d) := by split at u1 <;> omega
      exact (Int.le_ediv_iff_mul_le (by omega)).mp h5
    · omega
  rintro s' ⟨n, kk2, y6, hn1, hn2, hq12, hkk2, es⟩
  subst es
  clear hkk
  have hn12 : n ≤ 12 := by
    have : n * 1 ≤ n * (m / d) := Int.mul_le_mul_of_nonneg_left hq0 (by omega)
    omega
  refine ⟨rfl, _, rfl, _, rfl, kk2, rfl, d, n, rfl, by omega, by omega, by omega, by omega, fun bs bp bl br => ?_⟩
  refine ⟨rfl, _, rfl, _, rfl, _, rfl, d, n, rfl, by omega, by omega, by omega, by omega, fun ts tp tl tr => ?_⟩
  refine ⟨Nat.zero_le _, ?_⟩
  -- the loops
  refine ⟨_, rfl, _, rfl, 0, m, d, (m / d).toNat, rfl, gd.rgc hm1 hm2, ?_⟩
  refine ⟨fun i s => ∃ (raw : List (Int × Int)) (L : List PyData) (y11 y12 y13 y14 : Sl) (kk : Int), s = ⟨[.deck, .dat (.int m), .dat (.int (1 + v)), .dat (.int d), .dat (.int w), .dat (.int f), y6, .dat (.int n), .dat (.list (bs.map .int)), .dat (.list (ts.map .int)), .own L, y11, y12, y13, y14], some kk⟩ ∧
    L = (raw.map fun x => (x.1, (x.2 + f) % m)).map pairD ∧ kk ≤ k + 130 ∧ Raw m d bs ts i 0 raw ∧ (raw.length : Int) = i * n, ?_, ?_, ?_⟩
  · exact ⟨[], _, _, _, _, _, _, rfl, rfl, by omega, .nil, by rw [List.length_nil]; simp⟩
  · intro i x s hx hs
    obtain ⟨raw, L, y11, y12, y13, y14, kk, e, eL, ek, rw', rl'⟩ := hs
    subst e
    obtain ⟨ex, hi⟩ := range_at hx
    subst ex
    refine ⟨_, rfl, _, rfl, _, _, rfl, ?_⟩
    refine ⟨fun j s => ∃ (raw : List (Int × Int)) (L : List PyData) (y12 y13 y14 : Sl) (kk : Int), s = ⟨[.deck, .dat (.int m), .dat (.int (1 + v)), .dat (.int d), .dat (.int w), .dat (.int f), y6, .dat (.int n), .dat (.list (bs.map .int)), .dat (.list (ts.map .int)), .own L, .dat (.int (0 + (i : Nat) * d)), y12, y13, y14], some kk⟩ ∧
      L = (raw.map fun x => (x.1, (x.2 + f) % m)).map pairD ∧ kk ≤ k + 130 ∧ Raw m d bs ts i j raw ∧ (raw.length : Int) = i * n + j, ?_, ?_, ?_⟩
    · exact ⟨raw, _, _, _, _, _, rfl, eL, ek, rw', by omega⟩
    · intro j x s hx hs
      obtain ⟨raw2, L2, z12, z13, z14, kk2, e, eL2, ek2, rw2, rl2⟩ := hs
      subst e
      obtain ⟨xb, xt, gb, gt, ex⟩ := zipD_get hx
      subst ex
      obtain ⟨b, hb, e⟩ := map_get gb
      subst e
      obtain ⟨t, ht, e⟩ := map_get gt
      subst e
      have xb := br _ (List.mem_of_getElem? hb)
      have xt := tr _ (List.mem_of_getElem? ht)
      have hj : j < bs.length := (List.getElem?_eq_some_iff.mp hb).1
      have len12 : raw2.length < 12 := by
        have h1 : (i : Int) + 1 ≤ m / d := by omega
        have h2 : ((i : Int) + 1) * n ≤ (m / d) * n := Int.mul_le_mul_of_nonneg_right h1 (by omega)
        have h3 : ((i : Int) + 1) * n = i * n + n := by rw [Int.add_mul, Int.one_mul]
        rw [Int.mul_comm n (m / d)] at hq12
        omega
      refine ⟨_, rfl, rfl, _, _, rfl, _, _, rfl, rfl, _, rfl, by rw [eL2, List.length_map, List.length_map]; omega, ?_⟩
      refine ⟨_, rfl, _, rfl, _, _, rfl, rfl, _, rfl, _, rfl, _, _, rfl, rfl, _, rfl, _, _, rfl, rfl, _, rfl, _, _, rfl, rfl, (by omega : 0 < m), len_ok rfl, rfl, ?_⟩
      refine ⟨raw2 ++ [((i : Nat) * d + b, (i : Nat) * d + t)], _, _, _, _, _, rfl, ?_, ek2, rw2.add bp tp hb ht xb.1 xt.1 (by omega), ?_⟩
      · rw [eL2, List.map_append, List.map_append, raw_swap2]
        rfl
      · rw [List.length_append, List.length_singleton]
        omega
    · intro s hs
      obtain ⟨raw2, L2, z12, z13, z14, kk2, e, eL2, ek2, rw2, rl2⟩ := hs
      subst e
      rw [zipD_len, List.length_map, List.length_map] at rl2
      refine ⟨raw2, _, _, _, _, _, _, rfl, eL2, ek2, rw2.next br tr (by omega), ?_⟩
      rw [Int.natCast_add, Int.add_mul]
      omega
  · intro s hs
    obtain ⟨raw, L, y11, y12, y13, y14, kk, e, eL, ek, rw6, rl6⟩ := hs
    subst e
    rw [List.length_map, List.length_range] at rw6 rl6
    have hqn : ((m / d).toNat : Int) = m / d := by omega
    rw [hqn] at rl6
    have hqn1 : 1 ≤ (m / d) * n := by
      have := Int.mul_le_mul hq0 hn1 (by decide) (by omega)
      omega
    have bd : ∀ x ∈ raw, (0 ≤ x.1 ∧ x.1 < m) ∧ 0 ≤ x.2 ∧ x.2 < m := by
      intro x hx
      have h1 := rw6.low x hx
      rcases rw6.bnd x hx with ⟨h2, h3⟩ | ⟨z, _, _, hz, _⟩
      · rw [hqn, Int.mul_comm, ← hmq] at h2 h3
        omega
      · exact absurd hz (Nat.not_lt_zero _)
    have hL : L.length = raw.length := by rw [eL, List.length_map, List.length_map]
    refine ⟨_, rfl, _, 1, rfl, rfl, _, rfl, ite2 (fun h1 => ?_) (fun h1 => ?_)⟩
    · have h1 := of_decide_eq_true h1
      refine ⟨_, rfl, _, k + 130, rfl, by omega, ?_⟩
      rw [eL]
      refine a _ (tool_of_raw (s := f) (by omega) ?_ rw6.asc bd)
      rw [Int.mul_comm n (m / d)] at hq12
      omega
    · have h1 : ¬ (1 : Int) < L.length := fun z => h1 (decide_eq_true z)
      match raw, eL, rl6, bd with
      | [], eL, rl6, _ =>
        rw [List.length_nil] at rl6
        exact absurd rl6 (by show ((0 : Nat) : Int) ≠ _; omega)
      | x0 :: rr, eL, rl6, bd =>
        subst eL
        refine ⟨_, 0, _, rfl, rfl, atI_nat (j := 0) rfl, _, 1, _, rfl, rfl, rfl, len_ok rfl, len_ok rfl, _, k + 130, rfl, by omega, ?_⟩
        exact a [(0, (x0.2 + f) % m)] (tool_of_one (Int.emod_nonneg _ (by omega)) (Int.emod_lt_of_pos _ (by omega)))
abbrev s__law_case : Stmt := topS 21
abbrev N__law_case : List Str := ["_law_drawn", "_law_most", "_law_m", "_law_tools", "_law_many", "_law_goal", "_law_k"]
theorem sc__law_case : FnScope N__law_case ["_law_drawn", "_law_most"] (defScope s__law_case) :=
  ⟨rfl, rfl, rfl, by decide +kernel, rfl, by decide +kernel, by decide +kernel⟩
theorem ok__law_case {f : Addr} {fd : FuncData} (F : Fun K "_law_case" "_law_case" s__law_case f fd) (T : Bi mg)
    (h__law_next : Has P w K mg base 1 "_law_next" ["_law_drawn", "_law_many"] (spK K ΔA RDraw))
    (h__law_tool : Has P w K mg base 4 "_law_tool" ["_law_drawn", "_law_m"] (spK K ΔA RToolA))
    (h__law_some : Has P w K mg base 3 "_law_some" ["_law_drawn", "_law_m", "_law_many"] (spK K ΔA RSome))
    : FnOk P w K mg base CX0 5 f fd ["_law_drawn", "_law_most"] (spK K ΔA RCase) := by
  refine F.ok sc__law_case (fun vs H Q E h => lenK h (by rintro ds k A ⟨_, rfl, _⟩; rfl)) (fun cdv Ar outer s H vs Q E hr h => ?_)
  refine ⟨_, (pss_cons (ps_set (i := 2) sc__law_case.nd rfl (.inr rfl) (pe_ix (kixA K) (pe_lst (pa_cons (pe_op op_add pe_int (pe_callH h__law_next hr (by decide) (by rfl) (pa_cons (pv 0) (pa_cons (pv 1) pa_nil)))) (pa_cons (pv 1) pa_nil))) (pe_callTy call_int1 (by rfl) T.int (by decide +kernel) (pa_cons (pe_cmpR op_eq (pe_callH h__law_next hr (by decide) (by rfl) (pa_cons (pv 0) (pa_cons pe_int pa_nil))) pe_int (nomark _)) pa_nil)) (fun _ _ => rfl)))
  (pss_cons (ps_set (i := 3) sc__law_case.nd rfl (.inl rfl) (pe_callTy (ktupQ K) (by rfl) T.tuple (by decide +kernel) (pa_cons (pe_lc (own := [("_law_k", 6)]) rfl sc__law_case.nd (pi_range1 (by rfl) T.range (pa_cons (pe_op op_add pe_int (pe_callH h__law_next hr (by decide) (by rfl) (pa_cons (pv 0) (pa_cons pe_int pa_nil)))) pa_nil)) (blkOk_by (own := [("_law_k", 6)]) (N := N__law_case) (sc := defScope s__law_case) (by decide +kernel))
    (fun _ _ _ _ _ => (pg_name (i := 6) sc__law_case.nd rfl (.inl rfl))) (fun _ _ _ _ _ => pts_nil)
    (fun _ _ _ _ _ => (pe_callH h__law_tool hr (by decide) (by rfl) (pa_cons (pv 0) (pa_cons (pv 2) pa_nil))))) pa_nil)))
  (pss_cons (ps_set (i := 4) sc__law_case.nd rfl (.inl rfl) (pe_ix (kixA K) (pe_lst (pa_cons (pv 2) (pa_cons (pe_op op_add pe_int (pe_callH h__law_next hr (by decide) (by rfl) (pa_cons (pv 0) (pa_cons (pv 2) pa_nil)))) (pa_cons (pe_op op_add pe_int (pe_callH h__law_next hr (by decide) (by rfl) (pa_cons (pv 0) (pa_cons (pe_callB (call_min2 rfl) (by rfl) T.min (by decide +kernel) (pa_cons (pv 2) (pa_cons pe_int pa_nil))) pa_nil)))) pa_nil)))) (pe_callH h__law_next hr (by decide) (by rfl) (pa_cons (pv 0) (pa_cons pe_int pa_nil))) (fun _ _ => rfl)))
  (pss_cons (ps_set (i := 5) sc__law_case.nd rfl (.inl rfl) (pe_op op_add pe_int (pe_callH h__law_next hr (by decide) (by rfl) (pa_cons (pv 0) (pa_cons (pe_ix (kixA K) (pe_lst (pa_cons (pv 2) (pa_cons (pe_callB (call_min2 rfl) (by rfl) T.min (by decide +kernel) (pa_cons (pv 2) (pa_cons pe_int pa_nil))) pa_nil))) (pe_callH h__law_next hr (by decide) (by rfl) (pa_cons (pv 0) (pa_cons pe_int pa_nil))) (fun _ _ => rfl)) pa_nil)))))
  (pss_one (ps_ret (pe_tup (pa_cons (pv 2) (pa_cons (pv 3) (pa_cons (pe_callTy (ktupQ K) (by rfl) T.tuple (by decide +kernel) (pa_cons (pe_callH h__law_some hr (by decide) (by rfl) (pa_cons (pv 0) (pa_cons (pv 2) (pa_cons (pv 4) pa_nil)))) pa_nil)) (pa_cons (pv 5) pa_nil))))))))))), ?_⟩
  refine goK h (by repeat' (first | (with_reducible (first | apply rs_seq | exact rs_never | exact rs_next | exact rs_retN | apply rs_asg | apply rs_par | apply rs_par3 | apply rs_drop | apply rs_ret | apply rs_if | apply rs_for | apply rs_while | exact re_var | exact re_int | exact re_str | exact re_bl | exact re_non | apply re_op | apply re_un | apply re_isiT | apply re_isiI | apply re_isiB | apply re_srtSc | apply re_srtSet | apply re_cb | apply re_lst | apply re_tup | apply re_slU | apply re_slT | apply re_slL | exact ro_none | apply ro_some | apply re_andV | apply re_orV | apply re_notV | apply re_if | apply re_chain | apply rt_test | apply rt_b | apply rt_tru | exact rt_yes | apply rt_and | apply rt_or | apply rt_not | exact ra_nil | apply ra_cons | apply ri_rng1 | apply ri_rng2 | apply ri_tup | apply ri_lst | apply ri_zip | apply ri_enum | apply ri_enT | apply ri_U | apply ri_zm | apply ri_revA | exact rg_name | exact rgs_nil | apply rgs_cons | apply rg_tup | apply re_lc | apply re_listRg | apply re_tupRg | apply rrg1 | apply rrg2 | apply re_index | apply re_revT | apply re_revL | apply re_callK | apply re_callP | exact r2_I0 | exact r2_B0 | exact r2_Ic | exact r2_eq | exact r2_ne | exact r2_isN | exact r2_notN | exact r2_ixA | exact r2_ixT | exact r2_ixL | exact r2_catT | exact r2_catL | exact r2_catS | exact r2_notB | exact r2_repT | exact r2_in | exact r2_eqD | exact r2_neD | exact r1_neg | exact rc_len' | exact rc_tupF | exact rc_listof | exact rc_sorted | exact rc_sum | exact rc_max | exact rc_min | exact rc_all | exact rc_repr | exact rc_abs | exact rc_max2 | exact rc_min2 | exact rc_int1 | exact rc_sortT | apply ri_rng3)) | decide)) (fun ds k A hR => ?_)
  obtain ⟨most, e, hk, h1, h2, a⟩ := hR
  subst e
  refine ⟨rfl, _, rfl, _, rfl, most, rfl, by omega, h1, by omega, fun u u0 u1 => ⟨1, u, rfl, rfl, _, rfl, len_ok rfl, ?_⟩⟩
  refine ⟨rfl, _, rfl, 5, rfl, by omega, by decide, by decide, fun b b0 b1 => .inl ⟨b, 0, rfl, rfl, .inr ⟨_, rfl, ?_⟩⟩⟩
  have pick : ∃ m : Int, (1 ≤ m ∧ m ≤ most) ∧ atI [PyData.int (1 + u), .int most] (if (false ^^ decide (b = 0)) = true then 1 else 0) = some (.int m) := by
    rw [Bool.false_xor]
    cases decide (b = 0) with
    | true => exact ⟨most, by omega, rfl⟩
    | false => exact ⟨1 + u, by omega, rfl⟩
  obtain ⟨m, ⟨hm1, hm2⟩, hat⟩ := pick
  refine ⟨_, _, _, rfl, rfl, hat, ?_⟩
  clear hat
  -- tools
  refine ⟨rfl, _, rfl, 3, rfl, by omega, by decide, by decide, fun v v0 v1 => ⟨1, v, rfl, rfl, 1 + v, rfl, by omega, by omega, lcDraws toolD (IsTool m) (k + 1 + 1 + 1) 130 rfl (by omega) ?_ ?_⟩⟩
  · intro j hj k' hk' B hB
    exact ⟨rfl, _, rfl, _, rfl, m, rfl, by omega, hm1, by omega, fun tl it => hB tl it _ ⟨_, rfl, Int.le_refl _⟩⟩
  intro ts k' hl its hk'
  refine ⟨_, rfl, ?_⟩
  -- many
  refine ⟨_, rfl, rfl, _, rfl, _, rfl, m, rfl, by omega, hm1, by omega, fun p p0 p1 => ⟨1, p, rfl, rfl, rfl, _, rfl, m, 3, rfl, _, rfl, _, rfl, by omega, by split <;> omega, by split <;> omega, fun q q0 q1 => ⟨1, q, rfl, rfl, len_ok rfl, ?_⟩⟩⟩
  refine ⟨rfl, _, rfl, 3, rfl, by omega, by decide, by decide, fun c c0 c1 => ?_⟩
  obtain ⟨many, hmem, hat⟩ := pickI (xs := [m, 1 + p, 1 + q]) c0 c1
  refine ⟨_, _, _, rfl, rfl, hat, ?_⟩
  have hmany : 1 ≤ many ∧ many ≤ m := by
    simp only [List.mem_cons, List.not_mem_nil, or_false] at hmem
    rcases hmem with e | e | e
    · omega
    · omega
    · split at q1 <;> omega
  clear hat hmem
  -- the goal
  refine ⟨rfl, _, rfl, _, rfl, m, 2, rfl, len_ok rfl, rfl, _, rfl, 2, rfl, by omega, by decide, by decide, fun d d0 d1 => ?_⟩
  obtain ⟨lim, hmem, hat⟩ := pickI (xs := [m, if 2 < m then 2 else m]) d0 d1
  have hlim : 1 ≤ lim ∧ lim ≤ m := by
    simp only [List.mem_cons, List.not_mem_nil, or_false] at hmem
    rcases hmem with e | e
    · omega
    · split at e <;> omega
  refine ⟨_, _, _, rfl, rfl, hat, _, rfl, lim, rfl, by omega, hlim.1, by omega, fun g g0 g1 => ⟨1, g, rfl, rfl, ?_⟩⟩
  clear hat hmem
  refine ⟨_, rfl, _, rfl, rfl, _, rfl, _, rfl, _, rfl, m, many, rfl, by omega, by omega, by omega, by omega, fun xs xp xl xr => ⟨_, rfl, _, rfl, len_ok rfl, _, k + 1000, rfl, by omega, ?_⟩⟩
  refine a m ts xs (1 + g) hm1 hm2 its (fun z => ?_) (by omega) ⟨xp, xr⟩ (fun z => ?_) (by omega) (by omega)
  · rw [z, List.length_nil] at hl
    omega
  · rw [z, List.length_nil] at xl
    omega
abbrev s__law_spread : Stmt := topS 20
abbrev N__law_spread : List Str := ["_law_m", "_law_places", "_law_begin", "_law_place"]
theorem sc__law_spread : FnScope N__law_spread ["_law_m", "_law_places"] (defScope s__law_spread) :=
  ⟨rfl, rfl, rfl, by decide +kernel, rfl, by decide +kernel, by decide +kernel⟩
theorem ok__law_spread {f : Addr} {fd : FuncData} (F : Fun K "_law_spread" "_law_spread" s__law_spread f fd) (T : Bi mg)
    : FnOk P w K mg base CX0 1 f fd ["_law_m", "_law_places"] (spP K RSpread) := by
  refine F.ok sc__law_spread (fun vs H Q E h => lenP h (by rintro ds A ⟨_, _, rfl, _⟩; rfl)) (fun cdv Ar outer s H vs Q E hr h => ?_)
  refine ⟨_, (pss_one (ps_ret (pe_callB (kmin K rfl) (by rfl) T.min (by decide +kernel) (pa_cons (pe_lc (own := [("_law_begin", 2)]) rfl sc__law_spread.nd (kitup K (pv 1)) (blkOk_by (own := [("_law_begin", 2)]) (N := N__law_spread) (sc := defScope s__law_spread) (by decide +kernel))
    (fun _ _ _ _ _ => (pg_name (i := 2) sc__law_spread.nd rfl (.inr rfl))) (fun _ _ _ _ _ => pts_nil)
    (fun _ _ _ _ _ => (pe_op op_add pe_int (pe_callB (kmax K rfl) (by rfl) T.max (by decide +kernel) (pa_cons (pe_lc (own := [("_law_place", 3)]) rfl sc__law_spread.nd (kitup K (pv 1)) (blkOk_by (own := [("_law_place", 3)]) (by rfl))
    (fun _ _ _ _ _ => (pg_name (i := 3) sc__law_spread.nd rfl (.inl rfl))) (fun _ _ _ _ _ => pts_nil)
    (fun _ _ _ _ _ => (pe_op op_mod (pe_op op_sub (pv 3) (pv 2)) (pv 0)))) pa_nil))))) pa_nil)))), ?_⟩
  refine goP (Δ := ΔA) rfl h (by repeat' (first | (with_reducible (first | apply rs_seq | exact rs_never | exact rs_next | exact rs_retN | apply rs_asg | apply rs_par | apply rs_par3 | apply rs_drop | apply rs_ret | apply rs_if | apply rs_for | apply rs_while | exact re_var | exact re_int | exact re_str | exact re_bl | exact re_non | apply re_op | apply re_un | apply re_isiT | apply re_isiI | apply re_isiB | apply re_srtSc | apply re_srtSet | apply re_cb | apply re_lst | apply re_tup | apply re_slU | apply re_slT | apply re_slL | exact ro_none | apply ro_some | apply re_andV | apply re_orV | apply re_notV | apply re_if | apply re_chain | apply rt_test | apply rt_b | apply rt_tru | exact rt_yes | apply rt_and | apply rt_or | apply rt_not | exact ra_nil | apply ra_cons | apply ri_rng1 | apply ri_rng2 | apply ri_tup | apply ri_lst | apply ri_zip | apply ri_enum | apply ri_enT | apply ri_U | apply ri_zm | apply ri_revA | exact rg_name | exact rgs_nil | apply rgs_cons | apply rg_tup | apply re_lc | apply re_listRg | apply re_tupRg | apply rrg1 | apply rrg2 | apply re_index | apply re_revT | apply re_revL | apply re_callK | apply re_callP | exact r2_I0 | exact r2_B0 | exact r2_Ic | exact r2_eq | exact r2_ne | exact r2_isN | exact r2_notN | exact r2_ixA | exact r2_ixT | exact r2_ixL | exact r2_catT | exact r2_catL | exact r2_catS | exact r2_notB | exact r2_repT | exact r2_in | exact r2_eqD | exact r2_neD | exact r1_neg | exact rc_len' | exact rc_tupF | exact rc_listof | exact rc_sorted | exact rc_sum | exact rc_max | exact rc_min | exact rc_all | exact rc_repr | exact rc_abs | exact rc_max2 | exact rc_min2 | exact rc_int1 | exact rc_sortT | apply ri_rng3)) | decide)) (fun ds A hR => ?_)
  obtain ⟨m, ps, e, hm1, hm2, pp, ne, a⟩ := hR
  subst e
  have hl := pp.len
  refine ⟨_, rfl, _, rfl, lcRel (l := ps) (e := PyData.int) (FarP m ps) (by omega) ?_ ?_⟩
  · intro b hb B hB
    refine ⟨_, rfl, _, rfl, lcMap (l := ps) (e := PyData.int) (fun p => .int ((p - b) % m)) (by omega) ?_ ?_⟩
    · intro p hp B hB
      exact ⟨_, rfl, _, rfl, _, _, rfl, rfl, _, rfl, _, m, rfl, rfl, (by omega : 0 < m), hB _ rfl⟩
    have es : (ps.map fun p => PyData.int ((p - b) % m)) = (ps.map fun p => (p - b) % m).map PyData.int := by rw [List.map_map]; rfl
    rw [es]
    refine ⟨_, rfl, by rw [List.length_map]; exact List.length_pos_iff.mpr ne, fun M got all => ⟨1, M, rfl, rfl, hB _ ⟨?_, fun p hp => ?_⟩ _ rfl⟩⟩
    · obtain ⟨p, hp, e⟩ := List.mem_map.mp got
      exact ⟨p, hp, by rw [e]⟩
    · have := all _ (List.mem_map_of_mem (f := fun p => (p - b) % m) hp)
      omega
  intro ws hwl hw
  exact ⟨_, rfl, by rw [hwl]; exact List.length_pos_iff.mpr ne, fun v got all => a v (spread_far hm1 pp ne hwl hw got all)⟩
abbrev s__law_target : Stmt := topS 18
abbrev N__law_target : List Str := ["_law_tool_here", "_law_place", "_law_found", "_law_begin", "_law_target_here"]
theorem sc__law_target : FnScope N__law_target ["_law_tool_here", "_law_place"] (defScope s__law_target) :=
  ⟨rfl, rfl, rfl, by decide +kernel, rfl, by decide +kernel, by decide +kernel⟩
theorem ok__law_target {f : Addr} {fd : FuncData} (F : Fun K "_law_target" "_law_target" s__law_target f fd) (T : Bi mg)
    : FnOk P w K mg base CX0 1 f fd ["_law_tool_here", "_law_place"] (spP K RLT2) := by
  refine F.ok sc__law_target (fun vs H Q E h => lenP h (by rintro ds A ⟨_, _, rfl, _⟩; rfl)) (fun cdv Ar outer s H vs Q E hr h => ?_)
  refine ⟨_, (pss_cons (ps_set (i := 2) sc__law_target.nd rfl (.inl rfl) (pe_ix (kixA K) (pe_ix (kixA K) (pv 0) (pe_un un_neg pe_int) (fun _ _ => rfl)) pe_int (fun _ _ => rfl)))
  (pss_cons (ps_for PassesOwn.never rfl (kitup K (pv 0)) (kgtup K 2 rfl (pgs_cons (pg_name (i := 3) sc__law_target.nd rfl (.inl rfl)) (pgs_cons (pg_name (i := 4) sc__law_target.nd rfl (.inl rfl)) pgs_nil)))
  (pss_one (ps_if (pt_cmpR op_le (pv 3) (pv 1) (nomark _))
  (pss_one (ps_set (i := 2) sc__law_target.nd rfl (.inl rfl) (pv 4)))
  pss_nil)))
  (pss_one (ps_ret (pv 2))))), ?_⟩
  refine goP (Δ := ΔA) rfl h (by repeat' (first | (with_reducible (first | apply rs_seq | exact rs_never | exact rs_next | exact rs_retN | apply rs_asg | apply rs_par | apply rs_par3 | apply rs_drop | apply rs_ret | apply rs_if | apply rs_for | apply rs_while | exact re_var | exact re_int | exact re_str | exact re_bl | exact re_non | apply re_op | apply re_un | apply re_isiT | apply re_isiI | apply re_isiB | apply re_srtSc | apply re_srtSet | apply re_cb | apply re_lst | apply re_tup | apply re_slU | apply re_slT | apply re_slL | exact ro_none | apply ro_some | apply re_andV | apply re_orV | apply re_notV | apply re_if | apply re_chain | apply rt_test | apply rt_b | apply rt_tru | exact rt_yes | apply rt_and | apply rt_or | apply rt_not | exact ra_nil | apply ra_cons | apply ri_rng1 | apply ri_rng2 | apply ri_tup | apply ri_lst | apply ri_zip | apply ri_enum | apply ri_enT | apply ri_U | apply ri_zm | apply ri_revA | exact rg_name | exact rgs_nil | apply rgs_cons | apply rg_tup | apply re_lc | apply re_listRg | apply re_tupRg | apply rrg1 | apply rrg2 | apply re_index | apply re_revT | apply re_revL | apply re_callK | apply re_callP | exact r2_I0 | exact r2_B0 | exact r2_Ic | exact r2_eq | exact r2_ne | exact r2_isN | exact r2_notN | exact r2_ixA | exact r2_ixT | exact r2_ixL | exact r2_catT | exact r2_catL | exact r2_catS | exact r2_notB | exact r2_repT | exact r2_in | exact r2_eqD | exact r2_neD | exact r1_neg | exact rc_len' | exact rc_tupF | exact rc_listof | exact rc_sorted | exact rc_sum | exact rc_max | exact rc_min | exact rc_all | exact rc_repr | exact rc_abs | exact rc_max2 | exact rc_min2 | exact rc_int1 | exact rc_sortT | apply ri_rng3)) | decide)) (fun ds A hR => ?_)
  obtain ⟨tl, p, e, hne, a⟩ := hR
  subst e
  refine ⟨_, rfl, 1, rfl, _, -1, _, rfl, rfl, last_at hne, _, 1, _, rfl, rfl, rfl, ?_⟩
  refine ⟨_, rfl, _, rfl, fun i s => ∃ v y4 y5, v = tgtFrom p (tl.getLastD (0, 0)).2 (tl.take i) ∧ s = ⟨[.dat (toolD tl), .dat (.int p), .dat (.int v), y4, y5], none⟩, ⟨_, _, _, rfl, rfl⟩, ?_, ?_⟩
  · intro i x s hx hs
    obtain ⟨v, y4, y5, hv, e⟩ := hs
    subst e
    obtain ⟨bt, hbt, e⟩ := map_get hx
    subst e
    refine ⟨_, rfl, rfl, _, _, rfl, _, _, rfl, rfl, ?_⟩
    refine ⟨_, rfl, _, rfl, _, _, rfl, rfl, _, rfl, ?_⟩
    refine ite2 (fun hb => ?_) (fun hb => ?_)
    · exact ⟨_, rfl, _, _, _, by rw [tgtFrom_take hbt, if_pos (of_decide_eq_true hb)], rfl⟩
    · exact ⟨_, _, _, by rw [tgtFrom_take hbt, if_neg (fun z => hb (decide_eq_true z))]; exact hv, rfl⟩
  · intro s hs
    obtain ⟨v, y4, y5, hv, e⟩ := hs
    subst e
    rw [List.length_map, List.take_of_length_le (Nat.le_refl _)] at hv
    subst hv
    exact ⟨_, rfl, a⟩
abbrev s__law_pushed : Stmt := topS 19
abbrev N__law_pushed : List Str := ["_law_m", "_law_tool_here", "_law_turn", "_law_places", "_law_place"]
theorem sc__law_pushed : FnScope N__law_pushed ["_law_m", "_law_tool_here", "_law_turn", "_law_places"] (defScope s__law_pushed) :=
  ⟨rfl, rfl, rfl, by decide +kernel, rfl, by decide +kernel, by decide +kernel⟩
theorem ok__law_pushed {f : Addr} {fd : FuncData} (F : Fun K "_law_pushed" "_law_pushed" s__law_pushed f fd) (T : Bi mg)
    (h__law_target : Has P w K mg base 1 "_law_target" ["_law_tool_here", "_law_place"] (spP K RLT2))
    : FnOk P w K mg base CX0 2 f fd ["_law_m", "_law_tool_here", "_law_turn", "_law_places"] (spP K RPushes) := by
  refine F.ok sc__law_pushed (fun vs H Q E h => lenP h (by rintro ds A ⟨_, _, _, _, rfl, _⟩; rfl)) (fun cdv Ar outer s H vs Q E hr h => ?_)
  refine ⟨_, (pss_one (ps_ret (pe_callTy (ktupQ K) (by rfl) T.tuple (by decide +kernel) (pa_cons (pe_callB (ksortS w rfl) (by rfl) T.sorted (by decide +kernel) (pa_cons (pe_callTy (ksetL K w rfl) (by rfl) T.set (by decide +kernel) (pa_cons (pe_lc (own := [("_law_place", 4)]) rfl sc__law_pushed.nd (kitup K (pv 3)) (blkOk_by (own := [("_law_place", 4)]) (N := N__law_pushed) (sc := defScope s__law_pushed) (by decide +kernel))
    (fun _ _ _ _ _ => (pg_name (i := 4) sc__law_pushed.nd rfl (.inl rfl))) (fun _ _ _ _ _ => pts_nil)
    (fun _ _ _ _ _ => (pe_callH h__law_target hr (by decide) (by rfl) (pa_cons (pv 1) (pa_cons (pe_op op_mod (pe_op op_add (pv 4) (pv 2)) (pv 0)) pa_nil))))) pa_nil)) pa_nil)) pa_nil)))), ?_⟩
  refine goP (Δ := ΔA) rfl h (by repeat' (first | (with_reducible (first | apply rs_seq | exact rs_never | exact rs_next | exact rs_retN | apply rs_asg | apply rs_par | apply rs_par3 | apply rs_drop | apply rs_ret | apply rs_if | apply rs_for | apply rs_while | exact re_var | exact re_int | exact re_str | exact re_bl | exact re_non | apply re_op | apply re_un | apply re_isiT | apply re_isiI | apply re_isiB | apply re_srtSc | apply re_srtSet | apply re_cb | apply re_lst | apply re_tup | apply re_slU | apply re_slT | apply re_slL | exact ro_none | apply ro_some | apply re_andV | apply re_orV | apply re_notV | apply re_if | apply re_chain | apply rt_test | apply rt_b | apply rt_tru | exact rt_yes | apply rt_and | apply rt_or | apply rt_not | exact ra_nil | apply ra_cons | apply ri_rng1 | apply ri_rng2 | apply ri_tup | apply ri_lst | apply ri_zip | apply ri_enum | apply ri_enT | apply ri_U | apply ri_zm | apply ri_revA | exact rg_name | exact rgs_nil | apply rgs_cons | apply rg_tup | apply re_lc | apply re_listRg | apply re_tupRg | apply rrg1 | apply rrg2 | apply re_index | apply re_revT | apply re_revL | apply re_callK | apply re_callP | exact r2_I0 | exact r2_B0 | exact r2_Ic | exact r2_eq | exact r2_ne | exact r2_isN | exact r2_notN | exact r2_ixA | exact r2_ixT | exact r2_ixL | exact r2_catT | exact r2_catL | exact r2_catS | exact r2_notB | exact r2_repT | exact r2_in | exact r2_eqD | exact r2_neD | exact r1_neg | exact rc_len' | exact rc_tupF | exact rc_listof | exact rc_sorted | exact rc_sum | exact rc_max | exact rc_min | exact rc_all | exact rc_repr | exact rc_abs | exact rc_max2 | exact rc_min2 | exact rc_int1 | exact rc_sortT | apply ri_rng3)) | decide)) (fun ds A hR => ?_)
  obtain ⟨m, tl, t, ps, e, it, hm1, hm2, pp, a⟩ := hR
  subst e
  refine ⟨_, rfl, _, rfl, lcMap (l := ps) (e := PyData.int) (fun x => .int (pushF m tl t x)) (by have := pp.len; omega) ?_ ?_⟩
  · intro x hx B hB
    exact ⟨_, rfl, _, rfl, _, rfl, _, _, rfl, rfl, _, rfl, _, m, rfl, rfl, (by omega : 0 < m), tl, _, rfl, it.ne, hB _ rfl⟩
  have es : (ps.map fun x => PyData.int (pushF m tl t x)) = (ps.map (pushF m tl t)).map PyData.int := by rw [List.map_map]; rfl
  rw [es]
  refine ⟨_, rfl, by rw [List.length_map]; have := pp.len; omega, fun out srt mem => ?_⟩
  rw [imgP_uniq (fun x _ => tgt_rng it _) srt mem]
  exact ⟨_, rfl, a⟩
abbrev s__law_can_reach : Stmt := topS 23
abbrev N__law_can_reach : List Str := ["_law_m", "_law_tools", "_law_places", "_law_known", "_law_tool_here", "_law_turn"]
theorem sc__law_can_reach : FnScope N__law_can_reach ["_law_m", "_law_tools", "_law_places", "_law_known"] (defScope s__law_can_reach) :=
  ⟨rfl, rfl, rfl, by decide +kernel, rfl, by decide +kernel, by decide +kernel⟩
theorem ok__law_can_reach {f : Addr} {fd : FuncData} (F : Fun K "_law_can_reach" "_law_can_reach" s__law_can_reach f fd) (T : Bi mg)
    (h__law_pushed : Has P w K mg base 2 "_law_pushed" ["_law_m", "_law_tool_here", "_law_turn", "_law_places"] (spP K RPushes))
    : FnOk P w K mg base CX0 3 f fd ["_law_m", "_law_tools", "_law_places", "_law_known"] (spP K RCan) := by
  refine F.ok sc__law_can_reach (fun vs H Q E h => lenP h (by rintro ds A ⟨_, _, _, _, rfl, _⟩; rfl)) (fun cdv Ar outer s H vs Q E hr h => ?_)
  refine ⟨_, (pss_cons (ps_for PassesOwn.never rfl (kitup K (pv 1)) (pg_name (i := 4) sc__law_can_reach.nd rfl (.inl rfl))
  (pss_one (ps_for PassesOwn.never rfl (pi_range1 (by rfl) T.range (pa_cons (pv 0) pa_nil)) (pg_name (i := 5) sc__law_can_reach.nd rfl (.inl rfl))
  (pss_one (ps_if (pt_cmp (pc_din (hu_of hr) (pe_callH h__law_pushed hr (by decide) (by rfl) (pa_cons (pv 0) (pa_cons (pv 4) (pa_cons (pv 5) (pa_cons (pv 2) pa_nil))))) (pv 3)))
  (pss_one (ps_ret pe_bl))
  pss_nil)))))
  (pss_one (ps_ret pe_bl))), ?_⟩
  refine goP (Δ := ΔA) rfl h (by repeat' (first | (with_reducible (first | apply re_dinD | apply rs_seq | exact rs_never | exact rs_next | exact rs_retN | apply rs_asg | apply rs_par | apply rs_par3 | apply rs_drop | apply rs_ret | apply rs_if | apply rs_for | apply rs_while | exact re_var | exact re_int | exact re_str | exact re_bl | exact re_non | apply re_op | apply re_un | apply re_isiT | apply re_isiI | apply re_isiB | apply re_srtSc | apply re_srtSet | apply re_cb | apply re_lst | apply re_tup | apply re_slU | apply re_slT | apply re_slL | exact ro_none | apply ro_some | apply re_andV | apply re_orV | apply re_notV | apply re_if | apply re_chain | apply rt_test | apply rt_b | apply rt_tru | exact rt_yes | apply rt_and | apply rt_or | apply rt_not | exact ra_nil | apply ra_cons | apply ri_rng1 | apply ri_rng2 | apply ri_tup | apply ri_lst | apply ri_zip | apply ri_enum | apply ri_enT | apply ri_U | apply ri_zm | apply ri_revA | exact rg_name | exact rgs_nil | apply rgs_cons | apply rg_tup | apply re_lc | apply re_listRg | apply re_tupRg | apply rrg1 | apply rrg2 | apply re_index | apply re_revT | apply re_revL | apply re_callK | apply re_callP | exact r2_I0 | exact r2_B0 | exact r2_Ic | exact r2_eq | exact r2_ne | exact r2_isN | exact r2_notN | exact r2_ixA | exact r2_ixT | exact r2_ixL | exact r2_catT | exact r2_catL | exact r2_catS | exact r2_notB | exact r2_repT | exact r2_in | exact r2_eqD | exact r2_neD | exact r1_neg | exact rc_len' | exact rc_tupF | exact rc_listof | exact rc_sorted | exact rc_sum | exact rc_max | exact rc_min | exact rc_all | exact rc_repr | exact rc_abs | exact rc_max2 | exact rc_min2 | exact rc_int1 | exact rc_sortT | apply ri_rng3)) | decide)) (fun ds A hR => ?_)
  obtain ⟨m, tls, ps, es, e, its, hm1, hm2, pp, a⟩ := hR
  subst e
  refine ⟨_, rfl, _, rfl, fun i s => ∃ (y4 y5 : Sl), s = ⟨[.dat (.int m), .dat (toolsD tls), .dat (tupD ps), .dat (dicD es), y4, y5], none⟩ ∧ ∀ t ∈ tls.take i, ∀ u ∈ upto m, isK es (imgP m (pushF m t u) ps) = false, ⟨_, _, rfl, fun t h => by rw [List.take_zero] at h; cases h⟩, ?_, ?_⟩
  · intro i x s hx hs
    obtain ⟨y4, y5, es', ha⟩ := hs
    subst es'
    obtain ⟨t, ht, ex⟩ := map_get hx
    subst ex
    have it := its t (List.mem_of_getElem? ht)
    refine ⟨_, rfl, m, rfl, by omega, by omega, fun j s => ∃ (y5 : Sl), s = ⟨[.dat (.int m), .dat (toolsD tls), .dat (tupD ps), .dat (dicD es), .dat (toolD t), y5], none⟩ ∧ ∀ u : Int, 0 ≤ u → u < (j : Int) → isK es (imgP m (pushF m t u) ps) = false, ⟨_, rfl, fun u h1 h2 => absurd h1 (by omega)⟩, ?_, ?_⟩
    · intro j x s hx hs
      obtain ⟨y5, es', hb⟩ := hs
      subst es'
      obtain ⟨ex, hj⟩ := range_at hx
      subst ex
      have hj' : j < m.toNat := hj
      refine ⟨_, rfl, _, rfl, _, rfl, _, rfl, m, t, _, ps, rfl, it, hm1, hm2, pp, _, rfl, _, _, rfl, rfl, ?_⟩
      refine ⟨_, rfl, ?_⟩
      rcases hk : (valE es (imgP m (pushF m t (0 + ((j : Nat) : Int))) ps)).isSome with _ | _
      · refine iteF ⟨_, rfl, fun u h1 h2 => ?_⟩
        by_cases z : u = (j : Int)
        · subst z
          rw [Int.zero_add] at hk
          exact hk
        · exact hb u h1 (by omega)
      · refine iteT ?_
        have e : canR m tls es ps = true := List.any_eq_true.mpr ⟨t, List.mem_of_getElem? ht, List.any_eq_true.mpr ⟨0 + ((j : Nat) : Int), upto_mem.mpr ⟨by omega, by omega⟩, hk⟩⟩
        rw [e] at a
        exact a
    · intro s hs
      obtain ⟨y5, es', hb⟩ := hs
      subst es'
      refine ⟨_, _, rfl, fun t' ht' u hu => ?_⟩
      rw [List.take_add_one, ht] at ht'
      rcases List.mem_append.mp ht' with z | z
      · exact ha t' z u hu
      · have e : t' = t := List.mem_singleton.mp z
        subst e
        have := upto_mem.mp hu
        refine hb u this.1 ?_
        have hl : ((List.range m.toNat).map fun i => PyData.int (0 + ((i : Nat) : Int))).length = m.toNat := by rw [List.length_map, List.length_range]
        rw [hl]
        omega
  · intro s hs
    obtain ⟨y4, y5, es', ha⟩ := hs
    subst es'
    have e : canR m tls es ps = false := by
      cases z : canR m tls es ps with
      | false => rfl
      | true =>
        obtain ⟨t, ht, z⟩ := List.any_eq_true.mp z
        obtain ⟨u, hu, z⟩ := List.any_eq_true.mp z
        rw [ha t (by rw [List.length_map, List.take_of_length_le (Nat.le_refl _)]; exact ht) u hu] at z
        cases z
    rw [e] at a
    exact a
abbrev s__law_steps : Stmt := topS 22
abbrev N__law_steps : List Str := ["_law_m", "_law_tools", "_law_goal", "_law_sets", "_law_place", "_law_some_here", "_law_left", "_law_known", "_law_count", "_law_fresh"]
theorem sc__law_steps : FnScope N__law_steps ["_law_m", "_law_tools", "_law_goal"] (defScope s__law_steps) :=
  ⟨rfl, rfl, rfl, by decide +kernel, rfl, by decide +kernel, by decide +kernel⟩
theorem ok__law_steps {f : Addr} {fd : FuncData} (F : Fun K "_law_steps" "_law_steps" s__law_steps f fd) (T : Bi mg)
    (h__law_spread : Has P w K mg base 1 "_law_spread" ["_law_m", "_law_places"] (spP K RSpread))
    (h__law_can_reach : Has P w K mg base 3 "_law_can_reach" ["_law_m", "_law_tools", "_law_places", "_law_known"] (spP K RCan))
    : FnOk P w K mg base CX0 4 f fd ["_law_m", "_law_tools", "_law_goal"] (spP K RStp) := by
  refine F.ok sc__law_steps (fun vs H Q E h => lenP h (by rintro ds A ⟨_, _, _, rfl, _⟩; rfl)) (fun cdv Ar outer s H vs Q E hr h => ?_)
  refine ⟨_, (pss_cons (ps_set (i := 3) sc__law_steps.nd rfl (.inl rfl) (pe_lst (pa_cons (pe_tup pa_nil) pa_nil)))
  (pss_cons (ps_for PassesOwn.never rfl (pi_range1 (by rfl) T.range (pa_cons (pv 0) pa_nil)) (pg_name (i := 4) sc__law_steps.nd rfl (.inr rfl))
  (pss_one (ps_set (i := 3) sc__law_steps.nd rfl (.inl rfl) (pe_op op_cat (pv 3) (pe_lc (own := [("_law_some_here", 5)]) rfl sc__law_steps.nd (kilist K (pv 3)) (blkOk_by (own := [("_law_some_here", 5)]) (N := N__law_steps) (sc := defScope s__law_steps) (by decide +kernel))
    (fun _ _ _ _ _ => (pg_name (i := 5) sc__law_steps.nd rfl (.inl rfl))) (fun _ _ _ _ _ => pts_nil)
    (fun _ _ _ _ _ => (pe_op (kcatB K) (pv 5) (pe_tup (pa_cons (pv 4) pa_nil)))))))))
  (pss_cons (ps_asg (pe_tup (pa_cons (pe_slice (kslU K) (pv 3) (po_some pe_int) po_none) (pa_cons pe_dnewT (pa_cons pe_int pa_nil)))) (kgtup K 3 rfl (pgs_cons (pg_name (i := 6) sc__law_steps.nd rfl (.inl rfl)) (pgs_cons (pg_name (i := 7) sc__law_steps.nd rfl (.inr rfl)) (pgs_cons (pg_name (i := 8) sc__law_steps.nd rfl (.inr rfl)) pgs_nil)))))
  (pss_cons (ps_setLc (i := 9) (own := [("_law_some_here", 5)]) rfl sc__law_steps.nd rfl rfl (sw_true rfl rfl rfl (by decide +kernel)) (kilist K (pv 6)) (blkOk_by (own := [("_law_some_here", 5)]) (N := N__law_steps) (sc := defScope s__law_steps) (by decide +kernel))
    (fun _ _ _ _ _ => (pg_name (i := 5) sc__law_steps.nd rfl (.inl rfl))) (fun _ _ _ _ _ => (pts_one (pt_cmpR op_le (pe_callH h__law_spread hr (by decide) (by rfl) (pa_cons (pv 0) (pa_cons (pv 5) pa_nil))) (pv 2) (nomark _))))
    (fun _ _ _ _ _ => (pv 5)))
  (pss_cons (ps_while PassesOwn.never (pt_cmpR (kneNil44 K hr.units) (pv 9) (pe_lst pa_nil) (nomark _))
  (pss_cons (ps_expr (kbmR K PySem.F.plainAttrs_dict PySem.F.slot_dict_update PySem.F.type_dict_update (kupdT hr.units) (pv 7) (pa_cons (pe_callTy (kdictPT K rfl hr.units) (by rfl) T.dict (by decide +kernel) (pa_cons (pe_lc (own := [("_law_some_here", 5)]) rfl sc__law_steps.nd (kilist K (pv 9)) (blkOk_by (own := [("_law_some_here", 5)]) (N := N__law_steps) (sc := defScope s__law_steps) (by decide +kernel))
    (fun _ _ _ _ _ => (pg_name (i := 5) sc__law_steps.nd rfl (.inl rfl))) (fun _ _ _ _ _ => pts_nil)
    (fun _ _ _ _ _ => (pe_tup (pa_cons (pv 5) (pa_cons (pv 8) pa_nil))))) pa_nil)) pa_nil)))
  (pss_cons (ps_asg (pe_tup (pa_cons (pe_lc (own := [("_law_some_here", 5)]) rfl sc__law_steps.nd (kilist K (pv 6)) (blkOk_by (own := [("_law_some_here", 5)]) (N := N__law_steps) (sc := defScope s__law_steps) (by decide +kernel))
    (fun _ _ _ _ _ => (pg_name (i := 5) sc__law_steps.nd rfl (.inl rfl))) (fun _ _ _ _ _ => (pts_one (pt_cmp (pc_dnotin (hu_of hr) (pv 5) (pv 7)))))
    (fun _ _ _ _ _ => (pv 5))) (pa_cons (pe_lst pa_nil) (pa_cons (pe_op op_add (pv 8) pe_int) pa_nil)))) (kgtup K 3 rfl (pgs_cons (pg_name (i := 6) sc__law_steps.nd rfl (.inl rfl)) (pgs_cons (pg_name (i := 9) sc__law_steps.nd rfl (.inl rfl)) (pgs_cons (pg_name (i := 8) sc__law_steps.nd rfl (.inr rfl)) pgs_nil)))))
  (pss_one (ps_for PassesOwn.never rfl (kilist K (pv 6)) (pg_name (i := 5) sc__law_steps.nd rfl (.inl rfl))
  (pss_one (ps_if (pt_val (pe_lock (pe_callH h__law_can_reach hr (by decide) (by rfl) (pa_cons (pv 0) (pa_cons (pv 1) (pa_cons (pv 5) (pa_cons (pv 7) pa_nil)))))))
  (pss_one (ps_expr (kbm K PySem.F.plainAttrs_list PySem.F.slot_list_append PySem.F.type_list_append mt_append (pv 9) (pa_cons (pv 5) pa_nil))))
  pss_nil)))))))
  (pss_one (ps_ret (pe_lk (pv 7))))))))), ?_⟩
  refine goP (Δ := ΔA) rfl h (by repeat' (first | (with_reducible (first | exact rs_retD 7 | apply rs_par3D 6 7 8 | apply rs_par3L 6 9 8 8 | apply rs_updO 7 | apply re_dnin 7 | exact re_lk4 7 0 1 5 | apply rs_gvFor 9 5 | exact r2_neNil44 | apply rs_own 9 | apply rs_app' 9 | exact re_tupFO 9 | exact re_lenO 9 | exact re_ixAO 9 | apply re_ixOg 9 | apply rs_seq | exact rs_never | exact rs_next | exact rs_retN | apply rs_asg | apply rs_par | apply rs_par3 | apply rs_drop | apply rs_ret | apply rs_if | apply rs_for | apply rs_while | exact re_var | exact re_int | exact re_str | exact re_bl | exact re_non | apply re_op | apply re_un | apply re_isiT | apply re_isiI | apply re_isiB | apply re_srtSc | apply re_srtSet | apply re_cb | apply re_lst | apply re_tup | apply re_slU | apply re_slT | apply re_slL | exact ro_none | apply ro_some | apply re_andV | apply re_orV | apply re_notV | apply re_if | apply re_chain | apply rt_test | apply rt_b | apply rt_tru | exact rt_yes | apply rt_and | apply rt_or | apply rt_not | exact ra_nil | apply ra_cons | apply ri_rng1 | apply ri_rng2 | apply ri_tup | apply ri_lst | apply ri_zip | apply ri_enum | apply ri_enT | apply ri_U | apply ri_zm | apply ri_revA | exact rg_name | exact rgs_nil | apply rgs_cons | apply rg_tup | apply re_lc | apply re_listRg | apply re_tupRg | apply rrg1 | apply rrg2 | apply re_index | apply re_revT | apply re_revL | apply re_callK | apply re_callP | exact r2_I0 | exact r2_B0 | exact r2_Ic | exact r2_eq | exact r2_ne | exact r2_isN | exact r2_notN | exact r2_ixA | exact r2_ixT | exact r2_ixL | exact r2_catT | exact r2_catL | exact r2_catS | exact r2_notB | exact r2_repT | exact r2_in | exact r2_eqD | exact r2_neD | exact r1_neg | exact rc_len' | exact rc_tupF | exact rc_listof | exact rc_sorted | exact rc_sum | exact rc_max | exact rc_min | exact rc_all | exact rc_repr | exact rc_abs | exact rc_max2 | exact rc_min2 | exact rc_int1 | exact rc_sortT | apply ri_rng3)) | decide)) (fun ds A hR => ?_)
  obtain ⟨m, g, tls, e, its, hl, hm1, m6, g1, gm, a⟩ := hR
  subst e
  have em : ((m.toNat : Nat) : Int) = m := by omega
  refine ⟨len_ok rfl, len_ok rfl, ?_⟩
  refine ⟨_, rfl, m, rfl, by omega, by omega, fun i s => ∃ y4 : Sl, s = ⟨[.dat (.int m), .dat (toolsD tls), .dat (.int g), .dat (.list ((subsI i).map tupD)), y4, .free, .free, .free, .free, .free], none⟩, ⟨_, rfl⟩, ?_, ?_⟩
  · intro i x s hx hs
    obtain ⟨y4, es⟩ := hs
    subst es
    obtain ⟨ex, hi⟩ := range_at hx
    subst ex
    have hi' : i < m.toNat := hi
    have hl2 : (subsI i).length ≤ 64 := by
      have := (subs_pre (n := i) (k := 6) (by omega)).length_le
      rwa [subs_len 6] at this
    refine ⟨_, rfl, _, rfl, _, rfl, lcMap (l := subsI i) (e := tupD) (fun ps => tupD (ps ++ [((i : Nat) : Int)])) (by omega) ?_ ?_⟩
    · intro ps hps B hB
      refine ⟨_, rfl, _, rfl, len_ok rfl, _, _, rfl, rfl, ?_, ?_⟩
      · have := (subs_rng i ps hps).len
        rw [List.length_map]
        show ps.length + 1 ≤ 1000
        omega
      · have e : (ps.map PyData.int ++ [PyData.int (0 + ((i : Nat) : Int))]) = (ps ++ [((i : Nat) : Int)]).map PyData.int := by rw [List.map_append, Int.zero_add]; rfl
        rw [e]
        exact hB _ rfl
    · have e : (subsI i).map tupD ++ (subsI i).map (fun ps => tupD (ps ++ [((i : Nat) : Int)])) = (subsI (i + 1)).map tupD := by
        show _ = (subsI i ++ (subsI i).map _).map tupD
        rw [List.map_append, List.map_map]
        rfl
      refine ⟨_, _, rfl, rfl, by rw [List.length_map, List.length_map]; omega, ?_⟩
      rw [e]
      exact ⟨_, rfl⟩
  · intro s hs
    obtain ⟨y4, es⟩ := hs
    subst es
    have hlr : ((List.range m.toNat).map fun i => PyData.int (0 + ((i : Nat) : Int))).length = m.toNat := by rw [List.length_map, List.length_range]
    rw [hlr]
    refine ⟨_, rfl, 1, rfl, _, rfl, ?_⟩
    have e1 : sliceD (some 1) none (.list ((subsI m.toNat).map tupD)) = .list ((uni m).map tupD) := by
      obtain ⟨r, er, _⟩ := subs_head m.toNat
      unfold uni
      rw [er, List.map_cons, List.tail_cons]
      show PyData.list (cutD (tupD [] :: r.map tupD) (some 1) none) = _
      rw [cutD_tl]
    rw [e1]
    refine ⟨_, rfl, _, rfl, lcMapT (l := uni m) (e := tupD) (fun ps => decide (FitP m ps g)) tupD (by have := uni_len m6; omega) ?_ ?_⟩
    · intro ps hps Bt Bf hbt hbf R hR
      obtain ⟨pp, pne⟩ := (uni_mem hm1).mp hps
      refine ⟨_, rfl, _, rfl, m, ps, rfl, hm1, by omega, pp, pne, fun v hv => ⟨_, rfl, _, _, rfl, rfl, _, rfl, ?_⟩⟩
      have key := fitP_spread (l := g) hm1 hv
      by_cases z : v ≤ g
      · rw [decide_eq_true z]
        exact iteT ⟨_, rfl, hR _ (hbt (decide_eq_true (key.mpr z)) _ rfl)⟩
      · rw [decide_eq_false z]
        exact iteF (hbf (decide_eq_false fun y => z (key.mp y)) _ rfl)
    · have ENV : ∀ (f : List PyData → AStm), True := fun _ => True.intro
      refine ⟨fun w s => ∃ (y4 y5 : Sl) (es : List (List Int × Int)) (lft fr : List (List Int)) (n : Nat), s = ⟨[.dat (.int m), .dat (toolsD tls), .dat (.int g), .dat (.list ((subsI m.toNat).map tupD)), y4, y5, .dat (.list (lft.map tupD)), .odc es, .dat (.int (n : Int)), .dat (.list (fr.map tupD))], none⟩ ∧ Srch m tls g es lft fr n ∧ w = lft.length ∧ lft.length + n ≤ 64, ?_, ?_⟩
      · refine ⟨_, _, _, [], uni m, (uni m).filter fun ps => decide (FitP m ps g), 0, rfl, Srch.start List.filter_sublist (fun ps hp => ?_), rfl, uni_len m6⟩
        rw [List.mem_filter]
        exact ⟨fun z => of_decide_eq_true z.2, fun z => ⟨hp, decide_eq_true z⟩⟩
      · intro w s hs
        obtain ⟨y4, y5, es, lft, fr, n, e, h, ew, hn⟩ := hs
        subst e ew
        have h64 := h.le
        have fl := h.fs.length_le
        refine ⟨_, rfl, len_ok rfl, _, rfl, rfl, _, rfl, ?_⟩
        by_cases ef : fr = []
        · subst ef
          exact iteF ⟨es, rfl, a es (h.done hm1 its) (by omega)⟩
        have e1 : (!(fr.map tupD).isEmpty) = true := by
          cases fr with
          | nil => exact absurd rfl ef
          | cons p r => rfl
        rw [e1]
        refine iteT ?_
        refine ⟨⟨es, rfl⟩, _, rfl, _, rfl, lcMap (l := fr) (e := tupD) (fun ps => .tuple [tupD ps, .int (n : Int)]) (by omega) ?_ ?_⟩
        · intro ps hps B hB
          exact ⟨_, rfl, _, rfl, len_ok rfl, hB _ rfl⟩
        have fsub : fr.Sublist (uni m) := h.fs.trans (by rw [h.lf]; exact List.filter_sublist)
        refine ⟨es, fr.map fun p => (p, (n : Int)), rfl, by rw [List.map_map]; rfl, .inr ?_, ?_, by rw [List.length_map]; omega, ?_⟩
        · rw [List.map_map]
          exact uni_hash m6 fsub
        · rw [List.map_map]
          have : ((fun x : List Int × Int => x.1) ∘ fun p => (p, (n : Int))) = id := rfl
          rw [this, List.map_id]
          exact (uni_nd m).sublist fsub
        rw [h.upd]
        have st := h.step hm1 m6 its
        have ls := h.less ef
        have lu : ∀ ps ∈ lfN (esN es fr n) lft, Places m ps := fun ps hp => by
          rw [st.lf] at hp
          exact ((uni_mem hm1).mp (List.mem_filter.mp hp).1).1
        refine ⟨_, rfl, _, rfl, lcMapT (l := lft) (e := tupD) (fun ps => !isK (esN es fr n) ps) tupD (by omega) ?_ ?_⟩
        · intro ps hps Bt Bf hbt hbf R hR
          refine ⟨_, rfl, _, ps, rfl, rfl, _, rfl, ?_⟩
          cases z : (!isK (esN es fr n) ps) with
          | true => exact iteP z ⟨_, rfl, hR _ (hbt z _ rfl)⟩
          | false => exact iteN z (hbf z _ rfl)
        · refine ⟨_, rfl, ?_⟩
          refine ⟨_, rfl, _, rfl, fun j s => ∃ y5 : Sl, s = ⟨[.dat (.int m), .dat (toolsD tls), .dat (.int g), .dat (.list ((subsI m.toNat).map tupD)), y4, y5, .dat (.list ((lfN (esN es fr n) lft).map tupD)), .odc (esN es fr n), .dat (.int ((n : Int) + 1)), .own ((((lfN (esN es fr n) lft).take j).filter (canR m tls (esN es fr n))).map tupD)], none⟩, ⟨_, rfl⟩, ?_, ?_⟩
          · intro j x s hx hs
            obtain ⟨y5, e⟩ := hs
            subst e
            obtain ⟨ps, hps, ex⟩ := map_get hx
            subst ex
            have hps : (lfN (esN es fr n) lft)[j]? = some ps := hps
            have tk : ((lfN (esN es fr n) lft).take (j + 1)).filter (canR m tls (esN es fr n)) = ((lfN (esN es fr n) lft).take j).filter (canR m tls (esN es fr n)) ++ [ps].filter (canR m tls (esN es fr n)) := by
              rw [List.take_add_one, hps, List.filter_append]
              rfl
            refine ⟨_, _, _, _, rfl, rfl, rfl, rfl, m, tls, ps, _, rfl, its, hm1, by omega, lu ps (List.mem_of_getElem? hps), _, rfl, _, rfl, ?_⟩
            cases z : canR m tls (esN es fr n) ps with
            | true =>
              refine iteT ⟨_, rfl, ?_, _, rfl, rfl, ?_⟩
              · have h1 := List.length_filter_le (canR m tls (esN es fr n)) ((lfN (esN es fr n) lft).take j)
                have h2 := (List.take_sublist j (lfN (esN es fr n) lft)).length_le
                rw [List.length_map]
                omega
              · refine ⟨.dat (tupD ps), ?_⟩
                rw [tk, List.filter_cons_of_pos z, List.map_append]
                rfl
            | false =>
              refine iteF ⟨.dat (tupD ps), ?_⟩
              rw [tk, List.filter_cons_of_neg (by rw [z]; exact Bool.false_ne_true), List.filter_nil, List.append_nil]
              rfl
          · intro s hs
            obtain ⟨y5, e⟩ := hs
            subst e
            have tk : (lfN (esN es fr n) lft).take ((lft.filter fun ps => !isK (esN es fr n) ps).map tupD).length = lfN (esN es fr n) lft := by
              rw [List.length_map]
              exact List.take_of_length_le (Nat.le_refl _)
            refine ⟨_, rfl, _, ls, y4, y5, esN es fr n, lfN (esN es fr n) lft, (lfN (esN es fr n) lft).filter (canR m tls (esN es fr n)), n + 1, ?_, st, rfl, by omega⟩
            rw [tk]
            rfl
abbrev s_steps_between : Stmt := topS 2
abbrev N_steps_between : List Str := ["m", "places", "following", "place", "after"]
theorem sc_steps_between : FnScope N_steps_between ["m", "places"] (defScope s_steps_between) :=
  ⟨rfl, rfl, rfl, by decide +kernel, rfl, by decide +kernel, by decide +kernel⟩
theorem ok_steps_between {f : Addr} {fd : FuncData} (F : Fun K "steps_between" "steps_between" s_steps_between f fd) (T : Bi mg)
    : FnOk P w K mg base CX0 1 f fd ["m", "places"] (spP K RSteps) := by
  refine F.ok sc_steps_between (fun vs H Q E h => lenP h (by rintro ds A ⟨_, _, _, rfl, _⟩; rfl)) (fun cdv Ar outer s H vs Q E hr h => ?_)
  refine ⟨_, (pss_cons (ps_set (i := 2) sc_steps_between.nd rfl (.inl rfl) (pe_op op_cat (pe_callTy (klistof K) (by rfl) T.list (by decide +kernel) (pa_cons (pe_slice (kslU K) (pv 1) (po_some pe_int) po_none) pa_nil)) (pe_lst (pa_cons (pe_op op_add (pe_ix (kixA K) (pv 1) pe_int (fun _ _ => rfl)) (pv 0)) pa_nil))))
  (pss_one (ps_ret (pe_lc (own := [("place", 3), ("after", 4)]) rfl sc_steps_between.nd (kiZZ K (by rfl) T.zip (pa_cons (pv 1) (pa_cons (pv 2) pa_nil))) (blkOk_by (own := [("place", 3), ("after", 4)]) (N := N_steps_between) (sc := defScope s_steps_between) (by decide +kernel))
    (fun _ _ _ _ _ => (kgtup K 2 rfl (pgs_cons (pg_name (i := 3) sc_steps_between.nd rfl (.inl rfl)) (pgs_cons (pg_name (i := 4) sc_steps_between.nd rfl (.inl rfl)) pgs_nil)))) (fun _ _ _ _ _ => pts_nil)
    (fun _ _ _ _ _ => (pe_op op_sub (pv 4) (pv 3))))))), ?_⟩
  refine goP (Δ := ΔB) rfl h (by repeat' (first | (with_reducible (first | apply rs_seq | exact rs_never | exact rs_next | exact rs_retN | apply rs_asg | apply rs_par | apply rs_par3 | apply rs_drop | apply rs_ret | apply rs_if | apply rs_for | apply rs_while | exact re_var | exact re_int | exact re_str | exact re_bl | exact re_non | apply re_op | apply re_un | apply re_isiT | apply re_isiI | apply re_isiB | apply re_srtSc | apply re_srtSet | apply re_cb | apply re_lst | apply re_tup | apply re_slU | apply re_slT | apply re_slL | exact ro_none | apply ro_some | apply re_andV | apply re_orV | apply re_notV | apply re_if | apply re_chain | apply rt_test | apply rt_b | apply rt_tru | exact rt_yes | apply rt_and | apply rt_or | apply rt_not | exact ra_nil | apply ra_cons | apply ri_rng1 | apply ri_rng2 | apply ri_tup | apply ri_lst | apply ri_zip | apply ri_enum | apply ri_enT | apply ri_U | apply ri_zm | apply ri_revA | exact rg_name | exact rgs_nil | apply rgs_cons | apply rg_tup | apply re_lc | apply re_listRg | apply re_tupRg | apply rrg1 | apply rrg2 | apply re_index | apply re_revT | apply re_revL | apply re_callK | apply re_callP | exact r2_I0 | exact r2_B0 | exact r2_Ic | exact r2_eq | exact r2_ne | exact r2_isN | exact r2_notN | exact r2_ixA | exact r2_ixT | exact r2_ixL | exact r2_catT | exact r2_catL | exact r2_catS | exact r2_notB | exact r2_repT | exact r2_in | exact r2_eqD | exact r2_neD | exact r1_neg | exact rc_len' | exact rc_tupF | exact rc_listof | exact rc_sorted | exact rc_sum | exact rc_max | exact rc_min | exact rc_all | exact rc_repr | exact rc_abs | exact rc_max2 | exact rc_min2 | exact rc_int1 | exact rc_sortT | apply ri_rng3)) | decide)) (fun ds A hR => ?_)
  obtain ⟨m, d, ns, e, ed, ne, hl, a⟩ := hR
  subst e
  obtain ⟨n0, r, en⟩ : ∃ n0 r, ns = n0 :: r := by
    cases ns with
    | nil => exact absurd rfl ne
    | cons x r => exact ⟨x, r, rfl⟩
  have it : itemsOf d = some (ns.map .int) := by
    rcases ed with z | z <;> rw [z] <;> rfl
  have a0 : atI (ns.map PyData.int) 0 = some (.int n0) := by
    rw [en]
    exact atI_nat (j := 0) rfl
  have sl : ∃ d', sliceD (some 1) none d = d' ∧ itemsOf d' = some ((ns.drop 1).map .int) := by
    rcases ed with z | z
    · refine ⟨_, rfl, ?_⟩
      rw [z]
      show some (cutD (ns.map PyData.int) (some 1) none) = _
      rw [show (1 : Int) = ((1 : Nat) : Int) from rfl, cutD_from, List.map_drop]
    · refine ⟨_, rfl, ?_⟩
      rw [z]
      show some (cutD (ns.map PyData.int) (some 1) none) = _
      rw [show (1 : Int) = ((1 : Nat) : Int) from rfl, cutD_from, List.map_drop]
  obtain ⟨d', e1, e2⟩ := sl
  have e3 : (d' = .list ((ns.drop 1).map .int) ∨ d' = .tuple ((ns.drop 1).map .int)) := items_cases e2
  refine ⟨_, rfl, 1, rfl, _, it, ?_⟩
  rw [e1]
  refine ⟨(ns.drop 1).map .int, by rcases e3 with z | z <;> rw [z] <;> simp, ?_⟩
  refine ⟨_, rfl, _, 0, _, it, rfl, a0, _, rfl, _, _, rfl, rfl, len_ok rfl, _, [.int (n0 + m)], rfl, rfl, by rw [List.length_map, List.length_drop]; show _ + 1 ≤ 1000; omega, ?_⟩
  have ef : (ns.drop 1).map PyData.int ++ [.int (n0 + m)] = (ns.drop 1 ++ [ns.headD 0 + m]).map PyData.int := by
    rw [List.map_append, en]
    rfl
  rw [ef]
  have es : (stepsOf m ns).map PyData.int = (ns.zip (ns.drop 1 ++ [ns.headD 0 + m])).map fun p => .int (p.2 - p.1) := by
    unfold stepsOf
    rw [List.map_map]
    rfl
  rw [es] at a
  have hlz : (ns.zip (ns.drop 1 ++ [ns.headD 0 + m])).length ≤ 100000 := by
    rw [List.length_zip]
    omega
  rcases ed with z | z
  · refine .inl ⟨_, rfl, _, rfl, _, _, by rw [z], ?_⟩
    rw [zip_intsD]
    refine lcMap (l := ns.zip (ns.drop 1 ++ [ns.headD 0 + m])) (e := fun p => PyData.tuple [.int p.1, .int p.2]) (fun p => .int (p.2 - p.1)) hlz ?_ a
    intro p hp B hB
    exact ⟨_, rfl, rfl, _, _, rfl, _, _, rfl, rfl, _, rfl, _, rfl, _, _, rfl, rfl, hB _ rfl⟩
  · refine .inr ⟨_, rfl, _, rfl, _, _, by rw [z], ?_⟩
    rw [zip_intsD]
    refine lcMap (l := ns.zip (ns.drop 1 ++ [ns.headD 0 + m])) (e := fun p => PyData.tuple [.int p.1, .int p.2]) (fun p => .int (p.2 - p.1)) hlz ?_ a
    intro p hp B hB
    exact ⟨_, rfl, rfl, _, _, rfl, _, _, rfl, rfl, _, rfl, _, rfl, _, _, rfl, rfl, hB _ rfl⟩
abbrev s_spread_of : Stmt := topS 1
abbrev N_spread_of : List Str := ["m", "places", "step"]
theorem sc_spread_of : FnScope N_spread_of ["m", "places"] (defScope s_spread_of) :=
  ⟨rfl, rfl, rfl, by decide +kernel, rfl, by decide +kernel, by decide +kernel⟩
theorem ok_spread_of {f : Addr} {fd : FuncData} (F : Fun K "spread_of" "spread_of" s_spread_of f fd) (T : Bi mg)
    (h_steps_between : Has P w K mg base 1 "steps_between" ["m", "places"] (spP K RSteps))
    : FnOk P w K mg base CX0 2 f fd ["m", "places"] (spP K RSpread) := by
  refine F.ok sc_spread_of (fun vs H Q E h => lenP h (by rintro ds A ⟨_, _, rfl, _⟩; rfl)) (fun cdv Ar outer s H vs Q E hr h => ?_)
  refine ⟨_, (pss_one (ps_ret (pe_op op_sub (pv 0) (pe_callB (kmax K rfl) (by rfl) T.max (by decide +kernel) (pa_cons (pe_lc (own := [("step", 2)]) rfl sc_spread_of.nd (kilist K (pe_callH h_steps_between hr (by decide) (by rfl) (pa_cons (pv 0) (pa_cons (pv 1) pa_nil)))) (blkOk_by (own := [("step", 2)]) (N := N_spread_of) (sc := defScope s_spread_of) (by decide +kernel))
    (fun _ _ _ _ _ => (pg_name (i := 2) sc_spread_of.nd rfl (.inl rfl))) (fun _ _ _ _ _ => pts_nil)
    (fun _ _ _ _ _ => (pe_op op_sub (pv 2) pe_int))) pa_nil))))), ?_⟩
  refine goP (Δ := ΔB) rfl h (by repeat' (first | (with_reducible (first | apply rs_seq | exact rs_never | exact rs_next | exact rs_retN | apply rs_asg | apply rs_par | apply rs_par3 | apply rs_drop | apply rs_ret | apply rs_if | apply rs_for | apply rs_while | exact re_var | exact re_int | exact re_str | exact re_bl | exact re_non | apply re_op | apply re_un | apply re_isiT | apply re_isiI | apply re_isiB | apply re_srtSc | apply re_srtSet | apply re_cb | apply re_lst | apply re_tup | apply re_slU | apply re_slT | apply re_slL | exact ro_none | apply ro_some | apply re_andV | apply re_orV | apply re_notV | apply re_if | apply re_chain | apply rt_test | apply rt_b | apply rt_tru | exact rt_yes | apply rt_and | apply rt_or | apply rt_not | exact ra_nil | apply ra_cons | apply ri_rng1 | apply ri_rng2 | apply ri_tup | apply ri_lst | apply ri_zip | apply ri_enum | apply ri_enT | apply ri_U | apply ri_zm | apply ri_revA | exact rg_name | exact rgs_nil | apply rgs_cons | apply rg_tup | apply re_lc | apply re_listRg | apply re_tupRg | apply rrg1 | apply rrg2 | apply re_index | apply re_revT | apply re_revL | apply re_callK | apply re_callP | exact r2_I0 | exact r2_B0 | exact r2_Ic | exact r2_eq | exact r2_ne | exact r2_isN | exact r2_notN | exact r2_ixA | exact r2_ixT | exact r2_ixL | exact r2_catT | exact r2_catL | exact r2_catS | exact r2_notB | exact r2_repT | exact r2_in | exact r2_eqD | exact r2_neD | exact r1_neg | exact rc_len' | exact rc_tupF | exact rc_listof | exact rc_sorted | exact rc_sum | exact rc_max | exact rc_min | exact rc_all | exact rc_repr | exact rc_abs | exact rc_max2 | exact rc_min2 | exact rc_int1 | exact rc_sortT | apply ri_rng3)) | decide)) (fun ds A hR => ?_)
  obtain ⟨m, ps, e, hm1, hm2, pp, ne, a⟩ := hR
  subst e
  have hl := pp.len
  have sl : (stepsOf m ps).length = ps.length := by
    unfold stepsOf
    rw [List.length_map, List.length_zip, List.length_append, List.length_drop, List.length_singleton]
    have : 0 < ps.length := List.length_pos_iff.mpr ne
    omega
  refine ⟨_, rfl, _, rfl, _, rfl, m, _, ps, rfl, .inr rfl, ne, by omega, _, rfl, ?_⟩
  refine lcMap (l := stepsOf m ps) (e := PyData.int) (fun x => .int (x - 1)) (by omega) ?_ ?_
  · intro x hx B hB
    exact ⟨_, rfl, _, 1, rfl, rfl, hB _ rfl⟩
  have es : ((stepsOf m ps).map fun x => PyData.int (x - 1)) = ((stepsOf m ps).map fun x => x - 1).map PyData.int := by rw [List.map_map]; rfl
  rw [es]
  refine ⟨_, rfl, by rw [List.length_map, sl]; exact List.length_pos_iff.mpr ne, fun M got all => ⟨_, _, rfl, rfl, a _ ?_⟩⟩
  exact spread_steps (by omega) ne pp.asc pp.rng got all
abbrev s_is_in_arc : Stmt := topS 3
abbrev N_is_in_arc : List Str := ["m", "begin", "length", "place"]
theorem sc_is_in_arc : FnScope N_is_in_arc ["m", "begin", "length", "place"] (defScope s_is_in_arc) :=
  ⟨rfl, rfl, rfl, by decide +kernel, rfl, by decide +kernel, by decide +kernel⟩
theorem ok_is_in_arc {f : Addr} {fd : FuncData} (F : Fun K "is_in_arc" "is_in_arc" s_is_in_arc f fd) (T : Bi mg)
    : FnOk P w K mg base CX0 1 f fd ["m", "begin", "length", "place"] (spP K RInArc) := by
  refine F.ok sc_is_in_arc (fun vs H Q E h => lenP h (by rintro ds A ⟨_, _, _, _, rfl, _⟩; rfl)) (fun cdv Ar outer s H vs Q E hr h => ?_)
  refine ⟨_, (pss_one (ps_ret (pe_cmpR op_lt (pe_op op_mod (pe_op op_sub (pv 3) (pv 1)) (pv 0)) (pv 2) (nomark _)))), ?_⟩
  refine goP (Δ := ΔB) rfl h (by repeat' (first | (with_reducible (first | apply rs_seq | exact rs_never | exact rs_next | exact rs_retN | apply rs_asg | apply rs_par | apply rs_par3 | apply rs_drop | apply rs_ret | apply rs_if | apply rs_for | apply rs_while | exact re_var | exact re_int | exact re_str | exact re_bl | exact re_non | apply re_op | apply re_un | apply re_isiT | apply re_isiI | apply re_isiB | apply re_srtSc | apply re_srtSet | apply re_cb | apply re_lst | apply re_tup | apply re_slU | apply re_slT | apply re_slL | exact ro_none | apply ro_some | apply re_andV | apply re_orV | apply re_notV | apply re_if | apply re_chain | apply rt_test | apply rt_b | apply rt_tru | exact rt_yes | apply rt_and | apply rt_or | apply rt_not | exact ra_nil | apply ra_cons | apply ri_rng1 | apply ri_rng2 | apply ri_tup | apply ri_lst | apply ri_zip | apply ri_enum | apply ri_enT | apply ri_U | apply ri_zm | apply ri_revA | exact rg_name | exact rgs_nil | apply rgs_cons | apply rg_tup | apply re_lc | apply re_listRg | apply re_tupRg | apply rrg1 | apply rrg2 | apply re_index | apply re_revT | apply re_revL | apply re_callK | apply re_callP | exact r2_I0 | exact r2_B0 | exact r2_Ic | exact r2_eq | exact r2_ne | exact r2_isN | exact r2_notN | exact r2_ixA | exact r2_ixT | exact r2_ixL | exact r2_catT | exact r2_catL | exact r2_catS | exact r2_notB | exact r2_repT | exact r2_in | exact r2_eqD | exact r2_neD | exact r1_neg | exact rc_len' | exact rc_tupF | exact rc_listof | exact rc_sorted | exact rc_sum | exact rc_max | exact rc_min | exact rc_all | exact rc_repr | exact rc_abs | exact rc_max2 | exact rc_min2 | exact rc_int1 | exact rc_sortT | apply ri_rng3)) | decide)) (fun ds A hR => ?_)
  obtain ⟨m, b, l, p, e, hm, a⟩ := hR
  subst e
  exact ⟨_, rfl, _, rfl, _, _, rfl, rfl, _, rfl, _, _, rfl, rfl, hm, _, rfl, _, _, rfl, rfl, a⟩
abbrev s_places_from : Stmt := topS 7
abbrev N_places_from : List Str := ["m", "targets", "sizes", "start", "length", "target", "size"]
theorem sc_places_from : FnScope N_places_from ["m", "targets", "sizes", "start", "length"] (defScope s_places_from) :=
  ⟨rfl, rfl, rfl, by decide +kernel, rfl, by decide +kernel, by decide +kernel⟩
theorem ok_places_from {f : Addr} {fd : FuncData} (F : Fun K "places_from" "places_from" s_places_from f fd) (T : Bi mg)
    (h_is_in_arc : Has P w K mg base 1 "is_in_arc" ["m", "begin", "length", "place"] (spP K RInArc))
    : FnOk P w K mg base CX0 2 f fd ["m", "targets", "sizes", "start", "length"] (spP K RFrom) := by
  refine F.ok sc_places_from (fun vs H Q E h => lenP h (by rintro ds A ⟨_, _, _, _, _, rfl, _⟩; rfl)) (fun cdv Ar outer s H vs Q E hr h => ?_)
  refine ⟨_, (pss_one (ps_ret (pe_callB (ksum K rfl) (by rfl) T.sum (by decide +kernel) (pa_cons (pe_lc (own := [("target", 5), ("size", 6)]) rfl sc_places_from.nd (kizip K (by rfl) T.zip (pa_cons (pv 1) (pa_cons (pv 2) pa_nil))) (blkOk_by (own := [("target", 5), ("size", 6)]) (N := N_places_from) (sc := defScope s_places_from) (by decide +kernel))
    (fun _ _ _ _ _ => (kgtup K 2 rfl (pgs_cons (pg_name (i := 5) sc_places_from.nd rfl (.inl rfl)) (pgs_cons (pg_name (i := 6) sc_places_from.nd rfl (.inl rfl)) pgs_nil)))) (fun _ _ _ _ _ => (pts_one (pt_val (pe_callH h_is_in_arc hr (by decide) (by rfl) (pa_cons (pv 0) (pa_cons (pv 3) (pa_cons (pv 4) (pa_cons (pv 5) pa_nil))))))))
    (fun _ _ _ _ _ => (pv 6))) pa_nil)))), ?_⟩
  refine goP (Δ := ΔB) rfl h (by repeat' (first | (with_reducible (first | apply rs_seq | exact rs_never | exact rs_next | exact rs_retN | apply rs_asg | apply rs_par | apply rs_par3 | apply rs_drop | apply rs_ret | apply rs_if | apply rs_for | apply rs_while | exact re_var | exact re_int | exact re_str | exact re_bl | exact re_non | apply re_op | apply re_un | apply re_isiT | apply re_isiI | apply re_isiB | apply re_srtSc | apply re_srtSet | apply re_cb | apply re_lst | apply re_tup | apply re_slU | apply re_slT | apply re_slL | exact ro_none | apply ro_some | apply re_andV | apply re_orV | apply re_notV | apply re_if | apply re_chain | apply rt_test | apply rt_b | apply rt_tru | exact rt_yes | apply rt_and | apply rt_or | apply rt_not | exact ra_nil | apply ra_cons | apply ri_rng1 | apply ri_rng2 | apply ri_tup | apply ri_lst | apply ri_zip | apply ri_enum | apply ri_enT | apply ri_U | apply ri_zm | apply ri_revA | exact rg_name | exact rgs_nil | apply rgs_cons | apply rg_tup | apply re_lc | apply re_listRg | apply re_tupRg | apply rrg1 | apply rrg2 | apply re_index | apply re_revT | apply re_revL | apply re_callK | apply re_callP | exact r2_I0 | exact r2_B0 | exact r2_Ic | exact r2_eq | exact r2_ne | exact r2_isN | exact r2_notN | exact r2_ixA | exact r2_ixT | exact r2_ixL | exact r2_catT | exact r2_catL | exact r2_catS | exact r2_notB | exact r2_repT | exact r2_in | exact r2_eqD | exact r2_neD | exact r1_neg | exact rc_len' | exact rc_tupF | exact rc_listof | exact rc_sorted | exact rc_sum | exact rc_max | exact rc_min | exact rc_all | exact rc_repr | exact rc_abs | exact rc_max2 | exact rc_min2 | exact rc_int1 | exact rc_sortT | apply ri_rng3)) | decide)) (fun ds A hR => ?_)
  obtain ⟨m, st, l, ts, ss, e, hm, hl, a⟩ := hR
  subst e
  refine ⟨_, rfl, _, rfl, _, _, rfl, ?_⟩
  rw [zip_intsD]
  refine lcMapT (l := ts.zip ss) (e := fun p => PyData.tuple [.int p.1, .int p.2]) (fun p => inArc m st l p.1) (fun p => .int p.2) (by rw [List.length_zip]; omega) ?_ ?_
  · intro p hp Bt Bf hbt hbf R hR
    refine ⟨_, rfl, rfl, _, _, rfl, _, _, rfl, rfl, _, rfl, _, rfl, _, rfl, _, rfl, m, st, l, _, rfl, hm, _, rfl, ite2 (fun h => ⟨_, rfl, hR _ (hbt h _ rfl)⟩) (fun h => hbf ((Bool.not_eq_true _).mp h) _ rfl)⟩
  · have es : (((ts.zip ss).filter fun p => inArc m st l p.1).map fun p => PyData.int p.2) = (((ts.zip ss).filter fun p => inArc m st l p.1).map (·.2)).map PyData.int := by rw [List.map_map]; rfl
    rw [es]
    exact ⟨_, rfl, a⟩
abbrev s_places_sent : Stmt := topS 6
abbrev N_places_sent : List Str := ["m", "tool", "length", "targets", "sizes", "begin", "target", "start"]
theorem sc_places_sent : FnScope N_places_sent ["m", "tool", "length"] (defScope s_places_sent) :=
  ⟨rfl, rfl, rfl, by decide +kernel, rfl, by decide +kernel, by decide +kernel⟩
theorem ok_places_sent {f : Addr} {fd : FuncData} (F : Fun K "places_sent" "places_sent" s_places_sent f fd) (T : Bi mg)
    (h_steps_between : Has P w K mg base 1 "steps_between" ["m", "places"] (spP K RSteps))
    (h_places_from : Has P w K mg base 2 "places_from" ["m", "targets", "sizes", "start", "length"] (spP K RFrom))
    : FnOk P w K mg base CX0 3 f fd ["m", "tool", "length"] (spP K RSent) := by
  refine F.ok sc_places_sent (fun vs H Q E h => lenP h (by rintro ds A ⟨_, _, _, rfl, _⟩; rfl)) (fun cdv Ar outer s H vs Q E hr h => ?_)
  refine ⟨_, (pss_cons (ps_set (i := 3) sc_places_sent.nd rfl (.inr rfl) (pe_lc (own := [("begin", 5), ("target", 6)]) rfl sc_places_sent.nd (kitup K (pv 1)) (blkOk_by (own := [("begin", 5), ("target", 6)]) (N := N_places_sent) (sc := defScope s_places_sent) (by decide +kernel))
    (fun _ _ _ _ _ => (kgtup K 2 rfl (pgs_cons (pg_name (i := 5) sc_places_sent.nd rfl (.inl rfl)) (pgs_cons (pg_name (i := 6) sc_places_sent.nd rfl (.inl rfl)) pgs_nil)))) (fun _ _ _ _ _ => pts_nil)
    (fun _ _ _ _ _ => (pv 6))))
  (pss_cons (ps_set (i := 4) sc_places_sent.nd rfl (.inr rfl) (pe_callH h_steps_between hr (by decide) (by rfl) (pa_cons (pv 0) (pa_cons (pe_lc (own := [("begin", 5), ("target", 6)]) rfl sc_places_sent.nd (kitup K (pv 1)) (blkOk_by (own := [("begin", 5), ("target", 6)]) (N := N_places_sent) (sc := defScope s_places_sent) (by decide +kernel))
    (fun _ _ _ _ _ => (kgtup K 2 rfl (pgs_cons (pg_name (i := 5) sc_places_sent.nd rfl (.inl rfl)) (pgs_cons (pg_name (i := 6) sc_places_sent.nd rfl (.inl rfl)) pgs_nil)))) (fun _ _ _ _ _ => pts_nil)
    (fun _ _ _ _ _ => (pv 5))) pa_nil))))
  (pss_one (ps_ret (pe_lc (own := [("start", 7)]) rfl sc_places_sent.nd (kilist K (pv 3)) (blkOk_by (own := [("start", 7)]) (N := N_places_sent) (sc := defScope s_places_sent) (by decide +kernel))
    (fun _ _ _ _ _ => (pg_name (i := 7) sc_places_sent.nd rfl (.inl rfl))) (fun _ _ _ _ _ => pts_nil)
    (fun _ _ _ _ _ => (pe_callH h_places_from hr (by decide) (by rfl) (pa_cons (pv 0) (pa_cons (pv 3) (pa_cons (pv 4) (pa_cons (pv 7) (pa_cons (pv 2) pa_nil)))))))))))), ?_⟩
  refine goP (Δ := ΔB) rfl h (by repeat' (first | (with_reducible (first | apply rs_seq | exact rs_never | exact rs_next | exact rs_retN | apply rs_asg | apply rs_par | apply rs_par3 | apply rs_drop | apply rs_ret | apply rs_if | apply rs_for | apply rs_while | exact re_var | exact re_int | exact re_str | exact re_bl | exact re_non | apply re_op | apply re_un | apply re_isiT | apply re_isiI | apply re_isiB | apply re_srtSc | apply re_srtSet | apply re_cb | apply re_lst | apply re_tup | apply re_slU | apply re_slT | apply re_slL | exact ro_none | apply ro_some | apply re_andV | apply re_orV | apply re_notV | apply re_if | apply re_chain | apply rt_test | apply rt_b | apply rt_tru | exact rt_yes | apply rt_and | apply rt_or | apply rt_not | exact ra_nil | apply ra_cons | apply ri_rng1 | apply ri_rng2 | apply ri_tup | apply ri_lst | apply ri_zip | apply ri_enum | apply ri_enT | apply ri_U | apply ri_zm | apply ri_revA | exact rg_name | exact rgs_nil | apply rgs_cons | apply rg_tup | apply re_lc | apply re_listRg | apply re_tupRg | apply rrg1 | apply rrg2 | apply re_index | apply re_revT | apply re_revL | apply re_callK | apply re_callP | exact r2_I0 | exact r2_B0 | exact r2_Ic | exact r2_eq | exact r2_ne | exact r2_isN | exact r2_notN | exact r2_ixA | exact r2_ixT | exact r2_ixL | exact r2_catT | exact r2_catL | exact r2_catS | exact r2_notB | exact r2_repT | exact r2_in | exact r2_eqD | exact r2_neD | exact r1_neg | exact rc_len' | exact rc_tupF | exact rc_listof | exact rc_sorted | exact rc_sum | exact rc_max | exact rc_min | exact rc_all | exact rc_repr | exact rc_abs | exact rc_max2 | exact rc_min2 | exact rc_int1 | exact rc_sortT | apply ri_rng3)) | decide)) (fun ds A hR => ?_)
  obtain ⟨m, l, tl, e, it, hm1, hm2, a⟩ := hR
  subst e
  have l12 := it.len2
  refine ⟨_, rfl, _, rfl, lcMap (l := tl) (e := pairD) (fun p => .int p.2) (by omega) ?_ ?_⟩
  · intro p hp B hB
    exact ⟨_, rfl, rfl, _, _, rfl, _, _, rfl, rfl, _, rfl, hB _ rfl⟩
  refine ⟨_, rfl, _, rfl, _, rfl, lcMap (l := tl) (e := pairD) (fun p => .int p.1) (by omega) ?_ ?_⟩
  · intro p hp B hB
    exact ⟨_, rfl, rfl, _, _, rfl, _, _, rfl, rfl, _, rfl, hB _ rfl⟩
  have eb : (tl.map fun p => PyData.int p.1) = (tl.map (·.1)).map PyData.int := by rw [List.map_map]; rfl
  have et : (tl.map fun p => PyData.int p.2) = (tl.map (·.2)).map PyData.int := by rw [List.map_map]; rfl
  refine ⟨m, _, tl.map (·.1), rfl, .inl (by rw [eb]), fun z => it.ne (List.map_eq_nil_iff.mp z), by rw [List.length_map]; omega, ?_⟩
  refine ⟨_, rfl, _, rfl, ?_⟩
  rw [List.map_map] at a
  refine lcMap (l := tl) (e := fun p => PyData.int p.2) (fun q => .int (cnt m tl q.2 l)) (by omega) ?_ a
  intro q hq B hB
  refine ⟨_, rfl, _, rfl, _, rfl, _, rfl, _, rfl, m, q.2, l, tl.map (·.2), stepsOf m (tl.map (·.1)), by rw [et], by omega, by rw [List.length_map]; omega, ?_⟩
  rw [sent_cnt it]
  exact hB _ rfl
abbrev s_tool_width : Stmt := topS 5
abbrev N_tool_width : List Str := ["m", "tool", "length"]
theorem sc_tool_width : FnScope N_tool_width ["m", "tool", "length"] (defScope s_tool_width) :=
  ⟨rfl, rfl, rfl, by decide +kernel, rfl, by decide +kernel, by decide +kernel⟩
theorem ok_tool_width {f : Addr} {fd : FuncData} (F : Fun K "tool_width" "tool_width" s_tool_width f fd) (T : Bi mg)
    (h_places_sent : Has P w K mg base 3 "places_sent" ["m", "tool", "length"] (spP K RSent))
    : FnOk P w K mg base CX0 4 f fd ["m", "tool", "length"] (spP K RTW) := by
  refine F.ok sc_tool_width (fun vs H Q E h => lenP h (by rintro ds A ⟨_, _, _, rfl, _⟩; rfl)) (fun cdv Ar outer s H vs Q E hr h => ?_)
  refine ⟨_, (pss_one (ps_ret (pe_callB (kmax K rfl) (by rfl) T.max (by decide +kernel) (pa_cons (pe_callH h_places_sent hr (by decide) (by rfl) (pa_cons (pv 0) (pa_cons (pv 1) (pa_cons (pv 2) pa_nil)))) pa_nil)))), ?_⟩
  refine goP (Δ := ΔB) rfl h (by repeat' (first | (with_reducible (first | apply rs_seq | exact rs_never | exact rs_next | exact rs_retN | apply rs_asg | apply rs_par | apply rs_par3 | apply rs_drop | apply rs_ret | apply rs_if | apply rs_for | apply rs_while | exact re_var | exact re_int | exact re_str | exact re_bl | exact re_non | apply re_op | apply re_un | apply re_isiT | apply re_isiI | apply re_isiB | apply re_srtSc | apply re_srtSet | apply re_cb | apply re_lst | apply re_tup | apply re_slU | apply re_slT | apply re_slL | exact ro_none | apply ro_some | apply re_andV | apply re_orV | apply re_notV | apply re_if | apply re_chain | apply rt_test | apply rt_b | apply rt_tru | exact rt_yes | apply rt_and | apply rt_or | apply rt_not | exact ra_nil | apply ra_cons | apply ri_rng1 | apply ri_rng2 | apply ri_tup | apply ri_lst | apply ri_zip | apply ri_enum | apply ri_enT | apply ri_U | apply ri_zm | apply ri_revA | exact rg_name | exact rgs_nil | apply rgs_cons | apply rg_tup | apply re_lc | apply re_listRg | apply re_tupRg | apply rrg1 | apply rrg2 | apply re_index | apply re_revT | apply re_revL | apply re_callK | apply re_callP | exact r2_I0 | exact r2_B0 | exact r2_Ic | exact r2_eq | exact r2_ne | exact r2_isN | exact r2_notN | exact r2_ixA | exact r2_ixT | exact r2_ixL | exact r2_catT | exact r2_catL | exact r2_catS | exact r2_notB | exact r2_repT | exact r2_in | exact r2_eqD | exact r2_neD | exact r1_neg | exact rc_len' | exact rc_tupF | exact rc_listof | exact rc_sorted | exact rc_sum | exact rc_max | exact rc_min | exact rc_all | exact rc_repr | exact rc_abs | exact rc_max2 | exact rc_min2 | exact rc_int1 | exact rc_sortT | apply ri_rng3)) | decide)) (fun ds A hR => ?_)
  obtain ⟨m, l, tl, e, it, hm1, hm2, a⟩ := hR
  subst e
  refine ⟨_, rfl, _, rfl, _, rfl, m, l, tl, rfl, it, hm1, hm2, _, rfl, by rw [List.length_map]; exact it.len1, fun v got all => a v ?_ fun q hq => ?_⟩
  · rw [List.mem_map] at got
    obtain ⟨q, hq, e⟩ := got
    exact ⟨q, hq, e⟩
  · exact all _ (List.mem_map_of_mem hq)
abbrev s_width_of : Stmt := topS 4
abbrev N_width_of : List Str := ["m", "tools", "length", "tool"]
theorem sc_width_of : FnScope N_width_of ["m", "tools", "length"] (defScope s_width_of) :=
  ⟨rfl, rfl, rfl, by decide +kernel, rfl, by decide +kernel, by decide +kernel⟩
theorem ok_width_of {f : Addr} {fd : FuncData} (F : Fun K "width_of" "width_of" s_width_of f fd) (T : Bi mg)
    (h_tool_width : Has P w K mg base 4 "tool_width" ["m", "tool", "length"] (spP K RTW))
    : FnOk P w K mg base CX0 5 f fd ["m", "tools", "length"] (spP K RWidth) := by
  refine F.ok sc_width_of (fun vs H Q E h => lenP h (by rintro ds A ⟨_, _, _, rfl, _⟩; rfl)) (fun cdv Ar outer s H vs Q E hr h => ?_)
  refine ⟨_, (pss_one (ps_ret (pe_callB (kmax K rfl) (by rfl) T.max (by decide +kernel) (pa_cons (pe_lc (own := [("tool", 3)]) rfl sc_width_of.nd (kitup K (pv 1)) (blkOk_by (own := [("tool", 3)]) (N := N_width_of) (sc := defScope s_width_of) (by decide +kernel))
    (fun _ _ _ _ _ => (pg_name (i := 3) sc_width_of.nd rfl (.inl rfl))) (fun _ _ _ _ _ => pts_nil)
    (fun _ _ _ _ _ => (pe_callH h_tool_width hr (by decide) (by rfl) (pa_cons (pv 0) (pa_cons (pv 3) (pa_cons (pv 2) pa_nil)))))) pa_nil)))), ?_⟩
  refine goP (Δ := ΔB) rfl h (by repeat' (first | (with_reducible (first | apply rs_seq | exact rs_never | exact rs_next | exact rs_retN | apply rs_asg | apply rs_par | apply rs_par3 | apply rs_drop | apply rs_ret | apply rs_if | apply rs_for | apply rs_while | exact re_var | exact re_int | exact re_str | exact re_bl | exact re_non | apply re_op | apply re_un | apply re_isiT | apply re_isiI | apply re_isiB | apply re_srtSc | apply re_srtSet | apply re_cb | apply re_lst | apply re_tup | apply re_slU | apply re_slT | apply re_slL | exact ro_none | apply ro_some | apply re_andV | apply re_orV | apply re_notV | apply re_if | apply re_chain | apply rt_test | apply rt_b | apply rt_tru | exact rt_yes | apply rt_and | apply rt_or | apply rt_not | exact ra_nil | apply ra_cons | apply ri_rng1 | apply ri_rng2 | apply ri_tup | apply ri_lst | apply ri_zip | apply ri_enum | apply ri_enT | apply ri_U | apply ri_zm | apply ri_revA | exact rg_name | exact rgs_nil | apply rgs_cons | apply rg_tup | apply re_lc | apply re_listRg | apply re_tupRg | apply rrg1 | apply rrg2 | apply re_index | apply re_revT | apply re_revL | apply re_callK | apply re_callP | exact r2_I0 | exact r2_B0 | exact r2_Ic | exact r2_eq | exact r2_ne | exact r2_isN | exact r2_notN | exact r2_ixA | exact r2_ixT | exact r2_ixL | exact r2_catT | exact r2_catL | exact r2_catS | exact r2_notB | exact r2_repT | exact r2_in | exact r2_eqD | exact r2_neD | exact r1_neg | exact rc_len' | exact rc_tupF | exact rc_listof | exact rc_sorted | exact rc_sum | exact rc_max | exact rc_min | exact rc_all | exact rc_repr | exact rc_abs | exact rc_max2 | exact rc_min2 | exact rc_int1 | exact rc_sortT | apply ri_rng3)) | decide)) (fun ds A hR => ?_)
  obtain ⟨m, l, tls, e, its, ne, h100, hm1, hm2, hlm, a⟩ := hR
  subst e
  refine ⟨_, rfl, _, rfl, ⟨by rw [List.length_map]; omega, fun i acc k => k = none ∧ ∃ ws : List Int, acc = ws.map .int ∧ ws.length = i ∧ ∀ (j : Nat) t x, j < i → tls[j]? = some t → ws[j]? = some x → (∃ q ∈ t, cnt m t q.2 l = x) ∧ ∀ q ∈ t, cnt m t q.2 l ≤ x, ⟨rfl, [], rfl, rfl, fun j t x hj => absurd hj (Nat.not_lt_zero _)⟩, ?_, ?_⟩⟩
  · intro i x acc k hx h
    obtain ⟨ek, ws, ea, hw, hh⟩ := h
    subst ek ea
    obtain ⟨t, ht, e⟩ := map_get hx
    subst e
    refine ⟨_, rfl, _, rfl, _, rfl, m, l, t, rfl, its t (List.mem_of_getElem? ht), hm1, hm2, fun v g1 g2 => ⟨rfl, ws ++ [v], by rw [List.map_append]; rfl, by rw [List.length_append, hw]; rfl, fun j t' x hj ht' hx' => ?_⟩⟩
    by_cases z : j = i
    · subst z
      rw [ht] at ht'
      cases ht'
      rw [List.getElem?_append_right (by omega), hw, Nat.sub_self] at hx'
      cases hx'
      exact ⟨g1, g2⟩
    · rw [List.getElem?_append_left (by omega)] at hx'
      exact hh j t' x (by omega) ht' hx'
  · intro acc k h
    obtain ⟨ek, ws, ea, hw, hh⟩ := h
    rw [List.length_map] at hw hh
    subst ek ea
    refine ⟨_, rfl, by rw [hw]; exact List.length_pos_iff.mpr ne, fun v got all => a v (width_by (by omega) hlm its hw (fun j t x ht hx => hh j t x (List.getElem?_eq_some_iff.mp ht).1 ht hx) got all)⟩
abbrev s_lengths_of : Stmt := topS 8
abbrev N_lengths_of : List Str := ["m", "tools", "goal", "lengths", "wider"]
theorem sc_lengths_of : FnScope N_lengths_of ["m", "tools", "goal"] (defScope s_lengths_of) :=
  ⟨rfl, rfl, rfl, by decide +kernel, rfl, by decide +kernel, by decide +kernel⟩
theorem ok_lengths_of {f : Addr} {fd : FuncData} (F : Fun K "lengths_of" "lengths_of" s_lengths_of f fd) (T : Bi mg)
    (h_width_of : Has P w K mg base 5 "width_of" ["m", "tools", "length"] (spP K RWidth))
    : FnOk P w K mg base CX0 6 f fd ["m", "tools", "goal"] (spP K RLens) := by
  refine F.ok sc_lengths_of (fun vs H Q E h => lenP h (by rintro ds A ⟨_, _, _, rfl, _⟩; rfl)) (fun cdv Ar outer s H vs Q E hr h => ?_)
  refine ⟨_, (pss_cons (ps_set (i := 3) sc_lengths_of.nd rfl (.inl rfl) (pe_lst (pa_cons (pv 2) pa_nil)))
  (pss_cons (ps_set (i := 4) sc_lengths_of.nd rfl (.inl rfl) (pe_callH h_width_of hr (by decide) (by rfl) (pa_cons (pv 0) (pa_cons (pv 1) (pa_cons (pv 2) pa_nil)))))
  (pss_cons (ps_while PassesOwn.never (pt_cmpR op_ne (pv 4) (pe_ix (kixA K) (pv 3) (pe_un un_neg pe_int) (fun _ _ => rfl)) (nomark _))
  (pss_cons (ps_expr (kbm K PySem.F.plainAttrs_list PySem.F.slot_list_append PySem.F.type_list_append mt_append (pv 3) (pa_cons (pv 4) pa_nil)))
  (pss_one (ps_set (i := 4) sc_lengths_of.nd rfl (.inl rfl) (pe_callH h_width_of hr (by decide) (by rfl) (pa_cons (pv 0) (pa_cons (pv 1) (pa_cons (pv 4) pa_nil))))))))
  (pss_one (ps_ret (pe_callTy (ktupQ K) (by rfl) T.tuple (by decide +kernel) (pa_cons (pv 3) pa_nil))))))), ?_⟩
  refine goP (Δ := ΔB) rfl h (by repeat' (first | (with_reducible (first | apply rs_own 3 | apply rs_app' 3 | exact re_tupFO 3 | exact re_lenO 3 | exact re_ixAO 3 | apply re_ixOg 3 | apply rs_seq | exact rs_never | exact rs_next | exact rs_retN | apply rs_asg | apply rs_par | apply rs_par3 | apply rs_drop | apply rs_ret | apply rs_if | apply rs_for | apply rs_while | exact re_var | exact re_int | exact re_str | exact re_bl | exact re_non | apply re_op | apply re_un | apply re_isiT | apply re_isiI | apply re_isiB | apply re_srtSc | apply re_srtSet | apply re_cb | apply re_lst | apply re_tup | apply re_slU | apply re_slT | apply re_slL | exact ro_none | apply ro_some | apply re_andV | apply re_orV | apply re_notV | apply re_if | apply re_chain | apply rt_test | apply rt_b | apply rt_tru | exact rt_yes | apply rt_and | apply rt_or | apply rt_not | exact ra_nil | apply ra_cons | apply ri_rng1 | apply ri_rng2 | apply ri_tup | apply ri_lst | apply ri_zip | apply ri_enum | apply ri_enT | apply ri_U | apply ri_zm | apply ri_revA | exact rg_name | exact rgs_nil | apply rgs_cons | apply rg_tup | apply re_lc | apply re_listRg | apply re_tupRg | apply rrg1 | apply rrg2 | apply re_index | apply re_revT | apply re_revL | apply re_callK | apply re_callP | exact r2_I0 | exact r2_B0 | exact r2_Ic | exact r2_eq | exact r2_ne | exact r2_isN | exact r2_notN | exact r2_ixA | exact r2_ixT | exact r2_ixL | exact r2_catT | exact r2_catL | exact r2_catS | exact r2_notB | exact r2_repT | exact r2_in | exact r2_eqD | exact r2_neD | exact r1_neg | exact rc_len' | exact rc_tupF | exact rc_listof | exact rc_sorted | exact rc_sum | exact rc_max | exact rc_min | exact rc_all | exact rc_repr | exact rc_abs | exact rc_max2 | exact rc_min2 | exact rc_int1 | exact rc_sortT | apply ri_rng3)) | decide)) (fun ds A hR => ?_)
  obtain ⟨m, g, tls, e, its, ne, h100, hm1, hm2, g1, gm, a⟩ := hR
  subst e
  refine ⟨_, rfl, len_ok rfl, ?_⟩
  refine ⟨_, rfl, _, rfl, _, rfl, m, g, tls, rfl, its, ne, h100, hm1, hm2, gm, fun w0 hw0 => ?_⟩
  refine ⟨fun n s => ∃ (xs : List Int) (x w : Int) (L : List PyData), s = ⟨[.dat (.int m), .dat (toolsD tls), .dat (.int g), .own L, .dat (.int w)], none⟩ ∧ L = xs.map .int ∧ Path m tls g xs x ∧ IsWidth m tls x w ∧ n = (m - x).toNat, ⟨_, [g], g, w0, _, rfl, rfl, .one, hw0, rfl⟩, ?_⟩
  intro n s hs
  obtain ⟨xs, x, w, L, e, eL, hp, hw, hn⟩ := hs
  subst e
  obtain ⟨ys, ey⟩ := hp.last
  obtain ⟨p1, p2, p3, p4, p5⟩ := hp.rng g1 gm
  have lst : atI L (-1) = some (.int x) := by
    rw [eL, ey]
    apply atI_neg1
    rw [List.length_map, List.length_append, List.getElem?_map, List.length_singleton, Nat.add_sub_cancel, List.getElem?_append_right (Nat.le_refl _), Nat.sub_self]
    rfl
  have wx := width_ge hw (by omega) p2
  have wm : w ≤ m := by
    obtain ⟨t, ht, b, b0, b1, e⟩ := hw.got
    have := brought_len m t b x
    unfold cnt at e
    omega
  have hL : L.length ≤ 100 := by
    rw [eL, List.length_map]
    omega
  refine ⟨_, rfl, ⟨_, rfl⟩, 1, rfl, _, -1, _, rfl, rfl, lst, .inl ⟨_, _, rfl, rfl, _, rfl, ite2 (fun h => ?_) (fun h => ?_)⟩⟩
  · have hne : w ≠ x := by
      intro z
      rw [Bool.true_xor, decide_eq_true z] at h
      cases h
    refine ⟨_, rfl, by omega, _, rfl, rfl, ?_⟩
    refine ⟨_, rfl, _, rfl, _, rfl, m, w, tls, rfl, its, ne, h100, hm1, hm2, wm, fun w2 hw2 => ?_⟩
    refine ⟨(m - w).toNat, by omega, xs ++ [w], w, w2, _, rfl, by rw [eL, List.map_append]; rfl, .more hp hw hne, hw2, rfl⟩
  · have he : w = x := by
      by_cases z : w = x
      · exact z
      · rw [Bool.true_xor, decide_eq_false z] at h
        exact absurd rfl h
    subst he
    refine ⟨_, rfl, ?_⟩
    rw [eL]
    exact a xs w hp hw
abbrev s_fewest_pushes : Stmt := topS 10
abbrev N_fewest_pushes : List Str := ["m", "tools", "places", "goal", "spread", "pushes", "length"]
theorem sc_fewest_pushes : FnScope N_fewest_pushes ["m", "tools", "places", "goal"] (defScope s_fewest_pushes) :=
  ⟨rfl, rfl, rfl, by decide +kernel, rfl, by decide +kernel, by decide +kernel⟩
theorem ok_fewest_pushes {f : Addr} {fd : FuncData} (F : Fun K "fewest_pushes" "fewest_pushes" s_fewest_pushes f fd) (T : Bi mg)
    (h_spread_of : Has P w K mg base 2 "spread_of" ["m", "places"] (spP K RSpread))
    (h_lengths_of : Has P w K mg base 6 "lengths_of" ["m", "tools", "goal"] (spP K RLens))
    : FnOk P w K mg base CX0 7 f fd ["m", "tools", "places", "goal"] (spP K RFew) := by
  refine F.ok sc_fewest_pushes (fun vs H Q E h => lenP h (by rintro ds A ⟨_, _, _, _, rfl, _⟩; rfl)) (fun cdv Ar outer s H vs Q E hr h => ?_)
  refine ⟨_, (pss_cons (ps_set (i := 4) sc_fewest_pushes.nd rfl (.inl rfl) (pe_callH h_spread_of hr (by decide) (by rfl) (pa_cons (pv 0) (pa_cons (pv 2) pa_nil))))
  (pss_cons (ps_for PassesOwn.never rfl (kienT K (by rfl) T.enumerate (pa_cons (pe_callH h_lengths_of hr (by decide) (by rfl) (pa_cons (pv 0) (pa_cons (pv 1) (pa_cons (pv 3) pa_nil)))) pa_nil)) (kgtup K 2 rfl (pgs_cons (pg_name (i := 5) sc_fewest_pushes.nd rfl (.inl rfl)) (pgs_cons (pg_name (i := 6) sc_fewest_pushes.nd rfl (.inl rfl)) pgs_nil)))
  (pss_one (ps_if (pt_cmpR op_ge (pv 6) (pv 4) (nomark _))
  (pss_one (ps_ret (pv 5)))
  pss_nil)))
  (pss_one (ps_ret pe_non)))), ?_⟩
  refine goP (Δ := ΔB) rfl h (by repeat' (first | (with_reducible (first | apply rs_seq | exact rs_never | exact rs_next | exact rs_retN | apply rs_asg | apply rs_par | apply rs_par3 | apply rs_drop | apply rs_ret | apply rs_if | apply rs_for | apply rs_while | exact re_var | exact re_int | exact re_str | exact re_bl | exact re_non | apply re_op | apply re_un | apply re_isiT | apply re_isiI | apply re_isiB | apply re_srtSc | apply re_srtSet | apply re_cb | apply re_lst | apply re_tup | apply re_slU | apply re_slT | apply re_slL | exact ro_none | apply ro_some | apply re_andV | apply re_orV | apply re_notV | apply re_if | apply re_chain | apply rt_test | apply rt_b | apply rt_tru | exact rt_yes | apply rt_and | apply rt_or | apply rt_not | exact ra_nil | apply ra_cons | apply ri_rng1 | apply ri_rng2 | apply ri_tup | apply ri_lst | apply ri_zip | apply ri_enum | apply ri_enT | apply ri_U | apply ri_zm | apply ri_revA | exact rg_name | exact rgs_nil | apply rgs_cons | apply rg_tup | apply re_lc | apply re_listRg | apply re_tupRg | apply rrg1 | apply rrg2 | apply re_index | apply re_revT | apply re_revL | apply re_callK | apply re_callP | exact r2_I0 | exact r2_B0 | exact r2_Ic | exact r2_eq | exact r2_ne | exact r2_isN | exact r2_notN | exact r2_ixA | exact r2_ixT | exact r2_ixL | exact r2_catT | exact r2_catL | exact r2_catS | exact r2_notB | exact r2_repT | exact r2_in | exact r2_eqD | exact r2_neD | exact r1_neg | exact rc_len' | exact rc_tupF | exact rc_listof | exact rc_sorted | exact rc_sum | exact rc_max | exact rc_min | exact rc_all | exact rc_repr | exact rc_abs | exact rc_max2 | exact rc_min2 | exact rc_int1 | exact rc_sortT | apply ri_rng3)) | decide)) (fun ds A hR => ?_)
  obtain ⟨m, g, tls, ps, e, its, ne, h100, hm1, hm2, g1, gm, pp, pne, a⟩ := hR
  subst e
  refine ⟨_, rfl, _, rfl, m, ps, rfl, hm1, hm2, pp, pne, fun v hv => ?_⟩
  refine ⟨_, rfl, _, rfl, _, rfl, m, g, tls, rfl, its, ne, h100, hm1, hm2, g1, gm, fun xs x hp hw => ?_⟩
  refine ⟨_, rfl, fun i s => (∃ y5 y6, s = ⟨[.dat (.int m), .dat (toolsD tls), .dat (tupD ps), .dat (.int g), .dat (.int v), y5, y6], none⟩) ∧ ∀ (j : Nat) z, j < i → xs[j]? = some z → z < v, ⟨⟨_, _, rfl⟩, fun j z hj => absurd hj (Nat.not_lt_zero _)⟩, ?_, ?_⟩
  · intro i d s hx hs
    obtain ⟨⟨y5, y6, e⟩, hb⟩ := hs
    subst e
    obtain ⟨d, hd, e⟩ := enumD_get hx
    subst e
    obtain ⟨y, hy, e⟩ := map_get hd
    subst e
    refine ⟨_, rfl, rfl, _, _, rfl, _, _, rfl, rfl, ?_⟩
    refine ⟨_, rfl, _, rfl, _, _, rfl, rfl, _, rfl, ite2 (fun h => ?_) (fun h => ?_)⟩
    · have := a xs x v hp hw hv
      rw [few_some hy (of_decide_eq_true h) hb] at this
      exact ⟨_, rfl, this⟩
    · refine ⟨⟨_, _, rfl⟩, fun j z hj hz => ?_⟩
      by_cases hji : j < i
      · exact hb j z hji hz
      · have : j = i := by omega
        subst this
        rw [hy] at hz
        cases hz
        have : ¬ v ≤ y := fun q => h (decide_eq_true q)
        omega
  · intro s hs
    obtain ⟨⟨y5, y6, e⟩, hb⟩ := hs
    subst e
    have := a xs x v hp hw hv
    rw [few_none fun j z hz => hb j z (by have := (List.getElem?_eq_some_iff.mp hz).1; rw [enumD_len, List.length_map]; exact this) hz] at this
    exact this
end
section
open Classical
variable {P : Program} {w : World} {K : PySem.W.Frag} {mg : Str → Option Value} {base : Heap}
abbrev s_law : Stmt := topS 24
abbrev N_law : List Str := ["_law_script", "_law_drawn", "_law_turn", "_law_m", "_law_tools", "_law_places", "_law_goal", "_law_aim", "_law_known", "_law_sets", "_law_k", "_law_some_here", "_law_before", "_law_due", "_law_found"]
theorem sc_law : FnScope N_law ["_law_script"] (defScope s_law) :=
  ⟨rfl, rfl, rfl, by decide +kernel, rfl, by decide +kernel, by decide +kernel⟩
theorem ok_law {f : Addr} {fd : FuncData} (F : Fun K "law" "law" s_law f fd) (T : Bi mg) (sys : ∃ o, base.get? sysModules = some o)
    (h__law_draws : Has P w K mg base 1 "_law_draws" ["_law_script"] (spDk K ΔA))
    (h__law_next : Has P w K mg base 1 "_law_next" ["_law_drawn", "_law_many"] (spK K ΔA RDraw))
    (h__law_some : Has P w K mg base 3 "_law_some" ["_law_drawn", "_law_m", "_law_many"] (spK K ΔA RSome))
    (h__law_case : Has P w K mg base 5 "_law_case" ["_law_drawn", "_law_most"] (spK K ΔA RCase))
    (h__law_steps : Has P w K mg base 4 "_law_steps" ["_law_m", "_law_tools", "_law_goal"] (spP K RStp))
    (h_fewest_pushes : Has P w K mg base 7 "fewest_pushes" ["m", "tools", "places", "goal"] (spP K RFew))
    : FnG P w K mg base 10 f fd ["_law_script"] (spLaw K) := by
  refine fung_ok F sc_law (fun vs H Q E h => by obtain ⟨x, ns, e, _⟩ := h; subst e; rfl) (fun cdv Ar outer s H vs Q E hgd hr h => ?_)
  refine ⟨_, (pss_cons (ps_set (i := 1) sc_law.nd rfl (.inl rfl) (pe_callH h__law_draws hr (by decide) (by rfl) (pa_cons (pv 0) pa_nil)))
  (pss_cons (ps_for PassesOwn.never rfl (pi_range1 (by rfl) T.range (pa_cons pe_int pa_nil)) (pg_name (i := 2) sc_law.nd rfl (.inl rfl))
  (pss_cons (ps_asg (pe_callH h__law_case hr (by decide) (by rfl) (pa_cons (pv 1) (pa_cons pe_int pa_nil))) (kgtup K 4 rfl (pgs_cons (pg_name (i := 3) sc_law.nd rfl (.inl rfl)) (pgs_cons (pg_name (i := 4) sc_law.nd rfl (.inl rfl)) (pgs_cons (pg_name (i := 5) sc_law.nd rfl (.inl rfl)) (pgs_cons (pg_name (i := 6) sc_law.nd rfl (.inl rfl)) pgs_nil))))))
  (pss_one (ps_for PassesOwn.never rfl (kilist K (pe_callB (ksortS w rfl) (by rfl) T.sorted (by decide +kernel) (pa_cons (pe_callTy (ksetL K w rfl) (by rfl) T.set (by decide +kernel) (pa_cons (pe_lst (pa_cons (pv 6) (pa_cons (pe_op op_add pe_int (pe_callH h__law_next hr (by decide) (by rfl) (pa_cons (pv 1) (pa_cons (pv 3) pa_nil)))) pa_nil))) pa_nil)) pa_nil))) (pg_name (i := 7) sc_law.nd rfl (.inl rfl))
  (pss_cons (ps_set (i := 8) sc_law.nd rfl (.inl rfl) (pe_callH h__law_steps hr (by decide) (by rfl) (pa_cons (pv 3) (pa_cons (pv 4) (pa_cons (pv 7) pa_nil)))))
  (pss_cons (ps_set (i := 9) sc_law.nd rfl (.inl rfl) (pe_lst (pa_cons (pv 5) (pa_cons (pe_tupRg (by rfl) (by rfl) T.tuple (prg_1 (by rfl) T.range (pv 3))) pa_nil))))
  (pss_cons (ps_for PassesOwn.never rfl (pi_range1 (by rfl) T.range (pa_cons pe_int pa_nil)) (pg_name (i := 10) sc_law.nd rfl (.inl rfl))
  (pss_one (ps_expr (kbm K PySem.F.plainAttrs_list PySem.F.slot_list_append PySem.F.type_list_append mt_append (pv 9) (pa_cons (pe_callTy (ktupQ K) (by rfl) T.tuple (by decide +kernel) (pa_cons (pe_callH h__law_some hr (by decide) (by rfl) (pa_cons (pv 1) (pa_cons (pv 3) (pa_cons (pe_op op_add pe_int (pe_callH h__law_next hr (by decide) (by rfl) (pa_cons (pv 1) (pa_cons (pv 3) pa_nil)))) pa_nil)))) pa_nil)) pa_nil)))))
  (pss_one (ps_for PassesOwn.never rfl (kilist K (pv 9)) (pg_name (i := 11) sc_law.nd rfl (.inl rfl))
  (pss_cons (ps_par (i := 12) (j := 13) (by rfl) sc_law.nd rfl rfl (by decide) rfl rfl (pa_cons (pe_callB (kreprV K sys hgd hr.units) (by rfl) T.repr (by decide +kernel) (pa_cons (pe_lst (pa_cons (pv 4) (pa_cons (pv 11) pa_nil))) pa_nil)) (pa_cons (pe_dget1 (hu_of hr) (pv 8) (pv 11) ⟨rfl, rfl, rfl, rfl⟩) pa_nil)) (by rfl))
  (pss_cons (ps_set (i := 14) sc_law.nd rfl (.inl rfl) (pe_lst (pa_cons (pe_callH h_fewest_pushes hr (by decide) (by rfl) (pa_cons (pv 3) (pa_cons (pv 4) (pa_cons (pv 11) (pa_cons (pv 7) pa_nil))))) (pa_cons (pe_callH h_fewest_pushes hr (by decide) (by rfl) (pa_cons (pv 3) (pa_cons (pv 4) (pa_cons (pv 11) (pa_cons (pv 7) pa_nil))))) pa_nil))))
  (pss_one (ps_if (PW.pt (pw_or (pt_cmpR op_ne (pe_callB (kreprV K sys hgd hr.units) (by rfl) T.repr (by decide +kernel) (pa_cons (pv 14) pa_nil)) (pe_callB (kreprV K sys hgd hr.units) (by rfl) T.repr (by decide +kernel) (pa_cons (pe_lst (pa_cons (pv 13) (pa_cons (pv 13) pa_nil))) pa_nil)) (nomark _)) (pw_or1 (pt_cmpR op_ne (pe_callB (kreprV K sys hgd hr.units) (by rfl) T.repr (by decide +kernel) (pa_cons (pe_lst (pa_cons (pv 4) (pa_cons (pv 11) pa_nil))) pa_nil)) (pv 12) (nomark _)))))
  (pss_one (ps_ret pe_bl))
  pss_nil)))))))))))))
  (pss_one (ps_ret pe_bl)))), ?_⟩
  refine goLaw (Δ := ΔA) (i := 1) (n := 15) h (by repeat' (first | (with_reducible (first | apply rs_gvFor 9 10 | apply re_dget1D | apply rs_own 9 | apply rs_app' 9 | exact re_tupFO 9 | exact re_lenO 9 | exact re_ixAO 9 | apply re_ixOg 9 | apply rs_seq | exact rs_never | exact rs_next | exact rs_retN | apply rs_asg | apply rs_par | apply rs_par3 | apply rs_drop | apply rs_ret | apply rs_if | apply rs_for | apply rs_while | exact re_var | exact re_int | exact re_str | exact re_bl | exact re_non | apply re_op | apply re_un | apply re_isiT | apply re_isiI | apply re_isiB | apply re_srtSc | apply re_srtSet | apply re_cb | apply re_lst | apply re_tup | apply re_slU | apply re_slT | apply re_slL | exact ro_none | apply ro_some | apply re_andV | apply re_orV | apply re_notV | apply re_if | apply re_chain | apply rt_test | apply rt_b | apply rt_tru | exact rt_yes | apply rt_and | apply rt_or | apply rt_not | exact ra_nil | apply ra_cons | apply ri_rng1 | apply ri_rng2 | apply ri_tup | apply ri_lst | apply ri_zip | apply ri_enum | apply ri_enT | apply ri_U | apply ri_zm | apply ri_revA | exact rg_name | exact rgs_nil | apply rgs_cons | apply rg_tup | apply re_lc | apply re_listRg | apply re_tupRg | apply rrg1 | apply rrg2 | apply re_index | apply re_revT | apply re_revL | apply re_callK | apply re_callP | exact r2_I0 | exact r2_B0 | exact r2_Ic | exact r2_eq | exact r2_ne | exact r2_isN | exact r2_notN | exact r2_ixA | exact r2_ixT | exact r2_ixL | exact r2_catT | exact r2_catL | exact r2_catS | exact r2_notB | exact r2_repT | exact r2_in | exact r2_eqD | exact r2_neD | exact r1_neg | exact rc_len' | exact rc_tupF | exact rc_listof | exact rc_sorted | exact rc_sum | exact rc_max | exact rc_min | exact rc_all | exact rc_repr | exact rc_abs | exact rc_max2 | exact rc_min2 | exact rc_int1 | exact rc_sortT | apply ri_rng3)) | decide)) rfl (by decide) ?_
  refine ⟨2, rfl, by decide, by decide, fun i s => ∃ (y2 y3 y4 y5 y6 y7 y8 y9 y10 y11 y12 y13 y14 : Sl) (k : Int), s = ⟨[.free, .deck, y2, y3, y4, y5, y6, y7, y8, y9, y10, y11, y12, y13, y14], some k⟩ ∧ k ≤ 10000 * i, ⟨_, _, _, _, _, _, _, _, _, _, _, _, _, _, rfl, by omega⟩, ?_, ?_⟩
  · intro i x s hx hs
    obtain ⟨y2, y3, y4, y5, y6, y7, y8, y9, y10, y11, y12, y13, y14, k, e, hk⟩ := hs
    subst e
    obtain ⟨ex, hi⟩ := range_at hx
    subst ex
    have hi2 : i < 2 := hi
    refine ⟨rfl, k, rfl, 6, rfl, by omega, by decide, by decide, fun m tls ps g hm1 hm2 its ne hl pp pne g1 gm => ?_⟩
    refine ⟨_, rfl, rfl, _, _, rfl, _, _, rfl, _, _, rfl, _, _, rfl, rfl, ?_⟩
    refine ⟨_, rfl, rfl, _, rfl, _, rfl, m, rfl, by omega, by omega, by omega, fun v v0 v1 => ⟨1, v, rfl, rfl, len_ok rfl, [g, 1 + v], rfl, by show 2 ≤ 63; decide, fun out srt mem => ?_⟩⟩
    have orng : ∀ z ∈ out, 1 ≤ z ∧ z ≤ m := fun z hz => by
      have := (mem z).mp hz
      simp only [List.mem_cons, List.not_mem_nil, or_false] at this
      omega
    have olen : out.length ≤ 2 := pigeon (l := out) (ys := [g, 1 + v]) (srt.imp fun {a b} z => by omega) fun x hx => (mem x).mp hx
    refine ⟨_, rfl, fun j s => ∃ (y7 y8 y9 y10 y11 y12 y13 y14 : Sl) (kk : Int), s = ⟨[.free, .deck, .dat (.int (0 + (i : Nat))), .dat (.int m), .dat (toolsD tls), .dat (tupD ps), .dat (.int g), y7, y8, y9, y10, y11, y12, y13, y14], some kk⟩ ∧ kk ≤ k + 1100 + 1000 * j, ⟨_, _, _, _, _, _, _, _, _, rfl, by omega⟩, ?_, ?_⟩
    · intro j x s hx hs
      obtain ⟨y7, y8, y9, y10, y11, y12, y13, y14, kk, e, hkk⟩ := hs
      subst e
      obtain ⟨aim, ha, ex⟩ := map_get hx
      subst ex
      have hj : j < out.length := (List.getElem?_eq_some_iff.mp ha).1
      obtain ⟨a1, a2⟩ := orng aim (List.mem_of_getElem? ha)
      refine ⟨_, rfl, _, rfl, _, rfl, m, aim, tls, rfl, its, by omega, hm1, hm2, a1, a2, fun es ok el => ?_⟩
      refine ⟨_, rfl, _, rfl, m, rfl, RgOk.of_le (by decide) (by omega) (by decide) (by omega), len_ok rfl, ?_⟩
      have ur : rgD 0 m = upto m := rgD_upto m
      refine ⟨12, rfl, by decide, by decide, fun l s => ∃ (y10 y11 y12 y13 y14 : Sl) (ss : List (List Int)) (kc : Int), s = ⟨[.free, .deck, .dat (.int (0 + (i : Nat))), .dat (.int m), .dat (toolsD tls), .dat (tupD ps), .dat (.int g), .dat (.int aim), .dat (dicD es), .own (ss.map tupD), y10, y11, y12, y13, y14], some kc⟩ ∧ kc ≤ kk + 20 * l ∧ ss.length = 2 + l ∧ ∀ x ∈ ss, Places m x ∧ x ≠ [], ?_, ?_, ?_⟩
      · refine ⟨_, _, _, _, _, [ps, upto m], kk, by rw [ur]; rfl, by omega, rfl, fun x hx => ?_⟩
        simp only [List.mem_cons, List.not_mem_nil, or_false] at hx
        rcases hx with z | z
        · subst z
          exact ⟨pp, pne⟩
        · subst z
          exact ⟨⟨upto_asc m, fun x hx => upto_mem.mp hx⟩, fun z => by
            have := upto_len m
            rw [z, List.length_nil] at this
            omega⟩
      · intro l x s hx hs
        obtain ⟨y10, y11, y12, y13, y14, ss, kc, e, hkc, hls, hss⟩ := hs
        subst e
        obtain ⟨ex, hl12⟩ := range_at hx
        subst ex
        have hl12 : l < 12 := hl12
        refine ⟨_, rfl, by rw [List.length_map]; omega, ?_⟩
        refine ⟨rfl, _, rfl, rfl, _, rfl, _, rfl, m, rfl, by omega, by omega, by omega, fun v v0 v1 => ⟨1, v, rfl, rfl, _, rfl, m, 1 + v, rfl, by omega, by omega, by omega, by omega, fun xs srt lx rx => ?_⟩⟩
        refine ⟨_, rfl, rfl, .dat (.int (0 + (l : Nat))), y11, y12, y13, y14, ss ++ [xs], kc + 1 + m, ?_, by omega, by rw [List.length_append, hls]; rfl, fun x hx => ?_⟩
        · rw [List.map_append]
          rfl
        · rcases List.mem_append.mp hx with z | z
          · exact hss x z
          · rw [List.mem_singleton.mp z]
            exact ⟨⟨srt, rx⟩, fun z => by rw [z, List.length_nil] at lx; omega⟩
      · intro s hs
        obtain ⟨y10, y11, y12, y13, y14, ss, kc, e, hkc, hls, hss⟩ := hs
        subst e
        refine ⟨_, rfl, ?_⟩
        refine ⟨_, rfl, _, rfl, fun q s => ∃ (y10 y11 y12 y13 y14 : Sl), s = ⟨[.free, .deck, .dat (.int (0 + (i : Nat))), .dat (.int m), .dat (toolsD tls), .dat (tupD ps), .dat (.int g), .dat (.int aim), .dat (dicD es), .dat (.list (ss.map tupD)), y10, y11, y12, y13, y14], some kc⟩, ⟨_, _, _, _, _, rfl⟩, ?_, ?_⟩
        · intro q x s hx hs
          obtain ⟨y10, y11, y12, y13, y14, e⟩ := hs
          subst e
          obtain ⟨qs, hq, ex⟩ := map_get hx
          subst ex
          obtain ⟨qp, qne⟩ := hss qs (List.mem_of_getElem? hq)
          have nn := tp_neat its (by omega) qp (by omega)
          refine ⟨_, rfl, _, rfl, len_ok rfl, _, rfl, nn, _, rfl, es, rfl, _, rfl, qs, rfl, _, _, rfl, ?_⟩
          refine ⟨_, rfl, _, rfl, _, rfl, _, rfl, m, aim, tls, qs, rfl, its, ne, by omega, hm1, by omega, a1, a2, qp, qne, fun xs x v hp hw hv => ?_⟩
          have kf := known_few hm1 its (by omega) a2 ok qp qne hp hw hv
          have nf := few_neat (v := v) hp a1 a2 (by omega)
          rw [kf] at nf ⊢
          refine ⟨_, rfl, _, rfl, _, rfl, _, rfl, m, aim, tls, qs, rfl, its, ne, by omega, hm1, by omega, a1, a2, qp, qne, fun xs2 x2 v2 hp2 hw2 hv2 => ?_⟩
          rw [known_few hm1 its (by omega) a2 ok qp qne hp2 hw2 hv2]
          have n2 := neat_two nf nf (by decide) (by decide)
          refine ⟨len_ok rfl, ?_⟩
          refine ⟨_, rfl, _, rfl, n2, _, rfl, _, rfl, len_ok rfl, _, rfl, n2, ne2 rfl rfl ⟨_, rfl, ifNe rfl ?_⟩⟩
          refine ⟨_, rfl, _, rfl, len_ok rfl, _, rfl, nn, _, rfl, ne2 rfl rfl ⟨_, rfl, ifNe rfl ?_⟩⟩
          exact ⟨_, _, _, _, _, rfl⟩
        · intro s hs
          obtain ⟨y10, y11, y12, y13, y14, e⟩ := hs
          subst e
          have h12 : ((List.range (12 : Int).toNat).map fun i => PyData.int (0 + ((i : Nat) : Int))).length = 12 := rfl
          rw [h12] at hkc
          exact ⟨_, _, _, _, _, _, _, _, _, rfl, by omega⟩
    · intro s hs
      obtain ⟨y7, y8, y9, y10, y11, y12, y13, y14, kk, e, hkk⟩ := hs
      subst e
      rw [List.length_map] at hkk
      exact ⟨_, _, _, _, _, _, _, _, _, _, _, _, _, _, rfl, by omega⟩
  · intro s hs
    obtain ⟨y2, y3, y4, y5, y6, y7, y8, y9, y10, y11, y12, y13, y14, k, e, hk⟩ := hs
    subst e
    exact rfl
end
theorem has_mk {P : Program} {w : World} {K : PySem.W.Frag} {mg : Str → Option Value} {base : Heap} {k : Nat} {x : Str} {st : Stmt} {f : Addr} {fd : FuncData} {ps : List Str} {sp : Sp}
    (F : Fun K x x st f fd) (ok : FnOk P w K mg base CX0 k f fd ps sp) (hm : mg x = some (.ref f)) (hb : L2.Binds K fd ps []) : Has P w K mg base k x ps sp := ⟨f, fd, ok, hm, F.kp, hb⟩
theorem hasg_mk {P : Program} {w : World} {K : PySem.W.Frag} {mg : Str → Option Value} {base : Heap} {k : Nat} {x : Str} {st : Stmt} {f : Addr} {fd : FuncData} {ps : List Str} {sp : Sp}
    (F : Fun K x x st f fd) (ok : FnG P w K mg base k f fd ps sp) (hm : mg x = some (.ref f)) (hb : L2.Binds K fd ps []) : HasG P w K mg base k x ps sp := ⟨f, fd, ok, hm, F.kp, hb⟩
theorem all_mk {l : PySem.W.OpenLaw} {w : World} {K : PySem.W.Frag} {h : Heap} {mg : Str → Option Value} {fa : Addr} (X : K.In h) (G : h.Ns mainGlobals mg) (hfa : mg "law" = some (.ref fa))
    {f0 : Addr} {od0 an0 : Option Addr} {sl0 : Array (Option Value)} {oc0 kV0 dc0 pm0 cd0 ct0 : Value}
    (a0 : PySem.W.nsIn K mainGlobals "_law_draws" = some (some (.ref f0)))
    (l0 : K.lookup f0 = some ⟨oc0, od0, .func (PySem.W.fnOf "_law_draws" "_law_draws" (defArgs s__law_draws) (defBody s__law_draws) (defScope s__law_draws) .none kV0 dc0 pm0 an0 cd0 ct0), sl0⟩)
    (c0 : PySem.W.codeIn K cd0 "_law_draws" = true) (k0 : PySem.W.keepIn K (.ref f0) = true)
    {f1 : Addr} {od1 an1 : Option Addr} {sl1 : Array (Option Value)} {oc1 kV1 dc1 pm1 cd1 ct1 : Value}
    (a1 : PySem.W.nsIn K mainGlobals "_law_next" = some (some (.ref f1)))
    (l1 : K.lookup f1 = some ⟨oc1, od1, .func (PySem.W.fnOf "_law_next" "_law_next" (defArgs s__law_next) (defBody s__law_next) (defScope s__law_next) .none kV1 dc1 pm1 an1 cd1 ct1), sl1⟩)
    (c1 : PySem.W.codeIn K cd1 "_law_next" = true) (k1 : PySem.W.keepIn K (.ref f1) = true)
    {f2 : Addr} {od2 an2 : Option Addr} {sl2 : Array (Option Value)} {oc2 kV2 dc2 pm2 cd2 ct2 : Value}
    (a2 : PySem.W.nsIn K mainGlobals "_law_mixed" = some (some (.ref f2)))
    (l2 : K.lookup f2 = some ⟨oc2, od2, .func (PySem.W.fnOf "_law_mixed" "_law_mixed" (defArgs s__law_mixed) (defBody s__law_mixed) (defScope s__law_mixed) .none kV2 dc2 pm2 an2 cd2 ct2), sl2⟩)
    (c2 : PySem.W.codeIn K cd2 "_law_mixed" = true) (k2 : PySem.W.keepIn K (.ref f2) = true)
    {f3 : Addr} {od3 an3 : Option Addr} {sl3 : Array (Option Value)} {oc3 kV3 dc3 pm3 cd3 ct3 : Value}
    (a3 : PySem.W.nsIn K mainGlobals "_law_some" = some (some (.ref f3)))
    (l3 : K.lookup f3 = some ⟨oc3, od3, .func (PySem.W.fnOf "_law_some" "_law_some" (defArgs s__law_some) (defBody s__law_some) (defScope s__law_some) .none kV3 dc3 pm3 an3 cd3 ct3), sl3⟩)
    (c3 : PySem.W.codeIn K cd3 "_law_some" = true) (k3 : PySem.W.keepIn K (.ref f3) = true)
    {f4 : Addr} {od4 an4 : Option Addr} {sl4 : Array (Option Value)} {oc4 kV4 dc4 pm4 cd4 ct4 : Value}
    (a4 : PySem.W.nsIn K mainGlobals "_law_one" = some (some (.ref f4)))
    (l4 : K.lookup f4 = some ⟨oc4, od4, .func (PySem.W.fnOf "_law_one" "_law_one" (defArgs s__law_one) (defBody s__law_one) (defScope s__law_one) .none kV4 dc4 pm4 an4 cd4 ct4), sl4⟩)
    (c4 : PySem.W.codeIn K cd4 "_law_one" = true) (k4 : PySem.W.keepIn K (.ref f4) = true)
    {f5 : Addr} {od5 an5 : Option Addr} {sl5 : Array (Option Value)} {oc5 kV5 dc5 pm5 cd5 ct5 : Value}
    (a5 : PySem.W.nsIn K mainGlobals "_law_tool" = some (some (.ref f5)))
    (l5 : K.lookup f5 = some ⟨oc5, od5, .func (PySem.W.fnOf "_law_tool" "_law_tool" (defArgs s__law_tool) (defBody s__law_tool) (defScope s__law_tool) .none kV5 dc5 pm5 an5 cd5 ct5), sl5⟩)
    (c5 : PySem.W.codeIn K cd5 "_law_tool" = true) (k5 : PySem.W.keepIn K (.ref f5) = true)
    {f6 : Addr} {od6 an6 : Option Addr} {sl6 : Array (Option Value)} {oc6 kV6 dc6 pm6 cd6 ct6 : Value}
    (a6 : PySem.W.nsIn K mainGlobals "_law_case" = some (some (.ref f6)))
    (l6 : K.lookup f6 = some ⟨oc6, od6, .func (PySem.W.fnOf "_law_case" "_law_case" (defArgs s__law_case) (defBody s__law_case) (defScope s__law_case) .none kV6 dc6 pm6 an6 cd6 ct6), sl6⟩)
    (c6 : PySem.W.codeIn K cd6 "_law_case" = true) (k6 : PySem.W.keepIn K (.ref f6) = true)
    {f7 : Addr} {od7 an7 : Option Addr} {sl7 : Array (Option Value)} {oc7 kV7 dc7 pm7 cd7 ct7 : Value}
    (a7 : PySem.W.nsIn K mainGlobals "_law_spread" = some (some (.ref f7)))
    (l7 : K.lookup f7 = some ⟨oc7, od7, .func (PySem.W.fnOf "_law_spread" "_law_spread" (defArgs s__law_spread) (defBody s__law_spread) (defScope s__law_spread) .none kV7 dc7 pm7 an7 cd7 ct7), sl7⟩)
    (c7 : PySem.W.codeIn K cd7 "_law_spread" = true) (k7 : PySem.W.keepIn K (.ref f7) = true)
    {f8 : Addr} {od8 an8 : Option Addr} {sl8 : Array (Option Value)} {oc8 kV8 dc8 pm8 cd8 ct8 : Value}
    (a8 : PySem.W.nsIn K mainGlobals "_law_target" = some (some (.ref f8)))
    (l8 : K.lookup f8 = some ⟨oc8, od8, .func (PySem.W.fnOf "_law_target" "_law_target" (defArgs s__law_target) (defBody s__law_target) (defScope s__law_target) .none kV8 dc8 pm8 an8 cd8 ct8), sl8⟩)
    (c8 : PySem.W.codeIn K cd8 "_law_target" = true) (k8 : PySem.W.keepIn K (.ref f8) = true)
    {f9 : Addr} {od9 an9 : Option Addr} {sl9 : Array (Option Value)} {oc9 kV9 dc9 pm9 cd9 ct9 : Value}
    (a9 : PySem.W.nsIn K mainGlobals "_law_pushed" = some (some (.ref f9)))
    (l9 : K.lookup f9 = some ⟨oc9, od9, .func (PySem.W.fnOf "_law_pushed" "_law_pushed" (defArgs s__law_pushed) (defBody s__law_pushed) (defScope s__law_pushed) .none kV9 dc9 pm9 an9 cd9 ct9), sl9⟩)
    (c9 : PySem.W.codeIn K cd9 "_law_pushed" = true) (k9 : PySem.W.keepIn K (.ref f9) = true)
    {f10 : Addr} {od10 an10 : Option Addr} {sl10 : Array (Option Value)} {oc10 kV10 dc10 pm10 cd10 ct10 : Value}
    (a10 : PySem.W.nsIn K mainGlobals "_law_can_reach" = some (some (.ref f10)))
    (l10 : K.lookup f10 = some ⟨oc10, od10, .func (PySem.W.fnOf "_law_can_reach" "_law_can_reach" (defArgs s__law_can_reach) (defBody s__law_can_reach) (defScope s__law_can_reach) .none kV10 dc10 pm10 an10 cd10 ct10), sl10⟩)
    (c10 : PySem.W.codeIn K cd10 "_law_can_reach" = true) (k10 : PySem.W.keepIn K (.ref f10) = true)
    {f11 : Addr} {od11 an11 : Option Addr} {sl11 : Array (Option Value)} {oc11 kV11 dc11 pm11 cd11 ct11 : Value}
    (a11 : PySem.W.nsIn K mainGlobals "_law_steps" = some (some (.ref f11)))
    (l11 : K.lookup f11 = some ⟨oc11, od11, .func (PySem.W.fnOf "_law_steps" "_law_steps" (defArgs s__law_steps) (defBody s__law_steps) (defScope s__law_steps) .none kV11 dc11 pm11 an11 cd11 ct11), sl11⟩)
    (c11 : PySem.W.codeIn K cd11 "_law_steps" = true) (k11 : PySem.W.keepIn K (.ref f11) = true)
    {f12 : Addr} {od12 an12 : Option Addr} {sl12 : Array (Option Value)} {oc12 kV12 dc12 pm12 cd12 ct12 : Value}
    (a12 : PySem.W.nsIn K mainGlobals "steps_between" = some (some (.ref f12)))
    (l12 : K.lookup f12 = some ⟨oc12, od12, .func (PySem.W.fnOf "steps_between" "steps_between" (defArgs s_steps_between) (defBody s_steps_between) (defScope s_steps_between) .none kV12 dc12 pm12 an12 cd12 ct12), sl12⟩)
    (c12 : PySem.W.codeIn K cd12 "steps_between" = true) (k12 : PySem.W.keepIn K (.ref f12) = true)
    {f13 : Addr} {od13 an13 : Option Addr} {sl13 : Array (Option Value)} {oc13 kV13 dc13 pm13 cd13 ct13 : Value}
    (a13 : PySem.W.nsIn K mainGlobals "spread_of" = some (some (.ref f13)))
    (l13 : K.lookup f13 = some ⟨oc13, od13, .func (PySem.W.fnOf "spread_of" "spread_of" (defArgs s_spread_of) (defBody s_spread_of) (defScope s_spread_of) .none kV13 dc13 pm13 an13 cd13 ct13), sl13⟩)
    (c13 : PySem.W.codeIn K cd13 "spread_of" = true) (k13 : PySem.W.keepIn K (.ref f13) = true)
    {f14 : Addr} {od14 an14 : Option Addr} {sl14 : Array (Option Value)} {oc14 kV14 dc14 pm14 cd14 ct14 : Value}
    (a14 : PySem.W.nsIn K mainGlobals "is_in_arc" = some (some (.ref f14)))
    (l14 : K.lookup f14 = some ⟨oc14, od14, .func (PySem.W.fnOf "is_in_arc" "is_in_arc" (defArgs s_is_in_arc) (defBody s_is_in_arc) (defScope s_is_in_arc) .none kV14 dc14 pm14 an14 cd14 ct14), sl14⟩)
    (c14 : PySem.W.codeIn K cd14 "is_in_arc" = true) (k14 : PySem.W.keepIn K (.ref f14) = true)
    {f15 : Addr} {od15 an15 : Option Addr} {sl15 : Array (Option Value)} {oc15 kV15 dc15 pm15 cd15 ct15 : Value}
    (a15 : PySem.W.nsIn K mainGlobals "places_from" = some (some (.ref f15)))
    (l15 : K.lookup f15 = some ⟨oc15, od15, .func (PySem.W.fnOf "places_from" "places_from" (defArgs s_places_from) (defBody s_places_from) (defScope s_places_from) .none kV15 dc15 pm15 an15 cd15 ct15), sl15⟩)
    (c15 : PySem.W.codeIn K cd15 "places_from" = true) (k15 : PySem.W.keepIn K (.ref f15) = true)
    {f16 : Addr} {od16 an16 : Option Addr} {sl16 : Array (Option Value)} {oc16 kV16 dc16 pm16 cd16 ct16 : Value}
    (a16 : PySem.W.nsIn K mainGlobals "places_sent" = some (some (.ref f16)))
    (l16 : K.lookup f16 = some ⟨oc16, od16, .func (PySem.W.fnOf "places_sent" "places_sent" (defArgs s_places_sent) (defBody s_places_sent) (defScope s_places_sent) .none kV16 dc16 pm16 an16 cd16 ct16), sl16⟩)
    (c16 : PySem.W.codeIn K cd16 "places_sent" = true) (k16 : PySem.W.keepIn K (.ref f16) = true)
    {f17 : Addr} {od17 an17 : Option Addr} {sl17 : Array (Option Value)} {oc17 kV17 dc17 pm17 cd17 ct17 : Value}
    (a17 : PySem.W.nsIn K mainGlobals "tool_width" = some (some (.ref f17)))
    (l17 : K.lookup f17 = some ⟨oc17, od17, .func (PySem.W.fnOf "tool_width" "tool_width" (defArgs s_tool_width) (defBody s_tool_width) (defScope s_tool_width) .none kV17 dc17 pm17 an17 cd17 ct17), sl17⟩)
    (c17 : PySem.W.codeIn K cd17 "tool_width" = true) (k17 : PySem.W.keepIn K (.ref f17) = true)
    {f18 : Addr} {od18 an18 : Option Addr} {sl18 : Array (Option Value)} {oc18 kV18 dc18 pm18 cd18 ct18 : Value}
    (a18 : PySem.W.nsIn K mainGlobals "width_of" = some (some (.ref f18)))
    (l18 : K.lookup f18 = some ⟨oc18, od18, .func (PySem.W.fnOf "width_of" "width_of" (defArgs s_width_of) (defBody s_width_of) (defScope s_width_of) .none kV18 dc18 pm18 an18 cd18 ct18), sl18⟩)
    (c18 : PySem.W.codeIn K cd18 "width_of" = true) (k18 : PySem.W.keepIn K (.ref f18) = true)
    {f19 : Addr} {od19 an19 : Option Addr} {sl19 : Array (Option Value)} {oc19 kV19 dc19 pm19 cd19 ct19 : Value}
    (a19 : PySem.W.nsIn K mainGlobals "lengths_of" = some (some (.ref f19)))
    (l19 : K.lookup f19 = some ⟨oc19, od19, .func (PySem.W.fnOf "lengths_of" "lengths_of" (defArgs s_lengths_of) (defBody s_lengths_of) (defScope s_lengths_of) .none kV19 dc19 pm19 an19 cd19 ct19), sl19⟩)
    (c19 : PySem.W.codeIn K cd19 "lengths_of" = true) (k19 : PySem.W.keepIn K (.ref f19) = true)
    {f20 : Addr} {od20 an20 : Option Addr} {sl20 : Array (Option Value)} {oc20 kV20 dc20 pm20 cd20 ct20 : Value}
    (a20 : PySem.W.nsIn K mainGlobals "fewest_pushes" = some (some (.ref f20)))
    (l20 : K.lookup f20 = some ⟨oc20, od20, .func (PySem.W.fnOf "fewest_pushes" "fewest_pushes" (defArgs s_fewest_pushes) (defBody s_fewest_pushes) (defScope s_fewest_pushes) .none kV20 dc20 pm20 an20 cd20 ct20), sl20⟩)
    (c20 : PySem.W.codeIn K cd20 "fewest_pushes" = true) (k20 : PySem.W.keepIn K (.ref f20) = true)
    {f21 : Addr} {od21 an21 : Option Addr} {sl21 : Array (Option Value)} {oc21 kV21 dc21 pm21 cd21 ct21 : Value}
    (a21 : PySem.W.nsIn K mainGlobals "law" = some (some (.ref f21)))
    (l21 : K.lookup f21 = some ⟨oc21, od21, .func (PySem.W.fnOf "law" "law" (defArgs s_law) (defBody s_law) (defScope s_law) .none kV21 dc21 pm21 an21 cd21 ct21), sl21⟩)
    (c21 : PySem.W.codeIn K cd21 "law" = true) (k21 : PySem.W.keepIn K (.ref f21) = true)
    (z_len : PySem.W.nsIn K mainGlobals "len" = some none)
    (z_range : PySem.W.nsIn K mainGlobals "range" = some none)
    (z_abs : PySem.W.nsIn K mainGlobals "abs" = some none)
    (z_list : PySem.W.nsIn K mainGlobals "list" = some none)
    (z_sorted : PySem.W.nsIn K mainGlobals "sorted" = some none)
    (z_min : PySem.W.nsIn K mainGlobals "min" = some none)
    (z_max : PySem.W.nsIn K mainGlobals "max" = some none)
    (z_tuple : PySem.W.nsIn K mainGlobals "tuple" = some none)
    (z_dict : PySem.W.nsIn K mainGlobals "dict" = some none)
    (z_repr : PySem.W.nsIn K mainGlobals "repr" = some none)
    (z_set : PySem.W.nsIn K mainGlobals "set" = some none)
    (z_sum : PySem.W.nsIn K mainGlobals "sum" = some none)
    (z_isinstance : PySem.W.nsIn K mainGlobals "isinstance" = some none)
    (z_int : PySem.W.nsIn K mainGlobals "int" = some none)
    (z_bool : PySem.W.nsIn K mainGlobals "bool" = some none)
    (z_enumerate : PySem.W.nsIn K mainGlobals "enumerate" = some none)
    (z_zip : PySem.W.nsIn K mainGlobals "zip" = some none)
    (z_str : PySem.W.nsIn K mainGlobals "str" = some none)
    (z_type : PySem.W.nsIn K mainGlobals "type" = some none)
    (z_reversed : PySem.W.nsIn K mainGlobals "reversed" = some none)
    (z_any : PySem.W.nsIn K mainGlobals "any" = some none)
    (z_all : PySem.W.nsIn K mainGlobals "all" = some none)
    : ∃ fd : FuncData, (∀ (s : Shared) (v : Value), BindsTo s fd ⟨[v], []⟩ [("_law_script", v)]) ∧
      ∀ base : Heap, K.In base → base.Ns mainGlobals mg → (∃ o, base.get? sysModules = some o) → FnG l.prog w K mg base 10 fa fd ["_law_script"] (spLaw K) := by
  have e := hfa.symm.trans (PySem.W.mg_of X G a21)
  cases e
  have T : Bi mg := ⟨PySem.W.mg_none_of X G z_len, PySem.W.mg_none_of X G z_range, PySem.W.mg_none_of X G z_abs, PySem.W.mg_none_of X G z_list, PySem.W.mg_none_of X G z_sorted, PySem.W.mg_none_of X G z_min, PySem.W.mg_none_of X G z_max, PySem.W.mg_none_of X G z_tuple, PySem.W.mg_none_of X G z_dict, PySem.W.mg_none_of X G z_repr, PySem.W.mg_none_of X G z_set, PySem.W.mg_none_of X G z_sum, PySem.W.mg_none_of X G z_isinstance, PySem.W.mg_none_of X G z_int, PySem.W.mg_none_of X G z_bool, PySem.W.mg_none_of X G z_enumerate, PySem.W.mg_none_of X G z_zip, PySem.W.mg_none_of X G z_str, PySem.W.mg_none_of X G z_type, PySem.W.mg_none_of X G z_reversed, PySem.W.mg_none_of X G z_any, PySem.W.mg_none_of X G z_all⟩
  have F0 := fun_mk (st := s__law_draws) l0 c0 k0
  have b0 := F0.binds (ps := ["_law_script"]) fun _ _ _ _ _ _ us hl => match us, hl with | [_], _ => rfl
  have F1 := fun_mk (st := s__law_next) l1 c1 k1
  have b1 := F1.binds (ps := ["_law_drawn", "_law_many"]) fun _ _ _ _ _ _ us hl => match us, hl with | [_, _], _ => rfl
  have F2 := fun_mk (st := s__law_mixed) l2 c2 k2
  have b2 := F2.binds (ps := ["_law_drawn", "_law_items"]) fun _ _ _ _ _ _ us hl => match us, hl with | [_, _], _ => rfl
  have F3 := fun_mk (st := s__law_some) l3 c3 k3
  have b3 := F3.binds (ps := ["_law_drawn", "_law_m", "_law_many"]) fun _ _ _ _ _ _ us hl => match us, hl with | [_, _, _], _ => rfl
  have F4 := fun_mk (st := s__law_one) l4 c4 k4
  have b4 := F4.binds (ps := ["_law_drawn", "_law_items"]) fun _ _ _ _ _ _ us hl => match us, hl with | [_, _], _ => rfl
  have F5 := fun_mk (st := s__law_tool) l5 c5 k5
  have b5 := F5.binds (ps := ["_law_drawn", "_law_m"]) fun _ _ _ _ _ _ us hl => match us, hl with | [_, _], _ => rfl
  have F6 := fun_mk (st := s__law_case) l6 c6 k6
  have b6 := F6.binds (ps := ["_law_drawn", "_law_most"]) fun _ _ _ _ _ _ us hl => match us, hl with | [_, _], _ => rfl
  have F7 := fun_mk (st := s__law_spread) l7 c7 k7
  have b7 := F7.binds (ps := ["_law_m", "_law_places"]) fun _ _ _ _ _ _ us hl => match us, hl with | [_, _], _ => rfl
  have F8 := fun_mk (st := s__law_target) l8 c8 k8
  have b8 := F8.binds (ps := ["_law_tool_here", "_law_place"]) fun _ _ _ _ _ _ us hl => match us, hl with | [_, _], _ => rfl
  have F9 := fun_mk (st := s__law_pushed) l9 c9 k9
  have b9 := F9.binds (ps := ["_law_m", "_law_tool_here", "_law_turn", "_law_places"]) fun _ _ _ _ _ _ us hl => match us, hl with | [_, _, _, _], _ => rfl
  have F10 := fun_mk (st := s__law_can_reach) l10 c10 k10
  have b10 := F10.binds (ps := ["_law_m", "_law_tools", "_law_places", "_law_known"]) fun _ _ _ _ _ _ us hl => match us, hl with | [_, _, _, _], _ => rfl
  have F11 := fun_mk (st := s__law_steps) l11 c11 k11
  have b11 := F11.binds (ps := ["_law_m", "_law_tools", "_law_goal"]) fun _ _ _ _ _ _ us hl => match us, hl with | [_, _, _], _ => rfl
  have F12 := fun_mk (st := s_steps_between) l12 c12 k12
  have b12 := F12.binds (ps := ["m", "places"]) fun _ _ _ _ _ _ us hl => match us, hl with | [_, _], _ => rfl
  have F13 := fun_mk (st := s_spread_of) l13 c13 k13
  have b13 := F13.binds (ps := ["m", "places"]) fun _ _ _ _ _ _ us hl => match us, hl with | [_, _], _ => rfl
  have F14 := fun_mk (st := s_is_in_arc) l14 c14 k14
  have b14 := F14.binds (ps := ["m", "begin", "length", "place"]) fun _ _ _ _ _ _ us hl => match us, hl with | [_, _, _, _], _ => rfl
  have F15 := fun_mk (st := s_places_from) l15 c15 k15
  have b15 := F15.binds (ps := ["m", "targets", "sizes", "start", "length"]) fun _ _ _ _ _ _ us hl => match us, hl with | [_, _, _, _, _], _ => rfl
  have F16 := fun_mk (st := s_places_sent) l16 c16 k16
  have b16 := F16.binds (ps := ["m", "tool", "length"]) fun _ _ _ _ _ _ us hl => match us, hl with | [_, _, _], _ => rfl
  have F17 := fun_mk (st := s_tool_width) l17 c17 k17
  have b17 := F17.binds (ps := ["m", "tool", "length"]) fun _ _ _ _ _ _ us hl => match us, hl with | [_, _, _], _ => rfl
  have F18 := fun_mk (st := s_width_of) l18 c18 k18
  have b18 := F18.binds (ps := ["m", "tools", "length"]) fun _ _ _ _ _ _ us hl => match us, hl with | [_, _, _], _ => rfl
  have F19 := fun_mk (st := s_lengths_of) l19 c19 k19
  have b19 := F19.binds (ps := ["m", "tools", "goal"]) fun _ _ _ _ _ _ us hl => match us, hl with | [_, _, _], _ => rfl
  have F20 := fun_mk (st := s_fewest_pushes) l20 c20 k20
  have b20 := F20.binds (ps := ["m", "tools", "places", "goal"]) fun _ _ _ _ _ _ us hl => match us, hl with | [_, _, _, _], _ => rfl
  have F21 := fun_mk (st := s_law) l21 c21 k21
  refine ⟨PySem.W.fnOf "law" "law" (defArgs s_law) (defBody s_law) (defScope s_law) .none kV21 dc21 pm21 an21 cd21 ct21, fun s v => .of_eq rfl, fun base _ _ sys => ?_⟩
  have h0 := has_mk (P := l.prog) (w := w) (base := base) F0 (ok__law_draws (P := l.prog) (w := w) (base := base) F0 T ) (PySem.W.mg_of X G a0) b0
  have h1 := has_mk (P := l.prog) (w := w) (base := base) F1 (ok__law_next (P := l.prog) (w := w) (base := base) F1 T ) (PySem.W.mg_of X G a1) b1
  have h2 := has_mk (P := l.prog) (w := w) (base := base) F2 (ok__law_mixed (P := l.prog) (w := w) (base := base) F2 T h1) (PySem.W.mg_of X G a2) b2
  have h3 := has_mk (P := l.prog) (w := w) (base := base) F3 (ok__law_some (P := l.prog) (w := w) (base := base) F3 T h2) (PySem.W.mg_of X G a3) b3
  have h4 := has_mk (P := l.prog) (w := w) (base := base) F4 (ok__law_one (P := l.prog) (w := w) (base := base) F4 T h1) (PySem.W.mg_of X G a4) b4
  have h5 := has_mk (P := l.prog) (w := w) (base := base) F5 (ok__law_tool (P := l.prog) (w := w) (base := base) F5 T h1 h4 h3) (PySem.W.mg_of X G a5) b5
  have h6 := has_mk (P := l.prog) (w := w) (base := base) F6 (ok__law_case (P := l.prog) (w := w) (base := base) F6 T h1 h5 h3) (PySem.W.mg_of X G a6) b6
  have h7 := has_mk (P := l.prog) (w := w) (base := base) F7 (ok__law_spread (P := l.prog) (w := w) (base := base) F7 T ) (PySem.W.mg_of X G a7) b7
  have h8 := has_mk (P := l.prog) (w := w) (base := base) F8 (ok__law_target (P := l.prog) (w := w) (base := base) F8 T ) (PySem.W.mg_of X G a8) b8
  have h9 := has_mk (P := l.prog) (w := w) (base := base) F9 (ok__law_pushed (P := l.prog) (w := w) (base := base) F9 T h8) (PySem.W.mg_of X G a9) b9
  have h10 := has_mk (P := l.prog) (w := w) (base := base) F10 (ok__law_can_reach (P := l.prog) (w := w) (base := base) F10 T h9) (PySem.W.mg_of X G a10) b10
  have h11 := has_mk (P := l.prog) (w := w) (base := base) F11 (ok__law_steps (P := l.prog) (w := w) (base := base) F11 T h7 h10) (PySem.W.mg_of X G a11) b11
  have h12 := has_mk (P := l.prog) (w := w) (base := base) F12 (ok_steps_between (P := l.prog) (w := w) (base := base) F12 T ) (PySem.W.mg_of X G a12) b12
  have h13 := has_mk (P := l.prog) (w := w) (base := base) F13 (ok_spread_of (P := l.prog) (w := w) (base := base) F13 T h12) (PySem.W.mg_of X G a13) b13
  have h14 := has_mk (P := l.prog) (w := w) (base := base) F14 (ok_is_in_arc (P := l.prog) (w := w) (base := base) F14 T ) (PySem.W.mg_of X G a14) b14
  have h15 := has_mk (P := l.prog) (w := w) (base := base) F15 (ok_places_from (P := l.prog) (w := w) (base := base) F15 T h14) (PySem.W.mg_of X G a15) b15
  have h16 := has_mk (P := l.prog) (w := w) (base := base) F16 (ok_places_sent (P := l.prog) (w := w) (base := base) F16 T h12 h15) (PySem.W.mg_of X G a16) b16
  have h17 := has_mk (P := l.prog) (w := w) (base := base) F17 (ok_tool_width (P := l.prog) (w := w) (base := base) F17 T h16) (PySem.W.mg_of X G a17) b17
  have h18 := has_mk (P := l.prog) (w := w) (base := base) F18 (ok_width_of (P := l.prog) (w := w) (base := base) F18 T h17) (PySem.W.mg_of X G a18) b18
  have h19 := has_mk (P := l.prog) (w := w) (base := base) F19 (ok_lengths_of (P := l.prog) (w := w) (base := base) F19 T h18) (PySem.W.mg_of X G a19) b19
  have h20 := has_mk (P := l.prog) (w := w) (base := base) F20 (ok_fewest_pushes (P := l.prog) (w := w) (base := base) F20 T h13 h19) (PySem.W.mg_of X G a20) b20
  exact ok_law F21 T sys h0 h1 h3 h6 h11 h20
end BP
open PySem PySem.W PyProof.Rows
set_option maxHeartbeats 0 in
theorem PySem.Challenge.cw_blindpush_k11_fewest_pushes_by_search_holds : PySem.Challenge.rw_blindpush_k11_fewest_pushes_by_search.Holds := by
  w_on; o_law; k_head; (case hw => w_witness2)
  k_fill
  refine BP.walkG (l := PySem.Challenge.rw_blindpush_k11_fewest_pushes_by_search) (n := 63) (k := 10) (x := "_law_script") (sp := BP.spLaw) rfl (by decide) rfl ⟨rfl, by decide, by decide⟩ (by decide +kernel) (fun w h Y => PySem.W.kIn_of Y) ?F (fun _ _ a ns hl _ hS => ⟨a, ns, rfl, hS, hl, fun _ => rfl⟩)
  case F =>
    intro w mg fa h KX G hmg
    refine' BP.all_mk KX G hmg ?a0 ?l0 ?c0 ?k0 ?a1 ?l1 ?c1 ?k1 ?a2 ?l2 ?c2 ?k2 ?a3 ?l3 ?c3 ?k3 ?a4 ?l4 ?c4 ?k4 ?a5 ?l5 ?c5 ?k5 ?a6 ?l6 ?c6 ?k6 ?a7 ?l7 ?c7 ?k7 ?a8 ?l8 ?c8 ?k8 ?a9 ?l9 ?c9 ?k9 ?a10 ?l10 ?c10 ?k10 ?a11 ?l11 ?c11 ?k11 ?a12 ?l12 ?c12 ?k12 ?a13 ?l13 ?c13 ?k13 ?a14 ?l14 ?c14 ?k14 ?a15 ?l15 ?c15 ?k15 ?a16 ?l16 ?c16 ?k16 ?a17 ?l17 ?c17 ?k17 ?a18 ?l18 ?c18 ?k18 ?a19 ?l19 ?c19 ?k19 ?a20 ?l20 ?c20 ?k20 ?a21 ?l21 ?c21 ?k21 ?z_len ?z_range ?z_abs ?z_list ?z_sorted ?z_min ?z_max ?z_tuple ?z_dict ?z_repr ?z_set ?z_sum ?z_isinstance ?z_int ?z_bool ?z_enumerate ?z_zip ?z_str ?z_type ?z_reversed ?z_any ?z_all 
    (case a0 => k_is)
    (case l0 => k_is)
    (case c0 => k_is)
    (case k0 => k_is)
    (case a1 => k_is)
    (case l1 => k_is)
    (case c1 => k_is)
    (case k1 => k_is)
    (case a2 => k_is)
    (case l2 => k_is)
    (case c2 => k_is)
    (case k2 => k_is)
    (case a3 => k_is)
    (case l3 => k_is)
    (case c3 => k_is)
    (case k3 => k_is)
    (case a4 => k_is)
    (case l4 => k_is)
    (case c4 => k_is)
    (case k4 => k_is)
    (case a5 => k_is)
    (case l5 => k_is)
    (case c5 => k_is)
    (case k5 => k_is)
    (case a6 => k_is)
    (case l6 => k_is)
    (case c6 => k_is)
    (case k6 => k_is)
    (case a7 => k_is)
    (case l7 => k_is)
    (case c7 => k_is)
    (case k7 => k_is)
    (case a8 => k_is)
    (case l8 => k_is)
    (case c8 => k_is)
    (case k8 => k_is)
    (case a9 => k_is)
    (case l9 => k_is)
    (case c9 => k_is)
    (case k9 => k_is)
    (case a10 => k_is)
    (case l10 => k_is)
    (case c10 => k_is)
    (case k10 => k_is)
    (case a11 => k_is)
    (case l11 => k_is)
    (case c11 => k_is)
    (case k11 => k_is)
    (case a12 => k_is)
    (case l12 => k_is)
    (case c12 => k_is)
    (case k12 => k_is)
    (case a13 => k_is)
    (case l13 => k_is)
    (case c13 => k_is)
    (case k13 => k_is)
    (case a14 => k_is)
    (case l14 => k_is)
    (case c14 => k_is)
    (case k14 => k_is)
    (case a15 => k_is)
    (case l15 => k_is)
    (case c15 => k_is)
    (case k15 => k_is)
    (case a16 => k_is)
    (case l16 => k_is)
    (case c16 => k_is)
    (case k16 => k_is)
    (case a17 => k_is)
    (case l17 => k_is)
    (case c17 => k_is)
    (case k17 => k_is)
    (case a18 => k_is)
    (case l18 => k_is)
    (case c18 => k_is)
    (case k18 => k_is)
    (case a19 => k_is)
    (case l19 => k_is)
    (case c19 => k_is)
    (case k19 => k_is)
    (case a20 => k_is)
    (case l20 => k_is)
    (case c20 => k_is)
    (case k20 => k_is)
    (case a21 => k_is)
    (case l21 => k_is)
    (case c21 => k_is)
    (case k21 => k_is)
    (case z_len => k_is)
    (case z_range => k_is)
    (case z_abs => k_is)
    (case z_list => k_is)
    (case z_sorted => k_is)
    (case z_min => k_is)
    (case z_max => k_is)
    (case z_tuple => k_is)
    (case z_dict => k_is)
    (case z_repr => k_is)
    (case z_set => k_is)
    (case z_sum => k_is)
    (case z_isinstance => k_is)
    (case z_int => k_is)
    (case z_bool => k_is)
    (case z_enumerate => k_is)
    (case z_zip => k_is)
    (case z_str => k_is)
    (case z_type => k_is)
    (case z_reversed => k_is)
    (case z_any => k_is)
    (case z_all => k_is)
