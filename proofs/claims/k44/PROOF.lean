import PyProof.Rows.All
import Wide.All
import OpenK.AllK
import Wide.FinOn
import HandS.ForMost
import HandS.Conv
import HandS.Codes
import HandS.Style
import HandS.SortInts
import HandS.Wide
import HandS.Zip
import PyProof.ReprRoads
import KE.KDictPairs
import HandS.SetBool
import HandS.SetFor
import HandS.Strs
import KE.GoesZip
import KE.GoesMore
import HandS.TupAny
import HandS.IsInst
import HandS.TupMul
import HandS.Iter
import KE.GoesEnum
import HandS.Rev
import HandS.ForExc
import HandS.ExcInit
import HandS.ExcField
import HandS.ExcIs
import KE.KExcIs
import HandS.Lambda
import PyProof.LayNew
import HandS.TryOnly
import HandS.CallSlots
import HandS.Property
import KE.Datum
import PyProof.StrLawsRepr
import PyProof.Rows.ReprOcc
import HandS.FStr
import HandS.Text
import HandS.Defaults
import HandS.NamedTupGet
import KE.KCallOwn
import KE.KUnpack
import KE.KDictZip
import HandS.MakeKwOnly
import HandS.ExcOwn
import PyProof.ExcBaseAll.ValueError
import PyProof.ExcBaseAll.LookupError
import KE.KExcInit
import HandS.TryMany
import KE.KTryMore
import KE.KExcPX
import PyProof.RulesAs
import HandS.Finally
import HandS.OwnEq
import PyProof.InstNe
import KE.KStateDown
import HandS.Head0
import HandS.Head1
import HandS.Head2
import HandS.HeadHook1
import HandS.HeadHook2
import PySem.Challenge.RW_blindpush_k44_benches_created
set_option Elab.async false
set_option linter.all false
set_option maxRecDepth 100000
set_option maxHeartbeats 4000000
set_option exponentiation.threshold 2000
namespace BP
open PySem PySem.Spec PyProof.Rows L2
structure FnG (P : Program) (w : World) (K : PySem.W.Frag) (mg : Str → Option Value) (base : Heap)
    (k : Nat) (f : Addr) (fd : FuncData) (ps : List Str) (sp : Sp) : Prop where
  glen : ∀ vs H Q E, sp vs H Q E → vs.length = ps.length
  grun : ∀ (A : Around) (outer : List Env) (s : Shared) (H : Hp) (args : Args) (us : List Value)
    (vs : List V) (Q : VK) (E : XK), A.guards = some [] → Room k A → Env0 P w K mg base A outer s H →
    BindsTo s fd args (ps.zip us) → Vals vs us → sp vs H Q E →
    codeAny (model P w) A (.call (.ref f) args) (CR CX0 outer P w H s Q E) s
section
variable {P : Program} {w : World} {K : PySem.W.Frag} {mg : Str → Option Value} {base : Heap}
theorem fung_ok {x qual : Str} {st : Stmt} {f : Addr} {fd : FuncData} {N ps : List Str} {k : Nat} {sp : Sp}
    (F : Fun K x qual st f fd) (S : FnScope N ps (defScope st))
    (hlen : ∀ vs H Q E, sp vs H Q E → vs.length = ps.length)
    (hbody : ∀ (cdv : Value) (A : Around) (outer : List Env) (s : Shared) (H : Hp) (vs : List V) (Q : VK) (E : XK),
      A.guards = some [] →
      Room k (A.deeper (envOfC qual (defScope st) s.heap.objs.size f cdv)) → sp vs H Q E →
      ∃ t, PSs (cxOf CX0 P w K mg base N qual (defScope st) f cdv A outer s H E).nox (defBody st) t ∧
        t { nx := fun _ H' => Q .non H', rt := Q } (start N vs) H) :
    FnG P w K mg base (k + 1) f fd ps sp := by
  obtain ⟨oc, od, kV, doc, pm, an, cdv, ct, osl, hfd, lk, hcd⟩ := F.ex
  subst hfd
  constructor
  · exact hlen
  · intro A outer s H args us vs Q E hg hr e0 hb r hsp
    have hl := hlen vs H Q E hsp
    have kin : K.In s.heap := e0.mod.kin.keeps fun b o e => (e0.bs b o e).1
    have nol : s.heap.NoLimit := e0.mod.nolimit.keeps fun b o e => (e0.bs b o e).1
    have hkd : ∀ y ∈ ps.zip us, (defScope st).names.lookup y.1 = some .local ∨
        ((defScope st).names.lookup y.1 = some .cell ∧
          ((cellsFrom (s.heap.objs.size + 1) (defScope st).names []).lookup y.1).isSome = true) := by
      intro y hy
      obtain ⟨n, v⟩ := y
      have hn : n ∈ ps := (List.of_mem_zip hy).1
      cases S.par n hn with
      | inl q => exact Or.inl q
      | inr q => exact Or.inr ⟨q, PySem.W.cellsFrom_some _ _ _ (Or.inl q)⟩
    apply codeAny_call_function hr.depth (kin _ _ lk) rfl S.co S.gen rfl (PySem.W.codeRec_of kin hcd)
    apply hb
    apply wpAny_newFunctionEnv_cells S.kind hkd
    intro env he s1 x
    cases he
    refine ⟨nol.keeps x.toInCall.keep, codeAny_func ?_⟩
    obtain ⟨t, ht, hq⟩ := hbody cdv A outer s H vs Q E hg (hr.deeper _) hsp
    have I := inv_start (CX := CX0) (E := E) S hr.hd e0 hl r x
    refine wpAny_mono (ht.nox.run [] s1 (start N vs) H _ I hq) (fun fl s' hs => ?_) fun e s' hs => hs
    cases fl with
    | ret u =>
      obtain ⟨v, σ', H', J, rv, q⟩ := hs
      exact ⟨v, H', J.os, J.bare, J.base, J.hok, rv, q⟩
    | next =>
      obtain ⟨σ', H', J, q⟩ := hs
      exact ⟨V.non, H', J.os, J.bare, J.base, J.hok, rfl, q⟩
    | brk =>
      obtain ⟨_, _, _, q⟩ := hs
      exact q.elim
    | cont =>
      obtain ⟨_, _, _, q⟩ := hs
      exact q.elim
end
section
variable {X : Cx} {k : Nat} {f : Addr} {fd : FuncData} {ps : List Str} {sp : Sp} {x : Str} {p pos : Pos} {e : Expr} {es : List Expr} {t : TA}
/-- f(e, ..), f a def of the kind above -/
theorem pe_callG (F : FnG X.prog X.w X.K X.mg X.base k f fd ps sp) (hgd : X.A.guards = some []) (hr : Room k X.A)
    (hg : Gl X x) (hm : X.mg x = some (.ref f)) (hk : PySem.W.keepIn X.K (.ref f) = true)
    (hb : Binds X.K fd ps []) (ha : PA X (e :: es) t)
    (hdb : (x == ("__debug__" : Str)) = false := by decide)
    (he : starEach (e :: es) X.env = (false, eval e X.env) :: starEach es X.env := by rfl)
    (hpl : (backTo pos (starEach es X.env)).any (·.1) = false := by rfl) :
    PE X (.Call (.Name x p) (e :: es) [] pos) (tCall sp [] E0 t) := by
  constructor
  intro pins s σ H Q I h
  apply wpAny_Call_Name_kw
  apply ld_glob I hg hm _ hdb
  apply PySem.W.callWith_K (h₀ := X.base) I.ok.mod.kin hk _ he hpl
  refine thn (ha.run pos pins s σ H _ I h) fun us s1 ⟨vs, H1, I1, r, q⟩ => ⟨I1.kIn, ?_⟩
  have q : sp (vs ++ []) H1 Q E0 := q
  rw [List.append_nil] at q
  have hl : us.length = ps.length := by
    rw [← r.length]
    exact F.glen _ _ _ _ q
  have hbb := hb s1 us I1.kIn (by rw [List.append_nil]; exact hl)
  rw [List.append_nil] at hbb
  refine wpAny_call (codeAny_mono (F.grun X.A X.stack s1 H1 ⟨us, []⟩ us vs Q E0 hgd hr I1.env0 hbb r q) fun r s' hq => ?_)
  cases r with
  | error e => exact hq.elim
  | ok fl => cases fl with
    | ret u => exact I1.after hq
    | next => exact hq.elim
    | brk => exact hq.elim
    | cont => exact hq.elim
end
theorem lawG {P : Program} {w : World} {K : PySem.W.Frag} {mg mb : Str → Option Value} {k : Nat} {fa a : Addr} {fd : FuncData}
    {x : Str} {sp : Sp} {s₁ : Shared} {vs : List Value} {ns : List Int}
    (KX : K.In s₁.heap) (hns : s₁.heap.Ns mainGlobals mg) (hb : s₁.heap.Ns builtinsNs mb)
    (hbb : ∀ x : Str, x ≠ "__name__" → mb x = bootBuiltins x) (hlim : s₁.heap.NoLimit) (hg : s₁.gens = #[])
    (ha : s₁.heap.get? a = some { cls := .type "list", data := .seq vs.toArray }) (hi : IntsAre vs ns)
    (hl : ns.length ≤ sizeLine) (hr : Room k callerA)
    (hsy : ∃ mm, s₁.heap.Ns sysModules mm)
    (F : ∀ base : Heap, K.In base → base.Ns mainGlobals mg → (∃ o, base.get? sysModules = some o) → FnG P w K mg base k fa fd [x] sp)
    (hbind : ∀ (s : Shared) (u : Value), BindsTo s fd ⟨[u], []⟩ [(x, u)])
    (hsp : ∀ H : Hp, Only H → SqL K H a (ns.map V.int) → sp [.ref a] H (fun v _ => v = .bl true) E0) :
    codeAny (model P w) callerA (.call (.ref fa) ⟨[.ref a], []⟩)
      (fun r s' => r = .ok (.ret (.bool true)) ∧ OldK s₁.heap s'.heap ∧ s'.os = s₁.os ∧ AllBare s'.gens) s₁ := by
  have rv := vals_ints hi
  have lenV := hi.length
  have main : ∀ T : Hp, Only T → SqL K T a (ns.map V.int) → HOk P w T s₁.heap → (∀ b, T b ≠ none → b = a) →
      (T a ≠ none → K.lookup a = none) →
      codeAny (model P w) callerA (.call (.ref fa) ⟨[.ref a], []⟩)
        (fun r s' => r = .ok (.ret (.bool true)) ∧ OldK s₁.heap s'.heap ∧ s'.os = s₁.os ∧ AllBare s'.gens) s₁ := by
    intro T tO tS tok tA tK
    have free_dict : ∀ {b : Addr} {o : Obj} {es : Array DictEntry} {ep : Nat},
        s₁.heap.get? b = some o → o.data = .dict es ep → T b = none := by
      intro b o es ep e d
      by_cases hz : T b = none
      · exact hz
      · have hba := tA b hz
        rw [hba, ha] at e
        cases e
        cases d
    have keepNs : ∀ {b : Addr} {m : Str → Option Value}, s₁.heap.Ns b m → (hidT s₁.heap T).Ns b m := by
      intro b m hh
      obtain ⟨o, es, ep, e, d, r⟩ := hh
      exact ⟨o, es, ep, hidT_get e (free_dict e d), d, r⟩
    have kB : K.In (hidT s₁.heap T) := by
      intro b o e
      refine hidT_get (KX b o e) ?_
      by_cases hz : T b = none
      · exact hz
      · have hba := tA b hz
        subst hba
        rw [tK hz] at e
        cases e
    obtain ⟨mc, c1, c2⟩ := hlim
    have md : Mod K mg (hidT s₁.heap T) := ⟨kB, keepNs hns, ⟨mb, keepNs hb, hbb⟩, ⟨mc, keepNs c1, c2⟩⟩
    have en : Env0 P w K mg (hidT s₁.heap T) callerA [] s₁ T := by
      refine ⟨rfl, md, fun b o e => of_hidT e, Nat.le_of_eq (hidT_size _ _), trivial, ?_, tok, .of_eq hg⟩
      intro b hb
      exact absurd (show b ∈ ([] : List Addr) from hb) List.not_mem_nil
    have sy : ∃ o, (hidT s₁.heap T).get? sysModules = some o := by
      obtain ⟨mm, h⟩ := hsy
      obtain ⟨o, es, ep, e, _⟩ := keepNs h
      exact ⟨o, e⟩
    have go := (F _ kB (keepNs hns) sy).grun callerA [] s₁ T ⟨[.ref a], []⟩ [.ref a] [.ref a] _ _ rfl hr en
      (hbind s₁ (.ref a)) (.cons rfl .nil) (hsp T tO tS)
    refine codeAny_mono go fun r s' h => ?_
    cases r with
    | error e => exact h.elim
    | ok fl => cases fl with
      | next => exact h.elim
      | brk => exact h.elim
      | cont => exact h.elim
      | ret u =>
        obtain ⟨v, T', os, bare, un, hok', r', q⟩ := h
        have qv : v = .bl true := q
        subst qv
        have ru : u = Value.bool true := r'
        subst ru
        refine ⟨rfl, OldK.of_keep ?_, os, bare⟩
        intro b o e
        rcases tO b with z | ⟨ob, xs, z⟩
        · refine un.keep b o e z ?_ ?_
          · intro z'
            exact absurd (show b ∈ ([] : List Addr) from z') List.not_mem_nil
          · exact List.not_mem_nil
        · obtain ⟨e1, _⟩ := tok b _ z
          obtain ⟨e2, _⟩ := hok' b _ (un.frzs b ob _ z)
          rw [e] at e1
          cases e1
          exact e2
  cases hk : K.lookup a with
  | some o =>
    have e := KX a o hk
    rw [ha] at e
    cases e
    refine main (fun _ => none) (fun _ => .inl rfl) ?_ ?_ ?_ ?_
    · exact .inr ⟨_, vs.toArray, _, hk, rfl, rfl, rfl, by rw [List.size_toArray, lenV]; exact hl, by simpa using rv⟩
    · intro b u z
      cases (show (none : Option HO) = some u from z)
    · intro b z
      exact absurd rfl z
    · intro z
      exact absurd rfl z
  | none =>
    refine main (fun b => if b = a then some (.frz { cls := .type "list", data := .seq vs.toArray } (.lst (ns.map V.int))) else none) ?_ ?_ ?_ ?_ (fun _ => hk)
    · intro b
      by_cases h0 : b = a
      · exact .inr ⟨_, _, if_pos h0⟩
      · exact .inl (if_neg h0)
    · exact .inl (.inr ⟨{ cls := .type "list", data := .seq vs.toArray }, if_pos rfl⟩)
    · intro b u z
      by_cases h0 : b = a
      · subst h0
        cases (if_pos rfl).symm.trans z
        exact ⟨ha, by rw [List.length_map]; exact hl, vs, _, rv, ha⟩
      · cases (if_neg h0).symm.trans z
    · intro b z
      by_cases h0 : b = a
      · exact h0
      · exact absurd (if_neg h0) z
section
variable {X : Cx}
/-- tuple(xs), xs a list: the new tuple as an object that bears no dict -/
theorem call_tupleF : CallR X (.type "tuple") (fun xs H Q => ∃ p ys, xs = [.ref p] ∧ SqL X.K H p ys ∧
    ∀ (l : Addr) (o : Obj), H l = none → o.dict = none → Q (.ref l) (upd H l (.frz o (.tup ys)))) := by
  intro pins s σ H xs us Q I r h
  obtain ⟨p, ys, e, hq, q⟩ := h
  subst e
  obtain ⟨u, e, rx⟩ := vals1 r
  subst e
  cases rx
  obtain ⟨its, r', pl, hz⟩ := I.list hq
  have hlen := r'.length
  refine call_tuple_list pl.isList (fun h' kp => ?_) (by simp only [List.size_toArray] <;> omega)
  have I1 := I.kept (t' := s.toks) kp
  have I2 := I1.laid (t' := s.toks) (a := h'.objs.size) (o := .frz { cls := .type "tuple", data := .seq its.toArray } (.tup ys))
    (h' := h'.push { cls := .type "tuple", data := .seq its.toArray })
    (fun b o e => Heap.get?_push_of_some _ e) (Nat.le_refl _) ⟨Heap.get?_push_size _ rfl, hz, its, r', IsTup.new _ _⟩
  exact ⟨.ref h'.objs.size, _, I2, rfl, q _ _ (I1.hok.fresh (Nat.le_refl _)) rfl⟩
/-- a written tuple, as an object that bears no dict -/
def tTupF (t : TA) : TE := fun σ H Q => t σ H fun xs H1 => xs.length ≤ sizeLine ∧
  ∀ (p : Addr) (o : Obj), H1 p = none → o.dict = none → Q (.ref p) (upd H1 p (.frz o (.tup xs)))
end
def Has (P : Program) (w : World) (K : PySem.W.Frag) (mg : Str → Option Value) (base : Heap) (k : Nat) (x : Str) (ps : List Str) (sp : Sp) : Prop :=
  ∃ f fd, FnOk P w K mg base CX0 k f fd ps sp ∧ mg x = some (.ref f) ∧ PySem.W.keepIn K (.ref f) = true ∧ L2.Binds K fd ps []
def HasG (P : Program) (w : World) (K : PySem.W.Frag) (mg : Str → Option Value) (base : Heap) (k : Nat) (x : Str) (ps : List Str) (sp : Sp) : Prop :=
  ∃ f fd, FnG P w K mg base k f fd ps sp ∧ mg x = some (.ref f) ∧ PySem.W.keepIn K (.ref f) = true ∧ L2.Binds K fd ps []
section
variable {X : Cx} {k j : Nat} {ps : List Str} {sp : Sp} {x : Str} {p pos : Pos} {e : Expr} {es : List Expr} {t : TA}
theorem pe_callH (h : Has X.prog X.w X.K X.mg X.base k x ps sp) (hr : Room j X.A) (hk : k ≤ j) (hg : Gl X x) (ha : PA X (e :: es) t)
    (hdb : (x == ("__debug__" : Str)) = false := by decide)
    (he : starEach (e :: es) X.env = (false, eval e X.env) :: starEach es X.env := by rfl)
    (hpl : (backTo pos (starEach es X.env)).any (·.1) = false := by rfl) :
    PE X (.Call (.Name x p) (e :: es) [] pos) (tCall sp [] E0 t) := by
  obtain ⟨f, fd, F, hm, hkp, hb⟩ := h
  exact pe_call F (hr.mono hk) hg hm hkp hb .nil pass0 ha hdb he hpl
theorem pe_callHG (h : HasG X.prog X.w X.K X.mg X.base k x ps sp) (hgd : X.A.guards = some []) (hr : Room j X.A) (hk : k ≤ j) (hg : Gl X x) (ha : PA X (e :: es) t)
    (hdb : (x == ("__debug__" : Str)) = false := by decide)
    (he : starEach (e :: es) X.env = (false, eval e X.env) :: starEach es X.env := by rfl)
    (hpl : (backTo pos (starEach es X.env)).any (·.1) = false := by rfl) :
    PE X (.Call (.Name x p) (e :: es) [] pos) (tCall sp [] E0 t) := by
  obtain ⟨f, fd, F, hm, hkp, hb⟩ := h
  exact pe_callG F hgd (hr.mono hk) hg hm hkp hb ha hdb he hpl
end
section
variable {X : Cx} {o e : Expr} {es : List Expr} {to : TE} {t : TA} {name : Str} {apos cpos pos : Pos} {T id : String}
  {r : V → List V → Hp → VK → Prop}
def rLenS (K : PySem.W.Frag) : List V → Hp → VK → Prop := fun xs H Q =>
  ∃ p ys, xs = [.ref p] ∧ (SqL K H p ys ∨ SqT K H p ys) ∧ Q (.int ys.length) H
def rListOf (K : PySem.W.Frag) : List V → Hp → VK → Prop := fun xs H Q =>
  ∃ p ys, xs = [.ref p] ∧ (SqL K H p ys ∨ SqT K H p ys) ∧ ∀ l, H l = none → Q (.ref l) (upd H l (.lst ys))
def rTupF (K : PySem.W.Frag) : List V → Hp → VK → Prop := fun xs H Q => ∃ p ys, xs = [.ref p] ∧ SqL K H p ys ∧
    ∀ (l : Addr) (o : Obj), H l = none → o.dict = none → Q (.ref l) (upd H l (.frz o (.tup ys)))
theorem kbm (K : PySem.W.Frag) (pa : PlainAttrs T) (slot : Slot T name id)
    (hty : typeOf (.builtin id) = pure (.type "method_descriptor")) (hm : MtM X id r) (ho : PE X o to) (ha : PA X (e :: es) t)
    (hK : X.K = K := by rfl)
    (hbase : attributeBase o name X.env (eval o X.env) = eval o X.env := by rfl)
    (hfew : ((backTo cpos (starEach (e :: es) X.env)).all (fun x => !x.1) && (backToKw cpos (keywordEach [] X.env)).all (fun x => x.1.isSome)
      && decide ((e :: es).length + ([] : List Keyword).length + (if ([] : List Keyword).isEmpty then 0 else 1) < 30)) = true := by rfl)
    (hline : (apos.endLine == cpos.line) = true := by rfl)
    (hs : starEach (e :: es) X.env = (false, eval e X.env) :: starEach es X.env := by rfl)
    (hplain : (backTo cpos (starEach es X.env)).any (·.1) = false := by rfl) :
    PE X (.Call (.Attribute o name apos) (e :: es) [] cpos) (tBM K T r to t) := by
  subst hK
  exact pe_bm pa slot hty hm ho ha hbase hfew hline hs hplain
theorem klen (K : PySem.W.Frag) (hK : X.K = K := by rfl) : CallR X (.builtin "len") (rLenS K) := by subst hK; exact call_len_seq
theorem klistof (K : PySem.W.Frag) (hK : X.K = K := by rfl) : CallR X (.type "list") (rListOf K) := by subst hK; exact call_list_of
theorem ktupF (K : PySem.W.Frag) (hK : X.K = K := by rfl) : CallR X (.type "tuple") (rTupF K) := by subst hK; exact call_tupleF
theorem kixL (K : PySem.W.Frag) (hK : X.K = K := by rfl) : IxR X (rIxL K) := by subst hK; exact ix_list
theorem kslL (K : PySem.W.Frag) (hK : X.K = K := by rfl) : SlR X (rSlL K) := by subst hK; exact sl_list
theorem kin (K : PySem.W.Frag) (hK : X.K = K := by rfl) : OpR X (compareOp .In) (rIn K false) := by subst hK; exact op_in_seq
theorem ksort (K : PySem.W.Frag) (hK : X.K = K := by rfl) : CallR X (.builtin "sorted") (rSortedI K) := by subst hK; exact cr_sortedI
theorem keqD (K : PySem.W.Frag) (hu : X.A.units + 64 < cLine) (hK : X.K = K := by rfl) : OpR X (compareOp .Eq) (rEqD K) := by subst hK; exact op_eqD hu
theorem kneD (K : PySem.W.Frag) (hu : X.A.units + 64 < cLine) (hK : X.K = K := by rfl) : OpR X (compareOp .NotEq) (rNeD K) := by subst hK; exact op_neD hu
theorem kgtup (K : PySem.W.Frag) (n : Nat) {k : Nat} {t : TGs} (hc : X.calm = true) (h : PGs X es t) (hK : X.K = K := by rfl)
    (hn : (assignEach es X.env).length = n := by rfl) (hst : (assignEach es X.env).findIdx? (·.1) = none := by rfl) :
    PG X (.Tuple es k pos) (gTup K n t) := by subst hK; exact pg_tup hc h hn hst
theorem kilist (K : PySem.W.Frag) {tg l : Expr} {tl : TE} (hl : PE X l tl) (hK : X.K = K := by rfl) : PI X tg l (iList K tl) := by subst hK; exact pi_list hl
theorem kitup (K : PySem.W.Frag) {tg l : Expr} {tl : TE} (hl : PE X l tl) (hK : X.K = K := by rfl) : PI X tg l (iTup K tl) := by subst hK; exact pi_tup hl
end
structure Bi (mg : Str → Option Value) : Prop where
  len : mg "len" = none
  range : mg "range" = none
  abs : mg "abs" = none
  list : mg "list" = none
  sorted : mg "sorted" = none
  min : mg "min" = none
  max : mg "max" = none
  tuple : mg "tuple" = none
  dict : mg "dict" = none
  repr : mg "repr" = none
  set : mg "set" = none
  sum : mg "sum" = none
  isinstance : mg "isinstance" = none
  int : mg "int" = none
  bool : mg "bool" = none
  enumerate : mg "enumerate" = none
  zip : mg "zip" = none
  str : mg "str" = none
  type : mg "type" = none
  reversed : mg "reversed" = none
  any : mg "any" = none
  all : mg "all" = none
/-- all but the two objects of the deck stands as it stood -/
def Keep (a c : Addr) (H H' : Hp) : Prop := ∀ b o, b ≠ a → b ≠ c → H b = some o → H' b = some o
theorem Keep.refl (a c : Addr) (H : Hp) : Keep a c H H := fun _ _ _ _ h => h
theorem Keep.trans {a c : Addr} {H H1 H2 : Hp} (x : Keep a c H H1) (y : Keep a c H1 H2) : Keep a c H H2 :=
  fun b o h1 h2 h => y b o h1 h2 (x b o h1 h2 h)
theorem Keep.of_same {a c : Addr} {H H' : Hp} (h : Same H H') : Keep a c H H' := fun b o _ _ e => h b o e
theorem same_upd {H : Hp} {p : Addr} {o : HO} (h : H p = none) : Same H (upd H p o) := by
  intro b x e
  rw [upd_ne (ne_of_none e h)]
  exact e
/-- the deck: its list of the cells and its count, at most k -/
def Deck (H : Hp) (a c : Addr) (k : Int) : Prop := ∃ (ns : List Int) (j : Int), a ≠ c ∧ H a = some (.lst [.ref c, .int j]) ∧
  H c = some (.lst (ns.map V.int)) ∧ (∀ n ∈ ns, 0 ≤ n) ∧ 0 ≤ j ∧ j ≤ k
theorem Deck.mono {H : Hp} {a c : Addr} {k k' : Int} (h : Deck H a c k) (le : k ≤ k') : Deck H a c k' := by
  obtain ⟨ns, j, h1, h2, h3, h4, h5, h6⟩ := h
  exact ⟨ns, j, h1, h2, h3, h4, h5, by omega⟩
theorem Deck.same {H H' : Hp} {a c : Addr} {k : Int} (h : Deck H a c k) (s : Same H H') : Deck H' a c k := by
  obtain ⟨ns, j, h1, h2, h3, h4, h5, h6⟩ := h
  exact ⟨ns, j, h1, s _ _ h2, s _ _ h3, h4, h5, h6⟩
theorem Deck.new {H : Hp} {a c : Addr} {k : Int} {p : Addr} {o : HO} (h : Deck H a c k) (n : H p = none) : Deck (upd H p o) a c k := h.same (same_upd n)
def spDraw : Sp := fun vs H Q _ => ∃ (a c : Addr) (k lim : Int), vs = [.ref a, .int lim] ∧ Deck H a c k ∧ k ≤ 1000000 ∧ 1 ≤ lim ∧ lim ≤ 1000000000000000 ∧
  ∀ (v : Int) (H' : Hp), 0 ≤ v → v < lim → Deck H' a c (k + 1) → Keep a c H H' → Q (.int v) H'
theorem atI_pos {α : Type} {xs : List α} {i : Int} {v : α} (h0 : 0 ≤ i) (h : xs[i.toNat]? = some v) : atI xs i = some v := by
  have e : i = ((i.toNat : Nat) : Int) := by omega
  rw [e]
  exact atI_nat h
theorem ixN_pos {n : Nat} {i : Int} (h0 : 0 ≤ i) (h : i < n) : ixN n i = some i.toNat := by
  unfold ixN
  rw [if_pos h0, if_pos h]
theorem set0 {x y : V} {v : V} : [x, y].set 1 v = [x, v] := rfl
theorem mem_set_nonneg {ns : List Int} (h : ∀ n ∈ ns, 0 ≤ n) (i : Nat) {v : Int} (hv : 0 ≤ v) : ∀ n ∈ ns.set i v, 0 ≤ n := by
  intro n hn
  rcases List.mem_or_eq_of_mem_set hn with z | z
  · exact h n z
  · rw [z]
    exact hv
def spDeck (K : PySem.W.Frag) : Sp := fun vs H Q _ => ∃ (s : Addr) (ns : List Int), vs = [.ref s] ∧ SqL K H s (ns.map V.int) ∧ ns.length ≤ 63 ∧
  ∀ (a c : Addr) (H' : Hp), Deck H' a c 0 → Same H H' → H a = none → H c = none → Q (.ref a) H'
theorem cut_to (xs : List V) (k : Nat) : cutV xs none (some (k : Int)) = xs.take k := by
  unfold cutV
  rw [HT.sIx_nat, HT.sIx_none, List.drop_zero, Nat.sub_zero]
  by_cases h : k ≤ xs.length
  · rw [Nat.min_eq_left h]
  · rw [Nat.min_eq_right (by omega), List.take_of_length_le (Nat.le_refl _), List.take_of_length_le (by omega)]
theorem take_map_succ {α β : Type} (f : α → β) {xs : List α} {i : Nat} {x : α} (h : xs[i]? = some x) : (xs.take (i + 1)).map f = (xs.take i).map f ++ [f x] := by
  rw [List.take_add_one, h, List.map_append]
  rfl
theorem abs_nonneg (n : Int) : 0 ≤ (if n < 0 then -n else n) := by
  split <;> omega
def upto (m : Int) : List Int := (List.range m.toNat).map fun i => ((i : Nat) : Int)
theorem upto_len (m : Int) : (upto m).length = m.toNat := by
  unfold upto
  rw [List.length_map, List.length_range]
theorem upto_mem {m x : Int} : x ∈ upto m ↔ 0 ≤ x ∧ x < m := by
  unfold upto
  rw [List.mem_map]
  constructor
  · intro ⟨i, hi, e⟩
    rw [List.mem_range] at hi
    omega
  · intro ⟨h0, h1⟩
    exact ⟨x.toNat, by rw [List.mem_range]; omega, by omega⟩
theorem nodup_map_cast : ∀ l : List Nat, l.Nodup → (l.map fun i => ((i : Nat) : Int)).Nodup
  | [], _ => List.nodup_nil
  | a :: l, h => by
    rw [List.nodup_cons] at h
    rw [List.map_cons, List.nodup_cons]
    refine ⟨fun z => ?_, nodup_map_cast l h.2⟩
    rw [List.mem_map] at z
    obtain ⟨b, hb, e⟩ := z
    have e2 : b = a := by omega
    subst e2
    exact h.1 hb
theorem upto_nodup (m : Int) : (upto m).Nodup := nodup_map_cast _ List.nodup_range
theorem lt_of_le_nodup {l : List Int} (h : l.Pairwise (· ≤ ·)) (n : l.Nodup) : l.Pairwise (· < ·) := by
  have h2 : l.Pairwise (fun x y => x ≤ y ∧ x ≠ y) := List.Pairwise.and h n
  exact h2.imp fun {a b} z => by omega
theorem erase_map {α β : Type} (f : α → β) : ∀ (l : List α) (i : Nat), (l.map f).eraseIdx i = (l.eraseIdx i).map f
  | [], _ => rfl
  | _ :: _, 0 => rfl
  | x :: l, i + 1 => by
    show f x :: (l.map f).eraseIdx i = f x :: (l.eraseIdx i).map f
    rw [erase_map f l i]
theorem erase_perm {α : Type} : ∀ (l : List α) (i : Nat) (h : i < l.length), (l[i] :: l.eraseIdx i).Perm l
  | [], _, h => absurd h (Nat.not_lt_zero _)
  | x :: l, 0, _ => List.Perm.refl _
  | x :: l, i + 1, h => by
    have ih := erase_perm l i (Nat.lt_of_succ_lt_succ h)
    show (l[i]'(Nat.lt_of_succ_lt_succ h) :: x :: l.eraseIdx i).Perm (x :: l)
    exact (List.Perm.swap x _ _).trans (List.Perm.cons x ih)
theorem seqIndex_nat {n : Nat} {i : Int} (h0 : 0 ≤ i) (h : i < n) : seqIndex? i n = some i.toNat := (ixN_seq (ixN_pos h0 h)).1
structure IsTool (m : Int) (tl : List (Int × Int)) : Prop where
  len1 : 1 ≤ tl.length
  len2 : tl.length ≤ 12
  rng : ∀ p ∈ tl, (0 ≤ p.1 ∧ p.1 < m) ∧ 0 ≤ p.2 ∧ p.2 < m
  asc : tl.Pairwise (fun x y => x.1 < y.1)
  ord : tl.Pairwise (fun x y => (x.2 - (tl.headD (0, 0)).2) % m < (y.2 - (tl.headD (0, 0)).2) % m)
  one : tl.length = 1 → ∀ p ∈ tl, p.1 = 0
/-- the pairs of a tool, each an object of its own -/
def PairsAt (H : Hp) (as : List Addr) (tl : List (Int × Int)) : Prop := Paired (fun p bt => H p = some (.tup [.int bt.1, .int bt.2])) as tl
def ToolAt (H : Hp) (a : Addr) (tl : List (Int × Int)) : Prop := ∃ (o : Obj) (as : List Addr), H a = some (.frz o (.tup (as.map V.ref))) ∧ o.dict = none ∧ PairsAt H as tl
/-- what is no list stays -/
def Stay (H H' : Hp) : Prop := ∀ b o, (∀ xs, o ≠ HO.lst xs) → H b = some o → H' b = some o
theorem Stay.refl (H : Hp) : Stay H H := fun _ _ _ h => h
theorem Stay.trans {H H1 H2 : Hp} (x : Stay H H1) (y : Stay H1 H2) : Stay H H2 := fun b o n h => y b o n (x b o n h)
theorem Stay.of_same {H H' : Hp} (h : Same H H') : Stay H H' := fun b o _ e => h b o e
theorem Keep.stay {a c : Addr} {H H' : Hp} {k : Int} (kp : Keep a c H H') (d : Deck H a c k) : Stay H H' := by
  intro b o n e
  obtain ⟨ns, j, h1, h2, h3, h4, h5, h6⟩ := d
  refine kp b o ?_ ?_ e
  · intro z
    subst z
    rw [h2] at e
    exact n _ (Option.some.inj e).symm
  · intro z
    subst z
    rw [h3] at e
    exact n _ (Option.some.inj e).symm
theorem PairsAt.stay {H H' : Hp} {as : List Addr} {tl : List (Int × Int)} (h : PairsAt H as tl) (s : Stay H H') : PairsAt H' as tl :=
  Paired.mono (fun _ _ e => s _ _ (by intro xs z; cases z) e) h
theorem ToolAt.stay {H H' : Hp} {a : Addr} {tl : List (Int × Int)} (h : ToolAt H a tl) (s : Stay H H') : ToolAt H' a tl := by
  obtain ⟨o, as, h1, h2, h3⟩ := h
  exact ⟨o, as, s _ _ (by intro xs z; cases z) h1, h2, h3.stay s⟩
/-- a step after which a tool may repeat -/
def Good (m d : Int) : Prop := 1 ≤ d ∧ d ≤ m ∧ m % d = 0 ∧ m / d < 13
theorem good_self {m : Int} (h : 1 ≤ m) : Good m m := ⟨h, Int.le_refl _, Int.emod_self, by rw [Int.ediv_self (by omega)]; decide⟩
theorem Good.mul {m d : Int} (g : Good m d) : m = d * (m / d) := by
  have h := Int.mul_ediv_add_emod m d
  rw [g.2.2.1, Int.add_zero] at h
  exact h.symm
theorem Good.many {m d n : Int} (g : Good m d) (h : 1 ≤ m) (hn : n ≤ 12 * d / m) : n * (m / d) ≤ 12 := by
  have h0 := g.1
  have h1 := g.mul
  have h2 : n * m ≤ 12 * d := (Int.le_ediv_iff_mul_le (by omega)).mp hn
  have h3 : d * (n * (m / d)) ≤ d * 12 := by
    have e : d * (n * (m / d)) = n * (d * (m / d)) := by rw [← Int.mul_assoc, Int.mul_comm d n, Int.mul_assoc]
    rw [e, ← h1]
    omega
  exact Int.le_of_mul_le_mul_left h3 (by omega)
theorem small60 : ∀ m < 61, ∀ d < 61, 1 ≤ d → Builtin.Range.small 0 ((m : Nat) : Int) ((d : Nat) : Int) = true := by decide +kernel
theorem size60 : ∀ m < 61, ∀ d < 61, 1 ≤ d → 1 ≤ m → m % d = 0 → Builtin.Range.rangeSize 0 ((m : Nat) : Int) ((d : Nat) : Int) = (((m / d : Nat)) : Int) := by decide +kernel
theorem Good.rgc {m d : Int} (g : Good m d) (h1 : 1 ≤ m) (h2 : m ≤ 60) : RgC 0 m d (m / d).toNat := by
  obtain ⟨g1, g2, g3, g4⟩ := g
  have em : m = ((m.toNat : Nat) : Int) := by omega
  have ed : d = ((d.toNat : Nat) : Int) := by omega
  have e3 : m.toNat % d.toNat = 0 := by
    have : ((m.toNat % d.toNat : Nat) : Int) = 0 := by rw [Int.natCast_emod, ← em, ← ed]; exact g3
    omega
  have e4 : (m / d).toNat = m.toNat / d.toNat := by
    have : ((m.toNat / d.toNat : Nat) : Int) = m / d := by rw [Int.natCast_ediv, ← em, ← ed]
    rw [← this]
    exact Int.toNat_natCast _
  refine ⟨by omega, by omega, ?_, ?_⟩
  · rw [em, ed]
    exact small60 _ (by omega) _ (by omega) (by omega)
  · rw [e4, em, ed, size60 _ (by omega) _ (by omega) (by omega) (by omega) e3]
    rfl
/-- the pairs before the shift -/
structure Raw (m d : Int) (bs ts : List Int) (i j : Nat) (raw : List (Int × Int)) : Prop where
  asc : raw.Pairwise (fun x y => x.1 < y.1 ∧ x.2 < y.2)
  low : ∀ x ∈ raw, 0 ≤ x.1 ∧ 0 ≤ x.2
  bnd : ∀ x ∈ raw, (x.1 < i * d ∧ x.2 < i * d) ∨ ∃ k b t, k < j ∧ bs[k]? = some b ∧ ts[k]? = some t ∧ x = (i * d + b, i * d + t)
theorem Raw.nil {m d : Int} {bs ts : List Int} : Raw m d bs ts 0 0 [] := ⟨.nil, fun x h => (List.not_mem_nil h).elim, fun x h => (List.not_mem_nil h).elim⟩
theorem pw_get {l : List Int} (h : l.Pairwise (· < ·)) {i j : Nat} {x y : Int} (hx : l[i]? = some x) (hy : l[j]? = some y) (hij : i < j) : x < y := by
  obtain ⟨hi, ei⟩ := List.getElem?_eq_some_iff.mp hx
  obtain ⟨hj, ej⟩ := List.getElem?_eq_some_iff.mp hy
  have := List.pairwise_iff_getElem.mp h i j hi hj hij
  omega
theorem Raw.next {m d : Int} {bs ts : List Int} {i j : Nat} {raw : List (Int × Int)} (r : Raw m d bs ts i j raw) (hb : ∀ x ∈ bs, 0 ≤ x ∧ x < d) (ht : ∀ x ∈ ts, 0 ≤ x ∧ x < d) (d0 : 0 ≤ d) :
    Raw m d bs ts (i + 1) 0 raw := by
  have e1 : ((i + 1 : Nat) : Int) * d = i * d + d := by
    rw [Int.natCast_add, Int.add_mul]
    omega
  refine ⟨r.asc, r.low, fun x hx => .inl ?_⟩
  rw [e1]
  rcases r.bnd x hx with ⟨h1, h2⟩ | ⟨k, b', t', hk, h1, h2, e⟩
  · omega
  · subst e
    have q1 := hb b' (List.mem_of_getElem? h1)
    have q2 := ht t' (List.mem_of_getElem? h2)
    exact ⟨by show i * d + b' < i * d + d; omega, by show i * d + t' < i * d + d; omega⟩
theorem sub_mod_shift (m s u v : Int) : ((u + s) % m - (v + s) % m) % m = (u - v) % m := by
  rw [Int.sub_emod, Int.emod_emod_of_dvd _ (Int.dvd_refl m), Int.emod_emod_of_dvd _ (Int.dvd_refl m), ← Int.sub_emod]
  congr 1
  omega
section
variable {K : PySem.W.Frag} {j : Nat} {tt : TT} {te : TE} {vs : List Nat} {σ : L2.St} {H1 : Hp} {D : Addr} {Qd : Hp → Prop}
theorem filter_range_succ {β : Type} (b : Nat → Bool) (f : Nat → β) (i : Nat) :
    ((List.range (i + 1)).filter b).map f = ((List.range i).filter b).map f ++ (if b i = true then [f i] else []) := by
  rw [List.range_succ, List.filter_append, List.map_append]
  congr 1
  by_cases h : b i = true
  · rw [if_pos h, List.filter_cons_of_pos h]
    rfl
  · rw [if_neg h, List.filter_cons_of_neg h]
    rfl
end
def tgtFrom (p : Int) : Int → List (Int × Int) → Int
  | f, [] => f
  | f, bt :: r => tgtFrom p (if bt.1 ≤ p then bt.2 else f) r
def tgt (tl : List (Int × Int)) (p : Int) : Int := tgtFrom p (tl.getLastD (0, 0)).2 tl
theorem tgtFrom_none (p : Int) : ∀ (l : List (Int × Int)) (f : Int), (∀ x ∈ l, ¬ x.1 ≤ p) → tgtFrom p f l = f
  | [], f, _ => rfl
  | x :: l, f, h => by
    unfold tgtFrom
    rw [if_neg (h x List.mem_cons_self)]
    exact tgtFrom_none p l f fun y hy => h y (List.mem_cons_of_mem _ hy)
theorem tgtFrom_congr {p p' : Int} : ∀ (l : List (Int × Int)) (f : Int), (∀ x ∈ l, (x.1 ≤ p ↔ x.1 ≤ p')) → tgtFrom p f l = tgtFrom p' f l
  | [], f, _ => rfl
  | x :: l, f, h => by
    unfold tgtFrom
    have e : (if x.1 ≤ p then x.2 else f) = (if x.1 ≤ p' then x.2 else f) := by
      by_cases z : x.1 ≤ p
      · rw [if_pos z, if_pos ((h x List.mem_cons_self).mp z)]
      · rw [if_neg z, if_neg fun q => z ((h x List.mem_cons_self).mpr q)]
    rw [e]
    exact tgtFrom_congr l _ fun y hy => h y (List.mem_cons_of_mem _ hy)
theorem tgtFrom_all (p : Int) : ∀ (l : List (Int × Int)) (f : Int) (hl : l ≠ []), (∀ x ∈ l, x.1 ≤ p) → tgtFrom p f l = (l.getLastD (0, 0)).2
  | [x], f, _, h => by
    unfold tgtFrom
    rw [if_pos (h x List.mem_cons_self)]
    rfl
  | x :: y :: l, f, _, h => by
    unfold tgtFrom
    rw [tgtFrom_all p (y :: l) _ (List.cons_ne_nil _ _) fun z hz => h z (List.mem_cons_of_mem _ hz)]
    rfl
theorem tgtFrom_hit {p t : Int} : ∀ (l : List (Int × Int)) (f : Int), l.Pairwise (fun x y => x.1 < y.1) → (p, t) ∈ l → tgtFrom p f l = t
  | x :: l, f, asc, h => by
    unfold tgtFrom
    have ac := List.pairwise_cons.mp asc
    rcases List.mem_cons.mp h with e | e
    · subst e
      rw [if_pos (show p ≤ p from Int.le_refl _)]
      exact tgtFrom_none p l t fun y hy => by have := ac.1 y hy; show ¬ y.1 ≤ p; omega
    · exact tgtFrom_hit l _ ac.2 e
theorem tgt_rng {m : Int} {tl : List (Int × Int)} (h : IsTool m tl) (p : Int) : 0 ≤ tgt tl p ∧ tgt tl p < m := by
  have hl : tl ≠ [] := fun e => by
    have := h.len1
    rw [e, List.length_nil] at this
    omega
  have key : ∀ (l : List (Int × Int)) (f : Int), (∀ x ∈ l, 0 ≤ x.2 ∧ x.2 < m) → 0 ≤ f ∧ f < m → 0 ≤ tgtFrom p f l ∧ tgtFrom p f l < m := by
    intro l
    induction l with
    | nil => exact fun f _ hf => hf
    | cons x l ih =>
      intro f hx hf
      unfold tgtFrom
      apply ih
      · exact fun y hy => hx y (List.mem_cons_of_mem _ hy)
      · split
        · exact hx x List.mem_cons_self
        · exact hf
  apply key
  · exact fun x hx => (h.rng x hx).2
  · have e : tl.getLastD (0, 0) = tl.getLast hl := by
      cases tl with
      | nil => exact absurd rfl hl
      | cons x l => exact List.getLastD_cons .. |>.trans (by rw [List.getLast_eq_getLastD])
    rw [e]
    exact (h.rng _ (List.getLast_mem hl)).2
theorem Paired.at {α β : Type} {F : α → β → Prop} : ∀ {l : List α} {r : List β}, Paired F l r → ∀ {i : Nat} {x : α}, l[i]? = some x → ∃ y, r[i]? = some y ∧ F x y
  | _, _, .nil, i, x, h => by simp at h
  | _, _, .cons h t, 0, x, e => by
    cases (Option.some.inj e)
    exact ⟨_, rfl, h⟩
  | _, _, .cons h t, i + 1, x, e => by
    obtain ⟨y, e1, e2⟩ := Paired.at t (i := i) (x := x) (by simpa using e)
    exact ⟨y, by simpa using e1, e2⟩
theorem PairsAt.get {H : Hp} {as : List Addr} {tl : List (Int × Int)} (h : PairsAt H as tl) {i : Nat} {v : V} (e : (as.map V.ref)[i]? = some v) :
    ∃ p bt, v = .ref p ∧ tl[i]? = some bt ∧ H p = some (.tup [.int bt.1, .int bt.2]) := by
  rw [List.getElem?_map] at e
  cases z : as[i]? with
  | none =>
    rw [z] at e
    cases e
  | some p =>
    rw [z] at e
    cases e
    obtain ⟨bt, e1, e2⟩ := Paired.at h z
    exact ⟨p, bt, rfl, e1, e2⟩
theorem atI_neg1 {α : Type} {xs : List α} {v : α} (h : xs[xs.length - 1]? = some v) : atI xs (-1) = some v := by
  have hp : 0 < xs.length := by
    have := (List.getElem?_eq_some_iff.mp h).1
    omega
  unfold atI ixN
  rw [if_neg (by decide), if_pos (by omega)]
  show xs[(-1 + (xs.length : Int)).toNat]? = some v
  have e : (-1 + (xs.length : Int)).toNat = xs.length - 1 := by omega
  rw [e]
  exact h
theorem back_lt {m p : Int} (h0 : 0 < p) (h1 : p < m) : (p - 1) % m = p - 1 := Int.emod_eq_of_lt (by omega) (by omega)
theorem back_zero {m : Int} (h : 1 ≤ m) : ((0 : Int) - 1) % m = m - 1 := by
  have e : (0 : Int) - 1 = (m - 1) + m * (-1) := by omega
  rw [e, Int.add_mul_emod_self_left]
  exact Int.emod_eq_of_lt (by omega) (by omega)
theorem tgt_back {m p : Int} {tl : List (Int × Int)} (h : IsTool m tl) (h0 : 0 ≤ p) (h1 : p < m) (nb : ∀ x ∈ tl, x.1 ≠ p) : tgt tl ((p - 1) % m) = tgt tl p := by
  have hl : tl ≠ [] := fun e => by
    have := h.len1
    rw [e, List.length_nil] at this
    omega
  by_cases hp : p = 0
  · subst hp
    rw [back_zero (by omega)]
    unfold tgt
    rw [tgtFrom_all _ tl _ hl fun x hx => by have := (h.rng x hx).1; omega, tgtFrom_none _ tl _ fun x hx => by
      have := (h.rng x hx).1
      have := nb x hx
      omega]
  · rw [back_lt (by omega) h1]
    unfold tgt
    exact tgtFrom_congr tl _ fun x hx => by
      have := nb x hx
      omega
structure Fine (d : PyData) (n e : Nat) : Prop where
  sh : d.showable = true
  nd : d.hasDict = false
  dp : d.depth ≤ e
  ln : d.shown.length ≤ n
theorem Fine.mono {d : PyData} {n n' e e' : Nat} (h : Fine d n e) (h1 : n ≤ n') (h2 : e ≤ e') : Fine d n' e' := ⟨h.sh, h.nd, Nat.le_trans h.dp h2, Nat.le_trans h.ln h1⟩
theorem fine_int {i : Int} (h : i.natAbs < 2 ^ 200) : Fine (.int i) 1921 0 := by
  have hl : i.natAbs.log2 < 1920 := by
    by_cases z : i.natAbs = 0
    · rw [z]
      decide
    · exact (Nat.log2_lt z).mpr (Nat.lt_trans h (Nat.pow_lt_pow_right (by decide) (by decide)))
  refine ⟨decide_eq_true hl, rfl, Nat.le_refl _, ?_⟩
  exact PyProof.Rows.int_text_len_1921 hl
theorem showableAll_of : ∀ {ds : List PyData}, (∀ d ∈ ds, d.showable = true) → PyData.showableAll ds = true
  | [], _ => rfl
  | d :: ds, h => by
    show (d.showable && PyData.showableAll ds) = true
    rw [h d List.mem_cons_self, showableAll_of fun x hx => h x (List.mem_cons_of_mem _ hx)]
    rfl
theorem hasDictAll_of : ∀ {ds : List PyData}, (∀ d ∈ ds, d.hasDict = false) → PyData.hasDictAll ds = false
  | [], _ => rfl
  | d :: ds, h => by
    show (d.hasDict || PyData.hasDictAll ds) = false
    rw [h d List.mem_cons_self, hasDictAll_of fun x hx => h x (List.mem_cons_of_mem _ hx)]
    rfl
theorem depthAll_of {e : Nat} : ∀ {ds : List PyData}, (∀ d ∈ ds, d.depth ≤ e) → PyData.depthAll ds ≤ e
  | [], _ => Nat.zero_le _
  | d :: ds, h => by
    show max d.depth (PyData.depthAll ds) ≤ e
    exact Nat.max_le.mpr ⟨h d List.mem_cons_self, depthAll_of fun x hx => h x (List.mem_cons_of_mem _ hx)⟩
theorem piled_of {n : Nat} : ∀ {ds : List PyData}, (∀ d ∈ ds, d.shown.length ≤ n) → piled (PyData.shownAll ds) ≤ ds.length * (n + 2)
  | [], _ => Nat.zero_le _
  | d :: ds, h => by
    show piled (d.shown :: PyData.shownAll ds) ≤ _
    rw [piled_cons, List.length_cons, Nat.add_mul, Nat.one_mul, Nat.add_comm]
    exact Nat.add_le_add (piled_of fun x hx => h x (List.mem_cons_of_mem _ hx)) (Nat.add_le_add_right (h d List.mem_cons_self) 2)
theorem listText_le : ∀ ts : List Str, (listText ts).length ≤ piled ts + 2
  | [] => by decide +kernel
  | t :: r => by
    have e : listText (t :: r) = textFrom 1 (("[" : Str) ++ ((if 0 > 0 then ", " else "" : String) : Str) ++ t) r ++ ("]" : Str) := rfl
    rw [e, strLen_append, textFrom_length_pos _ _ _ (by decide), strLen_append, strLen_append, piled_cons]
    have e1 : ("[" : Str).length = 1 := rfl
    have e2 : (((if 0 > 0 then ", " else "" : String)) : Str).length = 0 := rfl
    have e3 : ("]" : Str).length = 1 := rfl
    omega
theorem tupleText_le : ∀ ts : List Str, (tupleText ts).length ≤ piled ts + 3
  | [] => by decide +kernel
  | t :: r => by
    have j := join_length_add (t :: r) (List.cons_ne_nil _ _)
    have e : tupleText (t :: r) = ("(" : Str) ++ Str.join ", " (t :: r) ++ ((if (t :: r).length == 1 then ",)" else ")" : String) : Str) := rfl
    rw [e, strLen_append, strLen_append]
    have e1 : ("(" : Str).length = 1 := rfl
    have e2 : (((if (t :: r).length == 1 then ",)" else ")" : String)) : Str).length ≤ 2 := by
      split
      · exact Nat.le_refl _
      · exact Nat.le_succ _
    omega
theorem fine_tuple {ds : List PyData} {n e : Nat} (h : ∀ d ∈ ds, Fine d n e) : Fine (.tuple ds) (ds.length * (n + 2) + 3) (e + 1) := by
  refine ⟨showableAll_of fun d hd => (h d hd).sh, hasDictAll_of fun d hd => (h d hd).nd, Nat.succ_le_succ (depthAll_of fun d hd => (h d hd).dp), ?_⟩
  exact Nat.le_trans (tupleText_le _) (Nat.add_le_add_right (piled_of fun d hd => (h d hd).ln) 3)
/-- data that repr takes -/
def Shows (d : PyData) : Prop := Fine d 16000000 60
theorem Shows.le {d : PyData} (h : Shows d) : d.shown.length ≤ sizeLine := Nat.le_trans h.ln (by decide)
theorem small_int {i : Int} (h : i.natAbs < 10 ^ 40) : i.natAbs < 2 ^ 200 := Nat.lt_of_lt_of_le h (by decide)
def pairD (p : Int × Int) : PyData := .tuple [.int p.1, .int p.2]
def toolD (tl : List (Int × Int)) : PyData := .tuple (tl.map pairD)
theorem dp_pairs {K : PySem.W.Frag} {H : Hp} : ∀ {as : List Addr} {tl : List (Int × Int)}, PairsAt H as tl → DpAll K H (as.map V.ref) (tl.map pairD)
  | _, _, .nil => .nil
  | _, _, .cons h t => .cons (.tup (SqT.of h) (.cons (.int _) (.cons (.int _) .nil))) (dp_pairs t)
theorem ToolAt.dp {K : PySem.W.Frag} {H : Hp} {a : Addr} {tl : List (Int × Int)} (h : ToolAt H a tl) : Dp K H (.ref a) (toolD tl) := by
  obtain ⟨o, as, h1, h2, h3⟩ := h
  exact .tup (.inl (.inr ⟨o, h1⟩)) (dp_pairs h3)
theorem mod_of_eq {m x y q : Int} (h : x = y + m * q) : x % m = y % m := by
  rw [h, Int.add_mul_emod_self_left]
theorem mod_split (x m : Int) : x % m = x + m * (-(x / m)) := by
  have h := Int.mul_ediv_add_emod x m
  rw [Int.mul_neg]
  omega
theorem add_mod' (a b m : Int) : (a + b % m) % m = (a + b) % m := by
  apply mod_of_eq (q := -(b / m))
  rw [mod_split b m]
  omega
theorem mod_sub' (a b m : Int) : (a % m - b) % m = (a - b) % m := by
  apply mod_of_eq (q := -(a / m))
  rw [mod_split a m]
  omega
theorem sub_mod' (a b m : Int) : (a - b % m) % m = (a - b) % m := by
  apply mod_of_eq (q := (b / m))
  rw [mod_split b m, Int.mul_neg]
  omega
theorem stay_list {H : Hp} {D : Addr} {us ws : List V} (h : H D = some (.lst us)) : Stay H (upd H D (.lst ws)) := by
  intro b o n e
  have : b ≠ D := by
    intro z
    subst z
    rw [h] at e
    exact n _ (Option.some.inj e).symm
  rw [upd_ne this]
  exact e
def tupD (ns : List Int) : PyData := .tuple (ns.map PyData.int)
theorem tupD_fine {ns : List Int} (hl : ns.length ≤ 2000) (h : ∀ n ∈ ns, n.natAbs < 2 ^ 200) : Fine (tupD ns) 3900000 1 := by
  have f : Fine (tupD ns) ((ns.map PyData.int).length * (1921 + 2) + 3) (0 + 1) := fine_tuple fun d hd => by
    rw [List.mem_map] at hd
    obtain ⟨n, hn, e⟩ := hd
    subst e
    exact fine_int (h n hn)
  rw [List.length_map] at f
  exact f.mono (by omega) (by decide)
def inArc (m b l p : Int) : Bool := decide ((p - b) % m < l)
def brought (m : Int) (tl : List (Int × Int)) (b l : Int) : List Int := (upto m).filter fun x => inArc m b l (tgt tl x)
theorem inV_ints (x : Int) : ∀ ns : List Int, inV (.int x) (ns.map V.int) = true ↔ x ∈ ns
  | [] => ⟨fun h => (by cases h), fun h => (List.not_mem_nil h).elim⟩
  | n :: r => by
    have ih := inV_ints x r
    have e : inV (.int x) ((n :: r).map V.int) = ((n == x) || inV (.int x) (r.map V.int)) := rfl
    rw [e, Bool.or_eq_true, ih, List.mem_cons, beq_iff_eq]
    constructor
    · rintro (h | h)
      · exact .inl h.symm
      · exact .inr h
    · rintro (h | h)
      · exact .inl h.symm
      · exact .inr h
theorem flat_ints : ∀ ns : List Int, (ns.map V.int).all flatV = true
  | [] => rfl
  | n :: r => flat_ints r
theorem brought_len (m : Int) (tl : List (Int × Int)) (b l : Int) : (brought m tl b l).length ≤ m.toNat := by
  unfold brought
  exact Nat.le_trans (List.length_filter_le _ _) (by rw [upto_len]; exact Nat.le_refl _)
section
variable {X : Cx}
/-- what a set comprehension of numbers asks: D the new set -/
def tScI (w : World) (wi : TI) (g : TG) (tt : TT) (te : TE) (vs : List Nat) : TE := fun σ H Q =>
  wi σ H fun J H1 => ∀ D, H1 D = none →
    ∃ W : Nat → Nat → Hp → Prop, (∃ m, W 0 m (upd H1 D (SetO w D (fun _ => false) 0))) ∧
      ∀ i m H, W i m H → (J.stop i H ∧ Q (.ref D) H) ∨ (J.go i H ∧ ∃ Nx : Hp → Prop,
        (∀ H', Nx H' → ∃ m', m' < m ∧ W (i + 1) m' H') ∧
        ∀ x H', J.yld i H x H' → g x (wipe σ vs) H' fun σ2 H2 => wipe σ2 vs = wipe σ vs ∧
          tt σ2 H2 fun b H3 => if b = true then te σ2 H3 fun y H4 => ∃ (c : Int) (S : Int → Bool) (n : Nat),
            y = .int c ∧ H4 D = some (SetO w D S n) ∧ n + 1 < scanBound ∧
            Nx (upd H4 D (SetO w D (fun j => S j || decide (j = c)) (if S c = true then n else n + 1))) else Nx H3)
end
section
variable {X : Cx}
def rSetL (K : PySem.W.Frag) (w : World) : List V → Hp → VK → Prop := fun xs H Q => ∃ (p : Addr) (ns : List Int), xs = [.ref p] ∧ SqL K H p (ns.map V.int) ∧ ns.length ≤ 1000 ∧
  ∀ (a : Addr) (c : Nat), H a = none → c ≤ ns.length → Q (.ref a) (upd H a (SetO w a (fun j => decide (j ∈ ns)) c))
end
def cntN (P : Int → Bool) (lo : Int) : Nat → Nat
  | 0 => 0
  | n + 1 => cntN P lo n + (if P (lo + (n : Nat)) = true then 1 else 0)
theorem cntN_congr {P P' : Int → Bool} {lo : Int} : ∀ n : Nat, (∀ x, lo ≤ x → x < lo + (n : Nat) → P x = P' x) → cntN P lo n = cntN P' lo n
  | 0, _ => rfl
  | n + 1, h => by
    show cntN P lo n + _ = cntN P' lo n + _
    rw [cntN_congr n fun x h1 h2 => h x h1 (by omega), h (lo + (n : Nat)) (by omega) (by omega)]
theorem cntN_const {lo : Int} (c : Bool) : ∀ n : Nat, cntN (fun _ => c) lo n = if c = true then n else 0
  | 0 => by cases c <;> rfl
  | n + 1 => by
    show cntN (fun _ => c) lo n + _ = _
    rw [cntN_const c n]
    cases c <;> simp
theorem cnt_upto (P : Int → Bool) (m : Int) : ((upto m).filter P).length = cntN P 0 m.toNat := by
  unfold upto
  generalize m.toNat = n
  induction n with
  | zero => rfl
  | succ n ih =>
    show _ = cntN P 0 n + (if P (0 + (n : Nat)) = true then 1 else 0)
    rw [List.range_succ, List.map_append, List.filter_append, List.length_append, ih, Int.zero_add]
    show _ + ([((n : Nat) : Int)].filter P).length = _
    by_cases h : P ((n : Nat) : Int) = true
    · rw [if_pos h, List.filter_cons_of_pos h]
      rfl
    · rw [if_neg h, List.filter_cons_of_neg h]
      rfl
def stepsOf (m : Int) (bs : List Int) : List Int := (bs.zip (bs.drop 1 ++ [bs.headD 0 + m])).map fun p => p.2 - p.1
def cnt (m : Int) (tl : List (Int × Int)) (b l : Int) : Int := ((brought m tl b l).length : Int)
structure IsWidth (m : Int) (tls : List (List (Int × Int))) (l v : Int) : Prop where
  got : ∃ tl ∈ tls, ∃ b, 0 ≤ b ∧ b < m ∧ cnt m tl b l = v
  all : ∀ tl ∈ tls, ∀ b, 0 ≤ b → b < m → cnt m tl b l ≤ v
theorem IsWidth.uniq {m : Int} {tls : List (List (Int × Int))} {l v v' : Int} (h : IsWidth m tls l v) (h' : IsWidth m tls l v') : v = v' := by
  obtain ⟨tl, ht, b, b0, b1, e⟩ := h.got
  obtain ⟨tl', ht', b', b0', b1', e'⟩ := h'.got
  have q := h'.all tl ht b b0 b1
  have q' := h.all tl' ht' b' b0' b1'
  omega
def ToolsAt (H : Hp) (a : Addr) (tls : List (List (Int × Int))) : Prop := ∃ as : List Addr, H a = some (.tup (as.map V.ref)) ∧ Paired (fun p tl => ToolAt H p tl) as tls
theorem ToolsAt.stay {H H' : Hp} {a : Addr} {tls : List (List (Int × Int))} (h : ToolsAt H a tls) (s : Stay H H') : ToolsAt H' a tls := by
  obtain ⟨as, h1, h2⟩ := h
  exact ⟨as, s _ _ (by intro xs z; cases z) h1, Paired.mono (fun _ _ e => e.stay s) h2⟩
theorem ToolsAt.get {K : PySem.W.Frag} {H : Hp} {as : List Addr} {tls : List (List (Int × Int))} (h : Paired (fun p tl => ToolAt H p tl) as tls) {i : Nat} {v : V} (e : (as.map V.ref)[i]? = some v) :
    ∃ p tl, v = .ref p ∧ tls[i]? = some tl ∧ ToolAt H p tl := by
  rw [List.getElem?_map] at e
  cases z : as[i]? with
  | none =>
    rw [z] at e
    cases e
  | some p =>
    rw [z] at e
    cases e
    obtain ⟨tl, e1, e2⟩ := Paired.at h z
    exact ⟨p, tl, rfl, e1, e2⟩
def toolsD (tls : List (List (Int × Int))) : PyData := .tuple (tls.map toolD)
theorem ToolsAt.dp {K : PySem.W.Frag} {H : Hp} {a : Addr} {tls : List (List (Int × Int))} (h : ToolsAt H a tls) : Dp K H (.ref a) (toolsD tls) := by
  obtain ⟨as, h1, h2⟩ := h
  refine .tup (SqT.of h1) ?_
  have key : ∀ {as : List Addr} {tls : List (List (Int × Int))}, Paired (fun p tl => ToolAt H p tl) as tls → DpAll K H (as.map V.ref) (tls.map toolD) := by
    intro as tls h
    induction h with
    | nil => exact .nil
    | cons h _ ih => exact .cons h.dp ih
  exact key h2
theorem cnt_le {m : Int} {tl : List (Int × Int)} {b l : Int} (hm : 0 ≤ m) : cnt m tl b l ≤ m := by
  unfold cnt
  have := brought_len m tl b l
  omega
theorem IsWidth.rng {m : Int} {tls : List (List (Int × Int))} {l v : Int} (h : IsWidth m tls l v) (hm : 0 ≤ m) : 0 ≤ v ∧ v ≤ m := by
  obtain ⟨tl, _, b, _, _, e⟩ := h.got
  have := cnt_le (tl := tl) (b := b) (l := l) hm
  have : 0 ≤ cnt m tl b l := Int.natCast_nonneg _
  omega
abbrev en1 (h : Heap) (l : Addr) : Heap := h.push { cls := .type "tuple_iterator", data := .fields #[.ref l, .int 0 0] }
abbrev enO (i : Addr) : Obj := { cls := .type "enumerate", data := .fields #[.none, .bool false, .ref i, rawInt 0, .none, .none] }
abbrev en2 (h : Heap) (l : Addr) : Heap := (en1 h l).push (enO h.objs.size)
theorem en_new (l : Addr) (xs : Array Value) : Meets (Builtin.«enumerate.__new__» ⟨[.type "enumerate", .ref l], []⟩) (fun _ R s =>
    s.heap.IsTuple l xs ∧ R (.ok (.ret (.ref (en1 s.heap l).objs.size))) { s with heap := en2 s.heap l }) := by
  refine .of_wp fun prog w A R s h => ?_
  obtain ⟨hp, g, d, tk, os⟩ := s
  obtain ⟨⟨⟨cl, di, da, sl⟩, ob, hc, k, hd⟩, h⟩ := h
  simp only at hc hd
  subst hc
  subst hd
  have onL : Heap.IsTuple (Shared.heap ⟨hp, g, d, tk, os⟩) l xs := ⟨_, ob, rfl, k, rfl⟩
  have hsub := sub_enumerate
  wp_walk using AutoSeq1.wpAny_loadPart' ob
  refine wpAny_stack_any fun st => wpAny_pure ?_
  split
  · rename_i c _ _ _ _ _
    cases (c == Value.type "enumerate")
    all_goals (wp_walk using AutoSeq1.wpAny_loadPart' ob, wpAny_pyIter_tuple onL; exact ⟨_, rfl, h⟩)
  · wp_walk using AutoSeq1.wpAny_loadPart' ob, wpAny_pyIter_tuple onL
    exact ⟨_, rfl, h⟩
section
variable {prog : Program} {w : World} {A : Around} {E : Value → Shared → Prop} {s : Shared}
theorem en_call {l : Addr} {xs : Array Value} {Q : Value → Shared → Prop} (hl : s.heap.IsTuple l xs)
    (h : ∀ h', IsEnum h' (s.heap.objs.size + 1) s.heap.objs.size 0 .none → h'.IsTupleIter s.heap.objs.size l 0 →
      (∀ c o, s.heap.get? c = some o → h'.get? c = some o) → Q (.ref (s.heap.objs.size + 1)) { s with heap := h' }) :
    wpAny (model prog w) A (call (.type "enumerate") [.ref l]) Q E s := by
  apply callType_new F.called_enumerate (by decide) (F.typeCall_enumerate_1 _) (F.newCall_enumerate_1 _)
    (fun obj => F.args_object_init_2 obj _) F.entry_enumerate_new (en_new l xs)
  refine ⟨hl, ?_⟩
  have q1 : (en1 s.heap l).objs.size = s.heap.objs.size + 1 := Heap.size_push ..
  have up : ∀ {h : Heap} {o : Obj} {c : Addr} {u : Obj}, h.get? c = some u → (h.push o).get? c = some u := fun e => Heap.get?_push_of_some _ e
  have e2 : (en2 s.heap l).get? (en1 s.heap l).objs.size = some (enO s.heap.objs.size) := Heap.get?_push_size _ rfl
  have e1 : (en2 s.heap l).get? s.heap.objs.size = some _ := up (Heap.get?_push_size _ rfl)
  show _ ∧ _
  rw [q1] at e2
  rw [q1]
  exact ⟨⟨_, e2, rfl⟩, h _ e2 ⟨_, e1, rfl, rfl⟩ fun c o x => up (up x)⟩
end
/-- the tuple at a, each item in a new pair with its number -/
def Iet (K : PySem.W.Frag) (a : Addr) : It where
  go i H := ∃ (xs : List V) (x : V), SqT K H a xs ∧ xs[i]? = some x
  yld i H v H' := ∃ T x, v = .ref T ∧ H T = none ∧ H' = upd H T (.tup [.int (i : Nat), x]) ∧ ∀ xs, SqT K H a xs → xs[i]? = some x
  stop i H := ∃ xs : List V, SqT K H a xs ∧ xs.length = i
theorem en_turn {P : Program} {w : World} {K : PySem.W.Frag} {elts : List Expr} {kk : Nat} {tpos : Pos} {a e it : Addr} (ai : a ≠ it) (ae : a ≠ e) (ne : e ≠ it) :
    Turn P w K (.Tuple elts kk tpos) (Iet K a) [e, it] e (fun i h => (∃ old, IsEnum h e it ((i : Nat) : Int) old) ∧ h.IsTupleIter it a i) := by
  have two : ∀ {c : Addr}, c ∈ [e, it] → c = e ∨ c = it := fun h => by simpa using h
  have hef : e ∉ [it, a] := by
    simp only [List.mem_cons, List.not_mem_nil, or_false, not_or]
    exact ⟨ne, Ne.symm ae⟩
  constructor
  · exact List.mem_cons_self
  · intro i h st c hc
    obtain ⟨⟨old, he⟩, ⟨o1, e1, _, d1⟩⟩ := st
    rcases two hc with q | q
    · subst q
      exact ⟨_, he, fun v q => nomatch q⟩
    · subst q
      exact ⟨o1, e1, fun v q => by rw [d1] at q; cases q⟩
  · intro i h h' st k
    obtain ⟨⟨old, he⟩, h1⟩ := st
    exact ⟨⟨old, k e (by simp) _ he⟩, h1.at fun o q => k it (by simp) o q⟩
  · intro X hP hw hK hc i pins s σ H E I hf st hg
    subst hP
    subst hw
    subst hK
    obtain ⟨⟨old, he⟩, h1⟩ := st
    obtain ⟨xs, x, qx, gx⟩ := hg
    obtain ⟨us, rx, px, _⟩ := I.tuple qx
    obtain ⟨u, gu, ru⟩ := rx.get gx
    have lu := (List.getElem?_eq_some_iff.mp gu).1
    have elt : e < s.heap.objs.size := Heap.lt_size he
    have calm : X.A.in1.handled = none := I.ok.hd hc
    have D1 := Draws.tuple (prog := X.prog) (w := X.w) calm it a ai us.toArray
    refine wpAny_pyNext_enum_itemD D1 he ⟨h1, px⟩ (by simpa using lu) ne hef fun u' h' tk eu eo st' hT _ keep => ?_
    have eu' : u' = u := by
      have z := eu.symm.trans (show us.toArray[i]? = some u by simpa using gu)
      exact Option.some.inj z
    subst eu'
    refine ⟨_, rfl, wpAny_letOwnedTupleGo_enum (s := { s with heap := h', toks := tk + 1 }) eo fun h'' e'' sb => ?_⟩
    have hT2 : h''.get? s.heap.objs.size = some { cls := .type "tuple", data := .seq #[.int i tk, u'] } := (sb.2 _ (Nat.ne_of_gt elt)).trans hT
    have fresh : ObjOk X.prog X.w (upd H s.heap.objs.size (.tup [.int (i : Nat), x])) h'' s.heap.objs.size (.tup [.int (i : Nat), x]) := by
      refine ⟨by show 2 ≤ sizeLine; decide, [.int i tk, u'], .cons ⟨_, rfl⟩ (.cons ru .nil), ⟨_, hT2, rfl, _, rfl⟩⟩
    have J : L2.Inv X pins σ (upd H s.heap.objs.size (.tup [.int (i : Nat), x])) { s with heap := h'', toks := tk + 1 } := by
      refine I.turnedNew (t' := tk + 1) (ch := [e, it]) (fun c o nc q => ?_) hf (Nat.le_refl _) fresh
      have n1 : c ≠ e := fun z => nc (by simp [z])
      have n2 : c ≠ it := fun z => nc (by simp [z])
      exact (sb.2 c n1).trans (keep c o n1 n2 q)
    refine ⟨.ref s.heap.objs.size, _, J, rfl, ⟨_, x, rfl, I.hok.fresh (Nat.le_refl _), rfl, fun l hl => ?_⟩, ⟨⟨u', ?_⟩, ?_⟩, fun c hcm => ?_⟩
    · rw [I.tuple_inj hl qx]
      exact gx
    · rw [show ((i + 1 : Nat) : Int) = (i : Int) + 1 by omega]
      exact e''
    · exact st'.1.at fun o q => (sb.2 _ (Ne.symm ne)).trans q
    · have lt : c < s.heap.objs.size := by
        rcases two hcm with q | q
        · subst q
          exact elt
        · subst q
          obtain ⟨_, e1, _⟩ := h1
          exact Heap.lt_size e1
      rw [upd_ne (Nat.ne_of_lt lt)]
      exact (hf c hcm).1
  · intro X hP hw hK hc i pins s σ H E I hf st hg
    subst hP
    subst hw
    subst hK
    obtain ⟨⟨old, he⟩, h1⟩ := st
    obtain ⟨xs, qx, hix⟩ := hg
    obtain ⟨us, rx, px, _⟩ := I.tuple qx
    have l1 := rx.length
    have calm : X.A.in1.handled = none := I.ok.hd hc
    have D1 := Draws.tuple (prog := X.prog) (w := X.w) calm it a ai us.toArray
    refine wpAny_pyNext_enum_endD D1 he ⟨by rw [List.size_toArray, ← l1, hix]; exact h1, px⟩ fun h' eb => ⟨rfl, ?_⟩
    refine I.turnedL (t' := s.toks) (ch := [e, it]) (fun c o nc q => eb c o (fun z => nc (by simp [z])) q) hf
  · intro A i s Q E st h
    obtain ⟨⟨old, he⟩, _⟩ := st
    exact wpAny_pyIter_enum he h
def iEnT (K : PySem.W.Frag) (ta : TA) : TI := fun σ H R => ta σ H fun vs H1 => ∃ a xs, vs = [.ref a] ∧ SqT K H1 a xs ∧ R (Iet K a) H1
theorem pi_enT {X : Cx} {e : Expr} {ta : TA} {p pos tpos : Pos} {elts : List Expr} {kk : Nat} (hg : Gl X "enumerate") (hm : X.mg "enumerate" = none)
    (ha : PA X [e] ta) (hs : starEach [e] X.env = [(false, eval e X.env)] := by rfl) :
    PI X (.Tuple elts kk tpos) (.Call (.Name "enumerate" p) [e] [] pos) (iEnT X.K ta) := by
  constructor
  intro pins s σ H R I h
  refine Call_ (ld_blt I hg hm boot_enumerate (PyProof.Rows.callWith_type1 (thn (ha.run pos pins s σ H _ I h) fun us s1 ⟨vs, H1, I1, r1, q1⟩ => ?_) hs rfl))
  obtain ⟨a, xs, ex, qx, q⟩ := q1
  subst ex
  obtain ⟨u, eu, ra⟩ := vals1 r1
  subst eu
  cases ra
  obtain ⟨as_, rx, px, _⟩ := I1.tuple qx
  obtain ⟨oa, hoa, _⟩ := id px
  have alt : a < s1.heap.objs.size := Heap.lt_size hoa
  refine en_call (show s1.heap.IsTuple a as_.toArray from px) fun h' he h1 hk => wpAny_pyIter_enum he ?_
  refine ⟨s1.heap.objs.size + 1, [s1.heap.objs.size + 1, s1.heap.objs.size], _, _, H1, rfl, I1.kept (t' := s1.toks) hk,
    en_turn (Nat.ne_of_lt alt) (Nat.ne_of_lt (Nat.lt_succ_of_lt alt)) (Nat.succ_ne_self _), ⟨⟨_, he⟩, h1⟩, fun c hcm => ?_, q⟩
  have le : s1.heap.objs.size ≤ c := by
    have e' : c = s1.heap.objs.size + 1 ∨ c = s1.heap.objs.size := by simpa using hcm
    rcases e' with z | z
    all_goals (rw [z]; first | exact Nat.le_refl _ | exact Nat.le_add_right _ _)
  exact I1.fpOk le (I1.hok.fresh le)
theorem filterMap_same {α β : Type} {f g : α → Option β} : ∀ {l : List α}, (∀ x ∈ l, f x = g x) → l.filterMap f = l.filterMap g
  | [], _ => rfl
  | x :: l, h => by
    rw [List.filterMap_cons, List.filterMap_cons, h x List.mem_cons_self, filterMap_same fun y hy => h y (List.mem_cons_of_mem _ hy)]
theorem pick_back (us : List Value) : ((List.range us.length).filterMap fun (k : Nat) => us.toArray[(((us.length : Nat) : Int) - 1 + (k : Int) * (-1)).toNat]?) = us.reverse := by
  have e1 : ((List.range us.length).filterMap fun (k : Nat) => us.toArray[(((us.length : Nat) : Int) - 1 + (k : Int) * (-1)).toNat]?) =
      (List.range us.length).filterMap fun (m : Nat) => us.reverse.toArray[(((0 : Nat) : Int) + (m : Int) * 1).toNat]? := by
    apply filterMap_same
    intro k hk
    have hk := List.mem_range.mp hk
    rw [show (((us.length : Nat) : Int) - 1 + (k : Int) * (-1)).toNat = us.length - 1 - k by omega, show (((0 : Nat) : Int) + (k : Int) * 1).toNat = k by omega]
    rw [List.getElem?_toArray, List.getElem?_toArray, List.getElem?_reverse hk]
  have e2 := congrArg Array.toList (HT.pick_gen us.reverse.toArray 0 us.length)
  rw [List.toList_toArray] at e2
  rw [e1, e2, List.toList_toArray, List.toList_toArray, List.drop_zero]
  exact List.take_of_length_le (by rw [List.length_reverse]; exact Nat.le_refl _)
section
variable {prog : Program} {w : World} {A : Around} {E : Value → Shared → Prop} {s : Shared}
theorem places_back (n : Nat) : Builtin.Slice.slicePlaces ((n : Int) - 1) (-1) (-1) = n := by
  unfold Builtin.Slice.slicePlaces
  have h1 : ¬ (-1 : Int) > 0 := by omega
  simp only [h1, if_false]
  split
  · rw [show -(-1 : Int) = 1 by omega, Int.ediv_one]
    omega
  · omega
theorem applied_back {sl : Addr} {vl vu vs : Value} {n : Nat} {Q : Int × Int × Nat → Shared → Prop} (hs : s.heap.IsSliceOf sl vl vu vs) (pl : IsPart vl none) (pu : IsPart vu none) (ps : IsPart vs (some (-1)))
    (h : Q ((n : Int) - 1, -1, n) s) : wpAny (model prog w) A (Builtin.Slice.sliceApplied (.ref sl) (pure (n : Int))) Q E s := by
  obtain ⟨os, hos, hcs, hds⟩ := id hs
  unfold Builtin.Slice.sliceApplied Builtin.Slice.sliceFields
  refine wpAny_bind (wpAny_bind (wpAny_field hos hds (x := vl) rfl ?_))
  refine wpAny_bind (wpAny_field hos hds (x := vu) rfl ?_)
  refine wpAny_bind (wpAny_field hos hds (x := vs) rfl (wpAny_pure ?_))
  refine wpAny_bind (HT.slicePart_ ps ?_)
  show wpAny _ _ (if ((-1 : Int) == 0) = true then _ else _) _ _ s
  rw [if_neg (by decide)]
  refine wpAny_bind (HT.slicePart_ pl ?_)
  refine wpAny_bind (HT.slicePart_ pu ?_)
  refine wpAny_bind (wpAny_pure ?_)
  show wpAny _ _ (pure ((n : Int) - 1, (-1 : Int), Builtin.Slice.slicePlaces ((n : Int) - 1) (-1) (-1))) _ _ s
  rw [places_back]
  exact wpAny_pure h
theorem item_back {t sl : Addr} {us : List Value} {vl vu vs : Value} {Q : Value → Shared → Prop} (ht : IsTup s.heap t us.toArray) (hs : s.heap.IsSliceOf sl vl vu vs) (pl : IsPart vl none) (pu : IsPart vu none) (ps : IsPart vs (some (-1)))
    (h : Q (.ref s.heap.objs.size) { s with heap := s.heap.push { cls := .type "tuple", data := .seq us.reverse.toArray } }) (le : us.length ≤ sizeLine) : wpAny (model prog w) A (getItem (.ref t) (.ref sl)) Q E s := by
  obtain ⟨os, hos, hcs, hds⟩ := id hs
  have ty : s.TypeIs (.ref sl) "slice" := ⟨os, hos, hcs⟩
  have ok : sizeOk (.seq us.reverse.toArray) := by
    show us.reverse.toArray.size ≤ sizeLine
    rw [List.size_toArray, List.length_reverse]
    exact le
  unfold getItem
  try with_reducible refine wpAny_holding ?_
  first | refine wpAny_bind (wpAny_pure ?_) | skip
  refine wpAny_bind (wpAny_sequenceKey ht.typeIs (by decide) ?_)
  refine wpAny_bind (wpAny_callSpecial?_slot (name := Str.ofString "__getitem__") ht.typeIs slot_tuple_getitem ?_)
  refine wpAny_call_entry slot_tuple_getitem ht.typeIs entry_tuple_getitem ?_ (args_tuple_getitem _ _)
  show wpAny _ _ (Builtin.Tuple.tupleItemsOf (.ref t) >>= _) _ _ s
  refine wpAny_bind (tupleItemsOf_ ht (wpAny_bind (wpAny_typeOf ty ?_)))
  rw [if_pos (by decide)]
  refine wpAny_bind (applied_back hs pl pu ps ?_)
  have no : ¬ ((((us.toArray.size : Nat) : Int) - 1 == 0 && (-1 : Int) == 1 && us.toArray.size == us.toArray.size) = true) := by
    rw [show ((-1 : Int) == 1) = false from rfl, Bool.and_false, Bool.false_and]
    exact Bool.false_ne_true
  show wpAny _ _ (if ((((us.toArray.size : Nat) : Int) - 1 == 0 && (-1 : Int) == 1 && us.toArray.size == us.toArray.size) = true) then _ else _) _ _ s
  rw [if_neg no, List.size_toArray, pick_back]
  first
    | exact wpAny_bind (m := Builtin.Tuple.tupleExact _) (wpAny_newObj_type (wpAny_pure ⟨_, rfl, wpAny_pure h⟩) ok)
    | exact wpAny_bind (wpAny_bind (m := Builtin.Tuple.tupleExact _) (wpAny_newObj_type (wpAny_pure (wpAny_pure ⟨_, rfl, wpAny_pure h⟩)) ok))
    | exact wpAny_bind (wpAny_bind (m := Builtin.Tuple.tupleExact _) (wpAny_newObj_type (wpAny_pure ⟨_, rfl, wpAny_pure h⟩) ok))
end
def tRevT (K : PySem.W.Frag) (te : TE) : TE := fun σ H Q => te σ H fun x H1 => ∃ a xs, x = .ref a ∧ SqT K H1 a xs ∧ ∀ p, H1 p = none → Q (.ref p) (upd H1 p (.tup xs.reverse))
theorem pe_revT {X : Cx} {e : Expr} {te : TE} {k : Nat} {p1 p2 p3 pos : Pos} (he : PE X e te) : PE X (.Subscript e (.Slice none none (some (.UnaryOp .USub (.Constant (.int 1) k p1) p2)) p3) pos) (tRevT X.K te) := by
  constructor
  intro pins s σ H Q I h
  refine Subscript_ (thn (he.run pins s σ H _ I h) fun v s1 ⟨x, H1, I1, r1, a, xs, ex, hx, q⟩ => ?_)
  subst ex
  cases r1
  have st : PO X (some (.UnaryOp .USub (.Constant (.int 1) k p1) p2)) (tPart (tUn (rU fun i => .int (-i)) (tC (.int 1)))) := po_some (pe_un un_neg pe_int)
  refine wpAny_Slice ?_
  refine thn (po_none.run pins s1 σ H1 (fun o G => o = none ∧ G = H1) I1 ⟨rfl, rfl⟩) fun vl s2 ⟨o2, G2, I2, pl, e2, g2⟩ => ?_
  subst e2
  subst g2
  refine thn (po_none.run pins s2 σ G2 (fun o G => o = none ∧ G = G2) I2 ⟨rfl, rfl⟩) fun vu s3 ⟨o3, G3, I3, pu, e3, g3⟩ => ?_
  subst e3
  subst g3
  refine thn (st.run pins s3 σ G3 (fun o G => o = some (-1) ∧ G = G3) I3 ⟨1, rfl, -1, rfl, rfl, rfl⟩) fun vs s4 ⟨o4, G4, I4, ps, e4, g4⟩ => ?_
  subst e4
  subst g4
  have J : L2.Inv X pins σ G4 { s4 with heap := s4.heap.push { cls := .type "slice", data := .fields #[vl, vu, vs] } } := I4.kept (t' := s4.toks) fun b ob q => Heap.get?_push_of_some _ q
  obtain ⟨its, r, ht, hz⟩ := J.tuple hx
  have len := r.length
  refine tail_any (ops := [.ref a, .ref s4.heap.objs.size]) ht.typeIs slot_tuple_getitem.lookup ?_ (by with_unfolding_all rfl)
  refine item_back ht (Heap.IsSliceOf.new _ vl vu vs) pl pu ps ?_ (by omega)
  refine ⟨.ref _, _, J.laid (t' := s4.toks) (o := .tup xs.reverse) (fun b ob q => Heap.get?_push_of_some _ q) (Nat.le_refl _) ?_, rfl, q _ (J.hok.fresh (Nat.le_refl _))⟩
  exact ⟨by rw [List.length_reverse]; exact hz, _, r.reverse, ⟨_, Heap.get?_push_size _ rfl, rfl, _, rfl⟩⟩
/-- the tuple at a and the list at b as they stand at each turn, the items in new pairs -/
def Izm (K : PySem.W.Frag) (a b : Addr) : It where
  go := fun i H => ∃ (xs ys : List V) (x y : V), SqT K H a xs ∧ SqL K H b ys ∧ xs[i]? = some x ∧ ys[i]? = some y
  yld := fun i H v H' => ∃ T x y, v = .ref T ∧ H T = none ∧ H' = upd H T (.tup [x, y]) ∧
    (∀ xs, SqT K H a xs → xs[i]? = some x) ∧ ∀ ys, SqL K H b ys → ys[i]? = some y
  stop := fun i H => ∃ xs ys : List V, SqT K H a xs ∧ SqL K H b ys ∧ i ≤ xs.length ∧ i ≤ ys.length ∧ (i = xs.length ∨ i = ys.length)
def iZm (K : PySem.W.Frag) (ta : TA) : TI := fun σ H R => ta σ H fun vs H1 =>
  ∃ a b xs ys, vs = [.ref a, .ref b] ∧ SqT K H1 a xs ∧ SqL K H1 b ys ∧ R (Izm K a b) H1
structure Neat (d : PyData) (n e : Nat) : Prop where
  sh : d.showable = true
  dp : d.depth ≤ e
  ln : d.shown.length ≤ n
theorem Neat.mono {d : PyData} {n n' e e' : Nat} (h : Neat d n e) (h1 : n ≤ n') (h2 : e ≤ e') : Neat d n' e' := ⟨h.sh, Nat.le_trans h.dp h2, Nat.le_trans h.ln h1⟩
theorem Fine.neat {d : PyData} {n e : Nat} (h : Fine d n e) : Neat d n e := ⟨h.sh, h.dp, h.ln⟩
theorem neat_list {ds : List PyData} {n e : Nat} (h : ∀ d ∈ ds, Neat d n e) : Neat (.list ds) (ds.length * (n + 2) + 2) (e + 1) := by
  refine ⟨showableAll_of fun d hd => (h d hd).sh, ?_, ?_⟩
  · rw [PyData.depth]
    have := depthAll_of (ds := ds) (e := e) fun d hd => (h d hd).dp
    omega
  · rw [PyData.shown]
    exact Nat.le_trans (listText_le _) (Nat.add_le_add_right (piled_of fun d hd => (h d hd).ln) 2)
theorem neat_tuple {ds : List PyData} {n e : Nat} (h : ∀ d ∈ ds, Neat d n e) : Neat (.tuple ds) (ds.length * (n + 2) + 3) (e + 1) := by
  refine ⟨showableAll_of fun d hd => (h d hd).sh, ?_, ?_⟩
  · rw [PyData.depth]
    have := depthAll_of (ds := ds) (e := e) fun d hd => (h d hd).dp
    omega
  · rw [PyData.shown]
    exact Nat.le_trans (tupleText_le _) (Nat.add_le_add_right (piled_of fun d hd => (h d hd).ln) 3)
/-- dicts whose keys are tuples of ints -/
def dTo (es : List (List Int × Int)) : HO := .dT (es.map fun e => (e.1.map Sum.inl, V.int e.2))
abbrev dicD (es : List (List Int × Int)) : PyData := .dict ((.int (2 ^ 2000), .none) :: es.map fun e => (.tuple (e.1.map .int), .int e.2))
theorem dicD_no (es : List (List Int × Int)) : (dicD es).showable = true → False := by
  intro h
  have h : ((PyData.int (2 ^ 2000)).showable && (PyData.none).showable && PyData.showableKv (es.map fun e => (PyData.tuple (e.1.map .int), PyData.int e.2))) = true := h
  rw [show (PyData.int (2 ^ 2000)).showable = false by decide +kernel] at h
  cases h
/-- a way: what it costs, and its last push -/
abbrev Way := Int × Option (Int × Int)
def wayD (e : Way) : PyData := match e.2 with
  | none => .tuple [.int e.1, .none, .none]
  | some (i, l) => .tuple [.int e.1, .int i, .int l]
def wayV (e : Way) : List V := match e.2 with
  | none => [.int e.1, .non, .non]
  | some (i, l) => [.int e.1, .int i, .int l]
abbrev waysD (es : List (Int × Way)) : PyData := .dict ((.none, .int (2 ^ 2000)) :: es.map fun e => (.int e.1, wayD e.2))
theorem waysD_no (es : List (Int × Way)) : (waysD es).showable = true → False := by
  intro h
  have h : ((PyData.none).showable && (PyData.int (2 ^ 2000)).showable && PyData.showableKv (es.map fun e => (PyData.int e.1, wayD e.2))) = true := h
  rw [show (PyData.int (2 ^ 2000)).showable = false by decide +kernel, Bool.and_false] at h
  cases h
/-- the entries of a dict of ways, each at its address -/
def wayE (es : List (Int × Way)) (as : List Addr) : List (Key × V) := List.zipWith (fun e a => ((.inl e.1 : Key), V.ref a)) es as
/-- lists and dicts (data that may be written); what never changes -/
noncomputable def lsy : HO → Bool
  | .lst _ => true
  | .dK _ => true
  | .dT _ => true
  | .ext φ => @decide (¬ ∃ c q, HO.ext φ = LamX.CodeO c q) (Classical.propDecidable _)
  | _ => false
theorem plain_heap : ∀ n : Nat, ∃ h : Heap, h.objs.size = n ∧ ∀ a o, h.get? a = some o → o.data = .plain
  | 0 => ⟨{}, rfl, fun a o e => absurd (Heap.lt_size e) (Nat.not_lt_zero _)⟩
  | n + 1 => by
    obtain ⟨h, h1, h2⟩ := plain_heap n
    refine ⟨h.push { cls := .none, data := .plain }, by rw [Heap.size_push, h1], fun a o e => ?_⟩
    rcases Heap.get?_push_cases e with ⟨_, z⟩ | z
    · rw [z]
    · exact h2 a o z
theorem set_code {w : World} {D c : Addr} {S : Int → Bool} {n : Nat} {q : Str} : SetO w D S n ≠ LamX.CodeO c q := by
  intro e
  have e := HO.ext.inj e
  obtain ⟨h, h1, h2⟩ := plain_heap c
  have e := congrFun e (h.push { cls := .none, data := .fields #[.none, .str q default] })
  have r : SetR w (h.push { cls := .none, data := .fields #[.none, .str q default] }) D S n := by
    rw [e]
    exact ⟨_, _, _, by rw [← h1]; exact Heap.get?_push_size _ rfl, rfl, rfl⟩
  obtain ⟨o, es, ep, t, g, _, hd, _⟩ := r
  rcases Heap.get?_push_cases g with ⟨_, z⟩ | z
  · rw [z] at hd
    cases hd
  · rw [h2 _ _ z] at hd
    cases hd
theorem lsy_set {w : World} {D : Addr} {S : Int → Bool} {n : Nat} : lsy (SetO w D S n) = true := @decide_eq_true _ (Classical.propDecidable _) fun ⟨_, _, e⟩ => set_code e
def Hard (o : HO) : Prop := (∀ xs, o ≠ HO.lst xs) ∧ (∀ x, o ≠ HO.dK x) ∧ (∀ x, o ≠ HO.dT x) ∧ (∀ a b c, o ≠ HO.ins a b c) ∧ (∀ a, o ≠ HO.own a) ∧ ∀ x, o ≠ HO.tbl x
def StayT (H H' : Hp) : Prop := ∀ b o, Hard o → H b = some o → H' b = some o
theorem StayT.refl (H : Hp) : StayT H H := fun _ _ _ h => h
theorem StayT.trans {H H1 H2 : Hp} (x : StayT H H1) (y : StayT H1 H2) : StayT H H2 := fun b o n h => y b o n (x b o n h)
theorem StayT.of_same {H H' : Hp} (h : Same H H') : StayT H H' := fun b o _ e => h b o e
theorem Stay.t {H H' : Hp} (h : Stay H H') : StayT H H' := fun b o n e => h b o n.1 e
theorem hard_tup {xs : List V} : Hard (.tup xs) := ⟨fun _ z => (by cases z), fun _ z => (by cases z), fun _ z => (by cases z), fun _ _ _ z => (by cases z), fun _ z => (by cases z), fun _ z => (by cases z)⟩
theorem hard_ext {φ : Heap → Prop} : Hard (.ext φ) := ⟨fun _ z => (by cases z), fun _ z => (by cases z), fun _ z => (by cases z), fun _ _ _ z => (by cases z), fun _ z => (by cases z), fun _ z => (by cases z)⟩
theorem hard_frz {o : Obj} {ob : HO} : Hard (.frz o ob) := ⟨fun _ z => (by cases z), fun _ z => (by cases z), fun _ z => (by cases z), fun _ _ _ z => (by cases z), fun _ z => (by cases z), fun _ z => (by cases z)⟩
theorem stayT_tup {K : PySem.W.Frag} {H H' : Hp} {a : Addr} {xs : List V} (e : StayT H H') (h : SqT K H a xs) : SqT K H' a xs := by
  rcases h with (h | ⟨o, h⟩) | h
  · exact .inl (.inl (e _ _ hard_tup h))
  · exact .inl (.inr ⟨o, e _ _ hard_frz h⟩)
  · exact .inr h
mutual
inductive Dv (K : PySem.W.Frag) (H : Hp) (B : List Addr) : V → PyData → Prop
  | non : Dv K H B .non .none
  | bl (b : Bool) : Dv K H B (.bl b) (.bool b)
  | int (i : Int) : Dv K H B (.int i) (.int i)
  | str (x : Str) : Dv K H B (.str x) (.str x)
  | lst {p : Addr} {xs : List V} {ds : List PyData} : H p = some (.lst xs) → p ∉ B → DvAll K H B xs ds → Dv K H B (.ref p) (.list ds)
  | tup {p : Addr} {xs : List V} {ds : List PyData} : SqT K H p xs → DvAll K H B xs ds → Dv K H B (.ref p) (.tuple ds)
  | dic {p : Addr} : H p = some (.dK []) → p ∉ B → Dv K H B (.ref p) (.dict [])
  | dcS {p : Addr} {k : Str} {i : Int} : H p = some (.dK [(.inr k, .int i)]) → p ∉ B → Dv K H B (.ref p) (.dict [(.str k, .int i)])
  | dcT {p : Addr} {o : Obj} {es : List (List Int × Int)} : H p = some (.frz o (dTo es)) → Dv K H B (.ref p) (.dict ((.int (2 ^ 2000), .none) :: es.map fun e => (.tuple (e.1.map .int), .int e.2)))
  | dcI {p : Addr} {o : Obj} {es : List (Int × Way)} {as : List Addr} : H p = some (.frz o (.dK (wayE es as))) → as.length = es.length → (∀ (i : Nat) (a : Addr) (e : Int × Way), as[i]? = some a → es[i]? = some e → SqT K H a (wayV e.2)) → Dv K H B (.ref p) (.dict ((.none, .int (2 ^ 2000)) :: es.map fun e => (.int e.1, wayD e.2)))
inductive DvAll (K : PySem.W.Frag) (H : Hp) (B : List Addr) : List V → List PyData → Prop
  | nil : DvAll K H B [] []
  | cons {v : V} {vs : List V} {d : PyData} {ds : List PyData} : Dv K H B v d → DvAll K H B vs ds → DvAll K H B (v :: vs) (d :: ds)
end
/-- what a deck may do -/
structure Mv (B : List Addr) (H H' : Hp) : Prop where
  st : StayT H H'
  kp : ∀ b o, b ∉ B → lsy o = true → H b = some o → H' b = some o
  al : ∀ a, H a ≠ none → H' a ≠ none
theorem al_same {H H' : Hp} (h : Same H H') : ∀ a, H a ≠ none → H' a ≠ none := fun a n z => by
  cases e : H a with
  | none => exact n e
  | some o =>
    rw [h _ _ e] at z
    cases z
theorem al_upd {H : Hp} {D : Addr} {w : HO} : ∀ a, H a ≠ none → upd H D w a ≠ none := fun a n z => by
  by_cases e : a = D
  · rw [e, upd_same] at z
    cases z
  · rw [upd_ne e] at z
    exact n z
theorem Mv.of_same {B : List Addr} {H H' : Hp} (h : Same H H') : Mv B H H' := ⟨.of_same h, fun b o _ _ e => h b o e, al_same h⟩
theorem Mv.of_keep {a c : Addr} {B : List Addr} {H H' : Hp} {k : Int} (h : Keep a c H H') (d : Deck H a c k) (ha : a ∈ B) (hc : c ∈ B) (al : ∀ a, H a ≠ none → H' a ≠ none) : Mv B H H' :=
  ⟨(h.stay d).t, fun b o n _ e => h b o (fun z => n (by rw [z]; exact ha)) (fun z => n (by rw [z]; exact hc)) e, al⟩
theorem Mv.of_list {B : List Addr} {H : Hp} {D : Addr} {us ws : List V} (h : H D = some (.lst us)) (hD : D ∈ B) : Mv B H (upd H D (.lst ws)) :=
  ⟨(stay_list h).t, fun b o n _ e => by rw [upd_ne (fun z => n (by rw [z]; exact hD))]; exact e, al_upd⟩
theorem Mv.trans {B : List Addr} {H H1 H2 : Hp} (x : Mv B H H1) (y : Mv B H1 H2) : Mv B H H2 := ⟨x.st.trans y.st, fun b o n l e => y.kp b o n l (x.kp b o n l e), fun a h => y.al a (x.al a h)⟩
theorem Mv.refl (B : List Addr) (H : Hp) : Mv B H H := ⟨.refl _, fun _ _ _ _ e => e, fun _ h => h⟩
/-- all of B stands -/
def Stands (B : List Addr) (H : Hp) : Prop := ∀ b ∈ B, H b ≠ none
theorem Stands.same {B : List Addr} {H H' : Hp} (h : Stands B H) (s : Same H H') : Stands B H' := by
  intro b hb z
  cases e : H b with
  | none => exact h b hb e
  | some o =>
    rw [s _ _ e] at z
    cases z
theorem Stands.new {B : List Addr} {H : Hp} {p : Addr} (h : Stands B H) (np : H p = none) : p ∉ B := fun z => h p z np
section
variable {K : PySem.W.Frag} {H H' : Hp} {B : List Addr}
mutual
theorem Dv.mv (s : Mv B H H') : ∀ (d : PyData) (v : V), Dv K H B v d → Dv K H' B v d
  | .none, _, h => by
    cases h
    exact .non
  | .bool b, _, h => by
    cases h
    exact .bl b
  | .int i, _, h => by
    cases h
    exact .int i
  | .str x, _, h => by
    cases h
    exact .str x
  | .list ds, _, h => by
    cases h with
    | lst hs n1 ha => exact .lst (s.kp _ _ n1 rfl hs) n1 (DvAll.mv s ds _ ha)
  | .tuple ds, _, h => by
    cases h with
    | tup hs ha => exact .tup (stayT_tup s.st hs) (DvAll.mv s ds _ ha)
  | .dict _, _, h => by
    cases h with
    | dic hs n1 => exact .dic (s.kp _ _ n1 rfl hs) n1
    | dcS hs n1 => exact .dcS (s.kp _ _ n1 rfl hs) n1
    | dcT hs => exact .dcT (s.st _ _ hard_frz hs)
    | dcI hs hl ha => exact .dcI (s.st _ _ hard_frz hs) hl fun i a e h1 h2 => stayT_tup s.st (ha i a e h1 h2)
theorem DvAll.mv (s : Mv B H H') : ∀ (ds : List PyData) (vs : List V), DvAll K H B vs ds → DvAll K H' B vs ds
  | [], _, h => by
    cases h
    exact .nil
  | d :: ds, _, h => by
    cases h with
    | cons h1 h2 => exact .cons (Dv.mv s d _ h1) (DvAll.mv s ds _ h2)
end
theorem Dv.same (s : Same H H') {d : PyData} {v : V} (h : Dv K H B v d) : Dv K H' B v d := Dv.mv (.of_same s) d v h
theorem DvAll.same (s : Same H H') {ds : List PyData} {vs : List V} (h : DvAll K H B vs ds) : DvAll K H' B vs ds := DvAll.mv (.of_same s) ds vs h
theorem DvAll.len : ∀ {vs : List V} {ds : List PyData}, DvAll K H B vs ds → vs.length = ds.length
  | _, _, .nil => rfl
  | _, _, .cons _ b => congrArg Nat.succ (DvAll.len b)
theorem DvAll.get : ∀ {vs : List V} {ds : List PyData}, DvAll K H B vs ds → ∀ {i : Nat} {v : V}, vs[i]? = some v → ∃ d, ds[i]? = some d ∧ Dv K H B v d
  | _, _, .nil, i, v, h => by cases h
  | _, _, .cons x r, 0, v, h => by
    cases h
    exact ⟨_, rfl, x⟩
  | _, _, .cons x r, i + 1, v, h => DvAll.get r (i := i) h
theorem DvAll.take : ∀ {vs : List V} {ds : List PyData}, DvAll K H B vs ds → ∀ n, DvAll K H B (vs.take n) (ds.take n)
  | _, _, .nil, n => by
    rw [List.take_nil, List.take_nil]
    exact .nil
  | _, _, .cons x r, 0 => .nil
  | _, _, .cons x r, n + 1 => .cons x (DvAll.take r n)
theorem DvAll.drop : ∀ {vs : List V} {ds : List PyData}, DvAll K H B vs ds → ∀ n, DvAll K H B (vs.drop n) (ds.drop n)
  | _, _, .nil, n => by
    rw [List.drop_nil, List.drop_nil]
    exact .nil
  | _, _, .cons x r, 0 => .cons x r
  | _, _, .cons x r, n + 1 => DvAll.drop r n
theorem DvAll.app : ∀ {vs : List V} {ds : List PyData}, DvAll K H B vs ds → ∀ {us : List V} {es : List PyData}, DvAll K H B us es → DvAll K H B (vs ++ us) (ds ++ es)
  | _, _, .nil, _, _, h => h
  | _, _, .cons x r, _, _, h => .cons x (DvAll.app r h)
theorem DvAll.back : ∀ {vs : List V} {ds : List PyData}, DvAll K H B vs ds → DvAll K H B vs.reverse ds.reverse
  | _, _, .nil => .nil
  | _, _, .cons x r => by
    rw [List.reverse_cons, List.reverse_cons]
    exact DvAll.app (DvAll.back r) (.cons x .nil)
theorem DvAll.many {vs : List V} {ds : List PyData} (h : DvAll K H B vs ds) : ∀ n : Nat, DvAll K H B (List.replicate n vs).flatten (List.replicate n ds).flatten
  | 0 => .nil
  | n + 1 => by
    rw [List.replicate_succ, List.replicate_succ, List.flatten_cons, List.flatten_cons]
    exact h.app (h.many n)
end
/-- the type's name -/
def kindOf : PyData → String
  | .none => "NoneType"
  | .bool _ => "bool"
  | .int _ => "int"
  | .str _ => "str"
  | .list _ => "list"
  | .tuple _ => "tuple"
  | .dict _ => "dict"
def TyZ (K : PySem.W.Frag) (H : Hp) (v : V) (t : Value) : Prop := TyX K H v t ∨ (∃ (a : Addr) (o : Obj) (kvs : List (List Key × V)), v = .ref a ∧ H a = some (.frz o (.dT kvs)) ∧ t = .type "dict") ∨ ∃ (a : Addr) (o : Obj) (kvs : List (Key × V)), v = .ref a ∧ H a = some (.frz o (.dK kvs)) ∧ t = .type "dict"
theorem kit_ofZ {X : Cx} {pins : List (Addr × Obj)} {σ : L2.St} {H : Hp} {s : Shared} {x : V} {u t : Value} (I : L2.Inv X pins σ H s) (rx : RelV x u) (ty : TyZ X.K H x t) : ∃ P : Heap → Prop, PySem.W.KitX X.K u t P ∧ P s.heap ∧ u ≠ .builtin "__main__.__loader__#opaque" := by
  rcases ty with ty | ⟨a, ob, kvs, rfl, ea, rfl⟩ | ⟨a, ob, kvs, rfl, ea, rfl⟩
  · exact kit_of I rx ty
  rotate_left
  · cases (show u = Value.ref a from rx)
    obtain ⟨_, _, _, vs, _, o, es, ep, h1, h2, _⟩ := (show ObjOk X.prog X.w H s.heap a (.frz ob (.dK kvs)) from I.hok a _ ea)
    exact ⟨_, PySem.W.kitx_dict, ⟨o, h1, h2.1⟩, fun z => nomatch z⟩
  · cases (show u = Value.ref a from rx)
    obtain ⟨_, _, _, vs, _, o, es, ep, h1, h2, _⟩ := (show ObjOk X.prog X.w H s.heap a (.frz ob (.dT kvs)) from I.hok a _ ea)
    exact ⟨_, PySem.W.kitx_dict, ⟨o, h1, h2.1⟩, fun z => nomatch z⟩
def rIsi (K : PySem.W.Frag) : List V → Hp → VK → Prop := fun xs H Q => ∃ (x c : V) (t u : Value) (b : Bool), xs = [x, c] ∧ ClsV c u ∧ TyZ K H x t ∧ PySem.W.kitOne K t u = some b ∧ Q (.bl b) H
theorem call_isiZ {X : Cx} : CallR X (.builtin "isinstance") (rIsi X.K) := by
  intro pins s σ H xs us Q I r h
  obtain ⟨x, c, t, u, b, rfl, k, ty, e, q⟩ := h
  obtain ⟨u1, u2, rfl, r1, r2⟩ := vals2 r
  have e2 := k.eq r2
  subst e2
  obtain ⟨P, Z, p, hx⟩ := kit_ofZ I r1 ty
  exact PySem.W.kia_one Z I.kIn p e hx fun tk => ⟨.bl b, H, I.tok tk, rfl, q⟩
theorem Dv.ty {K : PySem.W.Frag} {H : Hp} {B : List Addr} {v : V} {d : PyData} (h : Dv K H B v d) : TyZ K H v (.type (kindOf d)) := by
  cases h with
  | non => exact .inl <| .base .non
  | bl b => exact .inl <| .base (.bl b)
  | int i => exact .inl <| .base (.int i)
  | str x => exact .inl <| .base (.str x)
  | lst hs _ _ => exact .inl <| .base (.lst hs)
  | tup hs _ =>
    rcases hs with (h | ⟨o, h⟩) | ⟨o, its, n, hk, hc, _⟩
    · exact .inl <| .base (.tup h)
    · exact .inl <| .fTuple h
    · exact .inl <| .kTuple hk hc
  | dic hs _ => exact .inl <| .base (.dK hs)
  | dcS hs _ => exact .inl <| .base (.dK hs)
  | dcT hs => exact .inr <| .inl ⟨_, _, _, rfl, hs, rfl⟩
  | dcI hs _ _ => exact .inr <| .inr ⟨_, _, _, rfl, hs, rfl⟩
/-- isinstance of data -/
def isT (d : PyData) : Bool := match d with
  | .tuple _ => true
  | _ => false
def isI (d : PyData) : Bool := match d with
  | .int _ => true
  | .bool _ => true
  | _ => false
def isB (d : PyData) : Bool := match d with
  | .bool _ => true
  | _ => false
section
variable {X : Cx}
theorem kisi (K : PySem.W.Frag) (hK : X.K = K := by rfl) : CallR X (.builtin "isinstance") (rIsi K) := by
  subst hK
  exact call_isiZ
end
section
variable {K : PySem.W.Frag} {H : Hp} {B : List Addr} {v : V} {d : PyData} {Q : VK}
theorem kit_tuple : PySem.W.kitOne K (.type (kindOf d)) (.type "tuple") = some (isT d) := kit_ty (by cases d <;> rfl)
theorem kit_int : PySem.W.kitOne K (.type (kindOf d)) (.type "int") = some (isI d) := kit_ty (by cases d <;> rfl)
theorem kit_bool : PySem.W.kitOne K (.type (kindOf d)) (.type "bool") = some (isB d) := kit_ty (by cases d <;> rfl)
end
section
variable {X : Cx} {pins : List (Addr × Obj)} {σ : L2.St} {H : Hp} {s : Shared} {B : List Addr}
mutual
theorem Dv.reads (I : L2.Inv X pins σ H s) (sys : ∃ o, X.base.get? sysModules = some o) : ∀ (d : PyData) (v : V) (u : Value), Dv X.K H B v d → RelV v u → d.showable = true → ∃ as, Reads s.heap u d as ∧ sysModules ∉ as
  | .none, _, _, h, r, sh => by
    cases h
    cases r
    exact ⟨_, Reads.none, List.not_mem_nil⟩
  | .bool b, _, _, h, r, sh => by
    cases h
    cases r
    exact ⟨_, Reads.bool b, List.not_mem_nil⟩
  | .int i, _, _, h, r, sh => by
    cases h
    obtain ⟨t, e⟩ := r
    subst e
    exact ⟨_, Reads.int i t, List.not_mem_nil⟩
  | .str x, _, _, h, r, sh => by
    cases h
    obtain ⟨t, e⟩ := r
    subst e
    exact ⟨_, Reads.str x t, List.not_mem_nil⟩
  | .list ds, _, _, h, r, sh => by
    cases h with
    | @lst p xs _ hs _ ha =>
      cases r
      obtain ⟨its, rv, ⟨o, n, ho, hc, _, hd⟩, _⟩ := I.list (SqL.of hs)
      obtain ⟨as, hr, no⟩ := DvAll.reads I sys ds _ its ha rv sh
      refine ⟨_, Reads.list ho hc hd hr, fun z => ?_⟩
      rcases List.mem_cons.mp z with e | e
      · obtain ⟨o, ho⟩ := sys
        have := (I.bs _ o ho).2
        rw [e, hs] at this
        cases this
      · exact no e
  | .tuple ds, _, _, h, r, sh => by
    cases h with
    | tup hs ha =>
      cases r
      obtain ⟨its, rv, ⟨o, ho, hc, n, hd⟩, _⟩ := I.tuple hs
      obtain ⟨as, hr, no⟩ := DvAll.reads I sys ds _ its ha rv sh
      exact ⟨_, Reads.tuple ho hc hd hr, no⟩
  | .dict _, _, _, h, r, sh => by
    cases h with
    | @dic p hs _ =>
      cases r
      obtain ⟨_, nsm, vs, kv, o, es, ep, ho, ex, hd, hk, he, _⟩ := (show ObjOk X.prog X.w H s.heap p (.dK []) from I.hok p _ hs)
      cases kv
      have ez : es.toList = [] := by
        generalize es.toList = l at he
        cases he
        rfl
      have k1 : es.toList.map (·.key) = [] := by rw [ez]; rfl
      have k2 : es.toList.map (·.val) = [] := by rw [ez]; rfl
      refine ⟨[p] ++ [] ++ [], Reads.dict (as := []) (bs := []) ho ex.1 hd (by rw [k1]; exact .nil) (by rw [k2]; exact .nil), fun z => ?_⟩
      have z : sysModules = p := by simpa using z
      rw [← z] at nsm
      exact absurd (beq_self_eq_true sysModules) (by rw [nsm]; exact Bool.false_ne_true)
    | @dcS p k i hs _ =>
      cases r
      obtain ⟨_, nsm, vs, kv, o, es, ep, ho, ex, hd, hk, he, _⟩ := (show ObjOk X.prog X.w H s.heap p (.dK [(.inr k, .int i)]) from I.hok p _ hs)
      cases kv with
      | cons hv hr =>
        cases hr
        obtain ⟨hv1, t, hv2⟩ := hv
        have ez : ∃ e : DictEntry, es.toList = [e] ∧ (mixKind X.prog X.w).is (.inr k) e.key = true ∧ e.val = .int i t := by
          generalize es.toList = l at he
          cases he with
          | cons h1 h2 h3 =>
            cases h3
            exact ⟨_, rfl, by rw [show (Sum.inr k : Key) = _ from hv1]; exact h1, h2.trans hv2⟩
        obtain ⟨e, ez, ek, ev⟩ := ez
        rcases keyIs_shape (k := .inr k) (v := e.key) ek with ⟨_, _, z, _⟩ | ⟨x, tx, z, hx⟩
        · cases z
        injection z with z
        subst z
        have k1 : es.toList.map (·.key) = [.str k tx] := by rw [ez]; exact congrArg (· :: []) hx
        have k2 : es.toList.map (·.val) = [.int i t] := by rw [ez]; exact congrArg (· :: []) ev
        refine ⟨[p] ++ ([] ++ []) ++ ([] ++ []), Reads.dict (as := [] ++ []) (bs := [] ++ []) ho ex.1 hd (by rw [k1]; exact .cons (.str k tx) .nil) (by rw [k2]; exact .cons (.int i t) .nil), fun z => ?_⟩
        have z : sysModules = p := by simpa using z
        rw [← z] at nsm
        exact absurd (beq_self_eq_true sysModules) (by rw [nsm]; exact Bool.false_ne_true)
    | dcT hs => exact (dicD_no _ sh).elim
    | dcI _ _ _ => exact (waysD_no _ sh).elim
theorem DvAll.reads (I : L2.Inv X pins σ H s) (sys : ∃ o, X.base.get? sysModules = some o) : ∀ (ds : List PyData) (vs : List V) (us : List Value), DvAll X.K H B vs ds → Vals vs us → PyData.showableAll ds = true → ∃ as, ReadsAll s.heap us ds as ∧ sysModules ∉ as
  | [], _, _, h, r, sh => by
    cases h
    cases r
    exact ⟨_, ReadsAll.nil, List.not_mem_nil⟩
  | d :: ds, _, _, h, r, sh => by
    cases h with
    | cons h1 h2 =>
      cases r with
      | cons r1 r2 =>
        obtain ⟨as, q1, n1⟩ := Dv.reads I sys d _ _ h1 r1 ((Bool.and_eq_true _ _).mp sh).1
        obtain ⟨bs, q2, n2⟩ := DvAll.reads I sys ds _ _ h2 r2 ((Bool.and_eq_true _ _).mp sh).2
        exact ⟨_, ReadsAll.cons q1 q2, fun z => (List.mem_append.mp z).elim n1 n2⟩
end
end
/-- repr(v), v data of any kind -/
def rReprV (K : PySem.W.Frag) : List V → Hp → VK → Prop := fun xs H Q => ∃ (v : V) (d : PyData) (B : List Addr), xs = [v] ∧ Dv K H B v d ∧ Neat d 16000000 60 ∧ Q (.str d.shown) H
theorem kreprV {X : Cx} (K : PySem.W.Frag) (sys : ∃ o, X.base.get? sysModules = some o) (hgd : X.A.guards = some []) (hu : X.A.units + 64 < cLine) (hK : X.K = K := by rfl) : CallR X (.builtin "repr") (rReprV K) := by
  subst hK
  intro pins s σ H xs us Q I r h
  obtain ⟨v, d, B, e, hd, nt, q⟩ := h
  subst e
  obtain ⟨u, e, rx⟩ := vals1 r
  subst e
  have big : (16000000 : Nat) ≤ sizeLine := by decide
  have isref : ∀ p : Addr, v = .ref p → wpAny (model X.prog X.w) X.A (call (.builtin "repr") [u]) (EP X pins σ Q) X.xe s := by
    intro p ev
    subst ev
    obtain ⟨as, rd, no⟩ := Dv.reads I sys d _ _ hd rx nt.sh
    cases rx
    have dp := nt.dp
    refine repr_of_reads' rd nt.sh (fun _ => no) hgd (by omega) (fun b o e => e) (fun h' u tk hk => ?_) (Nat.le_trans nt.ln big)
    exact ⟨.str d.shown, H, I.kept hk, ⟨u, rfl⟩, q⟩
  cases hd with
  | non =>
    cases rx
    exact PySem.P.repr_of_none ⟨.str _, H, I.tok _, ⟨_, rfl⟩, q⟩
  | bl b =>
    cases rx
    refine PySem.P.repr_of_bool ⟨.str _, H, I.tok _, ⟨_, rfl⟩, ?_⟩
    exact q
  | int i =>
    obtain ⟨t, e⟩ := rx
    subst e
    have sh := nt.sh
    exact PySem.P.repr_of_int (by simpa [PyData.showable] using sh) ⟨.str _, H, I.tok _, ⟨_, rfl⟩, q⟩
  | str x =>
    obtain ⟨t, e⟩ := rx
    subst e
    exact PySem.P.repr_of_str ⟨.str _, H, I.tok _, ⟨_, rfl⟩, q⟩ (Nat.le_trans nt.ln big)
  | lst _ _ _ => exact isref _ rfl
  | tup _ _ => exact isref _ rfl
  | dic _ _ => exact isref _ rfl
  | dcS _ _ => exact isref _ rfl
  | dcT _ => exact isref _ rfl
  | dcI _ _ _ => exact isref _ rfl
theorem Stands.keep {a c : Addr} {B : List Addr} {H H' : Hp} {k : Int} (h : Stands B H) (kp : Keep a c H H') (d : Deck H' a c k) : Stands B H' := by
  intro b hb z
  by_cases za : b = a
  · subst za
    obtain ⟨ns, j, _, h2, _⟩ := d
    rw [h2] at z
    cases z
  · by_cases zc : b = c
    · subst zc
      obtain ⟨ns, j, _, _, h3, _⟩ := d
      rw [h3] at z
      cases z
    · cases e : H b with
      | none => exact h b hb e
      | some o =>
        rw [kp _ _ za zc e] at z
        cases z
/-- objects: address, class, fields -/
abbrev Tb := List (Addr × Addr × List (Str × PyData))
structure Kx where
  n : Int
  T : Tb
def Kx.up (k : Kx) (i : Int) : Kx := ⟨k.n + i, k.T⟩
def Kx.le (k k' : Kx) : Prop := k.n ≤ k'.n ∧ k.T = k'.T
structure DK where
  w : Bool
  P : Hp → Addr → List Addr → Kx → Prop
  mv : ∀ {H H' : Hp} {r : Addr} {as : List Addr} {k : Kx}, P H r as k → (∀ a ∈ as, H' a = H a) → (∀ a o, lsy o = false → H a = some o → H' a = some o) → P H' r as k
  mono : ∀ {H : Hp} {r : Addr} {as : List Addr} {k k' : Kx}, P H r as k → k.le k' → P H r as k'
/-- what a slot holds -/
inductive Sl where
  | free | dat (d : PyData) | own (ds : List PyData) | deck | exc (a D : Addr) (d : Option Addr) (fs : List (Str × PyData)) | odc (es : List (List Int × Int)) | odk (es : List (Int × Way))
def Sl.isOwn : Sl → Bool
  | .own _ => true
  | .odc _ => true
  | .odk _ => true
  | _ => false
structure AS where
  env : List Sl
  k : Option Kx
def AS.put (s : AS) (i : Nat) (x : Sl) : AS := ⟨s.env.set i x, s.k⟩
def wipeA (e : List Sl) : List Nat → List Sl
  | [] => e
  | v :: vs => (wipeA e vs).set v .free
def AS.wipe (s : AS) (vs : List Nat) : AS := ⟨wipeA s.env vs, s.k⟩
structure Cy where
  r : Addr
  as : List Addr
  Bc : List Addr
  H0 : Hp
  st0 : Stands Bc H0
/-- what an expression may do to the heap -/
structure Mx (w : Bool) (as : List Addr) (H H' : Hp) : Prop where
  mv : Mv as H H'
  tk : w = false → ∀ b o, b ∉ as → H b = some o → H' b = some o
theorem Mx.al {w : Bool} {as : List Addr} {H H' : Hp} (m : Mx w as H H') : ∀ a, H a ≠ none → H' a ≠ none := m.mv.al
theorem Mx.refl {w : Bool} (as : List Addr) (H : Hp) : Mx w as H H := ⟨.refl _ _, fun _ _ _ _ h => h⟩
theorem Mx.trans {w : Bool} {as : List Addr} {H H1 H2 : Hp} (x : Mx w as H H1) (y : Mx w as H1 H2) : Mx w as H H2 := ⟨x.mv.trans y.mv, fun z b o n e => y.tk z b o n (x.tk z b o n e)⟩
theorem Mx.of_same {w : Bool} {as : List Addr} {H H' : Hp} (h : Same H H') : Mx w as H H' := ⟨.of_same h, fun _ b o _ e => h b o e⟩
theorem Mv.up {as B : List Addr} {H H' : Hp} (m : Mv as H H') (s : ∀ a ∈ as, a ∈ B) : Mv B H H' := ⟨m.st, fun b o n l e => m.kp b o (fun z => n (s b z)) l e, m.al⟩
theorem Mx.up {w : Bool} {as B : List Addr} {H H' : Hp} (m : Mx w as H H') (s : ∀ a ∈ as, a ∈ B) : Mv B H H' := m.mv.up s
theorem Mx.fresh {w : Bool} {as : List Addr} {H0 H : Hp} (m : Mx w as H0 H) {D : Addr} {x : HO} (n0 : H0 D = none) : Mx w as H0 (upd H D x) := by
  refine ⟨⟨fun b o n e => ?_, fun b o n l e => ?_, fun b hb => al_upd b (m.al b hb)⟩, fun z b o n e => ?_⟩
  · rw [upd_ne (ne_of_none e n0)]
    exact m.mv.st b o n e
  · rw [upd_ne (ne_of_none e n0)]
    exact m.mv.kp b o n l e
  · rw [upd_ne (ne_of_none e n0)]
    exact m.tk z b o n e
theorem nl_same {H H' : Hp} (h : Same H H') : ∀ a o, lsy o = false → H a = some o → H' a = some o := fun a o _ e => h a o e
theorem nl_upd {H : Hp} {D : Addr} {u x : HO} (hD : H D = some u) (hu : lsy u = true) : ∀ a o, lsy o = false → H a = some o → upd H D x a = some o := fun a o l e => by
  by_cases z : a = D
  · rw [z, hD] at e
    cases e
    rw [hu] at l
    cases l
  · rw [upd_ne z]
    exact e
/-- what a statement may do -/
structure Go (B : List Addr) (H : Hp) (B' : List Addr) (H' : Hp) : Prop where
  mv : Mv B H H'
  nb : ∀ b ∈ B', b ∈ B ∨ H b = none
theorem Go.out {B B' : List Addr} {H H' : Hp} (s : Go B H B' H') {p : Addr} {o : HO} (hs : H p = some o) (n1 : p ∉ B) : p ∉ B' := fun z => by
  rcases s.nb _ z with q | q
  · exact n1 q
  · rw [q] at hs
    cases hs
theorem Go.refl (B : List Addr) (H : Hp) : Go B H B H := ⟨.refl _ _, fun b h => .inl h⟩
theorem Go.of_mv {B : List Addr} {H H' : Hp} (h : Mv B H H') : Go B H B H' := ⟨h, fun b h => .inl h⟩
theorem Go.trans {B B1 B2 : List Addr} {H H1 H2 : Hp} (x : Go B H B1 H1) (y : Go B1 H1 B2 H2) : Go B H B2 H2 := by
  refine ⟨⟨x.mv.st.trans y.mv.st, fun b o n l e => ?_, fun a h => y.mv.al a (x.mv.al a h)⟩, fun b hb => ?_⟩
  · refine y.mv.kp b o (fun z => ?_) l (x.mv.kp b o n l e)
    rcases x.nb b z with q | q
    · exact n q
    · rw [q] at e
      cases e
  · rcases y.nb b hb with q | q
    · exact x.nb b q
    · by_cases hB : b ∈ B
      · exact .inl hB
      · refine .inr ?_
        cases e : H b with
        | none => rfl
        | some o =>
          exact absurd q (x.mv.al b (by rw [e]; intro z; cases z))
section
variable {K : PySem.W.Frag} {H H' : Hp} {B B' : List Addr}
mutual
theorem Dv.anti (s : ∀ b ∈ B', b ∈ B) : ∀ (d : PyData) (v : V), Dv K H B v d → Dv K H B' v d
  | .none, _, h => by
    cases h
    exact .non
  | .bool b, _, h => by
    cases h
    exact .bl b
  | .int i, _, h => by
    cases h
    exact .int i
  | .str x, _, h => by
    cases h
    exact .str x
  | .list ds, _, h => by
    cases h with
    | lst hs n1 ha => exact .lst hs (fun z => n1 (s _ z)) (DvAll.anti s ds _ ha)
  | .tuple ds, _, h => by
    cases h with
    | tup hs ha => exact .tup hs (DvAll.anti s ds _ ha)
  | .dict _, _, h => by
    cases h with
    | dic hs n1 => exact .dic hs fun z => n1 (s _ z)
    | dcS hs n1 => exact .dcS hs fun z => n1 (s _ z)
    | dcT hs => exact .dcT hs
    | dcI hs hl ha => exact .dcI hs hl ha
theorem DvAll.anti (s : ∀ b ∈ B', b ∈ B) : ∀ (ds : List PyData) (vs : List V), DvAll K H B vs ds → DvAll K H B' vs ds
  | [], _, h => by
    cases h
    exact .nil
  | d :: ds, _, h => by
    cases h with
    | cons h1 h2 => exact .cons (Dv.anti s d _ h1) (DvAll.anti s ds _ h2)
end
mutual
theorem Dv.go (s : Go B H B' H') : ∀ (d : PyData) (v : V), Dv K H B v d → Dv K H' B' v d
  | .none, _, h => by
    cases h
    exact .non
  | .bool b, _, h => by
    cases h
    exact .bl b
  | .int i, _, h => by
    cases h
    exact .int i
  | .str x, _, h => by
    cases h
    exact .str x
  | .list ds, _, h => by
    cases h with
    | lst hs n1 ha =>
      refine .lst (s.mv.kp _ _ n1 rfl hs) (fun z => ?_) (DvAll.go s ds _ ha)
      rcases s.nb _ z with q | q
      · exact n1 q
      · rw [q] at hs
        cases hs
  | .tuple ds, _, h => by
    cases h with
    | tup hs ha => exact .tup (stayT_tup s.mv.st hs) (DvAll.go s ds _ ha)
  | .dict _, _, h => by
    cases h with
    | dic hs n1 => exact .dic (s.mv.kp _ _ n1 rfl hs) (s.out hs n1)
    | dcS hs n1 => exact .dcS (s.mv.kp _ _ n1 rfl hs) (s.out hs n1)
    | dcT hs => exact .dcT (s.mv.st _ _ hard_frz hs)
    | dcI hs hl ha => exact .dcI (s.mv.st _ _ hard_frz hs) hl fun i a e h1 h2 => stayT_tup s.mv.st (ha i a e h1 h2)
theorem DvAll.go (s : Go B H B' H') : ∀ (ds : List PyData) (vs : List V), DvAll K H B vs ds → DvAll K H' B' vs ds
  | [], _, h => by
    cases h
    exact .nil
  | d :: ds, _, h => by
    cases h with
    | cons h1 h2 => exact .cons (Dv.go s d _ h1) (DvAll.go s ds _ h2)
end
end
inductive OwnD (K : PySem.W.Frag) (H : Hp) (B : List Addr) : HO → Sl → Prop
  | l {us : List V} {ds : List PyData} : DvAll K H B us ds → OwnD K H B (.lst us) (.own ds)
  | d {es : List (List Int × Int)} : OwnD K H B (dTo es) (.odc es)
  | k {es : List (Int × Way)} {as : List Addr} : as.length = es.length → (∀ (i : Nat) (a : Addr) (e : Int × Way), as[i]? = some a → es[i]? = some e → SqT K H a (wayV e.2)) → OwnD K H B (.dK (wayE es as)) (.odk es)
theorem OwnD.mv {K : PySem.W.Frag} {H H' : Hp} {B : List Addr} {o : HO} {x : Sl} (h : OwnD K H B o x) (m : Mv B H H') : OwnD K H' B o x := by
  cases h with
  | l h => exact .l (DvAll.mv m _ _ h)
  | d => exact .d
  | k hl ha => exact .k hl fun i a e h1 h2 => stayT_tup m.st (ha i a e h1 h2)
theorem OwnD.go {K : PySem.W.Frag} {H H' : Hp} {B B' : List Addr} {o : HO} {x : Sl} (h : OwnD K H B o x) (m : Go B H B' H') : OwnD K H' B' o x := by
  cases h with
  | l h => exact .l (DvAll.go m _ _ h)
  | d => exact .d
  | k hl ha => exact .k hl fun i a e h1 h2 => stayT_tup m.mv.st (ha i a e h1 h2)
theorem OwnD.anti {K : PySem.W.Frag} {H : Hp} {B B' : List Addr} {o : HO} {x : Sl} (h : OwnD K H B o x) (m : ∀ b ∈ B', b ∈ B) : OwnD K H B' o x := by
  cases h with
  | l h => exact .l (DvAll.anti m _ _ h)
  | d => exact .d
  | k hl ha => exact .k hl ha
theorem OwnD.lsy {K : PySem.W.Frag} {H : Hp} {B : List Addr} {o : HO} {x : Sl} (h : OwnD K H B o x) : BP.lsy o = true := by
  cases h <;> rfl
def ErrAt (K : PySem.W.Frag) (H : Hp) (B : List Addr) (d : Option Addr) (fs : List (Str × PyData)) : Prop := (fs = [] ∧ d = none) ∨ ∃ dd us, d = some dd ∧ H dd = some (.xd us) ∧ us.map (·.1) = fs.map (·.1) ∧ DvAll K H B (us.map (·.2)) (fs.map (·.2))
theorem ErrAt.anti {K : PySem.W.Frag} {H : Hp} {B B' : List Addr} {d : Option Addr} {fs : List (Str × PyData)} (s : ∀ b ∈ B', b ∈ B) (h : ErrAt K H B d fs) : ErrAt K H B' d fs := by
  rcases h with h | ⟨dd, us, h1, h2, h3, h4⟩
  · exact .inl h
  · exact .inr ⟨dd, us, h1, h2, h3, DvAll.anti s _ _ h4⟩
theorem ErrAt.mv {K : PySem.W.Frag} {H H' : Hp} {B : List Addr} {d : Option Addr} {fs : List (Str × PyData)} (h : ErrAt K H B d fs) (m : Mv B H H') : ErrAt K H' B d fs := by
  rcases h with h | ⟨dd, us, h1, h2, h3, h4⟩
  · exact .inl h
  · exact .inr ⟨dd, us, h1, m.st _ _ ⟨fun _ z => (by cases z), fun _ z => (by cases z), fun _ z => (by cases z), fun _ _ _ z => (by cases z), fun _ z => (by cases z), fun _ z => (by cases z)⟩ h2, h3, DvAll.mv m _ _ h4⟩
theorem ErrAt.go {K : PySem.W.Frag} {H H' : Hp} {B B' : List Addr} {d : Option Addr} {fs : List (Str × PyData)} (h : ErrAt K H B d fs) (m : Go B H B' H') : ErrAt K H' B' d fs := by
  rcases h with h | ⟨dd, us, h1, h2, h3, h4⟩
  · exact .inl h
  · exact .inr ⟨dd, us, h1, m.mv.st _ _ ⟨fun _ z => (by cases z), fun _ z => (by cases z), fun _ z => (by cases z), fun _ _ _ z => (by cases z), fun _ z => (by cases z), fun _ z => (by cases z)⟩ h2, h3, DvAll.go m _ _ h4⟩
/-- what a slot knows of an error -/
def ExOk (K : PySem.W.Frag) (e : List Sl) (σ : L2.St) (H : Hp) (B : List Addr) : Prop := ∀ (i : Nat) (a D : Addr) (d : Option Addr) (fs : List (Str × PyData)), e[i]? = some (.exc a D d fs) → σ[i]? = some (some (.ref a)) ∧ ErrAt K H B d fs
theorem ExOk.mv {K : PySem.W.Frag} {e : List Sl} {σ : L2.St} {H H' : Hp} {B : List Addr} (h : ExOk K e σ H B) (m : Mv B H H') : ExOk K e σ H' B := fun i a D d fs z => ⟨(h i a D d fs z).1, (h i a D d fs z).2.mv m⟩
theorem ExOk.go {K : PySem.W.Frag} {e : List Sl} {σ : L2.St} {H H' : Hp} {B B' : List Addr} (h : ExOk K e σ H B) (m : Go B H B' H') : ExOk K e σ H' B' := fun i a D d fs z => ⟨(h i a D d fs z).1, (h i a D d fs z).2.go m⟩
theorem ExOk.anti {K : PySem.W.Frag} {e : List Sl} {σ : L2.St} {H : Hp} {B B' : List Addr} (h : ExOk K e σ H B) (m : ∀ b ∈ B', b ∈ B) : ExOk K e σ H B' := fun i a D d fs z => ⟨(h i a D d fs z).1, (h i a D d fs z).2.anti m⟩
structure En (K : PySem.W.Frag) (Δ : DK) (C : Cy) (B : List Addr) (σ : L2.St) (H : Hp) (s : AS) : Prop where
  len : σ.length = s.env.length
  sl : ∀ (i : Nat) (d : PyData), s.env[i]? = some (.dat d) → ∃ v, σ[i]? = some (some v) ∧ Dv K H B v d
  dr : ∀ i : Nat, s.env[i]? = some .deck → σ[i]? = some (some (.ref C.r))
  ex : ExOk K s.env σ H B
  ow : ∃ ad : Nat → Addr, (∀ (i : Nat) (x : Sl), s.env[i]? = some x → x.isOwn = true → σ[i]? = some (some (.ref (ad i))) ∧ ad i ∈ B ∧ ad i ∉ C.as ∧ C.H0 (ad i) = none ∧ ∃ us, H (ad i) = some us ∧ OwnD K H B us x) ∧
    ∀ (i j : Nat) (x y : Sl), s.env[i]? = some x → s.env[j]? = some y → x.isOwn = true → y.isOwn = true → i ≠ j → ad i ≠ ad j
  st : Stands B H
  sub : ∀ a ∈ C.as, a ∈ B
  bc : ∀ b ∈ C.Bc, b ∈ B
  dk : ∀ k, s.k = some k → Δ.P H C.r C.as k
  mw : Mx Δ.w C.as C.H0 H
section
variable {K : PySem.W.Frag} {Δ : DK} {C : Cy} {B : List Addr} {σ : L2.St} {H H' : Hp} {s : AS}
theorem Mx.stands {w : Bool} {as : List Addr} (m : Mx w as H H') (h : Stands B H) : Stands B H' := fun b hb => m.al b (h b hb)
theorem En.move (E : En K Δ C B σ H s) (m : Mx Δ.w C.as H H') {kk : Option Kx} (hk : ∀ k, kk = some k → Δ.P H' C.r C.as k) : En K Δ C B σ H' ⟨s.env, kk⟩ := by
  have mb := m.up E.sub
  refine ⟨E.len, fun i d h => ?_, E.dr, E.ex.mv mb, ?_, m.stands E.st, E.sub, E.bc, hk, E.mw.trans m⟩
  · obtain ⟨v, h1, h2⟩ := E.sl i d h
    exact ⟨v, h1, h2.mv mb⟩
  · obtain ⟨ad, h1, h2⟩ := E.ow
    refine ⟨ad, fun i ds h ho => ?_, h2⟩
    obtain ⟨a1, a2, a3, a4, us, a5, a6⟩ := h1 i ds h ho
    exact ⟨a1, a2, a3, a4, us, m.mv.kp _ _ a3 a6.lsy a5, a6.mv mb⟩
theorem agree_same (h : Same H H') (st : Stands B H) : ∀ a ∈ B, H' a = H a := by
  intro a ha
  cases e : H a with
  | none => exact absurd e (st a ha)
  | some o => exact h _ _ e
theorem En.same (E : En K Δ C B σ H s) (h : Same H H') : En K Δ C B σ H' s :=
  E.move (.of_same h) fun k hk => Δ.mv (E.dk k hk) (fun a ha => agree_same h E.st a (E.sub a ha)) (nl_same h)
theorem En.newB (E : En K Δ C B σ H s) {p : Addr} (np : H p = none) : p ∉ B := E.st.new np
theorem set_get {α : Type} {l : List α} {i j : Nat} {x y : α} (h : (l.set i x)[j]? = some y) : (j = i ∧ y = x ∧ i < l.length) ∨ (j ≠ i ∧ l[j]? = some y) := by
  by_cases e : i = j
  · subst e
    by_cases hl : i < l.length
    · rw [List.getElem?_set_self hl] at h
      exact .inl ⟨rfl, (Option.some.inj h).symm, hl⟩
    · rw [List.getElem?_eq_none (by rw [List.length_set]; omega)] at h
      cases h
  · rw [List.getElem?_set_ne e] at h
    exact .inr ⟨fun z => e z.symm, h⟩
theorem ExOk.put {K : PySem.W.Frag} {e : List Sl} {σ : L2.St} {H : Hp} {B : List Addr} (h : ExOk K e σ H B) (i : Nat) (x : Sl) (hx : ∀ a D d fs, x ≠ .exc a D d fs) (v : Option V) : ExOk K (e.set i x) (σ.set i v) H B := fun j a D d fs z => by
  rcases set_get z with ⟨_, q2, _⟩ | ⟨q1, q2⟩
  · exact absurd q2.symm (hx a D d fs)
  · rw [List.getElem?_set_ne (fun z => q1 z.symm)]
    exact h j a D d fs q2
theorem ExOk.putS {K : PySem.W.Frag} {e : List Sl} {σ : L2.St} {H : Hp} {B : List Addr} (h : ExOk K e σ H B) (i : Nat) (x : Sl) (hx : ∀ a D d fs, x ≠ .exc a D d fs) : ExOk K (e.set i x) σ H B := fun j a D d fs z => by
  rcases set_get z with ⟨_, q2, _⟩ | ⟨q1, q2⟩
  · exact absurd q2.symm (hx a D d fs)
  · exact h j a D d fs q2
theorem own_noe {x : Sl} (h : x.isOwn = true) : ∀ a D d fs, x ≠ .exc a D d fs := fun a D d fs z => by
  subst z
  cases h
/-- a slot gets data -/
theorem En.put (E : En K Δ C B σ H s) {i : Nat} {v : V} {d : PyData} (h : Dv K H B v d) : En K Δ C B (σ.set i (some v)) H (s.put i (.dat d)) := by
  refine ⟨by show _ = (s.env.set i _).length; rw [List.length_set, List.length_set]; exact E.len, fun j e z => ?_, fun j z => ?_, E.ex.put i _ (by intro a D d fs z; cases z) _, ?_, E.st, E.sub, E.bc, E.dk, E.mw⟩
  · rcases set_get z with ⟨h1, h2, h3⟩ | ⟨h1, h2⟩
    · subst h1
      cases h2
      exact ⟨v, by rw [List.getElem?_set_self (by rw [E.len]; exact h3)], h⟩
    · obtain ⟨u, q1, q2⟩ := E.sl j e h2
      exact ⟨u, by rw [List.getElem?_set_ne (fun z => h1 z.symm)]; exact q1, q2⟩
  · rcases set_get z with ⟨h1, h2, h3⟩ | ⟨h1, h2⟩
    · cases h2
    · rw [List.getElem?_set_ne (fun z => h1 z.symm)]
      exact E.dr j h2
  · obtain ⟨ad, h1, h2⟩ := E.ow
    refine ⟨ad, fun j ds z ho => ?_, fun j l ds es z1 z2 o1 o2 ne => ?_⟩
    · rcases set_get z with ⟨q1, q2, q3⟩ | ⟨q1, q2⟩
      · subst q2; cases ho
      · rw [List.getElem?_set_ne (fun z => q1 z.symm)]
        exact h1 j ds q2 ho
    · rcases set_get z1 with ⟨q1, q2, q3⟩ | ⟨q1, q2⟩
      · subst q2; cases o1
      · rcases set_get z2 with ⟨p1, p2, p3⟩ | ⟨p1, p2⟩
        · subst p2; cases o2
        · exact h2 j l ds es q2 p2 o1 o2 ne
/-- a slot gets a list of its own, new at p -/
theorem En.putOwnX (E : En K Δ C B σ H s) {i : Nat} {p : Addr} {us : HO} {x : Sl} (np : H p = none) (hx : x.isOwn = true) (h : OwnD K H B us x) :
    En K Δ C (p :: B) (σ.set i (some (.ref p))) (upd H p us) (s.put i x) := by
  have sm : Same H (upd H p us) := same_upd np
  have g : Go B H (p :: B) (upd H p us) := ⟨.of_same sm, fun b hb => by
    rcases List.mem_cons.mp hb with z | z
    · rw [z]
      exact .inr np
    · exact .inl z⟩
  have nB := E.newB np
  have n0 : C.H0 p = none := by
    cases e : C.H0 p with
    | none => rfl
    | some o => exact absurd np (E.mw.al p (by rw [e]; intro z; cases z))
  refine ⟨by show _ = (s.env.set i _).length; rw [List.length_set, List.length_set]; exact E.len, fun j e z => ?_, fun j z => ?_, (E.ex.go g).put i _ (own_noe hx) _, ?_, ?_, fun a ha => List.mem_cons_of_mem _ (E.sub a ha), fun a ha => List.mem_cons_of_mem _ (E.bc a ha), ?_, E.mw.trans (.of_same sm)⟩
  · rcases set_get z with ⟨h1, h2, h3⟩ | ⟨h1, h2⟩
    · subst h2; cases hx
    · obtain ⟨u, q1, q2⟩ := E.sl j e h2
      exact ⟨u, by rw [List.getElem?_set_ne (fun z => h1 z.symm)]; exact q1, Dv.go g _ _ q2⟩
  · rcases set_get z with ⟨h1, h2, h3⟩ | ⟨h1, h2⟩
    · subst h2; cases hx
    · rw [List.getElem?_set_ne (fun z => h1 z.symm)]
      exact E.dr j h2
  · obtain ⟨ad, h1, h2⟩ := E.ow
    refine ⟨fun j => if j = i then p else ad j, fun j ds' z ho => ?_, fun j l ds' es z1 z2 o1 o2 ne => ?_⟩
    · rcases set_get z with ⟨q1, q2, q3⟩ | ⟨q1, q2⟩
      · subst q1
        subst q2
        dsimp only
        rw [if_pos rfl]
        exact ⟨by rw [List.getElem?_set_self (by rw [E.len]; exact q3)], List.mem_cons_self, fun z => nB (E.sub p z), n0, us, upd_same, h.go g⟩
      · dsimp only
        rw [if_neg q1, List.getElem?_set_ne (fun z => q1 z.symm)]
        obtain ⟨a1, a2, a3, a4, us', a5, a6⟩ := h1 j ds' q2 ho
        exact ⟨a1, List.mem_cons_of_mem _ a2, a3, a4, us', sm _ _ a5, a6.go g⟩
    · have nown : ∀ (j : Nat) (ds' : Sl), s.env[j]? = some ds' → ds'.isOwn = true → p ≠ ad j := fun j ds' z ho => by
        obtain ⟨_, a2, _⟩ := h1 j ds' z ho
        intro e
        exact nB (by rw [e]; exact a2)
      rcases set_get z1 with ⟨q1, q2, q3⟩ | ⟨q1, q2⟩
      · rcases set_get z2 with ⟨p1, p2, p3⟩ | ⟨p1, p2⟩
        · exact absurd (q1.trans p1.symm) ne
        · show (if j = i then p else ad j) ≠ (if l = i then p else ad l)
          rw [if_pos q1, if_neg p1]
          exact nown l es p2 o2
      · rcases set_get z2 with ⟨p1, p2, p3⟩ | ⟨p1, p2⟩
        · show (if j = i then p else ad j) ≠ (if l = i then p else ad l)
          rw [if_neg q1, if_pos p1]
          exact fun e => nown j ds' q2 o1 e.symm
        · show (if j = i then p else ad j) ≠ (if l = i then p else ad l)
          rw [if_neg q1, if_neg p1]
          exact h2 j l ds' es q2 p2 o1 o2 ne
  · intro b hb
    rcases List.mem_cons.mp hb with z | z
    · rw [z, upd_same]
      intro q
      cases q
    · exact E.st.same sm b z
  · intro k hk
    exact Δ.mv (E.dk k hk) (fun a ha => agree_same sm E.st a (E.sub a ha)) (nl_same sm)
theorem En.putOwn (E : En K Δ C B σ H s) {i : Nat} {p : Addr} {us : List V} {ds : List PyData} (np : H p = none) (h : DvAll K H B us ds) :
    En K Δ C (p :: B) (σ.set i (some (.ref p))) (upd H p (.lst us)) (s.put i (.own ds)) := E.putOwnX np rfl (.l h)
/-- a list of its own changes -/
theorem Mv.of_soft {B : List Addr} {H : Hp} {D : Addr} {u w : HO} (h : H D = some u) (hu : ¬ Hard u) (hD : D ∈ B) : Mv B H (upd H D w) := by
  refine ⟨fun b o n e => ?_, fun b o n _ e => by rw [upd_ne (fun z => n (by rw [z]; exact hD))]; exact e, al_upd⟩
  by_cases z : b = D
  · subst z
    rw [h] at e
    rw [Option.some.inj e] at hu
    exact absurd n hu
  · rw [upd_ne z]
    exact e
theorem OwnD.soft {K : PySem.W.Frag} {H : Hp} {B : List Addr} {o : HO} {x : Sl} (h : OwnD K H B o x) : ¬ Hard o := by
  cases h with
  | l h => exact fun z => z.1 _ rfl
  | d => exact fun z => z.2.2.1 _ rfl
  | k _ _ => exact fun z => z.2.1 _ rfl
theorem En.growX (E : En K Δ C B σ H s) {i : Nat} {ds es : Sl} {p : Addr} (hi : s.env[i]? = some ds) (hx : ds.isOwn = true) (hy : es.isOwn = true) (hp : σ[i]? = some (some (.ref p))) {ws : HO} (h : OwnD K H B ws es) :
    En K Δ C B σ (upd H p ws) (s.put i es) ∧ Go B H B (upd H p ws) := by
  obtain ⟨ad, h1, h2⟩ := E.ow
  obtain ⟨a1, a2, a3, a4, us, a5, a6⟩ := h1 i ds hi hx
  have ep : p = ad i := by
    rw [a1] at hp
    exact (V.ref.inj (Option.some.inj (Option.some.inj hp))).symm
  subst ep
  have m : Mv B H (upd H (ad i) ws) := .of_soft a5 a6.soft a2
  have hlt : i < s.env.length := (List.getElem?_eq_some_iff.mp hi).1
  refine ⟨⟨by show _ = (s.env.set i _).length; rw [List.length_set]; exact E.len, fun j e z => ?_, fun j z => ?_, (E.ex.mv m).putS i _ (own_noe hy), ⟨ad, fun j ds' z ho => ?_, fun j l ds' es z1 z2 o1 o2 ne => ?_⟩, ?_, E.sub, E.bc, ?_, ?_⟩, .of_mv m⟩
  · rcases set_get z with ⟨_, q2, _⟩ | ⟨_, q2⟩
    · subst q2; cases hy
    · obtain ⟨v, q3, q4⟩ := E.sl j e q2
      exact ⟨v, q3, q4.mv m⟩
  · rcases set_get z with ⟨_, q2, _⟩ | ⟨_, q2⟩
    · subst q2; cases hy
    · exact E.dr j q2
  · rcases set_get z with ⟨q1, q2, _⟩ | ⟨q1, q2⟩
    · subst q1
      subst q2
      exact ⟨a1, a2, a3, a4, ws, upd_same, h.mv m⟩
    · obtain ⟨b1, b2, b3, b4, us', b5, b6⟩ := h1 j ds' q2 ho
      have ne : ad j ≠ ad i := h2 j i _ _ q2 hi ho hx q1
      exact ⟨b1, b2, b3, b4, us', by rw [upd_ne ne]; exact b5, b6.mv m⟩
  · have l1 : ∃ q, s.env[j]? = some q ∧ q.isOwn = true := by
      rcases set_get z1 with ⟨q1, _, _⟩ | ⟨_, q2⟩
      · rw [q1]
        exact ⟨_, hi, hx⟩
      · exact ⟨_, q2, o1⟩
    have l2 : ∃ q, s.env[l]? = some q ∧ q.isOwn = true := by
      rcases set_get z2 with ⟨q1, _, _⟩ | ⟨_, q2⟩
      · rw [q1]
        exact ⟨_, hi, hx⟩
      · exact ⟨_, q2, o2⟩
    obtain ⟨q, hq, hoq⟩ := l1
    obtain ⟨q', hq', hoq'⟩ := l2
    exact h2 j l q q' hq hq' hoq hoq' ne
  · intro b hb
    by_cases e : b = ad i
    · rw [e, upd_same]
      intro z
      cases z
    · rw [upd_ne e]
      exact E.st b hb
  · intro k hk
    exact Δ.mv (E.dk k hk) (fun a ha => upd_ne fun e => a3 (by rw [← e]; exact ha)) (nl_upd a5 a6.lsy)
  · exact E.mw.fresh a4
theorem En.grow (E : En K Δ C B σ H s) {i : Nat} {ds es : List PyData} {p : Addr} (hi : s.env[i]? = some (.own ds)) (hp : σ[i]? = some (some (.ref p))) {ws : List V} (h : DvAll K H B ws es) :
    En K Δ C B σ (upd H p (.lst ws)) (s.put i (.own es)) ∧ Go B H B (upd H p (.lst ws)) := E.growX hi rfl rfl hp (.l h)
theorem wipeA_get {e : List Sl} {i : Nat} {x : Sl} : ∀ {vs : List Nat}, (wipeA e vs)[i]? = some x → x ≠ .free → e[i]? = some x ∧ i ∉ vs
  | [], h, _ => ⟨h, List.not_mem_nil⟩
  | v :: vs, h, n => by
    rcases set_get h with ⟨_, q2, _⟩ | ⟨q1, q2⟩
    · exact absurd q2 n
    · obtain ⟨h1, h2⟩ := wipeA_get q2 n
      exact ⟨h1, fun z => (List.mem_cons.mp z).elim q1 h2⟩
theorem wipeA_len (e : List Sl) : ∀ vs : List Nat, (wipeA e vs).length = e.length
  | [] => rfl
  | v :: vs => by
    show ((wipeA e vs).set v .free).length = _
    rw [List.length_set, wipeA_len e vs]
theorem wipe_get (σ : L2.St) {i : Nat} : ∀ {vs : List Nat}, i ∉ vs → (wipe σ vs)[i]? = σ[i]?
  | [], _ => rfl
  | v :: vs, h => by
    show ((wipe σ vs).set v none)[i]? = _
    rw [List.getElem?_set_ne (fun z => h (by rw [z]; exact List.mem_cons_self)), wipe_get σ fun z => h (List.mem_cons_of_mem _ z)]
theorem wipe_set (σ : L2.St) {i : Nat} {x : Option V} : ∀ {vs : List Nat}, (i ∈ vs → wipe (σ.set i x) vs = wipe σ vs) ∧ (i ∉ vs → wipe (σ.set i x) vs = (wipe σ vs).set i x)
  | [] => ⟨fun h => (List.not_mem_nil h).elim, fun _ => rfl⟩
  | v :: vs => by
    have ih := wipe_set σ (i := i) (x := x) (vs := vs)
    constructor
    · intro h
      show (wipe (σ.set i x) vs).set v none = (wipe σ vs).set v none
      by_cases hv : i ∈ vs
      · rw [ih.1 hv]
      · rw [ih.2 hv]
        rcases List.mem_cons.mp h with e | e
        · subst e
          rw [List.set_set]
        · exact absurd e hv
    · intro h
      show (wipe (σ.set i x) vs).set v none = ((wipe σ vs).set v none).set i x
      rw [ih.2 fun z => h (List.mem_cons_of_mem _ z), List.set_comm _ _ fun z => h (by rw [z]; exact List.mem_cons_self)]
theorem En.wipe (E : En K Δ C B σ H s) (vs : List Nat) : En K Δ C B (wipe σ vs) H (s.wipe vs) := by
  refine ⟨by rw [wipe_length, E.len]; exact (wipeA_len _ _).symm, fun i d h => ?_, fun i h => ?_, fun i a D d fs h => ?_, ?_, E.st, E.sub, E.bc, E.dk, E.mw⟩
  · obtain ⟨h1, h2⟩ := wipeA_get h (by intro z; cases z)
    rw [wipe_get σ h2]
    exact E.sl i d h1
  · obtain ⟨h1, h2⟩ := wipeA_get h (by intro z; cases z)
    rw [wipe_get σ h2]
    exact E.dr i h1
  · obtain ⟨h1, h2⟩ := wipeA_get h (by intro z; cases z)
    rw [wipe_get σ h2]
    exact E.ex i a D d fs h1
  · obtain ⟨ad, h1, h2⟩ := E.ow
    refine ⟨ad, fun i ds h ho => ?_, fun i j ds es z1 z2 o1 o2 => ?_⟩
    · obtain ⟨q1, q2⟩ := wipeA_get h (by intro z; subst z; cases ho)
      rw [wipe_get σ q2]
      exact h1 i ds q1 ho
    · exact h2 i j ds es (wipeA_get z1 (by intro z; subst z; cases o1)).1 (wipeA_get z2 (by intro z; subst z; cases o2)).1 o1 o2
/-- one more thing is barred -/
theorem En.bar (E : En K Δ C B σ H s) {p : Addr} {us : List V} (np : H p = none) : En K Δ C (p :: B) σ (upd H p (.lst us)) s ∧ Go B H (p :: B) (upd H p (.lst us)) := by
  have sm : Same H (upd H p (.lst us)) := same_upd np
  have g : Go B H (p :: B) (upd H p (.lst us)) := ⟨.of_same sm, fun b hb => by
    rcases List.mem_cons.mp hb with z | z
    · rw [z]
      exact .inr np
    · exact .inl z⟩
  refine ⟨⟨E.len, fun j e z => ?_, E.dr, E.ex.go g, ?_, ?_, fun a ha => List.mem_cons_of_mem _ (E.sub a ha), fun a ha => List.mem_cons_of_mem _ (E.bc a ha), ?_, E.mw.trans (.of_same sm)⟩, g⟩
  · obtain ⟨u, q1, q2⟩ := E.sl j e z
    exact ⟨u, q1, Dv.go g _ _ q2⟩
  · obtain ⟨ad, h1, h2⟩ := E.ow
    refine ⟨ad, fun j ds' z ho => ?_, h2⟩
    obtain ⟨a1, a2, a3, a4, us', a5, a6⟩ := h1 j ds' z ho
    exact ⟨a1, List.mem_cons_of_mem _ a2, a3, a4, us', sm _ _ a5, a6.go g⟩
  · intro b hb
    rcases List.mem_cons.mp hb with z | z
    · rw [z, upd_same]
      intro q
      cases q
    · exact E.st.same sm b z
  · intro k hk
    exact Δ.mv (E.dk k hk) (fun a ha => agree_same sm E.st a (E.sub a ha)) (nl_same sm)
end
abbrev AE := AS → (PyData → AS → Prop) → Prop
abbrev AT := AS → (Bool → AS → Prop) → Prop
abbrev AA := AS → (List PyData → AS → Prop) → Prop
abbrev AI := AS → (List PyData → AS → Prop) → Prop
abbrev AO := AS → (Option Int → AS → Prop) → Prop
abbrev AG := PyData → AS → (AS → Prop) → Prop
abbrev AGs := List PyData → AS → (AS → Prop) → Prop
abbrev A2 := PyData → PyData → AS → (PyData → AS → Prop) → Prop
abbrev A1 := PyData → AS → (PyData → AS → Prop) → Prop
abbrev AC := List PyData → AS → (PyData → AS → Prop) → Prop
structure AEnds where
  nx : AS → Prop
  rt : PyData → AS → Prop
abbrev AStm := AEnds → AS → Prop
section
variable (K : PySem.W.Frag) (Δ : DK)
def RE (te : TE) (ae : AE) : Prop := ∀ (C : Cy) (B : List Addr) (σ : L2.St) (H : Hp) (s : AS) (Q : VK) (A : PyData → AS → Prop), En K Δ C B σ H s → ae s A →
  (∀ v d H' s', A d s' → Mx Δ.w C.as H H' → En K Δ C B σ H' s' → Dv K H' B v d → Q v H') → te σ H Q
def RT (tt : TT) (at_ : AT) : Prop := ∀ (C : Cy) (B : List Addr) (σ : L2.St) (H : Hp) (s : AS) (Q : Bool → Hp → Prop) (A : Bool → AS → Prop), En K Δ C B σ H s → at_ s A →
  (∀ b H' s', A b s' → Mx Δ.w C.as H H' → En K Δ C B σ H' s' → Q b H') → tt σ H Q
def RA (ta : TA) (aa : AA) : Prop := ∀ (C : Cy) (B : List Addr) (σ : L2.St) (H : Hp) (s : AS) (Q : List V → Hp → Prop) (A : List PyData → AS → Prop), En K Δ C B σ H s → aa s A →
  (∀ vs ds H' s', A ds s' → Mx Δ.w C.as H H' → En K Δ C B σ H' s' → DvAll K H' B vs ds → Q vs H') → ta σ H Q
def RO (to : TO) (ao : AO) : Prop := ∀ (C : Cy) (B : List Addr) (σ : L2.St) (H : Hp) (s : AS) (Q : Option Int → Hp → Prop) (A : Option Int → AS → Prop), En K Δ C B σ H s → ao s A →
  (∀ o H' s', A o s' → Mx Δ.w C.as H H' → En K Δ C B σ H' s' → Q o H') → to σ H Q
/-- an operation upon two things, upon one, upon arguments -/
def R2' (r : R2) (a : A2) : Prop := ∀ (C : Cy) (B : List Addr) (σ : L2.St) (H : Hp) (s : AS) (x y : V) (d e : PyData) (Q : VK) (A : PyData → AS → Prop), En K Δ C B σ H s → Dv K H B x d → Dv K H B y e → a d e s A →
  (∀ v d H', A d s → Same H H' → Dv K H' B v d → Q v H') → r x y H Q
def R1' (r : V → Hp → VK → Prop) (a : A1) : Prop := ∀ (C : Cy) (B : List Addr) (σ : L2.St) (H : Hp) (s : AS) (x : V) (d : PyData) (Q : VK) (A : PyData → AS → Prop), En K Δ C B σ H s → Dv K H B x d → a d s A →
  (∀ v d H', A d s → Same H H' → Dv K H' B v d → Q v H') → r x H Q
def RC' (r : List V → Hp → VK → Prop) (a : AC) : Prop := ∀ (C : Cy) (B : List Addr) (σ : L2.St) (H : Hp) (s : AS) (xs : List V) (ds : List PyData) (Q : VK) (A : PyData → AS → Prop), En K Δ C B σ H s → DvAll K H B xs ds → a ds s A →
  (∀ v d H', A d s → Same H H' → Dv K H' B v d → Q v H') → r xs H Q
def ItD (B : List Addr) (J : It) (H1 : Hp) (ds : List PyData) : Prop := ∀ B' H, Go B H1 B' H → (∀ b ∈ B', H b ≠ none) →
  (∀ (i : Nat) d, ds[i]? = some d → J.go i H ∧ ∀ x H', J.yld i H x H' → Same H H' ∧ Dv K H' B' x d) ∧ J.stop ds.length H
def RI (wi : TI) (ai : AI) : Prop := ∀ (C : Cy) (B : List Addr) (σ : L2.St) (H : Hp) (s : AS) (R : It → Hp → Prop) (A : List PyData → AS → Prop), En K Δ C B σ H s → ai s A →
  (∀ J ds H' s', A ds s' → Mx Δ.w C.as H H' → En K Δ C B σ H' s' → ItD K B J H' ds → R J H') → wi σ H R
def RG (g : TG) (ag : AG) (is : List Nat) : Prop := ∀ (C : Cy) (B : List Addr) (σ : L2.St) (H : Hp) (s : AS) (v : V) (d : PyData) (Q : L2.St → Hp → Prop) (A : AS → Prop), En K Δ C B σ H s → Dv K H B v d → ag d s A →
  (∀ σ' s', A s' → En K Δ C B σ' H s' → (∀ vs : List Nat, (∀ i ∈ is, i ∈ vs) → wipe σ' vs = wipe σ vs) → Q σ' H) → g v σ H Q
def RGs (g : TGs) (ag : AGs) (is : List Nat) : Prop := ∀ (C : Cy) (B : List Addr) (σ : L2.St) (H : Hp) (s : AS) (v : List V) (d : List PyData) (Q : L2.St → Hp → Prop) (A : AS → Prop), En K Δ C B σ H s → DvAll K H B v d → ag d s A →
  (∀ σ' s', A s' → En K Δ C B σ' H s' → (∀ vs : List Nat, (∀ i ∈ is, i ∈ vs) → wipe σ' vs = wipe σ vs) → Q σ' H) → g v σ H Q
/-- what is handed back -/
structure Rt (C : Cy) (H : Hp) (s : AS) (v : V) (d : PyData) : Prop where
  dv : Dv K H C.Bc v d
  dk : ∀ k, s.k = some k → Δ.P H C.r C.as k
  mw : Mx Δ.w C.as C.H0 H
def RS (t : TS) (a : AStm) : Prop := ∀ (C : Cy) (B : List Addr) (σ : L2.St) (H : Hp) (s : AS) (D : Ends) (A : AEnds), En K Δ C B σ H s → a A s →
  (∀ B' σ' H' s', A.nx s' → Go B H B' H' → En K Δ C B' σ' H' s' → D.nx σ' H') → (∀ v d H' s', A.rt d s' → Rt K Δ C H' s' v d → D.rt v H') → t D σ H
end
section
variable {K : PySem.W.Frag} {Δ : DK}
theorem DvAll.one {H : Hp} {B : List Addr} {xs : List V} {d : PyData} (h : DvAll K H B xs [d]) : ∃ v, xs = [v] ∧ Dv K H B v d := by
  cases h with
  | cons h1 h2 =>
    cases h2
    exact ⟨_, rfl, h1⟩
theorem DvAll.two {H : Hp} {B : List Addr} {xs : List V} {d e : PyData} (h : DvAll K H B xs [d, e]) : ∃ v u, xs = [v, u] ∧ Dv K H B v d ∧ Dv K H B u e := by
  cases h with
  | cons h1 h2 =>
    obtain ⟨u, e, q⟩ := h2.one
    subst e
    exact ⟨_, _, rfl, h1, q⟩
theorem DvAll.gets : ∀ {H : Hp} {B : List Addr} {vs : List V} {ds : List PyData}, DvAll K H B vs ds → ∀ {i : Nat} {d : PyData}, ds[i]? = some d → ∃ v, vs[i]? = some v ∧ Dv K H B v d
  | _, _, _, _, .nil, i, v, h => by cases h
  | _, _, _, _, .cons x r, 0, v, h => by
    cases h
    exact ⟨_, rfl, x⟩
  | _, _, _, _, .cons x r, i + 1, v, h => DvAll.gets r (i := i) h
theorem DvAll.ints : ∀ {H : Hp} {B : List Addr} {vs : List V} {ns : List Int}, DvAll K H B vs (ns.map PyData.int) → vs = ns.map V.int
  | _, _, [], [], _ => rfl
  | _, _, _ :: _, [], h => by cases h
  | _, _, vs, n :: ns, h => by
    cases h with
    | cons h1 h2 =>
      cases h1
      rw [List.map_cons, DvAll.ints h2]
theorem DvAll.bools : ∀ {H : Hp} {B : List Addr} {vs : List V} {ns : List Bool}, DvAll K H B vs (ns.map PyData.bool) → vs = ns.map V.bl
  | _, _, [], [], _ => rfl
  | _, _, _ :: _, [], h => by cases h
  | _, _, vs, n :: ns, h => by
    cases h with
    | cons h1 h2 =>
      cases h1
      rw [List.map_cons, DvAll.bools h2]
theorem dvInts {H : Hp} {B : List Addr} : ∀ ns : List Int, DvAll K H B (ns.map V.int) (ns.map PyData.int)
  | [] => .nil
  | n :: ns => .cons (.int n) (dvInts ns)
theorem Dv.tupI {H : Hp} {B : List Addr} {v : V} {ds : List PyData} (h : Dv K H B v (.tuple ds)) : ∃ p xs, v = .ref p ∧ SqT K H p xs ∧ DvAll K H B xs ds := by
  cases h with
  | tup h1 h2 => exact ⟨_, _, rfl, h1, h2⟩
theorem Dv.lstI {H : Hp} {B : List Addr} {v : V} {ds : List PyData} (h : Dv K H B v (.list ds)) : ∃ p xs, v = .ref p ∧ H p = some (.lst xs) ∧ p ∉ B ∧ DvAll K H B xs ds := by
  cases h with
  | lst h1 h2 h3 => exact ⟨_, _, rfl, h1, h2, h3⟩
theorem dv_int {H : Hp} {B : List Addr} {v : V} {i : Int} (h : Dv K H B v (.int i)) : v = .int i := by
  cases h
  rfl
theorem dv_bool {H : Hp} {B : List Addr} {v : V} {i : Bool} (h : Dv K H B v (.bool i)) : v = .bl i := by
  cases h
  rfl
theorem dv_str {H : Hp} {B : List Addr} {v : V} {i : Str} (h : Dv K H B v (.str i)) : v = .str i := by
  cases h
  rfl
theorem dv_none {H : Hp} {B : List Addr} {v : V} (h : Dv K H B v .none) : v = .non := by
  cases h
  rfl
/-- a new tuple, a new list -/
theorem new_tup {H : Hp} {B : List Addr} {p : Addr} {xs : List V} {ds : List PyData} (np : H p = none) (h : DvAll K H B xs ds) : Same H (upd H p (.tup xs)) ∧ Dv K (upd H p (.tup xs)) B (.ref p) (.tuple ds) :=
  ⟨same_upd np, .tup (SqT.of upd_same) (h.same (same_upd np))⟩
theorem new_lst {C : Cy} {B : List Addr} {σ : L2.St} {H : Hp} {s : AS} (E : En K Δ C B σ H s) {p : Addr} {xs : List V} {ds : List PyData} (np : H p = none) (h : DvAll K H B xs ds) : Same H (upd H p (.lst xs)) ∧ Dv K (upd H p (.lst xs)) B (.ref p) (.list ds) :=
  ⟨same_upd np, .lst upd_same (E.newB np) (h.same (same_upd np))⟩
def aVar (i : Nat) : AE := fun s A => ∃ d, s.env[i]? = some (.dat d) ∧ A d s
theorem re_var {i : Nat} : RE K Δ (tVar i) (aVar i) := by
  intro C B σ H s Q A E h q
  obtain ⟨d, hd, a⟩ := h
  obtain ⟨v, hv, dv⟩ := E.sl i d hd
  exact ⟨v, hv, q v d H s a (.refl _ _) E dv⟩
def aC (d : PyData) : AE := fun s A => A d s
theorem re_int {n : Int} : RE K Δ (tC (.int n)) (aC (.int n)) := fun C B σ H s Q A E h q => q _ _ H s h (.refl _ _) E (.int n)
theorem re_str {n : Str} : RE K Δ (tC (.str n)) (aC (.str n)) := fun C B σ H s Q A E h q => q _ _ H s h (.refl _ _) E (.str n)
theorem re_bl {n : Bool} : RE K Δ (tC (.bl n)) (aC (.bool n)) := fun C B σ H s Q A E h q => q _ _ H s h (.refl _ _) E (.bl n)
theorem re_non : RE K Δ (tC .non) (aC .none) := fun C B σ H s Q A E h q => q _ _ H s h (.refl _ _) E .non
def aOp (r : A2) (a b : AE) : AE := fun s A => a s fun d s1 => b s1 fun e s2 => r d e s2 A
theorem re_op {r : R2} {ar : A2} {ta tb : TE} {aa ab : AE} (hr : R2' K Δ r ar) (ha : RE K Δ ta aa) (hb : RE K Δ tb ab) : RE K Δ (tOp r ta tb) (aOp ar aa ab) := by
  intro C B σ H s Q A E h q
  refine ha C B σ H s _ _ E h fun v d H1 s1 a1 m1 E1 dv1 => hb C B σ H1 s1 _ _ E1 a1 fun u e H2 s2 a2 m2 E2 dv2 => ?_
  refine hr C B σ H2 s2 v u d e Q A E2 (dv1.mv (m2.up E2.sub)) dv2 a2 fun w f H3 a3 s3 dv3 => ?_
  exact q w f H3 s2 a3 ((m1.trans m2).trans (.of_same s3)) (E2.same s3) dv3
def aUn (r : A1) (a : AE) : AE := fun s A => a s fun d s1 => r d s1 A
theorem re_un {r : V → Hp → VK → Prop} {ar : A1} {ta : TE} {aa : AE} (hr : R1' K Δ r ar) (ha : RE K Δ ta aa) : RE K Δ (tUn r ta) (aUn ar aa) := by
  intro C B σ H s Q A E h q
  refine ha C B σ H s _ _ E h fun v d H1 s1 a1 m1 E1 dv1 => ?_
  refine hr C B σ H1 s1 v d Q A E1 dv1 a1 fun w f H3 a3 s3 dv3 => ?_
  exact q w f H3 s1 a3 (m1.trans (.of_same s3)) (E1.same s3) dv3
def aNil : AA := fun s A => A [] s
def aCons (a : AE) (as : AA) : AA := fun s A => a s fun d s1 => as s1 fun ds s2 => A (d :: ds) s2
theorem ra_nil : RA K Δ tNil aNil := fun C B σ H s Q A E h q => q [] [] H s h (.refl _ _) E .nil
theorem ra_cons {te : TE} {ta : TA} {ae : AE} {aa : AA} (h1 : RE K Δ te ae) (h2 : RA K Δ ta aa) : RA K Δ (tCons te ta) (aCons ae aa) := by
  intro C B σ H s Q A E h q
  refine h1 C B σ H s _ _ E h fun v d H1 s1 a1 m1 E1 dv1 => h2 C B σ H1 s1 _ _ E1 a1 fun vs ds H2 s2 a2 m2 E2 dv2 => ?_
  exact q (v :: vs) (d :: ds) H2 s2 a2 (m1.trans m2) E2 (.cons (dv1.mv (m2.up E2.sub)) dv2)
def aCB (r : AC) (aa : AA) : AE := fun s A => aa s fun ds s1 => r ds s1 A
theorem re_cb {r : List V → Hp → VK → Prop} {ar : AC} {ta : TA} {aa : AA} (hr : RC' K Δ r ar) (ha : RA K Δ ta aa) : RE K Δ (tCB r ta) (aCB ar aa) := by
  intro C B σ H s Q A E h q
  refine ha C B σ H s _ _ E h fun vs ds H1 s1 a1 m1 E1 dv1 => ?_
  refine hr C B σ H1 s1 vs ds Q A E1 dv1 a1 fun w f H3 a3 s3 dv3 => ?_
  exact q w f H3 s1 a3 (m1.trans (.of_same s3)) (E1.same s3) dv3
def aLst (aa : AA) : AE := fun s A => aa s fun ds s1 => ds.length ≤ 1000 ∧ A (.list ds) s1
def aTup (aa : AA) : AE := fun s A => aa s fun ds s1 => ds.length ≤ 1000 ∧ A (.tuple ds) s1
theorem re_lst {ta : TA} {aa : AA} (ha : RA K Δ ta aa) : RE K Δ (tLst ta) (aLst aa) := by
  intro C B σ H s Q A E h q
  refine ha C B σ H s _ _ E h fun vs ds H1 s1 a1 m1 E1 dv1 => ⟨?_, fun p np => ?_⟩
  · rw [dv1.len]
    exact Nat.le_of_lt (small1000 a1.1)
  · obtain ⟨sm, dv⟩ := new_lst E1 np dv1
    exact q _ _ _ s1 a1.2 (m1.trans (.of_same sm)) (E1.same sm) dv
theorem re_tup {ta : TA} {aa : AA} (ha : RA K Δ ta aa) : RE K Δ (tTup ta) (aTup aa) := by
  intro C B σ H s Q A E h q
  refine ha C B σ H s _ _ E h fun vs ds H1 s1 a1 m1 E1 dv1 => ⟨?_, fun p np => ?_⟩
  · rw [dv1.len]
    exact Nat.le_of_lt (small1000 a1.1)
  · obtain ⟨sm, dv⟩ := new_tup np dv1
    exact q _ _ _ s1 a1.2 (m1.trans (.of_same sm)) (E1.same sm) dv
theorem re_tupF {ta : TA} {aa : AA} (ha : RA K Δ ta aa) : RE K Δ (tTupF ta) (aTup aa) := by
  intro C B σ H s Q A E h q
  refine ha C B σ H s _ _ E h fun vs ds H1 s1 a1 m1 E1 dv1 => ⟨?_, fun p o np od => ?_⟩
  · rw [dv1.len]
    exact Nat.le_of_lt (small1000 a1.1)
  · have sm := same_upd (o := .frz o (.tup vs)) np
    exact q _ _ _ s1 a1.2 (m1.trans (.of_same sm)) (E1.same sm) (.tup (.inl (.inr ⟨o, upd_same⟩)) (dv1.same sm))
theorem ro_none : RO K Δ tNoPart (fun s A => A none s) := fun C B σ H s Q A E h q => q none H s h (.refl _ _) E
theorem ro_some {te : TE} {ae : AE} (h1 : RE K Δ te ae) : RO K Δ (tPart te) (fun s A => ae s fun d s1 => ∃ i, d = .int i ∧ A (some i) s1) := by
  intro C B σ H s Q A E h q
  refine h1 C B σ H s _ _ E h fun v d H1 s1 a1 m1 E1 dv1 => ?_
  obtain ⟨i, e, a⟩ := a1
  subst e
  exact ⟨i, dv_int dv1, q _ H1 s1 a m1 E1⟩
def cutD (xs : List PyData) (lo hi : Option Int) : List PyData := (xs.drop (HT.sIx xs.length 0 lo)).take (HT.sIx xs.length xs.length hi - HT.sIx xs.length 0 lo)
theorem cutDv {H : Hp} {B : List Addr} {xs : List V} {ds : List PyData} (h : DvAll K H B xs ds) (lo hi : Option Int) : DvAll K H B (cutV xs lo hi) (cutD ds lo hi) := by
  unfold cutV cutD
  rw [h.len]
  exact (h.drop _).take _
def aSlT (ae : AE) (al ah : AO) : AE := fun s A => ae s fun d s1 => al s1 fun lo s2 => ah s2 fun hi s3 => ∃ ds, d = .tuple ds ∧ A (.tuple (cutD ds lo hi)) s3
def aSlL (ae : AE) (al ah : AO) : AE := fun s A => ae s fun d s1 => al s1 fun lo s2 => ah s2 fun hi s3 => ∃ ds, d = .list ds ∧ A (.list (cutD ds lo hi)) s3
theorem cutD_all {ds : List PyData} {lo hi : Option Int} (h1 : HT.sIx ds.length 0 lo = 0) (h2 : HT.sIx ds.length ds.length hi = ds.length) : cutD ds lo hi = ds := by
  unfold cutD
  rw [h1, h2, List.drop_zero, Nat.sub_zero, List.take_of_length_le (Nat.le_refl _)]
theorem re_slT {te : TE} {tl th : TO} {ae : AE} {al ah : AO} (h1 : RE K Δ te ae) (h2 : RO K Δ tl al) (h3 : RO K Δ th ah) : RE K Δ (tSl (rSlA K) te tl th) (aSlT ae al ah) := by
  intro C B σ H s Q A E h q
  refine h1 C B σ H s _ _ E h fun v d H1 s1 a1 m1 E1 dv1 => h2 C B σ H1 s1 _ _ E1 a1 fun lo H2 s2 a2 m2 E2 => h3 C B σ H2 s2 _ _ E2 a2 fun hi H3 s3 a3 m3 E3 => ?_
  obtain ⟨ds, e, a⟩ := a3
  subst e
  have dv3 := (dv1.mv (m2.up E2.sub)).mv (m3.up E3.sub)
  have m := (m1.trans m2).trans m3
  obtain ⟨p, xs, ev, hp, hd⟩ := dv3.tupI
  subst ev
  refine ⟨p, xs, rfl, hp, fun hh => ?_, fun _ p2 n2 => ?_⟩
  · rw [hd.len] at hh
    refine q _ _ _ s3 a m E3 ?_
    rw [cutD_all hh.1 hh.2]
    exact dv3
  · obtain ⟨sm, dv⟩ := new_tup n2 (cutDv hd lo hi)
    exact q _ _ _ s3 a (m.trans (.of_same sm)) (E3.same sm) dv
theorem re_slL {te : TE} {tl th : TO} {ae : AE} {al ah : AO} (h1 : RE K Δ te ae) (h2 : RO K Δ tl al) (h3 : RO K Δ th ah) : RE K Δ (tSl (rSlL K) te tl th) (aSlL ae al ah) := by
  intro C B σ H s Q A E h q
  refine h1 C B σ H s _ _ E h fun v d H1 s1 a1 m1 E1 dv1 => h2 C B σ H1 s1 _ _ E1 a1 fun lo H2 s2 a2 m2 E2 => h3 C B σ H2 s2 _ _ E2 a2 fun hi H3 s3 a3 m3 E3 => ?_
  obtain ⟨ds, e, a⟩ := a3
  subst e
  have dv3 := (dv1.mv (m2.up E2.sub)).mv (m3.up E3.sub)
  have m := (m1.trans m2).trans m3
  obtain ⟨p, xs, ev, hp, hB, hd⟩ := dv3.lstI
  subst ev
  refine ⟨p, xs, rfl, SqL.of hp, fun p2 n2 => ?_⟩
  obtain ⟨sm, dv⟩ := new_lst E3 n2 (cutDv hd lo hi)
  exact q _ _ _ s3 a (m.trans (.of_same sm)) (E3.same sm) dv
def aAndV (a b : AE) : AE := fun s A => a s fun d s1 => ∃ c, d = .bool c ∧ if c = true then b s1 A else A (.bool false) s1
def aOrV (a b : AE) : AE := fun s A => a s fun d s1 => ∃ c, d = .bool c ∧ if c = true then A (.bool true) s1 else b s1 A
def aNotV (a : AE) : AE := fun s A => a s fun d s1 => ∃ c, d = .bool c ∧ A (.bool (!c)) s1
theorem re_andV {ta tb : TE} {aa ab : AE} (ha : RE K Δ ta aa) (hb : RE K Δ tb ab) : RE K Δ (tAndV ta tb) (aAndV aa ab) := by
  intro C B σ H s Q A E h q
  refine ha C B σ H s _ _ E h fun v d H1 s1 a1 m1 E1 dv1 => ?_
  obtain ⟨c, e, a⟩ := a1
  subst e
  refine ⟨c, dv_bool dv1, ?_⟩
  cases c with
  | true =>
    rw [if_pos rfl] at a ⊢
    exact hb C B σ H1 s1 _ _ E1 a fun w f H3 s3 a3 m3 E3 dv3 => q w f H3 s3 a3 (m1.trans m3) E3 dv3
  | false =>
    rw [if_neg Bool.false_ne_true] at a ⊢
    exact q _ _ _ _ a m1 E1 (.bl false)
theorem re_orV {ta tb : TE} {aa ab : AE} (ha : RE K Δ ta aa) (hb : RE K Δ tb ab) : RE K Δ (tOrV ta tb) (aOrV aa ab) := by
  intro C B σ H s Q A E h q
  refine ha C B σ H s _ _ E h fun v d H1 s1 a1 m1 E1 dv1 => ?_
  obtain ⟨c, e, a⟩ := a1
  subst e
  refine ⟨c, dv_bool dv1, ?_⟩
  cases c with
  | true =>
    rw [if_pos rfl] at a ⊢
    exact q _ _ _ _ a m1 E1 (.bl true)
  | false =>
    rw [if_neg Bool.false_ne_true] at a ⊢
    exact hb C B σ H1 s1 _ _ E1 a fun w f H3 s3 a3 m3 E3 dv3 => q w f H3 s3 a3 (m1.trans m3) E3 dv3
theorem re_notV {ta : TE} {aa : AE} (ha : RE K Δ ta aa) : RE K Δ (tNotV ta) (aNotV aa) := by
  intro C B σ H s Q A E h q
  refine ha C B σ H s _ _ E h fun v d H1 s1 a1 m1 E1 dv1 => ?_
  obtain ⟨c, e, a⟩ := a1
  subst e
  exact ⟨c, dv_bool dv1, q _ _ _ _ a m1 E1 (.bl _)⟩
def aIf (c : AT) (a b : AE) : AE := fun s A => c s fun k s1 => if k = true then a s1 A else b s1 A
theorem re_if {tc : TT} {ac : AT} {ta tb : TE} {aa ab : AE} (hc : RT K Δ tc ac) (ha : RE K Δ ta aa) (hb : RE K Δ tb ab) : RE K Δ (tIf tc ta tb) (aIf ac aa ab) := by
  intro C B σ H s Q A E h q
  refine hc C B σ H s _ _ E h fun c H1 s1 a1 m1 E1 => ?_
  cases c with
  | true =>
    rw [if_pos rfl] at a1 ⊢
    exact ha C B σ H1 s1 _ _ E1 a1 fun w f H3 s3 a3 m3 E3 dv3 => q w f H3 s3 a3 (m1.trans m3) E3 dv3
  | false =>
    rw [if_neg Bool.false_ne_true] at a1 ⊢
    exact hb C B σ H1 s1 _ _ E1 a1 fun w f H3 s3 a3 m3 E3 dv3 => q w f H3 s3 a3 (m1.trans m3) E3 dv3
def aChain (r r' : A2) (a b c : AE) : AE := fun s A => a s fun d s1 => b s1 fun e s2 => r d e s2 fun z s3 => ∃ k, z = .bool k ∧ if k = true then c s3 fun f s4 => r' e f s4 A else A (.bool false) s3
theorem re_chain {r r' : R2} {ar ar' : A2} {ta tb tc : TE} {aa ab ac : AE} (hr : R2' K Δ r ar) (hr' : R2' K Δ r' ar') (ha : RE K Δ ta aa) (hb : RE K Δ tb ab) (hc : RE K Δ tc ac) : RE K Δ (tChain r r' ta tb tc) (aChain ar ar' aa ab ac) := by
  intro C B σ H s Q A E h q
  refine ha C B σ H s _ _ E h fun v d H1 s1 a1 m1 E1 dv1 => hb C B σ H1 s1 _ _ E1 a1 fun u e H2 s2 a2 m2 E2 dv2 => ?_
  refine hr C B σ H2 s2 v u d e _ _ E2 (dv1.mv (m2.up E2.sub)) dv2 a2 fun w f H3 a3 s3 dv3 => ?_
  obtain ⟨k, ek, a3⟩ := a3
  subst ek
  refine ⟨k, dv_bool dv3, ?_⟩
  have E3 := E2.same s3
  have m := (m1.trans m2).trans (.of_same s3)
  cases k with
  | true =>
    rw [if_pos rfl] at a3 ⊢
    refine hc C B σ H3 s2 _ _ E3 a3 fun x g H4 s4 a4 m4 E4 dv4 => ?_
    refine hr' C B σ H4 s4 u x e g Q A E4 ((dv2.same s3).mv (m4.up E4.sub)) dv4 a4 fun y o H5 a5 s5 dv5 => ?_
    exact q y o H5 s4 a5 ((m.trans m4).trans (.of_same s5)) (E4.same s5) dv5
  | false =>
    rw [if_neg Bool.false_ne_true] at a3 ⊢
    exact q _ _ _ _ a3 m E3 (.bl false)
def aTest (a : AE) : AT := fun s A => a s fun d s1 => ∃ k, d = .bool k ∧ A k s1
theorem rt_test {te : TE} {ae : AE} (h1 : RE K Δ te ae) : RT K Δ (tTest te) (aTest ae) := by
  intro C B σ H s Q A E h q
  refine h1 C B σ H s _ _ E h fun v d H1 s1 a1 m1 E1 dv1 => ?_
  obtain ⟨c, e, a⟩ := a1
  subst e
  exact ⟨c, dv_bool dv1, q _ _ _ a m1 E1⟩
theorem rt_b {te : TE} {ae : AE} (h1 : RE K Δ te ae) : RT K Δ (tB te) (aTest ae) := by
  intro C B σ H s Q A E h q
  refine h1 C B σ H s _ _ E h fun v d H1 s1 a1 m1 E1 dv1 => ?_
  obtain ⟨c, e, a⟩ := a1
  subst e
  exact ⟨c, dv_bool dv1, q _ _ _ a m1 E1⟩
theorem rt_yes : RT K Δ tYes (fun s A => A true s) := fun C B σ H s Q A E h q => q true H s h (.refl _ _) E
def aAnd (a b : AT) : AT := fun s A => a s fun c s1 => if c = true then b s1 A else A false s1
def aOr (a b : AT) : AT := fun s A => a s fun c s1 => if c = true then A true s1 else b s1 A
def aNot (a : AT) : AT := fun s A => a s fun c s1 => A (!c) s1
theorem rt_and {ta tb : TT} {aa ab : AT} (ha : RT K Δ ta aa) (hb : RT K Δ tb ab) : RT K Δ (tAnd ta tb) (aAnd aa ab) := by
  intro C B σ H s Q A E h q
  refine ha C B σ H s _ _ E h fun c H1 s1 a m1 E1 => ?_
  cases c with
  | true =>
    rw [if_pos rfl] at a ⊢
    exact hb C B σ H1 s1 _ _ E1 a fun w H3 s3 a3 m3 E3 => q w H3 s3 a3 (m1.trans m3) E3
  | false =>
    rw [if_neg Bool.false_ne_true] at a ⊢
    exact q _ _ _ a m1 E1
theorem rt_or {ta tb : TT} {aa ab : AT} (ha : RT K Δ ta aa) (hb : RT K Δ tb ab) : RT K Δ (tOr ta tb) (aOr aa ab) := by
  intro C B σ H s Q A E h q
  refine ha C B σ H s _ _ E h fun c H1 s1 a m1 E1 => ?_
  cases c with
  | true =>
    rw [if_pos rfl] at a ⊢
    exact q _ _ _ a m1 E1
  | false =>
    rw [if_neg Bool.false_ne_true] at a ⊢
    exact hb C B σ H1 s1 _ _ E1 a fun w H3 s3 a3 m3 E3 => q w H3 s3 a3 (m1.trans m3) E3
theorem rt_not {ta : TT} {aa : AT} (ha : RT K Δ ta aa) : RT K Δ (tNot ta) (aNot aa) := fun C B σ H s Q A E h q =>
  ha C B σ H s _ _ E h fun c H1 s1 a m1 E1 => q _ _ _ a m1 E1
def aRng1 (aa : AA) : AI := fun s A => aa s fun ds s1 => ∃ j : Int, ds = [.int j] ∧ -(2 ^ 62) ≤ j ∧ j < 2 ^ 62 ∧ A ((List.range j.toNat).map fun i => .int (0 + (i : Nat))) s1
def aRng2 (aa : AA) : AI := fun s A => aa s fun ds s1 => ∃ i j : Int, ds = [.int i, .int j] ∧ (-(2 ^ 62) ≤ i ∧ i < 2 ^ 62 ∧ -(2 ^ 62) ≤ j ∧ j < 2 ^ 62) ∧ A ((List.range (j - i).toNat).map fun x => .int (i + (x : Nat))) s1
theorem itd_range {B : List Addr} {H : Hp} {lo : Int} {n : Nat} : ItD K B (Itr lo n) H ((List.range n).map fun i => .int (lo + (i : Nat))) := by
  intro B' H' g _
  refine ⟨fun i d hd => ?_, ?_⟩
  · rw [List.getElem?_map] at hd
    by_cases hi : i < n
    · rw [List.getElem?_range hi] at hd
      cases hd
      refine ⟨hi, fun x H2 y => ?_⟩
      obtain ⟨e1, e2⟩ := y
      subst e1 e2
      exact ⟨Same.refl _, .int _⟩
    · rw [List.getElem?_eq_none (by rw [List.length_range]; omega)] at hd
      cases hd
  · show n ≤ _
    rw [List.length_map, List.length_range]
    exact Nat.le_refl _
theorem ri_rng1 {ta : TA} {aa : AA} (ha : RA K Δ ta aa) : RI K Δ (iRng1 ta) (aRng1 aa) := by
  intro C B σ H s R A E h q
  refine ha C B σ H s _ _ E h fun vs ds H1 s1 a1 m1 E1 dv1 => ?_
  obtain ⟨j, e, h1, h2, a⟩ := a1
  subst e
  obtain ⟨v, ev, dv⟩ := dv1.one
  cases dv
  exact ⟨j, ev, h1, h2, q _ _ _ _ a m1 E1 itd_range⟩
theorem ri_rng2 {ta : TA} {aa : AA} (ha : RA K Δ ta aa) : RI K Δ (iRng2 ta) (aRng2 aa) := by
  intro C B σ H s R A E h q
  refine ha C B σ H s _ _ E h fun vs ds H1 s1 a1 m1 E1 dv1 => ?_
  obtain ⟨i, j, e, h1, a⟩ := a1
  subst e
  obtain ⟨v, u, ev, dv, du⟩ := dv1.two
  cases dv
  cases du
  exact ⟨i, j, ev, h1, q _ _ _ _ a m1 E1 itd_range⟩
def aItT (a : AE) : AI := fun s A => a s fun d s1 => ∃ ds, d = .tuple ds ∧ A ds s1
def aItL (a : AE) : AI := fun s A => a s fun d s1 => ∃ ds, d = .list ds ∧ A ds s1
theorem ri_tup {te : TE} {ae : AE} (h1 : RE K Δ te ae) : RI K Δ (iTup K te) (aItT ae) := by
  intro C B σ H s R A E h q
  refine h1 C B σ H s _ _ E h fun v d H1 s1 a1 m1 E1 dv1 => ?_
  obtain ⟨ds, e, a⟩ := a1
  subst e
  obtain ⟨p, xs, ev, hp, hd⟩ := dv1.tupI
  subst ev
  refine ⟨p, rfl, ⟨xs, hp⟩, q _ _ _ _ a m1 E1 fun B' H' g _ => ?_⟩
  have hp' := stayT_tup g.mv.st hp
  have hd' := DvAll.go g _ _ hd
  refine ⟨fun i d hd => ?_, ⟨xs, hp', by rw [hd.len]; exact Nat.le_refl _⟩⟩
  obtain ⟨x, hx, dx⟩ := hd'.gets hd
  refine ⟨⟨xs, x, hp', hx⟩, fun y H2 yl => ?_⟩
  obtain ⟨e1, e2⟩ := yl
  subst e1
  have := e2 xs hp'
  rw [hx] at this
  cases this
  exact ⟨Same.refl _, dx⟩
theorem ri_lst {te : TE} {ae : AE} (h1 : RE K Δ te ae) : RI K Δ (iList K te) (aItL ae) := by
  intro C B σ H s R A E h q
  refine h1 C B σ H s _ _ E h fun v d H1 s1 a1 m1 E1 dv1 => ?_
  obtain ⟨ds, e, a⟩ := a1
  subst e
  obtain ⟨p, xs, ev, hp, hB, hd⟩ := dv1.lstI
  subst ev
  refine ⟨p, rfl, ⟨xs, SqL.of hp⟩, q _ _ _ _ a m1 E1 fun B' H' g _ => ?_⟩
  have hp' : SqL K H' p xs := SqL.of (g.mv.kp _ _ hB rfl hp)
  have hd' := DvAll.go g _ _ hd
  refine ⟨fun i d hd => ?_, ⟨xs, hp', by rw [hd.len]; exact Nat.le_refl _⟩⟩
  obtain ⟨x, hx, dx⟩ := hd'.gets hd
  refine ⟨⟨xs, x, hp', hx⟩, fun y H2 yl => ?_⟩
  obtain ⟨e1, e2⟩ := yl
  subst e1
  have := e2 xs hp'
  rw [hx] at this
  cases this
  exact ⟨Same.refl _, dx⟩
def gaName (i : Nat) : AG := fun d s A => A (s.put i (.dat d))
theorem rg_name {i : Nat} : RG K Δ (gName i) (gaName i) [i] := by
  intro C B σ H s v d Q A E dv h q
  refine q _ _ h (E.put dv) fun vs hv => ?_
  exact (wipe_set σ).1 (hv i List.mem_cons_self)
def gaNil : AGs := fun ds s A => ds = [] ∧ A s
def gaCons (g : AG) (r : AGs) : AGs := fun ds s A => ∃ d es, ds = d :: es ∧ g d s fun s1 => r es s1 A
theorem rgs_nil : RGs K Δ gNil gaNil [] := by
  intro C B σ H s v d Q A E dv h q
  obtain ⟨e, a⟩ := h
  subst e
  cases dv
  exact ⟨rfl, q _ _ a E fun _ _ => rfl⟩
theorem rgs_cons {g : TG} {ga : AG} {r : TGs} {ra : AGs} {is js : List Nat} (h1 : RG K Δ g ga is) (h2 : RGs K Δ r ra js) : RGs K Δ (gCons g r) (gaCons ga ra) (is ++ js) := by
  intro C B σ H s v d Q A E dv h q
  obtain ⟨d0, es, e, a⟩ := h
  subst e
  cases dv with
  | cons dx dr =>
    refine ⟨_, _, rfl, h1 C B σ H s _ _ _ _ E dx a fun σ1 s1 a1 E1 w1 => h2 C B σ1 H s1 _ _ _ _ E1 dr a1 fun σ2 s2 a2 E2 w2 => ?_⟩
    exact q _ _ a2 E2 fun vs hv => (w2 vs fun i hi => hv i (List.mem_append_right _ hi)).trans (w1 vs fun i hi => hv i (List.mem_append_left _ hi))
def gaTup (n : Nat) (r : AGs) : AG := fun d s A => ∃ ds, d = .tuple ds ∧ ds.length = n ∧ r ds s A
theorem rg_tup {n : Nat} {r : TGs} {ra : AGs} {is : List Nat} (h1 : RGs K Δ r ra is) : RG K Δ (gTup K n r) (gaTup n ra) is := by
  intro C B σ H s v d Q A E dv h q
  obtain ⟨ds, e, hl, a⟩ := h
  subst e
  obtain ⟨p, xs, ev, hp, hd⟩ := dv.tupI
  subst ev
  exact ⟨p, xs, rfl, hp, by rw [hd.len]; exact hl, h1 C B σ H s _ _ _ _ E hd a q⟩
def LcB (xs : List PyData) (s1 : AS) (g : AG) (tt : AT) (te : AE) (vs : List Nat) (A : PyData → AS → Prop) : Prop := xs.length ≤ 100000 ∧ ∃ Inv : Nat → List PyData → Option Kx → Prop, Inv 0 [] s1.k ∧
  (∀ i x acc k, xs[i]? = some x → Inv i acc k → g x ⟨wipeA s1.env vs, k⟩ fun s2 => tt s2 fun b s3 => if b = true then te s3 fun d s4 => Inv (i + 1) (acc ++ [d]) s4.k else Inv (i + 1) acc s3.k) ∧
  ∀ acc k, Inv xs.length acc k → A (.list acc) ⟨s1.env, k⟩
def aLc (ai : AI) (g : AG) (tt : AT) (te : AE) (vs : List Nat) : AE := fun s A => ai s fun xs s1 => LcB xs s1 g tt te vs A
theorem re_lc {wi : TI} {ai : AI} {g : TG} {ga : AG} {is : List Nat} {tt : TT} {at_ : AT} {te : TE} {ae : AE} {vs : List Nat} (hi : RI K Δ wi ai) (hg : RG K Δ g ga is) (ht : RT K Δ tt at_) (he : RE K Δ te ae) (hv : (is.all fun i => vs.contains i) = true) :
    RE K Δ (tLc wi g tt te vs) (aLc ai ga at_ ae vs) := by
  intro C B σ H s Q A E h q
  refine hi C B σ H s _ _ E h fun J xs H1 s1 a1 m1 E1 itd D nD => ?_
  obtain ⟨hlen, Inv, inv0, turn, done⟩ := a1
  have hvs : ∀ i ∈ is, i ∈ vs := fun i hi => by
    have := List.all_eq_true.mp hv i hi
    exact List.contains_iff_mem.mp this
  have nDB := E1.newB nD
  obtain ⟨E2, g2⟩ := E1.bar (us := []) nD
  refine ⟨fun i m H => m = xs.length - i ∧ i ≤ xs.length ∧ ∃ us acc k, Inv i acc k ∧ H D = some (.lst us) ∧ DvAll K H (D :: B) us acc ∧ En K Δ C (D :: B) σ H ⟨s1.env, k⟩ ∧ Go B H1 (D :: B) H ∧ acc.length ≤ i ∧ Mx Δ.w C.as H1 H, ⟨xs.length, ?_⟩, ?_⟩
  · exact ⟨(Nat.sub_zero _).symm, Nat.zero_le _, [], [], s1.k, inv0, upd_same, .nil, E2, g2, Nat.le_refl _, .of_same (same_upd nD)⟩
  rintro i m H ⟨rfl, hi, us, acc, k, inv, hD, hd, E3, g3, la, mx3⟩
  have st3 : ∀ b ∈ D :: B, H b ≠ none := E3.st
  by_cases hlt : i < xs.length
  · obtain ⟨go, yld⟩ := (itd _ _ g3 st3).1 i xs[i] (List.getElem?_eq_getElem hlt)
    refine .inr ⟨go, fun H' => ∃ us acc k, Inv (i + 1) acc k ∧ H' D = some (.lst us) ∧ DvAll K H' (D :: B) us acc ∧ En K Δ C (D :: B) σ H' ⟨s1.env, k⟩ ∧ Go B H1 (D :: B) H' ∧ acc.length ≤ i + 1 ∧ Mx Δ.w C.as H1 H', fun H' z => ⟨xs.length - (i + 1), by omega, rfl, hlt, z⟩, fun x H' y => ?_⟩
    obtain ⟨sm, dx⟩ := yld x H' y
    have E4 := E3.same sm
    have asB : ∀ a ∈ C.as, a ∈ D :: B := E3.sub
    refine hg C (D :: B) (wipe σ vs) H' ⟨wipeA s1.env vs, k⟩ x _ _ _ (E4.wipe vs) dx (turn i xs[i] acc k (List.getElem?_eq_getElem hlt) inv) fun σ5 s5 a5 E5 w5 => ⟨?_, ?_⟩
    · have := w5 vs hvs
      rw [this]
      have idem : ∀ (us : List Nat), (∀ u ∈ us, u ∈ vs) → wipe (wipe σ vs) us = wipe σ vs := by
        intro us
        induction us with
        | nil => exact fun _ => rfl
        | cons u us ih =>
          intro hu
          show (wipe (wipe σ vs) us).set u none = wipe σ vs
          rw [ih fun z hz => hu z (List.mem_cons_of_mem _ hz)]
          have hm := hu u List.mem_cons_self
          by_cases hl : u < (wipe σ vs).length
          · have : (wipe σ vs)[u]? = some none := by
              cases e : (wipe σ vs)[u]? with
              | none =>
                rw [List.getElem?_eq_none_iff] at e
                omega
              | some o =>
                cases o with
                | none => rfl
                | some v => exact absurd hm (wipe_some e).2
            apply List.ext_getElem?
            intro j
            by_cases hj : u = j
            · subst hj
              rw [List.getElem?_set_self hl, this]
            · rw [List.getElem?_set_ne hj]
          · apply List.ext_getElem?
            intro j
            by_cases hj : u = j
            · subst hj
              rw [List.getElem?_eq_none (by rw [List.length_set]; omega), List.getElem?_eq_none (by omega)]
            · rw [List.getElem?_set_ne hj]
      exact idem vs fun u hu => hu
    · refine ht C (D :: B) σ5 H' s5 _ _ E5 a5 fun b H6 s6 a6 m6 E6 => ?_
      have moved : ∀ {H7 : Hp} {k7 : Option Kx}, Mx Δ.w C.as H' H7 → (∀ k, k7 = some k → Δ.P H7 C.r C.as k) → En K Δ C (D :: B) σ H7 ⟨s1.env, k7⟩ ∧ DvAll K H7 (D :: B) us acc ∧ H7 D = some (.lst us) ∧ Go B H1 (D :: B) H7 ∧ Mx Δ.w C.as H1 H7 := by
        intro H7 k7 m7 d7
        have nas : D ∉ C.as := fun z => nDB (E1.sub D z)
        refine ⟨E4.move m7 d7, (hd.same sm).mv (m7.up asB), m7.mv.kp _ _ nas rfl (sm _ _ hD), ⟨g3.mv.trans ((Mv.of_same sm).trans (m7.up E1.sub)), g3.nb⟩, (mx3.trans (.of_same sm)).trans m7⟩
      cases b with
      | true =>
        rw [if_pos rfl] at a6 ⊢
        refine he C (D :: B) σ5 H6 s6 _ _ E6 a6 fun y d H7 s7 a7 m7 E7 dy => ?_
        obtain ⟨F1, F2, F3, F4, F5⟩ := moved (m6.trans m7) (k7 := s7.k) E7.dk
        refine ⟨us, F3, ?_, us ++ [y], acc ++ [d], s7.k, a7, upd_same, ?_, ?_, ?_, ?_, ?_⟩
        · rw [F2.len]
          exact Nat.lt_of_le_of_lt (Nat.le_trans la (Nat.le_trans (Nat.le_of_lt hlt) hlen)) (by decide)
        · have ml : Mv (D :: B) H7 (upd H7 D (.lst (us ++ [y]))) := .of_list F3 List.mem_cons_self
          exact DvAll.mv ml _ _ (F2.app (.cons dy .nil))
        · have ml : Mv (D :: B) H7 (upd H7 D (.lst (us ++ [y]))) := .of_list F3 List.mem_cons_self
          have nas : D ∉ C.as := fun z => nDB (E1.sub D z)
          have n0 : C.H0 D = none := by
            cases e : C.H0 D with
            | none => rfl
            | some o => exact absurd nD (E1.mw.al D (by rw [e]; intro z; cases z))
          refine ⟨F1.len, fun j e z => ?_, F1.dr, F1.ex.mv ml, ?_, ?_, F1.sub, F1.bc, ?_, ?_⟩
          · obtain ⟨v, q1, q2⟩ := F1.sl j e z
            exact ⟨v, q1, q2.mv ml⟩
          · obtain ⟨ad, h1, h2⟩ := E1.ow
            refine ⟨ad, fun j ds z ho => ?_, h2⟩
            obtain ⟨a1, a2, a3, a4, us1, a5, a6⟩ := h1 j ds z ho
            have nj : ad j ≠ D := fun e => nDB (by rw [← e]; exact a2)
            obtain ⟨ad', k1, k2⟩ := F1.ow
            obtain ⟨b1, b2, b3, b4, us2, b5, b6⟩ := k1 j ds z ho
            have ea : ad j = ad' j := by
              rw [a1] at b1
              exact V.ref.inj (Option.some.inj (Option.some.inj b1))
            rw [← ea] at b5
            exact ⟨a1, List.mem_cons_of_mem _ a2, a3, a4, us2, by rw [upd_ne nj]; exact b5, b6.mv ml⟩
          · intro b hb
            by_cases e : b = D
            · rw [e, upd_same]
              intro z
              cases z
            · rw [upd_ne e]
              exact F1.st b hb
          · intro kk hk
            exact Δ.mv (F1.dk kk hk) (fun a ha => upd_ne fun e => nas (by rw [← e]; exact ha)) (nl_upd F3 rfl)
          · exact F1.mw.fresh n0
        · refine ⟨⟨F4.mv.st.trans (stay_list F3).t, fun b o n l e => ?_, fun b hb => al_upd b (F4.mv.al b hb)⟩, F4.nb⟩
          rw [upd_ne (ne_of_none e nD)]
          exact F4.mv.kp b o n l e
        · rw [List.length_append]
          exact Nat.succ_le_succ la
        · exact F5.fresh nD
      | false =>
        rw [if_neg Bool.false_ne_true] at a6 ⊢
        obtain ⟨F1, F2, F3, F4, F5⟩ := moved m6 (k7 := s6.k) E6.dk
        exact ⟨us, acc, s6.k, a6, F3, F2, F1, F4, Nat.le_succ_of_le la, F5⟩
  · have e : i = xs.length := by omega
    subst e
    refine .inl ⟨(itd _ _ g3 st3).2, ?_⟩
    have E5 : En K Δ C B σ H ⟨s1.env, k⟩ := E1.move mx3 E3.dk
    exact q _ _ _ _ (done acc k inv) (m1.trans mx3) E5 (.lst hD nDB (DvAll.anti (fun b hb => List.mem_cons_of_mem _ hb) _ _ hd))
end
section
variable {K : PySem.W.Frag} {Δ : DK}
def aSeq (a b : AStm) : AStm := fun A s => a ⟨fun s' => b A s', A.rt⟩ s
def aCut (a b : AStm) : AStm := fun A s => ∃ M : AS → Prop, a ⟨M, A.rt⟩ s ∧ ∀ s', M s' → b A s'
theorem rs_seq {t u : TS} {a b : AStm} (h1 : RS K Δ t a) (h2 : RS K Δ u b) : RS K Δ (tSeq t u) (aSeq a b) := by
  intro C B σ H s D A E h qn qr
  refine h1 C B σ H s _ ⟨fun s' => b A s', A.rt⟩ E h (fun B' σ' H' s' a g E' => ?_) qr
  exact h2 C B' σ' H' s' D A E' a (fun B2 σ2 H2 s2 a2 g2 E2 => qn B2 σ2 H2 s2 a2 (g.trans g2) E2) qr
theorem rs_cut {t u : TS} {a b : AStm} (h1 : RS K Δ t a) (h2 : RS K Δ u b) : RS K Δ (tSeq t u) (aCut a b) := by
  intro C B σ H s D A E h qn qr
  obtain ⟨M, h, hm⟩ := h
  refine h1 C B σ H s _ ⟨M, A.rt⟩ E h (fun B' σ' H' s' a g E' => ?_) qr
  exact h2 C B' σ' H' s' D A E' (hm s' a) (fun B2 σ2 H2 s2 a2 g2 E2 => qn B2 σ2 H2 s2 a2 (g.trans g2) E2) qr
theorem rs_next : RS K Δ tNext (fun A s => A.nx s) := fun C B σ H s D A E h qn qr => qn B σ H s h (.refl _ _) E
def aAsg (ae : AE) (ag : AG) : AStm := fun A s => ae s fun d s1 => ag d s1 A.nx
theorem rs_asg {te : TE} {g : TG} {ae : AE} {ag : AG} {is : List Nat} (h1 : RE K Δ te ae) (h2 : RG K Δ g ag is) : RS K Δ (tAsg te g) (aAsg ae ag) := by
  intro C B σ H s D A E h qn qr
  refine h1 C B σ H s _ _ E h fun v d H1 s1 a1 m1 E1 dv => h2 C B σ H1 s1 _ _ _ _ E1 dv a1 fun σ2 s2 a2 E2 _ => ?_
  exact qn B σ2 H1 s2 a2 (.of_mv (m1.up E.sub)) E2
def aPar (i j : Nat) (aa : AA) : AStm := fun A s => aa s fun ds s1 => ∃ d e, ds = [d, e] ∧ A.nx ((s1.put i (.dat d)).put j (.dat e))
theorem rs_par {i j : Nat} {ta : TA} {aa : AA} (h1 : RA K Δ ta aa) : RS K Δ (tPar i j ta) (aPar i j aa) := by
  intro C B σ H s D A E h qn qr
  refine h1 C B σ H s _ _ E h fun vs ds H1 s1 a1 m1 E1 dv => ?_
  obtain ⟨d, e, ed, a⟩ := a1
  subst ed
  obtain ⟨v, u, ev, dv1, dv2⟩ := dv.two
  exact ⟨v, u, ev, qn B _ H1 _ a (.of_mv (m1.up E.sub)) ((E1.put dv1).put dv2)⟩
def aPar3 (i j l : Nat) (aa : AA) : AStm := fun A s => aa s fun ds s1 => ∃ d e f, ds = [d, e, f] ∧ A.nx (((s1.put i (.dat d)).put j (.dat e)).put l (.dat f))
theorem rs_par3 {i j l : Nat} {ta : TA} {aa : AA} (h1 : RA K Δ ta aa) : RS K Δ (tPar3 i j l ta) (aPar3 i j l aa) := by
  intro C B σ H s D A E h qn qr
  refine h1 C B σ H s _ _ E h fun vs ds H1 s1 a1 m1 E1 dv => ?_
  obtain ⟨d, e, f, ed, a⟩ := a1
  subst ed
  cases dv with
  | cons dv0 dr =>
    obtain ⟨v, u, ev, dv1, dv2⟩ := dr.two
    subst ev
    exact ⟨_, v, u, rfl, qn B _ H1 _ a (.of_mv (m1.up E.sub)) (((E1.put dv0).put dv1).put dv2)⟩
def aDrop (ae : AE) : AStm := fun A s => ae s fun _ s1 => A.nx s1
theorem rs_drop {te : TE} {ae : AE} (h1 : RE K Δ te ae) : RS K Δ (tDrop te) (aDrop ae) := by
  intro C B σ H s D A E h qn qr
  exact h1 C B σ H s _ _ E h fun v d H1 s1 a1 m1 E1 dv => qn B σ H1 s1 a1 (.of_mv (m1.up E.sub)) E1
def aRet (ae : AE) : AStm := fun A s => ae s A.rt
theorem rs_ret {te : TE} {ae : AE} (h1 : RE K Δ te ae) : RS K Δ (tRet te) (aRet ae) := by
  intro C B σ H s D A E h qn qr
  exact h1 C B σ H s _ _ E h fun v d H1 s1 a1 m1 E1 dv => qr v d H1 s1 a1 ⟨Dv.anti E1.bc _ _ dv, E1.dk, E1.mw⟩
theorem rs_retN : RS K Δ tRetN (fun A s => A.rt .none s) := fun C B σ H s D A E h qn qr => qr .non .none H s h ⟨.non, E.dk, E.mw⟩
def aIfS (c : AT) (a b : AStm) : AStm := fun A s => c s fun k s1 => if k = true then a A s1 else b A s1
theorem rs_if {tc : TT} {ac : AT} {t u : TS} {a b : AStm} (hc : RT K Δ tc ac) (h1 : RS K Δ t a) (h2 : RS K Δ u b) : RS K Δ (tIfS tc t u) (aIfS ac a b) := by
  intro C B σ H s D A E h qn qr
  refine hc C B σ H s _ _ E h fun k H1 s1 a1 m1 E1 => ?_
  have g := Go.of_mv (m1.up E.sub)
  cases k with
  | true =>
    rw [if_pos rfl] at a1 ⊢
    exact h1 C B σ H1 s1 D A E1 a1 (fun B2 σ2 H2 s2 a2 g2 E2 => qn B2 σ2 H2 s2 a2 (g.trans g2) E2) qr
  | false =>
    rw [if_neg Bool.false_ne_true] at a1 ⊢
    exact h2 C B σ H1 s1 D A E1 a1 (fun B2 σ2 H2 s2 a2 g2 E2 => qn B2 σ2 H2 s2 a2 (g.trans g2) E2) qr
def aFor (ai : AI) (g : AG) (ab : AStm) : AStm := fun A s => ai s fun xs s1 => ∃ W : Nat → AS → Prop, W 0 s1 ∧
  (∀ i x s, xs[i]? = some x → W i s → g x s fun s' => ab ⟨W (i + 1), A.rt⟩ s') ∧ ∀ s, W xs.length s → A.nx s
theorem rs_for {wi : TI} {ai : AI} {g : TG} {ga : AG} {is : List Nat} {t : TS} {ab : AStm} (hi : RI K Δ wi ai) (hg : RG K Δ g ga is) (hb : RS K Δ t ab) : RS K Δ (tFor wi g t) (aFor ai ga ab) := by
  intro C B σ H s D A E h qn qr
  refine hi C B σ H s _ _ E h fun J xs H1 s1 a1 m1 E1 itd => ?_
  obtain ⟨Wa, w0, turn, done⟩ := a1
  refine ⟨fun i m σ H => m = xs.length - i ∧ i ≤ xs.length ∧ ∃ B' s', Wa i s' ∧ Go B H1 B' H ∧ En K Δ C B' σ H s', ⟨xs.length, (Nat.sub_zero _).symm, Nat.zero_le _, B, s1, w0, .refl _ _, E1⟩, ?_⟩
  rintro i m σ2 H2 ⟨rfl, hi, B2, s2, w2, g2, E2⟩
  by_cases hlt : i < xs.length
  · obtain ⟨go, yld⟩ := (itd _ _ g2 E2.st).1 i xs[i] (List.getElem?_eq_getElem hlt)
    refine .inr ⟨go, fun σ' H' => ∃ B' s', Wa (i + 1) s' ∧ Go B H1 B' H' ∧ En K Δ C B' σ' H' s', fun σ' H' z => ⟨xs.length - (i + 1), by omega, rfl, hlt, z⟩, fun x H' y => ?_⟩
    obtain ⟨sm, dx⟩ := yld x H' y
    refine hg C B2 σ2 H' s2 x _ _ _ (E2.same sm) dx (turn i xs[i] s2 (List.getElem?_eq_getElem hlt) w2) fun σ5 s5 a5 E5 _ => ?_
    exact hb C B2 σ5 H' s5 _ ⟨Wa (i + 1), A.rt⟩ E5 a5 (fun B6 σ6 H6 s6 a6 g6 E6 => ⟨B6, s6, a6, (g2.trans (.of_mv (.of_same sm))).trans g6, E6⟩) qr
  · have e : i = xs.length := by omega
    subst e
    exact .inl ⟨(itd _ _ g2 E2.st).2, qn B2 σ2 H2 s2 (done s2 w2) ((Go.of_mv (m1.up E.sub)).trans g2) E2⟩
def aWhile (c : AT) (ab : AStm) : AStm := fun A s => ∃ W : Nat → AS → Prop, (∃ m, W m s) ∧ ∀ m s, W m s → c s fun k s1 => if k = true then ab ⟨fun s' => ∃ m', m' < m ∧ W m' s', A.rt⟩ s1 else A.nx s1
theorem rs_while {tc : TT} {ac : AT} {t : TS} {ab : AStm} (hc : RT K Δ tc ac) (hb : RS K Δ t ab) : RS K Δ (tWhile tc t) (aWhile ac ab) := by
  intro C B σ H s D A E h qn qr
  obtain ⟨Wa, ⟨m0, w0⟩, turn⟩ := h
  refine ⟨fun m σ' H' => ∃ B' s', Wa m s' ∧ Go B H B' H' ∧ En K Δ C B' σ' H' s', ⟨m0, B, s, w0, .refl _ _, E⟩, ?_⟩
  rintro m σ2 H2 ⟨B2, s2, w2, g2, E2⟩
  refine hc C B2 σ2 H2 s2 _ _ E2 (turn m s2 w2) fun k H3 s3 a3 m3 E3 => ?_
  have g3 := g2.trans (Go.of_mv (m3.up E2.sub))
  cases k with
  | true =>
    rw [if_pos rfl] at a3 ⊢
    refine ⟨fun σ' H' => ∃ m', m' < m ∧ ∃ B' s', Wa m' s' ∧ Go B H B' H' ∧ En K Δ C B' σ' H' s', fun σ' H' z => ?_, ?_⟩
    · obtain ⟨m', hm, z⟩ := z
      exact ⟨m', hm, z⟩
    · refine hb C B2 σ2 H3 s3 _ ⟨fun s' => ∃ m', m' < m ∧ Wa m' s', A.rt⟩ E3 a3 (fun B6 σ6 H6 s6 a6 g6 E6 => ?_) qr
      obtain ⟨m', hm, w⟩ := a6
      exact ⟨m', hm, B6, s6, w, g3.trans g6, E6⟩
  | false =>
    rw [if_neg Bool.false_ne_true] at a3 ⊢
    exact qn B2 σ2 H3 s3 a3 g3 E3
def aOwn (i : Nat) (aa : AA) : AStm := fun A s => aa s fun ds s1 => ds.length ≤ 1000 ∧ A.nx (s1.put i (.own ds))
theorem rs_own (i : Nat) {ta : TA} {aa : AA} (h1 : RA K Δ ta aa) : RS K Δ (tAsg (tLst ta) (gName i)) (aOwn i aa) := by
  intro C B σ H s D A E h qn qr
  refine h1 C B σ H s _ _ E h fun vs ds H1 s1 a1 m1 E1 dv => ⟨?_, fun p np => ?_⟩
  · rw [dv.len]
    exact Nat.le_of_lt (small1000 a1.1)
  · refine qn (p :: B) _ _ _ a1.2 ((Go.of_mv (m1.up E.sub)).trans ⟨.of_same (same_upd np), fun b hb => ?_⟩) (E1.putOwn np dv)
    rcases List.mem_cons.mp hb with z | z
    · rw [z]
      exact .inr np
    · exact .inl z
theorem En.ownAt {C : Cy} {B : List Addr} {σ : L2.St} {H : Hp} {s : AS} (E : En K Δ C B σ H s) {i : Nat} {ds : List PyData} (h : s.env[i]? = some (.own ds)) :
    ∃ p us, σ[i]? = some (some (.ref p)) ∧ H p = some (.lst us) ∧ DvAll K H B us ds := by
  obtain ⟨ad, h1, _⟩ := E.ow
  obtain ⟨a1, _, _, _, us, a5, a6⟩ := h1 i _ h rfl
  cases a6 with
  | l a6 => exact ⟨_, _, a1, a5, a6⟩
/-- the same with the list told first -/
def aApp' (i : Nat) (ae : AE) : AStm := fun A s => ∃ ds, s.env[i]? = some (.own ds) ∧ ds.length ≤ 100000 ∧ ae s fun d s1 => s1.env[i]? = some (.own ds) ∧ A.nx (s1.put i (.own (ds ++ [d])))
theorem rs_app' (i : Nat) {te : TE} {ae : AE} (h1 : RE K Δ te ae) : RS K Δ (tDrop (tBM K "list" rAppend (tVar i) (tCons te tNil))) (aApp' i ae) := by
  intro C B σ H s D A E h qn qr
  obtain ⟨ds, hs, hl, h⟩ := h
  obtain ⟨p, us, hp, hus, hd⟩ := E.ownAt hs
  refine ⟨.ref p, hp, .inl ⟨rfl, us, SqL.of hus⟩, h1 C B σ H s _ _ E h fun v d H1 s1 a1 m1 E1 dv => ?_⟩
  obtain ⟨h1', a⟩ := a1
  obtain ⟨p', us', hp', hus', hd'⟩ := E1.ownAt h1'
  have ep : p' = p := by
    rw [hp] at hp'
    exact (V.ref.inj (Option.some.inj (Option.some.inj hp'))).symm
  subst ep
  refine ⟨p', us', v, rfl, rfl, hus', ?_, ?_⟩
  · rw [hd'.len]
    exact Nat.lt_of_le_of_lt hl (by decide)
  · obtain ⟨E2, g2⟩ := E1.grow h1' hp' (hd'.app (.cons dv .nil))
    exact qn B σ _ _ a ((Go.of_mv (m1.up E.sub)).trans g2) E2
def aOwnV (f : List PyData → PyData) (i : Nat) : AE := fun s A => ∃ ds, s.env[i]? = some (.own ds) ∧ A (f ds) s
theorem re_tupFO (i : Nat) : RE K Δ (tCB (rTupF K) (tCons (tVar i) tNil)) (aOwnV .tuple i) := by
  intro C B σ H s Q A E h q
  obtain ⟨ds, hs, a⟩ := h
  obtain ⟨p, us, hp, hus, hd⟩ := E.ownAt hs
  refine ⟨.ref p, hp, p, us, rfl, SqL.of hus, fun l o nl od => ?_⟩
  have sm := same_upd (o := .frz o (.tup us)) nl
  exact q _ _ _ s a (.of_same sm) (E.same sm) (.tup (.inl (.inr ⟨o, upd_same⟩)) (hd.same sm))
theorem re_lenO (i : Nat) : RE K Δ (tCB (rLenS K) (tCons (tVar i) tNil)) (aOwnV (fun ds => .int ds.length) i) := by
  intro C B σ H s Q A E h q
  obtain ⟨ds, hs, a⟩ := h
  obtain ⟨p, us, hp, hus, hd⟩ := E.ownAt hs
  refine ⟨.ref p, hp, p, us, rfl, .inl (SqL.of hus), ?_⟩
  rw [hd.len]
  exact q _ _ _ s a (.refl _ _) E (.int _)
theorem DvAll.atI {H : Hp} {B : List Addr} {xs : List V} {ds : List PyData} (h : DvAll K H B xs ds) {i : Int} {d : PyData} (hd : atI ds i = some d) : ∃ v, atI xs i = some v ∧ Dv K H B v d := by
  unfold L2.atI at hd ⊢
  rw [h.len]
  cases e : ixN ds.length i with
  | none =>
    rw [e] at hd
    cases hd
  | some j =>
    rw [e] at hd
    exact h.gets hd
def aIxO (i : Nat) (ab : AE) : AE := fun s A => ab s fun e s1 => ∃ ds j d, s1.env[i]? = some (.own ds) ∧ e = .int j ∧ atI ds j = some d ∧ A d s1
theorem re_ixO (i : Nat) {c : Int} : RE K Δ (tOp (rIxL K) (tVar i) (tC (.int c))) (aIxO i (aC (.int c))) := by
  intro C B σ H s Q A E h q
  obtain ⟨ds, j, d, hs, e, hd, a⟩ := h
  cases e
  obtain ⟨p, us, hp, hus, hds⟩ := E.ownAt hs
  obtain ⟨v, hv, dv⟩ := hds.atI hd
  exact ⟨.ref p, hp, p, us, c, v, rfl, rfl, SqL.of hus, hv, q _ _ _ s a (.refl _ _) E dv⟩
def aI0 (g : Int → Int → PyData) : A2 := fun d e s A => ∃ i j, d = .int i ∧ e = .int j ∧ A (g i j) s
def aIc (c : Int → Int → Prop) (g : Int → Int → PyData) : A2 := fun d e s A => ∃ i j, d = .int i ∧ e = .int j ∧ c i j ∧ A (g i j) s
theorem r2_I0 {g : Int → Int → Int} : R2' K Δ (rI0 fun i j => .int (g i j)) (aI0 fun i j => .int (g i j)) := by
  intro C B σ H s x y d e Q A E dx dy h q
  obtain ⟨i, j, e1, e2, a⟩ := h
  subst e1 e2
  exact ⟨i, j, dv_int dx, dv_int dy, q _ _ _ a (Same.refl _) (.int _)⟩
theorem r2_B0 {g : Int → Int → Bool} : R2' K Δ (rI0 fun i j => .bl (g i j)) (aI0 fun i j => .bool (g i j)) := by
  intro C B σ H s x y d e Q A E dx dy h q
  obtain ⟨i, j, e1, e2, a⟩ := h
  subst e1 e2
  exact ⟨i, j, dv_int dx, dv_int dy, q _ _ _ a (Same.refl _) (.bl _)⟩
theorem r2_Ic {c : Int → Int → Prop} {g : Int → Int → Int} : R2' K Δ (rI c fun i j => .int (g i j)) (aIc c fun i j => .int (g i j)) := by
  intro C B σ H s x y d e Q A E dx dy h q
  obtain ⟨i, j, e1, e2, hc, a⟩ := h
  subst e1 e2
  exact ⟨i, j, dv_int dx, dv_int dy, hc, q _ _ _ a (Same.refl _) (.int _)⟩
def aEq (n : Bool) : A2 := fun d e s A => (∃ i j : Int, d = .int i ∧ e = .int j ∧ A (.bool (n ^^ decide (i = j))) s) ∨ (∃ i j : Str, d = .str i ∧ e = .str j ∧ A (.bool (n ^^ decide (i = j))) s) ∨ (∃ i j : Bool, d = .bool i ∧ e = .bool j ∧ A (.bool (n ^^ decide (i = j))) s) ∨
  (∃ i : Int, d = .none ∧ e = .int i ∧ A (.bool n) s)
theorem dec_congr {p q : Prop} [Decidable p] [Decidable q] (h : p ↔ q) : decide p = decide q := by
  by_cases hp : p
  · rw [decide_eq_true hp, decide_eq_true (h.mp hp)]
  · rw [decide_eq_false hp, decide_eq_false fun z => hp (h.mpr z)]
theorem r2_eq : R2' K Δ rEq (aEq false) := by
  intro C B σ H s x y d e Q A E dx dy h q
  rcases h with ⟨i, j, e1, e2, a⟩ | ⟨i, j, e1, e2, a⟩ | ⟨i, j, e1, e2, a⟩ | ⟨i, e1, e2, a⟩
  · subst e1 e2
    cases dx
    cases dy
    refine ⟨rfl, ?_⟩
    rw [dec_congr (show V.int i = V.int j ↔ i = j from ⟨V.int.inj, congrArg V.int⟩)]
    rw [Bool.false_xor] at a
    exact q _ _ _ a (Same.refl _) (.bl _)
  · subst e1 e2
    cases dx
    cases dy
    refine ⟨rfl, ?_⟩
    rw [dec_congr (show V.str i = V.str j ↔ i = j from ⟨V.str.inj, congrArg V.str⟩)]
    rw [Bool.false_xor] at a
    exact q _ _ _ a (Same.refl _) (.bl _)
  · subst e1 e2
    cases dx
    cases dy
    refine ⟨rfl, ?_⟩
    rw [dec_congr (show V.bl i = V.bl j ↔ i = j from ⟨V.bl.inj, congrArg V.bl⟩)]
    rw [Bool.false_xor] at a
    exact q _ _ _ a (Same.refl _) (.bl _)
  · subst e1 e2
    cases dx
    cases dy
    refine ⟨rfl, ?_⟩
    rw [decide_eq_false (by intro z; cases z)]
    exact q _ _ _ a (Same.refl _) (.bl _)
theorem r2_ne : R2' K Δ rNe (aEq true) := by
  intro C B σ H s x y d e Q A E dx dy h q
  rcases h with ⟨i, j, e1, e2, a⟩ | ⟨i, j, e1, e2, a⟩ | ⟨i, j, e1, e2, a⟩ | ⟨i, e1, e2, a⟩
  · subst e1 e2
    cases dx
    cases dy
    refine ⟨rfl, ?_⟩
    rw [dec_congr (show V.int i = V.int j ↔ i = j from ⟨V.int.inj, congrArg V.int⟩)]
    rw [Bool.true_xor] at a
    exact q _ _ _ a (Same.refl _) (.bl _)
  · subst e1 e2
    cases dx
    cases dy
    refine ⟨rfl, ?_⟩
    rw [dec_congr (show V.str i = V.str j ↔ i = j from ⟨V.str.inj, congrArg V.str⟩)]
    rw [Bool.true_xor] at a
    exact q _ _ _ a (Same.refl _) (.bl _)
  · subst e1 e2
    cases dx
    cases dy
    refine ⟨rfl, ?_⟩
    rw [dec_congr (show V.bl i = V.bl j ↔ i = j from ⟨V.bl.inj, congrArg V.bl⟩)]
    rw [Bool.true_xor] at a
    exact q _ _ _ a (Same.refl _) (.bl _)
  · subst e1 e2
    cases dx
    cases dy
    refine ⟨rfl, ?_⟩
    rw [decide_eq_false (by intro z; cases z)]
    exact q _ _ _ a (Same.refl _) (.bl _)
def isNone : PyData → Bool
  | .none => true
  | _ => false
theorem dv_isNone {H : Hp} {B : List Addr} {v : V} {d : PyData} (h : Dv K H B v d) : decide (v = .non) = isNone d := by
  cases h <;> rfl
theorem r2_isN : R2' K Δ (fun x y H Q => y = .non ∧ Q (.bl (decide (x = .non))) H) (fun d e s A => e = .none ∧ A (.bool (isNone d)) s) := by
  intro C B σ H s x y d e Q A E dx dy h q
  obtain ⟨e1, a⟩ := h
  subst e1
  refine ⟨dv_none dy, ?_⟩
  rw [dv_isNone dx]
  exact q _ _ _ a (Same.refl _) (.bl _)
theorem r2_notN : R2' K Δ (fun x y H Q => y = .non ∧ Q (.bl (!decide (x = .non))) H) (fun d e s A => e = .none ∧ A (.bool (!isNone d)) s) := by
  intro C B σ H s x y d e Q A E dx dy h q
  obtain ⟨e1, a⟩ := h
  subst e1
  refine ⟨dv_none dy, ?_⟩
  rw [dv_isNone dx]
  exact q _ _ _ a (Same.refl _) (.bl _)
def aIxT : A2 := fun d e s A => ∃ ds i x, d = .tuple ds ∧ e = .int i ∧ atI ds i = some x ∧ A x s
def aIxL : A2 := fun d e s A => ∃ ds i x, d = .list ds ∧ e = .int i ∧ atI ds i = some x ∧ A x s
theorem r2_ixT : R2' K Δ (rIxT K) aIxT := by
  intro C B σ H s x y d e Q A E dx dy h q
  obtain ⟨ds, i, z, e1, e2, hz, a⟩ := h
  subst e1 e2
  obtain ⟨p, xs, ev, hp, hd⟩ := dx.tupI
  obtain ⟨v, hv, dv⟩ := hd.atI hz
  exact ⟨p, xs, i, v, ev, dv_int dy, hp, hv, q _ _ _ a (Same.refl _) dv⟩
theorem r2_ixL : R2' K Δ (rIxL K) aIxL := by
  intro C B σ H s x y d e Q A E dx dy h q
  obtain ⟨ds, i, z, e1, e2, hz, a⟩ := h
  subst e1 e2
  obtain ⟨p, xs, ev, hp, _, hd⟩ := dx.lstI
  obtain ⟨v, hv, dv⟩ := hd.atI hz
  exact ⟨p, xs, i, v, ev, dv_int dy, SqL.of hp, hv, q _ _ _ a (Same.refl _) dv⟩
def aCatT : A2 := fun d e s A => ∃ xs ys, d = .tuple xs ∧ e = .tuple ys ∧ xs.length + ys.length ≤ 1000 ∧ A (.tuple (xs ++ ys)) s
def aCatL : A2 := fun d e s A => ∃ xs ys, d = .list xs ∧ e = .list ys ∧ xs.length + ys.length ≤ 1000 ∧ A (.list (xs ++ ys)) s
theorem r2_catT : R2' K Δ (rCatA K) aCatT := by
  intro C B σ H s x y d e Q A E dx dy h q
  obtain ⟨xs, ys, e1, e2, hl, a⟩ := h
  subst e1 e2
  have kx := dx
  have ky := dy
  obtain ⟨p, us, ev, hp, hd⟩ := dx.tupI
  obtain ⟨p', us', ev', hp', hd'⟩ := dy.tupI
  subst ev ev'
  have lx := hd.len
  have ly := hd'.len
  refine ⟨p, p', us, us', rfl, rfl, hp, hp', Nat.le_of_lt (small1000 (by omega)), fun z => ?_, fun _ z => ?_, fun _ _ p2 n2 => ?_⟩
  · subst z
    cases hd
    exact q _ _ _ a (Same.refl _) ky
  · subst z
    cases hd'
    rw [List.append_nil] at a
    exact q _ _ _ a (Same.refl _) kx
  · obtain ⟨sm, dv⟩ := new_tup n2 (hd.app hd')
    exact q _ _ _ a sm dv
theorem r2_catL : R2' K Δ rCat aCatL := by
  intro C B σ H s x y d e Q A E dx dy h q
  obtain ⟨xs, ys, e1, e2, hl, a⟩ := h
  subst e1 e2
  obtain ⟨p, us, ev, hp, _, hd⟩ := dx.lstI
  obtain ⟨p', us', ev', hp', _, hd'⟩ := dy.lstI
  subst ev ev'
  have lx := hd.len
  have ly := hd'.len
  refine ⟨p, p', us, us', rfl, rfl, hp, hp', Nat.le_of_lt (small1000 (by omega)), fun p2 n2 => ?_⟩
  obtain ⟨sm, dv⟩ := new_lst E n2 (hd.app hd')
  exact q _ _ _ a sm dv
def aIn (n : Bool) : A2 := fun d e s A => ∃ (i : Int) (ns : List Int), d = .int i ∧ (e = .list (ns.map .int) ∨ e = .tuple (ns.map .int)) ∧ A (.bool (n ^^ decide (i ∈ ns))) s
theorem inV_dec (i : Int) (ns : List Int) : inV (.int i) (ns.map V.int) = decide (i ∈ ns) := by
  have h := inV_ints i ns
  by_cases z : i ∈ ns
  · rw [decide_eq_true z, h.mpr z]
  · rw [decide_eq_false z]
    cases e : inV (.int i) (ns.map V.int) with
    | false => rfl
    | true => exact absurd (h.mp e) z
theorem r2_in {n : Bool} : R2' K Δ (rIn K n) (aIn n) := by
  intro C B σ H s x y d e Q A E dx dy h q
  obtain ⟨i, ns, e1, e2, a⟩ := h
  subst e1
  cases dx
  rcases e2 with e2 | e2
  · subst e2
    obtain ⟨p, us, ev, hp, _, hd⟩ := dy.lstI
    rw [hd.ints] at hp
    refine ⟨p, _, ev, .inl (SqL.of hp), rfl, flat_ints _, ?_⟩
    rw [inV_dec]
    have : (if n = true then !decide (i ∈ ns) else decide (i ∈ ns)) = (n ^^ decide (i ∈ ns)) := by cases n <;> cases decide (i ∈ ns) <;> rfl
    rw [this]
    exact q _ _ _ a (Same.refl _) (.bl _)
  · subst e2
    obtain ⟨p, us, ev, hp, hd⟩ := dy.tupI
    rw [hd.ints] at hp
    refine ⟨p, _, ev, .inr hp, rfl, flat_ints _, ?_⟩
    rw [inV_dec]
    have : (if n = true then !decide (i ∈ ns) else decide (i ∈ ns)) = (n ^^ decide (i ∈ ns)) := by cases n <;> cases decide (i ∈ ns) <;> rfl
    rw [this]
    exact q _ _ _ a (Same.refl _) (.bl _)
mutual
theorem Dv.dp {H : Hp} {B : List Addr} : ∀ (d : PyData) (v : V), d.canLay0 = true → Dv K H B v d → Dp K H v d
  | .none, _, _, h => by
    cases h
    exact .non
  | .bool b, _, _, h => by
    cases h
    exact .bl b
  | .int i, _, _, h => by
    cases h
    exact .int i
  | .str x, _, _, h => by
    cases h
    exact .str x
  | .list ds, _, c, h => by
    cases h with
    | lst hs n1 ha => exact .lst (SqL.of hs) (DvAll.dp ds _ (by simpa [PyData.canLay0] using c) ha)
  | .tuple ds, _, c, h => by
    cases h with
    | tup hs ha => exact .tup hs (DvAll.dp ds _ (by simpa [PyData.canLay0] using c) ha)
  | .dict _, _, c, h => by simp [PyData.canLay0] at c
theorem DvAll.dp {H : Hp} {B : List Addr} : ∀ (ds : List PyData) (vs : List V), PyData.canLayAll0 ds = true → DvAll K H B vs ds → DpAll K H vs ds
  | [], _, _, h => by
    cases h
    exact .nil
  | d :: ds, _, c, h => by
    have c' : d.canLay0 = true ∧ PyData.canLayAll0 ds = true := by simpa [PyData.canLayAll0] using c
    cases h with
    | cons h1 h2 => exact .cons (Dv.dp d _ c'.1 h1) (DvAll.dp ds _ c'.2 h2)
end
def aEqD (n : Bool) : A2 := fun d e s A => SeqAt.shaped d = true ∧ SeqAt.shaped e = true ∧ A (.bool (n ^^ PyData.eqv d e)) s
theorem r2_eqD : R2' K Δ (rEqD K) (aEqD false) := by
  intro C B σ H s x y d e Q A E dx dy h q
  obtain ⟨h1, h2, a⟩ := h
  rw [Bool.false_xor] at a
  exact ⟨d, e, Dv.dp d _ (SeqAt.canLay_of_shaped h1) dx, Dv.dp e _ (SeqAt.canLay_of_shaped h2) dy, h1, h2, q _ _ _ a (Same.refl _) (.bl _)⟩
theorem r2_neD : R2' K Δ (rNeD K) (aEqD true) := by
  intro C B σ H s x y d e Q A E dx dy h q
  obtain ⟨h1, h2, a⟩ := h
  rw [Bool.true_xor] at a
  exact ⟨d, e, Dv.dp d _ (SeqAt.canLay_of_shaped h1) dx, Dv.dp e _ (SeqAt.canLay_of_shaped h2) dy, h1, h2, q _ _ _ a (Same.refl _) (.bl _)⟩
def aU (g : Int → PyData) : A1 := fun d s A => ∃ i, d = .int i ∧ A (g i) s
theorem r1_neg {g : Int → Int} : R1' K Δ (rU fun i => .int (g i)) (aU fun i => .int (g i)) := by
  intro C B σ H s x d Q A E dx h q
  obtain ⟨i, e1, a⟩ := h
  subst e1
  exact ⟨i, dv_int dx, q _ _ _ a (Same.refl _) (.int _)⟩
theorem rc_len : RC' K Δ (rLenS K) (fun ds s A => ∃ xs, (ds = [.list xs] ∨ ds = [.tuple xs]) ∧ A (.int xs.length) s) := by
  intro C B σ H s vs ds Q A E dv h q
  obtain ⟨xs, e, a⟩ := h
  rcases e with e | e
  · subst e
    obtain ⟨v, ev, d1⟩ := dv.one
    obtain ⟨p, us, ep, hp, _, hd⟩ := d1.lstI
    subst ev ep
    refine ⟨p, us, rfl, .inl (SqL.of hp), ?_⟩
    rw [hd.len]
    exact q _ _ _ a (Same.refl _) (.int _)
  · subst e
    obtain ⟨v, ev, d1⟩ := dv.one
    obtain ⟨p, us, ep, hp, hd⟩ := d1.tupI
    subst ev ep
    refine ⟨p, us, rfl, .inr hp, ?_⟩
    rw [hd.len]
    exact q _ _ _ a (Same.refl _) (.int _)
theorem rc_tupF : RC' K Δ (rTupF K) (fun ds s A => ∃ xs, ds = [.list xs] ∧ A (.tuple xs) s) := by
  intro C B σ H s vs ds Q A E dv h q
  obtain ⟨xs, e, a⟩ := h
  subst e
  obtain ⟨v, ev, d1⟩ := dv.one
  obtain ⟨p, us, ep, hp, _, hd⟩ := d1.lstI
  subst ev ep
  refine ⟨p, us, rfl, SqL.of hp, fun l o nl od => ?_⟩
  have sm := same_upd (o := .frz o (.tup us)) nl
  exact q _ _ _ a sm (.tup (.inl (.inr ⟨o, upd_same⟩)) (hd.same sm))
theorem rc_listof : RC' K Δ (rListOf K) (fun ds s A => ∃ xs, (ds = [.list xs] ∨ ds = [.tuple xs]) ∧ A (.list xs) s) := by
  intro C B σ H s vs ds Q A E dv h q
  obtain ⟨xs, e, a⟩ := h
  rcases e with e | e
  · subst e
    obtain ⟨v, ev, d1⟩ := dv.one
    obtain ⟨p, us, ep, hp, _, hd⟩ := d1.lstI
    subst ev ep
    refine ⟨p, us, rfl, .inl (SqL.of hp), fun l nl => ?_⟩
    obtain ⟨sm, dv⟩ := new_lst E nl hd
    exact q _ _ _ a sm dv
  · subst e
    obtain ⟨v, ev, d1⟩ := dv.one
    obtain ⟨p, us, ep, hp, hd⟩ := d1.tupI
    subst ev ep
    refine ⟨p, us, rfl, .inr hp, fun l nl => ?_⟩
    obtain ⟨sm, dv⟩ := new_lst E nl hd
    exact q _ _ _ a sm dv
theorem intsAt {H : Hp} {B : List Addr} {vs : List V} {ns : List Int} (dv : DvAll K H B vs [.list (ns.map .int)]) : ∃ p, vs = [.ref p] ∧ SqL K H p (ns.map V.int) := by
  obtain ⟨v, ev, d1⟩ := dv.one
  obtain ⟨p, us, ep, hp, _, hd⟩ := d1.lstI
  rw [hd.ints] at hp
  exact ⟨p, by rw [ev, ep], SqL.of hp⟩
theorem rc_sorted : RC' K Δ (rSortedI K) (fun ds s A => ∃ ns : List Int, ds = [.list (ns.map .int)] ∧ ∀ ns' : List Int, ns'.Perm ns → ns'.Pairwise (· ≤ ·) → A (.list (ns'.map .int)) s) := by
  intro C B σ H s vs ds Q A E dv h q
  obtain ⟨ns, e, a⟩ := h
  subst e
  obtain ⟨p, ev, hp⟩ := intsAt dv
  refine ⟨p, ns, ev, hp, fun ns' l h1 h2 nl => ?_⟩
  obtain ⟨sm, dv⟩ := new_lst E nl (dvInts ns')
  exact q _ _ _ (a ns' h1 h2) sm dv
theorem rc_sum : RC' K Δ (rSum K) (fun ds s A => ∃ ns : List Int, ds = [.list (ns.map .int)] ∧ A (.int ns.sum) s) := by
  intro C B σ H s vs ds Q A E dv h q
  obtain ⟨ns, e, a⟩ := h
  subst e
  obtain ⟨p, ev, hp⟩ := intsAt dv
  exact ⟨p, ns, ev, hp, q _ _ _ a (Same.refl _) (.int _)⟩
theorem rc_max : RC' K Δ (rMax K) (fun ds s A => ∃ ns : List Int, ds = [.list (ns.map .int)] ∧ 0 < ns.length ∧ ∀ m, m ∈ ns → (∀ y, y ∈ ns → y ≤ m) → A (.int m) s) := by
  intro C B σ H s vs ds Q A E dv h q
  obtain ⟨ns, e, hl, a⟩ := h
  subst e
  obtain ⟨p, ev, hp⟩ := intsAt dv
  exact ⟨p, ns, ev, hp, hl, fun m h1 h2 => q _ _ _ (a m h1 h2) (Same.refl _) (.int _)⟩
theorem rc_min : RC' K Δ (rMin K) (fun ds s A => ∃ ns : List Int, ds = [.list (ns.map .int)] ∧ 0 < ns.length ∧ ∀ m, m ∈ ns → (∀ y, y ∈ ns → m ≤ y) → A (.int m) s) := by
  intro C B σ H s vs ds Q A E dv h q
  obtain ⟨ns, e, hl, a⟩ := h
  subst e
  obtain ⟨p, ev, hp⟩ := intsAt dv
  exact ⟨p, ns, ev, hp, hl, fun m h1 h2 => q _ _ _ (a m h1 h2) (Same.refl _) (.int _)⟩
theorem rc_all : RC' K Δ (rAll K) (fun ds s A => ∃ ns : List Bool, ds = [.list (ns.map .bool)] ∧ A (.bool (ns.all id)) s) := by
  intro C B σ H s vs ds Q A E dv h q
  obtain ⟨ns, e, a⟩ := h
  subst e
  obtain ⟨v, ev, d1⟩ := dv.one
  obtain ⟨p, us, ep, hp, _, hd⟩ := d1.lstI
  rw [hd.bools] at hp
  subst ev ep
  exact ⟨p, ns, rfl, SqL.of hp, q _ _ _ a (Same.refl _) (.bl _)⟩
theorem rc_repr : RC' K Δ (rReprV K) (fun ds s A => ∃ d, ds = [d] ∧ Neat d 16000000 60 ∧ A (.str d.shown) s) := by
  intro C B σ H s vs ds Q A E dv h q
  obtain ⟨d, e, nt, a⟩ := h
  subst e
  obtain ⟨v, ev, d1⟩ := dv.one
  exact ⟨v, d, B, ev, d1, nt, q _ _ _ a (Same.refl _) (.str _)⟩
theorem rc_abs : RC' K Δ (fun xs H Q => ∃ i, xs = [.int i] ∧ Q (.int (if i < 0 then -i else i)) H) (fun ds s A => ∃ i : Int, ds = [.int i] ∧ A (.int (if i < 0 then -i else i)) s) := by
  intro C B σ H s vs ds Q A E dv h q
  obtain ⟨i, e, a⟩ := h
  subst e
  obtain ⟨v, ev, d1⟩ := dv.one
  cases d1
  exact ⟨i, ev, q _ _ _ a (Same.refl _) (.int _)⟩
theorem rc_max2 : RC' K Δ (fun xs H Q => ∃ i j, xs = [.int i, .int j] ∧ Q (.int (if j > i then j else i)) H) (fun ds s A => ∃ i j : Int, ds = [.int i, .int j] ∧ A (.int (if j > i then j else i)) s) := by
  intro C B σ H s vs ds Q A E dv h q
  obtain ⟨i, j, e, a⟩ := h
  subst e
  obtain ⟨v, u, ev, d1, d2⟩ := dv.two
  cases d1
  cases d2
  exact ⟨i, j, ev, q _ _ _ a (Same.refl _) (.int _)⟩
theorem rc_min2 : RC' K Δ (fun xs H Q => ∃ i j, xs = [.int i, .int j] ∧ Q (.int (if j < i then j else i)) H) (fun ds s A => ∃ i j : Int, ds = [.int i, .int j] ∧ A (.int (if j < i then j else i)) s) := by
  intro C B σ H s vs ds Q A E dv h q
  obtain ⟨i, j, e, a⟩ := h
  subst e
  obtain ⟨v, u, ev, d1, d2⟩ := dv.two
  cases d1
  cases d2
  exact ⟨i, j, ev, q _ _ _ a (Same.refl _) (.int _)⟩
theorem rc_int1 : RC' K Δ (fun xs H Q => (∃ i, xs = [.int i] ∧ Q (.int i) H) ∨ ∃ k, xs = [.bl k] ∧ Q (.int (if k then 1 else 0)) H) (fun ds s A => (∃ i : Int, ds = [.int i] ∧ A (.int i) s) ∨ ∃ k : Bool, ds = [.bool k] ∧ A (.int (if k then 1 else 0)) s) := by
  intro C B σ H s vs ds Q A E dv h q
  rcases h with ⟨i, e, a⟩ | ⟨k, e, a⟩
  · subst e
    obtain ⟨v, ev, d1⟩ := dv.one
    cases d1
    exact .inl ⟨i, ev, q _ _ _ a (Same.refl _) (.int _)⟩
  · subst e
    obtain ⟨v, ev, d1⟩ := dv.one
    cases d1
    exact .inr ⟨k, ev, q _ _ _ a (Same.refl _) (.int _)⟩
theorem re_isiG {te : TE} {ae : AE} {T : String} {f : PyData → Bool} (hk : ∀ d, PySem.W.kitOne K (.type (kindOf d)) (.type T) = some (f d)) (h1 : RE K Δ te ae) : RE K Δ (tCB (rIsi K) (tCons te (tCons (tC (.ty T)) tNil))) (fun s A => ae s fun d s1 => A (.bool (f d)) s1) := by
  intro C B σ H s Q A E h q
  refine h1 C B σ H s _ _ E h fun v d H1 s1 a1 m1 E1 dv => ?_
  exact ⟨v, .ty T, _, .type T, f d, rfl, .ty T, dv.ty, hk d, q _ _ _ _ a1 m1 E1 (.bl _)⟩
theorem re_isiT {te : TE} {ae : AE} (h1 : RE K Δ te ae) : RE K Δ (tCB (rIsi K) (tCons te (tCons (tC (.ty "tuple")) tNil))) (fun s A => ae s fun d s1 => A (.bool (isT d)) s1) := re_isiG (fun _ => kit_tuple) h1
theorem re_isiI {te : TE} {ae : AE} (h1 : RE K Δ te ae) : RE K Δ (tCB (rIsi K) (tCons te (tCons (tC (.ty "int")) tNil))) (fun s A => ae s fun d s1 => A (.bool (isI d)) s1) := re_isiG (fun _ => kit_int) h1
theorem re_isiB {te : TE} {ae : AE} (h1 : RE K Δ te ae) : RE K Δ (tCB (rIsi K) (tCons te (tCons (tC (.ty "bool")) tNil))) (fun s A => ae s fun d s1 => A (.bool (isB d)) s1) := re_isiG (fun _ => kit_bool) h1
def aRg1 (a : AE) : AS → (Int → Int → AS → Prop) → Prop := fun s A => a s fun d s1 => ∃ n, d = .int n ∧ A 0 n s1
def aRg2 (a b : AE) : AS → (Int → Int → AS → Prop) → Prop := fun s A => a s fun d s1 => b s1 fun e s2 => ∃ i j, d = .int i ∧ e = .int j ∧ A i j s2
def RRg (t : L2.St → Hp → (Int → Int → Hp → Prop) → Prop) (a : AS → (Int → Int → AS → Prop) → Prop) (K : PySem.W.Frag) (Δ : DK) : Prop := ∀ (C : Cy) (B : List Addr) (σ : L2.St) (H : Hp) (s : AS) (Q : Int → Int → Hp → Prop) (A : Int → Int → AS → Prop), En K Δ C B σ H s → a s A →
  (∀ i j H' s', A i j s' → Mx Δ.w C.as H H' → En K Δ C B σ H' s' → Q i j H') → t σ H Q
theorem rrg1 {te : TE} {ae : AE} (h1 : RE K Δ te ae) : RRg (tRg1 te) (aRg1 ae) K Δ := by
  intro C B σ H s Q A E h q
  refine h1 C B σ H s _ _ E h fun v d H1 s1 a1 m1 E1 dv => ?_
  obtain ⟨n, e, a⟩ := a1
  subst e
  exact ⟨n, dv_int dv, q _ _ _ _ a m1 E1⟩
theorem rrg2 {te tf : TE} {ae af : AE} (h1 : RE K Δ te ae) (h2 : RE K Δ tf af) : RRg (tRg2 te tf) (aRg2 ae af) K Δ := by
  intro C B σ H s Q A E h q
  refine h1 C B σ H s _ _ E h fun v d H1 s1 a1 m1 E1 dv => h2 C B σ H1 s1 _ _ E1 a1 fun u e H2 s2 a2 m2 E2 du => ?_
  obtain ⟨i, j, e1, e2, a⟩ := a2
  subst e1 e2
  exact ⟨i, j, dv_int dv, dv_int du, q _ _ _ _ a (m1.trans m2) E2⟩
def rgD (a b : Int) : List Int := (List.range (b - a).toNat).map fun i => a + (i : Nat)
theorem rgV_eq (a b : Int) : rgV a b = (rgD a b).map V.int := by
  unfold rgV rgD
  rw [List.map_map]
  rfl
theorem re_listRg {t : L2.St → Hp → (Int → Int → Hp → Prop) → Prop} {a : AS → (Int → Int → AS → Prop) → Prop} (h1 : RRg t a K Δ) : RE K Δ (tLstRg t) (fun s A => a s fun i j s1 => RgOk i j ∧ A (.list ((rgD i j).map .int)) s1) := by
  intro C B σ H s Q A E h q
  refine h1 C B σ H s _ _ E h fun i j H1 s1 a1 m1 E1 => ⟨a1.1, fun p np => ?_⟩
  rw [rgV_eq]
  obtain ⟨sm, dv⟩ := new_lst E1 np (dvInts (rgD i j))
  exact q _ _ _ _ a1.2 (m1.trans (.of_same sm)) (E1.same sm) dv
theorem re_tupRg {t : L2.St → Hp → (Int → Int → Hp → Prop) → Prop} {a : AS → (Int → Int → AS → Prop) → Prop} (h1 : RRg t a K Δ) : RE K Δ (tTupRg t) (fun s A => a s fun i j s1 => RgOk i j ∧ A (.tuple ((rgD i j).map .int)) s1) := by
  intro C B σ H s Q A E h q
  refine h1 C B σ H s _ _ E h fun i j H1 s1 a1 m1 E1 => ⟨a1.1, fun p np => ?_⟩
  rw [rgV_eq]
  obtain ⟨sm, dv⟩ := new_tup np (dvInts (rgD i j))
  exact q _ _ _ _ a1.2 (m1.trans (.of_same sm)) (E1.same sm) dv
def aIndex (ao ae : AE) : AE := fun s A => ao s fun d s1 => (∃ ds, d = .list ds) ∧ ae s1 fun e s2 => ∃ (ns : List Int) (i : Int) (j : Nat), d = .list (ns.map .int) ∧ e = .int i ∧ ns[j]? = some i ∧ (∀ m : Nat, m < j → ns[m]? ≠ some i) ∧ A (.int j) s2
theorem re_index {to te : TE} {ao ae : AE} (h1 : RE K Δ to ao) (h2 : RE K Δ te ae) : RE K Δ (tBM K "list" (rIndex K) to (tCons te tNil)) (aIndex ao ae) := by
  intro C B σ H s Q A E h q
  refine h1 C B σ H s _ _ E h fun v d H1 s1 a1 m1 E1 dv => ?_
  obtain ⟨⟨ds, ed⟩, a1⟩ := a1
  subst ed
  obtain ⟨p, us, ep, hp, hB, hd⟩ := dv.lstI
  subst ep
  refine ⟨.inl ⟨rfl, us, SqL.of hp⟩, h2 C B σ H1 s1 _ _ E1 a1 fun u e H2 s2 a2 m2 E2 du => ?_⟩
  obtain ⟨ns, i, j, ed, ee, hj, hno, a⟩ := a2
  subst ee
  cases du
  cases ed
  rw [hd.ints] at hp
  have hp2 := (m2.up E1.sub).kp _ _ hB rfl hp
  refine ⟨p, ns.map V.int, .int i, j, .int i, rfl, rfl, SqL.of hp2, rfl, flat_ints _, by rw [List.getElem?_map, hj]; rfl, by simp [eqV], fun m z hm hz => ?_, q _ _ _ _ a (m1.trans m2) E2 (.int _)⟩
  rw [List.getElem?_map] at hz
  cases en : ns[m]? with
  | none =>
    rw [en] at hz
    cases hz
  | some n =>
    rw [en] at hz
    cases hz
    have := hno m hm
    rw [en] at this
    have ne : n ≠ i := fun e => this (by rw [e])
    simpa [eqV] using ne
theorem re_revT {te : TE} {ae : AE} (h1 : RE K Δ te ae) : RE K Δ (tRevT K te) (fun s A => ae s fun d s1 => ∃ ds, d = .tuple ds ∧ A (.tuple ds.reverse) s1) := by
  intro C B σ H s Q A E h q
  refine h1 C B σ H s _ _ E h fun v d H1 s1 a1 m1 E1 dv => ?_
  obtain ⟨ds, ed, a⟩ := a1
  subst ed
  obtain ⟨p, us, ep, hp, hd⟩ := dv.tupI
  subst ep
  refine ⟨p, us, rfl, hp, fun l nl => ?_⟩
  obtain ⟨sm, dv⟩ := new_tup nl hd.back
  exact q _ _ _ _ a (m1.trans (.of_same sm)) (E1.same sm) dv
abbrev RP := List PyData → (PyData → Prop) → Prop
abbrev RKd := List PyData → Kx → (PyData → Kx → Prop) → Prop
def spP (K : PySem.W.Frag) (R : RP) : Sp := fun vs H Q _ => ∃ (B : List Addr) (ds : List PyData) (A : PyData → Prop), Stands B H ∧ DvAll K H B vs ds ∧ R ds A ∧ ∀ v d H', A d → Same H H' → Dv K H' B v d → Q v H'
def spK (K : PySem.W.Frag) (Δ : DK) (R : RKd) : Sp := fun vs H Q _ => ∃ (r : Addr) (as B : List Addr) (vs' : List V) (ds : List PyData) (k : Kx) (A : PyData → Kx → Prop), vs = .ref r :: vs' ∧ (∀ a ∈ as, a ∈ B) ∧ Stands B H ∧ Δ.P H r as k ∧ DvAll K H B vs' ds ∧ R ds k A ∧
  ∀ v d k' H', A d k' → Mx Δ.w as H H' → Δ.P H' r as k' → Dv K H' B v d → Q v H'
def aCallP (R : RP) (aa : AA) : AE := fun s A => aa s fun ds s1 => R ds fun d => A d s1
theorem re_callP {R : RP} {ta : TA} {aa : AA} (h1 : RA K Δ ta aa) : RE K Δ (tCall (spP K R) [] E0 ta) (aCallP R aa) := by
  intro C B σ H s Q A E h q
  refine h1 C B σ H s _ _ E h fun vs ds H1 s1 a1 m1 E1 dv => ?_
  rw [List.append_nil]
  exact ⟨B, ds, _, E1.st, dv, a1, fun v d H' a sm dv' => q v d H' s1 a (m1.trans (.of_same sm)) (E1.same sm) dv'⟩
def aCallK (i : Nat) (R : RKd) (aa : AA) : AE := fun s A => s.env[i]? = some .deck ∧ aa s fun ds s1 => ∃ k, s1.k = some k ∧ R ds k fun d k' => A d ⟨s1.env, some k'⟩
theorem re_callK {i : Nat} {R : RKd} {ta : TA} {aa : AA} (h1 : RA K Δ ta aa) : RE K Δ (tCall (spK K Δ R) [] E0 (tCons (tVar i) ta)) (aCallK i R aa) := by
  intro C B σ H s Q A E h q
  refine ⟨.ref C.r, E.dr i h.1, h1 C B σ H s _ _ E h.2 fun vs ds H1 s1 a1 m1 E1 dv => ?_⟩
  show spK K Δ R ((V.ref C.r :: vs) ++ []) H1 Q E0
  rw [List.append_nil]
  obtain ⟨k, hk, a⟩ := a1
  refine ⟨C.r, C.as, B, vs, ds, k, _, rfl, E1.sub, E1.st, E1.dk k hk, dv, a, fun v d k' H' a' mx dk' dv' => ?_⟩
  exact q v d H' _ a' (m1.trans mx) (E1.move mx (kk := some k') fun k'' e => by cases e; exact dk') dv'
def startP (N : List Str) (ds : List PyData) : AS := ⟨ds.map Sl.dat ++ List.replicate (N.length - ds.length) .free, none⟩
def startK (N : List Str) (ds : List PyData) (k : Kx) : AS := ⟨.deck :: (ds.map Sl.dat ++ List.replicate (N.length - (ds.length + 1)) .free), some k⟩
theorem start_dat {N : List Str} {vs : List V} {ds : List PyData} {H : Hp} {B : List Addr} (dv : DvAll K H B vs ds) (n : Nat) {i : Nat} {d : PyData} (h : (ds.map Sl.dat ++ List.replicate n Sl.free)[i]? = some (.dat d)) (w : List (Option V)) :
    ∃ v, (vs.map some ++ w)[i]? = some (some v) ∧ Dv K H B v d := by
  by_cases hi : i < ds.length
  · rw [List.getElem?_append_left (by rw [List.length_map]; exact hi), List.getElem?_map] at h
    rw [List.getElem?_append_left (by rw [List.length_map, dv.len]; exact hi), List.getElem?_map]
    cases e : ds[i]? with
    | none =>
      rw [e] at h
      cases h
    | some x =>
      rw [e] at h
      cases h
      obtain ⟨v, hv, q⟩ := dv.gets e
      exact ⟨v, by rw [hv]; rfl, q⟩
  · rw [List.getElem?_append_right (by rw [List.length_map]; omega), List.getElem?_replicate] at h
    split at h <;> cases h
theorem start_not {ds : List PyData} (n : Nat) {i : Nat} {x : Sl} (h : (ds.map Sl.dat ++ List.replicate n Sl.free)[i]? = some x) : x = .free ∨ ∃ d, x = .dat d := by
  by_cases hi : i < ds.length
  · rw [List.getElem?_append_left (by rw [List.length_map]; exact hi), List.getElem?_map] at h
    cases e : ds[i]? with
    | none =>
      rw [e] at h
      cases h
    | some y =>
      rw [e] at h
      cases h
      exact .inr ⟨y, rfl⟩
  · rw [List.getElem?_append_right (by rw [List.length_map]; omega), List.getElem?_replicate] at h
    split at h
    · cases h
      exact .inl rfl
    · cases h
theorem start_noe {ds : List PyData} {n : Nat} (i : Nat) (a D : Addr) (d : Option Addr) (fs : List (Str × PyData)) : (ds.map Sl.dat ++ List.replicate n Sl.free)[i]? ≠ some (.exc a D d fs) := fun h => by
  rcases start_not _ h with z | ⟨d, z⟩ <;> cases z
theorem startK_noe {N : List Str} {ds : List PyData} {k : Kx} (i : Nat) (a D : Addr) (d : Option Addr) (fs : List (Str × PyData)) : (startK N ds k).env[i]? ≠ some (.exc a D d fs) := fun h => by
  cases i with
  | zero => cases h
  | succ i => exact start_noe i a D d fs h
theorem startL_noe {n i : Nat} (j : Nat) (a D : Addr) (d : Option Addr) (fs : List (Str × PyData)) : ((List.replicate n Sl.free).set i .deck)[j]? ≠ some (.exc a D d fs) := fun h => by
  rcases set_get h with ⟨_, z, _⟩ | ⟨_, z⟩
  · cases z
  · rw [List.getElem?_replicate] at z
    split at z <;> cases z
theorem mx_nil {w : Bool} {H H' : Hp} (hw : w = false) (m : Mx w [] H H') : Same H H' := fun b o e => m.tk hw b o List.not_mem_nil e
theorem goP {R : RP} {vs : List V} {H : Hp} {Q : VK} {E : XK} {N : List Str} {t : TS} {a : AStm} (hw : Δ.w = false) (h : spP K R vs H Q E) (rs : RS K Δ t a) (hb : ∀ ds A, R ds A → a ⟨fun _ => A .none, fun d _ => A d⟩ (startP N ds)) :
    t { nx := fun _ H' => Q .non H', rt := Q } (L2.start N vs) H := by
  obtain ⟨B, ds, A, st, dv, r, q⟩ := h
  refine rs ⟨0, [], B, H, st⟩ B _ H (startP N ds) _ ⟨fun _ => A .none, fun d _ => A d⟩ ?_ (hb ds A r) (fun B' σ' H' s' a' g E' => q _ _ _ a' (mx_nil hw E'.mw) .non) (fun v d H' s' a' rt => q _ _ _ a' (mx_nil hw rt.mw) rt.dv)
  refine ⟨?_, fun i d h => start_dat (N := N) dv _ h _, fun i h => ?_, fun i a D d fs h => absurd h (start_noe _ _ _ _ _), ⟨fun _ => 0, fun i es h ho => ?_, fun i j d1 d2 h _ ho => ?_⟩, st, fun a ha => absurd ha List.not_mem_nil, fun b hb => hb, fun k hk => ?_, .refl _ _⟩
  · show (vs.map some ++ List.replicate (N.length - vs.length) none).length = (ds.map Sl.dat ++ List.replicate (N.length - ds.length) Sl.free).length
    rw [List.length_append, List.length_append, List.length_map, List.length_map, List.length_replicate, List.length_replicate, dv.len]
  · rcases start_not _ h with z | ⟨d, z⟩ <;> first | (subst z; cases ho) | cases z
  · rcases start_not _ h with z | ⟨d, z⟩ <;> first | (subst z; cases ho) | cases z
  · rcases start_not _ h with z | ⟨d, z⟩ <;> first | (subst z; cases ho) | cases z
  · cases hk
theorem lenP {R : RP} {vs : List V} {H : Hp} {Q : VK} {E : XK} {n : Nat} (h : spP K R vs H Q E) (hl : ∀ ds A, R ds A → ds.length = n) : vs.length = n := by
  obtain ⟨B, ds, A, st, dv, r, q⟩ := h
  rw [dv.len]
  exact hl ds A r
theorem goK {R : RKd} {vs : List V} {H : Hp} {Q : VK} {E : XK} {N : List Str} {t : TS} {a : AStm} (h : spK K Δ R vs H Q E) (rs : RS K Δ t a)
    (hb : ∀ ds k A, R ds k A → a ⟨fun s => ∃ k1 k', s.k = some k1 ∧ k1.le k' ∧ A .none k', fun d s => ∃ k1 k', s.k = some k1 ∧ k1.le k' ∧ A d k'⟩ (startK N ds k)) :
    t { nx := fun _ H' => Q .non H', rt := Q } (L2.start N vs) H := by
  obtain ⟨r, as, B, vs', ds, k, A, ev, sub, st, dk, dv, hr, q⟩ := h
  subst ev
  refine rs ⟨r, as, B, H, st⟩ B _ H (startK N ds k) _ _ ?_ (hb ds k A hr) (fun B' σ' H' s' a' g E' => ?_) (fun v d H' s' a' rt => ?_)
  · have up : ∀ {i : Nat} {x : Sl}, (startK N ds k).env[i]? = some x → (i = 0 ∧ x = .deck) ∨ ∃ j, i = j + 1 ∧ (ds.map Sl.dat ++ List.replicate (N.length - (ds.length + 1)) Sl.free)[j]? = some x := by
      intro i x h
      cases i with
      | zero =>
        cases h
        exact .inl ⟨rfl, rfl⟩
      | succ j => exact .inr ⟨j, rfl, h⟩
    refine ⟨?_, fun i d h => ?_, fun i h => ?_, fun i a D d fs h => absurd h (startK_noe _ _ _ _ _), ⟨fun _ => 0, fun i es h ho => ?_, fun i j d1 d2 h _ ho => ?_⟩, st, sub, fun b hb => hb, fun k' hk => ?_, .refl _ _⟩
    · show ((V.ref r :: vs').map some ++ List.replicate (N.length - (V.ref r :: vs').length) none).length = (Sl.deck :: (ds.map Sl.dat ++ List.replicate (N.length - (ds.length + 1)) Sl.free)).length
      rw [List.length_append, List.length_cons (as := ds.map Sl.dat ++ _), List.length_append, List.length_map, List.length_map, List.length_replicate, List.length_replicate, List.length_cons, dv.len]
      omega
    · rcases up h with ⟨_, z⟩ | ⟨j, e, z⟩
      · first | (subst z; cases ho) | cases z
      · subst e
        exact start_dat (N := N) dv _ z _
    · rcases up h with ⟨z, _⟩ | ⟨j, e, z⟩
      · subst z
        rfl
      · rcases start_not _ z with z | ⟨d, z⟩ <;> first | (subst z; cases ho) | cases z
    · rcases up h with ⟨_, z⟩ | ⟨j, e, z⟩
      · first | (subst z; cases ho) | cases z
      · rcases start_not _ z with z | ⟨d, z⟩ <;> first | (subst z; cases ho) | cases z
    · rcases up h with ⟨_, z⟩ | ⟨j, e, z⟩
      · first | (subst z; cases ho) | cases z
      · rcases start_not _ z with z | ⟨d, z⟩ <;> first | (subst z; cases ho) | cases z
    · cases hk
      exact dk
  · obtain ⟨k1, k', e, le, a'⟩ := a'
    exact q _ _ k' _ a' E'.mw (Δ.mono (E'.dk k1 e) le) .non
  · obtain ⟨k1, k', e, le, a'⟩ := a'
    exact q _ _ k' _ a' rt.mw (Δ.mono (rt.dk k1 e) le) rt.dv
theorem lenK {R : RKd} {vs : List V} {H : Hp} {Q : VK} {E : XK} {n : Nat} (h : spK K Δ R vs H Q E) (hl : ∀ ds k A, R ds k A → ds.length + 1 = n) : vs.length = n := by
  obtain ⟨r, as, B, vs', ds, k, A, ev, sub, st, dk, dv, hr, q⟩ := h
  rw [ev, List.length_cons, dv.len]
  exact hl ds k A hr
/-- the law's own body, behind its first statement -/
theorem goL {t : TS} {a : AStm} (rs : RS K Δ t a) {σ : L2.St} {H : Hp} {r : Addr} {as : List Addr} {k : Kx} {i n : Nat} {D : Ends} (hσ : σ[i]? = some (some (.ref r))) (hl : σ.length = n) (st : Stands as H) (dk : Δ.P H r as k)
    (hq : ∀ H', D.rt (.bl true) H') (hb : a ⟨fun _ => False, fun d _ => d = .bool true⟩ ⟨(List.replicate n Sl.free).set i .deck, some k⟩) : t D σ H := by
  refine rs ⟨r, as, as, H, st⟩ as σ H _ D _ ?_ hb (fun B' σ' H' s' a' g E' => a'.elim) (fun v d H' s' a' rt => ?_)
  · have up : ∀ {j : Nat} {x : Sl}, ((List.replicate n Sl.free).set i .deck)[j]? = some x → (j = i ∧ x = .deck) ∨ x = .free := by
      intro j x h
      rcases set_get h with ⟨z1, z2, _⟩ | ⟨_, z⟩
      · exact .inl ⟨z1, z2⟩
      · rw [List.getElem?_replicate] at z
        split at z
        · cases z
          exact .inr rfl
        · cases z
    refine ⟨by show _ = ((List.replicate n Sl.free).set i .deck).length; rw [List.length_set, List.length_replicate]; exact hl, fun j d h => ?_, fun j h => ?_, fun j a D d fs h => absurd h (startL_noe _ _ _ _ _), ⟨fun _ => 0, fun j es h ho => ?_, fun j l d1 d2 h _ ho => ?_⟩, st, fun a ha => ha, fun b hb => hb, fun k' hk => ?_, .refl _ _⟩
    · rcases up h with ⟨_, z⟩ | z <;> first | (subst z; cases ho) | cases z
    · rcases up h with ⟨z, _⟩ | z
      · rw [z]
        exact hσ
      · cases z
    · rcases up h with ⟨_, z⟩ | z <;> first | (subst z; cases ho) | cases z
    · rcases up h with ⟨_, z⟩ | z <;> first | (subst z; cases ho) | cases z
    · cases hk
      exact dk
  · subst a'
    have e := dv_bool rt.dv
    subst e
    exact hq H'
end
section
variable {K : PySem.W.Frag} {Δ : DK}
def itemsOf : PyData → Option (List PyData)
  | .list ds => some ds
  | .tuple ds => some ds
  | _ => none
def rIxA (K : PySem.W.Frag) : R2 := fun x y H Q => rIxL K x y H Q ∨ rIxT K x y H Q
theorem kixA {X : Cx} (K : PySem.W.Frag) (hK : X.K = K := by rfl) : IxR X (rIxA K) := by
  subst hK
  intro a b pins s σ H x y v u Q I rx ry h
  rcases h with h | h
  · exact ix_list a b pins s σ H x y v u Q I rx ry h
  · exact ix_tup a b pins s σ H x y v u Q I rx ry h
def aIxA : A2 := fun d e s A => ∃ ds i x, itemsOf d = some ds ∧ e = .int i ∧ atI ds i = some x ∧ A x s
theorem items_cases {d : PyData} {ds : List PyData} (h : itemsOf d = some ds) : d = .list ds ∨ d = .tuple ds := by
  cases d <;> first | cases h | skip
  · exact .inl rfl
  · exact .inr rfl
theorem r2_ixA : R2' K Δ (rIxA K) aIxA := by
  intro C B σ H s x y d e Q A E dx dy h q
  obtain ⟨ds, i, z, e1, e2, hz, a⟩ := h
  rcases items_cases e1 with e | e
  · exact .inl (r2_ixL C B σ H s x y _ _ Q A E dx dy ⟨ds, i, z, e, e2, hz, a⟩ q)
  · exact .inr (r2_ixT C B σ H s x y _ _ Q A E dx dy ⟨ds, i, z, e, e2, hz, a⟩ q)
theorem rc_len' : RC' K Δ (rLenS K) (fun ds s A => ∃ d xs, ds = [d] ∧ itemsOf d = some xs ∧ A (.int xs.length) s) := by
  intro C B σ H s vs ds Q A E dv h q
  obtain ⟨d, xs, e, e1, a⟩ := h
  refine rc_len C B σ H s vs ds Q A E dv ⟨xs, ?_, a⟩ q
  rcases items_cases e1 with z | z
  · exact .inl (by rw [e, z])
  · exact .inr (by rw [e, z])
def rSlU (K : PySem.W.Frag) : V → Option Int → Option Int → Hp → VK → Prop := fun x lo hi H Q => rSlL K x lo hi H Q ∨ rSlA K x lo hi H Q
theorem kslU {X : Cx} (K : PySem.W.Frag) (hK : X.K = K := by rfl) : SlR X (rSlU K) := by
  subst hK
  exact SlR.or sl_list sl_tupA
def sliceD (lo hi : Option Int) : PyData → PyData
  | .list ds => .list (cutD ds lo hi)
  | .tuple ds => .tuple (cutD ds lo hi)
  | d => d
def aSlU (ae : AE) (al ah : AO) : AE := fun s A => ae s fun d s1 => al s1 fun lo s2 => ah s2 fun hi s3 => ∃ ds, itemsOf d = some ds ∧ A (sliceD lo hi d) s3
theorem re_slU {te : TE} {tl th : TO} {ae : AE} {al ah : AO} (h1 : RE K Δ te ae) (h2 : RO K Δ tl al) (h3 : RO K Δ th ah) : RE K Δ (tSl (rSlU K) te tl th) (aSlU ae al ah) := by
  intro C B σ H s Q A E h q
  refine h1 C B σ H s _ _ E h fun v d H1 s1 a1 m1 E1 dv1 => h2 C B σ H1 s1 _ _ E1 a1 fun lo H2 s2 a2 m2 E2 => h3 C B σ H2 s2 _ _ E2 a2 fun hi H3 s3 a3 m3 E3 => ?_
  obtain ⟨ds, e, a⟩ := a3
  have dv3 := (dv1.mv (m2.up E2.sub)).mv (m3.up E3.sub)
  have m := (m1.trans m2).trans m3
  rcases items_cases e with z | z
  · subst z
    obtain ⟨p, xs, ev, hp, hB, hd⟩ := dv3.lstI
    subst ev
    refine .inl ⟨p, xs, rfl, SqL.of hp, fun p2 n2 => ?_⟩
    obtain ⟨sm, dv⟩ := new_lst E3 n2 (cutDv hd lo hi)
    exact q _ _ _ s3 a (m.trans (.of_same sm)) (E3.same sm) dv
  · subst z
    obtain ⟨p, xs, ev, hp, hd⟩ := dv3.tupI
    subst ev
    refine .inr ⟨p, xs, rfl, hp, fun hh => ?_, fun _ p2 n2 => ?_⟩
    · rw [hd.len] at hh
      refine q _ _ _ s3 a m E3 ?_
      show Dv K H3 B (.ref p) (.tuple (cutD ds lo hi))
      rw [cutD_all hh.1 hh.2]
      exact dv3
    · obtain ⟨sm, dv⟩ := new_tup n2 (cutDv hd lo hi)
      exact q _ _ _ s3 a (m.trans (.of_same sm)) (E3.same sm) dv
theorem kall {X : Cx} (K : PySem.W.Frag) (hc : X.calm = true) (hK : X.K = K := by rfl) : CallR X (.builtin "all") (rAll K) := by subst hK; exact cr_all hc
theorem re_ixAO (i : Nat) {c : Int} : RE K Δ (tOp (rIxA K) (tVar i) (tC (.int c))) (aIxO i (aC (.int c))) := by
  intro C B σ H s Q A E h q
  obtain ⟨v, hv, h'⟩ := re_ixO (K := K) (Δ := Δ) i C B σ H s Q A E h q
  exact ⟨v, hv, .inl h'⟩
def zipD (xs ys : List PyData) : List PyData := (xs.zip ys).map fun p => .tuple [p.1, p.2]
def enumD (xs : List PyData) : List PyData := (List.range xs.length).map fun i => .tuple [.int (i : Nat), xs.getD i .none]
theorem zipD_len (xs ys : List PyData) : (zipD xs ys).length = min xs.length ys.length := by
  unfold zipD
  rw [List.length_map, List.length_zip]
theorem zipD_get {xs ys : List PyData} {i : Nat} {d : PyData} (h : (zipD xs ys)[i]? = some d) : ∃ x y, xs[i]? = some x ∧ ys[i]? = some y ∧ d = .tuple [x, y] := by
  unfold zipD at h
  rw [List.getElem?_map] at h
  cases e : (xs.zip ys)[i]? with
  | none =>
    rw [e] at h
    cases h
  | some p =>
    rw [e] at h
    cases h
    rw [List.getElem?_zip_eq_some] at e
    exact ⟨p.1, p.2, e.1, e.2, rfl⟩
theorem enumD_get {xs : List PyData} {i : Nat} {d : PyData} (h : (enumD xs)[i]? = some d) : ∃ x, xs[i]? = some x ∧ d = .tuple [.int (i : Nat), x] := by
  unfold enumD at h
  rw [List.getElem?_map] at h
  by_cases hi : i < xs.length
  · rw [List.getElem?_range hi] at h
    cases h
    refine ⟨xs[i], List.getElem?_eq_getElem hi, ?_⟩
    dsimp only
    rw [List.getD_eq_getElem?_getD, List.getElem?_eq_getElem hi]
    rfl
  · rw [List.getElem?_eq_none (by rw [List.length_range]; omega)] at h
    cases h
theorem enumD_len (xs : List PyData) : (enumD xs).length = xs.length := by
  unfold enumD
  rw [List.length_map, List.length_range]
theorem ri_zip {ta : TA} {aa : AA} (ha : RA K Δ ta aa) : RI K Δ (iZip K ta) (fun s A => aa s fun ds s1 => ∃ xs ys, ds = [.list xs, .list ys] ∧ A (zipD xs ys) s1) := by
  intro C B σ H s R A E h q
  refine ha C B σ H s _ _ E h fun vs ds H1 s1 a1 m1 E1 dv1 => ?_
  obtain ⟨xs, ys, e, a⟩ := a1
  subst e
  obtain ⟨v, u, ev, d1, d2⟩ := dv1.two
  obtain ⟨p, us, ep, hp, hB, hd⟩ := d1.lstI
  obtain ⟨p', us', ep', hp', hB', hd'⟩ := d2.lstI
  subst ev ep ep'
  refine ⟨p, p', us, us', rfl, SqL.of hp, SqL.of hp', q _ _ _ _ a m1 E1 fun B' H' g st => ?_⟩
  have q1 : SqL K H' p us := SqL.of (g.mv.kp _ _ hB rfl hp)
  have q2 : SqL K H' p' us' := SqL.of (g.mv.kp _ _ hB' rfl hp')
  have e1 := DvAll.go g _ _ hd
  have e2 := DvAll.go g _ _ hd'
  refine ⟨fun i d hi => ?_, ⟨us, us', q1, q2, ?_⟩⟩
  · obtain ⟨x, y, hx, hy, e⟩ := zipD_get hi
    subst e
    obtain ⟨vx, gx, dx⟩ := e1.gets hx
    obtain ⟨vy, gy, dy⟩ := e2.gets hy
    refine ⟨⟨us, us', vx, vy, q1, q2, gx, gy⟩, fun z H2 yl => ?_⟩
    obtain ⟨T, x', y', ez, nT, eH, f1, f2⟩ := yl
    have := f1 us q1
    rw [gx] at this
    cases this
    have := f2 us' q2
    rw [gy] at this
    cases this
    subst ez eH
    exact new_tup nT (.cons dx (.cons dy .nil))
  · rw [zipD_len, ← hd.len, ← hd'.len]
    omega
theorem ri_enum {ta : TA} {aa : AA} (ha : RA K Δ ta aa) : RI K Δ (iEnum K ta) (fun s A => aa s fun ds s1 => ∃ xs, ds = [.list xs] ∧ A (enumD xs) s1) := by
  intro C B σ H s R A E h q
  refine ha C B σ H s _ _ E h fun vs ds H1 s1 a1 m1 E1 dv1 => ?_
  obtain ⟨xs, e, a⟩ := a1
  subst e
  obtain ⟨v, ev, d1⟩ := dv1.one
  obtain ⟨p, us, ep, hp, hB, hd⟩ := d1.lstI
  subst ev ep
  refine ⟨p, us, rfl, SqL.of hp, q _ _ _ _ a m1 E1 fun B' H' g st => ?_⟩
  have q1 : SqL K H' p us := SqL.of (g.mv.kp _ _ hB rfl hp)
  have e1 := DvAll.go g _ _ hd
  refine ⟨fun i d hi => ?_, ⟨us, q1, ?_⟩⟩
  · obtain ⟨x, hx, e⟩ := enumD_get hi
    subst e
    obtain ⟨vx, gx, dx⟩ := e1.gets hx
    refine ⟨⟨us, vx, q1, gx⟩, fun z H2 yl => ?_⟩
    obtain ⟨T, x', ez, nT, eH, f1⟩ := yl
    have := f1 us q1
    rw [gx] at this
    cases this
    subst ez eH
    exact new_tup nT (.cons (.int _) (.cons dx .nil))
  · rw [enumD_len, ← hd.len]
    exact Nat.le_refl _
end
def ΔD : DK := ⟨false, fun H r as k => ∃ c, as = [r, c] ∧ Deck H r c k.n, fun {H H' r as k} h e _ => by
  obtain ⟨c, ea, ns, j, h1, h2, h3, h4⟩ := h
  subst ea
  refine ⟨c, rfl, ns, j, h1, ?_, ?_, h4⟩
  · rw [e r List.mem_cons_self]
    exact h2
  · rw [e c (List.mem_cons_of_mem _ List.mem_cons_self)]
    exact h3, fun {H r as k k'} h le => by
  obtain ⟨c, ea, d⟩ := h
  exact ⟨c, ea, d.mono le.1⟩⟩
theorem mx_keep {w : Bool} {r c : Addr} {H H' : Hp} {k k' : Int} (kp : Keep r c H H') (d : Deck H r c k) (d' : Deck H' r c k') : Mx w [r, c] H H' := by
  refine ⟨.of_keep kp d List.mem_cons_self (List.mem_cons_of_mem _ List.mem_cons_self) fun b hb => ?_, fun _ b o n e => kp b o (fun z => n (by rw [z]; exact List.mem_cons_self)) (fun z => n (by rw [z]; exact List.mem_cons_of_mem _ List.mem_cons_self)) e⟩
  obtain ⟨ns, j, h1, h2, h3, _⟩ := d'
  by_cases e1 : b = r
  · rw [e1, h2]
    intro z
    cases z
  · by_cases e2 : b = c
    · rw [e2, h3]
      intro z
      cases z
    · cases e : H b with
      | none => exact absurd e hb
      | some o =>
        rw [kp b o e1 e2 e]
        intro z
        cases z
theorem deck_stands {r c : Addr} {H : Hp} {k : Int} (d : Deck H r c k) : Stands [r, c] H := by
  intro b hb
  obtain ⟨ns, j, h1, h2, h3, _⟩ := d
  rcases List.mem_cons.mp hb with e | e
  · rw [e, h2]
    intro z
    cases z
  · rw [List.mem_singleton.mp e, h3]
    intro z
    cases z
theorem kbmR {X : Cx} {o e : Expr} {es : List Expr} {to : TE} {t : TA} {name : Str} {apos cpos : Pos} {T id : String} {r : V → List V → Hp → VK → Prop}
    (K : PySem.W.Frag) (pa : PlainAttrs T) (slot : Slot T name id)
    (hty : typeOf (.builtin id) = pure (.type "method_descriptor")) (hm : MtR X id r) (ho : PE X o to) (ha : PA X (e :: es) t)
    (hK : X.K = K := by rfl)
    (hbase : attributeBase o name X.env (eval o X.env) = eval o X.env := by rfl)
    (hfew : ((backTo cpos (starEach (e :: es) X.env)).all (fun x => !x.1) && (backToKw cpos (keywordEach [] X.env)).all (fun x => x.1.isSome)
      && decide ((e :: es).length + ([] : List Keyword).length + (if ([] : List Keyword).isEmpty then 0 else 1) < 30)) = true := by rfl)
    (hline : (apos.endLine == cpos.line) = true := by rfl)
    (hs : starEach (e :: es) X.env = (false, eval e X.env) :: starEach es X.env := by rfl)
    (hplain : (backTo cpos (starEach es X.env)).any (·.1) = false := by rfl) :
    PE X (.Call (.Attribute o name apos) (e :: es) [] cpos) (tBM K T r to t) := by
  subst hK
  exact pe_bm pa slot hty hm ho ha hbase hfew hline hs hplain
theorem IsTool.ne {m : Int} {tl : List (Int × Int)} (h : IsTool m tl) : tl ≠ [] := fun e => by
  have := h.len1
  rw [e, List.length_nil] at this
  omega
theorem map_get {α β : Type} {f : α → β} {l : List α} {i : Nat} {y : β} (h : (l.map f)[i]? = some y) : ∃ x, l[i]? = some x ∧ y = f x := by
  rw [List.getElem?_map] at h
  cases e : l[i]? with
  | none =>
    rw [e] at h
    cases h
  | some x =>
    rw [e] at h
    cases h
    exact ⟨x, rfl, rfl⟩
/-- with a test that changes nothing -/
theorem lcT' {g : AG} {tt : AT} {te : AE} {vs : List Nat} {s1 : AS} {A : PyData → AS → Prop} {xs : List PyData} (b : Nat → Bool) (f : Nat → PyData) (h5 : xs.length ≤ 100000)
    (he : ∀ i x, xs[i]? = some x → ∀ (Bt : AS → Prop) (Bf : AS → Prop), (b i = true → ∀ s : AS, s.k = s1.k → Bt s) → (b i = false → ∀ s : AS, s.k = s1.k → Bf s) → ∀ R : PyData → AS → Prop, (∀ s, Bt s → R (f i) s) →
      g x ⟨wipeA s1.env vs, s1.k⟩ fun s2 => tt s2 fun c s3 => if c = true then te s3 R else Bf s3)
    (ha : A (.list (((List.range xs.length).filter b).map f)) s1) : LcB xs s1 g tt te vs A := by
  refine ⟨h5, fun i acc k => k = s1.k ∧ acc = ((List.range i).filter b).map f, ⟨rfl, rfl⟩, fun i x acc k hx h => ?_, fun acc k h => ?_⟩
  · obtain ⟨e1, e2⟩ := h
    subst e1 e2
    refine he i x hx (fun s => b i = true ∧ s.k = s1.k) _ (fun hb s hs => ⟨hb, hs⟩) (fun hb s hs => ⟨hs, ?y⟩) _ (fun s hs => ⟨hs.2, ?x⟩)
    case y => rw [filter_range_succ, if_neg (by rw [hb]; exact Bool.false_ne_true), List.append_nil]
    case x => rw [filter_range_succ, if_pos hs.1]
  · obtain ⟨e1, e2⟩ := h
    subst e1 e2
    exact ha
theorem range_at {β : Type} {f : Nat → β} {n i : Nat} {x : β} (h : ((List.range n).map f)[i]? = some x) : x = f i ∧ i < n := by
  obtain ⟨j, hj, e⟩ := map_get h
  have hi := (List.getElem?_eq_some_iff.mp hj).1
  rw [List.length_range] at hi
  rw [List.getElem?_range hi] at hj
  cases hj
  exact ⟨e, hi⟩
/-- over a range, with a test that changes nothing -/
theorem lcRgT {n : Nat} {lo : Int} {g : AG} {tt : AT} {te : AE} {vs : List Nat} {s1 : AS} {A : PyData → AS → Prop} (b : Nat → Bool) (f : Nat → PyData) (h5 : n ≤ 100000)
    (he : ∀ i : Nat, i < n → ∀ (Bt : AS → Prop) (Bf : AS → Prop), (b i = true → ∀ s : AS, s.k = s1.k → Bt s) → (b i = false → ∀ s : AS, s.k = s1.k → Bf s) → ∀ R : PyData → AS → Prop, (∀ s, Bt s → R (f i) s) →
      g (.int (lo + (i : Nat))) ⟨wipeA s1.env vs, s1.k⟩ fun s2 => tt s2 fun c s3 => if c = true then te s3 R else Bf s3)
    (ha : A (.list (((List.range n).filter b).map f)) s1) : LcB ((List.range n).map fun i => PyData.int (lo + (i : Nat))) s1 g tt te vs A := by
  have hl : ((List.range n).map fun i => PyData.int (lo + (i : Nat))).length = n := by rw [List.length_map, List.length_range]
  refine lcT' b f (by rw [hl]; exact h5) (fun i x hx => ?_) (by rw [hl]; exact ha)
  obtain ⟨e, hi⟩ := range_at hx
  subst e
  exact he i hi
section
variable {K : PySem.W.Frag} {Δ : DK}
theorem go_new {B : List Addr} {H : Hp} {p : Addr} {o : HO} (np : H p = none) : Go B H (p :: B) (upd H p o) := ⟨.of_same (same_upd np), fun b hb => by
  rcases List.mem_cons.mp hb with z | z
  · rw [z]
    exact .inr np
  · exact .inl z⟩
theorem En.putOwn2 {C : Cy} {B : List Addr} {σ : L2.St} {H : Hp} {s : AS} (E : En K Δ C B σ H s) {i j : Nat} {p q : Addr} {us : List V} {ds : List PyData} (np : H p = none) (h : DvAll K H B us ds) (nq : upd H p (.lst us) q = none) :
    En K Δ C (q :: p :: B) ((σ.set i (some (.ref p))).set j (some (.ref q))) (upd (upd H p (.lst us)) q (.lst [])) ((s.put i (.own ds)).put j (.own [])) :=
  (E.putOwn np h).putOwn nq .nil
def aParO (i j : Nat) (a : AS → (Int → Int → AS → Prop) → Prop) : AStm := fun A s => a s fun x y s1 => RgOk x y ∧ A.nx ((s1.put i (.own ((rgD x y).map .int))).put j (.own []))
theorem rs_parO (i j : Nat) {t : L2.St → Hp → (Int → Int → Hp → Prop) → Prop} {a : AS → (Int → Int → AS → Prop) → Prop} (h1 : RRg t a K Δ) : RS K Δ (tPar i j (tCons (tLstRg t) (tCons (tLst tNil) tNil))) (aParO i j a) := by
  intro C B σ H s D A E h qn qr
  refine h1 C B σ H s _ _ E h fun x y H1 s1 a1 m1 E1 => ⟨a1.1, fun p np => ⟨Nat.zero_le _, fun q nq => ?_⟩⟩
  rw [rgV_eq] at nq ⊢
  refine ⟨.ref p, .ref q, rfl, qn (q :: p :: B) _ _ _ a1.2 (((Go.of_mv (m1.up E.sub)).trans (go_new np)).trans (go_new nq)) ?_⟩
  exact E1.putOwn2 np (dvInts _) nq
theorem DvAll.erase : ∀ {H : Hp} {B : List Addr} {vs : List V} {ds : List PyData}, DvAll K H B vs ds → ∀ i : Nat, DvAll K H B (vs.eraseIdx i) (ds.eraseIdx i)
  | _, _, _, _, .nil, _ => .nil
  | _, _, _, _, .cons x r, 0 => r
  | _, _, _, _, .cons x r, i + 1 => .cons x (DvAll.erase r i)
/-- found.append(left.pop(e)) -/
def aPopApp (i j : Nat) (ae : AE) : AStm := fun A s => ∃ ds es, s.env[i]? = some (.own ds) ∧ s.env[j]? = some (.own es) ∧ i ≠ j ∧ ds.length ≤ 100000 ∧ es.length ≤ 100000 ∧ ae s fun d s1 => s1.env = s.env ∧
  ∃ (v : Int) (x : PyData), d = .int v ∧ 0 ≤ v ∧ es[v.toNat]? = some x ∧ A.nx ((s1.put j (.own (es.eraseIdx v.toNat))).put i (.own (ds ++ [x])))
theorem rs_popApp (i j : Nat) {te : TE} {ae : AE} (h1 : RE K Δ te ae) : RS K Δ (tDrop (tBM K "list" rAppend (tVar i) (tCons (tBM K "list" rPopAt (tVar j) (tCons te tNil)) tNil))) (aPopApp i j ae) := by
  intro C B σ H s D A E h qn qr
  obtain ⟨ds, es, hi, hj, hne, hl, hl2, h⟩ := h
  obtain ⟨p, us, hp, hus, hd⟩ := E.ownAt hi
  obtain ⟨p2, us2, hp2, hus2, hd2⟩ := E.ownAt hj
  refine ⟨.ref p, hp, .inl ⟨rfl, us, SqL.of hus⟩, .ref p2, hp2, .inl ⟨rfl, us2, SqL.of hus2⟩, h1 C B σ H s _ _ E h fun v d H1 s1 a1 m1 E1 dv => ?_⟩
  obtain ⟨es1, n, x, ed, n0, hx, a⟩ := a1
  subst ed
  cases dv
  have hi1 : s1.env[i]? = some (.own ds) := by rw [es1]; exact hi
  have hj1 : s1.env[j]? = some (.own es) := by rw [es1]; exact hj
  obtain ⟨q2, vs2, hq2, hvs2, hd2'⟩ := E1.ownAt hj1
  have e2 : q2 = p2 := by
    rw [hp2] at hq2
    exact (V.ref.inj (Option.some.inj (Option.some.inj hq2))).symm
  subst e2
  obtain ⟨y, hy, dy⟩ := hd2'.gets hx
  have hlt := (List.getElem?_eq_some_iff.mp hy).1
  have hlen := hd2'.len
  refine ⟨q2, vs2, n, n.toNat, y, rfl, rfl, hvs2, by omega, by omega, seqIndex_nat n0 (by omega), hy, ?_⟩
  obtain ⟨E2, g2⟩ := E1.grow hj1 hq2 (hd2'.erase n.toNat)
  have hi2 : (s1.put j (.own (es.eraseIdx n.toNat))).env[i]? = some (.own ds) := by
    show (s1.env.set j _)[i]? = _
    rw [List.getElem?_set_ne (fun z => hne z.symm)]
    exact hi1
  obtain ⟨q, vs, hq, hvs, hd'⟩ := E2.ownAt hi2
  have e1 : q = p := by
    rw [hp] at hq
    exact (V.ref.inj (Option.some.inj (Option.some.inj hq))).symm
  subst e1
  refine ⟨q, vs, y, rfl, rfl, hvs, ?_, ?_⟩
  · rw [hd'.len]
    exact Nat.lt_of_le_of_lt hl (by decide)
  · obtain ⟨E3, g3⟩ := E2.grow hi2 hq (hd'.app (.cons (Dv.go g2 _ _ dy) .nil))
    exact qn B σ _ _ a (((Go.of_mv (m1.up E.sub)).trans g2).trans g3) E3
theorem re_sortO (i : Nat) : RE K Δ (tCB (rSortedI K) (tCons (tVar i) tNil)) (fun s A => ∃ ns : List Int, s.env[i]? = some (.own (ns.map .int)) ∧ ∀ ns' : List Int, ns'.Perm ns → ns'.Pairwise (· ≤ ·) → A (.list (ns'.map .int)) s) := by
  intro C B σ H s Q A E h q
  obtain ⟨ns, hs, a⟩ := h
  obtain ⟨p, us, hp, hus, hd⟩ := E.ownAt hs
  rw [hd.ints] at hus
  refine ⟨.ref p, hp, p, ns, rfl, SqL.of hus, fun ns' l h1 h2 nl => ?_⟩
  obtain ⟨sm, dv⟩ := new_lst E nl (dvInts ns')
  exact q _ _ _ _ (a ns' h1 h2) (.of_same sm) (E.same sm) dv
end
def ΔB : DK := ⟨false, fun H r as k => ∃ c, as = [r, c] ∧ Deck H r c k.n ∧ ∃ ns : List Int, H c = some (.lst (ns.map V.int)) ∧ ns.length ≤ 63, fun {H H' r as k} h e _ => by
  obtain ⟨c, ea, ⟨ns, j, h1, h2, h3, h4⟩, ms, h5, h6⟩ := h
  subst ea
  have ec := e c (List.mem_cons_of_mem _ List.mem_cons_self)
  refine ⟨c, rfl, ⟨ns, j, h1, ?_, ?_, h4⟩, ms, ?_, h6⟩
  · rw [e r List.mem_cons_self]
    exact h2
  · rw [ec]
    exact h3
  · rw [ec]
    exact h5, fun {H r as k k'} h le => by
  obtain ⟨c, ea, d, z⟩ := h
  exact ⟨c, ea, d.mono le.1, z⟩⟩
def RDraw : RKd := fun ds k A => ∃ lim : Int, ds = [.int lim] ∧ k.n ≤ 1000000 ∧ 1 ≤ lim ∧ lim ≤ 1000000000000000 ∧ ∀ v : Int, 0 ≤ v → v < lim → A (.int v) (k.up (1))
def RSub : RKd := fun ds k A => ∃ m many : Int, ds = [.int m, .int many] ∧ k.n + many ≤ 1000000 ∧ 0 ≤ many ∧ many ≤ m ∧ m ≤ 1000 ∧ ∀ xs : List Int, xs.Pairwise (· < ·) → (xs.length : Int) = many → (∀ x ∈ xs, 0 ≤ x ∧ x < m) → A (.list (xs.map .int)) (k.up (many))
theorem pickI {xs : List Int} {u : Int} (h0 : 0 ≤ u) (h1 : u < xs.length) : ∃ x, x ∈ xs ∧ atI (xs.map PyData.int) u = some (.int x) := by
  have hl : u.toNat < xs.length := by omega
  refine ⟨xs[u.toNat], List.getElem_mem hl, atI_pos h0 ?_⟩
  rw [List.getElem?_map, List.getElem?_eq_getElem hl]
  rfl
section
variable {K : PySem.W.Frag} {Δ : DK}
theorem kienT {X : Cx} {e : Expr} {ta : TA} {p pos tpos : Pos} {elts : List Expr} {kk : Nat} (K : PySem.W.Frag) (hg : Gl X "enumerate") (hm : X.mg "enumerate" = none) (ha : PA X [e] ta) (hK : X.K = K := by rfl) (hs : starEach [e] X.env = [(false, eval e X.env)] := by rfl) :
    PI X (.Tuple elts kk tpos) (.Call (.Name "enumerate" p) [e] [] pos) (iEnT K ta) := by
  subst hK
  exact pi_enT hg hm ha hs
theorem ri_enT {ta : TA} {aa : AA} (ha : RA K Δ ta aa) : RI K Δ (iEnT K ta) (fun s A => aa s fun ds s1 => ∃ xs, ds = [.tuple xs] ∧ A (enumD xs) s1) := by
  intro C B σ H s R A E h q
  refine ha C B σ H s _ _ E h fun vs ds H1 s1 a1 m1 E1 dv1 => ?_
  obtain ⟨xs, e, a⟩ := a1
  subst e
  obtain ⟨v, ev, d1⟩ := dv1.one
  obtain ⟨p, us, ep, hp, hd⟩ := d1.tupI
  subst ev ep
  refine ⟨p, us, rfl, hp, q _ _ _ _ a m1 E1 fun B' H' g st => ?_⟩
  have q1 : SqT K H' p us := stayT_tup g.mv.st hp
  have e1 := DvAll.go g _ _ hd
  refine ⟨fun i d hi => ?_, ⟨us, q1, ?_⟩⟩
  · obtain ⟨x, hx, e⟩ := enumD_get hi
    subst e
    obtain ⟨vx, gx, dx⟩ := e1.gets hx
    refine ⟨⟨us, vx, q1, gx⟩, fun z H2 yl => ?_⟩
    obtain ⟨T, x', ez, nT, eH, f1⟩ := yl
    have := f1 us q1
    rw [gx] at this
    cases this
    subst ez eH
    exact new_tup nT (.cons (.int _) (.cons dx .nil))
  · rw [enumD_len, ← hd.len]
theorem ri_zm {ta : TA} {aa : AA} (ha : RA K Δ ta aa) : RI K Δ (iZm K ta) (fun s A => aa s fun ds s1 => ∃ xs ys, ds = [.tuple xs, .list ys] ∧ A (zipD xs ys) s1) := by
  intro C B σ H s R A E h q
  refine ha C B σ H s _ _ E h fun vs ds H1 s1 a1 m1 E1 dv1 => ?_
  obtain ⟨xs, ys, e, a⟩ := a1
  subst e
  obtain ⟨v, u, ev, d1, d2⟩ := dv1.two
  obtain ⟨p, us, ep, hp, hd⟩ := d1.tupI
  obtain ⟨p', us', ep', hp', hB', hd'⟩ := d2.lstI
  subst ev ep ep'
  refine ⟨p, p', us, us', rfl, hp, SqL.of hp', q _ _ _ _ a m1 E1 fun B' H' g st => ?_⟩
  have q1 : SqT K H' p us := stayT_tup g.mv.st hp
  have q2 : SqL K H' p' us' := SqL.of (g.mv.kp _ _ hB' rfl hp')
  have e1 := DvAll.go g _ _ hd
  have e2 := DvAll.go g _ _ hd'
  refine ⟨fun i d hi => ?_, ⟨us, us', q1, q2, ?_⟩⟩
  · obtain ⟨x, y, hx, hy, e⟩ := zipD_get hi
    subst e
    obtain ⟨vx, gx, dx⟩ := e1.gets hx
    obtain ⟨vy, gy, dy⟩ := e2.gets hy
    refine ⟨⟨us, us', vx, vy, q1, q2, gx, gy⟩, fun z H2 yl => ?_⟩
    obtain ⟨T, x', y', ez, nT, eH, f1, f2⟩ := yl
    have := f1 us q1
    rw [gx] at this
    cases this
    have := f2 us' q2
    rw [gy] at this
    cases this
    subst ez eH
    exact new_tup nT (.cons dx (.cons dy .nil))
  · rw [zipD_len, ← hd.len, ← hd'.len]
    omega
theorem rev_get {ds : List PyData} {i : Nat} {d : PyData} (h : ds.reverse[i]? = some d) : ds[ds.length - 1 - i]? = some d ∧ i < ds.length := by
  have hi := (List.getElem?_eq_some_iff.mp h).1
  rw [List.length_reverse] at hi
  rw [List.getElem?_reverse hi] at h
  exact ⟨h, hi⟩
theorem ri_revA {te : TE} {ae : AE} (h1 : RE K Δ te ae) : RI K Δ (RT.iRevA K te) (fun s A => ae s fun d s1 => ∃ ds, itemsOf d = some ds ∧ A ds.reverse s1) := by
  intro C B σ H s R A E h q
  refine h1 C B σ H s _ _ E h fun v d H1 s1 a1 m1 E1 dv1 => ?_
  obtain ⟨ds, e, a⟩ := a1
  rcases items_cases e with z | z
  · subst z
    obtain ⟨p, us, ep, hp, hB, hd⟩ := dv1.lstI
    subst ep
    refine ⟨p, us, rfl, .inl ⟨SqL.of hp, q _ _ _ _ a m1 E1 fun B' H' g st => ?_⟩⟩
    have q1 : SqL K H' p us := SqL.of (g.mv.kp _ _ hB rfl hp)
    have e1 := DvAll.go g _ _ hd
    have hl := hd.len
    refine ⟨fun i d hi => ?_, ?_⟩
    · obtain ⟨hx, hlt⟩ := rev_get hi
      obtain ⟨vx, gx, dx⟩ := e1.gets hx
      rw [← hl] at gx
      refine ⟨⟨by omega, us, vx, q1, gx⟩, fun z H2 yl => ?_⟩
      obtain ⟨eH, f⟩ := yl
      subst eH
      have := f us q1
      rw [gx] at this
      cases this
      exact ⟨Same.refl _, dx⟩
    · show us.length ≤ ds.reverse.length
      rw [List.length_reverse, hl]
      exact Nat.le_refl _
  · subst z
    obtain ⟨p, us, ep, hp, hd⟩ := dv1.tupI
    subst ep
    refine ⟨p, us, rfl, .inr ⟨hp, q _ _ _ _ a m1 E1 fun B' H' g st => ?_⟩⟩
    have q1 : SqT K H' p us := stayT_tup g.mv.st hp
    have e1 := DvAll.go g _ _ hd
    have hl := hd.len
    refine ⟨fun i d hi => ?_, ?_⟩
    · obtain ⟨hx, hlt⟩ := rev_get hi
      obtain ⟨vx, gx, dx⟩ := e1.gets hx
      rw [← hl] at gx
      refine ⟨⟨by omega, us, vx, q1, gx⟩, fun z H2 yl => ?_⟩
      obtain ⟨eH, f⟩ := yl
      subst eH
      have := f us q1
      rw [gx] at this
      cases this
      exact ⟨Same.refl _, dx⟩
    · show us.length ≤ ds.reverse.length
      rw [List.length_reverse, hl]
      exact Nat.le_refl _
end
theorem filter_take_succ {α β : Type} (b : α → Bool) (f : α → β) {l : List α} {i : Nat} {x : α} (h : l[i]? = some x) :
    ((l.take (i + 1)).filter b).map f = ((l.take i).filter b).map f ++ (if b x = true then [f x] else []) := by
  rw [List.take_add_one, h]
  show (((l.take i) ++ [x]).filter b).map f = _
  rw [List.filter_append, List.map_append]
  congr 1
  by_cases hb : b x = true
  · rw [if_pos hb, List.filter_cons_of_pos hb]
    rfl
  · rw [if_neg hb, List.filter_cons_of_neg hb]
    rfl
theorem lcMap {α : Type} {l : List α} {e : α → PyData} {g : AG} {te : AE} {vs : List Nat} {s1 : AS} {A : PyData → AS → Prop} (f : α → PyData) (h5 : l.length ≤ 100000)
    (he : ∀ x, x ∈ l → ∀ B : PyData → AS → Prop, (∀ s : AS, s.k = s1.k → B (f x) s) → g (e x) ⟨wipeA s1.env vs, s1.k⟩ fun s2 => te s2 B)
    (ha : A (.list (l.map f)) s1) : LcB (l.map e) s1 g (fun s A => A true s) te vs A := by
  refine ⟨by rw [List.length_map]; exact h5, fun i acc k => k = s1.k ∧ acc = (l.take i).map f, ⟨rfl, rfl⟩, fun i x acc k hx h => ?_, fun acc k h => ?_⟩
  · obtain ⟨e1, e2⟩ := h
    subst e1 e2
    obtain ⟨y, hy, ey⟩ := map_get hx
    subst ey
    exact he y (List.mem_of_getElem? hy) _ fun s hs => ⟨hs, (take_map_succ f hy).symm⟩
  · obtain ⟨e1, e2⟩ := h
    rw [List.length_map, List.take_of_length_le (Nat.le_refl _)] at e2
    subst e1 e2
    exact ha
theorem lcMapT {α : Type} {l : List α} {e : α → PyData} {g : AG} {tt : AT} {te : AE} {vs : List Nat} {s1 : AS} {A : PyData → AS → Prop} (b : α → Bool) (f : α → PyData) (h5 : l.length ≤ 100000)
    (he : ∀ x, x ∈ l → ∀ (Bt : AS → Prop) (Bf : AS → Prop), (b x = true → ∀ s : AS, s.k = s1.k → Bt s) → (b x = false → ∀ s : AS, s.k = s1.k → Bf s) → ∀ R : PyData → AS → Prop, (∀ s, Bt s → R (f x) s) →
      g (e x) ⟨wipeA s1.env vs, s1.k⟩ fun s2 => tt s2 fun c s3 => if c = true then te s3 R else Bf s3)
    (ha : A (.list ((l.filter b).map f)) s1) : LcB (l.map e) s1 g tt te vs A := by
  refine ⟨by rw [List.length_map]; exact h5, fun i acc k => k = s1.k ∧ acc = ((l.take i).filter b).map f, ⟨rfl, rfl⟩, fun i x acc k hx h => ?_, fun acc k h => ?_⟩
  · obtain ⟨e1, e2⟩ := h
    subst e1 e2
    obtain ⟨y, hy, ey⟩ := map_get hx
    subst ey
    refine he y (List.mem_of_getElem? hy) (fun s => b y = true ∧ s.k = s1.k) _ (fun hb s hs => ⟨hb, hs⟩) (fun hb s hs => ⟨hs, ?y⟩) _ (fun s hs => ⟨hs.2, ?x⟩)
    case y => rw [filter_take_succ b f hy, if_neg (by rw [hb]; exact Bool.false_ne_true), List.append_nil]
    case x => rw [filter_take_succ b f hy, if_pos hs.1]
  · obtain ⟨e1, e2⟩ := h
    rw [List.length_map, List.take_of_length_le (Nat.le_refl _)] at e2
    subst e1 e2
    exact ha
def spDk (K : PySem.W.Frag) (Δ : DK) : Sp := fun vs H Q _ => ∃ (s : Addr) (ns : List Int), vs = [.ref s] ∧ SqL K H s (ns.map V.int) ∧ ns.length ≤ 63 ∧
  ∀ (a : Addr) (as : List Addr) (H' : Hp), Δ.P H' a as ⟨0, []⟩ → Stands as H' → Q (.ref a) H'
def spLaw (K : PySem.W.Frag) : Sp := fun vs H Q _ => ∃ (s : Addr) (ns : List Int), vs = [.ref s] ∧ SqL K H s (ns.map V.int) ∧ ns.length ≤ 63 ∧ ∀ H', Q (.bl true) H'
theorem goLaw {K : PySem.W.Frag} {Δ : DK} {u : TS} {a : AStm} {N : List Str} {i n : Nat} {vs : List V} {H : Hp} {Q : VK} {E : XK} (h : spLaw K vs H Q E) (rs : RS K Δ u a) (hN : N.length = n) (hi : i < n)
    (hb : a ⟨fun _ => False, fun d _ => d = .bool true⟩ ⟨(List.replicate n Sl.free).set i .deck, some ⟨0, []⟩⟩) :
    tSeq (tAsg (tCall (spDk K Δ) [] E0 (tCons (tVar 0) tNil)) (gName i)) u { nx := fun _ H' => Q .non H', rt := Q } (L2.start N vs) H := by
  obtain ⟨x, ns, e, hS, hl, q⟩ := h
  subst e
  refine ⟨.ref x, rfl, x, ns, rfl, hS, hl, fun r as H1 dk st => ?_⟩
  have hlen : ((L2.start N [V.ref x]).set i (some (V.ref r))).length = n := by
    rw [List.length_set]
    show ([some (V.ref x)] ++ List.replicate (N.length - 1) none).length = n
    rw [List.length_append, List.length_replicate, List.length_singleton]
    omega
  exact goL rs (List.getElem?_set_self (by rw [List.length_set] at hlen; rw [hlen]; exact hi)) hlen st dk (fun H' => q H') hb
theorem neat_ints {ns : List Int} (hl : ns.length ≤ 2000) (h : ∀ n ∈ ns, n.natAbs < 10 ^ 40) : Neat (tupD ns) 3900000 1 := (tupD_fine hl fun n hn => small_int (h n hn)).neat
theorem ifNe {α : Type} [DecidableEq α] {x y : α} (h : x = y) {A B : Prop} (b : B) : if (true ^^ decide (x = y)) = true then A else B := by
  rw [decide_eq_true h]
  exact b
theorem ne2 {d e : PyData} {s : AS} {A : PyData → AS → Prop} {x y : Str} (h1 : d = .str x) (h2 : e = .str y) (a : A (.bool (true ^^ decide (x = y))) s) : aEq true d e s A := .inr (.inl ⟨x, y, h1, h2, a⟩)
theorem len_ok {ds : List PyData} (h : Nat.ble ds.length 1000 = true) : ds.length ≤ 1000 := Nat.le_of_ble_eq_true h
theorem shaped_flat : ∀ ns : List Int, PyData.canLayAll0 (ns.map PyData.int) = true ∧ PyData.depthAll (ns.map PyData.int) = 0
  | [] => ⟨rfl, rfl⟩
  | n :: r => by
    obtain ⟨h1, h2⟩ := shaped_flat r
    constructor
    · show ((PyData.int n).canLay0 && PyData.canLayAll0 (r.map PyData.int)) = true
      rw [h1]
      rfl
    · show max (PyData.int n).depth (PyData.depthAll (r.map PyData.int)) = 0
      rw [h2]
      rfl
theorem shaped_ints {ns : List Int} : SeqAt.shaped (.list (ns.map PyData.int)) = true := by
  obtain ⟨h1, h2⟩ := shaped_flat ns
  unfold SeqAt.shaped
  rw [show (PyData.list (ns.map PyData.int)).canLay0 = PyData.canLayAll0 (ns.map PyData.int) from rfl, h1, show (PyData.list (ns.map PyData.int)).depth = PyData.depthAll (ns.map PyData.int) + 1 from rfl, h2]
  rfl
theorem lcDraws {α : Type} {n : Nat} {lo : Int} {g : AG} {te : AE} {vs : List Nat} {s1 : AS} {A : PyData → AS → Prop} (e : α → PyData) (P : α → Prop) (k : Kx) (c : Int) (hk : s1.k = some k) (h5 : n ≤ 100000)
    (he : ∀ i : Nat, i < n → ∀ k' : Kx, k'.n ≤ k.n + c * i → k'.T = k.T → ∀ B : PyData → AS → Prop, (∀ x, P x → ∀ s : AS, (∃ k'', s.k = some k'' ∧ k''.n ≤ k'.n + c ∧ k''.T = k'.T) → B (e x) s) → g (.int (lo + (i : Nat))) ⟨wipeA s1.env vs, some k'⟩ fun s2 => te s2 B)
    (ha : ∀ (xs : List α) (k' : Kx), xs.length = n → (∀ x ∈ xs, P x) → k'.n ≤ k.n + c * n → k'.T = k.T → A (.list (xs.map e)) ⟨s1.env, some k'⟩) : LcB ((List.range n).map fun i => PyData.int (lo + (i : Nat))) s1 g (fun s A => A true s) te vs A := by
  refine ⟨by rw [List.length_map, List.length_range]; exact h5, fun i acc kk => ∃ (xs : List α) (k' : Kx), acc = xs.map e ∧ kk = some k' ∧ xs.length = i ∧ (∀ x ∈ xs, P x) ∧ k'.n ≤ k.n + c * i ∧ k'.T = k.T, ?_, fun i x acc kk hx h => ?_, fun acc kk h => ?_⟩
  · refine ⟨[], k, rfl, hk, rfl, fun x hx => (List.not_mem_nil hx).elim, ?_, rfl⟩
    rw [show ((0 : Nat) : Int) = 0 from rfl, Int.mul_zero, Int.add_zero]
    exact Int.le_refl _
  · obtain ⟨xs, k', e1, e2, hl, hp, hb, hT⟩ := h
    subst e1 e2
    obtain ⟨ex, hi⟩ := range_at hx
    subst ex
    refine he i hi k' hb hT _ fun y hy s hs => ?_
    obtain ⟨k'', h1, h2, h3⟩ := hs
    refine ⟨xs ++ [y], k'', by rw [List.map_append]; rfl, h1, by rw [List.length_append, hl]; rfl, fun z hz => ?_, ?_, h3.trans hT⟩
    · rcases List.mem_append.mp hz with q | q
      · exact hp z q
      · rw [List.mem_singleton.mp q]
        exact hy
    · rw [Int.natCast_add, Int.mul_add, show c * ((1 : Nat) : Int) = c from Int.mul_one c]
      omega
  · obtain ⟨xs, k', e1, e2, hl, hp, hb, hT⟩ := h
    rw [List.length_map, List.length_range] at hl hb
    subst e1 e2
    exact ha xs k' hl hp hb hT
theorem krevT {X : Cx} (K : PySem.W.Frag) {e : Expr} {te : TE} {k : Nat} {p1 p2 p3 pos : Pos} (he : PE X e te) (hK : X.K = K := by rfl) :
    PE X (.Subscript e (.Slice none none (some (.UnaryOp .USub (.Constant (.int 1) k p1) p2)) p3) pos) (tRevT K te) := by
  subst hK
  exact pe_revT he
theorem kcatB {X : Cx} (K : PySem.W.Frag) (hK : X.K = K := by rfl) : OpR X (binaryOp .Add) (rCatA K) := by
  subst hK
  exact op_catA
theorem cutD_to (xs : List PyData) (k : Nat) : cutD xs none (some (k : Int)) = xs.take k := by
  unfold cutD
  rw [HT.sIx_nat, HT.sIx_none, List.drop_zero, Nat.sub_zero]
  by_cases h : k ≤ xs.length
  · rw [Nat.min_eq_left h]
  · rw [Nat.min_eq_right (by omega), List.take_of_length_le (Nat.le_refl _), List.take_of_length_le (by omega)]
theorem cutD_from (xs : List PyData) (k : Nat) : cutD xs (some (k : Int)) none = xs.drop k := by
  unfold cutD
  rw [HT.sIx_nat, HT.sIx_none]
  by_cases h : k ≤ xs.length
  · rw [Nat.min_eq_left h]
    exact List.take_of_length_le (by rw [List.length_drop]; exact Nat.le_refl _)
  · rw [Nat.min_eq_right (by omega), Nat.sub_self, List.take_zero, List.drop_eq_nil_of_le (by omega)]
def sumN (f : Nat → Nat) : Nat → Nat
  | 0 => 0
  | n + 1 => sumN f n + f n
theorem sumN_zero : ∀ n : Nat, sumN (fun _ => 0) n = 0
  | 0 => rfl
  | n + 1 => by
    show sumN (fun _ => 0) n + 0 = 0
    rw [sumN_zero n]
theorem sumN_add (f g : Nat → Nat) : ∀ n : Nat, sumN (fun i => f i + g i) n = sumN f n + sumN g n
  | 0 => rfl
  | n + 1 => by
    show sumN (fun i => f i + g i) n + (f n + g n) = (sumN f n + f n) + (sumN g n + g n)
    rw [sumN_add f g n]
    omega
theorem sumN_comm (a : Nat → Nat → Nat) (k : Nat) : ∀ n : Nat, sumN (fun i => sumN (fun j => a i j) k) n = sumN (fun j => sumN (fun i => a i j) n) k
  | 0 => (sumN_zero k).symm
  | n + 1 => by
    show sumN (fun i => sumN (fun j => a i j) k) n + sumN (fun j => a n j) k = sumN (fun j => sumN (fun i => a i j) n + a n j) k
    rw [sumN_comm a k n, sumN_add]
theorem sumN_congr {f g : Nat → Nat} : ∀ n : Nat, (∀ i, i < n → f i = g i) → sumN f n = sumN g n
  | 0, _ => rfl
  | n + 1, h => by
    show sumN f n + f n = sumN g n + g n
    rw [sumN_congr n fun i hi => h i (by omega), h n (by omega)]
theorem sumN_const (c : Nat) : ∀ n : Nat, sumN (fun _ => c) n = n * c
  | 0 => by simp [sumN]
  | n + 1 => by
    show sumN (fun _ => c) n + c = (n + 1) * c
    rw [sumN_const c n, Nat.add_mul, Nat.one_mul]
theorem sumN_le {f : Nat → Nat} {c : Nat} : ∀ n : Nat, (∀ i, i < n → f i ≤ c) → sumN f n ≤ n * c
  | 0, _ => by simp [sumN]
  | n + 1, h => by
    show sumN f n + f n ≤ (n + 1) * c
    have := sumN_le n fun i hi => h i (by omega)
    have := h n (by omega)
    rw [Nat.add_mul, Nat.one_mul]
    omega
theorem cntN_sum (P : Int → Bool) : ∀ n : Nat, cntN P 0 n = sumN (fun i => if P ((i : Nat) : Int) = true then 1 else 0) n
  | 0 => rfl
  | n + 1 => by
    show cntN P 0 n + (if P (0 + (n : Nat)) = true then 1 else 0) = _
    rw [cntN_sum P n, Int.zero_add]
    rfl
theorem cntN_or {P A B : Int → Bool} : ∀ n : Nat, (∀ x : Int, 0 ≤ x → x < (n : Nat) → P x = (A x || B x) ∧ ¬ (A x = true ∧ B x = true)) → cntN P 0 n = cntN A 0 n + cntN B 0 n
  | 0, _ => rfl
  | n + 1, h => by
    have ih := cntN_or n fun x h0 h1 => h x h0 (by omega)
    have z := h (0 + (n : Nat)) (by omega) (by omega)
    show cntN P 0 n + (if P (0 + (n : Nat)) = true then 1 else 0) = (cntN A 0 n + (if A (0 + (n : Nat)) = true then 1 else 0)) + (cntN B 0 n + (if B (0 + (n : Nat)) = true then 1 else 0))
    rw [ih, z.1]
    cases ha : A (0 + (n : Nat)) <;> cases hb : B (0 + (n : Nat))
    · simp
    · simp
      omega
    · simp
      omega
    · exact absurd ⟨ha, hb⟩ z.2
theorem cntN_one {c : Int} : ∀ n : Nat, 0 ≤ c → c < (n : Nat) → cntN (fun x => decide (x = c)) 0 n = 1
  | 0, h0, h1 => absurd h1 (by omega)
  | n + 1, h0, h1 => by
    show cntN (fun x => decide (x = c)) 0 n + (if decide (0 + ((n : Nat) : Int) = c) = true then 1 else 0) = 1
    by_cases e : c = (n : Nat)
    · have z : cntN (fun x => decide (x = c)) 0 n = cntN (fun _ => false) 0 n := cntN_congr n fun x h2 h3 => decide_eq_false (by omega)
      rw [z, cntN_const, if_pos (decide_eq_true (by omega))]
      rfl
    · rw [cntN_one n h0 (by omega), if_neg (by rw [decide_eq_true_iff]; omega)]
/-- an arc of l places has l places -/
theorem cnt_begins {m t : Int} (hm : 0 < m) : ∀ l : Nat, (l : Int) ≤ m → cntN (fun b => decide ((t - b) % m < (l : Nat))) 0 m.toNat = l
  | 0, _ => by
    have z : cntN (fun b => decide ((t - b) % m < ((0 : Nat) : Int))) 0 m.toNat = cntN (fun _ => false) 0 m.toNat := cntN_congr _ fun x _ _ => decide_eq_false (by
      have := Int.emod_nonneg (t - x) (show m ≠ 0 by omega)
      omega)
    rw [z, cntN_const]
    rfl
  | l + 1, hl => by
    have ih := cnt_begins (t := t) hm l (by omega)
    have one : cntN (fun b => decide ((t - b) % m = (l : Nat))) 0 m.toNat = 1 := by
      have e : cntN (fun b => decide ((t - b) % m = (l : Nat))) 0 m.toNat = cntN (fun b => decide (b = (t - (l : Nat)) % m)) 0 m.toNat := by
        apply cntN_congr
        intro x h0 h1
        have hx : x < m := by omega
        by_cases z : (t - x) % m = (l : Nat)
        · rw [decide_eq_true z]
          symm
          apply decide_eq_true
          rw [← z, sub_mod', show t - (t - x) = x by omega, Int.emod_eq_of_lt h0 hx]
        · rw [decide_eq_false z]
          symm
          apply decide_eq_false
          intro e
          apply z
          rw [e, sub_mod', show t - (t - (l : Nat)) = ((l : Nat) : Int) by omega]
          exact Int.emod_eq_of_lt (by omega) (by omega)
      rw [e]
      have h0 := Int.emod_nonneg (t - (l : Nat)) (show m ≠ 0 by omega)
      have h1 := Int.emod_lt_of_pos (t - (l : Nat)) hm
      exact cntN_one _ h0 (by omega)
    have or := cntN_or (P := fun b => decide ((t - b) % m < ((l + 1 : Nat) : Int))) (A := fun b => decide ((t - b) % m < (l : Nat))) (B := fun b => decide ((t - b) % m = (l : Nat))) m.toNat fun x _ _ => by
      constructor
      · by_cases z : (t - x) % m < (l : Nat)
        · rw [decide_eq_true z, decide_eq_true (by omega)]
          rfl
        · rw [decide_eq_false z]
          by_cases y : (t - x) % m = (l : Nat)
          · rw [decide_eq_true y, decide_eq_true (by omega)]
            rfl
          · rw [decide_eq_false y, decide_eq_false (by omega)]
            rfl
      · intro ⟨z, y⟩
        have z := of_decide_eq_true z
        have y := of_decide_eq_true y
        omega
    rw [or, ih, one]
theorem cnt_eq (m : Int) (tl : List (Int × Int)) (b l : Int) : cnt m tl b l = (cntN (fun x => inArc m b l (tgt tl x)) 0 m.toNat : Int) := by
  unfold cnt brought
  rw [cnt_upto]
theorem cnt_total {m : Int} (tl : List (Int × Int)) {l : Int} (hm : 0 < m) (h0 : 0 ≤ l) (hl : l ≤ m) :
    sumN (fun b => cntN (fun x => inArc m ((b : Nat) : Int) l (tgt tl x)) 0 m.toNat) m.toNat = m.toNat * l.toNat := by
  have e1 : sumN (fun b => cntN (fun x => inArc m ((b : Nat) : Int) l (tgt tl x)) 0 m.toNat) m.toNat = sumN (fun b => sumN (fun x => if inArc m ((b : Nat) : Int) l (tgt tl ((x : Nat) : Int)) = true then 1 else 0) m.toNat) m.toNat :=
    sumN_congr _ fun b _ => cntN_sum _ _
  rw [e1, sumN_comm]
  have e2 : ∀ x, x < m.toNat → sumN (fun b => if inArc m ((b : Nat) : Int) l (tgt tl ((x : Nat) : Int)) = true then 1 else 0) m.toNat = l.toNat := by
    intro x _
    have c := cnt_begins (t := tgt tl ((x : Nat) : Int)) hm l.toNat (by omega)
    have el : ((l.toNat : Nat) : Int) = l := by omega
    rw [el] at c
    rw [← cntN_sum (fun b => inArc m b l (tgt tl ((x : Nat) : Int)))]
    exact c
  rw [sumN_congr _ e2, sumN_const]
theorem width_ge {m : Int} {tls : List (List (Int × Int))} {l v : Int} (h : IsWidth m tls l v) (h0 : 0 ≤ l) (hl : l ≤ m) : l ≤ v := by
  obtain ⟨tl, ht, b, b0, b1, _⟩ := h.got
  have hm : 0 < m := by omega
  have t := cnt_total tl hm h0 hl
  have v0 : 0 ≤ v := by
    have := h.all tl ht b b0 b1
    have : 0 ≤ cnt m tl b l := Int.natCast_nonneg _
    omega
  have le := sumN_le (c := v.toNat) (f := fun b => cntN (fun x => inArc m ((b : Nat) : Int) l (tgt tl x)) 0 m.toNat) m.toNat fun i hi => by
    have := h.all tl ht (i : Nat) (by omega) (by omega)
    rw [cnt_eq] at this
    show cntN (fun x => inArc m ((i : Nat) : Int) l (tgt tl x)) 0 m.toNat ≤ v.toNat
    omega
  rw [t] at le
  have := Nat.le_of_mul_le_mul_left le (show 0 < m.toNat by omega)
  omega
inductive Chain (m : Int) (tls : List (List (Int × Int))) : Int → List Int → Prop
  | stop {g : Int} : IsWidth m tls g g → Chain m tls g [g]
  | next {g v : Int} {r : List Int} : IsWidth m tls g v → v ≠ g → Chain m tls v r → Chain m tls g (g :: r)
theorem Chain.uniq {m : Int} {tls : List (List (Int × Int))} {g : Int} {l : List Int} (h : Chain m tls g l) : ∀ {l' : List Int}, Chain m tls g l' → l = l' := by
  induction h with
  | stop w =>
    intro l' h'
    cases h' with
    | stop _ => rfl
    | next w' ne _ => exact absurd (w'.uniq w) ne
  | next w ne _ ih =>
    intro l' h'
    cases h' with
    | stop w' => exact absurd (w.uniq w') ne
    | next w' ne' h'' =>
      have e := w.uniq w'
      subst e
      rw [ih h'']
inductive Path (m : Int) (tls : List (List (Int × Int))) (g : Int) : List Int → Int → Prop
  | one : Path m tls g [g] g
  | more {xs : List Int} {x v : Int} : Path m tls g xs x → IsWidth m tls x v → v ≠ x → Path m tls g (xs ++ [v]) v
theorem Path.last {m : Int} {tls : List (List (Int × Int))} {g x : Int} {xs : List Int} (h : Path m tls g xs x) : ∃ ys, xs = ys ++ [x] := by
  cases h with
  | one => exact ⟨[], rfl⟩
  | more h _ _ => exact ⟨_, rfl⟩
theorem Path.chain {m : Int} {tls : List (List (Int × Int))} {g x : Int} {xs : List Int} (h : Path m tls g xs x) : ∀ {r : List Int}, Chain m tls x r → Chain m tls g (xs.dropLast ++ r) := by
  induction h with
  | one => exact fun c => c
  | more p w ne ih =>
    rename_i xs x v
    intro r c
    have e := ih (.next w ne c)
    obtain ⟨ys, ey⟩ := p.last
    subst ey
    rw [List.dropLast_concat] at e
    rw [List.dropLast_concat]
    rw [List.append_assoc]
    exact e
theorem Path.done {m : Int} {tls : List (List (Int × Int))} {g x : Int} {xs : List Int} (h : Path m tls g xs x) (w : IsWidth m tls x x) : Chain m tls g xs := by
  have c := h.chain (.stop w)
  obtain ⟨ys, ey⟩ := h.last
  subst ey
  rw [List.dropLast_concat] at c
  exact c
theorem Path.rng {m : Int} {tls : List (List (Int × Int))} {g x : Int} {xs : List Int} (h : Path m tls g xs x) (g1 : 1 ≤ g) (gm : g ≤ m) : 1 ≤ x ∧ x ≤ m ∧ g ≤ x ∧ (xs.length : Int) ≤ x - g + 1 ∧ ∀ y ∈ xs, g ≤ y ∧ y ≤ x := by
  induction h with
  | one =>
    refine ⟨g1, gm, Int.le_refl _, by show ((1 : Nat) : Int) ≤ _; omega, fun y hy => ?_⟩
    rw [List.mem_singleton.mp hy]
    omega
  | more p w ne ih =>
    rename_i xs x v
    obtain ⟨i1, i2, i3, i4, i5⟩ := ih
    have w1 := width_ge w (by omega) i2
    have w2 := w.rng (by omega)
    refine ⟨by omega, w2.2, by omega, ?_, fun y hy => ?_⟩
    · rw [List.length_append]
      show ((xs.length + 1 : Nat) : Int) ≤ _
      omega
    · rcases List.mem_append.mp hy with z | z
      · have := i5 y z
        omega
      · rw [List.mem_singleton.mp z]
        omega
theorem Path.asc {m : Int} {tls : List (List (Int × Int))} {g x : Int} {xs : List Int} (h : Path m tls g xs x) (g1 : 1 ≤ g) (gm : g ≤ m) : xs.Pairwise (· < ·) := by
  induction h with
  | one => exact List.pairwise_singleton _ _
  | more p w ne ih =>
    rename_i xs x v
    obtain ⟨i1, i2, i3, i4, i5⟩ := p.rng g1 gm
    have w1 := width_ge w (by omega) i2
    rw [List.pairwise_append]
    refine ⟨ih, List.pairwise_singleton _ _, fun y hy z hz => ?_⟩
    rw [List.mem_singleton.mp hz]
    have := i5 y hy
    omega
/-- the tool as a map of all whole numbers -/
structure Lift (m : Int) (tl : List (Int × Int)) (L P : Int → Int) : Prop where
  mono : ∀ x y, x ≤ y → L x ≤ L y
  per : ∀ x, L (x + m) = L x + m
  tg : ∀ x, tgt tl (x % m) = L x % m
  lt : ∀ x t, L x < t ↔ x < P t
theorem iter_per {m : Int} {L : Int → Int} (per : ∀ x, L (x + m) = L x + m) (x k : Int) : L (x + m * k) = L x + m * k := by
  have up : ∀ (n : Nat) (x : Int), L (x + m * (n : Nat)) = L x + m * (n : Nat) := by
    intro n
    induction n with
    | zero => intro x; rw [Int.natCast_zero, Int.mul_zero, Int.add_zero, Int.add_zero]
    | succ n ih =>
      intro x
      have e : m * ((n + 1 : Nat) : Int) = m * (n : Nat) + m := by rw [Int.natCast_add, Int.mul_add]; show _ + m * 1 = _; rw [Int.mul_one]
      rw [e, ← Int.add_assoc, per, ih, Int.add_assoc]
  by_cases h : 0 ≤ k
  · have := up k.toNat x
    rw [show ((k.toNat : Nat) : Int) = k by omega] at this
    exact this
  · have := up (-k).toNat (x + m * k)
    have e : ((((-k).toNat : Nat)) : Int) = -k := by omega
    rw [e, Int.mul_neg, show x + m * k + -(m * k) = x by omega] at this
    omega
section
variable {m : Int} {tl : List (Int × Int)} {L P : Int → Int}
theorem Lift.pmono (h : Lift m tl L P) {t t' : Int} (ht : t ≤ t') : P t ≤ P t' := by
  by_cases z : P t ≤ P t'
  · exact z
  · have h1 := (h.lt (P t') t).mpr (by omega)
    have h2 := (h.lt (P t') t').mp (by omega)
    omega
theorem Lift.pper (h : Lift m tl L P) (t : Int) : P (t + m) = P t + m := by
  have e : ∀ x, x < P (t + m) ↔ x < P t + m := by
    intro x
    rw [← h.lt]
    have p := h.per (x - m)
    rw [show x - m + m = x by omega] at p
    have q := h.lt (x - m) t
    constructor
    · intro z
      have := q.mp (by omega)
      omega
    · intro z
      have := q.mpr (by omega)
      omega
  have h1 := e (P t + m)
  have h2 := e (P (t + m))
  omega
theorem Lift.arc (h : Lift m tl L P) (hm : 0 < m) {b l : Int} (x : Int) : (L x - b) % m < l ↔ (x - P b) % m < P (b + l) - P b := by
  have k0 := Int.emod_nonneg (L x - b) (show m ≠ 0 by omega)
  have k1 := Int.emod_lt_of_pos (L x - b) hm
  have ke := Int.mul_ediv_add_emod (L x - b) m
  have lx := iter_per h.per x (-((L x - b) / m))
  rw [Int.mul_neg] at lx
  have h1 : ¬ (x + -(m * ((L x - b) / m)) < P b) := fun z => by
    have := (h.lt _ _).mpr z
    omega
  have h2 := (h.lt (x + -(m * ((L x - b) / m))) (b + m)).mp (by omega)
  rw [h.pper] at h2
  have h3 := h.lt (x + -(m * ((L x - b) / m))) (b + l)
  have e : (x - P b) % m = x + -(m * ((L x - b) / m)) - P b := by
    rw [← Int.emod_eq_of_lt (a := x + -(m * ((L x - b) / m)) - P b) (b := m) (by omega) (by omega)]
    apply mod_of_eq (q := (L x - b) / m)
    omega
  rw [e]
  constructor
  · intro z
    have := h3.mp (by omega)
    omega
  · intro z
    have := h3.mpr (by omega)
    omega
theorem Lift.inArc (h : Lift m tl L P) (hm : 0 < m) {b l x : Int} (h0 : 0 ≤ x) (h1 : x < m) : inArc m b l (tgt tl x) = true ↔ (x - P b) % m < P (b + l) - P b := by
  have e := h.tg x
  rw [Int.emod_eq_of_lt h0 h1] at e
  unfold BP.inArc
  rw [decide_eq_true_iff, e, mod_sub']
  exact h.arc hm x
theorem Lift.wide (h : Lift m tl L P) {b l : Int} (h0 : 0 ≤ l) (h1 : l ≤ m) : 0 ≤ P (b + l) - P b ∧ P (b + l) - P b ≤ m := by
  have a := h.pmono (show b ≤ b + l by omega)
  have c := h.pmono (show b + l ≤ b + m by omega)
  rw [h.pper] at c
  omega
end
theorem cnt_places {m s : Int} (hm : 0 < m) : ∀ l : Nat, (l : Int) ≤ m → cntN (fun x => decide ((x - s) % m < (l : Nat))) 0 m.toNat = l
  | 0, _ => by
    have z : cntN (fun x => decide ((x - s) % m < ((0 : Nat) : Int))) 0 m.toNat = cntN (fun _ => false) 0 m.toNat := cntN_congr _ fun x _ _ => decide_eq_false (by
      have := Int.emod_nonneg (x - s) (show m ≠ 0 by omega)
      omega)
    rw [z, cntN_const]
    rfl
  | l + 1, hl => by
    have ih := cnt_places (s := s) hm l (by omega)
    have one : cntN (fun x => decide ((x - s) % m = (l : Nat))) 0 m.toNat = 1 := by
      have e : cntN (fun x => decide ((x - s) % m = (l : Nat))) 0 m.toNat = cntN (fun x => decide (x = (s + (l : Nat)) % m)) 0 m.toNat := by
        apply cntN_congr
        intro x h0 h1
        have hx : x < m := by omega
        by_cases z : (x - s) % m = (l : Nat)
        · rw [decide_eq_true z]
          symm
          apply decide_eq_true
          rw [← z, add_mod', show s + (x - s) = x by omega, Int.emod_eq_of_lt h0 hx]
        · rw [decide_eq_false z]
          symm
          apply decide_eq_false
          intro e
          apply z
          rw [e, mod_sub', show s + (l : Nat) - s = ((l : Nat) : Int) by omega]
          exact Int.emod_eq_of_lt (by omega) (by omega)
      rw [e]
      have h0 := Int.emod_nonneg (s + (l : Nat)) (show m ≠ 0 by omega)
      have h1 := Int.emod_lt_of_pos (s + (l : Nat)) hm
      exact cntN_one _ h0 (by omega)
    have or := cntN_or (P := fun x => decide ((x - s) % m < ((l + 1 : Nat) : Int))) (A := fun x => decide ((x - s) % m < (l : Nat))) (B := fun x => decide ((x - s) % m = (l : Nat))) m.toNat fun x _ _ => by
      constructor
      · by_cases z : (x - s) % m < (l : Nat)
        · rw [decide_eq_true z, decide_eq_true (by omega)]
          rfl
        · rw [decide_eq_false z]
          by_cases y : (x - s) % m = (l : Nat)
          · rw [decide_eq_true y, decide_eq_true (by omega)]
            rfl
          · rw [decide_eq_false y, decide_eq_false (by omega)]
            rfl
      · intro ⟨z, y⟩
        have z := of_decide_eq_true z
        have y := of_decide_eq_true y
        omega
    rw [or, ih, one]
theorem Lift.cnt {m : Int} {tl : List (Int × Int)} {L P : Int → Int} (h : Lift m tl L P) (hm : 0 < m) {b l : Int} (h0 : 0 ≤ l) (h1 : l ≤ m) : cnt m tl b l = P (b + l) - P b := by
  have w := h.wide (b := b) h0 h1
  unfold BP.cnt brought
  rw [cnt_upto]
  have e : cntN (fun x => BP.inArc m b l (tgt tl x)) 0 m.toNat = cntN (fun x => decide ((x - P b) % m < (((P (b + l) - P b).toNat : Nat) : Int))) 0 m.toNat := by
    apply cntN_congr
    intro x x0 x1
    have k := h.inArc hm (b := b) (l := l) x0 (show x < m by omega)
    rw [show (((P (b + l) - P b).toNat : Nat) : Int) = P (b + l) - P b by omega]
    by_cases z : (x - P b) % m < P (b + l) - P b
    · rw [decide_eq_true z]
      exact k.mpr z
    · rw [decide_eq_false z]
      cases hh : BP.inArc m b l (tgt tl x)
      · rfl
      · exact absurd (k.mp hh) z
  rw [e, cnt_places hm _ (by omega)]
  omega
structure Lf (m : Int) (f L : Int → Int) : Prop where
  mono : ∀ x y, x ≤ y → L x ≤ L y
  per : ∀ x, L (x + m) = L x + m
  val : ∀ x, 0 ≤ x → x < m → f x = L x % m
def chF (m : Int) (g : Int → Int) : List Int := (upto m).filter fun x => decide (g x ≠ g ((x - 1) % m))
def pO (m : Int) (g : Int → Int) : List (Int × Int) := if chF m g = [] then [(0, g 0)] else (chF m g).map fun x => (x, g x)
theorem upto_asc (m : Int) : (upto m).Pairwise (· < ·) := by
  unfold upto
  rw [List.pairwise_map]
  exact List.pairwise_lt_range.imp fun {a b} h => by omega
theorem chF_mem {m x : Int} {g : Int → Int} : x ∈ chF m g ↔ 0 ≤ x ∧ x < m ∧ g x ≠ g ((x - 1) % m) := by
  unfold chF
  rw [List.mem_filter, upto_mem, decide_eq_true_eq]
  exact ⟨fun h => ⟨h.1.1, h.1.2, h.2⟩, fun h => ⟨⟨h.1, h.2.1⟩, h.2.2⟩⟩
theorem chF_asc (m : Int) (g : Int → Int) : (chF m g).Pairwise (· < ·) := (upto_asc m).filter _
theorem chF_congr {m : Int} {g h : Int → Int} (hm : 0 < m) (e : ∀ x, 0 ≤ x → x < m → g x = h x) : chF m g = chF m h := by
  unfold chF
  apply List.filter_congr
  intro x hx
  obtain ⟨h0, h1⟩ := upto_mem.mp hx
  rw [e x h0 h1, e _ (Int.emod_nonneg _ (by omega)) (Int.emod_lt_of_pos _ hm)]
theorem pO_congr {m : Int} {g h : Int → Int} (hm : 0 < m) (e : ∀ x, 0 ≤ x → x < m → g x = h x) : pO m g = pO m h := by
  unfold pO
  rw [chF_congr hm e, e 0 (by omega) hm]
  split
  · rfl
  · apply List.map_congr_left
    intro x hx
    obtain ⟨h0, h1, _⟩ := chF_mem.mp hx
    rw [e x h0 h1]
theorem tgtFrom_mem (p : Int) : ∀ (l : List (Int × Int)) (f : Int), l.Pairwise (fun x y => x.1 < y.1) →
    (∃ q ∈ l, tgtFrom p f l = q.2 ∧ q.1 ≤ p ∧ ∀ r ∈ l, r.1 ≤ p → r.1 ≤ q.1) ∨ (tgtFrom p f l = f ∧ ∀ r ∈ l, ¬ r.1 ≤ p)
  | [], f, _ => .inr ⟨rfl, fun r h => (List.not_mem_nil h).elim⟩
  | x :: l, f, asc => by
    obtain ⟨a1, a2⟩ := List.pairwise_cons.mp asc
    unfold tgtFrom
    rcases tgtFrom_mem p l (if x.1 ≤ p then x.2 else f) a2 with ⟨q, hq, e, h1, h2⟩ | ⟨e, h1⟩
    · refine .inl ⟨q, List.mem_cons_of_mem _ hq, e, h1, fun r hr hp => ?_⟩
      rcases List.mem_cons.mp hr with z | z
      · rw [z]
        have := a1 q hq
        omega
      · exact h2 r z hp
    · by_cases hx : x.1 ≤ p
      · rw [if_pos hx] at e ⊢
        refine .inl ⟨x, List.mem_cons_self, e, hx, fun r hr hp => ?_⟩
        rcases List.mem_cons.mp hr with z | z
        · rw [z]
          exact Int.le_refl _
        · exact absurd hp (h1 r z)
      · rw [if_neg hx] at e ⊢
        refine .inr ⟨e, fun r hr => ?_⟩
        rcases List.mem_cons.mp hr with z | z
        · rw [z]
          exact hx
        · exact h1 r z
theorem last_mem {tl : List (Int × Int)} (h : tl ≠ []) (asc : tl.Pairwise (fun x y => x.1 < y.1)) : tl.getLastD (0, 0) ∈ tl ∧ ∀ r ∈ tl, r.1 ≤ (tl.getLastD (0, 0)).1 := by
  induction tl with
  | nil => exact absurd rfl h
  | cons x l ih =>
    obtain ⟨a1, a2⟩ := List.pairwise_cons.mp asc
    cases l with
    | nil =>
      refine ⟨List.mem_cons_self, fun r hr => ?_⟩
      rw [List.mem_singleton.mp hr]
      exact Int.le_refl _
    | cons y l =>
      obtain ⟨h1, h2⟩ := ih (List.cons_ne_nil _ _) a2
      have e : (x :: y :: l).getLastD (0, 0) = (y :: l).getLastD (0, 0) := rfl
      rw [e]
      refine ⟨List.mem_cons_of_mem _ h1, fun r hr => ?_⟩
      rcases List.mem_cons.mp hr with z | z
      · rw [z]
        have := a1 _ h1
        omega
      · exact h2 r z
theorem tgt_arc {tl : List (Int × Int)} (h : tl ≠ []) (asc : tl.Pairwise (fun x y => x.1 < y.1)) (p : Int) :
    ∃ q ∈ tl, tgt tl p = q.2 ∧ ((q.1 ≤ p ∧ ∀ r ∈ tl, r.1 ≤ p → r.1 ≤ q.1) ∨ ((∀ r ∈ tl, ¬ r.1 ≤ p) ∧ ∀ r ∈ tl, r.1 ≤ q.1)) := by
  unfold tgt
  rcases tgtFrom_mem p tl (tl.getLastD (0, 0)).2 asc with ⟨q, hq, e, h1, h2⟩ | ⟨e, h1⟩
  · exact ⟨q, hq, e, .inl ⟨h1, h2⟩⟩
  · obtain ⟨l1, l2⟩ := last_mem h asc
    exact ⟨_, l1, e, .inr ⟨h1, l2⟩⟩
theorem IsTool.inj {m : Int} {tl : List (Int × Int)} (it : IsTool m tl) {p q : Int × Int} (hp : p ∈ tl) (hq : q ∈ tl) (e : p.2 = q.2) : p = q := by
  obtain ⟨i, hi⟩ := List.getElem?_of_mem hp
  obtain ⟨j, hj⟩ := List.getElem?_of_mem hq
  obtain ⟨li, ei⟩ := List.getElem?_eq_some_iff.mp hi
  obtain ⟨lj, ej⟩ := List.getElem?_eq_some_iff.mp hj
  have ord := List.pairwise_iff_getElem.mp it.ord
  have same : i = j := by
    rcases Nat.lt_trichotomy i j with z | z | z
    · have := ord i j li lj z
      rw [ei, ej, e] at this
      omega
    · exact z
    · have := ord j i lj li z
      rw [ei, ej, e] at this
      omega
  subst same
  rw [← ei, ← ej]
theorem asc_eq : ∀ {l r : List Int}, l.Pairwise (· < ·) → r.Pairwise (· < ·) → (∀ x, x ∈ l ↔ x ∈ r) → l = r
  | [], [], _, _, _ => rfl
  | [], y :: r, _, _, h => absurd ((h y).mpr List.mem_cons_self) List.not_mem_nil
  | x :: l, [], _, _, h => absurd ((h x).mp List.mem_cons_self) List.not_mem_nil
  | x :: l, y :: r, hl, hr, h => by
    obtain ⟨l1, l2⟩ := List.pairwise_cons.mp hl
    obtain ⟨r1, r2⟩ := List.pairwise_cons.mp hr
    have e : x = y := by
      rcases List.mem_cons.mp ((h x).mp List.mem_cons_self) with z | z
      · exact z
      · rcases List.mem_cons.mp ((h y).mpr List.mem_cons_self) with w | w
        · exact w.symm
        · have := r1 x z
          have := l1 y w
          omega
    subst e
    rw [asc_eq l2 r2 fun z => ?_]
    constructor
    · intro hz
      rcases List.mem_cons.mp ((h z).mp (List.mem_cons_of_mem _ hz)) with w | w
      · have := l1 z hz
        omega
      · exact w
    · intro hz
      rcases List.mem_cons.mp ((h z).mpr (List.mem_cons_of_mem _ hz)) with w | w
      · have := r1 z hz
        omega
      · exact w
/-- a table gives its tool back -/
theorem pO_tgt {m : Int} {tl : List (Int × Int)} (hm : 0 < m) (it : IsTool m tl) : pO m (tgt tl) = tl := by
  have ne := it.ne
  have hit : ∀ p ∈ tl, tgt tl p.1 = p.2 := fun p hp => tgtFrom_hit tl _ it.asc hp
  by_cases h1 : tl.length = 1
  · match tl, h1, it, ne, hit with
    | [p], _, it, _, hit =>
      have p0 := it.one rfl p List.mem_cons_self
      have all : ∀ x, tgt [p] x = p.2 := fun x => by
        obtain ⟨q, hq, e, _⟩ := tgt_arc (List.cons_ne_nil p []) it.asc x
        rw [e, List.mem_singleton.mp hq]
      have ec : chF m (tgt [p]) = [] := by
        unfold chF
        rw [List.filter_eq_nil_iff]
        intro x _
        rw [decide_eq_true_eq, all, all]
        exact fun z => z rfl
      unfold pO
      rw [if_pos ec, all, ← p0]
  · have ec : chF m (tgt tl) = tl.map (·.1) := by
      refine asc_eq (chF_asc _ _) (by rw [List.pairwise_map]; exact it.asc) fun x => ?_
      rw [chF_mem, List.mem_map]
      constructor
      · intro ⟨h0, hx, hc⟩
        by_cases z : ∃ p ∈ tl, p.1 = x
        · obtain ⟨p, hp, e⟩ := z
          exact ⟨p, hp, e⟩
        · exact absurd (tgt_back it h0 hx fun p hp e => z ⟨p, hp, e⟩).symm hc
      · intro ⟨p, hp, e⟩
        have r := (it.rng p hp).1
        refine ⟨by omega, by omega, fun z => ?_⟩
        rw [← e, hit p hp, e] at z
        obtain ⟨q, hq, eq, hh⟩ := tgt_arc ne it.asc ((x - 1) % m)
        have same : p = q := it.inj hp hq (z.trans eq)
        subst same
        have two : ∃ r ∈ tl, r ≠ p := by
          match tl, h1, ne, it with
          | [], _, ne, _ => exact absurd rfl ne
          | [y], h1, _, _ => exact absurd rfl h1
          | y :: w :: l, _, _, it =>
            have lt := (List.pairwise_cons.mp it.asc).1 w List.mem_cons_self
            by_cases ey : y = p
            · refine ⟨w, List.mem_cons_of_mem _ List.mem_cons_self, fun ew => ?_⟩
              rw [ey, ew] at lt
              omega
            · exact ⟨y, List.mem_cons_self, ey⟩
        obtain ⟨r', hr', ner⟩ := two
        have nle : r'.1 ≠ p.1 := fun z => ner (by
          have h1 := hit r' hr'
          have h2 := hit p hp
          rw [z, h2] at h1
          exact it.inj hr' hp h1.symm)
        have rr := (it.rng r' hr').1
        by_cases x0 : x = 0
        · rw [x0, back_zero (by omega)] at hh
          rcases hh with ⟨_, h2⟩ | ⟨h2, _⟩
          · have := h2 r' hr' (by omega)
            omega
          · exact h2 p hp (by omega)
        · rw [back_lt (by omega) (by omega)] at hh
          rcases hh with ⟨h2, _⟩ | ⟨h2, h3⟩
          · omega
          · have a := h2 r' hr'
            have b := h3 r' hr'
            omega
    unfold pO
    rw [if_neg (by rw [ec]; intro z; exact ne (List.map_eq_nil_iff.mp z)), ec, List.map_map]
    refine (List.map_congr_left fun p hp => ?_).trans (List.map_id tl)
    show (p.1, tgt tl p.1) = p
    rw [hit p hp]
theorem pigeon {l : List Int} : ∀ {ys : List Int}, l.Nodup → (∀ x ∈ l, x ∈ ys) → l.length ≤ ys.length := by
  induction l with
  | nil => exact fun _ _ => Nat.zero_le _
  | cons x l ih =>
    intro ys nd h
    rw [List.nodup_cons] at nd
    have hx := h x List.mem_cons_self
    have := ih (ys := ys.erase x) nd.2 fun y hy => (List.mem_erase_of_ne fun e => nd.1 (by rw [← e]; exact hy)).mpr (h y (List.mem_cons_of_mem _ hy))
    rw [List.length_erase_of_mem hx] at this
    have hp := List.length_pos_of_mem hx
    rw [List.length_cons]
    omega
section
variable {m : Int} {f L : Int → Int}
theorem Lf.le (h : Lf m f L) (hm : 1 ≤ m) (x : Int) : L x ≤ L (x - 1) + m := by
  have := h.mono x (x - 1 + m) (by omega)
  have e := h.per (x - 1)
  omega
end
/-- a tool made from another map -/
structure Made (m : Int) (g : Int → Int) : Prop where
  it : IsTool m (pO m g)
  at_ : ∀ x, 0 ≤ x → x < m → tgt (pO m g) x = g x
theorem Made.eq {m : Int} {g h : Int → Int} (hm : 0 < m) (a : Made m g) (e : ∀ x, 0 ≤ x → x < m → tgt (pO m g) x = h x) : pO m g = pO m h := by
  exact (pO_tgt hm a.it).symm.trans (pO_congr hm e)
def isNumD : PyData → Bool
  | .int _ => true
  | _ => false
def numIn (lo hi : Int) : PyData → Bool
  | .int i => decide (lo ≤ i) && decide (i ≤ hi)
  | _ => false
def tupIn (lo hi : Int) : PyData → Bool
  | .tuple ds => decide (lo ≤ (ds.length : Nat)) && decide (((ds.length : Nat) : Int) ≤ hi)
  | _ => false
def rngB (m : Int) (p : Int × Int) : Bool := numIn 0 (m - 1) (.int p.1) && numIn 0 (m - 1) (.int p.2)
def tlAt (tl : List (Int × Int)) (i : Nat) : Int × Int := tl.getD i (0, 0)
def bF (tl : List (Int × Int)) (i : Nat) : Bool := if tl.length = 1 then decide ((tlAt tl i).1 = 0) else decide (i = 0) || decide ((tlAt tl (i - 1)).1 < (tlAt tl i).1)
def tF (m : Int) (tl : List (Int × Int)) (i : Nat) : Bool := decide (i = 0) || decide (((tlAt tl (i - 1)).2 - (tlAt tl 0).2) % m < ((tlAt tl i).2 - (tlAt tl 0).2) % m)
def itemB (m : Int) (tl : List (Int × Int)) (i : Nat) : Bool := rngB m (tlAt tl i) && bF tl i && tF m tl i
def toolB (m : Int) (tl : List (Int × Int)) : Bool := (decide (1 ≤ tl.length) && decide (tl.length ≤ 12)) && (List.range tl.length).all (itemB m tl)
theorem tlAt_of {tl : List (Int × Int)} {i : Nat} {p : Int × Int} (h : tl[i]? = some p) : tlAt tl i = p := by
  unfold tlAt
  rw [List.getD_eq_getElem?_getD, h]
  rfl
theorem pw_of_step {α : Type} {R : α → α → Prop} (tr : ∀ x y z, R x y → R y z → R x z) : ∀ (l : List α), (∀ (i : Nat) x y, l[i]? = some x → l[i + 1]? = some y → R x y) → l.Pairwise R
  | [], _ => .nil
  | [x], _ => List.pairwise_singleton _ _
  | x :: y :: l, h => by
    have ih := pw_of_step tr (y :: l) fun i a b ha hb => h (i + 1) a b ha hb
    have xy := h 0 x y rfl rfl
    refine List.pairwise_cons.mpr ⟨fun z hz => ?_, ih⟩
    rcases List.mem_cons.mp hz with e | e
    · rw [e]
      exact xy
    · exact tr x y z xy ((List.pairwise_cons.mp ih).1 z e)
theorem headD_at (tl : List (Int × Int)) : tl.headD (0, 0) = tlAt tl 0 := by cases tl <;> rfl
theorem toolB_iff {m : Int} {tl : List (Int × Int)} : toolB m tl = true ↔ IsTool m tl := by
  unfold toolB
  rw [Bool.and_eq_true, Bool.and_eq_true, decide_eq_true_eq, decide_eq_true_eq, List.all_eq_true]
  constructor
  · intro ⟨⟨h1, h2⟩, h⟩
    have one : ∀ i, i < tl.length → rngB m (tlAt tl i) = true ∧ bF tl i = true ∧ tF m tl i = true := fun i hi => by
      have := h i (List.mem_range.mpr hi)
      unfold itemB at this
      rw [Bool.and_eq_true, Bool.and_eq_true] at this
      exact ⟨this.1.1, this.1.2, this.2⟩
    have rg : ∀ p ∈ tl, (0 ≤ p.1 ∧ p.1 < m) ∧ 0 ≤ p.2 ∧ p.2 < m := fun p hp => by
      obtain ⟨i, hi⟩ := List.getElem?_of_mem hp
      have a := (one i (List.getElem?_eq_some_iff.mp hi).1).1
      rw [tlAt_of hi] at a
      unfold rngB numIn at a
      simp only [Bool.and_eq_true, decide_eq_true_eq] at a
      omega
    refine ⟨h1, h2, rg, ?_, ?_, fun e p hp => ?_⟩
    · refine pw_of_step (fun x y z h1 h2 => by omega) tl fun i x y hx hy => ?_
      have hl := (List.getElem?_eq_some_iff.mp hy).1
      have a := (one (i + 1) hl).2.1
      unfold bF at a
      rw [if_neg (by omega), tlAt_of hy, show i + 1 - 1 = i from rfl, tlAt_of hx, Bool.or_eq_true, decide_eq_true_eq, decide_eq_true_eq] at a
      omega
    · rw [headD_at]
      refine pw_of_step (R := fun x y => (x.2 - (tlAt tl 0).2) % m < (y.2 - (tlAt tl 0).2) % m) (fun x y z h1 h2 => by omega) tl fun i x y hx hy => ?_
      have hl := (List.getElem?_eq_some_iff.mp hy).1
      have a := (one (i + 1) hl).2.2
      unfold tF at a
      rw [tlAt_of hy, show i + 1 - 1 = i from rfl, tlAt_of hx, Bool.or_eq_true, decide_eq_true_eq, decide_eq_true_eq] at a
      rcases a with z | z
      · omega
      · exact z
    · obtain ⟨i, hi⟩ := List.getElem?_of_mem hp
      have a := (one i (List.getElem?_eq_some_iff.mp hi).1).2.1
      unfold bF at a
      rw [if_pos e, tlAt_of hi, decide_eq_true_eq] at a
      exact a
  · intro it
    refine ⟨⟨it.len1, it.len2⟩, fun i hi => ?_⟩
    have hl := List.mem_range.mp hi
    have hg := List.getElem?_eq_getElem hl
    have mem : tlAt tl i ∈ tl := by rw [tlAt_of hg]; exact List.getElem_mem hl
    have r := it.rng _ mem
    have a1 : rngB m (tlAt tl i) = true := by
      unfold rngB numIn
      simp only [Bool.and_eq_true, decide_eq_true_eq]
      omega
    have a2 : bF tl i = true := by
      unfold bF
      by_cases e : tl.length = 1
      · rw [if_pos e, decide_eq_true_eq]
        exact it.one e _ mem
      · rw [if_neg e, Bool.or_eq_true, decide_eq_true_eq, decide_eq_true_eq]
        by_cases z : i = 0
        · exact .inl z
        · have hl' : i - 1 < tl.length := by omega
          refine .inr ?_
          rw [tlAt_of hg, tlAt_of (List.getElem?_eq_getElem hl')]
          exact List.pairwise_iff_getElem.mp it.asc (i - 1) i hl' hl (by omega)
    have a3 : tF m tl i = true := by
      unfold tF
      rw [Bool.or_eq_true, decide_eq_true_eq, decide_eq_true_eq]
      by_cases z : i = 0
      · exact .inl z
      · have hl' : i - 1 < tl.length := by omega
        refine .inr ?_
        have := List.pairwise_iff_getElem.mp it.ord (i - 1) i hl' hl (by omega)
        rw [headD_at] at this
        rw [tlAt_of hg, tlAt_of (List.getElem?_eq_getElem hl')]
        exact this
    unfold itemB
    rw [a1, a2, a3]
    rfl
def RNum : RP := fun ds A => ∃ d, ds = [d] ∧ A (.bool (isNumD d))
def RNumW : RP := fun ds A => ∃ d lo hi, ds = [d, .int lo, .int hi] ∧ A (.bool (numIn lo hi d))
def RPlace : RP := fun ds A => ∃ m d, ds = [.int m, d] ∧ A (.bool (numIn 0 (m - 1) d))
def RTupW : RP := fun ds A => ∃ d lo hi, ds = [d, .int lo, .int hi] ∧ A (.bool (tupIn lo hi d))
def RPairV : RP := fun ds A => ∃ d, ds = [d] ∧ A (.bool (tupIn 2 2 d))
def tTru (K : PySem.W.Frag) (te : TE) : TT := fun σ H Q => te σ H fun x H' => ∃ k, TruV K x H' k ∧ Q k H'
theorem isEmpty_dv {K : PySem.W.Frag} {H : Hp} {B : List Addr} {vs : List V} {ds : List PyData} (h : DvAll K H B vs ds) : vs.isEmpty = ds.isEmpty := by
  cases h <;> rfl
/-- a list or a tuple as a test -/
def aTru (ae : AE) : AT := fun s A => ae s fun d s1 => ∃ ds, itemsOf d = some ds ∧ A (!ds.isEmpty) s1
theorem rt_tru {K : PySem.W.Frag} {Δ : DK} {te : TE} {ae : AE} (h1 : RE K Δ te ae) : RT K Δ (tTru K te) (aTru ae) := by
  intro C B σ H s Q A E h q
  refine h1 C B σ H s _ _ E h fun v d H1 s1 a1 m1 E1 dv => ?_
  obtain ⟨ds, e, a⟩ := a1
  rcases items_cases e with z | z
  · subst z
    obtain ⟨p, us, ep, hp, _, hd⟩ := dv.lstI
    subst ep
    refine ⟨_, .inl ⟨us, SqL.of hp, rfl⟩, ?_⟩
    rw [isEmpty_dv hd]
    exact q _ _ _ a m1 E1
  · subst z
    obtain ⟨p, us, ep, hp, hd⟩ := dv.tupI
    subst ep
    refine ⟨_, .inr (.inl ⟨us, hp, rfl⟩), ?_⟩
    rw [isEmpty_dv hd]
    exact q _ _ _ a m1 E1
theorem eqv_shaped {d : PyData} (h : SeqAt.shaped d = true) : PyData.eqv d d = true := PySem.SeqAt.eqv_refl d (SeqAt.canLay_of_shaped h)
/-- two things that are the same: == and != -/
theorem neSame {d e : PyData} {s : AS} {A : PyData → AS → Prop} (h : SeqAt.shaped d = true) (he : d = e) (a : A (.bool false) s) : aEqD true d e s A := by
  subst he
  refine ⟨h, h, ?_⟩
  rw [eqv_shaped h]
  exact a
theorem r2_catS {K : PySem.W.Frag} {Δ : DK} : R2' K Δ (fun x y H Q => ∃ i j, x = .str i ∧ y = .str j ∧ i.length + j.length ≤ sizeLine ∧ Q (.str (i ++ j)) H) (fun d e s A => ∃ i j : Str, d = .str i ∧ e = .str j ∧ i.length + j.length ≤ 16000000 ∧ A (.str (i ++ j)) s) := by
  intro C B σ H s x y d e Q A E dx dy h q
  obtain ⟨i, j, e1, e2, hl, a⟩ := h
  subst e1 e2
  exact ⟨i, j, dv_str dx, dv_str dy, Nat.le_trans hl (by decide), q _ _ _ a (Same.refl _) (.str _)⟩
def stepF (m : Int) (tls : List (List (Int × Int))) (y : Int) (p : Int × Nat) : Int := tgt (tls.getD p.2 []) ((y + p.1) % m)
def planF (m : Int) (tls : List (List (Int × Int))) (pl : List (Int × Nat)) : Int → Int := fun x => pl.foldl (stepF m tls) x
def pushD (p : Int × Nat) : PyData := .tuple [.int p.1, .int ((p.2 : Nat) : Int)]
def planD (pl : List (Int × Nat)) : PyData := .tuple (pl.map pushD)
theorem id_ints (m : Int) : (rgD 0 m).map PyData.int = (upto m).map fun x => PyData.int x := by
  rw [show rgD 0 m = upto m by unfold rgD upto; rw [Int.sub_zero]; apply List.map_congr_left; intro i _; exact Int.zero_add _]
def rRepD : A2 := fun d e s A => ∃ (ds : List PyData) (k : Int), d = .tuple ds ∧ e = .int k ∧ ds ≠ [] ∧ 2 ≤ k ∧ k ≤ 1000 ∧ ds.length ≤ 1000 ∧ A (.tuple (List.replicate k.toNat ds).flatten) s
theorem r2_repT {K : PySem.W.Frag} {Δ : DK} : R2' K Δ (rRepT K) rRepD := by
  intro C B σ H s x y d e Q A E dx dy h q
  obtain ⟨ds, k, e1, e2, hne, k1, k2, hl, a⟩ := h
  subst e1 e2
  obtain ⟨p, us, ep, hp, hd⟩ := dx.tupI
  subst ep
  refine ⟨p, k, us, rfl, dv_int dy, hp, fun z => hne ?_, k1, k2, by rw [hd.len]; exact hl, fun l nl => ?_⟩
  · subst z
    cases hd
    rfl
  · obtain ⟨sm, dv⟩ := new_tup nl (hd.many k.toNat)
    exact q _ _ _ a sm dv
theorem krepT {X : Cx} (K : PySem.W.Frag) (hK : X.K = K := by rfl) : OpR X (binaryOp .Mult) (rRepT K) := by
  subst hK
  exact op_repT
theorem plan_neat {pl : List (Int × Nat)} (h : ∀ p ∈ pl, p.1.natAbs < 10 ^ 30 ∧ p.2 < 1000) (hl : pl.length ≤ 200) : Neat (planD pl) 1000000 3 := by
  have f : Neat (planD pl) ((pl.map pushD).length * (2 * (1921 + 2) + 3 + 2) + 3) (1 + 1) := neat_tuple fun d hd => by
    rw [List.mem_map] at hd
    obtain ⟨p, hp, e⟩ := hd
    subst e
    have hh := h p hp
    have b : (10 : Nat) ^ 30 ≤ 10 ^ 40 := by decide
    refine neat_tuple (ds := [.int p.1, .int ((p.2 : Nat) : Int)]) (n := 1921) (e := 0) fun d hd => ?_
    rcases List.mem_cons.mp hd with z | z
    · rw [z]
      exact (fine_int (small_int (by omega))).neat
    · rw [List.mem_singleton.mp z]
      exact (fine_int (small_int (by omega))).neat
  rw [List.length_map] at f
  exact f.mono (by omega) (by omega)
section
variable {K : PySem.W.Frag} {Δ : DK} {w : World}
def SrtB (xs : List PyData) (s1 : AS) (g : AG) (tt : AT) (te : AE) (vs : List Nat) (A : PyData → AS → Prop) : Prop := xs.length ≤ 63 ∧ ∃ Inv : Nat → List Int → Option Kx → Prop, Inv 0 [] s1.k ∧
  (∀ i x acc k, xs[i]? = some x → Inv i acc k → g x ⟨wipeA s1.env vs, k⟩ fun s2 => tt s2 fun b s3 => if b = true then te s3 fun d s4 => ∃ c, d = .int c ∧ Inv (i + 1) (acc ++ [c]) s4.k else Inv (i + 1) acc s3.k) ∧
  ∀ acc k, Inv xs.length acc k → ∀ ns : List Int, ns.Pairwise (· < ·) → (∀ y, y ∈ ns ↔ y ∈ acc) → A (.list (ns.map .int)) ⟨s1.env, k⟩
def aSrtSc (ai : AI) (g : AG) (tt : AT) (te : AE) (vs : List Nat) : AE := fun s A => ai s fun xs s1 => SrtB xs s1 g tt te vs A
theorem wipe_idem (σ : L2.St) (vs : List Nat) : wipe (wipe σ vs) vs = wipe σ vs := by
  have idem : ∀ (us : List Nat), (∀ u ∈ us, u ∈ vs) → wipe (wipe σ vs) us = wipe σ vs := by
    intro us
    induction us with
    | nil => exact fun _ => rfl
    | cons u us ih =>
      intro hu
      show (wipe (wipe σ vs) us).set u none = wipe σ vs
      rw [ih fun z hz => hu z (List.mem_cons_of_mem _ hz)]
      have hm := hu u List.mem_cons_self
      by_cases hl : u < (wipe σ vs).length
      · have : (wipe σ vs)[u]? = some none := by
          cases e : (wipe σ vs)[u]? with
          | none =>
            rw [List.getElem?_eq_none_iff] at e
            omega
          | some o =>
            cases o with
            | none => rfl
            | some v => exact absurd hm (wipe_some e).2
        apply List.ext_getElem?
        intro j
        by_cases hj : u = j
        · subst hj
          rw [List.getElem?_set_self hl, this]
        · rw [List.getElem?_set_ne hj]
      · apply List.ext_getElem?
        intro j
        by_cases hj : u = j
        · subst hj
          rw [List.getElem?_eq_none (by rw [List.length_set]; omega), List.getElem?_eq_none (by omega)]
        · rw [List.getElem?_set_ne hj]
  exact idem vs fun u hu => hu
theorem re_srtSc {wi : TI} {ai : AI} {g : TG} {ga : AG} {is : List Nat} {tt : TT} {at_ : AT} {te : TE} {ae : AE} {vs : List Nat} (hi : RI K Δ wi ai) (hg : RG K Δ g ga is) (ht : RT K Δ tt at_) (he : RE K Δ te ae) (hv : (is.all fun i => vs.contains i) = true) :
    RE K Δ (tCB (rSortedSet w) (tCons (tScI w wi g tt te vs) tNil)) (aSrtSc ai ga at_ ae vs) := by
  intro C B σ H s Q A E h q
  refine hi C B σ H s _ _ E h fun J xs H1 s1 a1 m1 E1 itd D nD => ?_
  obtain ⟨hlen, Inv, inv0, turn, done⟩ := a1
  have hvs : ∀ i ∈ is, i ∈ vs := fun i hi => List.contains_iff_mem.mp (List.all_eq_true.mp hv i hi)
  have nas : D ∉ C.as := fun z => E1.newB nD (E1.sub D z)
  refine ⟨fun i m H => m = xs.length - i ∧ i ≤ xs.length ∧ ∃ (acc : List Int) (k : Option Kx) (S : Int → Bool) (n : Nat), Inv i acc k ∧ H D = some (SetO w D S n) ∧ n ≤ i ∧ (∀ y, S y = true ↔ y ∈ acc) ∧ Mx Δ.w C.as H1 H ∧ (∀ k', k = some k' → Δ.P H C.r C.as k'), ⟨xs.length, ?_⟩, ?_⟩
  · refine ⟨(Nat.sub_zero _).symm, Nat.zero_le _, [], s1.k, _, 0, inv0, upd_same, Nat.le_refl _, fun y => ⟨fun z => (by cases z), fun z => (List.not_mem_nil z).elim⟩, .of_same (same_upd nD), (E1.same (same_upd nD)).dk⟩
  rintro i m H ⟨rfl, hi, acc, k, S, n, inv, hD, hn, hS, mx, dk⟩
  have E3 : En K Δ C B σ H ⟨s1.env, k⟩ := E1.move mx dk
  have g3 : Go B H1 B H := .of_mv (mx.up E1.sub)
  by_cases hlt : i < xs.length
  · obtain ⟨go, yld⟩ := (itd _ _ g3 E3.st).1 i xs[i] (List.getElem?_eq_getElem hlt)
    refine .inr ⟨go, fun H' => ∃ (acc : List Int) (k : Option Kx) (S : Int → Bool) (n : Nat), Inv (i + 1) acc k ∧ H' D = some (SetO w D S n) ∧ n ≤ i + 1 ∧ (∀ y, S y = true ↔ y ∈ acc) ∧ Mx Δ.w C.as H1 H' ∧ (∀ k', k = some k' → Δ.P H' C.r C.as k'), fun H' z => ⟨xs.length - (i + 1), by omega, rfl, hlt, z⟩, fun x H' y => ?_⟩
    obtain ⟨sm, dx⟩ := yld x H' y
    have E4 := E3.same sm
    refine hg C B (wipe σ vs) H' ⟨wipeA s1.env vs, k⟩ x _ _ _ (E4.wipe vs) dx (turn i xs[i] acc k (List.getElem?_eq_getElem hlt) inv) fun σ5 s5 a5 E5 w5 => ⟨by rw [w5 vs hvs]; exact wipe_idem σ vs, ?_⟩
    refine ht C B σ5 H' s5 _ _ E5 a5 fun b H6 s6 a6 m6 E6 => ?_
    cases b with
    | true =>
      rw [if_pos rfl] at a6 ⊢
      refine he C B σ5 H6 s6 _ _ E6 a6 fun y d H7 s7 a7 m7 E7 dy => ?_
      obtain ⟨c, ec, inv'⟩ := a7
      subst ec
      have hD7 : H7 D = some (SetO w D S n) := m7.mv.st _ (SetO w D S n) hard_ext (m6.mv.st _ (SetO w D S n) hard_ext (sm _ _ hD))
      have mx7 : Mx Δ.w C.as H1 H7 := ((mx.trans (.of_same sm)).trans m6).trans m7
      refine ⟨c, S, n, dv_int dy, hD7, ?_, acc ++ [c], s7.k, _, _, inv', upd_same, ?_, ?_, ?_, ?_⟩
      · unfold scanBound
        omega
      · split <;> omega
      · intro y
        show (S y || decide (y = c)) = true ↔ _
        rw [Bool.or_eq_true, decide_eq_true_eq, hS y, List.mem_append, List.mem_singleton]
      · exact mx7.fresh nD
      · intro k' hk
        exact Δ.mv (E7.dk k' hk) (fun a ha => upd_ne fun e => nas (by rw [← e]; exact ha)) (nl_upd hD7 lsy_set)
    | false =>
      rw [if_neg Bool.false_ne_true] at a6 ⊢
      exact ⟨acc, s6.k, S, n, a6, m6.mv.st _ (SetO w D S n) hard_ext (sm _ _ hD), by omega, hS, (mx.trans (.of_same sm)).trans m6, E6.dk⟩
  · have e : i = xs.length := by omega
    subst e
    refine .inl ⟨(itd _ _ g3 E3.st).2, D, S, n, rfl, hD, by omega, fun ns p srt mem _ np => ?_⟩
    obtain ⟨sm, dv⟩ := new_lst E3 np (dvInts ns)
    exact q _ _ _ _ (done acc k inv ns srt fun y => (mem y).trans (hS y)) ((m1.trans mx).trans (.of_same sm)) (E3.same sm) dv
theorem re_srtSet {ta : TA} {aa : AA} (h1 : RA K Δ ta aa) : RE K Δ (tCB (rSortedSet w) (tCons (tCB (rSetL K w) ta) tNil)) (fun s A => aa s fun ds s1 => ∃ ns : List Int, ds = [.list (ns.map .int)] ∧ ns.length ≤ 63 ∧ ∀ out : List Int, out.Pairwise (· < ·) → (∀ y, y ∈ out ↔ y ∈ ns) → A (.list (out.map .int)) s1) := by
  intro C B σ H s Q A E h q
  refine h1 C B σ H s _ _ E h fun vs ds H1 s1 a1 m1 E1 dv => ?_
  obtain ⟨ns, e, hl, a⟩ := a1
  subst e
  obtain ⟨p, ev, hp⟩ := intsAt dv
  refine ⟨p, ns, ev, hp, by omega, fun l c nl hc => ?_⟩
  have sm := same_upd (o := SetO w l (fun j => decide (j ∈ ns)) c) nl
  refine ⟨l, _, c, rfl, upd_same, by omega, fun out q2 srt mem _ nq => ?_⟩
  obtain ⟨sm2, dv2⟩ := new_lst (E1.same sm) nq (dvInts out)
  exact q _ _ _ _ (a out srt fun y => by rw [mem y, decide_eq_true_eq]) ((m1.trans (.of_same sm)).trans (.of_same sm2)) ((E1.same sm).same sm2) dv2
theorem rs_never : RS K Δ tNever (fun _ _ => False) := fun C B σ H s D A E h qn qr => h.elim
end
def imgP (m : Int) (f : Int → Int) (ps : List Int) : List Int := (upto m).filter fun y => decide (y ∈ ps.map f)
theorem imgP_mem {m y : Int} {f : Int → Int} {ps : List Int} (hf : ∀ x ∈ ps, 0 ≤ f x ∧ f x < m) : y ∈ imgP m f ps ↔ ∃ x ∈ ps, f x = y := by
  unfold imgP
  rw [List.mem_filter, decide_eq_true_eq, List.mem_map, upto_mem]
  constructor
  · exact fun h => h.2
  · intro h
    obtain ⟨x, hx, e⟩ := h
    have := hf x hx
    exact ⟨by omega, x, hx, e⟩
/-- ascending places of the circle -/
structure Places (m : Int) (ps : List Int) : Prop where
  asc : ps.Pairwise (· < ·)
  rng : ∀ x ∈ ps, 0 ≤ x ∧ x < m
theorem Places.len {m : Int} {ps : List Int} (h : Places m ps) : ps.length ≤ m.toNat := by
  have := pigeon (l := ps) (ys := upto m) (h.asc.imp fun {a b} z => by omega) fun x hx => upto_mem.mpr (h.rng x hx)
  rw [upto_len] at this
  exact this
def pushF (m : Int) (tl : List (Int × Int)) (t : Int) : Int → Int := fun p => tgt tl ((p + t) % m)
def RIdx : RP := fun ds A => ∃ (xs : List PyData) (d : PyData), ds = [.tuple xs, d] ∧ A (.bool (numIn 0 ((xs.length : Nat) - 1) d))
theorem r2_notB {K : PySem.W.Frag} {Δ : DK} : R2' K Δ rNotB (fun d e s A => ∃ a b : Bool, d = .bool a ∧ e = .bool b ∧ A (.bool (!decide (a = b))) s) := by
  intro C B σ H s x y d e Q A E dx dy h q
  obtain ⟨i, j, e1, e2, a⟩ := h
  subst e1 e2
  exact ⟨i, j, dv_bool dx, dv_bool dy, q _ _ _ a (Same.refl _) (.bl _)⟩
structure IsSpread (m : Int) (ps : List Int) (v : Int) : Prop where
  holds : ∃ b, 0 ≤ b ∧ b < m ∧ ∀ p ∈ ps, (p - b) % m < v
  least : ∀ b, 0 ≤ b → b < m → ∃ p ∈ ps, v ≤ (p - b) % m + 1
theorem IsSpread.uniq {m : Int} {ps : List Int} {v v' : Int} (h : IsSpread m ps v) (h' : IsSpread m ps v') : v = v' := by
  obtain ⟨b, b0, b1, hb⟩ := h.holds
  obtain ⟨c, c0, c1, hc⟩ := h'.holds
  obtain ⟨p, hp, e⟩ := h'.least b b0 b1
  obtain ⟨r, hr, e'⟩ := h.least c c0 c1
  have := hb p hp
  have := hc r hr
  omega
theorem IsSpread.rng {m : Int} {ps : List Int} {v : Int} (h : IsSpread m ps v) : 1 ≤ v ∧ v ≤ m := by
  obtain ⟨b, b0, b1, hb⟩ := h.holds
  obtain ⟨p, hp, e⟩ := h.least b b0 b1
  have h1 := hb p hp
  have h2 := Int.emod_nonneg (p - b) (show m ≠ 0 by omega)
  have h3 := Int.emod_lt_of_pos (p - b) (show 0 < m by omega)
  omega
section
variable {K : PySem.W.Frag} {Δ : DK}
def aIxOg (i : Nat) (ab : AE) : AE := fun s A => (∃ ds, s.env[i]? = some (.own ds)) ∧ ab s fun e s1 => ∃ ds j d, s1.env[i]? = some (.own ds) ∧ e = .int j ∧ atI ds j = some d ∧ A d s1
theorem re_ixOg (i : Nat) {tb : TE} {ab : AE} (hb : RE K Δ tb ab) : RE K Δ (tOp (rIxA K) (tVar i) tb) (aIxOg i ab) := by
  intro C B σ H s Q A E h q
  obtain ⟨⟨ds0, h0⟩, h⟩ := h
  obtain ⟨p, us, hp, hus, hds⟩ := E.ownAt h0
  refine ⟨.ref p, hp, hb C B σ H s _ _ E h fun v d H1 s1 a1 m1 E1 dv => ?_⟩
  obtain ⟨ds, j, x, hs, e, hx, a⟩ := a1
  subst e
  obtain ⟨p', us', hp', hus', hds'⟩ := E1.ownAt hs
  have ep : p' = p := by
    rw [hp] at hp'
    exact (V.ref.inj (Option.some.inj (Option.some.inj hp'))).symm
  subst ep
  obtain ⟨v', hv', dv'⟩ := hds'.atI hx
  exact .inl ⟨p', us', j, v', rfl, dv_int dv, SqL.of hus', hv', q _ _ _ _ a m1 E1 dv'⟩
/-- one of two ways to walk -/
def iU (w1 w2 : TI) : TI := fun σ H R => w1 σ H R ∨ w2 σ H R
theorem ri_U {w1 w2 : TI} {a1 a2 : AI} (h1 : RI K Δ w1 a1) (h2 : RI K Δ w2 a2) : RI K Δ (iU w1 w2) (fun s A => a1 s A ∨ a2 s A) := by
  intro C B σ H s R A E h q
  rcases h with h | h
  · exact .inl (h1 C B σ H s R A E h q)
  · exact .inr (h2 C B σ H s R A E h q)
end
/-- closed under differences -/
def Dif (S : Int → Prop) : Prop := ∀ a b, S a → S b → S (a - b)
theorem Dif.mul {S : Int → Prop} (h : Dif S) {a : Int} (ha : S a) (k : Int) : S (a * k) := by
  have z : S 0 := by
    have := h a a ha ha
    rw [Int.sub_self] at this
    exact this
  have neg : ∀ x, S x → S (-x) := fun x hx => by
    have := h 0 x z hx
    rw [Int.zero_sub] at this
    exact this
  have up : ∀ n : Nat, S (a * (n : Nat)) := by
    intro n
    induction n with
    | zero => rw [Int.natCast_zero, Int.mul_zero]; exact z
    | succ n ih =>
      have := h _ _ ih (neg a ha)
      rw [show a * (n : Nat) - -a = a * ((n + 1 : Nat) : Int) by rw [Int.natCast_add, Int.mul_add]; show _ = _ + a * 1; rw [Int.mul_one]; omega] at this
      exact this
  by_cases hk : 0 ≤ k
  · have := up k.toNat
    rw [show ((k.toNat : Nat) : Int) = k by omega] at this
    exact this
  · have := neg _ (up (-k).toNat)
    rw [show (((-k).toNat : Nat) : Int) = -k by omega, Int.mul_neg, Int.neg_neg] at this
    exact this
section
variable {m : Int} {tl : List (Int × Int)} {L P : Int → Int}
theorem Lift.own (h : Lift m tl L P) (hm : 0 < m) {l : Int} (l0 : 0 ≤ l) (lm : l ≤ m) : (∀ b, 0 ≤ b → b < m → BP.cnt m tl b l = l) ↔ ∀ t, P (t + l) = P t + l := by
  constructor
  · intro hc t
    have r0 := Int.emod_nonneg t (show m ≠ 0 by omega)
    have r1 := Int.emod_lt_of_pos t hm
    have re := Int.mul_ediv_add_emod t m
    have c := hc (t % m) r0 r1
    rw [h.cnt hm l0 lm] at c
    have i1 := iter_per h.pper (t % m) (t / m)
    have i2 := iter_per h.pper (t % m + l) (t / m)
    rw [show t % m + m * (t / m) = t by omega] at i1
    rw [show t % m + l + m * (t / m) = t + l by omega] at i2
    omega
  · intro hp b _ _
    rw [h.cnt hm l0 lm, hp]
    omega
end
def fewD (xs : List Int) (v : Int) : PyData := match xs.findIdx? (fun y => decide (v ≤ y)) with
  | some t => .int (t : Nat)
  | none => .none
def SameW (m : Int) (tls tls' : List (List (Int × Int))) : Prop := ∀ l v, 1 ≤ l → l ≤ m → IsWidth m tls l v → IsWidth m tls' l v
theorem Path.same {m : Int} {tls tls' : List (List (Int × Int))} (hs : SameW m tls tls') {g x : Int} {xs : List Int} (g1 : 1 ≤ g) (gm : g ≤ m) (h : Path m tls g xs x) : Path m tls' g xs x := by
  induction h with
  | one => exact .one
  | more h w ne ih =>
    have r := h.rng g1 gm
    exact .more ih (hs _ _ r.1 r.2.1 w) ne
def FirstMax (xs : List Int) (j : Nat) : Prop := ∃ M, xs[j]? = some M ∧ (∀ i : Nat, i < j → xs[i]? ≠ some M) ∧ ∀ y ∈ xs, y ≤ M
theorem FirstMax.uniq {xs : List Int} {i j : Nat} (h1 : FirstMax xs i) (h2 : FirstMax xs j) : i = j := by
  obtain ⟨M, a1, a2, a3⟩ := h1
  obtain ⟨N, b1, b2, b3⟩ := h2
  have e : M = N := Int.le_antisymm (b3 _ (List.mem_of_getElem? a1)) (a3 _ (List.mem_of_getElem? b1))
  subst e
  rcases Nat.lt_trichotomy i j with z | z | z
  · exact absurd a1 (b2 i z)
  · exact z
  · exact absurd b1 (a2 j z)
def WBP (m : Int) (tl : List (Int × Int)) (l b : Int) : Prop := ∃ (j : Nat) (q : Int × Int), tl[j]? = some q ∧ q.1 = b ∧ FirstMax (tl.map fun q => cnt m tl q.2 l) j
theorem WBP.uniq {m l a b : Int} {tl : List (Int × Int)} (h1 : WBP m tl l a) (h2 : WBP m tl l b) : a = b := by
  obtain ⟨i, p, a1, a2, a3⟩ := h1
  obtain ⟨j, q, b1, b2, b3⟩ := h2
  have e := a3.uniq b3
  subst e
  rw [a1] at b1
  cases b1
  rw [← a2, ← b2]
def SBP (m : Int) (ps : List Int) (b : Int) : Prop := ∃ j : Nat, FirstMax (stepsOf m ps) j ∧ ps[(j + 1) % ps.length]? = some b
theorem SBP.uniq {m a b : Int} {ps : List Int} (h1 : SBP m ps a) (h2 : SBP m ps b) : a = b := by
  obtain ⟨i, a1, a2⟩ := h1
  obtain ⟨j, b1, b2⟩ := h2
  have e := a1.uniq b1
  subst e
  rw [a2] at b2
  exact Option.some.inj b2
def TWP (m : Int) (t : List (Int × Int)) (l w : Int) : Prop := (∃ q ∈ t, cnt m t q.2 l = w) ∧ ∀ q ∈ t, cnt m t q.2 l ≤ w
theorem TWP.uniq {m l a b : Int} {t : List (Int × Int)} (h1 : TWP m t l a) (h2 : TWP m t l b) : a = b := by
  obtain ⟨⟨p, a1, a2⟩, a3⟩ := h1
  obtain ⟨⟨q, b1, b2⟩, b3⟩ := h2
  exact Int.le_antisymm (by rw [← a2]; exact b3 p a1) (by rw [← b2]; exact a3 q b1)
def WIP (m : Int) (tls : List (List (Int × Int))) (l : Int) (i : Nat) : Prop := ∃ ws : List Int, ws.length = tls.length ∧ (∀ (j : Nat) t w, tls[j]? = some t → ws[j]? = some w → TWP m t l w) ∧ FirstMax ws i
theorem WIP.uniq {m l : Int} {tls : List (List (Int × Int))} {i j : Nat} (h1 : WIP m tls l i) (h2 : WIP m tls l j) : i = j := by
  obtain ⟨ws, a1, a2, a3⟩ := h1
  obtain ⟨us, b1, b2, b3⟩ := h2
  have e : ws = us := by
    apply List.ext_getElem?
    intro z
    by_cases hz : z < tls.length
    · have t := List.getElem?_eq_getElem (l := tls) (i := z) hz
      have w := List.getElem?_eq_getElem (l := ws) (i := z) (by omega)
      have u := List.getElem?_eq_getElem (l := us) (i := z) (by omega)
      rw [w, u, (a2 z _ _ t w).uniq (b2 z _ _ t u)]
    · rw [List.getElem?_eq_none (by omega), List.getElem?_eq_none (by omega)]
  subst e
  exact a3.uniq b3
inductive ThrP (m : Int) (tls : List (List (Int × Int))) (ps : List Int) : List (Nat × Int) → List (Int × Nat) → List Int → Prop
  | nil : ThrP m tls ps [] [] ps
  | snoc {st : List (Nat × Int)} {pl : List (Int × Nat)} {r : List Int} {i : Nat} {l w b : Int} : ThrP m tls ps st pl r → WBP m (tls.getD i []) l w → SBP m r b →
    ThrP m tls ps (st ++ [(i, l)]) (pl ++ [((w - b) % m, i)]) (imgP m (pushF m (tls.getD i []) ((w - b) % m)) r)
theorem ThrP.uniq {m : Int} {tls : List (List (Int × Int))} {ps : List Int} {st : List (Nat × Int)} {pl : List (Int × Nat)} {r : List Int} (h1 : ThrP m tls ps st pl r) : ∀ {pl' r'}, ThrP m tls ps st pl' r' → pl' = pl ∧ r' = r := by
  induction h1 with
  | nil =>
    intro pl' r' h2
    generalize e : ([] : List (Nat × Int)) = st at h2
    cases h2 with
    | nil => exact ⟨rfl, rfl⟩
    | snoc a b c =>
      have := congrArg List.length e
      rw [List.length_append, List.length_singleton, List.length_nil] at this
      omega
  | @snoc st pl r i l w b a1 a2 a3 ih =>
    intro pl' r' h2
    generalize e : st ++ [(i, l)] = st' at h2
    cases h2 with
    | nil =>
      have := congrArg List.length e
      rw [List.length_append, List.length_singleton, List.length_nil] at this
      omega
    | @snoc st2 pl2 r2 i2 l2 w2 b2 c1 c2 c3 =>
      obtain ⟨e1, e2⟩ := List.append_inj' e rfl
      subst e1
      cases e2
      obtain ⟨e3, e4⟩ := ih c1
      subst e3 e4
      rw [a2.uniq c2, a3.uniq c3]
      exact ⟨rfl, rfl⟩
def FindP (m : Int) (tls : List (List (Int × Int))) (ps : List Int) (g : Int) (pl : List (Int × Nat)) : Prop := ∃ (xs : List Int) (x v : Int) (t : Nat) (st : List (Nat × Int)) (r : List Int), Path m tls g xs x ∧ IsWidth m tls x x ∧ IsSpread m ps v ∧ fewD xs v = .int (t : Nat) ∧ st.length = t ∧
  (∀ (j : Nat) p y, st[j]? = some p → (xs.take t).reverse[j]? = some y → p.2 = y ∧ WIP m tls y p.1) ∧ t ≤ xs.length ∧ ThrP m tls ps st pl r
theorem FindP.uniq {m g : Int} {tls : List (List (Int × Int))} {ps : List Int} {pl pl' : List (Int × Nat)} (h1 : FindP m tls ps g pl) (h2 : FindP m tls ps g pl') : pl = pl' := by
  obtain ⟨xs, x, v, t, st, r, a1, a2, a3, a4, a5, a6, a7, a8⟩ := h1
  obtain ⟨xs', x', v', t', st', r', b1, b2, b3, b4, b5, b6, b7, b8⟩ := h2
  have ex : xs' = xs := Chain.uniq (b1.done b2) (a1.done a2)
  subst ex
  have ev := a3.uniq b3
  subst ev
  rw [a4] at b4
  have et : t = t' := by
    have := PyData.int.inj b4
    omega
  subst et
  have es : st' = st := by
    apply List.ext_getElem?
    intro j
    by_cases hj : j < t
    · have y1 := List.getElem?_eq_getElem (l := (xs'.take t).reverse) (i := j) (by rw [List.length_reverse, List.length_take]; omega)
      have p1 := List.getElem?_eq_getElem (l := st) (i := j) (by omega)
      have p2 := List.getElem?_eq_getElem (l := st') (i := j) (by omega)
      obtain ⟨c1, c2⟩ := a6 j _ _ p1 y1
      obtain ⟨d1, d2⟩ := b6 j _ _ p2 y1
      rw [p1, p2]
      congr 1
      exact Prod.ext (d2.uniq c2) (d1.trans c1.symm)
    · rw [List.getElem?_eq_none (by omega), List.getElem?_eq_none (by omega)]
  subst es
  exact (b8.uniq a8).1
theorem few_cases (xs : List Int) (v : Int) : (fewD xs v = .none ∧ ∀ y ∈ xs, y < v) ∨ ∃ (t : Nat) (y : Int), fewD xs v = .int (t : Nat) ∧ xs[t]? = some y ∧ v ≤ y := by
  unfold fewD
  split
  · rename_i t h
    rw [List.findIdx?_eq_some_iff_getElem] at h
    obtain ⟨h1, h2, h3⟩ := h
    exact .inr ⟨t, _, rfl, List.getElem?_eq_getElem h1, of_decide_eq_true h2⟩
  · rename_i h
    rw [List.findIdx?_eq_none_iff] at h
    refine .inl ⟨rfl, fun y hy => ?_⟩
    have := of_decide_eq_false (h y hy)
    omega
theorem numIn_int {lo hi : Int} {d : PyData} (h : numIn lo hi d = true) : ∃ n, d = .int n ∧ lo ≤ n ∧ n ≤ hi := by
  cases d with
  | int n =>
    have h2 : (decide (lo ≤ n) && decide (n ≤ hi)) = true := h
    rw [Bool.and_eq_true, decide_eq_true_eq, decide_eq_true_eq] at h2
    exact ⟨n, rfl, h2.1, h2.2⟩
  | _ => cases h
def rSortT (K : PySem.W.Frag) : List V → Hp → VK → Prop := fun vs H Q => ∃ (a : Addr) (ns : List Int), vs = [V.ref a] ∧ SqT K H a (ns.map V.int) ∧
  ∀ (ms : List Int) (p : Addr), ms.Perm ns → ms.Pairwise (· ≤ ·) → H p = none → Q (.ref p) (upd H p (.lst (ms.map V.int)))
section
variable {K : PySem.W.Frag} {Δ : DK}
theorem rc_sortT : RC' K Δ (rSortT K) (fun ds s A => ∃ ns : List Int, ds = [.tuple (ns.map .int)] ∧ ∀ ns' : List Int, ns'.Perm ns → ns'.Pairwise (· ≤ ·) → A (.list (ns'.map .int)) s) := by
  intro C B σ H s vs ds Q A E dv h q
  obtain ⟨ns, e, a⟩ := h
  subst e
  obtain ⟨v, ev, d1⟩ := dv.one
  obtain ⟨p, us, ep, hp, hd⟩ := d1.tupI
  rw [hd.ints] at hp
  subst ev ep
  refine ⟨p, ns, rfl, hp, fun ns' l h1 h2 nl => ?_⟩
  obtain ⟨sm, dv⟩ := new_lst E nl (dvInts ns')
  exact q _ _ _ (a ns' h1 h2) sm dv
end
section
variable {K : PySem.W.Frag} {Δ : DK}
theorem itd_rangeC {B : List Addr} {H : Hp} {lo c : Int} {n : Nat} : ItD K B (Itc lo c n) H ((List.range n).map fun i => .int (lo + (i : Nat) * c)) := by
  intro B' H' g _
  refine ⟨fun i d hd => ?_, ?_⟩
  · obtain ⟨e, hi⟩ := range_at hd
    subst e
    refine ⟨hi, fun x H2 y => ?_⟩
    obtain ⟨e1, e2⟩ := y
    subst e1 e2
    exact ⟨Same.refl _, .int _⟩
  · show n ≤ _
    rw [List.length_map, List.length_range]
    exact Nat.le_refl _
theorem ri_rng3 {ta : TA} {aa : AA} (ha : RA K Δ ta aa) : RI K Δ (iRng3 ta) (fun s A => aa s fun ds s1 => ∃ (i j c : Int) (n : Nat), ds = [.int i, .int j, .int c] ∧ RgC i j c n ∧ A ((List.range n).map fun x => .int (i + (x : Nat) * c)) s1) := by
  intro C B σ H s R A E h q
  refine ha C B σ H s _ _ E h fun vs ds H1 s1 a1 m1 E1 dv1 => ?_
  obtain ⟨i, j, c, n, e, h1, a⟩ := a1
  subst e
  cases dv1 with
  | cons d0 dr =>
    obtain ⟨v, u, ev, dv, du⟩ := dr.two
    subst ev
    cases d0
    cases dv
    cases du
    exact ⟨i, j, c, n, rfl, h1, q _ _ _ _ a m1 E1 itd_rangeC⟩
theorem rs_cutA {tc : TT} {ac : AT} {te : TE} {g : TG} {ae : AE} {ag : AG} {is : List Nat} {u : TS} {b : AStm} (hc : RT K Δ tc ac) (h1 : RE K Δ te ae) (h2 : RG K Δ g ag is) (hu : RS K Δ u b) :
    RS K Δ (tSeq (tIfS tc (tAsg te g) tNext) u) (aCut (aIfS ac (aAsg ae ag) (fun A s => A.nx s)) b) := rs_cut (rs_if hc (rs_asg h1 h2) rs_next) hu
end
theorem neat_tup2 {d e : PyData} {n m : Nat} (h1 : Neat d n m) (h2 : Neat e n m) : Neat (.tuple [d, e]) (2 * (n + 2) + 3) (m + 1) := neat_tuple (ds := [d, e]) fun x hx => by
  rcases List.mem_cons.mp hx with z | z
  · rw [z]
    exact h1
  · rw [List.mem_singleton.mp z]
    exact h2
theorem path_last {m g x : Int} {tls : List (List (Int × Int))} {xs : List Int} (hp : Path m tls g xs x) : atI (xs.map PyData.int) (-1) = some (.int x) := by
  obtain ⟨ys, ey⟩ := hp.last
  rw [ey]
  apply atI_neg1
  rw [List.length_map, List.length_append, List.getElem?_map, List.length_singleton, Nat.add_sub_cancel, List.getElem?_append_right (Nat.le_refl _), Nat.sub_self]
  rfl
theorem neat_small {n : Int} (h : n.natAbs < 10 ^ 40) : Neat (.int n) 3900000 1 := (fine_int (small_int h)).neat.mono (by decide) (by decide)
/-- what a certificate is -/
def CertP (m : Int) (tls : List (List (Int × Int))) (ps : List Int) (g : Int) (d : PyData) : Prop := ∃ xs x v, Path m tls g xs x ∧ IsWidth m tls x x ∧ IsSpread m ps v ∧ ((fewD xs v = .none ∧ d = .tuple [.str "never", .int x]) ∨
  ∃ (t : Nat) (pl : List (Int × Nat)), fewD xs v = .int (t : Nat) ∧ pl.length = t ∧ (∀ p ∈ pl, 0 ≤ p.1 ∧ p.1 < m ∧ p.2 < tls.length) ∧ FindP m tls ps g pl ∧ d = .tuple [.str "plan", planD pl])
theorem CertP.uniq {m g : Int} {tls : List (List (Int × Int))} {ps : List Int} {d d' : PyData} (h : CertP m tls ps g d) (h' : CertP m tls ps g d') : d = d' := by
  obtain ⟨xs, x, v, a1, a2, a3, a4⟩ := h
  obtain ⟨xs', x', v', b1, b2, b3, b4⟩ := h'
  have ex : xs' = xs := Chain.uniq (b1.done b2) (a1.done a2)
  subst ex
  have ev := a3.uniq b3
  subst ev
  have exx : x' = x := by
    have h1 := path_last a1
    have h2 := path_last b1
    rw [h1] at h2
    exact (PyData.int.inj (Option.some.inj h2)).symm
  subst exx
  rcases a4 with ⟨c1, c2⟩ | ⟨t, pl, c1, _, _, c4, c5⟩
  · rcases b4 with ⟨e1, e2⟩ | ⟨t', pl', e1, _⟩
    · rw [c2, e2]
    · rw [c1] at e1
      cases e1
  · rcases b4 with ⟨e1, e2⟩ | ⟨t', pl', e1, _, _, e4, e5⟩
    · rw [c1] at e1
      cases e1
    · rw [c5, e5, c4.uniq e4]
theorem CertP.neat {m g : Int} {tls : List (List (Int × Int))} {ps : List Int} {d : PyData} (h : CertP m tls ps g d) (hm : m ≤ 60) (g1 : 1 ≤ g) (gm : g ≤ m) (h4 : tls.length ≤ 100) : Neat d 16000000 60 := by
  obtain ⟨xs, x, v, a1, a2, a3, a4⟩ := h
  have r := a1.rng g1 gm
  rcases a4 with ⟨_, e⟩ | ⟨t, pl, c1, c2, c3, _, e⟩
  · subst e
    exact (neat_tup2 (n := 3900000) (m := 1) ⟨rfl, by decide, by decide +kernel⟩ (neat_small (by omega))).mono (by decide) (by decide)
  · subst e
    have ht : t ≤ 100 := by
      rcases few_cases xs v with ⟨ef, _⟩ | ⟨t', y, ef, ht, _⟩
      · rw [ef] at c1
        cases c1
      · rw [ef] at c1
        have := PyData.int.inj c1
        have := (List.getElem?_eq_some_iff.mp ht).1
        omega
    refine (neat_tup2 (n := 1000000) (m := 3) ⟨rfl, by decide, by decide +kernel⟩ (plan_neat (fun p hp => ?_) (by omega))).mono (by decide) (by decide)
    have := c3 p hp
    have b : (10 : Nat) ^ 30 = 1000000000000000000000000000000 := by decide
    omega
/-- what find_plan returns -/
def PlanR (m : Int) (tls : List (List (Int × Int))) (ps : List Int) (g : Int) (d : PyData) : Prop := ∃ xs x v, Path m tls g xs x ∧ IsWidth m tls x x ∧ IsSpread m ps v ∧ ((fewD xs v = .none ∧ d = .none) ∨
  ∃ (t : Nat) (pl : List (Int × Nat)), fewD xs v = .int (t : Nat) ∧ pl.length = t ∧ t ≤ 100 ∧ (∀ p ∈ pl, 0 ≤ p.1 ∧ p.1 < m ∧ p.2 < tls.length) ∧ (∀ w, IsSpread m (imgP m (planF m tls pl) ps) w → w ≤ g) ∧ FindP m tls ps g pl ∧ d = planD pl)
theorem PlanR.uniq {m g : Int} {tls : List (List (Int × Int))} {ps : List Int} {d d' : PyData} (h : PlanR m tls ps g d) (h' : PlanR m tls ps g d') : d = d' := by
  obtain ⟨xs, x, v, a1, a2, a3, a4⟩ := h
  obtain ⟨xs', x', v', b1, b2, b3, b4⟩ := h'
  have ex : xs' = xs := Chain.uniq (b1.done b2) (a1.done a2)
  subst ex
  have ev := a3.uniq b3
  subst ev
  rcases a4 with ⟨c1, c2⟩ | ⟨t, pl, c1, _, _, _, _, c4, c5⟩
  · rcases b4 with ⟨e1, e2⟩ | ⟨t', pl', e1, _⟩
    · rw [c2, e2]
    · rw [c1] at e1
      cases e1
  · rcases b4 with ⟨e1, e2⟩ | ⟨t', pl', e1, _, _, _, _, e4, e5⟩
    · rw [c1] at e1
      cases e1
    · rw [c5, e5, c4.uniq e4]
theorem plan_small {m : Int} {tls : List (List (Int × Int))} {pl : List (Int × Nat)} (hm : m ≤ 60) (hn : tls.length ≤ 100) (fine : ∀ p ∈ pl, 0 ≤ p.1 ∧ p.1 < m ∧ p.2 < tls.length) (hl : pl.length ≤ 100) : Neat (planD pl) 1000000 3 := by
  refine plan_neat (fun p hp => ?_) (by omega)
  have := fine p hp
  have b : (10 : Nat) ^ 30 = 1000000000000000000000000000000 := by decide
  omega
theorem PlanR.neat {m g : Int} {tls : List (List (Int × Int))} {ps : List Int} {d : PyData} (h : PlanR m tls ps g d) (hm : m ≤ 60) (hn : tls.length ≤ 100) : Neat d 1000000 3 := by
  obtain ⟨xs, x, v, a1, a2, a3, a4⟩ := h
  rcases a4 with ⟨_, e⟩ | ⟨t, pl, c1, c2, c3, c4, _, _, e⟩
  · subst e
    exact ⟨rfl, by decide, by decide⟩
  · subst e
    exact plan_small hm hn c4 (by omega)
theorem rs_cutI2 {K : PySem.W.Frag} {Δ : DK} {tc : TT} {ac : AT} {t1 t2 u : TS} {a1 a2 b : AStm} (hc : RT K Δ tc ac) (h1 : RS K Δ t1 a1) (h2 : RS K Δ t2 a2) (hu : RS K Δ u b) :
    RS K Δ (tSeq (tIfS tc (tSeq t1 t2) tNext) u) (aCut (aIfS ac (aSeq a1 a2) (fun A s => A.nx s)) b) := rs_cut (rs_if hc (rs_seq h1 h2) rs_next) hu
def HasX (P : Program) (w : World) (K : PySem.W.Frag) (mg : Str → Option Value) (base : Heap) (k : Nat) (x : Str) (ps : List Str) (sp : Sp) : Prop :=
  ∃ f fd, FnOk P w K mg base (L2.CX P w) k f fd ps sp ∧ mg x = some (.ref f) ∧ PySem.W.keepIn K (.ref f) = true ∧ L2.Binds K fd ps []
section
variable {X : Cx} {k j : Nat} {ps : List Str} {sp : Sp} {x : Str} {p pos : Pos} {e : Expr} {es : List Expr} {t : TA} {W : WX}
theorem pe_callHX (h : HasX X.prog X.w X.K X.mg X.base k x ps sp) (hr : Room j X.A) (hk : k ≤ j) (tk : Takes X W) (hg : Gl X x) (ha : PA X (e :: es) t)
    (hdb : (x == ("__debug__" : Str)) = false := by decide)
    (he : starEach (e :: es) X.env = (false, eval e X.env) :: starEach es X.env := by rfl)
    (hpl : (backTo pos (starEach es X.env)).any (·.1) = false := by rfl) :
    PE X (.Call (.Name x p) (e :: es) [] pos) (tCallS sp (WE W) t) := by
  obtain ⟨f, fd, F, hm, hkp, hb⟩ := h
  exact pe_callS F (hr.mono hk) hg hm hkp hb (fun σ => passAt tk σ) ha hdb he hpl
end
def spInit (K : PySem.W.Frag) (fld : Str) : Sp := fun vs H Q _ => ∃ (a C : Addr) (v : V), vs = [.ref a, v] ∧ OexC K C ∧ PySem.W.findIn K (.ref C) fld = some none ∧ H a = some (exo a C none) ∧
  ∀ dx, H dx = none → dx ≠ a → Q .non (upd (upd H dx (exd dx [(fld, v)])) a (exo a C (some dx)))
structure ErrC (P : Program) (w : World) (K : PySem.W.Frag) (mg : Str → Option Value) (base : Heap) (x : Str) (fld : Str) (C : Addr) : Prop where
  gC : mg x = some (.ref C)
  ox : OexC K C
  xf : XfC K C
  ec : ExcC K C
  no : PySem.W.findIn K (.ref C) fld = some none
  ini : ∃ fI fd, PySem.W.findIn K (.ref C) "__init__" = some (some (.ref fI)) ∧ PySem.W.typeIn K (.ref fI) = some (.type "function") ∧ FnOk P w K mg base CX0 1 fI fd ["self", fld] (spInit K fld) ∧ L2.Binds K fd ["self", fld] []
theorem pmk_err {X : Cx} {x fld : Str} {C : Addr} {e : Expr} {ta : TA} {p pos : Pos} {k : Nat} (T : ErrC X.prog X.w X.K X.mg X.base x fld C) (hr : Room k X.A) (hk : 2 ≤ k) (hg : Gl X x) (ha : PA X [e] ta)
    (hdb : (x == ("__debug__" : Str)) = false := by decide) (he : starEach [e] X.env = (false, eval e X.env) :: starEach [] X.env := by rfl) (hpl : (backTo pos (starEach [] X.env)).any (·.1) = false := by rfl) :
    PMk X (.Call (.Name x p) [e] [] pos) (tMkO C (spInit X.K fld) [] ta) := by
  obtain ⟨fI, fd, h1, h2, F, b⟩ := T.ini
  exact pmk_oex T.ox h1 h2 F (hr.mono hk) b .nil pass0 hg T.gC ha hdb he hpl
theorem mk_bad {K : PySem.W.Frag} {C : Addr} {fld : Str} {v : V} {H1 : Hp} {Q : XK} (T : OexC K C) (no : PySem.W.findIn K (.ref C) fld = some none)
    (q : ∀ d H', Same H1 H' → H1 d = none → H' d = some (.xd [(fld, v)]) → Q (.ref C) (some d) H') :
    [v].length ≤ 1000 ∧ ∀ a, H1 a = none → spInit K fld (.ref a :: ([v] ++ [])) (upd H1 a (exo a C none))
      (fun v H2 => v = .non ∧ ∃ (d : Addr) (fs : List (Str × V)), H2 a = some (exo a C (some d)) ∧ H2 d = some (exd d fs) ∧ H1 d = none ∧ Q (.ref C) (some d) (upd (del H2 a) d (.xd fs))) (fun _ _ _ => False) := by
  refine ⟨by show 1 ≤ 1000; decide, fun a na => ⟨a, C, v, rfl, T, no, upd_same, fun dx nd ne => ⟨rfl, dx, [(fld, v)], upd_same, ?_, ?_, ?_⟩⟩⟩
  · rw [upd_ne ne, upd_same]
  · rw [upd_ne ne] at nd
    exact nd
  · rw [upd_ne ne] at nd
    refine q dx _ (fun b o e => ?_) nd upd_same
    have ba : b ≠ a := ne_of_none e na
    have bd : b ≠ dx := ne_of_none e nd
    rw [upd_ne bd, del_ne ba, upd_ne ba, upd_ne bd, upd_ne ba]
    exact e
def rIsX (K : PySem.W.Frag) (a : Addr) (cls : Value) (d : Option Addr) : List V → Hp → VK → Prop := fun xs H Q => ∃ (D dd : Addr) (fs : List (Str × V)) (c : V) (cv : Value) (b : Bool), cls = .ref D ∧ d = some dd ∧ ExcC K D ∧ xs = [.ref a, c] ∧ H dd = some (.xd fs) ∧ ClsV c cv ∧ PySem.W.kitOne K (.ref D) cv = some b ∧ Q (.bl b) H
def rIsXT (K : PySem.W.Frag) (a : Addr) (cls : Value) (d : Option Addr) : List V → Hp → VK → Prop := fun xs H Q => ∃ (D dd tp : Addr) (fs : List (Str × V)) (cs : List V) (us : List Value) (b : Bool), cls = .ref D ∧ d = some dd ∧ ExcC K D ∧ xs = [.ref a, .ref tp] ∧ H dd = some (.xd fs) ∧ H tp = some (.tup cs) ∧ Paired ClsV cs us ∧ PySem.W.kitAny K (.ref D) us = some b ∧ Q (.bl b) H
section
variable {X : Cx} {a : Addr} {oe : Obj} {cls : Value} {d : Option Addr} {pn : List (Addr × Obj)}
theorem inst_of {D dd : Addr} {fs : List (Str × V)} {pins : List (Addr × Obj)} {s : Shared} {σ : L2.St} {H : Hp} (hz : Zc (.ref D) (some dd) oe) (hf : ∃ vs, oe.data = .fields vs)
    (I : L2.Inv (X.suite a ((a, oe) :: pn)) pins σ H s) (hd : H dd = some (.xd fs)) : ∃ od, PySem.W.InstAt s.heap a oe D (some od) := by
  obtain ⟨ha, _⟩ := I.pin (a, oe) (List.mem_append_left _ List.mem_cons_self)
  obtain ⟨vs, hv⟩ := hf
  obtain ⟨mA, hns, hr⟩ := (show ObjOk X.prog X.w H s.heap dd (.xd fs) from I.hok dd _ hd)
  obtain ⟨od, ho, hl⟩ := lookIn_ns hns
  exact ⟨od, ha, hz.1, by unfold PySem.W.notCls; rw [hv] <;> rfl, by rw [hz.2]; exact ho⟩
theorem kit_x {D : Addr} {od : Option Obj} (C : ExcC X.K D) : PySem.W.KitX X.K (.ref a) (.ref D) (fun h => PySem.W.InstAt h a oe D od) :=
  PySem.W.kitx_exc (by obtain ⟨cd, hc, _⟩ := PySem.W.any_some C.hd; rw [hc]; rfl) C.hg C.hk C.hs C.ha C.hn C.ht C.hm
theorem call_isX (K : PySem.W.Frag) (hz : Zc cls d oe) (hf : ∃ vs, oe.data = .fields vs) (hK : X.K = K := by rfl) : CallR (X.suite a ((a, oe) :: pn)) (.builtin "isinstance") (rIsX K a cls d) := by
  subst hK
  intro pins s σ H xs us Q I r h
  obtain ⟨D, dd, fs, c, cv, b, e1, e2, C, e3, hd, k, e, q⟩ := h
  subst e1
  subst e2
  subst e3
  obtain ⟨u1, u2, eu, r1, r2⟩ := vals2 r
  subst eu
  cases r1
  have e4 := k.eq r2
  subst e4
  obtain ⟨od, J⟩ := inst_of hz hf I hd
  exact PySem.W.kia_one (kit_x C) I.kIn J e (fun z => nomatch z) fun tk => ⟨.bl b, H, I.tok tk, rfl, q⟩
theorem call_isXT (K : PySem.W.Frag) (hz : Zc cls d oe) (hf : ∃ vs, oe.data = .fields vs) (hK : X.K = K := by rfl) : CallR (X.suite a ((a, oe) :: pn)) (.builtin "isinstance") (rIsXT K a cls d) := by
  subst hK
  intro pins s σ H xs us Q I r h
  obtain ⟨D, dd, tp, fs, cs, ws, b, e1, e2, C, e3, hd, hT, k, e, q⟩ := h
  subst e1
  subst e2
  subst e3
  obtain ⟨u1, u2, eu, r1, r2⟩ := vals2 r
  subst eu
  cases r1
  cases (show u2 = Value.ref tp from r2)
  obtain ⟨od, J⟩ := inst_of hz hf I hd
  obtain ⟨_, its, rv, o, h1, h2, n, h3⟩ := (show ObjOk X.prog X.w H s.heap tp (.tup cs) from I.hok tp _ hT)
  have e3 := ClsV.all k rv
  subst e3
  obtain ⟨oc, od2, dt, sl⟩ := o
  simp only at h2 h3
  subst h2 h3
  exact PySem.W.kia_tup (kit_x C) I.kIn J h1 e (fun z => nomatch z) fun tk => ⟨.bl b, H, I.tok tk, rfl, q⟩
/-- e.f -/
theorem kxf (K : PySem.W.Frag) {C : Addr} {e : Expr} {te : TE} {pos : Pos} {n : Str} (T : XfC K C) (hno : PySem.W.findIn K (.ref C) n = some none)
    (hz : Zc cls d oe) (hf : ∃ vs, oe.data = .fields vs) (he : PE (X.suite a ((a, oe) :: pn)) e te) (hK : X.K = K := by rfl) (hb : attributeBase e n X.env (eval e X.env) = eval e X.env := by rfl) :
    PE (X.suite a ((a, oe) :: pn)) (.Attribute e n pos) (tXf a cls d C n te) := by
  subst hK
  exact pe_xf T hno hz hf he hb
end
theorem hasx_mk {P : Program} {w : World} {K : PySem.W.Frag} {mg : Str → Option Value} {base : Heap} {k : Nat} {x : Str} {st : Stmt} {f : Addr} {fd : FuncData} {ps : List Str} {sp : Sp}
    (F : Fun K x x st f fd) (ok : FnOk P w K mg base (L2.CX P w) k f fd ps sp) (hm : mg x = some (.ref f)) (hb : L2.Binds K fd ps []) : HasX P w K mg base k x ps sp := ⟨f, fd, ok, hm, F.kp, hb⟩
abbrev AX := Addr → List (Str × PyData) → AS → Prop
abbrev AStmX := AEnds → AX → AS → Prop
abbrev RPX := List PyData → (PyData → Prop) → (Addr → List (Str × PyData) → Prop) → Prop
def spX (K : PySem.W.Frag) (R : RPX) : Sp := fun vs H Q E => ∃ (B : List Addr) (ds : List PyData) (A : PyData → Prop) (X : Addr → List (Str × PyData) → Prop), Stands B H ∧ DvAll K H B vs ds ∧ R ds A X ∧ (∀ v d H', A d → Same H H' → Dv K H' B v d → Q v H') ∧
  ∀ D fs d H', X D fs → Same H H' → ErrAt K H' B d fs → E (.ref D) d H'
section
variable (K : PySem.W.Frag) (Δ : DK)
def RSX (W : WX) (t : TS) (a : AStmX) : Prop := ∀ (C : Cy) (B : List Addr) (σ : L2.St) (H : Hp) (s : AS) (D : Ends) (A : AEnds) (X : AX), En K Δ C B σ H s → a A X s →
  (∀ B' σ' H' s', A.nx s' → Go B H B' H' → En K Δ C B' σ' H' s' → D.nx σ' H') → (∀ v d H' s', A.rt d s' → Rt K Δ C H' s' v d → D.rt v H') →
  (∀ D' fs d B' σ' H' s', X D' fs s' → Go B H B' H' → En K Δ C B' σ' H' s' → ErrAt K H' B' d fs → W (.ref D') d σ' H') → t D σ H
end
section
variable {K : PySem.W.Frag} {Δ : DK} {W : WX}
theorem rsx_of {t : TS} {a : AStm} (h : RS K Δ t a) : RSX K Δ W t (fun A _ s => a A s) := fun C B σ H s D A X E ha qn qr _ => h C B σ H s D A E ha qn qr
theorem rsx_seq {t u : TS} {a b : AStmX} (h1 : RSX K Δ W t a) (h2 : RSX K Δ W u b) : RSX K Δ W (tSeq t u) (fun A X s => a ⟨fun s' => b A X s', A.rt⟩ X s) := by
  intro C B σ H s D A X E h qn qr qx
  refine h1 C B σ H s _ ⟨fun s' => b A X s', A.rt⟩ X E h (fun B' σ' H' s' a g E' => ?_) qr qx
  exact h2 C B' σ' H' s' D A X E' a (fun B2 σ2 H2 s2 a2 g2 E2 => qn B2 σ2 H2 s2 a2 (g.trans g2) E2) qr fun D' fs d B2 σ2 H2 s2 a2 g2 E2 er => qx D' fs d B2 σ2 H2 s2 a2 (g.trans g2) E2 er
theorem rsx_if {tc : TT} {ac : AT} {t u : TS} {a b : AStmX} (hc : RT K Δ tc ac) (h1 : RSX K Δ W t a) (h2 : RSX K Δ W u b) : RSX K Δ W (tIfS tc t u) (fun A X s => ac s fun k s1 => if k = true then a A X s1 else b A X s1) := by
  intro C B σ H s D A X E h qn qr qx
  refine hc C B σ H s _ _ E h fun k H1 s1 a1 m1 E1 => ?_
  have g := Go.of_mv (m1.up E.sub)
  cases k with
  | true =>
    rw [if_pos rfl] at a1 ⊢
    exact h1 C B σ H1 s1 D A X E1 a1 (fun B2 σ2 H2 s2 a2 g2 E2 => qn B2 σ2 H2 s2 a2 (g.trans g2) E2) qr fun D' fs d B2 σ2 H2 s2 a2 g2 E2 er => qx D' fs d B2 σ2 H2 s2 a2 (g.trans g2) E2 er
  | false =>
    rw [if_neg Bool.false_ne_true] at a1 ⊢
    exact h2 C B σ H1 s1 D A X E1 a1 (fun B2 σ2 H2 s2 a2 g2 E2 => qn B2 σ2 H2 s2 a2 (g.trans g2) E2) qr fun D' fs d B2 σ2 H2 s2 a2 g2 E2 er => qx D' fs d B2 σ2 H2 s2 a2 (g.trans g2) E2 er
theorem rsx_for {wi : TI} {ai : AI} {g : TG} {ga : AG} {is : List Nat} {t : TS} {ab : AStmX} (hi : RI K Δ wi ai) (hg : RG K Δ g ga is) (hb : RSX K Δ W t ab) :
    RSX K Δ W (tFor wi g t) (fun A X s => ai s fun xs s1 => ∃ W : Nat → AS → Prop, W 0 s1 ∧ (∀ i x s, xs[i]? = some x → W i s → ga x s fun s' => ab ⟨W (i + 1), A.rt⟩ X s') ∧ ∀ s, W xs.length s → A.nx s) := by
  intro C B σ H s D A X E h qn qr qx
  refine hi C B σ H s _ _ E h fun J xs H1 s1 a1 m1 E1 itd => ?_
  obtain ⟨Wa, w0, turn, done⟩ := a1
  refine ⟨fun i m σ H => m = xs.length - i ∧ i ≤ xs.length ∧ ∃ B' s', Wa i s' ∧ Go B H1 B' H ∧ En K Δ C B' σ H s', ⟨xs.length, (Nat.sub_zero _).symm, Nat.zero_le _, B, s1, w0, .refl _ _, E1⟩, ?_⟩
  rintro i m σ2 H2 ⟨rfl, hi, B2, s2, w2, g2, E2⟩
  by_cases hlt : i < xs.length
  · obtain ⟨go, yld⟩ := (itd _ _ g2 E2.st).1 i xs[i] (List.getElem?_eq_getElem hlt)
    refine .inr ⟨go, fun σ' H' => ∃ B' s', Wa (i + 1) s' ∧ Go B H1 B' H' ∧ En K Δ C B' σ' H' s', fun σ' H' z => ⟨xs.length - (i + 1), by omega, rfl, hlt, z⟩, fun x H' y => ?_⟩
    obtain ⟨sm, dx⟩ := yld x H' y
    refine hg C B2 σ2 H' s2 x _ _ _ (E2.same sm) dx (turn i xs[i] s2 (List.getElem?_eq_getElem hlt) w2) fun σ5 s5 a5 E5 _ => ?_
    exact hb C B2 σ5 H' s5 _ ⟨Wa (i + 1), A.rt⟩ X E5 a5 (fun B6 σ6 H6 s6 a6 g6 E6 => ⟨B6, s6, a6, (g2.trans (.of_mv (.of_same sm))).trans g6, E6⟩) qr
      fun D' fs d B6 σ6 H6 s6 a6 g6 E6 er => qx D' fs d B6 σ6 H6 s6 a6 (((Go.of_mv (m1.up E.sub)).trans (g2.trans (.of_mv (.of_same sm)))).trans g6) E6 er
  · have e : i = xs.length := by omega
    subst e
    exact .inl ⟨(itd _ _ g2 E2.st).2, qn B2 σ2 H2 s2 (done s2 w2) ((Go.of_mv (m1.up E.sub)).trans g2) E2⟩
theorem callX {R : RPX} {ta : TA} {aa : AA} (h1 : RA K Δ ta aa) {C : Cy} {B : List Addr} {σ : L2.St} {H : Hp} {s : AS} {Q : VK} {A : PyData → AS → Prop} {X : AX} (E : En K Δ C B σ H s) (h : aa s fun ds s1 => R ds (fun d => A d s1) fun D fs => X D fs s1)
    (q : ∀ v d H' s', A d s' → Mx Δ.w C.as H H' → En K Δ C B σ H' s' → Dv K H' B v d → Q v H') (qx : ∀ D fs d H' s', X D fs s' → Mx Δ.w C.as H H' → En K Δ C B σ H' s' → ErrAt K H' B d fs → W (.ref D) d σ H') : tCallS (spX K R) (WE W) ta σ H Q := by
  refine h1 C B σ H s _ _ E h fun vs ds H1 s1 a1 m1 E1 dv => ?_
  exact ⟨B, ds, _, _, E1.st, dv, a1, fun v d H' a sm dv' => q v d H' s1 a (m1.trans (.of_same sm)) (E1.same sm) dv', fun D fs d H' x sm er => qx D fs d H' s1 x (m1.trans (.of_same sm)) (E1.same sm) er⟩
theorem rsx_asgX {R : RPX} {ta : TA} {aa : AA} {g : TG} {ag : AG} {is : List Nat} (h1 : RA K Δ ta aa) (h2 : RG K Δ g ag is) : RSX K Δ W (tAsg (tCallS (spX K R) (WE W) ta) g) (fun A X s => aa s fun ds s1 => R ds (fun d => ag d s1 A.nx) fun D fs => X D fs s1) := by
  intro C B σ H s D A X E h qn qr qx
  refine callX (A := fun d s1 => ag d s1 A.nx) h1 E h (fun v d H1 s1 a1 m1 E1 dv => ?_) fun D fs d H' s' x m E' er => qx D fs d B σ H' s' x (.of_mv (m.up E.sub)) E' er
  exact h2 C B σ H1 s1 _ _ _ _ E1 dv a1 fun σ2 s2 a2 E2 _ => qn B σ2 H1 s2 a2 (.of_mv (m1.up E.sub)) E2
theorem rsx_dropX {R : RPX} {ta : TA} {aa : AA} (h1 : RA K Δ ta aa) : RSX K Δ W (tDrop (tCallS (spX K R) (WE W) ta)) (fun A X s => aa s fun ds s1 => R ds (fun _ => A.nx s1) fun D fs => X D fs s1) := by
  intro C B σ H s D A X E h qn qr qx
  exact callX (A := fun _ s1 => A.nx s1) h1 E h (fun v d H1 s1 a1 m1 E1 dv => qn B σ H1 s1 a1 (.of_mv (m1.up E.sub)) E1) fun D fs d H' s' x m E' er => qx D fs d B σ H' s' x (.of_mv (m.up E.sub)) E' er
theorem rsx_retX {R : RPX} {ta : TA} {aa : AA} (h1 : RA K Δ ta aa) : RSX K Δ W (tRet (tCallS (spX K R) (WE W) ta)) (fun A X s => aa s fun ds s1 => R ds (fun d => A.rt d s1) fun D fs => X D fs s1) := by
  intro C B σ H s D A X E h qn qr qx
  exact callX (A := fun d s1 => A.rt d s1) h1 E h (fun v d H1 s1 a1 m1 E1 dv => qr v d H1 s1 a1 ⟨Dv.anti E1.bc _ _ dv, E1.dk, E1.mw⟩) fun D fs d H' s' x m E' er => qx D fs d B σ H' s' x (.of_mv (m.up E.sub)) E' er
/-- raise E(x) -/
def tRaiseO (K : PySem.W.Frag) (Cc : Addr) (fld : Str) (ta : TA) (W : WX) : TS := fun _ σ H => tMkO Cc (spInit K fld) [] ta σ H fun cls d H' => W cls d σ H'
theorem kps_raise {X : Cx} {W : WX} {x fld : Str} {C : Addr} {e : Expr} {ta : TA} {p pos pos2 : Pos} {k : Nat} (K : PySem.W.Frag) (hc : X.calm = true) (tk : Takes X W) (T : ErrC X.prog X.w X.K X.mg X.base x fld C) (hr : Room k X.A) (hk : 2 ≤ k) (hg : Gl X x) (ha : PA X [e] ta)
    (hK : X.K = K := by rfl) (hdb : (x == ("__debug__" : Str)) = false := by decide) (he : starEach [e] X.env = (false, eval e X.env) :: starEach [] X.env := by rfl) (hpl : (backTo pos (starEach [] X.env)).any (·.1) = false := by rfl) :
    PS X (.Raise (some (.Call (.Name x p) [e] [] pos)) none pos2) (tRaiseO K C fld ta W) := by
  subst hK
  exact ps_raise hc tk (pmk_err T hr hk hg ha hdb he hpl)
theorem rsx_raise {Cc : Addr} {fld : Str} {ta : TA} {aa : AA} (T : OexC K Cc) (no : PySem.W.findIn K (.ref Cc) fld = some none) (h1 : RA K Δ ta aa) :
    RSX K Δ W (tRaiseO K Cc fld ta W) (fun A X s => aa s fun ds s1 => ∃ d, ds = [d] ∧ X Cc [(fld, d)] s1) := by
  intro C B σ H s D A X E h qn qr qx
  refine h1 C B σ H s _ _ E h fun vs ds H1 s1 a1 m1 E1 dv => ?_
  obtain ⟨d, e, x⟩ := a1
  subst e
  obtain ⟨v, ev, dvv⟩ := dv.one
  subst ev
  exact mk_bad (Q := fun cls d H' => W cls d σ H') T no fun dd H' sm nd hd => qx Cc _ (some dd) B σ H' s1 x ((Go.of_mv (m1.up E.sub)).trans (.of_mv (.of_same sm))) (E1.same sm) (.inr ⟨dd, [(fld, v)], rfl, hd, rfl, .cons (dvv.same sm) .nil⟩)
/-- try: body; except S: suite -/
def tTryO (K : PySem.W.Frag) (tb : WX → TS) (c : Value) (ts : Addr → Value → Option Addr → TS) (Wout : WX) : TS := fun D σ H => tb (wOnly K c ts Wout D) D σ H
theorem rs_tryOnly {S : Addr} {tb : WX → TS} {ab : AStmX} {ts : Addr → Value → Option Addr → TS} {as_ : AStm} {Wout : WX} (hb : ∀ W, RSX K Δ W (tb W) ab) (hs : ∀ a cls d, RS K Δ (ts a cls d) as_) :
    RS K Δ (tTryO K tb (.ref S) ts Wout) (fun A s => ab A (fun C _ s' => PySem.W.exmOne K (.ref C) (.ref S) = some true ∧ as_ A s') s) := by
  intro C B σ H s D A E h qn qr
  refine hb _ C B σ H s D A _ E h qn qr fun D' fs d B' σ' H' s' hx g E' er => ⟨true, hx.1, fun _ a ha => ?_, fun z => nomatch z⟩
  exact hs a _ d C B' σ' H' s' D A E' hx.2 (fun B2 σ2 H2 s2 a2 g2 E2 => qn B2 σ2 H2 s2 a2 (g.trans g2) E2) qr
theorem goX {R : RPX} {vs : List V} {H : Hp} {Q : VK} {E : XK} {N : List Str} {t : TS} {a : AStmX} (hw : Δ.w = false) (h : spX K R vs H Q E) (rs : RSX K Δ (fun cls d _ H' => E cls d H') t a)
    (hb : ∀ ds A X, R ds A X → a ⟨fun _ => A .none, fun d _ => A d⟩ (fun D fs _ => X D fs) (startP N ds)) : t { nx := fun _ H' => Q .non H', rt := Q } (L2.start N vs) H := by
  obtain ⟨B, ds, A, X, st, dv, r, q, qx⟩ := h
  refine rs ⟨0, [], B, H, st⟩ B _ H (startP N ds) _ ⟨fun _ => A .none, fun d _ => A d⟩ (fun D fs _ => X D fs) ?_ (hb ds A X r) (fun B' σ' H' s' a' g E' => q _ _ _ a' (mx_nil hw E'.mw) .non) (fun v d H' s' a' rt => q _ _ _ a' (mx_nil hw rt.mw) rt.dv)
    fun D' fs d B' σ' H' s' x g E' er => qx D' fs d H' x (mx_nil hw E'.mw) (er.anti E'.bc)
  refine ⟨?_, fun i d h => start_dat (N := N) dv _ h _, fun i h => ?_, fun i a D d fs h => absurd h (start_noe _ _ _ _ _), ⟨fun _ => 0, fun i es h ho => ?_, fun i j d1 d2 h _ ho => ?_⟩, st, fun a ha => absurd ha List.not_mem_nil, fun b hb => hb, fun k hk => ?_, .refl _ _⟩
  · show (vs.map some ++ List.replicate (N.length - vs.length) none).length = (ds.map Sl.dat ++ List.replicate (N.length - ds.length) Sl.free).length
    rw [List.length_append, List.length_append, List.length_map, List.length_map, List.length_replicate, List.length_replicate, dv.len]
  · rcases start_not _ h with z | ⟨d, z⟩ <;> first | (subst z; cases ho) | cases z
  · rcases start_not _ h with z | ⟨d, z⟩ <;> first | (subst z; cases ho) | cases z
  · rcases start_not _ h with z | ⟨d, z⟩ <;> first | (subst z; cases ho) | cases z
  · cases hk
theorem lenX {R : RPX} {vs : List V} {H : Hp} {Q : VK} {E : XK} {n : Nat} (h : spX K R vs H Q E) (hl : ∀ ds A X, R ds A X → ds.length = n) : vs.length = n := by
  obtain ⟨B, ds, A, X, st, dv, r, q⟩ := h
  rw [dv.len]
  exact hl ds A X r
end
/-- so many widths, one of the other -/
inductive WIter (m : Int) (tls : List (List (Int × Int))) (g : Int) : Nat → Int → Prop
  | zero : WIter m tls g 0 g
  | succ {t : Nat} {v w : Int} : WIter m tls g t v → IsWidth m tls v w → WIter m tls g (t + 1) w
theorem WIter.uniq {m g : Int} {tls : List (List (Int × Int))} {t : Nat} {a b : Int} (h : WIter m tls g t a) (h' : WIter m tls g t b) : a = b := by
  induction h generalizing b with
  | zero =>
    cases h'
    rfl
  | succ h1 w ih =>
    cases h' with
    | succ h2 w2 =>
      have := ih h2
      subst this
      exact w.uniq w2
theorem WIter.mono {m g g' : Int} {tls tls' : List (List (Int × Int))} (hg : g ≤ g') (hw : ∀ l l' w w', l ≤ l' → IsWidth m tls l w → IsWidth m tls' l' w' → w ≤ w') {t : Nat} {a b : Int} (h : WIter m tls g t a) (h' : WIter m tls' g' t b) : a ≤ b := by
  induction h generalizing b with
  | zero =>
    cases h'
    exact hg
  | succ h1 w ih =>
    cases h' with
    | succ h2 w2 => exact hw _ _ _ _ (ih h2) w w2
theorem eqv_nilT (l : List PyData) : PyData.eqv (.tuple l) (.tuple []) = l.isEmpty := by
  cases l <;> rfl
theorem toolD_inj {a b : List (Int × Int)} (h : toolD a = toolD b) : a = b := by
  have h : a.map pairD = b.map pairD := PyData.tuple.inj h
  have inj : ∀ (a b : List (Int × Int)), a.map pairD = b.map pairD → a = b := by
    intro a
    induction a with
    | nil =>
      intro b h
      cases b with
      | nil => rfl
      | cons => cases h
    | cons x r ih =>
      intro b h
      cases b with
      | nil => cases h
      | cons y s =>
        rw [List.map_cons, List.map_cons] at h
        obtain ⟨h1, h2⟩ := List.cons.inj h
        have h3 := PyData.tuple.inj h1
        obtain ⟨e1, e2⟩ := List.cons.inj h3
        have e1 := PyData.int.inj e1
        have e2 := PyData.int.inj (List.cons.inj e2).1
        have : x = y := Prod.ext e1 e2
        rw [this, ih s h2]
  exact inj _ _ h
section
variable {K : PySem.W.Frag} {Δ : DK}
theorem re_revL {te : TE} {ae : AE} (h1 : RE K Δ te ae) : RE K Δ (tRevL K te) (fun s A => ae s fun d s1 => ∃ ds, d = .list ds ∧ A (.list ds.reverse) s1) := by
  intro C B σ H s Q A E h q
  refine h1 C B σ H s _ _ E h fun v d H1 s1 a1 m1 E1 dv => ?_
  obtain ⟨ds, ed, a⟩ := a1
  subst ed
  obtain ⟨p, us, ep, hp, _, hd⟩ := dv.lstI
  subst ep
  refine ⟨p, us, rfl, SqL.of hp, fun l nl => ?_⟩
  obtain ⟨sm, dv⟩ := new_lst E1 nl hd.back
  exact q _ _ _ _ a (m1.trans (.of_same sm)) (E1.same sm) dv
end
section
variable {K : PySem.W.Frag} {Δ : DK}
theorem re_dnew : RE K Δ tDNewK (aC (.dict [])) := fun C B σ H s Q A E h q p np => by
  have sm := same_upd (o := .dK []) np
  exact q _ _ _ s h (.of_same sm) (E.same sm) (.dic upd_same (E.newB np))
theorem re_dis1 {k : Str} {i : Int} : RE K Δ (tDisp [(tC (.str k), tC (.int i))]) (aC (.dict [(.str k, .int i)])) := fun C B σ H s Q A E h q p np => by
  have sm : Same H (upd (upd H p (.dK [])) p (.dK [(.inr k, .int i)])) := fun b o hb => by
    have n : b ≠ p := fun z => by rw [z, np] at hb; cases hb
    rw [upd_ne n, upd_ne n]
    exact hb
  exact ⟨upd_same, [(.inr k, .int i)], rfl, Nat.le_of_ble_eq_true rfl, q _ _ _ s h (.of_same sm) (E.same sm) (.dcS upd_same (E.newB np))⟩
end
structure Lg (ds : List PyData) (w e : Nat) : Prop where
  sh : ∀ d ∈ ds, d.showable = true
  dp : ∀ d ∈ ds, d.depth ≤ e
  ln : (ds.map fun d => d.shown.length + 2).sum ≤ w
theorem piled_eq : ∀ ds : List PyData, piled (PyData.shownAll ds) = (ds.map fun d => d.shown.length + 2).sum
  | [] => rfl
  | d :: ds => by
    have := piled_eq ds
    unfold piled at *
    rw [PyData.shownAll, List.map_cons, List.map_cons, List.sum_cons, List.sum_cons, this]
theorem Lg.mono {ds : List PyData} {w e w' e' : Nat} (h : Lg ds w e) (h1 : w ≤ w') (h2 : e ≤ e') : Lg ds w' e' := ⟨h.sh, fun d hd => Nat.le_trans (h.dp d hd) h2, Nat.le_trans h.ln h1⟩
theorem Lg.nil {e : Nat} : Lg [] 0 e := ⟨fun d h => (List.not_mem_nil h).elim, fun d h => (List.not_mem_nil h).elim, Nat.le_refl 0⟩
theorem Lg.cons {d : PyData} {ds : List PyData} {n w e : Nat} (h : Neat d n e) (r : Lg ds w e) : Lg (d :: ds) (n + 2 + w) e := by
  refine ⟨fun x hx => ?_, fun x hx => ?_, ?_⟩
  · rcases List.mem_cons.mp hx with z | z
    · rw [z]; exact h.sh
    · exact r.sh x z
  · rcases List.mem_cons.mp hx with z | z
    · rw [z]; exact h.dp
    · exact r.dp x z
  · rw [List.map_cons, List.sum_cons]
    have := h.ln
    have := r.ln
    omega
theorem Lg.app {a b : List PyData} {w v e : Nat} (h : Lg a w e) (r : Lg b v e) : Lg (a ++ b) (w + v) e := by
  refine ⟨fun x hx => (List.mem_append.mp hx).elim (h.sh x) (r.sh x), fun x hx => (List.mem_append.mp hx).elim (h.dp x) (r.dp x), ?_⟩
  rw [List.map_append, List.sum_append]
  have := h.ln
  have := r.ln
  omega
theorem Lg.left {a b : List PyData} {w e : Nat} (h : Lg (a ++ b) w e) : Lg a w e := by
  refine ⟨fun x hx => h.sh x (List.mem_append_left _ hx), fun x hx => h.dp x (List.mem_append_left _ hx), ?_⟩
  have := h.ln
  rw [List.map_append, List.sum_append] at this
  omega
theorem Lg.right {a b : List PyData} {w e : Nat} (h : Lg (a ++ b) w e) : Lg b w e := by
  refine ⟨fun x hx => h.sh x (List.mem_append_right _ hx), fun x hx => h.dp x (List.mem_append_right _ hx), ?_⟩
  have := h.ln
  rw [List.map_append, List.sum_append] at this
  omega
theorem Lg.take {a : List PyData} {w e : Nat} (h : Lg a w e) (n : Nat) : Lg (a.take n) w e := Lg.left (b := a.drop n) (by rw [List.take_append_drop]; exact h)
theorem Lg.drop {a : List PyData} {w e : Nat} (h : Lg a w e) (n : Nat) : Lg (a.drop n) w e := Lg.right (a := a.take n) (by rw [List.take_append_drop]; exact h)
theorem Lg.rev {a : List PyData} {w e : Nat} (h : Lg a w e) : Lg a.reverse w e := by
  refine ⟨fun x hx => h.sh x (List.mem_reverse.mp hx), fun x hx => h.dp x (List.mem_reverse.mp hx), ?_⟩
  rw [List.map_reverse, List.sum_reverse]
  exact h.ln
theorem Lg.tup {a : List PyData} {w e : Nat} (h : Lg a w e) : Neat (.tuple a) (w + 3) (e + 1) := by
  refine ⟨showableAll_of fun d hd => h.sh d hd, ?_, ?_⟩
  · rw [PyData.depth]
    have := depthAll_of (ds := a) (e := e) fun d hd => h.dp d hd
    omega
  · rw [PyData.shown]
    exact Nat.le_trans (tupleText_le _) (Nat.add_le_add_right (by rw [piled_eq]; exact h.ln) 3)
theorem Lg.lst {a : List PyData} {w e : Nat} (h : Lg a w e) : Neat (.list a) (w + 2) (e + 1) := by
  refine ⟨showableAll_of fun d hd => h.sh d hd, ?_, ?_⟩
  · rw [PyData.depth]
    have := depthAll_of (ds := a) (e := e) fun d hd => h.dp d hd
    omega
  · rw [PyData.shown]
    exact Nat.le_trans (listText_le _) (Nat.add_le_add_right (by rw [piled_eq]; exact h.ln) 2)
theorem nt_int {i : Int} (h : i.natAbs < 10 ^ 40) {e : Nat} : Neat (.int i) 1921 e := (fine_int (small_int h)).neat.mono (Nat.le_refl _) (Nat.zero_le _)
theorem nt_bool {b : Bool} {e : Nat} : Neat (.bool b) 5 e := ⟨rfl, Nat.zero_le _, by cases b <;> decide⟩
theorem nt_none {e : Nat} : Neat .none 4 e := ⟨rfl, Nat.zero_le _, by decide⟩
theorem nt_dict : Neat (.dict []) 2 1 := ⟨rfl, by decide, by decide⟩
theorem Lg.of {ds : List PyData} {n e : Nat} (h : ∀ d ∈ ds, Neat d n e) : Lg ds (ds.length * (n + 2)) e := by
  refine ⟨fun d hd => (h d hd).sh, fun d hd => (h d hd).dp, ?_⟩
  rw [← piled_eq]
  exact piled_of fun d hd => (h d hd).ln
theorem Lg.ints {ns : List Int} (h : ∀ n ∈ ns, n.natAbs < 10 ^ 40) {e : Nat} : Lg (ns.map PyData.int) (ns.length * 1923) e := by
  have := Lg.of (ds := ns.map PyData.int) (n := 1921) (e := e) fun d hd => by
    obtain ⟨n, hn, z⟩ := List.mem_map.mp hd
    rw [← z]
    exact nt_int (h n hn)
  rwa [List.length_map] at this
/-- an odd value of the list -/
theorem pick_at {xs : List PyData} {P : PyData → Prop} (hx : ∀ d ∈ xs, P d) {i : Int} (h0 : 0 ≤ i) (h1 : i < ((xs.length : Nat) : Int)) : ∃ d, atI xs i = some d ∧ P d := by
  obtain ⟨n, e⟩ : ∃ n : Nat, i = (n : Int) := ⟨i.toNat, by omega⟩
  subst e
  have hn : n < xs.length := by omega
  exact ⟨xs[n], atI_nat (List.getElem?_eq_getElem hn), hx _ (List.getElem_mem hn)⟩
theorem Lg.cut {a : List PyData} {w e : Nat} (h : Lg a w e) (lo hi : Option Int) : Lg (cutD a lo hi) w e := (h.drop _).take _
theorem cut_len (a : List PyData) (lo hi : Option Int) : (cutD a lo hi).length ≤ a.length := by
  unfold cutD
  rw [List.length_take, List.length_drop]
  omega
mutual
def wt : PyData → Nat
  | .none => 4
  | .bool _ => 5
  | .int _ => 1921
  | .str x => (reprText x).length
  | .list ds => wtAll ds + 2
  | .tuple ds => wtAll ds + 3
  | .dict _ => 2
def wtAll : List PyData → Nat
  | [] => 0
  | d :: ds => wt d + 2 + wtAll ds
end
mutual
/-- what may be shown -/
def okD : PyData → Bool
  | .none => true
  | .bool _ => true
  | .int i => decide (i.natAbs < 10 ^ 40)
  | .str _ => true
  | .list ds => okAll ds
  | .tuple ds => okAll ds
  | .dict kvs => kvs.isEmpty
def okAll : List PyData → Bool
  | [] => true
  | d :: ds => okD d && okAll ds
end
mutual
/-- tuples of tuples, numbers and texts -/
def okT : PyData → Bool
  | .int i => decide (i.natAbs < 10 ^ 39)
  | .str x => (PyData.str x).canLay0
  | .tuple ds => okTAll ds && decide (ds.length ≤ 300)
  | _ => false
def okTAll : List PyData → Bool
  | [] => true
  | d :: ds => okT d && okTAll ds
end
theorem okAll_iff {ds : List PyData} : okAll ds = true ↔ ∀ d ∈ ds, okD d = true := by
  induction ds with
  | nil => exact ⟨fun _ d h => (List.not_mem_nil h).elim, fun _ => rfl⟩
  | cons x r ih =>
    rw [okAll, Bool.and_eq_true, ih, List.forall_mem_cons]
theorem wtAll_app (a b : List PyData) : wtAll (a ++ b) = wtAll a + wtAll b := by
  induction a with
  | nil => rw [List.nil_append, wtAll, Nat.zero_add]
  | cons x r ih => rw [List.cons_append, wtAll, wtAll, ih]; omega
theorem wtAll_rev (a : List PyData) : wtAll a.reverse = wtAll a := by
  induction a with
  | nil => rfl
  | cons x r ih => rw [List.reverse_cons, wtAll_app, ih, wtAll, wtAll, wtAll]; omega
theorem wtAll_take (a : List PyData) (n : Nat) : wtAll (a.take n) ≤ wtAll a := by
  have := wtAll_app (a.take n) (a.drop n)
  rw [List.take_append_drop] at this
  omega
theorem wtAll_drop (a : List PyData) (n : Nat) : wtAll (a.drop n) ≤ wtAll a := by
  have := wtAll_app (a.take n) (a.drop n)
  rw [List.take_append_drop] at this
  omega
theorem wtAll_cut (a : List PyData) (lo hi : Option Int) : wtAll (cutD a lo hi) ≤ wtAll a := Nat.le_trans (wtAll_take _ _) (wtAll_drop _ _)
theorem cut_mem {a : List PyData} {lo hi : Option Int} {x : PyData} (h : x ∈ cutD a lo hi) : x ∈ a := List.mem_of_mem_drop (List.mem_of_mem_take h)
mutual
theorem ok_neat : ∀ d : PyData, okD d = true → Neat d (wt d) d.depth
  | .none, _ => nt_none
  | .bool b, _ => nt_bool
  | .int i, h => nt_int (of_decide_eq_true h)
  | .str x, _ => ⟨rfl, Nat.le_refl _, by rw [PyData.shown_str, wt]; exact Nat.le_refl _⟩
  | .list ds, h => by
    have := Lg.lst (ok_lg ds h)
    exact this.mono (by rw [wt]; exact Nat.le_refl _) (by rw [PyData.depth]; exact Nat.le_refl _)
  | .tuple ds, h => by
    have := Lg.tup (ok_lg ds h)
    exact this.mono (by rw [wt]; exact Nat.le_refl _) (by rw [PyData.depth]; exact Nat.le_refl _)
  | .dict [], _ => nt_dict.mono (by rw [wt]; exact Nat.le_refl _) (by decide)
theorem ok_lg : ∀ ds : List PyData, okAll ds = true → Lg ds (wtAll ds) (PyData.depthAll ds)
  | [], _ => by
    rw [wtAll]
    exact .nil
  | d :: ds, h => by
    rw [okAll, Bool.and_eq_true] at h
    have h1 := ok_neat d h.1
    have h2 := ok_lg ds h.2
    have e : PyData.depthAll (d :: ds) = max d.depth (PyData.depthAll ds) := by rw [PyData.depthAll]
    rw [wtAll, e]
    exact Lg.cons (h1.mono (Nat.le_refl _) (Nat.le_max_left _ _)) (h2.mono (Nat.le_refl _) (Nat.le_max_right _ _))
end
mutual
theorem okT_okD : ∀ d : PyData, okT d = true → okD d = true
  | .int i, h => by
    have h := of_decide_eq_true h
    refine decide_eq_true (Nat.lt_of_lt_of_le h (by decide))
  | .str x, _ => rfl
  | .tuple ds, h => by
    rw [okT, Bool.and_eq_true] at h
    exact okTAll_okAll ds h.1
theorem okTAll_okAll : ∀ ds : List PyData, okTAll ds = true → okAll ds = true
  | [], _ => rfl
  | d :: ds, h => by
    rw [okTAll, Bool.and_eq_true] at h
    rw [okAll, okT_okD d h.1, okTAll_okAll ds h.2]
    rfl
end
/-- a good result: may be shown, so heavy, so deep -/
structure Gd (d : PyData) (w e : Nat) : Prop where
  ok : okD d = true
  w : wt d ≤ w
  dp : d.depth ≤ e
theorem Gd.neat {d : PyData} {w e : Nat} (h : Gd d w e) : Neat d w e := (ok_neat d h.ok).mono h.w h.dp
theorem Gd.mono {d : PyData} {w e w' e' : Nat} (h : Gd d w e) (h1 : w ≤ w') (h2 : e ≤ e') : Gd d w' e' := ⟨h.ok, Nat.le_trans h.w h1, Nat.le_trans h.dp h2⟩
/-- lists of good things -/
structure Gs (ds : List PyData) (w e : Nat) : Prop where
  ok : ∀ d ∈ ds, okD d = true
  w : wtAll ds ≤ w
  dp : ∀ d ∈ ds, d.depth ≤ e
theorem Gs.app {a b : List PyData} {w v e : Nat} (h : Gs a w e) (r : Gs b v e) : Gs (a ++ b) (w + v) e :=
  ⟨fun x hx => (List.mem_append.mp hx).elim (h.ok x) (r.ok x), by rw [wtAll_app]; exact Nat.add_le_add h.w r.w, fun x hx => (List.mem_append.mp hx).elim (h.dp x) (r.dp x)⟩
theorem Gs.one {d : PyData} {w e : Nat} (h : Gd d w e) : Gs [d] (w + 2) e :=
  ⟨fun x hx => by rw [List.mem_singleton.mp hx]; exact h.ok, by rw [wtAll, wtAll]; have := h.w; omega, fun x hx => by rw [List.mem_singleton.mp hx]; exact h.dp⟩
theorem Gs.cut {a : List PyData} {w e : Nat} (h : Gs a w e) (lo hi : Option Int) : Gs (cutD a lo hi) w e := ⟨fun x hx => h.ok x (cut_mem hx), Nat.le_trans (wtAll_cut _ _ _) h.w, fun x hx => h.dp x (cut_mem hx)⟩
theorem Gs.rev {a : List PyData} {w e : Nat} (h : Gs a w e) : Gs a.reverse w e := ⟨fun x hx => h.ok x (List.mem_reverse.mp hx), by rw [wtAll_rev]; exact h.w, fun x hx => h.dp x (List.mem_reverse.mp hx)⟩
theorem Gs.tup {a : List PyData} {w e : Nat} (h : Gs a w e) : Gd (.tuple a) (w + 3) (e + 1) :=
  ⟨by rw [okD]; exact okAll_iff.mpr h.ok, by rw [wt]; exact Nat.add_le_add_right h.w 3, by rw [PyData.depth]; exact Nat.add_le_add_right (depthAll_of h.dp) 1⟩
theorem Gs.lst {a : List PyData} {w e : Nat} (h : Gs a w e) : Gd (.list a) (w + 2) (e + 1) :=
  ⟨by rw [okD]; exact okAll_iff.mpr h.ok, by rw [wt]; exact Nat.add_le_add_right h.w 2, by rw [PyData.depth]; exact Nat.add_le_add_right (depthAll_of h.dp) 1⟩
theorem gd_int {i : Int} (h : i.natAbs < 10 ^ 40) {e : Nat} : Gd (.int i) 1921 e := ⟨decide_eq_true h, Nat.le_refl _, Nat.zero_le _⟩
def RNev : RKd := fun _ _ _ => False
theorem rc_strI {K : PySem.W.Frag} {Δ : DK} : RC' K Δ (fun xs H Q => ∃ i : Int, xs = [.int i] ∧ i.natAbs.log2 < 1920 ∧ Q (.str (toString i)) H) (fun ds s A => ∃ i : Int, ds = [.int i] ∧ i.natAbs.log2 < 1920 ∧ A (.str (toString i)) s) := by
  intro C B σ H s vs ds Q A E dv h q
  obtain ⟨i, e, hi, a⟩ := h
  subst e
  obtain ⟨v, ev, d1⟩ := dv.one
  cases d1
  exact ⟨i, ev, hi, q _ _ _ a (Same.refl _) (.str _)⟩
theorem log_small {i : Int} (h : i.natAbs < 10 ^ 40) : i.natAbs.log2 < 1920 := of_decide_eq_true (by
  have := (nt_int (e := 0) h).sh
  rwa [PyData.showable] at this)
theorem at_len {ds : List PyData} {t : Int} (h0 : 0 ≤ t) (h1 : t < ((ds.length : Nat) : Int)) : ∃ x, atI ds t = some x ∧ x ∈ ds := by
  obtain ⟨x, h, hx⟩ := pick_at (xs := ds) (P := fun x => x ∈ ds) (fun d hd => hd) h0 h1
  exact ⟨x, h, hx⟩
theorem Gs.mono {ds : List PyData} {w e w' e' : Nat} (h : Gs ds w e) (h1 : w ≤ w') (h2 : e ≤ e') : Gs ds w' e' := ⟨h.ok, Nat.le_trans h.w h1, fun d hd => Nat.le_trans (h.dp d hd) h2⟩
/-- pushes, or what looks like them -/
structure Pl (ds : List PyData) (n : Nat) : Prop where
  it : ∀ d ∈ ds, okT d = true ∧ wt d ≤ 3849 ∧ d.depth ≤ 1
  len : ds.length ≤ n
def pushX (a b : Int) : PyData := .tuple [.int a, .int b]
theorem pl_push {a b : Int} (ha : a.natAbs < 10 ^ 39) (hb : b.natAbs < 10 ^ 39) : okT (pushX a b) = true ∧ wt (pushX a b) ≤ 3849 ∧ (pushX a b).depth ≤ 1 := by
  refine ⟨?_, Nat.le_refl _, Nat.le_refl _⟩
  show (((decide (a.natAbs < 10 ^ 39)) && (decide (b.natAbs < 10 ^ 39) && true)) && decide (2 ≤ 300)) = true
  rw [decide_eq_true ha, decide_eq_true hb]
  rfl
theorem Pl.one {a b : Int} (ha : a.natAbs < 10 ^ 39) (hb : b.natAbs < 10 ^ 39) : Pl [pushX a b] 1 := ⟨fun d hd => by rw [List.mem_singleton.mp hd]; exact pl_push ha hb, Nat.le_refl _⟩
theorem Pl.app {a b : List PyData} {n m : Nat} (h : Pl a n) (r : Pl b m) : Pl (a ++ b) (n + m) := ⟨fun d hd => (List.mem_append.mp hd).elim (h.it d) (r.it d), by rw [List.length_append]; exact Nat.add_le_add h.len r.len⟩
theorem Pl.cut {a : List PyData} {n : Nat} (h : Pl a n) (lo hi : Option Int) : Pl (cutD a lo hi) n := ⟨fun d hd => h.it d (cut_mem hd), Nat.le_trans (cut_len _ _ _) h.len⟩
theorem Pl.map {α : Type} {l : List α} {f g : α → Int} {n : Nat} (hl : l.length ≤ n) (h : ∀ x ∈ l, (f x).natAbs < 10 ^ 39 ∧ (g x).natAbs < 10 ^ 39) : Pl (l.map fun x => pushX (f x) (g x)) n := by
  refine ⟨fun d hd => ?_, by rw [List.length_map]; exact hl⟩
  obtain ⟨x, hx, z⟩ := List.mem_map.mp hd
  rw [← z]
  exact pl_push (h x hx).1 (h x hx).2
theorem Pl.wtA {ds : List PyData} {n : Nat} (h : Pl ds n) : wtAll ds ≤ n * 3851 := by
  have : ∀ l : List PyData, (∀ d ∈ l, wt d ≤ 3849) → wtAll l ≤ l.length * 3851 := by
    intro l
    induction l with
    | nil => intro _; exact Nat.le_refl _
    | cons x r ih =>
      intro q
      rw [wtAll, List.length_cons]
      have := ih fun d hd => q d (List.mem_cons_of_mem _ hd)
      have := q x List.mem_cons_self
      omega
  have h1 := this ds fun d hd => (h.it d hd).2.1
  have := h.len
  have : ds.length * 3851 ≤ n * 3851 := Nat.mul_le_mul_right _ this
  omega
theorem Pl.gs {ds : List PyData} {n : Nat} (h : Pl ds n) : Gs ds (n * 3851) 5 := ⟨fun d hd => okT_okD d (h.it d hd).1, h.wtA, fun d hd => Nat.le_trans (h.it d hd).2.2 (by decide)⟩
theorem Pl.and {ds : List PyData} {n : Nat} (h : Pl ds n) (hn : n ≤ 110) {x : PyData} (g : Gd x 20000 5) : Gd (.tuple (ds ++ [x])) 500000 6 := (Gs.tup (h.gs.app (Gs.one g))).mono (by omega) (by decide)
theorem Gs.map {α : Type} {l : List α} {f : α → PyData} {w e n : Nat} (hl : l.length ≤ n) (h : ∀ x ∈ l, Gd (f x) w e) : Gs (l.map f) (n * (w + 2)) e := by
  refine ⟨fun d hd => ?_, ?_, fun d hd => ?_⟩
  · obtain ⟨x, hx, z⟩ := List.mem_map.mp hd
    rw [← z]; exact (h x hx).ok
  · have : ∀ l : List α, (∀ x ∈ l, Gd (f x) w e) → wtAll (l.map f) ≤ l.length * (w + 2) := by
      intro l
      induction l with
      | nil => intro _; rw [List.map_nil, wtAll]; exact Nat.zero_le _
      | cons x r ih =>
        intro q
        rw [List.map_cons, wtAll, List.length_cons, Nat.succ_mul]
        have := ih fun d hd => q d (List.mem_cons_of_mem _ hd)
        have := (q x List.mem_cons_self).w
        omega
    exact Nat.le_trans (this l h) (Nat.mul_le_mul_right _ hl)
  · obtain ⟨x, hx, z⟩ := List.mem_map.mp hd
    rw [← z]; exact (h x hx).dp
section
variable {K : PySem.W.Frag} {Δ : DK} {C : Cy} {B : List Addr} {σ : L2.St} {H : Hp} {s : AS}
theorem En.putX (E : En K Δ C B σ H s) {i : Nat} {v : Option V} {x : Sl} (hd : ∀ d, x ≠ .dat d) (hk : x ≠ .deck) (ho : x.isOwn = false) (hx : ∀ a D d fs, x = .exc a D d fs → v = some (.ref a) ∧ ErrAt K H B d fs) : En K Δ C B (σ.set i v) H (s.put i x) := by
  refine ⟨by show _ = (s.env.set i _).length; rw [List.length_set, List.length_set]; exact E.len, fun j e z => ?_, fun j z => ?_, fun j a D d fs z => ?_, ?_, E.st, E.sub, E.bc, E.dk, E.mw⟩
  · rcases set_get z with ⟨_, h2, _⟩ | ⟨h1, h2⟩
    · exact absurd h2.symm (hd e)
    · obtain ⟨u, q1, q2⟩ := E.sl j e h2
      exact ⟨u, by rw [List.getElem?_set_ne (fun z => h1 z.symm)]; exact q1, q2⟩
  · rcases set_get z with ⟨_, h2, _⟩ | ⟨h1, h2⟩
    · exact absurd h2.symm hk
    · rw [List.getElem?_set_ne (fun z => h1 z.symm)]
      exact E.dr j h2
  · rcases set_get z with ⟨h1, h2, h3⟩ | ⟨h1, h2⟩
    · obtain ⟨ev, er⟩ := hx a D d fs h2.symm
      subst h1 ev
      exact ⟨List.getElem?_set_self (by rw [E.len]; exact h3), er⟩
    · rw [List.getElem?_set_ne (fun z => h1 z.symm)]
      exact E.ex j a D d fs h2
  · obtain ⟨ad, h1, h2⟩ := E.ow
    refine ⟨ad, fun j y z oy => ?_, fun j l y y' z1 z2 o1 o2 ne => ?_⟩
    · rcases set_get z with ⟨_, q2, _⟩ | ⟨q1, q2⟩
      · rw [q2, ho] at oy
        cases oy
      · rw [List.getElem?_set_ne (fun z => q1 z.symm)]
        exact h1 j y q2 oy
    · rcases set_get z1 with ⟨_, q2, _⟩ | ⟨q1, q2⟩
      · rw [q2, ho] at o1
        cases o1
      · rcases set_get z2 with ⟨_, p2, _⟩ | ⟨p1, p2⟩
        · rw [p2, ho] at o2
          cases o2
        · exact h2 j l y y' q2 p2 o1 o2 ne
theorem En.putE (E : En K Δ C B σ H s) {i : Nat} {a D : Addr} {d : Option Addr} {fs : List (Str × PyData)} (er : ErrAt K H B d fs) : En K Δ C B (σ.set i (some (.ref a))) H (s.put i (.exc a D d fs)) :=
  E.putX (fun _ z => by cases z) (fun z => by cases z) rfl fun a' D' d' fs' z => by
    cases z
    exact ⟨rfl, er⟩
theorem En.free (E : En K Δ C B σ H s) (i : Nat) : En K Δ C B (σ.set i none) H (s.put i .free) :=
  E.putX (fun _ z => by cases z) (fun z => by cases z) rfl fun a' D' d' fs' z => by cases z
end
/-- try: body; except S as n: suite -/
def tTryA (K : PySem.W.Frag) (tb : WX → TS) (c : Value) (i : Nat) (ts : Addr → Value → Option Addr → TS) (Wout : WX) : TS := fun D σ H => tb (wAs K c i ts Wout D) D σ H
theorem kps_tryA {X : Cx} {x n : Str} {c : Value} {i : Nat} {body suite : List Stmt} {b₀ : Stmt} {np pos pos' : Pos} {tb : WX → TS} {ts : Addr → Value → Option Addr → TS} {Wout : WX} (K : PySem.W.Frag) (hs : X.stack = X.env :: X.outer) (hf : X.env.frame = some X.env.locals) (hN : X.N.Nodup) (hi : X.N[i]? = some n) (hln : X.env.kindOf n = some .local) (hc : Names X x c) (tk : Takes X Wout)
    (hb : ∀ (W : WX) (pn : List (Addr × Obj)) (xe : Value → Shared → Prop), Takes (X.tr pn xe) W → PassesOwn (model X.prog X.w) X.A X.env xe → PSs (X.tr pn xe) body (tb W))
    (hsu : ∀ (a : Addr) (oe : Obj) (cls : Value) (d : Option Addr) (pn : List (Addr × Obj)), Zc cls d oe → (∃ vs, oe.data = .fields vs) → PSs (X.suite a ((a, oe) :: pn)) (b₀ :: suite) (ts a cls d)) (hK : X.K = K := by rfl) :
    PS X (.Try body [.ExceptHandler (some (.Name x np)) (some n) (b₀ :: suite) pos'] [] [] pos) (tTryA K tb c i ts Wout) := by
  subst hK
  exact ps_try_as hs hf hN hi hln hc tk hb hsu
section
variable {K : PySem.W.Frag} {Δ : DK} {W : WX}
theorem rs_tryA {S : Addr} {i : Nat} {tb : WX → TS} {ab : AStmX} {ts : Addr → Value → Option Addr → TS} {as_ : Addr → Addr → Option Addr → AStm} {Wout : WX} (hb : ∀ W, RSX K Δ W (tb W) ab) (hs : ∀ a D d, RS K Δ (ts a (.ref D) d) (as_ a D d)) :
    RS K Δ (tTryA K tb (.ref S) i ts Wout) (fun A s => ab A (fun D fs s' => PySem.W.exmOne K (.ref D) (.ref S) = some true ∧ ∀ a d, as_ a D d ⟨fun s2 => A.nx (s2.put i .free), A.rt⟩ (s'.put i (.exc a D d fs))) s) := by
  intro C B σ H s D A E h qn qr
  refine hb _ C B σ H s D A _ E h qn qr fun D' fs d B' σ' H' s' hx g E' er => ⟨true, hx.1, fun _ a ha => ?_, fun z => nomatch z⟩
  exact hs a D' d C B' _ H' _ _ _ (E'.putE er) (hx.2 a d) (fun B2 σ2 H2 s2 a2 g2 E2 => qn B2 _ H2 _ a2 (g.trans g2) (E2.free i)) qr
/-- isinstance(e, c) -/
theorem re_isX {i : Nat} {a D : Addr} {d : Option Addr} {c : V} : RE K Δ (tCB (rIsX K a (.ref D) d) (tCons (tVar i) (tCons (tC c) tNil))) (fun s A => ∃ fs cv b, s.env[i]? = some (.exc a D d fs) ∧ fs ≠ [] ∧ ExcC K D ∧ ClsV c cv ∧ PySem.W.kitOne K (.ref D) cv = some b ∧ A (.bool b) s) := by
  intro C B σ H s Q A E h q
  obtain ⟨fs, cv, b, hi, hne, ec, hc, hk, a⟩ := h
  obtain ⟨h1, er⟩ := E.ex i _ _ _ _ hi
  rcases er with ⟨z, _⟩ | ⟨dd, us, e1, e2, e3, e4⟩
  · exact absurd z hne
  · exact ⟨_, h1, D, dd, us, c, cv, b, rfl, e1, ec, rfl, e2, hc, hk, q _ _ _ _ a (.refl _ _) E (.bl _)⟩
def RCl (ta : TA) (cs : List V) : Prop := ∀ σ H (Q : List V → Hp → Prop), Q cs H → ta σ H Q
theorem rcl_nil : RCl tNil [] := fun _ _ _ h => h
theorem rcl_cons {c : V} {ta : TA} {cs : List V} (h : RCl ta cs) : RCl (tCons (tC c) ta) (c :: cs) := fun σ H Q q => h σ H _ q
/-- isinstance(e, (c, ..)) -/
theorem re_isXT {i : Nat} {a D : Addr} {d : Option Addr} {ta : TA} {cs : List V} (hc : RCl ta cs) : RE K Δ (tCB (rIsXT K a (.ref D) d) (tCons (tVar i) (tCons (tTup ta) tNil))) (fun s A => ∃ fs us b, s.env[i]? = some (.exc a D d fs) ∧ fs ≠ [] ∧ cs.length ≤ 1000 ∧ ExcC K D ∧ Paired ClsV cs us ∧ PySem.W.kitAny K (.ref D) us = some b ∧ A (.bool b) s) := by
  intro C B σ H s Q A E h q
  obtain ⟨fs, us, b, hi, hne, hl, ec, hp, hk, a⟩ := h
  obtain ⟨h1, er⟩ := E.ex i _ _ _ _ hi
  rcases er with ⟨z, _⟩ | ⟨dd, vs, e1, e2, e3, e4⟩
  · exact absurd z hne
  · refine ⟨_, h1, hc σ H _ ⟨Nat.le_of_lt (small1000 hl), fun p np => ?_⟩⟩
    have sm := same_upd (o := .tup cs) np
    exact ⟨D, dd, p, vs, cs, us, b, rfl, e1, ec, rfl, sm _ _ e2, upd_same, hp, hk, q _ _ _ _ a (.of_same sm) (E.same sm) (.bl _)⟩
theorem look_data {H : Hp} {B : List Addr} {f : Str} {d : PyData} : ∀ {us : List (Str × V)} {fs : List (Str × PyData)}, us.map (·.1) = fs.map (·.1) → DvAll K H B (us.map (·.2)) (fs.map (·.2)) → fs.lookup f = some d → ∃ v, us.lookup f = some v ∧ Dv K H B v d
  | [], [], _, _, h => by cases h
  | [], _ :: _, h, _, _ => by cases h
  | _ :: _, [], h, _, _ => by cases h
  | (g, v) :: us, (g', e) :: fs, h, hd, hl => by
    obtain ⟨h1, h2⟩ := List.cons.inj h
    have h1 : g = g' := h1
    subst h1
    cases hd with
    | cons d1 d2 =>
      rw [List.lookup_cons] at hl ⊢
      by_cases z : (f == g) = true
      · rw [z] at hl ⊢
        cases hl
        exact ⟨_, rfl, d1⟩
      · rw [(Bool.not_eq_true _).mp z] at hl ⊢
        exact look_data h2 d2 hl
/-- e.f -/
theorem re_xf {i : Nat} {a D C0 : Addr} {d : Option Addr} {f : Str} : RE K Δ (tXf a (.ref D) d C0 f (tVar i)) (fun s A => ∃ fs x, s.env[i]? = some (.exc a D d fs) ∧ D = C0 ∧ fs.lookup f = some x ∧ A x s) := by
  intro C B σ H s Q A E h q
  obtain ⟨fs, x, hi, eD, hl, a⟩ := h
  subst eD
  obtain ⟨h1, er⟩ := E.ex i _ _ _ _ hi
  rcases er with ⟨z, _⟩ | ⟨dd, us, e1, e2, e3, e4⟩
  · rw [z] at hl
    cases hl
  · obtain ⟨v, hv, dv⟩ := look_data e3 e4 hl
    exact ⟨_, h1, rfl, rfl, dd, us, v, e1, e2, hv, q _ _ _ _ a (.refl _ _) E dv⟩
end
section
variable {K : PySem.W.Frag} {Δ : DK} {W : WX}
/-- a def whose first argument is a def -/
def spV (K : PySem.W.Frag) (F : Addr → Prop) (R : RP) : Sp := fun vs H Q _ => ∃ (f : Addr) (vs' : List V) (B : List Addr) (ds : List PyData) (A : PyData → Prop), vs = .ref f :: vs' ∧ F f ∧ Stands B H ∧ DvAll K H B vs' ds ∧ R ds A ∧ ∀ v d H', A d → Same H H' → Dv K H' B v d → Q v H'
theorem lenV {F : Addr → Prop} {R : RP} {vs : List V} {H : Hp} {Q : VK} {E : XK} {n : Nat} (h : spV K F R vs H Q E) (hl : ∀ ds A, R ds A → ds.length + 1 = n) : vs.length = n := by
  obtain ⟨f, vs', B, ds, A, ev, hf, st, dv, r, q⟩ := h
  rw [ev, List.length_cons, dv.len]
  exact hl ds A r
end
mutual
def hardD : PyData → Bool
  | .none => true
  | .bool _ => true
  | .int _ => true
  | .str _ => true
  | .tuple ds => hardA ds
  | _ => false
def hardA : List PyData → Bool
  | [] => true
  | d :: ds => hardD d && hardA ds
end
mutual
/-- what holds no list and no dict -/
inductive Hv (K : PySem.W.Frag) (H : Hp) : V → PyData → Prop
  | non : Hv K H .non .none
  | bl (b : Bool) : Hv K H (.bl b) (.bool b)
  | int (i : Int) : Hv K H (.int i) (.int i)
  | str (x : Str) : Hv K H (.str x) (.str x)
  | tup {p : Addr} {xs : List V} {ds : List PyData} : SqT K H p xs → HvAll K H xs ds → Hv K H (.ref p) (.tuple ds)
inductive HvAll (K : PySem.W.Frag) (H : Hp) : List V → List PyData → Prop
  | nil : HvAll K H [] []
  | cons {v : V} {vs : List V} {d : PyData} {ds : List PyData} : Hv K H v d → HvAll K H vs ds → HvAll K H (v :: vs) (d :: ds)
end
def TupK (H H' : Hp) : Prop := (∀ b xs, H b = some (.tup xs) → H' b = some (.tup xs)) ∧ ∀ b o u, H b = some (.frz o u) → H' b = some (.frz o u)
theorem TupK.of_st {H H' : Hp} (h : StayT H H') : TupK H H' := ⟨fun b xs e => h b _ hard_tup e, fun b o u e => h b _ hard_frz e⟩
theorem TupK.of_nl {H H' : Hp} (h : ∀ a o, lsy o = false → H a = some o → H' a = some o) : TupK H H' := ⟨fun b xs e => h b _ rfl e, fun b o u e => h b _ rfl e⟩
theorem TupK.sq {K : PySem.W.Frag} {H H' : Hp} {a : Addr} {xs : List V} (e : TupK H H') (h : SqT K H a xs) : SqT K H' a xs := by
  rcases h with (h | ⟨o, h⟩) | h
  · exact .inl (.inl (e.1 _ _ h))
  · exact .inl (.inr ⟨o, e.2 _ _ _ h⟩)
  · exact .inr h
section
variable {K : PySem.W.Frag} {H H' : Hp} {B : List Addr}
mutual
theorem Dv.hv : ∀ (d : PyData) (v : V), hardD d = true → Dv K H B v d → Hv K H v d
  | .none, _, _, h => by
    cases h
    exact .non
  | .bool b, _, _, h => by
    cases h
    exact .bl b
  | .int i, _, _, h => by
    cases h
    exact .int i
  | .str x, _, _, h => by
    cases h
    exact .str x
  | .list ds, _, c, h => by simp [hardD] at c
  | .dict ds, _, c, h => by simp [hardD] at c
  | .tuple ds, _, c, h => by
    cases h with
    | tup hs ha => exact .tup hs (DvAll.hv ds _ (by simpa [hardD] using c) ha)
theorem DvAll.hv : ∀ (ds : List PyData) (vs : List V), hardA ds = true → DvAll K H B vs ds → HvAll K H vs ds
  | [], _, _, h => by
    cases h
    exact .nil
  | d :: ds, _, c, h => by
    cases h with
    | cons h1 h2 =>
      have c : hardD d = true ∧ hardA ds = true := by simpa [hardA] using c
      exact .cons (Dv.hv d _ c.1 h1) (DvAll.hv ds _ c.2 h2)
end
mutual
theorem Hv.dv : ∀ (d : PyData) (v : V), Hv K H v d → Dv K H B v d
  | .none, _, h => by
    cases h
    exact .non
  | .bool b, _, h => by
    cases h
    exact .bl b
  | .int i, _, h => by
    cases h
    exact .int i
  | .str x, _, h => by
    cases h
    exact .str x
  | .list ds, _, h => by cases h
  | .dict ds, _, h => by cases h
  | .tuple ds, _, h => by
    cases h with
    | tup hs ha => exact .tup hs (HvAll.dv ds _ ha)
theorem HvAll.dv : ∀ (ds : List PyData) (vs : List V), HvAll K H vs ds → DvAll K H B vs ds
  | [], _, h => by
    cases h
    exact .nil
  | d :: ds, _, h => by
    cases h with
    | cons h1 h2 => exact .cons (Hv.dv d _ h1) (HvAll.dv ds _ h2)
end
mutual
theorem Hv.tk (m : TupK H H') : ∀ (d : PyData) (v : V), Hv K H v d → Hv K H' v d
  | .none, _, h => by
    cases h
    exact .non
  | .bool b, _, h => by
    cases h
    exact .bl b
  | .int i, _, h => by
    cases h
    exact .int i
  | .str x, _, h => by
    cases h
    exact .str x
  | .list ds, _, h => by cases h
  | .dict ds, _, h => by cases h
  | .tuple ds, _, h => by
    cases h with
    | tup hs ha => exact .tup (m.sq hs) (HvAll.tk m ds _ ha)
theorem HvAll.tk (m : TupK H H') : ∀ (ds : List PyData) (vs : List V), HvAll K H vs ds → HvAll K H' vs ds
  | [], _, h => by
    cases h
    exact .nil
  | d :: ds, _, h => by
    cases h with
    | cons h1 h2 => exact .cons (Hv.tk m d _ h1) (HvAll.tk m ds _ h2)
end
end
/-- fields -/
inductive FsAt (K : PySem.W.Frag) (H : Hp) : List (Str × V) → List (Str × PyData) → Prop
  | nil : FsAt K H [] []
  | cons {f : Str} {v : V} {d : PyData} {us : List (Str × V)} {fs : List (Str × PyData)} : Hv K H v d → FsAt K H us fs → FsAt K H ((f, v) :: us) ((f, d) :: fs)
def putFD (f : Str) (d : PyData) : List (Str × PyData) → List (Str × PyData)
  | [] => [(f, d)]
  | (g, x) :: r => if g = f then (g, d) :: r else (g, x) :: putFD f d r
section
variable {K : PySem.W.Frag} {H H' : Hp}
theorem FsAt.tk (m : TupK H H') {us : List (Str × V)} {fs : List (Str × PyData)} (h : FsAt K H us fs) : FsAt K H' us fs := by
  induction h with
  | nil => exact .nil
  | cons h1 _ ih => exact .cons (Hv.tk m _ _ h1) ih
theorem FsAt.len {us : List (Str × V)} {fs : List (Str × PyData)} (h : FsAt K H us fs) : us.length = fs.length := by
  induction h with
  | nil => rfl
  | cons _ _ ih => rw [List.length_cons, List.length_cons, ih]
theorem FsAt.some {us : List (Str × V)} {fs : List (Str × PyData)} (h : FsAt K H us fs) {f : Str} {d : PyData} (hl : fs.lookup f = some d) : ∃ v, us.lookup f = some v ∧ Hv K H v d := by
  induction h with
  | nil => cases hl
  | @cons g v e us fs h1 _ ih =>
    rw [List.lookup_cons] at hl ⊢
    by_cases z : (f == g) = true
    · rw [z] at hl ⊢
      cases hl
      exact ⟨_, rfl, h1⟩
    · rw [(Bool.not_eq_true _).mp z] at hl ⊢
      exact ih hl
theorem FsAt.none {us : List (Str × V)} {fs : List (Str × PyData)} (h : FsAt K H us fs) {f : Str} (hl : fs.lookup f = none) : us.lookup f = none := by
  induction h with
  | nil => rfl
  | @cons g v e us fs h1 _ ih =>
    rw [List.lookup_cons] at hl ⊢
    by_cases z : (f == g) = true
    · rw [z] at hl
      cases hl
    · rw [(Bool.not_eq_true _).mp z] at hl ⊢
      exact ih hl
theorem FsAt.put {us : List (Str × V)} {fs : List (Str × PyData)} (h : FsAt K H us fs) {f : Str} {v : V} {d : PyData} (hv : Hv K H v d) : FsAt K H (putF f v us) (putFD f d fs) := by
  induction h with
  | nil => exact .cons hv .nil
  | @cons g w e us fs h1 h2 ih =>
    unfold putF putFD
    by_cases z : g = f
    · rw [if_pos z, if_pos z]
      exact .cons hv h2
    · rw [if_neg z, if_neg z]
      exact .cons h1 ih
end
def ObAt (K : PySem.W.Frag) (H : Hp) (a C : Addr) (fs : List (Str × PyData)) : Prop := ∃ dx us, H a = some (.ins C dx us) ∧ H dx = some (.own a) ∧ FsAt K H us fs
def Wd (K : PySem.W.Frag) (H : Hp) (T : Tb) : Prop := (∀ e ∈ T, ObAt K H e.1 e.2.1 e.2.2) ∧ (T.map (·.1)).Nodup
def getT (T : Tb) (a : Addr) : Option (Addr × List (Str × PyData)) := T.lookup a
def setT (T : Tb) (a : Addr) (fs : List (Str × PyData)) : Tb := T.map fun e => if e.1 = a then (e.1, e.2.1, fs) else e
theorem look_mem {α β : Type} [BEq α] [LawfulBEq α] {a : α} {b : β} : ∀ {l : List (α × β)}, l.lookup a = some b → (a, b) ∈ l
  | [], h => by cases h
  | (x, y) :: l, h => by
    rw [List.lookup_cons] at h
    by_cases z : (a == x) = true
    · rw [z] at h
      cases h
      rw [eq_of_beq z]
      exact List.mem_cons_self
    · rw [(Bool.not_eq_true _).mp z] at h
      exact List.mem_cons_of_mem _ (look_mem h)
section
variable {K : PySem.W.Frag} {H H' : Hp} {T : Tb}
theorem Wd.get (h : Wd K H T) {a C : Addr} {fs : List (Str × PyData)} (g : getT T a = some (C, fs)) : ObAt K H a C fs := h.1 _ (look_mem g)
theorem Wd.nl (h : Wd K H T) (m : ∀ a o, lsy o = false → H a = some o → H' a = some o) : Wd K H' T := by
  refine ⟨fun e he => ?_, h.2⟩
  obtain ⟨dx, us, h1, h2, h3⟩ := h.1 e he
  exact ⟨dx, us, m _ _ rfl h1, m _ _ rfl h2, h3.tk (.of_nl m)⟩
theorem Wd.nil : Wd K H [] := ⟨fun e he => (List.not_mem_nil he).elim, List.nodup_nil⟩
theorem Wd.same (h : Wd K H T) (m : Same H H') : Wd K H' T := h.nl fun a o _ e => m a o e
theorem setT_keys (T : Tb) (a : Addr) (fs : List (Str × PyData)) : (setT T a fs).map (·.1) = T.map (·.1) := by
  unfold setT
  rw [List.map_map]
  refine List.map_congr_left fun e _ => ?_
  show (if e.1 = a then (e.1, e.2.1, fs) else e).1 = e.1
  split <;> rfl
theorem stay_ins {a C dx : Addr} {us ws : List (Str × V)} (h : H a = some (.ins C dx us)) : StayT H (upd H a (.ins C dx ws)) := by
  intro b o n e
  by_cases z : b = a
  · subst z
    rw [h] at e
    exact absurd (Option.some.inj e).symm (n.2.2.2.1 _ _ _)
  · rw [upd_ne z]
    exact e
theorem Wd.set (h : Wd K H T) {a C dx : Addr} {us ws : List (Str × V)} {fs gs : List (Str × PyData)} (g : getT T a = some (C, fs)) (ha : H a = some (.ins C dx us)) (hw : FsAt K H ws gs) : Wd K (upd H a (.ins C dx ws)) (setT T a gs) := by
  have st := stay_ins (ws := ws) ha
  refine ⟨fun e he => ?_, by rw [setT_keys]; exact h.2⟩
  obtain ⟨e0, he0, ee⟩ := List.mem_map.mp he
  obtain ⟨dx0, us0, h1, h2, h3⟩ := h.1 e0 he0
  have nd : ∀ {b x : Addr}, H b = some (.own x) → b ≠ a := fun {b x} hb z => by
    rw [z, ha] at hb
    cases hb
  by_cases z : e0.1 = a
  · have ee : (e0.1, e0.2.1, gs) = e := by rw [if_pos z] at ee; exact ee
    subst ee
    show ObAt K _ e0.1 e0.2.1 gs
    rw [z] at h1 h2 ⊢
    rw [ha] at h1
    cases h1
    exact ⟨dx, ws, upd_same, by rw [upd_ne (nd h2)]; exact h2, hw.tk (.of_st st)⟩
  · have ee : e0 = e := by rw [if_neg z] at ee; exact ee
    subst ee
    exact ⟨dx0, us0, by rw [upd_ne z]; exact h1, by rw [upd_ne (nd h2)]; exact h2, h3.tk (.of_st st)⟩
theorem Wd.new (h : Wd K H T) {x dx C : Addr} (nx : H x = none) (nd : H dx = none) (ne : dx ≠ x) : Wd K (upd (upd H dx (.own x)) x (.ins C dx [])) ((x, C, []) :: T) := by
  have nx1 : upd H dx (.own x) x = none := by rw [upd_ne ne.symm]; exact nx
  have sm : Same H (upd (upd H dx (.own x)) x (.ins C dx [])) := (same_upd nd).trans (same_upd nx1)
  have h' := h.same sm
  refine ⟨fun e he => ?_, ?_⟩
  · rcases List.mem_cons.mp he with z | z
    · subst z
      exact ⟨dx, [], upd_same, by rw [upd_ne ne, upd_same], .nil⟩
    · exact h'.1 e z
  · refine List.nodup_cons.mpr ⟨fun z => ?_, h.2⟩
    obtain ⟨e, he, ee⟩ := List.mem_map.mp z
    obtain ⟨dx0, us0, h1, _⟩ := h.1 e he
    have ee : e.1 = x := ee
    rw [ee, nx] at h1
    cases h1
theorem Wd.tail (h : Wd K H T) {e : Addr × Addr × List (Str × PyData)} {T' : Tb} (hT : T = e :: T') : Wd K H T' := by
  subst hT
  exact ⟨fun e he => h.1 e (List.mem_cons_of_mem _ he), (List.nodup_cons.mp h.2).2⟩
theorem mx_ins {a C dx : Addr} {us ws : List (Str × V)} {as : List Addr} (h : H a = some (.ins C dx us)) : Mx true as H (upd H a (.ins C dx ws)) := by
  refine ⟨⟨stay_ins h, fun b o _ l e => ?_, al_upd⟩, fun z => by cases z⟩
  by_cases z : b = a
  · rw [z, h] at e
    cases e
    cases l
  · rw [upd_ne z]
    exact e
theorem Mx.wide {w : Bool} {as : List Addr} (m : Mx true [] H H') (hw : w = true) : Mx w as H H' := ⟨m.mv.up fun a ha => (List.not_mem_nil ha).elim, fun z => by rw [hw] at z; cases z⟩
end
def ΔW (K : PySem.W.Frag) : DK := ⟨true, fun H _ _ k => Wd K H k.T, fun h _ m => h.nl m, fun {H r as k k'} h le => by rw [← le.2]; exact h⟩
def ΔO (K : PySem.W.Frag) : DK := ⟨true, fun H r as k => (∃ c, as = [r, c] ∧ Deck H r c k.n) ∧ Wd K H k.T, fun {H H' r as k} h e m => by
  obtain ⟨⟨c, ea, ns, j, h1, h2, h3, h4⟩, hw⟩ := h
  subst ea
  refine ⟨⟨c, rfl, ns, j, h1, ?_, ?_, h4⟩, hw.nl m⟩
  · rw [e r List.mem_cons_self]
    exact h2
  · rw [e c (List.mem_cons_of_mem _ List.mem_cons_self)]
    exact h3, fun {H r as k k'} h le => by
  obtain ⟨⟨c, ea, d⟩, hw⟩ := h
  exact ⟨⟨c, ea, d.mono le.1⟩, by rw [← le.2]; exact hw⟩⟩
class WDK (K : PySem.W.Frag) (Δ : DK) : Prop where
  w : Δ.w = true
  get : ∀ {H : Hp} {r : Addr} {as : List Addr} {k : Kx}, Δ.P H r as k → Wd K H k.T
  set : ∀ {H H' : Hp} {r : Addr} {as : List Addr} {k : Kx} {T' : Tb}, Δ.P H r as k → Mx true [] H H' → Wd K H' T' → Δ.P H' r as ⟨k.n, T'⟩
instance (K : PySem.W.Frag) : WDK K (ΔW K) := ⟨rfl, fun h => h, fun _ _ h => h⟩
instance (K : PySem.W.Frag) : WDK K (ΔO K) := ⟨rfl, fun h => h.2, fun {H H' r as k T'} h m hw => by
  obtain ⟨⟨c, ea, ns, j, h1, h2, h3, h4⟩, _⟩ := h
  exact ⟨⟨c, ea, ns, j, h1, m.mv.kp _ _ List.not_mem_nil rfl h2, m.mv.kp _ _ List.not_mem_nil rfl h3, h4⟩, hw⟩⟩
/-- the slot of an object -/
abbrev osl (a : Addr) : Sl := .exc a 0 none []
section
variable {K : PySem.W.Frag} {Δ : DK} [WDK K Δ] {W : WX}
theorem En.world {C : Cy} {B : List Addr} {σ : L2.St} {H H' : Hp} {s : AS} (E : En K Δ C B σ H s) {k : Kx} {T' : Tb} (hk : s.k = some k) (m : Mx true [] H H') (hw : Wd K H' T') : En K Δ C B σ H' ⟨s.env, some ⟨k.n, T'⟩⟩ :=
  E.move (m.wide (WDK.w K)) (kk := some ⟨k.n, T'⟩) fun k' e => by
    cases e
    exact WDK.set (K := K) (E.dk k hk) m hw
/-- x.f -/
theorem kfld {X : Cx} {e : Expr} {f : Str} {pos : Pos} {ta : TE} (K : PySem.W.Frag) (he : PE X e ta) (hK : X.K = K := by rfl) (hb : attributeBase e f X.env (eval e X.env) = eval e X.env := by rfl) : PE X (.Attribute e f pos) (tFld K ta f) := by
  subst hK
  exact pe_fld he hb
theorem re_fld {i : Nat} {f : Str} : RE K Δ (tFld K (tVar i) f) (fun s A => ∃ a C fs d k, s.env[i]? = some (osl a) ∧ s.k = some k ∧ getT k.T a = some (C, fs) ∧ Cls K C ∧ NoAttr K C f ∧ fs.lookup f = some d ∧ A d s) := by
  intro C B σ H s Q A E h q
  obtain ⟨a, Cc, fs, d, k, hi, hk, g, cl, na, hl, a'⟩ := h
  obtain ⟨dx, us, h1, h2, h3⟩ := (WDK.get (K := K) (E.dk k hk)).get g
  obtain ⟨v, hv, hd⟩ := h3.some hl
  exact ⟨_, (E.ex i _ _ _ _ hi).1, a, Cc, dx, us, v, rfl, h1, cl, na, hv, q _ _ _ _ a' (.refl _ _) E (Hv.dv _ _ hd)⟩
/-- x.f = e -/
theorem kpsfld {X : Cx} {o value : Expr} {f : Str} {pos pos' : Pos} {ta tv : TE} (K : PySem.W.Frag) (ha : PE X o ta) (hv : PE X value tv) (hK : X.K = K := by rfl) (hs : swapsWith value (some (.Attribute o f pos')) pos.line X.env = pure false := by rfl) : PS X (.Assign [.Attribute o f pos'] value pos) (sFld K ta tv f) := by
  subst hK
  exact ps_fld ha hv hs
theorem rs_fld {i : Nat} {f : Str} {tv : TE} {av : AE} (h1 : RE K Δ tv av) : RS K Δ (sFld K (tVar i) tv f) (fun A s => av s fun d s1 => ∃ a C fs k, s1.env[i]? = some (osl a) ∧ s1.k = some k ∧ getT k.T a = some (C, fs) ∧ Cls K C ∧ NoAttr K C f ∧ fs.length < 1000 ∧ hardD d = true ∧ A.nx ⟨s1.env, some ⟨k.n, setT k.T a (putFD f d fs)⟩⟩) := by
  intro C B σ H s D A E h qn qr
  refine h1 C B σ H s _ _ E h fun v d H1 s1 a1 m1 E1 dv => ?_
  obtain ⟨a, Cc, fs, k, hi, hk, g, cl, na, hl, hh, a'⟩ := a1
  have wd := WDK.get (K := K) (E1.dk k hk)
  obtain ⟨dx, us, h1', h2, h3⟩ := wd.get g
  have hm : Mx true [] H1 (upd H1 a (.ins Cc dx (putF f v us))) := mx_ins h1'
  refine ⟨_, (E1.ex i _ _ _ _ hi).1, a, Cc, dx, us, rfl, h1', cl, na, by rw [h3.len]; exact hl, ?_⟩
  exact qn B σ _ _ a' ((Go.of_mv (m1.up E.sub)).trans (.of_mv (hm.mv.up fun a ha => (List.not_mem_nil ha).elim))) (E1.world hk hm (wd.set g h1' (h3.put (Dv.hv _ _ hh dv))))
end
abbrev ROb := Addr → List PyData → Tb → (PyData → Tb → Prop) → (Addr → List (Str × PyData) → Tb → Prop) → Prop
def spO (K : PySem.W.Frag) (R : ROb) : Sp := fun vs H Q E => ∃ (a : Addr) (vs' : List V) (B : List Addr) (ds : List PyData) (T : Tb) (A : PyData → Tb → Prop) (X : Addr → List (Str × PyData) → Tb → Prop), vs = .ref a :: vs' ∧ Stands B H ∧ DvAll K H B vs' ds ∧ Wd K H T ∧ R a ds T A X ∧
  (∀ v d T' H', A d T' → Mx true [] H H' → Wd K H' T' → Dv K H' B v d → Q v H') ∧ ∀ D fs d T' H', X D fs T' → Mx true [] H H' → Wd K H' T' → ErrAt K H' B d fs → E (.ref D) d H'
def startO (N : List Str) (a : Addr) (ds : List PyData) (T : Tb) : AS := ⟨osl a :: (ds.map Sl.dat ++ List.replicate (N.length - (ds.length + 1)) .free), some ⟨0, T⟩⟩
section
variable {K : PySem.W.Frag}
theorem startO_en {N : List Str} {a : Addr} {vs' : List V} {ds : List PyData} {T : Tb} {H : Hp} {B : List Addr} (st : Stands B H) (dv : DvAll K H B vs' ds) (wd : Wd K H T) : En K (ΔW K) ⟨0, [], B, H, st⟩ B (L2.start N (.ref a :: vs')) H (startO N a ds T) := by
  have up : ∀ {i : Nat} {x : Sl}, (startO N a ds T).env[i]? = some x → (i = 0 ∧ x = osl a) ∨ ∃ j, i = j + 1 ∧ (ds.map Sl.dat ++ List.replicate (N.length - (ds.length + 1)) Sl.free)[j]? = some x := by
    intro i x h
    cases i with
    | zero =>
      cases h
      exact .inl ⟨rfl, rfl⟩
    | succ j => exact .inr ⟨j, rfl, h⟩
  refine ⟨?_, fun i d h => ?_, fun i h => ?_, fun i a D d fs h => ?_, ⟨fun _ => 0, fun i es h ho => ?_, fun i j d1 d2 h _ ho => ?_⟩, st, fun a ha => absurd ha List.not_mem_nil, fun b hb => hb, fun k hk => ?_, .refl _ _⟩
  · show ((V.ref a :: vs').map some ++ List.replicate (N.length - (V.ref a :: vs').length) none).length = (osl a :: (ds.map Sl.dat ++ List.replicate (N.length - (ds.length + 1)) Sl.free)).length
    rw [List.length_append, List.length_cons (as := ds.map Sl.dat ++ _), List.length_append, List.length_map, List.length_map, List.length_replicate, List.length_replicate, List.length_cons, dv.len]
    omega
  · rcases up h with ⟨_, z⟩ | ⟨j, e, z⟩
    · cases z
    · subst e
      exact start_dat (N := N) dv _ z _
  · rcases up h with ⟨_, z⟩ | ⟨j, e, z⟩
    · cases z
    · rcases start_not _ z with z | ⟨d, z⟩ <;> cases z
  · rcases up h with ⟨e, z⟩ | ⟨j, e, z⟩
    · cases z
      subst e
      exact ⟨rfl, .inl ⟨rfl, rfl⟩⟩
    · exact absurd z (start_noe _ _ _ _ _)
  · rcases up h with ⟨_, z⟩ | ⟨j, e, z⟩
    · subst z; cases ho
    · rcases start_not _ z with z | ⟨d, z⟩ <;> (subst z; cases ho)
  · rcases up h with ⟨_, z⟩ | ⟨j, e, z⟩
    · subst z; cases ho
    · rcases start_not _ z with z | ⟨d, z⟩ <;> (subst z; cases ho)
  · cases hk
    exact wd
/-- the body of a def with an object ahead, which may raise -/
theorem goO {R : ROb} {vs : List V} {H : Hp} {Q : VK} {E : XK} {N : List Str} {t : TS} {a : AStmX} (h : spO K R vs H Q E) (rs : RSX K (ΔW K) (fun cls d _ H' => E cls d H') t a)
    (hb : ∀ x ds T A X, R x ds T A X → a ⟨fun s => ∃ k, s.k = some k ∧ A .none k.T, fun d s => ∃ k, s.k = some k ∧ A d k.T⟩ (fun D fs s => ∃ k, s.k = some k ∧ X D fs k.T) (startO N x ds T)) : t { nx := fun _ H' => Q .non H', rt := Q } (L2.start N vs) H := by
  obtain ⟨x, vs', B, ds, T, A, X, ev, st, dv, wd, r, q, qx⟩ := h
  subst ev
  refine rs ⟨0, [], B, H, st⟩ B _ H (startO N x ds T) _ _ _ (startO_en st dv wd) (hb x ds T A X r) (fun B' σ' H' s' a' g E' => ?_) (fun v d H' s' a' rt => ?_) fun D' fs d B' σ' H' s' a' g E' er => ?_
  · obtain ⟨k, hk, a'⟩ := a'
    exact q _ _ _ _ a' E'.mw (E'.dk k hk) .non
  · obtain ⟨k, hk, a'⟩ := a'
    exact q _ _ _ _ a' rt.mw (rt.dk k hk) rt.dv
  · obtain ⟨k, hk, a'⟩ := a'
    exact qx D' fs d _ H' a' E'.mw (E'.dk k hk) (er.anti E'.bc)
theorem lenO {R : ROb} {vs : List V} {H : Hp} {Q : VK} {E : XK} {n : Nat} (h : spO K R vs H Q E) (hl : ∀ a ds T A X, R a ds T A X → ds.length + 1 = n) : vs.length = n := by
  obtain ⟨x, vs', B, ds, T, A, X, ev, st, dv, wd, r, q, qx⟩ := h
  rw [ev, List.length_cons, dv.len]
  exact hl _ _ _ _ _ r
end
structure MethH (P : Program) (w : World) (K : PySem.W.Frag) (mg : Str → Option Value) (base : Heap) (k : Nat) (C : Addr) (m : Str) (ps : List Str) (sp : Sp) : Prop where
  cl : Cls K C
  me : ∃ f fd, Meth K C m f ∧ FnOk P w K mg base (L2.CX P w) k f fd ps sp ∧ L2.Binds K fd ps []
def tMethS (C : Addr) (m : Str) (sp : Sp) (W : WX) (ta : TE) (t : TA) : TE := fun σ H Q => ta σ H fun x H1 => ∃ a dx fs, x = .ref a ∧ H1 a = some (.ins C dx fs) ∧ fs.lookup m = none ∧ t σ H1 fun vs H2 => sp (x :: vs) H2 Q (WE W σ)
section
variable {X : Cx} {k j : Nat} {C : Addr} {m : Str} {ps : List Str} {sp : Sp} {o e : Expr} {es : List Expr} {apos pos : Pos} {ta : TE} {t : TA} {W : WX}
theorem pe_methH0 {pl : Sem Bool} (M : MethH X.prog X.w X.K X.mg X.base k C m ps sp) (he : PE X o ta) (hr : Room j X.A) (hk : k ≤ j) (tk : Takes X W)
    (ht : eval (.Call (.Attribute o m apos) [] [] pos) X.env = (do
      let ov ← eval o X.env
      standAt apos.atName
      let (f, first) ← holding [ov] (getMethod ov m pl)
      callWith pos f first (backTo pos (starEach [] X.env)) (backToKw pos (keywordEach [] X.env))) := by rfl) :
    PE X (.Call (.Attribute o m apos) [] [] pos) (tMethS C m sp W ta tNil) := by
  obtain ⟨f, fd, hm, F, hb⟩ := M.me
  refine ⟨fun pins s σ H Q I h => ?_⟩
  refine PySem.W.methodCall_KW (pl := pl) (thn (he.run pins s σ H _ I h) fun u s1 ⟨x, H1, I1, rx, a, dx, fs, ex, ea, l, q⟩ => ?_) ht
  subst ex
  obtain rfl : u = Value.ref a := rx
  refine getmeth_ok I1 ea M.cl hm l ?_
  exact PySem.W.callWith_K0 (first := [.ref a]) I1.kIn hm.kp (run_fnS (us := [.ref a]) (vs := [.ref a]) F (hr.mono hk) hb (passAt tk σ) I1 (.cons rfl .nil) q)
end
section
variable {K : PySem.W.Frag} {Δ : DK} [WDK K Δ] {W : WX}
/-- what a call with an object ahead means -/
def aObj (R : ROb) (a : Addr) (ds : List PyData) (s : AS) (A : PyData → AS → Prop) (X : AX) : Prop := ∃ k, s.k = some k ∧ R a ds k.T (fun d T' => A d ⟨s.env, some ⟨k.n, T'⟩⟩) fun D fs T' => X D fs ⟨s.env, some ⟨k.n, T'⟩⟩
theorem runO {R : ROb} {C : Cy} {B : List Addr} {σ : L2.St} {H : Hp} {s : AS} {a : Addr} {vs : List V} {ds : List PyData} {Q : VK} {A : PyData → AS → Prop} {X : AX} (E : En K Δ C B σ H s) (dv : DvAll K H B vs ds) (h : aObj R a ds s A X)
    (q : ∀ v d H' s', A d s' → Mx Δ.w C.as H H' → En K Δ C B σ H' s' → Dv K H' B v d → Q v H') (qx : ∀ D fs d H' s', X D fs s' → Mx Δ.w C.as H H' → En K Δ C B σ H' s' → ErrAt K H' B d fs → W (.ref D) d σ H') : spO K R (.ref a :: vs) H Q (WE W σ) := by
  obtain ⟨k, hk, h⟩ := h
  refine ⟨a, vs, B, ds, k.T, _, _, rfl, E.st, dv, WDK.get (K := K) (E.dk k hk), h, fun v d T' H' a' m hw dv' => ?_, fun D fs d T' H' x m hw er => ?_⟩
  · exact q v d H' _ a' (m.wide (WDK.w K)) (E.world hk m hw) dv'
  · exact qx D fs d H' _ x (m.wide (WDK.w K)) (E.world hk m hw) er
theorem methO {R : ROb} {Cc : Addr} {m : Str} {i : Nat} {ta : TA} {aa : AA} (h1 : RA K Δ ta aa) {C : Cy} {B : List Addr} {σ : L2.St} {H : Hp} {s : AS} {Q : VK} {A : PyData → AS → Prop} {X : AX} (E : En K Δ C B σ H s)
    (h : ∃ a, s.env[i]? = some (osl a) ∧ (∃ k fs, s.k = some k ∧ getT k.T a = some (Cc, fs) ∧ fs.lookup m = none) ∧ aa s fun ds s1 => aObj R a ds s1 A X)
    (q : ∀ v d H' s', A d s' → Mx Δ.w C.as H H' → En K Δ C B σ H' s' → Dv K H' B v d → Q v H') (qx : ∀ D fs d H' s', X D fs s' → Mx Δ.w C.as H H' → En K Δ C B σ H' s' → ErrAt K H' B d fs → W (.ref D) d σ H') : tMethS Cc m (spO K R) W (tVar i) ta σ H Q := by
  obtain ⟨a, hi, ⟨k, fs, hk, g, hl⟩, h⟩ := h
  obtain ⟨dx, us, h1', h2, h3⟩ := (WDK.get (K := K) (E.dk k hk)).get g
  refine ⟨_, (E.ex i _ _ _ _ hi).1, a, dx, us, rfl, h1', h3.none hl, h1 C B σ H s _ _ E h fun vs ds H1 s1 a1 m1 E1 dv => ?_⟩
  exact runO E1 dv a1 (fun v d H' s' a' m' E' dv' => q v d H' s' a' (m1.trans m') E' dv') fun D fs d H' s' x m' E' er => qx D fs d H' s' x (m1.trans m') E' er
/-- x.m(..), which does not raise here -/
def aMeth (Cc : Addr) (m : Str) (R : ROb) (i : Nat) (aa : AA) (X : AX) : AE := fun s A => ∃ a, s.env[i]? = some (osl a) ∧ (∃ k fs, s.k = some k ∧ getT k.T a = some (Cc, fs) ∧ fs.lookup m = none) ∧ aa s fun ds s1 => aObj R a ds s1 A X
theorem re_meth {R : ROb} {Cc : Addr} {m : Str} {i : Nat} {ta : TA} {aa : AA} (h1 : RA K Δ ta aa) : RE K Δ (tMethS Cc m (spO K R) W (tVar i) ta) (aMeth Cc m R i aa fun _ _ _ => False) := by
  intro C B σ H s Q A E h q
  exact methO h1 E h q fun D fs d H' s' x _ _ _ => x.elim
theorem rsx_asgM {R : ROb} {Cc : Addr} {m : Str} {i : Nat} {ta : TA} {aa : AA} {g : TG} {ag : AG} {is : List Nat} (h1 : RA K Δ ta aa) (h2 : RG K Δ g ag is) : RSX K Δ W (tAsg (tMethS Cc m (spO K R) W (tVar i) ta) g) (fun A X s => aMeth Cc m R i aa X s fun d s1 => ag d s1 A.nx) := by
  intro C B σ H s D A X E h qn qr qx
  refine methO h1 E h (fun v d H1 s1 a1 m1 E1 dv => ?_) fun D fs d H' s' x m E' er => qx D fs d B σ H' s' x (.of_mv (m.up E.sub)) E' er
  exact h2 C B σ H1 s1 _ _ _ _ E1 dv a1 fun σ2 s2 a2 E2 _ => qn B σ2 H1 s2 a2 (.of_mv (m1.up E.sub)) E2
theorem rsx_dropM {R : ROb} {Cc : Addr} {m : Str} {i : Nat} {ta : TA} {aa : AA} (h1 : RA K Δ ta aa) : RSX K Δ W (tDrop (tMethS Cc m (spO K R) W (tVar i) ta)) (fun A X s => aMeth Cc m R i aa X s fun _ s1 => A.nx s1) := by
  intro C B σ H s D A X E h qn qr qx
  exact methO h1 E h (fun v d H1 s1 a1 m1 E1 dv => qn B σ H1 s1 a1 (.of_mv (m1.up E.sub)) E1) fun D fs d H' s' x m E' er => qx D fs d B σ H' s' x (.of_mv (m.up E.sub)) E' er
theorem rsx_retM {R : ROb} {Cc : Addr} {m : Str} {i : Nat} {ta : TA} {aa : AA} (h1 : RA K Δ ta aa) : RSX K Δ W (tRet (tMethS Cc m (spO K R) W (tVar i) ta)) (fun A X s => aMeth Cc m R i aa X s fun d s1 => A.rt d s1) := by
  intro C B σ H s D A X E h qn qr qx
  exact methO h1 E h (fun v d H1 s1 a1 m1 E1 dv => qr v d H1 s1 a1 ⟨Dv.anti E1.bc _ _ dv, E1.dk, E1.mw⟩) fun D fs d H' s' x m E' er => qx D fs d B σ H' s' x (.of_mv (m.up E.sub)) E' er
/-- f(x, ..) of a def with an object ahead -/
def aCallO (R : ROb) (i : Nat) (aa : AA) (X : AX) : AE := fun s A => ∃ a, s.env[i]? = some (osl a) ∧ aa s fun ds s1 => aObj R a ds s1 A X
theorem re_callO {R : ROb} {i : Nat} {ta : TA} {aa : AA} (h1 : RA K Δ ta aa) : RE K Δ (tCallS (spO K R) (WE W) (tCons (tVar i) ta)) (aCallO R i aa fun _ _ _ => False) := by
  intro C B σ H s Q A E h q
  obtain ⟨a, hi, h⟩ := h
  refine ⟨_, (E.ex i _ _ _ _ hi).1, h1 C B σ H s _ _ E h fun vs ds H1 s1 a1 m1 E1 dv => ?_⟩
  exact runO E1 dv a1 (fun v d H' s' a' m' E' dv' => q v d H' s' a' (m1.trans m') E' dv') fun D fs d H' s' x _ _ _ => x.elim
end
section
variable {K : PySem.W.Frag} {Δ : DK} [WDK K Δ] {W : WX}
theorem re_prop {R : ROb} {Cc : Addr} {i : Nat} : RE K Δ (tProp Cc (spO K R) [] E0 (tVar i)) (fun s A => ∃ a, s.env[i]? = some (osl a) ∧ (∃ k fs, s.k = some k ∧ getT k.T a = some (Cc, fs)) ∧ aObj R a [] s A fun _ _ _ => False) := by
  intro C B σ H s Q A E h q
  obtain ⟨a, hi, ⟨k, fs, hk, g⟩, h⟩ := h
  obtain ⟨dx, us, h1', h2, h3⟩ := (WDK.get (K := K) (E.dk k hk)).get g
  refine ⟨_, (E.ex i _ _ _ _ hi).1, a, dx, us, rfl, h1', ?_⟩
  obtain ⟨k, hk, h⟩ := h
  refine ⟨a, [], B, [], k.T, _, _, rfl, E.st, .nil, WDK.get (K := K) (E.dk k hk), h, fun v d T' H' a' m hw dv' => ?_, fun D fs d T' H' x m hw er => x.elim⟩
  exact q v d H' _ a' (m.wide (WDK.w K)) (E.world hk m hw) dv'
end
structure MakeH (P : Program) (w : World) (K : PySem.W.Frag) (mg : Str → Option Value) (base : Heap) (k : Nat) (C : Addr) (x : Str) (ps : List Str) (sp : Sp) : Prop where
  gC : mg x = some (.ref C)
  me : ∃ f fd, Mk K C f ∧ FnOk P w K mg base (L2.CX P w) k f fd ps sp ∧ L2.Binds K fd ps []
def tMakeS (C : Addr) (sp : Sp) (W : WX) (t : TA) : TE := fun σ H Q => t σ H fun vs H1 => ∀ x dx, H1 x = none → H1 dx = none → dx ≠ x → sp (.ref x :: vs) (upd (upd H1 dx (.own x)) x (.ins C dx [])) (fun v H2 => v = .non ∧ Q (.ref x) H2) (WE W σ)
def fsP (g s : Int) : List (Str × PyData) := [("granted", .int g), ("spent", .int s)]
theorem getT_set {T : Tb} {a C : Addr} {fs gs : List (Str × PyData)} (h : getT T a = some (C, fs)) : getT (setT T a gs) a = some (C, gs) := by
  unfold getT setT at *
  induction T with
  | nil => cases h
  | cons e T ih =>
    rw [List.lookup_cons] at h
    rw [List.map_cons, List.lookup_cons]
    by_cases z : e.1 = a
    · rw [if_pos z]
      rw [show (a == e.1) = true from beq_iff_eq.mpr z.symm] at h ⊢
      have h := Option.some.inj h
      rw [h]
    · rw [if_neg z]
      rw [show (a == e.1) = false from beq_eq_false_iff_ne.mpr fun q => z q.symm] at h ⊢
      exact ih h
theorem setT_set (T : Tb) (a : Addr) (fs gs : List (Str × PyData)) : setT (setT T a fs) a gs = setT T a gs := by
  unfold setT
  rw [List.map_map]
  refine List.map_congr_left fun e _ => ?_
  show (if (if e.1 = a then (e.1, e.2.1, fs) else e).1 = a then ((if e.1 = a then (e.1, e.2.1, fs) else e).1, (if e.1 = a then (e.1, e.2.1, fs) else e).2.1, gs) else (if e.1 = a then (e.1, e.2.1, fs) else e)) = _
  by_cases z : e.1 = a
  · simp [z]
  · simp [z]
theorem run_makeS {X : Cx} {k : Nat} {f C : Addr} {fd : FuncData} {ps : List Str} {sp : Sp} {W : WX} {pins : List (Addr × Obj)} {σ : L2.St} {H : Hp} {s : Shared} {Q : VK} {us : List Value} {vs : List V} (M : Mk X.K C f) (F : FnOk X.prog X.w X.K X.mg X.base (L2.CX X.prog X.w) k f fd ps sp) (hr : Room (k + 1) X.A) (hb : L2.Binds X.K fd ps [])
    (tk : Takes X W) (I : L2.Inv X pins σ H s) (r : Vals vs us)
    (h : ∀ x dx, H x = none → H dx = none → dx ≠ x → sp (.ref x :: vs) (upd (upd H dx (.own x)) x (.ins C dx [])) (fun v H2 => v = .non ∧ Q (.ref x) H2) (WE W σ)) :
    wpAny (model X.prog X.w) X.A (call (.ref C) us) (EP X pins σ Q) X.xe s := by
  have hq := h (s.heap.objs.size + 1) s.heap.objs.size (I.hok.fresh (Nat.le_succ _)) (I.hok.fresh (Nat.le_refl _)) (Nat.ne_of_lt (Nat.lt_succ_self _))
  have I2 := Inv.made (C := C) I
  have r2 : Vals (V.ref (s.heap.objs.size + 1) :: vs) (Value.ref (s.heap.objs.size + 1) :: us) := .cons rfl r
  have hl : (Value.ref (s.heap.objs.size + 1) :: us ++ []).length = ps.length := by
    have e := r2.length
    rw [F.len _ _ _ _ hq] at e
    rw [List.append_nil]
    exact e.symm
  have hb2 := hb _ (Value.ref (s.heap.objs.size + 1) :: us) I2.kIn hl
  rw [List.append_nil] at hb2
  refine wpAny_call (make_map (f := f) I.kIn M.makes M.init (beq_iff_eq.mp M.fn) (codeAny_mono (F.run _ X.stack _ _ ⟨Value.ref (s.heap.objs.size + 1) :: us, []⟩ (Value.ref (s.heap.objs.size + 1) :: us) _ _ (WE W σ) (hr.make C us [])
    (I2.env0.make C us []) hb2 r2 hq) fun r s' hq' => ?_))
  cases r with
  | error e => exact passAt tk σ pins _ _ e s' I2 hq'
  | ok fl =>
    cases fl with
    | ret u =>
      obtain ⟨v, H', I3, rv, ev, q3⟩ := I2.after hq'
      subst ev
      exact ⟨rv, ⟨V.ref (s.heap.objs.size + 1), H', I3, rfl, q3⟩⟩
    | next => exact False.elim hq'
    | brk => exact False.elim hq'
    | cont => exact False.elim hq'
theorem pe_makeH {X : Cx} {k j : Nat} {C : Addr} {x : Str} {ps : List Str} {sp : Sp} {p pos : Pos} {e : Expr} {es : List Expr} {t : TA} {W : WX} (M : MakeH X.prog X.w X.K X.mg X.base k C x ps sp) (hr : Room j X.A) (hk : k + 1 ≤ j) (tk : Takes X W) (hg : Gl X x) (ha : PA X (e :: es) t)
    (hdb : (x == ("__debug__" : Str)) = false := by decide) (he : starEach (e :: es) X.env = (false, eval e X.env) :: starEach es X.env := by rfl) (hpl : (backTo pos (starEach es X.env)).any (·.1) = false := by rfl) :
    PE X (.Call (.Name x p) (e :: es) [] pos) (tMakeS C sp W t) := by
  obtain ⟨f, fd, hM, F, hb⟩ := M.me
  refine ⟨fun pins s σ H Q I h => ?_⟩
  refine wpAny_Call_Name_kw (ld_glob I hg M.gC ?_ hdb)
  refine PySem.W.callWith_K (h₀ := X.base) I.ok.mod.kin hM.kp (thn (ha.run pos pins s σ H _ I h) fun us s1 ⟨vs, H1, I1, r, q⟩ => ⟨I1.kIn, ?_⟩) he hpl
  exact run_makeS hM F (hr.mono hk) hb tk I1 r q
theorem Wd.out {K : PySem.W.Frag} {H : Hp} {T : Tb} (h : Wd K H T) {x : Addr} (nx : H x = none) : x ∉ T.map (·.1) := fun z => by
  obtain ⟨e, he, ee⟩ := List.mem_map.mp z
  obtain ⟨dx0, us0, h1, _⟩ := h.1 e he
  have ee : e.1 = x := ee
  rw [ee, nx] at h1
  cases h1
section
variable {K : PySem.W.Frag} {Δ : DK} [WDK K Δ] {W : WX}
/-- what the making of an object means -/
def aMk (Cc : Addr) (R : ROb) (ds : List PyData) (s : AS) (O : Addr → AS → Prop) (X : AX) : Prop := ∃ k, s.k = some k ∧ ∀ x, x ∉ k.T.map (·.1) → R x ds ((x, Cc, []) :: k.T) (fun _ T' => O x ⟨s.env, some ⟨k.n, T'⟩⟩) fun D fs T' => ∃ e, T' = e :: k.T ∧ X D fs s
theorem mkO {R : ROb} {Cc : Addr} {C : Cy} {B : List Addr} {σ : L2.St} {H : Hp} {s : AS} {vs : List V} {ds : List PyData} {Q : VK} {O : Addr → AS → Prop} {X : AX} (E : En K Δ C B σ H s) (dv : DvAll K H B vs ds) (h : aMk Cc R ds s O X) (hR : ∀ x ds T A X, R x ds T A X → R x ds T (fun d T' => d = .none ∧ A d T') X)
    (q : ∀ x H' s', O x s' → Mx Δ.w C.as H H' → En K Δ C B σ H' s' → Q (.ref x) H') (qx : ∀ D fs d H' s', X D fs s' → Mx Δ.w C.as H H' → En K Δ C B σ H' s' → ErrAt K H' B d fs → W (.ref D) d σ H') :
    ∀ x dx, H x = none → H dx = none → dx ≠ x → spO K R (.ref x :: vs) (upd (upd H dx (.own x)) x (.ins Cc dx [])) (fun v H2 => v = .non ∧ Q (.ref x) H2) (WE W σ) := by
  intro x dx nx nd ne
  obtain ⟨k, hk, h⟩ := h
  have wd := WDK.get (K := K) (E.dk k hk)
  have nx1 : upd H dx (.own x) x = none := by rw [upd_ne ne.symm]; exact nx
  have sm : Same H (upd (upd H dx (.own x)) x (.ins Cc dx [])) := (same_upd nd).trans (same_upd nx1)
  have m0 : Mx Δ.w C.as H (upd (upd H dx (.own x)) x (.ins Cc dx [])) := .of_same sm
  have E1 := E.same sm
  refine ⟨x, vs, B, ds, (x, Cc, []) :: k.T, _, _, rfl, E1.st, dv.same sm, wd.new nx nd ne, hR _ _ _ _ _ (h x (wd.out nx)), fun v d T' H' a' m hw dv' => ?_, fun D fs d T' H' x' m hw er => ?_⟩
  · obtain ⟨ed, a'⟩ := a'
    subst ed
    exact ⟨dv_none dv', q x H' _ a' (m0.trans (m.wide (WDK.w K))) (E1.world hk m hw)⟩
  · obtain ⟨e, eT, x'⟩ := x'
    have E2 := E1.world hk m (hw.tail eT)
    have es : (⟨s.env, some ⟨k.n, k.T⟩⟩ : AS) = s := by
      obtain ⟨en, kk⟩ := s
      cases hk
      rfl
    rw [es] at E2
    exact qx D fs d H' s x' (m0.trans (m.wide (WDK.w K))) E2 er
abbrev AStmY := AEnds → AX → (Addr → AS → Prop) → AS → Prop
end
def RSY (K : PySem.W.Frag) (Δ : DK) (W : WX) (t : TS) (a : AStmY) : Prop := ∀ (C : Cy) (B : List Addr) (σ : L2.St) (H : Hp) (s : AS) (D : Ends) (A : AEnds) (X : AX) (O : Addr → AS → Prop), En K Δ C B σ H s → a A X O s →
  (∀ B' σ' H' s', A.nx s' → Go B H B' H' → En K Δ C B' σ' H' s' → D.nx σ' H') → (∀ v d H' s', A.rt d s' → Rt K Δ C H' s' v d → D.rt v H') →
  (∀ D' fs d B' σ' H' s', X D' fs s' → Go B H B' H' → En K Δ C B' σ' H' s' → ErrAt K H' B' d fs → W (.ref D') d σ' H') →
  (∀ x H' s', O x s' → Mx Δ.w C.as C.H0 H' → (∀ k, s'.k = some k → Δ.P H' C.r C.as k) → D.rt (.ref x) H') → t D σ H
section
variable {K : PySem.W.Frag} {Δ : DK} {W : WX}
theorem ry_of {t : TS} {a : AStmX} (h : RSX K Δ W t a) : RSY K Δ W t (fun A X _ s => a A X s) := fun C B σ H s D A X O E ha qn qr qx _ => h C B σ H s D A X E ha qn qr qx
theorem ry_seq {t u : TS} {a b : AStmY} (h1 : RSY K Δ W t a) (h2 : RSY K Δ W u b) : RSY K Δ W (tSeq t u) (fun A X O s => a ⟨fun s' => b A X O s', A.rt⟩ X O s) := by
  intro C B σ H s D A X O E h qn qr qx qo
  refine h1 C B σ H s _ ⟨fun s' => b A X O s', A.rt⟩ X O E h (fun B' σ' H' s' a g E' => ?_) qr qx qo
  exact h2 C B' σ' H' s' D A X O E' a (fun B2 σ2 H2 s2 a2 g2 E2 => qn B2 σ2 H2 s2 a2 (g.trans g2) E2) qr (fun D' fs d B2 σ2 H2 s2 a2 g2 E2 er => qx D' fs d B2 σ2 H2 s2 a2 (g.trans g2) E2 er) qo
theorem ry_tryA {S : Addr} {i : Nat} {tb : WX → TS} {ab : AStmY} {ts : Addr → Value → Option Addr → TS} {as_ : Addr → Addr → Option Addr → AStm} {Wout : WX} (hb : ∀ W, RSY K Δ W (tb W) ab) (hs : ∀ a D d, RS K Δ (ts a (.ref D) d) (as_ a D d)) :
    RSY K Δ W (tTryA K tb (.ref S) i ts Wout) (fun A _ O s => ab A (fun D fs s' => PySem.W.exmOne K (.ref D) (.ref S) = some true ∧ ∀ a d, as_ a D d ⟨fun s2 => A.nx (s2.put i .free), A.rt⟩ (s'.put i (.exc a D d fs))) O s) := by
  intro C B σ H s D A X O E h qn qr qx qo
  refine hb _ C B σ H s D A _ O E h qn qr (fun D' fs d B' σ' H' s' hx g E' er => ⟨true, hx.1, fun _ a ha => ?_, fun z => nomatch z⟩) qo
  exact hs a D' d C B' _ H' _ _ _ (E'.putE er) (hx.2 a d) (fun B2 σ2 H2 s2 a2 g2 E2 => qn B2 _ H2 _ a2 (g.trans g2) (E2.free i)) qr
/-- return C(..) -/
theorem ry_retMk [WDK K Δ] {R : ROb} {Cc : Addr} {ta : TA} {aa : AA} (hR : ∀ x ds T A X, R x ds T A X → R x ds T (fun d T' => d = .none ∧ A d T') X) (h1 : RA K Δ ta aa) : RSY K Δ W (tRet (tMakeS Cc (spO K R) W ta)) (fun _ X O s => aa s fun ds s1 => aMk Cc R ds s1 O X) := by
  intro C B σ H s D A X O E h qn qr qx qo
  refine h1 C B σ H s _ _ E h fun vs ds H1 s1 a1 m1 E1 dv => ?_
  exact mkO E1 dv a1 hR (fun x H' s' o m E' => qo x H' s' o E'.mw E'.dk) fun D' fs d H' s' x m E' er => qx D' fs d B σ H' s' x (.of_mv ((m1.trans m).up E.sub)) E' er
end
/-- a def of data that hands data or an object back -/
def spY (K : PySem.W.Frag) (R : List PyData → Tb → (PyData → Tb → Prop) → (Addr → Tb → Prop) → Prop) : Sp := fun vs H Q _ => ∃ (B : List Addr) (ds : List PyData) (T : Tb) (A : PyData → Tb → Prop) (O : Addr → Tb → Prop), Stands B H ∧ DvAll K H B vs ds ∧ Wd K H T ∧ R ds T A O ∧
  (∀ v d T' H', A d T' → Mx true [] H H' → Wd K H' T' → Dv K H' B v d → Q v H') ∧ ∀ x T' H', O x T' → Mx true [] H H' → Wd K H' T' → Q (.ref x) H'
def startY (N : List Str) (ds : List PyData) (T : Tb) : AS := ⟨ds.map Sl.dat ++ List.replicate (N.length - ds.length) .free, some ⟨0, T⟩⟩
theorem startY_en {K : PySem.W.Frag} {N : List Str} {vs : List V} {ds : List PyData} {T : Tb} {H : Hp} {B : List Addr} (st : Stands B H) (dv : DvAll K H B vs ds) (wd : Wd K H T) : En K (ΔW K) ⟨0, [], B, H, st⟩ B (L2.start N vs) H (startY N ds T) := by
  refine ⟨?_, fun i d h => start_dat (N := N) dv _ h _, fun i h => ?_, fun i a D d fs h => absurd h (start_noe _ _ _ _ _), ⟨fun _ => 0, fun i es h ho => ?_, fun i j d1 d2 h _ ho => ?_⟩, st, fun a ha => absurd ha List.not_mem_nil, fun b hb => hb, fun k hk => ?_, .refl _ _⟩
  · show (vs.map some ++ List.replicate (N.length - vs.length) none).length = (ds.map Sl.dat ++ List.replicate (N.length - ds.length) Sl.free).length
    rw [List.length_append, List.length_append, List.length_map, List.length_map, List.length_replicate, List.length_replicate, dv.len]
  · rcases start_not _ h with z | ⟨d, z⟩ <;> cases z
  · rcases start_not _ h with z | ⟨d, z⟩ <;> (subst z; cases ho)
  · rcases start_not _ h with z | ⟨d, z⟩ <;> (subst z; cases ho)
  · cases hk
    exact wd
theorem goY {K : PySem.W.Frag} {R : List PyData → Tb → (PyData → Tb → Prop) → (Addr → Tb → Prop) → Prop} {vs : List V} {H : Hp} {Q : VK} {E : XK} {N : List Str} {t : TS} {a : AStmY} (h : spY K R vs H Q E) (rs : RSY K (ΔW K) (fun _ _ _ _ => False) t a)
    (hb : ∀ ds T A O, R ds T A O → a ⟨fun s => ∃ k, s.k = some k ∧ A .none k.T, fun d s => ∃ k, s.k = some k ∧ A d k.T⟩ (fun _ _ _ => False) (fun x s => ∃ k, s.k = some k ∧ O x k.T) (startY N ds T)) : t { nx := fun _ H' => Q .non H', rt := Q } (L2.start N vs) H := by
  obtain ⟨B, ds, T, A, O, st, dv, wd, r, q, qo⟩ := h
  refine rs ⟨0, [], B, H, st⟩ B _ H (startY N ds T) _ _ _ _ (startY_en st dv wd) (hb ds T A O r) (fun B' σ' H' s' a' g E' => ?_) (fun v d H' s' a' rt => ?_) (fun D' fs d B' σ' H' s' a' g E' er => a') fun x H' s' o m dk => ?_
  · obtain ⟨k, hk, a'⟩ := a'
    exact q _ _ _ _ a' E'.mw (E'.dk k hk) .non
  · obtain ⟨k, hk, a'⟩ := a'
    exact q _ _ _ _ a' rt.mw (rt.dk k hk) rt.dv
  · obtain ⟨k, hk, o⟩ := o
    exact qo x _ H' o m (dk k hk)
theorem lenY {K : PySem.W.Frag} {R : List PyData → Tb → (PyData → Tb → Prop) → (Addr → Tb → Prop) → Prop} {vs : List V} {H : Hp} {Q : VK} {E : XK} {n : Nat} (h : spY K R vs H Q E) (hl : ∀ ds T A O, R ds T A O → ds.length = n) : vs.length = n := by
  obtain ⟨B, ds, T, A, O, st, dv, wd, r, q, qo⟩ := h
  rw [dv.len]
  exact hl ds T A O r
def rCntB (K : PySem.W.Frag) : V → List V → Hp → VK → Prop := fun x xs H Q => ∃ (p : Addr) (bs : List Bool) (b : Bool), x = .ref p ∧ xs = [.bl b] ∧ SqL K H p (bs.map V.bl) ∧ Q (.int ((bs.countP fun y => decide (y = b) : Nat) : Int)) H
theorem bls_read {h : Heap} : ∀ {bs : List Bool} {its : List Value}, Vals (bs.map V.bl) its → ∃ as, ReadsAll h its (bs.map PySem.W.Datum.toD) as
  | [], _, .nil => ⟨_, .nil⟩
  | b :: bs, _, .cons r t => by
    obtain ⟨as, q⟩ := bls_read (h := h) t
    cases r
    exact ⟨_, .cons (.bool b) q⟩
theorem kcntB {X : Cx} (K : PySem.W.Frag) (hu : X.A.units + 64 < cLine) (hK : X.K = K := by rfl) : MtR X "list.count" (rCntB K) := by
  subst hK
  intro pins s σ H x xs v us Q I rx rxs h
  obtain ⟨p, bs, b, rfl, rfl, hs, q⟩ := h
  cases rx
  obtain ⟨u, rfl, ru⟩ := rxs.one
  cases ru
  obtain ⟨its, rv, ⟨o, n, ho, hc, hdn, hd⟩, hlen⟩ := I.list hs
  refine PySem.W.count_list_datum (α := Bool) (xs := bs) (x := b) ⟨o, ho, hc, n, hd⟩ (by rw [List.toList_toArray]; exact bls_read rv) ⟨_, .bool b⟩ (by show X.A.units + 1 + 0 < cLine; omega) ?_
  exact ⟨.int _, H, I.tok _, ⟨_, rfl⟩, q⟩
section
variable {K : PySem.W.Frag} {Δ : DK}
theorem re_countB {to te : TE} {ao ae : AE} (h1 : RE K Δ to ao) (h2 : RE K Δ te ae) : RE K Δ (tBM K "list" (rCntB K) to (tCons te tNil)) (fun s A => ao s fun d s1 => (∃ ds, d = .list ds) ∧ ae s1 fun e s2 => ∃ (bs : List Bool) (b : Bool), d = .list (bs.map .bool) ∧ e = .bool b ∧ A (.int ((bs.countP fun y => decide (y = b) : Nat) : Int)) s2) := by
  intro C B σ H s Q A E h q
  refine h1 C B σ H s _ _ E h fun v d H1 s1 a1 m1 E1 dv => ?_
  obtain ⟨⟨ds, ed⟩, a1⟩ := a1
  subst ed
  obtain ⟨p, us, ep, hp, hB, hd⟩ := dv.lstI
  subst ep
  refine ⟨.inl ⟨rfl, us, SqL.of hp⟩, h2 C B σ H1 s1 _ _ E1 a1 fun u e H2 s2 a2 m2 E2 du => ?_⟩
  obtain ⟨bs, b, ed, ee, a⟩ := a2
  subst ee
  cases du
  cases ed
  rw [hd.bools] at hp
  exact ⟨p, bs, b, rfl, rfl, SqL.of ((m2.up E2.sub).kp _ _ hB rfl hp), q _ _ _ _ a (m1.trans m2) E2 (.int _)⟩
structure IsiC (K : PySem.W.Frag) (C : Addr) : Prop where
  cl : Cls K C
  ha : PySem.W.findIn K (.ref C) "__class__" = some (some (.builtin "object.__class__"))
  hn : PySem.W.specialIn K (.builtin "object.__class__") "__get__" = some (some (.builtin "getset_descriptor.__get__"))
  ht : PySem.W.takesIn K (.builtin "object.__class__") = some true
  hm : PySem.W.mroIn K C (.type "object") = some true
def isLd : PyData → Bool
  | .list _ => true
  | _ => false
theorem kit_listO {d : PyData} : PySem.W.kitOne K (.type (kindOf d)) (.type "list") = some (isLd d) := by
  cases d <;> rfl
/-- isinstance(x, list), x an object or not -/
theorem re_isiO [WDK K Δ] {i : Nat} : RE K Δ (tCB (rIsi K) (tCons (tVar i) (tCons (tC (.ty "list")) tNil))) (fun s A => (∃ a k fs Cc, s.env[i]? = some (osl a) ∧ s.k = some k ∧ getT k.T a = some (Cc, fs) ∧ IsiC K Cc ∧ PySem.W.kitOne K (.ref Cc) (.type "list") = some false ∧ A (.bool false) s) ∨ ∃ d, s.env[i]? = some (.dat d) ∧ A (.bool (isLd d)) s) := by
  intro C B σ H s Q A E h q
  rcases h with ⟨a, k, fs, Cc, hi, hk', g, hc, hk, a'⟩ | ⟨d, hi, a'⟩
  · obtain ⟨dx, us, h1', h2, h3⟩ := (WDK.get (K := K) (E.dk k hk')).get g
    exact ⟨_, (E.ex i _ _ _ _ hi).1, .ref a, .ty "list", .ref Cc, .type "list", false, rfl, .ty "list", .inl (.base (.ins h1' hc.cl hc.ha hc.hn hc.ht hc.hm)), hk, q _ _ _ _ a' (.refl _ _) E (.bl _)⟩
  · obtain ⟨v, hv, dv⟩ := E.sl i d hi
    exact ⟨v, hv, v, .ty "list", _, .type "list", isLd d, rfl, .ty "list", dv.ty, kit_listO, q _ _ _ _ a' (.refl _ _) E (.bl _)⟩
/-- f(x, ..) of a def with an object ahead, where nothing is raised -/
theorem re_callOG [WDK K Δ] {R : ROb} {i : Nat} {ta : TA} {aa : AA} (h1 : RA K Δ ta aa) : RE K Δ (tCall (spO K R) [] E0 (tCons (tVar i) ta)) (aCallO R i aa fun _ _ _ => False) := by
  intro C B σ H s Q A E h q
  obtain ⟨a, hi, h⟩ := h
  refine ⟨_, (E.ex i _ _ _ _ hi).1, h1 C B σ H s _ _ E h fun vs ds H1 s1 a1 m1 E1 dv => ?_⟩
  show spO K R ((V.ref a :: vs) ++ []) H1 Q E0
  rw [List.append_nil]
  have := runO (W := fun _ _ _ _ => False) (X := fun _ _ _ => False) E1 dv a1 (fun v d H' s' a' m' E' dv' => q v d H' s' a' (m1.trans m') E' dv') fun D fs d H' s' x _ _ _ => x
  obtain ⟨a2, vs2, B2, ds2, T2, A2, X2, p1, p2, p3, p4, p5, p6, p7⟩ := this
  exact ⟨a2, vs2, B2, ds2, T2, A2, X2, p1, p2, p3, p4, p5, p6, fun D fs d T' H' x m hw er => (p7 D fs d T' H' x m hw er).elim⟩
theorem En.putO {C : Cy} {B : List Addr} {σ : L2.St} {H : Hp} {s : AS} (E : En K Δ C B σ H s) {i : Nat} {a : Addr} : En K Δ C B (σ.set i (some (.ref a))) H (s.put i (osl a)) :=
  E.putX (fun d z => nomatch z) (fun z => nomatch z) rfl fun a' D d fs z => by
    cases z
    exact ⟨rfl, .inl ⟨rfl, rfl⟩⟩
theorem nl_keep {r c : Addr} {H H' : Hp} {k : Int} (kp : Keep r c H H') (d : Deck H r c k) : ∀ a o, lsy o = false → H a = some o → H' a = some o := fun a o l e => by
  obtain ⟨ns, j, h1, h2, h3, _⟩ := d
  refine kp a o (fun z => ?_) (fun z => ?_) e
  · rw [z, h2] at e
    cases e
    cases l
  · rw [z, h3] at e
    cases e
    cases l
theorem conv_drawO : ∀ vs H Q E, spK K (ΔO K) RDraw vs H Q E → spDraw vs H Q E := by
  rintro vs H Q E ⟨r, as, B, vs', ds, k, A, rfl, sub, st, ⟨⟨c, rfl, dk⟩, hw⟩, dv, ⟨lim, rfl, hk, h1, h2, a⟩, q⟩
  obtain ⟨v, ev, d1⟩ := dv.one
  cases d1
  subst ev
  exact ⟨r, c, k.n, lim, rfl, dk, hk, h1, h2, fun v H' v0 v1 dk' kp => q _ _ _ _ (a v v0 v1) (mx_keep kp dk dk') ⟨⟨c, rfl, dk'⟩, hw.nl (nl_keep kp dk)⟩ (.int v)⟩
theorem conv_deckO : ∀ vs H Q E, spDk K (ΔO K) vs H Q E → spDeck K vs H Q E := by
  rintro vs H Q E ⟨s, ns, e, hS, hl, q⟩
  exact ⟨s, ns, e, hS, hl, fun a c H' dk _ _ _ => q a [a, c] H' ⟨⟨c, rfl, dk⟩, .nil⟩ (deck_stands dk)⟩
end
theorem setT_new {T : Tb} {x : Addr} {fs : List (Str × PyData)} (h : x ∉ T.map (·.1)) : setT T x fs = T := by
  unfold setT
  rw [show T = T.map id from (List.map_id T).symm, List.map_map]
  refine List.map_congr_left fun e he => ?_
  show (if e.1 = x then (e.1, e.2.1, fs) else e) = e
  rw [if_neg fun z => h (by rw [← z]; exact List.mem_map_of_mem he)]
theorem getT_head {T : Tb} {x C : Addr} {fs : List (Str × PyData)} : getT ((x, C, fs) :: T) x = some (C, fs) := by
  unfold getT
  simp
theorem setT_head {T : Tb} {x C : Addr} {fs fs' : List (Str × PyData)} (h : x ∉ T.map (·.1)) : setT ((x, C, fs) :: T) x fs' = (x, C, fs') :: T := by
  show (if x = x then (x, C, fs') else (x, C, fs)) :: setT T x fs' = _
  rw [if_pos rfl, setT_new h]
def RWithin : RP := fun ds A => ∃ d lo hi, ds = [d, .int lo, .int hi] ∧ A (.bool (numIn lo hi d))
theorem nt60 {i : Int} (h : i.natAbs < 10 ^ 40) : Neat (.int i) 16000000 60 := (nt_int (e := 1) h).mono (by decide) (by decide)
theorem iteN {c : Bool} {A B : Prop} (h : c = false) (b : B) : if c = true then A else B := by
  rw [h]
  exact b
def T2 (CP x o : Addr) (g s : Int) : Tb := [(x, CP, fsP 7 0), (o, CP, fsP g s)]
section
variable {K : PySem.W.Frag} {Δ : DK}
def rJoin (K : PySem.W.Frag) : V → List V → Hp → VK → Prop := fun x xs H Q => ∃ a p, ∃ ys : List Str, x = .str a ∧ xs = [.ref p] ∧ (SqL K H p (ys.map V.str) ∨ SqT K H p (ys.map V.str)) ∧
    (ys.map (·.length)).sum + ys.length * a.length ≤ 16777216 ∧ Q (.str (Txt.join a ys)) H
def tJoin (K : PySem.W.Frag) (to te : TE) : TE := fun σ H Q => to σ H fun x H1 => (∃ a, x = .str a) ∧ te σ H1 fun y H2 => rJoin K x [y] H2 Q
theorem kjoin {X : Cx} {o e : Expr} {to te : TE} {apos pos : Pos} (K : PySem.W.Frag) (ho : PE X o to) (he : PE X e te) (hK : X.K = K := by rfl) (hs : starEach [e] X.env = [(false, eval e X.env)] := by rfl) (hbase : attributeBase o "join" X.env (eval o X.env) = eval o X.env := by rfl) (hline : (apos.endLine == pos.line) = true := by rfl) :
    PE X (.Call (.Attribute o "join" apos) [e] [] pos) (tJoin K to te) := by
  subst hK
  exact pe_join ho he hs hbase hline
theorem DvAll.strs : ∀ {H : Hp} {B : List Addr} {vs : List V} {ys : List Str}, DvAll K H B vs (ys.map PyData.str) → vs = ys.map V.str
  | _, _, [], [], _ => rfl
  | _, _, _ :: _, [], h => by cases h
  | _, _, vs, y :: ys, h => by
    cases h with
    | cons h1 h2 =>
      cases h1
      rw [List.map_cons, DvAll.strs h2]
theorem re_join {to te : TE} {ao ae : AE} (h1 : RE K Δ to ao) (h2 : RE K Δ te ae) : RE K Δ (tJoin K to te) (fun s A => ao s fun d s1 => (∃ y, d = .str y) ∧ ae s1 fun e s2 => ∃ (a : Str) (ys : List Str), d = .str a ∧ e = .list (ys.map .str) ∧ (ys.map (·.length)).sum + ys.length * a.length ≤ 16777216 ∧ A (.str (Txt.join a ys)) s2) := by
  intro C B σ H s Q A E h q
  refine h1 C B σ H s _ _ E h fun v d H1 s1 a1 m1 E1 dv => ?_
  obtain ⟨⟨y, ed⟩, a1⟩ := a1
  subst ed
  have ev := dv_str dv
  subst ev
  refine ⟨⟨y, rfl⟩, h2 C B σ H1 s1 _ _ E1 a1 fun u e H2 s2 a2 m2 E2 du => ?_⟩
  obtain ⟨a, ys, ea, ee, hl, a⟩ := a2
  cases ea
  subst ee
  obtain ⟨p, us, ep, hp, _, hd⟩ := du.lstI
  subst ep
  rw [hd.strs] at hp
  exact ⟨_, p, ys, rfl, rfl, .inl (SqL.of hp), hl, q _ _ _ _ a (m1.trans m2) E2 (.str _)⟩
def tJoined (ts : List TE) : TE := fun σ H Q => tJs ts Str.empty σ H fun out H1 => Q (.str out) H1
theorem kjoined {X : Cx} {v1 v2 : Expr} {rest : List Expr} {ts : List TE} {pos : Pos} (h : PJ X (v1 :: v2 :: rest) ts) : PE X (.JoinedStr (v1 :: v2 :: rest) pos) (tJoined ts) := pe_joined h
def aJs : List AE → Str → AS → (Str → AS → Prop) → Prop
  | [], acc, s, A => A acc s
  | a :: as, acc, s, A => a s fun d s1 => ∃ y : Str, d = .str y ∧ (acc ++ y).length ≤ sizeLine ∧ aJs as (acc ++ y) s1 A
inductive RJs (K : PySem.W.Frag) (Δ : DK) : List TE → List AE → Prop where
  | nil : RJs K Δ [] []
  | cons {t : TE} {a : AE} {ts : List TE} {as : List AE} : RE K Δ t a → RJs K Δ ts as → RJs K Δ (t :: ts) (a :: as)
theorem rjs_run {ts : List TE} {as : List AE} (h : RJs K Δ ts as) : ∀ (C : Cy) (B : List Addr) (σ : L2.St) (H : Hp) (s : AS) (acc : Str) (Q : Str → Hp → Prop) (A : Str → AS → Prop), En K Δ C B σ H s → aJs as acc s A →
    (∀ out H' s', A out s' → Mx Δ.w C.as H H' → En K Δ C B σ H' s' → Q out H') → tJs ts acc σ H Q := by
  induction h with
  | nil =>
    intro C B σ H s acc Q A E a q
    exact q _ _ _ a (.refl _ _) E
  | cons h1 _ ih =>
    intro C B σ H s acc Q A E a q
    refine h1 C B σ H s _ _ E a fun v d H1 s1 a1 m1 E1 dv => ?_
    obtain ⟨y, ed, hl, a1⟩ := a1
    subst ed
    exact ⟨y, dv_str dv, hl, ih C B σ H1 s1 _ _ A E1 a1 fun out H' s' a' m' E' => q _ _ _ a' (m1.trans m') E'⟩
theorem re_fstr {ts : List TE} {as : List AE} (h : RJs K Δ ts as) : RE K Δ (tJoined ts) (fun s A => aJs as Str.empty s fun out s1 => A (.str out) s1) := by
  intro C B σ H s Q A E a q
  exact rjs_run h C B σ H s _ _ _ E a fun out H' s' a' m' E' => q _ _ _ _ a' m' E' (.str _)
def aFmt (a : AE) : AE := fun s A => a s fun d s1 => (∃ y : Str, d = .str y ∧ y.length ≤ sizeLine ∧ A (.str y) s1) ∨ ∃ i : Int, d = .int i ∧ i.natAbs.log2 < 1920 ∧ A (.str (toString i)) s1
theorem re_fmt {te : TE} {ae : AE} (h : RE K Δ te ae) : RE K Δ (tFmt te) (aFmt ae) := by
  intro C B σ H s Q A E a q
  refine h C B σ H s _ _ E a fun v d H1 s1 a1 m1 E1 dv => ?_
  rcases a1 with ⟨y, ed, hl, a1⟩ | ⟨i, ed, hl, a1⟩
  · subst ed
    exact .inl ⟨y, dv_str dv, hl, q _ _ _ _ a1 m1 E1 (.str _)⟩
  · subst ed
    exact .inr ⟨i, dv_int dv, hl, q _ _ _ _ a1 m1 E1 (.str _)⟩
end
abbrev itx (i : Int) : Str := toString i
def itl (i : Int) : List Nat := match i with
  | .ofNat n => TL.numL n
  | .negSucc n => 45 :: TL.numL (n + 1)
theorem itx_tl (i : Int) : TL.tl (itx i) = itl i := by
  cases i with
  | ofNat n => exact TL.tl_num n
  | negSucc n =>
    show TL.tl (Str.ofString (toString (Int.negSucc n))) = 45 :: TL.numL (n + 1)
    rw [TL.tl_ofString]
    show ("-" ++ toString (n + 1)).toList.map Char.toNat = _
    rw [String.toList_append, List.map_append, ← TL.tl_ofString (toString (n + 1))]
    have e := TL.tl_num (n + 1)
    rw [show (toString (((n + 1 : Nat)) : Int)) = toString (n + 1) from rfl] at e
    rw [e]
    rfl
theorem numL_cap {n : Nat} (h : n < 10 ^ 40) : (TL.numL n).length ≤ 40 := TL.numL_len (by decide) h
theorem itx_len {i : Int} (h : i.natAbs < 10 ^ 40) : (itx i).length ≤ 41 := by
  rw [TL.len_tl, itx_tl]
  cases i with
  | ofNat n =>
    have := numL_cap (n := n) h
    show (TL.numL n).length ≤ 41
    omega
  | negSucc n =>
    have := numL_cap (n := n + 1) h
    show (TL.numL (n + 1)).length + 1 ≤ 41
    omega
theorem len_app (x y : Str) : (x ++ y).length = x.length + y.length := by
  rw [TL.len_tl, TL.tl_append, List.length_append, ← TL.len_tl, ← TL.len_tl]
theorem fitsT {n : Nat} (h : n ≤ 1000) : n ≤ sizeLine := Nat.le_of_lt (small1000 h)
def fsB (m : Int) (tls dn sts : PyData) (aim : Int) (wt : Bool) : List (Str × PyData) := [("m", .int m), ("tools", tls), ("done", dn), ("states", sts), ("aim", .int aim), ("is_watched", .bool wt)]
def REdits (C : Addr) : ROb := fun a ds T A _ => ∃ m tls dn sts aim wt, ds = [] ∧ getT T a = some (C, fsB m tls dn sts aim wt) ∧ A dn T
def RLenB (C : Addr) : ROb := fun a ds T A _ => ∃ m tls dn sts aim wt, ds = [] ∧ getT T a = some (C, fsB m tls (.tuple dn) sts aim wt) ∧ A (.int (dn.length : Nat)) T
def RInitB (C : Addr) : ROb := fun a ds T A _ => ∃ (m : Int) (tls : List (List (Int × Int))), ds = [.int m, toolsD tls] ∧ getT T a = some (C, []) ∧ 1 ≤ m ∧ m ≤ 60 ∧ (∀ t ∈ tls, IsTool m t) ∧ 1 ≤ tls.length ∧ tls.length ≤ 4 ∧ A .none (setT T a (fsB m (toolsD tls) (.tuple []) (.tuple [tupD (upto m)]) 1 false))
theorem hardA_all : ∀ {ds : List PyData}, (∀ d ∈ ds, hardD d = true) → hardA ds = true
  | [], _ => rfl
  | d :: ds, h => by
    show (hardD d && hardA ds) = true
    rw [h d List.mem_cons_self, hardA_all fun e he => h e (List.mem_cons_of_mem _ he)]
    rfl
theorem hard_ints (ns : List Int) : hardD (tupD ns) = true := hardA_all fun d hd => by
  obtain ⟨i, _, e⟩ := List.mem_map.mp hd
  rw [← e]
  rfl
theorem hard_tool (tl : List (Int × Int)) : hardD (toolD tl) = true := hardA_all fun d hd => by
  obtain ⟨p, _, e⟩ := List.mem_map.mp hd
  rw [← e]
  rfl
theorem hard_tools (tls : List (List (Int × Int))) : hardD (toolsD tls) = true := hardA_all fun d hd => by
  obtain ⟨t, _, e⟩ := List.mem_map.mp hd
  rw [← e]
  exact hard_tool t
theorem rg_tupB (m : Int) : PyData.tuple ((rgD 0 m).map PyData.int) = tupD (upto m) := congrArg PyData.tuple (id_ints m)
theorem hard_one (ns : List Int) : hardD (.tuple [tupD ns]) = true := by
  show (hardD (tupD ns) && true) = true
  rw [hard_ints]
  rfl
theorem fn_wide {P : Program} {w : World} {K : PySem.W.Frag} {mg : Str → Option Value} {base : Heap} {k : Nat} {f : Addr} {fd : FuncData} {ps : List Str} {sp : Sp} (F : FnOk P w K mg base CX0 k f fd ps sp) : FnOk P w K mg base (L2.CX P w) k f fd ps sp :=
  ⟨F.len, fun A outer s H args us vs Q E hr he hb hv hs => codeAny_mono (F.run A outer s H args us vs Q E hr he hb hv hs) fun r s' h => by
    cases r with
    | error e => exact False.elim h
    | ok fl => cases fl <;> exact h⟩
def RPushB (C : Addr) : ROb := fun a ds T A _ => ∃ m tls tl dn sts ps aim, ∃ t i : Int, ds = [.int t, .int i] ∧ getT T a = some (C, fsB m (toolsD tls) (.tuple dn) (.tuple sts) aim false) ∧ dn.length < 60 ∧ t.natAbs < 10 ^ 30 ∧ 0 ≤ i ∧ tls[i.toNat]? = some tl ∧ IsTool m tl ∧ 1 ≤ m ∧ m ≤ 60 ∧ atI sts (-1) = some (tupD ps) ∧ Places m ps ∧ hardA dn = true ∧ hardA sts = true ∧ sts.length ≤ 900 ∧
  A (.int ((dn.length : Nat) + 1)) (setT T a (fsB m (toolsD tls) (.tuple (dn ++ [.tuple [.str "push", .int t, .int i]])) (.tuple (sts ++ [tupD (imgP m (pushF m tl t) ps)])) aim false))
def RLearnB (C : Addr) : ROb := fun a ds T A _ => ∃ m tls dn sts ps aim, ∃ b l : Int, ds = [.int b, .int l] ∧ getT T a = some (C, fsB m tls (.tuple dn) (.tuple sts) aim false) ∧ dn.length < 60 ∧ 0 ≤ b ∧ b < m ∧ 1 ≤ l ∧ l ≤ m ∧ m ≤ 60 ∧ atI sts (-1) = some (tupD ps) ∧ Places m ps ∧ ps.filter (inArc m b l) ≠ [] ∧ hardA dn = true ∧ hardA sts = true ∧ sts.length ≤ 900 ∧
  A (.int ((dn.length : Nat) + 1)) (setT T a (fsB m tls (.tuple (dn ++ [.tuple [.str "learn", .int b, .int l]])) (.tuple (sts ++ [tupD (ps.filter (inArc m b l))])) aim false))
theorem re_methD {K : PySem.W.Frag} {Δ : DK} [WDK K Δ] {R : ROb} {Cc : Addr} {m : Str} {i : Nat} : RE K Δ (tMeth Cc m (spO K R) [.non] E0 (tVar i) tNil) (fun s A => ∃ a, s.env[i]? = some (osl a) ∧ (∃ k fs, s.k = some k ∧ getT k.T a = some (Cc, fs) ∧ fs.lookup m = none) ∧ aObj R a [.none] s A fun _ _ _ => False) := by
  intro C B σ H s Q A E h q
  obtain ⟨a, hi, ⟨k, fs, hk, g, hl⟩, h⟩ := h
  obtain ⟨dx, us, h1', h2, h3⟩ := (WDK.get (K := K) (E.dk k hk)).get g
  refine ⟨_, (E.ex i _ _ _ _ hi).1, a, dx, us, rfl, h1', h3.none hl, ?_⟩
  obtain ⟨k, hk, h⟩ := h
  refine ⟨a, [.non], B, [.none], k.T, _, _, rfl, E.st, .cons .non .nil, WDK.get (K := K) (E.dk k hk), h, fun v d T' H' a' m hw dv' => ?_, fun D fs d T' H' x m hw er => x.elim⟩
  exact q v d H' _ a' (m.wide (WDK.w K)) (E.world hk m hw) dv'
section
variable {X : Cx} {C f : Addr} {fd : FuncData} {k : Nat} {sp : Sp}
theorem call_lenO (hl : PySem.W.findIn X.K (.ref C) "__len__" = some (some (.ref f))) (hf : PySem.W.isFn X.K (.ref f) = true) (F : FnOk X.prog X.w X.K X.mg X.base CX0 k f fd ["self"] sp) (hr : Room (k + 2) X.A) (hb : L2.Binds X.K fd ["self"] []) :
    CallR X (.builtin "len") (fun xs H Q => ∃ a dx fs, xs = [.ref a] ∧ H a = some (.ins C dx fs) ∧ sp [.ref a] H (fun v H' => ∃ n : Nat, v = .int (n : Nat) ∧ n < 2 ^ 60 ∧ Q (.int (n : Nat)) H') E0) := by
  intro pins s σ H xs us Q I r h
  obtain ⟨a, dx, fs, e, ea, h⟩ := h
  subst e
  obtain ⟨u, e, ru⟩ := r.one
  subst e
  obtain rfl : u = Value.ref a := ru
  obtain ⟨mA, O, _, _, _, _⟩ := ins_get I.hok ea
  obtain ⟨od, J, _⟩ := O.look
  refine Calls.call_function_entry kind_len plain_len entry_len (args_len1 _) ?_
  unfold Builtin.«len»
  refine wpAny_bind (m := oneArg "len" _) (wpAny_pure ?_)
  refine wpAny_bind (m := callSpecial? (.ref a) (PySem.Str.ofString "__len__")) (PySem.W.special_fn I.kIn J hl (beq_iff_eq.mp hf) ?_)
  refine wpAny_call (codeAny_mono (F.run _ X.stack s H ⟨[.ref a], []⟩ [.ref a] [.ref a] _ E0 (hr.in1.mono (by omega)) I.env0.in1 (hb s [.ref a] I.kIn rfl) (.cons rfl .nil) h) fun r s' hq => ?_)
  cases r with
  | error er => exact False.elim hq
  | ok fl =>
    cases fl with
    | ret u =>
      obtain ⟨v, H', I3, rv, n, en, hn, q⟩ := I.after hq
      subst en
      obtain ⟨t, rfl⟩ := rv
      refine wpAny_bind (wpAny_holding (wpAny_pure ?_))
      refine wpAny_bind (wpAny_letGo ?_)
      show wpAny _ _ (if ((n : Nat) : Int) < 0 then _ else _) _ _ _
      rw [if_neg (by omega)]
      show wpAny _ _ (if ((n : Nat) : Int) ≥ 2 ^ 63 then _ else _) _ _ _
      rw [if_neg (by omega)]
      exact wpAny_bind (wpAny_mkInt (wpAny_pure ⟨_, rfl, .int (n : Nat), H', I3.tok _, ⟨_, rfl⟩, q⟩))
    | next => exact False.elim hq
    | brk => exact False.elim hq
    | cont => exact False.elim hq
end
section
variable {X : Cx} {C f : Addr} {fd : FuncData} {k : Nat} {sp : Sp}
theorem call_strO (hl : PySem.W.findIn X.K (.ref C) "__str__" = some (some (.ref f))) (hf : PySem.W.isFn X.K (.ref f) = true) (F : FnOk X.prog X.w X.K X.mg X.base CX0 k f fd ["self"] sp) (hr : Room (k + 3) X.A) (hb : L2.Binds X.K fd ["self"] []) :
    CallR X (.type "str") (fun xs H Q => ∃ a dx fs, xs = [.ref a] ∧ H a = some (.ins C dx fs) ∧ sp [.ref a] H (fun v H' => ∃ t : Str, v = .str t ∧ Q (.str t) H') E0) := by
  intro pins s σ H xs us Q I r h
  obtain ⟨a, dx, fs, e, ea, h⟩ := h
  subst e
  obtain ⟨u, e, ru⟩ := r.one
  subst e
  obtain rfl : u = Value.ref a := ru
  obtain ⟨mA, O, _, _, _, _⟩ := ins_get I.hok ea
  obtain ⟨od, J, _⟩ := O.look
  refine PySem.W.kso_call (by have := hr.in1.in1.un; omega) I.kIn J hl hf ?_
  refine wpAny_call (codeAny_mono (F.run _ X.stack s H ⟨[.ref a], []⟩ [.ref a] [.ref a] _ E0 (hr.in1.in1.mono (by omega)) I.env0.in1.in1 (hb s [.ref a] I.kIn rfl) (.cons rfl .nil) h) fun r s' hq => ?_)
  cases r with
  | error er => exact False.elim hq
  | ok fl =>
    cases fl with
    | ret u =>
      obtain ⟨v, H', I3, rv, t, en, q⟩ := I.after hq
      subst en
      obtain ⟨tk, rfl⟩ := rv
      exact ⟨.str t, H', I3, ⟨_, rfl⟩, q⟩
    | next => exact False.elim hq
    | brk => exact False.elim hq
    | cont => exact False.elim hq
end
/-- a method that len or str calls -/
structure SpecH (P : Program) (w : World) (K : PySem.W.Frag) (mg : Str → Option Value) (base : Heap) (k : Nat) (C : Addr) (m : Str) (sp : Sp) : Prop where
  me : ∃ f fd, PySem.W.findIn K (.ref C) m = some (some (.ref f)) ∧ PySem.W.isFn K (.ref f) = true ∧ FnOk P w K mg base CX0 k f fd ["self"] sp ∧ L2.Binds K fd ["self"] []
def rLenO (C : Addr) (sp : Sp) : List V → Hp → VK → Prop := fun xs H Q => ∃ a dx fs, xs = [.ref a] ∧ H a = some (.ins C dx fs) ∧ sp [.ref a] H (fun v H' => ∃ n : Nat, v = .int (n : Nat) ∧ n < 2 ^ 60 ∧ Q (.int (n : Nat)) H') E0
def rStrO (C : Addr) (sp : Sp) : List V → Hp → VK → Prop := fun xs H Q => ∃ a dx fs, xs = [.ref a] ∧ H a = some (.ins C dx fs) ∧ sp [.ref a] H (fun v H' => ∃ t : Str, v = .str t ∧ Q (.str t) H') E0
theorem klenO {X : Cx} {k j : Nat} {C : Addr} {sp : Sp} (M : SpecH X.prog X.w X.K X.mg X.base k C "__len__" sp) (hr : Room j X.A) (hk : k + 2 ≤ j) : CallR X (.builtin "len") (rLenO C sp) := by
  obtain ⟨f, fd, h1, h2, F, hb⟩ := M.me
  exact call_lenO h1 h2 F (hr.mono hk) hb
theorem kstrO {X : Cx} {k j : Nat} {C : Addr} {sp : Sp} (M : SpecH X.prog X.w X.K X.mg X.base k C "__str__" sp) (hr : Room j X.A) (hk : k + 3 ≤ j) : CallR X (.type "str") (rStrO C sp) := by
  obtain ⟨f, fd, h1, h2, F, hb⟩ := M.me
  exact call_strO h1 h2 F (hr.mono hk) hb
section
variable {K : PySem.W.Frag} {Δ : DK} [WDK K Δ]
theorem re_lenB {R : ROb} {Cc : Addr} {i : Nat} : RE K Δ (tCB (rLenO Cc (spO K R)) (tCons (tVar i) tNil)) (fun s A => ∃ a, s.env[i]? = some (osl a) ∧ (∃ k fs, s.k = some k ∧ getT k.T a = some (Cc, fs)) ∧ aObj R a [] s (fun d s' => ∃ n : Nat, d = .int (n : Nat) ∧ n < 2 ^ 60 ∧ A (.int (n : Nat)) s') fun _ _ _ => False) := by
  intro C B σ H s Q A E h q
  obtain ⟨a, hi, ⟨k, fs, hk, g⟩, h⟩ := h
  obtain ⟨dx, us, h1', h2, h3⟩ := (WDK.get (K := K) (E.dk k hk)).get g
  refine ⟨_, (E.ex i _ _ _ _ hi).1, a, dx, us, rfl, h1', ?_⟩
  obtain ⟨k, hk, h⟩ := h
  refine ⟨a, [], B, [], k.T, _, _, rfl, E.st, .nil, WDK.get (K := K) (E.dk k hk), h, fun v d T' H' a' m hw dv' => ?_, fun D fs d T' H' x m hw er => x.elim⟩
  obtain ⟨n, ed, hn, a'⟩ := a'
  subst ed
  cases dv'
  exact ⟨n, rfl, hn, q _ _ H' _ a' (m.wide (WDK.w K)) (E.world hk m hw) (.int _)⟩
theorem re_strB {R : ROb} {Cc : Addr} {i : Nat} : RE K Δ (tCB (rStrO Cc (spO K R)) (tCons (tVar i) tNil)) (fun s A => ∃ a, s.env[i]? = some (osl a) ∧ (∃ k fs, s.k = some k ∧ getT k.T a = some (Cc, fs)) ∧ aObj R a [] s (fun d s' => ∃ t : Str, d = .str t ∧ A (.str t) s') fun _ _ _ => False) := by
  intro C B σ H s Q A E h q
  obtain ⟨a, hi, ⟨k, fs, hk, g⟩, h⟩ := h
  obtain ⟨dx, us, h1', h2, h3⟩ := (WDK.get (K := K) (E.dk k hk)).get g
  refine ⟨_, (E.ex i _ _ _ _ hi).1, a, dx, us, rfl, h1', ?_⟩
  obtain ⟨k, hk, h⟩ := h
  refine ⟨a, [], B, [], k.T, _, _, rfl, E.st, .nil, WDK.get (K := K) (E.dk k hk), h, fun v d T' H' a' m hw dv' => ?_, fun D fs d T' H' x m hw er => x.elim⟩
  obtain ⟨t, ed, a'⟩ := a'
  subst ed
  cases dv'
  exact ⟨t, rfl, q _ _ H' _ a' (m.wide (WDK.w K)) (E.world hk m hw) (.str _)⟩
end
def benchTx (m : Int) (t p e : Nat) : Str := Str.empty ++ itx m ++ " places, " ++ itx (t : Nat) ++ " tools, " ++ itx (p : Nat) ++ " possible, " ++ itx (e : Nat) ++ " edits"
def RStrB (C : Addr) : ROb := fun a ds T A _ => ∃ m tls dn sts l aim wt, ds = [] ∧ getT T a = some (C, fsB m (.tuple tls) (.tuple dn) (.tuple sts) aim wt) ∧ atI sts (-1) = some (.tuple l) ∧ m.natAbs < 1000 ∧ tls.length < 1000 ∧ dn.length < 1000 ∧ l.length < 1000 ∧ A (.str (benchTx m tls.length l.length dn.length)) T
def gLst (K : PySem.W.Frag) (n : Nat) (t : TGs) : TG := fun v σ H Q => ∃ a xs, v = .ref a ∧ SqL K H a xs ∧ xs.length = n ∧ t xs σ H Q
theorem kglst {X : Cx} {pos : Pos} {es : List Expr} (K : PySem.W.Frag) (n : Nat) {k : Nat} {t : TGs} (hc : X.calm = true) (h : PGs X es t) (hK : X.K = K := by rfl)
    (hn : (assignEach es X.env).length = n := by rfl) (hst : (assignEach es X.env).findIdx? (·.1) = none := by rfl) : PG X (.Tuple es k pos) (gLst K n t) := by
  subst hK
  refine ⟨fun pins s σ H v u Q I r hw => ?_⟩
  obtain ⟨a, xs, e1, hq, hl, hw⟩ := hw
  subst e1
  cases r
  obtain ⟨its, rv, ht, hz⟩ := I.list hq
  rw [assign_Tuple]
  refine wpAny_bind (wpAny_standAt ?_)
  unfold unpack
  rw [show (assignEach es X.env).length = its.toArray.size by simp [hn, ← hl, rv.length], hst]
  refine wpAny_bind (wpAny_holding (PySem.W.kun_itemsOf (I.ok.hd hc) (by obtain ⟨o, n, ho, hc2, hdn, hd⟩ := ht; exact ⟨o, ho, hc2, n, hd⟩) fun h' hx => ?_))
  have I1 : Inv X pins σ H { s with heap := h' } := I.kept (t' := s.toks) fun b o e => hx b o (Nat.ne_of_lt (Heap.lt_size e)) e
  exact h.run pins _ σ H xs _ Q I1 (by simpa using rv) hw
def gaLst (n : Nat) (r : AGs) : AG := fun d s A => ∃ ds, d = .list ds ∧ ds.length = n ∧ r ds s A
theorem rg_lst {K : PySem.W.Frag} {Δ : DK} {n : Nat} {r : TGs} {ra : AGs} {is : List Nat} (h1 : RGs K Δ r ra is) : RG K Δ (gLst K n r) (gaLst n ra) is := by
  intro C B σ H s v d Q A E dv h q
  obtain ⟨ds, e, hl, a⟩ := h
  subst e
  obtain ⟨p, xs, ev, hp, hB, hd⟩ := dv.lstI
  subst ev
  exact ⟨p, xs, rfl, SqL.of hp, by rw [hd.len]; exact hl, h1 C B σ H s _ _ _ _ E hd a q⟩
def RDo (C : Addr) : ROb := fun a ds T A X => (∃ t i : Int, ds = [.tuple [.str "push", .int t, .int i]] ∧ RPushB C a [.int t, .int i] T A X) ∨ ∃ b l : Int, ds = [.tuple [.str "learn", .int b, .int l]] ∧ RLearnB C a [.int b, .int l] T A X
def RRightB (C : Addr) : ROb := fun a ds T A _ => ∃ m tls dn sts ps aim wt, ds = [.list [.int m, .tuple tls, tupD ps], .list dn] ∧ getT T a = some (C, fsB m (.tuple tls) (.tuple dn) (.tuple sts) aim wt) ∧ atI sts (-1) = some (tupD ps) ∧ m.natAbs < 1000 ∧ tls.length < 1000 ∧ dn.length < 1000 ∧ ps.length < 1000 ∧ Neat (.list [tupD ps, .tuple dn, .int (dn.length : Nat)]) 16000000 60 ∧ A (.bool true) T
theorem bench_join (m : Int) (t p e : Nat) : benchTx m t p e = Txt.join " " [itx m, "places,", itx (t : Nat), "tools,", itx (p : Nat), "possible,", itx (e : Nat), "edits"] := by
  have l1 : TL.tl (" places, " : Str) = 32 :: TL.tl ("places," : Str) ++ [32] := by decide +kernel
  have l2 : TL.tl (" tools, " : Str) = 32 :: TL.tl ("tools," : Str) ++ [32] := by decide +kernel
  have l3 : TL.tl (" possible, " : Str) = 32 :: TL.tl ("possible," : Str) ++ [32] := by decide +kernel
  have l4 : TL.tl (" edits" : Str) = 32 :: TL.tl ("edits" : Str) := by decide +kernel
  have l5 : TL.tl (" " : Str) = [32] := by decide +kernel
  have l6 : TL.tl Str.empty = [] := by decide +kernel
  apply TL.ext_tl
  unfold benchTx
  rw [TL.join_eq, TL.tl_join, l5]
  simp only [TL.tl_append, l1, l2, l3, l4, l6, List.map_cons, List.map_nil, TL.joinL, List.nil_append, List.append_assoc, List.cons_append]
def stD (m : Int) (tls : List (List (Int × Int))) (ps : List Int) : PyData := .list [.int m, toolsD tls, tupD ps]
theorem zl_len : typeLookup (.type "zip") "__len__" = pure none := am_miss_of_fast (by decide +kernel)
theorem zl_hint : typeLookup (.type "zip") "__length_hint__" = pure none := am_miss_of_fast (by decide +kernel)
/-- how a zip of two lists stands behind i pairs, all of which are still there -/
structure ZSt (z TI TO i1 i2 l1 l2 S lo : Addr) (xs ys : Array Value) (i : Nat) (h : Heap) (acc : Array Value) : Prop where
  ti : PySem.IsPair h TI (.ref i1) (.ref i2)
  h1 : h.IsListIter i1 l1 i
  h2 : h.IsListIter i2 l2 i
  l1 : h.IsList l1 xs
  l2 : h.IsList l2 ys
  hz : (PySem.IsZip h z TI TO .none ∧ ∃ a b, PySem.IsPair h TO a b) ∨ ∃ T f oT, PySem.IsZipHeld h z TI TO T f ∧ h.get? T = some oT ∧ lo ≤ T
  sz : acc.size = i
  ps : ∀ (j : Nat) (v : Value), acc[j]? = some v → ∃ T x y, v = .ref T ∧ lo ≤ T ∧ xs[j]? = some x ∧ ys[j]? = some y ∧ PySem.IsPair h T x y
  nd : ∀ (j k : Nat) (v : Value), acc[j]? = some v → acc[k]? = some v → j = k
structure ZLow (z TI TO i1 i2 l1 l2 S lo : Addr) : Prop where
  lz : z < lo
  lti : TI < lo
  lto : TO < lo
  li1 : i1 < lo
  li2 : i2 < lo
  ll1 : l1 < lo
  ll2 : l2 < lo
  ls : S < lo
  sz : S ≠ z
  sti : S ≠ TI
  sto : S ≠ TO
  s1 : S ≠ i1
  s2 : S ≠ i2
  sl1 : S ≠ l1
  sl2 : S ≠ l2
section
variable {prog : Program} {w : World} {A : Around} {E : Value → Shared → Prop} {s : Shared}
theorem ZSt.go {z TI TO i1 i2 l1 l2 S lo : Addr} {xs ys : Array Value} {i : Nat} {h h' : Heap} {acc : Array Value} (st : ZSt z TI TO i1 i2 l1 l2 S lo xs ys i h acc) (L : ZLow z TI TO i1 i2 l1 l2 S lo)
    (k : ∀ b o, b ≠ S → h.get? b = some o → h'.get? b = some o) : ZSt z TI TO i1 i2 l1 l2 S lo xs ys i h' acc where
  ti := k _ _ L.sti.symm st.ti
  h1 := st.h1.at fun o e => k _ o L.s1.symm e
  h2 := st.h2.at fun o e => k _ o L.s2.symm e
  l1 := st.l1.at fun o e => k _ o L.sl1.symm e
  l2 := st.l2.at fun o e => k _ o L.sl2.symm e
  hz := by
    rcases st.hz with ⟨hz, a, b, hTO⟩ | ⟨T, f, oT, hz, hT, r⟩
    · exact .inl ⟨k _ _ L.sz.symm hz, a, b, k _ _ L.sto.symm hTO⟩
    · exact .inr ⟨T, f, oT, k _ _ L.sz.symm hz, k _ _ (fun e => Nat.lt_irrefl _ (Nat.lt_of_lt_of_le L.ls (by rw [← e]; exact r))) hT, r⟩
  sz := st.sz
  ps := fun j v hj => by
    obtain ⟨T, x, y, e, r, hx, hy, hp⟩ := st.ps j v hj
    exact ⟨T, x, y, e, r, hx, hy, k _ _ (fun e => Nat.lt_irrefl _ (Nat.lt_of_lt_of_le L.ls (by rw [← e]; exact r))) hp⟩
  nd := st.nd
theorem zst_loop {z TI TO i1 i2 l1 l2 S lo : Addr} {xs ys : Array Value} {R : Result → Shared → Prop} (D : PySem.ZipApart z TI TO i1 i2 l1 l2) (L : ZLow z TI TO i1 i2 l1 l2 S lo) (hh : A.handled = none) (hn : min xs.size ys.size ≤ sizeLine) (res : Value) :
    ∀ (k i : Nat) (s : Shared) (acc : Array Value) (c : Nat), min xs.size ys.size - i = k → i ≤ min xs.size ys.size → ZSt z TI TO i1 i2 l1 l2 S lo xs ys i s.heap acc → lo ≤ s.heap.objs.size →
    s.heap.get? S = some { cls := .type "list", dict := none, data := .seq acc c, slots := #[] } →
    (∀ (h' : Heap) acc' c', (∀ b o, b ≠ S → b ≠ z → b ≠ TO → b ≠ i1 → b ≠ i2 → s.heap.get? b = some o → h'.get? b = some o) → ZSt z TI TO i1 i2 l1 l2 S lo xs ys (min xs.size ys.size) h' acc' ∨ (acc'.size = min xs.size ys.size ∧ (∀ (j k : Nat) (v : Value), acc'[j]? = some v → acc'[k]? = some v → j = k) ∧ ∀ (j : Nat) (v : Value), acc'[j]? = some v → ∃ T x y, v = .ref T ∧ lo ≤ T ∧ xs[j]? = some x ∧ ys[j]? = some y ∧ PySem.IsPair h' T x y) →
      h'.get? S = some { cls := .type "list", dict := none, data := .seq acc' c', slots := #[] } → R (.ok (.ret res)) { s with heap := h' }) →
    codeAny (model prog w) A (.builtin "list.extend.loop" ⟨[.ref S, .ref z, res], []⟩) R s := by
  intro k
  induction k with
  | zero =>
    intro i s acc c hk hi st hlo hS hR
    have hin : i = min xs.size ys.size := by omega
    subst hin
    refine codeAny_builtin PySem.F.entry_extend_loop ?_
    rw [Around.under_plainId PySem.F.plain_extend_loop _]
    show wpAny _ A.in1 (pyNext (.ref z) >>= _) _ _ s
    have hend : xs[min xs.size ys.size]? = none ∨ ys[min xs.size ys.size]? = none := by
      rcases Nat.le_total xs.size ys.size with h | h
      · exact .inl (Array.getElem?_eq_none (by rw [Nat.min_eq_left h]; exact Nat.le_refl _))
      · exact .inr (Array.getElem?_eq_none (by rw [Nat.min_eq_right h]; exact Nat.le_refl _))
    have fin : ∀ h' : Heap, (∀ b o, b ≠ z → b ≠ TO → b ≠ i1 → b ≠ i2 → s.heap.get? b = some o → h'.get? b = some o) → R (.ok (.ret res)) { s with heap := h' } := fun h' hk => by
      refine hR h' acc c (fun b o _ n1 n2 n3 n4 e => hk b o n1 n2 n3 n4 e) (.inr ⟨st.sz, st.nd, fun j v hj => ?_⟩) (hk _ _ L.sz L.sto L.s1 L.s2 hS)
      obtain ⟨T, x, y, e, r, hx, hy, hp⟩ := st.ps j v hj
      have nlo : ∀ {a : Addr}, a < lo → T ≠ a := fun h e => Nat.lt_irrefl _ (Nat.lt_of_lt_of_le h (by rw [← e]; exact r))
      exact ⟨T, x, y, e, r, hx, hy, hk _ _ (nlo L.lz) (nlo L.lto) (nlo L.li1) (nlo L.li2) hp⟩
    have hh1 : A.in1.handled = none := hh
    rcases st.hz with ⟨hz, a, b, hTO⟩ | ⟨T, f, oT, hz, hT, r⟩
    · exact wpAny_bind (PySem.wpAny_pyNext_zip_end hh1 D hz st.ti hTO st.h1 st.h2 st.l1 st.l2 hend fun h' hk => wpAny_pure (fin h' hk))
    · exact wpAny_bind (PySem.wpAny_pyNext_zip_end_held hh1 D hz hT st.ti st.h1 st.h2 st.l1 st.l2 hend fun h' hk => wpAny_pure (fin h' fun b o n1 _ n3 n4 e => hk b o n1 n3 n4 e))
  | succ k ih =>
    intro i s acc c hk hi st hlo hS hR
    have hlt : i < min xs.size ys.size := by omega
    have hix : i < xs.size := Nat.lt_of_lt_of_le hlt (Nat.min_le_left ..)
    have hiy : i < ys.size := Nat.lt_of_lt_of_le hlt (Nat.min_le_right ..)
    have ex := Array.getElem?_eq_getElem hix
    have ey := Array.getElem?_eq_getElem hiy
    refine codeAny_builtin PySem.F.entry_extend_loop ?_
    rw [Around.under_plainId PySem.F.plain_extend_loop _]
    show wpAny _ A.in1 (pyNext (.ref z) >>= _) _ _ s
    have fin : ∀ h' : Heap, PySem.IsPair h' s.heap.objs.size xs[i] ys[i] → h'.IsListIter i1 l1 (i + 1) → h'.IsListIter i2 l2 (i + 1) → h'.objs.size = s.heap.objs.size + 1 →
        ((PySem.IsZip h' z TI TO .none ∧ ∃ a b, PySem.IsPair h' TO a b) ∨ ∃ T f oT, PySem.IsZipHeld h' z TI TO T f ∧ h'.get? T = some oT ∧ lo ≤ T) →
        (∀ c o, c ≠ z → c ≠ TO → c ≠ i1 → c ≠ i2 → s.heap.get? c = some o → h'.get? c = some o) →
        codeAny (model prog w) A (.builtin "list.extend.loop" ⟨[.ref S, .ref z, res], []⟩) R { s with heap := h'.update S (Obj.mapSeq (·.push (.ref s.heap.objs.size))) } := by
      intro h' hp g1 g2 hsz hz hk
      have hS' := hk _ _ L.sz L.sto L.s1 L.s2 hS
      have nlo : ∀ {T a : Addr}, lo ≤ T → a < lo → T ≠ a := fun r h e => Nat.lt_irrefl _ (Nat.lt_of_lt_of_le h (by rw [← e]; exact r))
      have st1 : ZSt z TI TO i1 i2 l1 l2 S lo xs ys (i + 1) h' (acc.push (.ref s.heap.objs.size)) := by
        refine ⟨hk _ _ D.TIz D.TITO D.TIi1 D.TIi2 st.ti, g1, g2, st.l1.at fun o e => hk _ o D.l1z D.l1TO D.l1i1 D.l1i2 e, st.l2.at fun o e => hk _ o D.l2z D.l2TO D.l2i1 D.l2i2 e, hz, by rw [Array.size_push, st.sz], fun j v hj => ?_, fun j l v hj hl => ?_⟩
        · rw [Array.getElem?_push] at hj
          split at hj
          · rename_i e
            rw [st.sz] at e
            cases hj
            subst e
            exact ⟨_, _, _, rfl, hlo, ex, ey, hp⟩
          · obtain ⟨T, x, y, e, r, hx, hy, hp⟩ := st.ps j v hj
            exact ⟨T, x, y, e, r, hx, hy, hk _ _ (nlo r L.lz) (nlo r L.lto) (nlo r L.li1) (nlo r L.li2) hp⟩
        · have old : ∀ (j : Nat) (v : Value), acc[j]? = some v → v ≠ .ref s.heap.objs.size := fun j v h e => by
            obtain ⟨T, x, y, e2, r, hx, hy, hp⟩ := st.ps j v h
            rw [e] at e2
            cases e2
            exact Nat.lt_irrefl _ (Heap.lt_size hp)
          rw [Array.getElem?_push] at hj hl
          split at hj
          · split at hl
            · rename_i e1 e2
              rw [e1, e2]
            · cases hj
              exact absurd rfl (old _ _ hl)
          · split at hl
            · cases hl
              exact absurd rfl (old _ _ hj)
            · exact st.nd j l v hj hl
      have sb : ∀ b o, b ≠ S → h'.get? b = some o → (h'.update S (Obj.mapSeq (·.push (.ref s.heap.objs.size)))).get? b = some o := fun b o hb e => (Heap.get?_update_other _ _ (Ne.symm hb)).trans e
      refine ih (i + 1) _ (acc.push (.ref s.heap.objs.size)) _ (by omega) hlt (st1.go L sb) ?_ (Heap.get?_update_self _ hS' rfl) fun h2 acc' c' hk2 hst2 hS2 => ?_
      · show lo ≤ (h'.update S (Obj.mapSeq (·.push (.ref s.heap.objs.size)))).objs.size
        rw [(Heap.SameBut.update ..).1, hsz]
        exact Nat.le_succ_of_le hlo
      · exact hR h2 acc' c' (fun b o n0 n1 n2 n3 n4 e => hk2 b o n0 n1 n2 n3 n4 (sb b o n0 (hk b o n1 n2 n3 n4 e))) hst2 hS2
    have up : ∀ h' : Heap, h'.get? S = some { cls := .type "list", dict := none, data := .seq acc c, slots := #[] } → codeAny (model prog w) A (.builtin "list.extend.loop" ⟨[.ref S, .ref z, res], []⟩) R { s with heap := h'.update S (Obj.mapSeq (·.push (.ref s.heap.objs.size))) } →
        wpAny (model prog w) A.in1 (updateSeq S (·.push (.ref s.heap.objs.size)) >>= fun _ => again (.builtin "list.extend.loop" ⟨[.ref S, .ref z, res], []⟩)) (fun fin s' => match fin with | .done f => R (.ok f) s' | .again c' => c'.quiet = true ∧ codeAny (model prog w) A c' R s') (fun e s' => R (.error e) s') { s with heap := h' } := fun h' hS' hc => by
      refine wpAny_bind ?_
      refine wpAny_updateSeq (s := { s with heap := h' }) hS' rfl (wpAny_pure ⟨plainId_quiet PySem.F.plain_extend_loop _, hc⟩) (by rw [st.sz]; omega) (by show (acc.push (.ref s.heap.objs.size)).size ≤ sizeLine + 1; rw [Array.size_push, st.sz]; omega)
    rcases st.hz with ⟨hz, a, b, hTO⟩ | ⟨T, f, oT, hz, hT, r⟩
    · refine wpAny_bind (PySem.wpAny_pyNext_zip_item D hz st.ti hTO st.h1 st.h2 st.l1 st.l2 ex ey fun h' a1 a2 a3 a4 a5 a6 hk => ?_)
      exact up h' (hk _ _ L.sz L.sto L.s1 L.s2 hS) (fin h' a5 a3 a4 a6 (.inr ⟨s.heap.objs.size, false, _, a1, a5, hlo⟩) hk)
    · have nlo : ∀ {a : Addr}, a < lo → T ≠ a := fun h e => Nat.lt_irrefl _ (Nat.lt_of_lt_of_le h (by rw [← e]; exact r))
      refine wpAny_bind (PySem.wpAny_pyNext_zip_item_held D hz hT st.ti st.h1 st.h2 st.l1 st.l2 ex ey fun h' a1 a3 a4 a5 a6 hk => ?_)
      exact up h' (hk _ _ L.sz L.s1 L.s2 hS) (fin h' a5 a3 a4 a6 (.inr ⟨T, true, oT, a1, hk _ _ (nlo L.lz) (nlo L.li1) (nlo L.li2) hT, r⟩) fun c o n1 n2 n3 n4 e => hk c o n1 n3 n4 e)
/-- collect(zip(a, b)) -/
theorem collect_zip {z TI TO i1 i2 l1 l2 : Addr} {xs ys : Array Value} {Q : List Value → Shared → Prop} (D : PySem.ZipApart z TI TO i1 i2 l1 l2) (hh : A.handled = none) (hn : min xs.size ys.size ≤ sizeLine)
    (hz : PySem.IsZip s.heap z TI TO .none) (hTI : PySem.IsPair s.heap TI (.ref i1) (.ref i2)) (hTO : ∃ a b, PySem.IsPair s.heap TO a b) (h1 : s.heap.IsListIter i1 l1 0) (h2 : s.heap.IsListIter i2 l2 0) (hl1 : s.heap.IsList l1 xs) (hl2 : s.heap.IsList l2 ys)
    (hQ : ∀ (h' : Heap) (acc : Array Value), (∀ b o, b ≠ z → b ≠ TO → b ≠ i1 → b ≠ i2 → s.heap.get? b = some o → h'.get? b = some o) → acc.size = min xs.size ys.size → (∀ (j k : Nat) (v : Value), acc[j]? = some v → acc[k]? = some v → j = k) →
      (∀ (j : Nat) (v : Value), acc[j]? = some v → ∃ T x y, v = .ref T ∧ s.heap.objs.size ≤ T ∧ xs[j]? = some x ∧ ys[j]? = some y ∧ PySem.IsPair h' T x y) → Q acc.toList { s with heap := h' }) :
    wpAny (model prog w) A (collect (.ref z)) Q E s := by
  have lz := Heap.lt_size hz
  have lti := Heap.lt_size hTI
  have lto : TO < s.heap.objs.size := by obtain ⟨a, b, h⟩ := hTO; exact Heap.lt_size h
  have li1 : i1 < s.heap.objs.size := by obtain ⟨_, e, _⟩ := h1; exact Heap.lt_size e
  have li2 : i2 < s.heap.objs.size := by obtain ⟨_, e, _⟩ := h2; exact Heap.lt_size e
  have ll1 : l1 < s.heap.objs.size := by obtain ⟨_, e, _⟩ := hl1; exact Heap.lt_size e
  have ll2 : l2 < s.heap.objs.size := by obtain ⟨_, e, _⟩ := hl2; exact Heap.lt_size e
  have gt : ∀ {a : Addr}, a < s.heap.objs.size → s.heap.objs.size ≠ a := fun h => Nat.ne_of_gt h
  have L : ZLow z TI TO i1 i2 l1 l2 s.heap.objs.size (s.heap.objs.size + 1) := ⟨Nat.lt_succ_of_lt lz, Nat.lt_succ_of_lt lti, Nat.lt_succ_of_lt lto, Nat.lt_succ_of_lt li1, Nat.lt_succ_of_lt li2, Nat.lt_succ_of_lt ll1, Nat.lt_succ_of_lt ll2, Nat.lt_succ_self _, gt lz, gt lti, gt lto, gt li1, gt li2, gt ll1, gt ll2⟩
  have hT : ∀ h' : Heap, h'.get? z = s.heap.get? z → ({ s with heap := h' } : Shared).TypeIs (.ref z) "zip" := fun h' e => ⟨_, e.trans hz, rfl⟩
  unfold collect
  refine wpAny_bind (wpAny_runValue (codeAny_builtin PySem.F.entry_proto_collect ?_))
  rw [Around.under_plainId PySem.F.plain_proto_collect _]
  show wpAny _ A.in1 (newList [] >>= fun l => again (.builtin "list.__iadd__" ⟨[l, .ref z], []⟩)) _ _ s
  refine wpAny_bind (wpAny_newObj_type ?_)
  refine wpAny_pure ⟨plainId_quiet PySem.F.plain_list_iadd _, codeAny_builtin PySem.F.entry_list_iadd ?_⟩
  rw [Around.under_plainId PySem.F.plain_list_iadd _]
  have up1 : ∀ b o, s.heap.get? b = some o → (s.heap.push { cls := .type "list", data := .seq ([] : List Value).toArray }).get? b = some o := fun b o e => Heap.get?_push_of_some _ e
  have hz1 := up1 _ _ hz
  have hT1 : ({ s with heap := s.heap.push { cls := .type "list", data := .seq ([] : List Value).toArray } } : Shared).TypeIs (.ref z) "zip" := ⟨_, hz1, rfl⟩
  show wpAny _ A.in1 (Builtin.List.listExtendWith (.ref s.heap.objs.size) (.ref z) (.ref s.heap.objs.size)) _ _ _
  unfold Builtin.List.listExtendWith
  refine wpAny_bind (wpAny_typeOf hT1 ?_)
  have h1' : Builtin.List.listSameRef (.ref s.heap.objs.size) (.ref z) = false := by simp [Builtin.List.listSameRef, gt lz]
  have h2' : (Value.type "zip" == Value.type "list") = false := by decide
  have h3' : (Value.type "zip" == Value.type "tuple") = false := by decide
  simp only [h1', h2', h3', Bool.or_false, Bool.false_eq_true, if_false]
  refine wpAny_bind (PySem.wpAny_pyIter_zip hz1 ?_)
  refine wpAny_bind (wpAny_holding ?_)
  unfold Builtin.List.listLengthHint
  refine wpAny_bind (wpAny_specialOf hT1 zl_len ?_)
  show wpAny _ A.in1 (specialOf (Value.ref z) (Str.ofString "__length_hint__") >>= _) _ _ _
  refine wpAny_bind (wpAny_specialOf hT1 zl_hint ?_)
  refine wpAny_pure ?_
  show wpAny _ A.in1 (rule "list.extend.makes-room" >>= fun _ => Builtin.List.listTouch (.ref s.heap.objs.size) >>= fun _ =>
    again (.builtin "list.extend.loop" ⟨[.ref s.heap.objs.size, .ref z, .ref s.heap.objs.size], []⟩)) _ _ _
  refine wpAny_bind (wpAny_rule ?_)
  have hS₁ : (s.heap.push { cls := .type "list", data := .seq ([] : List Value).toArray }).get? s.heap.objs.size = some { cls := .type "list", data := .seq ([] : List Value).toArray } := Heap.get?_push_size _ rfl
  refine wpAny_bind ?_
  show wpAny _ A.in1 (updateSeq s.heap.objs.size (·.push .none) >>= fun _ => updateSeq s.heap.objs.size (·.pop)) _ _ _
  refine wpAny_bind (wpAny_updateSeq hS₁ rfl ?_)
  have hS₂ := Heap.get?_update_self (Obj.mapSeq (·.push Value.none)) hS₁ rfl
  refine wpAny_updateSeq hS₂ rfl ?_
  have hS₃ := Heap.get?_update_self (Obj.mapSeq (·.pop)) hS₂ rfl
  have oth : ∀ b o, b ≠ s.heap.objs.size → (s.heap.push { cls := .type "list", data := .seq ([] : List Value).toArray }).get? b = some o →
      (((s.heap.push { cls := .type "list", data := .seq ([] : List Value).toArray }).update s.heap.objs.size (Obj.mapSeq (·.push Value.none))).update s.heap.objs.size (Obj.mapSeq (·.pop))).get? b = some o :=
    fun b o hb e => (Heap.get?_update_other _ _ (Ne.symm hb)).trans ((Heap.get?_update_other _ _ (Ne.symm hb)).trans e)
  have old : ∀ b o, s.heap.get? b = some o → b ≠ s.heap.objs.size := fun b o e z => by rw [z] at e; exact Nat.lt_irrefl _ (Heap.lt_size e)
  have st0 : ZSt z TI TO i1 i2 l1 l2 s.heap.objs.size (s.heap.objs.size + 1) xs ys 0 (((s.heap.push { cls := .type "list", data := .seq ([] : List Value).toArray }).update s.heap.objs.size (Obj.mapSeq (·.push Value.none))).update s.heap.objs.size (Obj.mapSeq (·.pop))) #[] := by
    have kk : ∀ b o, s.heap.get? b = some o → (((s.heap.push { cls := .type "list", data := .seq ([] : List Value).toArray }).update s.heap.objs.size (Obj.mapSeq (·.push Value.none))).update s.heap.objs.size (Obj.mapSeq (·.pop))).get? b = some o := fun b o e => oth b o (old b o e) (up1 b o e)
    obtain ⟨a, b, hTO⟩ := hTO
    exact ⟨kk _ _ hTI, h1.at fun o e => kk _ o e, h2.at fun o e => kk _ o e, hl1.at fun o e => kk _ o e, hl2.at fun o e => kk _ o e, .inl ⟨kk _ _ hz, a, b, kk _ _ hTO⟩, rfl, fun j v h => by simp at h, fun j k v h => by simp at h⟩
  refine wpAny_pure ⟨plainId_quiet PySem.F.plain_extend_loop _, zst_loop (A := A) D L hh hn _ _ 0 _ #[] _ rfl (Nat.zero_le _) st0 ?_ hS₃ fun h' acc' c' hk hst hS' => ?_⟩
  · show s.heap.objs.size + 1 ≤ (((s.heap.push { cls := .type "list", data := .seq ([] : List Value).toArray }).update s.heap.objs.size (Obj.mapSeq (·.push Value.none))).update s.heap.objs.size (Obj.mapSeq (·.pop))).objs.size
    rw [(Heap.SameBut.update ..).1, (Heap.SameBut.update ..).1, Heap.size_push]
    exact Nat.le_refl _
  show wpAny _ A (load s.heap.objs.size >>= _) _ _ _
  refine wpAny_bind (wpAny_load hS' ?_)
  refine wpAny_pure ?_
  have hp : acc'.size = min xs.size ys.size ∧ (∀ (j k : Nat) (v : Value), acc'[j]? = some v → acc'[k]? = some v → j = k) ∧ ∀ (j : Nat) (v : Value), acc'[j]? = some v → ∃ T x y, v = .ref T ∧ s.heap.objs.size + 1 ≤ T ∧ xs[j]? = some x ∧ ys[j]? = some y ∧ PySem.IsPair h' T x y := by
    rcases hst with hst | hst
    · exact ⟨hst.sz, hst.nd, hst.ps⟩
    · exact hst
  refine hQ h' acc' (fun b o n1 n2 n3 n4 e => hk b o (old b o e) n1 n2 n3 n4 (oth b o (old b o e) (up1 b o e))) hp.1 hp.2.1 fun j v hj => ?_
  obtain ⟨T, x, y, e, r, q⟩ := hp.2.2 j v hj
  exact ⟨T, x, y, e, by omega, q⟩
theorem code_tuple_new_zip {z TI TO i1 i2 l1 l2 : Addr} {xs ys : Array Value} {Q₁ : Value → Shared → Prop} (D : PySem.ZipApart z TI TO i1 i2 l1 l2) (hh : A.handled = none) (hn : min xs.size ys.size ≤ sizeLine)
    (hz : PySem.IsZip s.heap z TI TO .none) (hTI : PySem.IsPair s.heap TI (.ref i1) (.ref i2)) (hTO : ∃ a b, PySem.IsPair s.heap TO a b) (h1 : s.heap.IsListIter i1 l1 0) (h2 : s.heap.IsListIter i2 l2 0) (hl1 : s.heap.IsList l1 xs) (hl2 : s.heap.IsList l2 ys)
    (h : ∀ (h' : Heap) (acc : Array Value), (∀ b o, b ≠ z → b ≠ TO → b ≠ i1 → b ≠ i2 → s.heap.get? b = some o → h'.get? b = some o) → acc.size = min xs.size ys.size → (∀ (j k : Nat) (v : Value), acc[j]? = some v → acc[k]? = some v → j = k) →
      (∀ (j : Nat) (v : Value), acc[j]? = some v → ∃ T x y, v = .ref T ∧ s.heap.objs.size ≤ T ∧ xs[j]? = some x ∧ ys[j]? = some y ∧ PySem.IsPair h' T x y) → Q₁ (.ref h'.objs.size) { s with heap := h'.push { cls := .type "tuple", data := .seq acc } }) :
    codeAny (model prog w) A (.call (.builtin "tuple.__new__") ⟨[.type "tuple", .ref z], []⟩) (wants Q₁ E) s := by
  refine codeAny_of_tree ?_
  show wpAny _ A.in1 (do checkBuiltinCall "tuple.__new__" ⟨[.type "tuple", .ref z], []⟩; again (.builtin "tuple.__new__" ⟨[.type "tuple", .ref z], []⟩)) _ _ s
  refine wpAny_bind (wpAny_of_eq (PySem.F.newCall_tuple_1 _) (wpAny_pure ⟨plainId_quiet PySem.F.plain_tuple_new _, codeAny_builtin PySem.F.entry_tuple_new ?_⟩))
  rw [Around.under_plainId PySem.F.plain_tuple_new _]
  have hsub := sub_tuple_self
  have hinit := init_tuple_lookup
  have hmh := madeHere_tuple
  have hTz : s.TypeIs (.ref z) "zip" := ⟨_, hz, rfl⟩
  have hh1 : A.in1.handled = none := hh
  wp_walk using wpAny_typeOf hTz, collect_zip (A := A.in1) D hh1 hn hz hTI hTO h1 h2 hl1 hl2
  intro h' acc hk hs hd hacc
  show wpAny _ _ (Builtin.Tuple.tupleExact acc.toList.toArray >>= fun v => ret v) _ _ _
  unfold Builtin.Tuple.tupleExact
  refine wpAny_bind (wpAny_newObj_type ?_ (by show acc.toList.toArray.size ≤ sizeLine; simp only [Array.toArray_toList]; rw [hs]; exact hn))
  refine wpAny_pure ?_
  have e : acc.toList.toArray = acc := by simp
  rw [e]
  exact h h' acc hk hs hd hacc
theorem call_tuple_zip {z TI TO i1 i2 l1 l2 : Addr} {xs ys : Array Value} {Q : Value → Shared → Prop} (D : PySem.ZipApart z TI TO i1 i2 l1 l2) (hh : A.handled = none) (hn : min xs.size ys.size ≤ sizeLine)
    (hz : PySem.IsZip s.heap z TI TO .none) (hTI : PySem.IsPair s.heap TI (.ref i1) (.ref i2)) (hTO : ∃ a b, PySem.IsPair s.heap TO a b) (h1 : s.heap.IsListIter i1 l1 0) (h2 : s.heap.IsListIter i2 l2 0) (hl1 : s.heap.IsList l1 xs) (hl2 : s.heap.IsList l2 ys)
    (hQ : ∀ (h' : Heap) (acc : Array Value), (∀ b o, b ≠ z → b ≠ TO → b ≠ i1 → b ≠ i2 → s.heap.get? b = some o → h'.get? b = some o) → acc.size = min xs.size ys.size → (∀ (j k : Nat) (v : Value), acc[j]? = some v → acc[k]? = some v → j = k) →
      (∀ (j : Nat) (v : Value), acc[j]? = some v → ∃ T x y, v = .ref T ∧ s.heap.objs.size ≤ T ∧ xs[j]? = some x ∧ ys[j]? = some y ∧ PySem.IsPair h' T x y) → Q (.ref h'.objs.size) { s with heap := h'.push { cls := .type "tuple", data := .seq acc } }) :
    wpAny (model prog w) A (call (.type "tuple") [.ref z]) Q E s := by
  refine callType_codes (Q₁ := fun obj s₁ => s₁.TypeIs obj "tuple" ∧ Q obj s₁) PySem.F.called_tuple (PySem.F.typeCall_tuple_1 _) PySem.F.entry_object_init
    (code_tuple_new_zip (A := A.in1) D hh hn hz hTI hTO h1 h2 hl1 hl2 fun h' acc hk hs hd hacc => ⟨⟨_, Heap.get?_push_size _ rfl, rfl⟩, hQ h' acc hk hs hd hacc⟩) fun obj s₁ h₁ => ?_
  exact ⟨h₁.1, PySem.F.args_object_init_2 obj _, object_init_meets PySem.F.called_tuple.init.lookup PySem.F.called_tuple.made (by decide) prog w A.in1 _ s₁ ⟨h₁.1, rfl, h₁.2⟩⟩
end
/-- many new objects are laid and tracked -/
def ups (H : Hp) (l : List (Addr × HO)) : Hp := fun b => match l.lookup b with | some o => some o | none => H b
section
variable {X : Cx} {pins : List (Addr × Obj)} {σ : L2.St} {H : Hp} {s : Shared} {h' : Heap}
theorem lk_mem {l : List (Addr × HO)} {b : Addr} {o : HO} (h : l.lookup b = some o) : (b, o) ∈ l := by
  induction l with
  | nil => cases h
  | cons p l ih =>
    obtain ⟨x, y⟩ := p
    rw [List.lookup_cons] at h
    by_cases z : (b == x) = true
    · rw [z] at h
      cases h
      rw [eq_of_beq z]
      exact List.mem_cons_self
    · rw [(Bool.not_eq_true _).mp z] at h
      exact List.mem_cons_of_mem _ (ih h)
theorem lk_of {l : List (Addr × HO)} {b : Addr} {o : HO} (nd : (l.map (·.1)).Nodup) (h : (b, o) ∈ l) : l.lookup b = some o := by
  induction l with
  | nil => cases h
  | cons p l ih =>
    obtain ⟨x, y⟩ := p
    rw [List.map_cons, List.nodup_cons] at nd
    rw [List.lookup_cons]
    rcases List.mem_cons.mp h with e | e
    · cases e
      rw [beq_self_eq_true]
    · have ne : b ≠ x := fun z => nd.1 (by rw [← z]; exact List.mem_map.mpr ⟨_, e, rfl⟩)
      rw [beq_eq_false_iff_ne.mpr ne]
      exact ih nd.2 e
theorem ups_old {l : List (Addr × HO)} {b : Addr} {o : HO} (hn : ∀ p ∈ l, H p.1 = none) (h : H b = some o) : ups H l b = some o := by
  unfold ups
  cases e : l.lookup b with
  | none => exact h
  | some u =>
    have := hn _ (lk_mem e)
    rw [this] at h
    cases h
theorem ups_new {l : List (Addr × HO)} {b : Addr} {o : HO} (nd : (l.map (·.1)).Nodup) (h : (b, o) ∈ l) : ups H l b = some o := by
  unfold ups
  rw [lk_of nd h]
theorem inv_many {t' : Nat} (I : Inv X pins σ H s) (k : ∀ b u, s.heap.get? b = some u → h'.get? b = some u) (l : List (Addr × HO)) (hp : ∀ p ∈ l, s.heap.objs.size ≤ p.1) (new : ∀ p ∈ l, ObjOk X.prog X.w (ups H l) h' p.1 p.2) :
    Inv X pins σ (ups H l) { s with heap := h', toks := t' } := by
  have hn : ∀ p ∈ l, H p.1 = none := fun p h => I.hok.fresh (hp p h)
  have lt : ∀ {b u}, s.heap.get? b = some u → l.lookup b = none := fun {b u} e => by
    cases z : l.lookup b with
    | none => rfl
    | some o => exact absurd (hp _ (lk_mem z)) (Nat.not_le.mpr (Heap.lt_size e))
  refine I.un ⟨fun b u q _ _ _ => k b u q, fun b u q _ _ _ => ⟨u.slots, k b u q⟩, fun b u q n _ => ?_, fun b u q _ => ⟨u, k b u q⟩, fun b xs q => ups_old hn q, fun b o u q => ups_old hn q, fun b ps q => ⟨#[], ?_⟩⟩ fun b u e => ?_
  · unfold ups
    rw [lt q]
    exact n
  · rw [ups_old hn q]
    simp
  · unfold ups at e
    cases z : l.lookup b with
    | some o =>
      rw [z] at e
      cases e
      exact new _ (lk_mem z)
    | none =>
      rw [z] at e
      exact (I.hok b u e).stay (fun c v _ q => k c v q) (fun c q => ups_old hn q) fun c xs q => ups_old hn q
end
def tTupZip (K : PySem.W.Frag) (t : TA) : TE := fun σ H Q => t σ H fun vs H1 => ∃ a b xs ys, vs = [.ref a, .ref b] ∧ SqL K H1 a xs ∧ SqL K H1 b ys ∧ min xs.length ys.length ≤ sizeLine ∧
  ∀ (q : Addr) (as : List Addr) (H2 : Hp), Same H1 H2 → H2 q = some (.tup (as.map V.ref)) → as.length = min xs.length ys.length → (∀ (j : Nat) (T : Addr), as[j]? = some T → ∃ x y, xs[j]? = some x ∧ ys[j]? = some y ∧ H2 T = some (.tup [x, y])) → Q (.ref q) H2
section
variable {X : Cx} {e e2 : Expr} {ta : TA} {p p2 pos pos2 : Pos}
theorem ktupzip (K : PySem.W.Frag) (hc : X.calm = true) (hg : Gl X "tuple") (hm : X.mg "tuple" = none) (hg2 : Gl X "zip") (hm2 : X.mg "zip" = none) (ha : PA X [e, e2] ta) (hK : X.K = K := by rfl)
    (hs : starEach [e, e2] X.env = (false, eval e X.env) :: starEach [e2] X.env := by rfl) (hpl : (backTo pos2 (starEach [e2] X.env)).any (·.1) = false := by rfl)
    (na : starEach [.Call (.Name "zip" p2) [e, e2] [] pos2] X.env = (false, eval (.Call (.Name "zip" p2) [e, e2] [] pos2) X.env) :: starEach [] X.env := by rfl) :
    PE X (.Call (.Name "tuple" p) [.Call (.Name "zip" p2) [e, e2] [] pos2] [] pos) (tTupZip K ta) := by
  subst hK
  refine ⟨fun pins s σ H Q I h => ?_⟩
  have inner : wpAny (model X.prog X.w) X.A (eval (.Call (.Name "zip" p2) [e, e2] [] pos2) X.env) (fun v s2 => ∃ a b xs ys H1 its its2 z TI TO i1 i2 s1, v = .ref z ∧ Inv X pins σ H1 s1 ∧ Vals xs its ∧ Vals ys its2 ∧ min xs.length ys.length ≤ sizeLine ∧ s2 = { s1 with heap := s2.heap } ∧ (∀ b o, s1.heap.get? b = some o → s2.heap.get? b = some o) ∧
      s1.heap.objs.size ≤ z ∧ s1.heap.objs.size ≤ TI ∧ s1.heap.objs.size ≤ TO ∧ s1.heap.objs.size ≤ i1 ∧ s1.heap.objs.size ≤ i2 ∧ s1.heap.objs.size ≤ s2.heap.objs.size ∧
      PySem.ZipApart z TI TO i1 i2 a b ∧ PySem.IsZip s2.heap z TI TO .none ∧ PySem.IsPair s2.heap TI (.ref i1) (.ref i2) ∧ (∃ x y, PySem.IsPair s2.heap TO x y) ∧ s2.heap.IsListIter i1 a 0 ∧ s2.heap.IsListIter i2 b 0 ∧ s2.heap.IsList a its.toArray ∧ s2.heap.IsList b its2.toArray ∧
      ∀ (q : Addr) (as : List Addr) (H2 : Hp), Same H1 H2 → H2 q = some (.tup (as.map V.ref)) → as.length = min xs.length ys.length → (∀ (j : Nat) (T : Addr), as[j]? = some T → ∃ x y, xs[j]? = some x ∧ ys[j]? = some y ∧ H2 T = some (.tup [x, y])) → Q (.ref q) H2) X.xe s := by
    refine Call_ (ld_blt I hg2 hm2 PyProof.Rows.boot_zip (PyProof.Rows.callWith_type1 (thn (ha.run pos2 pins s σ H _ I h) fun us s1 ⟨vs, H1, I1, r1, q1⟩ => ?_) hs hpl))
    obtain ⟨a, b, xs, ys, ex, qx, qy, hsz, q⟩ := q1
    subst ex
    cases r1 with
    | cons r rr =>
      cases rr with
      | cons r' rr =>
        cases rr
        cases r
        cases r'
        obtain ⟨its, rv, pl1, _⟩ := I1.list qx
        obtain ⟨its2, rv2, pl2, _⟩ := I1.list qy
        refine PySem.call_zip_2 pl1.isList pl2.isList fun h' hz hTI hTO h1 h2 hs5 hk => ?_
        exact ⟨a, b, xs, ys, H1, its, its2, _, _, _, _, _, s1, rfl, I1, rv, rv2, hsz, rfl, hk, by omega, by omega, by omega, by omega, by omega, by show s1.heap.objs.size ≤ h'.objs.size; omega, PySem.W.ktu_apart s1.heap.objs.size a b pl1.lt pl2.lt, hz, hTI, ⟨_, _, hTO⟩, h1, h2, pl1.isList.at fun o e => hk _ o e, pl2.isList.at fun o e => hk _ o e, q⟩
  refine Call_ (ld_blt I hg hm boot_tuple (PyProof.Rows.callWith_type1 (args_cons (thn inner fun v s2 h2 => args_nil ?_) na) na))
  obtain ⟨a, b, xs, ys, H1, its, its2, z, TI, TO, i1, i2, s1, ev, I1, rv, rv2, hsz, es, hk, lz, lti, lto, li1, li2, ls, D, hz, hTI, hTO, h1, h2, hl1, hl2, q⟩ := h2
  subst ev
  have n1 := rv.length
  have n2 := rv2.length
  have hmin : min its.toArray.size its2.toArray.size = min xs.length ys.length := by rw [List.size_toArray, List.size_toArray, n1, n2]
  refine call_tuple_zip D (I1.ok.hd hc) (by rw [hmin]; exact hsz) hz hTI hTO h1 h2 hl1 hl2 fun h' acc hk2 hs hd hacc => ?_
  have kall : ∀ b o, s1.heap.get? b = some o → (h'.push { cls := .type "tuple", data := .seq acc }).get? b = some o := fun b o e => by
    have lb := Heap.lt_size e
    have nb : ∀ {c : Addr}, s1.heap.objs.size ≤ c → b ≠ c := fun {c} h z => Nat.lt_irrefl _ (Nat.lt_of_lt_of_le lb (by rw [z]; exact h))
    exact Heap.get?_push_of_some _ (hk2 b o (nb lz) (nb lto) (nb li1) (nb li2) (hk b o e))
  -- the addresses of the pairs
  have hrefs : ∃ as : List Addr, acc.toList = as.map Value.ref := by
    have : ∀ l : List Value, (∀ v ∈ l, ∃ T, v = .ref T) → ∃ as : List Addr, l = as.map Value.ref := by
      intro l
      induction l with
      | nil => exact fun _ => ⟨[], rfl⟩
      | cons v l ih =>
        intro hl
        obtain ⟨T, e⟩ := hl v List.mem_cons_self
        obtain ⟨as, e2⟩ := ih fun u hu => hl u (List.mem_cons_of_mem _ hu)
        exact ⟨T :: as, by rw [e, e2]; rfl⟩
    refine this _ fun v hv => ?_
    obtain ⟨j, hj⟩ := List.getElem?_of_mem hv
    rw [Array.getElem?_toList] at hj
    obtain ⟨T, x, y, e, _⟩ := hacc j v hj
    exact ⟨T, e⟩
  obtain ⟨as, has⟩ := hrefs
  have hlen : as.length = min xs.length ys.length := by
    have : acc.toList.length = as.length := by rw [has, List.length_map]
    rw [← this, Array.length_toList, hs, hmin]
  have hat : ∀ (j : Nat) (T : Addr), as[j]? = some T → ∃ x y u u2, xs[j]? = some x ∧ ys[j]? = some y ∧ RelV x u ∧ RelV y u2 ∧ s2.heap.objs.size ≤ T ∧ PySem.IsPair h' T u u2 := fun j T hj => by
    have hv : acc[j]? = some (.ref T) := by rw [← Array.getElem?_toList, has, List.getElem?_map, hj]; rfl
    obtain ⟨T', u, u2, e, r, hx, hy, hp⟩ := hacc j _ hv
    cases e
    have hx : its[j]? = some u := by simpa using hx
    have hy : its2[j]? = some u2 := by simpa using hy
    have jl1 : j < xs.length := by rw [n1]; exact (List.getElem?_eq_some_iff.mp hx).1
    have jl2 : j < ys.length := by rw [n2]; exact (List.getElem?_eq_some_iff.mp hy).1
    obtain ⟨u', e1, r1⟩ := rv.get (List.getElem?_eq_getElem jl1)
    obtain ⟨u2', e2, r2⟩ := rv2.get (List.getElem?_eq_getElem jl2)
    rw [hx] at e1
    cases e1
    rw [hy] at e2
    cases e2
    exact ⟨_, _, _, _, List.getElem?_eq_getElem jl1, List.getElem?_eq_getElem jl2, r1, r2, r, hp⟩
  have and_ : as.Nodup := by
    rw [List.nodup_iff_pairwise_ne, List.pairwise_iff_getElem]
    intro i j hi hj hij e
    have v1 : acc[i]? = some (.ref as[i]) := by rw [← Array.getElem?_toList, has, List.getElem?_map, List.getElem?_eq_getElem hi]; rfl
    have v2 : acc[j]? = some (.ref as[i]) := by rw [← Array.getElem?_toList, has, List.getElem?_map, List.getElem?_eq_getElem hj, e]; rfl
    have := hd i j _ v1 v2
    omega
  -- the pairs as objects
  let pr : Nat → HO := fun j => match xs[j]?, ys[j]? with | some x, some y => .tup [x, y] | _, _ => .tup []
  let l : List (Addr × HO) := (h'.objs.size, .tup (as.map V.ref)) :: (List.range as.length).map fun j => (as.getD j 0, pr j)
  have hgetD : ∀ {j : Nat} {T : Addr}, as[j]? = some T → as.getD j 0 = T := fun {j T} e => by rw [List.getD_eq_getElem?_getD, e]; rfl
  have lkeys : l.map (·.1) = h'.objs.size :: as := by
    show h'.objs.size :: ((List.range as.length).map fun j => (as.getD j 0, pr j)).map (·.1) = _
    rw [List.map_map]
    congr 1
    apply List.ext_getElem?
    intro j
    rw [List.getElem?_map]
    by_cases hj : j < as.length
    · rw [List.getElem?_range hj]
      show some (as.getD j 0) = _
      rw [List.getElem?_eq_getElem hj, hgetD (List.getElem?_eq_getElem hj)]
    · rw [List.getElem?_eq_none (by rw [List.length_range]; omega), List.getElem?_eq_none (by omega)]
      rfl
  have lnd : (l.map (·.1)).Nodup := by
    rw [lkeys, List.nodup_cons]
    refine ⟨fun hm => ?_, and_⟩
    obtain ⟨j, hj⟩ := List.getElem?_of_mem hm
    obtain ⟨x, y, u, u2, _, _, _, _, _, hp⟩ := hat j _ hj
    exact Nat.lt_irrefl _ (Heap.lt_size hp)
  have lh : s1.heap.objs.size ≤ h'.objs.size := by
    exact Nat.le_of_lt (Nat.lt_of_le_of_lt lti (Heap.lt_size (hk2 TI _ D.TIz D.TITO D.TIi1 D.TIi2 hTI)))
  have hpr : ∀ {j : Nat} {x y : V}, xs[j]? = some x → ys[j]? = some y → pr j = .tup [x, y] := fun {j x y} h1 h2 => by
    show (match xs[j]?, ys[j]? with | some x, some y => HO.tup [x, y] | _, _ => HO.tup []) = _
    rw [h1, h2]
  have lin : ∀ {j : Nat} {T : Addr}, as[j]? = some T → (T, pr j) ∈ l := fun {j T} hj => by
    refine List.mem_cons_of_mem _ (List.mem_map.mpr ⟨j, List.mem_range.mpr (List.getElem?_eq_some_iff.mp hj).1, ?_⟩)
    rw [hgetD hj]
  have lcase : ∀ p ∈ l, p = (h'.objs.size, HO.tup (as.map V.ref)) ∨ ∃ j T, as[j]? = some T ∧ p = (T, pr j) := fun p hp => by
    rcases List.mem_cons.mp hp with e | e
    · exact .inl e
    · obtain ⟨j, hj, e⟩ := List.mem_map.mp e
      have hj := List.mem_range.mp hj
      exact .inr ⟨j, as[j], List.getElem?_eq_getElem hj, by rw [← e, hgetD (List.getElem?_eq_getElem hj)]⟩
  have lge : ∀ p ∈ l, s1.heap.objs.size ≤ p.1 := fun p hp => by
    rcases lcase p hp with e | ⟨j, T, hj, e⟩
    · rw [e]
      exact lh
    · obtain ⟨x, y, u, u2, _, _, _, _, r, _⟩ := hat j T hj
      rw [e]
      exact Nat.le_trans ls r
  have lnew : ∀ p ∈ l, ObjOk X.prog X.w (ups H1 l) (h'.push { cls := .type "tuple", data := .seq acc }) p.1 p.2 := fun p hp => by
    rcases lcase p hp with e | ⟨j, T, hj, e⟩
    · rw [e]
      refine ⟨by rw [List.length_map, hlen]; exact hsz, acc.toList, ?_, ?_⟩
      · rw [has]
        have : ∀ l : List Addr, Vals (l.map V.ref) (l.map Value.ref) := fun l => by
          induction l with
          | nil => exact .nil
          | cons a l ih => exact .cons rfl ih
        exact this as
      · rw [Array.toArray_toList]
        exact IsTup.new _ _
    · obtain ⟨x, y, u, u2, hx, hy, rx, ry, r, hp⟩ := hat j T hj
      rw [e]
      show ObjOk _ _ _ _ T (pr j)
      rw [hpr hx hy]
      exact ⟨by show 2 ≤ sizeLine; decide, [u, u2], .cons rx (.cons ry .nil), ⟨_, Heap.get?_push_of_some _ hp, rfl, _, rfl⟩⟩
  have IN : Inv X pins σ (ups H1 l) { s1 with heap := h'.push { cls := .type "tuple", data := .seq acc }, toks := s1.toks } := inv_many I1 kall l lge lnew
  have e3 : ({ s2 with heap := h'.push { cls := .type "tuple", data := .seq acc } } : Shared) = { s1 with heap := h'.push { cls := .type "tuple", data := .seq acc } } := by rw [es]
  have hn : ∀ p ∈ l, H1 p.1 = none := fun p h => I1.hok.fresh (lge p h)
  refine ⟨.ref h'.objs.size, ups H1 l, ?_, rfl, q h'.objs.size as (ups H1 l) (fun b o e => ups_old hn e) (ups_new lnd List.mem_cons_self) hlen fun j T hj => ?_⟩
  · rw [e3]
    exact IN
  · obtain ⟨x, y, u, u2, hx, hy, _⟩ := hat j T hj
    exact ⟨x, y, hx, hy, by rw [← hpr hx hy]; exact ups_new lnd (lin hj)⟩
/-- list(range(a, b, c)) -/
def tLstRg3 (t : TA) : TE := fun σ H Q => t σ H fun vs H1 => ∃ (i j c : Int) (n : Nat), vs = [.int i, .int j, .int c] ∧ RgC i j c n ∧ n ≤ 2 ^ 24 ∧ ∀ q, H1 q = none → Q (.ref q) (upd H1 q (.lst ((List.range n).map fun k => V.int (i + (k : Nat) * c))))
theorem klstrg3 {a b c : Expr} (hc : X.calm = true) (hg : Gl X "list") (hm : X.mg "list" = none) (hg2 : Gl X "range") (hm2 : X.mg "range" = none) (ha : PA X [a, b, c] ta)
    (hs : starEach [a, b, c] X.env = (false, eval a X.env) :: starEach [b, c] X.env := by rfl) (hpl : (backTo pos2 (starEach [b, c] X.env)).any (·.1) = false := by rfl)
    (na : starEach [.Call (.Name "range" p2) [a, b, c] [] pos2] X.env = (false, eval (.Call (.Name "range" p2) [a, b, c] [] pos2) X.env) :: starEach [] X.env := by rfl) :
    PE X (.Call (.Name "list" p) [.Call (.Name "range" p2) [a, b, c] [] pos2] [] pos) (tLstRg3 ta) := by
  refine ⟨fun pins s σ H Q I h => ?_⟩
  have inner : wpAny (model X.prog X.w) X.A (eval (.Call (.Name "range" p2) [a, b, c] [] pos2) X.env) (fun v s1 => ∃ r i j k n t t' t'' H1, v = .ref r ∧ IsRange s1.heap r i j k t t' t'' ∧ Inv X pins σ H1 s1 ∧ RgC i j k n ∧ n ≤ 2 ^ 24 ∧ ∀ q, H1 q = none → Q (.ref q) (upd H1 q (.lst ((List.range n).map fun m => V.int (i + (m : Nat) * k))))) X.xe s := by
    refine Call_ (ld_blt I hg2 hm2 boot_range (PyProof.Rows.callWith_type1 (thn (ha.run pos2 pins s σ H _ I h) fun us s1 ⟨vs, H1, I1, r1, q1⟩ => ?_) hs hpl))
    obtain ⟨i, j, k, n, e, rg, hn, q⟩ := q1
    subst e
    cases r1 with
    | cons r rr =>
      cases rr with
      | cons r' rr =>
        cases rr with
        | cons r'' rr =>
          cases rr
          obtain ⟨t, rfl⟩ := r
          obtain ⟨t', rfl⟩ := r'
          obtain ⟨t'', rfl⟩ := r''
          refine call_range_3 rg.1 ?_ (.inl (PyProof.noPylong_small rg.2.1))
          exact ⟨_, i, j, k, n, t, t', t'', H1, rfl, IsRange.new .., I1.kept (t' := s1.toks) fun b o e => Heap.get?_push_of_some _ e, rg, hn, q⟩
  refine Call_ (ld_blt I hg hm boot_list (PyProof.Rows.callWith_type1 (args_cons (thn inner fun x s1 ⟨r, i, j, k, n, t, t', t'', H1, ex, hr, I1, rg, hn, q⟩ => args_nil ?_) na) na))
  subst ex
  refine call_list_range (n := n) (I1.ok.hd hc) hr rg.2.2.1 rg.2.2.2 hn fun h' tk acc c' hk e' hi => ?_
  have hv : Vals ((List.range n).map fun m => V.int (i + (m : Nat) * k)) acc.toList := by
    have el : acc.toList.length = n := by rw [Array.length_toList]; exact hi.1
    have := vals_of_get acc.toList (fun m => V.int (i + (m : Nat) * k)) fun m u hm => by
      obtain ⟨t, rfl⟩ := hi.2 m u (by rw [← hm, Array.getElem?_toList])
      exact ⟨t, rfl⟩
    rw [el] at this
    exact this
  refine ⟨.ref s1.heap.objs.size, upd H1 s1.heap.objs.size (.lst _), I1.laid hk (Nat.le_refl _) (show ObjOk X.prog X.w _ _ _ (.lst _) from ⟨?_, acc.toList, c', hv, ?_⟩), rfl, q _ (I1.hok.fresh (Nat.le_refl _))⟩
  · rw [List.length_map, List.length_range, sizeLine_eq]
    omega
  · rw [Array.toArray_toList]; exact e'
end
def zipTD (ds es : List PyData) : List PyData := (ds.zip es).map fun p => .tuple [p.1, p.2]
theorem dvAll_of {K : PySem.W.Frag} {H : Hp} {B : List Addr} : ∀ {vs : List V} {ds : List PyData}, vs.length = ds.length → (∀ (j : Nat) (v : V) (d : PyData), vs[j]? = some v → ds[j]? = some d → Dv K H B v d) → DvAll K H B vs ds
  | [], [], _, _ => .nil
  | [], _ :: _, h, _ => by cases h
  | _ :: _, [], h, _ => by cases h
  | v :: vs, d :: ds, h, f => .cons (f 0 v d rfl rfl) (dvAll_of (Nat.succ.inj h) fun j u e h1 h2 => f (j + 1) u e h1 h2)
section
variable {K : PySem.W.Frag} {Δ : DK}
theorem re_tupZip {t : TA} {aa : AA} (h1 : RA K Δ t aa) : RE K Δ (tTupZip K t) (fun s A => aa s fun xs s1 => ∃ ds es, xs = [.list ds, .list es] ∧ ds.length ≤ 100000 ∧ A (.tuple (zipTD ds es)) s1) := by
  intro C B σ H s Q A E h q
  refine h1 C B σ H s _ _ E h fun vs ds H1 s1 a1 m1 E1 dv1 => ?_
  obtain ⟨d, e, ed, hl, a⟩ := a1
  subst ed
  obtain ⟨v, u, ev, dv, du⟩ := dv1.two
  subst ev
  obtain ⟨p, xs, ev, hp, hB, hd⟩ := dv.lstI
  obtain ⟨p2, ys, eu, hp2, hB2, hd2⟩ := du.lstI
  subst ev eu
  refine ⟨p, p2, xs, ys, rfl, SqL.of hp, SqL.of hp2, ?_, fun qa as H2 sm hq hlen hat => q _ _ H2 s1 a (m1.trans (.of_same sm)) (E1.same sm) (.tup (SqT.of hq) (dvAll_of ?_ fun j v f hv hf => ?_))⟩
  · rw [sizeLine_eq, hd.len]
    omega
  · unfold zipTD
    rw [List.length_map, List.length_map, List.length_zip, hlen, hd.len, hd2.len]
  · rw [List.getElem?_map] at hv
    cases hT : as[j]? with
    | none =>
      rw [hT] at hv
      cases hv
    | some T =>
      rw [hT] at hv
      cases hv
      obtain ⟨x, y, hx, hy, hp⟩ := hat j T hT
      unfold zipTD at hf
      rw [List.getElem?_map] at hf
      cases hz : (d.zip e)[j]? with
      | none =>
        rw [hz] at hf
        cases hf
      | some z =>
        rw [hz] at hf
        cases hf
        obtain ⟨z1, z2⟩ := z
        obtain ⟨q1, q2⟩ := List.getElem?_zip_eq_some.mp hz
        obtain ⟨x', e1, d1⟩ := hd.gets q1
        obtain ⟨y', e2, d2⟩ := hd2.gets q2
        rw [hx] at e1
        cases e1
        rw [hy] at e2
        cases e2
        exact .tup (SqT.of hp) (.cons (d1.same sm) (.cons (d2.same sm) .nil))
theorem re_lstRg3 {t : TA} {aa : AA} (h1 : RA K Δ t aa) : RE K Δ (tLstRg3 t) (fun s A => aa s fun xs s1 => ∃ (i j c : Int) (n : Nat), xs = [.int i, .int j, .int c] ∧ RgC i j c n ∧ n ≤ 100000 ∧ A (.list ((List.range n).map fun k => .int (i + (k : Nat) * c))) s1) := by
  intro C B σ H s Q A E h q
  refine h1 C B σ H s _ _ E h fun vs ds H1 s1 a1 m1 E1 dv1 => ?_
  obtain ⟨i, j, c, n, ed, rg, hn, a⟩ := a1
  subst ed
  cases dv1 with
  | cons d1 r1 =>
    obtain ⟨v, u, ev, d2, d3⟩ := r1.two
    subst ev
    cases d1
    cases d2
    cases d3
    refine ⟨i, j, c, n, rfl, rg, by omega, fun qa nq => ?_⟩
    have dv : DvAll K H1 B ((List.range n).map fun k => V.int (i + (k : Nat) * c)) ((List.range n).map fun k => PyData.int (i + (k : Nat) * c)) := by
      have := dvInts (K := K) (H := H1) (B := B) ((List.range n).map fun k => i + (k : Nat) * c)
      rw [List.map_map, List.map_map] at this
      exact this
    obtain ⟨sm, dv⟩ := new_lst E1 nq dv
    exact q _ _ _ s1 a (m1.trans (.of_same sm)) (E1.same sm) dv
end
theorem asc_rot {ts : List Int} {m : Int} {r : Nat} (asc : ts.Pairwise (· < ·)) (bd : ∀ x ∈ ts, 0 ≤ x ∧ x < m) (hr : r < ts.length) :
    (ts.drop r ++ ts.take r).Pairwise fun x y => (x - ts[r]) % m < (y - ts[r]) % m := by
  have hm : ∀ x ∈ ts.drop r, ts[r] ≤ x ∧ x < m := fun x hx => by
    refine ⟨?_, (bd x (List.mem_of_mem_drop hx)).2⟩
    obtain ⟨j, hj⟩ := List.getElem?_of_mem hx
    rw [List.getElem?_drop] at hj
    by_cases z : j = 0
    · subst z
      rw [Nat.add_zero, List.getElem?_eq_getElem hr] at hj
      cases hj
      exact Int.le_refl _
    · exact Int.le_of_lt (pw_get asc (List.getElem?_eq_getElem hr) hj (by omega))
  have ht : ∀ x ∈ ts.take r, 0 ≤ x ∧ x < ts[r] := fun x hx => by
    refine ⟨(bd x (List.mem_of_mem_take hx)).1, ?_⟩
    obtain ⟨j, hj⟩ := List.getElem?_of_mem hx
    have hjr : j < r := by
      have := (List.getElem?_eq_some_iff.mp hj).1
      rw [List.length_take] at this
      omega
    rw [List.getElem?_take_of_lt hjr] at hj
    exact pw_get asc hj (List.getElem?_eq_getElem hr) hjr
  have b0 := bd ts[r] (List.getElem_mem hr)
  have v1 : ∀ x ∈ ts.drop r, (x - ts[r]) % m = x - ts[r] := fun x hx => Int.emod_eq_of_lt (by have := hm x hx; omega) (by have := hm x hx; omega)
  have v2 : ∀ x ∈ ts.take r, (x - ts[r]) % m = x - ts[r] + m := fun x hx => by
    have := ht x hx
    rw [← Int.add_emod_right]
    exact Int.emod_eq_of_lt (by omega) (by omega)
  rw [List.pairwise_append]
  refine ⟨(asc.sublist (List.drop_sublist r ts)).imp_of_mem fun {x y} hx hy h => ?_, (asc.sublist (List.take_sublist r ts)).imp_of_mem fun {x y} hx hy h => ?_, fun x hx y hy => ?_⟩
  · rw [v1 x hx, v1 y hy]
    omega
  · rw [v2 x hx, v2 y hy]
    omega
  · rw [v1 x hx, v2 y hy]
    have := hm x hx
    have := ht y hy
    omega
theorem tool_rot {m s : Int} {bs ts : List Int} {r : Nat} (hl : bs.length = ts.length) (h12 : ts.length ≤ 12) (ab : bs.Pairwise (· < ·)) (at_ : ts.Pairwise (· < ·)) (bb : ∀ x ∈ bs, 0 ≤ x ∧ x < m) (bt : ∀ x ∈ ts, 0 ≤ x ∧ x < m) (hr : r < ts.length)
    (h1 : bs.length = 1 → ∀ x ∈ bs, x = 0) : IsTool m (bs.zip ((ts.drop r ++ ts.take r).map fun x => (x + s) % m)) := by
  have hus : ((ts.drop r ++ ts.take r).map fun x => (x + s) % m).length = bs.length := by
    rw [List.length_map, List.length_append, List.length_drop, List.length_take, hl]
    omega
  have hm : 0 < m := by have := bt ts[r] (List.getElem_mem hr); omega
  have zl : (bs.zip ((ts.drop r ++ ts.take r).map fun x => (x + s) % m)).length = bs.length := by rw [List.length_zip, hus, Nat.min_self]
  have m1 : (bs.zip ((ts.drop r ++ ts.take r).map fun x => (x + s) % m)).map Prod.fst = bs := List.map_fst_zip (by omega)
  have m2 : (bs.zip ((ts.drop r ++ ts.take r).map fun x => (x + s) % m)).map Prod.snd = (ts.drop r ++ ts.take r).map fun x => (x + s) % m := List.map_snd_zip (by omega)
  refine ⟨by rw [zl]; omega, by rw [zl]; omega, fun p hp => ⟨?_, ?_⟩, ?_, ?_, fun h p hp => ?_⟩
  · exact bb _ (by rw [← m1]; exact List.mem_map.mpr ⟨p, hp, rfl⟩)
  · have : p.2 ∈ (ts.drop r ++ ts.take r).map fun x => (x + s) % m := by rw [← m2]; exact List.mem_map.mpr ⟨p, hp, rfl⟩
    obtain ⟨x, _, e⟩ := List.mem_map.mp this
    rw [← e]
    exact ⟨Int.emod_nonneg _ (by omega), Int.emod_lt_of_pos _ hm⟩
  · have h := ab
    rw [← m1, List.pairwise_map] at h
    exact h
  · have hd : ((bs.zip ((ts.drop r ++ ts.take r).map fun x => (x + s) % m)).headD (0, 0)).2 = (ts[r] + s) % m := by
      have e0 : (ts.drop r ++ ts.take r)[0]? = some ts[r] := by
        rw [List.getElem?_append_left (by rw [List.length_drop]; omega), List.getElem?_drop, Nat.add_zero, List.getElem?_eq_getElem hr]
      have e1 : ((bs.zip ((ts.drop r ++ ts.take r).map fun x => (x + s) % m)).map Prod.snd)[0]? = some ((ts[r] + s) % m) := by
        rw [m2, List.getElem?_map, e0]
        rfl
      generalize bs.zip ((ts.drop r ++ ts.take r).map fun x => (x + s) % m) = z at e1 ⊢
      cases z with
      | nil => cases e1
      | cons p z =>
        exact Option.some.inj e1
    rw [hd]
    have h := asc_rot at_ bt hr
    have h2 : ((ts.drop r ++ ts.take r).map fun x => (x + s) % m).Pairwise fun x y => (x - (ts[r] + s) % m) % m < (y - (ts[r] + s) % m) % m := by
      rw [List.pairwise_map]
      exact h.imp fun {x y} z => by rw [sub_mod_shift, sub_mod_shift]; exact z
    rw [← m2, List.pairwise_map] at h2
    exact h2
  · rw [zl] at h
    exact h1 h _ (by rw [← m1]; exact List.mem_map.mpr ⟨p, hp, rfl⟩)
theorem zipTD_tool (bs us : List Int) : zipTD (bs.map .int) (us.map .int) = (bs.zip us).map pairD := by
  unfold zipTD
  rw [List.zip_map, List.map_map]
  rfl
theorem good_list {m d : Int} (hm : 1 ≤ m) (g : Good m d) : ((List.range (m / d).toNat).map fun k => (0 : Int) + (k : Nat) * d).Pairwise (· < ·) ∧ (∀ x ∈ (List.range (m / d).toNat).map fun k => (0 : Int) + (k : Nat) * d, 0 ≤ x ∧ x < m) ∧ 1 ≤ (m / d).toNat ∧ (m / d).toNat ≤ 12 ∧ ((m / d).toNat = 1 → ∀ x ∈ (List.range (m / d).toNat).map fun k => (0 : Int) + (k : Nat) * d, x = 0) := by
  have h0 := g.1
  have h1 := g.mul
  have q1 : 1 ≤ m / d := by
    apply Int.le_of_lt_add_one
    have : 0 < m / d := Int.ediv_pos_of_pos_of_dvd (by omega) (by omega) (Int.dvd_of_emod_eq_zero g.2.2.1)
    omega
  refine ⟨?_, ?_, by omega, by have := g.2.2.2; omega, ?_⟩
  · rw [List.pairwise_map]
    refine List.pairwise_lt_range.imp fun {i j} hij => ?_
    have : (i : Int) * d < (j : Int) * d := Int.mul_lt_mul_of_pos_right (by omega) (by omega)
    omega
  · intro x hx
    obtain ⟨k, hk, e⟩ := List.mem_map.mp hx
    have hk := List.mem_range.mp hk
    subst e
    have a1 : 0 ≤ (k : Int) * d := Int.mul_nonneg (by omega) (by omega)
    have a2 : (k : Int) * d < (m / d) * d := Int.mul_lt_mul_of_pos_right (by omega) (by omega)
    have a3 : (m / d) * d = m := by rw [Int.mul_comm]; exact h1.symm
    omega
  · intro e x hx
    obtain ⟨k, hk, ex⟩ := List.mem_map.mp hx
    have hk := List.mem_range.mp hk
    have : k = 0 := by omega
    subst this
    rw [← ex]
    simp
def RToolE : RKd := fun ds k A => ∃ m : Int, ds = [.int m] ∧ k.n + 40 ≤ 1000000 ∧ 1 ≤ m ∧ m ≤ 60 ∧ ∀ tl, IsTool m tl → A (toolD tl) (k.up 40)
def RCircE : RKd := fun ds k A => ∃ most : Int, ds = [.int most] ∧ k.n + 200 ≤ 1000000 ∧ 1 ≤ most ∧ most ≤ 60 ∧ ∀ m tls, 1 ≤ m → m ≤ most → (∀ t ∈ tls, IsTool m t) → 1 ≤ tls.length → tls.length ≤ 3 → A (.list [.int m, toolsD tls]) (k.up 200)
theorem rs_cutP {K : PySem.W.Frag} {Δ : DK} {tc : TT} {ac : AT} {i j : Nat} {t1 u : TS} {a1 b : AStm} {ta : TA} {aa : AA} (hc : RT K Δ tc ac) (h1 : RS K Δ t1 a1) (h2 : RA K Δ ta aa) (hu : RS K Δ u b) :
    RS K Δ (tSeq (tIfS tc t1 (tPar i j ta)) u) (aCut (aIfS ac a1 (aPar i j aa)) b) := rs_cut (rs_if hc h1 (rs_par h2)) hu
section
variable {K : PySem.W.Frag} {Δ : DK}
variable [WDK K Δ]
/-- x = C(..) -/
theorem rs_asgMk {R : ROb} {Cc : Addr} {W : WX} {ta : TA} {aa : AA} {i : Nat} (hR : ∀ x ds T A X, R x ds T A X → R x ds T (fun d T' => d = .none ∧ A d T') X) (h1 : RA K Δ ta aa) :
    RS K Δ (tAsg (tMakeS Cc (spO K R) W ta) (gName i)) (fun A s => aa s fun ds s1 => aMk Cc R ds s1 (fun x s2 => A.nx (s2.put i (osl x))) fun _ _ _ => False) := by
  intro C B σ H s D A E h qn qr
  refine h1 C B σ H s _ _ E h fun vs ds H1 s1 a1 m1 E1 dv => ?_
  exact mkO (W := W) (Q := fun x H1 => D.nx (List.set σ i (some x)) H1) E1 dv a1 hR (fun x H2 s2 o m2 E2 => qn B _ H2 _ o (.of_mv ((m1.trans m2).up E.sub)) E2.putO) (fun _ _ _ _ _ z => z.elim)
end
theorem initB_none {CP : Addr} : ∀ x ds T A X, RInitB CP x ds T A X → RInitB CP x ds T (fun d T' => d = .none ∧ A d T') X := by
  rintro x ds T A X ⟨m, tls, e, h, h1, h2, h3, h4, h5, a⟩
  exact ⟨m, tls, e, h, h1, h2, h3, h4, h5, rfl, a⟩
theorem b_three {d e f : PyData} {n m : Nat} (h1 : Neat d n m) (h2 : Neat e n m) (h3 : Neat f n m) (hn : n ≤ 5000000) (hm : m ≤ 50) : Neat (.list [d, e, f]) 16000000 60 :=
  (neat_list (ds := [d, e, f]) (n := n) (e := m) fun x hx => by
    simp only [List.mem_cons, List.not_mem_nil, or_false] at hx
    rcases hx with h | h | h <;> (rw [h]; assumption)).mono (by show 3 * (n + 2) + 2 ≤ 16000000; omega) (by omega)
theorem b_upto (m : Int) : Places m (upto m) := ⟨upto_asc m, fun x hx => upto_mem.mp hx⟩
theorem b_upto_ne {l : Int} (l1 : 1 ≤ l) : upto l ≠ [] := fun z => by
  have : (0 : Int) ∈ upto l := upto_mem.mpr ⟨by omega, by omega⟩
  rw [z] at this
  exact List.not_mem_nil this
theorem b_img_ne {m : Int} {f : Int → Int} {ps : List Int} (hf : ∀ x ∈ ps, 0 ≤ f x ∧ f x < m) (h : ps ≠ []) : imgP m f ps ≠ [] := fun z => by
  cases ps with
  | nil => exact h rfl
  | cons p ps =>
    have : f p ∈ imgP m f (p :: ps) := (imgP_mem hf).mpr ⟨p, List.mem_cons_self, rfl⟩
    rw [z] at this
    exact List.not_mem_nil this
inductive Ed | push (t i : Int) | learn (b l : Int)
def edD : Ed → PyData
  | .push t i => .tuple [.str "push", .int t, .int i]
  | .learn b l => .tuple [.str "learn", .int b, .int l]
def EdOk (m : Int) (nt : Nat) : Ed → Prop
  | .push t i => t.natAbs < 10 ^ 30 ∧ 0 ≤ i ∧ i < nt
  | .learn b l => 0 ≤ b ∧ b < m ∧ 1 ≤ l ∧ l ≤ m
def aftE (m : Int) (tls : List (List (Int × Int))) (ps : List Int) : Ed → List Int
  | .push t i => imgP m (pushF m (tls.getD i.toNat []) t) ps
  | .learn b l => ps.filter (inArc m b l)
def edsD (es : List Ed) : PyData := .tuple (es.map edD)
def hstD (hs : List (List Int)) : PyData := .tuple (hs.map tupD)
def fsH (m : Int) (tls : List (List (Int × Int))) (es : List Ed) (hs : List (List Int)) (aim : Int) (wt : Bool) : List (Str × PyData) := fsB m (toolsD tls) (edsD es) (hstD hs) aim wt
theorem hard_ed (e : Ed) : hardD (edD e) = true := by cases e <;> rfl
theorem hard_eds (es : List Ed) : hardA (es.map edD) = true := hardA_all fun d hd => by
  obtain ⟨e, _, h⟩ := List.mem_map.mp hd
  rw [← h]
  exact hard_ed e
theorem hard_hst (hs : List (List Int)) : hardA (hs.map tupD) = true := hardA_all fun d hd => by
  obtain ⟨e, _, h⟩ := List.mem_map.mp hd
  rw [← h]
  exact hard_ints e
theorem ed_neat {m : Int} {nt : Nat} {e : Ed} (h : EdOk m nt e) (hm : m ≤ 60) (hn : nt ≤ 100) : Neat (edD e) 20000 2 := by
  have sw : ∀ w : Str, Neat (.str w) 1921 1 → ∀ a b : Int, a.natAbs < 10 ^ 40 → b.natAbs < 10 ^ 40 → Neat (.tuple [.str w, .int a, .int b]) 20000 2 := fun w hw a b ha hb =>
    (neat_tuple (ds := [.str w, .int a, .int b]) (n := 1921) (e := 1) fun d hd => by
      simp only [List.mem_cons, List.not_mem_nil, or_false] at hd
      rcases hd with h | h | h
      · rw [h]
        exact hw
      · rw [h]
        exact nt_int ha
      · rw [h]
        exact nt_int hb).mono (by show 3 * (1921 + 2) + 3 ≤ 20000; decide) (by decide)
  cases e with
  | push t i =>
    obtain ⟨h1, h2, h3⟩ := h
    exact sw _ ⟨rfl, by decide, by decide +kernel⟩ _ _ (by omega) (by omega)
  | learn b l =>
    obtain ⟨h1, h2, h3, h4⟩ := h
    exact sw _ ⟨rfl, by decide, by decide +kernel⟩ _ _ (by omega) (by omega)
theorem eds_neat {m : Int} {nt : Nat} {es : List Ed} (h : ∀ e ∈ es, EdOk m nt e) (hm : m ≤ 60) (hn : nt ≤ 100) (hl : es.length ≤ 60) : Neat (edsD es) 3900000 3 :=
  (neat_tuple (ds := es.map edD) (n := 20000) (e := 2) fun d hd => by
    obtain ⟨e, he, h'⟩ := List.mem_map.mp hd
    rw [← h']
    exact ed_neat (h e he) hm hn).mono (by rw [List.length_map]; have : es.length * (20000 + 2) ≤ 60 * 20002 := Nat.mul_le_mul_right _ hl; omega) (by decide)
theorem ps_neat {m : Int} {ps : List Int} (pp : Places m ps) (hm : m ≤ 60) : Neat (tupD ps) 3900000 3 := (neat_ints (by have := pp.len; omega) fun n hn => by have := pp.rng n hn; omega).mono (Nat.le_refl _) (by decide)
theorem right_neat {m : Int} {nt : Nat} {ps : List Int} {es : List Ed} (pp : Places m ps) (h : ∀ e ∈ es, EdOk m nt e) (hm : m ≤ 60) (hn : nt ≤ 100) (hl : es.length ≤ 60) : Neat (.list [tupD ps, .tuple (es.map edD), .int ((es.map edD).length : Nat)]) 16000000 60 :=
  b_three (ps_neat pp hm) (eds_neat h hm hn hl) ((nt_int (e := 3) (by rw [List.length_map]; omega)).mono (by decide) (Nat.le_refl _) : Neat _ 3900000 3) (by decide) (by decide)
/-- how a bench stands -/
structure Hist (m : Int) (tls : List (List (Int × Int))) (es : List Ed) (hs : List (List Int)) (ps : List Int) : Prop where
  len : hs.length = es.length + 1
  last : hs[es.length]? = some ps
  pl : ∀ h ∈ hs, Places m h ∧ h ≠ []
  ok : ∀ e ∈ es, EdOk m tls.length e
  step : ∀ (i : Nat) (e : Ed) (p : List Int), es[i]? = some e → hs[i]? = some p → hs[i + 1]? = some (aftE m tls p e)
theorem Hist.pp {m : Int} {tls : List (List (Int × Int))} {es : List Ed} {hs : List (List Int)} {ps : List Int} (h : Hist m tls es hs ps) : Places m ps ∧ ps ≠ [] := h.pl _ (List.mem_of_getElem? h.last)
theorem Hist.new {m : Int} {tls : List (List (Int × Int))} (hm : 1 ≤ m) : Hist m tls [] [upto m] (upto m) :=
  ⟨rfl, rfl, fun h hh => by rw [List.mem_singleton.mp hh]; exact ⟨b_upto m, b_upto_ne hm⟩, fun e he => (List.not_mem_nil he).elim, fun i e p h => by simp at h⟩
theorem Hist.at {m : Int} {tls : List (List (Int × Int))} {es : List Ed} {hs : List (List Int)} {ps : List Int} (h : Hist m tls es hs ps) : atI (hs.map tupD) (-1) = some (tupD ps) := by
  have hl := h.len
  have e : hs = hs.take es.length ++ [ps] := by
    have h1 := List.take_append_drop es.length hs
    have h2 : es.length < hs.length := by omega
    rw [List.drop_eq_getElem_cons h2, List.drop_eq_nil_of_le (by omega)] at h1
    have h3 := h.last
    rw [List.getElem?_eq_getElem h2] at h3
    rw [Option.some.inj h3] at h1
    exact h1.symm
  rw [e, List.map_append]
  exact atI_last _ _
theorem aft_ne {m : Int} {tls : List (List (Int × Int))} {ps : List Int} (its : ∀ t ∈ tls, IsTool m t) (ne : ps ≠ []) {t i : Int} (i0 : 0 ≤ i) (i1 : i < tls.length) : aftE m tls ps (.push t i) ≠ [] := by
  have hi : i.toNat < tls.length := by omega
  have e : tls.getD i.toNat [] = tls[i.toNat] := by rw [List.getD_eq_getElem?_getD, List.getElem?_eq_getElem hi]; rfl
  show imgP m (pushF m (tls.getD i.toNat []) t) ps ≠ []
  rw [e]
  exact b_img_ne (fun x _ => tgt_rng (its _ (List.getElem_mem hi)) _) ne
/-- an edit done at a bench -/
theorem do_ed {C a : Addr} {T : Tb} {A : PyData → Tb → Prop} {X : Addr → List (Str × PyData) → Tb → Prop} {m aim : Int} {tls : List (List (Int × Int))} {es : List Ed} {hs : List (List Int)} {ps : List Int} {e : Ed} (hh : Hist m tls es hs ps) (its : ∀ t ∈ tls, IsTool m t) (m1 : 1 ≤ m) (m2 : m ≤ 60) (hl : es.length < 60) (ht : getT T a = some (C, fsH m tls es hs aim false))
    (ok : EdOk m tls.length e) (ne : aftE m tls ps e ≠ []) (h : A (.int ((es.length : Nat) + 1)) (setT T a (fsH m tls (es ++ [e]) (hs ++ [aftE m tls ps e]) aim false))) : RDo C a [edD e] T A X := by
  have ea : ∀ d : PyData, d = edD e → ∀ q : List Int, q = aftE m tls ps e → fsB m (toolsD tls) (.tuple (es.map edD ++ [d])) (.tuple (hs.map tupD ++ [tupD q])) aim false = fsH m tls (es ++ [e]) (hs ++ [aftE m tls ps e]) aim false := fun d hd q hq => by
    rw [hd, hq]
    unfold fsH edsD hstD
    rw [List.map_append, List.map_append]
    rfl
  have hhl := hh.len
  cases e with
  | push t i =>
    obtain ⟨h1, h2, h3⟩ := ok
    have hi : i.toNat < tls.length := by omega
    have eg : tls.getD i.toNat [] = tls[i.toNat] := by rw [List.getD_eq_getElem?_getD, List.getElem?_eq_getElem hi]; rfl
    refine .inl ⟨t, i, rfl, m, tls, tls[i.toNat], es.map edD, hs.map tupD, ps, aim, t, i, rfl, ht, by rw [List.length_map]; exact hl, h1, h2, List.getElem?_eq_getElem hi, its _ (List.getElem_mem hi), m1, m2, hh.at, hh.pp.1, hard_eds _, hard_hst _, by rw [List.length_map]; omega, ?_⟩
    have e1 := ea (.tuple [.str "push", .int t, .int i]) rfl (imgP m (pushF m tls[i.toNat] t) ps) (by show _ = imgP m (pushF m (tls.getD i.toNat []) t) ps; rw [eg])
    rw [e1, List.length_map]
    exact h
  | learn b l =>
    obtain ⟨h1, h2, h3, h4⟩ := ok
    refine .inr ⟨b, l, rfl, m, toolsD tls, es.map edD, hs.map tupD, ps, aim, b, l, rfl, ht, by rw [List.length_map]; exact hl, h1, h2, h3, h4, m2, hh.at, hh.pp.1, ne, hard_eds _, hard_hst _, by rw [List.length_map]; omega, ?_⟩
    have e1 := ea (.tuple [.str "learn", .int b, .int l]) rfl (ps.filter (inArc m b l)) rfl
    rw [e1, List.length_map]
    exact h
theorem right_ed {C a : Addr} {T : Tb} {A : PyData → Tb → Prop} {X : Addr → List (Str × PyData) → Tb → Prop} {m aim : Int} {wt : Bool} {tls : List (List (Int × Int))} {es : List Ed} {hs : List (List Int)} {ps : List Int} (hh : Hist m tls es hs ps) (m1 : 1 ≤ m) (m2 : m ≤ 60) (hl : es.length ≤ 60) (l2 : tls.length ≤ 100) (ht : getT T a = some (C, fsH m tls es hs aim wt))
    (h : A (.bool true) T) : RRightB C a [stD m tls ps, .list (es.map edD)] T A X := by
  have := hh.pp.1.len
  exact ⟨m, tls.map toolD, es.map edD, hs.map tupD, ps, aim, wt, rfl, ht, hh.at, by omega, by rw [List.length_map]; omega, by rw [List.length_map]; omega, by omega, right_neat hh.pp.1 hh.ok m2 l2 hl, h⟩
def tSnoc (t : TA) (v : V) : TA := fun σ H Q => t σ H fun vs H1 => Q (vs ++ [v]) H1
def tBoth (n : Nat) (t tk : TA) : TA := fun σ H Q => t σ H fun vs H1 => tk σ H1 fun zs H2 => vs.length = n ∧ zs.length = 1 ∧ Q (vs ++ zs) H2
structure MethV (P : Program) (w : World) (K : PySem.W.Frag) (mg : Str → Option Value) (base : Heap) (k : Nat) (C : Addr) (m : Str) (n : Nat) (ps : List Str) (sp : Sp) : Prop where
  cl : Cls K C
  me : ∃ f fd, Meth K C m f ∧ FnOk P w K mg base (L2.CX P w) k f fd ps sp ∧ (∃ ds, Vals [.non] ds ∧ L2.Binds K fd ps ds) ∧ ∃ g, KBn K fd ps n [ps.getLastD ""] g (fun vs zs => vs ++ zs)
section
variable {X : Cx} {k j n : Nat} {C : Addr} {m : Str} {ps : List Str} {sp : Sp} {o e : Expr} {es : List Expr} {kws : List Keyword} {apos pos : Pos} {ta : TE} {t tk : TA} {W : WX}
theorem pe_mVd0 {pl : Sem Bool} (M : MethV X.prog X.w X.K X.mg X.base k C m n ps sp) (he : PE X o ta) (hr : Room j X.A) (hk : k ≤ j) (tk : Takes X W)
    (ht : eval (.Call (.Attribute o m apos) [] [] pos) X.env = (do
      let ov ← eval o X.env
      standAt apos.atName
      let (f, first) ← holding [ov] (getMethod ov m pl)
      callWith pos f first (backTo pos (starEach [] X.env)) (backToKw pos (keywordEach [] X.env))) := by rfl) :
    PE X (.Call (.Attribute o m apos) [] [] pos) (tMethS C m sp W ta (tSnoc tNil .non)) := by
  obtain ⟨f, fd, hm, F, ⟨ds, vd, hb⟩, _⟩ := M.me
  refine ⟨fun pins s σ H Q I h => ?_⟩
  refine PySem.W.methodCall_KW (pl := pl) (thn (he.run pins s σ H _ I h) fun u s1 ⟨x, H1, I1, rx, a, dx, fs, ex, ea, l, q⟩ => ?_) ht
  subst ex
  obtain rfl : u = Value.ref a := rx
  refine getmeth_ok I1 ea M.cl hm l ?_
  exact PySem.W.callWith_K0 (first := [.ref a]) I1.kIn hm.kp (run_fnSD (us := [.ref a]) (vs := [.ref a]) F (hr.mono hk) hb vd (E := fun σ => WE W σ) (passAt tk σ) I1 (.cons rfl .nil) q)
end
section
variable {K : PySem.W.Frag} {Δ : DK}
theorem ra_snoc {t : TA} {aa : AA} (h1 : RA K Δ t aa) : RA K Δ (tSnoc t .non) (fun s A => aa s fun ds s1 => A (ds ++ [.none]) s1) := by
  intro C B σ H s Q A E h q
  refine h1 C B σ H s _ _ E h fun vs ds H1 s1 a1 m1 E1 dv1 => ?_
  exact q _ _ H1 s1 a1 m1 E1 (dv1.app (.cons .non .nil))
theorem ra_both {n : Nat} {t tk : TA} {aa ak : AA} (h1 : RA K Δ t aa) (h2 : RA K Δ tk ak) : RA K Δ (tBoth n t tk) (fun s A => aa s fun ds s1 => ak s1 fun es s2 => ds.length = n ∧ es.length = 1 ∧ A (ds ++ es) s2) := by
  intro C B σ H s Q A E h q
  refine h1 C B σ H s _ _ E h fun vs ds H1 s1 a1 m1 E1 dv1 => h2 C B σ H1 s1 _ _ E1 a1 fun us es H2 s2 a2 m2 E2 dv2 => ?_
  exact ⟨by rw [dv1.len]; exact a2.1, by rw [dv2.len]; exact a2.2.1, q _ _ H2 s2 a2.2.2 (m1.trans m2) E2 ((DvAll.mv (m2.up E2.sub) _ _ dv1).app dv2)⟩
end
def verD (sts : List PyData) (d l : PyData) : Prop := (d = .none ∧ atI sts (-1) = some l) ∨ ∃ v : Int, d = .int v ∧ 0 ≤ v ∧ v < sts.length ∧ atI sts v = some l
def RPossV (C : Addr) : ROb := fun a ds T A _ => ∃ m tls dn sts aim wt d l, ds = [d] ∧ getT T a = some (C, fsB m tls dn (.tuple sts) aim wt) ∧ verD sts d l ∧ A l T
structure Cir (m : Int) (tls : List (List (Int × Int))) : Prop where
  m1 : 1 ≤ m
  m2 : m ≤ 60
  its : ∀ t ∈ tls, IsTool m t
  l1 : 1 ≤ tls.length
  l2 : tls.length ≤ 4
theorem Cir.ne {m : Int} {tls : List (List (Int × Int))} (c : Cir m tls) : tls ≠ [] := fun z => by have := c.l1; rw [z] at this; exact absurd this (by decide)
structure Bn (C : Addr) (T : Tb) (x : Addr) (m : Int) (tls : List (List (Int × Int))) (es : List Ed) (hs : List (List Int)) (ps : List Int) (aim : Int) (wt : Bool) : Prop where
  ht : getT T x = some (C, fsH m tls es hs aim wt)
  hh : Hist m tls es hs ps
theorem getT_ne {T : Tb} {x y : Addr} {fs : List (Str × PyData)} (h : y ≠ x) : getT (setT T x fs) y = getT T y := by
  unfold getT setT
  induction T with
  | nil => rfl
  | cons e T ih =>
    rw [List.map_cons, List.lookup_cons, List.lookup_cons]
    by_cases z : e.1 = x
    · rw [if_pos z]
      have e1 : (y == e.1) = false := beq_eq_false_iff_ne.mpr fun q => h (q.trans z)
      rw [e1]
      show List.lookup y _ = _
      exact ih
    · rw [if_neg z]
      cases hy : (y == e.1) with
      | true => rfl
      | false => exact ih
theorem getT_mem {T : Tb} {x C : Addr} {fs : List (Str × PyData)} (h : getT T x = some (C, fs)) : x ∈ T.map (·.1) := List.mem_map.mpr ⟨_, look_mem h, rfl⟩
section
variable {C x y : Addr} {T : Tb} {m aim : Int} {tls : List (List (Int × Int))} {es es' : List Ed} {hs hs' : List (List Int)} {ps ps' : List Int} {wt : Bool} {A : PyData → Tb → Prop} {X : Addr → List (Str × PyData) → Tb → Prop}
theorem Bn.look (b : Bn C T x m tls es hs ps aim wt) (f : Str) (hf : (fsH m tls es hs aim wt).lookup f = none := by rfl) : ∃ fs, getT T x = some (C, fs) ∧ fs.lookup f = none := ⟨_, b.ht, hf⟩
theorem Bn.set (b : Bn C T x m tls es hs ps aim wt) (h : Hist m tls es' hs' ps') {aim' : Int} {wt' : Bool} : Bn C (setT T x (fsH m tls es' hs' aim' wt')) x m tls es' hs' ps' aim' wt' := ⟨getT_set b.ht, h⟩
theorem Bn.len (b : Bn C T x m tls es hs ps aim wt) (h : A (.int (es.length : Nat)) T) : RLenB C x [] T A X := ⟨m, toolsD tls, es.map edD, _, aim, wt, rfl, b.ht, by rw [List.length_map]; exact h⟩
theorem Bn.push (b : Bn C T x m tls es hs ps aim false) (c : Cir m tls) (hl : es.length < 60) {t i : Int} (t1 : t.natAbs < 10 ^ 30) (i0 : 0 ≤ i) (i1 : i < tls.length)
    (h : A (.int ((es.length : Nat) + 1)) (setT T x (fsH m tls (es ++ [.push t i]) (hs ++ [aftE m tls ps (.push t i)]) aim false))) : RPushB C x [.int t, .int i] T A X := by
  rcases do_ed (X := X) (e := .push t i) b.hh c.its c.m1 c.m2 hl b.ht ⟨t1, i0, i1⟩ (aft_ne c.its b.hh.pp.2 i0 i1) h with ⟨t', i', e, h⟩ | ⟨t', i', e, h⟩
  · cases e
    exact h
  · simp [edD] at e
    exact absurd e.1 (by decide +kernel)
theorem Bn.learn (b : Bn C T x m tls es hs ps aim false) (c : Cir m tls) (hl : es.length < 60) {t i : Int} (ok : EdOk m tls.length (.learn t i)) (ne : aftE m tls ps (.learn t i) ≠ [])
    (h : A (.int ((es.length : Nat) + 1)) (setT T x (fsH m tls (es ++ [.learn t i]) (hs ++ [aftE m tls ps (.learn t i)]) aim false))) : RLearnB C x [.int t, .int i] T A X := by
  rcases do_ed (X := X) (e := .learn t i) b.hh c.its c.m1 c.m2 hl b.ht ok ne h with ⟨t', i', e, h⟩ | ⟨t', i', e, h⟩
  · simp [edD] at e
    exact absurd e.1 (by decide +kernel)
  · cases e
    exact h
theorem map_drop {α β : Type} (f : α → β) (l : List α) : l.dropLast.map f = (l.map f).dropLast := by rw [List.map_dropLast]
theorem Bn.right (b : Bn C T x m tls es hs ps aim wt) (c : Cir m tls) (hl : es.length ≤ 60) (h : A (.bool true) T) : RRightB C x [stD m tls ps, .list (es.map edD)] T A X := right_ed b.hh c.m1 c.m2 hl (by have := c.l2; omega) b.ht h
theorem Bn.init (c : Cir m tls) (hT : getT T x = some (C, [])) (h : Bn C (setT T x (fsH m tls [] [upto m] 1 false)) x m tls [] [upto m] (upto m) 1 false → A .none (setT T x (fsH m tls [] [upto m] 1 false))) : RInitB C x [.int m, toolsD tls] T A X :=
  ⟨m, tls, rfl, hT, c.m1, c.m2, c.its, c.l1, c.l2, h ⟨getT_set hT, Hist.new c.m1⟩⟩
end
theorem few_neatB (xs : List Int) (v : Int) (h : xs.length ≤ 100) : Neat (fewD xs v) 3900000 3 := by
  rcases few_cases xs v with ⟨e, _⟩ | ⟨t, y, e, ht, _⟩
  · rw [e]
    exact (nt_none (e := 3)).mono (by decide) (Nat.le_refl _)
  · rw [e]
    have := (List.getElem?_eq_some_iff.mp ht).1
    exact (nt_int (e := 3) (by omega)).mono (by decide) (Nat.le_refl _)
theorem ans_neatB {m v : Int} {ps xs : List Int} (pp : Places m ps) (hm : m ≤ 60) (hv : v.natAbs < 1000) (hx : xs.length ≤ 100) : Neat (.list [tupD ps, .int v, fewD xs v]) 16000000 60 :=
  b_three (ps_neat pp hm) ((nt_int (e := 3) (by omega)).mono (by decide) (Nat.le_refl _)) (few_neatB xs v hx) (by decide) (by decide)
/-- the answers of a bench about places -/
def AnsP (m g : Int) (tls : List (List (Int × Int))) (q : List Int) (d : PyData) : Prop := ∃ xs y v, Path m tls g xs y ∧ IsWidth m tls y y ∧ IsSpread m q v ∧ d = .list [tupD q, .int v, fewD xs v]
theorem AnsP.uniq {m g : Int} {tls : List (List (Int × Int))} {q : List Int} {d e : PyData} (h : AnsP m g tls q d) (h' : AnsP m g tls q e) : d = e := by
  obtain ⟨xs, y, v, h1, h2, h3, e1⟩ := h
  obtain ⟨xs', y', v', h1', h2', h3', e2⟩ := h'
  have ex : xs = xs' := Chain.uniq (h1.done h2) (h1'.done h2')
  have ev := h3.uniq h3'
  subst ex ev
  rw [e1, e2]
theorem AnsP.neat {m g : Int} {tls : List (List (Int × Int))} {q : List Int} {d : PyData} (h : AnsP m g tls q d) (pp : Places m q) (m2 : m ≤ 60) (g1 : 1 ≤ g) (gm : g ≤ m) : Neat d 16000000 60 := by
  obtain ⟨xs, y, v, h1, h2, h3, e⟩ := h
  subst e
  have r := h1.rng g1 gm
  have rv := h3.rng
  exact ans_neatB pp m2 (by omega) (by omega)
/-- what may be compared: no dict, texts that are known, not deep -/
def Lay (n : Nat) (d : PyData) : Prop := d.canLay0 = true ∧ d.depth ≤ n
theorem lay_all {n : Nat} : ∀ {ds : List PyData}, (∀ d ∈ ds, Lay n d) → PyData.canLayAll0 ds = true ∧ PyData.depthAll ds ≤ n
  | [], _ => ⟨rfl, Nat.zero_le _⟩
  | d :: ds, h => by
    obtain ⟨h1, h2⟩ := lay_all (ds := ds) fun e he => h e (List.mem_cons_of_mem _ he)
    obtain ⟨q1, q2⟩ := h d List.mem_cons_self
    refine ⟨?_, ?_⟩
    · show (d.canLay0 && PyData.canLayAll0 ds) = true
      rw [q1, h1]
      rfl
    · show max d.depth (PyData.depthAll ds) ≤ n
      omega
theorem lay_tup {n : Nat} {ds : List PyData} (h : ∀ d ∈ ds, Lay n d) : Lay (n + 1) (.tuple ds) := ⟨(lay_all h).1, Nat.succ_le_succ (lay_all h).2⟩
theorem lay_int (i : Int) : Lay 0 (.int i) := ⟨rfl, Nat.le_refl _⟩
theorem Lay.mono {n k : Nat} {d : PyData} (h : Lay n d) (le : n ≤ k) : Lay k d := ⟨h.1, Nat.le_trans h.2 le⟩
theorem Lay.shaped {n : Nat} {d : PyData} (h : Lay n d) (hn : n ≤ 64) : SeqAt.shaped d = true := by
  unfold SeqAt.shaped
  rw [h.1, decide_eq_true (Nat.le_trans h.2 hn)]
  rfl
def tRaise0 (Cc : Addr) (W : WX) : TS := fun _ σ H => W (.ref Cc) none σ H
theorem rsx_raise0 {K : PySem.W.Frag} {Δ : DK} {W : WX} {Cc : Addr} : RSX K Δ W (tRaise0 Cc W) (fun _ X s => X Cc [] s) :=
  fun C B σ H s D A X E h qn qr qx => qx Cc [] none B σ H s h (.refl _ _) E (.inl ⟨rfl, rfl⟩)
theorem MethV.imp {P : Program} {w : World} {K : PySem.W.Frag} {mg : Str → Option Value} {base : Heap} {k : Nat} {C : Addr} {m : Str} {n : Nat} {ps : List Str} {sp sp' : Sp} (M : MethV P w K mg base k C m n ps sp) (h : ∀ vs H Q E, sp' vs H Q E → sp vs H Q E) : MethV P w K mg base k C m n ps sp' := by
  obtain ⟨f, fd, a, F, b, c⟩ := M.me
  exact ⟨M.cl, f, fd, a, F.imp h, b, c⟩
inductive Tst (X : Cx) : Expr → List Value → Prop
  | one {x : Str} {c : Value} {p : Pos} (h : Names X x c) : Tst X (.Name x p) [c]
  | two {x y : Str} {c d : Value} {p q r : Pos} {k : Nat} (h1 : Names X x c) (h2 : Names X y d) : Tst X (.Tuple [.Name x p, .Name y q] k r) [c, d]
  | three {x y z : Str} {c d e : Value} {p q r o : Pos} {k : Nat} (h1 : Names X x c) (h2 : Names X y d) (h3 : Names X z e) : Tst X (.Tuple [.Name x p, .Name y q, .Name z r] k o) [c, d, e]
section
variable {X : Cx} {pn pins : List (Addr × Obj)} {σ : L2.St} {H : Hp} {s : Shared} {a : Addr}
theorem nm_ld {x : Str} {c : Value} {p : Pos} (h : Names X x c) (I : Inv (X.suite a pn) pins σ H s) {Q : Value → Shared → Prop} {E : Value → Shared → Prop} (q : Q c s) : wpAny (model X.prog X.w) (X.A.mark (some (.ref a))) (eval (.Name x p) X.env) Q E s := by
  obtain ⟨g, nd, m | ⟨m, v, nn⟩⟩ := h
  · exact ld_glob (X := X.suite a pn) I g m q nd
  · exact ld_blt (X := X.suite a pn) I g m v q nn nd
theorem exm_sole {K : PySem.W.Frag} {cls c : Value} {b : Bool} (h : PySem.W.exmAny K cls [c] = some b) : PySem.W.exmOne K cls c = some b := by
  obtain ⟨b1, d1, x1, y1, z1⟩ := PySem.W.exmAny_cons h
  have y1 : some false = some d1 := y1
  cases y1
  rw [z1, Bool.or_false]
  exact x1
/-- the test of a clause -/
theorem Tst.run {t : Expr} {cs : List Value} (T : Tst X t cs) {cls : Value} {b : Bool} (hm : PySem.W.exmAny X.K cls cs = some b) (I : Inv (X.suite a pn) pins σ H s) {oe : Obj} (he : s.heap.get? a = some oe) (hc : oe.cls = cls)
    {Q : Bool → Shared → Prop} {E : Value → Shared → Prop} (k : ∀ h', (h' = s.heap ∨ ∃ o, h' = s.heap.push o) → Q b { s with heap := h' }) :
    wpAny (model X.prog X.w) (X.A.mark (some (.ref a))) (eval t X.env) (fun c s1 => wpAny (model X.prog X.w) (X.A.mark (some (.ref a))) (excMatches (.ref a) c) Q E s1) E s := by
  have tyAt : ∀ {g : Heap}, g.get? a = some oe → PySem.W.Looks (model X.prog X.w) g (typeOf (.ref a)) cls := fun hg A1 Q1 E1 s1 kp q1 => wpAny_typeOf_ref (kp _ _ hg) (by rw [hc]; exact q1)
  have kIn : X.K.In s.heap := I.kIn
  have grown : ∀ (o : Obj) b' o', s.heap.get? b' = some o' → (s.heap.push o).get? b' = some o' := fun o b' o' z => Heap.get?_push_of_some _ z
  cases T with
  | one h => exact nm_ld h I ((PySem.W.exm_one kIn (tyAt he) (exm_sole hm)).here (k _ (.inl rfl)))
  | two h1 h2 =>
    refine Tuple_ (spliced_more (nm_ld h1 I (spliced_more (nm_ld h2 I (spliced_none ?_)))))
    refine wpAny_newObj_type ?_ (show 2 ≤ sizeLine by decide)
    exact (PySem.W.exm_tup2 (kIn.keeps (grown _)) (tyAt (grown _ _ _ he)) (Heap.get?_push_size _ rfl) hm).here (k _ (.inr ⟨_, rfl⟩))
  | three h1 h2 h3 =>
    refine Tuple_ (spliced_more (nm_ld h1 I (spliced_more (nm_ld h2 I (spliced_more (nm_ld h3 I (spliced_none ?_)))))))
    refine wpAny_newObj_type ?_ (show 3 ≤ sizeLine by decide)
    exact (PySem.W.exm_tup3 (kIn.keeps (grown _)) (tyAt (grown _ _ _ he)) (Heap.get?_push_size _ rfl) hm).here (k _ (.inr ⟨_, rfl⟩))
end
def leafD : PyData → Bool
  | .none => true
  | .bool _ => true
  | .int _ => true
  | .str _ => true
  | _ => false
inductive LfV : V → PyData → Prop
  | non : LfV .non .none
  | bl (b : Bool) : LfV (.bl b) (.bool b)
  | int (i : Int) : LfV (.int i) (.int i)
  | str (x : Str) : LfV (.str x) (.str x)
inductive LfAll : List V → List PyData → Prop
  | nil : LfAll [] []
  | cons {v : V} {d : PyData} {vs : List V} {ds : List PyData} : LfV v d → LfAll vs ds → LfAll (v :: vs) (d :: ds)
theorem lf_at : ∀ {vs ws : List V} {ds : List PyData} {its its2 : List Value}, LfAll vs ds → LfAll ws ds → Vals vs its → Vals ws its2 → ∀ (A : Around) (s : Shared) (j : Nat) (h : j < its.length) (h2 : j < its2.length), SeqAt.EqAt A s its[j] its2[j] true
  | _, _, _, _, _, .nil, .nil, r, _, _, _, _, h, _ => by
    cases r
    exact absurd h (Nat.not_lt_zero _)
  | _, _, _, _, _, .cons a1 t1, .cons a2 t2, r, r2, A, s, j, h, h2 => by
    cases r with
    | cons q1 q2 =>
      cases r2 with
      | cons p1 p2 =>
        cases j with
        | succ j => exact lf_at t1 t2 q2 p2 A s j (Nat.lt_of_succ_lt_succ h) (Nat.lt_of_succ_lt_succ h2)
        | zero =>
          cases a1 with
          | non =>
            cases a2
            cases q1
            cases p1
            exact SeqAt.EqAt.same _
          | bl b =>
            cases a2
            cases q1
            cases p1
            exact SeqAt.EqAt.same _
          | int i =>
            cases a2
            obtain ⟨t, e⟩ := q1
            obtain ⟨u, e2⟩ := p1
            subst e e2
            have := SeqAt.EqAt.int_int (A := A) (s := s) i t i u
            rwa [beq_self_eq_true] at this
          | str x =>
            cases a2
            obtain ⟨t, e⟩ := q1
            obtain ⟨u, e2⟩ := p1
            subst e e2
            have := SeqAt.EqAt.str_str (A := A) (s := s) x t x u
            rwa [beq_self_eq_true] at this
def rNeLf (K : PySem.W.Frag) : R2 := fun x y H Q => ∃ (p q : Addr) (vs ws : List V) (ds : List PyData), x = .ref p ∧ y = .ref q ∧ SqL K H p vs ∧ SqL K H q ws ∧ LfAll vs ds ∧ LfAll ws ds ∧ Q (.bl false) H
theorem LfAll.len : ∀ {vs : List V} {ds : List PyData}, LfAll vs ds → vs.length = ds.length
  | _, _, .nil => rfl
  | _, _, .cons _ t => by rw [List.length_cons, List.length_cons, t.len]
theorem kneLf {X : Cx} (K : PySem.W.Frag) (hu : X.A.units + 64 < cLine) (hK : X.K = K := by rfl) : OpR X (compareOp .NotEq) (rNeLf K) := by
  subst hK
  intro pins s σ H x y v u Q I rx ry h
  obtain ⟨p, q, vs, ws, ds, ex, ey, hp, hq, l1', l2', hQ⟩ := h
  subst ex ey
  cases rx
  cases ry
  obtain ⟨its, r1, l1, _⟩ := I.list hp
  obtain ⟨its2, r2, l2, _⟩ := I.list hq
  have n1 := r1.length
  have n2 := r2.length
  have m1 := l1'.len
  have m2 := l2'.len
  have hsz : its.toArray.size = its2.toArray.size := by
    rw [List.size_toArray, List.size_toArray]
    omega
  have key : SeqAt.RcNeAt X.A s (.ref p) (.ref q) (!(List.range its.toArray.size).all fun _ => true) := SeqAt.RcNeAt.lists l1.isList l2.isList hsz (by omega) fun j h1 h2 => by
    rw [List.size_toArray] at h1 h2
    simpa using lf_at l1' l2' r1 r2 X.A.in1 s j h1 h2
  have e : (!(List.range its.toArray.size).all fun _ => true) = false := by simp
  rw [e] at key
  exact key X.prog X.w X.xe _ ⟨.bl false, H, I, rfl, hQ⟩
section
variable {K : PySem.W.Frag} {Δ : DK}
theorem lf_dv {H : Hp} {B : List Addr} : ∀ {ds : List PyData} {vs : List V}, ds.all leafD = true → DvAll K H B vs ds → LfAll vs ds
  | [], _, _, h => by
    cases h
    exact .nil
  | d :: ds, _, hl, h => by
    have hl : leafD d = true ∧ ds.all leafD = true := by simpa using hl
    cases h with
    | cons h1 h2 =>
      refine .cons ?_ (lf_dv hl.2 h2)
      cases h1 with
      | non => exact .non
      | bl b => exact .bl b
      | int i => exact .int i
      | str x => exact .str x
      | _ => exact absurd hl.1 (by simp [leafD])
theorem r2_neLf : R2' K Δ (rNeLf K) (fun d e s A => ∃ ds : List PyData, d = .list ds ∧ e = .list ds ∧ ds.all leafD = true ∧ A (.bool false) s) := by
  intro C B σ H s x y d e Q A E d1 d2 h q
  obtain ⟨ds, ed, ee, hl, a⟩ := h
  subst ed ee
  obtain ⟨p, us, ep, hp, _, hd⟩ := d1.lstI
  obtain ⟨p', us', ep', hp', _, hd'⟩ := d2.lstI
  exact ⟨p, p', us, us', ds, ep, ep', SqL.of hp, SqL.of hp', lf_dv hl hd, lf_dv hl hd', q _ _ _ a (Same.refl _) (.bl _)⟩
end
theorem MethH.imp {P : Program} {w : World} {K : PySem.W.Frag} {mg : Str → Option Value} {base : Heap} {k : Nat} {C : Addr} {m : Str} {ps : List Str} {sp sp' : Sp} (M : MethH P w K mg base k C m ps sp) (h : ∀ vs H Q E, sp' vs H Q E → sp vs H Q E) : MethH P w K mg base k C m ps sp' := by
  obtain ⟨f, fd, a, F, b⟩ := M.me
  exact ⟨M.cl, f, fd, a, F.imp h, b⟩
def pickV (sts : List (List Int)) (w : Int) (p : PyData) (ps : List Int) : Prop := ((w = 3 ∨ p = .none) ∧ sts.getLast? = some ps) ∨ (w < 3 ∧ ∃ v : Nat, p = .int (v : Nat) ∧ sts[v]? = some ps)
theorem pickV.uniq {sts : List (List Int)} {w : Int} {p : PyData} {a b : List Int} (h1 : pickV sts w p a) (h2 : pickV sts w p b) : a = b := by
  rcases h1 with ⟨e1, h1⟩ | ⟨e1, v, ep, h1⟩ <;> rcases h2 with ⟨e2, h2⟩ | ⟨e2, v2, ep2, h2⟩
  · rw [h1] at h2
    exact Option.some.inj h2
  · rcases e1 with z | z
    · omega
    · rw [z] at ep2
      cases ep2
  · rcases e2 with z | z
    · omega
    · rw [z] at ep
      cases ep
  · subst ep
    have := PyData.int.inj ep2
    have : v = v2 := by omega
    subst this
    rw [h1] at h2
    exact Option.some.inj h2
theorem ntc {d : PyData} (h : (d.showable && decide (d.depth ≤ 5) && decide (d.shown.length ≤ 1000000)) = true) : Neat d 16000000 60 := by
  simp only [Bool.and_eq_true, decide_eq_true_eq] at h
  exact ⟨h.1.1, Nat.le_trans h.1.2 (by decide), Nat.le_trans h.2 (by decide)⟩
section
variable {K : PySem.W.Frag} {Δ : DK}
theorem DvAll.repM {H : Hp} {B : List Addr} {vs : List V} {ds : List PyData} (h : DvAll K H B vs ds) : ∀ n : Nat, DvAll K H B (List.replicate n vs).flatten (List.replicate n ds).flatten
  | 0 => .nil
  | n + 1 => by
    rw [List.replicate_succ, List.replicate_succ, List.flatten_cons, List.flatten_cons]
    exact h.app (DvAll.repM h n)
/-- list * n -/
theorem r2_repM : R2' K Δ rRep (fun d e s A => ∃ (ds : List PyData) (k : Int), d = .list ds ∧ e = .int k ∧ -1000 ≤ k ∧ k ≤ 1000 ∧ ds.length * k.toNat ≤ 1000 ∧ A (.list (List.replicate k.toNat ds).flatten) s) := by
  intro C B σ H s x y d e Q A E d1 d2 h q
  obtain ⟨ds, k, ed, ee, k0, k1, hl, a⟩ := h
  subst ed ee
  obtain ⟨p, xs, ex, hp, hB, hd⟩ := d1.lstI
  have ey := dv_int d2
  subst ex ey
  refine ⟨p, k, xs, rfl, rfl, hp, by omega, by omega, by rw [hd.len]; exact Nat.le_of_lt (small1000 hl), fun z nz => ?_⟩
  obtain ⟨sm, dv⟩ := new_lst E nz (DvAll.repM hd k.toNat)
  exact q _ _ _ a sm dv
end
theorem strOk_int (i : Int) : PyData.strOk (PyData.int i).shown = true := by
  unfold PyData.strOk
  rw [Array.all_eq_true_iff_forall_mem]
  intro c hc
  refine decide_eq_true ?_
  by_cases z : c < 0x110000
  · exact z
  · exfalso
    refine int_text_free' c ⟨?_, .inr ?_⟩ i (Array.mem_toList_iff.mpr hc) <;> omega
structure OddOk (d : PyData) : Prop where
  nt : Neat d 16000000 60
  ok : PyData.strOk d.shown = true
theorem OddOk.int {i : Int} (h : i.natAbs < 10 ^ 40) : OddOk (.int i) := ⟨nt60 h, strOk_int i⟩
/-- a table that keeps all its objects as they are -/
def Grown (T T' : Tb) : Prop := ∀ z c, getT T z = some c → getT T' z = some c
theorem Grown.set {T T' : Tb} {x : Addr} {fs : List (Str × PyData)} (h : Grown T T') (hx : x ∉ T.map (·.1)) : Grown T (setT T' x fs) := by
  intro z d hz
  have ne : z ≠ x := fun e => hx (by rw [← e]; exact getT_mem (C := d.1) (fs := d.2) hz)
  rw [getT_ne ne]
  exact h z d hz
abbrev RPY := List PyData → Tb → (PyData → Tb → Prop) → (Addr → Tb → Prop) → Prop
def AnsG (m g : Int) (tls : List (List (Int × Int))) (ps : List Int) (d : PyData) : Prop := ∃ xs y v, Path m tls g xs y ∧ IsWidth m tls y y ∧ IsSpread m ps v ∧ d = .list [.int g, fewD xs v, .bool (decide (v ≤ g))]
theorem AnsG.uniq {m g : Int} {tls : List (List (Int × Int))} {q : List Int} {d e : PyData} (h : AnsG m g tls q d) (h' : AnsG m g tls q e) : d = e := by
  obtain ⟨xs, y, v, h1, h2, h3, e1⟩ := h
  obtain ⟨xs', y', v', h1', h2', h3', e2⟩ := h'
  have ex : xs = xs' := Chain.uniq (h1.done h2) (h1'.done h2')
  have ev := h3.uniq h3'
  subst ex ev
  rw [e1, e2]
theorem AnsG.neat {m g : Int} {tls : List (List (Int × Int))} {q : List Int} {d : PyData} (h : AnsG m g tls q d) (m2 : m ≤ 60) (g1 : 1 ≤ g) (gm : g ≤ m) : Neat d 16000000 60 := by
  obtain ⟨xs, y, v, h1, h2, h3, e⟩ := h
  subst e
  have r := h1.rng g1 gm
  refine (neat_list (n := 3900000) (e := 3) fun y hy => ?_).mono (by show 3 * (3900000 + 2) + 2 ≤ 16000000; decide) (by decide)
  simp only [List.mem_cons, List.not_mem_nil, or_false] at hy
  rcases hy with e | e | e <;> subst e
  · exact (neat_small (by omega)).mono (Nat.le_refl _) (by decide)
  · exact few_neatB xs v (by omega)
  · cases decide (v ≤ g) with
    | true => exact ⟨rfl, by decide, by decide +kernel⟩
    | false => exact ⟨rfl, by decide, by decide +kernel⟩
theorem lay_pair (p : Int × Int) : Lay 1 (pairD p) := lay_tup (n := 0) (ds := [.int p.1, .int p.2]) fun d hd => by
  simp only [List.mem_cons, List.not_mem_nil, or_false] at hd
  rcases hd with e | e <;> (rw [e]; exact lay_int _)
theorem lay_toolsD (tls : List (List (Int × Int))) : Lay 3 (toolsD tls) := lay_tup (n := 2) (ds := tls.map toolD) fun d hd => by
  obtain ⟨t, _, h⟩ := List.mem_map.mp hd
  rw [← h]
  exact lay_tup (n := 1) (ds := t.map pairD) fun d hd => by
    obtain ⟨p, _, h⟩ := List.mem_map.mp hd
    rw [← h]
    exact lay_pair p
def isTl (m : Int) (d : PyData) : Prop := ∃ tl, d = toolD tl ∧ IsTool m tl
def pairB (m : Int) : PyData → Bool
  | .tuple [x, y] => numIn 0 (m - 1) x && numIn 0 (m - 1) y
  | _ => false
theorem pairB_iff {m : Int} {d : PyData} : pairB m d = true ↔ ∃ p : Int × Int, d = pairD p ∧ rngB m p = true := by
  constructor
  · intro h
    match d, h with
    | .tuple [x, y], h =>
      have h : (numIn 0 (m - 1) x && numIn 0 (m - 1) y) = true := h
      rw [Bool.and_eq_true] at h
      obtain ⟨a, ea, _⟩ := numIn_int h.1
      obtain ⟨b, eb, _⟩ := numIn_int h.2
      subst ea eb
      exact ⟨(a, b), rfl, by unfold rngB; rw [Bool.and_eq_true]; exact h⟩
  · rintro ⟨p, e, h⟩
    subst e
    exact h
/-- some list of pairs that begins as the items do -/
def Fit (tl : List (Int × Int)) (xs : List PyData) (i : Nat) : Prop := tl.length = xs.length ∧ ∀ j, j < i → xs[j]? = some (pairD (tlAt tl j))
theorem Fit.set {tl : List (Int × Int)} {xs : List PyData} {i : Nat} {p : Int × Int} (h : Fit tl xs i) (hx : xs[i]? = some (pairD p)) : Fit (tl.set i p) xs (i + 1) ∧ tlAt (tl.set i p) i = p ∧ ∀ j, j < i → tlAt (tl.set i p) j = tlAt tl j := by
  have hi := (List.getElem?_eq_some_iff.mp hx).1
  have a1 : tlAt (tl.set i p) i = p := by
    unfold tlAt
    rw [List.getD_eq_getElem?_getD, List.getElem?_set_self (by rw [h.1]; exact hi)]
    rfl
  have a2 : ∀ j, j < i → tlAt (tl.set i p) j = tlAt tl j := fun j hj => by
    unfold tlAt
    rw [List.getD_eq_getElem?_getD, List.getElem?_set_ne (by omega), List.getD_eq_getElem?_getD]
  refine ⟨⟨by rw [List.length_set]; exact h.1, fun j hj => ?_⟩, a1, a2⟩
  by_cases z : j = i
  · rw [z, a1]
    exact hx
  · rw [a2 j (by omega)]
    exact h.2 j (by omega)
theorem item_agree {m : Int} {tl tl' : List (Int × Int)} {i : Nat} (hl : tl.length = tl'.length) (h : ∀ j, j ≤ i → tlAt tl j = tlAt tl' j) : itemB m tl i = itemB m tl' i := by
  unfold itemB bF tF
  rw [hl, h i (Nat.le_refl _), h (i - 1) (by omega), h 0 (Nat.zero_le _)]
theorem Fit.agree {tl tl' : List (Int × Int)} {xs : List PyData} {i : Nat} (h : Fit tl xs (i + 1)) (h' : Fit tl' xs (i + 1)) (m : Int) : itemB m tl i = itemB m tl' i := by
  refine item_agree (by rw [h.1, h'.1]) fun j hj => ?_
  have e := (h.2 j (by omega)).symm.trans (h'.2 j (by omega))
  have e := Option.some.inj e
  unfold pairD at e
  have e := List.cons.inj (PyData.tuple.inj e)
  have e2 := (List.cons.inj e.2).1
  exact Prod.ext (PyData.int.inj e.1) (PyData.int.inj e2)
theorem fit_own {tl : List (Int × Int)} (i : Nat) (hi : i ≤ tl.length) : Fit tl (tl.map pairD) i := ⟨by rw [List.length_map], fun j hj => by
  rw [List.getElem?_map, List.getElem?_eq_getElem (by omega), tlAt_of (List.getElem?_eq_getElem (by omega))]
  rfl⟩
theorem Fit.all {tl : List (Int × Int)} {xs : List PyData} (h : Fit tl xs xs.length) : xs = tl.map pairD := by
  refine List.ext_getElem? fun j => ?_
  by_cases hj : j < xs.length
  · rw [h.2 j hj, List.getElem?_map, List.getElem?_eq_getElem (by rw [h.1]; exact hj), tlAt_of (List.getElem?_eq_getElem (by rw [h.1]; exact hj))]
    rfl
  · rw [List.getElem?_eq_none (by omega), List.getElem?_eq_none (by rw [List.length_map, h.1]; omega)]
theorem Fit.nil (xs : List PyData) : Fit (List.replicate xs.length (0, 0)) xs 0 := ⟨List.length_replicate, fun j hj => absurd hj (Nat.not_lt_zero _)⟩
/-- a wrong item: no tool -/
theorem not_tool {m : Int} {xs : List PyData} {i : Nat} {d : PyData} (hx : xs[i]? = some d) (h : pairB m d = false ∨ ∃ tl, Fit tl xs (i + 1) ∧ itemB m tl i = false) : ¬ isTl m (.tuple xs) := by
  rintro ⟨tl2, e, it⟩
  have e : xs = tl2.map pairD := PyData.tuple.inj e
  subst e
  have hi := (List.getElem?_eq_some_iff.mp hx).1
  rw [List.length_map] at hi
  have hb := toolB_iff.mpr it
  unfold toolB at hb
  rw [Bool.and_eq_true, List.all_eq_true] at hb
  have hb := hb.2 i (List.mem_range.mpr hi)
  rcases h with h | ⟨tl, hf, h⟩
  · rw [List.getElem?_map, List.getElem?_eq_getElem hi] at hx
    have ed : pairD tl2[i] = d := Option.some.inj hx
    unfold itemB at hb
    rw [Bool.and_eq_true, Bool.and_eq_true, tlAt_of (List.getElem?_eq_getElem hi)] at hb
    rw [pairB_iff.mpr ⟨tl2[i], ed.symm, hb.1.1⟩] at h
    cases h
  · rw [hf.agree (fit_own (i + 1) hi) m, hb] at h
    cases h
theorem all_tool {m : Int} {tl : List (Int × Int)} {xs : List PyData} (hf : Fit tl xs xs.length) (h1 : 1 ≤ xs.length) (h2 : xs.length ≤ 12) (h : ∀ i, i < xs.length → itemB m tl i = true) : isTl m (.tuple xs) := by
  refine ⟨tl, by rw [hf.all]; rfl, toolB_iff.mp ?_⟩
  unfold toolB
  rw [hf.1, decide_eq_true h1, decide_eq_true h2, Bool.true_and, Bool.true_and, List.all_eq_true]
  exact fun i hi => h i (List.mem_range.mp hi)
theorem tl_in {m : Int} {d : PyData} (h : isTl m d) : tupIn 1 12 d = true := by
  obtain ⟨tl, e, it⟩ := h
  subst e
  have hb := toolB_iff.mpr it
  unfold toolB at hb
  rw [Bool.and_eq_true, Bool.and_eq_true, decide_eq_true_eq, decide_eq_true_eq] at hb
  show (decide ((1 : Int) ≤ (((tl.map pairD).length : Nat) : Int)) && decide ((((tl.map pairD).length : Nat) : Int) ≤ 12)) = true
  rw [List.length_map, decide_eq_true (by omega), decide_eq_true (by omega)]
  rfl
def RPPlA : RP := fun ds A => ∃ m d, ds = [.int m, d] ∧ A (.bool (pairB m d))
def RBfA : RP := fun ds A => ∃ (xs : List PyData) (tl : List (Int × Int)) (i : Nat), ds = [.tuple xs, .int i] ∧ i < xs.length ∧ Fit tl xs (i + 1) ∧ A (.bool (bF tl i))
def RTfA : RP := fun ds A => ∃ (m : Int) (xs : List PyData) (tl : List (Int × Int)) (i : Nat), ds = [.int m, .tuple xs, .int i] ∧ 1 ≤ m ∧ i < xs.length ∧ Fit tl xs (i + 1) ∧ A (.bool (tF m tl i))
def RIeA : RP := fun ds A => ∃ (m : Int) (xs : List PyData) (tl : List (Int × Int)) (i : Nat) (d : PyData), ds = [.int m, .tuple xs, .int i] ∧ 1 ≤ m ∧ xs[i]? = some d ∧ Fit tl xs i ∧ (pairB m d = false → ∀ x : Str, A (.str x)) ∧
  ∀ p, d = pairD p → rngB m p = true → (itemB m (tl.set i p) i = true → A .none) ∧ (itemB m (tl.set i p) i = false → ∀ x : Str, A (.str x))
def RTeA : RP := fun ds A => ∃ m d, ds = [.int m, d] ∧ 1 ≤ m ∧ (isTl m d → A .none) ∧ (¬ isTl m d → ∀ xs, A (.tuple xs))
def RItA : RP := fun ds A => ∃ m d, ds = [.int m, d] ∧ 1 ≤ m ∧ ∀ b : Bool, (b = true ↔ isTl m d) → A (.bool b)
/-- what the tools of a bench may be: the index of the first that is wrong -/
def RChkA (CT : Addr) : RPX := fun ds A X => ∃ m d, ds = [.int m, d] ∧ 1 ≤ m ∧ (tupIn 1 4 d = false → X CT [("index", .none)]) ∧ ∀ xs, d = .tuple xs → tupIn 1 4 d = true → ((∀ t ∈ xs, isTl m t) → A .none) ∧ ∀ (i : Nat) t, xs[i]? = some t → ¬ isTl m t → (∀ j u, j < i → xs[j]? = some u → isTl m u) → X CT [("index", .int (i : Nat))]
theorem tup_two {d : PyData} (h : tupIn 2 2 d = true) : ∃ x y, d = .tuple [x, y] := by
  match d, h with
  | .tuple [], h => cases h
  | .tuple [_], h => cases h
  | .tuple [x, y], _ => exact ⟨x, y, rfl⟩
  | .tuple (_ :: _ :: _ :: r), h =>
    exfalso
    have h : (decide ((2 : Int) ≤ (((r.length + 1 + 1 + 1 : Nat) : Int))) && decide (((r.length + 1 + 1 + 1 : Nat) : Int) ≤ 2)) = true := h
    rw [Bool.and_eq_true, decide_eq_true_eq, decide_eq_true_eq] at h
    omega
theorem pairB_no {m : Int} {d : PyData} (h : tupIn 2 2 d = false) : pairB m d = false := by
  cases hp : pairB m d with
  | false => rfl
  | true =>
    obtain ⟨p, e, _⟩ := pairB_iff.mp hp
    subst e
    cases h
theorem tup_lenV {lo hi : Nat} {d : PyData} (h : tupIn ((lo : Nat) : Int) ((hi : Nat) : Int) d = true) : ∃ xs, d = .tuple xs ∧ lo ≤ xs.length ∧ xs.length ≤ hi := by
  match d, h with
  | .tuple xs, h =>
    have h : (decide (((lo : Nat) : Int) ≤ ((xs.length : Nat) : Int)) && decide (((xs.length : Nat) : Int) ≤ ((hi : Nat) : Int))) = true := h
    rw [Bool.and_eq_true, decide_eq_true_eq, decide_eq_true_eq] at h
    exact ⟨xs, rfl, by omega, by omega⟩
def rNeNil44 (K : PySem.W.Frag) : R2 := fun x y H Q => ∃ a b xs, x = .ref a ∧ y = .ref b ∧ SqL K H a xs ∧ SqL K H b [] ∧ Q (.bl (!xs.isEmpty)) H
theorem kneNil44 {X : Cx} (K : PySem.W.Frag) (hu : X.A.units + 64 < cLine) (hK : X.K = K := by rfl) : OpR X (compareOp .NotEq) (rNeNil44 K) := by
  subst hK
  intro pins s σ H x y v u Q I rx ry h
  obtain ⟨a, b, xs, ex, ey, ha, hb, q⟩ := h
  subst ex
  subst ey
  cases rx
  cases ry
  obtain ⟨its, r1, p1, _⟩ := I.list ha
  obtain ⟨its2, r2, p2, _⟩ := I.list hb
  cases r2
  have room : X.A.units < cLine := by omega
  cases r1 with
  | nil =>
    have z := PySem.SeqAt.RcNeAt.lists (A := X.A) (s := s) (e := fun _ => true) p1.isList p2.isList rfl room (fun j j1 _ => absurd j1 (by simp))
    exact z X.prog X.w X.xe _ ⟨.bl _, H, I, rfl, q⟩
  | cons r rr =>
    have z := PySem.SeqAt.RcNeAt.lists_lengths (A := X.A) (s := s) p1.isList p2.isList (by simp) room
    exact z X.prog X.w X.xe _ ⟨.bl _, H, I, rfl, q⟩
section
variable {K : PySem.W.Frag} {Δ : DK}
theorem r2_neNil44 : R2' K Δ (rNeNil44 K) (fun d e s A => ∃ xs, d = .list xs ∧ e = .list [] ∧ A (.bool (!xs.isEmpty)) s) := by
  intro C B σ H s x y d e Q A E dx dy h q
  obtain ⟨xs, e1, e2, a⟩ := h
  subst e1 e2
  obtain ⟨p, us, ev, hp, _, hd⟩ := dx.lstI
  obtain ⟨p', us', ev', hp', _, hd'⟩ := dy.lstI
  subst ev ev'
  cases hd'
  refine ⟨p, p', us, rfl, rfl, SqL.of hp, SqL.of hp', q _ _ _ a (Same.refl _) ?_⟩
  have e : us.isEmpty = xs.isEmpty := by cases hd <;> rfl
  rw [e]
  exact .bl _
end
/-- a pair of places, by the law's own test -/
theorem pair_items {m : Int} {x y : PyData} : ([x, y].filter fun z => !numIn 0 (m - 1) z).isEmpty = pairB m (.tuple [x, y]) := by
  show _ = (numIn 0 (m - 1) x && numIn 0 (m - 1) y)
  cases h1 : numIn 0 (m - 1) x <;> cases h2 : numIn 0 (m - 1) y <;> simp [List.filter, h1, h2]
theorem isT_tup {d : PyData} (h : isT d = true) : ∃ xs, d = .tuple xs := by
  match d, h with
  | .tuple xs, _ => exact ⟨xs, rfl⟩
theorem isTl_iff {m : Int} {tl : List (Int × Int)} : isTl m (.tuple (tl.map pairD)) ↔ toolB m tl = true := by
  constructor
  · intro h
    cases hb : toolB m tl with
    | true => rfl
    | false =>
      obtain ⟨tl2, e, it⟩ := h
      have hf := fit_own tl2.length (Nat.le_refl _)
      have e : tl.map pairD = tl2.map pairD := PyData.tuple.inj e
      have hl := congrArg List.length e
      rw [List.length_map, List.length_map] at hl
      have hb2 := toolB_iff.mpr it
      unfold toolB at hb hb2
      rw [← hl] at hb2
      rw [Bool.and_eq_true, List.all_eq_true] at hb2
      rw [hb2.1, Bool.true_and] at hb
      rw [← Bool.not_eq_true, List.all_eq_true] at hb
      refine absurd (fun i hi => ?_) hb
      have hi' := List.mem_range.mp hi
      rw [← hb2.2 i hi]
      refine Fit.agree (xs := tl.map pairD) (fit_own (i + 1) hi') ?_ m
      rw [e]
      exact fit_own (i + 1) (by omega)
  · intro h
    exact ⟨tl, rfl, toolB_iff.mp h⟩
theorem tool_one {m : Int} {tl : List (Int × Int)} (hl : tl.length = 1) (hr : ∀ j, j < tl.length → rngB m (tlAt tl j) = true) : toolB m tl = decide ((tlAt tl 0).1 = 0) := by
  unfold toolB
  rw [hl]
  show ((true && true) && (itemB m tl 0 && true)) = _
  unfold itemB bF tF
  rw [hr 0 (by omega), if_pos hl]
  show (true && (true && decide ((tlAt tl 0).1 = 0) && true && true)) = _
  cases decide ((tlAt tl 0).1 = 0) <;> rfl
theorem tool_more {m : Int} {tl : List (Int × Int)} (h1 : 1 ≤ tl.length) (h2 : tl.length ≤ 12) (hn : tl.length ≠ 1) (hr : ∀ j, j < tl.length → rngB m (tlAt tl j) = true) :
    toolB m tl = true ↔ ∀ k, 1 ≤ k → k < tl.length → (tlAt tl (k - 1)).1 < (tlAt tl k).1 ∧ ((tlAt tl (k - 1)).2 - (tlAt tl 0).2) % m < ((tlAt tl k).2 - (tlAt tl 0).2) % m := by
  unfold toolB
  rw [decide_eq_true h1, decide_eq_true h2, Bool.true_and, Bool.true_and, List.all_eq_true]
  constructor
  · intro h k k1 k2
    have := h k (List.mem_range.mpr k2)
    unfold itemB bF tF at this
    rw [if_neg hn, decide_eq_false (show ¬ k = 0 by omega), Bool.false_or, Bool.false_or, Bool.and_eq_true, Bool.and_eq_true, decide_eq_true_eq, decide_eq_true_eq] at this
    exact ⟨this.1.2, this.2⟩
  · intro h i hi
    have hi := List.mem_range.mp hi
    unfold itemB bF tF
    rw [hr i hi, if_neg hn]
    by_cases z : i = 0
    · rw [decide_eq_true z]
      rfl
    · have := h i (by omega) hi
      rw [decide_eq_false z, decide_eq_true this.1, decide_eq_true this.2]
      rfl
def Wrong (m : Int) (xs : List PyData) (i : Nat) : Prop := ∃ t, xs[i]? = some t ∧ ¬ isTl m t ∧ ∀ j u, j < i → xs[j]? = some u → isTl m u
theorem Wrong.uniq {m : Int} {xs : List PyData} {i j : Nat} (h : Wrong m xs i) (h' : Wrong m xs j) : i = j := by
  obtain ⟨t, a1, a2, a3⟩ := h
  obtain ⟨u, b1, b2, b3⟩ := h'
  by_cases z : i < j
  · exact absurd (b3 i t z a1) a2
  · by_cases y : j < i
    · exact absurd (a3 j u y b1) b2
    · omega
theorem wrong_ex {m : Int} : ∀ {xs : List PyData}, (∀ t ∈ xs, isTl m t) ∨ ∃ i, Wrong m xs i
  | [] => .inl fun t h => (List.not_mem_nil h).elim
  | x :: xs => by
    by_cases hx : isTl m x
    · rcases wrong_ex (m := m) (xs := xs) with h | ⟨i, t, h1, h2, h3⟩
      · refine .inl fun t ht => ?_
        rcases List.mem_cons.mp ht with z | z
        · rw [z]
          exact hx
        · exact h t z
      · refine .inr ⟨i + 1, t, h1, h2, fun j u hj hu => ?_⟩
        cases j with
        | zero =>
          rw [List.getElem?_cons_zero] at hu
          rw [← Option.some.inj hu]
          exact hx
        | succ j => exact h3 j u (by omega) hu
    · exact .inr ⟨0, x, rfl, hx, fun j u hj => absurd hj (Nat.not_lt_zero _)⟩
theorem not_wrong {m : Int} {xs : List PyData} {i : Nat} (h : Wrong m xs i) : ¬ ∀ t ∈ xs, isTl m t := fun z => by
  obtain ⟨t, h1, h2, _⟩ := h
  exact h2 (z t (List.mem_of_getElem? h1))
theorem tools_of {m : Int} : ∀ {xs : List PyData}, (∀ t ∈ xs, isTl m t) → ∃ tls : List (List (Int × Int)), xs = tls.map toolD ∧ ∀ t ∈ tls, IsTool m t
  | [], _ => ⟨[], rfl, fun t h => (List.not_mem_nil h).elim⟩
  | x :: xs, h => by
    obtain ⟨tl, e, it⟩ := h x List.mem_cons_self
    obtain ⟨tls, e2, its⟩ := tools_of (xs := xs) fun t ht => h t (List.mem_cons_of_mem _ ht)
    refine ⟨tl :: tls, by rw [e, e2]; rfl, fun t ht => ?_⟩
    rcases List.mem_cons.mp ht with z | z
    · rw [z]
      exact it
    · exact its t z
def toolE (d : PyData) : PyData := .list [.str "tools", .str d.shown]
open Classical in
/-- the error that creating a bench raises, as the law tells it; an empty list if there is none -/
noncomputable def E44 (dm d : PyData) : PyData :=
  if numIn 1 60 dm = false then .list [.str "circle", .str dm.shown]
  else if tupIn 1 4 d = false then .list [.str "tools", .str "None"]
  else if h : ∃ i m xs, dm = .int m ∧ d = .tuple xs ∧ Wrong m xs i then toolE (.int ((h.choose : Nat) : Int))
  else .list []
theorem E44_circle {dm d : PyData} (h : numIn 1 60 dm = false) : E44 dm d = .list [.str "circle", .str dm.shown] := by
  unfold E44
  rw [if_pos h]
theorem E44_none {dm d : PyData} (h : numIn 1 60 dm = true) (h2 : tupIn 1 4 d = false) : E44 dm d = .list [.str "tools", .str "None"] := by
  unfold E44
  rw [if_neg (by rw [h]; exact Bool.false_ne_true.symm), if_pos h2]
theorem E44_wrong {m : Int} {xs : List PyData} {i : Nat} (h : numIn 1 60 (.int m) = true) (h2 : tupIn 1 4 (.tuple xs) = true) (hw : Wrong m xs i) : E44 (.int m) (.tuple xs) = toolE (.int ((i : Nat) : Int)) := by
  unfold E44
  rw [if_neg (by rw [h]; exact Bool.false_ne_true.symm), if_neg (by rw [h2]; exact Bool.false_ne_true.symm), dif_pos ⟨i, m, xs, rfl, rfl, hw⟩]
  have hc := Exists.choose_spec (p := fun i => ∃ m' xs', PyData.int m = .int m' ∧ PyData.tuple xs = .tuple xs' ∧ Wrong m' xs' i) ⟨i, m, xs, rfl, rfl, hw⟩
  obtain ⟨m', xs', e1, e2, hw'⟩ := hc
  have e1 := PyData.int.inj e1
  have e2 := PyData.tuple.inj e2
  subst e1 e2
  rw [hw'.uniq hw]
theorem E44_ok {m : Int} {xs : List PyData} (h : numIn 1 60 (.int m) = true) (h2 : tupIn 1 4 (.tuple xs) = true) (ha : ∀ t ∈ xs, isTl m t) : E44 (.int m) (.tuple xs) = .list [] := by
  unfold E44
  rw [if_neg (by rw [h]; exact Bool.false_ne_true.symm), if_neg (by rw [h2]; exact Bool.false_ne_true.symm), dif_neg]
  rintro ⟨i, m', xs', e1, e2, hw⟩
  have e1 := PyData.int.inj e1
  have e2 := PyData.tuple.inj e2
  subst e1 e2
  exact not_wrong hw ha
/-- no error: a circle with tools -/
theorem E44_nil {dm d : PyData} (h : E44 dm d = .list []) : ∃ (m : Int) (tls : List (List (Int × Int))), dm = .int m ∧ d = toolsD tls ∧ 1 ≤ m ∧ m ≤ 60 ∧ (∀ t ∈ tls, IsTool m t) ∧ 1 ≤ tls.length ∧ tls.length ≤ 4 := by
  cases hN : numIn 1 60 dm with
  | false =>
    rw [E44_circle hN] at h
    cases h
  | true =>
    obtain ⟨m, em, m1, m2⟩ := numIn_int hN
    subst em
    cases hT : tupIn 1 4 d with
    | false =>
      rw [E44_none hN hT] at h
      cases h
    | true =>
      obtain ⟨xs, ex, h1, h4⟩ := tup_lenV (lo := 1) (hi := 4) hT
      subst ex
      rcases wrong_ex (m := m) (xs := xs) with ha | ⟨i, hw⟩
      · obtain ⟨tls, e, its⟩ := tools_of ha
        subst e
        rw [List.length_map] at h1 h4
        exact ⟨m, tls, rfl, rfl, m1, m2, its, h1, h4⟩
      · rw [E44_wrong hN hT hw] at h
        cases h
def RInitA (C CB CT : Addr) : ROb := fun a ds T A X => ∃ dm d, ds = [dm, d] ∧ getT T a = some (C, []) ∧ (numIn 1 60 dm = false → X CB [("value", dm)] T) ∧ ∀ m, dm = .int m → 1 ≤ m → m ≤ 60 → (tupIn 1 4 d = false → X CT [("index", .none)] T) ∧
  ∀ xs, d = .tuple xs → tupIn 1 4 d = true → ((∀ t ∈ xs, isTl m t) → A .none (setT T a (fsB m d (.tuple []) (.tuple [tupD (upto m)]) 1 false))) ∧ ∀ i, Wrong m xs i → X CT [("index", .int ((i : Nat) : Int))] T
def RExp44 : RP := fun ds A => ∃ dm d, ds = [dm, d] ∧ Neat dm 16000000 60 ∧ A (E44 dm d)
def RMade44 (C : Addr) : List PyData → Tb → (PyData → Tb → Prop) → (Addr → Tb → Prop) → Prop := fun ds T A O => ∃ dm d, ds = [dm, d] ∧ Neat dm 16000000 60 ∧ (E44 dm d ≠ .list [] → A (E44 dm d) T) ∧ ∀ m tls, dm = .int m → d = toolsD tls → E44 dm d = .list [] → ∀ x, x ∉ T.map (·.1) → O x ((x, C, fsB m d (.tuple []) (.tuple [tupD (upto m)]) 1 false) :: T)
noncomputable def tlB (m : Int) (d : PyData) : Bool := @decide (isTl m d) (Classical.propDecidable _)
theorem tlB_iff {m : Int} {d : PyData} : tlB m d = true ↔ isTl m d := @decide_eq_true_iff (isTl m d) (Classical.propDecidable _)
theorem tlB_of {m : Int} {d : PyData} {b : Bool} (h : b = true ↔ isTl m d) : b = tlB m d := by
  have h2 := h.trans tlB_iff.symm
  cases b <;> cases hh : tlB m d <;> simp_all
theorem first_range {n i : Nat} {r : List Nat} {p : Nat → Bool} (h : (List.range n).filter p = i :: r) : i < n ∧ p i = true ∧ ∀ j, j < i → p j = false := by
  obtain ⟨l1, l2, e, h1, h2, _⟩ := List.filter_eq_cons_iff.mp h
  have hi : (List.range n)[l1.length]? = some i := by
    rw [e, List.getElem?_append_right (Nat.le_refl _), Nat.sub_self]
    rfl
  have hl := (List.getElem?_eq_some_iff.mp hi).1
  rw [List.length_range] at hl
  rw [List.getElem?_range hl] at hi
  have ei : l1.length = i := Option.some.inj hi
  refine ⟨by omega, h2, fun j hj => ?_⟩
  have hj2 : l1[j]? = some j := by
    have : (List.range n)[j]? = some j := List.getElem?_range (by omega)
    rw [e, List.getElem?_append_left (by omega)] at this
    exact this
  have := h1 j (List.mem_of_getElem? hj2)
  cases hp : p j with
  | false => rfl
  | true => exact absurd hp this
theorem wrong_of {m : Int} {xs : List PyData} {i : Nat} {r : List Nat} (h : ((List.range xs.length).filter fun i => !tlB m (xs.getD i .none)) = i :: r) : Wrong m xs i := by
  obtain ⟨h1, h2, h3⟩ := first_range h
  have at_ : ∀ j u, xs[j]? = some u → xs.getD j .none = u := fun j u hu => by
    rw [List.getD_eq_getElem?_getD, hu]
    rfl
  have hx := List.getElem?_eq_getElem h1
  refine ⟨_, hx, fun z => ?_, fun j u hj hu => ?_⟩
  · rw [at_ _ _ hx, tlB_iff.mpr z] at h2
    cases h2
  · have := h3 j hj
    rw [at_ _ _ hu] at this
    cases hh : tlB m u with
    | true => exact tlB_iff.mp hh
    | false =>
      rw [hh] at this
      cases this
theorem right_of {m : Int} {xs : List PyData} (h : ((List.range xs.length).filter fun i => !tlB m (xs.getD i .none)) = []) : ∀ t ∈ xs, isTl m t := fun t ht => by
  obtain ⟨i, hi⟩ := List.getElem?_of_mem ht
  have h := List.filter_eq_nil_iff.mp h i (List.mem_range.mpr (List.getElem?_eq_some_iff.mp hi).1)
  rw [List.getD_eq_getElem?_getD, hi] at h
  cases hh : tlB m t with
  | true => exact tlB_iff.mp hh
  | false =>
    have h : ¬ (!tlB m t) = true := h
    rw [hh] at h
    exact absurd rfl h
theorem initA_none {C CB CT : Addr} : ∀ x ds T A X, RInitA C CB CT x ds T A X → RInitA C CB CT x ds T (fun d T' => d = .none ∧ A d T') X := by
  rintro x ds T A X ⟨dm, d, e, ht, x1, x2⟩
  refine ⟨dm, d, e, ht, x1, fun m em m1 m2 => ?_⟩
  obtain ⟨y1, y2⟩ := x2 m em m1 m2
  exact ⟨y1, fun xs ex hT => ⟨fun h => ⟨rfl, (y2 xs ex hT).1 h⟩, (y2 xs ex hT).2⟩⟩
def W44 : Nat → Nat
  | 0 => 4000
  | 1 => 50000
  | _ => 150000
def V44 : Nat → Nat
  | 0 => 30000
  | 1 => 200000
  | _ => 600000
structure Base44 (j : Nat) (xs : List PyData) : Prop where
  ne : xs ≠ []
  len : xs.length ≤ 12
  gs : Gs xs (W44 j) 5
  sh : SeqAt.shaped (.tuple xs) = true
def In44 : Nat → List PyData → Prop
  | 0, xs => Base44 0 xs ∧ ∀ x ∈ xs, isT x = false
  | j + 1, xs => Base44 (j + 1) xs ∧ ∀ x ∈ xs, ∃ ys, x = .tuple ys ∧ In44 j ys
theorem In44.base {j : Nat} {xs : List PyData} (h : In44 j xs) : Base44 j xs := by
  cases j with
  | zero => exact h.1
  | succ j => exact h.1
def ROdd44 : RKd := fun ds k A => ds = [] ∧ k.n + 1 ≤ 1000000 ∧ ∀ d, Gd d 10000 5 → A d (k.up 1)
def RBent44 (j : Nat) : RKd := fun ds k A => ∃ xs, ds = [.tuple xs] ∧ In44 j xs ∧ k.n + 5 * ((j + 1 : Nat) : Int) ≤ 1000000 ∧ ∀ r, Gd r (V44 j) (7 + j) → A r (k.up (5 * ((j + 1 : Nat) : Int)))
def odd44 : List PyData := [.none, .bool true, .bool false, .int (-1), .int 0, .int 1, .int 60, .int 61, .int (10 ^ (Int.toNat 20)), .str "", .str "0>1", .tuple [], .list [], .dict [], .tuple [.int 0], .tuple [.int 0, .int 0], .tuple [.int 1, .int 0], .tuple [.tuple [.int 0, .int 0]],
  .tuple [.int 0, .none], .tuple [.int 0, .str "1"], .tuple [.int (-1), .int 0], .tuple [.list [.int 0], .int 0], .tuple [.bool true, .int 0], .tuple [.int 0, .int 60], .tuple [.int 0, .int 0, .int 0]]
theorem odd44_good : ∀ d ∈ odd44, Gd d 10000 5 := by
  have h : (odd44.all fun d => okD d && decide (wt d ≤ 10000) && decide (d.depth ≤ 5)) = true := by decide +kernel
  intro d hd
  have := List.all_eq_true.mp h d hd
  simp only [Bool.and_eq_true, decide_eq_true_eq] at this
  exact ⟨this.1.1, this.1.2, this.2⟩
theorem Gs.up44 {ds : List PyData} {w e e' : Nat} (h : Gs ds w e) (le : e ≤ e') : Gs ds w e' := ⟨h.ok, h.w, fun x hx => Nat.le_trans (h.dp x hx) le⟩
section
variable {K : PySem.W.Frag} {Δ : DK} [WDK K Δ]
/-- x, y = (f(..), data), f handing data or an object back -/
theorem rs_parYE {R : RPY} {ta : TA} {aa : AA} {te : TE} {ae : AE} {i j : Nat} (h1 : RA K Δ ta aa) (h2 : RE K Δ te ae) :
    RS K Δ (tPar i j (tCons (tCall (spY K R) [] E0 ta) (tCons te tNil)))
    (fun A s => aa s fun ds s1 => ∃ k, s1.k = some k ∧ R ds k.T (fun d T' => ae ⟨s1.env, some ⟨k.n, T'⟩⟩ fun e s3 => A.nx ((s3.put i (.dat d)).put j (.dat e)))
      (fun o T' => ae ⟨s1.env, some ⟨k.n, T'⟩⟩ fun e s3 => A.nx ((s3.put i (osl o)).put j (.dat e)))) := by
  intro C B σ H s D A E h qn qr
  refine h1 C B σ H s _ _ E h fun vs ds H1 s1 a1 m1 E1 dv => ?_
  obtain ⟨k, hk, r⟩ := a1
  show spY K R (vs ++ []) H1 _ _
  rw [List.append_nil]
  refine ⟨B, ds, k.T, _, _, E1.st, dv, WDK.get (K := K) (E1.dk k hk), r, fun v d T' H' a' m hw dv' => ?_, fun o T' H' a' m hw => ?_⟩
  · have E2 := E1.world hk m hw
    refine h2 C B σ H' _ _ _ E2 a' fun u e H3 s3 a3 m3 E3 du => ?_
    exact ⟨v, u, rfl, qn B _ H3 _ a3 (.of_mv (((m1.trans (m.wide (WDK.w K))).trans m3).up E.sub)) ((E3.put (dv'.mv (m3.up E2.sub))).put du)⟩
  · have E2 := E1.world hk m hw
    refine h2 C B σ H' _ _ _ E2 a' fun u e H3 s3 a3 m3 E3 du => ?_
    exact ⟨.ref o, u, rfl, qn B _ H3 _ a3 (.of_mv (((m1.trans (m.wide (WDK.w K))).trans m3).up E.sub)) (E3.putO.put du)⟩
end
theorem E44_leaf (dm d : PyData) : ∃ ds, E44 dm d = .list ds ∧ ds.all leafD = true := by
  unfold E44
  split
  · exact ⟨_, rfl, rfl⟩
  · split
    · exact ⟨_, rfl, rfl⟩
    · split
      · exact ⟨_, rfl, rfl⟩
      · exact ⟨_, rfl, rfl⟩
theorem in_pair {p : Int × Int} (h : p.1.natAbs < 10 ^ 40 ∧ p.2.natAbs < 10 ^ 40) : In44 0 [.int p.1, .int p.2] := by
  refine ⟨⟨(by intro z; cases z), (by show 2 ≤ 12; decide), ?_, (lay_pair p).shaped (by decide)⟩, fun x hx => ?_⟩
  · have g := (Gs.one (gd_int (e := 5) h.1)).app (Gs.one (gd_int (e := 5) h.2))
    exact ⟨g.ok, Nat.le_trans g.w (by decide), g.dp⟩
  · simp only [List.mem_cons, List.not_mem_nil, or_false] at hx
    rcases hx with z | z <;> (rw [z]; rfl)
theorem sm60q {m : Int} (hm : m ≤ 60) {x : Int} (h0 : 0 ≤ x) (h1 : x < m) : x.natAbs < 10 ^ 40 := Nat.lt_of_lt_of_le (show x.natAbs < 60 by omega) (by decide)
theorem gd_pair44 {m : Int} {tl : List (Int × Int)} (it : IsTool m tl) (hm : m ≤ 60) {p : Int × Int} (hp : p ∈ tl) : Gd (pairD p) 3849 1 := by
  have r := it.rng p hp
  exact (Gs.tup ((Gs.one (gd_int (e := 0) (sm60q hm r.1.1 r.1.2))).app (Gs.one (gd_int (e := 0) (sm60q hm r.2.1 r.2.2))))).mono (by decide) (by decide)
theorem lay_toolD (tl : List (Int × Int)) : Lay 2 (toolD tl) := lay_tup (n := 1) (ds := tl.map pairD) fun d hd => by
  obtain ⟨p, _, h⟩ := List.mem_map.mp hd
  rw [← h]
  exact lay_pair p
theorem in_tool {m : Int} {tl : List (Int × Int)} (it : IsTool m tl) (hm : m ≤ 60) : In44 1 (tl.map pairD) := by
  have h2 := it.len2
  have h1 := it.len1
  refine ⟨⟨fun z => ?_, by rw [List.length_map]; exact h2, ?_, (lay_toolD tl).shaped (by decide)⟩, fun x hx => ?_⟩
  · have := congrArg List.length z
    rw [List.length_map, List.length_nil] at this
    omega
  · have g := Gs.map (f := pairD) (n := 12) (w := 3849) (e := 5) h2 fun p hp => (gd_pair44 it hm hp).mono (Nat.le_refl _) (by decide)
    exact ⟨g.ok, Nat.le_trans g.w (by decide), g.dp⟩
  · obtain ⟨p, hp, e⟩ := List.mem_map.mp hx
    have r := it.rng p hp
    exact ⟨_, e.symm, in_pair ⟨sm60q hm r.1.1 r.1.2, sm60q hm r.2.1 r.2.2⟩⟩
theorem gd_tool44 {m : Int} {tl : List (Int × Int)} (it : IsTool m tl) (hm : m ≤ 60) : Gd (toolD tl) 47000 2 :=
  (Gs.tup (Gs.map (f := pairD) (n := 12) (w := 3849) (e := 1) it.len2 fun p hp => gd_pair44 it hm hp)).mono (by decide) (by decide)
theorem in_tools {m : Int} {tls : List (List (Int × Int))} (its : ∀ t ∈ tls, IsTool m t) (hm : m ≤ 60) (l1 : 1 ≤ tls.length) (l3 : tls.length ≤ 3) : In44 2 (tls.map toolD) := by
  refine ⟨⟨fun z => ?_, by rw [List.length_map]; omega, ?_, (lay_toolsD tls).shaped (by decide)⟩, fun x hx => ?_⟩
  · have := congrArg List.length z
    rw [List.length_map, List.length_nil] at this
    omega
  · have g := Gs.map (f := toolD) (n := 3) (w := 47000) (e := 5) l3 fun t ht => (gd_tool44 (its t ht) hm).mono (Nat.le_refl _) (by decide)
    exact ⟨g.ok, Nat.le_trans g.w (by decide), g.dp⟩
  · obtain ⟨t, ht, e⟩ := List.mem_map.mp hx
    exact ⟨_, e.symm, in_tool (its t ht) hm⟩
theorem Gs.rep44 {ds : List PyData} {w e : Nat} (h : Gs ds w e) : ∀ n : Nat, Gs (List.replicate n ds).flatten (n * w) e
  | 0 => ⟨fun d hd => (List.not_mem_nil hd).elim, Nat.zero_le _, fun d hd => (List.not_mem_nil hd).elim⟩
  | n + 1 => by
    rw [List.replicate_succ, List.flatten_cons, Nat.succ_mul, Nat.add_comm]
    exact h.app (Gs.rep44 h n)
theorem gs_tools44 {m : Int} {tls : List (List (Int × Int))} (its : ∀ t ∈ tls, IsTool m t) (hm : m ≤ 60) (l3 : tls.length ≤ 3) : Gs (tls.map toolD) 141006 5 := by
  have g := Gs.map (f := toolD) (n := 3) (w := 47000) (e := 5) l3 fun t ht => (gd_tool44 (its t ht) hm).mono (Nat.le_refl _) (by decide)
  exact ⟨g.ok, Nat.le_trans g.w (by decide), g.dp⟩
theorem held_neat {dm dt : PyData} (h1 : Gd dm 20000 10) (h2 : Gd dt 1000000 10) : Neat (.list [dm, dt]) 16000000 60 := (Gs.lst ((Gs.one h1).app (Gs.one h2))).neat.mono (by decide) (by decide)
theorem Gd.nt44 {d : PyData} {w e : Nat} (h : Gd d w e) (hw : w ≤ 16000000) (he : e ≤ 60) : Neat d 16000000 60 := h.neat.mono hw he
theorem made_bn {C : Addr} {T : Tb} {x : Addr} {m : Int} {tls : List (List (Int × Int))} (m1 : 1 ≤ m) : Bn C ((x, C, fsB m (toolsD tls) (.tuple []) (.tuple [tupD (upto m)]) 1 false) :: T) x m tls [] [upto m] (upto m) 1 false := ⟨getT_head, Hist.new m1⟩
theorem toolsD_injQ : ∀ {a b : List (List (Int × Int))}, toolsD a = toolsD b → a = b := by
  intro a b h
  have h : a.map toolD = b.map toolD := PyData.tuple.inj h
  induction a generalizing b with
  | nil =>
    cases b with
    | nil => rfl
    | cons y r => cases h
  | cons x a ih =>
    cases b with
    | nil => cases h
    | cons y r =>
      rw [List.map_cons, List.map_cons] at h
      have h := List.cons.inj h
      rw [toolD_inj h.1, ih (congrArg PyData.tuple h.2) h.2]
section
open PySem.W He
def fnAt (K : PySem.W.Frag) (a : Addr) : FnW := match K.lookup a with
  | some ⟨_, _, .func fd, _⟩ => some (fd.name, fd.qualname, fd.params, fd.body, fd.scope, fd.globals, fd.closure, fd.builtins)
  | _ => none
/-- a def: where it is found, its names, its text -/
structure FD where
  pl : PySem.W.Frag → Addr
  nm : Str
  qn : Str
  ag : Arguments
  bo : List Stmt
  sc : Scope
def FD.val (d : FD) : FnW := some (d.nm, d.qn, d.ag, .stmts d.bo, d.sc, mainGlobals, [], builtinsNs)
def FD.good (K : PySem.W.Frag) (d : FD) : Bool := keepIn K (.ref (d.pl K)) && (match K.lookup (d.pl K) with
  | some ⟨_, _, .func fd, _⟩ => codeIn K fd.code d.qn && (match fd.defaults with
    | .none => true
    | _ => false)
  | _ => false)
theorem FD.get {K : PySem.W.Frag} {d : FD} (e : fnAt K (d.pl K) = d.val) (c : d.good K = true) : ∃ (oc : Value) (od : Option Addr) (kV dc pm : Value) (an : Option Addr) (cd ct : Value) (sl : Array (Option Value)),
    K.lookup (d.pl K) = some ⟨oc, od, .func (fnOf d.nm d.qn d.ag d.bo d.sc .none kV dc pm an cd ct), sl⟩ ∧ codeIn K cd d.qn = true ∧ keepIn K (.ref (d.pl K)) = true := by
  obtain ⟨kp, c2⟩ := ba c
  unfold fnAt at e
  cases q : K.lookup (d.pl K) with
  | none =>
    rw [q] at c2
    cases c2
  | some o =>
    obtain ⟨oc, od, dt, osl⟩ := o
    rw [q] at c2 e
    cases dt with
    | func fd =>
      obtain ⟨n1, n2, n3, n4, n5, n6, n7, n8, n9, n10, n11, n12, n13, n14, n15⟩ := fd
      have e2 : (some (n1, n2, n3, n4, n5, n6, n7, n15) : FnW) = some (d.nm, d.qn, d.ag, .stmts d.bo, d.sc, mainGlobals, [], builtinsNs) := e
      simp only [Option.some.injEq, Prod.mk.injEq] at e2
      obtain ⟨h1, h2, h3, h4, h5, h6, h7, h8⟩ := e2
      subst h1 h2 h3 h4 h5 h6 h7 h8
      cases n8 with
      | none => exact ⟨oc, od, n9, n10, n11, n12, n13, n14, osl, rfl, (ba (show (codeIn K n13 d.qn && true) = true from c2)).1, kp⟩
      | _ =>
        have z : (codeIn K n13 d.qn && false) = true := c2
        rw [Bool.and_false] at z
        cases z
    | _ => cases c2
/-- the dict of a def's keyword-only defaults -/
def kwAt (K : PySem.W.Frag) (a : Addr) : Addr := match K.lookup a with
  | some ⟨_, _, .func fd, _⟩ => (match fd.kwdefaults with
    | .ref D => D
    | _ => 0)
  | _ => 0
def kwB (K : PySem.W.Frag) (a : Addr) : Bool := match K.lookup a with
  | some ⟨_, _, .func fd, _⟩ => (match fd.kwdefaults with
    | .ref _ => true
    | _ => false)
  | _ => false
theorem kw_ref {K : PySem.W.Frag} {a : Addr} {oc : Value} {od : Option Addr} {fd : FuncData} {sl : Array (Option Value)} (l : K.lookup a = some ⟨oc, od, .func fd, sl⟩) (h : kwB K a = true) : fd.kwdefaults = .ref (kwAt K a) := by
  unfold kwB at h
  unfold kwAt
  rw [l] at h ⊢
  have h : (match fd.kwdefaults with
    | .ref _ => true
    | _ => false) = true := h
  show fd.kwdefaults = .ref (match fd.kwdefaults with
    | .ref D => D
    | _ => 0)
  cases e : fd.kwdefaults with
  | ref D => rfl
  | _ => rw [e] at h; cases h
theorem FD.getK {K : PySem.W.Frag} {d : FD} (e : fnAt K (d.pl K) = d.val) (c : d.good K = true) (hk : kwB K (d.pl K) = true) : ∃ (oc : Value) (od : Option Addr) (dc pm : Value) (an : Option Addr) (cd ct : Value) (sl : Array (Option Value)),
    K.lookup (d.pl K) = some ⟨oc, od, .func (fnOf d.nm d.qn d.ag d.bo d.sc .none (.ref (kwAt K (d.pl K))) dc pm an cd ct), sl⟩ ∧ codeIn K cd d.qn = true ∧ keepIn K (.ref (d.pl K)) = true := by
  obtain ⟨oc, od, kV, dc, pm, an, cd, ct, sl, l, h1, h2⟩ := FD.get e c
  have z : kV = .ref (kwAt K (d.pl K)) := kw_ref l hk
  subst z
  exact ⟨oc, od, dc, pm, an, cd, ct, sl, l, h1, h2⟩
/-- a global number -/
def giB (K : PySem.W.Frag) (x : Str) (i : Int) : Bool := match nsIn K mainGlobals x with
  | some (some (.int j _)) => decide (j = i)
  | _ => false
theorem gi_ok {K : PySem.W.Frag} {x : Str} {i : Int} (h : giB K x i = true) : ∃ v, nsIn K mainGlobals x = some (some v) ∧ ∃ t, v = .int i t := by
  unfold giB at h
  split at h
  · rename_i j t e
    have := of_decide_eq_true h
    subst this
    exact ⟨_, e, t, rfl⟩
  · cases h
/-- an error's class -/
def ecB (K : PySem.W.Frag) (C : Addr) (tail : List Value) (new : String) : Bool := match K.lookup C with
  | some ⟨.type t, _, .cls cd, sl⟩ => decide (t = "type") && (decide (cd.mro = .ref C :: tail) && (cd.hasDict && (!cd.hasDel && (match sl.toList with
    | [_, _, _, _, some (.builtin n), _] => decide (n = new)
    | _ => false))))
  | _ => false
theorem ec_ok {K : PySem.W.Frag} {C : Addr} {tail : List Value} {new : String} (h : ecB K C tail new = true) : ∃ (nm qq : Str) (NN : Addr) (bs : List Value) (sn : List Str) (sub : List Value) (ab : Bool) (col : Option Bool) (dd : Option Addr) (q0 q1 q2 q3 q5 : Option Value),
    K.lookup C = some (excClassObj nm qq C NN bs tail true sn sub ab col dd q0 q1 q2 q3 q5 new) := by
  unfold ecB at h
  split at h
  · rename_i t dd cd sl e
    obtain ⟨h1, h⟩ := ba h
    obtain ⟨h2, h⟩ := ba h
    obtain ⟨h3, h⟩ := ba h
    obtain ⟨h4, h⟩ := ba h
    split at h
    · rename_i k0 k1 k2 k3 n k5 es
      have e1 := of_decide_eq_true h1
      have e2 := of_decide_eq_true h2
      have e5 := of_decide_eq_true h
      obtain ⟨c1, c2, c3, c4, c5, c6, c7, c8, c9, c10, c11⟩ := cd
      obtain ⟨sl⟩ := sl
      have es : sl = [k0, k1, k2, k3, some (.builtin n), k5] := es
      have e2 : c3 = .ref C :: tail := e2
      have g3 : c6 = true := h3
      have g4 : c11 = false := by
        have z : (!c11) = true := h4
        cases c11 with
        | false => rfl
        | true => cases z
      clear h1 h2 h3 h4 h
      subst e1 e2 e5 es g3 g4
      exact ⟨c1, c5, c4, c2, c7, c8, c9, c10, dd, k0, k1, k2, k3, k5, e⟩
    · cases h
  · cases h
abbrev AlZ : Type := List FnW × Bool
def obsZ (as : List Addr) (fs : List FD) (ex : PySem.W.Frag → Bool) (g : Addr → Option Obj) : AlZ := ((fs.map fun d => fnAt (frG g as) (d.pl (frG g as))), (fs.all fun d => d.good (frG g as)) && ex (frG g as))
def valZ (fs : List FD) : AlZ := (fs.map FD.val, true)
structure SaysZ (fs : List FD) (ex : PySem.W.Frag → Bool) (K : PySem.W.Frag) : Prop where
  v : (fs.map fun d => fnAt K (d.pl K)) = fs.map FD.val
  g : (fs.all fun d => d.good K) = true
  x : ex K = true
def hookZ (as : List Addr) (fs : List FD) (ex : PySem.W.Frag → Bool) : PySem.W.Hook where
  α := AlZ
  obs := fun s => obsZ as fs ex s.heap.get?
  val := fun _ => valZ fs
  says := fun _ h => ∃ K : PySem.W.Frag, K.In h ∧ SaysZ fs ex K
  of := fun _ s e => ⟨frG s.heap.get? as, frG_in, congrArg (fun z : AlZ => z.1) e, (ba (show ((fs.all fun d => d.good (frG s.heap.get? as)) && ex (frG s.heap.get? as)) = true from congrArg (fun z : AlZ => z.2) e)).1, (ba (show ((fs.all fun d => d.good (frG s.heap.get? as)) && ex (frG s.heap.get? as)) = true from congrArg (fun z : AlZ => z.2) e)).2⟩
  keeps := fun _ _ _ ⟨K, hK, c⟩ k => ⟨K, PySem.W.Frag.In.keeps hK k, c⟩
theorem obsZ_eq {as : List Addr} {fs : List FD} {ex : PySem.W.Frag → Bool} {g : Addr → Option Obj} {s : Shared} (h : ∀ a, g a = s.heap.get? a) : obsZ as fs ex g = (hookZ as fs ex).obs s := by
  rw [funext h]
  rfl
theorem SaysZ.fn {fs : List FD} {ex : PySem.W.Frag → Bool} {K : PySem.W.Frag} (c : SaysZ fs ex K) (i : Nat) {d : FD} (h : fs[i]? = some d := by rfl) : fnAt K (d.pl K) = d.val ∧ d.good K = true := by
  have e : (fs.map fun d => fnAt K (d.pl K))[i]? = (fs.map FD.val)[i]? := by rw [c.v]
  rw [List.getElem?_map, List.getElem?_map, h] at e
  exact ⟨Option.some.inj e, List.all_eq_true.mp c.g d (List.mem_of_getElem? h)⟩
theorem allZ {l : List Bool} (h : l.all id = true) (i : Nat) {b : Bool} (e : l[i]? = some b) : b = true := List.all_eq_true.mp h b (List.mem_of_getElem? e)
end
section
open PySem.W He
def cF (as : List Addr) (fs : List FD) (s : SharedT) : AlZ := ((fs.map fun d => fnAt (frG (HandSHeadRun.getT s) as) (d.pl (frG (HandSHeadRun.getT s) as))), fs.all fun d => d.good (frG (HandSHeadRun.getT s) as))
def cT (as : List Addr) (ts : PySem.W.Frag → List Bool) (s : SharedT) : Bool := (ts (frG (HandSHeadRun.getT s) as)).all id
theorem obZ_of {as : List Addr} {fs : List FD} {ex : PySem.W.Frag → Bool} {s : SharedT} (h : cF as fs s = valZ fs) (hx : ex (frG (HandSHeadRun.getT s) as) = true) : obsZ as fs ex (HandSHeadRun.getT s) = valZ fs := by
  have e1 := congrArg (fun z : AlZ => z.1) h
  have e2 := congrArg (fun z : AlZ => z.2) h
  unfold cF valZ at *
  unfold obsZ
  dsimp only at e1 e2
  rw [e1, e2, hx]
  rfl
theorem at_of {γ : Type} {o : Option SharedT} {f : SharedT → γ} {v : γ} (h : o.map f = some v) {s : SharedT} (e : o = some s) : f s = v := by
  rw [e] at h
  exact Option.some.inj h
theorem join_at {α β γ : Type} {o : Option SharedT} {l : SharedT → α} {m : SharedT → β} {x : α} {y : β} {ob : SharedT → γ} {b : γ} (h : o.map (fun s => (l s, m s)) = some (x, y)) (h2 : ∀ s, o = some s → ob s = b) : o.map (fun s => (l s, m s, ob s)) = some (x, y, b) := by
  cases o with
  | none => cases h
  | some s =>
    have e := Option.some.inj h
    have e1 : l s = x := congrArg (fun z : α × β => z.1) e
    have e2 : m s = y := congrArg (fun z : α × β => z.2) e
    show some (l s, m s, ob s) = _
    rw [e1, e2, h2 s rfl]
end
/-- the end: the written part is whatever the run has left -/
theorem walkH {l : PySem.W.OpenLaw} {n k : Nat} {q : Program} {loose : List Str} {XP : (Str → Option Value) → Heap → Prop} {YP : World → Heap → Prop} {d : DefRec} {sp : PySem.W.Frag → Sp} {x : Str}
    (hn : l.most = some n) (hn2 : n ≤ sizeLine) (hdf : d.params.defaults = []) (hr : Room k callerA) (hin : importsNone q = true)
    (F : ∀ (w : World) (mg : Str → Option Value) (fa : Addr) (h : Heap), YP w h → h.Ns mainGlobals mg → mg d.name = some (.ref fa) → ∃ K : PySem.W.Frag, K.In h ∧ ∃ fd : FuncData, (∀ (s : Shared) (u : Value), BindsTo s fd ⟨[u], []⟩ [(x, u)]) ∧
        ∀ base : Heap, K.In base → base.Ns mainGlobals mg → (∃ o, base.get? sysModules = some o) → FnG l.prog w K mg base k fa fd [x] (sp K))
    (hsp : ∀ (K : PySem.W.Frag) (H : Hp) (a : Addr) (ns : List Int), ns.length ≤ n → Only H → SqL K H a (ns.map V.int) → sp K [.ref a] H (fun v _ => v = .bl true) E0) :
    PySem.W.WalkO q loose XP YP l.row.toRowW d [] (fun f vs => PySem.call f vs) := by
  apply Att.attach_call hn hdf
  intro w s₀ s₁ mg mb fa o pm cd doc a vs ns G Y ho hd hcd hmg hobj hints hlen hg
  obtain ⟨K, KX, fd, hb, hF⟩ := F w mg fa _ Y G.T.g hmg
  exact lawG KX G.T.g G.T.b G.T.builtins G.T.nolimit hg hobj hints (Nat.le_trans hlen hn2) hr (let ⟨mm, h, _⟩ := (G.T.seer hin).mods; ⟨mm, h⟩) hF hb fun H hO hS => hsp K H a ns hlen hO hS
def topS (i : Nat) : Stmt := PySem.Challenge.pw_blindpush_k44_benches_created.main.body.getD i (.Pass ⟨0, 0, 0, 0⟩)
section
open Classical
variable {P : Program} {w : World} {K : PySem.W.Frag} {mg : Str → Option Value} {base : Heap}
def clsBody : Stmt → List Stmt
  | .ClassDef (body := b) .. => b
  | _ => []
abbrev s_BadTools : Stmt := (clsBody (topS 14)).getD 0 (.Pass ⟨0, 0, 0, 0⟩)
theorem sc_BadTools : FnScope ["self", "index"] ["self", "index"] (defScope s_BadTools) :=
  ⟨rfl, rfl, rfl, by decide +kernel, rfl, by decide +kernel, by decide +kernel⟩
theorem ok_BadTools {f : Addr} {fd : FuncData} (F : Fun K "__init__" "BadTools.__init__" s_BadTools f fd) : FnOk P w K mg base CX0 1 f fd ["self", "index"] (spInit K "index") := by
  refine F.ok sc_BadTools (fun vs H Q E h => ?_) (fun cdv A outer s H vs Q E hr h => ?_)
  · obtain ⟨a, C, v, e, _⟩ := h
    subst e
    rfl
  obtain ⟨a, C, v, e, ox, no, ha, q⟩ := h
  subst e
  refine ⟨_, (pss_one (ps_ost (pv 0) (pv 1))), ?_⟩
  exact ⟨v, rfl, .ref a, rfl, a, C, rfl, ox, no, .inl ⟨ha, fun dx nd ne => q dx nd ne⟩⟩
abbrev s_BadCircle : Stmt := (clsBody (topS 13)).getD 0 (.Pass ⟨0, 0, 0, 0⟩)
theorem sc_BadCircle : FnScope ["self", "value"] ["self", "value"] (defScope s_BadCircle) :=
  ⟨rfl, rfl, rfl, by decide +kernel, rfl, by decide +kernel, by decide +kernel⟩
theorem ok_BadCircle {f : Addr} {fd : FuncData} (F : Fun K "__init__" "BadCircle.__init__" s_BadCircle f fd) : FnOk P w K mg base CX0 1 f fd ["self", "value"] (spInit K "value") := by
  refine F.ok sc_BadCircle (fun vs H Q E h => ?_) (fun cdv A outer s H vs Q E hr h => ?_)
  · obtain ⟨a, C, v, e, _⟩ := h
    subst e
    rfl
  obtain ⟨a, C, v, e, ox, no, ha, q⟩ := h
  subst e
  refine ⟨_, (pss_one (ps_ost (pv 0) (pv 1))), ?_⟩
  exact ⟨v, rfl, .ref a, rfl, a, C, rfl, ox, no, .inl ⟨ha, fun dx nd ne => q dx nd ne⟩⟩
abbrev s_Bench___init__ : Stmt := (clsBody (topS 36)).getD 1 (.Pass ⟨0, 0, 0, 0⟩)
abbrev N_Bench___init__ : List Str := ["self", "m", "tools"]
theorem sc_Bench___init__ : FnScope N_Bench___init__ ["self", "m", "tools"] (defScope s_Bench___init__) :=
  ⟨rfl, rfl, rfl, by decide +kernel, rfl, by decide +kernel, by decide +kernel⟩
theorem ok_Bench___init__ {f : Addr} {fd : FuncData} (F : Fun K "__init__" "Bench.__init__" s_Bench___init__ f fd) (T : Bi mg) {CP CB CT : Addr}
    (cB : Cls K CP)
    (n_m : NoAttr K CP "m")
    (n_tools : NoAttr K CP "tools")
    (n_done : NoAttr K CP "done")
    (n_states : NoAttr K CP "states")
    (n_aim : NoAttr K CP "aim")
    (n_is_watched : NoAttr K CP "is_watched")
    (hMP : ∃ t, mg "MAX_PLACES" = some (.int 60 t))
    (E_BadCircle : ErrC P w K mg base "BadCircle" "value" CB)
    (h_is_number_within : Has P w K mg base 2 "is_number_within" ["value", "least", "most"] (spP K RNumW))
    (h_check_tools : HasX P w K mg base 9 "check_tools" ["m", "value"] (spX K (RChkA CT)))
    : FnOk P w K mg base (L2.CX P w) 10 f fd ["self", "m", "tools"] (spO K (RInitA CP CB CT)) := by
  refine F.okX sc_Bench___init__ (fun vs H Q E h => lenO h (by rintro a ds T A X ⟨_, _, rfl, _⟩; rfl)) (fun cdv Ar outer s H vs Q E hr h => ?_)
  refine ⟨_, (pss_cons (ps_if (pt_not (pt_val (pe_callH h_is_number_within hr (by decide) (by rfl) (pa_cons (pv 1) (pa_cons pe_int (pa_cons (pe_glob (v := .int 60) (by rfl) hMP.choose_spec ⟨_, rfl⟩) pa_nil))))))
  (pss_one (kps_raise K rfl (takes_of rfl rfl rfl rfl) E_BadCircle hr (by decide) (by rfl) (pa_cons (pv 1) pa_nil)))
  pss_nil)
  (pss_cons (ps_expr (pe_callHX h_check_tools hr (by decide) (takes_of rfl rfl rfl rfl) (by rfl) (pa_cons (pv 1) (pa_cons (pv 2) pa_nil))))
  (pss_cons (kpsfld K (pv 0) (pv 1))
  (pss_cons (kpsfld K (pv 0) (pv 2))
  (pss_cons (kpsfld K (pv 0) (pe_tup pa_nil))
  (pss_cons (kpsfld K (pv 0) (pe_tup (pa_cons (pe_tupRg (by rfl) (by rfl) T.tuple (prg_1 (by rfl) T.range (pv 1))) pa_nil)))
  (pss_cons (kpsfld K (pv 0) pe_int)
  (pss_one (kpsfld K (pv 0) pe_bl))))))))), ?_⟩
  refine goO h (by repeat' (first | (with_reducible (first | exact re_fld | apply rs_fld | exact re_prop | apply rsx_retM | apply rsx_dropM | apply rsx_asgM | apply re_meth | apply re_callO | exact re_methD | exact re_lenB | exact re_strB | apply rg_lst | apply re_tupZip | apply re_lstRg3 | exact rsx_raise0 | apply rsx_seq | apply rsx_if | apply rsx_for | apply rsx_asgX | apply rsx_dropX | apply rsx_retX | apply rsx_raise | apply rsx_of | apply rs_tryOnly | intro _ | exact E_BadCircle.ox | exact E_BadCircle.no | apply rs_seq | exact rs_never | exact rs_next | exact rs_retN | apply rs_asg | apply rs_par | apply rs_par3 | apply rs_drop | apply rs_ret | apply rs_if | apply rs_for | apply rs_while | exact re_var | exact re_int | exact re_str | exact re_bl | exact re_non | apply re_op | apply re_un | apply re_isiT | apply re_isiI | apply re_isiB | apply re_srtSc | apply re_srtSet | apply re_cb | apply re_lst | apply re_tup | apply re_tupF | apply re_slU | apply re_slT | apply re_slL | exact ro_none | apply ro_some | apply re_andV | apply re_orV | apply re_notV | apply re_if | apply re_chain | apply rt_test | apply rt_b | apply rt_tru | exact rt_yes | apply rt_and | apply rt_or | apply rt_not | exact ra_nil | apply ra_cons | apply ri_rng1 | apply ri_rng2 | apply ri_tup | apply ri_lst | apply ri_zip | apply ri_enum | apply ri_enT | apply ri_U | apply ri_zm | apply ri_revA | exact rg_name | exact rgs_nil | apply rgs_cons | apply rg_tup | apply re_lc | apply re_listRg | apply re_tupRg | apply rrg1 | apply rrg2 | apply re_index | apply re_revT | apply re_revL | apply re_callK | apply re_callP | exact r2_I0 | exact r2_B0 | exact r2_Ic | exact r2_eq | exact r2_ne | exact r2_isN | exact r2_notN | exact r2_ixA | exact r2_ixT | exact r2_ixL | exact r2_catT | exact r2_catL | exact r2_catS | exact r2_notB | exact r2_repT | exact r2_in | exact r2_eqD | exact r2_neD | exact r1_neg | exact rc_len' | exact rc_tupF | exact rc_listof | exact rc_sorted | exact rc_sum | exact rc_max | exact rc_min | exact rc_all | exact rc_repr | exact rc_abs | exact rc_max2 | exact rc_min2 | exact rc_int1 | exact rc_sortT | apply ri_rng3 | exact re_dnew | exact re_dis1 | exact rc_strI | apply ri_rng3 | apply ra_snoc | apply ra_both | apply re_join | apply re_fstr | apply RJs.cons | exact RJs.nil | apply re_fmt | apply re_tupZip | apply re_lstRg3)) | decide)) (fun x ds Tb A X hR => ?_)
  obtain ⟨dm, d, e, ht, x1, x2⟩ := hR
  subst e
  refine ⟨_, rfl, dm, 1, 60, rfl, _, rfl, ?_⟩
  cases hN : numIn 1 60 dm with
  | false => exact iteT ⟨_, rfl, _, rfl, _, rfl, x1 hN⟩
  | true =>
    obtain ⟨m, em, m1, m2⟩ := numIn_int hN
    subst em
    obtain ⟨y1, y2⟩ := x2 m rfl m1 m2
    refine iteF ⟨_, rfl, _, rfl, m, d, rfl, m1, fun hT => ⟨_, rfl, y1 hT⟩, fun xs ex hT => ⟨fun hall => ?_, fun i t hx hnt hb => ⟨_, rfl, (y2 xs ex hT).2 i ⟨t, hx, hnt, hb⟩⟩⟩⟩
    have a := (y2 xs ex hT).1 hall
    obtain ⟨tls, et, its⟩ := tools_of hall
    subst ex et
    refine ⟨_, rfl, x, CP, [], _, rfl, rfl, ht, cB, n_m, by decide, rfl, ?_⟩
    refine ⟨_, rfl, x, CP, _, _, rfl, rfl, getT_set ht, cB, n_tools, Nat.le_of_ble_eq_true rfl, hard_tools tls, ?_⟩
    refine ⟨len_ok rfl, x, CP, _, _, rfl, rfl, getT_set (getT_set ht), cB, n_done, Nat.le_of_ble_eq_true rfl, rfl, ?_⟩
    refine ⟨_, rfl, m, rfl, ⟨by omega, by omega, by omega⟩, len_ok rfl, x, CP, _, _, rfl, rfl, getT_set (getT_set (getT_set ht)), cB, n_states, Nat.le_of_ble_eq_true rfl, by rw [rg_tupB]; exact hard_one _, ?_⟩
    refine ⟨x, CP, _, _, rfl, rfl, getT_set (getT_set (getT_set (getT_set ht))), cB, n_aim, Nat.le_of_ble_eq_true rfl, rfl, ?_⟩
    refine ⟨x, CP, _, _, rfl, rfl, getT_set (getT_set (getT_set (getT_set (getT_set ht)))), cB, n_is_watched, Nat.le_of_ble_eq_true rfl, rfl, _, rfl, ?_⟩
    show A .none (setT (setT (setT (setT (setT (setT Tb x _) x _) x _) x _) x _) x _)
    rw [setT_set, setT_set, setT_set, setT_set, setT_set, rg_tupB]
    exact a
abbrev s_Bench_edits : Stmt := (clsBody (topS 36)).getD 29 (.Pass ⟨0, 0, 0, 0⟩)
abbrev N_Bench_edits : List Str := ["self"]
theorem sc_Bench_edits : FnScope N_Bench_edits ["self"] (defScope s_Bench_edits) :=
  ⟨rfl, rfl, rfl, by decide +kernel, rfl, by decide +kernel, by decide +kernel⟩
theorem ok_Bench_edits {f : Addr} {fd : FuncData} (F : Fun K "edits" "Bench.edits" s_Bench_edits f fd) (T : Bi mg) {CP : Addr}
    (cB : Cls K CP)
    (n_m : NoAttr K CP "m")
    (n_tools : NoAttr K CP "tools")
    (n_done : NoAttr K CP "done")
    (n_states : NoAttr K CP "states")
    (n_aim : NoAttr K CP "aim")
    (n_is_watched : NoAttr K CP "is_watched")
    : FnOk P w K mg base CX0 1 f fd ["self"] (spO K (REdits CP)) := by
  refine F.ok sc_Bench_edits (fun vs H Q E h => lenO h (by rintro a ds T A X ⟨_, _, _, _, _, _, rfl, _⟩; rfl)) (fun cdv Ar outer s H vs Q E hr h => ?_)
  refine ⟨_, (pss_one (ps_ret (kfld K (pv 0)))), ?_⟩
  refine goO h (by repeat' (first | (with_reducible (first | exact re_fld | apply rs_fld | exact re_prop | apply rsx_retM | apply rsx_dropM | apply rsx_asgM | apply re_meth | apply re_callO | exact re_methD | exact re_lenB | exact re_strB | apply rg_lst | apply re_tupZip | apply re_lstRg3 | exact rsx_raise0 | apply rsx_seq | apply rsx_if | apply rsx_for | apply rsx_asgX | apply rsx_dropX | apply rsx_retX | apply rsx_raise | apply rsx_of | apply rs_tryOnly | intro _ | apply rs_seq | exact rs_never | exact rs_next | exact rs_retN | apply rs_asg | apply rs_par | apply rs_par3 | apply rs_drop | apply rs_ret | apply rs_if | apply rs_for | apply rs_while | exact re_var | exact re_int | exact re_str | exact re_bl | exact re_non | apply re_op | apply re_un | apply re_isiT | apply re_isiI | apply re_isiB | apply re_srtSc | apply re_srtSet | apply re_cb | apply re_lst | apply re_tup | apply re_tupF | apply re_slU | apply re_slT | apply re_slL | exact ro_none | apply ro_some | apply re_andV | apply re_orV | apply re_notV | apply re_if | apply re_chain | apply rt_test | apply rt_b | apply rt_tru | exact rt_yes | apply rt_and | apply rt_or | apply rt_not | exact ra_nil | apply ra_cons | apply ri_rng1 | apply ri_rng2 | apply ri_tup | apply ri_lst | apply ri_zip | apply ri_enum | apply ri_enT | apply ri_U | apply ri_zm | apply ri_revA | exact rg_name | exact rgs_nil | apply rgs_cons | apply rg_tup | apply re_lc | apply re_listRg | apply re_tupRg | apply rrg1 | apply rrg2 | apply re_index | apply re_revT | apply re_revL | apply re_callK | apply re_callP | exact r2_I0 | exact r2_B0 | exact r2_Ic | exact r2_eq | exact r2_ne | exact r2_isN | exact r2_notN | exact r2_ixA | exact r2_ixT | exact r2_ixL | exact r2_catT | exact r2_catL | exact r2_catS | exact r2_notB | exact r2_repT | exact r2_in | exact r2_eqD | exact r2_neD | exact r1_neg | exact rc_len' | exact rc_tupF | exact rc_listof | exact rc_sorted | exact rc_sum | exact rc_max | exact rc_min | exact rc_all | exact rc_repr | exact rc_abs | exact rc_max2 | exact rc_min2 | exact rc_int1 | exact rc_sortT | apply ri_rng3 | exact re_dnew | exact re_dis1 | exact rc_strI | apply ri_rng3 | apply ra_snoc | apply ra_both | apply re_join | apply re_fstr | apply RJs.cons | exact RJs.nil | apply re_fmt | apply re_tupZip | apply re_lstRg3)) | decide)) (fun x ds Tb A X hR => ?_)
  obtain ⟨m, tls, dn, sts, aim, wt, e, ht, a⟩ := hR
  subst e
  exact ⟨x, CP, fsB m tls dn sts aim wt, dn, _, rfl, rfl, ht, cB, n_done, rfl, _, rfl, a⟩
abbrev s_Bench_possible : Stmt := (clsBody (topS 36)).getD 24 (.Pass ⟨0, 0, 0, 0⟩)
abbrev N_Bench_possible : List Str := ["self", "version"]
theorem sc_Bench_possible : FnScope N_Bench_possible ["self", "version"] (defScope s_Bench_possible) :=
  ⟨rfl, rfl, rfl, by decide +kernel, rfl, by decide +kernel, by decide +kernel⟩
theorem ok_Bench_possible {f : Addr} {fd : FuncData} (F : FunD K "possible" "Bench.possible" (defArgs s_Bench_possible) (defBody s_Bench_possible) (defScope s_Bench_possible) [] [("version", .non)] f fd) (T : Bi mg) {CP : Addr}
    (cB : Cls K CP)
    (n_m : NoAttr K CP "m")
    (n_tools : NoAttr K CP "tools")
    (n_done : NoAttr K CP "done")
    (n_states : NoAttr K CP "states")
    (n_aim : NoAttr K CP "aim")
    (n_is_watched : NoAttr K CP "is_watched")
    (h_is_index : Has P w K mg base 3 "is_index" ["items", "value"] (spP K RIdx))
    : FnOk P w K mg base CX0 5 f fd ["self", "version"] (spO K (RPossV CP)) := by
  refine F.ok sc_Bench_possible (fun vs H Q E h => lenO h (by rintro a ds T A X ⟨_, _, _, _, _, _, _, _, rfl, _⟩; rfl)) (fun cdv Ar outer s H vs Q E hr h => ?_)
  refine ⟨_, (pss_cons (ps_if (pt_cmpR op_isN (pv 1) pe_non (nomark _))
  (pss_one (ps_ret (pe_ix (kixA K) (kfld K (pv 0)) (pe_un un_neg pe_int) (fun _ _ => rfl))))
  pss_nil)
  (pss_cons (ps_if (pt_not (pt_val (pe_callH h_is_index hr (by decide) (by rfl) (pa_cons (kfld K (pv 0)) (pa_cons (pv 1) pa_nil)))))
  (pss_one ps_never)
  pss_nil)
  (pss_one (ps_ret (pe_ix (kixA K) (kfld K (pv 0)) (pv 1) (fun _ _ => rfl)))))), ?_⟩
  refine goO h (by repeat' (first | (with_reducible (first | exact re_fld | apply rs_fld | exact re_prop | apply rsx_retM | apply rsx_dropM | apply rsx_asgM | apply re_meth | apply re_callO | exact re_methD | exact re_lenB | exact re_strB | apply rg_lst | apply re_tupZip | apply re_lstRg3 | exact rsx_raise0 | apply rsx_seq | apply rsx_if | apply rsx_for | apply rsx_asgX | apply rsx_dropX | apply rsx_retX | apply rsx_raise | apply rsx_of | apply rs_tryOnly | intro _ | apply rs_seq | exact rs_never | exact rs_next | exact rs_retN | apply rs_asg | apply rs_par | apply rs_par3 | apply rs_drop | apply rs_ret | apply rs_if | apply rs_for | apply rs_while | exact re_var | exact re_int | exact re_str | exact re_bl | exact re_non | apply re_op | apply re_un | apply re_isiT | apply re_isiI | apply re_isiB | apply re_srtSc | apply re_srtSet | apply re_cb | apply re_lst | apply re_tup | apply re_tupF | apply re_slU | apply re_slT | apply re_slL | exact ro_none | apply ro_some | apply re_andV | apply re_orV | apply re_notV | apply re_if | apply re_chain | apply rt_test | apply rt_b | apply rt_tru | exact rt_yes | apply rt_and | apply rt_or | apply rt_not | exact ra_nil | apply ra_cons | apply ri_rng1 | apply ri_rng2 | apply ri_tup | apply ri_lst | apply ri_zip | apply ri_enum | apply ri_enT | apply ri_U | apply ri_zm | apply ri_revA | exact rg_name | exact rgs_nil | apply rgs_cons | apply rg_tup | apply re_lc | apply re_listRg | apply re_tupRg | apply rrg1 | apply rrg2 | apply re_index | apply re_revT | apply re_revL | apply re_callK | apply re_callP | exact r2_I0 | exact r2_B0 | exact r2_Ic | exact r2_eq | exact r2_ne | exact r2_isN | exact r2_notN | exact r2_ixA | exact r2_ixT | exact r2_ixL | exact r2_catT | exact r2_catL | exact r2_catS | exact r2_notB | exact r2_repT | exact r2_in | exact r2_eqD | exact r2_neD | exact r1_neg | exact rc_len' | exact rc_tupF | exact rc_listof | exact rc_sorted | exact rc_sum | exact rc_max | exact rc_min | exact rc_all | exact rc_repr | exact rc_abs | exact rc_max2 | exact rc_min2 | exact rc_int1 | exact rc_sortT | apply ri_rng3 | exact re_dnew | exact re_dis1 | exact rc_strI | apply ri_rng3 | apply ra_snoc | apply ra_both | apply re_join | apply re_fstr | apply RJs.cons | exact RJs.nil | apply re_fmt | apply re_tupZip | apply re_lstRg3)) | decide)) (fun x ds Tb A X hR => ?_)
  obtain ⟨m, tls, dn, sts, aim, wt, d, l, ed, ht, hv, a⟩ := hR
  subst ed
  rcases hv with ⟨e, hl⟩ | ⟨v, e, v0, v1, hl⟩
  · subst e
    exact ⟨_, rfl, rfl, _, rfl, iteT ⟨x, CP, _, _, _, rfl, rfl, ht, cB, n_states, rfl, 1, rfl, _, _, l, rfl, rfl, hl, _, rfl, a⟩⟩
  · subst e
    have h2 : numIn 0 ((sts.length : Nat) - 1) (.int v) = true := by
      show (decide (0 ≤ v) && decide (v ≤ ((sts.length : Nat) : Int) - 1)) = true
      rw [decide_eq_true v0, decide_eq_true (by omega)]
      rfl
    exact ⟨_, rfl, rfl, _, rfl, iteF ⟨x, CP, _, _, _, rfl, rfl, ht, cB, n_states, rfl, _, rfl, sts, .int v, rfl, _, rfl, iteN (by rw [h2]; rfl) ⟨x, CP, _, _, _, rfl, rfl, ht, cB, n_states, rfl, _, rfl, _, _, l, rfl, rfl, hl, _, rfl, a⟩⟩⟩
abbrev s_Bench___len__ : Stmt := (clsBody (topS 36)).getD 2 (.Pass ⟨0, 0, 0, 0⟩)
abbrev N_Bench___len__ : List Str := ["self"]
theorem sc_Bench___len__ : FnScope N_Bench___len__ ["self"] (defScope s_Bench___len__) :=
  ⟨rfl, rfl, rfl, by decide +kernel, rfl, by decide +kernel, by decide +kernel⟩
theorem ok_Bench___len__ {f : Addr} {fd : FuncData} (F : Fun K "__len__" "Bench.__len__" s_Bench___len__ f fd) (T : Bi mg) {CP : Addr}
    (cB : Cls K CP)
    (n_m : NoAttr K CP "m")
    (n_tools : NoAttr K CP "tools")
    (n_done : NoAttr K CP "done")
    (n_states : NoAttr K CP "states")
    (n_aim : NoAttr K CP "aim")
    (n_is_watched : NoAttr K CP "is_watched")
    : FnOk P w K mg base CX0 1 f fd ["self"] (spO K (RLenB CP)) := by
  refine F.ok sc_Bench___len__ (fun vs H Q E h => lenO h (by rintro a ds T A X ⟨_, _, _, _, _, _, rfl, _⟩; rfl)) (fun cdv Ar outer s H vs Q E hr h => ?_)
  refine ⟨_, (pss_one (ps_ret (pe_callB (klen K) (by rfl) T.len (by decide +kernel) (pa_cons (kfld K (pv 0)) pa_nil)))), ?_⟩
  refine goO h (by repeat' (first | (with_reducible (first | exact re_fld | apply rs_fld | exact re_prop | apply rsx_retM | apply rsx_dropM | apply rsx_asgM | apply re_meth | apply re_callO | exact re_methD | exact re_lenB | exact re_strB | apply rg_lst | apply re_tupZip | apply re_lstRg3 | exact rsx_raise0 | apply rsx_seq | apply rsx_if | apply rsx_for | apply rsx_asgX | apply rsx_dropX | apply rsx_retX | apply rsx_raise | apply rsx_of | apply rs_tryOnly | intro _ | apply rs_seq | exact rs_never | exact rs_next | exact rs_retN | apply rs_asg | apply rs_par | apply rs_par3 | apply rs_drop | apply rs_ret | apply rs_if | apply rs_for | apply rs_while | exact re_var | exact re_int | exact re_str | exact re_bl | exact re_non | apply re_op | apply re_un | apply re_isiT | apply re_isiI | apply re_isiB | apply re_srtSc | apply re_srtSet | apply re_cb | apply re_lst | apply re_tup | apply re_tupF | apply re_slU | apply re_slT | apply re_slL | exact ro_none | apply ro_some | apply re_andV | apply re_orV | apply re_notV | apply re_if | apply re_chain | apply rt_test | apply rt_b | apply rt_tru | exact rt_yes | apply rt_and | apply rt_or | apply rt_not | exact ra_nil | apply ra_cons | apply ri_rng1 | apply ri_rng2 | apply ri_tup | apply ri_lst | apply ri_zip | apply ri_enum | apply ri_enT | apply ri_U | apply ri_zm | apply ri_revA | exact rg_name | exact rgs_nil | apply rgs_cons | apply rg_tup | apply re_lc | apply re_listRg | apply re_tupRg | apply rrg1 | apply rrg2 | apply re_index | apply re_revT | apply re_revL | apply re_callK | apply re_callP | exact r2_I0 | exact r2_B0 | exact r2_Ic | exact r2_eq | exact r2_ne | exact r2_isN | exact r2_notN | exact r2_ixA | exact r2_ixT | exact r2_ixL | exact r2_catT | exact r2_catL | exact r2_catS | exact r2_notB | exact r2_repT | exact r2_in | exact r2_eqD | exact r2_neD | exact r1_neg | exact rc_len' | exact rc_tupF | exact rc_listof | exact rc_sorted | exact rc_sum | exact rc_max | exact rc_min | exact rc_all | exact rc_repr | exact rc_abs | exact rc_max2 | exact rc_min2 | exact rc_int1 | exact rc_sortT | apply ri_rng3 | exact re_dnew | exact re_dis1 | exact rc_strI | apply ri_rng3 | apply ra_snoc | apply ra_both | apply re_join | apply re_fstr | apply RJs.cons | exact RJs.nil | apply re_fmt | apply re_tupZip | apply re_lstRg3)) | decide)) (fun x ds Tb A X hR => ?_)
  obtain ⟨m, tls, dn, sts, aim, wt, e, ht, a⟩ := hR
  subst e
  exact ⟨x, CP, _, _, _, rfl, rfl, ht, cB, n_done, rfl, _, _, rfl, rfl, _, rfl, a⟩
abbrev s_Bench___str__ : Stmt := (clsBody (topS 36)).getD 3 (.Pass ⟨0, 0, 0, 0⟩)
abbrev N_Bench___str__ : List Str := ["self"]
theorem sc_Bench___str__ : FnScope N_Bench___str__ ["self"] (defScope s_Bench___str__) :=
  ⟨rfl, rfl, rfl, by decide +kernel, rfl, by decide +kernel, by decide +kernel⟩
theorem ok_Bench___str__ {f : Addr} {fd : FuncData} (F : Fun K "__str__" "Bench.__str__" s_Bench___str__ f fd) (T : Bi mg) {CP : Addr}
    (cB : Cls K CP)
    (n_m : NoAttr K CP "m")
    (n_tools : NoAttr K CP "tools")
    (n_done : NoAttr K CP "done")
    (n_states : NoAttr K CP "states")
    (n_aim : NoAttr K CP "aim")
    (n_is_watched : NoAttr K CP "is_watched")
    : FnOk P w K mg base CX0 2 f fd ["self"] (spO K (RStrB CP)) := by
  refine F.ok sc_Bench___str__ (fun vs H Q E h => lenO h (by rintro a ds T A X ⟨_, _, _, _, _, _, _, rfl, _⟩; rfl)) (fun cdv Ar outer s H vs Q E hr h => ?_)
  refine ⟨_, (pss_one (ps_ret (kjoined (PJ.cons (pe_fmt (kfld K (pv 0))) (PJ.cons pe_str (PJ.cons (pe_fmt (pe_callB (klen K) (by rfl) T.len (by decide +kernel) (pa_cons (kfld K (pv 0)) pa_nil))) (PJ.cons pe_str (PJ.cons (pe_fmt (pe_callB (klen K) (by rfl) T.len (by decide +kernel) (pa_cons (pe_ix (kixA K) (kfld K (pv 0)) (pe_un un_neg pe_int) (fun _ _ => rfl)) pa_nil))) (PJ.cons pe_str (PJ.cons (pe_fmt (pe_callB (klen K) (by rfl) T.len (by decide +kernel) (pa_cons (kfld K (pv 0)) pa_nil))) (PJ.cons pe_str PJ.nil))))))))))), ?_⟩
  refine goO h (by repeat' (first | (with_reducible (first | exact re_fld | apply rs_fld | exact re_prop | apply rsx_retM | apply rsx_dropM | apply rsx_asgM | apply re_meth | apply re_callO | exact re_methD | exact re_lenB | exact re_strB | apply rg_lst | apply re_tupZip | apply re_lstRg3 | exact rsx_raise0 | apply rsx_seq | apply rsx_if | apply rsx_for | apply rsx_asgX | apply rsx_dropX | apply rsx_retX | apply rsx_raise | apply rsx_of | apply rs_tryOnly | intro _ | apply rs_seq | exact rs_never | exact rs_next | exact rs_retN | apply rs_asg | apply rs_par | apply rs_par3 | apply rs_drop | apply rs_ret | apply rs_if | apply rs_for | apply rs_while | exact re_var | exact re_int | exact re_str | exact re_bl | exact re_non | apply re_op | apply re_un | apply re_isiT | apply re_isiI | apply re_isiB | apply re_srtSc | apply re_srtSet | apply re_cb | apply re_lst | apply re_tup | apply re_tupF | apply re_slU | apply re_slT | apply re_slL | exact ro_none | apply ro_some | apply re_andV | apply re_orV | apply re_notV | apply re_if | apply re_chain | apply rt_test | apply rt_b | apply rt_tru | exact rt_yes | apply rt_and | apply rt_or | apply rt_not | exact ra_nil | apply ra_cons | apply ri_rng1 | apply ri_rng2 | apply ri_tup | apply ri_lst | apply ri_zip | apply ri_enum | apply ri_enT | apply ri_U | apply ri_zm | apply ri_revA | exact rg_name | exact rgs_nil | apply rgs_cons | apply rg_tup | apply re_lc | apply re_listRg | apply re_tupRg | apply rrg1 | apply rrg2 | apply re_index | apply re_revT | apply re_revL | apply re_callK | apply re_callP | exact r2_I0 | exact r2_B0 | exact r2_Ic | exact r2_eq | exact r2_ne | exact r2_isN | exact r2_notN | exact r2_ixA | exact r2_ixT | exact r2_ixL | exact r2_catT | exact r2_catL | exact r2_catS | exact r2_notB | exact r2_repT | exact r2_in | exact r2_eqD | exact r2_neD | exact r1_neg | exact rc_len' | exact rc_tupF | exact rc_listof | exact rc_sorted | exact rc_sum | exact rc_max | exact rc_min | exact rc_all | exact rc_repr | exact rc_abs | exact rc_max2 | exact rc_min2 | exact rc_int1 | exact rc_sortT | apply ri_rng3 | exact re_dnew | exact re_dis1 | exact rc_strI | apply ri_rng3 | apply ra_snoc | apply ra_both | apply re_join | apply re_fstr | apply RJs.cons | exact RJs.nil | apply re_fmt | apply re_tupZip | apply re_lstRg3)) | decide)) (fun x ds Tb A X hR => ?_)
  obtain ⟨m, tls, dn, sts, l, aim, wt, ed, ht, hl, b1, b2, b3, b4, a⟩ := hR
  subst ed
  have e1 := itx_len (i := m) (by omega)
  have e2 := itx_len (i := ((tls.length : Nat) : Int)) (by omega)
  have e3 := itx_len (i := ((l.length : Nat) : Int)) (by omega)
  have e4 := itx_len (i := ((dn.length : Nat) : Int)) (by omega)
  unfold itx at e1 e2 e3 e4
  have z0 : Str.empty.length = 0 := rfl
  have z1 : (" places, " : Str).length = 9 := by decide +kernel
  have z2 : (" tools, " : Str).length = 8 := by decide +kernel
  have z3 : (" possible, " : Str).length = 11 := by decide +kernel
  have z4 : (" edits" : Str).length = 6 := by decide +kernel
  refine ⟨x, CP, _, _, _, rfl, rfl, ht, cB, n_m, rfl, .inr ⟨_, rfl, log_small (by omega), _, rfl, fitsT (by simp only [len_app]; omega), _, rfl, fitsT (by simp only [len_app]; omega), ?_⟩⟩
  refine ⟨x, CP, _, _, _, rfl, rfl, ht, cB, n_tools, rfl, _, _, rfl, rfl, .inr ⟨_, rfl, log_small (by omega), _, rfl, fitsT (by simp only [len_app]; omega), _, rfl, fitsT (by simp only [len_app]; omega), ?_⟩⟩
  refine ⟨x, CP, _, _, _, rfl, rfl, ht, cB, n_states, rfl, 1, rfl, _, _, _, rfl, rfl, hl, _, _, rfl, rfl, .inr ⟨_, rfl, log_small (by omega), _, rfl, fitsT (by simp only [len_app]; omega), _, rfl, fitsT (by simp only [len_app]; omega), ?_⟩⟩
  exact ⟨x, CP, _, _, _, rfl, rfl, ht, cB, n_done, rfl, _, _, rfl, rfl, .inr ⟨_, rfl, log_small (by omega), _, rfl, fitsT (by simp only [len_app]; omega), _, rfl, fitsT (by simp only [len_app]; omega), _, rfl, a⟩⟩
abbrev s__law_deck : Stmt := topS 38
abbrev N__law_deck : List Str := ["_law_script", "_law_cell"]
theorem sc__law_deck : FnScope N__law_deck ["_law_script"] (defScope s__law_deck) :=
  ⟨rfl, rfl, rfl, by decide +kernel, rfl, by decide +kernel, by decide +kernel⟩
theorem ok_deck {f : Addr} {fd : FuncData} (F : Fun K "_law_deck" "_law_deck" s__law_deck f fd) (T : Bi mg) :
    FnOk P w K mg base CX0 1 f fd ["_law_script"] (spDeck K) := by
  refine F.ok sc__law_deck (fun vs H Q E h => ?_) (fun cdv A outer s H vs Q E hr h => ?_)
  · obtain ⟨a, ns, e, _⟩ := h
    subst e
    rfl
  obtain ⟨s0, ns, e, hS, hl, q⟩ := h
  subst e
  refine ⟨_, (pss_one (ps_ret (pe_lst (pa_cons (pe_lc (own := [("_law_cell", 1)]) rfl sc__law_deck.nd (kilist K (pe_slice (kslL K) (pv 0) po_none (po_some pe_int))) (blkOk_by (own := [("_law_cell", 1)]) (N := N__law_deck) (sc := defScope s__law_deck) (by decide +kernel))
    (fun _ _ _ _ _ => (pg_name (i := 1) sc__law_deck.nd rfl (.inl rfl))) (fun _ _ _ _ _ => pts_nil)
    (fun _ _ _ _ _ => (pe_callB call_abs (by rfl) T.abs (by decide +kernel) (pa_cons (pv 1) pa_nil)))) (pa_cons pe_int pa_nil))))), ?_⟩
  refine ⟨.ref s0, rfl, 63, rfl, s0, ns.map V.int, rfl, hS, fun p np => ⟨p, rfl, ⟨_, SqL.of upd_same⟩, fun D nD => ?_⟩⟩
  rw [show cutV (ns.map V.int) none (some 63) = (ns.map V.int).take 63 from cut_to _ 63, List.take_of_length_le (by rw [List.length_map]; exact hl)] at nD ⊢
  have sm1 : Same H (upd H p (.lst (ns.map V.int))) := same_upd np
  have hp1 : upd H p (.lst (ns.map V.int)) p = some (.lst (ns.map V.int)) := upd_same
  revert sm1 hp1 nD
  generalize upd H p (.lst (ns.map V.int)) = H1
  intro nD sm1 hp1
  have nDH : H D = none := sm1.free nD
  refine lc_list (K := K) (a := p) (xs := ns.map V.int) (fun i H' => Same H1 H' ∧ H' D = some (.lst (((ns.take i).map fun n => if n < 0 then -n else n).map V.int))) ?_ ?_ ?_ ?_
  · exact ⟨same_upd nD, upd_same⟩
  · intro i H' _ h
    exact SqL.of (h.1 _ _ hp1)
  · intro i x H' hx h
    obtain ⟨hs, hD⟩ := h
    rw [List.getElem?_map] at hx
    cases hn : ns[i]? with
    | none =>
      rw [hn] at hx
      cases hx
    | some n =>
      rw [hn] at hx
      cases hx
      refine ⟨rfl, .int n, rfl, n, rfl, _, hD, ?_, ?_, ?_⟩
      · rw [List.length_map, List.length_map, List.length_take]
        exact Nat.lt_of_le_of_lt (Nat.min_le_right _ _) (small1000 (by omega))
      · intro b o e
        have nb : b ≠ D := ne_of_none e nD
        rw [upd_ne nb]
        exact hs b o e
      · rw [upd_same, take_map_succ _ hn, List.map_append]
        rfl
  · intro H' h
    obtain ⟨hs, hD⟩ := h
    rw [List.length_map, List.take_of_length_le (Nat.le_refl _)] at hD
    refine ⟨by show 2 ≤ sizeLine; decide, fun a na => ?_⟩
    have nDa : D ≠ a := ne_of_none hD na
    refine q a D _ ⟨ns.map fun n => if n < 0 then -n else n, 0, nDa.symm, upd_same, ?_, ?_, by omega, by omega⟩ ?_ ?_ nDH
    · rw [upd_ne nDa]
      exact hD
    · intro n hn
      rw [List.mem_map] at hn
      obtain ⟨z, _, rfl⟩ := hn
      exact abs_nonneg z
    · exact (sm1.trans hs).trans (same_upd na)
    · exact (sm1.trans hs).free na
theorem ok__law_deck {f : Addr} {fd : FuncData} (F : Fun K "_law_deck" "_law_deck" s__law_deck f fd) (T : Bi mg) :
    FnOk P w K mg base CX0 1 f fd ["_law_script"] (spDk K (ΔO K)) := (ok_deck F T).imp conv_deckO
abbrev s__law_draw : Stmt := topS 39
abbrev N__law_draw : List Str := ["_law_deck_here", "_law_many", "_law_cell", "_law_place"]
theorem sc__law_draw : FnScope N__law_draw ["_law_deck_here", "_law_many"] (defScope s__law_draw) :=
  ⟨rfl, rfl, rfl, by decide +kernel, rfl, by decide +kernel, by decide +kernel⟩
theorem ok_draw {f : Addr} {fd : FuncData} (F : Fun K "_law_draw" "_law_draw" s__law_draw f fd) (T : Bi mg) :
    FnOk P w K mg base CX0 1 f fd ["_law_deck_here", "_law_many"] spDraw := by
  refine F.ok sc__law_draw (fun vs H Q E h => ?_) (fun cdv A outer s H vs Q E hr h => ?_)
  · obtain ⟨a, c, k, lim, e, _⟩ := h
    subst e
    rfl
  obtain ⟨a, c, k, lim, e, dk, hk, hl1, hl2, q⟩ := h
  subst e
  obtain ⟨ns, j, hac, ha, hc, hn, hj0, hjk⟩ := dk
  refine ⟨_, (pss_cons (ps_asg (pe_op op_add (pe_ix (kixL K) (pv 0) pe_int (fun _ _ => rfl)) pe_int) (pg_sub (pv 0) pe_int set_list))
  (pss_cons (ps_set (i := 2) sc__law_draw.nd rfl (.inl rfl) pe_int)
  (pss_cons (ps_set (i := 3) sc__law_draw.nd rfl (.inl rfl) (pe_un un_neg pe_int))
  (C8.pss_cut (ps_if (pt_cmpR op_gt (pe_callB (klen K) (by rfl) T.len (by decide +kernel) (pa_cons (pe_ix (kixL K) (pv 0) pe_int (fun _ _ => rfl)) pa_nil)) pe_int (nomark _))
  (pss_cons (ps_set (i := 3) sc__law_draw.nd rfl (.inl rfl) (pe_op op_mod (pe_ix (kixL K) (pv 0) pe_int (fun _ _ => rfl)) (pe_callB (klen K) (by rfl) T.len (by decide +kernel) (pa_cons (pe_ix (kixL K) (pv 0) pe_int (fun _ _ => rfl)) pa_nil))))
  (pss_one (ps_set (i := 2) sc__law_draw.nd rfl (.inl rfl) (pe_ix (kixL K) (pe_ix (kixL K) (pv 0) pe_int (fun _ _ => rfl)) (pv 3) (fun _ _ => rfl)))))
  pss_nil)
  (pss_cons (ps_if (pt_cmpR op_ge (pv 2) (pe_op op_pow pe_int pe_int) (nomark _))
  (pss_cons (ps_asg (pe_op op_fdivW (pv 2) (pv 1)) (pg_sub (pe_ix (kixL K) (pv 0) pe_int (fun _ _ => rfl)) (pv 3) set_list))
  (pss_one (ps_ret (pe_op op_mod (pv 2) (pv 1)))))
  pss_nil)
  (pss_one (ps_ret (pe_op op_mod (pe_op op_mod (pe_op op_pow (pe_op op_add (pe_op op_add (pe_op op_mod (pv 2) pe_int) (pe_op op_mul pe_int (pe_ix (kixL K) (pv 0) pe_int (fun _ _ => rfl)))) pe_int) pe_int) pe_int) (pv 1))))))))), ?_⟩
  -- the count
  refine ⟨.ref a, rfl, a, _, 1, .int j, rfl, rfl, SqL.of ha, rfl, j, 1, rfl, rfl, .ref a, rfl, a, _, 1, 1, rfl, rfl, ha, rfl, ?_⟩
  rw [set0]
  have ha1 : upd H a (.lst [.ref c, .int (j + 1)]) a = some (.lst [.ref c, .int (j + 1)]) := upd_same
  have hc1 : upd H a (.lst [.ref c, .int (j + 1)]) c = some (.lst (ns.map V.int)) := by
    rw [upd_ne hac.symm]
    exact hc
  have kp1 : Keep a c H (upd H a (.lst [.ref c, .int (j + 1)])) := by
    intro b o h1 h2 h3
    rw [upd_ne h1]
    exact h3
  revert ha1 hc1 kp1
  generalize upd H a (.lst [.ref c, .int (j + 1)]) = H1
  intro ha1 hc1 kp1
  -- cell, index = 0, -1
  refine ⟨1, rfl, ?_⟩
  -- if there are cells
  refine ⟨fun σ' H' => ∃ (cell idx : Int), σ' = [some (.ref a), some (.int lim), some (.int cell), some (.int idx)] ∧ H' = H1 ∧ 0 ≤ cell ∧
    (10 ^ 18 ≤ cell → 0 ≤ idx ∧ idx < ns.length), ?_, ?_⟩
  · refine ⟨.ref a, rfl, a, _, 0, .ref c, rfl, rfl, SqL.of ha1, rfl, c, _, rfl, .inl (SqL.of hc1), _, 0, rfl, rfl, _, rfl, ?_⟩
    refine ite2 (fun hp => ?_) (fun hp => ?_)
    · have hp : 0 < (((ns.map V.int).length : Nat) : Int) := of_decide_eq_true hp
      have hpn : 0 < (ns.length : Int) := by
        rw [List.length_map] at hp
        exact hp
      have i0 : 0 ≤ (j + 1) % (ns.length : Int) := Int.emod_nonneg _ (by omega)
      have i1 : (j + 1) % (ns.length : Int) < ns.length := Int.emod_lt_of_pos _ hpn
      refine ⟨.ref a, rfl, a, _, 1, .int (j + 1), rfl, rfl, SqL.of ha1, rfl, .ref a, rfl, a, _, 0, .ref c, rfl, rfl, SqL.of ha1, rfl, c, _, rfl, .inl (SqL.of hc1), j + 1, _, rfl, rfl, hp, ?_⟩
      have hx : ((j + 1) % (ns.length : Int)).toNat < ns.length := by omega
      have hg : (ns.map V.int)[((j + 1) % (ns.length : Int)).toNat]? = some (.int ns[((j + 1) % (ns.length : Int)).toNat]) := by
        rw [List.getElem?_map, List.getElem?_eq_getElem hx]
        rfl
      refine ⟨.ref a, rfl, a, _, 0, .ref c, rfl, rfl, SqL.of ha1, rfl, .int ((j + 1) % (ns.length : Int)), by rw [List.length_map]; rfl, c, _, _, _, rfl, rfl, SqL.of hc1, atI_pos i0 hg, ?_⟩
      exact ⟨_, _, by rw [List.length_map]; rfl, rfl, hn _ (List.getElem_mem hx), fun _ => ⟨i0, i1⟩⟩
    · exact ⟨0, -1, rfl, rfl, by omega, fun z => absurd z (by decide)⟩
  · intro σ' H' hm
    obtain ⟨cell, idx, e1, e2, hc0, hci⟩ := hm
    subst e1
    subst e2
    refine ⟨.int cell, rfl, 10, 18, rfl, rfl, ⟨by decide, by decide, by decide⟩, cell, _, rfl, rfl, _, rfl, ?_⟩
    refine ite2 (fun hp => ?_) (fun hp => ?_)
    · have hp : (10 : Int) ^ 18 ≤ cell := of_decide_eq_true hp
      obtain ⟨x0, x1⟩ := hci hp
      have hd0 : 0 ≤ cell / lim := Int.ediv_nonneg hc0 (by omega)
      refine ⟨.int cell, rfl, .int lim, rfl, cell, lim, rfl, rfl, wide_div (b := 50) (by omega) (by omega) (by decide) (by decide), .ref a, rfl, a, _, 0, .ref c, rfl, rfl, SqL.of ha1, rfl, .int idx, rfl, c, _, idx, idx.toNat, rfl, rfl, hc1, ixN_pos x0 (by rw [List.length_map]; exact x1), ?_⟩
      refine ⟨.int cell, rfl, .int lim, rfl, cell, lim, rfl, rfl, (by omega : 0 < lim), ?_⟩
      refine q _ _ (Int.emod_nonneg _ (by omega)) (Int.emod_lt_of_pos _ (by omega)) ?_ ?_
      · refine ⟨ns.set idx.toNat (cell / lim), j + 1, hac, ?_, ?_, mem_set_nonneg hn _ hd0, by omega, by omega⟩
        · rw [upd_ne hac]
          exact ha1
        · rw [upd_same, List.map_set]
      · intro b o h1 h2 h3
        rw [upd_ne h2]
        exact kp1 b o h1 h2 h3
    · have m0 : 0 ≤ cell % 2147483587 := Int.emod_nonneg _ (by decide)
      have m1 : cell % 2147483587 < 2147483587 := Int.emod_lt_of_pos _ (by decide)
      refine ⟨.int cell, rfl, cell, _, rfl, rfl, (by decide : (0 : Int) < 2147483587), .ref a, rfl, a, _, 1, .int (j + 1), rfl, rfl, SqL.of ha1, rfl, 7919, j + 1, rfl, rfl, .inl ⟨by decide, by decide⟩,
        _, _, rfl, rfl, _, 1, rfl, rfl, _, 5, rfl, rfl, ⟨by decide, by decide, ?_⟩, _, _, rfl, rfl, (by decide : (0 : Int) < 2147483647), .int lim, rfl, _, lim, rfl, rfl, (by omega : 0 < lim), ?_⟩
      · have : (2 : Nat) ^ 64 = 18446744073709551616 := by decide
        omega
      · exact q _ _ (Int.emod_nonneg _ (by omega)) (Int.emod_lt_of_pos _ (by omega)) ⟨ns, j + 1, hac, ha1, hc1, hn, by omega, by omega⟩ kp1
theorem ok__law_draw {f : Addr} {fd : FuncData} (F : Fun K "_law_draw" "_law_draw" s__law_draw f fd) (T : Bi mg) :
    FnOk P w K mg base CX0 1 f fd ["_law_deck_here", "_law_many"] (spK K (ΔO K) RDraw) := (ok_draw F T).imp conv_drawO
abbrev s__law_sorted_picks : Stmt := topS 40
abbrev N__law_sorted_picks : List Str := ["_law_deck_here", "_law_m", "_law_many", "_law_left", "_law_found", "_law_k"]
theorem sc__law_sorted_picks : FnScope N__law_sorted_picks ["_law_deck_here", "_law_m", "_law_many"] (defScope s__law_sorted_picks) :=
  ⟨rfl, rfl, rfl, by decide +kernel, rfl, by decide +kernel, by decide +kernel⟩
theorem ok__law_sorted_picks {f : Addr} {fd : FuncData} (F : Fun K "_law_sorted_picks" "_law_sorted_picks" s__law_sorted_picks f fd) (T : Bi mg)
    (h__law_draw : Has P w K mg base 1 "_law_draw" ["_law_deck_here", "_law_many"] (spK K (ΔO K) RDraw))
    : FnOk P w K mg base CX0 2 f fd ["_law_deck_here", "_law_m", "_law_many"] (spK K (ΔO K) RSub) := by
  refine F.ok sc__law_sorted_picks (fun vs H Q E h => lenK h (by rintro ds k A ⟨_, _, rfl, _⟩; rfl)) (fun cdv Ar outer s H vs Q E hr h => ?_)
  refine ⟨_, (pss_cons (ps_par (i := 3) (j := 4) (by rfl) sc__law_sorted_picks.nd rfl rfl (by decide) rfl rfl (pa_cons (pe_listRg (by rfl) (by rfl) T.list (prg_1 (by rfl) T.range (pv 1))) (pa_cons (pe_lst pa_nil) pa_nil)) (by rfl))
  (pss_cons (ps_for PassesOwn.never rfl (pi_range1 (by rfl) T.range (pa_cons (pv 2) pa_nil)) (pg_name (i := 5) sc__law_sorted_picks.nd rfl (.inl rfl))
  (pss_one (ps_expr (kbm K PySem.F.plainAttrs_list PySem.F.slot_list_append PySem.F.type_list_append mt_append (pv 4) (pa_cons (kbm K PySem.F.plainAttrs_list PySem.F.slot_list_pop PySem.F.type_list_pop mt_popAt (pv 3) (pa_cons (pe_callH h__law_draw hr (by decide) (by rfl) (pa_cons (pv 0) (pa_cons (pe_callB (klen K) (by rfl) T.len (by decide +kernel) (pa_cons (pv 3) pa_nil)) pa_nil))) pa_nil)) pa_nil)))))
  (pss_one (ps_ret (pe_callB (ksort K) (by rfl) T.sorted (by decide +kernel) (pa_cons (pv 4) pa_nil)))))), ?_⟩
  refine goK h (by repeat' (first | (with_reducible (first | apply rs_parO 3 4 | apply rs_popApp 4 3 | exact re_sortO 4 | apply rs_own 3 | apply rs_app' 3 | exact re_tupFO 3 | exact re_lenO 3 | exact re_ixAO 3 | apply re_ixOg 3 | apply rs_own 4 | apply rs_app' 4 | exact re_tupFO 4 | exact re_lenO 4 | exact re_ixAO 4 | apply re_ixOg 4 | apply rs_seq | exact rs_never | exact rs_next | exact rs_retN | apply rs_asg | apply rs_par | apply rs_par3 | apply rs_drop | apply rs_ret | apply rs_if | apply rs_for | apply rs_while | exact re_var | exact re_int | exact re_str | exact re_bl | exact re_non | apply re_op | apply re_un | apply re_isiT | apply re_isiI | apply re_isiB | apply re_srtSc | apply re_srtSet | apply re_cb | apply re_lst | apply re_tup | apply re_tupF | apply re_slU | apply re_slT | apply re_slL | exact ro_none | apply ro_some | apply re_andV | apply re_orV | apply re_notV | apply re_if | apply re_chain | apply rt_test | apply rt_b | apply rt_tru | exact rt_yes | apply rt_and | apply rt_or | apply rt_not | exact ra_nil | apply ra_cons | apply ri_rng1 | apply ri_rng2 | apply ri_tup | apply ri_lst | apply ri_zip | apply ri_enum | apply ri_enT | apply ri_U | apply ri_zm | apply ri_revA | exact rg_name | exact rgs_nil | apply rgs_cons | apply rg_tup | apply re_lc | apply re_listRg | apply re_tupRg | apply rrg1 | apply rrg2 | apply re_index | apply re_revT | apply re_revL | apply re_callK | apply re_callP | exact r2_I0 | exact r2_B0 | exact r2_Ic | exact r2_eq | exact r2_ne | exact r2_isN | exact r2_notN | exact r2_ixA | exact r2_ixT | exact r2_ixL | exact r2_catT | exact r2_catL | exact r2_catS | exact r2_notB | exact r2_repT | exact r2_in | exact r2_eqD | exact r2_neD | exact r1_neg | exact rc_len' | exact rc_tupF | exact rc_listof | exact rc_sorted | exact rc_sum | exact rc_max | exact rc_min | exact rc_all | exact rc_repr | exact rc_abs | exact rc_max2 | exact rc_min2 | exact rc_int1 | exact rc_sortT | apply ri_rng3 | exact re_dnew | exact re_dis1 | exact rc_strI | apply ri_rng3 | apply ra_snoc | apply ra_both | apply re_join | apply re_fstr | apply RJs.cons | exact RJs.nil | apply re_fmt | apply re_tupZip | apply re_lstRg3)) | decide)) (fun ds k A hR => ?_)
  obtain ⟨m, many, e, hk, hm0, hm1, hm2, a⟩ := hR
  subst e
  refine ⟨_, rfl, m, rfl, RgOk.of_le (by decide) (by omega) (by decide) (by omega), ?_⟩
  rw [show rgD 0 m = upto m by unfold rgD upto; rw [Int.sub_zero]; apply List.map_congr_left; intro i _; exact Int.zero_add _]
  refine ⟨_, rfl, many, rfl, by omega, by omega, fun i s => ∃ (left acc : List Int) (L1 L2 : List PyData) (y : Sl) (kk : Kx), s = ⟨[.deck, .dat (.int m), .dat (.int many), .own L1, .own L2, y], some kk⟩ ∧ L1 = left.map .int ∧ L2 = acc.map .int ∧ kk = ⟨k.n + i, k.T⟩ ∧ (acc ++ left).Perm (upto m) ∧ acc.length = i, ?_, ?_, ?_⟩
  · exact ⟨upto m, [], _, _, _, _, rfl, rfl, rfl, by rw [show k.n + ((0 : Nat) : Int) = k.n from Int.add_zero _], List.Perm.refl _, rfl⟩
  · intro i x s hx hs
    obtain ⟨left, acc, L1, L2, y, kk, e, e1, e2, ek, pm, hacc⟩ := hs
    subst e e1 e2 ek
    obtain ⟨ex, hi⟩ := range_at hx
    subst ex
    have hlen : left.length + i = m.toNat := by
      have e := pm.length_eq
      rw [List.length_append, upto_len, hacc] at e
      omega
    refine ⟨_, _, rfl, rfl, by decide, by rw [List.length_map, hacc]; omega, by rw [List.length_map]; omega, rfl, _, rfl, _, rfl, _, rfl, by show k.n + (i : Int) ≤ 1000000; omega, by rw [List.length_map]; omega, by rw [List.length_map]; omega, fun v v0 v1 => ?_⟩
    rw [List.length_map] at v1
    have hv : v.toNat < left.length := by omega
    refine ⟨rfl, v, .int left[v.toNat], rfl, v0, by rw [List.getElem?_map, List.getElem?_eq_getElem hv]; rfl, left.eraseIdx v.toNat, acc ++ [left[v.toNat]], _, _, _, _, rfl, erase_map _ _ _, by rw [List.map_append]; rfl, ?_, ?_, ?_⟩
    · show Kx.mk (k.n + (i : Int) + 1) k.T = Kx.mk (k.n + ((i + 1 : Nat) : Int)) k.T
      congr 1
      omega
    · have p1 : (left[v.toNat] :: left.eraseIdx v.toNat).Perm left := erase_perm left v.toNat hv
      have p2 : (acc ++ [left[v.toNat]] ++ left.eraseIdx v.toNat).Perm (acc ++ left) := by
        rw [List.append_assoc]
        exact List.Perm.append_left acc p1
      exact p2.trans pm
    · rw [List.length_append, hacc]
      rfl
  · intro s hs
    obtain ⟨left, acc, L1, L2, y, kk, e, e1, e2, ek, pm, hacc⟩ := hs
    rw [List.length_map, List.length_range] at hacc ek
    subst e e1 e2 ek
    refine ⟨acc, rfl, fun ns' pn srt => ⟨_, k.up many, rfl, ⟨by show k.n + ((_ : Nat) : Int) ≤ k.n + many; omega, rfl⟩, ?_⟩⟩
    have nd : (acc ++ left).Nodup := pm.nodup_iff.mpr (upto_nodup m)
    have nda : ns'.Nodup := pn.nodup_iff.mpr (List.nodup_append.mp nd).1
    refine a ns' (lt_of_le_nodup srt nda) ?_ ?_
    · rw [pn.length_eq, hacc]
      omega
    · intro x hx
      have h1 : x ∈ acc := pn.mem_iff.mp hx
      exact upto_mem.mp (pm.mem_iff.mp (List.mem_append_left _ h1))
abbrev s__law_tool : Stmt := topS 41
abbrev N__law_tool : List Str := ["_law_deck_here", "_law_m", "_law_many", "_law_way", "_law_steps", "_law_step", "_law_begins", "_law_targets", "_law_turn", "_law_shift", "_law_one", "_law_d"]
theorem sc__law_tool : FnScope N__law_tool ["_law_deck_here", "_law_m"] (defScope s__law_tool) :=
  ⟨rfl, rfl, rfl, by decide +kernel, rfl, by decide +kernel, by decide +kernel⟩
theorem ok__law_tool {f : Addr} {fd : FuncData} (F : Fun K "_law_tool" "_law_tool" s__law_tool f fd) (T : Bi mg)
    (h__law_draw : Has P w K mg base 1 "_law_draw" ["_law_deck_here", "_law_many"] (spK K (ΔO K) RDraw))
    (h__law_sorted_picks : Has P w K mg base 2 "_law_sorted_picks" ["_law_deck_here", "_law_m", "_law_many"] (spK K (ΔO K) RSub))
    : FnOk P w K mg base CX0 3 f fd ["_law_deck_here", "_law_m"] (spK K (ΔO K) RToolE) := by
  refine F.ok sc__law_tool (fun vs H Q E h => lenK h (by rintro ds k A ⟨_, rfl, _⟩; rfl)) (fun cdv Ar outer s H vs Q E hr h => ?_)
  refine ⟨_, (pss_cons (ps_set (i := 2) sc__law_tool.nd rfl (.inl rfl) (pe_op op_add pe_int (pe_callH h__law_draw hr (by decide) (by rfl) (pa_cons (pv 0) (pa_cons (pe_callB (call_min2 rfl) (by rfl) T.min (by decide +kernel) (pa_cons (pv 1) (pa_cons pe_int pa_nil))) pa_nil)))))
  (pss_cons (ps_set (i := 3) sc__law_tool.nd rfl (.inl rfl) (pe_callH h__law_draw hr (by decide) (by rfl) (pa_cons (pv 0) (pa_cons pe_int pa_nil))))
  (pss_cons (ps_if (pt_cmpR op_eq (pv 3) pe_int (nomark _))
  (pss_one (ps_set (i := 2) sc__law_tool.nd rfl (.inl rfl) (pe_ix (kixA K) (pe_lst (pa_cons pe_int (pa_cons (pe_callB (call_min2 rfl) (by rfl) T.min (by decide +kernel) (pa_cons (pv 1) (pa_cons pe_int pa_nil))) pa_nil))) (pe_callH h__law_draw hr (by decide) (by rfl) (pa_cons (pv 0) (pa_cons pe_int pa_nil))) (fun _ _ => rfl))))
  pss_nil)
  (pss_cons (ps_if (pt_cmpR op_eq (pv 3) pe_int (nomark _))
  (pss_cons (ps_setLc (i := 4) (own := [("_law_d", 11)]) rfl sc__law_tool.nd rfl rfl (sw_true rfl rfl rfl (by decide +kernel)) (pi_range2 (by rfl) T.range (pa_cons pe_int (pa_cons (pe_op op_add (pv 1) pe_int) pa_nil))) (blkOk_by (own := [("_law_d", 11)]) (N := N__law_tool) (sc := defScope s__law_tool) (by decide +kernel))
    (fun _ _ _ _ _ => (pg_name (i := 11) sc__law_tool.nd rfl (.inl rfl))) (fun _ _ _ _ _ => (pts_one (PW.pt (pw_and (pt_cmpR op_eq (pe_op op_mod (pv 1) (pv 11)) pe_int (nomark _)) (pw_and1 (pt_cmpR op_lt (pe_op op_fdiv (pv 1) (pv 11)) pe_int (nomark _)))))))
    (fun _ _ _ _ _ => (pv 11)))
  (pss_cons (ps_set (i := 5) sc__law_tool.nd rfl (.inl rfl) (pe_ix (kixA K) (pv 4) (pe_callH h__law_draw hr (by decide) (by rfl) (pa_cons (pv 0) (pa_cons (pe_callB (klen K) (by rfl) T.len (by decide +kernel) (pa_cons (pv 4) pa_nil)) pa_nil))) (fun _ _ => rfl)))
  (pss_one (ps_par (i := 6) (j := 7) (by rfl) sc__law_tool.nd rfl rfl (by decide) rfl rfl (pa_cons (klstrg3 rfl (by rfl) T.list (by rfl) T.range (pa_cons pe_int (pa_cons (pv 1) (pa_cons (pv 5) pa_nil)))) (pa_cons (klstrg3 rfl (by rfl) T.list (by rfl) T.range (pa_cons pe_int (pa_cons (pv 1) (pa_cons (pv 5) pa_nil)))) pa_nil)) (by rfl)))))
  (pss_one (ps_par (i := 6) (j := 7) (by rfl) sc__law_tool.nd rfl rfl (by decide) rfl rfl (pa_cons (pe_callH h__law_sorted_picks hr (by decide) (by rfl) (pa_cons (pv 0) (pa_cons (pv 1) (pa_cons (pv 2) pa_nil)))) (pa_cons (pe_callH h__law_sorted_picks hr (by decide) (by rfl) (pa_cons (pv 0) (pa_cons (pv 1) (pa_cons (pv 2) pa_nil)))) pa_nil)) (by rfl))))
  (pss_cons (ps_set (i := 8) sc__law_tool.nd rfl (.inl rfl) (pe_callH h__law_draw hr (by decide) (by rfl) (pa_cons (pv 0) (pa_cons (pe_callB (klen K) (by rfl) T.len (by decide +kernel) (pa_cons (pv 7) pa_nil)) pa_nil))))
  (pss_cons (ps_set (i := 9) sc__law_tool.nd rfl (.inr rfl) (pe_callH h__law_draw hr (by decide) (by rfl) (pa_cons (pv 0) (pa_cons (pv 1) pa_nil))))
  (pss_cons (ps_setLc (i := 7) (own := [("_law_one", 10)]) rfl sc__law_tool.nd rfl rfl (sw_true rfl rfl rfl (by decide +kernel)) (kilist K (pe_op op_cat (pe_slice (kslU K) (pv 7) (po_some (pv 8)) po_none) (pe_slice (kslU K) (pv 7) po_none (po_some (pv 8))))) (blkOk_by (own := [("_law_one", 10)]) (N := N__law_tool) (sc := defScope s__law_tool) (by decide +kernel))
    (fun _ _ _ _ _ => (pg_name (i := 10) sc__law_tool.nd rfl (.inl rfl))) (fun _ _ _ _ _ => pts_nil)
    (fun _ _ _ _ _ => (pe_op op_mod (pe_op op_add (pv 10) (pv 9)) (pv 1))))
  (pss_cons (ps_if (pt_cmpR op_eq (pe_callB (klen K) (by rfl) T.len (by decide +kernel) (pa_cons (pv 6) pa_nil)) pe_int (nomark _))
  (pss_one (ps_set (i := 6) sc__law_tool.nd rfl (.inl rfl) (pe_lst (pa_cons pe_int pa_nil))))
  pss_nil)
  (pss_one (ps_ret (ktupzip K rfl (by rfl) T.tuple (by rfl) T.zip (pa_cons (pv 6) (pa_cons (pv 7) pa_nil))))))))))))), ?_⟩
  refine goK h (by repeat' (first | (with_reducible (first | apply rs_cutA | apply rs_cutP | apply rs_seq | exact rs_never | exact rs_next | exact rs_retN | apply rs_asg | apply rs_par | apply rs_par3 | apply rs_drop | apply rs_ret | apply rs_if | apply rs_for | apply rs_while | exact re_var | exact re_int | exact re_str | exact re_bl | exact re_non | apply re_op | apply re_un | apply re_isiT | apply re_isiI | apply re_isiB | apply re_srtSc | apply re_srtSet | apply re_cb | apply re_lst | apply re_tup | apply re_tupF | apply re_slU | apply re_slT | apply re_slL | exact ro_none | apply ro_some | apply re_andV | apply re_orV | apply re_notV | apply re_if | apply re_chain | apply rt_test | apply rt_b | apply rt_tru | exact rt_yes | apply rt_and | apply rt_or | apply rt_not | exact ra_nil | apply ra_cons | apply ri_rng1 | apply ri_rng2 | apply ri_tup | apply ri_lst | apply ri_zip | apply ri_enum | apply ri_enT | apply ri_U | apply ri_zm | apply ri_revA | exact rg_name | exact rgs_nil | apply rgs_cons | apply rg_tup | apply re_lc | apply re_listRg | apply re_tupRg | apply rrg1 | apply rrg2 | apply re_index | apply re_revT | apply re_revL | apply re_callK | apply re_callP | exact r2_I0 | exact r2_B0 | exact r2_Ic | exact r2_eq | exact r2_ne | exact r2_isN | exact r2_notN | exact r2_ixA | exact r2_ixT | exact r2_ixL | exact r2_catT | exact r2_catL | exact r2_catS | exact r2_notB | exact r2_repT | exact r2_in | exact r2_eqD | exact r2_neD | exact r1_neg | exact rc_len' | exact rc_tupF | exact rc_listof | exact rc_sorted | exact rc_sum | exact rc_max | exact rc_min | exact rc_all | exact rc_repr | exact rc_abs | exact rc_max2 | exact rc_min2 | exact rc_int1 | exact rc_sortT | apply ri_rng3 | exact re_dnew | exact re_dis1 | exact rc_strI | apply ri_rng3 | apply ra_snoc | apply ra_both | apply re_join | apply re_fstr | apply RJs.cons | exact RJs.nil | apply re_fmt | apply re_tupZip | apply re_lstRg3)) | decide)) (fun ds k A hR => ?_)
  obtain ⟨m, e, hk, hm1, hm2, a⟩ := hR
  subst e
  refine ⟨rfl, _, rfl, m, 12, rfl, _, rfl, _, rfl, by show k.n ≤ 1000000; omega, by split <;> omega, by split <;> omega, fun v v0 v1 => ⟨1, v, rfl, rfl, rfl, _, rfl, 5, rfl, by show k.n + 1 ≤ 1000000; omega, by decide, by decide, fun w w0 w1 => ?_⟩⟩
  have hc : 1 + v ≤ m ∧ 1 + v ≤ 12 := by split at v1 <;> omega
  refine ⟨fun s => ∃ (c n : Int), s = ⟨[.deck, .dat (.int m), .dat (.int c), .dat (.int w), .free, .free, .free, .free, .free, .free, .free, .free], some ⟨n, k.T⟩⟩ ∧ 1 ≤ c ∧ c ≤ m ∧ c ≤ 12 ∧ n ≤ k.n + 3, ?_, ?_⟩
  · refine ⟨_, rfl, .inl ⟨_, _, rfl, rfl, _, rfl, ?_⟩⟩
    by_cases h0 : w = 0
    · rw [decide_eq_true h0]
      refine iteT ⟨_, rfl, m, 12, rfl, len_ok rfl, rfl, _, rfl, 2, rfl, by show k.n + 1 + 1 ≤ 1000000; omega, by decide, by decide, fun z z0 z1 => ?_⟩
      obtain ⟨t, ht, hat⟩ := pickI (xs := [1, if 12 < m then 12 else m]) z0 (by show _ < ((2 : Nat) : Int); omega)
      refine ⟨_, _, _, rfl, rfl, hat, t, _, rfl, ?_⟩
      simp only [List.mem_cons, List.not_mem_nil, or_false] at ht
      have : 1 ≤ t ∧ t ≤ m ∧ t ≤ 12 := by
        rcases ht with h | h
        · omega
        · rw [h]
          split <;> omega
      exact ⟨this.1, this.2.1, this.2.2, by show k.n + 1 + 1 + 1 ≤ k.n + 3; omega⟩
    · rw [decide_eq_false h0]
      exact iteF ⟨_, _, rfl, by omega, hc.1, hc.2, by show k.n + 1 + 1 ≤ k.n + 3; omega⟩
  · rintro s ⟨c, n, e, c1, c2, c3, hn⟩
    subst e
    refine ⟨fun s => ∃ (bs ts : List Int) (y4 y5 : Sl) (n : Int), s = ⟨[.deck, .dat (.int m), .dat (.int c), .dat (.int w), y4, y5, .dat (.list (bs.map .int)), .dat (.list (ts.map .int)), .free, .free, .free, .free], some ⟨n, k.T⟩⟩ ∧
      bs.length = ts.length ∧ 1 ≤ ts.length ∧ ts.length ≤ 12 ∧ bs.Pairwise (· < ·) ∧ ts.Pairwise (· < ·) ∧ (∀ x ∈ bs, 0 ≤ x ∧ x < m) ∧ (∀ x ∈ ts, 0 ≤ x ∧ x < m) ∧ n ≤ k.n + 27, ?_, ?_⟩
    · refine ⟨_, rfl, .inl ⟨_, _, rfl, rfl, _, rfl, ?_⟩⟩
      by_cases h0 : w = 1
      · rw [decide_eq_true h0]
        refine iteT ⟨_, rfl, m, 1, rfl, rfl, 1, m + 1, rfl, ⟨by omega, by omega, by omega, by omega⟩, lcRgT (fun i => decide (m % (1 + (i : Nat)) = 0) && decide (m / (1 + (i : Nat)) < 13)) (fun i => .int (1 + (i : Nat))) (by omega) ?_ ?_⟩
        · intro i hi Bt Bf hT hF R hR
          refine ⟨_, rfl, _, rfl, _, _, rfl, rfl, (by omega : (0 : Int) < 1 + (i : Nat)), .inl ⟨_, _, rfl, rfl, _, rfl, ?_⟩⟩
          cases hb : decide (m % (1 + (i : Nat)) = 0) with
          | false => exact iteF (iteF (hF (by show (decide (m % (1 + (i : Nat)) = 0) && _) = false; rw [hb]; rfl) _ rfl))
          | true =>
            refine iteT ⟨_, rfl, _, rfl, _, _, rfl, rfl, ⟨by omega, by omega⟩, _, _, rfl, rfl, _, rfl, ?_⟩
            cases hb2 : decide (m / (1 + (i : Nat)) < 13) with
            | true => exact iteT ⟨_, rfl, hR _ (hT (by show (decide (m % (1 + (i : Nat)) = 0) && decide (m / (1 + (i : Nat)) < 13)) = true; rw [hb, hb2]; rfl) _ rfl)⟩
            | false => exact iteF (hF (by show (decide (m % (1 + (i : Nat)) = 0) && decide (m / (1 + (i : Nat)) < 13)) = false; rw [hb, hb2]; rfl) _ rfl)
        · generalize hst : (((List.range (m + 1 - 1).toNat).filter fun i => decide (m % (1 + (i : Nat)) = 0) && decide (m / (1 + (i : Nat)) < 13)).map fun i => (1 : Int) + (i : Nat)) = st
          have hmap : ((List.range (m + 1 - 1).toNat).filter fun i => decide (m % (1 + (i : Nat)) = 0) && decide (m / (1 + (i : Nat)) < 13)).map (fun i => PyData.int (1 + (i : Nat))) = st.map PyData.int := by
            rw [← hst, List.map_map]
            rfl
          have hgood : ∀ x ∈ st, Good m x := fun x hx => by
            rw [← hst] at hx
            obtain ⟨i, hi, ex⟩ := List.mem_map.mp hx
            obtain ⟨h1, h2⟩ := List.mem_filter.mp hi
            have h1 := List.mem_range.mp h1
            obtain ⟨h3, h4⟩ := Bool.and_eq_true_iff.mp h2
            have h3 := of_decide_eq_true h3
            have h4 := of_decide_eq_true h4
            subst ex
            exact ⟨by omega, by omega, h3, h4⟩
          have hlen : 1 ≤ st.length ∧ st.length ≤ 60 := by
            refine ⟨List.length_pos_iff_exists_mem.mpr ⟨m, ?_⟩, ?_⟩
            · rw [← hst]
              have g := good_self hm1
              refine List.mem_map.mpr ⟨(m - 1).toNat, List.mem_filter.mpr ⟨List.mem_range.mpr (by omega), ?_⟩, by omega⟩
              have e1 : (1 : Int) + ((m - 1).toNat : Nat) = m := by omega
              show (decide (m % (1 + ((m - 1).toNat : Nat)) = 0) && decide (m / (1 + ((m - 1).toNat : Nat)) < 13)) = true
              rw [e1, decide_eq_true g.2.2.1, decide_eq_true g.2.2.2]
              rfl
            · rw [← hst, List.length_map]
              have := List.length_filter_le (fun i => decide (m % (1 + (i : Nat)) = 0) && decide (m / (1 + (i : Nat)) < 13)) (List.range (m + 1 - 1).toNat)
              rw [List.length_range] at this
              omega
          rw [hmap]
          refine ⟨_, rfl, rfl, _, rfl, _, _, rfl, rfl, _, rfl, _, rfl, by show n ≤ 1000000; omega, by rw [List.length_map]; omega, by rw [List.length_map]; omega, fun z z0 z1 => ?_⟩
          rw [List.length_map] at z1
          obtain ⟨d, hd, hat⟩ := pickI (xs := st) z0 z1
          have gd := hgood d hd
          obtain ⟨g1, g2, g3, g4, g5⟩ := good_list hm1 gd
          have hr : ((List.range (m / d).toNat).map fun k => PyData.int (0 + (k : Nat) * d)) = ((List.range (m / d).toNat).map fun k => (0 : Int) + (k : Nat) * d).map PyData.int := by
            rw [List.map_map]
            rfl
          have gl : ((List.range (m / d).toNat).map fun k => (0 : Int) + (k : Nat) * d).length = (m / d).toNat := by rw [List.length_map, List.length_range]
          refine ⟨_, _, _, rfl, rfl, hat, _, rfl, _, rfl, 0, m, d, _, rfl, gd.rgc hm1 hm2, by omega, _, rfl, _, rfl, 0, m, d, _, rfl, gd.rgc hm1 hm2, by omega, _, _, rfl, ?_⟩
          refine ⟨_, _, _, _, n + 1, by rw [hr]; rfl, rfl, by rw [gl]; exact g3, by rw [gl]; exact g4, g1, g1, g2, g2, by omega⟩
      · rw [decide_eq_false h0]
        refine iteF ⟨rfl, _, rfl, _, rfl, _, rfl, m, c, rfl, by show n + c ≤ 1000000; omega, by omega, c2, by omega, fun bs a1 a2 a3 => ⟨rfl, _, rfl, _, rfl, _, rfl, m, c, rfl, by show n + c + c ≤ 1000000; omega, by omega, c2, by omega, fun ts b1 b2 b3 => ⟨_, _, rfl, bs, ts, _, _, _, rfl, by omega, by omega, by omega, a1, b1, a3, b3, by show n + c + c ≤ k.n + 27; omega⟩⟩⟩
    · rintro s ⟨bs, ts, y4, y5, n, e, hl, l1, l2, ab, at_, bb, bt, hn⟩
      subst e
      refine ⟨rfl, _, rfl, _, _, rfl, rfl, _, rfl, _, rfl, by show n ≤ 1000000; omega, by rw [List.length_map]; omega, by rw [List.length_map]; omega, fun r r0 r1 => ⟨rfl, _, rfl, _, rfl, _, rfl, by show n + 1 ≤ 1000000; omega, hm1, by omega, fun sh s0 s1 => ?_⟩⟩
      rw [List.length_map] at r1
      refine ⟨_, rfl, _, rfl, r, rfl, _, rfl, _, rfl, _, rfl, r, rfl, _, rfl, ?_⟩
      have er : r = ((r.toNat : Nat) : Int) := by omega
      have hrl : r.toNat < ts.length := by omega
      generalize r.toNat = q at er hrl
      subst er
      have ec1 : sliceD (some (q : Int)) none (.list (ts.map PyData.int)) = .list ((ts.drop q).map .int) := by
        show PyData.list (cutD _ _ _) = _
        rw [cutD_from, List.map_drop]
      have ec2 : sliceD none (some (q : Int)) (.list (ts.map PyData.int)) = .list ((ts.take q).map .int) := by
        show PyData.list (cutD _ _ _) = _
        rw [cutD_to, List.map_take]
      rw [ec1, ec2]
      refine ⟨_, _, rfl, rfl, by rw [List.length_map, List.length_map, List.length_drop, List.length_take]; omega, _, rfl, ?_⟩
      rw [← List.map_append]
      refine lcMap (l := ts.drop q ++ ts.take q) (e := PyData.int) (fun x => .int ((x + sh) % m)) (by rw [List.length_append, List.length_drop, List.length_take]; omega) ?_ ?_
      · intro x hx B hB
        exact ⟨_, rfl, _, rfl, _, _, rfl, rfl, _, rfl, _, _, rfl, rfl, (by omega : 0 < m), hB _ rfl⟩
      have eus : ((ts.drop q ++ ts.take q).map fun x => PyData.int ((x + sh) % m)) = ((ts.drop q ++ ts.take q).map fun x => (x + sh) % m).map PyData.int := by
        rw [List.map_map]
        rfl
      rw [eus]
      refine ⟨fun s => ∃ (bs2 : List Int) (y4 y5 y8 y9 : Sl), s = ⟨[.deck, .dat (.int m), .dat (.int c), .dat (.int w), y4, y5, .dat (.list (bs2.map .int)), .dat (.list (((ts.drop q ++ ts.take q).map fun x => (x + sh) % m).map PyData.int)), y8, y9, .free, .free], some ⟨n + 1 + 1, k.T⟩⟩ ∧
        bs2.length = ts.length ∧ bs2.Pairwise (· < ·) ∧ (∀ x ∈ bs2, 0 ≤ x ∧ x < m) ∧ (bs2.length = 1 → ∀ x ∈ bs2, x = 0), ?_, ?_⟩
      · refine ⟨_, rfl, _, _, rfl, rfl, .inl ⟨_, _, rfl, rfl, _, rfl, ?_⟩⟩
        rw [List.length_map]
        by_cases h0 : ((bs.length : Nat) : Int) = 1
        · rw [decide_eq_true h0]
          refine iteT ⟨len_ok rfl, [0], _, _, _, _, rfl, by show 1 = ts.length; omega, List.pairwise_singleton _ _, fun x hx => ?_, fun _ x hx => List.mem_singleton.mp hx⟩
          have := List.mem_singleton.mp hx
          omega
        · rw [decide_eq_false h0]
          exact iteF ⟨bs, _, _, _, _, rfl, hl, ab, bb, fun z => absurd (by omega) h0⟩
      · rintro s ⟨bs2, y4, y5, y8, y9, e, hl2, ab2, bb2, one2⟩
        subst e
        refine ⟨_, rfl, _, rfl, _, _, rfl, by rw [List.length_map]; omega, ?_⟩
        rw [zipTD_tool]
        exact ⟨_, k.up 40, rfl, ⟨by show n + 1 + 1 ≤ k.n + 40; omega, rfl⟩, a _ (tool_rot hl2 l2 ab2 at_ bb2 bt hrl one2)⟩
abbrev s__law_circle : Stmt := topS 42
abbrev N__law_circle : List Str := ["_law_deck_here", "_law_most", "_law_m", "_law_k"]
theorem sc__law_circle : FnScope N__law_circle ["_law_deck_here", "_law_most"] (defScope s__law_circle) :=
  ⟨rfl, rfl, rfl, by decide +kernel, rfl, by decide +kernel, by decide +kernel⟩
theorem ok__law_circle {f : Addr} {fd : FuncData} (F : Fun K "_law_circle" "_law_circle" s__law_circle f fd) (T : Bi mg)
    (h__law_draw : Has P w K mg base 1 "_law_draw" ["_law_deck_here", "_law_many"] (spK K (ΔO K) RDraw))
    (h__law_tool : Has P w K mg base 3 "_law_tool" ["_law_deck_here", "_law_m"] (spK K (ΔO K) RToolE))
    : FnOk P w K mg base CX0 4 f fd ["_law_deck_here", "_law_most"] (spK K (ΔO K) RCircE) := by
  refine F.ok sc__law_circle (fun vs H Q E h => lenK h (by rintro ds k A ⟨_, rfl, _⟩; rfl)) (fun cdv Ar outer s H vs Q E hr h => ?_)
  refine ⟨_, (pss_cons (ps_set (i := 2) sc__law_circle.nd rfl (.inr rfl) (pe_ix (kixA K) (pe_lst (pa_cons (pe_op op_add pe_int (pe_callH h__law_draw hr (by decide) (by rfl) (pa_cons (pv 0) (pa_cons (pv 1) pa_nil)))) (pa_cons (pv 1) (pa_cons (pe_ix (kixA K) (pe_lst (pa_cons pe_int (pa_cons pe_int (pa_cons pe_int (pa_cons pe_int (pa_cons pe_int (pa_cons pe_int (pa_cons pe_int pa_nil)))))))) (pe_callH h__law_draw hr (by decide) (by rfl) (pa_cons (pv 0) (pa_cons pe_int pa_nil))) (fun _ _ => rfl)) pa_nil)))) (pe_callH h__law_draw hr (by decide) (by rfl) (pa_cons (pv 0) (pa_cons pe_int pa_nil))) (fun _ _ => rfl)))
  (pss_cons (ps_set (i := 2) sc__law_circle.nd rfl (.inr rfl) (pe_callB (call_min2 rfl) (by rfl) T.min (by decide +kernel) (pa_cons (pv 2) (pa_cons (pv 1) pa_nil))))
  (pss_one (ps_ret (pe_lst (pa_cons (pv 2) (pa_cons (pe_callTy (ktupF K) (by rfl) T.tuple (by decide +kernel) (pa_cons (pe_lc (own := [("_law_k", 3)]) rfl sc__law_circle.nd (pi_range1 (by rfl) T.range (pa_cons (pe_op op_add pe_int (pe_callH h__law_draw hr (by decide) (by rfl) (pa_cons (pv 0) (pa_cons pe_int pa_nil)))) pa_nil)) (blkOk_by (own := [("_law_k", 3)]) (N := N__law_circle) (sc := defScope s__law_circle) (by decide +kernel))
    (fun _ _ _ _ _ => (pg_name (i := 3) sc__law_circle.nd rfl (.inl rfl))) (fun _ _ _ _ _ => pts_nil)
    (fun _ _ _ _ _ => (pe_callH h__law_tool hr (by decide) (by rfl) (pa_cons (pv 0) (pa_cons (pv 2) pa_nil))))) pa_nil)) pa_nil))))))), ?_⟩
  refine goK h (by repeat' (first | (with_reducible (first | apply rs_seq | exact rs_never | exact rs_next | exact rs_retN | apply rs_asg | apply rs_par | apply rs_par3 | apply rs_drop | apply rs_ret | apply rs_if | apply rs_for | apply rs_while | exact re_var | exact re_int | exact re_str | exact re_bl | exact re_non | apply re_op | apply re_un | apply re_isiT | apply re_isiI | apply re_isiB | apply re_srtSc | apply re_srtSet | apply re_cb | apply re_lst | apply re_tup | apply re_tupF | apply re_slU | apply re_slT | apply re_slL | exact ro_none | apply ro_some | apply re_andV | apply re_orV | apply re_notV | apply re_if | apply re_chain | apply rt_test | apply rt_b | apply rt_tru | exact rt_yes | apply rt_and | apply rt_or | apply rt_not | exact ra_nil | apply ra_cons | apply ri_rng1 | apply ri_rng2 | apply ri_tup | apply ri_lst | apply ri_zip | apply ri_enum | apply ri_enT | apply ri_U | apply ri_zm | apply ri_revA | exact rg_name | exact rgs_nil | apply rgs_cons | apply rg_tup | apply re_lc | apply re_listRg | apply re_tupRg | apply rrg1 | apply rrg2 | apply re_index | apply re_revT | apply re_revL | apply re_callK | apply re_callP | exact r2_I0 | exact r2_B0 | exact r2_Ic | exact r2_eq | exact r2_ne | exact r2_isN | exact r2_notN | exact r2_ixA | exact r2_ixT | exact r2_ixL | exact r2_catT | exact r2_catL | exact r2_catS | exact r2_notB | exact r2_repT | exact r2_in | exact r2_eqD | exact r2_neD | exact r1_neg | exact rc_len' | exact rc_tupF | exact rc_listof | exact rc_sorted | exact rc_sum | exact rc_max | exact rc_min | exact rc_all | exact rc_repr | exact rc_abs | exact rc_max2 | exact rc_min2 | exact rc_int1 | exact rc_sortT | apply ri_rng3 | exact re_dnew | exact re_dis1 | exact rc_strI | apply ri_rng3 | apply ra_snoc | apply ra_both | apply re_join | apply re_fstr | apply RJs.cons | exact RJs.nil | apply re_fmt | apply re_tupZip | apply re_lstRg3)) | decide)) (fun ds k A hR => ?_)
  obtain ⟨most, e, hk, hm1, hm2, a⟩ := hR
  subst e
  refine ⟨rfl, _, rfl, _, rfl, most, rfl, by show k.n ≤ 1000000; omega, hm1, by omega, fun v v0 v1 => ⟨1, v, rfl, rfl, _, rfl, len_ok rfl, rfl, _, rfl, 7, rfl, by show k.n + 1 ≤ 1000000; omega, by decide, by decide, fun z z0 z1 => ?_⟩⟩
  obtain ⟨t, ht, hat⟩ := pickI (xs := [1, 2, 3, 4, 6, 8, 12]) z0 (by show _ < ((7 : Nat) : Int); omega)
  refine ⟨_, _, _, rfl, rfl, hat, len_ok rfl, rfl, _, rfl, 3, rfl, by show k.n + 1 + 1 ≤ 1000000; omega, by decide, by decide, fun y y0 y1 => ?_⟩
  obtain ⟨u, hu, hat⟩ := pickI (xs := [1 + v, most, t]) y0 (by show _ < ((3 : Nat) : Int); omega)
  refine ⟨_, _, _, rfl, rfl, hat, _, rfl, _, rfl, u, most, rfl, ?_⟩
  have ht1 : 1 ≤ t := by
    simp only [List.mem_cons, List.not_mem_nil, or_false] at ht
    omega
  have hu1 : 1 ≤ u := by
    simp only [List.mem_cons, List.not_mem_nil, or_false] at hu
    omega
  have hm : 1 ≤ (if most < u then most else u) ∧ (if most < u then most else u) ≤ most := by split <;> omega
  generalize (if most < u then most else u) = m at hm
  obtain ⟨m1, m2⟩ := hm
  refine ⟨_, rfl, rfl, _, rfl, 3, rfl, by show k.n + 1 + 1 + 1 ≤ 1000000; omega, by decide, by decide, fun q q0 q1 => ⟨1, q, rfl, rfl, 1 + q, rfl, by omega, by omega, ?_⟩⟩
  refine lcDraws (e := toolD) (P := IsTool m) (k := ⟨k.n + 1 + 1 + 1 + 1, k.T⟩) (c := 40) rfl (by omega) (fun i hi k' hk' hT B hB => ⟨rfl, _, rfl, _, rfl, m, rfl, by have : k'.n ≤ k.n + 1 + 1 + 1 + 1 + 40 * (i : Int) := hk'; omega, m1, by omega, fun tl it => hB tl it _ ⟨_, rfl, Int.le_refl _, rfl⟩⟩) fun tls k' hl hP hk' hT => ?_
  exact ⟨_, rfl, len_ok rfl, _, k.up 200, rfl, ⟨by have : k'.n ≤ k.n + 1 + 1 + 1 + 1 + 40 * (((1 + q).toNat : Nat) : Int) := hk'; show k'.n ≤ k.n + 200; omega, hT⟩, a m tls m1 m2 hP (by omega) (by omega)⟩
abbrev s__law_odd : Stmt := topS 46
abbrev N__law_odd : List Str := ["_law_deck_here", "_law_some"]
theorem sc__law_odd : FnScope N__law_odd ["_law_deck_here"] (defScope s__law_odd) :=
  ⟨rfl, rfl, rfl, by decide +kernel, rfl, by decide +kernel, by decide +kernel⟩
theorem ok__law_odd {f : Addr} {fd : FuncData} (F : Fun K "_law_odd" "_law_odd" s__law_odd f fd) (T : Bi mg)
    (h__law_draw : Has P w K mg base 1 "_law_draw" ["_law_deck_here", "_law_many"] (spK K (ΔO K) RDraw))
    : FnOk P w K mg base CX0 2 f fd ["_law_deck_here"] (spK K (ΔO K) ROdd44) := by
  refine F.ok sc__law_odd (fun vs H Q E h => lenK h (by rintro ds k A ⟨rfl, _⟩; rfl)) (fun cdv Ar outer s H vs Q E hr h => ?_)
  refine ⟨_, (pss_cons (ps_set (i := 1) sc__law_odd.nd rfl (.inl rfl) (pe_lst (pa_cons pe_non (pa_cons pe_bl (pa_cons pe_bl (pa_cons (pe_un un_neg pe_int) (pa_cons pe_int (pa_cons pe_int (pa_cons pe_int (pa_cons pe_int (pa_cons (pe_op op_pow pe_int pe_int) (pa_cons pe_str (pa_cons pe_str (pa_cons (pe_tup pa_nil) (pa_cons (pe_lst pa_nil) (pa_cons pe_dnewK (pa_cons (pe_tup (pa_cons pe_int pa_nil)) (pa_cons (pe_tup (pa_cons pe_int (pa_cons pe_int pa_nil))) (pa_cons (pe_tup (pa_cons pe_int (pa_cons pe_int pa_nil))) (pa_cons (pe_tup (pa_cons (pe_tup (pa_cons pe_int (pa_cons pe_int pa_nil))) pa_nil)) pa_nil))))))))))))))))))))
  (pss_one (ps_ret (pe_ix (kixA K) (pe_op op_cat (pv 1) (pe_lst (pa_cons (pe_tup (pa_cons pe_int (pa_cons pe_non pa_nil))) (pa_cons (pe_tup (pa_cons pe_int (pa_cons pe_str pa_nil))) (pa_cons (pe_tup (pa_cons (pe_un un_neg pe_int) (pa_cons pe_int pa_nil))) (pa_cons (pe_tup (pa_cons (pe_lst (pa_cons pe_int pa_nil)) (pa_cons pe_int pa_nil))) (pa_cons (pe_tup (pa_cons pe_bl (pa_cons pe_int pa_nil))) (pa_cons (pe_tup (pa_cons pe_int (pa_cons pe_int pa_nil))) (pa_cons (pe_tup (pa_cons pe_int (pa_cons pe_int (pa_cons pe_int pa_nil)))) pa_nil))))))))) (pe_callH h__law_draw hr (by decide) (by rfl) (pa_cons (pv 0) (pa_cons pe_int pa_nil))) (fun _ _ => rfl))))), ?_⟩
  refine goK h (by repeat' (first | (with_reducible (first | apply rs_seq | exact rs_never | exact rs_next | exact rs_retN | apply rs_asg | apply rs_par | apply rs_par3 | apply rs_drop | apply rs_ret | apply rs_if | apply rs_for | apply rs_while | exact re_var | exact re_int | exact re_str | exact re_bl | exact re_non | apply re_op | apply re_un | apply re_isiT | apply re_isiI | apply re_isiB | apply re_srtSc | apply re_srtSet | apply re_cb | apply re_lst | apply re_tup | apply re_tupF | apply re_slU | apply re_slT | apply re_slL | exact ro_none | apply ro_some | apply re_andV | apply re_orV | apply re_notV | apply re_if | apply re_chain | apply rt_test | apply rt_b | apply rt_tru | exact rt_yes | apply rt_and | apply rt_or | apply rt_not | exact ra_nil | apply ra_cons | apply ri_rng1 | apply ri_rng2 | apply ri_tup | apply ri_lst | apply ri_zip | apply ri_enum | apply ri_enT | apply ri_U | apply ri_zm | apply ri_revA | exact rg_name | exact rgs_nil | apply rgs_cons | apply rg_tup | apply re_lc | apply re_listRg | apply re_tupRg | apply rrg1 | apply rrg2 | apply re_index | apply re_revT | apply re_revL | apply re_callK | apply re_callP | exact r2_I0 | exact r2_B0 | exact r2_Ic | exact r2_eq | exact r2_ne | exact r2_isN | exact r2_notN | exact r2_ixA | exact r2_ixT | exact r2_ixL | exact r2_catT | exact r2_catL | exact r2_catS | exact r2_notB | exact r2_repT | exact r2_in | exact r2_eqD | exact r2_neD | exact r1_neg | exact rc_len' | exact rc_tupF | exact rc_listof | exact rc_sorted | exact rc_sum | exact rc_max | exact rc_min | exact rc_all | exact rc_repr | exact rc_abs | exact rc_max2 | exact rc_min2 | exact rc_int1 | exact rc_sortT | apply ri_rng3 | exact re_dnew | exact re_dis1 | exact rc_strI | apply ri_rng3 | apply ra_snoc | apply ra_both | apply re_join | apply re_fstr | apply RJs.cons | exact RJs.nil | apply re_fmt | apply re_tupZip | apply re_lstRg3)) | decide)) (fun ds k A hR => ?_)
  obtain ⟨e, hk, a⟩ := hR
  subst e
  refine ⟨1, rfl, 10, 20, rfl, rfl, ⟨by decide, by decide, by decide⟩, len_ok rfl, len_ok rfl, len_ok rfl, len_ok rfl, len_ok rfl, len_ok rfl, len_ok rfl, len_ok rfl, ?_⟩
  refine ⟨_, rfl, len_ok rfl, len_ok rfl, 1, rfl, len_ok rfl, len_ok rfl, len_ok rfl, len_ok rfl, len_ok rfl, len_ok rfl, len_ok rfl, _, _, rfl, rfl, Nat.le_of_ble_eq_true rfl, rfl, k, rfl, 25, rfl, by omega, by decide, by decide, fun v v0 v1 => ?_⟩
  obtain ⟨d, hat, gd⟩ := pick_at (xs := odd44) odd44_good v0 v1
  exact ⟨_, _, d, rfl, rfl, hat, _, _, rfl, ⟨Int.le_refl _, rfl⟩, a d gd⟩
abbrev s__law_bent : Stmt := topS 47
abbrev N__law_bent : List Str := ["_law_deck_here", "_law_value", "_law_at", "_law_some"]
theorem sc__law_bent : FnScope N__law_bent ["_law_deck_here", "_law_value"] (defScope s__law_bent) :=
  ⟨rfl, rfl, rfl, by decide +kernel, rfl, by decide +kernel, by decide +kernel⟩
theorem ok__law_bent_N {f : Addr} {fd : FuncData} (F : Fun K "_law_bent" "_law_bent" s__law_bent f fd) (T : Bi mg)
    : FnOk P w K mg base CX0 2 f fd ["_law_deck_here", "_law_value"] (spK K (ΔO K) RNev) := by
  refine F.ok sc__law_bent (fun vs H Q E h => ?_) (fun cdv Ar outer s H vs Q E hr h => ?_)
  · obtain ⟨_, _, _, _, _, _, _, _, _, _, _, _, a, _⟩ := h
    exact a.elim
  · obtain ⟨_, _, _, _, _, _, _, _, _, _, _, _, a, _⟩ := h
    exact a.elim
theorem ok__law_bent_0 {f : Addr} {fd : FuncData} (F : Fun K "_law_bent" "_law_bent" s__law_bent f fd) (T : Bi mg)
    (h__law_draw : Has P w K mg base 1 "_law_draw" ["_law_deck_here", "_law_many"] (spK K (ΔO K) RDraw))
    (h__law_odd : Has P w K mg base 2 "_law_odd" ["_law_deck_here"] (spK K (ΔO K) ROdd44))
    (h__law_bent : Has P w K mg base 2 "_law_bent" ["_law_deck_here", "_law_value"] (spK K (ΔO K) RNev))
    : FnOk P w K mg base CX0 4 f fd ["_law_deck_here", "_law_value"] (spK K (ΔO K) (RBent44 0)) := by
  refine F.ok sc__law_bent (fun vs H Q E h => lenK h (by rintro ds k A ⟨_, rfl, _⟩; rfl)) (fun cdv Ar outer s H vs Q E hr h => ?_)
  refine ⟨_, (pss_cons (ps_if (PW.pt (pw_and (pt_cmpR (kneD K hr.units) (pv 1) (pe_tup pa_nil) (nomark _)) (pw_and (pt_val (pe_callB (kisi K) (by rfl) T.isinstance (by decide +kernel) (pa_cons (pe_ix (kixA K) (pv 1) pe_int (fun _ _ => rfl)) (pa_cons (pe_bltn (v := .ty "tuple") (by rfl) T.tuple rfl rfl) pa_nil)))) (pw_and1 (pt_cmpR op_gt (pe_callH h__law_draw hr (by decide) (by rfl) (pa_cons (pv 0) (pa_cons pe_int pa_nil))) pe_int (nomark _))))))
  (pss_cons (ps_set (i := 2) sc__law_bent.nd rfl (.inl rfl) (pe_callH h__law_draw hr (by decide) (by rfl) (pa_cons (pv 0) (pa_cons (pe_callB (klen K) (by rfl) T.len (by decide +kernel) (pa_cons (pv 1) pa_nil)) pa_nil))))
  (pss_one (ps_ret (pe_op (kcatB K) (pe_op (kcatB K) (pe_slice (kslU K) (pv 1) po_none (po_some (pv 2))) (pe_tup (pa_cons (pe_callH h__law_bent hr (by decide) (by rfl) (pa_cons (pv 0) (pa_cons (pe_ix (kixA K) (pv 1) (pv 2) (fun _ _ => rfl)) pa_nil))) pa_nil))) (pe_slice (kslU K) (pv 1) (po_some (pe_op op_add (pv 2) pe_int)) po_none)))))
  pss_nil)
  (pss_cons (ps_set (i := 2) sc__law_bent.nd rfl (.inl rfl) (pe_callH h__law_draw hr (by decide) (by rfl) (pa_cons (pv 0) (pa_cons (pe_op op_add (pe_callB (klen K) (by rfl) T.len (by decide +kernel) (pa_cons (pv 1) pa_nil)) pe_int) pa_nil))))
  (pss_cons (ps_set (i := 3) sc__law_bent.nd rfl (.inl rfl) (pe_lst (pa_cons (pe_op (kcatB K) (pe_op (kcatB K) (pe_slice (kslU K) (pv 1) po_none (po_some (pv 2))) (pe_tup (pa_cons (pe_callH h__law_odd hr (by decide) (by rfl) (pa_cons (pv 0) pa_nil)) pa_nil))) (pe_slice (kslU K) (pv 1) (po_some (pe_op op_add (pv 2) pe_int)) po_none)) (pa_cons (krevT K (pv 1)) (pa_cons (pe_op (kcatB K) (pv 1) (pe_slice (kslU K) (pv 1) (po_some (pe_un un_neg pe_int)) po_none)) (pa_cons (pe_callTy (klistof K) (by rfl) T.list (by decide +kernel) (pa_cons (pv 1) pa_nil)) pa_nil))))))
  (pss_one (ps_ret (pe_ix (kixA K) (pe_op op_cat (pv 3) (pe_lst (pa_cons (pe_callH h__law_odd hr (by decide) (by rfl) (pa_cons (pv 0) pa_nil)) (pa_cons (pe_slice (kslU K) (pv 1) (po_some pe_int) po_none) pa_nil)))) (pe_callH h__law_draw hr (by decide) (by rfl) (pa_cons (pv 0) (pa_cons pe_int pa_nil))) (fun _ _ => rfl))))))), ?_⟩
  refine goK h (by repeat' (first | (with_reducible (first | apply rs_cutI2 | apply rs_seq | exact rs_never | exact rs_next | exact rs_retN | apply rs_asg | apply rs_par | apply rs_par3 | apply rs_drop | apply rs_ret | apply rs_if | apply rs_for | apply rs_while | exact re_var | exact re_int | exact re_str | exact re_bl | exact re_non | apply re_op | apply re_un | apply re_isiT | apply re_isiI | apply re_isiB | apply re_srtSc | apply re_srtSet | apply re_cb | apply re_lst | apply re_tup | apply re_tupF | apply re_slU | apply re_slT | apply re_slL | exact ro_none | apply ro_some | apply re_andV | apply re_orV | apply re_notV | apply re_if | apply re_chain | apply rt_test | apply rt_b | apply rt_tru | exact rt_yes | apply rt_and | apply rt_or | apply rt_not | exact ra_nil | apply ra_cons | apply ri_rng1 | apply ri_rng2 | apply ri_tup | apply ri_lst | apply ri_zip | apply ri_enum | apply ri_enT | apply ri_U | apply ri_zm | apply ri_revA | exact rg_name | exact rgs_nil | apply rgs_cons | apply rg_tup | apply re_lc | apply re_listRg | apply re_tupRg | apply rrg1 | apply rrg2 | apply re_index | apply re_revT | apply re_revL | apply re_callK | apply re_callP | exact r2_I0 | exact r2_B0 | exact r2_Ic | exact r2_eq | exact r2_ne | exact r2_isN | exact r2_notN | exact r2_ixA | exact r2_ixT | exact r2_ixL | exact r2_catT | exact r2_catL | exact r2_catS | exact r2_notB | exact r2_repT | exact r2_in | exact r2_eqD | exact r2_neD | exact r1_neg | exact rc_len' | exact rc_tupF | exact rc_listof | exact rc_sorted | exact rc_sum | exact rc_max | exact rc_min | exact rc_all | exact rc_repr | exact rc_abs | exact rc_max2 | exact rc_min2 | exact rc_int1 | exact rc_sortT | apply ri_rng3 | exact re_dnew | exact re_dis1 | exact rc_strI | apply ri_rng3 | apply ra_snoc | apply ra_both | apply re_join | apply re_fstr | apply RJs.cons | exact RJs.nil | apply re_fmt | apply re_tupZip | apply re_lstRg3)) | decide)) (fun ds k A hR => ?_)
  obtain ⟨xs, e, hin, hk, a⟩ := hR
  subst e
  have bs := hin.base
  have hlen := bs.len
  have h0 : 0 < xs.length := List.length_pos_iff.mpr bs.ne
  have hemp : xs.isEmpty = false := by
    cases xs with
    | nil => cases h0
    | cons x r => rfl
  have gs := bs.gs
  refine ⟨fun s' => ∃ k1 : Kx, s' = ⟨[.deck, .dat (.tuple xs), .free, .free], some k1⟩ ∧ k.n ≤ k1.n ∧ k1.n ≤ k.n + 1 ∧ k1.T = k.T, ?_, ?_⟩
  · refine ⟨_, rfl, len_ok rfl, bs.sh, rfl, _, rfl, ?_⟩
    rw [eqv_nilT, hemp]
    obtain ⟨x0, hat0, hx0⟩ := at_len (ds := xs) (t := 0) (Int.le_refl _) (by omega)
    refine iteT ⟨_, rfl, _, 0, x0, rfl, rfl, hat0, _, rfl, ?_⟩
    rw [hin.2 x0 hx0]
    exact iteF (iteF ⟨_, rfl, Int.le_refl _, by omega, rfl⟩)
  intro s' hs
  obtain ⟨k1, e, hk1, hk2, hk3⟩ := hs
  subst e
  refine ⟨rfl, _, rfl, _, _, rfl, rfl, _, 1, rfl, rfl, _, rfl, _, rfl, by omega, by omega, by omega, fun t t0 t1 => ?_⟩
  have l1 := cut_len xs none (some t)
  have l2 := cut_len xs (some (t + 1)) none
  have l3 := cut_len xs (some (-1)) none
  have l4 := cut_len xs (some 1) none
  refine ⟨_, rfl, _, rfl, _, rfl, _, rfl, rfl, _, rfl, rfl, by show k1.n + 1 + 1 ≤ 1000000; omega, fun d gd => ?_⟩
  refine ⟨len_ok rfl, _, _, rfl, rfl, (by show _ + 1 ≤ 1000; omega), _, rfl, _, rfl, _, 1, rfl, rfl, _, rfl, _, rfl, _, _, rfl, rfl, (by rw [List.length_append]; show _ + 1 + _ ≤ 1000; omega), _, rfl, _, rfl, _, rfl, _, rfl, 1, rfl, _, rfl, _, rfl, _, _, rfl, rfl, (by omega), _, rfl, _, .inr rfl, len_ok rfl, ?_⟩
  refine ⟨_, rfl, rfl, _, rfl, rfl, by show k1.n + 1 + 1 + 1 ≤ 1000000; omega, fun d2 gd2 => ⟨_, rfl, _, rfl, _, rfl, len_ok rfl, _, _, rfl, rfl, Nat.le_of_ble_eq_true rfl, rfl, _, rfl, 6, rfl, by show k1.n + 1 + 1 + 1 ≤ 1000000; omega, by decide, by decide, fun w w0 w1 => ?_⟩⟩
  obtain ⟨r, hat, gr⟩ := pick_at (xs := [.tuple (cutD xs none (some t) ++ [d] ++ cutD xs (some (t + 1)) none), .tuple xs.reverse, .tuple (xs ++ cutD xs (some (-1)) none), .list xs, d2, .tuple (cutD xs (some 1) none)]) (P := fun d => Gd d (V44 0) (7 + 0)) (fun d hd => by
    simp only [List.mem_cons, List.not_mem_nil, or_false] at hd
    rcases hd with z | z | z | z | z | z
    · rw [z]; exact (Gs.tup (((gs.cut _ _).app (Gs.one gd)).app (gs.cut _ _))).mono (by decide) (by decide)
    · rw [z]; exact (Gs.tup gs.rev).mono (by decide) (by decide)
    · rw [z]; exact (Gs.tup (gs.app (gs.cut _ _))).mono (by decide) (by decide)
    · rw [z]; exact (Gs.lst gs).mono (by decide) (by decide)
    · rw [z]; exact gd2.mono (by decide) (by decide)
    · rw [z]; exact (Gs.tup (gs.cut _ _)).mono (by decide) (by decide)) w0 (by show w < 6; exact w1)
  exact ⟨_, _, r, rfl, rfl, hat, _, k.up (5 * ((0 + 1 : Nat) : Int)), rfl, ⟨by show k1.n + 1 + 1 + 1 + 1 ≤ k.n + 5 * ((0 + 1 : Nat) : Int); omega, hk3⟩, a r gr⟩
theorem ok__law_bent_1 {f : Addr} {fd : FuncData} (F : Fun K "_law_bent" "_law_bent" s__law_bent f fd) (T : Bi mg)
    (h__law_draw : Has P w K mg base 1 "_law_draw" ["_law_deck_here", "_law_many"] (spK K (ΔO K) RDraw))
    (h__law_odd : Has P w K mg base 2 "_law_odd" ["_law_deck_here"] (spK K (ΔO K) ROdd44))
    (h__law_bent : Has P w K mg base 4 "_law_bent" ["_law_deck_here", "_law_value"] (spK K (ΔO K) (RBent44 0)))
    : FnOk P w K mg base CX0 5 f fd ["_law_deck_here", "_law_value"] (spK K (ΔO K) (RBent44 1)) := by
  refine F.ok sc__law_bent (fun vs H Q E h => lenK h (by rintro ds k A ⟨_, rfl, _⟩; rfl)) (fun cdv Ar outer s H vs Q E hr h => ?_)
  refine ⟨_, (pss_cons (ps_if (PW.pt (pw_and (pt_cmpR (kneD K hr.units) (pv 1) (pe_tup pa_nil) (nomark _)) (pw_and (pt_val (pe_callB (kisi K) (by rfl) T.isinstance (by decide +kernel) (pa_cons (pe_ix (kixA K) (pv 1) pe_int (fun _ _ => rfl)) (pa_cons (pe_bltn (v := .ty "tuple") (by rfl) T.tuple rfl rfl) pa_nil)))) (pw_and1 (pt_cmpR op_gt (pe_callH h__law_draw hr (by decide) (by rfl) (pa_cons (pv 0) (pa_cons pe_int pa_nil))) pe_int (nomark _))))))
  (pss_cons (ps_set (i := 2) sc__law_bent.nd rfl (.inl rfl) (pe_callH h__law_draw hr (by decide) (by rfl) (pa_cons (pv 0) (pa_cons (pe_callB (klen K) (by rfl) T.len (by decide +kernel) (pa_cons (pv 1) pa_nil)) pa_nil))))
  (pss_one (ps_ret (pe_op (kcatB K) (pe_op (kcatB K) (pe_slice (kslU K) (pv 1) po_none (po_some (pv 2))) (pe_tup (pa_cons (pe_callH h__law_bent hr (by decide) (by rfl) (pa_cons (pv 0) (pa_cons (pe_ix (kixA K) (pv 1) (pv 2) (fun _ _ => rfl)) pa_nil))) pa_nil))) (pe_slice (kslU K) (pv 1) (po_some (pe_op op_add (pv 2) pe_int)) po_none)))))
  pss_nil)
  (pss_cons (ps_set (i := 2) sc__law_bent.nd rfl (.inl rfl) (pe_callH h__law_draw hr (by decide) (by rfl) (pa_cons (pv 0) (pa_cons (pe_op op_add (pe_callB (klen K) (by rfl) T.len (by decide +kernel) (pa_cons (pv 1) pa_nil)) pe_int) pa_nil))))
  (pss_cons (ps_set (i := 3) sc__law_bent.nd rfl (.inl rfl) (pe_lst (pa_cons (pe_op (kcatB K) (pe_op (kcatB K) (pe_slice (kslU K) (pv 1) po_none (po_some (pv 2))) (pe_tup (pa_cons (pe_callH h__law_odd hr (by decide) (by rfl) (pa_cons (pv 0) pa_nil)) pa_nil))) (pe_slice (kslU K) (pv 1) (po_some (pe_op op_add (pv 2) pe_int)) po_none)) (pa_cons (krevT K (pv 1)) (pa_cons (pe_op (kcatB K) (pv 1) (pe_slice (kslU K) (pv 1) (po_some (pe_un un_neg pe_int)) po_none)) (pa_cons (pe_callTy (klistof K) (by rfl) T.list (by decide +kernel) (pa_cons (pv 1) pa_nil)) pa_nil))))))
  (pss_one (ps_ret (pe_ix (kixA K) (pe_op op_cat (pv 3) (pe_lst (pa_cons (pe_callH h__law_odd hr (by decide) (by rfl) (pa_cons (pv 0) pa_nil)) (pa_cons (pe_slice (kslU K) (pv 1) (po_some pe_int) po_none) pa_nil)))) (pe_callH h__law_draw hr (by decide) (by rfl) (pa_cons (pv 0) (pa_cons pe_int pa_nil))) (fun _ _ => rfl))))))), ?_⟩
  refine goK h (by repeat' (first | (with_reducible (first | apply rs_cutI2 | apply rs_seq | exact rs_never | exact rs_next | exact rs_retN | apply rs_asg | apply rs_par | apply rs_par3 | apply rs_drop | apply rs_ret | apply rs_if | apply rs_for | apply rs_while | exact re_var | exact re_int | exact re_str | exact re_bl | exact re_non | apply re_op | apply re_un | apply re_isiT | apply re_isiI | apply re_isiB | apply re_srtSc | apply re_srtSet | apply re_cb | apply re_lst | apply re_tup | apply re_tupF | apply re_slU | apply re_slT | apply re_slL | exact ro_none | apply ro_some | apply re_andV | apply re_orV | apply re_notV | apply re_if | apply re_chain | apply rt_test | apply rt_b | apply rt_tru | exact rt_yes | apply rt_and | apply rt_or | apply rt_not | exact ra_nil | apply ra_cons | apply ri_rng1 | apply ri_rng2 | apply ri_tup | apply ri_lst | apply ri_zip | apply ri_enum | apply ri_enT | apply ri_U | apply ri_zm | apply ri_revA | exact rg_name | exact rgs_nil | apply rgs_cons | apply rg_tup | apply re_lc | apply re_listRg | apply re_tupRg | apply rrg1 | apply rrg2 | apply re_index | apply re_revT | apply re_revL | apply re_callK | apply re_callP | exact r2_I0 | exact r2_B0 | exact r2_Ic | exact r2_eq | exact r2_ne | exact r2_isN | exact r2_notN | exact r2_ixA | exact r2_ixT | exact r2_ixL | exact r2_catT | exact r2_catL | exact r2_catS | exact r2_notB | exact r2_repT | exact r2_in | exact r2_eqD | exact r2_neD | exact r1_neg | exact rc_len' | exact rc_tupF | exact rc_listof | exact rc_sorted | exact rc_sum | exact rc_max | exact rc_min | exact rc_all | exact rc_repr | exact rc_abs | exact rc_max2 | exact rc_min2 | exact rc_int1 | exact rc_sortT | apply ri_rng3 | exact re_dnew | exact re_dis1 | exact rc_strI | apply ri_rng3 | apply ra_snoc | apply ra_both | apply re_join | apply re_fstr | apply RJs.cons | exact RJs.nil | apply re_fmt | apply re_tupZip | apply re_lstRg3)) | decide)) (fun ds k A hR => ?_)
  obtain ⟨xs, e, hin, hk, a⟩ := hR
  subst e
  have bs := hin.base
  have hlen := bs.len
  have h0 : 0 < xs.length := List.length_pos_iff.mpr bs.ne
  have hemp : xs.isEmpty = false := by
    cases xs with
    | nil => cases h0
    | cons x r => rfl
  have gs := bs.gs
  refine ⟨fun s' => ∃ k1 : Kx, s' = ⟨[.deck, .dat (.tuple xs), .free, .free], some k1⟩ ∧ k.n ≤ k1.n ∧ k1.n ≤ k.n + 1 ∧ k1.T = k.T, ?_, ?_⟩
  · refine ⟨_, rfl, len_ok rfl, bs.sh, rfl, _, rfl, ?_⟩
    rw [eqv_nilT, hemp]
    obtain ⟨x0, hat0, hx0⟩ := at_len (ds := xs) (t := 0) (Int.le_refl _) (by omega)
    refine iteT ⟨_, rfl, _, 0, x0, rfl, rfl, hat0, _, rfl, ?_⟩
    obtain ⟨y0, ey0, _⟩ := hin.2 x0 hx0
    rw [ey0]
    refine iteT ⟨rfl, _, rfl, 3, rfl, by omega, by decide, by decide, fun v v0 v1 => ⟨_, 0, rfl, rfl, _, rfl, ite2 (fun h => ?_) (fun h => ⟨_, rfl, by show k.n ≤ k.n + 1; omega, by show k.n + 1 ≤ k.n + 1; omega, rfl⟩)⟩⟩
    refine ⟨rfl, _, rfl, _, _, rfl, rfl, _, rfl, _, rfl, by show k.n + 1 ≤ 1000000; omega, by omega, by omega, fun t t0 t1 => ?_⟩
    obtain ⟨x, hat, hx⟩ := at_len t0 t1
    obtain ⟨ys, ey, hy⟩ := hin.2 x hx
    have l1 := cut_len xs none (some t)
    have l2 := cut_len xs (some (t + 1)) none
    refine ⟨_, rfl, _, rfl, _, rfl, _, rfl, rfl, _, rfl, _, rfl, _, _, x, rfl, rfl, hat, _, rfl, ys, by rw [ey], hy, by show k.n + 1 + 1 + _ ≤ 1000000; omega, fun r gr => ?_⟩
    refine ⟨len_ok rfl, _, _, rfl, rfl, (by show _ + 1 ≤ 1000; omega), _, rfl, _, rfl, _, 1, rfl, rfl, _, rfl, _, rfl, _, _, rfl, rfl, (by rw [List.length_append]; show _ + 1 + _ ≤ 1000; omega), _, k.up (5 * ((1 + 1 : Nat) : Int)), rfl, ⟨by show k.n + 1 + 1 + 5 * ((0 + 1 : Nat) : Int) ≤ k.n + 5 * ((1 + 1 : Nat) : Int); omega, rfl⟩, a _ ?_⟩
    exact (Gs.tup ((((gs.cut none (some t)).up44 (by decide)).app (Gs.one gr)).app ((gs.cut (some (t + 1)) none).up44 (by decide)))).mono (by decide) (by decide)
  intro s' hs
  obtain ⟨k1, e, hk1, hk2, hk3⟩ := hs
  subst e
  refine ⟨rfl, _, rfl, _, _, rfl, rfl, _, 1, rfl, rfl, _, rfl, _, rfl, by omega, by omega, by omega, fun t t0 t1 => ?_⟩
  have l1 := cut_len xs none (some t)
  have l2 := cut_len xs (some (t + 1)) none
  have l3 := cut_len xs (some (-1)) none
  have l4 := cut_len xs (some 1) none
  refine ⟨_, rfl, _, rfl, _, rfl, _, rfl, rfl, _, rfl, rfl, by show k1.n + 1 + 1 ≤ 1000000; omega, fun d gd => ?_⟩
  refine ⟨len_ok rfl, _, _, rfl, rfl, (by show _ + 1 ≤ 1000; omega), _, rfl, _, rfl, _, 1, rfl, rfl, _, rfl, _, rfl, _, _, rfl, rfl, (by rw [List.length_append]; show _ + 1 + _ ≤ 1000; omega), _, rfl, _, rfl, _, rfl, _, rfl, 1, rfl, _, rfl, _, rfl, _, _, rfl, rfl, (by omega), _, rfl, _, .inr rfl, len_ok rfl, ?_⟩
  refine ⟨_, rfl, rfl, _, rfl, rfl, by show k1.n + 1 + 1 + 1 ≤ 1000000; omega, fun d2 gd2 => ⟨_, rfl, _, rfl, _, rfl, len_ok rfl, _, _, rfl, rfl, Nat.le_of_ble_eq_true rfl, rfl, _, rfl, 6, rfl, by show k1.n + 1 + 1 + 1 ≤ 1000000; omega, by decide, by decide, fun w w0 w1 => ?_⟩⟩
  obtain ⟨r, hat, gr⟩ := pick_at (xs := [.tuple (cutD xs none (some t) ++ [d] ++ cutD xs (some (t + 1)) none), .tuple xs.reverse, .tuple (xs ++ cutD xs (some (-1)) none), .list xs, d2, .tuple (cutD xs (some 1) none)]) (P := fun d => Gd d (V44 1) (7 + 1)) (fun d hd => by
    simp only [List.mem_cons, List.not_mem_nil, or_false] at hd
    rcases hd with z | z | z | z | z | z
    · rw [z]; exact (Gs.tup (((gs.cut _ _).app (Gs.one gd)).app (gs.cut _ _))).mono (by decide) (by decide)
    · rw [z]; exact (Gs.tup gs.rev).mono (by decide) (by decide)
    · rw [z]; exact (Gs.tup (gs.app (gs.cut _ _))).mono (by decide) (by decide)
    · rw [z]; exact (Gs.lst gs).mono (by decide) (by decide)
    · rw [z]; exact gd2.mono (by decide) (by decide)
    · rw [z]; exact (Gs.tup (gs.cut _ _)).mono (by decide) (by decide)) w0 (by show w < 6; exact w1)
  exact ⟨_, _, r, rfl, rfl, hat, _, k.up (5 * ((1 + 1 : Nat) : Int)), rfl, ⟨by show k1.n + 1 + 1 + 1 + 1 ≤ k.n + 5 * ((1 + 1 : Nat) : Int); omega, hk3⟩, a r gr⟩
theorem ok__law_bent_2 {f : Addr} {fd : FuncData} (F : Fun K "_law_bent" "_law_bent" s__law_bent f fd) (T : Bi mg)
    (h__law_draw : Has P w K mg base 1 "_law_draw" ["_law_deck_here", "_law_many"] (spK K (ΔO K) RDraw))
    (h__law_odd : Has P w K mg base 2 "_law_odd" ["_law_deck_here"] (spK K (ΔO K) ROdd44))
    (h__law_bent : Has P w K mg base 5 "_law_bent" ["_law_deck_here", "_law_value"] (spK K (ΔO K) (RBent44 1)))
    : FnOk P w K mg base CX0 6 f fd ["_law_deck_here", "_law_value"] (spK K (ΔO K) (RBent44 2)) := by
  refine F.ok sc__law_bent (fun vs H Q E h => lenK h (by rintro ds k A ⟨_, rfl, _⟩; rfl)) (fun cdv Ar outer s H vs Q E hr h => ?_)
  refine ⟨_, (pss_cons (ps_if (PW.pt (pw_and (pt_cmpR (kneD K hr.units) (pv 1) (pe_tup pa_nil) (nomark _)) (pw_and (pt_val (pe_callB (kisi K) (by rfl) T.isinstance (by decide +kernel) (pa_cons (pe_ix (kixA K) (pv 1) pe_int (fun _ _ => rfl)) (pa_cons (pe_bltn (v := .ty "tuple") (by rfl) T.tuple rfl rfl) pa_nil)))) (pw_and1 (pt_cmpR op_gt (pe_callH h__law_draw hr (by decide) (by rfl) (pa_cons (pv 0) (pa_cons pe_int pa_nil))) pe_int (nomark _))))))
  (pss_cons (ps_set (i := 2) sc__law_bent.nd rfl (.inl rfl) (pe_callH h__law_draw hr (by decide) (by rfl) (pa_cons (pv 0) (pa_cons (pe_callB (klen K) (by rfl) T.len (by decide +kernel) (pa_cons (pv 1) pa_nil)) pa_nil))))
  (pss_one (ps_ret (pe_op (kcatB K) (pe_op (kcatB K) (pe_slice (kslU K) (pv 1) po_none (po_some (pv 2))) (pe_tup (pa_cons (pe_callH h__law_bent hr (by decide) (by rfl) (pa_cons (pv 0) (pa_cons (pe_ix (kixA K) (pv 1) (pv 2) (fun _ _ => rfl)) pa_nil))) pa_nil))) (pe_slice (kslU K) (pv 1) (po_some (pe_op op_add (pv 2) pe_int)) po_none)))))
  pss_nil)
  (pss_cons (ps_set (i := 2) sc__law_bent.nd rfl (.inl rfl) (pe_callH h__law_draw hr (by decide) (by rfl) (pa_cons (pv 0) (pa_cons (pe_op op_add (pe_callB (klen K) (by rfl) T.len (by decide +kernel) (pa_cons (pv 1) pa_nil)) pe_int) pa_nil))))
  (pss_cons (ps_set (i := 3) sc__law_bent.nd rfl (.inl rfl) (pe_lst (pa_cons (pe_op (kcatB K) (pe_op (kcatB K) (pe_slice (kslU K) (pv 1) po_none (po_some (pv 2))) (pe_tup (pa_cons (pe_callH h__law_odd hr (by decide) (by rfl) (pa_cons (pv 0) pa_nil)) pa_nil))) (pe_slice (kslU K) (pv 1) (po_some (pe_op op_add (pv 2) pe_int)) po_none)) (pa_cons (krevT K (pv 1)) (pa_cons (pe_op (kcatB K) (pv 1) (pe_slice (kslU K) (pv 1) (po_some (pe_un un_neg pe_int)) po_none)) (pa_cons (pe_callTy (klistof K) (by rfl) T.list (by decide +kernel) (pa_cons (pv 1) pa_nil)) pa_nil))))))
  (pss_one (ps_ret (pe_ix (kixA K) (pe_op op_cat (pv 3) (pe_lst (pa_cons (pe_callH h__law_odd hr (by decide) (by rfl) (pa_cons (pv 0) pa_nil)) (pa_cons (pe_slice (kslU K) (pv 1) (po_some pe_int) po_none) pa_nil)))) (pe_callH h__law_draw hr (by decide) (by rfl) (pa_cons (pv 0) (pa_cons pe_int pa_nil))) (fun _ _ => rfl))))))), ?_⟩
  refine goK h (by repeat' (first | (with_reducible (first | apply rs_cutI2 | apply rs_seq | exact rs_never | exact rs_next | exact rs_retN | apply rs_asg | apply rs_par | apply rs_par3 | apply rs_drop | apply rs_ret | apply rs_if | apply rs_for | apply rs_while | exact re_var | exact re_int | exact re_str | exact re_bl | exact re_non | apply re_op | apply re_un | apply re_isiT | apply re_isiI | apply re_isiB | apply re_srtSc | apply re_srtSet | apply re_cb | apply re_lst | apply re_tup | apply re_tupF | apply re_slU | apply re_slT | apply re_slL | exact ro_none | apply ro_some | apply re_andV | apply re_orV | apply re_notV | apply re_if | apply re_chain | apply rt_test | apply rt_b | apply rt_tru | exact rt_yes | apply rt_and | apply rt_or | apply rt_not | exact ra_nil | apply ra_cons | apply ri_rng1 | apply ri_rng2 | apply ri_tup | apply ri_lst | apply ri_zip | apply ri_enum | apply ri_enT | apply ri_U | apply ri_zm | apply ri_revA | exact rg_name | exact rgs_nil | apply rgs_cons | apply rg_tup | apply re_lc | apply re_listRg | apply re_tupRg | apply rrg1 | apply rrg2 | apply re_index | apply re_revT | apply re_revL | apply re_callK | apply re_callP | exact r2_I0 | exact r2_B0 | exact r2_Ic | exact r2_eq | exact r2_ne | exact r2_isN | exact r2_notN | exact r2_ixA | exact r2_ixT | exact r2_ixL | exact r2_catT | exact r2_catL | exact r2_catS | exact r2_notB | exact r2_repT | exact r2_in | exact r2_eqD | exact r2_neD | exact r1_neg | exact rc_len' | exact rc_tupF | exact rc_listof | exact rc_sorted | exact rc_sum | exact rc_max | exact rc_min | exact rc_all | exact rc_repr | exact rc_abs | exact rc_max2 | exact rc_min2 | exact rc_int1 | exact rc_sortT | apply ri_rng3 | exact re_dnew | exact re_dis1 | exact rc_strI | apply ri_rng3 | apply ra_snoc | apply ra_both | apply re_join | apply re_fstr | apply RJs.cons | exact RJs.nil | apply re_fmt | apply re_tupZip | apply re_lstRg3)) | decide)) (fun ds k A hR => ?_)
  obtain ⟨xs, e, hin, hk, a⟩ := hR
  subst e
  have bs := hin.base
  have hlen := bs.len
  have h0 : 0 < xs.length := List.length_pos_iff.mpr bs.ne
  have hemp : xs.isEmpty = false := by
    cases xs with
    | nil => cases h0
    | cons x r => rfl
  have gs := bs.gs
  refine ⟨fun s' => ∃ k1 : Kx, s' = ⟨[.deck, .dat (.tuple xs), .free, .free], some k1⟩ ∧ k.n ≤ k1.n ∧ k1.n ≤ k.n + 1 ∧ k1.T = k.T, ?_, ?_⟩
  · refine ⟨_, rfl, len_ok rfl, bs.sh, rfl, _, rfl, ?_⟩
    rw [eqv_nilT, hemp]
    obtain ⟨x0, hat0, hx0⟩ := at_len (ds := xs) (t := 0) (Int.le_refl _) (by omega)
    refine iteT ⟨_, rfl, _, 0, x0, rfl, rfl, hat0, _, rfl, ?_⟩
    obtain ⟨y0, ey0, _⟩ := hin.2 x0 hx0
    rw [ey0]
    refine iteT ⟨rfl, _, rfl, 3, rfl, by omega, by decide, by decide, fun v v0 v1 => ⟨_, 0, rfl, rfl, _, rfl, ite2 (fun h => ?_) (fun h => ⟨_, rfl, by show k.n ≤ k.n + 1; omega, by show k.n + 1 ≤ k.n + 1; omega, rfl⟩)⟩⟩
    refine ⟨rfl, _, rfl, _, _, rfl, rfl, _, rfl, _, rfl, by show k.n + 1 ≤ 1000000; omega, by omega, by omega, fun t t0 t1 => ?_⟩
    obtain ⟨x, hat, hx⟩ := at_len t0 t1
    obtain ⟨ys, ey, hy⟩ := hin.2 x hx
    have l1 := cut_len xs none (some t)
    have l2 := cut_len xs (some (t + 1)) none
    refine ⟨_, rfl, _, rfl, _, rfl, _, rfl, rfl, _, rfl, _, rfl, _, _, x, rfl, rfl, hat, _, rfl, ys, by rw [ey], hy, by show k.n + 1 + 1 + _ ≤ 1000000; omega, fun r gr => ?_⟩
    refine ⟨len_ok rfl, _, _, rfl, rfl, (by show _ + 1 ≤ 1000; omega), _, rfl, _, rfl, _, 1, rfl, rfl, _, rfl, _, rfl, _, _, rfl, rfl, (by rw [List.length_append]; show _ + 1 + _ ≤ 1000; omega), _, k.up (5 * ((2 + 1 : Nat) : Int)), rfl, ⟨by show k.n + 1 + 1 + 5 * ((1 + 1 : Nat) : Int) ≤ k.n + 5 * ((2 + 1 : Nat) : Int); omega, rfl⟩, a _ ?_⟩
    exact (Gs.tup ((((gs.cut none (some t)).up44 (by decide)).app (Gs.one gr)).app ((gs.cut (some (t + 1)) none).up44 (by decide)))).mono (by decide) (by decide)
  intro s' hs
  obtain ⟨k1, e, hk1, hk2, hk3⟩ := hs
  subst e
  refine ⟨rfl, _, rfl, _, _, rfl, rfl, _, 1, rfl, rfl, _, rfl, _, rfl, by omega, by omega, by omega, fun t t0 t1 => ?_⟩
  have l1 := cut_len xs none (some t)
  have l2 := cut_len xs (some (t + 1)) none
  have l3 := cut_len xs (some (-1)) none
  have l4 := cut_len xs (some 1) none
  refine ⟨_, rfl, _, rfl, _, rfl, _, rfl, rfl, _, rfl, rfl, by show k1.n + 1 + 1 ≤ 1000000; omega, fun d gd => ?_⟩
  refine ⟨len_ok rfl, _, _, rfl, rfl, (by show _ + 1 ≤ 1000; omega), _, rfl, _, rfl, _, 1, rfl, rfl, _, rfl, _, rfl, _, _, rfl, rfl, (by rw [List.length_append]; show _ + 1 + _ ≤ 1000; omega), _, rfl, _, rfl, _, rfl, _, rfl, 1, rfl, _, rfl, _, rfl, _, _, rfl, rfl, (by omega), _, rfl, _, .inr rfl, len_ok rfl, ?_⟩
  refine ⟨_, rfl, rfl, _, rfl, rfl, by show k1.n + 1 + 1 + 1 ≤ 1000000; omega, fun d2 gd2 => ⟨_, rfl, _, rfl, _, rfl, len_ok rfl, _, _, rfl, rfl, Nat.le_of_ble_eq_true rfl, rfl, _, rfl, 6, rfl, by show k1.n + 1 + 1 + 1 ≤ 1000000; omega, by decide, by decide, fun w w0 w1 => ?_⟩⟩
  obtain ⟨r, hat, gr⟩ := pick_at (xs := [.tuple (cutD xs none (some t) ++ [d] ++ cutD xs (some (t + 1)) none), .tuple xs.reverse, .tuple (xs ++ cutD xs (some (-1)) none), .list xs, d2, .tuple (cutD xs (some 1) none)]) (P := fun d => Gd d (V44 2) (7 + 2)) (fun d hd => by
    simp only [List.mem_cons, List.not_mem_nil, or_false] at hd
    rcases hd with z | z | z | z | z | z
    · rw [z]; exact (Gs.tup (((gs.cut _ _).app (Gs.one gd)).app (gs.cut _ _))).mono (by decide) (by decide)
    · rw [z]; exact (Gs.tup gs.rev).mono (by decide) (by decide)
    · rw [z]; exact (Gs.tup (gs.app (gs.cut _ _))).mono (by decide) (by decide)
    · rw [z]; exact (Gs.lst gs).mono (by decide) (by decide)
    · rw [z]; exact gd2.mono (by decide) (by decide)
    · rw [z]; exact (Gs.tup (gs.cut _ _)).mono (by decide) (by decide)) w0 (by show w < 6; exact w1)
  exact ⟨_, _, r, rfl, rfl, hat, _, k.up (5 * ((2 + 1 : Nat) : Int)), rfl, ⟨by show k1.n + 1 + 1 + 1 + 1 ≤ k.n + 5 * ((2 + 1 : Nat) : Int); omega, hk3⟩, a r gr⟩
abbrev s_is_number : Stmt := topS 5
abbrev N_is_number : List Str := ["value"]
theorem sc_is_number : FnScope N_is_number ["value"] (defScope s_is_number) :=
  ⟨rfl, rfl, rfl, by decide +kernel, rfl, by decide +kernel, by decide +kernel⟩
theorem ok_is_number {f : Addr} {fd : FuncData} (F : Fun K "is_number" "is_number" s_is_number f fd) (T : Bi mg)
    : FnOk P w K mg base CX0 1 f fd ["value"] (spP K RNum) := by
  refine F.ok sc_is_number (fun vs H Q E h => lenP h (by rintro ds A ⟨_, rfl, _⟩; rfl)) (fun cdv Ar outer s H vs Q E hr h => ?_)
  refine ⟨_, (pss_one (ps_ret (pe_and (pe_callB (kisi K) (by rfl) T.isinstance (by decide +kernel) (pa_cons (pv 0) (pa_cons (pe_bltn (v := .ty "int") (by rfl) T.int rfl rfl) pa_nil))) (pe_one (pe_not (pe_callB (kisi K) (by rfl) T.isinstance (by decide +kernel) (pa_cons (pv 0) (pa_cons (pe_bltn (v := .ty "bool") (by rfl) T.bool rfl rfl) pa_nil)))))))), ?_⟩
  refine goP (Δ := ΔB) rfl h (by repeat' (first | (with_reducible (first | apply rs_seq | exact rs_never | exact rs_next | exact rs_retN | apply rs_asg | apply rs_par | apply rs_par3 | apply rs_drop | apply rs_ret | apply rs_if | apply rs_for | apply rs_while | exact re_var | exact re_int | exact re_str | exact re_bl | exact re_non | apply re_op | apply re_un | apply re_isiT | apply re_isiI | apply re_isiB | apply re_srtSc | apply re_srtSet | apply re_cb | apply re_lst | apply re_tup | apply re_tupF | apply re_slU | apply re_slT | apply re_slL | exact ro_none | apply ro_some | apply re_andV | apply re_orV | apply re_notV | apply re_if | apply re_chain | apply rt_test | apply rt_b | apply rt_tru | exact rt_yes | apply rt_and | apply rt_or | apply rt_not | exact ra_nil | apply ra_cons | apply ri_rng1 | apply ri_rng2 | apply ri_tup | apply ri_lst | apply ri_zip | apply ri_enum | apply ri_enT | apply ri_U | apply ri_zm | apply ri_revA | exact rg_name | exact rgs_nil | apply rgs_cons | apply rg_tup | apply re_lc | apply re_listRg | apply re_tupRg | apply rrg1 | apply rrg2 | apply re_index | apply re_revT | apply re_revL | apply re_callK | apply re_callP | exact r2_I0 | exact r2_B0 | exact r2_Ic | exact r2_eq | exact r2_ne | exact r2_isN | exact r2_notN | exact r2_ixA | exact r2_ixT | exact r2_ixL | exact r2_catT | exact r2_catL | exact r2_catS | exact r2_notB | exact r2_repT | exact r2_in | exact r2_eqD | exact r2_neD | exact r1_neg | exact rc_len' | exact rc_tupF | exact rc_listof | exact rc_sorted | exact rc_sum | exact rc_max | exact rc_min | exact rc_all | exact rc_repr | exact rc_abs | exact rc_max2 | exact rc_min2 | exact rc_int1 | exact rc_sortT | apply ri_rng3 | exact re_dnew | exact re_dis1 | exact rc_strI | apply ri_rng3 | apply ra_snoc | apply ra_both | apply re_join | apply re_fstr | apply RJs.cons | exact RJs.nil | apply re_fmt | apply re_tupZip | apply re_lstRg3)) | decide)) (fun ds A hR => ?_)
  obtain ⟨d, e, a⟩ := hR
  subst e
  refine ⟨_, rfl, _, rfl, ?_⟩
  cases d with
  | bool b => exact iteT ⟨_, rfl, _, rfl, a⟩
  | int i => exact iteT ⟨_, rfl, _, rfl, a⟩
  | none => exact iteF a
  | str x => exact iteF a
  | list x => exact iteF a
  | tuple x => exact iteF a
  | dict x => exact iteF a
abbrev s_is_number_within : Stmt := topS 6
abbrev N_is_number_within : List Str := ["value", "least", "most"]
theorem sc_is_number_within : FnScope N_is_number_within ["value", "least", "most"] (defScope s_is_number_within) :=
  ⟨rfl, rfl, rfl, by decide +kernel, rfl, by decide +kernel, by decide +kernel⟩
theorem ok_is_number_within {f : Addr} {fd : FuncData} (F : Fun K "is_number_within" "is_number_within" s_is_number_within f fd) (T : Bi mg)
    (h_is_number : Has P w K mg base 1 "is_number" ["value"] (spP K RNum))
    : FnOk P w K mg base CX0 2 f fd ["value", "least", "most"] (spP K RNumW) := by
  refine F.ok sc_is_number_within (fun vs H Q E h => lenP h (by rintro ds A ⟨_, _, _, rfl, _⟩; rfl)) (fun cdv Ar outer s H vs Q E hr h => ?_)
  refine ⟨_, (pss_one (ps_ret (pe_and (pe_callH h_is_number hr (by decide) (by rfl) (pa_cons (pv 0) pa_nil)) (pe_one (pe_chain op_le op_le (pv 1) (pv 0) (pv 2)))))), ?_⟩
  refine goP (Δ := ΔB) rfl h (by repeat' (first | (with_reducible (first | apply rs_seq | exact rs_never | exact rs_next | exact rs_retN | apply rs_asg | apply rs_par | apply rs_par3 | apply rs_drop | apply rs_ret | apply rs_if | apply rs_for | apply rs_while | exact re_var | exact re_int | exact re_str | exact re_bl | exact re_non | apply re_op | apply re_un | apply re_isiT | apply re_isiI | apply re_isiB | apply re_srtSc | apply re_srtSet | apply re_cb | apply re_lst | apply re_tup | apply re_tupF | apply re_slU | apply re_slT | apply re_slL | exact ro_none | apply ro_some | apply re_andV | apply re_orV | apply re_notV | apply re_if | apply re_chain | apply rt_test | apply rt_b | apply rt_tru | exact rt_yes | apply rt_and | apply rt_or | apply rt_not | exact ra_nil | apply ra_cons | apply ri_rng1 | apply ri_rng2 | apply ri_tup | apply ri_lst | apply ri_zip | apply ri_enum | apply ri_enT | apply ri_U | apply ri_zm | apply ri_revA | exact rg_name | exact rgs_nil | apply rgs_cons | apply rg_tup | apply re_lc | apply re_listRg | apply re_tupRg | apply rrg1 | apply rrg2 | apply re_index | apply re_revT | apply re_revL | apply re_callK | apply re_callP | exact r2_I0 | exact r2_B0 | exact r2_Ic | exact r2_eq | exact r2_ne | exact r2_isN | exact r2_notN | exact r2_ixA | exact r2_ixT | exact r2_ixL | exact r2_catT | exact r2_catL | exact r2_catS | exact r2_notB | exact r2_repT | exact r2_in | exact r2_eqD | exact r2_neD | exact r1_neg | exact rc_len' | exact rc_tupF | exact rc_listof | exact rc_sorted | exact rc_sum | exact rc_max | exact rc_min | exact rc_all | exact rc_repr | exact rc_abs | exact rc_max2 | exact rc_min2 | exact rc_int1 | exact rc_sortT | apply ri_rng3 | exact re_dnew | exact re_dis1 | exact rc_strI | apply ri_rng3 | apply ra_snoc | apply ra_both | apply re_join | apply re_fstr | apply RJs.cons | exact RJs.nil | apply re_fmt | apply re_tupZip | apply re_lstRg3)) | decide)) (fun ds A hR => ?_)
  obtain ⟨d, lo, hi, e, a⟩ := hR
  subst e
  refine ⟨_, rfl, d, rfl, _, rfl, ?_⟩
  cases d with
  | int i =>
    refine iteT ⟨_, rfl, _, rfl, _, _, rfl, rfl, _, rfl, ?_⟩
    have a : A (.bool (decide (lo ≤ i) && decide (i ≤ hi))) := a
    refine ite2 (fun h => ?_) (fun h => ?_)
    · rw [h, Bool.true_and] at a
      exact ⟨_, rfl, _, _, rfl, rfl, a⟩
    · rw [(Bool.not_eq_true _).mp h, Bool.false_and] at a
      exact a
  | bool b => exact iteF a
  | none => exact iteF a
  | str x => exact iteF a
  | list x => exact iteF a
  | tuple x => exact iteF a
  | dict x => exact iteF a
abbrev s_is_tuple_within : Stmt := topS 9
abbrev N_is_tuple_within : List Str := ["value", "least", "most"]
theorem sc_is_tuple_within : FnScope N_is_tuple_within ["value", "least", "most"] (defScope s_is_tuple_within) :=
  ⟨rfl, rfl, rfl, by decide +kernel, rfl, by decide +kernel, by decide +kernel⟩
theorem ok_is_tuple_within {f : Addr} {fd : FuncData} (F : Fun K "is_tuple_within" "is_tuple_within" s_is_tuple_within f fd) (T : Bi mg)
    : FnOk P w K mg base CX0 1 f fd ["value", "least", "most"] (spP K RTupW) := by
  refine F.ok sc_is_tuple_within (fun vs H Q E h => lenP h (by rintro ds A ⟨_, _, _, rfl, _⟩; rfl)) (fun cdv Ar outer s H vs Q E hr h => ?_)
  refine ⟨_, (pss_one (ps_ret (pe_and (pe_callB (kisi K) (by rfl) T.isinstance (by decide +kernel) (pa_cons (pv 0) (pa_cons (pe_bltn (v := .ty "tuple") (by rfl) T.tuple rfl rfl) pa_nil))) (pe_one (pe_chain op_le op_le (pv 1) (pe_callB (klen K) (by rfl) T.len (by decide +kernel) (pa_cons (pv 0) pa_nil)) (pv 2)))))), ?_⟩
  refine goP (Δ := ΔB) rfl h (by repeat' (first | (with_reducible (first | apply rs_seq | exact rs_never | exact rs_next | exact rs_retN | apply rs_asg | apply rs_par | apply rs_par3 | apply rs_drop | apply rs_ret | apply rs_if | apply rs_for | apply rs_while | exact re_var | exact re_int | exact re_str | exact re_bl | exact re_non | apply re_op | apply re_un | apply re_isiT | apply re_isiI | apply re_isiB | apply re_srtSc | apply re_srtSet | apply re_cb | apply re_lst | apply re_tup | apply re_tupF | apply re_slU | apply re_slT | apply re_slL | exact ro_none | apply ro_some | apply re_andV | apply re_orV | apply re_notV | apply re_if | apply re_chain | apply rt_test | apply rt_b | apply rt_tru | exact rt_yes | apply rt_and | apply rt_or | apply rt_not | exact ra_nil | apply ra_cons | apply ri_rng1 | apply ri_rng2 | apply ri_tup | apply ri_lst | apply ri_zip | apply ri_enum | apply ri_enT | apply ri_U | apply ri_zm | apply ri_revA | exact rg_name | exact rgs_nil | apply rgs_cons | apply rg_tup | apply re_lc | apply re_listRg | apply re_tupRg | apply rrg1 | apply rrg2 | apply re_index | apply re_revT | apply re_revL | apply re_callK | apply re_callP | exact r2_I0 | exact r2_B0 | exact r2_Ic | exact r2_eq | exact r2_ne | exact r2_isN | exact r2_notN | exact r2_ixA | exact r2_ixT | exact r2_ixL | exact r2_catT | exact r2_catL | exact r2_catS | exact r2_notB | exact r2_repT | exact r2_in | exact r2_eqD | exact r2_neD | exact r1_neg | exact rc_len' | exact rc_tupF | exact rc_listof | exact rc_sorted | exact rc_sum | exact rc_max | exact rc_min | exact rc_all | exact rc_repr | exact rc_abs | exact rc_max2 | exact rc_min2 | exact rc_int1 | exact rc_sortT | apply ri_rng3 | exact re_dnew | exact re_dis1 | exact rc_strI | apply ri_rng3 | apply ra_snoc | apply ra_both | apply re_join | apply re_fstr | apply RJs.cons | exact RJs.nil | apply re_fmt | apply re_tupZip | apply re_lstRg3)) | decide)) (fun ds A hR => ?_)
  obtain ⟨d, lo, hi, e, a⟩ := hR
  subst e
  refine ⟨_, rfl, _, rfl, ?_⟩
  cases d with
  | tuple ds =>
    refine iteT ⟨_, rfl, _, rfl, _, _, rfl, rfl, _, _, rfl, rfl, _, rfl, ?_⟩
    have a : A (.bool (decide (lo ≤ (ds.length : Nat)) && decide (((ds.length : Nat) : Int) ≤ hi))) := a
    refine ite2 (fun h => ?_) (fun h => ?_)
    · rw [h, Bool.true_and] at a
      exact ⟨_, rfl, _, _, rfl, rfl, a⟩
    · rw [(Bool.not_eq_true _).mp h, Bool.false_and] at a
      exact a
  | bool b => exact iteF a
  | none => exact iteF a
  | str x => exact iteF a
  | list x => exact iteF a
  | int x => exact iteF a
  | dict x => exact iteF a
abbrev s_is_pair : Stmt := topS 10
abbrev N_is_pair : List Str := ["value"]
theorem sc_is_pair : FnScope N_is_pair ["value"] (defScope s_is_pair) :=
  ⟨rfl, rfl, rfl, by decide +kernel, rfl, by decide +kernel, by decide +kernel⟩
theorem ok_is_pair {f : Addr} {fd : FuncData} (F : Fun K "is_pair" "is_pair" s_is_pair f fd) (T : Bi mg)
    (h_is_tuple_within : Has P w K mg base 1 "is_tuple_within" ["value", "least", "most"] (spP K RTupW))
    : FnOk P w K mg base CX0 2 f fd ["value"] (spP K RPairV) := by
  refine F.ok sc_is_pair (fun vs H Q E h => lenP h (by rintro ds A ⟨_, rfl, _⟩; rfl)) (fun cdv Ar outer s H vs Q E hr h => ?_)
  refine ⟨_, (pss_one (ps_ret (pe_callH h_is_tuple_within hr (by decide) (by rfl) (pa_cons (pv 0) (pa_cons pe_int (pa_cons pe_int pa_nil)))))), ?_⟩
  refine goP (Δ := ΔB) rfl h (by repeat' (first | (with_reducible (first | apply rs_seq | exact rs_never | exact rs_next | exact rs_retN | apply rs_asg | apply rs_par | apply rs_par3 | apply rs_drop | apply rs_ret | apply rs_if | apply rs_for | apply rs_while | exact re_var | exact re_int | exact re_str | exact re_bl | exact re_non | apply re_op | apply re_un | apply re_isiT | apply re_isiI | apply re_isiB | apply re_srtSc | apply re_srtSet | apply re_cb | apply re_lst | apply re_tup | apply re_tupF | apply re_slU | apply re_slT | apply re_slL | exact ro_none | apply ro_some | apply re_andV | apply re_orV | apply re_notV | apply re_if | apply re_chain | apply rt_test | apply rt_b | apply rt_tru | exact rt_yes | apply rt_and | apply rt_or | apply rt_not | exact ra_nil | apply ra_cons | apply ri_rng1 | apply ri_rng2 | apply ri_tup | apply ri_lst | apply ri_zip | apply ri_enum | apply ri_enT | apply ri_U | apply ri_zm | apply ri_revA | exact rg_name | exact rgs_nil | apply rgs_cons | apply rg_tup | apply re_lc | apply re_listRg | apply re_tupRg | apply rrg1 | apply rrg2 | apply re_index | apply re_revT | apply re_revL | apply re_callK | apply re_callP | exact r2_I0 | exact r2_B0 | exact r2_Ic | exact r2_eq | exact r2_ne | exact r2_isN | exact r2_notN | exact r2_ixA | exact r2_ixT | exact r2_ixL | exact r2_catT | exact r2_catL | exact r2_catS | exact r2_notB | exact r2_repT | exact r2_in | exact r2_eqD | exact r2_neD | exact r1_neg | exact rc_len' | exact rc_tupF | exact rc_listof | exact rc_sorted | exact rc_sum | exact rc_max | exact rc_min | exact rc_all | exact rc_repr | exact rc_abs | exact rc_max2 | exact rc_min2 | exact rc_int1 | exact rc_sortT | apply ri_rng3 | exact re_dnew | exact re_dis1 | exact rc_strI | apply ri_rng3 | apply ra_snoc | apply ra_both | apply re_join | apply re_fstr | apply RJs.cons | exact RJs.nil | apply re_fmt | apply re_tupZip | apply re_lstRg3)) | decide)) (fun ds A hR => ?_)
  obtain ⟨d, e, a⟩ := hR
  subst e
  exact ⟨_, rfl, d, 2, 2, rfl, a⟩
abbrev s_is_place : Stmt := topS 7
abbrev N_is_place : List Str := ["m", "value"]
theorem sc_is_place : FnScope N_is_place ["m", "value"] (defScope s_is_place) :=
  ⟨rfl, rfl, rfl, by decide +kernel, rfl, by decide +kernel, by decide +kernel⟩
theorem ok_is_place {f : Addr} {fd : FuncData} (F : Fun K "is_place" "is_place" s_is_place f fd) (T : Bi mg)
    (h_is_number_within : Has P w K mg base 2 "is_number_within" ["value", "least", "most"] (spP K RNumW))
    : FnOk P w K mg base CX0 3 f fd ["m", "value"] (spP K RPlace) := by
  refine F.ok sc_is_place (fun vs H Q E h => lenP h (by rintro ds A ⟨_, _, rfl, _⟩; rfl)) (fun cdv Ar outer s H vs Q E hr h => ?_)
  refine ⟨_, (pss_one (ps_ret (pe_callH h_is_number_within hr (by decide) (by rfl) (pa_cons (pv 1) (pa_cons pe_int (pa_cons (pe_op op_sub (pv 0) pe_int) pa_nil)))))), ?_⟩
  refine goP (Δ := ΔB) rfl h (by repeat' (first | (with_reducible (first | apply rs_seq | exact rs_never | exact rs_next | exact rs_retN | apply rs_asg | apply rs_par | apply rs_par3 | apply rs_drop | apply rs_ret | apply rs_if | apply rs_for | apply rs_while | exact re_var | exact re_int | exact re_str | exact re_bl | exact re_non | apply re_op | apply re_un | apply re_isiT | apply re_isiI | apply re_isiB | apply re_srtSc | apply re_srtSet | apply re_cb | apply re_lst | apply re_tup | apply re_tupF | apply re_slU | apply re_slT | apply re_slL | exact ro_none | apply ro_some | apply re_andV | apply re_orV | apply re_notV | apply re_if | apply re_chain | apply rt_test | apply rt_b | apply rt_tru | exact rt_yes | apply rt_and | apply rt_or | apply rt_not | exact ra_nil | apply ra_cons | apply ri_rng1 | apply ri_rng2 | apply ri_tup | apply ri_lst | apply ri_zip | apply ri_enum | apply ri_enT | apply ri_U | apply ri_zm | apply ri_revA | exact rg_name | exact rgs_nil | apply rgs_cons | apply rg_tup | apply re_lc | apply re_listRg | apply re_tupRg | apply rrg1 | apply rrg2 | apply re_index | apply re_revT | apply re_revL | apply re_callK | apply re_callP | exact r2_I0 | exact r2_B0 | exact r2_Ic | exact r2_eq | exact r2_ne | exact r2_isN | exact r2_notN | exact r2_ixA | exact r2_ixT | exact r2_ixL | exact r2_catT | exact r2_catL | exact r2_catS | exact r2_notB | exact r2_repT | exact r2_in | exact r2_eqD | exact r2_neD | exact r1_neg | exact rc_len' | exact rc_tupF | exact rc_listof | exact rc_sorted | exact rc_sum | exact rc_max | exact rc_min | exact rc_all | exact rc_repr | exact rc_abs | exact rc_max2 | exact rc_min2 | exact rc_int1 | exact rc_sortT | apply ri_rng3 | exact re_dnew | exact re_dis1 | exact rc_strI | apply ri_rng3 | apply ra_snoc | apply ra_both | apply re_join | apply re_fstr | apply RJs.cons | exact RJs.nil | apply re_fmt | apply re_tupZip | apply re_lstRg3)) | decide)) (fun ds A hR => ?_)
  obtain ⟨m, d, e, a⟩ := hR
  subst e
  exact ⟨_, rfl, _, rfl, m, 1, rfl, rfl, d, 0, m - 1, rfl, a⟩
abbrev s_is_pair_of_places : Stmt := topS 24
abbrev N_is_pair_of_places : List Str := ["m", "value"]
theorem sc_is_pair_of_places : FnScope N_is_pair_of_places ["m", "value"] (defScope s_is_pair_of_places) :=
  ⟨rfl, rfl, rfl, by decide +kernel, rfl, by decide +kernel, by decide +kernel⟩
theorem ok_is_pair_of_places {f : Addr} {fd : FuncData} (F : Fun K "is_pair_of_places" "is_pair_of_places" s_is_pair_of_places f fd) (T : Bi mg)
    (h_is_pair : Has P w K mg base 2 "is_pair" ["value"] (spP K RPairV))
    (h_is_place : Has P w K mg base 3 "is_place" ["m", "value"] (spP K RPlace))
    : FnOk P w K mg base CX0 4 f fd ["m", "value"] (spP K RPPlA) := by
  refine F.ok sc_is_pair_of_places (fun vs H Q E h => lenP h (by rintro ds A ⟨_, _, rfl, _⟩; rfl)) (fun cdv Ar outer s H vs Q E hr h => ?_)
  refine ⟨_, (pss_one (ps_ret (pe_and (pe_callH h_is_pair hr (by decide) (by rfl) (pa_cons (pv 1) pa_nil)) (pe_and (pe_callH h_is_place hr (by decide) (by rfl) (pa_cons (pv 0) (pa_cons (pe_ix (kixA K) (pv 1) pe_int (fun _ _ => rfl)) pa_nil))) (pe_one (pe_callH h_is_place hr (by decide) (by rfl) (pa_cons (pv 0) (pa_cons (pe_ix (kixA K) (pv 1) pe_int (fun _ _ => rfl)) pa_nil)))))))), ?_⟩
  refine goP (Δ := ΔD) rfl h (by repeat' (first | (with_reducible (first | apply rs_seq | exact rs_never | exact rs_next | exact rs_retN | apply rs_asg | apply rs_par | apply rs_par3 | apply rs_drop | apply rs_ret | apply rs_if | apply rs_for | apply rs_while | exact re_var | exact re_int | exact re_str | exact re_bl | exact re_non | apply re_op | apply re_un | apply re_isiT | apply re_isiI | apply re_isiB | apply re_srtSc | apply re_srtSet | apply re_cb | apply re_lst | apply re_tup | apply re_tupF | apply re_slU | apply re_slT | apply re_slL | exact ro_none | apply ro_some | apply re_andV | apply re_orV | apply re_notV | apply re_if | apply re_chain | apply rt_test | apply rt_b | apply rt_tru | exact rt_yes | apply rt_and | apply rt_or | apply rt_not | exact ra_nil | apply ra_cons | apply ri_rng1 | apply ri_rng2 | apply ri_tup | apply ri_lst | apply ri_zip | apply ri_enum | apply ri_enT | apply ri_U | apply ri_zm | apply ri_revA | exact rg_name | exact rgs_nil | apply rgs_cons | apply rg_tup | apply re_lc | apply re_listRg | apply re_tupRg | apply rrg1 | apply rrg2 | apply re_index | apply re_revT | apply re_revL | apply re_callK | apply re_callP | exact r2_I0 | exact r2_B0 | exact r2_Ic | exact r2_eq | exact r2_ne | exact r2_isN | exact r2_notN | exact r2_ixA | exact r2_ixT | exact r2_ixL | exact r2_catT | exact r2_catL | exact r2_catS | exact r2_notB | exact r2_repT | exact r2_in | exact r2_eqD | exact r2_neD | exact r1_neg | exact rc_len' | exact rc_tupF | exact rc_listof | exact rc_sorted | exact rc_sum | exact rc_max | exact rc_min | exact rc_all | exact rc_repr | exact rc_abs | exact rc_max2 | exact rc_min2 | exact rc_int1 | exact rc_sortT | apply ri_rng3 | exact re_dnew | exact re_dis1 | exact rc_strI | apply ri_rng3 | apply ra_snoc | apply ra_both | apply re_join | apply re_fstr | apply RJs.cons | exact RJs.nil | apply re_fmt | apply re_tupZip | apply re_lstRg3)) | decide)) (fun ds A hR => ?_)
  obtain ⟨m, d, e, a⟩ := hR
  subst e
  refine ⟨_, rfl, d, rfl, _, rfl, ite2 (fun h => ?_) (fun h => ?_)⟩
  · obtain ⟨x, y, e⟩ := tup_two h
    subst e
    refine ⟨_, rfl, _, rfl, _, _, x, rfl, rfl, atI_nat (j := 0) rfl, m, x, rfl, _, rfl, ite2 (fun h1 => ?_) (fun h1 => ?_)⟩
    · refine ⟨_, rfl, _, rfl, _, _, y, rfl, rfl, atI_nat (j := 1) rfl, m, y, rfl, ?_⟩
      have e : pairB m (.tuple [x, y]) = numIn 0 (m - 1) y := by
        show (numIn 0 (m - 1) x && numIn 0 (m - 1) y) = _
        rw [h1, Bool.true_and]
      rw [e] at a
      exact a
    · have e : pairB m (.tuple [x, y]) = false := by
        show (numIn 0 (m - 1) x && numIn 0 (m - 1) y) = _
        rw [(Bool.not_eq_true _).mp h1, Bool.false_and]
      rw [e] at a
      exact a
  · rw [pairB_no ((Bool.not_eq_true _).mp h)] at a
    exact a
abbrev s_begin_fits : Stmt := topS 25
abbrev N_begin_fits : List Str := ["pairs", "index", "begin"]
theorem sc_begin_fits : FnScope N_begin_fits ["pairs", "index"] (defScope s_begin_fits) :=
  ⟨rfl, rfl, rfl, by decide +kernel, rfl, by decide +kernel, by decide +kernel⟩
theorem ok_begin_fits {f : Addr} {fd : FuncData} (F : Fun K "begin_fits" "begin_fits" s_begin_fits f fd) (T : Bi mg)
    : FnOk P w K mg base CX0 1 f fd ["pairs", "index"] (spP K RBfA) := by
  refine F.ok sc_begin_fits (fun vs H Q E h => lenP h (by rintro ds A ⟨_, _, _, rfl, _⟩; rfl)) (fun cdv Ar outer s H vs Q E hr h => ?_)
  refine ⟨_, (pss_cons (ps_set (i := 2) sc_begin_fits.nd rfl (.inl rfl) (pe_ix (kixA K) (pe_ix (kixA K) (pv 0) (pv 1) (fun _ _ => rfl)) pe_int (fun _ _ => rfl)))
  (pss_cons (ps_if (pt_cmpR op_eq (pe_callB (klen K) (by rfl) T.len (by decide +kernel) (pa_cons (pv 0) pa_nil)) pe_int (nomark _))
  (pss_one (ps_ret (pe_cmpR op_eq (pv 2) pe_int (nomark _))))
  pss_nil)
  (pss_one (ps_ret (pe_or (pe_cmpR op_eq (pv 1) pe_int (nomark _)) (pe_one (pe_cmpR op_gt (pv 2) (pe_ix (kixA K) (pe_ix (kixA K) (pv 0) (pe_op op_sub (pv 1) pe_int) (fun _ _ => rfl)) pe_int (fun _ _ => rfl)) (nomark _)))))))), ?_⟩
  refine goP (Δ := ΔD) rfl h (by repeat' (first | (with_reducible (first | apply rs_seq | exact rs_never | exact rs_next | exact rs_retN | apply rs_asg | apply rs_par | apply rs_par3 | apply rs_drop | apply rs_ret | apply rs_if | apply rs_for | apply rs_while | exact re_var | exact re_int | exact re_str | exact re_bl | exact re_non | apply re_op | apply re_un | apply re_isiT | apply re_isiI | apply re_isiB | apply re_srtSc | apply re_srtSet | apply re_cb | apply re_lst | apply re_tup | apply re_tupF | apply re_slU | apply re_slT | apply re_slL | exact ro_none | apply ro_some | apply re_andV | apply re_orV | apply re_notV | apply re_if | apply re_chain | apply rt_test | apply rt_b | apply rt_tru | exact rt_yes | apply rt_and | apply rt_or | apply rt_not | exact ra_nil | apply ra_cons | apply ri_rng1 | apply ri_rng2 | apply ri_tup | apply ri_lst | apply ri_zip | apply ri_enum | apply ri_enT | apply ri_U | apply ri_zm | apply ri_revA | exact rg_name | exact rgs_nil | apply rgs_cons | apply rg_tup | apply re_lc | apply re_listRg | apply re_tupRg | apply rrg1 | apply rrg2 | apply re_index | apply re_revT | apply re_revL | apply re_callK | apply re_callP | exact r2_I0 | exact r2_B0 | exact r2_Ic | exact r2_eq | exact r2_ne | exact r2_isN | exact r2_notN | exact r2_ixA | exact r2_ixT | exact r2_ixL | exact r2_catT | exact r2_catL | exact r2_catS | exact r2_notB | exact r2_repT | exact r2_in | exact r2_eqD | exact r2_neD | exact r1_neg | exact rc_len' | exact rc_tupF | exact rc_listof | exact rc_sorted | exact rc_sum | exact rc_max | exact rc_min | exact rc_all | exact rc_repr | exact rc_abs | exact rc_max2 | exact rc_min2 | exact rc_int1 | exact rc_sortT | apply ri_rng3 | exact re_dnew | exact re_dis1 | exact rc_strI | apply ri_rng3 | apply ra_snoc | apply ra_both | apply re_join | apply re_fstr | apply RJs.cons | exact RJs.nil | apply re_fmt | apply re_tupZip | apply re_lstRg3)) | decide)) (fun ds A hR => ?_)
  obtain ⟨xs, tl, i, e, hi, hf, a⟩ := hR
  subst e
  have hl := hf.1
  refine ⟨_, rfl, _, rfl, _, _, _, rfl, rfl, atI_nat (hf.2 i (Nat.lt_succ_self i)), _, 0, _, rfl, rfl, rfl, ?_⟩
  refine ⟨_, rfl, _, _, rfl, rfl, .inl ⟨_, 1, rfl, rfl, _, rfl, ite2 (fun h => ?_) (fun h => ?_)⟩⟩
  · have h : ((xs.length : Nat) : Int) = 1 := of_decide_eq_true ((Bool.false_xor _).symm.trans h)
    refine ⟨_, rfl, .inl ⟨_, 0, rfl, rfl, ?_⟩⟩
    unfold bF at a
    rw [if_pos (by omega)] at a
    rw [Bool.false_xor]
    exact a
  · have h : ¬ ((xs.length : Nat) : Int) = 1 := fun z => h ((Bool.false_xor _).trans (decide_eq_true z))
    unfold bF at a
    rw [if_neg (by omega)] at a
    refine ⟨_, rfl, .inl ⟨_, 0, rfl, rfl, _, rfl, ite2 (fun h2 => ?_) (fun h2 => ?_)⟩⟩
    · have h2 : ((i : Nat) : Int) = 0 := of_decide_eq_true ((Bool.false_xor _).symm.trans h2)
      rw [decide_eq_true (show i = 0 by omega), Bool.true_or] at a
      exact a
    · have h2 : ¬ ((i : Nat) : Int) = 0 := fun z => h2 ((Bool.false_xor _).trans (decide_eq_true z))
      rw [decide_eq_false (show ¬ i = 0 by omega), Bool.false_or] at a
      have hb : atI xs (((i : Nat) : Int) - 1) = some (pairD (tlAt tl (i - 1))) := by
        rw [show ((i : Nat) : Int) - 1 = ((i - 1 : Nat) : Int) by omega]
        exact atI_nat (hf.2 (i - 1) (by omega))
      exact ⟨_, rfl, _, rfl, _, rfl, _, 1, rfl, rfl, _, _, _, rfl, rfl, hb, _, 0, _, rfl, rfl, rfl, _, _, rfl, rfl, a⟩
abbrev s_target_fits : Stmt := topS 26
abbrev N_target_fits : List Str := ["m", "pairs", "index", "first"]
theorem sc_target_fits : FnScope N_target_fits ["m", "pairs", "index"] (defScope s_target_fits) :=
  ⟨rfl, rfl, rfl, by decide +kernel, rfl, by decide +kernel, by decide +kernel⟩
theorem ok_target_fits {f : Addr} {fd : FuncData} (F : Fun K "target_fits" "target_fits" s_target_fits f fd) (T : Bi mg)
    : FnOk P w K mg base CX0 1 f fd ["m", "pairs", "index"] (spP K RTfA) := by
  refine F.ok sc_target_fits (fun vs H Q E h => lenP h (by rintro ds A ⟨_, _, _, _, rfl, _⟩; rfl)) (fun cdv Ar outer s H vs Q E hr h => ?_)
  refine ⟨_, (pss_cons (ps_if (pt_cmpR op_eq (pv 2) pe_int (nomark _))
  (pss_one (ps_ret pe_bl))
  pss_nil)
  (pss_cons (ps_set (i := 3) sc_target_fits.nd rfl (.inl rfl) (pe_ix (kixA K) (pe_ix (kixA K) (pv 1) pe_int (fun _ _ => rfl)) pe_int (fun _ _ => rfl)))
  (pss_one (ps_ret (pe_cmpR op_gt (pe_op op_mod (pe_op op_sub (pe_ix (kixA K) (pe_ix (kixA K) (pv 1) (pv 2) (fun _ _ => rfl)) pe_int (fun _ _ => rfl)) (pv 3)) (pv 0)) (pe_op op_mod (pe_op op_sub (pe_ix (kixA K) (pe_ix (kixA K) (pv 1) (pe_op op_sub (pv 2) pe_int) (fun _ _ => rfl)) pe_int (fun _ _ => rfl)) (pv 3)) (pv 0)) (nomark _)))))), ?_⟩
  refine goP (Δ := ΔD) rfl h (by repeat' (first | (with_reducible (first | apply rs_seq | exact rs_never | exact rs_next | exact rs_retN | apply rs_asg | apply rs_par | apply rs_par3 | apply rs_drop | apply rs_ret | apply rs_if | apply rs_for | apply rs_while | exact re_var | exact re_int | exact re_str | exact re_bl | exact re_non | apply re_op | apply re_un | apply re_isiT | apply re_isiI | apply re_isiB | apply re_srtSc | apply re_srtSet | apply re_cb | apply re_lst | apply re_tup | apply re_tupF | apply re_slU | apply re_slT | apply re_slL | exact ro_none | apply ro_some | apply re_andV | apply re_orV | apply re_notV | apply re_if | apply re_chain | apply rt_test | apply rt_b | apply rt_tru | exact rt_yes | apply rt_and | apply rt_or | apply rt_not | exact ra_nil | apply ra_cons | apply ri_rng1 | apply ri_rng2 | apply ri_tup | apply ri_lst | apply ri_zip | apply ri_enum | apply ri_enT | apply ri_U | apply ri_zm | apply ri_revA | exact rg_name | exact rgs_nil | apply rgs_cons | apply rg_tup | apply re_lc | apply re_listRg | apply re_tupRg | apply rrg1 | apply rrg2 | apply re_index | apply re_revT | apply re_revL | apply re_callK | apply re_callP | exact r2_I0 | exact r2_B0 | exact r2_Ic | exact r2_eq | exact r2_ne | exact r2_isN | exact r2_notN | exact r2_ixA | exact r2_ixT | exact r2_ixL | exact r2_catT | exact r2_catL | exact r2_catS | exact r2_notB | exact r2_repT | exact r2_in | exact r2_eqD | exact r2_neD | exact r1_neg | exact rc_len' | exact rc_tupF | exact rc_listof | exact rc_sorted | exact rc_sum | exact rc_max | exact rc_min | exact rc_all | exact rc_repr | exact rc_abs | exact rc_max2 | exact rc_min2 | exact rc_int1 | exact rc_sortT | apply ri_rng3 | exact re_dnew | exact re_dis1 | exact rc_strI | apply ri_rng3 | apply ra_snoc | apply ra_both | apply re_join | apply re_fstr | apply RJs.cons | exact RJs.nil | apply re_fmt | apply re_tupZip | apply re_lstRg3)) | decide)) (fun ds A hR => ?_)
  obtain ⟨m, xs, tl, i, e, hm, hi, hf, a⟩ := hR
  subst e
  unfold tF at a
  refine ⟨_, rfl, .inl ⟨_, 0, rfl, rfl, _, rfl, ite2 (fun h2 => ?_) (fun h2 => ?_)⟩⟩
  · have h2 : ((i : Nat) : Int) = 0 := of_decide_eq_true ((Bool.false_xor _).symm.trans h2)
    rw [decide_eq_true (show i = 0 by omega), Bool.true_or] at a
    exact a
  · have h2 : ¬ ((i : Nat) : Int) = 0 := fun z => h2 ((Bool.false_xor _).trans (decide_eq_true z))
    rw [decide_eq_false (show ¬ i = 0 by omega), Bool.false_or] at a
    refine ⟨_, rfl, _, 0, _, rfl, rfl, atI_nat (hf.2 0 (by omega)), _, 1, _, rfl, rfl, rfl, ?_⟩
    refine ⟨_, rfl, _, rfl, _, _, _, rfl, rfl, atI_nat (hf.2 i (Nat.lt_succ_self i)), _, 1, _, rfl, rfl, rfl, _, rfl, _, _, rfl, rfl, _, rfl, _, _, rfl, rfl, (by omega : 0 < m), ?_⟩
    have hb : atI xs (((i : Nat) : Int) - 1) = some (pairD (tlAt tl (i - 1))) := by
      rw [show ((i : Nat) : Int) - 1 = ((i - 1 : Nat) : Int) by omega]
      exact atI_nat (hf.2 (i - 1) (by omega))
    exact ⟨_, rfl, _, rfl, _, 1, rfl, rfl, _, _, _, rfl, rfl, hb, _, 1, _, rfl, rfl, rfl, _, rfl, _, _, rfl, rfl, _, rfl, _, _, rfl, rfl, (by omega : 0 < m), _, _, rfl, rfl, a⟩
abbrev s_item_error : Stmt := topS 23
abbrev N_item_error : List Str := ["m", "items", "index"]
theorem sc_item_error : FnScope N_item_error ["m", "items", "index"] (defScope s_item_error) :=
  ⟨rfl, rfl, rfl, by decide +kernel, rfl, by decide +kernel, by decide +kernel⟩
theorem ok_item_error {f : Addr} {fd : FuncData} (F : Fun K "item_error" "item_error" s_item_error f fd) (T : Bi mg)
    (h_is_pair_of_places : Has P w K mg base 4 "is_pair_of_places" ["m", "value"] (spP K RPPlA))
    (h_begin_fits : Has P w K mg base 1 "begin_fits" ["pairs", "index"] (spP K RBfA))
    (h_target_fits : Has P w K mg base 1 "target_fits" ["m", "pairs", "index"] (spP K RTfA))
    : FnOk P w K mg base CX0 5 f fd ["m", "items", "index"] (spP K RIeA) := by
  refine F.ok sc_item_error (fun vs H Q E h => lenP h (by rintro ds A ⟨_, _, _, _, _, rfl, _⟩; rfl)) (fun cdv Ar outer s H vs Q E hr h => ?_)
  refine ⟨_, (pss_cons (ps_if (pt_not (pt_val (pe_callH h_is_pair_of_places hr (by decide) (by rfl) (pa_cons (pv 0) (pa_cons (pe_ix (kixA K) (pv 1) (pv 2) (fun _ _ => rfl)) pa_nil)))))
  (pss_one (ps_ret pe_str))
  pss_nil)
  (pss_cons (ps_if (pt_not (pt_val (pe_callH h_begin_fits hr (by decide) (by rfl) (pa_cons (pv 1) (pa_cons (pv 2) pa_nil)))))
  (pss_one (ps_ret pe_str))
  pss_nil)
  (pss_cons (ps_if (pt_not (pt_val (pe_callH h_target_fits hr (by decide) (by rfl) (pa_cons (pv 0) (pa_cons (pv 1) (pa_cons (pv 2) pa_nil))))))
  (pss_one (ps_ret pe_str))
  pss_nil)
  (pss_one (ps_ret pe_non))))), ?_⟩
  refine goP (Δ := ΔD) rfl h (by repeat' (first | (with_reducible (first | apply rs_seq | exact rs_never | exact rs_next | exact rs_retN | apply rs_asg | apply rs_par | apply rs_par3 | apply rs_drop | apply rs_ret | apply rs_if | apply rs_for | apply rs_while | exact re_var | exact re_int | exact re_str | exact re_bl | exact re_non | apply re_op | apply re_un | apply re_isiT | apply re_isiI | apply re_isiB | apply re_srtSc | apply re_srtSet | apply re_cb | apply re_lst | apply re_tup | apply re_tupF | apply re_slU | apply re_slT | apply re_slL | exact ro_none | apply ro_some | apply re_andV | apply re_orV | apply re_notV | apply re_if | apply re_chain | apply rt_test | apply rt_b | apply rt_tru | exact rt_yes | apply rt_and | apply rt_or | apply rt_not | exact ra_nil | apply ra_cons | apply ri_rng1 | apply ri_rng2 | apply ri_tup | apply ri_lst | apply ri_zip | apply ri_enum | apply ri_enT | apply ri_U | apply ri_zm | apply ri_revA | exact rg_name | exact rgs_nil | apply rgs_cons | apply rg_tup | apply re_lc | apply re_listRg | apply re_tupRg | apply rrg1 | apply rrg2 | apply re_index | apply re_revT | apply re_revL | apply re_callK | apply re_callP | exact r2_I0 | exact r2_B0 | exact r2_Ic | exact r2_eq | exact r2_ne | exact r2_isN | exact r2_notN | exact r2_ixA | exact r2_ixT | exact r2_ixL | exact r2_catT | exact r2_catL | exact r2_catS | exact r2_notB | exact r2_repT | exact r2_in | exact r2_eqD | exact r2_neD | exact r1_neg | exact rc_len' | exact rc_tupF | exact rc_listof | exact rc_sorted | exact rc_sum | exact rc_max | exact rc_min | exact rc_all | exact rc_repr | exact rc_abs | exact rc_max2 | exact rc_min2 | exact rc_int1 | exact rc_sortT | apply ri_rng3 | exact re_dnew | exact re_dis1 | exact rc_strI | apply ri_rng3 | apply ra_snoc | apply ra_both | apply re_join | apply re_fstr | apply RJs.cons | exact RJs.nil | apply re_fmt | apply re_tupZip | apply re_lstRg3)) | decide)) (fun ds A hR => ?_)
  obtain ⟨m, xs, tl, i, d, e, hm, hx, hf, a1, a2⟩ := hR
  subst e
  have hi := (List.getElem?_eq_some_iff.mp hx).1
  refine ⟨_, rfl, _, rfl, _, rfl, _, _, _, rfl, rfl, atI_nat hx, m, d, rfl, _, rfl, ite2 (fun h => ?_) (fun h => ?_)⟩
  · exact a1 (by simpa using h) _
  · have h1 : pairB m d = true := by simpa using h
    obtain ⟨p, ep, hr⟩ := pairB_iff.mp h1
    subst ep
    obtain ⟨b1, b2⟩ := a2 p rfl hr
    obtain ⟨f1, f2, _⟩ := hf.set hx
    have eB : itemB m (tl.set i p) i = (rngB m p && bF (tl.set i p) i && tF m (tl.set i p) i) := by
      unfold itemB
      rw [f2]
    refine ⟨_, rfl, _, rfl, xs, tl.set i p, i, rfl, hi, f1, _, rfl, ite2 (fun h => ?_) (fun h => ?_)⟩
    · refine b2 ?_ _
      rw [eB, hr, show bF (tl.set i p) i = false by simpa using h]
      rfl
    · have h2 : bF (tl.set i p) i = true := by simpa using h
      refine ⟨_, rfl, _, rfl, _, rfl, m, xs, tl.set i p, i, rfl, hm, hi, f1, _, rfl, ite2 (fun h => ?_) (fun h => ?_)⟩
      · refine b2 ?_ _
        rw [eB, hr, h2, show tF m (tl.set i p) i = false by simpa using h]
        rfl
      · refine b1 ?_
        rw [eB, hr, h2, show tF m (tl.set i p) i = true by simpa using h]
        rfl
abbrev s_tool_error : Stmt := topS 22
abbrev N_tool_error : List Str := ["m", "value", "index", "word"]
theorem sc_tool_error : FnScope N_tool_error ["m", "value"] (defScope s_tool_error) :=
  ⟨rfl, rfl, rfl, by decide +kernel, rfl, by decide +kernel, by decide +kernel⟩
theorem ok_tool_error {f : Addr} {fd : FuncData} (F : Fun K "tool_error" "tool_error" s_tool_error f fd) (T : Bi mg)
    (hMA : ∃ t, mg "MAX_ARCS" = some (.int 12 t))
    (h_is_tuple_within : Has P w K mg base 1 "is_tuple_within" ["value", "least", "most"] (spP K RTupW))
    (h_item_error : Has P w K mg base 5 "item_error" ["m", "items", "index"] (spP K RIeA))
    : FnOk P w K mg base CX0 6 f fd ["m", "value"] (spP K RTeA) := by
  refine F.ok sc_tool_error (fun vs H Q E h => lenP h (by rintro ds A ⟨_, _, rfl, _⟩; rfl)) (fun cdv Ar outer s H vs Q E hr h => ?_)
  refine ⟨_, (pss_cons (ps_if (pt_not (pt_val (pe_callH h_is_tuple_within hr (by decide) (by rfl) (pa_cons (pv 1) (pa_cons pe_int (pa_cons (pe_glob (v := .int 12) (by rfl) hMA.choose_spec ⟨_, rfl⟩) pa_nil))))))
  (pss_one (ps_ret (pe_tup (pa_cons pe_non (pa_cons pe_str pa_nil)))))
  pss_nil)
  (pss_cons (ps_for PassesOwn.never rfl (pi_range1 (by rfl) T.range (pa_cons (pe_callB (klen K) (by rfl) T.len (by decide +kernel) (pa_cons (pv 1) pa_nil)) pa_nil)) (pg_name (i := 2) sc_tool_error.nd rfl (.inl rfl))
  (pss_cons (ps_set (i := 3) sc_tool_error.nd rfl (.inl rfl) (pe_callH h_item_error hr (by decide) (by rfl) (pa_cons (pv 0) (pa_cons (pv 1) (pa_cons (pv 2) pa_nil)))))
  (pss_one (ps_if (pt_cmpR op_notN (pv 3) pe_non (nomark _))
  (pss_one (ps_ret (pe_tup (pa_cons (pv 2) (pa_cons (pv 3) pa_nil)))))
  pss_nil))))
  (pss_one (ps_ret pe_non)))), ?_⟩
  refine goP (Δ := ΔD) rfl h (by repeat' (first | (with_reducible (first | apply rs_seq | exact rs_never | exact rs_next | exact rs_retN | apply rs_asg | apply rs_par | apply rs_par3 | apply rs_drop | apply rs_ret | apply rs_if | apply rs_for | apply rs_while | exact re_var | exact re_int | exact re_str | exact re_bl | exact re_non | apply re_op | apply re_un | apply re_isiT | apply re_isiI | apply re_isiB | apply re_srtSc | apply re_srtSet | apply re_cb | apply re_lst | apply re_tup | apply re_tupF | apply re_slU | apply re_slT | apply re_slL | exact ro_none | apply ro_some | apply re_andV | apply re_orV | apply re_notV | apply re_if | apply re_chain | apply rt_test | apply rt_b | apply rt_tru | exact rt_yes | apply rt_and | apply rt_or | apply rt_not | exact ra_nil | apply ra_cons | apply ri_rng1 | apply ri_rng2 | apply ri_tup | apply ri_lst | apply ri_zip | apply ri_enum | apply ri_enT | apply ri_U | apply ri_zm | apply ri_revA | exact rg_name | exact rgs_nil | apply rgs_cons | apply rg_tup | apply re_lc | apply re_listRg | apply re_tupRg | apply rrg1 | apply rrg2 | apply re_index | apply re_revT | apply re_revL | apply re_callK | apply re_callP | exact r2_I0 | exact r2_B0 | exact r2_Ic | exact r2_eq | exact r2_ne | exact r2_isN | exact r2_notN | exact r2_ixA | exact r2_ixT | exact r2_ixL | exact r2_catT | exact r2_catL | exact r2_catS | exact r2_notB | exact r2_repT | exact r2_in | exact r2_eqD | exact r2_neD | exact r1_neg | exact rc_len' | exact rc_tupF | exact rc_listof | exact rc_sorted | exact rc_sum | exact rc_max | exact rc_min | exact rc_all | exact rc_repr | exact rc_abs | exact rc_max2 | exact rc_min2 | exact rc_int1 | exact rc_sortT | apply ri_rng3 | exact re_dnew | exact re_dis1 | exact rc_strI | apply ri_rng3 | apply ra_snoc | apply ra_both | apply re_join | apply re_fstr | apply RJs.cons | exact RJs.nil | apply re_fmt | apply re_tupZip | apply re_lstRg3)) | decide)) (fun ds A hR => ?_)
  obtain ⟨m, d, e, hm, a1, a2⟩ := hR
  subst e
  refine ⟨_, rfl, _, 1, 12, rfl, _, rfl, ite2 (fun h => ?_) (fun h => ?_)⟩
  · refine ⟨len_ok rfl, a2 (fun z => ?_) _⟩
    rw [tl_in z] at h
    cases h
  · have h : tupIn 1 12 d = true := by simpa using h
    obtain ⟨xs, ex, h1, h12⟩ := tup_lenV (lo := 1) (hi := 12) h
    subst ex
    refine ⟨_, rfl, _, _, rfl, rfl, _, rfl, by omega, by omega, ?_⟩
    refine ⟨fun i s => ∃ (y2 y3 : Sl), s = ⟨[.dat (.int m), .dat (.tuple xs), y2, y3], none⟩ ∧ ∃ tl, Fit tl xs i ∧ ∀ j, j < i → itemB m tl j = true, ⟨_, _, rfl, _, Fit.nil xs, fun j hj => absurd hj (Nat.not_lt_zero _)⟩, ?_, ?_⟩
    · intro i x s hx hs
      obtain ⟨y2, y3, e, tl, hf, hall⟩ := hs
      subst e
      obtain ⟨ex, hi⟩ := range_at hx
      rw [Int.toNat_natCast] at hi
      subst ex
      rw [Int.zero_add]
      have hxi := List.getElem?_eq_getElem hi
      refine ⟨_, rfl, _, rfl, _, rfl, m, xs, tl, i, xs[i], rfl, hm, hxi, hf, fun hb x => ?_, fun p ep hr => ⟨fun hb => ?_, fun hb x => ?_⟩⟩
      · exact ⟨_, rfl, rfl, _, rfl, iteT ⟨_, rfl, _, rfl, len_ok rfl, a2 (not_tool hxi (.inl hb)) _⟩⟩
      · obtain ⟨f1, f2, f3⟩ := hf.set (hxi.trans (congrArg some ep))
        refine ⟨_, rfl, rfl, _, rfl, iteF ⟨_, _, rfl, _, f1, fun j hj => ?_⟩⟩
        by_cases z : j = i
        · rw [z]
          exact hb
        · rw [← hall j (by omega)]
          exact item_agree List.length_set fun k hk => f3 k (by omega)
      · obtain ⟨f1, f2, f3⟩ := hf.set (hxi.trans (congrArg some ep))
        exact ⟨_, rfl, rfl, _, rfl, iteT ⟨_, rfl, _, rfl, len_ok rfl, a2 (not_tool hxi (.inr ⟨_, f1, hb⟩)) _⟩⟩
    · intro s hs
      obtain ⟨y2, y3, e, tl, hf, hall⟩ := hs
      subst e
      rw [List.length_map, List.length_range, Int.toNat_natCast] at hf hall
      exact a1 (all_tool hf h1 h12 hall)
abbrev s_is_tool : Stmt := topS 21
abbrev N_is_tool : List Str := ["m", "value"]
theorem sc_is_tool : FnScope N_is_tool ["m", "value"] (defScope s_is_tool) :=
  ⟨rfl, rfl, rfl, by decide +kernel, rfl, by decide +kernel, by decide +kernel⟩
theorem ok_is_tool {f : Addr} {fd : FuncData} (F : Fun K "is_tool" "is_tool" s_is_tool f fd) (T : Bi mg)
    (h_tool_error : Has P w K mg base 6 "tool_error" ["m", "value"] (spP K RTeA))
    : FnOk P w K mg base CX0 7 f fd ["m", "value"] (spP K RItA) := by
  refine F.ok sc_is_tool (fun vs H Q E h => lenP h (by rintro ds A ⟨_, _, rfl, _⟩; rfl)) (fun cdv Ar outer s H vs Q E hr h => ?_)
  refine ⟨_, (pss_one (ps_ret (pe_cmpR op_isN (pe_callH h_tool_error hr (by decide) (by rfl) (pa_cons (pv 0) (pa_cons (pv 1) pa_nil))) pe_non (nomark _)))), ?_⟩
  refine goP (Δ := ΔD) rfl h (by repeat' (first | (with_reducible (first | apply rs_seq | exact rs_never | exact rs_next | exact rs_retN | apply rs_asg | apply rs_par | apply rs_par3 | apply rs_drop | apply rs_ret | apply rs_if | apply rs_for | apply rs_while | exact re_var | exact re_int | exact re_str | exact re_bl | exact re_non | apply re_op | apply re_un | apply re_isiT | apply re_isiI | apply re_isiB | apply re_srtSc | apply re_srtSet | apply re_cb | apply re_lst | apply re_tup | apply re_tupF | apply re_slU | apply re_slT | apply re_slL | exact ro_none | apply ro_some | apply re_andV | apply re_orV | apply re_notV | apply re_if | apply re_chain | apply rt_test | apply rt_b | apply rt_tru | exact rt_yes | apply rt_and | apply rt_or | apply rt_not | exact ra_nil | apply ra_cons | apply ri_rng1 | apply ri_rng2 | apply ri_tup | apply ri_lst | apply ri_zip | apply ri_enum | apply ri_enT | apply ri_U | apply ri_zm | apply ri_revA | exact rg_name | exact rgs_nil | apply rgs_cons | apply rg_tup | apply re_lc | apply re_listRg | apply re_tupRg | apply rrg1 | apply rrg2 | apply re_index | apply re_revT | apply re_revL | apply re_callK | apply re_callP | exact r2_I0 | exact r2_B0 | exact r2_Ic | exact r2_eq | exact r2_ne | exact r2_isN | exact r2_notN | exact r2_ixA | exact r2_ixT | exact r2_ixL | exact r2_catT | exact r2_catL | exact r2_catS | exact r2_notB | exact r2_repT | exact r2_in | exact r2_eqD | exact r2_neD | exact r1_neg | exact rc_len' | exact rc_tupF | exact rc_listof | exact rc_sorted | exact rc_sum | exact rc_max | exact rc_min | exact rc_all | exact rc_repr | exact rc_abs | exact rc_max2 | exact rc_min2 | exact rc_int1 | exact rc_sortT | apply ri_rng3 | exact re_dnew | exact re_dis1 | exact rc_strI | apply ri_rng3 | apply ra_snoc | apply ra_both | apply re_join | apply re_fstr | apply RJs.cons | exact RJs.nil | apply re_fmt | apply re_tupZip | apply re_lstRg3)) | decide)) (fun ds A hR => ?_)
  obtain ⟨m, d, e, hm, a⟩ := hR
  subst e
  exact ⟨_, rfl, _, rfl, m, d, rfl, hm, fun h => ⟨rfl, a true ⟨fun _ => h, fun _ => rfl⟩⟩, fun h xs => ⟨rfl, a false ⟨fun z => absurd z Bool.false_ne_true, fun z => absurd z h⟩⟩⟩
abbrev s_check_tools : Stmt := topS 35
abbrev N_check_tools : List Str := ["m", "value", "index", "item"]
theorem sc_check_tools : FnScope N_check_tools ["m", "value"] (defScope s_check_tools) :=
  ⟨rfl, rfl, rfl, by decide +kernel, rfl, by decide +kernel, by decide +kernel⟩
theorem ok_check_tools {f : Addr} {fd : FuncData} (F : Fun K "check_tools" "check_tools" s_check_tools f fd) (T : Bi mg) {CT : Addr}
    (hMT : ∃ t, mg "MAX_TOOLS" = some (.int 4 t))
    (E_BadTools : ErrC P w K mg base "BadTools" "index" CT)
    (h_is_tuple_within : Has P w K mg base 1 "is_tuple_within" ["value", "least", "most"] (spP K RTupW))
    (h_is_tool : Has P w K mg base 7 "is_tool" ["m", "value"] (spP K RItA))
    : FnOk P w K mg base (L2.CX P w) 9 f fd ["m", "value"] (spX K (RChkA CT)) := by
  refine F.okX sc_check_tools (fun vs H Q E h => lenX h (by rintro ds A X ⟨_, _, rfl, _⟩; rfl)) (fun cdv Ar outer s H vs Q E hr h => ?_)
  refine ⟨_, (pss_cons (ps_if (pt_not (pt_val (pe_callH h_is_tuple_within hr (by decide) (by rfl) (pa_cons (pv 1) (pa_cons pe_int (pa_cons (pe_glob (v := .int 4) (by rfl) hMT.choose_spec ⟨_, rfl⟩) pa_nil))))))
  (pss_one (kps_raise K rfl (takes_of rfl rfl rfl rfl) E_BadTools hr (by decide) (by rfl) (pa_cons pe_non pa_nil)))
  pss_nil)
  (pss_one (ps_for (passes_of rfl) rfl (kienT K (by rfl) T.enumerate (pa_cons (pv 1) pa_nil)) (kgtup K 2 rfl (pgs_cons (pg_name (i := 2) sc_check_tools.nd rfl (.inl rfl)) (pgs_cons (pg_name (i := 3) sc_check_tools.nd rfl (.inl rfl)) pgs_nil)))
  (pss_one (ps_if (pt_not (pt_val (pe_callH h_is_tool hr (by decide) (by rfl) (pa_cons (pv 0) (pa_cons (pv 3) pa_nil)))))
  (pss_one (kps_raise K rfl (takes_of rfl rfl rfl rfl) E_BadTools hr (by decide) (by rfl) (pa_cons (pv 2) pa_nil)))
  pss_nil))))), ?_⟩
  refine goX (Δ := ΔD) rfl h (by repeat' (first | (with_reducible (first | apply rsx_seq | apply rsx_if | apply rsx_for | apply rsx_asgX | apply rsx_dropX | apply rsx_retX | apply rsx_raise | apply rsx_of | apply rs_tryOnly | intro _ | exact E_BadTools.ox | exact E_BadTools.no | apply rs_seq | exact rs_never | exact rs_next | exact rs_retN | apply rs_asg | apply rs_par | apply rs_par3 | apply rs_drop | apply rs_ret | apply rs_if | apply rs_for | apply rs_while | exact re_var | exact re_int | exact re_str | exact re_bl | exact re_non | apply re_op | apply re_un | apply re_isiT | apply re_isiI | apply re_isiB | apply re_srtSc | apply re_srtSet | apply re_cb | apply re_lst | apply re_tup | apply re_tupF | apply re_slU | apply re_slT | apply re_slL | exact ro_none | apply ro_some | apply re_andV | apply re_orV | apply re_notV | apply re_if | apply re_chain | apply rt_test | apply rt_b | apply rt_tru | exact rt_yes | apply rt_and | apply rt_or | apply rt_not | exact ra_nil | apply ra_cons | apply ri_rng1 | apply ri_rng2 | apply ri_tup | apply ri_lst | apply ri_zip | apply ri_enum | apply ri_enT | apply ri_U | apply ri_zm | apply ri_revA | exact rg_name | exact rgs_nil | apply rgs_cons | apply rg_tup | apply re_lc | apply re_listRg | apply re_tupRg | apply rrg1 | apply rrg2 | apply re_index | apply re_revT | apply re_revL | apply re_callK | apply re_callP | exact r2_I0 | exact r2_B0 | exact r2_Ic | exact r2_eq | exact r2_ne | exact r2_isN | exact r2_notN | exact r2_ixA | exact r2_ixT | exact r2_ixL | exact r2_catT | exact r2_catL | exact r2_catS | exact r2_notB | exact r2_repT | exact r2_in | exact r2_eqD | exact r2_neD | exact r1_neg | exact rc_len' | exact rc_tupF | exact rc_listof | exact rc_sorted | exact rc_sum | exact rc_max | exact rc_min | exact rc_all | exact rc_repr | exact rc_abs | exact rc_max2 | exact rc_min2 | exact rc_int1 | exact rc_sortT | apply ri_rng3 | exact re_dnew | exact re_dis1 | exact rc_strI | apply ri_rng3 | apply ra_snoc | apply ra_both | apply re_join | apply re_fstr | apply RJs.cons | exact RJs.nil | apply re_fmt | apply re_tupZip | apply re_lstRg3)) | decide)) (fun ds A X hR => ?_)
  obtain ⟨m, d, e, hm, x1, x2⟩ := hR
  subst e
  refine ⟨_, rfl, d, 1, 4, rfl, _, rfl, ?_⟩
  cases hT : tupIn 1 4 d with
  | false => exact iteT ⟨_, rfl, x1 hT⟩
  | true =>
    obtain ⟨xs, ex, h1, h4⟩ := tup_lenV (lo := 1) (hi := 4) hT
    subst ex
    obtain ⟨y1, y2⟩ := x2 xs rfl hT
    refine iteF ?_
    refine ⟨_, rfl, _, rfl, fun i s => ∃ (z2 z3 : Sl), s = ⟨[.dat (.int m), .dat (.tuple xs), z2, z3], none⟩ ∧ ∀ j u, j < i → xs[j]? = some u → isTl m u, ⟨_, _, rfl, fun j u hj _ => absurd hj (Nat.not_lt_zero _)⟩, ?_, ?_⟩
    · intro i z s hz hs
      obtain ⟨z2, z3, e, hh⟩ := hs
      subst e
      obtain ⟨x, hx, e⟩ := enumD_get hz
      subst e
      refine ⟨_, rfl, rfl, _, _, rfl, _, _, rfl, rfl, _, rfl, _, rfl, m, x, rfl, hm, fun b hb => ⟨_, rfl, ?_⟩⟩
      cases b with
      | false => exact iteT ⟨_, rfl, _, rfl, y2 i x hx (fun z => Bool.false_ne_true (hb.mpr z)) hh⟩
      | true =>
        refine iteF ⟨_, _, rfl, fun j u hj hu => ?_⟩
        by_cases z : j = i
        · rw [z, hx] at hu
          rw [← Option.some.inj hu]
          exact hb.mp rfl
        · exact hh j u (by omega) hu
    · intro s hs
      obtain ⟨z2, z3, e, hh⟩ := hs
      rw [enumD_len] at hh
      refine y1 fun t ht => ?_
      obtain ⟨j, hj⟩ := List.getElem?_of_mem ht
      exact hh j t (List.getElem?_eq_some_iff.mp hj).1 hj
abbrev s__law_made : Stmt := topS 48
abbrev N__law_made : List Str := ["_law_m", "_law_tools", "e", "_law_flags"]
theorem sc__law_made : FnScope N__law_made ["_law_m", "_law_tools"] (defScope s__law_made) :=
  ⟨rfl, rfl, rfl, by decide +kernel, rfl, by decide +kernel, by decide +kernel⟩
theorem ok__law_made {f : Addr} {fd : FuncData} (F : Fun K "_law_made" "_law_made" s__law_made f fd) (T : Bi mg) (sys : ∃ o, base.get? sysModules = some o) {CP CB CT CF CL CU CE : Addr}
    (E_BadCircle : ErrC P w K mg base "BadCircle" "value" CB)
    (E_BadTools : ErrC P w K mg base "BadTools" "index" CT)
    (M_BadCircle : mg "BadCircle" = some (.ref CB))
    (M_BadTools : mg "BadTools" = some (.ref CT))
    (M_BadEdits : mg "BadEdits" = some (.ref CF))
    (M_BadLength : mg "BadLength" = some (.ref CL))
    (M_BadTurn : mg "BadTurn" = some (.ref CU))
    (M_PushError : mg "PushError" = some (.ref CE))
    (M_ValueError : mg "ValueError" = none)
    (kBB : PySem.W.kitOne K (.ref CB) (.ref CB) = some true)
    (kBT : PySem.W.kitOne K (.ref CB) (.ref CT) = some false)
    (kTB : PySem.W.kitOne K (.ref CT) (.ref CB) = some false)
    (kTT : PySem.W.kitOne K (.ref CT) (.ref CT) = some true)
    (kBV : PySem.W.kitOne K (.ref CB) (.type "ValueError") = some true)
    (kTV : PySem.W.kitOne K (.ref CT) (.type "ValueError") = some true)
    (kB3 : PySem.W.kitAny K (.ref CB) [.ref CF, .ref CL, .ref CU] = some false)
    (kT3 : PySem.W.kitAny K (.ref CT) [.ref CF, .ref CL, .ref CU] = some false)
    (xB : PySem.W.exmOne K (.ref CB) (.ref CE) = some true)
    (xT : PySem.W.exmOne K (.ref CT) (.ref CE) = some true)
    (mkA : MakeH P w K mg base 10 CP "Bench" ["self", "m", "tools"] (spO K (RInitA CP CB CT)))
    : FnG P w K mg base 12 f fd ["_law_m", "_law_tools"] (spY K (RMade44 CP)) := by
  refine fung_ok F sc__law_made (fun vs H Q E h => lenY h (by rintro ds T A O ⟨_, _, rfl, _⟩; rfl)) (fun cdv Ar outer s H vs Q E hgd hr h => ?_)
  refine ⟨_, (pss_cons (kps_tryA K (i := 2) rfl rfl sc__law_made.nd rfl rfl ⟨by rfl, by decide, .inl M_PushError⟩ takes0
  (fun W pn xe tk _ => (pss_one (ps_ret (pe_makeH mkA hr (by decide) tk (by rfl) (pa_cons (pv 0) (pa_cons (pv 1) pa_nil))))))
  (fun a oe cls d pn hz hf => (pss_cons (ps_set (i := 3) sc__law_made.nd rfl (.inl rfl) (pe_lst (pa_cons (pe_callB (call_isX K hz hf) (by rfl) T.isinstance (by decide +kernel) (pa_cons (pv 2) (pa_cons (pe_glob (v := .ref CB) (by rfl) M_BadCircle rfl) pa_nil))) (pa_cons (pe_callB (call_isX K hz hf) (by rfl) T.isinstance (by decide +kernel) (pa_cons (pv 2) (pa_cons (pe_glob (v := .ref CT) (by rfl) M_BadTools rfl) pa_nil))) pa_nil))))
  (pss_one (ps_if (PW.pt (pw_and (pt_cmpR op_eq (kbmR K PySem.F.plainAttrs_list PySem.F.slot_list_count PySem.F.type_list_count (kcntB K hr.units) (pv 3) (pa_cons pe_bl pa_nil)) pe_int (nomark _)) (pw_and (pt_val (pe_callB (call_isX K hz hf) (by rfl) T.isinstance (by decide +kernel) (pa_cons (pv 2) (pa_cons (pe_bltn (v := .ty "ValueError") (by rfl) M_ValueError rfl rfl) pa_nil)))) (pw_and1 (pt_not (pt_val (pe_callB (call_isXT K hz hf) (by rfl) T.isinstance (by decide +kernel) (pa_cons (pv 2) (pa_cons (pe_tup (pa_cons (pe_glob (v := .ref CF) (by rfl) M_BadEdits rfl) (pa_cons (pe_glob (v := .ref CL) (by rfl) M_BadLength rfl) (pa_cons (pe_glob (v := .ref CU) (by rfl) M_BadTurn rfl) pa_nil)))) pa_nil)))))))))
  (pss_one (ps_ret (pe_ifExp (pt_val (pe_ix (kixA K) (pv 3) pe_int (fun _ _ => rfl))) (pe_lst (pa_cons pe_str (pa_cons (pe_callB (kreprV K sys hgd hr.units) (by rfl) T.repr (by decide +kernel) (pa_cons (kxf K E_BadCircle.xf E_BadCircle.no hz hf (pv 2)) pa_nil)) pa_nil))) (pe_lst (pa_cons pe_str (pa_cons (pe_callB (kreprV K sys hgd hr.units) (by rfl) T.repr (by decide +kernel) (pa_cons (kxf K E_BadTools.xf E_BadTools.no hz hf (pv 2)) pa_nil)) pa_nil))))))
  pss_nil)))))
  (pss_one (ps_ret (pe_lst (pa_cons pe_str pa_nil))))), ?_⟩
  refine goY h (by repeat' (first | (with_reducible (first | apply ry_seq | apply ry_tryA | apply ry_retMk initA_none | apply ry_of | apply rs_tryA | exact re_isX | apply re_isXT | exact rcl_nil | apply rcl_cons | exact re_xf | apply re_countB | intro _ | exact re_fld | apply rs_fld | exact re_prop | apply rsx_retM | apply rsx_dropM | apply rsx_asgM | apply re_meth | apply re_callO | exact re_methD | exact re_lenB | exact re_strB | apply rg_lst | apply re_tupZip | apply re_lstRg3 | exact rsx_raise0 | apply rsx_seq | apply rsx_if | apply rsx_for | apply rsx_asgX | apply rsx_dropX | apply rsx_retX | apply rsx_raise | apply rsx_of | apply rs_tryOnly | intro _ | apply rs_seq | exact rs_never | exact rs_next | exact rs_retN | apply rs_asg | apply rs_par | apply rs_par3 | apply rs_drop | apply rs_ret | apply rs_if | apply rs_for | apply rs_while | exact re_var | exact re_int | exact re_str | exact re_bl | exact re_non | apply re_op | apply re_un | apply re_isiT | apply re_isiI | apply re_isiB | apply re_srtSc | apply re_srtSet | apply re_cb | apply re_lst | apply re_tup | apply re_tupF | apply re_slU | apply re_slT | apply re_slL | exact ro_none | apply ro_some | apply re_andV | apply re_orV | apply re_notV | apply re_if | apply re_chain | apply rt_test | apply rt_b | apply rt_tru | exact rt_yes | apply rt_and | apply rt_or | apply rt_not | exact ra_nil | apply ra_cons | apply ri_rng1 | apply ri_rng2 | apply ri_tup | apply ri_lst | apply ri_zip | apply ri_enum | apply ri_enT | apply ri_U | apply ri_zm | apply ri_revA | exact rg_name | exact rgs_nil | apply rgs_cons | apply rg_tup | apply re_lc | apply re_listRg | apply re_tupRg | apply rrg1 | apply rrg2 | apply re_index | apply re_revT | apply re_revL | apply re_callK | apply re_callP | exact r2_I0 | exact r2_B0 | exact r2_Ic | exact r2_eq | exact r2_ne | exact r2_isN | exact r2_notN | exact r2_ixA | exact r2_ixT | exact r2_ixL | exact r2_catT | exact r2_catL | exact r2_catS | exact r2_notB | exact r2_repT | exact r2_in | exact r2_eqD | exact r2_neD | exact r1_neg | exact rc_len' | exact rc_tupF | exact rc_listof | exact rc_sorted | exact rc_sum | exact rc_max | exact rc_min | exact rc_all | exact rc_repr | exact rc_abs | exact rc_max2 | exact rc_min2 | exact rc_int1 | exact rc_sortT | apply ri_rng3 | exact re_dnew | exact re_dis1 | exact rc_strI | apply ri_rng3 | apply ra_snoc | apply ra_both | apply re_join | apply re_fstr | apply RJs.cons | exact RJs.nil | apply re_fmt | apply re_tupZip | apply re_lstRg3)) | decide)) (fun ds Tb A O hR => ?_)
  obtain ⟨dm, d, e, nd, a, b⟩ := hR
  subst e
  refine ⟨_, rfl, _, rfl, _, rfl, fun x hx => ⟨dm, d, rfl, getT_head, fun hN => ?_, fun m em m1 m2 => ⟨fun hT => ?_, fun xs ex hT => ⟨fun hall => ?_, fun i hw => ?_⟩⟩⟩⟩
  · have a' := a (by rw [E44_circle hN]; exact fun z => by cases z)
    rw [E44_circle hN] at a'
    refine ⟨_, rfl, xB, fun y d' => ?_⟩
    refine ⟨_, _, true, rfl, (show [(("value" : Str), dm)] ≠ [] from fun z => by cases z), E_BadCircle.ec, .own _, kBB, _, _, false, rfl, (show [(("value" : Str), dm)] ≠ [] from fun z => by cases z), E_BadCircle.ec, .own _, kBT, len_ok rfl, ?_⟩
    refine ⟨_, rfl, ⟨_, rfl⟩, [true, false], true, rfl, rfl, .inl ⟨_, 1, rfl, rfl, _, rfl, iteT ⟨_, _, true, rfl, (show [(("value" : Str), dm)] ≠ [] from fun z => by cases z), E_BadCircle.ec, .ty _, kBV, _, rfl, iteT ⟨_, _, false, rfl, (show [(("value" : Str), dm)] ≠ [] from fun z => by cases z), Nat.le_of_ble_eq_true rfl, E_BadCircle.ec, .cons (.own _) (.cons (.own _) (.cons (.own _) .nil)), kB3, _, rfl, iteT ?_⟩⟩⟩⟩
    exact ⟨_, rfl, _, 0, .bool true, rfl, rfl, atI_nat (j := 0) rfl, _, rfl, iteT ⟨_, _, rfl, rfl, rfl, dm, rfl, nd, len_ok rfl, _, rfl, a'⟩⟩
  · subst em
    have hN : numIn 1 60 (.int m) = true := by
      show (decide ((1 : Int) ≤ m) && decide (m ≤ 60)) = true
      rw [decide_eq_true m1, decide_eq_true m2]
      rfl
    have a' := a (by rw [E44_none hN hT]; exact fun z => by cases z)
    rw [E44_none hN hT] at a'
    refine ⟨_, rfl, xT, fun y d' => ?_⟩
    refine ⟨_, _, false, rfl, (show [(("index" : Str), PyData.none)] ≠ [] from fun z => by cases z), E_BadTools.ec, .own _, kTB, _, _, true, rfl, (show [(("index" : Str), PyData.none)] ≠ [] from fun z => by cases z), E_BadTools.ec, .own _, kTT, len_ok rfl, ?_⟩
    refine ⟨_, rfl, ⟨_, rfl⟩, [false, true], true, rfl, rfl, .inl ⟨_, 1, rfl, rfl, _, rfl, iteT ⟨_, _, true, rfl, (show [(("index" : Str), PyData.none)] ≠ [] from fun z => by cases z), E_BadTools.ec, .ty _, kTV, _, rfl, iteT ⟨_, _, false, rfl, (show [(("index" : Str), PyData.none)] ≠ [] from fun z => by cases z), Nat.le_of_ble_eq_true rfl, E_BadTools.ec, .cons (.own _) (.cons (.own _) (.cons (.own _) .nil)), kT3, _, rfl, iteT ?_⟩⟩⟩⟩
    exact ⟨_, rfl, _, 0, .bool false, rfl, rfl, atI_nat (j := 0) rfl, _, rfl, iteF ⟨_, _, rfl, rfl, rfl, PyData.none, rfl, (ntc (by decide +kernel)), len_ok rfl, _, rfl, a'⟩⟩
  · subst em ex
    have hN : numIn 1 60 (.int m) = true := by
      show (decide ((1 : Int) ≤ m) && decide (m ≤ 60)) = true
      rw [decide_eq_true m1, decide_eq_true m2]
      rfl
    obtain ⟨tls, et, its⟩ := tools_of hall
    have ok := E44_ok hN hT hall
    subst et
    refine ⟨_, rfl, ?_⟩
    rw [setT_head hx]
    exact b m tls rfl rfl ok x hx
  · subst em ex
    have hN : numIn 1 60 (.int m) = true := by
      show (decide ((1 : Int) ≤ m) && decide (m ≤ 60)) = true
      rw [decide_eq_true m1, decide_eq_true m2]
      rfl
    have a' := a (by rw [E44_wrong hN hT hw]; exact fun z => by cases z)
    rw [E44_wrong hN hT hw] at a'
    have hi : i < 4 := by
      obtain ⟨ys, ey, _, h4⟩ := tup_lenV (lo := 1) (hi := 4) hT
      have ey := PyData.tuple.inj ey
      subst ey
      obtain ⟨t, hxt, _⟩ := hw
      have := (List.getElem?_eq_some_iff.mp hxt).1
      omega
    refine ⟨_, rfl, xT, fun y d' => ?_⟩
    refine ⟨_, _, false, rfl, (show [(("index" : Str), PyData.int ((i : Nat) : Int))] ≠ [] from fun z => by cases z), E_BadTools.ec, .own _, kTB, _, _, true, rfl, (show [(("index" : Str), PyData.int ((i : Nat) : Int))] ≠ [] from fun z => by cases z), E_BadTools.ec, .own _, kTT, len_ok rfl, ?_⟩
    refine ⟨_, rfl, ⟨_, rfl⟩, [false, true], true, rfl, rfl, .inl ⟨_, 1, rfl, rfl, _, rfl, iteT ⟨_, _, true, rfl, (show [(("index" : Str), PyData.int ((i : Nat) : Int))] ≠ [] from fun z => by cases z), E_BadTools.ec, .ty _, kTV, _, rfl, iteT ⟨_, _, false, rfl, (show [(("index" : Str), PyData.int ((i : Nat) : Int))] ≠ [] from fun z => by cases z), Nat.le_of_ble_eq_true rfl, E_BadTools.ec, .cons (.own _) (.cons (.own _) (.cons (.own _) .nil)), kT3, _, rfl, iteT ?_⟩⟩⟩⟩
    exact ⟨_, rfl, _, 0, .bool false, rfl, rfl, atI_nat (j := 0) rfl, _, rfl, iteF ⟨_, _, rfl, rfl, rfl, PyData.int ((i : Nat) : Int), rfl, (nt60 (i := ((i : Nat) : Int)) (Nat.lt_of_lt_of_le (show ((i : Nat) : Int).natAbs < 4 by omega) (by decide))), len_ok rfl, _, rfl, a'⟩⟩
abbrev s__law_is_within : Stmt := topS 44
abbrev N__law_is_within : List Str := ["_law_value", "_law_low", "_law_high"]
theorem sc__law_is_within : FnScope N__law_is_within ["_law_value", "_law_low", "_law_high"] (defScope s__law_is_within) :=
  ⟨rfl, rfl, rfl, by decide +kernel, rfl, by decide +kernel, by decide +kernel⟩
theorem ok__law_is_within {f : Addr} {fd : FuncData} (F : Fun K "_law_is_within" "_law_is_within" s__law_is_within f fd) (T : Bi mg)
    : FnOk P w K mg base CX0 1 f fd ["_law_value", "_law_low", "_law_high"] (spP K RWithin) := by
  refine F.ok sc__law_is_within (fun vs H Q E h => lenP h (by rintro ds A ⟨_, _, _, rfl, _⟩; rfl)) (fun cdv Ar outer s H vs Q E hr h => ?_)
  refine ⟨_, (pss_one (ps_ret (pe_and (pe_callB (kisi K) (by rfl) T.isinstance (by decide +kernel) (pa_cons (pv 0) (pa_cons (pe_bltn (v := .ty "int") (by rfl) T.int rfl rfl) pa_nil))) (pe_and (pe_not (pe_callB (kisi K) (by rfl) T.isinstance (by decide +kernel) (pa_cons (pv 0) (pa_cons (pe_bltn (v := .ty "bool") (by rfl) T.bool rfl rfl) pa_nil)))) (pe_one (pe_chain op_le op_le (pv 1) (pv 0) (pv 2))))))), ?_⟩
  refine goP (Δ := ΔD) rfl h (by repeat' (first | (with_reducible (first | apply rs_seq | exact rs_never | exact rs_next | exact rs_retN | apply rs_asg | apply rs_par | apply rs_par3 | apply rs_drop | apply rs_ret | apply rs_if | apply rs_for | apply rs_while | exact re_var | exact re_int | exact re_str | exact re_bl | exact re_non | apply re_op | apply re_un | apply re_isiT | apply re_isiI | apply re_isiB | apply re_srtSc | apply re_srtSet | apply re_cb | apply re_lst | apply re_tup | apply re_tupF | apply re_slU | apply re_slT | apply re_slL | exact ro_none | apply ro_some | apply re_andV | apply re_orV | apply re_notV | apply re_if | apply re_chain | apply rt_test | apply rt_b | apply rt_tru | exact rt_yes | apply rt_and | apply rt_or | apply rt_not | exact ra_nil | apply ra_cons | apply ri_rng1 | apply ri_rng2 | apply ri_tup | apply ri_lst | apply ri_zip | apply ri_enum | apply ri_enT | apply ri_U | apply ri_zm | apply ri_revA | exact rg_name | exact rgs_nil | apply rgs_cons | apply rg_tup | apply re_lc | apply re_listRg | apply re_tupRg | apply rrg1 | apply rrg2 | apply re_index | apply re_revT | apply re_revL | apply re_callK | apply re_callP | exact r2_I0 | exact r2_B0 | exact r2_Ic | exact r2_eq | exact r2_ne | exact r2_isN | exact r2_notN | exact r2_ixA | exact r2_ixT | exact r2_ixL | exact r2_catT | exact r2_catL | exact r2_catS | exact r2_notB | exact r2_repT | exact r2_in | exact r2_eqD | exact r2_neD | exact r1_neg | exact rc_len' | exact rc_tupF | exact rc_listof | exact rc_sorted | exact rc_sum | exact rc_max | exact rc_min | exact rc_all | exact rc_repr | exact rc_abs | exact rc_max2 | exact rc_min2 | exact rc_int1 | exact rc_sortT | apply ri_rng3 | exact re_dnew | exact re_dis1 | exact rc_strI | apply ri_rng3 | apply ra_snoc | apply ra_both | apply re_join | apply re_fstr | apply RJs.cons | exact RJs.nil | apply re_fmt | apply re_tupZip | apply re_lstRg3)) | decide)) (fun ds A hR => ?_)
  obtain ⟨d, lo, hi, e, a⟩ := hR
  subst e
  refine ⟨_, rfl, _, rfl, ?_⟩
  cases d with
  | int i =>
    refine iteT ⟨_, rfl, _, rfl, _, rfl, iteT ⟨_, rfl, _, rfl, _, _, rfl, rfl, _, rfl, ?_⟩⟩
    have a : A (.bool (decide (lo ≤ i) && decide (i ≤ hi))) := a
    by_cases h : lo ≤ i
    · rw [decide_eq_true h] at a ⊢
      exact iteT ⟨_, rfl, _, _, rfl, rfl, a⟩
    · rw [decide_eq_false h] at a ⊢
      exact iteF a
  | bool b => exact iteT ⟨_, rfl, _, rfl, _, rfl, iteF a⟩
  | none => exact iteF a
  | str x => exact iteF a
  | tuple x => exact iteF a
  | list x => exact iteF a
  | dict x => exact iteF a
abbrev s__law_is_tool : Stmt := topS 45
abbrev N__law_is_tool : List Str := ["_law_m", "_law_value", "_law_pair", "_law_ahead", "_law_begin", "_law_target", "_law_k", "_law_one"]
theorem sc__law_is_tool : FnScope N__law_is_tool ["_law_m", "_law_value"] (defScope s__law_is_tool) :=
  ⟨rfl, rfl, rfl, by decide +kernel, rfl, by decide +kernel, by decide +kernel⟩
theorem ok__law_is_tool {f : Addr} {fd : FuncData} (F : Fun K "_law_is_tool" "_law_is_tool" s__law_is_tool f fd) (T : Bi mg)
    (h__law_is_within : Has P w K mg base 1 "_law_is_within" ["_law_value", "_law_low", "_law_high"] (spP K RWithin))
    : FnOk P w K mg base CX0 2 f fd ["_law_m", "_law_value"] (spP K RItA) := by
  refine F.ok sc__law_is_tool (fun vs H Q E h => lenP h (by rintro ds A ⟨_, _, rfl, _⟩; rfl)) (fun cdv Ar outer s H vs Q E hr h => ?_)
  refine ⟨_, (pss_cons (ps_if (PW.pt (pw_or (pt_not (pt_val (pe_callB (kisi K) (by rfl) T.isinstance (by decide +kernel) (pa_cons (pv 1) (pa_cons (pe_bltn (v := .ty "tuple") (by rfl) T.tuple rfl rfl) pa_nil))))) (pw_or1 (pt_not (pt_chain op_le op_le pe_int (pe_callB (klen K) (by rfl) T.len (by decide +kernel) (pa_cons (pv 1) pa_nil)) pe_int)))))
  (pss_one (ps_ret pe_bl))
  pss_nil)
  (pss_cons (ps_for PassesOwn.never rfl (kitup K (pv 1)) (pg_name (i := 2) sc__law_is_tool.nd rfl (.inl rfl))
  (pss_cons (ps_if (PW.pt (pw_or (pt_not (pt_val (pe_callB (kisi K) (by rfl) T.isinstance (by decide +kernel) (pa_cons (pv 2) (pa_cons (pe_bltn (v := .ty "tuple") (by rfl) T.tuple rfl rfl) pa_nil))))) (pw_or1 (pt_cmpR op_ne (pe_callB (klen K) (by rfl) T.len (by decide +kernel) (pa_cons (pv 2) pa_nil)) pe_int (nomark _)))))
  (pss_one (ps_ret pe_bl))
  pss_nil)
  (pss_one (ps_if (pt_cmpR (kneNil44 K hr.units) (pe_lc (own := [("_law_one", 7)]) rfl sc__law_is_tool.nd (kitup K (pv 2)) (blkOk_by (own := [("_law_one", 7)]) (N := N__law_is_tool) (sc := defScope s__law_is_tool) (by decide +kernel))
    (fun _ _ _ _ _ => (pg_name (i := 7) sc__law_is_tool.nd rfl (.inl rfl))) (fun _ _ _ _ _ => (pts_one (pt_not (pt_val (pe_callH h__law_is_within hr (by decide) (by rfl) (pa_cons (pv 7) (pa_cons pe_int (pa_cons (pe_op op_sub (pv 0) pe_int) pa_nil))))))))
    (fun _ _ _ _ _ => (pv 7))) (pe_lst pa_nil) (nomark _))
  (pss_one (ps_ret pe_bl))
  pss_nil))))
  (pss_cons (ps_if (pt_cmpR op_eq (pe_callB (klen K) (by rfl) T.len (by decide +kernel) (pa_cons (pv 1) pa_nil)) pe_int (nomark _))
  (pss_one (ps_ret (pe_cmpR op_eq (pe_ix (kixA K) (pe_ix (kixA K) (pv 1) pe_int (fun _ _ => rfl)) pe_int (fun _ _ => rfl)) pe_int (nomark _))))
  pss_nil)
  (pss_cons (ps_set (i := 3) sc__law_is_tool.nd rfl (.inr rfl) (pe_lc (own := [("_law_begin", 4), ("_law_target", 5)]) rfl sc__law_is_tool.nd (kitup K (pv 1)) (blkOk_by (own := [("_law_begin", 4), ("_law_target", 5)]) (N := N__law_is_tool) (sc := defScope s__law_is_tool) (by decide +kernel))
    (fun _ _ _ _ _ => (kgtup K 2 rfl (pgs_cons (pg_name (i := 4) sc__law_is_tool.nd rfl (.inl rfl)) (pgs_cons (pg_name (i := 5) sc__law_is_tool.nd rfl (.inl rfl)) pgs_nil)))) (fun _ _ _ _ _ => pts_nil)
    (fun _ _ _ _ _ => (pe_op op_mod (pe_op op_sub (pv 5) (pe_ix (kixA K) (pe_ix (kixA K) (pv 1) pe_int (fun _ _ => rfl)) pe_int (fun _ _ => rfl))) (pv 0)))))
  (pss_one (ps_ret (pe_cmpR (keqD K hr.units) (pe_lc (own := [("_law_k", 6)]) rfl sc__law_is_tool.nd (pi_range2 (by rfl) T.range (pa_cons pe_int (pa_cons (pe_callB (klen K) (by rfl) T.len (by decide +kernel) (pa_cons (pv 1) pa_nil)) pa_nil))) (blkOk_by (own := [("_law_k", 6)]) (N := N__law_is_tool) (sc := defScope s__law_is_tool) (by decide +kernel))
    (fun _ _ _ _ _ => (pg_name (i := 6) sc__law_is_tool.nd rfl (.inl rfl))) (fun _ _ _ _ _ => (pts_one (PW.pt (pw_or (pt_cmpR op_ge (pe_ix (kixA K) (pe_ix (kixA K) (pv 1) (pe_op op_sub (pv 6) pe_int) (fun _ _ => rfl)) pe_int (fun _ _ => rfl)) (pe_ix (kixA K) (pe_ix (kixA K) (pv 1) (pv 6) (fun _ _ => rfl)) pe_int (fun _ _ => rfl)) (nomark _)) (pw_or1 (pt_cmpR op_ge (pe_ix (kixA K) (pv 3) (pe_op op_sub (pv 6) pe_int) (fun _ _ => rfl)) (pe_ix (kixA K) (pv 3) (pv 6) (fun _ _ => rfl)) (nomark _)))))))
    (fun _ _ _ _ _ => (pv 6))) (pe_lst pa_nil) (nomark _)))))))), ?_⟩
  refine goP (Δ := ΔD) rfl h (by repeat' (first | (with_reducible (first | exact r2_neNil44 | apply rs_seq | exact rs_never | exact rs_next | exact rs_retN | apply rs_asg | apply rs_par | apply rs_par3 | apply rs_drop | apply rs_ret | apply rs_if | apply rs_for | apply rs_while | exact re_var | exact re_int | exact re_str | exact re_bl | exact re_non | apply re_op | apply re_un | apply re_isiT | apply re_isiI | apply re_isiB | apply re_srtSc | apply re_srtSet | apply re_cb | apply re_lst | apply re_tup | apply re_tupF | apply re_slU | apply re_slT | apply re_slL | exact ro_none | apply ro_some | apply re_andV | apply re_orV | apply re_notV | apply re_if | apply re_chain | apply rt_test | apply rt_b | apply rt_tru | exact rt_yes | apply rt_and | apply rt_or | apply rt_not | exact ra_nil | apply ra_cons | apply ri_rng1 | apply ri_rng2 | apply ri_tup | apply ri_lst | apply ri_zip | apply ri_enum | apply ri_enT | apply ri_U | apply ri_zm | apply ri_revA | exact rg_name | exact rgs_nil | apply rgs_cons | apply rg_tup | apply re_lc | apply re_listRg | apply re_tupRg | apply rrg1 | apply rrg2 | apply re_index | apply re_revT | apply re_revL | apply re_callK | apply re_callP | exact r2_I0 | exact r2_B0 | exact r2_Ic | exact r2_eq | exact r2_ne | exact r2_isN | exact r2_notN | exact r2_ixA | exact r2_ixT | exact r2_ixL | exact r2_catT | exact r2_catL | exact r2_catS | exact r2_notB | exact r2_repT | exact r2_in | exact r2_eqD | exact r2_neD | exact r1_neg | exact rc_len' | exact rc_tupF | exact rc_listof | exact rc_sorted | exact rc_sum | exact rc_max | exact rc_min | exact rc_all | exact rc_repr | exact rc_abs | exact rc_max2 | exact rc_min2 | exact rc_int1 | exact rc_sortT | apply ri_rng3 | exact re_dnew | exact re_dis1 | exact rc_strI | apply ri_rng3 | apply ra_snoc | apply ra_both | apply re_join | apply re_fstr | apply RJs.cons | exact RJs.nil | apply re_fmt | apply re_tupZip | apply re_lstRg3)) | decide)) (fun ds A hR => ?_)
  obtain ⟨m, d, e, hm, a⟩ := hR
  subst e
  cases hd : isT d with
  | false =>
    refine ⟨_, rfl, _, rfl, ?_⟩
    rw [hd]
    refine iteT (iteT (a false ⟨fun z => absurd z Bool.false_ne_true, fun z => ?_⟩))
    obtain ⟨tl, e, _⟩ := z
    subst e
    cases hd
  | true =>
  obtain ⟨xs, e⟩ := isT_tup hd
  subst e
  have len12 : ∀ z : isTl m (.tuple xs), 1 ≤ xs.length ∧ xs.length ≤ 12 := fun z => by
    obtain ⟨ys, e, h1, h2⟩ := tup_lenV (lo := 1) (hi := 12) (tl_in z)
    rw [PyData.tuple.inj e]
    exact ⟨h1, h2⟩
  refine ⟨_, rfl, _, rfl, iteF ⟨_, rfl, _, _, rfl, rfl, 1, _, rfl, rfl, _, rfl, ite2 (fun h1 => ?_) (fun h1 => ?_)⟩⟩
  rotate_left
  · refine ⟨_, rfl, iteT (a false ⟨fun z => absurd z Bool.false_ne_true, fun z => absurd (decide_eq_true ?_) h1⟩)⟩
    have := len12 z
    omega
  have h1 := of_decide_eq_true h1
  refine ⟨_, 12, rfl, rfl, _, rfl, ite2 (fun h2 => ?_) (fun h2 => ?_)⟩
  · have h2 : ¬ (((xs.length : Nat) : Int) ≤ 12) := by simpa using h2
    exact a false ⟨fun z => absurd z Bool.false_ne_true, fun z => absurd (len12 z).2 (by omega)⟩
  have h2 : (((xs.length : Nat) : Int) ≤ 12) := by simpa using h2
  have no : ∀ {i : Nat} {x : PyData}, xs[i]? = some x → pairB m x = false → A (.bool false) := fun hx hb => a false ⟨fun z => absurd z Bool.false_ne_true, fun z => absurd z (not_tool hx (.inl hb))⟩
  refine ⟨_, rfl, _, rfl, fun i s => ∃ (y2 y7 : Sl), s = ⟨[.dat (.int m), .dat (.tuple xs), y2, .free, .free, .free, .free, y7], none⟩ ∧ ∃ tl, Fit tl xs i ∧ ∀ j, j < i → rngB m (tlAt tl j) = true, ⟨_, _, rfl, _, Fit.nil xs, fun j hj => absurd hj (Nat.not_lt_zero _)⟩, ?_, ?_⟩
  · intro i x s hx hs
    obtain ⟨y2, y7, e, tl, hf, hr⟩ := hs
    subst e
    refine ⟨_, rfl, _, rfl, ?_⟩
    cases hdx : isT x with
    | false =>
      refine iteT (iteT (no hx ?_))
      cases hp : pairB m x with
      | false => rfl
      | true =>
        obtain ⟨p, e, _⟩ := pairB_iff.mp hp
        subst e
        cases hdx
    | true =>
      obtain ⟨ys, e⟩ := isT_tup hdx
      subst e
      refine iteF ⟨_, rfl, _, _, rfl, rfl, .inl ⟨_, 2, rfl, rfl, _, rfl, ite2 (fun hl => ?_) (fun hl => ?_)⟩⟩
      · refine no hx ?_
        cases hp : pairB m (.tuple ys) with
        | false => rfl
        | true =>
          obtain ⟨p, e, _⟩ := pairB_iff.mp hp
          have e : ys = [.int p.1, .int p.2] := PyData.tuple.inj e
          subst e
          cases hl
      · obtain ⟨z1, z2, e⟩ : ∃ z1 z2, ys = [z1, z2] := by
          have hl : ((ys.length : Nat) : Int) = 2 := by simpa using hl
          match ys, hl with
          | [z1, z2], _ => exact ⟨z1, z2, rfl⟩
          | [], hl => exact absurd hl (by decide)
          | [_], hl =>
            exfalso
            have hl : ((1 : Nat) : Int) = 2 := hl
            omega
          | _ :: _ :: _ :: r, hl =>
            exfalso
            have hl : ((r.length + 1 + 1 + 1 : Nat) : Int) = 2 := hl
            omega
        subst e
        refine ⟨_, rfl, _, rfl, lcMapT (l := [z1, z2]) (e := fun d => d) (fun z => !numIn 0 (m - 1) z) (fun d => d) (by show 2 ≤ 100000; decide) ?_ ?_⟩
        · intro z hz Bt Bf hbt hbf R hR
          refine ⟨_, rfl, _, rfl, _, _, rfl, rfl, z, 0, m - 1, rfl, _, rfl, ?_⟩
          cases hn : numIn 0 (m - 1) z with
          | true => exact iteF (hbf (by rw [hn]; rfl) _ rfl)
          | false => exact iteT ⟨_, rfl, hR _ (hbt (by rw [hn]; rfl) _ rfl)⟩
        refine ⟨len_ok rfl, _, rfl, rfl, _, rfl, ?_⟩
        rw [List.map_id', pair_items]
        cases hp : pairB m (.tuple [z1, z2]) with
        | false => exact iteT (no hx hp)
        | true =>
          obtain ⟨p, ep, hrp⟩ := pairB_iff.mp hp
          obtain ⟨f1, f2, f3⟩ := hf.set (hx.trans (congrArg some ep))
          refine iteF ⟨_, _, rfl, _, f1, fun j hj => ?_⟩
          by_cases z : j = i
          · rw [z, f2]
            exact hrp
          · rw [f3 j (by omega)]
            exact hr j (by omega)
  intro s hs
  obtain ⟨y2, y7, e, tl, hf, hr⟩ := hs
  subst e
  have ex := hf.all
  subst ex
  rw [List.length_map] at h1 h2 hr
  have fin : ∀ b, (b = true ↔ toolB m tl = true) → A (.bool b) := fun b hb => a b (hb.trans isTl_iff.symm)
  have at_ : ∀ k : Nat, k < tl.length → atI (tl.map pairD) ((k : Nat) : Int) = some (pairD (tlAt tl k)) := fun k hk => atI_nat (hf.2 k (by rw [List.length_map]; exact hk))
  refine ⟨_, rfl, _, _, rfl, rfl, .inl ⟨_, 1, rfl, rfl, _, rfl, ite2 (fun hl => ?_) (fun hl => ?_)⟩⟩
  · have hl : tl.length = 1 := by
      have hl : (((tl.map pairD).length : Nat) : Int) = 1 := by simpa using hl
      rw [List.length_map] at hl
      omega
    refine ⟨_, rfl, _, 0, _, rfl, rfl, at_ 0 (by omega), _, 0, .int (tlAt tl 0).1, rfl, rfl, atI_nat (j := 0) rfl, .inl ⟨_, 0, rfl, rfl, fin _ ?_⟩⟩
    rw [tool_one hl hr, Bool.false_xor]
  have hn : tl.length ≠ 1 := fun z => hl (by rw [List.length_map, z]; rfl)
  refine ⟨_, rfl, _, rfl, lcMap (l := tl) (e := pairD) (fun p => .int ((p.2 - (tlAt tl 0).2) % m)) (by omega) ?_ ?_⟩
  · intro p hp B hB
    exact ⟨_, rfl, rfl, _, _, rfl, _, _, rfl, rfl, _, rfl, _, rfl, _, 0, _, rfl, rfl, at_ 0 (by omega), _, 1, .int (tlAt tl 0).2, rfl, rfl, atI_nat (j := 1) rfl, _, _, rfl, rfl, _, rfl, _, _, rfl, rfl, (by omega : 0 < m), hB _ (by rfl)⟩
  have aat : ∀ k : Nat, k < tl.length → atI (tl.map fun p => PyData.int ((p.2 - (tlAt tl 0).2) % m)) ((k : Nat) : Int) = some (.int (((tlAt tl k).2 - (tlAt tl 0).2) % m)) := fun k hk => atI_nat (by
    rw [List.getElem?_map, List.getElem?_eq_getElem hk, tlAt_of (List.getElem?_eq_getElem hk)]
    rfl)
  obtain ⟨bad, ebad⟩ : ∃ bad : Nat → Bool, bad = fun x => decide ((tlAt tl (x + 1)).1 ≤ (tlAt tl x).1) || decide (((tlAt tl (x + 1)).2 - (tlAt tl 0).2) % m ≤ ((tlAt tl x).2 - (tlAt tl 0).2) % m) := ⟨_, rfl⟩
  refine ⟨_, rfl, _, _, rfl, rfl, 1, _, rfl, ⟨by decide, by decide, by rw [List.length_map]; omega, by rw [List.length_map]; omega⟩, lcMapT (l := List.range ((((tl.map pairD).length : Nat) : Int) - 1).toNat) (e := fun x : Nat => PyData.int (1 + ((x : Nat) : Int))) bad (fun x => PyData.int (1 + ((x : Nat) : Int))) (by rw [List.length_range, List.length_map]; omega) ?_ ?_⟩
  · intro x hx Bt Bf hbt hbf R hR
    have hx := List.mem_range.mp hx
    rw [List.length_map] at hx
    have i1 : 1 + ((x : Nat) : Int) - 1 = ((x : Nat) : Int) := by omega
    have i2 : 1 + ((x : Nat) : Int) = ((x + 1 : Nat) : Int) := by omega
    have p1 : atI (tl.map pairD) (1 + ((x : Nat) : Int) - 1) = some (pairD (tlAt tl x)) := by rw [i1]; exact at_ x (by omega)
    have p2 : atI (tl.map pairD) (1 + ((x : Nat) : Int)) = some (pairD (tlAt tl (x + 1))) := by rw [i2]; exact at_ (x + 1) (by omega)
    have q1 : atI (tl.map fun p => PyData.int ((p.2 - (tlAt tl 0).2) % m)) (1 + ((x : Nat) : Int) - 1) = some (.int (((tlAt tl x).2 - (tlAt tl 0).2) % m)) := by rw [i1]; exact aat x (by omega)
    have q2 : atI (tl.map fun p => PyData.int ((p.2 - (tlAt tl 0).2) % m)) (1 + ((x : Nat) : Int)) = some (.int (((tlAt tl (x + 1)).2 - (tlAt tl 0).2) % m)) := by rw [i2]; exact aat (x + 1) (by omega)
    refine ⟨_, rfl, _, rfl, _, _, rfl, rfl, _, _, _, rfl, rfl, p1, _, 0, .int (tlAt tl x).1, rfl, rfl, atI_nat (j := 0) rfl, _, rfl, _, rfl, _, _, _, rfl, rfl, p2, _, 0, .int (tlAt tl (x + 1)).1, rfl, rfl, atI_nat (j := 0) rfl, _, _, rfl, rfl, _, rfl, ite2 (fun h => ?_) (fun h => ?_)⟩
    · refine iteT ⟨_, rfl, hR _ (hbt ?_ _ rfl)⟩
      rw [ebad]
      show (decide _ || _) = true
      rw [h, Bool.true_or]
    · have h := (Bool.not_eq_true _).mp h
      refine ⟨_, rfl, _, rfl, _, _, rfl, rfl, _, _, _, rfl, rfl, q1, _, rfl, _, rfl, _, _, _, rfl, rfl, q2, _, _, rfl, rfl, _, rfl, ite2 (fun h2 => ?_) (fun h2 => ?_)⟩
      · refine ⟨_, rfl, hR _ (hbt ?_ _ rfl)⟩
        rw [ebad]
        show (decide _ || _) = true
        rw [h, Bool.false_or]
        exact h2
      · refine hbf ?_ _ rfl
        rw [ebad]
        show (decide _ || _) = false
        rw [h, Bool.false_or]
        exact (Bool.not_eq_true _).mp h2
  have more := tool_more (m := m) (by omega) (by omega) hn hr
  rw [List.length_map]
  obtain ⟨fl, efl⟩ : ∃ fl, fl = (List.range (((tl.length : Nat) : Int) - 1).toNat).filter bad := ⟨_, rfl⟩
  rw [← efl]
  have ev : PyData.eqv (.list (fl.map fun x => PyData.int (1 + ((x : Nat) : Int)))) (.list []) = fl.isEmpty := by cases fl <;> rfl
  have sh : SeqAt.shaped (.list (fl.map fun x => PyData.int (1 + ((x : Nat) : Int)))) = true := by
    rw [show (fl.map fun x => PyData.int (1 + ((x : Nat) : Int))) = (fl.map fun x => 1 + ((x : Nat) : Int)).map PyData.int by rw [List.map_map]; rfl]
    exact shaped_ints
  refine ⟨len_ok rfl, sh, rfl, ?_⟩
  rw [ev, Bool.false_xor]
  refine fin _ ?_
  rw [List.isEmpty_iff, efl, List.filter_eq_nil_iff, more]
  constructor
  · intro h k k1 k2
    have := h (k - 1) (List.mem_range.mpr (by omega))
    rw [ebad] at this
    simp only [Bool.or_eq_true, decide_eq_true_eq, not_or, Int.not_le] at this
    rw [show k - 1 + 1 = k by omega] at this
    exact this
  · intro h x hx
    have := h (x + 1) (by omega) (by have := List.mem_range.mp hx; omega)
    rw [ebad]
    simp only [Bool.or_eq_true, decide_eq_true_eq, not_or, Int.not_le]
    rw [Nat.add_sub_cancel] at this
    exact this
abbrev s__law_expected : Stmt := topS 49
abbrev N__law_expected : List Str := ["_law_m", "_law_tools", "_law_wrong", "_law_index", "_law_tool_here"]
theorem sc__law_expected : FnScope N__law_expected ["_law_m", "_law_tools"] (defScope s__law_expected) :=
  ⟨rfl, rfl, rfl, by decide +kernel, rfl, by decide +kernel, by decide +kernel⟩
theorem ok__law_expected {f : Addr} {fd : FuncData} (F : Fun K "_law_expected" "_law_expected" s__law_expected f fd) (T : Bi mg) (sys : ∃ o, base.get? sysModules = some o)
    (h__law_is_within : Has P w K mg base 1 "_law_is_within" ["_law_value", "_law_low", "_law_high"] (spP K RWithin))
    (h__law_is_tool : Has P w K mg base 2 "_law_is_tool" ["_law_m", "_law_value"] (spP K RItA))
    : FnG P w K mg base 3 f fd ["_law_m", "_law_tools"] (spP K RExp44) := by
  refine fung_ok F sc__law_expected (fun vs H Q E h => lenP h (by rintro ds A ⟨_, _, rfl, _⟩; rfl)) (fun cdv Ar outer s H vs Q E hgd hr h => ?_)
  refine ⟨_, (pss_cons (ps_if (pt_not (pt_val (pe_callH h__law_is_within hr (by decide) (by rfl) (pa_cons (pv 0) (pa_cons pe_int (pa_cons pe_int pa_nil))))))
  (pss_one (ps_ret (pe_lst (pa_cons pe_str (pa_cons (pe_callB (kreprV K sys hgd hr.units) (by rfl) T.repr (by decide +kernel) (pa_cons (pv 0) pa_nil)) pa_nil)))))
  pss_nil)
  (pss_cons (ps_if (PW.pt (pw_or (pt_not (pt_val (pe_callB (kisi K) (by rfl) T.isinstance (by decide +kernel) (pa_cons (pv 1) (pa_cons (pe_bltn (v := .ty "tuple") (by rfl) T.tuple rfl rfl) pa_nil))))) (pw_or1 (pt_not (pt_chain op_le op_le pe_int (pe_callB (klen K) (by rfl) T.len (by decide +kernel) (pa_cons (pv 1) pa_nil)) pe_int)))))
  (pss_one (ps_ret (pe_lst (pa_cons pe_str (pa_cons pe_str pa_nil)))))
  pss_nil)
  (pss_cons (ps_setLc (i := 2) (own := [("_law_index", 3), ("_law_tool_here", 4)]) rfl sc__law_expected.nd rfl rfl (sw_true rfl rfl rfl (by decide +kernel)) (kienT K (by rfl) T.enumerate (pa_cons (pv 1) pa_nil)) (blkOk_by (own := [("_law_index", 3), ("_law_tool_here", 4)]) (N := N__law_expected) (sc := defScope s__law_expected) (by decide +kernel))
    (fun _ _ _ _ _ => (kgtup K 2 rfl (pgs_cons (pg_name (i := 3) sc__law_expected.nd rfl (.inl rfl)) (pgs_cons (pg_name (i := 4) sc__law_expected.nd rfl (.inl rfl)) pgs_nil)))) (fun _ _ _ _ _ => (pts_one (pt_not (pt_val (pe_callH h__law_is_tool hr (by decide) (by rfl) (pa_cons (pv 0) (pa_cons (pv 4) pa_nil)))))))
    (fun _ _ _ _ _ => (pv 3)))
  (pss_one (ps_ret (pe_op op_rep (pe_lst (pa_cons pe_str (pa_cons (pe_callB (kreprV K sys hgd hr.units) (by rfl) T.repr (by decide +kernel) (pa_cons (pe_ix (kixA K) (pe_op op_cat (pv 2) (pe_lst (pa_cons pe_int pa_nil))) pe_int (fun _ _ => rfl)) pa_nil)) pa_nil))) (pe_callTy call_int1 (by rfl) T.int (by decide +kernel) (pa_cons (pe_cmpR (kneD K hr.units) (pv 2) (pe_lst pa_nil) (nomark _)) pa_nil)))))))), ?_⟩
  refine goP (Δ := ΔD) rfl h (by repeat' (first | (with_reducible (first | exact r2_repM | apply rs_seq | exact rs_never | exact rs_next | exact rs_retN | apply rs_asg | apply rs_par | apply rs_par3 | apply rs_drop | apply rs_ret | apply rs_if | apply rs_for | apply rs_while | exact re_var | exact re_int | exact re_str | exact re_bl | exact re_non | apply re_op | apply re_un | apply re_isiT | apply re_isiI | apply re_isiB | apply re_srtSc | apply re_srtSet | apply re_cb | apply re_lst | apply re_tup | apply re_tupF | apply re_slU | apply re_slT | apply re_slL | exact ro_none | apply ro_some | apply re_andV | apply re_orV | apply re_notV | apply re_if | apply re_chain | apply rt_test | apply rt_b | apply rt_tru | exact rt_yes | apply rt_and | apply rt_or | apply rt_not | exact ra_nil | apply ra_cons | apply ri_rng1 | apply ri_rng2 | apply ri_tup | apply ri_lst | apply ri_zip | apply ri_enum | apply ri_enT | apply ri_U | apply ri_zm | apply ri_revA | exact rg_name | exact rgs_nil | apply rgs_cons | apply rg_tup | apply re_lc | apply re_listRg | apply re_tupRg | apply rrg1 | apply rrg2 | apply re_index | apply re_revT | apply re_revL | apply re_callK | apply re_callP | exact r2_I0 | exact r2_B0 | exact r2_Ic | exact r2_eq | exact r2_ne | exact r2_isN | exact r2_notN | exact r2_ixA | exact r2_ixT | exact r2_ixL | exact r2_catT | exact r2_catL | exact r2_catS | exact r2_notB | exact r2_repT | exact r2_in | exact r2_eqD | exact r2_neD | exact r1_neg | exact rc_len' | exact rc_tupF | exact rc_listof | exact rc_sorted | exact rc_sum | exact rc_max | exact rc_min | exact rc_all | exact rc_repr | exact rc_abs | exact rc_max2 | exact rc_min2 | exact rc_int1 | exact rc_sortT | apply ri_rng3 | exact re_dnew | exact re_dis1 | exact rc_strI | apply ri_rng3 | apply ra_snoc | apply ra_both | apply re_join | apply re_fstr | apply RJs.cons | exact RJs.nil | apply re_fmt | apply re_tupZip | apply re_lstRg3)) | decide)) (fun ds A hR => ?_)
  obtain ⟨dm, d, e, nd, a⟩ := hR
  subst e
  refine ⟨_, rfl, dm, 1, 60, rfl, _, rfl, ?_⟩
  cases hN : numIn 1 60 dm with
  | false =>
    rw [E44_circle hN] at a
    exact iteT ⟨_, rfl, _, rfl, nd, len_ok rfl, a⟩
  | true =>
  obtain ⟨m, em, m1, m2⟩ := numIn_int hN
  subst em
  refine iteF ?_
  have none_ : tupIn 1 4 d = false → A (.list [.str "tools", .str "None"]) := fun hT => by
    rw [E44_none hN hT] at a
    exact a
  cases hd : isT d with
  | false =>
    refine ⟨_, rfl, _, rfl, ?_⟩
    rw [hd]
    refine iteT (iteT ⟨len_ok rfl, none_ ?_⟩)
    cases hT : tupIn 1 4 d with
    | false => rfl
    | true =>
      obtain ⟨xs, ex, _⟩ := tup_lenV (lo := 1) (hi := 4) hT
      subst ex
      cases hd
  | true =>
  obtain ⟨xs, e⟩ := isT_tup hd
  subst e
  have eT : tupIn 1 4 (.tuple xs) = (decide ((1 : Int) ≤ ((xs.length : Nat) : Int)) && decide (((xs.length : Nat) : Int) ≤ 4)) := rfl
  refine ⟨_, rfl, _, rfl, iteF ⟨_, rfl, _, _, rfl, rfl, 1, _, rfl, rfl, _, rfl, ite2 (fun h1 => ?_) (fun h1 => ?_)⟩⟩
  rotate_left
  · refine ⟨_, rfl, iteT ⟨len_ok rfl, none_ ?_⟩⟩
    rw [eT, (Bool.not_eq_true _).mp h1, Bool.false_and]
  refine ⟨_, 4, rfl, rfl, _, rfl, ?_⟩
  cases h2 : decide (((xs.length : Nat) : Int) ≤ 4) with
  | false =>
    refine iteT ⟨len_ok rfl, none_ ?_⟩
    rw [eT, h2, Bool.and_false]
  | true =>
  have hT : tupIn 1 4 (.tuple xs) = true := by rw [eT, h1, h2]; rfl
  have h4 := of_decide_eq_true h2
  refine iteF ?_
  refine ⟨_, rfl, _, rfl, lcMapT (l := List.range xs.length) (e := fun i : Nat => PyData.tuple [.int ((i : Nat) : Int), xs.getD i .none]) (fun i => !tlB m (xs.getD i .none)) (fun i => PyData.int ((i : Nat) : Int)) (by rw [List.length_range]; omega) ?_ ?_⟩
  · intro i hi Bt Bf hbt hbf R hR
    refine ⟨_, rfl, rfl, _, _, rfl, _, _, rfl, rfl, _, rfl, _, rfl, m, xs.getD i .none, rfl, m1, fun b hb => ⟨_, rfl, ?_⟩⟩
    rw [tlB_of hb]
    cases ht : tlB m (xs.getD i .none) with
    | true => exact iteF (hbf (by rw [ht]; rfl) _ rfl)
    | false => exact iteT ⟨_, rfl, hR _ (hbt (by rw [ht]; rfl) _ rfl)⟩
  obtain ⟨fl, efl⟩ : ∃ fl, fl = (List.range xs.length).filter fun i => !tlB m (xs.getD i .none) := ⟨_, rfl⟩
  rw [← efl]
  have hfl : fl.length ≤ 4 := by
    rw [efl]
    refine Nat.le_trans (List.length_filter_le _ _) ?_
    rw [List.length_range]
    omega
  have sh : SeqAt.shaped (.list (fl.map fun i => PyData.int ((i : Nat) : Int))) = true := by
    rw [show (fl.map fun i => PyData.int ((i : Nat) : Int)) = (fl.map fun i => ((i : Nat) : Int)).map PyData.int by rw [List.map_map]; rfl]
    exact shaped_ints
  cases fl with
  | nil =>
    refine ⟨_, rfl, len_ok rfl, _, _, rfl, rfl, by decide, _, 0, .int 0, rfl, rfl, atI_nat (j := 0) rfl, _, rfl, nt60 (i := 0) (by decide), len_ok rfl, _, rfl, len_ok rfl, neSame rfl rfl ?_⟩
    refine .inr ⟨_, rfl, _, 0, rfl, rfl, by decide, by decide, by decide, ?_⟩
    rw [E44_ok hN hT (right_of efl.symm)] at a
    exact a
  | cons i r =>
    have hw := wrong_of efl.symm
    rw [E44_wrong hN hT hw] at a
    have hi : i < 4 := by
      obtain ⟨t, hx, _⟩ := hw
      have := (List.getElem?_eq_some_iff.mp hx).1
      omega
    refine ⟨_, rfl, len_ok rfl, _, _, rfl, rfl, ?_, _, 0, .int ((i : Nat) : Int), rfl, rfl, atI_nat (j := 0) rfl, _, rfl, nt60 (i := ((i : Nat) : Int)) (Nat.lt_of_lt_of_le (show ((i : Nat) : Int).natAbs < 4 by omega) (by decide)), len_ok rfl, _, rfl, len_ok rfl, sh, rfl, ?_⟩
    · rw [List.length_map]
      show _ + 1 ≤ 1000
      omega
    · exact .inr ⟨_, rfl, _, 1, rfl, rfl, by decide, by decide, by show 2 * 1 ≤ 1000; decide, a⟩
abbrev s_is_index : Stmt := topS 8
abbrev N_is_index : List Str := ["items", "value"]
theorem sc_is_index : FnScope N_is_index ["items", "value"] (defScope s_is_index) :=
  ⟨rfl, rfl, rfl, by decide +kernel, rfl, by decide +kernel, by decide +kernel⟩
theorem ok_is_index {f : Addr} {fd : FuncData} (F : Fun K "is_index" "is_index" s_is_index f fd) (T : Bi mg)
    (h_is_number_within : Has P w K mg base 2 "is_number_within" ["value", "least", "most"] (spP K RNumW))
    : FnOk P w K mg base CX0 3 f fd ["items", "value"] (spP K RIdx) := by
  refine F.ok sc_is_index (fun vs H Q E h => lenP h (by rintro ds A ⟨_, _, rfl, _⟩; rfl)) (fun cdv Ar outer s H vs Q E hr h => ?_)
  refine ⟨_, (pss_one (ps_ret (pe_callH h_is_number_within hr (by decide) (by rfl) (pa_cons (pv 1) (pa_cons pe_int (pa_cons (pe_op op_sub (pe_callB (klen K) (by rfl) T.len (by decide +kernel) (pa_cons (pv 0) pa_nil)) pe_int) pa_nil)))))), ?_⟩
  refine goP (Δ := ΔB) rfl h (by repeat' (first | (with_reducible (first | apply rs_seq | exact rs_never | exact rs_next | exact rs_retN | apply rs_asg | apply rs_par | apply rs_par3 | apply rs_drop | apply rs_ret | apply rs_if | apply rs_for | apply rs_while | exact re_var | exact re_int | exact re_str | exact re_bl | exact re_non | apply re_op | apply re_un | apply re_isiT | apply re_isiI | apply re_isiB | apply re_srtSc | apply re_srtSet | apply re_cb | apply re_lst | apply re_tup | apply re_tupF | apply re_slU | apply re_slT | apply re_slL | exact ro_none | apply ro_some | apply re_andV | apply re_orV | apply re_notV | apply re_if | apply re_chain | apply rt_test | apply rt_b | apply rt_tru | exact rt_yes | apply rt_and | apply rt_or | apply rt_not | exact ra_nil | apply ra_cons | apply ri_rng1 | apply ri_rng2 | apply ri_tup | apply ri_lst | apply ri_zip | apply ri_enum | apply ri_enT | apply ri_U | apply ri_zm | apply ri_revA | exact rg_name | exact rgs_nil | apply rgs_cons | apply rg_tup | apply re_lc | apply re_listRg | apply re_tupRg | apply rrg1 | apply rrg2 | apply re_index | apply re_revT | apply re_revL | apply re_callK | apply re_callP | exact r2_I0 | exact r2_B0 | exact r2_Ic | exact r2_eq | exact r2_ne | exact r2_isN | exact r2_notN | exact r2_ixA | exact r2_ixT | exact r2_ixL | exact r2_catT | exact r2_catL | exact r2_catS | exact r2_notB | exact r2_repT | exact r2_in | exact r2_eqD | exact r2_neD | exact r1_neg | exact rc_len' | exact rc_tupF | exact rc_listof | exact rc_sorted | exact rc_sum | exact rc_max | exact rc_min | exact rc_all | exact rc_repr | exact rc_abs | exact rc_max2 | exact rc_min2 | exact rc_int1 | exact rc_sortT | apply ri_rng3 | exact re_dnew | exact re_dis1 | exact rc_strI | apply ri_rng3 | apply ra_snoc | apply ra_both | apply re_join | apply re_fstr | apply RJs.cons | exact RJs.nil | apply re_fmt | apply re_tupZip | apply re_lstRg3)) | decide)) (fun ds A hR => ?_)
  obtain ⟨xs, d, e, a⟩ := hR
  subst e
  exact ⟨_, rfl, _, rfl, _, _, rfl, rfl, _, 1, rfl, rfl, d, 0, _, rfl, a⟩
abbrev s__law_right : Stmt := topS 43
abbrev N__law_right : List Str := ["_law_table", "_law_state", "_law_edits", "_law_m", "_law_tools", "_law_places", "_law_words"]
theorem sc__law_right : FnScope N__law_right ["_law_table", "_law_state", "_law_edits"] (defScope s__law_right) :=
  ⟨rfl, rfl, rfl, by decide +kernel, rfl, by decide +kernel, by decide +kernel⟩
theorem ok__law_right {f : Addr} {fd : FuncData} (F : Fun K "_law_right" "_law_right" s__law_right f fd) (T : Bi mg) (sys : ∃ o, base.get? sysModules = some o) {CP : Addr}
    (me_Bench_edits : MethH P w K mg base 1 CP "edits" ["self"] (spO K (REdits CP)))
    (me_Bench_possible : MethV P w K mg base 5 CP "possible" 1 ["self", "version"] (spO K (RPossV CP)))
    (sl_Bench : SpecH P w K mg base 1 CP "__len__" (spO K (RLenB CP)))
    (ss_Bench : SpecH P w K mg base 2 CP "__str__" (spO K (RStrB CP)))
    : FnG P w K mg base 9 f fd ["_law_table", "_law_state", "_law_edits"] (spO K (RRightB CP)) := by
  refine fung_ok F sc__law_right (fun vs H Q E h => lenO h (by rintro a ds T A X ⟨_, _, _, _, _, _, _, rfl, _⟩; rfl)) (fun cdv Ar outer s H vs Q E hgd hr h => ?_)
  refine ⟨_, (pss_cons (ps_asg (pv 1) (kglst K 3 rfl (pgs_cons (pg_name (i := 3) sc__law_right.nd rfl (.inl rfl)) (pgs_cons (pg_name (i := 4) sc__law_right.nd rfl (.inl rfl)) (pgs_cons (pg_name (i := 5) sc__law_right.nd rfl (.inl rfl)) pgs_nil)))))
  (pss_cons (ps_if (pt_cmpR op_ne (pe_callB (kreprV K sys hgd hr.units) (by rfl) T.repr (by decide +kernel) (pa_cons (pe_lst (pa_cons (pe_mVd0 me_Bench_possible (pv 0) hr (by decide) takes0) (pa_cons (pe_methH0 me_Bench_edits (pv 0) hr (by decide) takes0) (pa_cons (pe_callB (klenO sl_Bench hr (by decide)) (by rfl) T.len (by decide +kernel) (pa_cons (pv 0) pa_nil)) pa_nil)))) pa_nil)) (pe_callB (kreprV K sys hgd hr.units) (by rfl) T.repr (by decide +kernel) (pa_cons (pe_lst (pa_cons (pv 5) (pa_cons (pe_callTy (ktupF K) (by rfl) T.tuple (by decide +kernel) (pa_cons (pv 2) pa_nil)) (pa_cons (pe_callB (klen K) (by rfl) T.len (by decide +kernel) (pa_cons (pv 2) pa_nil)) pa_nil)))) pa_nil)) (nomark _))
  (pss_one (ps_ret pe_bl))
  pss_nil)
  (pss_cons (ps_set (i := 6) sc__law_right.nd rfl (.inl rfl) (pe_lst (pa_cons (pe_callTy call_str_int (by rfl) T.str (by decide +kernel) (pa_cons (pv 3) pa_nil)) (pa_cons pe_str (pa_cons (pe_callTy call_str_int (by rfl) T.str (by decide +kernel) (pa_cons (pe_callB (klen K) (by rfl) T.len (by decide +kernel) (pa_cons (pv 4) pa_nil)) pa_nil)) (pa_cons pe_str (pa_cons (pe_callTy call_str_int (by rfl) T.str (by decide +kernel) (pa_cons (pe_callB (klen K) (by rfl) T.len (by decide +kernel) (pa_cons (pv 5) pa_nil)) pa_nil)) (pa_cons pe_str (pa_cons (pe_callTy call_str_int (by rfl) T.str (by decide +kernel) (pa_cons (pe_callB (klen K) (by rfl) T.len (by decide +kernel) (pa_cons (pv 2) pa_nil)) pa_nil)) (pa_cons pe_str pa_nil))))))))))
  (pss_one (ps_ret (pe_cmpR op_eq (pe_callTy (kstrO ss_Bench hr (by decide)) (by rfl) T.str (by decide +kernel) (pa_cons (pv 0) pa_nil)) (kjoin K pe_str (pv 6)) (nomark _))))))), ?_⟩
  refine goO h (by repeat' (first | (with_reducible (first | exact re_fld | apply rs_fld | exact re_prop | apply rsx_retM | apply rsx_dropM | apply rsx_asgM | apply re_meth | apply re_callO | exact re_methD | exact re_lenB | exact re_strB | apply rg_lst | apply re_tupZip | apply re_lstRg3 | exact rsx_raise0 | apply rsx_seq | apply rsx_if | apply rsx_for | apply rsx_asgX | apply rsx_dropX | apply rsx_retX | apply rsx_raise | apply rsx_of | apply rs_tryOnly | intro _ | apply rs_seq | exact rs_never | exact rs_next | exact rs_retN | apply rs_asg | apply rs_par | apply rs_par3 | apply rs_drop | apply rs_ret | apply rs_if | apply rs_for | apply rs_while | exact re_var | exact re_int | exact re_str | exact re_bl | exact re_non | apply re_op | apply re_un | apply re_isiT | apply re_isiI | apply re_isiB | apply re_srtSc | apply re_srtSet | apply re_cb | apply re_lst | apply re_tup | apply re_tupF | apply re_slU | apply re_slT | apply re_slL | exact ro_none | apply ro_some | apply re_andV | apply re_orV | apply re_notV | apply re_if | apply re_chain | apply rt_test | apply rt_b | apply rt_tru | exact rt_yes | apply rt_and | apply rt_or | apply rt_not | exact ra_nil | apply ra_cons | apply ri_rng1 | apply ri_rng2 | apply ri_tup | apply ri_lst | apply ri_zip | apply ri_enum | apply ri_enT | apply ri_U | apply ri_zm | apply ri_revA | exact rg_name | exact rgs_nil | apply rgs_cons | apply rg_tup | apply re_lc | apply re_listRg | apply re_tupRg | apply rrg1 | apply rrg2 | apply re_index | apply re_revT | apply re_revL | apply re_callK | apply re_callP | exact r2_I0 | exact r2_B0 | exact r2_Ic | exact r2_eq | exact r2_ne | exact r2_isN | exact r2_notN | exact r2_ixA | exact r2_ixT | exact r2_ixL | exact r2_catT | exact r2_catL | exact r2_catS | exact r2_notB | exact r2_repT | exact r2_in | exact r2_eqD | exact r2_neD | exact r1_neg | exact rc_len' | exact rc_tupF | exact rc_listof | exact rc_sorted | exact rc_sum | exact rc_max | exact rc_min | exact rc_all | exact rc_repr | exact rc_abs | exact rc_max2 | exact rc_min2 | exact rc_int1 | exact rc_sortT | apply ri_rng3 | exact re_dnew | exact re_dis1 | exact rc_strI | apply ri_rng3 | apply ra_snoc | apply ra_both | apply re_join | apply re_fstr | apply RJs.cons | exact RJs.nil | apply re_fmt | apply re_tupZip | apply re_lstRg3)) | decide)) (fun x ds Tb A X hR => ?_)
  obtain ⟨m, tls, dn, sts, ps, aim, wt, ed, ht, hl, b1, b2, b3, b4, nt, a⟩ := hR
  subst ed
  refine ⟨_, rfl, _, rfl, rfl, _, _, rfl, _, _, rfl, _, _, rfl, rfl, ?_⟩
  refine ⟨x, rfl, ⟨_, _, rfl, ht, rfl⟩, _, rfl, m, .tuple tls, .tuple dn, sts, aim, wt, .none, tupD ps, rfl, ht, .inl ⟨rfl, hl⟩, x, rfl, ⟨_, _, rfl, ht, rfl⟩, _, rfl, m, .tuple tls, .tuple dn, .tuple sts, aim, wt, rfl, ht, x, rfl, ⟨_, _, rfl, ht⟩, _, rfl, m, .tuple tls, dn, .tuple sts, aim, wt, rfl, ht, dn.length, rfl, by omega, len_ok rfl, _, rfl, nt, ?_⟩
  refine ⟨_, rfl, _, rfl, _, rfl, _, rfl, _, _, rfl, rfl, len_ok rfl, _, rfl, nt, ne2 rfl rfl ⟨_, rfl, ifNe rfl ?_⟩⟩
  have e1 := itx_len (i := m) (by omega)
  have e2 := itx_len (i := ((tls.length : Nat) : Int)) (by omega)
  have e3 := itx_len (i := (((ps.map PyData.int).length : Nat) : Int)) (by rw [List.length_map]; omega)
  have e4 := itx_len (i := ((dn.length : Nat) : Int)) (by omega)
  refine ⟨_, rfl, _, rfl, log_small (by omega), _, rfl, _, _, rfl, rfl, _, rfl, log_small (by omega), _, rfl, _, _, rfl, rfl, _, rfl, log_small (by rw [List.length_map]; omega), _, rfl, _, _, rfl, rfl, _, rfl, log_small (by omega), len_ok rfl, ?_⟩
  refine ⟨x, rfl, ⟨_, _, rfl, ht⟩, _, rfl, m, tls, dn, sts, ps.map .int, aim, wt, rfl, ht, hl, b1, b2, b3, by rw [List.length_map]; exact b4, _, rfl, ⟨_, rfl⟩, _, rfl, " ", [itx m, "places,", itx (tls.length : Nat), "tools,", itx ((ps.map PyData.int).length : Nat), "possible,", itx (dn.length : Nat), "edits"], rfl, rfl, ?_, .inr (.inl ⟨_, _, rfl, rfl, _, rfl, ?_⟩)⟩
  · have z0 : (" " : Str).length = 1 := by decide +kernel
    have z1 : ("places," : Str).length = 7 := by decide +kernel
    have z2 : ("tools," : Str).length = 6 := by decide +kernel
    have z3 : ("possible," : Str).length = 9 := by decide +kernel
    have z4 : ("edits" : Str).length = 5 := by decide +kernel
    simp only [List.map_cons, List.map_nil, List.sum_cons, List.sum_nil, z0, z1, z2, z3, z4, List.length_cons, List.length_nil]
    omega
  · rw [decide_eq_true (bench_join m tls.length (ps.map PyData.int).length dn.length)]
    exact a
end
section
open Classical
variable {P : Program} {w : World} {K : PySem.W.Frag} {mg : Str → Option Value} {base : Heap}
abbrev s_law : Stmt := topS 50
abbrev N_law : List Str := ["_law_script", "_law_deck_here", "_law_turn", "_law_m", "_law_tools", "_law_way", "_law_held", "_law_made_here", "_law_due"]
theorem sc_law : FnScope N_law ["_law_script"] (defScope s_law) :=
  ⟨rfl, rfl, rfl, by decide +kernel, rfl, by decide +kernel, by decide +kernel⟩
theorem ok_law {f : Addr} {fd : FuncData} (F : Fun K "law" "law" s_law f fd) (T : Bi mg) (sys : ∃ o, base.get? sysModules = some o) {CP : Addr}
    (h__law_deck : Has P w K mg base 1 "_law_deck" ["_law_script"] (spDk K (ΔO K)))
    (h__law_draw : Has P w K mg base 1 "_law_draw" ["_law_deck_here", "_law_many"] (spK K (ΔO K) RDraw))
    (h__law_circle : Has P w K mg base 4 "_law_circle" ["_law_deck_here", "_law_most"] (spK K (ΔO K) RCircE))
    (h__law_odd : Has P w K mg base 2 "_law_odd" ["_law_deck_here"] (spK K (ΔO K) ROdd44))
    (h__law_bent : Has P w K mg base 6 "_law_bent" ["_law_deck_here", "_law_value"] (spK K (ΔO K) (RBent44 2)))
    (h__law_made : HasG P w K mg base 12 "_law_made" ["_law_m", "_law_tools"] (spY K (RMade44 CP)))
    (h__law_expected : HasG P w K mg base 3 "_law_expected" ["_law_m", "_law_tools"] (spP K RExp44))
    (h__law_right : HasG P w K mg base 9 "_law_right" ["_law_table", "_law_state", "_law_edits"] (spO K (RRightB CP)))
    (iC : IsiC K CP)
    (kL : PySem.W.kitOne K (.ref CP) (.type "list") = some false)
    : FnG P w K mg base 13 f fd ["_law_script"] (spLaw K) := by
  refine fung_ok F sc_law (fun vs H Q E h => by obtain ⟨x, ns, e, _⟩ := h; subst e; rfl) (fun cdv Ar outer s H vs Q E hgd hr h => ?_)
  refine ⟨_, (pss_cons (ps_set (i := 1) sc_law.nd rfl (.inl rfl) (pe_callH h__law_deck hr (by decide) (by rfl) (pa_cons (pv 0) pa_nil)))
  (pss_cons (ps_for PassesOwn.never rfl (pi_range1 (by rfl) T.range (pa_cons pe_int pa_nil)) (pg_name (i := 2) sc_law.nd rfl (.inl rfl))
  (pss_cons (ps_asg (pe_callH h__law_circle hr (by decide) (by rfl) (pa_cons (pv 1) (pa_cons pe_int pa_nil))) (kglst K 2 rfl (pgs_cons (pg_name (i := 3) sc_law.nd rfl (.inl rfl)) (pgs_cons (pg_name (i := 4) sc_law.nd rfl (.inl rfl)) pgs_nil))))
  (pss_cons (ps_set (i := 5) sc_law.nd rfl (.inl rfl) (pe_callH h__law_draw hr (by decide) (by rfl) (pa_cons (pv 1) (pa_cons pe_int pa_nil))))
  (pss_cons (ps_if (pt_cmpR op_eq (pv 5) pe_int (nomark _))
  (pss_one (ps_set (i := 3) sc_law.nd rfl (.inl rfl) (pe_ix (kixA K) (pe_lst (pa_cons (pe_callH h__law_odd hr (by decide) (by rfl) (pa_cons (pv 1) pa_nil)) (pa_cons (pe_op op_add (pv 3) pe_int) (pa_cons (pe_callB (call_max2 rfl) (by rfl) T.max (by decide +kernel) (pa_cons pe_int (pa_cons (pe_op op_sub (pv 3) pe_int) pa_nil))) pa_nil)))) (pe_callH h__law_draw hr (by decide) (by rfl) (pa_cons (pv 1) (pa_cons pe_int pa_nil))) (fun _ _ => rfl))))
  pss_nil)
  (pss_cons (ps_if (pt_cmpR op_eq (pv 5) pe_int (nomark _))
  (pss_one (ps_set (i := 4) sc_law.nd rfl (.inl rfl) (pe_callH h__law_bent hr (by decide) (by rfl) (pa_cons (pv 1) (pa_cons (pv 4) pa_nil)))))
  pss_nil)
  (pss_cons (ps_if (pt_cmpR op_eq (pv 5) pe_int (nomark _))
  (pss_one (ps_set (i := 4) sc_law.nd rfl (.inl rfl) (pe_ix (kixA K) (pe_lst (pa_cons (pe_op (kcatB K) (pv 4) (pe_tup (pa_cons (pe_ix (kixA K) (pv 4) pe_int (fun _ _ => rfl)) pa_nil))) (pa_cons (pe_slice (kslU K) (pe_op (krepT K) (pv 4) pe_int) po_none (po_some pe_int)) (pa_cons (pe_slice (kslU K) (pe_op (krepT K) (pv 4) pe_int) po_none (po_some pe_int)) (pa_cons (pe_tup pa_nil) pa_nil))))) (pe_callH h__law_draw hr (by decide) (by rfl) (pa_cons (pv 1) (pa_cons pe_int pa_nil))) (fun _ _ => rfl))))
  pss_nil)
  (pss_cons (ps_set (i := 6) sc_law.nd rfl (.inl rfl) (pe_callB (kreprV K sys hgd hr.units) (by rfl) T.repr (by decide +kernel) (pa_cons (pe_lst (pa_cons (pv 3) (pa_cons (pv 4) pa_nil))) pa_nil)))
  (pss_cons (ps_par (i := 7) (j := 8) (by rfl) sc_law.nd rfl rfl (by decide) rfl rfl (pa_cons (pe_callHG h__law_made hgd hr (by decide) (by rfl) (pa_cons (pv 3) (pa_cons (pv 4) pa_nil))) (pa_cons (pe_callHG h__law_expected hgd hr (by decide) (by rfl) (pa_cons (pv 3) (pa_cons (pv 4) pa_nil))) pa_nil)) (by rfl))
  (pss_cons (ps_if (pt_cmpR (kneNil44 K hr.units) (pv 8) (pe_lst pa_nil) (nomark _))
  (pss_one (ps_if (PW.pt (pw_or (pt_not (pt_val (pe_callB (kisi K) (by rfl) T.isinstance (by decide +kernel) (pa_cons (pv 7) (pa_cons (pe_bltn (v := .ty "list") (by rfl) T.list rfl rfl) pa_nil))))) (pw_or1 (pt_cmpR (kneLf K hr.units) (pv 7) (pv 8) (nomark _)))))
  (pss_one (ps_ret pe_bl))
  pss_nil))
  (pss_one (ps_if (PW.pt (pw_or (pt_val (pe_callB (kisi K) (by rfl) T.isinstance (by decide +kernel) (pa_cons (pv 7) (pa_cons (pe_bltn (v := .ty "list") (by rfl) T.list rfl rfl) pa_nil)))) (pw_or1 (pt_not (pt_val (pe_callHG h__law_right hgd hr (by decide) (by rfl) (pa_cons (pv 7) (pa_cons (pe_lst (pa_cons (pv 3) (pa_cons (pv 4) (pa_cons (pe_tupRg (by rfl) (by rfl) T.tuple (prg_1 (by rfl) T.range (pv 3))) pa_nil)))) (pa_cons (pe_lst pa_nil) pa_nil)))))))))
  (pss_one (ps_ret pe_bl))
  pss_nil)))
  (pss_one (ps_if (pt_cmpR op_ne (pe_callB (kreprV K sys hgd hr.units) (by rfl) T.repr (by decide +kernel) (pa_cons (pe_lst (pa_cons (pv 3) (pa_cons (pv 4) pa_nil))) pa_nil)) (pv 6) (nomark _))
  (pss_one (ps_ret pe_bl))
  pss_nil)))))))))))
  (pss_one (ps_ret pe_bl)))), ?_⟩
  refine goLaw (Δ := (ΔO K)) (i := 1) (n := 9) h (by repeat' (first | (with_reducible (first | apply rg_lst | exact re_isiO | apply rs_parYE | apply rs_cutA | exact r2_neNil44 | exact r2_neLf | exact r2_repT | apply re_callOG | apply rs_asgMk initB_none | exact re_fld | apply rs_fld | exact re_prop | apply rsx_retM | apply rsx_dropM | apply rsx_asgM | apply re_meth | apply re_callO | exact re_methD | exact re_lenB | exact re_strB | apply rg_lst | apply re_tupZip | apply re_lstRg3 | exact rsx_raise0 | apply rs_seq | exact rs_never | exact rs_next | exact rs_retN | apply rs_asg | apply rs_par | apply rs_par3 | apply rs_drop | apply rs_ret | apply rs_if | apply rs_for | apply rs_while | exact re_var | exact re_int | exact re_str | exact re_bl | exact re_non | apply re_op | apply re_un | apply re_isiT | apply re_isiI | apply re_isiB | apply re_srtSc | apply re_srtSet | apply re_cb | apply re_lst | apply re_tup | apply re_tupF | apply re_slU | apply re_slT | apply re_slL | exact ro_none | apply ro_some | apply re_andV | apply re_orV | apply re_notV | apply re_if | apply re_chain | apply rt_test | apply rt_b | apply rt_tru | exact rt_yes | apply rt_and | apply rt_or | apply rt_not | exact ra_nil | apply ra_cons | apply ri_rng1 | apply ri_rng2 | apply ri_tup | apply ri_lst | apply ri_zip | apply ri_enum | apply ri_enT | apply ri_U | apply ri_zm | apply ri_revA | exact rg_name | exact rgs_nil | apply rgs_cons | apply rg_tup | apply re_lc | apply re_listRg | apply re_tupRg | apply rrg1 | apply rrg2 | apply re_index | apply re_revT | apply re_revL | apply re_callK | apply re_callP | exact r2_I0 | exact r2_B0 | exact r2_Ic | exact r2_eq | exact r2_ne | exact r2_isN | exact r2_notN | exact r2_ixA | exact r2_ixT | exact r2_ixL | exact r2_catT | exact r2_catL | exact r2_catS | exact r2_notB | exact r2_repT | exact r2_in | exact r2_eqD | exact r2_neD | exact r1_neg | exact rc_len' | exact rc_tupF | exact rc_listof | exact rc_sorted | exact rc_sum | exact rc_max | exact rc_min | exact rc_all | exact rc_repr | exact rc_abs | exact rc_max2 | exact rc_min2 | exact rc_int1 | exact rc_sortT | apply ri_rng3 | exact re_dnew | exact re_dis1 | exact rc_strI | apply ri_rng3 | apply ra_snoc | apply ra_both | apply re_join | apply re_fstr | apply RJs.cons | exact RJs.nil | apply re_fmt | apply re_tupZip | apply re_lstRg3)) | decide)) rfl (by decide) ?_
  unfold aNil
  refine ⟨10, rfl, by decide, by decide, fun i s => ∃ (y2 y3 y4 y5 y6 y7 y8 : Sl) (n : Int) (T2 : _root_.BP.Tb), s = (⟨[.free, .deck, y2, y3, y4, y5, y6, y7, y8], some ⟨n, T2⟩⟩ : AS) ∧ n ≤ 300 * i, ⟨_, _, _, _, _, _, _, _, _, rfl, by decide⟩, ?_, ?_⟩
  rotate_left
  · rintro s ⟨y2, y3, y4, y5, y6, y7, y8, n, T2, e, hn⟩
    subst e
    rfl
  intro i x s hx hs
  obtain ⟨y2, y3, y4, y5, y6, y7, y8, n, T2, e, hn⟩ := hs
  subst e
  obtain ⟨ex, hi⟩ := range_at hx
  subst ex
  have hi : i < 10 := hi
  refine ⟨rfl, _, rfl, 60, rfl, by show n + 200 ≤ 1000000; omega, by decide, by decide, fun m tls m1 m2 its l1 l3 => ?_⟩
  refine ⟨_, rfl, rfl, _, _, rfl, _, _, rfl, rfl, ?_⟩
  refine ⟨rfl, _, rfl, 4, rfl, by show n + 200 ≤ 1000000; omega, by decide, by decide, fun w w0 w1 => ?_⟩
  have gm : ∀ k : Int, 0 ≤ k → k ≤ 61 → Gd (.int k) 20000 10 := fun k h0 h1 => (gd_int (e := 10) (Nat.lt_of_lt_of_le (show k.natAbs < 62 by omega) (by decide))).mono (by decide) (Nat.le_refl _)
  have gts := gs_tools44 its m2 l3
  have hT0 : 0 < (tls.map toolD).length := by rw [List.length_map]; omega
  refine ⟨fun s' => ∃ (dm : PyData) (n1 : Int), s' = (⟨[.free, .deck, .dat (.int (0 + ((i : Nat) : Int))), .dat dm, .dat (toolsD tls), .dat (.int w), y6, y7, y8], some ⟨n1, T2⟩⟩ : AS) ∧ Gd dm 20000 10 ∧ n1 ≤ n + 220, ?_, ?_⟩
  · refine ⟨_, rfl, .inl ⟨_, 0, rfl, rfl, _, rfl, ite2 (fun _ => ?_) (fun _ => ⟨_, _, rfl, gm m (by omega) (by omega), by show n + 200 + 1 ≤ n + 220; omega⟩)⟩⟩
    refine ⟨rfl, _, rfl, rfl, by show n + 200 + 1 + 1 ≤ 1000000; omega, fun d gd => ?_⟩
    refine ⟨_, rfl, _, 1, rfl, rfl, _, rfl, _, 1, rfl, rfl, 1, _, rfl, len_ok rfl, rfl, _, rfl, 3, rfl, by show n + 200 + 1 + 1 ≤ 1000000; omega, by decide, by decide, fun u u0 u1 => ?_⟩
    obtain ⟨r, hat, gr⟩ := pick_at (xs := [d, .int (m + 1), .int (if m - 1 > 1 then m - 1 else 1)]) (P := fun d => Gd d 20000 10) (fun d hd => by
      simp only [List.mem_cons, List.not_mem_nil, or_false] at hd
      rcases hd with z | z | z
      · rw [z]; exact gd.mono (by decide) (by decide)
      · rw [z]; exact gm (m + 1) (by omega) (by omega)
      · rw [z]; exact gm _ (by split <;> omega) (by split <;> omega)) u0 (by show u < 3; exact u1)
    exact ⟨_, _, r, rfl, rfl, hat, r, _, rfl, gr, by show n + 200 + 1 + 1 + 1 ≤ n + 220; omega⟩
  intro s' hs
  obtain ⟨dm, n1, e, gdm, hn1⟩ := hs
  subst e
  have gdt : Gd (toolsD tls) 1000000 10 := (Gs.tup gts).mono (by decide) (by decide)
  refine ⟨fun s' => ∃ (dt : PyData) (n2 : Int), s' = (⟨[.free, .deck, .dat (.int (0 + ((i : Nat) : Int))), .dat dm, .dat dt, .dat (.int w), y6, y7, y8], some ⟨n2, T2⟩⟩ : AS) ∧ (dt = toolsD tls ∨ w = 1) ∧ Gd dt 1000000 10 ∧ n2 ≤ n + 240, ?_, ?_⟩
  · refine ⟨_, rfl, .inl ⟨_, 1, rfl, rfl, _, rfl, ite2 (fun h => ?_) (fun _ => ⟨_, _, rfl, .inl rfl, gdt, by omega⟩)⟩⟩
    have hw : w = 1 := of_decide_eq_true ((Bool.false_xor _).symm.trans h)
    exact ⟨rfl, _, rfl, _, rfl, tls.map toolD, rfl, in_tools its m2 l1 l3, by show n1 + 5 * ((2 + 1 : Nat) : Int) ≤ 1000000; omega, fun r gr => ⟨_, _, rfl, .inr hw, gr.mono (by decide) (by decide), by show n1 + 5 * ((2 + 1 : Nat) : Int) ≤ n + 240; omega⟩⟩
  intro s' hs
  obtain ⟨dt, n2, e, hdt, gdt2, hn2⟩ := hs
  subst e
  refine ⟨fun s' => ∃ (dt : PyData) (n3 : Int), s' = (⟨[.free, .deck, .dat (.int (0 + ((i : Nat) : Int))), .dat dm, .dat dt, .dat (.int w), y6, y7, y8], some ⟨n3, T2⟩⟩ : AS) ∧ Gd dt 1000000 10 ∧ n3 ≤ n + 245, ?_, ?_⟩
  · refine ⟨_, rfl, .inl ⟨_, 2, rfl, rfl, _, rfl, ite2 (fun h => ?_) (fun _ => ⟨_, _, rfl, gdt2, by omega⟩)⟩⟩
    have hw : w = 2 := of_decide_eq_true ((Bool.false_xor _).symm.trans h)
    have ed : dt = toolsD tls := by
      rcases hdt with z | z
      · exact z
      · omega
    subst ed
    have hne : tls.map toolD ≠ [] := fun z => by rw [z] at hT0; cases hT0
    obtain ⟨t0, hat0, ht0⟩ := at_len (ds := tls.map toolD) (t := 0) (Int.le_refl _) (by omega)
    have hl5 : (tls.map toolD).length ≤ 1000 := by rw [List.length_map]; omega
    refine ⟨_, rfl, _, rfl, _, 0, t0, rfl, rfl, hat0, len_ok rfl, _, _, rfl, rfl, by rw [List.length_map]; show _ + 1 ≤ 1000; omega, _, rfl, tls.map toolD, 5, rfl, rfl, hne, by decide, by decide, hl5, _, rfl, _, rfl, _, rfl, tls.map toolD, 4, rfl, rfl, hne, by decide, by decide, hl5, _, rfl, _, rfl, len_ok rfl, len_ok rfl, rfl, _, rfl, 4, rfl, by show n2 ≤ 1000000; omega, by decide, by decide, fun u u0 u1 => ?_⟩
    obtain ⟨tl0, htl0, et0⟩ := List.mem_map.mp ht0
    have gt0 : Gd t0 47000 5 := by
      rw [← et0]
      exact (gd_tool44 (its tl0 htl0) m2).mono (Nat.le_refl _) (by decide)
    obtain ⟨r, hat, gr⟩ := pick_at (xs := [.tuple (tls.map toolD ++ [t0]), .tuple (cutD (List.replicate (Int.toNat 5) (tls.map toolD)).flatten none (some 5)), .tuple (cutD (List.replicate (Int.toNat 4) (tls.map toolD)).flatten none (some 4)), .tuple []]) (P := fun d => Gd d 1000000 10) (fun d hd => by
      simp only [List.mem_cons, List.not_mem_nil, or_false] at hd
      rcases hd with z | z | z | z
      · rw [z]; exact (Gs.tup (gts.app (Gs.one gt0))).mono (by decide) (by decide)
      · rw [z]; exact (Gs.tup ((gts.rep44 5).cut _ _)).mono (by decide) (by decide)
      · rw [z]; exact (Gs.tup ((gts.rep44 4).cut _ _)).mono (by decide) (by decide)
      · rw [z]; exact ⟨rfl, by decide, by decide⟩) u0 (by show u < 4; exact u1)
    exact ⟨_, _, r, rfl, rfl, hat, r, _, rfl, gr, by show n2 + 1 ≤ n + 245; omega⟩
  intro s' hs
  obtain ⟨dt, n3, e, gdt, hn3⟩ := hs
  subst e
  have nn := held_neat gdm gdt
  have nd := gdm.nt44 (by decide) (by decide)
  refine ⟨_, rfl, _, rfl, len_ok rfl, _, rfl, nn, ?_⟩
  obtain ⟨ds, e44, hlf⟩ := E44_leaf dm dt
  refine ⟨_, rfl, _, rfl, ⟨n3, T2⟩, rfl, dm, dt, rfl, nd, fun hne => ?_, fun m' tls' em et he x hx => ?_⟩
  · refine ⟨_, rfl, _, rfl, dm, dt, rfl, nd, ?_⟩
    rw [e44] at hne ⊢
    have hde : ds.isEmpty = false := by
      cases ds with
      | nil => exact absurd rfl hne
      | cons x r => rfl
    refine ⟨_, rfl, len_ok rfl, ds, rfl, rfl, _, rfl, ?_⟩
    rw [hde]
    refine iteT (.inr ⟨_, rfl, _, rfl, iteF ⟨_, rfl, _, rfl, ds, rfl, rfl, hlf, _, rfl, iteF ?_⟩⟩)
    exact ⟨_, rfl, _, rfl, len_ok rfl, _, rfl, nn, _, rfl, ne2 rfl rfl ⟨_, rfl, ifNe rfl ⟨_, _, _, _, _, _, _, _, _, rfl, by show n3 ≤ 300 * ((i + 1 : Nat) : Int); omega⟩⟩⟩
  · refine ⟨_, rfl, _, rfl, dm, dt, rfl, nd, ?_⟩
    rw [he]
    subst em et
    obtain ⟨m0, tls0, em0, et0, q1, q2, qits, ql1, ql4⟩ := E44_nil he
    have em0 := PyData.int.inj em0
    have et0 := toolsD_injQ et0
    subst em0 et0
    have c : Cir m' tls' := ⟨q1, q2, qits, ql1, ql4⟩
    have b := made_bn (C := CP) (T := T2) (x := x) (m := m') (tls := tls') q1
    refine ⟨_, rfl, len_ok rfl, [], rfl, rfl, _, rfl, iteF ?_⟩
    refine .inl ⟨x, _, _, CP, rfl, rfl, getT_head, iC, kL, _, rfl, iteF ?_⟩
    refine ⟨x, rfl, _, rfl, _, rfl, _, rfl, m', rfl, RgOk.of_le (by decide) (by omega) (by omega) (by omega), len_ok rfl, len_ok rfl, _, rfl, ?_⟩
    rw [rg_tupB]
    refine b.right c (by decide) ⟨_, rfl, iteF ?_⟩
    exact ⟨_, rfl, _, rfl, len_ok rfl, _, rfl, nn, _, rfl, ne2 rfl rfl ⟨_, rfl, ifNe rfl ⟨_, _, _, _, _, _, _, _, _, rfl, by show n3 ≤ 300 * ((i + 1 : Nat) : Int); omega⟩⟩⟩
end
theorem has_mk {P : Program} {w : World} {K : PySem.W.Frag} {mg : Str → Option Value} {base : Heap} {k : Nat} {x : Str} {st : Stmt} {f : Addr} {fd : FuncData} {ps : List Str} {sp : Sp}
    (F : Fun K x x st f fd) (ok : FnOk P w K mg base CX0 k f fd ps sp) (hm : mg x = some (.ref f)) (hb : L2.Binds K fd ps []) : Has P w K mg base k x ps sp := ⟨f, fd, ok, hm, F.kp, hb⟩
theorem hasg_mk {P : Program} {w : World} {K : PySem.W.Frag} {mg : Str → Option Value} {base : Heap} {k : Nat} {x : Str} {st : Stmt} {f : Addr} {fd : FuncData} {ps : List Str} {sp : Sp}
    (F : Fun K x x st f fd) (ok : FnG P w K mg base k f fd ps sp) (hm : mg x = some (.ref f)) (hb : L2.Binds K fd ps []) : HasG P w K mg base k x ps sp := ⟨f, fd, ok, hm, F.kp, hb⟩
theorem all_mk {l : PySem.W.OpenLaw} {w : World} {K : PySem.W.Frag} {h : Heap} {mg : Str → Option Value} {fa : Addr} (X : K.In h) (G : h.Ns mainGlobals mg) (hfa : mg "law" = some (.ref fa))
    {f0 : Addr} {od0 an0 : Option Addr} {sl0 : Array (Option Value)} {oc0 kV0 dc0 pm0 cd0 ct0 : Value}
    (a0 : PySem.W.nsIn K mainGlobals "_law_deck" = some (some (.ref f0)))
    (l0 : K.lookup f0 = some ⟨oc0, od0, .func (PySem.W.fnOf "_law_deck" "_law_deck" (defArgs s__law_deck) (defBody s__law_deck) (defScope s__law_deck) .none kV0 dc0 pm0 an0 cd0 ct0), sl0⟩)
    (c0 : PySem.W.codeIn K cd0 "_law_deck" = true) (k0 : PySem.W.keepIn K (.ref f0) = true)
    {f1 : Addr} {od1 an1 : Option Addr} {sl1 : Array (Option Value)} {oc1 kV1 dc1 pm1 cd1 ct1 : Value}
    (a1 : PySem.W.nsIn K mainGlobals "_law_draw" = some (some (.ref f1)))
    (l1 : K.lookup f1 = some ⟨oc1, od1, .func (PySem.W.fnOf "_law_draw" "_law_draw" (defArgs s__law_draw) (defBody s__law_draw) (defScope s__law_draw) .none kV1 dc1 pm1 an1 cd1 ct1), sl1⟩)
    (c1 : PySem.W.codeIn K cd1 "_law_draw" = true) (k1 : PySem.W.keepIn K (.ref f1) = true)
    {f2 : Addr} {od2 an2 : Option Addr} {sl2 : Array (Option Value)} {oc2 kV2 dc2 pm2 cd2 ct2 : Value}
    (a2 : PySem.W.nsIn K mainGlobals "_law_sorted_picks" = some (some (.ref f2)))
    (l2 : K.lookup f2 = some ⟨oc2, od2, .func (PySem.W.fnOf "_law_sorted_picks" "_law_sorted_picks" (defArgs s__law_sorted_picks) (defBody s__law_sorted_picks) (defScope s__law_sorted_picks) .none kV2 dc2 pm2 an2 cd2 ct2), sl2⟩)
    (c2 : PySem.W.codeIn K cd2 "_law_sorted_picks" = true) (k2 : PySem.W.keepIn K (.ref f2) = true)
    {f3 : Addr} {od3 an3 : Option Addr} {sl3 : Array (Option Value)} {oc3 kV3 dc3 pm3 cd3 ct3 : Value}
    (a3 : PySem.W.nsIn K mainGlobals "_law_tool" = some (some (.ref f3)))
    (l3 : K.lookup f3 = some ⟨oc3, od3, .func (PySem.W.fnOf "_law_tool" "_law_tool" (defArgs s__law_tool) (defBody s__law_tool) (defScope s__law_tool) .none kV3 dc3 pm3 an3 cd3 ct3), sl3⟩)
    (c3 : PySem.W.codeIn K cd3 "_law_tool" = true) (k3 : PySem.W.keepIn K (.ref f3) = true)
    {f4 : Addr} {od4 an4 : Option Addr} {sl4 : Array (Option Value)} {oc4 kV4 dc4 pm4 cd4 ct4 : Value}
    (a4 : PySem.W.nsIn K mainGlobals "_law_circle" = some (some (.ref f4)))
    (l4 : K.lookup f4 = some ⟨oc4, od4, .func (PySem.W.fnOf "_law_circle" "_law_circle" (defArgs s__law_circle) (defBody s__law_circle) (defScope s__law_circle) .none kV4 dc4 pm4 an4 cd4 ct4), sl4⟩)
    (c4 : PySem.W.codeIn K cd4 "_law_circle" = true) (k4 : PySem.W.keepIn K (.ref f4) = true)
    {f5 : Addr} {od5 an5 : Option Addr} {sl5 : Array (Option Value)} {oc5 kV5 dc5 pm5 cd5 ct5 : Value}
    (a5 : PySem.W.nsIn K mainGlobals "_law_odd" = some (some (.ref f5)))
    (l5 : K.lookup f5 = some ⟨oc5, od5, .func (PySem.W.fnOf "_law_odd" "_law_odd" (defArgs s__law_odd) (defBody s__law_odd) (defScope s__law_odd) .none kV5 dc5 pm5 an5 cd5 ct5), sl5⟩)
    (c5 : PySem.W.codeIn K cd5 "_law_odd" = true) (k5 : PySem.W.keepIn K (.ref f5) = true)
    {f6 : Addr} {od6 an6 : Option Addr} {sl6 : Array (Option Value)} {oc6 kV6 dc6 pm6 cd6 ct6 : Value}
    (a6 : PySem.W.nsIn K mainGlobals "_law_bent" = some (some (.ref f6)))
    (l6 : K.lookup f6 = some ⟨oc6, od6, .func (PySem.W.fnOf "_law_bent" "_law_bent" (defArgs s__law_bent) (defBody s__law_bent) (defScope s__law_bent) .none kV6 dc6 pm6 an6 cd6 ct6), sl6⟩)
    (c6 : PySem.W.codeIn K cd6 "_law_bent" = true) (k6 : PySem.W.keepIn K (.ref f6) = true)
    {f7 : Addr} {od7 an7 : Option Addr} {sl7 : Array (Option Value)} {oc7 kV7 dc7 pm7 cd7 ct7 : Value}
    (a7 : PySem.W.nsIn K mainGlobals "_law_bent" = some (some (.ref f7)))
    (l7 : K.lookup f7 = some ⟨oc7, od7, .func (PySem.W.fnOf "_law_bent" "_law_bent" (defArgs s__law_bent) (defBody s__law_bent) (defScope s__law_bent) .none kV7 dc7 pm7 an7 cd7 ct7), sl7⟩)
    (c7 : PySem.W.codeIn K cd7 "_law_bent" = true) (k7 : PySem.W.keepIn K (.ref f7) = true)
    {f8 : Addr} {od8 an8 : Option Addr} {sl8 : Array (Option Value)} {oc8 kV8 dc8 pm8 cd8 ct8 : Value}
    (a8 : PySem.W.nsIn K mainGlobals "_law_bent" = some (some (.ref f8)))
    (l8 : K.lookup f8 = some ⟨oc8, od8, .func (PySem.W.fnOf "_law_bent" "_law_bent" (defArgs s__law_bent) (defBody s__law_bent) (defScope s__law_bent) .none kV8 dc8 pm8 an8 cd8 ct8), sl8⟩)
    (c8 : PySem.W.codeIn K cd8 "_law_bent" = true) (k8 : PySem.W.keepIn K (.ref f8) = true)
    {f9 : Addr} {od9 an9 : Option Addr} {sl9 : Array (Option Value)} {oc9 kV9 dc9 pm9 cd9 ct9 : Value}
    (a9 : PySem.W.nsIn K mainGlobals "_law_bent" = some (some (.ref f9)))
    (l9 : K.lookup f9 = some ⟨oc9, od9, .func (PySem.W.fnOf "_law_bent" "_law_bent" (defArgs s__law_bent) (defBody s__law_bent) (defScope s__law_bent) .none kV9 dc9 pm9 an9 cd9 ct9), sl9⟩)
    (c9 : PySem.W.codeIn K cd9 "_law_bent" = true) (k9 : PySem.W.keepIn K (.ref f9) = true)
    {f10 : Addr} {od10 an10 : Option Addr} {sl10 : Array (Option Value)} {oc10 kV10 dc10 pm10 cd10 ct10 : Value}
    (a10 : PySem.W.nsIn K mainGlobals "is_number" = some (some (.ref f10)))
    (l10 : K.lookup f10 = some ⟨oc10, od10, .func (PySem.W.fnOf "is_number" "is_number" (defArgs s_is_number) (defBody s_is_number) (defScope s_is_number) .none kV10 dc10 pm10 an10 cd10 ct10), sl10⟩)
    (c10 : PySem.W.codeIn K cd10 "is_number" = true) (k10 : PySem.W.keepIn K (.ref f10) = true)
    {f11 : Addr} {od11 an11 : Option Addr} {sl11 : Array (Option Value)} {oc11 kV11 dc11 pm11 cd11 ct11 : Value}
    (a11 : PySem.W.nsIn K mainGlobals "is_number_within" = some (some (.ref f11)))
    (l11 : K.lookup f11 = some ⟨oc11, od11, .func (PySem.W.fnOf "is_number_within" "is_number_within" (defArgs s_is_number_within) (defBody s_is_number_within) (defScope s_is_number_within) .none kV11 dc11 pm11 an11 cd11 ct11), sl11⟩)
    (c11 : PySem.W.codeIn K cd11 "is_number_within" = true) (k11 : PySem.W.keepIn K (.ref f11) = true)
    {f12 : Addr} {od12 an12 : Option Addr} {sl12 : Array (Option Value)} {oc12 kV12 dc12 pm12 cd12 ct12 : Value}
    (a12 : PySem.W.nsIn K mainGlobals "is_tuple_within" = some (some (.ref f12)))
    (l12 : K.lookup f12 = some ⟨oc12, od12, .func (PySem.W.fnOf "is_tuple_within" "is_tuple_within" (defArgs s_is_tuple_within) (defBody s_is_tuple_within) (defScope s_is_tuple_within) .none kV12 dc12 pm12 an12 cd12 ct12), sl12⟩)
    (c12 : PySem.W.codeIn K cd12 "is_tuple_within" = true) (k12 : PySem.W.keepIn K (.ref f12) = true)
    {f13 : Addr} {od13 an13 : Option Addr} {sl13 : Array (Option Value)} {oc13 kV13 dc13 pm13 cd13 ct13 : Value}
    (a13 : PySem.W.nsIn K mainGlobals "is_pair" = some (some (.ref f13)))
    (l13 : K.lookup f13 = some ⟨oc13, od13, .func (PySem.W.fnOf "is_pair" "is_pair" (defArgs s_is_pair) (defBody s_is_pair) (defScope s_is_pair) .none kV13 dc13 pm13 an13 cd13 ct13), sl13⟩)
    (c13 : PySem.W.codeIn K cd13 "is_pair" = true) (k13 : PySem.W.keepIn K (.ref f13) = true)
    {f14 : Addr} {od14 an14 : Option Addr} {sl14 : Array (Option Value)} {oc14 kV14 dc14 pm14 cd14 ct14 : Value}
    (a14 : PySem.W.nsIn K mainGlobals "is_place" = some (some (.ref f14)))
    (l14 : K.lookup f14 = some ⟨oc14, od14, .func (PySem.W.fnOf "is_place" "is_place" (defArgs s_is_place) (defBody s_is_place) (defScope s_is_place) .none kV14 dc14 pm14 an14 cd14 ct14), sl14⟩)
    (c14 : PySem.W.codeIn K cd14 "is_place" = true) (k14 : PySem.W.keepIn K (.ref f14) = true)
    {f15 : Addr} {od15 an15 : Option Addr} {sl15 : Array (Option Value)} {oc15 kV15 dc15 pm15 cd15 ct15 : Value}
    (a15 : PySem.W.nsIn K mainGlobals "is_pair_of_places" = some (some (.ref f15)))
    (l15 : K.lookup f15 = some ⟨oc15, od15, .func (PySem.W.fnOf "is_pair_of_places" "is_pair_of_places" (defArgs s_is_pair_of_places) (defBody s_is_pair_of_places) (defScope s_is_pair_of_places) .none kV15 dc15 pm15 an15 cd15 ct15), sl15⟩)
    (c15 : PySem.W.codeIn K cd15 "is_pair_of_places" = true) (k15 : PySem.W.keepIn K (.ref f15) = true)
    {f16 : Addr} {od16 an16 : Option Addr} {sl16 : Array (Option Value)} {oc16 kV16 dc16 pm16 cd16 ct16 : Value}
    (a16 : PySem.W.nsIn K mainGlobals "begin_fits" = some (some (.ref f16)))
    (l16 : K.lookup f16 = some ⟨oc16, od16, .func (PySem.W.fnOf "begin_fits" "begin_fits" (defArgs s_begin_fits) (defBody s_begin_fits) (defScope s_begin_fits) .none kV16 dc16 pm16 an16 cd16 ct16), sl16⟩)
    (c16 : PySem.W.codeIn K cd16 "begin_fits" = true) (k16 : PySem.W.keepIn K (.ref f16) = true)
    {f17 : Addr} {od17 an17 : Option Addr} {sl17 : Array (Option Value)} {oc17 kV17 dc17 pm17 cd17 ct17 : Value}
    (a17 : PySem.W.nsIn K mainGlobals "target_fits" = some (some (.ref f17)))
    (l17 : K.lookup f17 = some ⟨oc17, od17, .func (PySem.W.fnOf "target_fits" "target_fits" (defArgs s_target_fits) (defBody s_target_fits) (defScope s_target_fits) .none kV17 dc17 pm17 an17 cd17 ct17), sl17⟩)
    (c17 : PySem.W.codeIn K cd17 "target_fits" = true) (k17 : PySem.W.keepIn K (.ref f17) = true)
    {f18 : Addr} {od18 an18 : Option Addr} {sl18 : Array (Option Value)} {oc18 kV18 dc18 pm18 cd18 ct18 : Value}
    (a18 : PySem.W.nsIn K mainGlobals "item_error" = some (some (.ref f18)))
    (l18 : K.lookup f18 = some ⟨oc18, od18, .func (PySem.W.fnOf "item_error" "item_error" (defArgs s_item_error) (defBody s_item_error) (defScope s_item_error) .none kV18 dc18 pm18 an18 cd18 ct18), sl18⟩)
    (c18 : PySem.W.codeIn K cd18 "item_error" = true) (k18 : PySem.W.keepIn K (.ref f18) = true)
    {f19 : Addr} {od19 an19 : Option Addr} {sl19 : Array (Option Value)} {oc19 kV19 dc19 pm19 cd19 ct19 : Value}
    (a19 : PySem.W.nsIn K mainGlobals "tool_error" = some (some (.ref f19)))
    (l19 : K.lookup f19 = some ⟨oc19, od19, .func (PySem.W.fnOf "tool_error" "tool_error" (defArgs s_tool_error) (defBody s_tool_error) (defScope s_tool_error) .none kV19 dc19 pm19 an19 cd19 ct19), sl19⟩)
    (c19 : PySem.W.codeIn K cd19 "tool_error" = true) (k19 : PySem.W.keepIn K (.ref f19) = true)
    {f20 : Addr} {od20 an20 : Option Addr} {sl20 : Array (Option Value)} {oc20 kV20 dc20 pm20 cd20 ct20 : Value}
    (a20 : PySem.W.nsIn K mainGlobals "is_tool" = some (some (.ref f20)))
    (l20 : K.lookup f20 = some ⟨oc20, od20, .func (PySem.W.fnOf "is_tool" "is_tool" (defArgs s_is_tool) (defBody s_is_tool) (defScope s_is_tool) .none kV20 dc20 pm20 an20 cd20 ct20), sl20⟩)
    (c20 : PySem.W.codeIn K cd20 "is_tool" = true) (k20 : PySem.W.keepIn K (.ref f20) = true)
    {f21 : Addr} {od21 an21 : Option Addr} {sl21 : Array (Option Value)} {oc21 kV21 dc21 pm21 cd21 ct21 : Value}
    (a21 : PySem.W.nsIn K mainGlobals "check_tools" = some (some (.ref f21)))
    (l21 : K.lookup f21 = some ⟨oc21, od21, .func (PySem.W.fnOf "check_tools" "check_tools" (defArgs s_check_tools) (defBody s_check_tools) (defScope s_check_tools) .none kV21 dc21 pm21 an21 cd21 ct21), sl21⟩)
    (c21 : PySem.W.codeIn K cd21 "check_tools" = true) (k21 : PySem.W.keepIn K (.ref f21) = true)
    {f22 : Addr} {od22 an22 : Option Addr} {sl22 : Array (Option Value)} {oc22 kV22 dc22 pm22 cd22 ct22 : Value}
    (a22 : PySem.W.nsIn K mainGlobals "_law_made" = some (some (.ref f22)))
    (l22 : K.lookup f22 = some ⟨oc22, od22, .func (PySem.W.fnOf "_law_made" "_law_made" (defArgs s__law_made) (defBody s__law_made) (defScope s__law_made) .none kV22 dc22 pm22 an22 cd22 ct22), sl22⟩)
    (c22 : PySem.W.codeIn K cd22 "_law_made" = true) (k22 : PySem.W.keepIn K (.ref f22) = true)
    {f23 : Addr} {od23 an23 : Option Addr} {sl23 : Array (Option Value)} {oc23 kV23 dc23 pm23 cd23 ct23 : Value}
    (a23 : PySem.W.nsIn K mainGlobals "_law_is_within" = some (some (.ref f23)))
    (l23 : K.lookup f23 = some ⟨oc23, od23, .func (PySem.W.fnOf "_law_is_within" "_law_is_within" (defArgs s__law_is_within) (defBody s__law_is_within) (defScope s__law_is_within) .none kV23 dc23 pm23 an23 cd23 ct23), sl23⟩)
    (c23 : PySem.W.codeIn K cd23 "_law_is_within" = true) (k23 : PySem.W.keepIn K (.ref f23) = true)
    {f24 : Addr} {od24 an24 : Option Addr} {sl24 : Array (Option Value)} {oc24 kV24 dc24 pm24 cd24 ct24 : Value}
    (a24 : PySem.W.nsIn K mainGlobals "_law_is_tool" = some (some (.ref f24)))
    (l24 : K.lookup f24 = some ⟨oc24, od24, .func (PySem.W.fnOf "_law_is_tool" "_law_is_tool" (defArgs s__law_is_tool) (defBody s__law_is_tool) (defScope s__law_is_tool) .none kV24 dc24 pm24 an24 cd24 ct24), sl24⟩)
    (c24 : PySem.W.codeIn K cd24 "_law_is_tool" = true) (k24 : PySem.W.keepIn K (.ref f24) = true)
    {f25 : Addr} {od25 an25 : Option Addr} {sl25 : Array (Option Value)} {oc25 kV25 dc25 pm25 cd25 ct25 : Value}
    (a25 : PySem.W.nsIn K mainGlobals "_law_expected" = some (some (.ref f25)))
    (l25 : K.lookup f25 = some ⟨oc25, od25, .func (PySem.W.fnOf "_law_expected" "_law_expected" (defArgs s__law_expected) (defBody s__law_expected) (defScope s__law_expected) .none kV25 dc25 pm25 an25 cd25 ct25), sl25⟩)
    (c25 : PySem.W.codeIn K cd25 "_law_expected" = true) (k25 : PySem.W.keepIn K (.ref f25) = true)
    {f26 : Addr} {od26 an26 : Option Addr} {sl26 : Array (Option Value)} {oc26 kV26 dc26 pm26 cd26 ct26 : Value}
    (a26 : PySem.W.nsIn K mainGlobals "is_index" = some (some (.ref f26)))
    (l26 : K.lookup f26 = some ⟨oc26, od26, .func (PySem.W.fnOf "is_index" "is_index" (defArgs s_is_index) (defBody s_is_index) (defScope s_is_index) .none kV26 dc26 pm26 an26 cd26 ct26), sl26⟩)
    (c26 : PySem.W.codeIn K cd26 "is_index" = true) (k26 : PySem.W.keepIn K (.ref f26) = true)
    {f27 : Addr} {od27 an27 : Option Addr} {sl27 : Array (Option Value)} {oc27 kV27 dc27 pm27 cd27 ct27 : Value}
    (a27 : PySem.W.nsIn K mainGlobals "_law_right" = some (some (.ref f27)))
    (l27 : K.lookup f27 = some ⟨oc27, od27, .func (PySem.W.fnOf "_law_right" "_law_right" (defArgs s__law_right) (defBody s__law_right) (defScope s__law_right) .none kV27 dc27 pm27 an27 cd27 ct27), sl27⟩)
    (c27 : PySem.W.codeIn K cd27 "_law_right" = true) (k27 : PySem.W.keepIn K (.ref f27) = true)
    {f28 : Addr} {od28 an28 : Option Addr} {sl28 : Array (Option Value)} {oc28 kV28 dc28 pm28 cd28 ct28 : Value}
    (a28 : PySem.W.nsIn K mainGlobals "law" = some (some (.ref f28)))
    (l28 : K.lookup f28 = some ⟨oc28, od28, .func (PySem.W.fnOf "law" "law" (defArgs s_law) (defBody s_law) (defScope s_law) .none kV28 dc28 pm28 an28 cd28 ct28), sl28⟩)
    (c28 : PySem.W.codeIn K cd28 "law" = true) (k28 : PySem.W.keepIn K (.ref f28) = true)
    (z_len : PySem.W.nsIn K mainGlobals "len" = some none)
    (z_range : PySem.W.nsIn K mainGlobals "range" = some none)
    (z_abs : PySem.W.nsIn K mainGlobals "abs" = some none)
    (z_list : PySem.W.nsIn K mainGlobals "list" = some none)
    (z_sorted : PySem.W.nsIn K mainGlobals "sorted" = some none)
    (z_min : PySem.W.nsIn K mainGlobals "min" = some none)
    (z_max : PySem.W.nsIn K mainGlobals "max" = some none)
    (z_tuple : PySem.W.nsIn K mainGlobals "tuple" = some none)
    (z_dict : PySem.W.nsIn K mainGlobals "dict" = some none)
    (z_repr : PySem.W.nsIn K mainGlobals "repr" = some none)
    (z_set : PySem.W.nsIn K mainGlobals "set" = some none)
    (z_sum : PySem.W.nsIn K mainGlobals "sum" = some none)
    (z_isinstance : PySem.W.nsIn K mainGlobals "isinstance" = some none)
    (z_int : PySem.W.nsIn K mainGlobals "int" = some none)
    (z_bool : PySem.W.nsIn K mainGlobals "bool" = some none)
    (z_enumerate : PySem.W.nsIn K mainGlobals "enumerate" = some none)
    (z_zip : PySem.W.nsIn K mainGlobals "zip" = some none)
    (z_str : PySem.W.nsIn K mainGlobals "str" = some none)
    (z_type : PySem.W.nsIn K mainGlobals "type" = some none)
    (z_reversed : PySem.W.nsIn K mainGlobals "reversed" = some none)
    (z_any : PySem.W.nsIn K mainGlobals "any" = some none)
    (z_all : PySem.W.nsIn K mainGlobals "all" = some none)
    {v_MAX_ARCS : Value} (g_MAX_ARCS : PySem.W.nsIn K mainGlobals "MAX_ARCS" = some (some v_MAX_ARCS)) (r_MAX_ARCS : ∃ t, v_MAX_ARCS = .int (12) t)
    {v_MAX_PLACES : Value} (g_MAX_PLACES : PySem.W.nsIn K mainGlobals "MAX_PLACES" = some (some v_MAX_PLACES)) (r_MAX_PLACES : ∃ t, v_MAX_PLACES = .int (60) t)
    {v_MAX_TOOLS : Value} (g_MAX_TOOLS : PySem.W.nsIn K mainGlobals "MAX_TOOLS" = some (some v_MAX_TOOLS)) (r_MAX_TOOLS : ∃ t, v_MAX_TOOLS = .int (4) t)
    {C_BadTools : Addr} (cg_BadTools : PySem.W.nsIn K mainGlobals "BadTools" = some (some (.ref C_BadTools)))
    (ce_BadTools : PySem.W.subIn K (.ref C_BadTools) (.type "BaseException") = some true) (ch_BadTools : PySem.W.hasDictIn K C_BadTools = true) (ct_BadTools : PySem.W.typeIn K (.ref C_BadTools) = some (.type "type"))
    {C_PushError : Addr} (cg_PushError : PySem.W.nsIn K mainGlobals "PushError" = some (some (.ref C_PushError)))
    {fI_BadTools : Addr} {nm_BadTools qq_BadTools : Str} {NN_BadTools : Addr} {bs_BadTools : List Value} {sn_BadTools : List Str} {sub_BadTools : List Value} {ab_BadTools : Bool} {col_BadTools : Option Bool} {dd_BadTools : Option Addr} {q0_BadTools q1_BadTools q2_BadTools q3_BadTools q5_BadTools : Option Value}
    {ocI_BadTools kVI_BadTools dcI_BadTools pmI_BadTools cdI_BadTools ctI_BadTools : Value} {odI_BadTools anI_BadTools : Option Addr} {slI_BadTools : Array (Option Value)}
    (cL_BadTools : K.lookup C_BadTools = some (excClassObj nm_BadTools qq_BadTools C_BadTools NN_BadTools bs_BadTools [.ref C_PushError, .type "ValueError", .type "Exception", .type "BaseException", .type "object"] true sn_BadTools sub_BadTools ab_BadTools col_BadTools dd_BadTools q0_BadTools q1_BadTools q2_BadTools q3_BadTools q5_BadTools "ValueError.__new__"))
    (csa_BadTools : PySem.W.findIn K (.ref C_BadTools) "__setattr__" = some (some (.builtin "object.__setattr__"))) (cga_BadTools : PySem.W.findIn K (.ref C_BadTools) "__getattribute__" = some (some (.builtin "BaseException.__getattribute__"))) (cgg_BadTools : PySem.W.findIn K (.ref C_BadTools) "__getattr__" = some none) (cno_BadTools : PySem.W.findIn K (.ref C_BadTools) "index" = some none)
    (ci_BadTools : PySem.W.findIn K (.ref C_BadTools) "__init__" = some (some (.ref fI_BadTools))) (cti_BadTools : PySem.W.typeIn K (.ref fI_BadTools) = some (.type "function"))
    (cl_BadTools : K.lookup fI_BadTools = some ⟨ocI_BadTools, odI_BadTools, .func (PySem.W.fnOf "__init__" "BadTools.__init__" (defArgs s_BadTools) (defBody s_BadTools) (defScope s_BadTools) .none kVI_BadTools dcI_BadTools pmI_BadTools anI_BadTools cdI_BadTools ctI_BadTools), slI_BadTools⟩) (cc_BadTools : PySem.W.codeIn K cdI_BadTools "BadTools.__init__" = true) (ck_BadTools : PySem.W.keepIn K (.ref fI_BadTools) = true)
    (ckC_BadTools : PySem.W.keepIn K (.ref C_BadTools) = true)
    (cha_BadTools : PySem.W.findIn K (.ref C_BadTools) "__class__" = some (some (.builtin "object.__class__"))) (chn_BadTools : PySem.W.specialIn K (.builtin "object.__class__") "__get__" = some (some (.builtin "getset_descriptor.__get__"))) (cht_BadTools : PySem.W.takesIn K (.builtin "object.__class__") = some true) (chm_BadTools : PySem.W.mroIn K C_BadTools (.type "object") = some true)
    {C_BadCircle : Addr} (cg_BadCircle : PySem.W.nsIn K mainGlobals "BadCircle" = some (some (.ref C_BadCircle)))
    (ce_BadCircle : PySem.W.subIn K (.ref C_BadCircle) (.type "BaseException") = some true) (ch_BadCircle : PySem.W.hasDictIn K C_BadCircle = true) (ct_BadCircle : PySem.W.typeIn K (.ref C_BadCircle) = some (.type "type"))
    {fI_BadCircle : Addr} {nm_BadCircle qq_BadCircle : Str} {NN_BadCircle : Addr} {bs_BadCircle : List Value} {sn_BadCircle : List Str} {sub_BadCircle : List Value} {ab_BadCircle : Bool} {col_BadCircle : Option Bool} {dd_BadCircle : Option Addr} {q0_BadCircle q1_BadCircle q2_BadCircle q3_BadCircle q5_BadCircle : Option Value}
    {ocI_BadCircle kVI_BadCircle dcI_BadCircle pmI_BadCircle cdI_BadCircle ctI_BadCircle : Value} {odI_BadCircle anI_BadCircle : Option Addr} {slI_BadCircle : Array (Option Value)}
    (cL_BadCircle : K.lookup C_BadCircle = some (excClassObj nm_BadCircle qq_BadCircle C_BadCircle NN_BadCircle bs_BadCircle [.ref C_PushError, .type "ValueError", .type "Exception", .type "BaseException", .type "object"] true sn_BadCircle sub_BadCircle ab_BadCircle col_BadCircle dd_BadCircle q0_BadCircle q1_BadCircle q2_BadCircle q3_BadCircle q5_BadCircle "ValueError.__new__"))
    (csa_BadCircle : PySem.W.findIn K (.ref C_BadCircle) "__setattr__" = some (some (.builtin "object.__setattr__"))) (cga_BadCircle : PySem.W.findIn K (.ref C_BadCircle) "__getattribute__" = some (some (.builtin "BaseException.__getattribute__"))) (cgg_BadCircle : PySem.W.findIn K (.ref C_BadCircle) "__getattr__" = some none) (cno_BadCircle : PySem.W.findIn K (.ref C_BadCircle) "value" = some none)
    (ci_BadCircle : PySem.W.findIn K (.ref C_BadCircle) "__init__" = some (some (.ref fI_BadCircle))) (cti_BadCircle : PySem.W.typeIn K (.ref fI_BadCircle) = some (.type "function"))
    (cl_BadCircle : K.lookup fI_BadCircle = some ⟨ocI_BadCircle, odI_BadCircle, .func (PySem.W.fnOf "__init__" "BadCircle.__init__" (defArgs s_BadCircle) (defBody s_BadCircle) (defScope s_BadCircle) .none kVI_BadCircle dcI_BadCircle pmI_BadCircle anI_BadCircle cdI_BadCircle ctI_BadCircle), slI_BadCircle⟩) (cc_BadCircle : PySem.W.codeIn K cdI_BadCircle "BadCircle.__init__" = true) (ck_BadCircle : PySem.W.keepIn K (.ref fI_BadCircle) = true)
    (ckC_BadCircle : PySem.W.keepIn K (.ref C_BadCircle) = true)
    (cha_BadCircle : PySem.W.findIn K (.ref C_BadCircle) "__class__" = some (some (.builtin "object.__class__"))) (chn_BadCircle : PySem.W.specialIn K (.builtin "object.__class__") "__get__" = some (some (.builtin "getset_descriptor.__get__"))) (cht_BadCircle : PySem.W.takesIn K (.builtin "object.__class__") = some true) (chm_BadCircle : PySem.W.mroIn K C_BadCircle (.type "object") = some true)
    {C_Bench : Addr} (cg_Bench : PySem.W.nsIn K mainGlobals "Bench" = some (some (.ref C_Bench)))
    (pg_Bench : PySem.W.plainGet K C_Bench Str.empty = true)
    (hd_Bench : PySem.W.hasDictIn K C_Bench = true)
    (po_Bench : PySem.W.plainOver K C_Bench = true)
    (sa_Bench : PySem.W.findIn K (.ref C_Bench) "__setattr__" = some (some (.builtin "object.__setattr__")))
    (ha_Bench : PySem.W.findIn K (.ref C_Bench) "__class__" = some (some (.builtin "object.__class__")))
    (hn_Bench : PySem.W.specialIn K (.builtin "object.__class__") "__get__" = some (some (.builtin "getset_descriptor.__get__")))
    (ht_Bench : PySem.W.takesIn K (.builtin "object.__class__") = some true)
    (hm_Bench : PySem.W.mroIn K C_Bench (.type "object") = some true)
    (mk_Bench : PySem.W.makesIn K C_Bench = true)
    (kp_Bench : PySem.W.keepIn K (.ref C_Bench) = true)
    (n_m_Bench : PySem.W.findIn K (.ref C_Bench) "m" = some none)
    (n_tools_Bench : PySem.W.findIn K (.ref C_Bench) "tools" = some none)
    (n_done_Bench : PySem.W.findIn K (.ref C_Bench) "done" = some none)
    (n_states_Bench : PySem.W.findIn K (.ref C_Bench) "states" = some none)
    (n_aim_Bench : PySem.W.findIn K (.ref C_Bench) "aim" = some none)
    (n_is_watched_Bench : PySem.W.findIn K (.ref C_Bench) "is_watched" = some none)
    {f_Bench___init__ : Addr} {od_Bench___init__ an_Bench___init__ : Option Addr} {sl_Bench___init__ : Array (Option Value)} {oc_Bench___init__ kV_Bench___init__ dc_Bench___init__ pm_Bench___init__ cd_Bench___init__ ct_Bench___init__ : Value}
    (at_Bench___init__ : PySem.W.findIn K (.ref C_Bench) "__init__" = some (some (.ref f_Bench___init__))) (fn_Bench___init__ : PySem.W.isFn K (.ref f_Bench___init__) = true)
    (l_Bench___init__ : K.lookup f_Bench___init__ = some ⟨oc_Bench___init__, od_Bench___init__, .func (PySem.W.fnOf "__init__" "Bench.__init__" (defArgs s_Bench___init__) (defBody s_Bench___init__) (defScope s_Bench___init__) .none kV_Bench___init__ dc_Bench___init__ pm_Bench___init__ an_Bench___init__ cd_Bench___init__ ct_Bench___init__), sl_Bench___init__⟩) (c_Bench___init__ : PySem.W.codeIn K cd_Bench___init__ "Bench.__init__" = true) (k_Bench___init__ : PySem.W.keepIn K (.ref f_Bench___init__) = true)
    {f_Bench_edits : Addr} {od_Bench_edits an_Bench_edits : Option Addr} {sl_Bench_edits : Array (Option Value)} {oc_Bench_edits kV_Bench_edits dc_Bench_edits pm_Bench_edits cd_Bench_edits ct_Bench_edits : Value}
    (at_Bench_edits : PySem.W.findIn K (.ref C_Bench) "edits" = some (some (.ref f_Bench_edits))) (fn_Bench_edits : PySem.W.isFn K (.ref f_Bench_edits) = true)
    (l_Bench_edits : K.lookup f_Bench_edits = some ⟨oc_Bench_edits, od_Bench_edits, .func (PySem.W.fnOf "edits" "Bench.edits" (defArgs s_Bench_edits) (defBody s_Bench_edits) (defScope s_Bench_edits) .none kV_Bench_edits dc_Bench_edits pm_Bench_edits an_Bench_edits cd_Bench_edits ct_Bench_edits), sl_Bench_edits⟩) (c_Bench_edits : PySem.W.codeIn K cd_Bench_edits "Bench.edits" = true) (k_Bench_edits : PySem.W.keepIn K (.ref f_Bench_edits) = true)
    {f_Bench_possible : Addr} {od_Bench_possible an_Bench_possible : Option Addr} {sl_Bench_possible : Array (Option Value)} {oc_Bench_possible dc_Bench_possible pm_Bench_possible cd_Bench_possible ct_Bench_possible : Value} {D_Bench_possible : Addr}
    (at_Bench_possible : PySem.W.findIn K (.ref C_Bench) "possible" = some (some (.ref f_Bench_possible))) (fn_Bench_possible : PySem.W.isFn K (.ref f_Bench_possible) = true)
    (l_Bench_possible : K.lookup f_Bench_possible = some ⟨oc_Bench_possible, od_Bench_possible, .func (PySem.W.fnOf "possible" "Bench.possible" (defArgs s_Bench_possible) (defBody s_Bench_possible) (defScope s_Bench_possible) .none (.ref D_Bench_possible) dc_Bench_possible pm_Bench_possible an_Bench_possible cd_Bench_possible ct_Bench_possible), sl_Bench_possible⟩) (c_Bench_possible : PySem.W.codeIn K cd_Bench_possible "Bench.possible" = true) (k_Bench_possible : PySem.W.keepIn K (.ref f_Bench_possible) = true)
    (ns_Bench_possible_version : PySem.W.nsIn K D_Bench_possible "version" = some (some .none))
    {f_Bench___len__ : Addr} {od_Bench___len__ an_Bench___len__ : Option Addr} {sl_Bench___len__ : Array (Option Value)} {oc_Bench___len__ kV_Bench___len__ dc_Bench___len__ pm_Bench___len__ cd_Bench___len__ ct_Bench___len__ : Value}
    (at_Bench___len__ : PySem.W.findIn K (.ref C_Bench) "__len__" = some (some (.ref f_Bench___len__))) (fn_Bench___len__ : PySem.W.isFn K (.ref f_Bench___len__) = true)
    (l_Bench___len__ : K.lookup f_Bench___len__ = some ⟨oc_Bench___len__, od_Bench___len__, .func (PySem.W.fnOf "__len__" "Bench.__len__" (defArgs s_Bench___len__) (defBody s_Bench___len__) (defScope s_Bench___len__) .none kV_Bench___len__ dc_Bench___len__ pm_Bench___len__ an_Bench___len__ cd_Bench___len__ ct_Bench___len__), sl_Bench___len__⟩) (c_Bench___len__ : PySem.W.codeIn K cd_Bench___len__ "Bench.__len__" = true) (k_Bench___len__ : PySem.W.keepIn K (.ref f_Bench___len__) = true)
    {f_Bench___str__ : Addr} {od_Bench___str__ an_Bench___str__ : Option Addr} {sl_Bench___str__ : Array (Option Value)} {oc_Bench___str__ kV_Bench___str__ dc_Bench___str__ pm_Bench___str__ cd_Bench___str__ ct_Bench___str__ : Value}
    (at_Bench___str__ : PySem.W.findIn K (.ref C_Bench) "__str__" = some (some (.ref f_Bench___str__))) (fn_Bench___str__ : PySem.W.isFn K (.ref f_Bench___str__) = true)
    (l_Bench___str__ : K.lookup f_Bench___str__ = some ⟨oc_Bench___str__, od_Bench___str__, .func (PySem.W.fnOf "__str__" "Bench.__str__" (defArgs s_Bench___str__) (defBody s_Bench___str__) (defScope s_Bench___str__) .none kV_Bench___str__ dc_Bench___str__ pm_Bench___str__ an_Bench___str__ cd_Bench___str__ ct_Bench___str__), sl_Bench___str__⟩) (c_Bench___str__ : PySem.W.codeIn K cd_Bench___str__ "Bench.__str__" = true) (k_Bench___str__ : PySem.W.keepIn K (.ref f_Bench___str__) = true)
    {C_BadEdits : Addr} (cg_BadEdits : PySem.W.nsIn K mainGlobals "BadEdits" = some (some (.ref C_BadEdits)))
    {C_BadLength : Addr} (cg_BadLength : PySem.W.nsIn K mainGlobals "BadLength" = some (some (.ref C_BadLength)))
    {C_BadTurn : Addr} (cg_BadTurn : PySem.W.nsIn K mainGlobals "BadTurn" = some (some (.ref C_BadTurn)))
    (z_ValueError : PySem.W.nsIn K mainGlobals "ValueError" = some none)
    (kBB : PySem.W.kitOne K (.ref C_BadCircle) (.ref C_BadCircle) = some true)
    (kBT : PySem.W.kitOne K (.ref C_BadCircle) (.ref C_BadTools) = some false)
    (kTB : PySem.W.kitOne K (.ref C_BadTools) (.ref C_BadCircle) = some false)
    (kTT : PySem.W.kitOne K (.ref C_BadTools) (.ref C_BadTools) = some true)
    (kBV : PySem.W.kitOne K (.ref C_BadCircle) (.type "ValueError") = some true)
    (kTV : PySem.W.kitOne K (.ref C_BadTools) (.type "ValueError") = some true)
    (kB3 : PySem.W.kitAny K (.ref C_BadCircle) [.ref C_BadEdits, .ref C_BadLength, .ref C_BadTurn] = some false)
    (kT3 : PySem.W.kitAny K (.ref C_BadTools) [.ref C_BadEdits, .ref C_BadLength, .ref C_BadTurn] = some false)
    (xB : PySem.W.exmOne K (.ref C_BadCircle) (.ref C_PushError) = some true)
    (xT : PySem.W.exmOne K (.ref C_BadTools) (.ref C_PushError) = some true)
    (kL : PySem.W.kitOne K (.ref C_Bench) (.type "list") = some false)
    : ∃ fd : FuncData, (∀ (s : Shared) (v : Value), BindsTo s fd ⟨[v], []⟩ [("_law_script", v)]) ∧
      ∀ base : Heap, K.In base → base.Ns mainGlobals mg → (∃ o, base.get? sysModules = some o) → FnG l.prog w K mg base 13 fa fd ["_law_script"] (spLaw K) := by
  have e := hfa.symm.trans (PySem.W.mg_of X G a28)
  cases e
  have T : Bi mg := ⟨PySem.W.mg_none_of X G z_len, PySem.W.mg_none_of X G z_range, PySem.W.mg_none_of X G z_abs, PySem.W.mg_none_of X G z_list, PySem.W.mg_none_of X G z_sorted, PySem.W.mg_none_of X G z_min, PySem.W.mg_none_of X G z_max, PySem.W.mg_none_of X G z_tuple, PySem.W.mg_none_of X G z_dict, PySem.W.mg_none_of X G z_repr, PySem.W.mg_none_of X G z_set, PySem.W.mg_none_of X G z_sum, PySem.W.mg_none_of X G z_isinstance, PySem.W.mg_none_of X G z_int, PySem.W.mg_none_of X G z_bool, PySem.W.mg_none_of X G z_enumerate, PySem.W.mg_none_of X G z_zip, PySem.W.mg_none_of X G z_str, PySem.W.mg_none_of X G z_type, PySem.W.mg_none_of X G z_reversed, PySem.W.mg_none_of X G z_any, PySem.W.mg_none_of X G z_all⟩
  have G_MAX_ARCS : ∃ t, mg "MAX_ARCS" = some (.int (12) t) := by
    obtain ⟨t, e⟩ := r_MAX_ARCS
    exact ⟨t, by rw [← e]; exact PySem.W.mg_of X G g_MAX_ARCS⟩
  have G_MAX_PLACES : ∃ t, mg "MAX_PLACES" = some (.int (60) t) := by
    obtain ⟨t, e⟩ := r_MAX_PLACES
    exact ⟨t, by rw [← e]; exact PySem.W.mg_of X G g_MAX_PLACES⟩
  have G_MAX_TOOLS : ∃ t, mg "MAX_TOOLS" = some (.int (4) t) := by
    obtain ⟨t, e⟩ := r_MAX_TOOLS
    exact ⟨t, by rw [← e]; exact PySem.W.mg_of X G g_MAX_TOOLS⟩
  have F0 := fun_mk (st := s__law_deck) l0 c0 k0
  have b0 := F0.binds (ps := ["_law_script"]) fun _ _ _ _ _ _ us hl => match us, hl with | [_], _ => rfl
  have F1 := fun_mk (st := s__law_draw) l1 c1 k1
  have b1 := F1.binds (ps := ["_law_deck_here", "_law_many"]) fun _ _ _ _ _ _ us hl => match us, hl with | [_, _], _ => rfl
  have F2 := fun_mk (st := s__law_sorted_picks) l2 c2 k2
  have b2 := F2.binds (ps := ["_law_deck_here", "_law_m", "_law_many"]) fun _ _ _ _ _ _ us hl => match us, hl with | [_, _, _], _ => rfl
  have F3 := fun_mk (st := s__law_tool) l3 c3 k3
  have b3 := F3.binds (ps := ["_law_deck_here", "_law_m"]) fun _ _ _ _ _ _ us hl => match us, hl with | [_, _], _ => rfl
  have F4 := fun_mk (st := s__law_circle) l4 c4 k4
  have b4 := F4.binds (ps := ["_law_deck_here", "_law_most"]) fun _ _ _ _ _ _ us hl => match us, hl with | [_, _], _ => rfl
  have F5 := fun_mk (st := s__law_odd) l5 c5 k5
  have b5 := F5.binds (ps := ["_law_deck_here"]) fun _ _ _ _ _ _ us hl => match us, hl with | [_], _ => rfl
  have F6 := fun_mk (st := s__law_bent) l6 c6 k6
  have b6 := F6.binds (ps := ["_law_deck_here", "_law_value"]) fun _ _ _ _ _ _ us hl => match us, hl with | [_, _], _ => rfl
  have F7 := fun_mk (st := s__law_bent) l7 c7 k7
  have b7 := F7.binds (ps := ["_law_deck_here", "_law_value"]) fun _ _ _ _ _ _ us hl => match us, hl with | [_, _], _ => rfl
  have F8 := fun_mk (st := s__law_bent) l8 c8 k8
  have b8 := F8.binds (ps := ["_law_deck_here", "_law_value"]) fun _ _ _ _ _ _ us hl => match us, hl with | [_, _], _ => rfl
  have F9 := fun_mk (st := s__law_bent) l9 c9 k9
  have b9 := F9.binds (ps := ["_law_deck_here", "_law_value"]) fun _ _ _ _ _ _ us hl => match us, hl with | [_, _], _ => rfl
  have F10 := fun_mk (st := s_is_number) l10 c10 k10
  have b10 := F10.binds (ps := ["value"]) fun _ _ _ _ _ _ us hl => match us, hl with | [_], _ => rfl
  have F11 := fun_mk (st := s_is_number_within) l11 c11 k11
  have b11 := F11.binds (ps := ["value", "least", "most"]) fun _ _ _ _ _ _ us hl => match us, hl with | [_, _, _], _ => rfl
  have F12 := fun_mk (st := s_is_tuple_within) l12 c12 k12
  have b12 := F12.binds (ps := ["value", "least", "most"]) fun _ _ _ _ _ _ us hl => match us, hl with | [_, _, _], _ => rfl
  have F13 := fun_mk (st := s_is_pair) l13 c13 k13
  have b13 := F13.binds (ps := ["value"]) fun _ _ _ _ _ _ us hl => match us, hl with | [_], _ => rfl
  have F14 := fun_mk (st := s_is_place) l14 c14 k14
  have b14 := F14.binds (ps := ["m", "value"]) fun _ _ _ _ _ _ us hl => match us, hl with | [_, _], _ => rfl
  have F15 := fun_mk (st := s_is_pair_of_places) l15 c15 k15
  have b15 := F15.binds (ps := ["m", "value"]) fun _ _ _ _ _ _ us hl => match us, hl with | [_, _], _ => rfl
  have F16 := fun_mk (st := s_begin_fits) l16 c16 k16
  have b16 := F16.binds (ps := ["pairs", "index"]) fun _ _ _ _ _ _ us hl => match us, hl with | [_, _], _ => rfl
  have F17 := fun_mk (st := s_target_fits) l17 c17 k17
  have b17 := F17.binds (ps := ["m", "pairs", "index"]) fun _ _ _ _ _ _ us hl => match us, hl with | [_, _, _], _ => rfl
  have F18 := fun_mk (st := s_item_error) l18 c18 k18
  have b18 := F18.binds (ps := ["m", "items", "index"]) fun _ _ _ _ _ _ us hl => match us, hl with | [_, _, _], _ => rfl
  have F19 := fun_mk (st := s_tool_error) l19 c19 k19
  have b19 := F19.binds (ps := ["m", "value"]) fun _ _ _ _ _ _ us hl => match us, hl with | [_, _], _ => rfl
  have F20 := fun_mk (st := s_is_tool) l20 c20 k20
  have b20 := F20.binds (ps := ["m", "value"]) fun _ _ _ _ _ _ us hl => match us, hl with | [_, _], _ => rfl
  have F21 := fun_mk (st := s_check_tools) l21 c21 k21
  have b21 := F21.binds (ps := ["m", "value"]) fun _ _ _ _ _ _ us hl => match us, hl with | [_, _], _ => rfl
  have F22 := fun_mk (st := s__law_made) l22 c22 k22
  have b22 := F22.binds (ps := ["_law_m", "_law_tools"]) fun _ _ _ _ _ _ us hl => match us, hl with | [_, _], _ => rfl
  have F23 := fun_mk (st := s__law_is_within) l23 c23 k23
  have b23 := F23.binds (ps := ["_law_value", "_law_low", "_law_high"]) fun _ _ _ _ _ _ us hl => match us, hl with | [_, _, _], _ => rfl
  have F24 := fun_mk (st := s__law_is_tool) l24 c24 k24
  have b24 := F24.binds (ps := ["_law_m", "_law_value"]) fun _ _ _ _ _ _ us hl => match us, hl with | [_, _], _ => rfl
  have F25 := fun_mk (st := s__law_expected) l25 c25 k25
  have b25 := F25.binds (ps := ["_law_m", "_law_tools"]) fun _ _ _ _ _ _ us hl => match us, hl with | [_, _], _ => rfl
  have F26 := fun_mk (st := s_is_index) l26 c26 k26
  have b26 := F26.binds (ps := ["items", "value"]) fun _ _ _ _ _ _ us hl => match us, hl with | [_, _], _ => rfl
  have F27 := fun_mk (st := s__law_right) l27 c27 k27
  have b27 := F27.binds (ps := ["_law_table", "_law_state", "_law_edits"]) fun _ _ _ _ _ _ us hl => match us, hl with | [_, _, _], _ => rfl
  have F28 := fun_mk (st := s_law) l28 c28 k28
  refine ⟨PySem.W.fnOf "law" "law" (defArgs s_law) (defBody s_law) (defScope s_law) .none kV28 dc28 pm28 an28 cd28 ct28, fun s v => .of_eq rfl, fun base _ _ sys => ?_⟩
  have M_BadTools := PySem.W.mg_of X G cg_BadTools
  have M_PushError := PySem.W.mg_of X G cg_PushError
  have FI_BadTools := fun_mk (st := s_BadTools) cl_BadTools cc_BadTools ck_BadTools
  have bI_BadTools := FI_BadTools.binds (ps := ["self", "index"]) fun _ _ _ _ _ _ us hl => match us, hl with | [_, _], _ => rfl
  have EB_BadTools : ErrC l.prog w K mg base "BadTools" "index" C_BadTools := ⟨M_BadTools, ⟨⟨nm_BadTools, qq_BadTools, NN_BadTools, bs_BadTools, _, sn_BadTools, sub_BadTools, ab_BadTools, col_BadTools, dd_BadTools, q0_BadTools, q1_BadTools, q2_BadTools, q3_BadTools, q5_BadTools, cL_BadTools, by rfl⟩, csa_BadTools, ce_BadTools, ct_BadTools, ckC_BadTools⟩, ⟨cga_BadTools, cgg_BadTools, ce_BadTools, ch_BadTools⟩, ⟨cga_BadTools, cgg_BadTools, ce_BadTools, ch_BadTools, cha_BadTools, chn_BadTools, cht_BadTools, chm_BadTools⟩, cno_BadTools, fI_BadTools, _, ci_BadTools, cti_BadTools, ok_BadTools FI_BadTools, bI_BadTools⟩
  have M_BadCircle := PySem.W.mg_of X G cg_BadCircle
  have FI_BadCircle := fun_mk (st := s_BadCircle) cl_BadCircle cc_BadCircle ck_BadCircle
  have bI_BadCircle := FI_BadCircle.binds (ps := ["self", "value"]) fun _ _ _ _ _ _ us hl => match us, hl with | [_, _], _ => rfl
  have EB_BadCircle : ErrC l.prog w K mg base "BadCircle" "value" C_BadCircle := ⟨M_BadCircle, ⟨⟨nm_BadCircle, qq_BadCircle, NN_BadCircle, bs_BadCircle, _, sn_BadCircle, sub_BadCircle, ab_BadCircle, col_BadCircle, dd_BadCircle, q0_BadCircle, q1_BadCircle, q2_BadCircle, q3_BadCircle, q5_BadCircle, cL_BadCircle, by rfl⟩, csa_BadCircle, ce_BadCircle, ct_BadCircle, ckC_BadCircle⟩, ⟨cga_BadCircle, cgg_BadCircle, ce_BadCircle, ch_BadCircle⟩, ⟨cga_BadCircle, cgg_BadCircle, ce_BadCircle, ch_BadCircle, cha_BadCircle, chn_BadCircle, cht_BadCircle, chm_BadCircle⟩, cno_BadCircle, fI_BadCircle, _, ci_BadCircle, cti_BadCircle, ok_BadCircle FI_BadCircle, bI_BadCircle⟩
  have M_Bench := PySem.W.mg_of X G cg_Bench
  have cls_Bench : Cls K C_Bench := ⟨pg_Bench, hd_Bench, po_Bench, sa_Bench⟩
  have isi_Bench : IsiC K C_Bench := ⟨cls_Bench, ha_Bench, hn_Bench, ht_Bench, hm_Bench⟩
  have F_Bench___init__ := fun_mk (st := s_Bench___init__) l_Bench___init__ c_Bench___init__ k_Bench___init__
  have b_Bench___init__ := F_Bench___init__.binds (ps := ["self", "m", "tools"]) fun _ _ _ _ _ _ us hl => match us, hl with | [_, _, _], _ => rfl
  have F_Bench_edits := fun_mk (st := s_Bench_edits) l_Bench_edits c_Bench_edits k_Bench_edits
  have b_Bench_edits := F_Bench_edits.binds (ps := ["self"]) fun _ _ _ _ _ _ us hl => match us, hl with | [_], _ => rfl
  have F_Bench_possible : FunD K "possible" "Bench.possible" (defArgs s_Bench_possible) (defBody s_Bench_possible) (defScope s_Bench_possible) [] [("version", .non)] f_Bench_possible _ := ⟨⟨_, _, _, _, _, _, _, _, _, _, rfl, l_Bench_possible, c_Bench_possible, .inl ⟨rfl, rfl⟩, .inr ⟨D_Bench_possible, rfl, fun q hq => by rw [List.mem_singleton.mp hq]; exact ⟨_, ns_Bench_possible_version, rfl⟩⟩⟩, k_Bench_possible⟩
  have b_Bench_possible := F_Bench_possible.binds0 (ps := ["self", "version"]) 1 (List.cons_ne_nil _ _) rfl (fun D doc pm an cdv ct us ks l1 l2 => match us, ks, l1, l2 with | [_], [_], _, _ => ⟨_, _, _, _, _, _, rfl, rfl, rfl⟩)
  have kb_Bench_possible := F_Bench_possible.kbinds0 (ps := ["self", "version"]) 1 ["version"] [] (fun {α} vs mz zs => vs ++ zs) (List.cons_ne_nil _ _) (fun q hq => (List.not_mem_nil hq).elim) (fun r1 r2 r3 => r1.append r3) (fun D doc pm an cdv ct us mv ws l1 l2 l3 => match us, mv, ws, l1, l2, l3 with | [_], [], [_], _, _, _ => rfl)
  have F_Bench___len__ := fun_mk (st := s_Bench___len__) l_Bench___len__ c_Bench___len__ k_Bench___len__
  have b_Bench___len__ := F_Bench___len__.binds (ps := ["self"]) fun _ _ _ _ _ _ us hl => match us, hl with | [_], _ => rfl
  have F_Bench___str__ := fun_mk (st := s_Bench___str__) l_Bench___str__ c_Bench___str__ k_Bench___str__
  have b_Bench___str__ := F_Bench___str__.binds (ps := ["self"]) fun _ _ _ _ _ _ us hl => match us, hl with | [_], _ => rfl
  have M_BadEdits := PySem.W.mg_of X G cg_BadEdits
  have M_BadLength := PySem.W.mg_of X G cg_BadLength
  have M_BadTurn := PySem.W.mg_of X G cg_BadTurn
  have M_ValueError := PySem.W.mg_none_of X G z_ValueError
  have me_Bench_edits : MethH l.prog w K mg base 1 C_Bench "edits" ["self"] (spO K (REdits C_Bench)) := ⟨cls_Bench, f_Bench_edits, _, ⟨at_Bench_edits, fn_Bench_edits, k_Bench_edits⟩, fn_wide (ok_Bench_edits F_Bench_edits T cls_Bench n_m_Bench n_tools_Bench n_done_Bench n_states_Bench n_aim_Bench n_is_watched_Bench ), b_Bench_edits⟩
  have me_Bench___len__ : SpecH l.prog w K mg base 1 C_Bench "__len__" (spO K (RLenB C_Bench)) := ⟨f_Bench___len__, _, at_Bench___len__, fn_Bench___len__, ok_Bench___len__ F_Bench___len__ T cls_Bench n_m_Bench n_tools_Bench n_done_Bench n_states_Bench n_aim_Bench n_is_watched_Bench , b_Bench___len__⟩
  have me_Bench___str__ : SpecH l.prog w K mg base 2 C_Bench "__str__" (spO K (RStrB C_Bench)) := ⟨f_Bench___str__, _, at_Bench___str__, fn_Bench___str__, ok_Bench___str__ F_Bench___str__ T cls_Bench n_m_Bench n_tools_Bench n_done_Bench n_states_Bench n_aim_Bench n_is_watched_Bench , b_Bench___str__⟩
  have h0 := has_mk (P := l.prog) (w := w) (base := base) F0 (ok__law_deck (P := l.prog) (w := w) (base := base) F0 T ) (PySem.W.mg_of X G a0) b0
  have h1 := has_mk (P := l.prog) (w := w) (base := base) F1 (ok__law_draw (P := l.prog) (w := w) (base := base) F1 T ) (PySem.W.mg_of X G a1) b1
  have h2 := has_mk (P := l.prog) (w := w) (base := base) F2 (ok__law_sorted_picks (P := l.prog) (w := w) (base := base) F2 T h1) (PySem.W.mg_of X G a2) b2
  have h3 := has_mk (P := l.prog) (w := w) (base := base) F3 (ok__law_tool (P := l.prog) (w := w) (base := base) F3 T h1 h2) (PySem.W.mg_of X G a3) b3
  have h4 := has_mk (P := l.prog) (w := w) (base := base) F4 (ok__law_circle (P := l.prog) (w := w) (base := base) F4 T h1 h3) (PySem.W.mg_of X G a4) b4
  have h5 := has_mk (P := l.prog) (w := w) (base := base) F5 (ok__law_odd (P := l.prog) (w := w) (base := base) F5 T h1) (PySem.W.mg_of X G a5) b5
  have h6 := has_mk (P := l.prog) (w := w) (base := base) F6 (ok__law_bent_N (P := l.prog) (w := w) (base := base) F6 T ) (PySem.W.mg_of X G a6) b6
  have h7 := has_mk (P := l.prog) (w := w) (base := base) F7 (ok__law_bent_0 (P := l.prog) (w := w) (base := base) F7 T h1 h5 h6) (PySem.W.mg_of X G a7) b7
  have h8 := has_mk (P := l.prog) (w := w) (base := base) F8 (ok__law_bent_1 (P := l.prog) (w := w) (base := base) F8 T h1 h5 h7) (PySem.W.mg_of X G a8) b8
  have h9 := has_mk (P := l.prog) (w := w) (base := base) F9 (ok__law_bent_2 (P := l.prog) (w := w) (base := base) F9 T h1 h5 h8) (PySem.W.mg_of X G a9) b9
  have h10 := has_mk (P := l.prog) (w := w) (base := base) F10 (ok_is_number (P := l.prog) (w := w) (base := base) F10 T ) (PySem.W.mg_of X G a10) b10
  have h11 := has_mk (P := l.prog) (w := w) (base := base) F11 (ok_is_number_within (P := l.prog) (w := w) (base := base) F11 T h10) (PySem.W.mg_of X G a11) b11
  have h12 := has_mk (P := l.prog) (w := w) (base := base) F12 (ok_is_tuple_within (P := l.prog) (w := w) (base := base) F12 T ) (PySem.W.mg_of X G a12) b12
  have h13 := has_mk (P := l.prog) (w := w) (base := base) F13 (ok_is_pair (P := l.prog) (w := w) (base := base) F13 T h12) (PySem.W.mg_of X G a13) b13
  have h14 := has_mk (P := l.prog) (w := w) (base := base) F14 (ok_is_place (P := l.prog) (w := w) (base := base) F14 T h11) (PySem.W.mg_of X G a14) b14
  have h15 := has_mk (P := l.prog) (w := w) (base := base) F15 (ok_is_pair_of_places (P := l.prog) (w := w) (base := base) F15 T h13 h14) (PySem.W.mg_of X G a15) b15
  have h16 := has_mk (P := l.prog) (w := w) (base := base) F16 (ok_begin_fits (P := l.prog) (w := w) (base := base) F16 T ) (PySem.W.mg_of X G a16) b16
  have h17 := has_mk (P := l.prog) (w := w) (base := base) F17 (ok_target_fits (P := l.prog) (w := w) (base := base) F17 T ) (PySem.W.mg_of X G a17) b17
  have h18 := has_mk (P := l.prog) (w := w) (base := base) F18 (ok_item_error (P := l.prog) (w := w) (base := base) F18 T h15 h16 h17) (PySem.W.mg_of X G a18) b18
  have h19 := has_mk (P := l.prog) (w := w) (base := base) F19 (ok_tool_error (P := l.prog) (w := w) (base := base) F19 T G_MAX_ARCS h12 h18) (PySem.W.mg_of X G a19) b19
  have h20 := has_mk (P := l.prog) (w := w) (base := base) F20 (ok_is_tool (P := l.prog) (w := w) (base := base) F20 T h19) (PySem.W.mg_of X G a20) b20
  have h21 := hasx_mk (P := l.prog) (w := w) (base := base) F21 (ok_check_tools (P := l.prog) (w := w) (base := base) F21 T G_MAX_TOOLS EB_BadTools h12 h20) (PySem.W.mg_of X G a21) b21
  have me_Bench___init__ : MakeH l.prog w K mg base 10 C_Bench "Bench" ["self", "m", "tools"] (spO K (RInitA C_Bench C_BadCircle C_BadTools)) := ⟨M_Bench, f_Bench___init__, _, ⟨mk_Bench, at_Bench___init__, fn_Bench___init__, kp_Bench⟩, ok_Bench___init__ F_Bench___init__ T cls_Bench n_m_Bench n_tools_Bench n_done_Bench n_states_Bench n_aim_Bench n_is_watched_Bench G_MAX_PLACES EB_BadCircle h11 h21, b_Bench___init__⟩
  have h22 := hasg_mk (P := l.prog) (w := w) (base := base) F22 (ok__law_made (P := l.prog) (w := w) (base := base) F22 T sys EB_BadCircle EB_BadTools M_BadCircle M_BadTools M_BadEdits M_BadLength M_BadTurn M_PushError M_ValueError kBB kBT kTB kTT kBV kTV kB3 kT3 xB xT me_Bench___init__) (PySem.W.mg_of X G a22) b22
  have h23 := has_mk (P := l.prog) (w := w) (base := base) F23 (ok__law_is_within (P := l.prog) (w := w) (base := base) F23 T ) (PySem.W.mg_of X G a23) b23
  have h24 := has_mk (P := l.prog) (w := w) (base := base) F24 (ok__law_is_tool (P := l.prog) (w := w) (base := base) F24 T h23) (PySem.W.mg_of X G a24) b24
  have h25 := hasg_mk (P := l.prog) (w := w) (base := base) F25 (ok__law_expected (P := l.prog) (w := w) (base := base) F25 T sys h23 h24) (PySem.W.mg_of X G a25) b25
  have h26 := has_mk (P := l.prog) (w := w) (base := base) F26 (ok_is_index (P := l.prog) (w := w) (base := base) F26 T h11) (PySem.W.mg_of X G a26) b26
  have me_Bench_possible : MethV l.prog w K mg base 5 C_Bench "possible" 1 ["self", "version"] (spO K (RPossV C_Bench)) := by
    obtain ⟨ds, vd, bd⟩ := b_Bench_possible
    obtain ⟨mv, kb⟩ := kb_Bench_possible
    exact ⟨cls_Bench, f_Bench_possible, _, ⟨at_Bench_possible, fn_Bench_possible, k_Bench_possible⟩, fn_wide (ok_Bench_possible F_Bench_possible T cls_Bench n_m_Bench n_tools_Bench n_done_Bench n_states_Bench n_aim_Bench n_is_watched_Bench h26), ⟨ds, vd, bd⟩, _, kb⟩
  have h27 := hasg_mk (P := l.prog) (w := w) (base := base) F27 (ok__law_right (P := l.prog) (w := w) (base := base) F27 T sys me_Bench_edits me_Bench_possible me_Bench___len__ me_Bench___str__) (PySem.W.mg_of X G a27) b27
  exact ok_law F28 T sys h0 h1 h4 h5 h9 h22 h25 h27 isi_Bench kL
def fdsZ0 : List FD := [⟨fun K => (He.ga K "_law_deck"), "_law_deck", "_law_deck", defArgs s__law_deck, defBody s__law_deck, defScope s__law_deck⟩,
  ⟨fun K => (He.ga K "_law_draw"), "_law_draw", "_law_draw", defArgs s__law_draw, defBody s__law_draw, defScope s__law_draw⟩,
  ⟨fun K => (He.ga K "_law_sorted_picks"), "_law_sorted_picks", "_law_sorted_picks", defArgs s__law_sorted_picks, defBody s__law_sorted_picks, defScope s__law_sorted_picks⟩,
  ⟨fun K => (He.ga K "_law_tool"), "_law_tool", "_law_tool", defArgs s__law_tool, defBody s__law_tool, defScope s__law_tool⟩,
  ⟨fun K => (He.ga K "_law_circle"), "_law_circle", "_law_circle", defArgs s__law_circle, defBody s__law_circle, defScope s__law_circle⟩,
  ⟨fun K => (He.ga K "_law_odd"), "_law_odd", "_law_odd", defArgs s__law_odd, defBody s__law_odd, defScope s__law_odd⟩,
  ⟨fun K => (He.ga K "_law_bent"), "_law_bent", "_law_bent", defArgs s__law_bent, defBody s__law_bent, defScope s__law_bent⟩,
  ⟨fun K => (He.ga K "_law_bent"), "_law_bent", "_law_bent", defArgs s__law_bent, defBody s__law_bent, defScope s__law_bent⟩,
  ⟨fun K => (He.ga K "_law_bent"), "_law_bent", "_law_bent", defArgs s__law_bent, defBody s__law_bent, defScope s__law_bent⟩,
  ⟨fun K => (He.ga K "_law_bent"), "_law_bent", "_law_bent", defArgs s__law_bent, defBody s__law_bent, defScope s__law_bent⟩,
  ⟨fun K => (He.ga K "is_number"), "is_number", "is_number", defArgs s_is_number, defBody s_is_number, defScope s_is_number⟩,
  ⟨fun K => (He.ga K "is_number_within"), "is_number_within", "is_number_within", defArgs s_is_number_within, defBody s_is_number_within, defScope s_is_number_within⟩,
  ⟨fun K => (He.ga K "is_tuple_within"), "is_tuple_within", "is_tuple_within", defArgs s_is_tuple_within, defBody s_is_tuple_within, defScope s_is_tuple_within⟩,
  ⟨fun K => (He.ga K "is_pair"), "is_pair", "is_pair", defArgs s_is_pair, defBody s_is_pair, defScope s_is_pair⟩,
  ⟨fun K => (He.ga K "is_place"), "is_place", "is_place", defArgs s_is_place, defBody s_is_place, defScope s_is_place⟩,
  ⟨fun K => (He.ga K "is_pair_of_places"), "is_pair_of_places", "is_pair_of_places", defArgs s_is_pair_of_places, defBody s_is_pair_of_places, defScope s_is_pair_of_places⟩,
  ⟨fun K => (He.ga K "begin_fits"), "begin_fits", "begin_fits", defArgs s_begin_fits, defBody s_begin_fits, defScope s_begin_fits⟩,
  ⟨fun K => (He.ga K "target_fits"), "target_fits", "target_fits", defArgs s_target_fits, defBody s_target_fits, defScope s_target_fits⟩,
  ⟨fun K => (He.ga K "item_error"), "item_error", "item_error", defArgs s_item_error, defBody s_item_error, defScope s_item_error⟩,
  ⟨fun K => (He.ga K "tool_error"), "tool_error", "tool_error", defArgs s_tool_error, defBody s_tool_error, defScope s_tool_error⟩,
  ⟨fun K => (He.ga K "is_tool"), "is_tool", "is_tool", defArgs s_is_tool, defBody s_is_tool, defScope s_is_tool⟩,
  ⟨fun K => (He.ga K "check_tools"), "check_tools", "check_tools", defArgs s_check_tools, defBody s_check_tools, defScope s_check_tools⟩,
  ⟨fun K => (He.ga K "_law_made"), "_law_made", "_law_made", defArgs s__law_made, defBody s__law_made, defScope s__law_made⟩,
  ⟨fun K => (He.ga K "_law_is_within"), "_law_is_within", "_law_is_within", defArgs s__law_is_within, defBody s__law_is_within, defScope s__law_is_within⟩,
  ⟨fun K => (He.ga K "_law_is_tool"), "_law_is_tool", "_law_is_tool", defArgs s__law_is_tool, defBody s__law_is_tool, defScope s__law_is_tool⟩,
  ⟨fun K => (He.ga K "_law_expected"), "_law_expected", "_law_expected", defArgs s__law_expected, defBody s__law_expected, defScope s__law_expected⟩,
  ⟨fun K => (He.ga K "is_index"), "is_index", "is_index", defArgs s_is_index, defBody s_is_index, defScope s_is_index⟩,
  ⟨fun K => (He.ga K "_law_right"), "_law_right", "_law_right", defArgs s__law_right, defBody s__law_right, defScope s__law_right⟩,
  ⟨fun K => (He.ga K "law"), "law", "law", defArgs s_law, defBody s_law, defScope s_law⟩,
  ⟨fun K => (He.ma K (He.ga K "BadTools") "__init__"), "__init__", "BadTools.__init__", defArgs s_BadTools, defBody s_BadTools, defScope s_BadTools⟩,
  ⟨fun K => (He.ma K (He.ga K "BadCircle") "__init__"), "__init__", "BadCircle.__init__", defArgs s_BadCircle, defBody s_BadCircle, defScope s_BadCircle⟩,
  ⟨fun K => (He.ma K (He.ga K "Bench") "__init__"), "__init__", "Bench.__init__", defArgs s_Bench___init__, defBody s_Bench___init__, defScope s_Bench___init__⟩,
  ⟨fun K => (He.ma K (He.ga K "Bench") "edits"), "edits", "Bench.edits", defArgs s_Bench_edits, defBody s_Bench_edits, defScope s_Bench_edits⟩,
  ⟨fun K => (He.ma K (He.ga K "Bench") "possible"), "possible", "Bench.possible", defArgs s_Bench_possible, defBody s_Bench_possible, defScope s_Bench_possible⟩,
  ⟨fun K => (He.ma K (He.ga K "Bench") "__len__"), "__len__", "Bench.__len__", defArgs s_Bench___len__, defBody s_Bench___len__, defScope s_Bench___len__⟩,
  ⟨fun K => (He.ma K (He.ga K "Bench") "__str__"), "__str__", "Bench.__str__", defArgs s_Bench___str__, defBody s_Bench___str__, defScope s_Bench___str__⟩]
def fdsZ : List FD := fdsZ0
def tsZ0 (K : PySem.W.Frag) : List Bool := [decide (PySem.W.nsIn K mainGlobals "_law_deck" = some (some (.ref (He.ga K "_law_deck")))),
  decide (PySem.W.nsIn K mainGlobals "_law_draw" = some (some (.ref (He.ga K "_law_draw")))),
  decide (PySem.W.nsIn K mainGlobals "_law_sorted_picks" = some (some (.ref (He.ga K "_law_sorted_picks")))),
  decide (PySem.W.nsIn K mainGlobals "_law_tool" = some (some (.ref (He.ga K "_law_tool")))),
  decide (PySem.W.nsIn K mainGlobals "_law_circle" = some (some (.ref (He.ga K "_law_circle")))),
  decide (PySem.W.nsIn K mainGlobals "_law_odd" = some (some (.ref (He.ga K "_law_odd")))),
  decide (PySem.W.nsIn K mainGlobals "_law_bent" = some (some (.ref (He.ga K "_law_bent")))),
  decide (PySem.W.nsIn K mainGlobals "_law_bent" = some (some (.ref (He.ga K "_law_bent")))),
  decide (PySem.W.nsIn K mainGlobals "_law_bent" = some (some (.ref (He.ga K "_law_bent")))),
  decide (PySem.W.nsIn K mainGlobals "_law_bent" = some (some (.ref (He.ga K "_law_bent")))),
  decide (PySem.W.nsIn K mainGlobals "is_number" = some (some (.ref (He.ga K "is_number")))),
  decide (PySem.W.nsIn K mainGlobals "is_number_within" = some (some (.ref (He.ga K "is_number_within")))),
  decide (PySem.W.nsIn K mainGlobals "is_tuple_within" = some (some (.ref (He.ga K "is_tuple_within")))),
  decide (PySem.W.nsIn K mainGlobals "is_pair" = some (some (.ref (He.ga K "is_pair")))),
  decide (PySem.W.nsIn K mainGlobals "is_place" = some (some (.ref (He.ga K "is_place")))),
  decide (PySem.W.nsIn K mainGlobals "is_pair_of_places" = some (some (.ref (He.ga K "is_pair_of_places")))),
  decide (PySem.W.nsIn K mainGlobals "begin_fits" = some (some (.ref (He.ga K "begin_fits")))),
  decide (PySem.W.nsIn K mainGlobals "target_fits" = some (some (.ref (He.ga K "target_fits")))),
  decide (PySem.W.nsIn K mainGlobals "item_error" = some (some (.ref (He.ga K "item_error")))),
  decide (PySem.W.nsIn K mainGlobals "tool_error" = some (some (.ref (He.ga K "tool_error"))))]
def tsZ1 (K : PySem.W.Frag) : List Bool := [decide (PySem.W.nsIn K mainGlobals "is_tool" = some (some (.ref (He.ga K "is_tool")))),
  decide (PySem.W.nsIn K mainGlobals "check_tools" = some (some (.ref (He.ga K "check_tools")))),
  decide (PySem.W.nsIn K mainGlobals "_law_made" = some (some (.ref (He.ga K "_law_made")))),
  decide (PySem.W.nsIn K mainGlobals "_law_is_within" = some (some (.ref (He.ga K "_law_is_within")))),
  decide (PySem.W.nsIn K mainGlobals "_law_is_tool" = some (some (.ref (He.ga K "_law_is_tool")))),
  decide (PySem.W.nsIn K mainGlobals "_law_expected" = some (some (.ref (He.ga K "_law_expected")))),
  decide (PySem.W.nsIn K mainGlobals "is_index" = some (some (.ref (He.ga K "is_index")))),
  decide (PySem.W.nsIn K mainGlobals "_law_right" = some (some (.ref (He.ga K "_law_right")))),
  decide (PySem.W.nsIn K mainGlobals "law" = some (some (.ref (He.ga K "law")))),
  decide (PySem.W.nsIn K mainGlobals "len" = some none),
  decide (PySem.W.nsIn K mainGlobals "range" = some none),
  decide (PySem.W.nsIn K mainGlobals "abs" = some none),
  decide (PySem.W.nsIn K mainGlobals "list" = some none),
  decide (PySem.W.nsIn K mainGlobals "sorted" = some none),
  decide (PySem.W.nsIn K mainGlobals "min" = some none),
  decide (PySem.W.nsIn K mainGlobals "max" = some none),
  decide (PySem.W.nsIn K mainGlobals "tuple" = some none),
  decide (PySem.W.nsIn K mainGlobals "dict" = some none),
  decide (PySem.W.nsIn K mainGlobals "repr" = some none),
  decide (PySem.W.nsIn K mainGlobals "set" = some none)]
def tsZ2 (K : PySem.W.Frag) : List Bool := [decide (PySem.W.nsIn K mainGlobals "sum" = some none),
  decide (PySem.W.nsIn K mainGlobals "isinstance" = some none),
  decide (PySem.W.nsIn K mainGlobals "int" = some none),
  decide (PySem.W.nsIn K mainGlobals "bool" = some none),
  decide (PySem.W.nsIn K mainGlobals "enumerate" = some none),
  decide (PySem.W.nsIn K mainGlobals "zip" = some none),
  decide (PySem.W.nsIn K mainGlobals "str" = some none),
  decide (PySem.W.nsIn K mainGlobals "type" = some none),
  decide (PySem.W.nsIn K mainGlobals "reversed" = some none),
  decide (PySem.W.nsIn K mainGlobals "any" = some none),
  decide (PySem.W.nsIn K mainGlobals "all" = some none),
  giB K "MAX_ARCS" (12),
  giB K "MAX_PLACES" (60),
  giB K "MAX_TOOLS" (4),
  decide (PySem.W.nsIn K mainGlobals "BadTools" = some (some (.ref (He.ga K "BadTools")))),
  decide (PySem.W.subIn K (.ref (He.ga K "BadTools")) (.type "BaseException") = some true),
  decide (PySem.W.hasDictIn K (He.ga K "BadTools") = true),
  decide (PySem.W.typeIn K (.ref (He.ga K "BadTools")) = some (.type "type")),
  decide (PySem.W.nsIn K mainGlobals "PushError" = some (some (.ref (He.ga K "PushError")))),
  ecB K (He.ga K "BadTools") [.ref (He.ga K "PushError"), .type "ValueError", .type "Exception", .type "BaseException", .type "object"] "ValueError.__new__"]
def tsZ3 (K : PySem.W.Frag) : List Bool := [decide (PySem.W.findIn K (.ref (He.ga K "BadTools")) "__setattr__" = some (some (.builtin "object.__setattr__"))),
  decide (PySem.W.findIn K (.ref (He.ga K "BadTools")) "__getattribute__" = some (some (.builtin "BaseException.__getattribute__"))),
  decide (PySem.W.findIn K (.ref (He.ga K "BadTools")) "__getattr__" = some none),
  decide (PySem.W.findIn K (.ref (He.ga K "BadTools")) "index" = some none),
  decide (PySem.W.findIn K (.ref (He.ga K "BadTools")) "__init__" = some (some (.ref (He.ma K (He.ga K "BadTools") "__init__")))),
  decide (PySem.W.typeIn K (.ref (He.ma K (He.ga K "BadTools") "__init__")) = some (.type "function")),
  decide (PySem.W.keepIn K (.ref (He.ga K "BadTools")) = true),
  decide (PySem.W.findIn K (.ref (He.ga K "BadTools")) "__class__" = some (some (.builtin "object.__class__"))),
  decide (PySem.W.specialIn K (.builtin "object.__class__") "__get__" = some (some (.builtin "getset_descriptor.__get__"))),
  decide (PySem.W.takesIn K (.builtin "object.__class__") = some true),
  decide (PySem.W.mroIn K (He.ga K "BadTools") (.type "object") = some true),
  decide (PySem.W.nsIn K mainGlobals "BadCircle" = some (some (.ref (He.ga K "BadCircle")))),
  decide (PySem.W.subIn K (.ref (He.ga K "BadCircle")) (.type "BaseException") = some true),
  decide (PySem.W.hasDictIn K (He.ga K "BadCircle") = true),
  decide (PySem.W.typeIn K (.ref (He.ga K "BadCircle")) = some (.type "type")),
  ecB K (He.ga K "BadCircle") [.ref (He.ga K "PushError"), .type "ValueError", .type "Exception", .type "BaseException", .type "object"] "ValueError.__new__",
  decide (PySem.W.findIn K (.ref (He.ga K "BadCircle")) "__setattr__" = some (some (.builtin "object.__setattr__"))),
  decide (PySem.W.findIn K (.ref (He.ga K "BadCircle")) "__getattribute__" = some (some (.builtin "BaseException.__getattribute__"))),
  decide (PySem.W.findIn K (.ref (He.ga K "BadCircle")) "__getattr__" = some none),
  decide (PySem.W.findIn K (.ref (He.ga K "BadCircle")) "value" = some none)]
def tsZ4 (K : PySem.W.Frag) : List Bool := [decide (PySem.W.findIn K (.ref (He.ga K "BadCircle")) "__init__" = some (some (.ref (He.ma K (He.ga K "BadCircle") "__init__")))),
  decide (PySem.W.typeIn K (.ref (He.ma K (He.ga K "BadCircle") "__init__")) = some (.type "function")),
  decide (PySem.W.keepIn K (.ref (He.ga K "BadCircle")) = true),
  decide (PySem.W.findIn K (.ref (He.ga K "BadCircle")) "__class__" = some (some (.builtin "object.__class__"))),
  decide (PySem.W.specialIn K (.builtin "object.__class__") "__get__" = some (some (.builtin "getset_descriptor.__get__"))),
  decide (PySem.W.takesIn K (.builtin "object.__class__") = some true),
  decide (PySem.W.mroIn K (He.ga K "BadCircle") (.type "object") = some true),
  decide (PySem.W.nsIn K mainGlobals "Bench" = some (some (.ref (He.ga K "Bench")))),
  decide (PySem.W.plainGet K (He.ga K "Bench") Str.empty = true),
  decide (PySem.W.hasDictIn K (He.ga K "Bench") = true),
  decide (PySem.W.plainOver K (He.ga K "Bench") = true),
  decide (PySem.W.findIn K (.ref (He.ga K "Bench")) "__setattr__" = some (some (.builtin "object.__setattr__"))),
  decide (PySem.W.findIn K (.ref (He.ga K "Bench")) "__class__" = some (some (.builtin "object.__class__"))),
  decide (PySem.W.specialIn K (.builtin "object.__class__") "__get__" = some (some (.builtin "getset_descriptor.__get__"))),
  decide (PySem.W.takesIn K (.builtin "object.__class__") = some true),
  decide (PySem.W.mroIn K (He.ga K "Bench") (.type "object") = some true),
  decide (PySem.W.makesIn K (He.ga K "Bench") = true),
  decide (PySem.W.keepIn K (.ref (He.ga K "Bench")) = true),
  decide (PySem.W.findIn K (.ref (He.ga K "Bench")) "m" = some none),
  decide (PySem.W.findIn K (.ref (He.ga K "Bench")) "tools" = some none)]
def tsZ5 (K : PySem.W.Frag) : List Bool := [decide (PySem.W.findIn K (.ref (He.ga K "Bench")) "done" = some none),
  decide (PySem.W.findIn K (.ref (He.ga K "Bench")) "states" = some none),
  decide (PySem.W.findIn K (.ref (He.ga K "Bench")) "aim" = some none),
  decide (PySem.W.findIn K (.ref (He.ga K "Bench")) "is_watched" = some none),
  decide (PySem.W.findIn K (.ref (He.ga K "Bench")) "__init__" = some (some (.ref (He.ma K (He.ga K "Bench") "__init__")))),
  decide (PySem.W.isFn K (.ref (He.ma K (He.ga K "Bench") "__init__")) = true),
  decide (PySem.W.findIn K (.ref (He.ga K "Bench")) "edits" = some (some (.ref (He.ma K (He.ga K "Bench") "edits")))),
  decide (PySem.W.isFn K (.ref (He.ma K (He.ga K "Bench") "edits")) = true),
  decide (PySem.W.findIn K (.ref (He.ga K "Bench")) "possible" = some (some (.ref (He.ma K (He.ga K "Bench") "possible")))),
  decide (PySem.W.isFn K (.ref (He.ma K (He.ga K "Bench") "possible")) = true),
  kwB K (He.ma K (He.ga K "Bench") "possible"),
  decide (PySem.W.nsIn K (kwAt K (He.ma K (He.ga K "Bench") "possible")) "version" = some (some .none)),
  decide (PySem.W.findIn K (.ref (He.ga K "Bench")) "__len__" = some (some (.ref (He.ma K (He.ga K "Bench") "__len__")))),
  decide (PySem.W.isFn K (.ref (He.ma K (He.ga K "Bench") "__len__")) = true),
  decide (PySem.W.findIn K (.ref (He.ga K "Bench")) "__str__" = some (some (.ref (He.ma K (He.ga K "Bench") "__str__")))),
  decide (PySem.W.isFn K (.ref (He.ma K (He.ga K "Bench") "__str__")) = true),
  decide (PySem.W.nsIn K mainGlobals "BadEdits" = some (some (.ref (He.ga K "BadEdits")))),
  decide (PySem.W.nsIn K mainGlobals "BadLength" = some (some (.ref (He.ga K "BadLength")))),
  decide (PySem.W.nsIn K mainGlobals "BadTurn" = some (some (.ref (He.ga K "BadTurn")))),
  decide (PySem.W.nsIn K mainGlobals "ValueError" = some none)]
def tsZ6 (K : PySem.W.Frag) : List Bool := [decide (PySem.W.kitOne K (.ref (He.ga K "BadCircle")) (.ref (He.ga K "BadCircle")) = some true),
  decide (PySem.W.kitOne K (.ref (He.ga K "BadCircle")) (.ref (He.ga K "BadTools")) = some false),
  decide (PySem.W.kitOne K (.ref (He.ga K "BadTools")) (.ref (He.ga K "BadCircle")) = some false),
  decide (PySem.W.kitOne K (.ref (He.ga K "BadTools")) (.ref (He.ga K "BadTools")) = some true),
  decide (PySem.W.kitOne K (.ref (He.ga K "BadCircle")) (.type "ValueError") = some true),
  decide (PySem.W.kitOne K (.ref (He.ga K "BadTools")) (.type "ValueError") = some true),
  decide (PySem.W.kitAny K (.ref (He.ga K "BadCircle")) [.ref (He.ga K "BadEdits"), .ref (He.ga K "BadLength"), .ref (He.ga K "BadTurn")] = some false),
  decide (PySem.W.kitAny K (.ref (He.ga K "BadTools")) [.ref (He.ga K "BadEdits"), .ref (He.ga K "BadLength"), .ref (He.ga K "BadTurn")] = some false),
  decide (PySem.W.exmOne K (.ref (He.ga K "BadCircle")) (.ref (He.ga K "PushError")) = some true),
  decide (PySem.W.exmOne K (.ref (He.ga K "BadTools")) (.ref (He.ga K "PushError")) = some true),
  decide (PySem.W.kitOne K (.ref (He.ga K "Bench")) (.type "list") = some false)]
def exZ (K : PySem.W.Frag) : Bool := (tsZ0 K).all id && ((tsZ1 K).all id && ((tsZ2 K).all id && ((tsZ3 K).all id && ((tsZ4 K).all id && ((tsZ5 K).all id && ((tsZ6 K).all id))))))
theorem all_z {l : PySem.W.OpenLaw} {w : World} {K : PySem.W.Frag} {h : Heap} {mg : Str → Option Value} {fa : Addr} (X : K.In h) (G : h.Ns mainGlobals mg) (hfa : mg "law" = some (.ref fa)) (c : SaysZ fdsZ exZ K)
    : ∃ fd : FuncData, (∀ (s : Shared) (v : Value), BindsTo s fd ⟨[v], []⟩ [("_law_script", v)]) ∧
      ∀ base : Heap, K.In base → base.Ns mainGlobals mg → (∃ o, base.get? sysModules = some o) → FnG l.prog w K mg base 13 fa fd ["_law_script"] (spLaw K) := by
  have x0 := c.x
  obtain ⟨e0, x1⟩ := He.ba (show ((tsZ0 K).all id && _) = true from x0)
  obtain ⟨e1, x2⟩ := He.ba (show ((tsZ1 K).all id && _) = true from x1)
  obtain ⟨e2, x3⟩ := He.ba (show ((tsZ2 K).all id && _) = true from x2)
  obtain ⟨e3, x4⟩ := He.ba (show ((tsZ3 K).all id && _) = true from x3)
  obtain ⟨e4, x5⟩ := He.ba (show ((tsZ4 K).all id && _) = true from x4)
  obtain ⟨e5, x6⟩ := He.ba (show ((tsZ5 K).all id && _) = true from x5)
  have e6 : (tsZ6 K).all id = true := x6
  have a0 : PySem.W.nsIn K mainGlobals "_law_deck" = some (some (.ref (He.ga K "_law_deck"))) := of_decide_eq_true (allZ e0 0 rfl)
  obtain ⟨oc0, od0, kV0, dc0, pm0, an0, cd0, ct0, sl0, l0, c0, k0⟩ := FD.get (d := ⟨fun K => (He.ga K "_law_deck"), "_law_deck", "_law_deck", defArgs s__law_deck, defBody s__law_deck, defScope s__law_deck⟩) (c.fn 0 rfl).1 (c.fn 0 rfl).2
  have a1 : PySem.W.nsIn K mainGlobals "_law_draw" = some (some (.ref (He.ga K "_law_draw"))) := of_decide_eq_true (allZ e0 1 rfl)
  obtain ⟨oc1, od1, kV1, dc1, pm1, an1, cd1, ct1, sl1, l1, c1, k1⟩ := FD.get (d := ⟨fun K => (He.ga K "_law_draw"), "_law_draw", "_law_draw", defArgs s__law_draw, defBody s__law_draw, defScope s__law_draw⟩) (c.fn 1 rfl).1 (c.fn 1 rfl).2
  have a2 : PySem.W.nsIn K mainGlobals "_law_sorted_picks" = some (some (.ref (He.ga K "_law_sorted_picks"))) := of_decide_eq_true (allZ e0 2 rfl)
  obtain ⟨oc2, od2, kV2, dc2, pm2, an2, cd2, ct2, sl2, l2, c2, k2⟩ := FD.get (d := ⟨fun K => (He.ga K "_law_sorted_picks"), "_law_sorted_picks", "_law_sorted_picks", defArgs s__law_sorted_picks, defBody s__law_sorted_picks, defScope s__law_sorted_picks⟩) (c.fn 2 rfl).1 (c.fn 2 rfl).2
  have a3 : PySem.W.nsIn K mainGlobals "_law_tool" = some (some (.ref (He.ga K "_law_tool"))) := of_decide_eq_true (allZ e0 3 rfl)
  obtain ⟨oc3, od3, kV3, dc3, pm3, an3, cd3, ct3, sl3, l3, c3, k3⟩ := FD.get (d := ⟨fun K => (He.ga K "_law_tool"), "_law_tool", "_law_tool", defArgs s__law_tool, defBody s__law_tool, defScope s__law_tool⟩) (c.fn 3 rfl).1 (c.fn 3 rfl).2
  have a4 : PySem.W.nsIn K mainGlobals "_law_circle" = some (some (.ref (He.ga K "_law_circle"))) := of_decide_eq_true (allZ e0 4 rfl)
  obtain ⟨oc4, od4, kV4, dc4, pm4, an4, cd4, ct4, sl4, l4, c4, k4⟩ := FD.get (d := ⟨fun K => (He.ga K "_law_circle"), "_law_circle", "_law_circle", defArgs s__law_circle, defBody s__law_circle, defScope s__law_circle⟩) (c.fn 4 rfl).1 (c.fn 4 rfl).2
  have a5 : PySem.W.nsIn K mainGlobals "_law_odd" = some (some (.ref (He.ga K "_law_odd"))) := of_decide_eq_true (allZ e0 5 rfl)
  obtain ⟨oc5, od5, kV5, dc5, pm5, an5, cd5, ct5, sl5, l5, c5, k5⟩ := FD.get (d := ⟨fun K => (He.ga K "_law_odd"), "_law_odd", "_law_odd", defArgs s__law_odd, defBody s__law_odd, defScope s__law_odd⟩) (c.fn 5 rfl).1 (c.fn 5 rfl).2
  have a6 : PySem.W.nsIn K mainGlobals "_law_bent" = some (some (.ref (He.ga K "_law_bent"))) := of_decide_eq_true (allZ e0 6 rfl)
  obtain ⟨oc6, od6, kV6, dc6, pm6, an6, cd6, ct6, sl6, l6, c6, k6⟩ := FD.get (d := ⟨fun K => (He.ga K "_law_bent"), "_law_bent", "_law_bent", defArgs s__law_bent, defBody s__law_bent, defScope s__law_bent⟩) (c.fn 6 rfl).1 (c.fn 6 rfl).2
  have a7 : PySem.W.nsIn K mainGlobals "_law_bent" = some (some (.ref (He.ga K "_law_bent"))) := of_decide_eq_true (allZ e0 7 rfl)
  obtain ⟨oc7, od7, kV7, dc7, pm7, an7, cd7, ct7, sl7, l7, c7, k7⟩ := FD.get (d := ⟨fun K => (He.ga K "_law_bent"), "_law_bent", "_law_bent", defArgs s__law_bent, defBody s__law_bent, defScope s__law_bent⟩) (c.fn 7 rfl).1 (c.fn 7 rfl).2
  have a8 : PySem.W.nsIn K mainGlobals "_law_bent" = some (some (.ref (He.ga K "_law_bent"))) := of_decide_eq_true (allZ e0 8 rfl)
  obtain ⟨oc8, od8, kV8, dc8, pm8, an8, cd8, ct8, sl8, l8, c8, k8⟩ := FD.get (d := ⟨fun K => (He.ga K "_law_bent"), "_law_bent", "_law_bent", defArgs s__law_bent, defBody s__law_bent, defScope s__law_bent⟩) (c.fn 8 rfl).1 (c.fn 8 rfl).2
  have a9 : PySem.W.nsIn K mainGlobals "_law_bent" = some (some (.ref (He.ga K "_law_bent"))) := of_decide_eq_true (allZ e0 9 rfl)
  obtain ⟨oc9, od9, kV9, dc9, pm9, an9, cd9, ct9, sl9, l9, c9, k9⟩ := FD.get (d := ⟨fun K => (He.ga K "_law_bent"), "_law_bent", "_law_bent", defArgs s__law_bent, defBody s__law_bent, defScope s__law_bent⟩) (c.fn 9 rfl).1 (c.fn 9 rfl).2
  have a10 : PySem.W.nsIn K mainGlobals "is_number" = some (some (.ref (He.ga K "is_number"))) := of_decide_eq_true (allZ e0 10 rfl)
  obtain ⟨oc10, od10, kV10, dc10, pm10, an10, cd10, ct10, sl10, l10, c10, k10⟩ := FD.get (d := ⟨fun K => (He.ga K "is_number"), "is_number", "is_number", defArgs s_is_number, defBody s_is_number, defScope s_is_number⟩) (c.fn 10 rfl).1 (c.fn 10 rfl).2
  have a11 : PySem.W.nsIn K mainGlobals "is_number_within" = some (some (.ref (He.ga K "is_number_within"))) := of_decide_eq_true (allZ e0 11 rfl)
  obtain ⟨oc11, od11, kV11, dc11, pm11, an11, cd11, ct11, sl11, l11, c11, k11⟩ := FD.get (d := ⟨fun K => (He.ga K "is_number_within"), "is_number_within", "is_number_within", defArgs s_is_number_within, defBody s_is_number_within, defScope s_is_number_within⟩) (c.fn 11 rfl).1 (c.fn 11 rfl).2
  have a12 : PySem.W.nsIn K mainGlobals "is_tuple_within" = some (some (.ref (He.ga K "is_tuple_within"))) := of_decide_eq_true (allZ e0 12 rfl)
  obtain ⟨oc12, od12, kV12, dc12, pm12, an12, cd12, ct12, sl12, l12, c12, k12⟩ := FD.get (d := ⟨fun K => (He.ga K "is_tuple_within"), "is_tuple_within", "is_tuple_within", defArgs s_is_tuple_within, defBody s_is_tuple_within, defScope s_is_tuple_within⟩) (c.fn 12 rfl).1 (c.fn 12 rfl).2
  have a13 : PySem.W.nsIn K mainGlobals "is_pair" = some (some (.ref (He.ga K "is_pair"))) := of_decide_eq_true (allZ e0 13 rfl)
  obtain ⟨oc13, od13, kV13, dc13, pm13, an13, cd13, ct13, sl13, l13, c13, k13⟩ := FD.get (d := ⟨fun K => (He.ga K "is_pair"), "is_pair", "is_pair", defArgs s_is_pair, defBody s_is_pair, defScope s_is_pair⟩) (c.fn 13 rfl).1 (c.fn 13 rfl).2
  have a14 : PySem.W.nsIn K mainGlobals "is_place" = some (some (.ref (He.ga K "is_place"))) := of_decide_eq_true (allZ e0 14 rfl)
  obtain ⟨oc14, od14, kV14, dc14, pm14, an14, cd14, ct14, sl14, l14, c14, k14⟩ := FD.get (d := ⟨fun K => (He.ga K "is_place"), "is_place", "is_place", defArgs s_is_place, defBody s_is_place, defScope s_is_place⟩) (c.fn 14 rfl).1 (c.fn 14 rfl).2
  have a15 : PySem.W.nsIn K mainGlobals "is_pair_of_places" = some (some (.ref (He.ga K "is_pair_of_places"))) := of_decide_eq_true (allZ e0 15 rfl)
  obtain ⟨oc15, od15, kV15, dc15, pm15, an15, cd15, ct15, sl15, l15, c15, k15⟩ := FD.get (d := ⟨fun K => (He.ga K "is_pair_of_places"), "is_pair_of_places", "is_pair_of_places", defArgs s_is_pair_of_places, defBody s_is_pair_of_places, defScope s_is_pair_of_places⟩) (c.fn 15 rfl).1 (c.fn 15 rfl).2
  have a16 : PySem.W.nsIn K mainGlobals "begin_fits" = some (some (.ref (He.ga K "begin_fits"))) := of_decide_eq_true (allZ e0 16 rfl)
  obtain ⟨oc16, od16, kV16, dc16, pm16, an16, cd16, ct16, sl16, l16, c16, k16⟩ := FD.get (d := ⟨fun K => (He.ga K "begin_fits"), "begin_fits", "begin_fits", defArgs s_begin_fits, defBody s_begin_fits, defScope s_begin_fits⟩) (c.fn 16 rfl).1 (c.fn 16 rfl).2
  have a17 : PySem.W.nsIn K mainGlobals "target_fits" = some (some (.ref (He.ga K "target_fits"))) := of_decide_eq_true (allZ e0 17 rfl)
  obtain ⟨oc17, od17, kV17, dc17, pm17, an17, cd17, ct17, sl17, l17, c17, k17⟩ := FD.get (d := ⟨fun K => (He.ga K "target_fits"), "target_fits", "target_fits", defArgs s_target_fits, defBody s_target_fits, defScope s_target_fits⟩) (c.fn 17 rfl).1 (c.fn 17 rfl).2
  have a18 : PySem.W.nsIn K mainGlobals "item_error" = some (some (.ref (He.ga K "item_error"))) := of_decide_eq_true (allZ e0 18 rfl)
  obtain ⟨oc18, od18, kV18, dc18, pm18, an18, cd18, ct18, sl18, l18, c18, k18⟩ := FD.get (d := ⟨fun K => (He.ga K "item_error"), "item_error", "item_error", defArgs s_item_error, defBody s_item_error, defScope s_item_error⟩) (c.fn 18 rfl).1 (c.fn 18 rfl).2
  have a19 : PySem.W.nsIn K mainGlobals "tool_error" = some (some (.ref (He.ga K "tool_error"))) := of_decide_eq_true (allZ e0 19 rfl)
  obtain ⟨oc19, od19, kV19, dc19, pm19, an19, cd19, ct19, sl19, l19, c19, k19⟩ := FD.get (d := ⟨fun K => (He.ga K "tool_error"), "tool_error", "tool_error", defArgs s_tool_error, defBody s_tool_error, defScope s_tool_error⟩) (c.fn 19 rfl).1 (c.fn 19 rfl).2
  have a20 : PySem.W.nsIn K mainGlobals "is_tool" = some (some (.ref (He.ga K "is_tool"))) := of_decide_eq_true (allZ e1 0 rfl)
  obtain ⟨oc20, od20, kV20, dc20, pm20, an20, cd20, ct20, sl20, l20, c20, k20⟩ := FD.get (d := ⟨fun K => (He.ga K "is_tool"), "is_tool", "is_tool", defArgs s_is_tool, defBody s_is_tool, defScope s_is_tool⟩) (c.fn 20 rfl).1 (c.fn 20 rfl).2
  have a21 : PySem.W.nsIn K mainGlobals "check_tools" = some (some (.ref (He.ga K "check_tools"))) := of_decide_eq_true (allZ e1 1 rfl)
  obtain ⟨oc21, od21, kV21, dc21, pm21, an21, cd21, ct21, sl21, l21, c21, k21⟩ := FD.get (d := ⟨fun K => (He.ga K "check_tools"), "check_tools", "check_tools", defArgs s_check_tools, defBody s_check_tools, defScope s_check_tools⟩) (c.fn 21 rfl).1 (c.fn 21 rfl).2
  have a22 : PySem.W.nsIn K mainGlobals "_law_made" = some (some (.ref (He.ga K "_law_made"))) := of_decide_eq_true (allZ e1 2 rfl)
  obtain ⟨oc22, od22, kV22, dc22, pm22, an22, cd22, ct22, sl22, l22, c22, k22⟩ := FD.get (d := ⟨fun K => (He.ga K "_law_made"), "_law_made", "_law_made", defArgs s__law_made, defBody s__law_made, defScope s__law_made⟩) (c.fn 22 rfl).1 (c.fn 22 rfl).2
  have a23 : PySem.W.nsIn K mainGlobals "_law_is_within" = some (some (.ref (He.ga K "_law_is_within"))) := of_decide_eq_true (allZ e1 3 rfl)
  obtain ⟨oc23, od23, kV23, dc23, pm23, an23, cd23, ct23, sl23, l23, c23, k23⟩ := FD.get (d := ⟨fun K => (He.ga K "_law_is_within"), "_law_is_within", "_law_is_within", defArgs s__law_is_within, defBody s__law_is_within, defScope s__law_is_within⟩) (c.fn 23 rfl).1 (c.fn 23 rfl).2
  have a24 : PySem.W.nsIn K mainGlobals "_law_is_tool" = some (some (.ref (He.ga K "_law_is_tool"))) := of_decide_eq_true (allZ e1 4 rfl)
  obtain ⟨oc24, od24, kV24, dc24, pm24, an24, cd24, ct24, sl24, l24, c24, k24⟩ := FD.get (d := ⟨fun K => (He.ga K "_law_is_tool"), "_law_is_tool", "_law_is_tool", defArgs s__law_is_tool, defBody s__law_is_tool, defScope s__law_is_tool⟩) (c.fn 24 rfl).1 (c.fn 24 rfl).2
  have a25 : PySem.W.nsIn K mainGlobals "_law_expected" = some (some (.ref (He.ga K "_law_expected"))) := of_decide_eq_true (allZ e1 5 rfl)
  obtain ⟨oc25, od25, kV25, dc25, pm25, an25, cd25, ct25, sl25, l25, c25, k25⟩ := FD.get (d := ⟨fun K => (He.ga K "_law_expected"), "_law_expected", "_law_expected", defArgs s__law_expected, defBody s__law_expected, defScope s__law_expected⟩) (c.fn 25 rfl).1 (c.fn 25 rfl).2
  have a26 : PySem.W.nsIn K mainGlobals "is_index" = some (some (.ref (He.ga K "is_index"))) := of_decide_eq_true (allZ e1 6 rfl)
  obtain ⟨oc26, od26, kV26, dc26, pm26, an26, cd26, ct26, sl26, l26, c26, k26⟩ := FD.get (d := ⟨fun K => (He.ga K "is_index"), "is_index", "is_index", defArgs s_is_index, defBody s_is_index, defScope s_is_index⟩) (c.fn 26 rfl).1 (c.fn 26 rfl).2
  have a27 : PySem.W.nsIn K mainGlobals "_law_right" = some (some (.ref (He.ga K "_law_right"))) := of_decide_eq_true (allZ e1 7 rfl)
  obtain ⟨oc27, od27, kV27, dc27, pm27, an27, cd27, ct27, sl27, l27, c27, k27⟩ := FD.get (d := ⟨fun K => (He.ga K "_law_right"), "_law_right", "_law_right", defArgs s__law_right, defBody s__law_right, defScope s__law_right⟩) (c.fn 27 rfl).1 (c.fn 27 rfl).2
  have a28 : PySem.W.nsIn K mainGlobals "law" = some (some (.ref (He.ga K "law"))) := of_decide_eq_true (allZ e1 8 rfl)
  obtain ⟨oc28, od28, kV28, dc28, pm28, an28, cd28, ct28, sl28, l28, c28, k28⟩ := FD.get (d := ⟨fun K => (He.ga K "law"), "law", "law", defArgs s_law, defBody s_law, defScope s_law⟩) (c.fn 28 rfl).1 (c.fn 28 rfl).2
  have z_len : PySem.W.nsIn K mainGlobals "len" = some none := of_decide_eq_true (allZ e1 9 rfl)
  have z_range : PySem.W.nsIn K mainGlobals "range" = some none := of_decide_eq_true (allZ e1 10 rfl)
  have z_abs : PySem.W.nsIn K mainGlobals "abs" = some none := of_decide_eq_true (allZ e1 11 rfl)
  have z_list : PySem.W.nsIn K mainGlobals "list" = some none := of_decide_eq_true (allZ e1 12 rfl)
  have z_sorted : PySem.W.nsIn K mainGlobals "sorted" = some none := of_decide_eq_true (allZ e1 13 rfl)
  have z_min : PySem.W.nsIn K mainGlobals "min" = some none := of_decide_eq_true (allZ e1 14 rfl)
  have z_max : PySem.W.nsIn K mainGlobals "max" = some none := of_decide_eq_true (allZ e1 15 rfl)
  have z_tuple : PySem.W.nsIn K mainGlobals "tuple" = some none := of_decide_eq_true (allZ e1 16 rfl)
  have z_dict : PySem.W.nsIn K mainGlobals "dict" = some none := of_decide_eq_true (allZ e1 17 rfl)
  have z_repr : PySem.W.nsIn K mainGlobals "repr" = some none := of_decide_eq_true (allZ e1 18 rfl)
  have z_set : PySem.W.nsIn K mainGlobals "set" = some none := of_decide_eq_true (allZ e1 19 rfl)
  have z_sum : PySem.W.nsIn K mainGlobals "sum" = some none := of_decide_eq_true (allZ e2 0 rfl)
  have z_isinstance : PySem.W.nsIn K mainGlobals "isinstance" = some none := of_decide_eq_true (allZ e2 1 rfl)
  have z_int : PySem.W.nsIn K mainGlobals "int" = some none := of_decide_eq_true (allZ e2 2 rfl)
  have z_bool : PySem.W.nsIn K mainGlobals "bool" = some none := of_decide_eq_true (allZ e2 3 rfl)
  have z_enumerate : PySem.W.nsIn K mainGlobals "enumerate" = some none := of_decide_eq_true (allZ e2 4 rfl)
  have z_zip : PySem.W.nsIn K mainGlobals "zip" = some none := of_decide_eq_true (allZ e2 5 rfl)
  have z_str : PySem.W.nsIn K mainGlobals "str" = some none := of_decide_eq_true (allZ e2 6 rfl)
  have z_type : PySem.W.nsIn K mainGlobals "type" = some none := of_decide_eq_true (allZ e2 7 rfl)
  have z_reversed : PySem.W.nsIn K mainGlobals "reversed" = some none := of_decide_eq_true (allZ e2 8 rfl)
  have z_any : PySem.W.nsIn K mainGlobals "any" = some none := of_decide_eq_true (allZ e2 9 rfl)
  have z_all : PySem.W.nsIn K mainGlobals "all" = some none := of_decide_eq_true (allZ e2 10 rfl)
  obtain ⟨v_MAX_ARCS, g_MAX_ARCS, r_MAX_ARCS⟩ := gi_ok (allZ e2 11 rfl)
  obtain ⟨v_MAX_PLACES, g_MAX_PLACES, r_MAX_PLACES⟩ := gi_ok (allZ e2 12 rfl)
  obtain ⟨v_MAX_TOOLS, g_MAX_TOOLS, r_MAX_TOOLS⟩ := gi_ok (allZ e2 13 rfl)
  have cg_BadTools : PySem.W.nsIn K mainGlobals "BadTools" = some (some (.ref (He.ga K "BadTools"))) := of_decide_eq_true (allZ e2 14 rfl)
  have ce_BadTools : PySem.W.subIn K (.ref (He.ga K "BadTools")) (.type "BaseException") = some true := of_decide_eq_true (allZ e2 15 rfl)
  have ch_BadTools : PySem.W.hasDictIn K (He.ga K "BadTools") = true := of_decide_eq_true (allZ e2 16 rfl)
  have ct_BadTools : PySem.W.typeIn K (.ref (He.ga K "BadTools")) = some (.type "type") := of_decide_eq_true (allZ e2 17 rfl)
  have cg_PushError : PySem.W.nsIn K mainGlobals "PushError" = some (some (.ref (He.ga K "PushError"))) := of_decide_eq_true (allZ e2 18 rfl)
  obtain ⟨nm_BadTools, qq_BadTools, NN_BadTools, bs_BadTools, sn_BadTools, sub_BadTools, ab_BadTools, col_BadTools, dd_BadTools, q0_BadTools, q1_BadTools, q2_BadTools, q3_BadTools, q5_BadTools, cL_BadTools⟩ := ec_ok (allZ e2 19 rfl)
  have csa_BadTools : PySem.W.findIn K (.ref (He.ga K "BadTools")) "__setattr__" = some (some (.builtin "object.__setattr__")) := of_decide_eq_true (allZ e3 0 rfl)
  have cga_BadTools : PySem.W.findIn K (.ref (He.ga K "BadTools")) "__getattribute__" = some (some (.builtin "BaseException.__getattribute__")) := of_decide_eq_true (allZ e3 1 rfl)
  have cgg_BadTools : PySem.W.findIn K (.ref (He.ga K "BadTools")) "__getattr__" = some none := of_decide_eq_true (allZ e3 2 rfl)
  have cno_BadTools : PySem.W.findIn K (.ref (He.ga K "BadTools")) "index" = some none := of_decide_eq_true (allZ e3 3 rfl)
  have ci_BadTools : PySem.W.findIn K (.ref (He.ga K "BadTools")) "__init__" = some (some (.ref (He.ma K (He.ga K "BadTools") "__init__"))) := of_decide_eq_true (allZ e3 4 rfl)
  have cti_BadTools : PySem.W.typeIn K (.ref (He.ma K (He.ga K "BadTools") "__init__")) = some (.type "function") := of_decide_eq_true (allZ e3 5 rfl)
  obtain ⟨ocI_BadTools, odI_BadTools, kVI_BadTools, dcI_BadTools, pmI_BadTools, anI_BadTools, cdI_BadTools, ctI_BadTools, slI_BadTools, cl_BadTools, cc_BadTools, ck_BadTools⟩ := FD.get (d := ⟨fun K => (He.ma K (He.ga K "BadTools") "__init__"), "__init__", "BadTools.__init__", defArgs s_BadTools, defBody s_BadTools, defScope s_BadTools⟩) (c.fn 29 rfl).1 (c.fn 29 rfl).2
  have ckC_BadTools : PySem.W.keepIn K (.ref (He.ga K "BadTools")) = true := of_decide_eq_true (allZ e3 6 rfl)
  have cha_BadTools : PySem.W.findIn K (.ref (He.ga K "BadTools")) "__class__" = some (some (.builtin "object.__class__")) := of_decide_eq_true (allZ e3 7 rfl)
  have chn_BadTools : PySem.W.specialIn K (.builtin "object.__class__") "__get__" = some (some (.builtin "getset_descriptor.__get__")) := of_decide_eq_true (allZ e3 8 rfl)
  have cht_BadTools : PySem.W.takesIn K (.builtin "object.__class__") = some true := of_decide_eq_true (allZ e3 9 rfl)
  have chm_BadTools : PySem.W.mroIn K (He.ga K "BadTools") (.type "object") = some true := of_decide_eq_true (allZ e3 10 rfl)
  have cg_BadCircle : PySem.W.nsIn K mainGlobals "BadCircle" = some (some (.ref (He.ga K "BadCircle"))) := of_decide_eq_true (allZ e3 11 rfl)
  have ce_BadCircle : PySem.W.subIn K (.ref (He.ga K "BadCircle")) (.type "BaseException") = some true := of_decide_eq_true (allZ e3 12 rfl)
  have ch_BadCircle : PySem.W.hasDictIn K (He.ga K "BadCircle") = true := of_decide_eq_true (allZ e3 13 rfl)
  have ct_BadCircle : PySem.W.typeIn K (.ref (He.ga K "BadCircle")) = some (.type "type") := of_decide_eq_true (allZ e3 14 rfl)
  obtain ⟨nm_BadCircle, qq_BadCircle, NN_BadCircle, bs_BadCircle, sn_BadCircle, sub_BadCircle, ab_BadCircle, col_BadCircle, dd_BadCircle, q0_BadCircle, q1_BadCircle, q2_BadCircle, q3_BadCircle, q5_BadCircle, cL_BadCircle⟩ := ec_ok (allZ e3 15 rfl)
  have csa_BadCircle : PySem.W.findIn K (.ref (He.ga K "BadCircle")) "__setattr__" = some (some (.builtin "object.__setattr__")) := of_decide_eq_true (allZ e3 16 rfl)
  have cga_BadCircle : PySem.W.findIn K (.ref (He.ga K "BadCircle")) "__getattribute__" = some (some (.builtin "BaseException.__getattribute__")) := of_decide_eq_true (allZ e3 17 rfl)
  have cgg_BadCircle : PySem.W.findIn K (.ref (He.ga K "BadCircle")) "__getattr__" = some none := of_decide_eq_true (allZ e3 18 rfl)
  have cno_BadCircle : PySem.W.findIn K (.ref (He.ga K "BadCircle")) "value" = some none := of_decide_eq_true (allZ e3 19 rfl)
  have ci_BadCircle : PySem.W.findIn K (.ref (He.ga K "BadCircle")) "__init__" = some (some (.ref (He.ma K (He.ga K "BadCircle") "__init__"))) := of_decide_eq_true (allZ e4 0 rfl)
  have cti_BadCircle : PySem.W.typeIn K (.ref (He.ma K (He.ga K "BadCircle") "__init__")) = some (.type "function") := of_decide_eq_true (allZ e4 1 rfl)
  obtain ⟨ocI_BadCircle, odI_BadCircle, kVI_BadCircle, dcI_BadCircle, pmI_BadCircle, anI_BadCircle, cdI_BadCircle, ctI_BadCircle, slI_BadCircle, cl_BadCircle, cc_BadCircle, ck_BadCircle⟩ := FD.get (d := ⟨fun K => (He.ma K (He.ga K "BadCircle") "__init__"), "__init__", "BadCircle.__init__", defArgs s_BadCircle, defBody s_BadCircle, defScope s_BadCircle⟩) (c.fn 30 rfl).1 (c.fn 30 rfl).2
  have ckC_BadCircle : PySem.W.keepIn K (.ref (He.ga K "BadCircle")) = true := of_decide_eq_true (allZ e4 2 rfl)
  have cha_BadCircle : PySem.W.findIn K (.ref (He.ga K "BadCircle")) "__class__" = some (some (.builtin "object.__class__")) := of_decide_eq_true (allZ e4 3 rfl)
  have chn_BadCircle : PySem.W.specialIn K (.builtin "object.__class__") "__get__" = some (some (.builtin "getset_descriptor.__get__")) := of_decide_eq_true (allZ e4 4 rfl)
  have cht_BadCircle : PySem.W.takesIn K (.builtin "object.__class__") = some true := of_decide_eq_true (allZ e4 5 rfl)
  have chm_BadCircle : PySem.W.mroIn K (He.ga K "BadCircle") (.type "object") = some true := of_decide_eq_true (allZ e4 6 rfl)
  have cg_Bench : PySem.W.nsIn K mainGlobals "Bench" = some (some (.ref (He.ga K "Bench"))) := of_decide_eq_true (allZ e4 7 rfl)
  have pg_Bench : PySem.W.plainGet K (He.ga K "Bench") Str.empty = true := of_decide_eq_true (allZ e4 8 rfl)
  have hd_Bench : PySem.W.hasDictIn K (He.ga K "Bench") = true := of_decide_eq_true (allZ e4 9 rfl)
  have po_Bench : PySem.W.plainOver K (He.ga K "Bench") = true := of_decide_eq_true (allZ e4 10 rfl)
  have sa_Bench : PySem.W.findIn K (.ref (He.ga K "Bench")) "__setattr__" = some (some (.builtin "object.__setattr__")) := of_decide_eq_true (allZ e4 11 rfl)
  have ha_Bench : PySem.W.findIn K (.ref (He.ga K "Bench")) "__class__" = some (some (.builtin "object.__class__")) := of_decide_eq_true (allZ e4 12 rfl)
  have hn_Bench : PySem.W.specialIn K (.builtin "object.__class__") "__get__" = some (some (.builtin "getset_descriptor.__get__")) := of_decide_eq_true (allZ e4 13 rfl)
  have ht_Bench : PySem.W.takesIn K (.builtin "object.__class__") = some true := of_decide_eq_true (allZ e4 14 rfl)
  have hm_Bench : PySem.W.mroIn K (He.ga K "Bench") (.type "object") = some true := of_decide_eq_true (allZ e4 15 rfl)
  have mk_Bench : PySem.W.makesIn K (He.ga K "Bench") = true := of_decide_eq_true (allZ e4 16 rfl)
  have kp_Bench : PySem.W.keepIn K (.ref (He.ga K "Bench")) = true := of_decide_eq_true (allZ e4 17 rfl)
  have n_m_Bench : PySem.W.findIn K (.ref (He.ga K "Bench")) "m" = some none := of_decide_eq_true (allZ e4 18 rfl)
  have n_tools_Bench : PySem.W.findIn K (.ref (He.ga K "Bench")) "tools" = some none := of_decide_eq_true (allZ e4 19 rfl)
  have n_done_Bench : PySem.W.findIn K (.ref (He.ga K "Bench")) "done" = some none := of_decide_eq_true (allZ e5 0 rfl)
  have n_states_Bench : PySem.W.findIn K (.ref (He.ga K "Bench")) "states" = some none := of_decide_eq_true (allZ e5 1 rfl)
  have n_aim_Bench : PySem.W.findIn K (.ref (He.ga K "Bench")) "aim" = some none := of_decide_eq_true (allZ e5 2 rfl)
  have n_is_watched_Bench : PySem.W.findIn K (.ref (He.ga K "Bench")) "is_watched" = some none := of_decide_eq_true (allZ e5 3 rfl)
  have at_Bench___init__ : PySem.W.findIn K (.ref (He.ga K "Bench")) "__init__" = some (some (.ref (He.ma K (He.ga K "Bench") "__init__"))) := of_decide_eq_true (allZ e5 4 rfl)
  have fn_Bench___init__ : PySem.W.isFn K (.ref (He.ma K (He.ga K "Bench") "__init__")) = true := of_decide_eq_true (allZ e5 5 rfl)
  obtain ⟨oc_Bench___init__, od_Bench___init__, kV_Bench___init__, dc_Bench___init__, pm_Bench___init__, an_Bench___init__, cd_Bench___init__, ct_Bench___init__, sl_Bench___init__, l_Bench___init__, c_Bench___init__, k_Bench___init__⟩ := FD.get (d := ⟨fun K => (He.ma K (He.ga K "Bench") "__init__"), "__init__", "Bench.__init__", defArgs s_Bench___init__, defBody s_Bench___init__, defScope s_Bench___init__⟩) (c.fn 31 rfl).1 (c.fn 31 rfl).2
  have at_Bench_edits : PySem.W.findIn K (.ref (He.ga K "Bench")) "edits" = some (some (.ref (He.ma K (He.ga K "Bench") "edits"))) := of_decide_eq_true (allZ e5 6 rfl)
  have fn_Bench_edits : PySem.W.isFn K (.ref (He.ma K (He.ga K "Bench") "edits")) = true := of_decide_eq_true (allZ e5 7 rfl)
  obtain ⟨oc_Bench_edits, od_Bench_edits, kV_Bench_edits, dc_Bench_edits, pm_Bench_edits, an_Bench_edits, cd_Bench_edits, ct_Bench_edits, sl_Bench_edits, l_Bench_edits, c_Bench_edits, k_Bench_edits⟩ := FD.get (d := ⟨fun K => (He.ma K (He.ga K "Bench") "edits"), "edits", "Bench.edits", defArgs s_Bench_edits, defBody s_Bench_edits, defScope s_Bench_edits⟩) (c.fn 32 rfl).1 (c.fn 32 rfl).2
  have at_Bench_possible : PySem.W.findIn K (.ref (He.ga K "Bench")) "possible" = some (some (.ref (He.ma K (He.ga K "Bench") "possible"))) := of_decide_eq_true (allZ e5 8 rfl)
  have fn_Bench_possible : PySem.W.isFn K (.ref (He.ma K (He.ga K "Bench") "possible")) = true := of_decide_eq_true (allZ e5 9 rfl)
  obtain ⟨oc_Bench_possible, od_Bench_possible, dc_Bench_possible, pm_Bench_possible, an_Bench_possible, cd_Bench_possible, ct_Bench_possible, sl_Bench_possible, l_Bench_possible, c_Bench_possible, k_Bench_possible⟩ := FD.getK (d := ⟨fun K => (He.ma K (He.ga K "Bench") "possible"), "possible", "Bench.possible", defArgs s_Bench_possible, defBody s_Bench_possible, defScope s_Bench_possible⟩) (c.fn 33 rfl).1 (c.fn 33 rfl).2 (allZ e5 10 rfl)
  have ns_Bench_possible_version : PySem.W.nsIn K (kwAt K (He.ma K (He.ga K "Bench") "possible")) "version" = some (some .none) := of_decide_eq_true (allZ e5 11 rfl)
  have at_Bench___len__ : PySem.W.findIn K (.ref (He.ga K "Bench")) "__len__" = some (some (.ref (He.ma K (He.ga K "Bench") "__len__"))) := of_decide_eq_true (allZ e5 12 rfl)
  have fn_Bench___len__ : PySem.W.isFn K (.ref (He.ma K (He.ga K "Bench") "__len__")) = true := of_decide_eq_true (allZ e5 13 rfl)
  obtain ⟨oc_Bench___len__, od_Bench___len__, kV_Bench___len__, dc_Bench___len__, pm_Bench___len__, an_Bench___len__, cd_Bench___len__, ct_Bench___len__, sl_Bench___len__, l_Bench___len__, c_Bench___len__, k_Bench___len__⟩ := FD.get (d := ⟨fun K => (He.ma K (He.ga K "Bench") "__len__"), "__len__", "Bench.__len__", defArgs s_Bench___len__, defBody s_Bench___len__, defScope s_Bench___len__⟩) (c.fn 34 rfl).1 (c.fn 34 rfl).2
  have at_Bench___str__ : PySem.W.findIn K (.ref (He.ga K "Bench")) "__str__" = some (some (.ref (He.ma K (He.ga K "Bench") "__str__"))) := of_decide_eq_true (allZ e5 14 rfl)
  have fn_Bench___str__ : PySem.W.isFn K (.ref (He.ma K (He.ga K "Bench") "__str__")) = true := of_decide_eq_true (allZ e5 15 rfl)
  obtain ⟨oc_Bench___str__, od_Bench___str__, kV_Bench___str__, dc_Bench___str__, pm_Bench___str__, an_Bench___str__, cd_Bench___str__, ct_Bench___str__, sl_Bench___str__, l_Bench___str__, c_Bench___str__, k_Bench___str__⟩ := FD.get (d := ⟨fun K => (He.ma K (He.ga K "Bench") "__str__"), "__str__", "Bench.__str__", defArgs s_Bench___str__, defBody s_Bench___str__, defScope s_Bench___str__⟩) (c.fn 35 rfl).1 (c.fn 35 rfl).2
  have cg_BadEdits : PySem.W.nsIn K mainGlobals "BadEdits" = some (some (.ref (He.ga K "BadEdits"))) := of_decide_eq_true (allZ e5 16 rfl)
  have cg_BadLength : PySem.W.nsIn K mainGlobals "BadLength" = some (some (.ref (He.ga K "BadLength"))) := of_decide_eq_true (allZ e5 17 rfl)
  have cg_BadTurn : PySem.W.nsIn K mainGlobals "BadTurn" = some (some (.ref (He.ga K "BadTurn"))) := of_decide_eq_true (allZ e5 18 rfl)
  have z_ValueError : PySem.W.nsIn K mainGlobals "ValueError" = some none := of_decide_eq_true (allZ e5 19 rfl)
  have kBB : PySem.W.kitOne K (.ref (He.ga K "BadCircle")) (.ref (He.ga K "BadCircle")) = some true := of_decide_eq_true (allZ e6 0 rfl)
  have kBT : PySem.W.kitOne K (.ref (He.ga K "BadCircle")) (.ref (He.ga K "BadTools")) = some false := of_decide_eq_true (allZ e6 1 rfl)
  have kTB : PySem.W.kitOne K (.ref (He.ga K "BadTools")) (.ref (He.ga K "BadCircle")) = some false := of_decide_eq_true (allZ e6 2 rfl)
  have kTT : PySem.W.kitOne K (.ref (He.ga K "BadTools")) (.ref (He.ga K "BadTools")) = some true := of_decide_eq_true (allZ e6 3 rfl)
  have kBV : PySem.W.kitOne K (.ref (He.ga K "BadCircle")) (.type "ValueError") = some true := of_decide_eq_true (allZ e6 4 rfl)
  have kTV : PySem.W.kitOne K (.ref (He.ga K "BadTools")) (.type "ValueError") = some true := of_decide_eq_true (allZ e6 5 rfl)
  have kB3 : PySem.W.kitAny K (.ref (He.ga K "BadCircle")) [.ref (He.ga K "BadEdits"), .ref (He.ga K "BadLength"), .ref (He.ga K "BadTurn")] = some false := of_decide_eq_true (allZ e6 6 rfl)
  have kT3 : PySem.W.kitAny K (.ref (He.ga K "BadTools")) [.ref (He.ga K "BadEdits"), .ref (He.ga K "BadLength"), .ref (He.ga K "BadTurn")] = some false := of_decide_eq_true (allZ e6 7 rfl)
  have xB : PySem.W.exmOne K (.ref (He.ga K "BadCircle")) (.ref (He.ga K "PushError")) = some true := of_decide_eq_true (allZ e6 8 rfl)
  have xT : PySem.W.exmOne K (.ref (He.ga K "BadTools")) (.ref (He.ga K "PushError")) = some true := of_decide_eq_true (allZ e6 9 rfl)
  have kL : PySem.W.kitOne K (.ref (He.ga K "Bench")) (.type "list") = some false := of_decide_eq_true (allZ e6 10 rfl)
  exact all_mk X G hfa a0 l0 c0 k0 a1 l1 c1 k1 a2 l2 c2 k2 a3 l3 c3 k3 a4 l4 c4 k4 a5 l5 c5 k5 a6 l6 c6 k6 a7 l7 c7 k7 a8 l8 c8 k8 a9 l9 c9 k9 a10 l10 c10 k10 a11 l11 c11 k11 a12 l12 c12 k12 a13 l13 c13 k13 a14 l14 c14 k14 a15 l15 c15 k15 a16 l16 c16 k16 a17 l17 c17 k17 a18 l18 c18 k18 a19 l19 c19 k19 a20 l20 c20 k20 a21 l21 c21 k21 a22 l22 c22 k22 a23 l23 c23 k23 a24 l24 c24 k24 a25 l25 c25 k25 a26 l26 c26 k26 a27 l27 c27 k27 a28 l28 c28 k28 z_len z_range z_abs z_list z_sorted z_min z_max z_tuple z_dict z_repr z_set z_sum z_isinstance z_int z_bool z_enumerate z_zip z_str z_type z_reversed z_any z_all g_MAX_ARCS r_MAX_ARCS g_MAX_PLACES r_MAX_PLACES g_MAX_TOOLS r_MAX_TOOLS cg_BadTools ce_BadTools ch_BadTools ct_BadTools cg_PushError cL_BadTools csa_BadTools cga_BadTools cgg_BadTools cno_BadTools ci_BadTools cti_BadTools cl_BadTools cc_BadTools ck_BadTools ckC_BadTools cha_BadTools chn_BadTools cht_BadTools chm_BadTools cg_BadCircle ce_BadCircle ch_BadCircle ct_BadCircle cL_BadCircle csa_BadCircle cga_BadCircle cgg_BadCircle cno_BadCircle ci_BadCircle cti_BadCircle cl_BadCircle cc_BadCircle ck_BadCircle ckC_BadCircle cha_BadCircle chn_BadCircle cht_BadCircle chm_BadCircle cg_Bench pg_Bench hd_Bench po_Bench sa_Bench ha_Bench hn_Bench ht_Bench hm_Bench mk_Bench kp_Bench n_m_Bench n_tools_Bench n_done_Bench n_states_Bench n_aim_Bench n_is_watched_Bench at_Bench___init__ fn_Bench___init__ l_Bench___init__ c_Bench___init__ k_Bench___init__ at_Bench_edits fn_Bench_edits l_Bench_edits c_Bench_edits k_Bench_edits at_Bench_possible fn_Bench_possible l_Bench_possible c_Bench_possible k_Bench_possible ns_Bench_possible_version at_Bench___len__ fn_Bench___len__ l_Bench___len__ c_Bench___len__ k_Bench___len__ at_Bench___str__ fn_Bench___str__ l_Bench___str__ c_Bench___str__ k_Bench___str__ cg_BadEdits cg_BadLength cg_BadTurn z_ValueError kBB kBT kTB kTT kBV kTV kB3 kT3 xB xT kL
def nmZ0 : List Str := ["_wall", "MAX_PLACES", "MAX_ARCS", "MAX_TOOLS", "__name__", "is_number", "is_number_within", "is_place", "is_index", "is_tuple_within", "is_pair", "PushError", "BadCircle", "BadTools", "BadTurn", "BadLength", "BadEdits", "BadText", "NoVersion", "is_tool", "tool_error", "item_error", "is_pair_of_places", "begin_fits", "target_fits", "parse_tool", "parse_circle", "parse_part", "read_pairs", "read_pair"]
def nmZ1 : List Str := ["read_number", "check_tools", "Bench", "_law_deck", "_law_draw", "_law_sorted_picks", "_law_tool", "_law_circle", "_law_right", "_law_is_within", "_law_is_tool", "_law_odd", "_law_bent", "_law_made", "_law_expected"]
def nmZ : List Str := nmZ0 ++ nmZ1
def asZ0 : List Addr := [2, 3, 15, 17, 18, 20, 21, 22, 24, 25, 27, 28, 29, 31, 32, 34, 35, 36, 38, 39, 41, 42, 43, 45, 46, 48, 49, 50, 52, 53, 55, 56, 57, 59, 60, 62, 63, 64, 71, 72]
def asZ1 : List Addr := [73, 74, 77, 84, 86, 87, 89, 90, 91, 92, 93, 96, 103, 105, 106, 108, 109, 110, 111, 112, 115, 122, 124, 125, 127, 128, 129, 130, 131, 134, 141, 143, 144, 146, 147, 148, 149, 150, 153, 160]
def asZ2 : List Addr := [161, 162, 165, 172, 174, 175, 177, 178, 179, 180, 181, 184, 191, 193, 194, 196, 197, 198, 199, 200, 201, 204, 206, 207, 209, 210, 211, 213, 214, 216, 217, 218, 220, 221, 223, 224, 225, 227, 228, 230]
def asZ3 : List Addr := [231, 232, 234, 235, 237, 238, 239, 241, 242, 244, 245, 246, 248, 249, 251, 252, 253, 256, 257, 258, 260, 261, 263, 264, 265, 268, 269, 270, 272, 273, 275, 276, 277, 279, 280, 282, 283, 284, 286, 287]
def asZ4 : List Addr := [289, 290, 298, 300, 301, 303, 304, 305, 307, 308, 310, 311, 312, 314, 315, 317, 318, 319, 321, 322, 324, 325, 326, 328, 329, 331, 332, 333, 335, 336, 338, 339, 340, 341, 342, 343, 345, 346, 348, 349]
def asZ5 : List Addr := [350, 351, 352, 353, 355, 356, 358, 359, 360, 361, 363, 364, 366, 367, 368, 369, 371, 372, 374, 375, 376, 377, 379, 380, 382, 383, 384, 386, 387, 389, 390, 391, 393, 394, 396, 397, 398, 400, 401, 403]
def asZ6 : List Addr := [404, 405, 406, 408, 409, 411, 412, 413, 415, 416, 418, 419, 420, 422, 423, 425, 426, 427, 429, 430, 432, 433, 434, 436, 437, 439, 440, 441, 443, 444, 446, 447, 448, 450, 451, 453, 454, 455, 457, 458]
def asZ7 : List Addr := [460, 461, 462, 464, 465, 467, 468, 469, 470, 472, 473, 475, 476, 477, 478, 480, 481, 483, 484, 485, 486, 488, 489, 491, 492, 493, 495, 496, 498, 499, 500, 502, 503, 505, 506, 507, 509, 510, 512, 513]
def asZ8 : List Addr := [514, 515, 516, 517, 518, 521, 524, 525, 526, 528, 529, 531, 532, 533, 535, 536, 538, 539, 540, 543, 544, 545, 548, 549, 550, 552, 553, 555, 556, 557, 559, 560, 562, 563, 564, 567, 568, 569, 571, 572]
def asZ9 : List Addr := [574, 575, 576, 578, 579, 581, 582, 583, 585, 586, 588, 589, 590, 593, 594, 595, 597, 598, 600, 601]
def asZ : List Addr := asZ0 ++ asZ1 ++ asZ2 ++ asZ3 ++ asZ4 ++ asZ5 ++ asZ6 ++ asZ7 ++ asZ8 ++ asZ9
abbrev rowZ : PySem.W.OpenRow := PySem.W.OpenLaw.row PySem.Challenge.rw_blindpush_k44_benches_created
abbrev viewZ : Program := PySem.W.view rowZ.prog [50]
def obZ (s : PySem.W.SharedT) : AlZ := obsZ asZ fdsZ exZ (HandSHeadRun.getT s)
theorem obZ_eq (s : PySem.W.SharedT) : obZ s = (hookZ asZ fdsZ exZ).obs s.abs := obsZ_eq (HandSHeadRun.getT_eq s)
theorem runL (w : World) (os : OsState) : (HandSHeadRun.endF (HandSHeadRun.stepQ (HandSHeadRun.denQ HandSHeadRun.tabQ) rowZ.prog w) 20000 rowZ.prog w os).map (fun s => (HandSHeadRun.looksF rowZ.prog (PySem.W.boot_heap w.params) s.abs, HandSHeadRun.seenQ viewZ nmZ (PySem.importedModules rowZ.prog.main.body) (fun s => PySem.W.xlAt viewZ [] s && PySem.W.recOk rowZ.toRowW.records s) s.abs)) = some (true, PySem.W.openGood viewZ nmZ) := by
  kernel_rfl
theorem runF0 (w : World) (os : OsState) : (HandSHeadRun.endF (HandSHeadRun.stepQ (HandSHeadRun.denQ HandSHeadRun.tabQ) rowZ.prog w) 20000 rowZ.prog w os).map (cF asZ fdsZ0) = some (valZ fdsZ0) := by
  kernel_rfl
def tgZ0 (K : PySem.W.Frag) : List Bool := [(tsZ0 K).all id, (tsZ1 K).all id, (tsZ2 K).all id, (tsZ3 K).all id, (tsZ4 K).all id]
theorem runT0 (w : World) (os : OsState) : (HandSHeadRun.endF (HandSHeadRun.stepQ (HandSHeadRun.denQ HandSHeadRun.tabQ) rowZ.prog w) 20000 rowZ.prog w os).map (cT asZ tgZ0) = some true := by
  kernel_rfl
def tgZ1 (K : PySem.W.Frag) : List Bool := [(tsZ5 K).all id, (tsZ6 K).all id]
theorem runT1 (w : World) (os : OsState) : (HandSHeadRun.endF (HandSHeadRun.stepQ (HandSHeadRun.denQ HandSHeadRun.tabQ) rowZ.prog w) 20000 rowZ.prog w os).map (cT asZ tgZ1) = some true := by
  kernel_rfl
theorem runZ (w : World) : HandSHeadRun.RunEq rowZ viewZ (hookZ asZ fdsZ exZ) obZ 20000 nmZ w := by
  intro os
  refine join_at (runL w os) fun s e => ?_
  have f0 := at_of (runF0 w os) e
  refine obZ_of f0 ?_
  have t0 : (tgZ0 (He.frG (HandSHeadRun.getT s) asZ)).all id = true := at_of (runT0 w os) e
  have u0 : (tsZ0 (He.frG (HandSHeadRun.getT s) asZ)).all id = true := allZ t0 0 rfl
  have u1 : (tsZ1 (He.frG (HandSHeadRun.getT s) asZ)).all id = true := allZ t0 1 rfl
  have u2 : (tsZ2 (He.frG (HandSHeadRun.getT s) asZ)).all id = true := allZ t0 2 rfl
  have u3 : (tsZ3 (He.frG (HandSHeadRun.getT s) asZ)).all id = true := allZ t0 3 rfl
  have u4 : (tsZ4 (He.frG (HandSHeadRun.getT s) asZ)).all id = true := allZ t0 4 rfl
  have t1 : (tgZ1 (He.frG (HandSHeadRun.getT s) asZ)).all id = true := at_of (runT1 w os) e
  have u5 : (tsZ5 (He.frG (HandSHeadRun.getT s) asZ)).all id = true := allZ t1 0 rfl
  have u6 : (tsZ6 (He.frG (HandSHeadRun.getT s) asZ)).all id = true := allZ t1 1 rfl
  unfold exZ
  rw [u0, u1, u2, u3, u4, u5, u6]
  rfl
end BP
open PySem PySem.W PySem.Calls PyProof.Rows
set_option maxHeartbeats 0 in
theorem PySem.Challenge.cw_blindpush_k44_benches_created_holds : PySem.Challenge.rw_blindpush_k44_benches_created.Holds := by
  w_on; o_law
  refine HandSHeadRun.head_any (r := OpenLaw.row PySem.Challenge.rw_blindpush_k44_benches_created) (q := BP.viewZ) (H := BP.hookZ BP.asZ BP.fdsZ BP.exZ) (ob := BP.obZ) (M := 20000) (loose := BP.nmZ) (d := HandSHeadRun.topDef BP.rowZ.prog 50) (kwd := []) BP.obZ_eq
    (by kernel_rfl) (fun s => by kernel_rfl) BP.runZ (by kernel_rfl) (by kernel_rfl) (by kernel_rfl) (by rfl) (by first | assumption | decide +kernel) (by decide +kernel) ⟨rfl, rfl, rfl, rfl, rfl, by decide +kernel⟩ ?hw ?hc
  case hw => w_witness2
  case hc =>
    refine BP.walkH (l := PySem.Challenge.rw_blindpush_k44_benches_created) (n := 63) (k := 13) (x := "_law_script") (sp := BP.spLaw) rfl (by decide) (by kernel_rfl) ⟨rfl, by decide, by decide⟩ (by decide +kernel) ?F (fun _ _ a ns hl _ hS => ⟨a, ns, rfl, hS, hl, fun _ => rfl⟩)
    intro w mg fa h Y G hmg0
    obtain ⟨K, KX, c⟩ := Y
    have hmg : mg ("law" : PySem.Str) = some (.ref fa) := by
      have e : (HandSHeadRun.topDef BP.rowZ.prog 50).name = ("law" : PySem.Str) := by kernel_rfl
      rw [← e]
      exact hmg0
    obtain ⟨fd, hb, hF⟩ := BP.all_z (l := PySem.Challenge.rw_blindpush_k44_benches_created) (w := w) KX G hmg c
    exact ⟨K, KX, fd, hb, hF⟩
