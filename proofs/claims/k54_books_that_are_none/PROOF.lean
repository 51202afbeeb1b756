import PyProof.Rows.All
import Wide.All
import OpenK.AllK
import Wide.FinOn
import PyProof.ReprRoads
import PyProof.CallFns
import HandS.ForMost
import HandS.Wide
import HandS.IsInst
import HandS.ExcInit
import HandS.Defaults
import HandS.ExcIs
import HandS.ExcField
import HandS.MakeKw
import HandS.HeadHook1
import HandS.HeadHook2
import HandS.HeadHook3
import HandS.HeadHook4
import HandS.HeadEnd
import HandS.Head0
import HandS.Head1
import HandS.Head2
import HandS.ForExc
import HandS.MakeKwOnly
import HandS.Property
import HandS.Small
import HandS.RaiseFrom
import HandS.ExcInitHot
import HandS.Star
import PyProof.StrLawsChain
import HandS.SuiteRaise
import HandS.Strs
import HandS.HeadNt
import HandS.OwnEq
import HandS.CallSlots
import HandS.ReplaceLit
import HandS.TupMul
import HandS.ReplaceList
import PyProof.StrOps2
import HandS.Style
import HandS.Codes
import PySem.Challenge.RW_keysthrough_k54_books_that_are_none
set_option Elab.async false
set_option linter.all false
set_option maxRecDepth 100000
set_option maxHeartbeats 2000000
/-! Calls from where no repr is under way; repr of data; powers of great ints. -/
namespace KV
open PySem PySem.Spec PyProof.Rows L2

/-- what a def promises to a caller above which no repr is under way -/
structure FnC (P : Program) (w : World) (K : PySem.W.Frag) (mg : Str → Option Value) (base : Heap) (CX : CXT) (k : Nat)
    (f : Addr) (fd : FuncData) (ps : List Str) (sp : Sp) : Prop where
  len : ∀ vs H Q E, sp vs H Q E → vs.length = ps.length
  run : ∀ (A : Around) (outer : List Env) (s : Shared) (H : Hp) (args : Args) (us : List Value) (vs : List V) (Q : VK) (E : XK),
    A.guards = some [] → Room k A → Env0 P w K mg base A outer s H → BindsTo s fd args (ps.zip us) → Vals vs us → sp vs H Q E →
      codeAny (model P w) A (.call (.ref f) args) (CR CX outer P w H s Q E) s

theorem FnC.of {P : Program} {w : World} {K : PySem.W.Frag} {mg : Str → Option Value} {base : Heap} {CX : CXT} {k : Nat} {f : Addr}
    {fd : FuncData} {ps : List Str} {sp : Sp} (F : FnOk P w K mg base CX k f fd ps sp) : FnC P w K mg base CX k f fd ps sp :=
  ⟨F.len, fun A outer s H args us vs Q E _ hr e0 hb r h => F.run A outer s H args us vs Q E hr e0 hb r h⟩

section
variable {X : Cx} {CX : CXT} {k : Nat} {f : Addr} {fd : FuncData} {ps : List Str} {sp : Sp} {E : XK} {x : Str} {p pos : Pos}
  {e : Expr} {es : List Expr} {t : TA}
/-- f(e, ..) from such a place, every parameter given -/
theorem pe_callC (hG : X.A.guards = some []) (F : FnC X.prog X.w X.K X.mg X.base CX k f fd ps sp) (hr : Room k X.A) (hg : Gl X x)
    (hm : X.mg x = some (.ref f)) (hk : PySem.W.keepIn X.K (.ref f) = true) (hb : Binds X.K fd ps []) (hx : Passes CX X E)
    (ha : PA X (e :: es) t) (hdb : (x == ("__debug__" : Str)) = false := by decide)
    (he : starEach (e :: es) X.env = (false, eval e X.env) :: starEach es X.env := by rfl)
    (hpl : (backTo pos (starEach es X.env)).any (·.1) = false := by rfl) :
    PE X (.Call (.Name x p) (e :: es) [] pos) (tCall sp [] E t) := by
  constructor
  intro pins s σ H Q I h
  apply wpAny_Call_Name_kw
  refine ld_glob I hg hm ?_ hdb
  refine PySem.W.callWith_K (h₀ := X.base) I.ok.mod.kin hk (thn (ha.run pos pins s σ H _ I h) ?_) he hpl
  rintro us s1 ⟨vs, H1, I1, r, q⟩
  refine ⟨I1.kIn, ?_⟩
  rw [List.append_nil] at q
  have hl : (us ++ []).length = ps.length := by rw [List.append_nil, ← r.length]; exact F.len _ _ _ _ q
  have hb1 := hb s1 us I1.kIn hl
  rw [List.append_nil] at hb1
  refine wpAny_call (codeAny_mono (F.run X.A X.stack s1 H1 ⟨us, []⟩ us vs Q E hG hr I1.env0 hb1 r q) ?_)
  intro res s' hq
  match res, hq with
  | .error er, hq => exact hx pins σ H1 s1 er s' I1 hq
  | .ok (.ret u), hq => exact I1.after hq
end

/-- the rule of a def for such callers -/
theorem Fun.okC {P : Program} {w : World} {K : PySem.W.Frag} {mg : Str → Option Value} {base : Heap} {x qual : Str} {params : Arguments}
    {body : List Stmt} {scope : Scope} {dvs : List V} {kws : List (Str × V)} {f : Addr} {fd : FuncData} {CX : CXT} {N ps : List Str} {k : Nat} {sp : Sp}
    (F : FunD K x qual params body scope dvs kws f fd) (S : FnScope N ps scope) (len : ∀ vs H Q E, sp vs H Q E → vs.length = ps.length)
    (hbody : ∀ (cdv : Value) (A : Around) (outer : List Env) (s : Shared) (H : Hp) (vs : List V) (Q : VK) (E : XK), A.guards = some [] →
      Room k (A.deeper (envOfC qual scope s.heap.objs.size f cdv)) → sp vs H Q E →
      ∃ t, PSs (cxOf CX P w K mg base N qual scope f cdv A outer s H E) body t ∧ t { nx := fun _ H' => Q .non H', rt := Q } (start N vs) H) :
    FnC P w K mg base CX (k + 1) f fd ps sp := by
  obtain ⟨oc, od, dV, kV, doc, pm, an, cdv, ct, osl, rfl, lk, hcd, _, _⟩ := F.ex
  refine ⟨len, ?_⟩
  intro A outer s H args us vs Q E hG hr e0 hb r hsp
  have keepB : ∀ b o, base.get? b = some o → s.heap.get? b = some o := fun b o q => (e0.bs b o q).1
  have KX : K.In s.heap := e0.mod.kin.keeps keepB
  have hkind : ∀ y ∈ ps.zip us, scope.names.lookup y.1 = some .local ∨
      (scope.names.lookup y.1 = some .cell ∧ ((cellsFrom (s.heap.objs.size + 1) scope.names []).lookup y.1).isSome = true) := by
    rintro ⟨n, v⟩ hy
    exact (S.par n (List.of_mem_zip hy).1).imp id fun q => ⟨q, PySem.W.cellsFrom_some _ _ _ (.inl q)⟩
  apply codeAny_call_function hr.depth (KX _ _ lk) rfl S.co S.gen rfl (PySem.W.codeRec_of KX hcd)
  apply hb
  apply wpAny_newFunctionEnv_cells S.kind hkind
  intro env he s1 x
  subst he
  refine ⟨(e0.mod.nolimit.keeps keepB).keeps x.toInCall.keep, codeAny_func ?_⟩
  obtain ⟨t, ht, hq⟩ := hbody cdv A outer s H vs Q E hG (hr.deeper _) hsp
  have I : Inv (cxOf CX P w K mg base N qual scope f cdv A outer s H E) [] (start N vs) H s1 := inv_start S hr.hd e0 (len _ _ _ _ hsp) r x
  refine wpAny_mono (ht.run [] s1 (start N vs) H _ I hq) ?_ (fun er s' hs => hs)
  intro fl s' hs
  match fl, hs with
  | .ret u, ⟨v, σ', H', J, rv, q⟩ => exact ⟨v, H', J.os, J.bare, J.base, J.hok, rv, q⟩
  | .next, ⟨σ', H', J, q⟩ => exact ⟨V.non, H', J.os, J.bare, J.base, J.hok, rfl, q⟩
  | .brk, ⟨_, _, _, q⟩ => exact False.elim q
  | .cont, ⟨_, _, _, q⟩ => exact False.elim q

/-! ### ints -/
def CPowB (i j : Int) : Prop := 0 ≤ j ∧ (Builtin.Int.intBits i : Int) * j ≤ 2 ^ 27
theorem op_powB {X : Cx} : OpR X (binaryOp .Pow) (rI CPowB fun i j => .int (i ^ j.toNat)) :=
  opI fun _ _ _ _ _ _ _ hc q => pow_int hc.1 hc.2 q

/-! ### repr -/
/-- repr(x), x data of any depth -/
def rRep (K : PySem.W.Frag) : List V → Hp → VK → Prop := fun xs H Q => ∃ x d, xs = [x] ∧ Dp K H x d ∧ d.showable = true ∧ d.hasDict = false ∧
  d.depth ≤ 60 ∧ d.shown.length ≤ sizeLine ∧ Q (.str d.shown) H
theorem call_repD {X : Cx} (hG : X.A.guards = some []) (hu : X.A.units + 64 < cLine) : CallR X (.builtin "repr") (rRep X.K) := by
  intro pins s σ H xs us Q I r h
  obtain ⟨x, d, rfl, hd, hs, hh, hdp, hz, q⟩ := h
  obtain ⟨u, rfl, ru⟩ := vals1 r
  have leaf : ∀ z tk, d.shown = z → EP X pins σ Q (.str z s.toks) { s with toks := tk } := fun z tk e => ⟨.str z, H, I.tok tk, ⟨_, rfl⟩, e ▸ q⟩
  cases hd with
  | non => cases ru; exact PySem.P.repr_of_none (leaf _ _ (by simp only [PyData.shown]))
  | bl b => cases ru; exact PySem.P.repr_of_bool (leaf _ _ (by simp only [PyData.shown]))
  | int i =>
    obtain ⟨t, rfl⟩ := ru
    exact PySem.P.repr_of_int (by simpa [PyData.showable] using hs) (leaf _ _ (by simp only [PyData.shown]))
  | str z =>
    obtain ⟨t, rfl⟩ := ru
    simp only [PyData.shown] at hz
    exact PySem.P.repr_of_str (leaf _ _ (by simp only [PyData.shown])) hz
  | @lst a ys ds h1 h2 =>
    cases ru
    obtain ⟨as, rr⟩ := Dp.reads I (.list ds) (.ref a) (.ref a) (.lst h1 h2) rfl
    exact repr_of_reads' rr hs (PyData.noDict_hsm hh) hG (by omega) (fun _ _ e => e) (fun h' u tk k => ⟨.str _, H, I.kept (t' := tk) k, ⟨_, rfl⟩, q⟩) hz
  | @tup a ys ds h1 h2 =>
    cases ru
    obtain ⟨as, rr⟩ := Dp.reads I (.tuple ds) (.ref a) (.ref a) (.tup h1 h2) rfl
    exact repr_of_reads' rr hs (PyData.noDict_hsm hh) hG (by omega) (fun _ _ e => e) (fun h' u tk k => ⟨.str _, H, I.kept (t' := tk) k, ⟨_, rfl⟩, q⟩) hz
/-! ### the law's call -/
section
variable {P : Program} {w : World} {K : PySem.W.Frag} {mg mb : Str → Option Value} {CX : CXT} {k : Nat} {fa a : Addr} {fd : FuncData}
  {x : Str} {sp : Sp} {s₁ : Shared} {vs : List Value} {ns : List Int}
/-- the end, from an abstract heap that tracks nothing but perhaps the script -/
theorem law_coreC (KX : K.In s₁.heap) (hns : s₁.heap.Ns mainGlobals mg) (hb : s₁.heap.Ns builtinsNs mb)
    (hbb : ∀ x : Str, x ≠ "__name__" → mb x = bootBuiltins x) (hlim : s₁.heap.NoLimit) (hg : s₁.gens = #[])
    (ha : s₁.heap.get? a = some { cls := .type "list", data := .seq vs.toArray }) (hr : Room k callerA)
    (F : ∀ base : Heap, K.In base → base.Ns mainGlobals mg → FnC P w K mg base CX k fa fd [x] sp)
    (hbind : ∀ (s : Shared) (u : Value), BindsTo s fd ⟨[u], []⟩ [(x, u)])
    (hCX : ∀ H e s', CX [] H s₁ (fun _ _ _ => False) e s' → False) (H : Hp) (hO : Only H)
    (hsp : sp [.ref a] H (fun v _ => v = .bl true) fun _ _ _ => False) (ok : HOk P w H s₁.heap) (hA : ∀ b u, H b = some u → b = a)
    (hK : ∀ u, H a = some u → K.lookup a = none) :
    codeAny (model P w) callerA (.call (.ref fa) ⟨[.ref a], []⟩)
      (fun r s' => r = .ok (.ret (.bool true)) ∧ OldK s₁.heap s'.heap ∧ s'.os = s₁.os ∧ AllBare s'.gens) s₁ := by
  have off : ∀ {b : Addr} {o : Obj}, s₁.heap.get? b = some o → (∀ es ep, o.data = .dict es ep → H b = none) := by
    intro b o e es ep d
    cases q : H b with
    | none => rfl
    | some u =>
      have z := hA b u q
      rw [z, ha] at e
      have z2 := Option.some.inj e
      rw [← z2] at d
      exact absurd d (by simp)
  have nsB : ∀ {b : Addr} {m : Str → Option Value}, s₁.heap.Ns b m → (hidT s₁.heap H).Ns b m := by
    rintro b m ⟨o, es, ep, e, d, r⟩
    exact ⟨o, es, ep, hidT_get e (off e es ep d), d, r⟩
  have inB : K.In (hidT s₁.heap H) := by
    intro b o e
    refine hidT_get (KX b o e) ?_
    cases q : H b with
    | none => rfl
    | some u =>
      have z := hA b u q
      subst z
      rw [hK u q] at e
      cases e
  obtain ⟨mc, hm1, hm2⟩ := hlim
  have M : Mod K mg (hidT s₁.heap H) := ⟨inB, nsB hns, ⟨mb, nsB hb, hbb⟩, ⟨mc, nsB hm1, hm2⟩⟩
  have E : Env0 P w K mg (hidT s₁.heap H) callerA [] s₁ H :=
    { frames := rfl, mod := M, bs := fun b o e => of_hidT e, bsz := Nat.le_of_eq (hidT_size _ _), funs := trivial,
      frf := fun b z => absurd (show b ∈ ([] : List Addr) from z) (by simp), hok := ok, bare := .of_eq hg }
  have R := (F _ inB (nsB hns)).run callerA [] s₁ H ⟨[.ref a], []⟩ [.ref a] [.ref a] _ _ rfl hr E (hbind s₁ (.ref a)) (.cons rfl .nil) hsp
  refine codeAny_mono R ?_
  intro r s' h
  match r, h with
  | .error e, h => exact (hCX H e s' h).elim
  | .ok (.ret u), ⟨v, H', os, bare, un, hok', rv, q⟩ =>
    have q1 : v = .bl true := q
    rw [q1] at rv
    have e1 : u = Value.bool true := rv
    refine ⟨by rw [e1], OldK.of_keep ?_, os, bare⟩
    intro b o e
    rcases hO b with z | ⟨ob, xs, z⟩
    · exact un.keep b o e z (fun z => absurd (show b ∈ ([] : List Addr) from z) (by simp)) (by simp)
    · have e2 := (ok b _ z).1
      have e3 := (hok' b _ (un.frzs b ob _ z)).1
      rw [e] at e2
      rw [Option.some.inj e2]
      exact e3

theorem law_callC (KX : K.In s₁.heap) (hns : s₁.heap.Ns mainGlobals mg) (hb : s₁.heap.Ns builtinsNs mb)
    (hbb : ∀ x : Str, x ≠ "__name__" → mb x = bootBuiltins x) (hlim : s₁.heap.NoLimit) (hg : s₁.gens = #[])
    (ha : s₁.heap.get? a = some { cls := .type "list", data := .seq vs.toArray }) (hi : IntsAre vs ns) (hl : ns.length ≤ sizeLine) (hr : Room k callerA)
    (F : ∀ base : Heap, K.In base → base.Ns mainGlobals mg → FnC P w K mg base CX k fa fd [x] sp)
    (hbind : ∀ (s : Shared) (u : Value), BindsTo s fd ⟨[u], []⟩ [(x, u)])
    (hsp : ∀ H : Hp, Only H → SqL K H a (ns.map V.int) → sp [.ref a] H (fun v _ => v = .bl true) fun _ _ _ => False)
    (hCX : ∀ H e s', CX [] H s₁ (fun _ _ _ => False) e s' → False) :
    codeAny (model P w) callerA (.call (.ref fa) ⟨[.ref a], []⟩)
      (fun r s' => r = .ok (.ret (.bool true)) ∧ OldK s₁.heap s'.heap ∧ s'.os = s₁.os ∧ AllBare s'.gens) s₁ := by
  have rv := vals_ints hi
  have core := law_coreC KX hns hb hbb hlim hg ha hr F hbind hCX
  by_cases hk : (K.lookup a).isSome = true
  · obtain ⟨o, ho⟩ := Option.isSome_iff_exists.mp hk
    have e := (KX a o ho).symm.trans ha
    have e2 := Option.some.inj e
    subst e2
    have hS : SqL K (fun _ => none) a (ns.map V.int) := .inr ⟨_, vs.toArray, _, ho, rfl, rfl, rfl, by rw [List.size_toArray, hi.length]; exact hl, rv⟩
    exact core _ (fun _ => .inl rfl) (hsp _ (fun _ => .inl rfl) hS) (fun b u z => by cases z) (fun b u z => by cases z) fun u z => by cases z
  · have hn : K.lookup a = none := by
      cases q : K.lookup a with
      | none => rfl
      | some o => rw [q] at hk; exact absurd rfl hk
    let O : HO := .frz { cls := .type "list", data := .seq vs.toArray } (.lst (ns.map V.int))
    have at_ : ∀ b u, upd (fun _ => none) a O b = some u → b = a ∧ u = O := by
      intro b u z
      by_cases hba : b = a
      · rw [hba, upd_same] at z
        exact ⟨hba, (Option.some.inj z).symm⟩
      · rw [upd_ne hba] at z
        cases z
    have hO : Only (upd (fun _ => none) a O) := by
      intro b
      by_cases hba : b = a
      · exact .inr ⟨_, _, by rw [hba, upd_same]⟩
      · exact .inl (by rw [upd_ne hba])
    refine core _ hO (hsp _ hO (.inl (.inr ⟨_, upd_same⟩))) ?_ (fun b u z => (at_ b u z).1) fun _ _ => hn
    intro b u z
    obtain ⟨rfl, rfl⟩ := at_ b u z
    exact ⟨ha, by rw [List.length_map]; exact hl, vs, _, rv, ha⟩

/-- the law's walk, its def's promise given to callers above which no repr is under way -/
theorem walk_ofC {l : PySem.W.OpenLaw} {n k : Nat} {q : Program} {loose : List Str} {XP : (Str → Option Value) → Heap → Prop} {YP : World → Heap → Prop} {d : DefRec} {CX : CXT} {x : Str}
    (hn : l.most = some n) (hn2 : n ≤ sizeLine) (hdf : d.params.defaults = []) (hr : Room k callerA)
    (F : ∀ (w : World) (mg : Str → Option Value) (fa : Addr) (h : Heap), YP w h → h.Ns mainGlobals mg → mg d.name = some (.ref fa) →
      ∃ (K : PySem.W.Frag) (fd : FuncData) (sp : Sp), K.In h ∧ (∀ (s : Shared) (u : Value), BindsTo s fd ⟨[u], []⟩ [(x, u)]) ∧
        (∀ (H : Hp) (a : Addr) (ns : List Int), ns.length ≤ n → Only H → SqL K H a (ns.map V.int) → sp [.ref a] H (fun v _ => v = .bl true) fun _ _ _ => False) ∧
        ∀ base : Heap, K.In base → base.Ns mainGlobals mg → FnC l.prog w K mg base CX k fa fd [x] sp)
    (hCX : ∀ (H : Hp) (s : Shared) (e : Value) (s' : Shared), CX [] H s (fun _ _ _ => False) e s' → False) :
    PySem.W.WalkO q loose XP YP l.row.toRowW d [] (fun f vs => PySem.call f vs) := by
  apply Att.attach_call hn hdf
  intro w s₀ s₁ mg mb fa o pm cd doc a vs ns G Y ho hd hcd hmg hobj hints hlen hg
  obtain ⟨K, fd, sp, KX, hb, hsp, hF⟩ := F w mg fa _ Y G.T.g hmg
  exact law_callC KX G.T.g G.T.b G.T.builtins G.T.nolimit hg hobj hints (Nat.le_trans hlen hn2) hr hF hb (fun H hO hS => hsp H a ns hlen hO hS)
    fun H e s' => hCX H s₁ e s'
end
end KV
set_option Elab.async false
set_option linter.all false
set_option maxRecDepth 100000
set_option maxHeartbeats 4000000
/-! Own errors over ValueError as values: made by position and by keyword, a field read, isinstance. -/
namespace PySem
namespace KVX
open PySem.W PySem.Calls PyProof.Rows PySem.HandSPX
section
variable {prog : Program} {w : World} {A : Around} {E : Value → Shared → Prop} {R : Result → Shared → Prop} {h : Heap} {g : Array GenState} {d : Drawn} {t : Nat} {os : OsState}
variable {nm q : Str} {C N : Addr} {bs bm bmB : List Value} {hdct : Bool} {sn : List Str} {sub : List Value} {ab : Bool} {col : Option Bool} {dd : Option Addr} {k0 k1 k2 k3 k5 : Option Value} {B newId initId : String}
  {kw : List (Str × Value)}

theorem checkK {M : Model} (F : ExcBaseFacts B newId initId bmB) (hT : ∀ X : String, bm.contains (.type X) = bmB.contains (.type X))
    {Q : Unit → Shared → Prop} (hC : h.get? C = some (excClassObj nm q C N bs bm hdct sn sub ab col dd k0 k1 k2 k3 k5 newId))
    (hq : Q () ⟨h, g, d, t, os⟩) : wpAny M A (checkBuiltinCall newId ⟨[.ref C], kw⟩) Q E ⟨h, g, d, t, os⟩ := by
  have inB : (Value.ref C :: bm).contains (.type B) = true := by
    rw [List.contains_cons, hT, F.hasB, Bool.or_true]
  have star := F.noStar
  simp only [checkBuiltinCall, F.newSplit, F.newKind, F.newRow]
  repeat (first
    | refine wpAny_loadPart_at hC ?_
    | (refine wpAny_isSubtype_exc hC ?_; rw [inB])
    | refine wpAny_staticBase_exc hC ?_
    | refine wpAny_madeBy_exc hC ?_
    | simp only [bne_self_eq_false, Bool.false_eq_true, if_false]
    | wp_step)
  exact hq

theorem newK (F : ExcBaseFacts B newId initId bmB) (hT : ∀ X : String, bm.contains (.type X) = bmB.contains (.type X))
    (hC : h.get? C = some (excClassObj nm q C N bs bm hdct sn sub ab col dd k0 k1 k2 k3 k5 newId))
    (hq : R (.ok (.ret (.ref (h.objs.size + 1)))) ⟨(h.push (kdv_tup [])).push (excO C h.objs.size), g, d, t, os⟩) :
    codeAny (model prog w) A (.builtin newId ⟨[.ref C], kw⟩) R ⟨h, g, d, t, os⟩ := by
  have ends := F.ends
  have inB : (Value.ref C :: bm).contains (.type B) = true := by
    rw [List.contains_cons, hT, F.hasB, Bool.or_true]
  have noA : (Value.ref C :: bm).contains (.type "AttributeError") = false := by
    rw [List.contains_cons, hT, F.noAttr]; rfl
  have noN : (Value.ref C :: bm).contains (.type "NameError") = false := by
    rw [List.contains_cons, hT, F.noName]; rfl
  have hz : ([] : List Value).length ≤ sizeLine := Nat.zero_le _
  apply codeAny_builtinAt F.entry
  unfold Builtin.«BaseException.__new__»
  apply wpAt_bind
  show wpAt _ _ _ (stack >>= _) _ _ _
  apply wpAt_bind
  refine wpAt_stack fun p below => wpAt_of_wpAny ?_
  wp_walk
  apply wpAt_of_wpAny
  rw [F.owner]
  repeat (first
    | with_reducible refine wpAny_madeHere_exc F.canon hC ?_
    | with_reducible refine wpAny_loadPart_at hC ?_
    | (with_reducible refine wpAny_isSubtype_exc hC ?_; first | rw [inB] | rw [noA] | rw [noN])
    | wp_step)
  show R _ _
  rw [Heap.size_push]
  exact hq

theorem typeCallK (F : ExcBaseFacts B newId initId bmB) (hT : ∀ X : String, bm.contains (.type X) = bmB.contains (.type X)) {fI : Addr} {Q : Fin → Shared → Prop}
    (hC : h.get? C = some (excClassObj nm q C N bs bm hdct sn sub ab col dd k0 k1 k2 k3 k5 newId))
    (hi : W.Looks (model prog w) h (typeLookup (.ref C) "__init__") (some (.ref fI)))
    (hb : ∀ self, W.Looks (model prog w) h (bindSpecial (.ref fI) self) (.ref fI, [self]))
    (hq : codeAny (model prog w) A (.call (.ref fI) ⟨[.ref (h.objs.size + 1)], kw⟩)
      (fun r s' => match r with | .ok (.ret v) => v = .none ∧ Q (.done (.ret (.ref (h.objs.size + 1)))) s' | .ok _ => False | .error e => E e s')
      ⟨(h.push (kdv_tup [])).push (excO C h.objs.size), g, d, t, os⟩) :
    wpAny (model prog w) A (Builtin.«type.__call__» ⟨[.ref C], kw⟩) Q E ⟨h, g, d, t, os⟩ := by
  repeat (first
    | with_reducible refine wpAny_loadPart_at hC ?_
    | with_reducible refine wpAny_madeBy_exc hC ?_
    | wp_step)
  apply codeAny_call_builtin_code (Code.quiet_builtin _ F.quiet) (checkK F hT hC ?_)
  apply newK F hT hC
  show wpAny _ _ _ _ _ _
  have keep : ∀ b o, h.get? b = some o → ((h.push (kdv_tup [])).push (excO C h.objs.size)).get? b = some o := fun b o e =>
    Heap.get?_push_of_some _ (Heap.get?_push_of_some _ e)
  have hget : ((h.push (kdv_tup [])).push (excO C h.objs.size)).get? (h.objs.size + 1) = some (excO C h.objs.size) := by heap_get
  have inC : (Value.ref C :: bm).contains (.ref C) = true := by simp
  have i1 := hi.keeps keep
  have b1 := (hb (.ref (h.objs.size + 1))).keeps keep
  unfold isInstance
  repeat (first
    | with_reducible refine wpAny_loadPart_at hget ?_
    | (with_reducible refine wpAny_isSubtype_exc (keep _ _ hC) ?_; rw [inC])
    | wp_step)
  show wpAny _ _ (typeLookup (.ref C) _) _ _ _
  apply i1.at
  apply wpAny_holding
  apply wpAny_bind
  apply b1.at
  apply wpAny_bind
  refine wpAny_call (codeAny_mono hq fun r s' z => ?_)
  rcases r with e | (v | _ | _ | _) <;> first | exact z | exact z.elim | skip
  obtain ⟨rfl, z⟩ := z
  first
    | exact wpAny_pure (wpAny_pure z)
    | (wp_walk; exact z)

theorem callK (F : ExcBaseFacts B newId initId bmB) (hT : ∀ X : String, bm.contains (.type X) = bmB.contains (.type X)) {fI : Addr}
    (hC : h.get? C = some (excClassObj nm q C N bs bm hdct sn sub ab col dd k0 k1 k2 k3 k5 newId))
    (hi : W.Looks (model prog w) h (typeLookup (.ref C) "__init__") (some (.ref fI)))
    (hb : ∀ self, W.Looks (model prog w) h (bindSpecial (.ref fI) self) (.ref fI, [self]))
    (hq : codeAny (model prog w) (A.under (.builtin "type.__call__" ⟨[.ref C], kw⟩)) (.call (.ref fI) ⟨[.ref (h.objs.size + 1)], kw⟩) (W.InitBack (h.objs.size + 1) R)
      ⟨(h.push (kdv_tup [])).push (excO C h.objs.size), g, d, t, os⟩) :
    codeAny (model prog w) A (.call (.ref C) ⟨[], kw⟩) R ⟨h, g, d, t, os⟩ := by
  have look := tc_lookup
  have bind := tc_bind (.ref C)
  have hTy : (⟨h, g, d, t, os⟩ : Shared).TypeIs (.ref C) "type" := ⟨_, hC, rfl⟩
  apply codeAny_of_tree
  show wpAny _ _ (callAny (.ref C) _) _ _ _
  repeat (any_goals (first
    | assumption
    | with_reducible refine wpAny_loadPart_at hC ?_
    | wp_step))
  refine ⟨rfl, ?_⟩
  apply codeAny_call_builtin_at (Code.quiet_builtin _ (by decide +kernel)) entry_typeCall
  refine wpAny_check_type_call_sub hC (typeCallK F hT hC hi hb ?_)
  refine codeAny_mono hq fun r s' z => ?_
  rcases r with e | (v | _ | _ | _) <;> exact z
end
end KVX
end PySem
set_option Elab.async false
set_option linter.all false
set_option maxRecDepth 100000
set_option maxHeartbeats 4000000
namespace PySem.W
open PySem PySem.Spec PySem.Calls PyProof.Rows
section
variable {prog : Program} {w : World} {A : Around} {E : Value → Shared → Prop} {s : Shared} {K : Frag} {x D : Addr} {ox : Obj} {od : Option Obj}
/-- what the class of an error says of its objects' __class__ -/
structure ErrC (K : Frag) (D : Addr) : Prop where
  hga : findIn K (.ref D) "__getattribute__" = some (some (.builtin "BaseException.__getattribute__"))
  hgt : findIn K (.ref D) "__getattr__" = some none
  hsub : subIn K (.ref D) (.type "BaseException") = some true
  hdct : hasDictIn K D = true
  ha : findIn K (.ref D) "__class__" = some (some (.builtin "object.__class__"))
  hn : specialIn K (.builtin "object.__class__") "__get__" = some (some (.builtin "getset_descriptor.__get__"))
  htk : takesIn K (.builtin "object.__class__") = some true
  hm : mroIn K D (.type "object") = some true

theorem err_find (c : ErrC K D) : findObj K D od "__class__" = some (.bind (.builtin "getset_descriptor.__get__") (.builtin "object.__class__")) := by
  obtain ⟨cd, hc, _⟩ := any_some c.hdct
  unfold findObj
  rw [hc, Option.bind_some, c.ha, Option.bind_some]
  simp [c.hn, c.htk]

theorem err_class {Q : Option Value → Shared → Prop} (c : ErrC K D) (X : K.In s.heap) (I : InstAt s.heap x ox D od)
    (h : Q (some (.ref D)) { s with toks := s.toks + 1 }) : wpAny (model prog w) A (getAttr? (.ref x) "__class__") Q E s := by
  obtain ⟨hp, g, d, t, os⟩ := s
  have T := I.type (M := model prog w)
  have G := looks_findIn (M := model prog w) X c.hga
  have N := looks_findIn (M := model prog w) X c.hgt
  have Fd := looks_find (M := model prog w) X I (err_find c)
  have sub : Looks (model prog w) hp (isInstance (.ref x) (.type "BaseException")) true := T.andThen (looks_subIn X c.hsub)
  have n0 : (false && onTheHeap (Value.builtin "BaseException.__getattribute__")) = false := rfl
  have n2 : (Value.builtin "BaseException.__getattribute__" == Value.builtin "object.__getattribute__") = false := by decide +kernel
  have n1 : (onTheHeap (Value.ref D) && Value.builtin "BaseException.__getattribute__" == Value.builtin "object.__getattribute__") = false := by
    rw [n2]; rfl
  unfold getAttr? getAttrBy? getAttrBy
  apply wpAny_bind
  apply wpAny_mkText
  apply wpAny_bind
  apply wpAny_attempt
  apply wpAny_holding
  refine wpAny_bind (T.at (wpAny_bind (G.at ?_)))
  show wpAny _ _ (if (onTheHeap (Value.ref D) && Value.builtin "BaseException.__getattribute__" == Value.builtin "object.__getattribute__") = true then _ else _) _ _ _
  rw [n1, if_neg Bool.false_ne_true]
  unfold getAttrByItsOwn hookBefore
  apply wpAny_bind
  rw [if_pos (show onTheHeap (Value.ref D) = true from rfl)]
  apply N.at
  refine wpAny_bind (wpAny_attempt (wpAny_holding ?_))
  unfold callGetattribute
  rw [n0, if_neg Bool.false_ne_true]
  unfold boundAndCalled
  rw [PySem.F.excAttr_ValueError.ga.bind (.ref x)]
  apply wpAny_bind
  apply wpAny_pure
  show wpAny _ _ (call (.builtin "BaseException.__getattribute__") [.ref x, .str "__class__" t]) _ _ _
  apply wpAny_call
  apply codeAny_call_builtin PySem.F.excAttr_ValueError.ga.plain PySem.F.entry_bexc_ga
  refine @check_slot (model prog w) _ _ ⟨hp, g, d, t + 1, os⟩ "BaseException.__getattribute__" "BaseException" "__getattribute__" (.ref x) [.str "__class__" t] [] _
    (by decide +kernel) (by decide +kernel) sub (PySem.F.args_bexc_ga (.ref x) (.str "__class__" t)) ?_
  unfold Builtin.«object.__getattribute__»
  apply wpAny_bind
  refine wpAny_of_eq (a := ((Value.ref x : Value), [Value.str "__class__" t])) (by first | rfl | (simp only [slotArgs]; rfl)) ?_
  apply wpAny_bind
  apply wpAny_pure
  refine wpAny_bind (T.at (wpAny_bind (Fd.at ?_)))
  show wpAny _ _ (holding [Value.builtin "object.__class__"] (call (.builtin "getset_descriptor.__get__") [.builtin "object.__class__", .ref x, .ref D]) >>= ret) _ _ _
  apply wpAny_bind
  apply wpAny_holding
  apply wpAny_call
  refine class_get (s := ⟨hp, g, d, t + 1, os⟩) (ox := ox) (od := od) X I c.hm ?_
  apply wpAny_pure
  show wpAny _ _ (handedOut (.ref D)) _ _ _
  rw [handedOut_of (v := .ref D) rfl]
  first
    | exact wpAny_pure (wpAny_pure h)
    | exact wpAny_pure h
    | exact wpAny_pure (wpAny_bind (wpAny_pure (wpAny_pure h)))

theorem err_obj (c : ErrC K D) : ∃ c' d' cd' sl', K.lookup D = some ⟨c', d', .cls cd', sl'⟩ := by
  obtain ⟨cdD, hcD, _⟩ := any_some c.hdct
  unfold clsIn at hcD
  split at hcD
  · rename_i c' d' cd' sl' ho
    exact ⟨_, _, _, _, ho⟩
  · cases hcD

theorem err_kit (c : ErrC K D) : KitX K (.ref x) (.ref D) (fun h => InstAt h x ox D od) where
  ty := fun _ _ _ I => I.type
  it := fun _ _ X _ => by
    obtain ⟨c', d', cd', sl', ho⟩ := err_obj c
    intro A' Q' E' s' k q
    unfold isType loadHead
    exact wpAny_bind (wpAny_loadPart (k _ _ (X _ _ ho)) (wpAny_pure q))
  ne := fun h tp dd its n sl X htp => by
    obtain ⟨c', d', cd', sl', ho⟩ := err_obj c
    refine Bool.eq_false_iff.mpr fun q => ?_
    have e : D = tp := Value.ref.inj (beq_iff_eq.mp q)
    subst e
    have z := (X _ _ ho).symm.trans htp
    cases z
  ca := fun X I k => err_class c X I k
end
end PySem.W

namespace KV
open PySem PySem.Spec PyProof.Rows L2
/-- a new error at a, its dict at dx -/
def exH (H : Hp) (a dx C : Addr) (f : Str) (v : V) : Hp := upd (upd H dx (exd dx [(f, v)])) a (exo a C (some dx))
theorem exH_upd {H : Hp} {a dx C : Addr} {f : Str} {v : V} (hne : dx ≠ a) : exH (upd H a (exo a C none)) a dx C f v = exH H a dx C f v := by
  funext b
  unfold exH
  by_cases h1 : b = a
  · rw [h1, upd_same, upd_same]
  · rw [upd_ne h1, upd_ne h1]
    by_cases h2 : b = dx
    · rw [h2, upd_same, upd_same]
    · rw [upd_ne h2, upd_ne h2, upd_ne h1]
/-- what __init__(self, f) with self.f = f promises -/
def spInit (K : PySem.W.Frag) (f : Str) : Sp := fun vs H Q _ => ∃ (a C : Addr) (v : V), vs = [.ref a, v] ∧ OexC K C ∧
  PySem.W.findIn K (.ref C) f = some none ∧ H a = some (exo a C none) ∧ ∀ dx, H dx = none → dx ≠ a → Q .non (exH H a dx C f v)
/-- C(e), C(f = e): a new error that holds the value -/
def tNewEx (C : Addr) (f : Str) (te : TE) : TE := fun σ H Q => te σ H fun v H1 => ∀ a dx, H1 a = none → H1 dx = none → dx ≠ a → Q (.ref a) (exH H1 a dx C f v)

section
variable {X : Cx} {k : Nat} {fI C : Addr} {fd : FuncData} {f x : Str} {p pos kp : Pos} {e : Expr} {te : TE}
/-- the head of such a call: the object is laid, __init__ runs -/
theorem run_init {pins : List (Addr × Obj)} {σ : L2.St} {H : Hp} {hp : Heap} {g : Array GenState} {dr : Drawn} {tk : Nat} {os : OsState} {Q : VK} {v : V} {u : Value} {args : Args} {rest : List Value} {A : Around}
    (T : OexC X.K C) (hf : PySem.W.findIn X.K (.ref C) f = some none) (F1 : FnOk X.prog X.w X.K X.mg X.base CX0 k fI fd ["self", f] (spInit X.K f))
    (hr : Room k A) (he : ∀ {s : Shared} {H : Hp}, Env0 X.prog X.w X.K X.mg X.base X.A X.stack s H → Env0 X.prog X.w X.K X.mg X.base A X.stack s H)
    (hb : ∀ s : Shared, X.K.In s.heap → BindsTo s fd args [("self", .ref (hp.objs.size + 1)), (f, u)])
    (I : Inv X pins σ H ⟨hp, g, dr, tk, os⟩) (r : RelV v u) (q : ∀ a dx, H a = none → H dx = none → dx ≠ a → Q (.ref a) (exH H a dx C f v)) :
    codeAny (model X.prog X.w) A (.call (.ref fI) args) (PySem.W.InitBack (hp.objs.size + 1) (callEnd (EP X pins σ Q) X.xe))
      ⟨(hp.push (PySem.W.kdv_tup rest)).push (PySem.HandSPX.excO C hp.objs.size), g, dr, tk, os⟩ := by
  have hsz : hp.objs.size ≤ hp.objs.size + 1 := Nat.le_succ _
  have hn : H (hp.objs.size + 1) = none := I.hok.fresh hsz
  have keep : ∀ b o, hp.get? b = some o → ((hp.push (PySem.W.kdv_tup rest)).push (PySem.HandSPX.excO C hp.objs.size)).get? b = some o :=
    fun b o e => Heap.get?_push_of_some _ (Heap.get?_push_of_some _ e)
  have hget : ((hp.push (PySem.W.kdv_tup rest)).push (PySem.HandSPX.excO C hp.objs.size)).get? (hp.objs.size + 1) = some (PySem.HandSPX.excO C hp.objs.size) := by heap_get
  have J := I.laid (t' := tk) (a := hp.objs.size + 1) (o := exo (hp.objs.size + 1) C none) keep hsz (exo_ok hget)
  have hs : spInit X.K f [.ref (hp.objs.size + 1), v] (upd H (hp.objs.size + 1) (exo (hp.objs.size + 1) C none))
      (fun v' H3 => v' = .non ∧ Q (.ref (hp.objs.size + 1)) H3) (fun _ _ _ => False) := by
    refine ⟨_, C, v, rfl, T, hf, upd_same, fun dx hd hne => ⟨rfl, ?_⟩⟩
    rw [upd_ne hne] at hd
    rw [exH_upd hne]
    exact q _ dx hn hd hne
  refine codeAny_mono (F1.run A X.stack _ _ args [.ref (hp.objs.size + 1), u] [.ref (hp.objs.size + 1), v] _ _ hr (he J.env0) (hb _ J.kIn) (.cons rfl (.cons r .nil)) hs) ?_
  intro res s' hq
  match res, hq with
  | .ok (.ret z), hq =>
    obtain ⟨v', H3, I3, rv, ev, q3⟩ := J.after hq
    subst ev
    exact ⟨rv, .ref (hp.objs.size + 1), H3, I3, rfl, q3⟩

/-- C(e) -/
theorem pe_exP (T : OexC X.K C) (hf : PySem.W.findIn X.K (.ref C) f = some none) (iC : PySem.W.findIn X.K (.ref C) "__init__" = some (some (.ref fI)))
    (tI : PySem.W.typeIn X.K (.ref fI) = some (.type "function")) (F1 : FnOk X.prog X.w X.K X.mg X.base CX0 k fI fd ["self", f] (spInit X.K f)) (hr : Room (k + 1) X.A)
    (hb : Binds X.K fd ["self", f] []) (hg : Gl X x) (hm : X.mg x = some (.ref C)) (ha : PE X e te)
    (hdb : (x == ("__debug__" : Str)) = false := by decide) (hst : starEach (e :: []) X.env = (false, eval e X.env) :: starEach [] X.env := by rfl)
    (hpl : (backTo pos (starEach [] X.env)).any (·.1) = false := by rfl) : PE X (.Call (.Name x p) [e] [] pos) (tNewEx C f te) := by
  constructor
  intro pins s σ H Q I h
  obtain ⟨nm, q, N, bs, bm, sn, sub, ab, col, dd, k0, k1, k2, k3, k5, hC, hbm⟩ := T.cls
  apply wpAny_Call_Name_kw
  refine ld_glob I hg hm ?_ hdb
  refine PySem.W.callWith_K (h₀ := X.base) I.ok.mod.kin T.kC (thn ((pa_cons ha pa_nil hst).run pos pins s σ H _ I (show tCons te tNil σ H (fun vs H1 => ∃ v, vs = [v] ∧ ∀ a dx, H1 a = none → H1 dx = none → dx ≠ a → Q (.ref a) (exH H1 a dx C f v)) from ?_)) ?_) hst hpl
  · refine Eq.mp ?_ h
    unfold tNewEx tCons tNil
    congr 1
    funext v H1
    apply propext
    constructor
    · intro z; exact ⟨v, rfl, z⟩
    · rintro ⟨v', e1, z⟩
      cases e1
      exact z
  · rintro us s1 ⟨vs, H1, I1, r1, v, rfl, q1⟩
    refine ⟨I1.kIn, ?_⟩
    obtain ⟨u, rfl, ru⟩ := vals1 r1
    show wpAny _ _ (call (.ref C) [u]) _ _ _
    obtain ⟨hp, g, dr, tk, os⟩ := s1
    refine wpAny_call (PySem.HandSPX.call_own F.excBase_ValueError (fun Y => PySem.HandSPX.refsVE_contains Y bm hbm) (I1.kIn _ _ hC) (PySem.W.looks_findIn I1.kIn iC)
      (fun self => PySem.W.bind_fn I1.kIn self tI) (by rw [sizeLine_eq]; exact (by decide : 1 ≤ 16777216)) ?_)
    exact run_init T hf F1 (hr.make C _ _) (fun z => z.make C _ _) (fun s k => hb s [.ref (hp.objs.size + 1), u] k rfl) I1 ru q1

/-- C(f = e) -/
theorem pe_exK (T : OexC X.K C) (hf : PySem.W.findIn X.K (.ref C) f = some none) (iC : PySem.W.findIn X.K (.ref C) "__init__" = some (some (.ref fI)))
    (tI : PySem.W.typeIn X.K (.ref fI) = some (.type "function")) (F1 : FnOk X.prog X.w X.K X.mg X.base CX0 k fI fd ["self", f] (spInit X.K f)) (hr : Room (k + 1) X.A)
    (hb : ∀ (s : Shared) (a u : Value), BindsTo s fd ⟨[a], [(f, u)]⟩ [("self", a), (f, u)]) (hg : Gl X x) (hm : X.mg x = some (.ref C)) (ha : PE X e te)
    (hall : (backToKw pos (keywordEach [⟨some f, e, kp⟩] X.env)).all (·.1.isSome) = true := by rfl)
    (hks : (backToKw pos (keywordEach [⟨some f, e, kp⟩] X.env)).filterMap (·.1) = [f] := by rfl) (hdb : (x == ("__debug__" : Str)) = false := by decide)
    (hpl : ((backTo pos (starEach [] X.env)).any (·.1) || (backToKw pos (keywordEach [⟨some f, e, kp⟩] X.env)).any (·.1.isNone)) = false := by rfl) :
    PE X (.Call (.Name x p) [] [⟨some f, e, kp⟩] pos) (tNewEx C f te) := by
  constructor
  intro pins s σ H Q I h
  obtain ⟨nm, q, N, bs, bm, sn, sub, ab, col, dd, k0, k1, k2, k3, k5, hC, hbm⟩ := T.cls
  apply wpAny_Call_Name_kw
  refine ld_glob I hg hm ?_ hdb
  refine PySem.W.callWith_KW0 (h₀ := X.base) I.ok.mod.kin T.kC hall ?_ hpl
  refine thn ((pk_cons ha pk_nil).run pos pins s σ H _ I (show tCons te tNil σ H (fun vs H1 => ∃ v, vs = [v] ∧ ∀ a dx, H1 a = none → H1 dx = none → dx ≠ a → Q (.ref a) (exH H1 a dx C f v)) from ?_)) ?_
  · refine Eq.mp ?_ h
    unfold tNewEx tCons tNil
    congr 1
    funext v H1
    apply propext
    constructor
    · intro z; exact ⟨v, rfl, z⟩
    · rintro ⟨v', e1, z⟩
      cases e1
      exact z
  · rintro us s1 ⟨vs, H1, I1, r1, v, rfl, q1⟩
    refine ⟨I1.kIn, ?_⟩
    obtain ⟨u, rfl, ru⟩ := vals1 r1
    rw [hks]
    show wpAny _ _ (call (.ref C) [] [(f, u)]) _ _ _
    obtain ⟨hp, g, dr, tk, os⟩ := s1
    refine wpAny_call (PySem.KVX.callK F.excBase_ValueError (fun Y => PySem.HandSPX.refsVE_contains Y bm hbm) (I1.kIn _ _ hC) (PySem.W.looks_findIn I1.kIn iC)
      (fun self => PySem.W.bind_fn I1.kIn self tI) ?_)
    exact run_init T hf F1 (hr.make C [] [(f, u)]) (fun z => z.make C [] [(f, u)]) (fun s _ => hb s _ u) I1 ru q1

/-- the field of such an error -/
def tGetEx (K : PySem.W.Frag) (f : Str) (te : TE) : TE := fun σ H Q => te σ H fun x H1 => ∃ (a C dx : Addr) (fs : List (Str × V)) (v : V), x = .ref a ∧ XfC K C ∧ PySem.W.findIn K (.ref C) f = some none ∧
  H1 a = some (exo a C (some dx)) ∧ H1 dx = some (exd dx fs) ∧ fs.lookup f = some v ∧ Q v H1
theorem pe_getEx (he : PE X e te) (hb : attributeBase e f X.env (eval e X.env) = eval e X.env := by rfl) : PE X (.Attribute e f pos) (tGetEx X.K f te) := by
  constructor
  intro pins s σ H Q I h
  refine attr_of hb (thn (he.run pins s σ H _ I h) ?_)
  rintro u s1 ⟨x, H1, I1, rx, a, C, dx, fs, v, rfl, T, hno, ea, ed, l, q⟩
  cases rx
  obtain ⟨t1, ho⟩ := exo_at I1.hok ea
  obtain ⟨mA, hns, hr⟩ := exd_at I1.hok ed
  obtain ⟨od, hod, hl⟩ := lookIn_ns hns
  obtain ⟨u, hu, ru⟩ := RelO.some_of (v := v) (o := mA f) (by rw [← l]; exact hr f)
  have J : PySem.W.InstAt s1.heap a { cls := .ref C, dict := some dx, data := .fields #[.ref t1, .none, .none, .none, .bool false, .none] } C (some od) := ⟨ho, rfl, rfl, hod⟩
  exact HandSPX.exc_get I1.kIn J T.ga T.gg T.exC (PySem.W.findObj_own T.hdC hno rfl (by rw [hl, hu])) (handed_of ru) ⟨v, H1, I1.tok _, ru, q⟩

/-- isinstance(x, C), x such an error -/
def rIsX (K : PySem.W.Frag) : List V → Hp → VK → Prop := fun xs H Q => ∃ (a D dx : Addr) (fs : List (Str × V)) (c : V) (u : Value) (b : Bool), xs = [.ref a, c] ∧ ClsV c u ∧ PySem.W.ErrC K D ∧
  H a = some (exo a D (some dx)) ∧ H dx = some (exd dx fs) ∧ PySem.W.kitOne K (.ref D) u = some b ∧ Q (.bl b) H
theorem call_isX : CallR X (.builtin "isinstance") (rIsX X.K) := by
  intro pins s σ H xs us Q I r h
  obtain ⟨a, D, dx, fs, c, u, b, rfl, k, cls, ea, ed, e, q⟩ := h
  obtain ⟨u1, u2, rfl, r1, r2⟩ := vals2 r
  have e2 := k.eq r2
  subst e2
  cases r1
  obtain ⟨t1, ho⟩ := exo_at I.hok ea
  obtain ⟨mA, hns, hr⟩ := exd_at I.hok ed
  obtain ⟨od, hod, hl⟩ := lookIn_ns hns
  have J : PySem.W.InstAt s.heap a { cls := .ref D, dict := some dx, data := .fields #[.ref t1, .none, .none, .none, .bool false, .none] } D (some od) := ⟨ho, rfl, rfl, hod⟩
  exact PySem.W.kia_one (PySem.W.err_kit cls) I.kIn J e (fun z => nomatch z) fun tk => ⟨.bl b, H, I.tok tk, rfl, q⟩
end
end KV
set_option Elab.async false
set_option linter.all false
set_option maxRecDepth 100000
set_option maxHeartbeats 1000000
/-! Data in the heap whose lists stand each in one place: what may be changed in place. -/
namespace KV
open PySem PySem.Spec PyProof.Rows L2
abbrev Fp := Addr → Prop
mutual
/-- v stands for d; F: the addresses of the lists in it, each in one place -/
inductive Ow (H : Hp) : V → PyData → Fp → Prop where
  | non {F : Fp} (e : ∀ a, ¬ F a) : Ow H .non .none F
  | bl {F : Fp} (b : Bool) (e : ∀ a, ¬ F a) : Ow H (.bl b) (.bool b) F
  | int {F : Fp} (i : Int) (e : ∀ a, ¬ F a) : Ow H (.int i) (.int i) F
  | str {F : Fp} (x : Str) (e : ∀ a, ¬ F a) : Ow H (.str x) (.str x) F
  | lst {F G : Fp} {a : Addr} {xs : List V} {ds : List PyData} (h : H a = some (.lst xs)) (r : OwAll H xs ds F) (n : ¬ F a) (e : ∀ b, G b ↔ b = a ∨ F b) : Ow H (.ref a) (.list ds) G
  | tup {F : Fp} {a : Addr} {xs : List V} {ds : List PyData} (h : H a = some (.tup xs)) (r : OwAll H xs ds F) : Ow H (.ref a) (.tuple ds) F
inductive OwAll (H : Hp) : List V → List PyData → Fp → Prop where
  | nil {F : Fp} (e : ∀ a, ¬ F a) : OwAll H [] [] F
  | cons {F G L : Fp} {v : V} {vs : List V} {d : PyData} {ds : List PyData} (h : Ow H v d F) (r : OwAll H vs ds G) (n : ∀ a, F a → ¬ G a) (e : ∀ a, L a ↔ F a ∨ G a) : OwAll H (v :: vs) (d :: ds) L
end
/-- all that stands outside G is as it was -/
def Off (G : Fp) (H H' : Hp) : Prop := ∀ a o, H a = some o → ¬ G a → H' a = some o
theorem Off.refl (G : Fp) (H : Hp) : Off G H H := fun _ _ h _ => h
theorem Off.mono {F G : Fp} {H H' : Hp} (h : Off F H H') (s : ∀ a, F a → G a) : Off G H H' := fun a o e n => h a o e fun z => n (s a z)
theorem Off.trans {G : Fp} {H H1 H2 : Hp} (a : Off G H H1) (b : Off G H1 H2) : Off G H H2 := fun c o e n => b c o (a c o e n) n
theorem Off.new {G : Fp} {H : Hp} {p : Addr} {o : HO} (n : H p = none) : Off G H (upd H p o) := fun a u e _ => by
  rw [upd_ne (ne_of_none e n)]
  exact e
theorem Off.upd {G : Fp} {H : Hp} {p : Addr} {o : HO} (g : G p) : Off G H (upd H p o) := fun a u e n => by
  rw [upd_ne fun z => n (by rw [z]; exact g)]
  exact e
section
variable {H H' : Hp} {K : PySem.W.Frag}
mutual
theorem Ow.dom : ∀ {v : V} {d : PyData} {F : Fp}, Ow H v d F → ∀ a, F a → ∃ xs, H a = some (.lst xs)
  | _, _, _, .non e, a, h => (e a h).elim
  | _, _, _, .bl _ e, a, h => (e a h).elim
  | _, _, _, .int _ e, a, h => (e a h).elim
  | _, _, _, .str _ e, a, h => (e a h).elim
  | _, _, _, .lst h0 r _ e, a, h => by
    rcases (e a).mp h with rfl | h
    · exact ⟨_, h0⟩
    · exact r.dom a h
  | _, _, _, .tup _ r, a, h => r.dom a h
theorem OwAll.dom : ∀ {vs : List V} {ds : List PyData} {F : Fp}, OwAll H vs ds F → ∀ a, F a → ∃ xs, H a = some (.lst xs)
  | _, _, _, .nil e, a, h => (e a h).elim
  | _, _, _, .cons h0 r _ e, a, h => by
    rcases (e a).mp h with h | h
    · exact h0.dom a h
    · exact r.dom a h
end
mutual
theorem Ow.keep {G : Fp} (k : Off G H H') (hG : ∀ a, G a → ∃ xs, H a = some (.lst xs)) : ∀ {v : V} {d : PyData} {F : Fp}, Ow H v d F → (∀ a, F a → ¬ G a) → Ow H' v d F
  | _, _, _, .non e, _ => .non e
  | _, _, _, .bl b e, _ => .bl b e
  | _, _, _, .int i e, _ => .int i e
  | _, _, _, .str x e, _ => .str x e
  | _, _, _, .lst h0 r n e, s => .lst (k _ _ h0 (s _ ((e _).mpr (.inl rfl)))) (r.keep k hG fun a z => s a ((e a).mpr (.inr z))) n e
  | _, _, _, .tup h0 r, s => .tup (k _ _ h0 fun z => by
      obtain ⟨xs, q⟩ := hG _ z
      rw [h0] at q
      cases q) (r.keep k hG s)
theorem OwAll.keep {G : Fp} (k : Off G H H') (hG : ∀ a, G a → ∃ xs, H a = some (.lst xs)) : ∀ {vs : List V} {ds : List PyData} {F : Fp}, OwAll H vs ds F → (∀ a, F a → ¬ G a) → OwAll H' vs ds F
  | _, _, _, .nil e, _ => .nil e
  | _, _, _, .cons h0 r n e, s => .cons (h0.keep k hG fun a z => s a ((e a).mpr (.inl z))) (r.keep k hG fun a z => s a ((e a).mpr (.inr z))) n e
end
mutual
theorem Ow.dp : ∀ {v : V} {d : PyData} {F : Fp}, Ow H v d F → Dp K H v d
  | _, _, _, .non _ => .non
  | _, _, _, .bl b _ => .bl b
  | _, _, _, .int i _ => .int i
  | _, _, _, .str x _ => .str x
  | _, _, _, .lst h0 r _ _ => .lst (SqL.of h0) r.dp
  | _, _, _, .tup h0 r => .tup (SqT.of h0) r.dp
theorem OwAll.dp : ∀ {vs : List V} {ds : List PyData} {F : Fp}, OwAll H vs ds F → DpAll K H vs ds
  | _, _, _, .nil _ => .nil
  | _, _, _, .cons h0 r _ _ => .cons h0.dp r.dp
end
theorem OwAll.length : ∀ {vs : List V} {ds : List PyData} {F : Fp}, OwAll H vs ds F → vs.length = ds.length
  | _, _, _, .nil _ => rfl
  | _, _, _, .cons _ r _ _ => congrArg Nat.succ r.length
theorem OwAll.congr : ∀ {vs : List V} {ds : List PyData} {F G : Fp}, OwAll H vs ds F → (∀ a, G a ↔ F a) → OwAll H vs ds G
  | _, _, _, _, .nil e, h => .nil fun a z => e a ((h a).mp z)
  | _, _, _, _, .cons h0 r n e, h => .cons h0 r n fun a => (h a).trans (e a)
theorem Ow.congr : ∀ {v : V} {d : PyData} {F G : Fp}, Ow H v d F → (∀ a, G a ↔ F a) → Ow H v d G
  | _, _, _, _, .non e, h => .non fun a z => e a ((h a).mp z)
  | _, _, _, _, .bl b e, h => .bl b fun a z => e a ((h a).mp z)
  | _, _, _, _, .int i e, h => .int i fun a z => e a ((h a).mp z)
  | _, _, _, _, .str x e, h => .str x fun a z => e a ((h a).mp z)
  | _, _, _, _, .lst h0 r n e, h => .lst h0 r n fun a => (h a).trans (e a)
  | _, _, _, _, .tup h0 r, h => .tup h0 (r.congr h)
theorem OwAll.snoc : ∀ {vs : List V} {ds : List PyData} {v : V} {d : PyData} {F G L : Fp}, OwAll H vs ds F → Ow H v d G → (∀ a, F a → ¬ G a) → (∀ a, L a ↔ F a ∨ G a) → OwAll H (vs ++ [v]) (ds ++ [d]) L
  | _, _, _, _, _, _, _, .nil e, h, n, l => .cons (h.congr fun a => (l a).trans ⟨fun z => z.elim (fun y => (e a y).elim) id, .inr⟩) (.nil (F := fun _ => False) fun _ z => z) (fun _ _ z => z) fun a => ⟨.inl, fun z => z.elim id False.elim⟩
  | _, _, _, _, F, G, L, .cons (F := F1) (G := G1) h0 r n0 e, h, n, l =>
    .cons (G := fun a => G1 a ∨ G a) h0 (r.snoc h (fun a z => n a ((e a).mpr (.inr z))) fun a => Iff.rfl)
      (fun a z y => y.elim (n0 a z) (n a ((e a).mpr (.inl z)))) fun a => (l a).trans ((or_congr (e a) Iff.rfl).trans or_assoc)
theorem OwAll.reverse : ∀ {vs : List V} {ds : List PyData} {F : Fp}, OwAll H vs ds F → OwAll H vs.reverse ds.reverse F
  | _, _, _, .nil e => .nil e
  | _, _, _, .cons h0 r n e => by
    rw [List.reverse_cons, List.reverse_cons]
    exact r.reverse.snoc h0 (fun a z y => n a y z) fun a => (e a).trans or_comm
/-- one item of it, and what changes when it is changed in place -/
theorem OwAll.at_ : ∀ {vs : List V} {ds : List PyData} {F : Fp} {i : Nat} {v : V}, OwAll H vs ds F → vs[i]? = some v →
    ∃ (d : PyData) (E : Fp), ds[i]? = some d ∧ Ow H v d E ∧ (∀ a, E a → F a) ∧ ∀ (H' : Hp) (d' : PyData), Ow H' v d' E → Off E H H' → OwAll H' vs (ds.set i d') F
  | _, _, _, i, v, .nil e, h => by simp at h
  | _, _, _, 0, v, .cons (F := F1) h0 r n e, h => by
    have hv := Option.some.inj h
    subst hv
    exact ⟨_, F1, rfl, h0, fun a z => (e a).mpr (.inl z), fun H' d' o k => .cons o (r.keep k (fun a z => h0.dom a z) fun a z y => n a y z) n e⟩
  | _, _, _, i + 1, v, .cons h0 r n e, h => by
    obtain ⟨d, E, e1, o, s, f⟩ := r.at_ (i := i) (v := v) (by simpa using h)
    exact ⟨d, E, by simpa using e1, o, fun a z => (e a).mpr (.inr (s a z)), fun H' d' o' k =>
      .cons (h0.keep k (fun a z => o.dom a z) fun a z y => n a z (s a y)) (f H' d' o' k) n e⟩
end

/-! ### sizes -/
/-- data whose texts have at most b signs; ms: how many items there are at most, level by level -/
def Fit (b : Nat) : List Nat → PyData → Prop
  | _, .none => True
  | _, .bool _ => True
  | _, .int i => i.natAbs < 2 ^ 110
  | _, .str x => x.length ≤ b ∧ ∀ c ∈ x.cps.toList, c < 16 ^ 8
  | [], _ => False
  | m :: ms, .list ds => ds.length ≤ m ∧ ∀ d ∈ ds, Fit b ms d
  | m :: ms, .tuple ds => ds.length ≤ m ∧ ∀ d ∈ ds, Fit b ms d
  | _ :: _, .dict _ => False
def big (b : Nat) : List Nat → Nat
  | [] => 10 * b + 200
  | m :: ms => 10 * b + 200 + m * (big b ms + 2)
theorem textFrom_most : ∀ (ts : List Str) (k b : Nat) (acc : Str), (∀ t ∈ ts, t.length ≤ b) → (textFrom k acc ts).length ≤ acc.length + ts.length * (b + 2)
  | [], _, b, acc, _ => by show acc.length ≤ _; omega
  | t :: ts, k, b, acc, h => by
    have ih := textFrom_most ts (k + 1) b (acc ++ (if k > 0 then ", " else "" : String) ++ t) fun x hx => h x (List.mem_cons_of_mem _ hx)
    have ht := h t List.mem_cons_self
    have e : (acc ++ (if k > 0 then ", " else "" : String) ++ t).length ≤ acc.length + 2 + t.length := by
      rw [strLen_append, strLen_append]
      split
      · have : ((", " : String) : Str).length = 2 := rfl
        omega
      · have : (("" : String) : Str).length = 0 := rfl
        omega
    show (textFrom (k + 1) (acc ++ (if k > 0 then ", " else "" : String) ++ t) ts).length ≤ _
    rw [List.length_cons, Nat.add_mul]
    omega
theorem listText_most {ts : List Str} {b : Nat} (h : ∀ t ∈ ts, t.length ≤ b) : (listText ts).length ≤ 2 + ts.length * (b + 2) := by
  have := textFrom_most ts 0 b "[" h
  have e1 : (("[" : String) : Str).length = 1 := rfl
  have e2 : (("]" : String) : Str).length = 1 := rfl
  show (textFrom 0 "[" ts ++ "]").length ≤ _
  rw [strLen_append]
  omega
theorem piled_most : ∀ (ts : List Str) (b : Nat), (∀ t ∈ ts, t.length ≤ b) → piled ts ≤ ts.length * (b + 2)
  | [], b, _ => Nat.zero_le _
  | t :: ts, b, h => by
    have ih := piled_most ts b fun x hx => h x (List.mem_cons_of_mem _ hx)
    have ht := h t List.mem_cons_self
    rw [List.length_cons, Nat.add_mul]
    show (t.length + 2) + piled ts ≤ _
    omega
theorem tupleText_most {ts : List Str} {b : Nat} (h : ∀ t ∈ ts, t.length ≤ b) : (tupleText ts).length ≤ 3 + ts.length * (b + 2) := by
  have p := piled_most ts b h
  have e1 : (("(" : String) : Str).length = 1 := rfl
  have e2 : ((",)" : String) : Str).length = 2 := rfl
  have e3 : ((")" : String) : Str).length = 1 := rfl
  have j : (Str.join ", " ts).length ≤ piled ts := by
    by_cases z : ts = []
    · subst z
      exact Nat.zero_le _
    · have := join_length_add ts z
      omega
  show (("(" : Str) ++ Str.join ", " ts ++ (if ts.length == 1 then ",)" else ")" : String)).length ≤ _
  rw [strLen_append, strLen_append]
  split <;> omega
theorem shownAll_mem : ∀ {ds : List PyData} {t : Str}, t ∈ PyData.shownAll ds → ∃ d ∈ ds, t = d.shown
  | [], t, h => by simp [PyData.shownAll] at h
  | d :: ds, t, h => by
    simp only [PyData.shownAll, List.mem_cons] at h
    rcases h with h | h
    · exact ⟨d, List.mem_cons_self, h⟩
    · obtain ⟨e, he, q⟩ := shownAll_mem h
      exact ⟨e, List.mem_cons_of_mem _ he, q⟩
theorem shownAll_length : ∀ ds : List PyData, (PyData.shownAll ds).length = ds.length
  | [] => by simp [PyData.shownAll]
  | d :: ds => by simp [PyData.shownAll, shownAll_length ds]
theorem showableAll_of : ∀ {ds : List PyData}, (∀ d ∈ ds, d.showable = true) → PyData.showableAll ds = true
  | [], _ => by simp [PyData.showableAll]
  | d :: ds, h => by
    simp only [PyData.showableAll, Bool.and_eq_true]
    exact ⟨h d List.mem_cons_self, showableAll_of fun e he => h e (List.mem_cons_of_mem _ he)⟩
theorem hasDictAll_of : ∀ {ds : List PyData}, (∀ d ∈ ds, d.hasDict = false) → PyData.hasDictAll ds = false
  | [], _ => by simp [PyData.hasDictAll]
  | d :: ds, h => by
    simp only [PyData.hasDictAll, Bool.or_eq_false_iff]
    exact ⟨h d List.mem_cons_self, hasDictAll_of fun e he => h e (List.mem_cons_of_mem _ he)⟩
theorem depthAll_of {n : Nat} : ∀ {ds : List PyData}, (∀ d ∈ ds, d.depth ≤ n) → PyData.depthAll ds ≤ n
  | [], _ => by simp [PyData.depthAll]
  | d :: ds, h => by
    have h1 := h d List.mem_cons_self
    have h2 := depthAll_of fun e he => h e (List.mem_cons_of_mem _ he)
    simp only [PyData.depthAll]
    omega
/-- what repr asks of such data -/
structure ReprOk (n b : Nat) (d : PyData) : Prop where
  sh : d.showable = true
  nd : d.hasDict = false
  dp : d.depth ≤ n
  sz : d.shown.length ≤ b
theorem big_le (b : Nat) : ∀ ms, 10 * b + 200 ≤ big b ms
  | [] => Nat.le_refl _
  | _ :: _ => Nat.le_add_right _ _
theorem Fit.ok {b : Nat} : ∀ {ms : List Nat} {d : PyData}, Fit b ms d → ReprOk ms.length (big b ms) d
  | ms, .none, _ => ⟨by simp [PyData.showable], by simp [PyData.hasDict], by simp [PyData.depth], by
      simp only [PyData.shown]
      exact Nat.le_trans (Nat.le_trans (by decide : _ ≤ 200) (Nat.le_add_left _ _)) (big_le b ms)⟩
  | ms, .bool c, _ => ⟨by simp [PyData.showable], by simp [PyData.hasDict], by simp [PyData.depth], by
      simp only [PyData.shown]
      exact Nat.le_trans (Nat.le_trans (by cases c <;> decide : _ ≤ 200) (Nat.le_add_left _ _)) (big_le b ms)⟩
  | ms, .int i, h => by
    have h : i.natAbs < 2 ^ 110 := by cases ms <;> exact h
    have l := PySem.Flt.log2_lt_of (n := i.natAbs) (k := 110) (by decide) h
    refine ⟨?_, by simp [PyData.hasDict], by simp [PyData.depth], ?_⟩
    · simp only [PyData.showable]
      exact decide_eq_true (by omega)
    · simp only [PyData.shown]
      have q : (Str.ofString (toString i)).length ≤ 110 + 1 := by
        rw [PySem.ofString_length]
        exact int_text_length_le (a := i) (k := 110) (by decide) l
      exact Nat.le_trans q (Nat.le_trans (Nat.le_trans (by decide : 110 + 1 ≤ 200) (Nat.le_add_left _ _)) (big_le b ms))
  | ms, .str x, h => by
    have h : x.length ≤ b ∧ ∀ c ∈ x.cps.toList, c < 16 ^ 8 := by cases ms <;> exact h
    refine ⟨by simp [PyData.showable], by simp [PyData.hasDict], by simp [PyData.depth], ?_⟩
    simp only [PyData.shown]
    have q := StrLaws.reprText_len x h.2
    exact Nat.le_trans q (Nat.le_trans (by omega : _ ≤ 10 * b + 200) (big_le b ms))
  | [], .list _, h => h.elim
  | [], .tuple _, h => h.elim
  | [], .dict _, h => h.elim
  | _ :: _, .dict _, h => h.elim
  | m :: ms, .list ds, ⟨h1, h2⟩ => by
    have all : ∀ d ∈ ds, ReprOk ms.length (big b ms) d := fun d hd => (h2 d hd).ok
    refine ⟨?_, ?_, ?_, ?_⟩
    · simp only [PyData.showable]
      exact showableAll_of fun d hd => (all d hd).sh
    · simp only [PyData.hasDict]
      exact hasDictAll_of fun d hd => (all d hd).nd
    · have := depthAll_of fun d hd => (all d hd).dp
      simp only [PyData.depth, List.length_cons]
      omega
    · simp only [PyData.shown]
      have q := listText_most (ts := PyData.shownAll ds) (b := big b ms) fun t ht => by
        obtain ⟨d, hd, rfl⟩ := shownAll_mem ht
        exact (all d hd).sz
      rw [shownAll_length] at q
      have z := Nat.mul_le_mul_right (big b ms + 2) h1
      show _ ≤ 10 * b + 200 + m * (big b ms + 2)
      omega
  | m :: ms, .tuple ds, ⟨h1, h2⟩ => by
    have all : ∀ d ∈ ds, ReprOk ms.length (big b ms) d := fun d hd => (h2 d hd).ok
    refine ⟨?_, ?_, ?_, ?_⟩
    · simp only [PyData.showable]
      exact showableAll_of fun d hd => (all d hd).sh
    · simp only [PyData.hasDict]
      exact hasDictAll_of fun d hd => (all d hd).nd
    · have := depthAll_of fun d hd => (all d hd).dp
      simp only [PyData.depth, List.length_cons]
      omega
    · simp only [PyData.shown]
      have q := tupleText_most (ts := PyData.shownAll ds) (b := big b ms) fun t ht => by
        obtain ⟨d, hd, rfl⟩ := shownAll_mem ht
        exact (all d hd).sz
      rw [shownAll_length] at q
      have z := Nat.mul_le_mul_right (big b ms + 2) h1
      show _ ≤ 10 * b + 200 + m * (big b ms + 2)
      omega
/-! ### what _law_muddle makes of data -/
mutual
def mud : PyData → PyData
  | .list ds => .list ((mudAll ds ++ [PyData.str "muddled"]).reverse)
  | .tuple ds => .tuple (mudAll ds)
  | d => d
def mudAll : List PyData → List PyData
  | [] => []
  | d :: ds => mud d :: mudAll ds
end
theorem mudAll_map : ∀ ds : List PyData, mudAll ds = ds.map mud
  | [] => by simp [mudAll]
  | d :: ds => by simp [mudAll, mudAll_map ds]
theorem Fit.mono {b b' : Nat} (hb : b ≤ b') : ∀ {ms : List Nat} {d : PyData}, Fit b ms d → Fit b' ms d
  | ms, .none, _ => by cases ms <;> trivial
  | ms, .bool _, _ => by cases ms <;> trivial
  | ms, .int i, h => by cases ms <;> exact h
  | ms, .str x, h => by cases ms <;> exact ⟨Nat.le_trans h.1 hb, h.2⟩
  | [], .list _, h => h.elim
  | [], .tuple _, h => h.elim
  | [], .dict _, h => h.elim
  | _ :: _, .dict _, h => h.elim
  | m :: ms, .list ds, ⟨h1, h2⟩ => ⟨h1, fun d hd => (h2 d hd).mono hb⟩
  | m :: ms, .tuple ds, ⟨h1, h2⟩ => ⟨h1, fun d hd => (h2 d hd).mono hb⟩
/-- one more in each list -/
def more (ms : List Nat) : List Nat := ms.map (· + 1)
theorem Fit.mud {b : Nat} (hb : 7 ≤ b) : ∀ {ms : List Nat} {d : PyData}, Fit b ms d → Fit b (more ms) (KV.mud d)
  | ms, .none, _ => by cases ms <;> simp [KV.mud, Fit, more]
  | ms, .bool _, _ => by cases ms <;> simp [KV.mud, Fit, more]
  | ms, .int i, h => by cases ms <;> (simp only [KV.mud, more, List.map_cons, List.map_nil]; exact h)
  | ms, .str x, h => by cases ms <;> (simp only [KV.mud, more, List.map_cons, List.map_nil]; exact h)
  | [], .list _, h => h.elim
  | [], .tuple _, h => h.elim
  | [], .dict _, h => h.elim
  | _ :: _, .dict _, h => h.elim
  | m :: ms, .list ds, ⟨h1, h2⟩ => by
    simp only [KV.mud]
    refine ⟨by simp [mudAll_map]; omega, fun d hd => ?_⟩
    rw [List.mem_reverse, List.mem_append, mudAll_map, List.mem_map] at hd
    rcases hd with ⟨e, he, rfl⟩ | hd
    · exact (h2 e he).mud hb
    · have hd := List.mem_singleton.mp hd
      subst hd
      have e7 : ("muddled" : Str).length = 7 := by decide +kernel
      have z : ("muddled" : Str).length ≤ b ∧ ∀ c ∈ ("muddled" : Str).cps.toList, c < 16 ^ 8 := ⟨by omega, by decide +kernel⟩
      cases ms <;> exact z
  | m :: ms, .tuple ds, ⟨h1, h2⟩ => by
    simp only [KV.mud]
    refine ⟨by simp [mudAll_map]; omega, fun d hd => ?_⟩
    rw [mudAll_map, List.mem_map] at hd
    obtain ⟨e, he, rfl⟩ := hd
    exact (h2 e he).mud hb

/-! ### a list that grows by new data -/
/-- at D: a new list of the data ds, its lists new; nothing else of H but G has changed -/
def Grow (G : Fp) (H : Hp) (D : Addr) (ds : List PyData) (H' : Hp) : Prop := ∃ acc FA, H' D = some (.lst acc) ∧ OwAll H' acc ds FA ∧ ¬ FA D ∧ (∀ b, FA b → H b = none) ∧ Off G H H'
theorem Grow.start {G : Fp} {H : Hp} {D : Addr} (h : H D = none) : Grow G H D [] (upd H D (.lst [])) :=
  ⟨[], fun _ => False, upd_same, .nil fun _ z => z, fun z => z, fun _ z => z.elim, Off.new h⟩
theorem Grow.len {G : Fp} {H H' : Hp} {D : Addr} {ds : List PyData} (g : Grow G H D ds H') : ∃ acc, H' D = some (.lst acc) ∧ acc.length = ds.length := by
  obtain ⟨acc, FA, h1, h2, _⟩ := g
  exact ⟨acc, h1, h2.length⟩
theorem Off.none {G : Fp} {H H' : Hp} (k : Off G H H') {a : Addr} (h : H' a = none) (n : ¬ G a) : H a = none := by
  cases q : H a with
  | none => rfl
  | some o =>
    have z := k a o q n
    rw [h] at z
    cases z
theorem Grow.step {G : Fp} {H H' H4 : Hp} {D : Addr} {ds : List PyData} {v : V} {d : PyData} {F : Fp} (g : Grow G H D ds H') (hD : H D = none) (hG0 : ∀ a, G a → H a ≠ none) (hG1 : ∀ a, G a → ∃ xs, H' a = some (.lst xs))
    (o : Ow H4 v d F) (hF : ∀ a, F a → H' a = none) (k : Off G H' H4) : ∃ acc, H4 D = some (.lst acc) ∧ acc.length = ds.length ∧ Grow G H D (ds ++ [d]) (upd H4 D (.lst (acc ++ [v]))) := by
  obtain ⟨acc, FA, h1, h2, h3, h4, h5⟩ := g
  have nD : ¬ G D := fun z => hG0 D z hD
  have e4 := k _ _ h1 nD
  refine ⟨acc, e4, h2.length, acc ++ [v], fun b => FA b ∨ F b, upd_same, ?_, ?_, ?_, ?_⟩
  · have b1 : OwAll H4 acc ds FA := h2.keep k hG1 fun a z y => hG0 a y (h4 a z)
    have kD : Off (fun a => a = D) H4 (upd H4 D (.lst (acc ++ [v]))) := Off.upd rfl
    have hgD : ∀ a, a = D → ∃ xs, H4 a = some (.lst xs) := fun a z => ⟨acc, by rw [z]; exact e4⟩
    refine OwAll.snoc (b1.keep kD hgD fun a z y => h3 (y ▸ z)) (o.keep kD hgD fun a z y => ?_) (fun a z y => ?_) fun a => Iff.rfl
    · have q := hF a z
      rw [y, h1] at q
      cases q
    · obtain ⟨xs, q⟩ := h2.dom a z
      rw [hF a y] at q
      cases q
  · rintro (z | z)
    · exact h3 z
    · have q := hF D z
      rw [h1] at q
      cases q
  · rintro b (z | z)
    · exact h4 b z
    · have q := hF b z
      exact h5.none q fun y => by
        obtain ⟨xs, q2⟩ := hG1 b y
        rw [q] at q2
        cases q2
  · intro a u e n
    rw [upd_ne fun z => by rw [z, hD] at e; cases e]
    exact k _ _ (h5 a u e n) n
theorem Grow.list {G : Fp} {H H' : Hp} {D : Addr} {ds : List PyData} (g : Grow G H D ds H') (hD : H D = Option.none) : ∃ F, Ow H' (.ref D) (.list ds) F ∧ (∀ a, F a → H a = Option.none) ∧ Off G H H' := by
  obtain ⟨acc, FA, h1, h2, h3, h4, h5⟩ := g
  exact ⟨fun b => b = D ∨ FA b, .lst h1 h2 h3 fun _ => Iff.rfl, fun a z => z.elim (fun y => y ▸ hD) (h4 a), h5⟩
theorem Grow.tuple {G : Fp} {H H' : Hp} {D p : Addr} {ds : List PyData} {acc : List V} (g : Grow G H D ds H') (e : H' D = some (.lst acc)) (hp : H' p = Option.none) :
    ∃ F, Ow (upd H' p (.tup acc)) (.ref p) (.tuple ds) F ∧ (∀ a, F a → H a = Option.none) ∧ Off G H (upd H' p (.tup acc)) := by
  obtain ⟨acc', FA, h1, h2, h3, h4, h5⟩ := g
  rw [e] at h1
  have e1 : acc = acc' := HO.lst.inj (Option.some.inj h1)
  subst e1
  exact ⟨FA, .tup upd_same (h2.keep (G := fun _ => False) (Off.new hp) (fun _ z => z.elim) fun _ _ z => z), h4, h5.trans (Off.new hp)⟩

/-! ### data that is read -/
section
variable {K : PySem.W.Frag} {H H' : Hp}
theorem sqL_off {a : Addr} {xs : List V} (k : Off (fun _ => False) H H') (h : SqL K H a xs) : SqL K H' a xs := by
  rcases h with (h | ⟨o, h⟩) | h
  · exact .inl (.inl (k _ _ h fun z => z))
  · exact .inl (.inr ⟨o, k _ _ h fun z => z⟩)
  · exact .inr h
theorem sqT_off {a : Addr} {xs : List V} (k : Off (fun _ => False) H H') (h : SqT K H a xs) : SqT K H' a xs := by
  rcases h with (h | ⟨o, h⟩) | h
  · exact .inl (.inl (k _ _ h fun z => z))
  · exact .inl (.inr ⟨o, k _ _ h fun z => z⟩)
  · exact .inr h
mutual
theorem dp_off (k : Off (fun _ => False) H H') : ∀ {v : V} {d : PyData}, Dp K H v d → Dp K H' v d
  | _, _, .non => .non
  | _, _, .bl b => .bl b
  | _, _, .int i => .int i
  | _, _, .str x => .str x
  | _, _, .lst h r => .lst (sqL_off k h) (dpAll_off k r)
  | _, _, .tup h r => .tup (sqT_off k h) (dpAll_off k r)
theorem dpAll_off (k : Off (fun _ => False) H H') : ∀ {vs : List V} {ds : List PyData}, DpAll K H vs ds → DpAll K H' vs ds
  | _, _, .nil => .nil
  | _, _, .cons h r => .cons (dp_off k h) (dpAll_off k r)
end
theorem dpAll_length : ∀ {vs : List V} {ds : List PyData}, DpAll K H vs ds → vs.length = ds.length
  | _, _, .nil => rfl
  | _, _, .cons _ r => congrArg Nat.succ (dpAll_length r)
theorem dpAll_at : ∀ {vs : List V} {ds : List PyData} {i : Nat} {v : V}, DpAll K H vs ds → vs[i]? = some v → ∃ d, ds[i]? = some d ∧ Dp K H v d
  | _, _, _, _, .nil, h => by simp at h
  | _, _, 0, _, .cons h0 r, h => by
    have hv := Option.some.inj h
    subst hv
    exact ⟨_, rfl, h0⟩
  | _, _, i + 1, v, .cons h0 r, h => by
    obtain ⟨d, e, q⟩ := dpAll_at (i := i) (v := v) r (by simpa using h)
    exact ⟨d, by simpa using e, q⟩
/-- .. by the data -/
theorem dpAll_at' : ∀ {vs : List V} {ds : List PyData} {i : Nat} {d : PyData}, DpAll K H vs ds → ds[i]? = some d → ∃ v, vs[i]? = some v ∧ Dp K H v d
  | _, _, _, _, .nil, h => by simp at h
  | _, _, 0, _, .cons h0 r, h => by
    have hv := Option.some.inj h
    subst hv
    exact ⟨_, rfl, h0⟩
  | _, _, i + 1, d, .cons h0 r, h => by
    obtain ⟨v, e, q⟩ := dpAll_at' (i := i) (d := d) r (by simpa using h)
    exact ⟨v, by simpa using e, q⟩
end
end KV
set_option Elab.async false
set_option linter.all false
set_option maxRecDepth 100000
set_option maxHeartbeats 4000000
/-! What the written part says of the classes of errors. -/
namespace KV
open PySem PySem.Spec PyProof.Rows L2 He
/-- an error class over ValueError, its field f stored by the __init__ at fI -/
structure ErrOk (K : PySem.W.Frag) (f : Str) (fI C : Addr) : Prop where
  oex : OexC K C
  xf : XfC K C
  err : PySem.W.ErrC K C
  no : PySem.W.findIn K (.ref C) f = some none
  ini : PySem.W.findIn K (.ref C) "__init__" = some (some (.ref fI))
  fn : PySem.W.typeIn K (.ref fI) = some (.type "function")
def clsB (K : PySem.W.Frag) (C : Addr) : Bool := match K.lookup C with
  | some ⟨.type t, _, .cls cd, sl⟩ => decide (t = "type") && (match cd.mro, sl.toList with
    | .ref C' :: bm, [_, _, _, _, some (.builtin n), _] => decide (C' = C) && (decide (n = "ValueError.__new__") && (!cd.hasDel && (cd.hasDict && PySem.HandSPX.refsVE bm)))
    | _, _ => false)
  | _ => false
theorem clsB_ok {K : PySem.W.Frag} {C : Addr} (h : clsB K C = true) : ∃ nm q N bs bm sn sub ab col dd k0 k1 k2 k3 k5,
    K.lookup C = some (excClassObj nm q C N bs bm true sn sub ab col dd k0 k1 k2 k3 k5 "ValueError.__new__") ∧ PySem.HandSPX.refsVE bm = true := by
  unfold clsB at h
  split at h
  · rename_i t dd cd sl ho
    obtain ⟨h1, h2⟩ := ba h
    have ht := of_decide_eq_true h1
    subst ht
    split at h2
    · rename_i C' bm k0 k1 k2 k3 n k5 hm hs
      obtain ⟨g1, h2⟩ := ba h2
      obtain ⟨g2, h2⟩ := ba h2
      obtain ⟨g3, h2⟩ := ba h2
      obtain ⟨g4, g5⟩ := ba h2
      have e1 := of_decide_eq_true g1
      have e2 := of_decide_eq_true g2
      subst e1 e2
      obtain ⟨nm, bs, mro, ns, qn, hd, sn, sub, ab, col, del⟩ := cd
      dsimp only at hm g3 g4
      subst hm g4
      have hdel : del = false := by simpa using g3
      subst hdel
      have hsl : sl = #[k0, k1, k2, k3, some (.builtin "ValueError.__new__"), k5] := by
        obtain ⟨l⟩ := sl
        simp only at hs
        rw [hs]
      subst hsl
      exact ⟨nm, qn, ns, bs, bm, sn, sub, ab, col, dd, k0, k1, k2, k3, k5, ho, g5⟩
    · cases h2
  · cases h
def errB (K : PySem.W.Frag) (f : Str) (fI C : Addr) : Bool :=
  clsB K C && (eqO (PySem.W.findIn K (.ref C) "__setattr__") (some (some (.builtin "object.__setattr__"))) && (decide (PySem.W.subIn K (.ref C) (.type "BaseException") = some true) &&
  (decide (PySem.W.typeIn K (.ref C) = some (.type "type")) && (PySem.W.keepIn K (.ref C) && (eqO (PySem.W.findIn K (.ref C) "__getattribute__") (some (some (.builtin "BaseException.__getattribute__"))) &&
  (eqO (PySem.W.findIn K (.ref C) "__getattr__") (some none) && (PySem.W.hasDictIn K C && (eqO (PySem.W.findIn K (.ref C) "__class__") (some (some (.builtin "object.__class__"))) &&
  (eqO (PySem.W.specialIn K (.builtin "object.__class__") "__get__") (some (some (.builtin "getset_descriptor.__get__"))) && (decide (PySem.W.takesIn K (.builtin "object.__class__") = some true) &&
  (decide (PySem.W.mroIn K C (.type "object") = some true) && (eqO (PySem.W.findIn K (.ref C) f) (some none) && (eqO (PySem.W.findIn K (.ref C) "__init__") (some (some (.ref fI))) &&
  decide (PySem.W.typeIn K (.ref fI) = some (.type "function")))))))))))))))
theorem errB_ok {K : PySem.W.Frag} {f : Str} {fI C : Addr} (h : errB K f fI C = true) : ErrOk K f fI C := by
  obtain ⟨a1, h⟩ := ba h
  obtain ⟨a2, h⟩ := ba h
  obtain ⟨a3, h⟩ := ba h
  obtain ⟨a4, h⟩ := ba h
  obtain ⟨a5, h⟩ := ba h
  obtain ⟨a6, h⟩ := ba h
  obtain ⟨a7, h⟩ := ba h
  obtain ⟨a8, h⟩ := ba h
  obtain ⟨a9, h⟩ := ba h
  obtain ⟨b1, h⟩ := ba h
  obtain ⟨b2, h⟩ := ba h
  obtain ⟨b3, h⟩ := ba h
  obtain ⟨b4, h⟩ := ba h
  obtain ⟨b5, b6⟩ := ba h
  exact ⟨⟨clsB_ok a1, eqO_ok a2, of_decide_eq_true a3, of_decide_eq_true a4, a5⟩, ⟨eqO_ok a6, eqO_ok a7, of_decide_eq_true a3, a8⟩,
    ⟨eqO_ok a6, eqO_ok a7, of_decide_eq_true a3, a8, eqO_ok a9, eqO_ok b1, of_decide_eq_true b2, of_decide_eq_true b3⟩, eqO_ok b4, eqO_ok b5, of_decide_eq_true b6⟩
/-- all classes of errors: the first is the others' base -/
def errsB (K : PySem.W.Frag) (f : Str) (base : Str) (names : List Str) : Bool :=
  (names.all fun x => errB K f (ma K (ga K base) "__init__") (ga K x)) &&
  ((names.all fun x => names.all fun y => decide (PySem.W.kitOne K (.ref (ga K x)) (.ref (ga K y)) = some (decide (x = y) || decide (y = base)))) &&
  (names.all fun x => decide (PySem.W.kitOne K (.ref (ga K x)) (.type "ValueError") = some true)))
structure Errs (K : PySem.W.Frag) (f base : Str) (names : List Str) : Prop where
  ok : ∀ x ∈ names, ErrOk K f (ma K (ga K base) "__init__") (ga K x)
  kit : ∀ x ∈ names, ∀ y ∈ names, PySem.W.kitOne K (.ref (ga K x)) (.ref (ga K y)) = some (decide (x = y) || decide (y = base))
  ve : ∀ x ∈ names, PySem.W.kitOne K (.ref (ga K x)) (.type "ValueError") = some true
theorem errsB_ok {K : PySem.W.Frag} {f base : Str} {names : List Str} (h : errsB K f base names = true) : Errs K f base names := by
  obtain ⟨h1, h⟩ := ba h
  obtain ⟨h2, h3⟩ := ba h
  exact ⟨fun x hx => errB_ok (List.all_eq_true.mp h1 x hx), fun x hx y hy => of_decide_eq_true (List.all_eq_true.mp (List.all_eq_true.mp h2 x hx) y hy), fun x hx => of_decide_eq_true (List.all_eq_true.mp h3 x hx)⟩
end KV
set_option Elab.async false
set_option linter.all false
set_option maxRecDepth 100000
namespace LW
open PySem PySem.Spec PyProof.Rows L2 KV
def top (i : Nat) : Stmt := PySem.Challenge.pw_keysthrough_k54_books_that_are_none.main.body.getD i (.Pass ⟨0, 0, 0, 0⟩)
abbrev pWall : Stmt := top 0
abbrev cKeyTellError : Stmt := top 2
abbrev pKeyTellError_init : Stmt := inClass (top 2) 0
abbrev cInvalidName : Stmt := top 3
abbrev cDoubleName : Stmt := top 4
abbrev cUnknownTable : Stmt := top 5
abbrev cUnknownColumn : Stmt := top 6
abbrev cInvalidRule : Stmt := top 7
abbrev cUnreadable : Stmt := top 8
abbrev cBook : Stmt := top 12
abbrev pBook_init : Stmt := inClass (top 12) 0
abbrev pBook_tables : Stmt := inClass (top 12) 1
abbrev pBook_rules : Stmt := inClass (top 12) 2
abbrev pBook_len : Stmt := inClass (top 12) 3
abbrev pBook_getitem : Stmt := inClass (top 12) 4
abbrev pBook_iter : Stmt := inClass (top 12) 5
abbrev pBook_eq : Stmt := inClass (top 12) 6
abbrev pBook_with_rules : Stmt := inClass (top 12) 7
abbrev pBook_without : Stmt := inClass (top 12) 8
abbrev pCheckTables : Stmt := top 13
abbrev pCheckColumns : Stmt := top 14
abbrev pCheckName : Stmt := top 15
abbrev pCheckRule : Stmt := top 16
abbrev pIsName : Stmt := top 17
abbrev pHasForm : Stmt := top 18
abbrev pCopied : Stmt := top 19
abbrev pReadBook : Stmt := top 21
abbrev pTablesAndRules : Stmt := top 22
abbrev pRuleOf : Stmt := top 23
abbrev pShowBook : Stmt := top 25
abbrev pRuleText : Stmt := top 26
abbrev sPurse : Stmt := top 28
abbrev sCoin : Stmt := top 29
abbrev sWords : Stmt := top 30
abbrev sDrawnTables : Stmt := top 31
abbrev sDrawnRules : Stmt := top 32
abbrev sRuleText : Stmt := top 33
abbrev sBookText : Stmt := top 34
abbrev sIsTitle : Stmt := top 35
abbrev sIsRule : Stmt := top 36
abbrev sIsBook : Stmt := top 37
abbrev sCaughtBook : Stmt := top 38
abbrev sOddBook : Stmt := top 39
abbrev sMarredBook : Stmt := top 40
abbrev sRight : Stmt := top 41
abbrev sLaw : Stmt := top 42
abbrev FnP (K : PySem.W.Frag) (x : Str) (st : Stmt) (f : Addr) (fd : FuncData) : Prop := FunD K x x (defArgs st) (defBody st) (defScope st) [] [] f fd
end LW
set_option Elab.async false
set_option linter.all false
set_option maxRecDepth 100000
set_option maxHeartbeats 4000000
namespace LW
open PySem PySem.Spec PyProof.Rows L2 KV
/-- at p: a purse, from which at most c numbers were stirred -/
def Pu (H : Hp) (p : Addr) (c : Nat) : Prop := ∃ a b n : Int, H p = some (.lst [.int a, .int b, .int n]) ∧ 0 ≤ a ∧ 0 ≤ b ∧ b < 1000000000000000000000007 ∧ 0 ≤ n ∧ n ≤ (c : Int)
/-- all but p is as it was -/
def But (p : Addr) (H H' : Hp) : Prop := ∀ b, b ≠ p → H' b = H b
theorem Pu.mono {H : Hp} {p : Addr} {c d : Nat} (h : Pu H p c) (e : c ≤ d) : Pu H p d := by
  obtain ⟨a, b, n, h1, h2, h3, h4, h5, h6⟩ := h
  exact ⟨a, b, n, h1, h2, h3, h4, h5, by omega⟩
theorem Pu.at {H H' : Hp} {p : Addr} {c : Nat} (h : Pu H p c) (e : H' p = H p) : Pu H' p c := by
  obtain ⟨a, b, n, h1, h2⟩ := h
  exact ⟨a, b, n, e.trans h1, h2⟩

def spPurse (K : PySem.W.Frag) : Sp := fun vs H Q _ => ∃ (a : Addr) (ns : List Int) (i : Int), vs = [.ref a, .int i] ∧ SqL K H a (ns.map V.int) ∧ 0 ≤ i ∧ i ≤ 100 ∧
  ∀ p, H p = none → ∀ H', Pu H' p 0 → But p H H' → Q (.ref p) H'
def spCoin : Sp := fun vs H Q _ => ∃ (p : Addr) (m : Int) (c : Nat), vs = [.ref p, .int m] ∧ Pu H p c ∧ c ≤ 1000000000 ∧ 0 < m ∧ m ≤ 1000000000000000000000000000000 ∧
  ∀ i H', 0 ≤ i → i < m → Pu H' p (c + 1) → But p H H' → Q (.int i) H'

section
variable {P : Program} {w : World} {K : PySem.W.Frag} {mg : Str → Option Value} {base : Heap}
theorem scPurse : FnScope ["script", "place", "cell"] ["script", "place"] (defScope sPurse) := ⟨rfl, rfl, rfl, by decide +kernel, rfl, by decide +kernel, by decide +kernel⟩
theorem ok_purse {f : Addr} {fd : FuncData} (F : FnP K "_law_purse" sPurse f fd) (ml : mg "len" = none) (mm : mg "max" = none) (ma : mg "abs" = none) (mi : mg "int" = none) :
    FnOk P w K mg base CX0 1 f fd ["script", "place"] (spPurse K) := by
  refine F.ok scPurse (fun vs H Q E h => ?_) (fun cdv A outer s H vs Q E hr h => ?_)
  · obtain ⟨a, ns, i, rfl, _⟩ := h
    rfl
  obtain ⟨a, ns, i, rfl, hS, h0, h1, q⟩ := h
  refine ⟨_, pss_cons (ps_set (i := 2) scPurse.nd rfl (Or.inl rfl) (pe_ifExp (pt_cmpR op_lt (pv 1) (pe_callB call_len_seq rfl ml boot_len (pa_cons (pv 0) pa_nil)) (nomark _))
      (pe_ix ix_list (pv 0) (pv 1) (fun _ _ => rfl)) pe_int))
    (pss_one (ps_ret (pe_lst (pa_cons (pe_callB (call_max2 rfl) rfl mm boot_max (pa_cons pe_int (pa_cons (pe_op op_sub (pe_callB call_abs rfl ma boot_abs (pa_cons (pv 2) pa_nil)) (pe_op op_pow pe_int pe_int)) pa_nil)))
      (pa_cons (pe_op op_mod (pe_callTy call_int1 rfl mi (by decide +kernel) (pa_cons (pe_op op_add (pe_op op_add (pe_op op_mul (pv 2) pe_int) (pe_op op_mul (pv 1) pe_int)) pe_int) pa_nil)) (pe_op op_add (pe_op op_pow pe_int pe_int) pe_int))
      (pa_cons pe_int pa_nil)))))), ?_⟩
  have hl : (ns.map V.int).length = ns.length := List.length_map _
  have fin : ∀ z : Int, ∀ p, H p = none → Q (.ref p) (upd H p (.lst [.int (if (if z < 0 then -z else z) - (10 : Int) ^ (18 : Int).toNat > 0 then (if z < 0 then -z else z) - (10 : Int) ^ (18 : Int).toNat else 0),
      .int ((z * 30011 + i * 7368787 + 104729) % ((10 : Int) ^ (24 : Int).toNat + 7)), .int 0])) := by
    intro z p hp
    have e : (10 : Int) ^ (24 : Int).toNat + 7 = 1000000000000000000000007 := by decide
    rw [e]
    refine q p hp _ ⟨_, _, _, upd_same, ?_, Int.emod_nonneg _ (by decide), Int.emod_lt_of_pos _ (by decide), Int.le_refl _, Int.le_refl _⟩ fun b hb => upd_ne hb
    split <;> omega
  refine ⟨_, rfl, _, rfl, a, _, rfl, .inl hS, _, _, rfl, rfl, _, rfl, ite2 (fun c => ?_) (fun c => ?_)⟩
  · have c' : i < (((ns.map V.int).length : Nat) : Int) := of_decide_eq_true c
    rw [hl] at c'
    have hk : i.toNat < ns.length := by omega
    have ek : i = ((i.toNat : Nat) : Int) := by omega
    have v : atI (ns.map V.int) ((i.toNat : Nat) : Int) = some (.int ns[i.toNat]) := atI_nat (by rw [List.getElem?_map, List.getElem?_eq_getElem hk] <;> rfl)
    rw [← ek] at v
    refine ⟨_, rfl, _, rfl, a, _, _, _, rfl, rfl, hS, v, ?_⟩
    exact ⟨_, rfl, _, rfl, _, _, rfl, rfl, ⟨by decide, by decide, by decide⟩, _, _, rfl, rfl, _, _, rfl, _, rfl, _, _, rfl, rfl, .inr ⟨by decide, by decide⟩, _, rfl, _, _, rfl, rfl, .inr ⟨by decide, by decide⟩, _, _, rfl, rfl, _, _, rfl, rfl,
      .inl ⟨_, rfl, _, _, rfl, rfl, ⟨by decide, by decide, by decide⟩, _, _, rfl, rfl, _, _, rfl, rfl, (by show (0 : Int) < 10 ^ Int.toNat 24 + 7; decide), by show 3 ≤ sizeLine; decide, fin _⟩⟩
  · exact ⟨_, rfl, _, rfl, _, _, rfl, rfl, ⟨by decide, by decide, by decide⟩, _, _, rfl, rfl, _, _, rfl, _, rfl, _, _, rfl, rfl, .inr ⟨by decide, by decide⟩, _, rfl, _, _, rfl, rfl, .inr ⟨by decide, by decide⟩, _, _, rfl, rfl, _, _, rfl, rfl,
      .inl ⟨_, rfl, _, _, rfl, rfl, ⟨by decide, by decide, by decide⟩, _, _, rfl, rfl, _, _, rfl, rfl, (by show (0 : Int) < 10 ^ Int.toNat 24 + 7; decide), by show 3 ≤ sizeLine; decide, fin _⟩⟩
theorem scCoin : FnScope ["purse", "many", "drawn", "stirred"] ["purse", "many"] (defScope sCoin) := ⟨rfl, rfl, rfl, by decide +kernel, rfl, by decide +kernel, by decide +kernel⟩
/-- the bits of a number below 2 ^ 100 -/
theorem bits100 {z : Int} (h0 : 0 ≤ z) (h : z < 2 ^ 100) : (Builtin.Int.intBits z : Int) ≤ 100 := by
  unfold Builtin.Int.intBits
  split
  · omega
  · rename_i hz
    have h1 : z.natAbs < 2 ^ 100 := by
      have e : ((2 ^ 100 : Nat) : Int) = 2 ^ 100 := by decide
      omega
    have := PySem.Flt.log2_lt_of (by decide : 0 < 100) h1
    omega
theorem ok_coin {f : Addr} {fd : FuncData} (F : FnP K "_law_coin" sCoin f fd) (mi : mg "int" = none) :
    FnOk P w K mg base CX0 1 f fd ["purse", "many"] spCoin := by
  refine F.ok scCoin (fun vs H Q E h => ?_) (fun cdv A outer s H vs Q E hr h => ?_)
  · obtain ⟨p, m, c, rfl, _⟩ := h
    rfl
  obtain ⟨p, m, c, rfl, ⟨a, b, n, hp, ha, hb, hb2, hn, hn2⟩, hc, hm, hm2, q⟩ := h
  have ix : ∀ {X : Cx} (i : Int) {p1 p2 p3 : Pos} {j : Nat}, X.N[0]? = some ("purse" : Str) → Vis X.env.scope ("purse" : Str) →
      PE X (.Subscript (.Name "purse" p1) (.Constant (.int i) j p2) p3) (tOp (rIxL X.K) (tVar 0) (tC (.int i))) :=
    fun i _ _ _ _ hN hv => pe_ix ix_list (pv 0 hN hv) pe_int (fun _ _ => rfl)
  refine ⟨_, pss_cons (ps_if (pt_cmpR op_gt (ix 0 rfl (Or.inl rfl)) pe_int (nomark _))
      (pss_cons (ps_set (i := 2) scCoin.nd rfl (Or.inl rfl) (pe_op op_mod (pe_callTy call_int1 rfl mi (by decide +kernel) (pa_cons (ix 0 rfl (Or.inl rfl)) pa_nil)) (pv 1)))
      (pss_cons (ps_asg (pe_op op_fdivW (ix 0 rfl (Or.inl rfl)) (pv 1)) (pg_sub (pv 0) pe_int set_list))
      (pss_one (ps_ret (pv 2))))) pss_nil)
    (pss_cons (ps_asg (pe_op op_add (ix 2 rfl (Or.inl rfl)) pe_int) (pg_sub (pv 0) pe_int set_list))
    (pss_cons (ps_set (i := 3) scCoin.nd rfl (Or.inl rfl) (pe_op op_mod (pe_op op_powB (pe_callTy call_int1 rfl mi (by decide +kernel) (pa_cons (pe_op op_add (ix 1 rfl (Or.inl rfl)) (pe_op op_mul pe_int (ix 2 rfl (Or.inl rfl)))) pa_nil)) pe_int) (pe_op op_add (pe_op op_pow pe_int pe_int) pe_int)))
    (pss_cons (ps_set (i := 3) scCoin.nd rfl (Or.inl rfl) (pe_op op_mod (pe_op op_powB (pe_callTy call_int1 rfl mi (by decide +kernel) (pa_cons (pe_op op_add (pv 3) (pe_op op_mul pe_int (ix 2 rfl (Or.inl rfl)))) pa_nil)) pe_int) (pe_op op_add (pe_op op_pow pe_int pe_int) pe_int)))
    (pss_one (ps_ret (pe_op op_mod (pe_callTy call_int1 rfl mi (by decide +kernel) (pa_cons (pe_op op_fdiv (pv 3) pe_int) pa_nil)) (pv 1))))))), ?_⟩
  refine ⟨_, rfl, p, _, _, _, rfl, rfl, SqL.of hp, rfl, _, _, rfl, rfl, _, rfl, ite2 (fun d => ?_) (fun d => ?_)⟩
  · have cd : CDivW a m := ⟨hm, Nat.lt_trans (PySem.Flt.log2_lt_of (n := m.natAbs) (k := 100) (by decide) (by
      have e : ((2 ^ 100 : Nat) : Int) = 1267650600228229401496703205376 := by decide
      omega)) (by decide)⟩
    refine ⟨_, rfl, p, _, _, _, rfl, rfl, SqL.of hp, rfl, .inl ⟨_, rfl, _, rfl, _, _, rfl, rfl, hm, ?_⟩⟩
    refine ⟨_, rfl, p, _, _, _, rfl, rfl, SqL.of hp, rfl, _, rfl, _, _, rfl, rfl, cd, _, rfl, p, _, _, _, rfl, rfl, hp, rfl, _, rfl, ?_⟩
    exact q _ _ (Int.emod_nonneg _ (by omega)) (Int.emod_lt_of_pos _ hm) ⟨_, _, _, upd_same, Int.ediv_nonneg ha (by omega), hb, hb2, hn, by omega⟩ fun b hb => upd_ne hb
  · have e1 : (10 : Int) ^ Int.toNat 25 + 13 = 10000000000000000000000013 := by decide
    have e2 : (10 : Int) ^ Int.toNat 24 + 7 = 1000000000000000000000007 := by decide
    have hu := @upd_same H p (.lst ([V.int a, V.int b, V.int n].set 2 (.int (n + 1))))
    have g1 : CPowB (b + 2038074743 * (n + 1)) 3 := ⟨by decide, by have := bits100 (z := b + 2038074743 * (n + 1)) (by omega) (by omega); omega⟩
    have z1 := Int.emod_nonneg ((b + 2038074743 * (n + 1)) ^ Int.toNat 3) (by decide : (10 : Int) ^ Int.toNat 25 + 13 ≠ 0)
    have z2 := Int.emod_lt_of_pos ((b + 2038074743 * (n + 1)) ^ Int.toNat 3) (by decide : (0 : Int) < (10 : Int) ^ Int.toNat 25 + 13)
    have g2 : ∀ y : Int, 0 ≤ y → y < (10 : Int) ^ Int.toNat 25 + 13 → CPowB (y + 982451653 * (n + 1)) 2 := fun y h1 h2 =>
      ⟨by decide, by have := bits100 (z := y + 982451653 * (n + 1)) (by omega) (by omega); omega⟩
    refine ⟨_, rfl, p, _, _, _, rfl, rfl, SqL.of hp, rfl, _, _, rfl, rfl, _, rfl, p, _, _, _, rfl, rfl, hp, rfl, ?_⟩
    refine ⟨_, rfl, p, _, _, _, rfl, rfl, SqL.of hu, rfl, _, rfl, p, _, _, _, rfl, rfl, SqL.of hu, rfl, _, _, rfl, rfl, .inl ⟨by decide, by decide⟩, _, _, rfl, rfl, .inl ⟨_, rfl, _, _, rfl, rfl, g1,
      _, _, rfl, rfl, ⟨by decide, by decide, by decide⟩, _, _, rfl, rfl, _, _, rfl, rfl, (by show (0 : Int) < 10 ^ Int.toNat 25 + 13; decide), ?_⟩⟩
    refine ⟨_, rfl, _, rfl, p, _, _, _, rfl, rfl, SqL.of hu, rfl, _, _, rfl, rfl, .inl ⟨by decide, by decide⟩, _, _, rfl, rfl, .inl ⟨_, rfl, _, _, rfl, rfl, g2 _ z1 z2,
      _, _, rfl, rfl, ⟨by decide, by decide, by decide⟩, _, _, rfl, rfl, _, _, rfl, rfl, (by show (0 : Int) < 10 ^ Int.toNat 24 + 7; decide), ?_⟩⟩
    refine ⟨_, rfl, _, _, rfl, rfl, ⟨by decide, by decide⟩, .inl ⟨_, rfl, _, rfl, _, _, rfl, rfl, hm, ?_⟩⟩
    exact q _ _ (Int.emod_nonneg _ (by omega)) (Int.emod_lt_of_pos _ hm) ⟨_, _, _, hu, ha, hb, hb2, by omega, by omega⟩ fun b hb => upd_ne hb
end
end LW
set_option Elab.async false
set_option linter.all false
set_option maxRecDepth 100000
set_option maxHeartbeats 4000000
namespace LW
open PySem PySem.Spec PyProof.Rows L2 KV
/-! ### isinstance of data -/
def tyName : PyData → String
  | .none => "NoneType"
  | .bool _ => "bool"
  | .int _ => "int"
  | .str _ => "str"
  | .list _ => "list"
  | .tuple _ => "tuple"
  | .dict _ => "dict"
theorem dp_ty {K : PySem.W.Frag} {H : Hp} {v : V} {d : PyData} (o : Dp K H v d) : TyX K H v (.type (tyName d)) := by
  cases o with
  | non => exact .base .non
  | bl b => exact .base (.bl b)
  | int i => exact .base (.int i)
  | str x => exact .base (.str x)
  | lst h _ =>
    rcases h with (h | ⟨o, h⟩) | ⟨o, its, n, hk, hc, _⟩
    · exact .base (.lst h)
    · exact .base (.frz h)
    · exact .kList hk hc
  | tup h _ =>
    rcases h with (h | ⟨o, h⟩) | ⟨o, its, n, hk, hc, _⟩
    · exact .base (.tup h)
    · exact .fTuple h
    · exact .kTuple hk hc
theorem ow_ty {K : PySem.W.Frag} {H : Hp} {v : V} {d : PyData} {F : Fp} (o : Ow H v d F) : TyX K H v (.type (tyName d)) := dp_ty o.dp
def isList : PyData → Bool
  | .list _ => true
  | _ => false
def isTuple : PyData → Bool
  | .tuple _ => true
  | _ => false
theorem kit_list {K : PySem.W.Frag} : ∀ d : PyData, PySem.W.kitOne K (.type (tyName d)) (.type "list") = some (isList d)
  | .none => kit_ty (show kitB "NoneType" "list" = some false by decide +kernel)
  | .bool _ => kit_ty (show kitB "bool" "list" = some false by decide +kernel)
  | .int _ => kit_ty (show kitB "int" "list" = some false by decide +kernel)
  | .str _ => kit_ty (show kitB "str" "list" = some false by decide +kernel)
  | .list _ => kit_ty (show kitB "list" "list" = some true by decide +kernel)
  | .tuple _ => kit_ty (show kitB "tuple" "list" = some false by decide +kernel)
  | .dict _ => kit_ty (show kitB "dict" "list" = some false by decide +kernel)
theorem kit_tuple {K : PySem.W.Frag} : ∀ d : PyData, PySem.W.kitOne K (.type (tyName d)) (.type "tuple") = some (isTuple d)
  | .none => kit_ty (show kitB "NoneType" "tuple" = some false by decide +kernel)
  | .bool _ => kit_ty (show kitB "bool" "tuple" = some false by decide +kernel)
  | .int _ => kit_ty (show kitB "int" "tuple" = some false by decide +kernel)
  | .str _ => kit_ty (show kitB "str" "tuple" = some false by decide +kernel)
  | .list _ => kit_ty (show kitB "list" "tuple" = some false by decide +kernel)
  | .tuple _ => kit_ty (show kitB "tuple" "tuple" = some true by decide +kernel)
  | .dict _ => kit_ty (show kitB "dict" "tuple" = some false by decide +kernel)
theorem kit_seq {K : PySem.W.Frag} (d : PyData) : PySem.W.kitAny K (.type (tyName d)) [.type "list", .type "tuple"] = some (isList d || isTuple d) := by
  refine kitAny_cons (kit_list d) (fun e => ?_) fun e => by rw [e]; rfl
  refine kitAny_cons (kit_tuple d) (fun e2 => ?_) fun e2 => by rw [e2, Bool.or_true]
  rw [e, e2]
  exact kitAny_nil

end LW
set_option Elab.async false
set_option linter.all false
set_option maxRecDepth 100000
set_option maxHeartbeats 4000000
namespace LW
open PySem PySem.Spec PyProof.Rows L2 KV
theorem But.off {p : Addr} {H H' : Hp} (h : But p H H') : Off (fun a => a = p) H H' := fun a o e n => (h a n).trans e
theorem Pu.lst {H : Hp} {p : Addr} {c : Nat} (h : Pu H p c) : ∃ xs, H p = some (.lst xs) := by
  obtain ⟨a, b, n, e, _⟩ := h
  exact ⟨_, e⟩
theorem Pu.off {H H' : Hp} {p : Addr} {c : Nat} {G : Fp} (h : Pu H p c) (k : Off G H H') (n : ¬ G p) : Pu H' p c := by
  obtain ⟨a, b, m, h1, h2⟩ := h
  exact ⟨a, b, m, k _ _ h1 n, h2⟩
theorem small4000 {n : Nat} (h : n ≤ 4000) : n < sizeLine := Nat.lt_of_le_of_lt h (by decide)
/-! ### copies: new lists all through -/
def spCopied (K : PySem.W.Frag) (n : Nat) : Sp := fun vs H Q _ => ∃ (v : V) (d : PyData) (b : Nat) (ms : List Nat), vs = [v] ∧ Dp K H v d ∧ Fit b ms d ∧ (∀ m ∈ ms, m ≤ 4000) ∧ ms.length < n ∧
  ∀ v' F' H', Ow H' v' d F' → (∀ a, F' a → H a = none) → Off (fun _ => False) H H' → Q v' H'
theorem copy_leaf {K : PySem.W.Frag} {H : Hp} {v : V} {d : PyData} (o : Dp K H v d) (h : isList d = false) (h2 : isTuple d = false) : Ow H v d fun _ => False := by
  cases o with
  | non => exact .non fun _ z => z
  | bl b => exact .bl b fun _ z => z
  | int i => exact .int i fun _ z => z
  | str x => exact .str x fun _ z => z
  | lst _ _ => cases h
  | tup _ _ => cases h2
theorem dp_list {K : PySem.W.Frag} {H : Hp} {v : V} {d : PyData} (o : Dp K H v d) (h : isList d = true) : ∃ a xs ds, v = .ref a ∧ d = .list ds ∧ SqL K H a xs ∧ DpAll K H xs ds := by
  cases o with
  | lst h0 r => exact ⟨_, _, _, rfl, rfl, h0, r⟩
  | _ => cases h
theorem dp_tuple {K : PySem.W.Frag} {H : Hp} {v : V} {d : PyData} (o : Dp K H v d) (h : isTuple d = true) : ∃ a xs ds, v = .ref a ∧ d = .tuple ds ∧ SqT K H a xs ∧ DpAll K H xs ds := by
  cases o with
  | tup h0 r => exact ⟨_, _, _, rfl, rfl, h0, r⟩
  | _ => cases h
/-- one turn of the loop over the items -/
theorem copy_turn {K : PySem.W.Frag} {H H' : Hp} {n b i D : Nat} {ds : List PyData} {xs : List V} {ms : List Nat} {m : Nat} {x : V} (r : DpAll K H xs ds) (hfs : ∀ e ∈ ds, Fit b ms e) (hm : ∀ k ∈ m :: ms, k ≤ 4000) (hk : ms.length < n) (hl : ds.length ≤ m)
    (hD : H D = none) (hx : xs[i]? = some x) (g : Grow (fun _ => False) H D (ds.take i) H') :
    spCopied K n [x] H' (fun y H4 => ∃ acc, H4 D = some (.lst acc) ∧ acc.length < sizeLine ∧ Grow (fun _ => False) H D (ds.take (i + 1)) (upd H4 D (.lst (acc ++ [y])))) E0 := by
  obtain ⟨d1, e1, o1⟩ := dpAll_at r hx
  obtain ⟨_, _, _, _, _, _, off⟩ := id g
  have hm1 := hm m List.mem_cons_self
  refine ⟨x, d1, b, ms, rfl, dp_off off o1, hfs d1 (List.mem_of_getElem? e1), fun k hk => hm k (List.mem_cons_of_mem _ hk), hk, ?_⟩
  intro v' F' H4 o4 f4 k4
  obtain ⟨acc, a1, a2, a3⟩ := g.step hD (fun _ z => z.elim) (fun _ z => z.elim) o4 f4 k4
  refine ⟨acc, a1, by rw [a2, List.length_take]; exact small4000 (by omega), ?_⟩
  rw [List.take_add_one, e1]
  exact a3
section
variable {P : Program} {w : World} {K : PySem.W.Frag} {mg : Str → Option Value} {base : Heap}
theorem none_leftN {f : Addr} {fd : FuncData} {ps : List Str} {sp : Sp} (h : ∀ vs H Q E, ¬ sp vs H Q E) : FnOk P w K mg base CX0 0 f fd ps sp :=
  ⟨fun vs H Q E z => absurd z (h vs H Q E), fun A outer s H args us vs Q E _ _ _ _ z => absurd z (h vs H Q E)⟩
theorem copied_none {vs : List V} {H : Hp} {Q : VK} {E : XK} : ¬ spCopied K 0 vs H Q E := fun h => by
  obtain ⟨_, _, _, _, _, _, _, _, h, _⟩ := h
  exact absurd h (Nat.not_lt_zero _)
end
end LW
set_option Elab.async false
set_option linter.all false
set_option maxRecDepth 100000
set_option maxHeartbeats 4000000
namespace LW
open PySem PySem.Spec PyProof.Rows L2 KV
/-! ### _law_muddle -/
def spMuddle (n : Nat) : Sp := fun vs H Q _ => ∃ (v : V) (d : PyData) (F : Fp) (b : Nat) (ms : List Nat), vs = [v] ∧ Ow H v d F ∧ Fit b ms d ∧ (∀ m ∈ ms, m ≤ 1000) ∧ ms.length < n ∧
  ∀ H', Ow H' v (mud d) F → Off F H H' → Q .non H'
/-- the first i items are muddled -/
def mixed (ds : List PyData) (i : Nat) : List PyData := mudAll (ds.take i) ++ ds.drop i
theorem mixed_at {ds : List PyData} {i : Nat} : (mixed ds i)[i]? = ds[i]? := by
  unfold mixed
  rw [mudAll_map]
  by_cases h : i < ds.length
  · rw [List.getElem?_append_right (by simp; omega)]
    simp [Nat.min_eq_left (Nat.le_of_lt h)]
  · rw [List.getElem?_eq_none (by simp; omega), List.getElem?_eq_none (by omega)]
theorem mixed_set {ds : List PyData} {i : Nat} {d : PyData} (h : ds[i]? = some d) : (mixed ds i).set i (mud d) = mixed ds (i + 1) := by
  obtain ⟨hi, e⟩ := List.getElem?_eq_some_iff.mp h
  unfold mixed
  rw [mudAll_map, mudAll_map, List.set_append_right _ _ (by simp; omega), List.take_add_one, h, List.map_append]
  have e2 : i - (List.map mud (List.take i ds)).length = 0 := by simp; omega
  rw [e2, List.drop_eq_getElem_cons hi, List.append_assoc]
  rfl
theorem mixed_end (ds : List PyData) : mixed ds ds.length = mudAll ds := by simp [mixed]
theorem mixed_start (ds : List PyData) : mixed ds 0 = ds := by simp [mixed, mudAll]
section
variable {P : Program} {w : World} {K : PySem.W.Frag} {mg : Str → Option Value} {base : Heap}
end
end LW
set_option Elab.async false
set_option linter.all false
set_option maxRecDepth 100000
set_option maxHeartbeats 4000000
namespace LW
open PySem PySem.Spec PyProof.Rows L2 KV
/-! ### _law_own -/
/-- sizes that repr takes, also once muddled -/
structure Sz (b : Nat) (ms : List Nat) (d : PyData) : Prop where
  fit : Fit b ms d
  b7 : 7 ≤ b
  dp : ms.length ≤ 5
  w : ∀ m ∈ ms, m ≤ 999
  big : big b (more ms) ≤ sizeLine
theorem big_more (b : Nat) : ∀ ms : List Nat, KV.big b ms ≤ KV.big b (more ms)
  | [] => Nat.le_refl _
  | m :: ms => by
    have ih := big_more b ms
    show 10 * b + 200 + m * (KV.big b ms + 2) ≤ 10 * b + 200 + (m + 1) * (KV.big b (more ms) + 2)
    have h : m * (KV.big b ms + 2) ≤ (m + 1) * (KV.big b (more ms) + 2) := Nat.mul_le_mul (Nat.le_succ _) (by omega)
    omega
theorem Sz.rep {b : Nat} {ms : List Nat} {d : PyData} (s : Sz b ms d) : d.showable = true ∧ d.hasDict = false ∧ d.depth ≤ 60 ∧ d.shown.length ≤ sizeLine :=
  ⟨s.fit.ok.sh, s.fit.ok.nd, Nat.le_trans s.fit.ok.dp (Nat.le_trans s.dp (by decide)), Nat.le_trans s.fit.ok.sz (Nat.le_trans (big_more b ms) s.big)⟩
theorem Sz.mud {b : Nat} {ms : List Nat} {d : PyData} (s : Sz b ms d) : (KV.mud d).showable = true ∧ (KV.mud d).hasDict = false ∧ (KV.mud d).depth ≤ 60 ∧ (KV.mud d).shown.length ≤ sizeLine := by
  have f := (s.fit.mud s.b7).ok
  have l : (more ms).length = ms.length := List.length_map _
  refine ⟨f.sh, f.nd, Nat.le_trans f.dp ?_, Nat.le_trans f.sz s.big⟩
  rw [l]
  exact Nat.le_trans s.dp (by decide)
def spOwn (K : PySem.W.Frag) : Sp := fun vs H Q _ => ∃ (told due : V) (d : PyData) (F : Fp) (b : Nat) (ms : List Nat), vs = [told, due] ∧ Ow H told d F ∧ Dp K H due d ∧ Sz b ms d ∧
  ∀ H', Off F H H' → Q (.bl true) H'
section
variable {P : Program} {w : World} {K : PySem.W.Frag} {mg : Str → Option Value} {base : Heap}
end
end LW
set_option Elab.async false
set_option linter.all false
set_option maxRecDepth 100000
set_option maxHeartbeats 4000000
namespace LW
open PySem PySem.Spec PyProof.Rows L2 KV
/-! ### _law_words -/
/-- one to eight letters from a to z -/
def Title (x : Str) : Prop := 1 ≤ x.length ∧ x.length ≤ 8 ∧ ∀ c ∈ x.cps.toList, 97 ≤ c ∧ c ≤ 122
/-- the text of these signs -/
def tx (l : List Nat) : Str := ⟨l.toArray⟩
theorem tx_len (l : List Nat) : (tx l).length = l.length := by simp [tx, Str.length]
theorem tx_cps (l : List Nat) : (tx l).cps.toList = l := by simp [tx]
theorem tx_inj {a b : List Nat} (h : tx a = tx b) : a = b := by rw [← tx_cps a, h, tx_cps]
theorem str_ext {x y : Str} (h : x.cps.toList = y.cps.toList) : x = y := by
  cases x; cases y
  simpa using h
theorem tx_add (a b : List Nat) : tx a ++ tx b = tx (a ++ b) := str_ext (by
  show (⟨(tx a).cps ++ (tx b).cps⟩ : Str).cps.toList = _
  simp [tx])
theorem tx_join : ∀ l : List Nat, Txt.join "" (l.map fun c => tx [c]) = tx l := by
  intro l
  unfold Txt.join
  rw [StrLaws.glued_eq_join]
  have emp : ("" : Str) = tx [] := by decide +kernel
  induction l with
  | nil => exact emp ▸ rfl
  | cons c r ih =>
    cases r with
    | nil => rfl
    | cons d r =>
      have e : Str.join "" (tx [c] :: tx [d] :: r.map fun c => tx [c]) = tx [c] ++ "" ++ Str.join "" (tx [d] :: r.map fun c => tx [c]) := rfl
      show Str.join "" (tx [c] :: tx [d] :: r.map fun c => tx [c]) = _
      have ih' : Str.join "" (tx [d] :: r.map fun c => tx [c]) = tx (d :: r) := ih
      rw [e, ih', emp, tx_add, tx_add]
      rfl
theorem tx_cut {l : List Nat} {k : Int} (h : 0 ≤ k) : cutS (tx l) none (some k) = tx (l.take k.toNat) := by
  refine str_ext ?_
  have hk : ¬ k < 0 := by omega
  unfold cutS
  simp [HT.sIx, hk, tx, Str.length]
theorem title_tx {l : List Nat} : Title (tx l) ↔ 1 ≤ l.length ∧ l.length ≤ 8 ∧ ∀ c ∈ l, 97 ≤ c ∧ c ≤ 122 := by
  unfold Title
  rw [tx_len, tx_cps]
/-- the letters -/
theorem abc_at {i : Int} (h0 : 0 ≤ i) (h1 : i < 26) : atI ("abcdefghijklmnopqrstuvwxyz" : Str).cps.toList i = some (97 + i.toNat) := by
  have all : ∀ k : Fin 26, ("abcdefghijklmnopqrstuvwxyz" : Str).cps.toList[k.val]? = some (97 + k.val) := by decide +kernel
  have e : ((i.toNat : Nat) : Int) = i := by omega
  have q : ("abcdefghijklmnopqrstuvwxyz" : Str).cps.toList[i.toNat]? = some (97 + i.toNat) := all ⟨i.toNat, by omega⟩
  generalize i.toNat = k at e q
  rw [← e]
  exact atI_nat q
def menuL : List Str := ["all", "as", "key", "id", "town", "table", "is", "same", "missing", "settles", "pair", "left", "a", "b"]
def menuF (k : Nat) : Str := menuL.getD (k % 14) ""
theorem menu_at (k : Nat) : menuL[k % 14]? = some (menuF k) := by
  have h : k % 14 < menuL.length := Nat.mod_lt _ (by decide)
  unfold menuF
  rw [List.getD_eq_getElem?_getD, List.getElem?_eq_getElem h]
  rfl
theorem menu_title (k : Nat) : Title (menuF k) := by
  have all : ∀ j : Fin 14, 1 ≤ (menuL.getD j.val "").length ∧ (menuL.getD j.val "").length ≤ 8 ∧ (menuL.getD j.val "").cps.toList.all (fun c => decide (97 ≤ c ∧ c ≤ 122)) = true := by decide +kernel
  have q := all ⟨k % 14, Nat.mod_lt _ (by decide)⟩
  exact ⟨q.1, q.2.1, fun c hc => of_decide_eq_true (List.all_eq_true.mp q.2.2 c hc)⟩
theorem menu_inj {a b : Nat} (h : menuF a = menuF b) : a % 14 = b % 14 := by
  have all : ∀ i j : Fin 14, menuL.getD i.val "" = menuL.getD j.val "" → i.val = j.val := by decide +kernel
  exact all ⟨a % 14, Nat.mod_lt _ (by decide)⟩ ⟨b % 14, Nat.mod_lt _ (by decide)⟩ h
/-- a range of texts -/
def rgS (f : Nat → Str) (i : Nat) : List V := ((List.range i).map f).map V.str
theorem rgS_len (f : Nat → Str) (i : Nat) : (rgS f i).length = i := by simp [rgS]
theorem rgS_succ (f : Nat → Str) (i : Nat) : rgS f i ++ [V.str (f i)] = rgS f (i + 1) := by simp [rgS, List.range_succ]
theorem nd_range {f : Nat → Str} {n : Nat} (h : ∀ i j, i < j → j < n → f i ≠ f j) : ((List.range n).map f).Nodup := by
  rw [List.Nodup, List.pairwise_map]
  refine List.Pairwise.imp_of_mem ?_ List.nodup_range |>.imp fun h => h
  intro a b ha hb ne
  rw [List.mem_range] at ha hb
  rcases Nat.lt_or_gt_of_ne ne with c | c
  · exact h a b c hb
  · exact fun e => h b a c ha e.symm
def spWords : Sp := fun vs H Q _ => ∃ (p : Addr) (m c : Nat), vs = [.ref p, .int (m : Int)] ∧ m ≤ 100 ∧ Pu H p c ∧ c + 10 ≤ 1000000000 ∧
  ∀ (ws : List Str) (D : Addr) (H' : Hp) (c' : Nat), ws.length = m → (∀ x ∈ ws, Title x) → ws.Nodup → H D = none → H' D = some (.lst (ws.map V.str)) → Pu H' p c' → c' ≤ c + 10 → Off (fun a => a = p) H H' → Q (.ref D) H'
section
variable {P : Program} {w : World} {K : PySem.W.Frag} {mg : Str → Option Value} {base : Heap}
theorem scWords : FnScope ["purse", "many", "letters", "way", "menu", "stem", "start", "turn", "rank"] ["purse", "many"] (defScope sWords) := ⟨rfl, rfl, rfl, by decide +kernel, rfl, by decide +kernel, by decide +kernel⟩
theorem ok_words {f fC : Addr} {fd dC : FuncData} (F : FnP K "_law_words" sWords f fd) (FC : FnP K "_law_coin" sCoin fC dC) (bC : Binds K dC ["purse", "many"] []) (mC : mg "_law_coin" = some (.ref fC)) (mi : mg "int" = none) (mr : mg "range" = none) :
    FnOk P w K mg base CX0 2 f fd ["purse", "many"] spWords := by
  have GC : FnOk P w K mg base CX0 1 fC dC ["purse", "many"] spCoin := ok_coin FC mi
  refine F.ok scWords (fun vs H Q E h => ?_) (fun cdv A outer s H vs Q E hr h => ?_)
  · obtain ⟨p, m, c, rfl, _⟩ := h
    rfl
  obtain ⟨p, m, c, rfl, hm, hp, hc, q⟩ := h
  refine ⟨_, pss_cons (ps_asg (pe_tup (pa_cons pe_str (pa_cons (pe_call GC hr rfl mC FC.kp bC .nil pass0 (pa_cons (pv 0) (pa_cons pe_int pa_nil))) pa_nil)))
      (pg_tup rfl (pgs_cons (pg_name (i := 2) scWords.nd rfl (Or.inr rfl)) (pgs_cons (pg_name (i := 3) scWords.nd rfl (Or.inl rfl)) pgs_nil))))
    (pss_cons (ps_set (i := 4) scWords.nd rfl (Or.inr rfl) (pe_lst (pa_cons pe_str (pa_cons pe_str (pa_cons pe_str (pa_cons pe_str (pa_cons pe_str (pa_cons pe_str (pa_cons pe_str (pa_cons pe_str (pa_cons pe_str (pa_cons pe_str (pa_cons pe_str (pa_cons pe_str (pa_cons pe_str (pa_cons pe_str pa_nil))))))))))))))))
    (pss_cons (ps_set (i := 5) scWords.nd rfl (Or.inr rfl) (pe_join pe_str (pe_lc (own := [("turn", 7)]) (g := gName 7) (tt := tYes) rfl scWords.nd (pi_range1 rfl mr (pa_cons pe_int pa_nil))
        (blkOk_by (own := [("turn", 7)]) (N := ["purse", "many", "letters", "way", "menu", "stem", "start", "turn", "rank"]) (sc := defScope sWords) (by decide +kernel))
        (fun _ _ _ _ _ => pg_name (i := 7) scWords.nd rfl (Or.inl rfl)) (fun _ _ _ _ _ => pts_nil)
        (fun _ _ _ _ _ => pe_ix ix_str (pv 2) (pe_call GC hr rfl mC FC.kp bC .nil pass0 (pa_cons (pv 0) (pa_cons pe_int pa_nil))) (fun _ _ => rfl)))))
    (pss_cons (ps_if (PW.pt (pw_and (pt_cmpR op_eq (pv 3) pe_int (nomark _)) (pw_and1 (pt_cmpR op_lt (pv 1) pe_int (nomark _)))))
      (pss_cons (ps_set (i := 6) scWords.nd rfl (Or.inr rfl) (pe_call GC hr rfl mC FC.kp bC .nil pass0 (pa_cons (pv 0) (pa_cons pe_int pa_nil))))
        (pss_one (ps_ret (pe_lc (own := [("rank", 8)]) (g := gName 8) (tt := tYes) (te := tOp (rIxL K) (tVar 4) (tOp (rI (fun _ j => 0 < j) fun i j => .int (i % j)) (tCB (fun xs H Q => (∃ i, xs = [.int i] ∧ Q (.int i) H) ∨ ∃ k, xs = [.bl k] ∧ Q (.int (if k then 1 else 0)) H) (tCons (tOp (rI0 fun i j => .int (i + j)) (tVar 6) (tOp (rI CMul fun i j => .int (i * j)) (tC (.int 3)) (tVar 8))) tNil)) (tC (.int 14)))) rfl scWords.nd (pi_range1 rfl mr (pa_cons (pv 1) pa_nil))
          (blkOk_by (own := [("rank", 8)]) (N := ["purse", "many", "letters", "way", "menu", "stem", "start", "turn", "rank"]) (sc := defScope sWords) (by decide +kernel))
          (fun _ _ _ _ _ => pg_name (i := 8) scWords.nd rfl (Or.inl rfl)) (fun _ _ _ _ _ => pts_nil)
          (fun _ _ _ _ _ => pe_ix ix_list (pv 4) (pe_op op_mod (pe_callTy call_int1 rfl mi (by decide +kernel) (pa_cons (pe_op op_add (pv 6) (pe_op op_mul pe_int (pv 8))) pa_nil)) pe_int) (fun _ _ => rfl)))))) pss_nil)
    (pss_cons (ps_if (PW.pt (pw_and (pt_cmpR op_eq (pv 3) pe_int (nomark _)) (pw_and1 (pt_cmpR op_lt (pv 1) pe_int (nomark _)))))
      (pss_one (ps_ret (pe_lc (own := [("rank", 8)]) (g := gName 8) (tt := tYes) rfl scWords.nd (pi_range1 rfl mr (pa_cons (pv 1) pa_nil))
          (blkOk_by (own := [("rank", 8)]) (N := ["purse", "many", "letters", "way", "menu", "stem", "start", "turn", "rank"]) (sc := defScope sWords) (by decide +kernel))
          (fun _ _ _ _ _ => pg_name (i := 8) scWords.nd rfl (Or.inl rfl)) (fun _ _ _ _ _ => pts_nil)
          (fun _ _ _ _ _ => pe_slice sl_str (pv 5) po_none (po_some (pe_op op_add (pv 8) pe_int)))))) pss_nil)
    (pss_cons (ps_set (i := 6) scWords.nd rfl (Or.inr rfl) (pe_call GC hr rfl mC FC.kp bC .nil pass0 (pa_cons (pv 0) (pa_cons pe_int pa_nil))))
    (pss_one (ps_ret (pe_lc (own := [("rank", 8)]) (g := gName 8) (tt := tYes) rfl scWords.nd (pi_range1 rfl mr (pa_cons (pv 1) pa_nil))
          (blkOk_by (own := [("rank", 8)]) (N := ["purse", "many", "letters", "way", "menu", "stem", "start", "turn", "rank"]) (sc := defScope sWords) (by decide +kernel))
          (fun _ _ _ _ _ => pg_name (i := 8) scWords.nd rfl (Or.inl rfl)) (fun _ _ _ _ _ => pts_nil)
          (fun _ _ _ _ _ => pe_op op_add_str (pe_ix ix_str (pv 2) (pe_op op_mod (pe_callTy call_int1 rfl mi (by decide +kernel) (pa_cons (pe_op op_add (pv 6) (pv 8)) pa_nil)) pe_int) (fun _ _ => rfl))
            (pe_slice sl_str (pv 5) po_none (po_some (pe_op op_fdiv (pv 8) pe_int)))))))))))), ?_⟩
  refine ⟨_, rfl, p, 3, c, rfl, hp, by omega, by decide, by decide, fun way H1 w0 w3 hp1 b1 => ⟨by show 2 ≤ sizeLine; decide, fun tp htp => ⟨tp, _, rfl, SqT.of upd_same, rfl, _, _, rfl, _, _, rfl, ?_⟩⟩⟩
  have pt : p ≠ tp := by
    obtain ⟨xs, ep⟩ := hp1.lst
    exact ne_of_none ep htp
  have hp2 := hp1.at (H' := upd H1 tp (.tup [.str "abcdefghijklmnopqrstuvwxyz", .int way])) (upd_ne pt)
  have off2 : Off (fun a => a = p) H (upd H1 tp (.tup [.str "abcdefghijklmnopqrstuvwxyz", .int way])) := b1.off.trans (Off.new htp)
  refine ⟨rfl, (by show 14 ≤ sizeLine; decide), fun mn hmn => ?_⟩
  generalize upd H1 tp (.tup [.str "abcdefghijklmnopqrstuvwxyz", .int way]) = H2 at hp2 off2 hmn
  have pm : p ≠ mn := by
    obtain ⟨xs, ep⟩ := hp2.lst
    exact ne_of_none ep hmn
  have hm0 : (upd H2 mn (.lst (menuL.map V.str))) mn = some (.lst (menuL.map V.str)) := upd_same
  have hp3 : Pu (upd H2 mn (.lst (menuL.map V.str))) p (c + 1) := hp2.at (upd_ne pm)
  have off3 : Off (fun a => a = p) H (upd H2 mn (.lst (menuL.map V.str))) := off2.trans (Off.new hmn)
  show gName 4 _ _ (upd H2 mn (.lst (menuL.map V.str))) _
  generalize upd H2 mn (.lst (menuL.map V.str)) = H3 at hm0 hp3 off3
  refine ⟨⟨_, rfl⟩, 8, rfl, by decide, by decide, fun D hD => lc_range (lo := 0) (n := 8)
    (fun i H' => ∃ cs : List Nat, H' D = some (.lst (cs.map fun c => V.str (tx [c]))) ∧ cs.length = i ∧ (∀ c ∈ cs, 97 ≤ c ∧ c ≤ 122) ∧ Pu H' p (c + 1 + i) ∧ Off (fun a => a = p) H3 H') ?_ (fun i H' hi g => ?_) fun H' g => ?_⟩
  · obtain ⟨xs, ep⟩ := hp3.lst
    exact ⟨[], upd_same, rfl, fun c hc => absurd hc (by simp), hp3.at (upd_ne (ne_of_none ep hD)), Off.new hD⟩
  · obtain ⟨cs, e1, hl, hs, hp', k'⟩ := g
    obtain ⟨xs, ep⟩ := hp3.lst
    have pD : p ≠ D := ne_of_none ep hD
    refine ⟨rfl, Exists.intro _ ⟨rfl, Exists.intro _ ⟨rfl, p, 26, c + 1 + i, rfl, hp', by omega, by decide, by decide, fun j H4 j0 j7 hp4 b4 => ?_⟩⟩⟩
    refine ⟨_, j, _, rfl, rfl, by decide +kernel, abc_at j0 j7, _, (b4 D (Ne.symm pD)).trans e1, by rw [List.length_map, hl]; exact small1000 (by omega), cs ++ [97 + j.toNat], ?_, by simp [hl], fun z hz => ?_, hp4.at (upd_ne pD), fun a u ea na => ?_⟩
    · rw [upd_same, List.map_append]
      rfl
    · rcases List.mem_append.mp hz with hz | hz
      · exact hs z hz
      · rw [List.mem_singleton.mp hz]
        omega
    · rw [upd_ne (fun z => by rw [z, hD] at ea; cases ea)]
      exact (b4 a na).trans (k' a u ea na)
  obtain ⟨cs, e1, hl, hs, hp4, k4⟩ := g
  have ej : Txt.join "" (cs.map fun c => tx [c]) = tx cs := tx_join cs
  have em : cs.map (fun c => V.str (tx [c])) = (cs.map fun c => tx [c]).map V.str := by rw [List.map_map]; rfl
  rw [em] at e1
  have off4 : Off (fun a => a = p) H H' := off3.trans k4
  have hm4 : H' mn = some (.lst (menuL.map V.str)) := k4 _ _ hm0 (Ne.symm pm)
  refine ⟨_, D, cs.map (fun c => tx [c]), rfl, rfl, .inl (SqL.of e1), ?_, ?_⟩
  · rw [List.map_map, List.length_map, hl]
    have : List.map ((fun x : Str => x.length) ∘ fun c => tx [c]) cs = List.map (fun _ => 1) cs := rfl
    have e0 : ("" : Str).length = 0 := by decide +kernel
    have s1 : ∀ l : List Nat, (l.map fun _ => 1).sum = l.length := fun l => by induction l <;> simp_all <;> omega
    rw [this, e0, s1, hl]
    decide
  rw [ej]
  have fin : ∀ (f : Nat → Str) (H5 : Hp) (c5 : Nat) (D5 : Addr) (H6 : Hp), Pu H5 p c5 → c5 ≤ c + 10 → Off (fun a => a = p) H H5 → H5 D5 = none → H6 D5 = some (.lst (rgS f m)) → Off (fun _ => False) H5 H6 →
      (∀ r, r < m → Title (f r)) → (∀ i j, i < j → j < m → f i ≠ f j) → Q (.ref D5) H6 := by
    intro f H5 c5 D5 H6 h1 h2 h3 h4 h5 h6 h7 h8
    obtain ⟨xs, ep⟩ := id h1.lst
    have nD : D5 ≠ p := fun z => by
      rw [z, ep] at h4
      cases h4
    refine q ((List.range m).map f) D5 H6 c5 (by simp) (fun x hx => ?_) (nd_range h8) (h3.none h4 nD) h5 (h1.at ((h6 p _ ep id).trans ep.symm)) h2 (h3.trans (h6.mono fun a z => z.elim))
    obtain ⟨r, hr, rfl⟩ := List.mem_map.mp hx
    exact h7 r (List.mem_range.mp hr)
  have len8 : (tx cs).length ≤ sizeLine := by
    rw [tx_len, hl]
    decide
  have cA : way = 0 → m < 15 → ∀ {σ : L2.St} {R : VK} {E : XK}, True := fun _ _ _ _ _ => trivial
  refine ⟨_, rfl, rfl, _, rfl, ?_⟩
  by_cases w1 : way = 0
  rw [decide_eq_true (p := V.int way = V.int 0) (by rw [w1])]
  refine iteT ⟨_, rfl, _, _, rfl, rfl, _, rfl, ite2 (fun m1 => ?_) (fun m1 => ?_)⟩
  · have m2 : m < 15 := by
      have := of_decide_eq_true m1
      omega
    refine ⟨_, rfl, p, 14, c + 1 + 8, rfl, hp4, by omega, by decide, by decide, fun st H5 s0 s14 hp5 b5 => ⟨_, rfl, m, rfl, by omega, by omega, fun D5 hD5 => ?_⟩⟩
    have off5 := off4.trans b5.off
    refine lc_range (lo := 0) (n := m) (fun i H6 => H6 D5 = some (.lst (rgS (fun r => menuF (st.toNat + 3 * r)) i)) ∧ Off (fun _ => False) H5 H6) ⟨upd_same, Off.new hD5⟩ (fun i H6 hi g => ?_) fun H6 g => ?_
    · obtain ⟨g1, g2⟩ := g
      refine ⟨rfl, Exists.intro _ ⟨rfl, Exists.intro _ ⟨rfl, Exists.intro _ ⟨rfl, _, _, rfl, rfl, .inl ⟨by decide, by decide⟩, _, _, rfl, rfl, .inl ⟨_, rfl, _, _, rfl, rfl, (by show (0 : Int) < 14; decide), ?_⟩⟩⟩⟩⟩
      have ek : (st + 3 * (0 + (i : Int))) % 14 = (((st.toNat + 3 * i) % 14 : Nat) : Int) := by omega
      refine ⟨mn, _, (st + 3 * (0 + (i : Int))) % 14, V.str (menuF (st.toNat + 3 * i)), rfl, rfl, SqL.of (g2 _ _ ((b5 mn (Ne.symm pm)).trans hm4) id), ?_, _, g1, by rw [rgS_len]; exact small1000 (by omega), ?_⟩
      · rw [ek]
        exact atI_nat (by rw [List.getElem?_map, menu_at]; rfl)
      exact ⟨by rw [upd_same, rgS_succ], fun a u ea na => by rw [upd_ne (fun z => by rw [z, hD5] at ea; cases ea)]; exact g2 a u ea na⟩
    · obtain ⟨g1, g2⟩ := g
      refine fin _ H5 _ D5 H6 hp5 (by omega) off5 hD5 g1 g2 (fun r hr => ?_) (fun a b h1 h2 z => ?_)
      · exact menu_title _
      · have := menu_inj z
        omega
  rotate_left
  rw [decide_eq_false (p := V.int way = V.int 0) fun z => w1 (by cases z; rfl)]
  refine iteF (iteF ?_)
  all_goals
    refine ⟨_, rfl, rfl, _, rfl, ?_⟩
    by_cases w2 : way = 1
    rw [decide_eq_true (p := V.int way = V.int 1) (by rw [w2])]
    refine iteT ⟨_, rfl, _, _, rfl, rfl, _, rfl, ite2 (fun m2 => ?_) (fun m2 => ?_)⟩
    · have m3 : m < 9 := by
        have := of_decide_eq_true m2
        omega
      refine ⟨_, rfl, m, rfl, by omega, by omega, fun D5 hD5 => ?_⟩
      refine lc_range (lo := 0) (n := m) (fun i H6 => H6 D5 = some (.lst (rgS (fun r => tx (cs.take (r + 1))) i)) ∧ Off (fun _ => False) H' H6) ⟨upd_same, Off.new hD5⟩ (fun i H6 hi g => ?_) fun H6 g => ?_
      · obtain ⟨g1, g2⟩ := g
        have ek : (0 + (i : Int) + 1).toNat = i + 1 := by omega
        have ec := tx_cut (l := cs) (k := 0 + (i : Int) + 1) (by omega)
        rw [ek] at ec
        refine ⟨rfl, Exists.intro _ ⟨rfl, Exists.intro _ ⟨rfl, _, _, rfl, rfl, _, rfl, _, rfl, len8, _, g1, by rw [rgS_len]; exact small1000 (by omega), ?_⟩⟩⟩
        rw [ec]
        exact ⟨by rw [upd_same, rgS_succ (fun r => tx (cs.take (r + 1)))], fun a u ea na => by rw [upd_ne (fun z => by rw [z, hD5] at ea; cases ea)]; exact g2 a u ea na⟩
      · obtain ⟨g1, g2⟩ := g
        refine fin _ H' _ D5 H6 hp4 (by omega) off4 hD5 g1 g2 (fun r hr => ?_) (fun a b h1 h2 z => ?_)
        · refine title_tx.mpr ⟨by rw [List.length_take]; omega, by rw [List.length_take]; omega, fun c hc => hs c (List.mem_of_mem_take hc)⟩
        · have := congrArg List.length (tx_inj z)
          rw [List.length_take, List.length_take] at this
          omega
    rotate_left
    rw [decide_eq_false (p := V.int way = V.int 1) fun z => w2 (by cases z; rfl)]
    refine iteF (iteF ?_)
    all_goals
      refine ⟨_, rfl, p, 26, c + 1 + 8, rfl, hp4, by omega, by decide, by decide, fun st H5 s0 s26 hp5 b5 => ⟨_, rfl, m, rfl, by omega, by omega, fun D5 hD5 => ?_⟩⟩
      have off5 := off4.trans b5.off
      refine lc_range (lo := 0) (n := m) (fun i H6 => H6 D5 = some (.lst (rgS (fun r => tx ((97 + (st.toNat + r) % 26) :: cs.take (r / 26))) i)) ∧ Off (fun _ => False) H5 H6) ⟨upd_same, Off.new hD5⟩ (fun i H6 hi g => ?_) fun H6 g => ?_
      · obtain ⟨g1, g2⟩ := g
        have ek : ((st + (0 + (i : Int))) % 26).toNat = (st.toNat + i) % 26 := by omega
        have e2 : ((0 + (i : Int)) / 26).toNat = i / 26 := by omega
        have ea := abc_at (i := (st + (0 + (i : Int))) % 26) (by omega) (by omega)
        rw [ek] at ea
        have ec := tx_cut (l := cs) (k := (0 + (i : Int)) / 26) (by omega)
        rw [e2] at ec
        refine ⟨rfl, Exists.intro _ ⟨rfl, Exists.intro _ ⟨rfl, Exists.intro _ ⟨rfl, _, _, rfl, rfl, .inl ⟨_, rfl, _, _, rfl, rfl, (by show (0 : Int) < 26; decide), _, _, _, rfl, rfl, by decide +kernel, ea, Exists.intro _ ⟨rfl, Exists.intro _ ⟨rfl, _, _, rfl, rfl, ⟨by decide, by decide⟩, _, rfl, _, rfl, len8, _, _, rfl, rfl, ?_, _, g1, by rw [rgS_len]; exact small1000 (by omega), ?_⟩⟩⟩⟩⟩⟩⟩
        · rw [ec]
          show (tx [97 + (st.toNat + i) % 26]).length + _ ≤ _
          rw [tx_len, tx_len, List.length_take]
          show 1 + _ ≤ 16777216
          omega
        · rw [ec]
          have ej2 : (⟨#[97 + (st.toNat + i) % 26]⟩ : Str) ++ tx (cs.take (i / 26)) = tx ((97 + (st.toNat + i) % 26) :: cs.take (i / 26)) := tx_add [97 + (st.toNat + i) % 26] (cs.take (i / 26))
          rw [ej2]
          exact ⟨by rw [upd_same, rgS_succ (fun r => tx ((97 + (st.toNat + r) % 26) :: cs.take (r / 26)))], fun a u ea na => by rw [upd_ne (fun z => by rw [z, hD5] at ea; cases ea)]; exact g2 a u ea na⟩
      · obtain ⟨g1, g2⟩ := g
        refine fin _ H5 _ D5 H6 hp5 (by omega) off5 hD5 g1 g2 (fun r hr => ?_) (fun a b h1 h2 z => ?_)
        · refine title_tx.mpr ⟨by simp, by rw [List.length_cons, List.length_take]; omega, fun c hc => ?_⟩
          rcases List.mem_cons.mp hc with hc | hc
          · omega
          · exact hs c (List.mem_of_mem_take hc)
        · have z1 := tx_inj z
          have z2 := (List.cons.inj z1).1
          have z3 := congrArg List.length (List.cons.inj z1).2
          rw [List.length_take, List.length_take] at z3
          omega
end
end LW
set_option Elab.async false
set_option linter.all false
set_option maxRecDepth 100000
set_option maxHeartbeats 4000000
namespace LW
open PySem PySem.Spec PyProof.Rows L2 KV
/-! ### _law_drawn_tables -/
abbrev Tab := Str × List Str
def colsD (cs : List Str) : PyData := .list (cs.map PyData.str)
def tabD (t : Tab) : PyData := .tuple [.str t.1, colsD t.2]
def tabsD (ts : List Tab) : PyData := .list (ts.map tabD)
structure TabOk (mc : Nat) (t : Tab) : Prop where
  one : 1 ≤ t.2.length
  most : t.2.length ≤ mc
  good : ∀ x ∈ t.2, Title x
  nd : t.2.Nodup
  name : Title t.1
structure TabsOk (mt mc : Nat) (ts : List Tab) : Prop where
  one : 1 ≤ ts.length
  most : ts.length ≤ mt
  nd : (ts.map Prod.fst).Nodup
  each : ∀ t ∈ ts, TabOk mc t
/-- texts have no lists -/
theorem owAll_strs {H : Hp} {F : Fp} (e : ∀ a, ¬ F a) : ∀ xs : List Str, OwAll H (xs.map V.str) (xs.map PyData.str) F
  | [] => .nil e
  | x :: xs => .cons (.str x e) (owAll_strs e xs) (fun a z _ => e a z) fun a => ⟨.inl, fun z => z.elim id id⟩
/-- a list of texts -/
theorem ow_strs {H : Hp} {D : Addr} {xs : List Str} (h : H D = some (.lst (xs.map V.str))) : Ow H (.ref D) (colsD xs) fun a => a = D :=
  .lst h (owAll_strs (F := fun _ => False) (fun _ z => z) xs) (fun z => z) fun a => ⟨.inl, fun z => z.elim id False.elim⟩
def spDrawnTables : Sp := fun vs H Q _ => ∃ (p : Addr) (mt mc c : Nat), vs = [.ref p, .int (mt : Int), .int (mc : Int)] ∧ 1 ≤ mt ∧ mt ≤ 20 ∧ 1 ≤ mc ∧ mc ≤ 20 ∧ Pu H p c ∧ c + 300 ≤ 1000000000 ∧
  ∀ (ts : List Tab) (D : Addr) (F : Fp) (H' : Hp) (c' : Nat), TabsOk mt mc ts → Ow H' (.ref D) (tabsD ts) F → (∀ a, F a → H a = none) → Pu H' p c' → c' ≤ c + 300 → Off (fun a => a = p) H H' → Q (.ref D) H'
section
variable {P : Program} {w : World} {K : PySem.W.Frag} {mg : Str → Option Value} {base : Heap}
theorem scDrawnTables : FnScope ["purse", "most_tables", "most_columns", "found", "title"] ["purse", "most_tables", "most_columns"] (defScope sDrawnTables) := ⟨rfl, rfl, rfl, by decide +kernel, rfl, by decide +kernel, by decide +kernel⟩
theorem ok_drawnTables {f fC fW : Addr} {fd dC dW : FuncData} (F : FnP K "_law_drawn_tables" sDrawnTables f fd) (FC : FnP K "_law_coin" sCoin fC dC) (bC : Binds K dC ["purse", "many"] []) (mC : mg "_law_coin" = some (.ref fC))
    (FW : FnP K "_law_words" sWords fW dW) (bW : Binds K dW ["purse", "many"] []) (mW : mg "_law_words" = some (.ref fW)) (mi : mg "int" = none) (mr : mg "range" = none) :
    FnOk P w K mg base CX0 3 f fd ["purse", "most_tables", "most_columns"] spDrawnTables := by
  have GC : FnOk P w K mg base CX0 2 fC dC ["purse", "many"] spCoin := (ok_coin FC mi).mono (by decide)
  have GW : FnOk P w K mg base CX0 2 fW dW ["purse", "many"] spWords := ok_words FW FC bC mC mi mr
  refine F.ok scDrawnTables (fun vs H Q E h => ?_) (fun cdv A outer s H vs Q E hr h => ?_)
  · obtain ⟨p, mt, mc, c, rfl, _⟩ := h
    rfl
  obtain ⟨p, mt, mc, c, rfl, t1, t2, c1, c2, hp, hc, q⟩ := h
  refine ⟨_, PSs.nox (pss_cons (ps_set (i := 3) scDrawnTables.nd rfl (Or.inl rfl) (pe_lst pa_nil))
    (pss_cons (ps_for PassesOwn.never rfl (pi_list (pe_call GW hr rfl mW FW.kp bW .nil pass0 (pa_cons (pv 0) (pa_cons (pe_op op_add pe_int (pe_call GC hr rfl mC FC.kp bC .nil pass0 (pa_cons (pv 0) (pa_cons (pv 1) pa_nil)))) pa_nil)))) (pg_name (i := 4) scDrawnTables.nd rfl (Or.inl rfl))
      (pss_one (ps_expr (pe_bm PySem.F.plainAttrs_list PySem.F.slot_list_append PySem.F.type_list_append mt_append (pv 3)
        (pa_cons (pe_tup (pa_cons (pv 4) (pa_cons (pe_call GW hr rfl mW FW.kp bW .nil pass0 (pa_cons (pv 0) (pa_cons (pe_op op_add pe_int (pe_call GC hr rfl mC FC.kp bC .nil pass0 (pa_cons (pv 0) (pa_cons (pv 2) pa_nil)))) pa_nil))) pa_nil))) pa_nil)))))
    (pss_one (ps_ret (pv 3))))), ?_⟩
  refine ⟨by decide, fun fo hfo => ?_⟩
  obtain ⟨xs0, ep0⟩ := id hp.lst
  have pf : p ≠ fo := ne_of_none ep0 hfo
  have hp1 : Pu (upd H fo (.lst [])) p c := hp.at (upd_ne pf)
  have g1 : Grow (fun a => a = p) H fo [] (upd H fo (.lst [])) := Grow.start hfo
  generalize upd H fo (.lst []) = H1 at hp1 g1 ⊢
  refine ⟨_, rfl, _, rfl, _, rfl, p, mt, c, rfl, hp1, by omega, by omega, by omega, fun k H2 k0 k1 hp2 b2 => ?_⟩
  refine ⟨_, _, rfl, rfl, p, (1 + k).toNat, c + 1, ?_, by omega, hp2, by omega, fun ws W H3 c3 wl wt wn wf wd hp3 hc3 off3 => ?_⟩
  · rw [show (((1 + k).toNat : Nat) : Int) = 1 + k by omega]
    rfl
  have g3 : Grow (fun a => a = p) H fo [] H3 := by
    obtain ⟨acc, FA, a1, a2, a3, a4, a5⟩ := g1
    cases a2 with
    | nil e => exact ⟨[], FA, off3 _ _ (b2.off _ _ a1 (Ne.symm pf)) (Ne.symm pf), .nil e, a3, a4, a5.trans (b2.off.trans off3)⟩
  have kn : (1 + k).toNat ≤ mt := by omega
  have pW : p ≠ W := fun z => by
    obtain ⟨xs, ep⟩ := hp2.lst
    rw [← z, ep] at wf
    cases wf
  have fW : fo ≠ W := fun z => by
    obtain ⟨acc, FA, a1, a2, a3, a4, a5⟩ := g1
    rw [← z, b2 fo (Ne.symm pf), a1] at wf
    cases wf
  refine ⟨W, rfl, ⟨_, SqL.of wd⟩, for_list (K := K) (a := W) (xs := ws.map V.str)
    (fun i σ H' => ∃ (w : Option V) (ts : List Tab) (c' : Nat), σ = [some (.ref p), some (.int mt), some (.int mc), some (.ref fo), w] ∧ Grow (fun a => a = p) H fo (ts.map tabD) H' ∧ ts.map Prod.fst = ws.take i ∧ (∀ t ∈ ts, TabOk mc t) ∧
      Pu H' p c' ∧ c' ≤ c3 + 11 * i ∧ H' W = some (.lst (ws.map V.str))) ⟨none, [], c3, rfl, g3, rfl, fun t h => absurd h (by simp), hp3, by omega, wd⟩ (fun i σ H' _ g => ?_) (fun i x σ H' hx g => ?_) fun σ H' g => ?_⟩
  · obtain ⟨_, _, _, _, _, _, _, _, _, e⟩ := g
    exact SqL.of e
  · obtain ⟨w1, ts, c', rfl, g, hn, ht, hp', hc', hW⟩ := g
    rw [List.getElem?_map] at hx
    cases hy : ws[i]? with
    | none => rw [hy] at hx; cases hx
    | some y =>
    rw [hy] at hx
    cases hx
    have hi : i < ws.length := (List.getElem?_eq_some_iff.mp hy).1
    have hi2 : i < 20 := by omega
    obtain ⟨acc, ga1, ga2⟩ := g.len
    have gl : ts.length = i := by
      have := congrArg List.length hn
      rw [List.length_map, List.length_take] at this
      omega
    obtain ⟨xs1, ep1⟩ := hp'.lst
    refine ⟨_, rfl, .inl ⟨rfl, _, SqL.of ga1⟩, _, rfl, _, rfl, _, rfl, _, rfl, p, mc, c', rfl, hp', by omega, by omega, by omega, fun k H4 k0 k1 hp4 b4 => ?_⟩
    refine ⟨_, _, rfl, rfl, p, (1 + k).toNat, c' + 1, ?_, by omega, hp4, by omega, fun cs C H5 c5 cl ct cn cf cd hp5 hc5 off5 => ?_⟩
    · rw [show (((1 + k).toNat : Nat) : Int) = 1 + k by omega]
      rfl
    refine ⟨(by show 2 ≤ sizeLine; decide), fun tp htp => ?_⟩
    have o45 : Off (fun a => a = p) H' (upd H5 tp (.tup [.str y, .ref C])) := (b4.off.trans off5).trans (Off.new htp)
    have pt : p ≠ tp := fun z => by
      obtain ⟨xs, ep⟩ := hp5.lst
      rw [z, htp] at ep
      cases ep
    have Ct : C ≠ tp := fun z => by
      rw [z, htp] at cd
      cases cd
    have nC : H' C = none := b4.off.none cf fun z => by
      obtain ⟨xs, ep⟩ := hp4.lst
      rw [z, ep] at cf
      cases cf
    have ow : Ow (upd H5 tp (.tup [.str y, .ref C])) (.ref tp) (tabD (y, cs)) (fun a => a = C) :=
      .tup upd_same (.cons (F := fun _ => False) (.str y fun _ z => z) (.cons (G := fun _ => False) (ow_strs ((upd_ne Ct).trans cd)) (.nil fun _ z => z) (fun _ _ z => z) fun a => ⟨.inl, fun z => z.elim id False.elim⟩) (fun _ z => z.elim) fun a => ⟨.inr, fun z => z.elim False.elim id⟩)
    obtain ⟨acc2, a1, a2, a3⟩ := g.step hfo (fun a z => by rw [z, ep0]; simp) (fun a z => by rw [z]; exact ⟨_, ep1⟩) ow (fun a z => by rw [z]; exact nC) o45
    refine ⟨fo, acc2, _, rfl, rfl, a1, small1000 (by rw [a2, List.length_map]; omega), some (.str y), ts ++ [(y, cs)], c5, rfl, ?_, ?_, ?_, ?_, by omega, ?_⟩
    · rw [List.map_append]
      exact a3
    · rw [List.map_append, hn, List.take_add_one, hy]
      rfl
    · intro t h
      rcases List.mem_append.mp h with h | h
      · exact ht t h
      · rw [List.mem_singleton.mp h]
        exact ⟨by show 1 ≤ cs.length; omega, by show cs.length ≤ mc; omega, ct, cn, wt y (List.mem_of_getElem? hy)⟩
    · exact (hp5.at (upd_ne pt)).at (upd_ne pf)
    · rw [upd_ne (Ne.symm fW)]
      exact o45 _ _ hW (Ne.symm pW)
  · obtain ⟨w1, ts, c', rfl, g, hn, ht, hp', hc', hW⟩ := g
    rw [List.length_map, List.take_length] at hn
    have tl : ts.length = ws.length := by
      have := congrArg List.length hn
      rwa [List.length_map] at this
    obtain ⟨F', o', f', k'⟩ := g.list hfo
    rw [List.length_map] at hc'
    exact ⟨_, rfl, q ts fo F' H' c' ⟨by omega, by omega, hn ▸ wn, ht⟩ o' f' hp' (by omega) k'⟩
end
end LW
set_option Elab.async false
set_option linter.all false
set_option maxRecDepth 100000
set_option maxHeartbeats 4000000
namespace LW
open PySem PySem.Spec PyProof.Rows L2 KV
/-! ### data without a number: no purse is in it -/
mutual
def noInt : PyData → Bool
  | .int _ => false
  | .dict _ => false
  | .list ds => noIntAll ds
  | .tuple ds => noIntAll ds
  | _ => true
def noIntAll : List PyData → Bool
  | [] => true
  | d :: ds => noInt d && noIntAll ds
end
theorem noIntAll_of : ∀ {ds : List PyData}, (∀ d ∈ ds, noInt d = true) → noIntAll ds = true
  | [], _ => by simp [noIntAll]
  | d :: ds, h => by
    simp only [noIntAll, Bool.and_eq_true]
    exact ⟨h d List.mem_cons_self, noIntAll_of fun e he => h e (List.mem_cons_of_mem _ he)⟩
theorem noIntAll_mem : ∀ {ds : List PyData}, noIntAll ds = true → ∀ d ∈ ds, noInt d = true
  | d :: ds, h, e, he => by
    simp only [noIntAll, Bool.and_eq_true] at h
    rcases List.mem_cons.mp he with z | z
    · exact z ▸ h.1
    · exact noIntAll_mem h.2 e z
theorem noInt_cols (cs : List Str) : noInt (colsD cs) = true := by
  simp only [colsD, noInt]
  refine noIntAll_of fun d h => ?_
  obtain ⟨x, _, rfl⟩ := List.mem_map.mp h
  simp [noInt]
theorem noInt_tab (t : Tab) : noInt (tabD t) = true := by simp [tabD, noInt, noIntAll, noInt_cols]
theorem noInt_tabs (ts : List Tab) : noInt (tabsD ts) = true := by
  simp only [tabsD, noInt]
  refine noIntAll_of fun d h => ?_
  obtain ⟨x, _, rfl⟩ := List.mem_map.mp h
  exact noInt_tab x
section
variable {K : PySem.W.Frag} {H H' : Hp} {p : Addr} {c : Nat}
mutual
theorem dp_but (k : Off (fun a => a = p) H H') (hp : Pu H p c) : ∀ {v : V} {d : PyData}, Dp K H v d → noInt d = true → Dp K H' v d
  | _, _, .non, _ => .non
  | _, _, .bl b, _ => .bl b
  | _, _, .int i, _ => .int i
  | _, _, .str x, _ => .str x
  | _, _, .lst (a := a) (xs := xs) h r, n => by
    simp only [noInt] at n
    refine .lst ?_ (dpAll_but k hp r n)
    rcases h with (h | ⟨o, h⟩) | h
    · refine .inl (.inl (k _ _ h fun z => ?_))
      obtain ⟨x, y, z2, e, _⟩ := hp
      rw [z, e] at h
      cases h
      cases r with
      | cons h0 _ =>
        cases h0
        simp [noIntAll, noInt] at n
    · refine .inl (.inr ⟨o, k _ _ h fun z => ?_⟩)
      obtain ⟨x, y, z2, e, _⟩ := hp
      rw [z, e] at h
      cases h
    · exact .inr h
  | _, _, .tup (a := a) (xs := xs) h r, n => by
    simp only [noInt] at n
    refine .tup ?_ (dpAll_but k hp r n)
    rcases h with (h | ⟨o, h⟩) | h
    · refine .inl (.inl (k _ _ h fun z => ?_))
      obtain ⟨x, y, z2, e, _⟩ := hp
      rw [z, e] at h
      cases h
    · refine .inl (.inr ⟨o, k _ _ h fun z => ?_⟩)
      obtain ⟨x, y, z2, e, _⟩ := hp
      rw [z, e] at h
      cases h
    · exact .inr h
theorem dpAll_but (k : Off (fun a => a = p) H H') (hp : Pu H p c) : ∀ {vs : List V} {ds : List PyData}, DpAll K H vs ds → noIntAll ds = true → DpAll K H' vs ds
  | _, _, .nil, _ => .nil
  | _, _, .cons h r, n => by
    simp only [noIntAll, Bool.and_eq_true] at n
    exact .cons (dp_but k hp h n.1) (dpAll_but k hp r n.2)
end
/-- the parts of tables -/
theorem dp_tabs {v : V} {ts : List Tab} (h : Dp K H v (tabsD ts)) : ∃ a xs, v = .ref a ∧ SqL K H a xs ∧ DpAll K H xs (ts.map tabD) := by
  cases h with
  | lst h r => exact ⟨_, _, rfl, h, r⟩
theorem dp_tab {v : V} {t : Tab} (h : Dp K H v (tabD t)) : ∃ a w, v = .ref a ∧ SqT K H a [.str t.1, w] ∧ Dp K H w (colsD t.2) := by
  cases h with
  | tup h r =>
    cases r with
    | cons h1 r1 =>
      cases r1 with
      | cons h2 r2 =>
        cases r2
        cases h1
        exact ⟨_, _, rfl, h, h2⟩
theorem dpAll_strs : ∀ {xs : List V} {cs : List Str}, DpAll K H xs (cs.map PyData.str) → xs = cs.map V.str
  | _, [], .nil => rfl
  | _, c :: cs, .cons h r => by
    cases h
    rw [dpAll_strs r]
    rfl
theorem dp_cols {v : V} {cs : List Str} (h : Dp K H v (colsD cs)) : ∃ a, v = .ref a ∧ SqL K H a (cs.map V.str) := by
  cases h with
  | lst h r => exact ⟨_, rfl, dpAll_strs r ▸ h⟩
end
/-- the same, at a known place -/
theorem dp_tabs_ref {K : PySem.W.Frag} {H : Hp} {a : Addr} {ts : List Tab} (h : Dp K H (.ref a) (tabsD ts)) : ∃ xs, SqL K H a xs ∧ DpAll K H xs (ts.map tabD) ∧ xs.length = ts.length := by
  obtain ⟨b, xs, e, h1, h2⟩ := dp_tabs h
  cases e
  exact ⟨xs, h1, h2, by rw [dpAll_length h2, List.length_map]⟩
theorem dp_cols_ref {K : PySem.W.Frag} {H : Hp} {a : Addr} {cs : List Str} (h : Dp K H (.ref a) (colsD cs)) : SqL K H a (cs.map V.str) := by
  obtain ⟨b, e, h1⟩ := dp_cols h
  cases e
  exact h1
/-- the table at a place -/
theorem tab_at {K : PySem.W.Frag} {H : Hp} {a : Addr} {ts : List Tab} {k : Int} (h : Dp K H (.ref a) (tabsD ts)) (k0 : 0 ≤ k) (k1 : k < (ts.length : Int)) :
    ∃ xs t ta ca, SqL K H a xs ∧ atI xs k = some (.ref ta) ∧ t ∈ ts ∧ ts[k.toNat]? = some t ∧ SqT K H ta [.str t.1, .ref ca] ∧ Dp K H (.ref ca) (colsD t.2) := by
  obtain ⟨xs, h1, h2, h3⟩ := dp_tabs_ref h
  have hk : k.toNat < ts.length := by omega
  have e1 : (ts.map tabD)[k.toNat]? = some (tabD (ts[k.toNat])) := by rw [List.getElem?_map, List.getElem?_eq_getElem hk]; rfl
  obtain ⟨v, e2, e3⟩ := dpAll_at' h2 e1
  obtain ⟨ta, w, rfl, e4, e5⟩ := dp_tab e3
  obtain ⟨ca, rfl, _⟩ := dp_cols e5
  have ek : ((k.toNat : Nat) : Int) = k := by omega
  exact ⟨xs, ts[k.toNat], ta, ca, h1, by rw [← ek]; exact atI_nat e2, List.getElem_mem hk, List.getElem?_eq_getElem hk, e4, e5⟩
theorem col_at {cs : List Str} {k : Int} (k0 : 0 ≤ k) (k1 : k < (cs.length : Int)) : ∃ c, atI (cs.map V.str) k = some (.str c) ∧ c ∈ cs ∧ cs[k.toNat]? = some c := by
  have hk : k.toNat < cs.length := by omega
  have ek : ((k.toNat : Nat) : Int) = k := by omega
  have e : atI (cs.map V.str) ((k.toNat : Nat) : Int) = some (.str cs[k.toNat]) := atI_nat (by rw [List.getElem?_map, List.getElem?_eq_getElem hk]; rfl)
  rw [ek] at e
  exact ⟨cs[k.toNat], e, List.getElem_mem hk, List.getElem?_eq_getElem hk⟩
/-- items of owned tuples -/
theorem owc_str {H : Hp} {x : Str} {vs : List V} {ds : List PyData} {G : Fp} (r : OwAll H vs ds G) : OwAll H (.str x :: vs) (.str x :: ds) G :=
  .cons (F := fun _ => False) (.str x fun _ z => z) r (fun _ z => z.elim) fun a => ⟨.inr, fun z => z.elim False.elim id⟩
theorem owc {H : Hp} {v : V} {d : PyData} {vs : List V} {ds : List PyData} {F : Fp} (h : Ow H v d F) (r : OwAll H vs ds fun _ => False) : OwAll H (v :: vs) (d :: ds) F :=
  .cons h r (fun _ _ z => z) fun a => ⟨.inl, fun z => z.elim id False.elim⟩
theorem ow0 {H : Hp} : OwAll H [] [] fun _ => False := .nil fun _ z => z
/-! ### _law_drawn_rules -/
/-- the table, the columns, the settled one -/
abbrev Rul := Str × List Str × Option Str
def rulD : Rul → PyData
  | (t, cs, none) => .tuple [.str "key", .str t, colsD cs]
  | (t, cs, some c) => .tuple [.str "settles", .str t, colsD cs, .str c]
def rulsD (rs : List Rul) : PyData := .list (rs.map rulD)
def RulOk (ts : List Tab) (r : Rul) : Prop := ∃ t ∈ ts, r.1 = t.1 ∧ r.2.1.Sublist t.2 ∧ ∀ c, r.2.2 = some c → c ∈ t.2
def spDrawnRules (K : PySem.W.Frag) : Sp := fun vs H Q _ => ∃ (p : Addr) (v : V) (ts : List Tab) (mt mc m c : Nat), vs = [.ref p, v, .int (m : Int)] ∧ Dp K H v (tabsD ts) ∧ TabsOk mt mc ts ∧ mt ≤ 20 ∧ mc ≤ 20 ∧ m ≤ 40 ∧ Pu H p c ∧ c + 1200 ≤ 1000000000 ∧
  ∀ (rs : List Rul) (D : Addr) (F : Fp) (H' : Hp) (c' : Nat), rs.length ≤ m → (∀ r ∈ rs, RulOk ts r) → Ow H' (.ref D) (rulsD rs) F → (∀ a, F a → H a = none) → Pu H' p c' → c' ≤ c + 1200 → Off (fun a => a = p) H H' → Q (.ref D) H'
section
variable {P : Program} {w : World} {K : PySem.W.Frag} {mg : Str → Option Value} {base : Heap}
theorem scDrawnRules : FnScope ["purse", "tables_here", "most", "found", "turn", "title", "known", "some", "column"] ["purse", "tables_here", "most"] (defScope sDrawnRules) := ⟨rfl, rfl, rfl, by decide +kernel, rfl, by decide +kernel, by decide +kernel⟩
theorem ok_drawnRules {f fC : Addr} {fd dC : FuncData} (F : FnP K "_law_drawn_rules" sDrawnRules f fd) (FC : FnP K "_law_coin" sCoin fC dC) (bC : Binds K dC ["purse", "many"] []) (mC : mg "_law_coin" = some (.ref fC))
    (mi : mg "int" = none) (mr : mg "range" = none) (ml : mg "len" = none) :
    FnOk P w K mg base CX0 2 f fd ["purse", "tables_here", "most"] (spDrawnRules K) := by
  have GC : FnOk P w K mg base CX0 1 fC dC ["purse", "many"] spCoin := ok_coin FC mi
  refine F.ok scDrawnRules (fun vs H Q E h => ?_) (fun cdv A outer s H vs Q E hr h => ?_)
  · obtain ⟨p, v, ts, mt, mc, m, c, rfl, _⟩ := h
    rfl
  obtain ⟨p, v, ts, mt, mc, m, c, rfl, hv, tok, t2, c2, m2, hp, hc, q⟩ := h
  refine ⟨_, PSs.nox (pss_cons (ps_set (i := 3) scDrawnRules.nd rfl (Or.inl rfl) (pe_lst pa_nil))
    (pss_cons (ps_for PassesOwn.never rfl (pi_range1 rfl mr (pa_cons (pe_call GC hr rfl mC FC.kp bC .nil pass0 (pa_cons (pv 0) (pa_cons (pe_op op_add (pv 2) pe_int) pa_nil))) pa_nil)) (pg_name (i := 4) scDrawnRules.nd rfl (Or.inl rfl))
      (pss_cons (ps_asg (pe_ix ix_list (pv 1) (pe_call GC hr rfl mC FC.kp bC .nil pass0 (pa_cons (pv 0) (pa_cons (pe_callB call_len_seq rfl ml boot_len (pa_cons (pv 1) pa_nil)) pa_nil))) (fun _ _ => rfl))
          (pg_tup rfl (pgs_cons (pg_name (i := 5) scDrawnRules.nd rfl (Or.inl rfl)) (pgs_cons (pg_name (i := 6) scDrawnRules.nd rfl (Or.inl rfl)) pgs_nil))))
      (pss_cons (ps_setLc (i := 7) (own := [("column", 8)]) (g := gName 8) rfl scDrawnRules.nd rfl rfl rfl (pi_list (pv 6))
          (blkOk_by (own := [("column", 8)]) (N := ["purse", "tables_here", "most", "found", "turn", "title", "known", "some", "column"]) (sc := defScope sDrawnRules) (by decide +kernel))
          (fun _ _ _ _ _ => pg_name (i := 8) scDrawnRules.nd rfl (Or.inl rfl)) (fun _ _ _ _ _ => pts_one (pt_cmpR op_eq (pe_call GC hr rfl mC FC.kp bC .nil pass0 (pa_cons (pv 0) (pa_cons pe_int pa_nil))) pe_int (nomark _)))
          (fun _ _ _ _ _ => pv 8))
      (pss_one (ps_if (pt_cmpR op_eq (pe_call GC hr rfl mC FC.kp bC .nil pass0 (pa_cons (pv 0) (pa_cons pe_int pa_nil))) pe_int (nomark _))
        (pss_one (ps_expr (pe_bm PySem.F.plainAttrs_list PySem.F.slot_list_append PySem.F.type_list_append mt_append (pv 3)
          (pa_cons (pe_tup (pa_cons pe_str (pa_cons (pv 5) (pa_cons (pv 7) pa_nil)))) pa_nil))))
        (pss_cons (ps_set (i := 8) scDrawnRules.nd rfl (Or.inl rfl) (pe_ix ix_list (pv 6) (pe_call GC hr rfl mC FC.kp bC .nil pass0 (pa_cons (pv 0) (pa_cons (pe_callB call_len_seq rfl ml boot_len (pa_cons (pv 6) pa_nil)) pa_nil))) (fun _ _ => rfl)))
        (pss_one (ps_expr (pe_bm PySem.F.plainAttrs_list PySem.F.slot_list_append PySem.F.type_list_append mt_append (pv 3)
          (pa_cons (pe_tup (pa_cons pe_str (pa_cons (pv 5) (pa_cons (pv 7) (pa_cons (pv 8) pa_nil))))) pa_nil))))))))))
    (pss_one (ps_ret (pv 3))))), ?_⟩
  obtain ⟨a, xs, rfl, _⟩ := dp_tabs hv
  refine ⟨by decide, fun fo hfo => ?_⟩
  obtain ⟨xs0, ep0⟩ := id hp.lst
  have pf : p ≠ fo := ne_of_none ep0 hfo
  have hp1 : Pu (upd H fo (.lst [])) p c := hp.at (upd_ne pf)
  have g1 : Grow (fun a => a = p) H fo [] (upd H fo (.lst [])) := Grow.start hfo
  generalize upd H fo (.lst []) = H1 at hp1 g1 ⊢
  refine ⟨_, rfl, _, rfl, _, _, rfl, rfl, p, (m : Int) + 1, c, rfl, hp1, by omega, by omega, by omega, fun n H2 n0 n1 hp2 b2 => ⟨n, rfl, by omega, by omega, ?_⟩⟩
  have g2 : Grow (fun a => a = p) H fo [] H2 := by
    obtain ⟨acc, FA, a1, a2, a3, a4, a5⟩ := g1
    cases a2 with
    | nil e => exact ⟨[], FA, b2.off _ _ a1 (Ne.symm pf), .nil e, a3, a4, a5.trans b2.off⟩
  refine for_range (lo := 0) (n := n.toNat) (fun i σ H' => ∃ (w4 w5 w6 w7 w8 : Option V) (rs : List Rul) (c' : Nat), σ = [some (.ref p), some (.ref a), some (.int m), some (.ref fo), w4, w5, w6, w7, w8] ∧ Grow (fun a => a = p) H fo (rs.map rulD) H' ∧
    rs.length ≤ i ∧ (∀ r ∈ rs, RulOk ts r) ∧ Pu H' p c' ∧ c' ≤ c + 1 + 29 * i) ⟨none, none, none, none, none, [], c + 1, rfl, g2, by simp, fun r h => absurd h (by simp), hp2, by omega⟩ (fun i σ H' hi g => ?_) fun σ H' g => ?_
  · obtain ⟨w4, w5, w6, w7, w8, rs, c', rfl, g, hl, hr', hp', hc'⟩ := g
    have hi2 : i < 41 := by omega
    have offH : Off (fun a => a = p) H H' := by
      obtain ⟨_, _, _, _, _, _, h⟩ := g
      exact h
    have hv' := dp_but offH hp hv (noInt_tabs ts)
    obtain ⟨xs', sq', _, len'⟩ := dp_tabs_ref hv'
    have tl := tok.one
    have tm := tok.most
    refine ⟨_, rfl, _, rfl, _, rfl, a, xs', rfl, .inl sq', p, (xs'.length : Int), c', rfl, hp', by omega, by omega, by omega, fun k H4 k0 k1 hp4 b4 => ?_⟩
    have hv4 := dp_but b4.off hp' hv' (noInt_tabs ts)
    obtain ⟨xs4, t, ta, ca, s1, s2, s3, _, s4, s5⟩ := tab_at hv4 k0 (by omega)
    have cm := (tok.each t s3).most
    have co := (tok.each t s3).one
    refine ⟨a, xs4, k, _, rfl, rfl, s1, s2, ta, _, rfl, s4, rfl, _, _, rfl, _, _, rfl, rfl, ?_⟩
    obtain ⟨xs4p, ep4⟩ := id hp4.lst
    refine ⟨_, rfl, ca, rfl, ⟨_, dp_cols_ref s5⟩, fun D hD => lc_list (K := K) (a := ca) (xs := t.2.map V.str)
      (fun j H5 => ∃ (cs : List Str) (c5 : Nat), H5 D = some (.lst (cs.map V.str)) ∧ cs.Sublist (t.2.take j) ∧ Pu H5 p c5 ∧ c5 ≤ c' + 1 + j ∧ Off (fun a => a = p) H4 H5)
      ⟨[], c' + 1, upd_same, List.nil_sublist _, hp4.at (upd_ne (ne_of_none ep4 hD)), by omega, Off.new hD⟩ (fun j H5 _ g5 => ?_) (fun j x H5 hx g5 => ?_) fun H5 g5 => ?_⟩
    · obtain ⟨_, _, _, _, _, _, o5⟩ := g5
      exact dp_cols_ref (dp_but o5 hp4 s5 (noInt_cols _))
    · obtain ⟨cs, c5, e5, sub, hp5, hc5, o5⟩ := g5
      rw [List.getElem?_map] at hx
      cases hy : t.2[j]? with
      | none => rw [hy] at hx; cases hx
      | some y =>
      rw [hy] at hx
      cases hx
      have hj : j < t.2.length := (List.getElem?_eq_some_iff.mp hy).1
      have pD : D ≠ p := fun z => ne_of_none ep4 hD z.symm
      refine ⟨rfl, _, rfl, p, 2, c5, rfl, hp5, by omega, by decide, by decide, fun z H6 _ _ hp6 b6 => ⟨rfl, _, rfl, ite2 (fun _ => ?_) (fun _ => ?_)⟩⟩
      · have sl := sub.length_le
        rw [List.length_take] at sl
        refine ⟨_, rfl, cs.map V.str, b6.off _ _ e5 pD, by rw [List.length_map]; exact small1000 (by omega), cs ++ [y], c5 + 1, by rw [upd_same, List.map_append]; rfl, ?_, hp6.at (upd_ne (Ne.symm pD)), by omega, fun b u eb nb => ?_⟩
        · rw [List.take_add_one, hy]
          exact sub.append (List.Sublist.refl _)
        · rw [upd_ne (fun z => by rw [z, hD] at eb; cases eb)]
          exact b6.off _ _ (o5 _ _ eb nb) nb
      · refine ⟨cs, c5 + 1, b6.off _ _ e5 pD, ?_, hp6, by omega, o5.trans b6.off⟩
        rw [List.take_add_one]
        exact sub.trans (List.sublist_append_left _ _)
    · obtain ⟨cs, c5, e5, sub, hp5, hc5, o5⟩ := g5
      rw [List.length_map] at hc5 sub
      rw [List.take_length] at sub
      have pD : D ≠ p := fun z => ne_of_none ep4 hD z.symm
      have nD : H' D = none := b4.off.none hD pD
      obtain ⟨xs1, ep1⟩ := hp'.lst
      refine ⟨_, rfl, p, 2, c5, rfl, hp5, by omega, by decide, by decide, fun z H6 _ _ hp6 b6 => ⟨rfl, _, rfl, ite2 (fun _ => ?_) (fun _ => ?_)⟩⟩
      · have o6 : Off (fun a => a = p) H' H6 := b4.off.trans (o5.trans b6.off)
        obtain ⟨acc, ga1, ga2⟩ := g.len
        have e6 := b6.off _ _ e5 pD
        refine ⟨_, rfl, .inl ⟨rfl, _, SqL.of (o6 _ _ ga1 (Ne.symm pf))⟩, _, rfl, _, rfl, (by show 3 ≤ sizeLine; decide), fun tp htp => ?_⟩
        have Dt : D ≠ tp := fun z => by rw [z, htp] at e6; cases e6
        have pt : p ≠ tp := fun z => by
          obtain ⟨xs, ep⟩ := hp6.lst
          rw [z, htp] at ep
          cases ep
        have o7 : Off (fun a => a = p) H' (upd H6 tp (.tup [.str "key", .str t.1, .ref D])) := o6.trans (Off.new htp)
        have ow : Ow (upd H6 tp (.tup [.str "key", .str t.1, .ref D])) (.ref tp) (rulD (t.1, cs, none)) (fun a => a = D) :=
          .tup upd_same (owc_str (owc_str (owc (ow_strs ((upd_ne Dt).trans e6)) ow0)))
        obtain ⟨acc2, a1, a2, a3⟩ := g.step hfo (fun a z => by rw [z, ep0]; simp) (fun a z => by rw [z]; exact ⟨_, ep1⟩) ow (fun a z => by rw [z]; exact nD) o7
        refine ⟨fo, acc2, _, rfl, rfl, a1, small1000 (by rw [a2, List.length_map]; omega), _, _, _, _, _, rs ++ [(t.1, cs, none)], c5 + 1, rfl, ?_, ?_, ?_, ?_, ?_⟩
        · rw [List.map_append]
          exact a3
        · rw [List.length_append]
          exact Nat.succ_le_succ hl
        · intro r h
          rcases List.mem_append.mp h with h | h
          · exact hr' r h
          · rw [List.mem_singleton.mp h]
            exact ⟨t, s3, rfl, sub, fun c h => by cases h⟩
        · exact (hp6.at (upd_ne pt)).at (upd_ne pf)
        · omega
      · have sq6 := dp_cols_ref (dp_but (o5.trans b6.off) hp4 s5 (noInt_cols _))
        refine ⟨_, rfl, _, rfl, _, rfl, ca, _, rfl, .inl sq6, p, ((t.2.map V.str).length : Int), c5 + 1, rfl, hp6, by omega, by rw [List.length_map]; omega, by rw [List.length_map]; omega, fun e H7 e0 e1 hp7 b7 => ?_⟩
        rw [List.length_map] at e1
        have sq7 := dp_cols_ref (dp_but (o5.trans (b6.off.trans b7.off)) hp4 s5 (noInt_cols _))
        obtain ⟨y, y1, y2, _⟩ := col_at e0 e1
        refine ⟨ca, _, e, _, rfl, rfl, sq7, y1, ?_⟩
        have o6 : Off (fun a => a = p) H' H7 := b4.off.trans (o5.trans (b6.off.trans b7.off))
        obtain ⟨acc, ga1, ga2⟩ := g.len
        have e7 := b7.off _ _ (b6.off _ _ e5 pD) pD
        refine ⟨_, rfl, .inl ⟨rfl, _, SqL.of (o6 _ _ ga1 (Ne.symm pf))⟩, _, rfl, _, rfl, _, rfl, (by show 4 ≤ sizeLine; decide), fun tp htp => ?_⟩
        have Dt : D ≠ tp := fun z => by rw [z, htp] at e7; cases e7
        have pt : p ≠ tp := fun z => by
          obtain ⟨xs, ep⟩ := hp7.lst
          rw [z, htp] at ep
          cases ep
        have o7 : Off (fun a => a = p) H' (upd H7 tp (.tup [.str "settles", .str t.1, .ref D, .str y])) := o6.trans (Off.new htp)
        have ow : Ow (upd H7 tp (.tup [.str "settles", .str t.1, .ref D, .str y])) (.ref tp) (rulD (t.1, cs, some y)) (fun a => a = D) :=
          .tup upd_same (owc_str (owc_str (owc (ow_strs ((upd_ne Dt).trans e7)) (owc_str ow0))))
        obtain ⟨acc2, a1, a2, a3⟩ := g.step hfo (fun a z => by rw [z, ep0]; simp) (fun a z => by rw [z]; exact ⟨_, ep1⟩) ow (fun a z => by rw [z]; exact nD) o7
        refine ⟨fo, acc2, _, rfl, rfl, a1, small1000 (by rw [a2, List.length_map]; omega), _, _, _, _, _, rs ++ [(t.1, cs, some y)], c5 + 2, rfl, ?_, ?_, ?_, ?_, ?_⟩
        · rw [List.map_append]
          exact a3
        · rw [List.length_append]
          exact Nat.succ_le_succ hl
        · intro r h
          rcases List.mem_append.mp h with h | h
          · exact hr' r h
          · rw [List.mem_singleton.mp h]
            exact ⟨t, s3, rfl, sub, fun c h => by cases h; exact y2⟩
        · exact (hp7.at (upd_ne pt)).at (upd_ne pf)
        · omega
  · obtain ⟨w4, w5, w6, w7, w8, rs, c', rfl, g, hl, hr', hp', hc'⟩ := g
    obtain ⟨F', o', f', k'⟩ := g.list hfo
    exact ⟨_, rfl, q rs fo F' H' c' (by omega) hr' o' f' hp' (by omega) k'⟩
end
end LW
set_option Elab.async false
set_option linter.all false
set_option maxRecDepth 100000
set_option maxHeartbeats 4000000
/-! A caught error that is kept behind its clause. -/
namespace KV
open PySem PySem.Spec PyProof.Rows L2
/-- at a: a caught error of this class, its dict at d -/
def exk (a : Addr) (cls : Value) (d : Option Addr) : HO := .ext fun h => ∃ oe vs, h.get? a = some oe ∧ oe.cls = cls ∧ oe.dict = d ∧ oe.data = .fields vs
theorem exk_ok {P : Program} {w : World} {H : Hp} {h : Heap} {a : Addr} {cls : Value} {d : Option Addr} {oe : Obj} {vs : Array Value} (he : h.get? a = some oe) (hz : Zc cls d oe) (hd : oe.data = .fields vs) :
    ObjOk P w H h a (exk a cls d) :=
  ⟨⟨oe, vs, he, hz.1, hz.2, hd⟩, ⟨oe, he⟩, fun h1 h2 z k => by
    obtain ⟨o1, v1, e1, e2, e3, e4⟩ := z
    exact ⟨o1, v1, k _ e1, e2, e3, e4⟩⟩
theorem keepX {X : Cx} {pins : List (Addr × Obj)} {σ : L2.St} {H : Hp} {s : Shared} {a : Addr} {oe : Obj} {vs : Array Value} {cls : Value} {d : Option Addr} (I : L2.Inv X pins σ H s) (he : s.heap.get? a = some oe) (hz : Zc cls d oe)
    (hd : oe.data = .fields vs) (na : H a = none) (nL : a ≠ X.env.locals) (n0 : X.s_0.heap.get? a = none) (np : ∀ p ∈ X.pn ++ pins, p.1 ≠ a) : L2.Inv X pins σ (upd H a (exk a cls d)) s where
  ok := I.ok
  os := I.os
  bare := I.bare
  base := {
    keep := I.base.keep
    slot := I.base.slot
    free := fun b o h1 h2 h3 => by
      rw [upd_ne fun z => by rw [z, n0] at h1; cases h1]
      exact I.base.free b o h1 h2 h3
    there := I.base.there
    tups := fun b xs h => by
      have q := I.base.tups b xs h
      rw [upd_ne fun z => by rw [z, na] at q; cases q]
      exact q
    frzs := fun b o u h => by
      have q := I.base.frzs b o u h
      rw [upd_ne fun z => by rw [z, na] at q; cases q]
      exact q
    tbls := fun b ps h => by
      obtain ⟨m, q⟩ := I.base.tbls b ps h
      refine ⟨m, ?_⟩
      rw [upd_ne fun z => by rw [z, na] at q; cases q]
      exact q }
  loc := I.loc
  cell := I.cell
  free := by
    rw [upd_ne (Ne.symm nL)]
    exact I.free
  freeC := fun x c h => by
    obtain ⟨v, q⟩ := I.cell x c h
    rw [upd_ne fun z => by
      rw [z] at q
      obtain ⟨o, q1, q2⟩ := q
      rw [he] at q1
      cases q1
      rw [hd] at q2
      cases q2]
    exact I.freeC x c h
  pin := fun p hp => by
    obtain ⟨h1, h2, h3⟩ := I.pin p hp
    refine ⟨h1, ?_, h3⟩
    rw [upd_ne (np p hp)]
    exact h2
  hok := fun b o h => by
    by_cases e : b = a
    · subst e
      rw [upd_same] at h
      cases h
      exact exk_ok he hz hd
    · rw [upd_ne e] at h
      refine (I.hok b o h).stay (fun c u _ q => q) (fun c q => ?_) fun c xs q => ?_
      · rw [upd_ne fun z => by rw [z, na] at q; cases q]
        exact q
      · rw [upd_ne fun z => by rw [z, na] at q; cases q]
        exact q
  len := I.len
/-- what follows, with the error kept -/
def kEnds (i : Nat) (a : Addr) (cls : Value) (d : Option Addr) (D : Ends) : Ends where
  nx := fun σ' H' => H' a = none ∧ D.nx (σ'.set i none) (upd H' a (exk a cls d))
  rt := fun v H' => H' a = none ∧ D.rt v (upd H' a (exk a cls d))
  bk := fun σ' H' => H' a = none ∧ D.bk (σ'.set i none) (upd H' a (exk a cls d))
  ct := fun σ' H' => H' a = none ∧ D.ct (σ'.set i none) (upd H' a (exk a cls d))
/-- the wish of a try whose clause keeps the error -/
def wKeep (K : PySem.W.Frag) (c : Value) (i : Nat) (ts : Addr → Value → Option Addr → TS) (Wout : WX) (D : Ends) : WX := fun cls d σ H => ∃ b, PySem.W.exmOne K cls c = some b ∧
  (b = true → ∀ a, H a = none → ts a cls d (kEnds i a cls d D) (σ.set i (some (.ref a))) H) ∧ (b = false → Wout cls d σ H)
theorem ps_try_keep {X : Cx} {x n : Str} {c : Value} {i : Nat} {body suite : List Stmt} {b₀ : Stmt} {np pos pos' : Pos} {tb : WX → TS} {ts : Addr → Value → Option Addr → TS} {Wout : WX}
    (hs : X.stack = X.env :: X.outer) (hf : X.env.frame = some X.env.locals) (hN : X.N.Nodup) (hi : X.N[i]? = some n) (hln : X.env.kindOf n = some NameKind.local) (hx : X.ex = []) (hc : Names X x c) (tk : Takes X Wout)
    (hb : ∀ (W : WX) (pn : List (Addr × Obj)) (xe : Value → Shared → Prop), Takes (X.tr pn xe) W → PassesOwn (model X.prog X.w) X.A X.env xe → PSs (X.tr pn xe) body (tb W))
    (hsu : ∀ (a : Addr) (oe : Obj) (cls : Value) (d : Option Addr) (pn : List (Addr × Obj)), Zc cls d oe → (∃ vs, oe.data = Data.fields vs) → PSs (X.suite a ((a, oe) :: pn)) (b₀ :: suite) (ts a cls d)) :
    PS X (Stmt.Try body [ExceptHandler.ExceptHandler (some (Expr.Name x np)) (some n) (b₀ :: suite) pos'] [] [] pos) fun D σ H => tb (wKeep X.K c i ts Wout D) D σ H := by
  constructor
  intro pins s σ H D I h
  have ok := I.ok
  have hfr : X.A.frames = some (X.env :: X.outer) := by rw [ok.frames, hs]
  have hloc : L2.Loc X.env.scope n := Or.inl hln
  let xe' : Value → Shared → Prop := fun e s₁ => wpAny (model X.prog X.w) X.A (noteFrame e X.env) (fun _ s₂ => wpAny (model X.prog X.w) X.A (setFlight e none)
    (fun _ s₃ => wpAny (model X.prog X.w) X.A (handleBy e X.env [ExceptHandler.ExceptHandler (some (Expr.Name x np)) (some n) (b₀ :: suite) pos']) (SP X pins D) X.xe s₃) X.xe s₂) X.xe s₁
  have tk' : Takes (X.tr (X.pn ++ pins) xe') (wKeep X.K c i ts Wout D) := ?_
  refine wpAny_Try_except (wpAny_mono ((hb (wKeep X.K c i ts Wout D) (X.pn ++ pins) xe' tk' PassesOwn.looking).run [] s σ H D (Inv.toTry I xe') h) ?_ (fun _ _ z => z))
  rotate_left
  · intro u s' xx
    obtain ⟨a, B, sI, pins', σ', H', cls, d, rfl, J', nb, up, sky, na, os, ag, b, hb1, hyes, hno⟩ := xx
    have J := Inv.ofTry J' ok
    have sky' : Sky B (X.env :: X.outer) a (Zc cls d) X.env.locals s'.heap := by rw [← hs]; exact sky
    refine Sky.land Zc.steady hfr hf sky' fun h3 fl3 up3 => ?_
    have J3 := Inv.landed (X := X) (s' := ⟨h3, s'.gens, s'.drawn, s'.toks, s'.os⟩) J nb fl3.1 (up.trans up3) os ag
    obtain ⟨oe3, vs3, he3, hz3, hd3⟩ := HandSPX.FlyingZ.there fl3
    have nfr : a ∉ List.filterMap (fun e : Env => e.frame) (X.env :: X.outer) := fun hm => by
      obtain ⟨_, o', e', hnf⟩ := fl3.2.2.1.mem hm
      rw [he3] at e'
      cases e'
      exact hnf _ hd3
    have nL : a ≠ X.env.locals := fun z => nfr (List.mem_filterMap.mpr ⟨X.env, List.mem_cons_self, by rw [hf, z]⟩)
    have nF : a ∉ X.fs := fun hm => by
      obtain ⟨e, he, q⟩ := List.mem_filterMap.mp hm
      exact nfr (List.mem_filterMap.mpr ⟨e, List.mem_cons_of_mem _ he, q⟩)
    have nB : B.get? a = none := fl3.2.1
    have nfs : a ∉ frs X.stack := by
      rw [hs]
      exact nfr
    have nI : ∀ o, sI.heap.get? a ≠ some o := fun o z => by
      have q := nb a o z nfs
      rw [nB] at q
      cases q
    have n0 : X.s_0.heap.get? a = none := by
      cases q : X.s_0.heap.get? a with
      | none => rfl
      | some o =>
        obtain ⟨o', q'⟩ := J.base.there a o q (by rw [hx]; simp)
        exact absurd q' (nI o')
    have npn : ∀ p ∈ X.pn ++ pins, p.1 ≠ a := fun p hp z => by
      have q := (J.pin p hp).1
      rw [z] at q
      exact nI _ q
    have S3 := Inv.suite J3 he3 hd3 na nL nF
    refine wpAny_handleBy_cons (codeAny_handlers_test ?_) (fun q => by cases q)
    have LT : PySem.W.Looks (model X.prog X.w) h3 (typeOf (.ref a)) cls := fun A Q E s k q => wpAny_typeOf_ref (k a oe3 he3) (by rw [hz3.1]; exact q)
    have LM := PySem.W.exm_one (J3.kIn) LT hb1
    have test : ∀ {Q : Value → Shared → Prop} {E : Value → Shared → Prop}, Q c ⟨h3, s'.gens, s'.drawn, s'.toks, s'.os⟩ →
        wpAny (model X.prog X.w) (X.suite a ((a, oe3) :: (X.pn ++ pins))).A (eval (.Name x np) X.env) Q E ⟨h3, s'.gens, s'.drawn, s'.toks, s'.os⟩ := by
      intro Q E q
      obtain ⟨hg, hdbg, hm | ⟨hm, hv, hnn⟩⟩ := hc
      · exact ld_glob S3 hg hm q hdbg
      · exact ld_blt S3 hg hm hv q hnn hdbg
    refine test (PySem.W.Looks.here LM ?_)
    cases b with
    | false =>
      show wpAny _ _ (handleBy _ _ []) _ _ _
      refine wpAny_handleBy_nil ?_
      obtain ⟨k1, k2, k3, oe, vs, T, oT, ts', he, hz, hd, h1, hr⟩ := id fl3
      refine wpAny_bind (wpAny_field he hd h1 ?_)
      have nn : ¬ ((Value.ref T == Value.none) = true) := fun z => by cases (beq_iff_eq.mp z)
      rw [if_neg nn]
      refine wpAny_bind ?_
      rw [hf]
      refine HandSPX.setFlight_upZ fl3 fun h4 hh4 up4 => ?_
      refine wpAny_throw (tk (.ref a) _ ⟨a, B, sI, pins, σ', H', cls, d, rfl, J, nb, (up.trans up3).trans up4, ?_, na, os, ag, hno rfl⟩)
      rw [hs]
      exact Or.inr (Or.inr hh4)
    | true =>
      show codeAny _ _ _ _ _
      refine codeAny_handlers_suite_as (HandSPX.lands_againZ fl3 fun h4 fl4 up4 => ?_)
      have J4 := Inv.landed (X := X) (s' := ⟨h4, s'.gens, s'.drawn, s'.toks, s'.os⟩) J nb fl4.1 ((up.trans up3).trans up4) os ag
      obtain ⟨oe4, vs4, he4, hz4, hd4⟩ := HandSPX.FlyingZ.there fl4
      have S4 := Inv.suite J4 he4 hd4 na nL nF
      refine store_ok (X := X.suite a ((a, oe4) :: (X.pn ++ pins))) (v := V.ref a) S4 hN hi hloc rfl (fun s5 S5 => ?_) (Or.inr hln)
      refine wpAny_mono ((hsu a oe4 cls d (X.pn ++ pins) hz4 ⟨vs4, hd4⟩).run [] s5 (List.set σ' i (some (V.ref a))) H' (kEnds i a cls d D) S5 (hyes rfl a na)) (fun f s6 hsp => ?_) (fun _ _ z => False.elim z)
      have end_ : ∀ {σ6 : L2.St} {H6 : Hp} {Q : Unit → Shared → Prop}, L2.Inv (X.suite a ((a, oe4) :: (X.pn ++ pins))) [] σ6 H6 s6 → H6 a = none → (∀ s7, L2.Inv X pins (List.set σ6 i none) (upd H6 a (exk a cls d)) s7 → Q () s7) →
          wpAny (model X.prog X.w) X.A (do
            bindName X.env n Value.none
            unbindBehindTheSuite X.env n pos') Q X.xe s6 := by
        intro σ6 H6 Q S6 n6 hq
        have he6 : s6.heap.get? a = some oe4 := (S6.pin (a, oe4) (by simp)).1
        exact gone_ok (keepX (Inv.unsuite S6 ok) he6 hz4 hd4 n6 nL n0 npn) hN hi hln hq
      cases f with
      | next =>
        obtain ⟨σ6, H6, S6, n6, q6⟩ := hsp
        exact end_ S6 n6 fun s7 J7 => ⟨_, _, J7, q6⟩
      | brk =>
        obtain ⟨σ6, H6, S6, n6, q6⟩ := hsp
        exact end_ S6 n6 fun s7 J7 => ⟨_, _, J7, q6⟩
      | cont =>
        obtain ⟨σ6, H6, S6, n6, q6⟩ := hsp
        exact end_ S6 n6 fun s7 J7 => ⟨_, _, J7, q6⟩
      | ret u =>
        obtain ⟨v6, σ6, H6, S6, r6, n6, q6⟩ := hsp
        exact end_ S6 n6 fun s7 J7 => ⟨v6, _, _, J7, r6, q6⟩
  · intro f s1 hsp
    cases f with
    | next =>
      obtain ⟨σ', H', J', q⟩ := hsp
      exact wpAny_execs_nil ⟨σ', H', Inv.ofTry J' ok, q⟩
    | brk =>
      obtain ⟨σ', H', J', q⟩ := hsp
      exact ⟨σ', H', Inv.ofTry J' ok, q⟩
    | cont =>
      obtain ⟨σ', H', J', q⟩ := hsp
      exact ⟨σ', H', Inv.ofTry J' ok, q⟩
    | ret u =>
      obtain ⟨v, σ', H', J', r, q⟩ := hsp
      exact ⟨v, σ', H', Inv.ofTry J' ok, r, q⟩
end KV
set_option Elab.async false
set_option linter.all false
set_option maxRecDepth 100000
set_option maxHeartbeats 4000000
/-! What a kept error tells: its class, its field. -/
namespace KV
open PySem PySem.Spec PyProof.Rows L2
/-- at a: a kept error of class C with these fields -/
def Cau (H : Hp) (a C dx : Addr) (fs : List (Str × V)) : Prop := H a = some (exk a (.ref C) (some dx)) ∧ H dx = some (.xd fs)
theorem cau_at {P : Program} {w : World} {H : Hp} {h : Heap} {a C dx : Addr} {fs : List (Str × V)} (hok : HOk P w H h) (e : Cau H a C dx fs) :
    ∃ oe mA od, PySem.W.InstAt h a oe C (some od) ∧ oe.dict = some dx ∧ h.Ns1 dx mA ∧ h.get? dx = some od ∧ (∀ f, PySem.W.lookIn f od = some (mA f)) ∧ ∀ f : Str, RelO (List.lookup f fs) (mA f) := by
  have h1 := hok _ _ e.1
  have h2 := hok _ _ e.2
  unfold ObjOk at h2
  obtain ⟨⟨oe, vs, he, hc, hd, hf⟩, _⟩ := h1
  obtain ⟨mA, hns, hr⟩ := h2
  obtain ⟨od, hod, hl⟩ := lookIn_ns hns
  obtain ⟨c, d, dat, sl⟩ := oe
  dsimp only at hc hd hf
  subst hc hd hf
  exact ⟨_, mA, od, ⟨he, rfl, rfl, hod⟩, rfl, hns, hod, hl, hr⟩
section
variable {X : Cx} {f : Str} {pos : Pos} {e : Expr} {te : TE}
/-- the field of a kept error -/
def tGetK (K : PySem.W.Frag) (f : Str) (te : TE) : TE := fun σ H Q => te σ H fun x H1 => ∃ (a C dx : Addr) (fs : List (Str × V)) (v : V), x = .ref a ∧ XfC K C ∧ PySem.W.findIn K (.ref C) f = some none ∧
  Cau H1 a C dx fs ∧ fs.lookup f = some v ∧ Q v H1
theorem pe_getK (he : PE X e te) (hb : attributeBase e f X.env (eval e X.env) = eval e X.env := by rfl) : PE X (.Attribute e f pos) (tGetK X.K f te) := by
  constructor
  intro pins s σ H Q I h
  refine attr_of hb (thn (he.run pins s σ H _ I h) ?_)
  rintro u s1 ⟨x, H1, I1, rx, a, C, dx, fs, v, rfl, T, hno, ea, l, q⟩
  cases rx
  obtain ⟨oe, mA, od, J, hdx, hns, hod, hl, hr⟩ := cau_at I1.hok ea
  obtain ⟨u, hu, ru⟩ := RelO.some_of (v := v) (o := mA f) (by rw [← l]; exact hr f)
  exact HandSPX.exc_get I1.kIn J T.ga T.gg T.exC (PySem.W.findObj_own T.hdC hno rfl (by rw [hl, hu])) (handed_of ru) ⟨v, H1, I1.tok _, ru, q⟩
/-- isinstance(x, C), x a kept error -/
def rIsK (K : PySem.W.Frag) : List V → Hp → VK → Prop := fun xs H Q => ∃ (a D dx : Addr) (fs : List (Str × V)) (c : V) (u : Value) (b : Bool), xs = [.ref a, c] ∧ ClsV c u ∧ PySem.W.ErrC K D ∧
  Cau H a D dx fs ∧ PySem.W.kitOne K (.ref D) u = some b ∧ Q (.bl b) H
theorem call_isK : CallR X (.builtin "isinstance") (rIsK X.K) := by
  intro pins s σ H xs us Q I r h
  obtain ⟨a, D, dx, fs, c, u, b, rfl, k, cls, ea, e, q⟩ := h
  obtain ⟨u1, u2, rfl, r1, r2⟩ := vals2 r
  have e2 := k.eq r2
  subst e2
  cases r1
  obtain ⟨oe, mA, od, J, _⟩ := cau_at I.hok ea
  exact PySem.W.kia_one (PySem.W.err_kit cls) I.kIn J e (fun z => nomatch z) fun tk => ⟨.bl b, H, I.tok tk, rfl, q⟩
end
end KV
set_option Elab.async false
set_option linter.all false
set_option maxRecDepth 100000
set_option maxHeartbeats 4000000
namespace LW
open PySem PySem.Spec PyProof.Rows L2 KV
/-- a comprehension over zip of two lists of one length -/
theorem lc_zip {K : PySem.W.Frag} {a b : Addr} {xs ys : List V} {g : TG} {tt : TT} {te : TE} {vs : List Nat} {σ : L2.St} {H1 : Hp} {D : Addr} {Qd : Hp → Prop} (Pv : Nat → Hp → Prop) (hxy : xs.length = ys.length)
    (h0 : Pv 0 (upd H1 D (.lst []))) (hl : ∀ i H, i ≤ xs.length → Pv i H → SqL K H a xs ∧ SqL K H b ys)
    (hs : ∀ i x y H T, xs[i]? = some x → ys[i]? = some y → Pv i H → H T = none → g (.ref T) (wipe σ vs) (upd H T (.tup [x, y])) fun σ2 H2 => wipe σ2 vs = wipe σ vs ∧ tt σ2 H2 fun c H3 =>
      if c = true then te σ2 H3 fun y H4 => ∃ acc, H4 D = some (.lst acc) ∧ acc.length < sizeLine ∧ Pv (i + 1) (upd H4 D (.lst (acc ++ [y]))) else Pv (i + 1) H3)
    (hd : ∀ H, Pv xs.length H → Qd H) :
    ∃ W : Nat → Nat → Hp → Prop, (∃ m, W 0 m (upd H1 D (.lst []))) ∧ ∀ i m H, W i m H →
      ((Itz K a b).stop i H ∧ Qd H) ∨ ((Itz K a b).go i H ∧ ∃ Nx : Hp → Prop, (∀ H', Nx H' → ∃ m', m' < m ∧ W (i + 1) m' H') ∧ ∀ x H', (Itz K a b).yld i H x H' → g x (wipe σ vs) H' fun σ2 H2 => wipe σ2 vs = wipe σ vs ∧ tt σ2 H2 fun c H3 =>
        if c = true then te σ2 H3 fun y H4 => ∃ acc, H4 D = some (.lst acc) ∧ acc.length < sizeLine ∧ Nx (upd H4 D (.lst (acc ++ [y]))) else Nx H3) := by
  refine ⟨fun i m H => m = xs.length - i ∧ i ≤ xs.length ∧ Pv i H, ⟨_, rfl, Nat.zero_le _, h0⟩, ?_⟩
  rintro i m H ⟨rfl, hi, pv⟩
  obtain ⟨q1, q2⟩ := hl i H hi pv
  rcases Nat.lt_or_ge i xs.length with lt | ge
  · have ly : i < ys.length := by omega
    refine .inr ⟨⟨xs, ys, xs[i], ys[i], q1, q2, by simp [lt], by simp [ly]⟩, Pv (i + 1), fun H' z => ⟨xs.length - (i + 1), by omega, rfl, lt, z⟩, ?_⟩
    rintro v H' ⟨T, x, y, rfl, hT, rfl, e1, e2⟩
    exact hs i x y H T (e1 xs q1) (e2 ys q2) pv hT
  · have e : i = xs.length := by omega
    rw [e] at pv
    exact .inl ⟨⟨xs, ys, q1, q2, .inl ge⟩, hd H pv⟩
theorem cau_off {H H' : Hp} {a C dx : Addr} {fs : List (Str × V)} (h : Cau H a C dx fs) (k : Off (fun _ => False) H H') : Cau H' a C dx fs := ⟨k _ _ h.1 id, k _ _ h.2 id⟩
def names : List Str := ["KeyTellError", "DoubleName", "InvalidName", "InvalidRule", "UnknownColumn", "UnknownTable", "Unreadable"]
section
variable {P : Program} {w : World} {K : PySem.W.Frag} {mg : Str → Option Value} {base : Heap}
/-! ### KeyTellError.__init__ -/
theorem scInit : FnScope ["self", "value"] ["self", "value"] (defScope pKeyTellError_init) := ⟨rfl, rfl, rfl, by decide +kernel, rfl, by decide +kernel, by decide +kernel⟩
theorem ok_init {f : Addr} {fd : FuncData} (F : FunD K "__init__" "KeyTellError.__init__" (defArgs pKeyTellError_init) (defBody pKeyTellError_init) (defScope pKeyTellError_init) [] [] f fd) :
    FnOk P w K mg base CX0 1 f fd ["self", "value"] (spInit K "value") := by
  refine F.ok scInit (fun vs H Q E h => ?_) (fun cdv A outer s H vs Q E hr h => ?_)
  · obtain ⟨a, C, v, rfl, _⟩ := h
    rfl
  obtain ⟨a, C, v, rfl, T, no, e, q⟩ := h
  refine ⟨_, pss_one (ps_ost (pv 0) (pv 1)), ?_⟩
  exact ⟨_, rfl, _, rfl, a, C, rfl, T, no, .inl ⟨e, fun dx h1 h2 => q dx h1 h2⟩⟩
/-- what both lean on -/
structure ErrT (P : Program) (w : World) (K : PySem.W.Frag) (mg : Str → Option Value) (base : Heap) (fdI : FuncData) : Prop where
  es : Errs K "value" "KeyTellError" names
  g : ∀ x ∈ names, mg x = some (.ref (He.ga K x))
  ini : FnOk P w K mg base CX0 1 (He.ma K (He.ga K "KeyTellError") "__init__") fdI ["self", "value"] (spInit K "value")
  b : Binds K fdI ["self", "value"] []
  bk : ∀ (s : Shared) (a u : Value), BindsTo s fdI ⟨[a], [("value", u)]⟩ [("self", a), ("value", u)]
/-! ### _law_kinds -/
def kinds (x : Str) : List Str := names.tail.filter fun y => decide (x = y)
def spKinds (K : PySem.W.Frag) : Sp := fun vs H Q _ => ∃ (a dx : Addr) (x : Str) (fs : List (Str × V)), vs = [.ref a] ∧ x ∈ names ∧ Cau H a (He.ga K x) dx fs ∧
  ∀ D H', H D = none → H' D = some (.lst ((kinds x).map V.str)) → Off (fun _ => False) H H' → Q (.ref D) H'
end
end LW
set_option Elab.async false
set_option linter.all false
set_option maxRecDepth 100000
set_option maxHeartbeats 4000000
namespace LW
open PySem PySem.Spec PyProof.Rows L2 KV
/-! ### _law_error_right -/
def spErrR (K : PySem.W.Frag) : Sp := fun vs H Q _ => (vs = [.non, .non] ∧ ∀ H', Off (fun _ => False) H H' → Q (.bl true) H') ∨
  ∃ (a dx t : Addr) (x : Str) (u v : V) (d : PyData) (F : Fp) (b : Nat) (ms : List Nat), vs = [.ref a, .ref t] ∧ x ∈ names.tail ∧ Cau H a (He.ga K x) dx [("value", v)] ∧ SqT K H t [.str x, u] ∧ Ow H v d F ∧ Dp K H u d ∧ Sz b ms d ∧
    ∀ H', Off F H H' → Q (.bl true) H'
theorem kinds_one {x : Str} (h : x ∈ names.tail) : kinds x = [x] := by
  have all : ∀ y ∈ names.tail, kinds y = [y] := by decide
  exact all x h
section
variable {P : Program} {w : World} {K : PySem.W.Frag} {mg : Str → Option Value} {base : Heap}
end
end LW
set_option Elab.async false
set_option linter.all false
set_option maxRecDepth 100000
set_option maxHeartbeats 4000000
namespace LW
open PySem PySem.Spec PyProof.Rows L2 KV
/-- a comprehension over the signs of a text -/
theorem lc_str {x : Str} {g : TG} {tt : TT} {te : TE} {vs : List Nat} {σ : L2.St} {H1 : Hp} {D : Addr} {Qd : Hp → Prop} (Pv : Nat → Hp → Prop) (h0 : Pv 0 (upd H1 D (.lst [])))
    (hs : ∀ i c H, x.cps.toList[i]? = some c → Pv i H → g (.str ⟨#[c]⟩) (wipe σ vs) H fun σ2 H2 => wipe σ2 vs = wipe σ vs ∧ tt σ2 H2 fun b H3 =>
      if b = true then te σ2 H3 fun y H4 => ∃ acc, H4 D = some (.lst acc) ∧ acc.length < sizeLine ∧ Pv (i + 1) (upd H4 D (.lst (acc ++ [y]))) else Pv (i + 1) H3)
    (hd : ∀ H, Pv x.cps.toList.length H → Qd H) :
    ∃ W : Nat → Nat → Hp → Prop, (∃ m, W 0 m (upd H1 D (.lst []))) ∧ ∀ i m H, W i m H →
      ((Its x).stop i H ∧ Qd H) ∨ ((Its x).go i H ∧ ∃ Nx : Hp → Prop, (∀ H', Nx H' → ∃ m', m' < m ∧ W (i + 1) m' H') ∧ ∀ y H', (Its x).yld i H y H' → g y (wipe σ vs) H' fun σ2 H2 => wipe σ2 vs = wipe σ vs ∧ tt σ2 H2 fun c H3 =>
        if c = true then te σ2 H3 fun y H4 => ∃ acc, H4 D = some (.lst acc) ∧ acc.length < sizeLine ∧ Nx (upd H4 D (.lst (acc ++ [y]))) else Nx H3) := by
  refine ⟨fun i m H => m = x.cps.toList.length - i ∧ i ≤ x.cps.toList.length ∧ Pv i H, ⟨_, rfl, Nat.zero_le _, h0⟩, ?_⟩
  rintro i m H ⟨rfl, hi, pv⟩
  have sz : x.cps.toList.length = x.cps.size := by simp
  rcases Nat.lt_or_ge i x.cps.toList.length with lt | ge
  · refine .inr ⟨by show i < x.cps.size; omega, Pv (i + 1), fun H' z => ⟨x.cps.toList.length - (i + 1), by omega, rfl, lt, z⟩, ?_⟩
    rintro v H' ⟨rfl, c, hc, rfl⟩
    exact hs i c _ (by rw [← hc]; simp) pv
  · have e : i = x.cps.toList.length := by omega
    rw [e] at pv
    exact .inl ⟨by show x.cps.size ≤ i; omega, hd H pv⟩
/-! ### _law_is_title -/
def Asc (x : Str) : Prop := ∀ c ∈ x.cps.toList, c < 128
def small (c : Nat) : Bool := decide (97 ≤ c ∧ c ≤ 122)
def isT (x : Str) : Bool := decide (0 < x.length) && (decide (x.length < 9) && x.cps.toList.all small)
theorem isT_title {x : Str} : isT x = true ↔ Title x := by
  unfold isT Title
  simp only [Bool.and_eq_true, decide_eq_true_eq, List.all_eq_true, small]
  constructor
  · rintro ⟨h1, h2, h3⟩
    exact ⟨h1, by omega, h3⟩
  · rintro ⟨h1, h2, h3⟩
    exact ⟨h1, by omega, h3⟩
theorem Title.asc {x : Str} (h : Title x) : Asc x := fun c hc => by have := h.2.2 c hc; omega
theorem abc_mem (c : Nat) : decide (c ∈ ("abcdefghijklmnopqrstuvwxyz" : Str).cps.toList) = small c := by
  have e : ("abcdefghijklmnopqrstuvwxyz" : Str).cps.toList = (List.range 26).map (97 + ·) := by decide +kernel
  rw [e]
  unfold small
  rw [decide_eq_decide]
  simp only [List.mem_map, List.mem_range]
  constructor
  · rintro ⟨a, h, rfl⟩
    omega
  · rintro ⟨h1, h2⟩
    exact ⟨c - 97, by omega, by omega⟩
theorem strOk_asc {x : Str} (h : Asc x) : PyData.strOk x = true := by
  unfold PyData.strOk
  rw [Array.all_eq_true']
  intro c hc
  exact decide_eq_true (Nat.lt_trans (h c (by simpa using hc)) (by decide))
theorem lay_strs : ∀ {xs : List Str}, (∀ x ∈ xs, Asc x) → PyData.canLayAll0 (xs.map PyData.str) = true
  | [], _ => by simp [PyData.canLayAll0]
  | x :: xs, h => by
    simp only [List.map_cons, PyData.canLayAll0, PyData.canLay0, Bool.and_eq_true]
    exact ⟨strOk_asc (h x List.mem_cons_self), lay_strs fun y hy => h y (List.mem_cons_of_mem _ hy)⟩
theorem depth_strs : ∀ xs : List Str, PyData.depthAll (xs.map PyData.str) ≤ 0
  | [] => by simp [PyData.depthAll]
  | x :: xs => by
    have ih := depth_strs xs
    simp only [List.map_cons, PyData.depthAll, PyData.depth]
    omega
theorem shaped_strs {xs : List Str} (h : ∀ x ∈ xs, Asc x) : SeqAt.shaped (.list (xs.map PyData.str)) = true := by
  unfold SeqAt.shaped
  rw [Bool.and_eq_true]
  refine ⟨by simp only [PyData.canLay0]; exact lay_strs h, decide_eq_true ?_⟩
  have := depth_strs xs
  simp only [PyData.depth]
  omega
theorem eqv_nil (ds : List PyData) : PyData.eqv (.list ds) (.list []) = ds.isEmpty := by
  cases ds <;> simp [PyData.eqv, PyData.eqvAll]
theorem dp_strs {K : PySem.W.Frag} {H : Hp} : ∀ xs : List Str, DpAll K H (xs.map V.str) (xs.map PyData.str)
  | [] => .nil
  | x :: xs => .cons (.str x) (dp_strs xs)
theorem filt_small (l : List Nat) : (l.filter fun c => !small c).isEmpty = l.all small := by
  induction l with
  | nil => rfl
  | cons c l ih =>
    cases h : small c <;> simp [h, ih]
def spIsT : Sp := fun vs H Q _ => ∃ x : Str, vs = [.str x] ∧ Asc x ∧ x.length ≤ 4000 ∧ ∀ H', Off (fun _ => False) H H' → Q (.bl (isT x)) H'
section
variable {P : Program} {w : World} {K : PySem.W.Frag} {mg : Str → Option Value} {base : Heap}
end
end LW
set_option Elab.async false
set_option linter.all false
set_option maxRecDepth 100000
set_option maxHeartbeats 4000000
namespace LW
open PySem PySem.Spec PyProof.Rows L2 KV
/-! ### _law_bad_title -/
/-- plain signs, at most n of them -/
def Gd (n : Nat) (x : Str) : Prop := Asc x ∧ x.length ≤ n
theorem Gd.mono {n m : Nat} {x : Str} (h : Gd n x) (e : n ≤ m) : Gd m x := ⟨h.1, Nat.le_trans h.2 e⟩
theorem Gd.add {n m : Nat} {x y : Str} (h : Gd n x) (k : Gd m y) : Gd (n + m) (x ++ y) := by
  refine ⟨fun c hc => ?_, ?_⟩
  · have hc : c ∈ (x.cps ++ y.cps).toList := hc
    rw [Array.toList_append] at hc
    rcases List.mem_append.mp hc with z | z
    · exact h.1 c z
    · exact k.1 c z
  · have e : (x ++ y).length = x.length + y.length := by
      show (x.cps ++ y.cps).size = _
      rw [Array.size_append]
      rfl
    rw [e]
    exact Nat.add_le_add h.2 k.2
theorem Gd.cut {n : Nat} {x : Str} (h : Gd n x) (lo hi : Option Int) : Gd n (cutS x lo hi) := by
  unfold cutS
  refine ⟨fun c hc => h.1 c ?_, ?_⟩
  · have hc : c ∈ (List.take (HT.sIx x.length x.length hi - HT.sIx x.length 0 lo) (List.drop (HT.sIx x.length 0 lo) x.cps.toList)).toArray.toList := hc
    exact List.mem_of_mem_drop (List.mem_of_mem_take (by simpa using hc))
  · have l : x.cps.toList.length = x.length := by simp [Str.length]
    show (List.take (HT.sIx x.length x.length hi - HT.sIx x.length 0 lo) (List.drop (HT.sIx x.length 0 lo) x.cps.toList)).toArray.size ≤ n
    rw [List.size_toArray, List.length_take, List.length_drop, l]
    have := h.2
    omega
def gdB (n : Nat) (x : Str) : Bool := x.cps.toList.all (fun c => decide (c < 128)) && decide (x.length ≤ n)
theorem gdB_ok {n : Nat} {x : Str} (h : gdB n x = true) : Gd n x := by
  unfold gdB at h
  rw [Bool.and_eq_true] at h
  exact ⟨fun c hc => of_decide_eq_true (List.all_eq_true.mp h.1 c hc), of_decide_eq_true h.2⟩
theorem tx_of (x : Str) : tx x.cps.toList = x := str_ext (tx_cps _)
theorem upper_tx : ∀ l : List Nat, (∀ c ∈ l, c < 128) → ∃ l', Txt.upper (tx l) = tx l' ∧ l'.length = l.length ∧ ∀ c ∈ l', c < 128
  | [], _ => ⟨[], by decide +kernel, rfl, fun c h => absurd h (by simp)⟩
  | c :: l, h => by
    obtain ⟨l', e, e1, e2⟩ := upper_tx l fun d hd => h d (List.mem_cons_of_mem _ hd)
    have hc := h c List.mem_cons_self
    refine ⟨(if 97 ≤ c ∧ c ≤ 122 then c - 32 else c) :: l', ?_, by simp [e1], fun d hd => ?_⟩
    · have z : tx (c :: l) = tx [c] ++ tx l := (tx_add [c] l).symm
      rw [z, PySem.W.KOpn.upper_app, e]
      have z2 : Txt.upper (tx [c]) = tx [if 97 ≤ c ∧ c ≤ 122 then c - 32 else c] := PySem.W.KOpn.upper_one hc
      rw [z2, tx_add]
      rfl
    · rcases List.mem_cons.mp hd with z | z
      · rw [z]
        split <;> omega
      · exact e2 d z
theorem Gd.upper {n : Nat} {x : Str} (h : Gd n x) : Gd n (Txt.upper x) := by
  obtain ⟨l', e, e1, e2⟩ := upper_tx x.cps.toList h.1
  rw [tx_of] at e
  rw [e]
  refine ⟨fun c hc => e2 c (by rwa [tx_cps] at hc), ?_⟩
  rw [tx_len, e1]
  exact Nat.le_trans (by simp [Str.length]) h.2
theorem Title.gd {x : Str} (h : Title x) : Gd 8 x := ⟨h.asc, h.2.1⟩
/-- what is new is not what was there -/
theorem off_ne {H H' : Hp} {a b : Addr} {o : HO} (k : Off (fun _ => False) H H') (h : H a = some o) (n : H' b = none) : b ≠ a := fun z => by
  rw [z, k _ _ h id] at n
  cases n
def spBad : Sp := fun vs H Q _ => ∃ (p : Addr) (x : Str) (n c : Nat), vs = [.ref p, .str x] ∧ Gd n x ∧ n ≤ 1000 ∧ Pu H p c ∧ c + 1 ≤ 1000000000 ∧
  ∀ (y : Str) (H' : Hp), Gd (2 * n + 9) y → Pu H' p (c + 1) → Off (fun a => a = p) H H' → Q (.str y) H'
section
variable {P : Program} {w : World} {K : PySem.W.Frag} {mg : Str → Option Value} {base : Heap}
end
end LW
set_option Elab.async false
set_option linter.all false
set_option maxRecDepth 100000
set_option maxHeartbeats 4000000
namespace LW
open PySem PySem.Spec PyProof.Rows L2 KV
theorem cutV_head {xs : List V} {k : Int} (h : 0 ≤ k) : cutV xs none (some k) = xs.take k.toNat := by
  have hk : ¬ k < 0 := by omega
  unfold cutV
  simp [HT.sIx, hk]
theorem cutV_tail {xs : List V} {k : Int} (h : 0 ≤ k) : cutV xs (some k) none = xs.drop k.toNat := by
  have hk : ¬ k < 0 := by omega
  unfold cutV
  simp [HT.sIx, hk]
  by_cases c : k.toNat ≤ xs.length
  · rw [Nat.min_eq_left c, List.take_of_length_le (by simp)]
  · rw [Nat.min_eq_right (by omega)]
    simp
    omega
/-! ### _law_bent_tables -/
/-- tables that may be wrong: plain texts, so many at most -/
structure TabB (n mc : Nat) (t : Tab) : Prop where
  one : 1 ≤ t.2.length
  most : t.2.length ≤ mc
  good : ∀ x ∈ t.2, Gd n x
  name : Gd n t.1
structure TabsB (n mc mt : Nat) (ts : List Tab) : Prop where
  one : 1 ≤ ts.length
  most : ts.length ≤ mt
  each : ∀ t ∈ ts, TabB n mc t
/-- .. perhaps none at all -/
structure TabsW (n mc mt : Nat) (ts : List Tab) : Prop where
  most : ts.length ≤ mt
  each : ∀ t ∈ ts, TabB n mc t
theorem TabsB.w {n mc mt : Nat} {ts : List Tab} (h : TabsB n mc mt ts) : TabsW n mc mt ts := ⟨h.most, h.each⟩
theorem TabsOk.b {mt mc : Nat} {ts : List Tab} (h : TabsOk mt mc ts) : TabsB 8 mc mt ts :=
  ⟨h.one, h.most, fun t ht => ⟨(h.each t ht).one, (h.each t ht).most, fun x hx => ((h.each t ht).good x hx).gd, (h.each t ht).name.gd⟩⟩
theorem TabB.mono {n n' mc mc' : Nat} {t : Tab} (h : TabB n mc t) (e : n ≤ n') (f : mc ≤ mc') : TabB n' mc' t := ⟨h.one, Nat.le_trans h.most f, fun x hx => (h.good x hx).mono e, h.name.mono e⟩
theorem fit_str {n : Nat} {ms : List Nat} {x : Str} (h : Gd n x) : Fit n ms (.str x) := by
  have q : x.length ≤ n ∧ ∀ c ∈ x.cps.toList, c < 16 ^ 8 := ⟨h.2, fun c hc => Nat.lt_trans (h.1 c hc) (by decide)⟩
  cases ms <;> exact q
theorem fit_cols {n mc : Nat} {ms : List Nat} {cs : List Str} (h : cs.length ≤ mc) (g : ∀ x ∈ cs, Gd n x) : Fit n (mc :: ms) (colsD cs) := by
  refine ⟨by rw [List.length_map]; exact h, fun d hd => ?_⟩
  obtain ⟨x, hx, rfl⟩ := List.mem_map.mp hd
  exact fit_str (g x hx)
theorem fit_tab {n mc : Nat} {t : Tab} (h : TabB n mc t) : Fit n [2, mc] (tabD t) := by
  refine ⟨by show 2 ≤ 2; decide, fun d hd => ?_⟩
  rcases List.mem_cons.mp hd with rfl | hd
  · exact fit_str h.name
  · rw [List.mem_singleton.mp hd]
    exact fit_cols h.most h.good
theorem fit_tabs {n mc mt : Nat} {ts : List Tab} (h : TabsB n mc mt ts) : Fit n [mt, 2, mc] (tabsD ts) := by
  refine ⟨by rw [List.length_map]; exact h.most, fun d hd => ?_⟩
  obtain ⟨t, ht, rfl⟩ := List.mem_map.mp hd
  exact fit_tab (h.each t ht)
theorem fit_tabsW {n mc mt : Nat} {ts : List Tab} (h : TabsW n mc mt ts) : Fit n [mt, 2, mc] (tabsD ts) := by
  refine ⟨by rw [List.length_map]; exact h.most, fun d hd => ?_⟩
  obtain ⟨t, ht, rfl⟩ := List.mem_map.mp hd
  exact fit_tab (h.each t ht)
theorem dpAll_set {K : PySem.W.Frag} {H : Hp} : ∀ {xs : List V} {ds : List PyData} {v : V} {d : PyData} (i : Nat), DpAll K H xs ds → Dp K H v d → DpAll K H (xs.set i v) (ds.set i d)
  | _, _, _, _, _, .nil, _ => .nil
  | _, _, _, _, 0, .cons h r, k => .cons k r
  | _, _, _, _, i + 1, .cons h r, k => .cons h (dpAll_set i r k)
def spBentT (K : PySem.W.Frag) : Sp := fun vs H Q _ => ∃ (p : Addr) (v : V) (ts : List Tab) (n mc mt c : Nat), vs = [.ref p, v] ∧ Dp K H v (tabsD ts) ∧ TabsB n mc mt ts ∧ n ≤ 300 ∧ mc ≤ 100 ∧ mt ≤ 100 ∧ Pu H p c ∧ c + 10 ≤ 1000000000 ∧
  ∀ (v' : V) (ts' : List Tab) (H' : Hp) (c' : Nat), Dp K H' v' (tabsD ts') → TabsB (2 * n + 9) (mc + 1) mt ts' → Pu H' p c' → c' ≤ c + 10 → Off (fun a => a = p) H H' → Q v' H'
section
variable {P : Program} {w : World} {K : PySem.W.Frag} {mg : Str → Option Value} {base : Heap}
end
end LW
set_option Elab.async false
set_option linter.all false
set_option maxRecDepth 100000
set_option maxHeartbeats 0
namespace LW
open PySem PySem.Spec PyProof.Rows L2 KV
/-! ### _law_bent_rule -/
/-- a tuple of texts, with a list of texts at the third place or not -/
abbrev RB := List Str × Option (List Str × List Str)
def rbL : RB → List PyData
  | (h, none) => h.map PyData.str
  | (h, some (cs, tl)) => h.map PyData.str ++ colsD cs :: tl.map PyData.str
def rbD (r : RB) : PyData := .tuple (rbL r)
structure RbOk (n mc : Nat) (r : RB) : Prop where
  head : r.1.length ≤ 2
  hg : ∀ x ∈ r.1, Gd n x
  two : r.2 ≠ none → r.1.length = 2
  cs : ∀ cs tl, r.2 = some (cs, tl) → cs.length ≤ mc ∧ (∀ x ∈ cs, Gd n x) ∧ tl.length ≤ 2 ∧ ∀ x ∈ tl, Gd n x
theorem noInt_rb (r : RB) : noIntAll (rbL r) = true := by
  refine noIntAll_of fun d hd => ?_
  have st : ∀ {l : List Str}, d ∈ l.map PyData.str → noInt d = true := fun h => by
    obtain ⟨x, _, rfl⟩ := List.mem_map.mp h
    simp [noInt]
  obtain ⟨h, o⟩ := r
  cases o with
  | none => exact st hd
  | some q =>
    obtain ⟨cs, tl⟩ := q
    rcases List.mem_append.mp hd with hd | hd
    · exact st hd
    · rcases List.mem_cons.mp hd with rfl | hd
      · exact noInt_cols cs
      · exact st hd
/-- texts alone -/
inductive Flat : List V → List PyData → Prop where
  | nil : Flat [] []
  | str {x : Str} {vs : List V} {ds : List PyData} (r : Flat vs ds) : Flat (.str x :: vs) (.str x :: ds)
/-- texts, and one list -/
inductive One (a : Addr) (d : PyData) : List V → List PyData → Prop where
  | str {x : Str} {vs : List V} {ds : List PyData} (r : One a d vs ds) : One a d (.str x :: vs) (.str x :: ds)
  | at_ {vs : List V} {ds : List PyData} (r : Flat vs ds) : One a d (.ref a :: vs) (d :: ds)
inductive Item (sm be : Addr) (cs bs : List Str) (vs : List V) (ds : List PyData) : Prop where
  | flat (h : Flat vs ds)
  | so (h : One sm (colsD cs) vs ds)
  | be (h : One be (colsD bs) vs ds)
theorem Flat.dp {K : PySem.W.Frag} {H : Hp} : ∀ {vs : List V} {ds : List PyData}, Flat vs ds → DpAll K H vs ds
  | _, _, .nil => .nil
  | _, _, .str r => .cons (.str _) r.dp
theorem One.dp {K : PySem.W.Frag} {H : Hp} {a : Addr} {d : PyData} (h : Dp K H (.ref a) d) : ∀ {vs : List V} {ds : List PyData}, One a d vs ds → DpAll K H vs ds
  | _, _, .str r => .cons (.str _) (r.dp h)
  | _, _, .at_ r => .cons h r.dp
theorem Flat.ow {H : Hp} {F : Fp} (e : ∀ a, ¬ F a) : ∀ {vs : List V} {ds : List PyData}, Flat vs ds → OwAll H vs ds F
  | _, _, .nil => .nil e
  | _, _, .str r => .cons (.str _ e) (r.ow e) (fun a z _ => e a z) fun a => ⟨.inl, fun z => z.elim id id⟩
theorem One.ow {H : Hp} {a : Addr} {d : PyData} {F : Fp} (h : Ow H (.ref a) d F) : ∀ {vs : List V} {ds : List PyData}, One a d vs ds → OwAll H vs ds F
  | _, _, .str r => .cons (F := fun _ => False) (.str _ fun _ z => z) (r.ow h) (fun _ z => z.elim) fun a => ⟨.inr, fun z => z.elim False.elim id⟩
  | _, _, .at_ r => .cons (G := fun _ => False) h (r.ow fun _ z => z) (fun _ _ z => z) fun a => ⟨.inl, fun z => z.elim id False.elim⟩
/-- a tuple of the menu -/
def ItemAt (sm be : Addr) (cs bs : List Str) (H : Hp) (u : V) (r : RB) : Prop := ∃ a vs, u = .ref a ∧ H a = some (.tup vs) ∧ Item sm be cs bs vs (rbL r)
theorem paired_snoc {D : V → RB → Prop} : ∀ {us : List V} {rs : List RB} {u : V} {r : RB}, Paired D us rs → D u r → Paired D (us ++ [u]) (rs ++ [r])
  | _, _, _, _, .nil, h => .cons h .nil
  | _, _, _, _, .cons h0 k, h => .cons h0 (paired_snoc k h)
theorem paired_imp {D E : V → RB → Prop} (f : ∀ u r, D u r → E u r) : ∀ {us : List V} {rs : List RB}, Paired D us rs → Paired E us rs
  | _, _, .nil => .nil
  | _, _, .cons h k => .cons (f _ _ h) (paired_imp f k)
theorem paired_at {D : V → RB → Prop} : ∀ {us : List V} {rs : List RB} {i : Nat} {u : V}, Paired D us rs → us[i]? = some u → ∃ r, rs[i]? = some r ∧ D u r
  | _, _, 0, _, .cons h k, e => by
    cases e
    exact ⟨_, rfl, h⟩
  | _, _, i + 1, _, .cons h k, e => paired_at (i := i) k e
  | _, _, i, _, .nil, e => by simp at e
/-- what the menu stands on -/
structure BR (K : PySem.W.Frag) (p : Addr) (c : Nat) (H0 : Hp) (sm be : Addr) (cs bs : List Str) (keep : List (Addr × HO)) (us : List V) (rs : List RB) (H : Hp) : Prop where
  es : H sm = some (.lst (cs.map V.str))
  eb : H be = some (.lst (bs.map V.str))
  ps : sm ≠ p
  pb : be ≠ p
  it : Paired (ItemAt sm be cs bs H) us rs
  pu : Pu H p c
  off : Off (fun a => a = p) H0 H
  kp : ∀ x ∈ keep, H x.1 = some x.2
section
variable {K : PySem.W.Frag} {p sm be : Addr} {c : Nat} {H0 H H' : Hp} {cs bs : List Str} {keep : List (Addr × HO)} {us : List V} {rs : List RB}
theorem BR.cum (B : BR K p c H0 sm be cs bs keep us rs H) : DpAll K H us (rs.map rbD) := by
  have so : Dp K H (.ref sm) (colsD cs) := .lst (SqL.of B.es) (dp_strs _)
  have b : Dp K H (.ref be) (colsD bs) := .lst (SqL.of B.eb) (dp_strs _)
  have key : ∀ {us : List V} {rs : List RB}, Paired (ItemAt sm be cs bs H) us rs → DpAll K H us (rs.map rbD) := by
    intro us rs h
    induction h with
    | nil => exact .nil
    | cons h k ih =>
      obtain ⟨a, vs, rfl, e, i⟩ := h
      refine .cons (.tup (SqT.of e) ?_) ih
      cases i with
      | flat h => exact h.dp
      | so h => exact h.dp so
      | be h => exact h.dp b
  exact key B.it
theorem BR.step (B : BR K p c H0 sm be cs bs keep us rs H) (k : Off (fun _ => False) H H') : BR K p c H0 sm be cs bs keep us rs H' :=
  ⟨k _ _ B.es id, k _ _ B.eb id, B.ps, B.pb, paired_imp (fun u r ⟨a, vs, e, h, i⟩ => ⟨a, vs, e, k _ _ h id, i⟩) B.it, B.pu.off k id, B.off.trans (k.mono fun _ z => z.elim), fun x hx => k _ _ (B.kp x hx) id⟩
/-- one more tuple -/
theorem BR.tup {a : Addr} (B : BR K p c H0 sm be cs bs keep us rs H) (ha : H a = none) (vs : List V) (r : RB) (hd : Item sm be cs bs vs (rbL r)) :
    BR K p c H0 sm be cs bs keep (us ++ [.ref a]) (rs ++ [r]) (upd H a (.tup vs)) := by
  have B1 := B.step (H' := upd H a (.tup vs)) (Off.new ha)
  exact ⟨B1.es, B1.eb, B1.ps, B1.pb, paired_snoc B1.it ⟨a, vs, rfl, upd_same, hd⟩, B1.pu, B1.off, B1.kp⟩
/-- a new list of those -/
theorem BR.menu {a : Addr} (B : BR K p c H0 sm be cs bs keep us rs H) (ha : H a = none) (xs : List V) : BR K p c H0 sm be cs bs [(a, .lst xs)] us rs (upd H a (.lst xs)) := by
  have B1 := B.step (H' := upd H a (.lst xs)) (Off.new ha)
  refine ⟨B1.es, B1.eb, B1.ps, B1.pb, B1.it, B1.pu, B1.off, fun x hx => ?_⟩
  rw [List.mem_singleton.mp hx]
  exact upd_same
theorem BR.more {a : Addr} {o : HO} (B : BR K p c H0 sm be cs bs keep us rs H) (ha : H a = none) : BR K p c H0 sm be cs bs ((a, o) :: keep) us rs (upd H a o) := by
  have B1 := B.step (H' := upd H a o) (Off.new ha)
  refine ⟨B1.es, B1.eb, B1.ps, B1.pb, B1.it, B1.pu, B1.off, fun x hx => ?_⟩
  rcases List.mem_cons.mp hx with rfl | hx
  · exact upd_same
  · exact B1.kp x hx
theorem BR.bad {d : Nat} (B : BR K p c H0 sm be cs bs keep us rs H) (k : Off (fun a => a = p) H H') (hp : Pu H' p d) (hk : ∀ x ∈ keep, x.1 ≠ p) : BR K p d H0 sm be cs bs keep us rs H' := by
  refine ⟨k _ _ B.es B.ps, k _ _ B.eb B.pb, B.ps, B.pb, paired_imp (fun u r ⟨a, vs, e, h, i⟩ => ⟨a, vs, e, k _ _ h fun z => ?_, i⟩) B.it, hp, B.off.trans k, fun x hx => k _ _ (B.kp x hx) (hk x hx)⟩
  obtain ⟨ys, ey⟩ := B.pu.lst
  rw [← z, h] at ey
  cases ey
/-- what a tuple of the menu owns -/
theorem BR.own (B : BR K p c H0 sm be cs bs keep us rs H) {u : V} {r : RB} (h : ItemAt sm be cs bs H u r) : ∃ F, Ow H u (rbD r) F ∧ ∀ a, F a → a = sm ∨ a = be := by
  obtain ⟨a, vs, rfl, e, i⟩ := h
  cases i with
  | flat h => exact ⟨fun _ => False, .tup e (h.ow fun _ z => z), fun _ z => z.elim⟩
  | so h => exact ⟨_, .tup e (h.ow (ow_strs B.es)), fun _ z => .inl z⟩
  | be h => exact ⟨_, .tup e (h.ow (ow_strs B.eb)), fun _ z => .inr z⟩
theorem mem2 {Pr : Str → Prop} {x y : Str} (h : Pr x) (k : Pr y) : ∀ z ∈ [x, y], Pr z := by
  intro z hz
  rcases List.mem_cons.mp hz with e | hz
  · rw [e]
    exact h
  · rw [List.mem_singleton.mp hz]
    exact k
theorem rb1 {n mc : Nat} {x : Str} (h : Gd n x) : RbOk n mc ([x], none) := ⟨by show 1 ≤ 2; decide, fun y hy => by rw [List.mem_singleton.mp hy]; exact h, fun z => (z rfl).elim, fun _ _ z => by cases z⟩
theorem rb2 {n mc : Nat} {x y : Str} (h : Gd n x) (k : Gd n y) : RbOk n mc ([x, y], none) :=
  ⟨by show 2 ≤ 2; decide, mem2 h k, fun z => rfl, fun _ _ z => by cases z⟩
theorem rb3 {n mc : Nat} {x y : Str} {cs tl : List Str} (h : Gd n x) (k : Gd n y) (c1 : cs.length ≤ mc) (c2 : ∀ x ∈ cs, Gd n x) (t1 : tl.length ≤ 2) (t2 : ∀ x ∈ tl, Gd n x) : RbOk n mc ([x, y], some (cs, tl)) :=
  ⟨by show 2 ≤ 2; decide, mem2 h k, fun z => rfl, fun _ _ z => by cases z; exact ⟨c1, c2, t1, t2⟩⟩
end
def spBentR (K : PySem.W.Frag) : Sp := fun vs H Q _ => ∃ (p : Addr) (v : V) (ts : List Tab) (n mc mt c : Nat), vs = [.ref p, v] ∧ Dp K H v (tabsD ts) ∧ TabsB n mc mt ts ∧ 7 ≤ n ∧ n ≤ 300 ∧ mc ≤ 100 ∧ mt ≤ 100 ∧ Pu H p c ∧ c + 10 ≤ 1000000000 ∧
  ∀ (v' : V) (r : RB) (F : Fp) (H' : Hp) (c' : Nat), Ow H' v' (rbD r) F → (∀ a, F a → H a = none) → RbOk (2 * n + 9) (mc + 1) r → Pu H' p c' → c' ≤ c + 10 → Off (fun a => a = p) H H' → Q v' H'
section
variable {P : Program} {w : World} {K : PySem.W.Frag} {mg : Str → Option Value} {base : Heap}
end
end LW
set_option Elab.async false
set_option linter.all false
set_option maxRecDepth 100000
set_option maxHeartbeats 0
namespace LW
open PySem PySem.Spec PyProof.Rows L2 KV
/-! ### _law_bent_rules -/
def rbsD (rs : List RB) : PyData := .list (rs.map rbD)
theorem dpAll_take {K : PySem.W.Frag} {H : Hp} : ∀ {xs : List V} {ds : List PyData} (k : Nat), DpAll K H xs ds → DpAll K H (xs.take k) (ds.take k)
  | _, _, 0, _ => by simp only [List.take_zero]; exact .nil
  | _, _, k + 1, .nil => by simp only [List.take_nil]; exact .nil
  | _, _, k + 1, .cons h r => .cons h (dpAll_take k r)
theorem dpAll_drop {K : PySem.W.Frag} {H : Hp} : ∀ {xs : List V} {ds : List PyData} (k : Nat), DpAll K H xs ds → DpAll K H (xs.drop k) (ds.drop k)
  | _, _, 0, h => h
  | _, _, k + 1, .nil => .nil
  | _, _, k + 1, .cons h r => dpAll_drop k r
theorem dpAll_append {K : PySem.W.Frag} {H : Hp} : ∀ {xs ys : List V} {ds es : List PyData}, DpAll K H xs ds → DpAll K H ys es → DpAll K H (xs ++ ys) (ds ++ es)
  | _, _, _, _, .nil, k => k
  | _, _, _, _, .cons h r, k => .cons h (dpAll_append r k)
theorem RbOk.mono {n n' m m' : Nat} {r : RB} (h : RbOk n m r) (e : n ≤ n') (f : m ≤ m') : RbOk n' m' r :=
  ⟨h.head, fun x hx => (h.hg x hx).mono e, h.two, fun cs tl z => by
    obtain ⟨a, b, c, d⟩ := h.cs cs tl z
    exact ⟨Nat.le_trans a f, fun x hx => (b x hx).mono e, c, fun x hx => (d x hx).mono e⟩⟩
theorem fit_rb {n m : Nat} {r : RB} (h : RbOk n m r) : Fit n [5, m] (rbD r) := by
  have str : ∀ {l : List Str} {d : PyData}, (∀ x ∈ l, Gd n x) → d ∈ l.map PyData.str → Fit n [m] d := fun g hd => by
    obtain ⟨x, hx, rfl⟩ := List.mem_map.mp hd
    exact fit_str (g x hx)
  obtain ⟨hd, o⟩ := r
  cases o with
  | none => exact ⟨by rw [rbL, List.length_map]; exact Nat.le_trans h.head (by decide), fun d hd => str h.hg hd⟩
  | some q =>
    obtain ⟨cs, tl⟩ := q
    obtain ⟨a, b, c, d⟩ := h.cs cs tl rfl
    have hh := h.head
    refine ⟨?_, fun e he => ?_⟩
    · rw [rbL, List.length_append, List.length_cons, List.length_map, List.length_map]
      show hd.length + _ ≤ 5
      have hh : hd.length ≤ 2 := hh
      omega
    · rcases List.mem_append.mp he with he | he
      · exact str h.hg he
      · rcases List.mem_cons.mp he with rfl | he
        · exact fit_cols a b
        · exact str d he
theorem fit_rbs {n m M : Nat} {rs : List RB} (l : rs.length ≤ M) (h : ∀ r ∈ rs, RbOk n m r) : Fit n [M, 5, m] (rbsD rs) := by
  refine ⟨by rw [List.length_map]; exact l, fun d hd => ?_⟩
  obtain ⟨r, hr, rfl⟩ := List.mem_map.mp hd
  exact fit_rb (h r hr)
theorem noInt_rbs (rs : List RB) : noInt (rbsD rs) = true := by
  simp only [rbsD, noInt]
  refine noIntAll_of fun d hd => ?_
  obtain ⟨r, _, rfl⟩ := List.mem_map.mp hd
  unfold rbD
  simp only [noInt]
  exact noInt_rb r
theorem owAll_cutF {H : Hp} : ∀ {xs : List V} {ds : List PyData} {F : Fp} (n : Nat), OwAll H xs ds F → ∃ F1 F2, OwAll H (xs.take n) (ds.take n) F1 ∧ OwAll H (xs.drop n) (ds.drop n) F2 ∧ (∀ a, F a ↔ F1 a ∨ F2 a) ∧ ∀ a, F1 a → ¬ F2 a
  | _, _, F, n, .nil e => ⟨fun _ => False, fun _ => False, by simpa using OwAll.nil fun _ z => z, by simpa using OwAll.nil fun _ z => z, fun a => ⟨fun z => (e a z).elim, fun z => z.elim False.elim False.elim⟩, fun _ z => z.elim⟩
  | _, _, F, 0, .cons h r d e => ⟨fun _ => False, F, by simpa using OwAll.nil fun _ z => z, .cons h r d e, fun a => ⟨.inr, fun z => z.elim False.elim id⟩, fun _ z => z.elim⟩
  | _, _, F, n + 1, .cons (F := F1) (G := G1) h r d e => by
    obtain ⟨A, B, h1, h2, h3, h4⟩ := owAll_cutF n r
    refine ⟨fun a => F1 a ∨ A a, B, .cons h h1 (fun a z y => d a z ((h3 a).mpr (.inl y))) fun _ => Iff.rfl, h2, fun a => ?_, fun a z y => ?_⟩
    · rw [e a, h3 a]
      exact ⟨fun z => z.elim (fun z => .inl (.inl z)) fun z => z.elim (fun z => .inl (.inr z)) .inr, fun z => z.elim (fun z => z.elim .inl fun z => .inr (.inl z)) fun z => .inr (.inr z)⟩
    · rcases z with z | z
      · exact d a z ((h3 a).mpr (.inr y))
      · exact h4 a z y
theorem owAll_appF {H : Hp} : ∀ {xs ys : List V} {ds es : List PyData} {F G : Fp}, OwAll H xs ds F → OwAll H ys es G → (∀ a, F a → ¬ G a) → OwAll H (xs ++ ys) (ds ++ es) (fun a => F a ∨ G a)
  | _, _, _, _, F, G, .nil e, h, d => h.congr fun a => ⟨fun z => z.elim (fun z => (e a z).elim) id, .inr⟩
  | _, _, _, _, F, G, .cons (F := F1) (G := G1) h r d0 e, h2, d => by
    refine .cons (G := fun a => G1 a ∨ G a) h (owAll_appF r h2 fun a z => d a ((e a).mpr (.inr z))) (fun a z y => ?_) fun a => ?_
    · rcases y with y | y
      · exact d0 a z y
      · exact d a ((e a).mpr (.inl z)) y
    · constructor
      · rintro (z | z)
        · exact ((e a).mp z).elim .inl fun z => .inr (.inl z)
        · exact .inr (.inr z)
      · rintro (z | z | z)
        · exact .inl ((e a).mpr (.inl z))
        · exact .inl ((e a).mpr (.inr z))
        · exact .inr z
def spBentRs (K : PySem.W.Frag) : Sp := fun vs H Q _ => ∃ (p : Addr) (v w : V) (ts : List Tab) (rs : List RB) (n mc mt N M L c : Nat), vs = [.ref p, v, w] ∧ Dp K H v (tabsD ts) ∧ TabsB n mc mt ts ∧ 7 ≤ n ∧ n ≤ 300 ∧ mc ≤ 100 ∧ mt ≤ 100 ∧
  Dp K H w (rbsD rs) ∧ (∀ r ∈ rs, RbOk N M r) ∧ 2 * n + 9 ≤ N ∧ mc + 1 ≤ M ∧ M ≤ 1000 ∧ rs.length ≤ L ∧ L ≤ 1000 ∧ Pu H p c ∧ c + 20 ≤ 1000000000 ∧
  ∀ (v' : V) (rs' : List RB) (F : Fp) (H' : Hp) (c' : Nat), Ow H' v' (rbsD rs') F → (∀ a, F a → H a = none) → (∀ r ∈ rs', RbOk N M r) → rs'.length ≤ L + 1 → Pu H' p c' → c' ≤ c + 20 → Off (fun a => a = p) H H' → Q v' H'
section
variable {P : Program} {w : World} {K : PySem.W.Frag} {mg : Str → Option Value} {base : Heap}
end
end LW
set_option Elab.async false
set_option linter.all false
set_option maxRecDepth 100000
set_option maxHeartbeats 4000000
/-! x in xs, x not in xs: items of any data. -/
namespace KV
open PySem PySem.Spec PyProof.Rows L2
open Classical in
/-- whether the value reads as data that equals d -/
noncomputable def eD (h : Heap) (d : PyData) (y : Value) : Bool := decide (∃ e as, Reads h y e as ∧ e.eqv d = true)
open Classical in
theorem eD_of {h : Heap} {d e : PyData} {y : Value} {as : List Addr} (r : Reads h y e as) : eD h d y = e.eqv d := by
  unfold eD
  cases q : e.eqv d with
  | true => exact decide_eq_true ⟨e, as, r, q⟩
  | false =>
    refine decide_eq_false ?_
    rintro ⟨e', as', r', q'⟩
    have z := reads_det (h := h) (h' := h) (fun b o k _ => k) r r'
    rw [z.1, q] at q'
    cases q'
section
variable {X : Cx} {pins : List (Addr × Obj)} {σ : L2.St} {H : Hp} {s : Shared}
theorem any_data (I : L2.Inv X pins σ H s) {d : PyData} : ∀ {xs : List V} {us : List Value} {ds : List PyData}, Vals xs us → DpAll X.K H xs ds → us.any (eD s.heap d) = ds.any fun e => e.eqv d
  | _, _, _, .nil, .nil => rfl
  | _, _, _, .cons h r, .cons k q => by
    obtain ⟨as, rd⟩ := Dp.reads I _ _ _ k h
    rw [List.any_cons, List.any_cons, eD_of rd, any_data I r q]
theorem at_data (I : L2.Inv X pins σ H s) {d : PyData} {v : Value} {bs : List Addr} (rd : Reads s.heap v d bs) (sd : SeqAt.shaped d = true) (hu : X.A.units + 65 < cLine) :
    ∀ {xs : List V} {us : List Value} {ds : List PyData}, Vals xs us → DpAll X.K H xs ds → (∀ e ∈ ds, SeqAt.shaped e = true) → ∀ y ∈ us, SeqAt.EqAt X.A.in1 s y v (eD s.heap d y)
  | _, _, _, .nil, .nil, _, y, hy => absurd hy (by simp)
  | _, _, _, .cons h r, .cons k q, hs, y, hy => by
    rcases List.mem_cons.mp hy with rfl | hy
    · obtain ⟨as, r1⟩ := Dp.reads I _ _ _ k h
      rw [eD_of r1]
      exact PySem.W.keq_at r1 rd (hs _ List.mem_cons_self) sd (by show X.A.units + 1 + 64 < cLine; omega)
    · exact at_data I rd sd hu r q (fun e he => hs e (List.mem_cons_of_mem _ he)) y hy
end
def rInD (K : PySem.W.Frag) (neg : Bool) : R2 := fun x y H Q => ∃ (p : Addr) (xs : List V) (ds : List PyData) (d : PyData), y = .ref p ∧ (SqL K H p xs ∨ SqT K H p xs) ∧ DpAll K H xs ds ∧ Dp K H x d ∧ (∀ e ∈ ds, SeqAt.shaped e = true) ∧ SeqAt.shaped d = true ∧
  Q (.bl (if neg = true then !ds.any (fun e => e.eqv d) else ds.any fun e => e.eqv d)) H
theorem op_notInD {X : Cx} (hu : X.A.units + 65 < cLine) : OpR X (compareOp .NotIn) (rInD X.K true) := by
  intro pins s σ H x y v u Q I rx ry h
  obtain ⟨p, xs, ds, d, rfl, hq, hd, hx, hs, sd, q⟩ := h
  cases ry
  obtain ⟨bs, rd⟩ := Dp.reads I d x v hx rx
  rcases hq with hq | hq
  · obtain ⟨its, r, pl, _⟩ := Inv.list I hq
    refine SeqAt.notIn_listAt (eD s.heap d) (PlainL.isList pl) (fun y hy => at_data I rd sd hu r hd hs y (by simpa using hy)) ⟨.bl _, H, I, rfl, ?_⟩
    have e : its.toArray.any (eD s.heap d) = its.any (eD s.heap d) := by simp
    rw [e, any_data I r hd]
    exact q
  · obtain ⟨its, r, pl, _⟩ := Inv.tuple I hq
    refine SeqAt.notIn_tupleAt (eD s.heap d) pl (fun y hy => at_data I rd sd hu r hd hs y (by simpa using hy)) ⟨.bl _, H, I, rfl, ?_⟩
    have e : its.toArray.any (eD s.heap d) = its.any (eD s.heap d) := by simp
    rw [e, any_data I r hd]
    exact q
theorem op_inD {X : Cx} (hu : X.A.units + 65 < cLine) : OpR X (compareOp .In) (rInD X.K false) := by
  intro pins s σ H x y v u Q I rx ry h
  obtain ⟨p, xs, ds, d, rfl, hq, hd, hx, hs, sd, q⟩ := h
  cases ry
  obtain ⟨bs, rd⟩ := Dp.reads I d x v hx rx
  rcases hq with hq | hq
  · obtain ⟨its, r, pl, _⟩ := Inv.list I hq
    refine SeqAt.in_listAt (eD s.heap d) (PlainL.isList pl) (fun y hy => at_data I rd sd hu r hd hs y (by simpa using hy)) ⟨.bl _, H, I, rfl, ?_⟩
    have e : its.toArray.any (eD s.heap d) = its.any (eD s.heap d) := by simp
    rw [e, any_data I r hd]
    exact q
  · obtain ⟨its, r, pl, _⟩ := Inv.tuple I hq
    refine SeqAt.in_tupleAt (eD s.heap d) pl (fun y hy => at_data I rd sd hu r hd hs y (by simpa using hy)) ⟨.bl _, H, I, rfl, ?_⟩
    have e : its.toArray.any (eD s.heap d) = its.any (eD s.heap d) := by simp
    rw [e, any_data I r hd]
    exact q
end KV
set_option Elab.async false
set_option linter.all false
set_option maxRecDepth 100000
set_option maxHeartbeats 4000000
/-! A slice that is the whole tuple: the tuple itself. -/
namespace KV
open PySem PySem.Spec PyProof.Rows L2
theorem getItem_tuple_whole {prog : Program} {w : World} {A : Around} {E : Value → Shared → Prop} {s : Shared} {t sl : Addr} {items : Array Value} {vl vu : Value} {lo hi : Option Int} {Q : Value → Shared → Prop}
    (ht : IsTup s.heap t items) (hs : s.heap.IsSliceOf sl vl vu .none) (pl : IsPart vl lo) (pu : IsPart vu hi) (hw : HT.sIx items.size 0 lo = 0 ∧ HT.sIx items.size items.size hi = items.size) (h : Q (.ref t) s) :
    wpAny (model prog w) A (getItem (.ref t) (.ref sl)) Q E s := by
  obtain ⟨os, hos, hcs, hds⟩ := id hs
  refine wpAny_holding (wpAny_bind (wpAny_sequenceKey (IsTup.typeIs ht) (by decide) (wpAny_bind (wpAny_callSpecial?_slot (IsTup.typeIs ht) slot_tuple_getitem (wpAny_call_entry slot_tuple_getitem (IsTup.typeIs ht) entry_tuple_getitem ?_)))))
  refine wpAny_bind (show wpAny _ _ (pure (Value.ref t, [Value.ref sl])) _ _ _ from wpAny_pure ?_)
  refine wpAny_bind (tupleItemsOf_ ht (wpAny_bind (wpAny_typeOf (T := "slice") (show s.TypeIs (.ref sl) "slice" from ⟨os, hos, hcs⟩) ?_)))
  rw [if_pos (by decide)]
  refine wpAny_bind (HT.sliceApplied_gen hs pl pu ?_)
  rw [hw.1, hw.2]
  have e : ((((0 : Nat) : Int) == 0 && (1 : Int) == 1) && (items.size - 0 == items.size)) = true := by simp
  dsimp only
  rw [if_pos e]
  refine wpAny_bind (show wpAny _ _ (do
    let c ← typeOf (Value.ref t)
    pure (c == Value.type "tuple")) _ _ _ from wpAny_bind (wpAny_typeOf (IsTup.typeIs ht) (wpAny_pure ?_)))
  rw [if_pos (by decide)]
  refine wpAny_bind (wpAny_rule ?_)
  exact wpAny_pure ⟨.ref t, rfl, wpAny_pure h⟩
/-- t[lo:hi], all of t or less -/
def rSlTW (K : PySem.W.Frag) : V → Option Int → Option Int → Hp → VK → Prop := fun x lo hi H Q => ∃ (a : Addr) (xs : List V), x = .ref a ∧ SqT K H a xs ∧
  (¬ (HT.sIx xs.length 0 lo = 0 ∧ HT.sIx xs.length xs.length hi = xs.length) → ∀ p, H p = none → Q (.ref p) (upd H p (.tup (cutV xs lo hi)))) ∧
  ((HT.sIx xs.length 0 lo = 0 ∧ HT.sIx xs.length xs.length hi = xs.length) → Q (.ref a) H)
theorem sl_tupW {X : Cx} : SlR X (rSlTW X.K) := by
  intro pins s σ H x v vl vu lo hi sl Q I rx hs pl pu h
  obtain ⟨a, xs, rfl, hx, h1, h2⟩ := h
  by_cases c : HT.sIx xs.length 0 lo = 0 ∧ HT.sIx xs.length xs.length hi = xs.length
  · cases rx
    obtain ⟨its, r, ht, hz⟩ := Inv.tuple I hx
    have hl : its.toArray.size = xs.length := by rw [List.size_toArray]; exact r.length.symm
    exact ⟨"tuple", "tuple.__getitem__", slot_tuple_getitem.lookup, IsTup.typeIs ht, getItem_tuple_whole ht hs pl pu (by rw [hl]; exact c) ⟨.ref a, H, I, rfl, h2 c⟩⟩
  · exact sl_tup pins s σ H _ v vl vu lo hi sl Q I rx hs pl pu ⟨a, xs, rfl, hx, c, h1 c⟩
/-- xs + ys: lists of any standing -/
def rCatS (K : PySem.W.Frag) : R2 := fun x y H Q => ∃ (l b : Addr) (xs zs : List V), x = .ref l ∧ y = .ref b ∧ SqL K H l xs ∧ SqL K H b zs ∧ xs.length + zs.length ≤ sizeLine ∧
  ∀ p, H p = none → Q (.ref p) (upd H p (.lst (xs ++ zs)))
theorem op_catS {X : Cx} : OpR X (binaryOp .Add) (rCatS X.K) := by
  intro pins s σ H x y v u Q I rx ry h
  obtain ⟨l, b, xs, zs, rfl, rfl, h1, h2, hz, q⟩ := h
  cases rx
  cases ry
  obtain ⟨its, r, pl, _⟩ := Inv.list I h1
  obtain ⟨its2, r2, pl2, _⟩ := Inv.list I h2
  obtain ⟨⟨c, d, dat, sl⟩, n, e, e1, e2, e3⟩ := pl
  obtain ⟨⟨c2, d2, dat2, sl2⟩, n2, f, f1, f2, f3⟩ := pl2
  dsimp only at e1 e2 e3 f1 f2 f3
  subst e1 e2 e3 f1 f2 f3
  have hsz : its.toArray.size + its2.toArray.size ≤ sizeLine := by
    have a := r.length
    have a2 := r2.length
    rw [List.size_toArray, List.size_toArray]
    omega
  refine concat_meets ⟨_, e, rfl⟩ ⟨_, f, rfl⟩ noFill_list_add seq_list_add F.slot_list_add F.entry_list_add (F.args_list_add_2 (.ref l) (.ref b))
    (PyProof.Rows.list_addW l b its.toArray its2.toArray n n2 none none sl sl2 hsz) ⟨e, f, ?_⟩
  rw [List.append_toArray]
  exact ⟨.ref _, upd H _ (.lst (xs ++ zs)), Inv.lnew I (r.append r2) (by rw [List.length_append]; exact hz), rfl, q _ (Inv.fresh I)⟩
end KV
set_option Elab.async false
set_option linter.all false
set_option maxRecDepth 100000
set_option maxHeartbeats 0
namespace LW
open PySem PySem.Spec PyProof.Rows L2 KV
/-! ### _law_wrong_rule -/
def tabOf (ts : List Tab) (x : Str) : Option Tab := ts.find? fun t => decide (t.1 = x)
/-- the first error of a rule -/
def wrong1 (ts : List Tab) : RB → Option (Str × PyData)
  | ([k, x], some (cs, tl)) =>
    if (k = "key" ∧ tl.length = 0) ∨ (k = "settles" ∧ tl.length = 1) then
      match tabOf ts x with
      | none => some ("UnknownTable", .str x)
      | some t => match (cs ++ tl).find? fun c => !decide (c ∈ t.2) with
        | none => none
        | some c => some ("UnknownColumn", .str c)
    else some ("InvalidRule", rbD ([k, x], some (cs, tl)))
  | r => some ("InvalidRule", rbD r)
def wrongs (ts : List Tab) : List RB → Option (Str × PyData)
  | [] => none
  | r :: rs => match wrong1 ts r with
    | some e => some e
    | none => wrongs ts rs
/-- a dict of the tables -/
inductive TitK (K : PySem.W.Frag) (H : Hp) : List (Key × V) → List Tab → Prop where
  | nil : TitK K H [] []
  | cons {kvs : List (Key × V)} {ts : List Tab} {t : Tab} {v : V} (h : Dp K H v (colsD t.2)) (r : TitK K H kvs ts) : TitK K H ((.inr t.1, v) :: kvs) (t :: ts)
theorem titK_off {K : PySem.W.Frag} {H H' : Hp} (k : Off (fun _ => False) H H') : ∀ {kvs : List (Key × V)} {ts : List Tab}, TitK K H kvs ts → TitK K H' kvs ts
  | _, _, .nil => .nil
  | _, _, .cons h r => .cons (dp_off k h) (titK_off k r)
theorem titK_at {K : PySem.W.Frag} {H : Hp} {x : Str} : ∀ {kvs : List (Key × V)} {ts : List Tab}, TitK K H kvs ts →
    (valV kvs (.inr x) = none ∧ tabOf ts x = none) ∨ ∃ v t, valV kvs (.inr x) = some v ∧ tabOf ts x = some t ∧ Dp K H v (colsD t.2)
  | _, _, .nil => .inl ⟨rfl, rfl⟩
  | _, _, .cons (t := t) (v := v) (kvs := kvs) (ts := ts) h r => by
    by_cases e : t.1 = x
    · refine .inr ⟨v, t, ?_, ?_, h⟩
      · simp [valV, List.find?_cons, e]
      · simp [tabOf, List.find?_cons, e]
    · have e1 : valV (((.inr t.1 : Key), v) :: kvs) (.inr x) = valV kvs (.inr x) := by simp [valV, List.find?_cons, e]
      have e2 : tabOf (t :: ts) x = tabOf ts x := by simp [tabOf, List.find?_cons, e]
      rw [e1, e2]
      exact titK_at r
def endR (K : PySem.W.Frag) (H : Hp) (Q : VK) : Option (Str × PyData) → Prop
  | none => ∀ H', Off (fun _ => False) H H' → Q .non H'
  | some (x, e) => ∀ t u H', SqT K H' t [.str x, u] → Dp K H' u e → Off (fun _ => False) H H' → Q (.ref t) H'
/-- what is told is a text, or one of the rules that were handed in -/
def PartW (xw : List V) (rs : List RB) (u : V) (e : PyData) : Prop := (∃ x, u = .str x ∧ e = .str x) ∨ ∃ (i : Nat) (r : RB), xw[i]? = some u ∧ rs[i]? = some r ∧ e = rbD r
def endRW (K : PySem.W.Frag) (H : Hp) (xw : List V) (rs : List RB) (Q : VK) : Option (Str × PyData) → Prop
  | none => ∀ H', Off (fun _ => False) H H' → Q .non H'
  | some (x, e) => ∀ t u H', SqT K H' t [.str x, u] → Dp K H' u e → PartW xw rs u e → Off (fun _ => False) H H' → Q (.ref t) H'
def spWrongR (K : PySem.W.Frag) : Sp := fun vs H Q _ => ∃ (d aw : Addr) (xw : List V) (kvs : List (Key × V)) (ts : List Tab) (rs : List RB) (N M : Nat), vs = [.ref d, .ref aw] ∧ H d = some (.dK kvs) ∧ TitK K H kvs ts ∧ (∀ t ∈ ts, t.2.length ≤ 1000) ∧
  SqL K H aw xw ∧ DpAll K H xw (rs.map rbD) ∧ (∀ r ∈ rs, RbOk N M r) ∧ M ≤ 1000 ∧ rs.length ≤ 1000 ∧ endRW K H xw rs Q (wrongs ts rs)
theorem eqv_one (a b : Str) : PyData.eqv (.tuple [.str a]) (.tuple [.str b]) = (a == b) := by
  simp [PyData.eqv, PyData.eqvAll]
theorem shaped_one {x : Str} (h : Asc x) : SeqAt.shaped (.tuple [.str x]) = true := by
  have q := shaped_strs (xs := [x]) fun y hy => by rw [List.mem_singleton.mp hy]; exact h
  unfold SeqAt.shaped at q ⊢
  simpa [PyData.canLay0, PyData.depth] using q
theorem wrong1_not {ts : List Tab} {k x : Str} {cs tl : List Str} (h : ¬ ((k = "key" ∧ tl.length = 0) ∨ (k = "settles" ∧ tl.length = 1))) : wrong1 ts ([k, x], some (cs, tl)) = some (("InvalidRule" : Str), rbD ([k, x], some (cs, tl))) := by
  simp only [wrong1]
  rw [if_neg h]
theorem wrong1_yes {ts : List Tab} {k x : Str} {cs tl : List Str} (h : (k = "key" ∧ tl.length = 0) ∨ (k = "settles" ∧ tl.length = 1)) : wrong1 ts ([k, x], some (cs, tl)) =
    match tabOf ts x with
    | none => some (("UnknownTable" : Str), .str x)
    | some t => match (cs ++ tl).find? fun c => !decide (c ∈ t.2) with
      | none => none
      | some c => some (("UnknownColumn" : Str), .str c) := by
  simp only [wrong1]
  rw [if_pos h]
theorem inV_strs (c : Str) (l : List Str) : inV (.str c) (l.map V.str) = decide (c ∈ l) := by
  induction l with
  | nil => rfl
  | cons a l ih =>
    have e : inV (.str c) ((a :: l).map V.str) = ((a == c) || inV (.str c) (l.map V.str)) := rfl
    rw [e, ih]
    by_cases z : a = c
    · simp [z]
    · have z2 : ¬ c = a := fun y => z y.symm
      simp [z, z2]
theorem flat_strs (l : List Str) : (l.map V.str).all flatV = true := by
  induction l with
  | nil => rfl
  | cons a l ih => exact ih
theorem forms_tail {K : PySem.W.Frag} {σ : L2.St} {G : Hp} {sl : Addr} {ds : List PyData} {Q' : VK} (h : Dp K G (.ref sl) (.tuple ds)) (sh : SeqAt.shaped (.tuple ds) = true)
    (q : ∀ G', Off (fun _ => False) G G' → Q' (.bl (!(PyData.eqv (.tuple [.str "key"]) (.tuple ds) || PyData.eqv (.tuple [.str "settles"]) (.tuple ds)))) G') :
    tTup (tCons (tTup (tCons (tC (.str "key")) tNil)) (tCons (tTup (tCons (tC (.str "settles")) tNil)) tNil)) σ G fun y H2 => rInD K true (.ref sl) y H2 Q' := by
  refine ⟨by show 1 ≤ sizeLine; decide, fun t1 n1 => ⟨by show 1 ≤ sizeLine; decide, fun t2 n2 => ⟨by show 2 ≤ sizeLine; decide, fun t3 n3 => ?_⟩⟩⟩
  have k1 : Off (fun _ => False) G (upd G t1 (.tup [.str "key"])) := Off.new n1
  have k2 := k1.trans (Off.new (o := .tup [.str "settles"]) n2)
  have k3 := k2.trans (Off.new (o := .tup [.ref t1, .ref t2]) n3)
  have e2 : (upd (upd G t1 (.tup [.str "key"])) t2 (.tup [.str "settles"])) t1 = some (.tup [.str "key"]) := (upd_ne (ne_of_none upd_same n2)).trans upd_same
  have e3 := (upd_ne (o := .tup [.ref t1, .ref t2]) (ne_of_none e2 n3)).trans e2
  have f2 : (upd (upd G t1 (.tup [.str "key"])) t2 (.tup [.str "settles"])) t2 = some (.tup [.str "settles"]) := upd_same
  have f3 := (upd_ne (o := .tup [.ref t1, .ref t2]) (ne_of_none f2 n3)).trans f2
  refine ⟨t3, [.ref t1, .ref t2], [.tuple [.str "key"], .tuple [.str "settles"]], .tuple ds, rfl, .inr (SqT.of upd_same), .cons (.tup (SqT.of e3) (.cons (.str _) .nil)) (.cons (.tup (SqT.of f3) (.cons (.str _) .nil)) .nil),
    dp_off k3 h, ?_, sh, ?_⟩
  · have all : ∀ e ∈ ([.tuple [.str "key"], .tuple [.str "settles"]] : List PyData), SeqAt.shaped e = true := by decide +kernel
    exact all
  · have z := q _ k3
    simpa using z
section
variable {P : Program} {w : World} {K : PySem.W.Frag} {mg : Str → Option Value} {base : Heap}
end
end LW
set_option Elab.async false
set_option linter.all false
set_option maxRecDepth 100000
set_option maxHeartbeats 0
namespace LW
open PySem PySem.Spec PyProof.Rows L2 KV
/-- a loop over enumerate of a list -/
theorem for_enum {K : PySem.W.Frag} {a : Addr} {xs : List V} {g : TG} {tb : TS} {D : Ends} {σ : L2.St} {H : Hp} (Pv : Nat → L2.St → Hp → Prop) (h0 : Pv 0 σ H) (hl : ∀ i σ H, i ≤ xs.length → Pv i σ H → SqL K H a xs)
    (hs : ∀ i x σ H T, xs[i]? = some x → Pv i σ H → H T = none → g (.ref T) σ (upd H T (.tup [.int (i : Nat), x])) fun σ2 H2 => tb { D with nx := Pv (i + 1), ct := Pv (i + 1), bk := D.nx } σ2 H2) (hd : ∀ σ H, Pv xs.length σ H → D.nx σ H) :
    ∃ W : Nat → Nat → L2.St → Hp → Prop, (∃ m, W 0 m σ H) ∧ ∀ i m σ H, W i m σ H →
      ((Ite K a).stop i H ∧ D.nx σ H) ∨ ((Ite K a).go i H ∧ ∃ N : L2.St → Hp → Prop, (∀ σ' H', N σ' H' → ∃ m', m' < m ∧ W (i + 1) m' σ' H') ∧ ∀ x H', (Ite K a).yld i H x H' → g x σ H' fun σ2 H2 => tb { D with nx := N, ct := N, bk := D.nx } σ2 H2) := by
  refine ⟨fun i m σ H => m = xs.length - i ∧ i ≤ xs.length ∧ Pv i σ H, ⟨xs.length, by simp, Nat.zero_le _, h0⟩, ?_⟩
  rintro i m σ H ⟨rfl, hi, p⟩
  have q := hl i σ H hi p
  by_cases hlt : i < xs.length
  · refine .inr ⟨⟨xs, xs[i], q, by simp [hlt]⟩, Pv (i + 1), fun σ' H' p' => ⟨xs.length - (i + 1), by omega, rfl, hlt, p'⟩, fun x H' y => ?_⟩
    obtain ⟨T, x', rfl, hT, rfl, y⟩ := y
    exact hs i x' σ _ T (y xs q) p hT
  · have e : i = xs.length := by omega
    subst e
    exact .inl ⟨⟨xs, q, Nat.le_refl _⟩, hd σ H p⟩
/-- at p: neither a list nor a tuple -/
def NoSq (H : Hp) (p : Addr) : Prop := (∀ xs, ¬ Rd H p (.lst xs)) ∧ ∀ xs, ¬ Rd H p (.tup xs)
theorem NoSq.dK {H : Hp} {p : Addr} {kvs : List (Key × V)} (h : H p = some (.dK kvs)) : NoSq H p := by
  refine ⟨fun xs z => ?_, fun xs z => ?_⟩ <;>
  · rcases z with z | ⟨o, z⟩ <;> rw [h] at z <;> cases z
section
variable {K : PySem.W.Frag} {H H' : Hp} {p : Addr}
theorem sqL_in {a : Addr} {xs : List V} (k : Off (fun a => a = p) H H') (n : NoSq H p) (h : SqL K H a xs) : SqL K H' a xs := by
  rcases h with h | h
  · have z : a ≠ p := fun z => n.1 xs (z ▸ h)
    rcases h with h | ⟨o, h⟩
    · exact .inl (.inl (k _ _ h z))
    · exact .inl (.inr ⟨o, k _ _ h z⟩)
  · exact .inr h
theorem sqT_in {a : Addr} {xs : List V} (k : Off (fun a => a = p) H H') (n : NoSq H p) (h : SqT K H a xs) : SqT K H' a xs := by
  rcases h with h | h
  · have z : a ≠ p := fun z => n.2 xs (z ▸ h)
    rcases h with h | ⟨o, h⟩
    · exact .inl (.inl (k _ _ h z))
    · exact .inl (.inr ⟨o, k _ _ h z⟩)
  · exact .inr h
mutual
theorem dp_in (k : Off (fun a => a = p) H H') (n : NoSq H p) : ∀ {v : V} {d : PyData}, Dp K H v d → Dp K H' v d
  | _, _, .non => .non
  | _, _, .bl b => .bl b
  | _, _, .int i => .int i
  | _, _, .str x => .str x
  | _, _, .lst h r => .lst (sqL_in k n h) (dpAll_in k n r)
  | _, _, .tup h r => .tup (sqT_in k n h) (dpAll_in k n r)
theorem dpAll_in (k : Off (fun a => a = p) H H') (n : NoSq H p) : ∀ {vs : List V} {ds : List PyData}, DpAll K H vs ds → DpAll K H' vs ds
  | _, _, .nil => .nil
  | _, _, .cons h r => .cons (dp_in k n h) (dpAll_in k n r)
end
theorem titK_in (k : Off (fun a => a = p) H H') (n : NoSq H p) : ∀ {kvs : List (Key × V)} {ts : List Tab}, TitK K H kvs ts → TitK K H' kvs ts
  | _, _, .nil => .nil
  | _, _, .cons h r => .cons (dp_in k n h) (titK_in k n r)
theorem titK_snoc {t : Tab} {v : V} (h : Dp K H v (colsD t.2)) : ∀ {kvs : List (Key × V)} {ts : List Tab}, TitK K H kvs ts → TitK K H (kvs ++ [(.inr t.1, v)]) (ts ++ [t])
  | _, _, .nil => .cons h .nil
  | _, _, .cons h0 r => .cons h0 (titK_snoc h r)
theorem titK_len : ∀ {kvs : List (Key × V)} {ts : List Tab}, TitK K H kvs ts → kvs.length = ts.length
  | _, _, .nil => rfl
  | _, _, .cons _ r => congrArg Nat.succ (titK_len r)
end
theorem tabOf_none {ts : List Tab} {x : Str} (h : tabOf ts x = none) : x ∉ ts.map Prod.fst := by
  unfold tabOf at h
  intro z
  obtain ⟨t, ht, e⟩ := List.mem_map.mp z
  have q := List.find?_eq_none.mp h t ht
  exact q (decide_eq_true e)
theorem tabOf_some {ts : List Tab} {x : Str} {t : Tab} (h : tabOf ts x = some t) : x ∈ ts.map Prod.fst := by
  unfold tabOf at h
  have m := List.mem_of_find?_eq_some h
  have e := List.find?_some h
  exact List.mem_map.mpr ⟨t, m, of_decide_eq_true e⟩
/-! ### _law_wrong_book -/
def wrongCols : List Str → List Str → Option (Str × PyData)
  | _, [] => none
  | b, c :: cs => if isT c = false then some ("InvalidName", .str c) else if c ∈ b then some ("DoubleName", .str c) else wrongCols (b ++ [c]) cs
def wrongTabs : List Str → List Tab → Option (Str × PyData)
  | _, [] => none
  | b, t :: ts => if isT t.1 = false then some ("InvalidName", .str t.1) else if t.1 ∈ b then some ("DoubleName", .str t.1) else match wrongCols [] t.2 with
    | some e => some e
    | none => wrongTabs (b ++ [t.1]) ts
def wrongBook (ts : List Tab) (rs : List RB) : Option (Str × PyData) := match wrongTabs [] ts with
  | some e => some e
  | none => wrongs ts rs
theorem wrongCols_bad {b cs : List Str} {c : Str} (h : isT c = false) : wrongCols b (c :: cs) = some (("InvalidName" : Str), PyData.str c) := by
  unfold wrongCols
  rw [if_pos h]
theorem wrongCols_two {b cs : List Str} {c : Str} (h : isT c = true) (m : c ∈ b) : wrongCols b (c :: cs) = some (("DoubleName" : Str), PyData.str c) := by
  unfold wrongCols
  rw [if_neg (by rw [h]; decide), if_pos m]
theorem wrongCols_next {b cs : List Str} {c : Str} (h : isT c = true) (m : c ∉ b) : wrongCols b (c :: cs) = wrongCols (b ++ [c]) cs := by
  rw [wrongCols, if_neg (by rw [h]; decide), if_neg m]
theorem wrongTabs_bad {b : List Str} {t : Tab} {ts : List Tab} (h : isT t.1 = false) : wrongTabs b (t :: ts) = some (("InvalidName" : Str), PyData.str t.1) := by
  unfold wrongTabs
  rw [if_pos h]
theorem wrongTabs_two {b : List Str} {t : Tab} {ts : List Tab} (h : isT t.1 = true) (m : t.1 ∈ b) : wrongTabs b (t :: ts) = some (("DoubleName" : Str), PyData.str t.1) := by
  unfold wrongTabs
  rw [if_neg (by rw [h]; decide), if_pos m]
theorem wrongTabs_cols {b : List Str} {t : Tab} {ts : List Tab} {e : Str × PyData} (h : isT t.1 = true) (m : t.1 ∉ b) (c : wrongCols [] t.2 = some e) : wrongTabs b (t :: ts) = some e := by
  rw [wrongTabs, if_neg (by rw [h]; decide), if_neg m, c]
theorem wrongTabs_next {b : List Str} {t : Tab} {ts : List Tab} (h : isT t.1 = true) (m : t.1 ∉ b) (c : wrongCols [] t.2 = none) : wrongTabs b (t :: ts) = wrongTabs (b ++ [t.1]) ts := by
  rw [wrongTabs, if_neg (by rw [h]; decide), if_neg m, c]
theorem drop_cons {α : Type} {l : List α} {i : Nat} {x : α} (h : l[i]? = some x) : l.drop i = x :: l.drop (i + 1) := by
  obtain ⟨hi, e⟩ := List.getElem?_eq_some_iff.mp h
  rw [List.drop_eq_getElem_cons hi, e]
theorem take_snoc {α : Type} {l : List α} {i : Nat} {x : α} (h : l[i]? = some x) : l.take (i + 1) = l.take i ++ [x] := by
  rw [List.take_add_one, h]
  rfl
def spWrongB (K : PySem.W.Frag) : Sp := fun vs H Q _ => ∃ (v w : V) (ts : List Tab) (rs : List RB) (n mc mt N M : Nat), vs = [v, w] ∧ Dp K H v (tabsD ts) ∧ TabsB n mc mt ts ∧ n ≤ 1000 ∧ mc ≤ 1000 ∧ mt ≤ 1000 ∧
  Dp K H w (rbsD rs) ∧ (∀ r ∈ rs, RbOk N M r) ∧ M ≤ 1000 ∧ rs.length ≤ 1000 ∧ endR K H Q (wrongBook ts rs)
section
variable {P : Program} {w : World} {K : PySem.W.Frag} {mg : Str → Option Value} {base : Heap}
end
end LW
set_option Elab.async false
set_option linter.all false
set_option maxRecDepth 100000
set_option maxHeartbeats 4000000
/-! Own classes made by an __init__ that may raise; own __getitem__ that may raise. -/
namespace KV
open PySem PySem.Spec PyProof.Rows L2
section
variable {X : Cx} {CX : CXT} {k : Nat} {f C : Addr} {fd : FuncData} {ps ks : List Str} {sp : Sp} {E : L2.St → XK} {x : Str} {p pos : Pos} {e a b : Expr} {es : List Expr} {kws : List Keyword} {t tk : TA} {ta tb : TE} {g : List Value → List Value → List Value} {gV : List V → List V → List V}
def tMakeS (C : Addr) (sp : Sp) (E : L2.St → XK) (t : TA) : TE := fun σ H Q => t σ H fun vs H1 => ∀ x dx, H1 x = none → H1 dx = none → dx ≠ x →
  sp (.ref x :: vs) (upd (upd H1 dx (.own x)) x (.ins C dx [])) (fun v H2 => v = .non ∧ Q (.ref x) H2) (E σ)
theorem run_makeS {pins : List (Addr × Obj)} {σ : L2.St} {H : Hp} {s : Shared} {Q : VK} {us : List Value} {vs : List V} (M : Mk X.K C f) (F : FnOk X.prog X.w X.K X.mg X.base CX k f fd ps sp) (hr : Room (k + 1) X.A) (hb : Binds X.K fd ps [])
    (hx : PassesAt CX X σ (E σ)) (I : L2.Inv X pins σ H s) (r : Vals vs us)
    (h : ∀ x dx, H x = none → H dx = none → dx ≠ x → sp (.ref x :: vs) (upd (upd H dx (.own x)) x (.ins C dx [])) (fun v H2 => v = .non ∧ Q (.ref x) H2) (E σ)) :
    wpAny (model X.prog X.w) X.A (call (.ref C) us) (EP X pins σ Q) X.xe s := by
  have hq := h (s.heap.objs.size + 1) s.heap.objs.size (I.hok.fresh (Nat.le_succ _)) (I.hok.fresh (Nat.le_refl _)) (Nat.ne_of_lt (Nat.lt_succ_self _))
  have I2 := Inv.made (C := C) I
  have r2 : Vals (V.ref (s.heap.objs.size + 1) :: vs) (Value.ref (s.heap.objs.size + 1) :: us) := .cons rfl r
  have hl : (Value.ref (s.heap.objs.size + 1) :: us).length = ps.length := by
    have e := r2.length
    rw [F.len _ _ _ _ hq] at e
    exact e.symm
  have b := hb _ (Value.ref (s.heap.objs.size + 1) :: us) I2.kIn (by rw [List.append_nil]; exact hl)
  rw [List.append_nil] at b
  refine wpAny_call (make_map (f := f) I.kIn M.makes M.init (beq_iff_eq.mp M.fn) (codeAny_mono (F.run _ X.stack _ _ ⟨Value.ref (s.heap.objs.size + 1) :: us, []⟩ (Value.ref (s.heap.objs.size + 1) :: us) _ _ (E σ) (hr.make C us [])
    (I2.env0.make C us []) b r2 hq) fun r s' hq' => ?_))
  cases r with
  | error e => exact hx pins _ _ e s' I2 hq'
  | ok fl =>
    cases fl with
    | ret u =>
      obtain ⟨v, H', I3, rv, ev, q3⟩ := I2.after hq'
      subst ev
      exact ⟨rv, ⟨V.ref (s.heap.objs.size + 1), H', I3, rfl, q3⟩⟩
    | next => exact False.elim hq'
    | brk => exact False.elim hq'
    | cont => exact False.elim hq'
theorem pe_makeS (M : Mk X.K C f) (F : FnOk X.prog X.w X.K X.mg X.base CX k f fd ps sp) (hr : Room (k + 1) X.A) (hg : Gl X x) (hm : X.mg x = some (.ref C)) (hb : Binds X.K fd ps []) (hx : ∀ σ, PassesAt CX X σ (E σ))
    (ha : PA X (e :: es) t) (hdb : (x == ("__debug__" : Str)) = false := by decide) (he : starEach (e :: es) X.env = (false, eval e X.env) :: starEach es X.env := by rfl) (hpl : (backTo pos (starEach es X.env)).any (·.1) = false := by rfl) :
    PE X (.Call (.Name x p) (e :: es) [] pos) (tMakeS C sp E t) := by
  refine ⟨fun pins s σ H Q I h => ?_⟩
  refine wpAny_Call_Name_kw (ld_glob I hg hm ?_ hdb)
  refine PySem.W.callWith_K (h₀ := X.base) I.ok.mod.kin M.kp (thn (ha.run pos pins s σ H _ I h) fun us s1 ⟨vs, H1, I1, r, q⟩ => ⟨I1.kIn, ?_⟩) he hpl
  exact run_makeS M F hr hb (hx σ) I1 r q
/-- .. with keywords alone -/
def tMakeKS (C : Addr) (m : Nat) (sp : Sp) (gV : List V → List V → List V) (E : L2.St → XK) (tk : TA) : TE := fun σ H Q => tk σ H fun zs H2 => zs.length = m ∧ ∀ x dx, H2 x = none → H2 dx = none → dx ≠ x →
  sp (gV [.ref x] zs) (upd (upd H2 dx (.own x)) x (.ins C dx [])) (fun v H3 => v = .non ∧ Q (.ref x) H3) (E σ)
theorem run_makeKS {pins : List (Addr × Obj)} {σ : L2.St} {H : Hp} {s : Shared} {Q : VK} {ws : List Value} {zs : List V} (M : Mk X.K C f) (F : FnOk X.prog X.w X.K X.mg X.base CX k f fd ps sp) (hr : Room (k + 1) X.A) (hb : KBn X.K fd ps 1 ks g gV) (hx : PassesAt CX X σ (E σ))
    (I : L2.Inv X pins σ H s) (rz : Vals zs ws) (l2 : zs.length = ks.length)
    (h : ∀ x dx, H x = none → H dx = none → dx ≠ x → sp (gV [.ref x] zs) (upd (upd H dx (.own x)) x (.ins C dx [])) (fun v H2 => v = .non ∧ Q (.ref x) H2) (E σ)) :
    wpAny (model X.prog X.w) X.A (call (.ref C) [] (ks.zip ws)) (EP X pins σ Q) X.xe s := by
  have hq := h (s.heap.objs.size + 1) s.heap.objs.size (I.hok.fresh (Nat.le_succ _)) (I.hok.fresh (Nat.le_refl _)) (Nat.ne_of_lt (Nat.lt_succ_self _))
  have I2 := Inv.made (C := C) I
  have r1 : Vals [V.ref (s.heap.objs.size + 1)] [Value.ref (s.heap.objs.size + 1)] := .cons rfl .nil
  have r2 := hb.rel r1 rz
  refine wpAny_call (make_map (f := f) I.kIn M.makes M.init (beq_iff_eq.mp M.fn) (codeAny_mono (F.run _ X.stack _ _ ⟨[Value.ref (s.heap.objs.size + 1)], ks.zip ws⟩ (g [Value.ref (s.heap.objs.size + 1)] ws) _ _ (E σ) (hr.make C [] (ks.zip ws))
    (I2.env0.make C [] (ks.zip ws)) (hb.to _ [Value.ref (s.heap.objs.size + 1)] ws I2.kIn rfl (rz.length.symm.trans l2)) r2 hq) fun r s' hq' => ?_))
  cases r with
  | error e => exact hx pins _ _ e s' I2 hq'
  | ok fl =>
    cases fl with
    | ret u =>
      obtain ⟨v, H', I3, rv, ev, q3⟩ := I2.after hq'
      subst ev
      exact ⟨rv, ⟨V.ref (s.heap.objs.size + 1), H', I3, rfl, q3⟩⟩
    | next => exact False.elim hq'
    | brk => exact False.elim hq'
    | cont => exact False.elim hq'
theorem pe_makeKS (M : Mk X.K C f) (F : FnOk X.prog X.w X.K X.mg X.base CX k f fd ps sp) (hr : Room (k + 1) X.A) (hg : Gl X x) (hm : X.mg x = some (.ref C)) (hb : KBn X.K fd ps 1 ks g gV) (hx : ∀ σ, PassesAt CX X σ (E σ)) (hkw : PK X kws tk)
    (hall : (backToKw pos (keywordEach kws X.env)).all (·.1.isSome) = true := by rfl) (hks : (backToKw pos (keywordEach kws X.env)).filterMap (·.1) = ks := by rfl) (hdb : (x == ("__debug__" : Str)) = false := by decide)
    (hpl : ((backTo pos (starEach [] X.env)).any (·.1) || (backToKw pos (keywordEach kws X.env)).any (·.1.isNone)) = false := by rfl) :
    PE X (.Call (.Name x p) [] kws pos) (tMakeKS C ks.length sp gV E tk) := by
  refine ⟨fun pins s σ H Q I h => ?_⟩
  refine wpAny_Call_Name_kw (ld_glob I hg hm ?_ hdb)
  refine PySem.W.callWith_KW0 (h₀ := X.base) I.ok.mod.kin M.kp hall ?_ hpl
  refine thn (hkw.run pos pins s σ H _ I h) fun ws s2 ⟨zs, H2, I2, rz, l2, q2⟩ => ⟨I2.kIn, ?_⟩
  rw [hks]
  exact run_makeKS M F hr hb (hx σ) I2 rz l2 q2
/-! ### o[y], by an own __getitem__ -/
def tItemS (C : Addr) (sp : Sp) (E : L2.St → XK) (ta tb : TE) : TE := fun σ H Q => ta σ H fun x H1 => tb σ H1 fun y H2 => ∃ a dx fs, x = .ref a ∧ H2 a = some (.ins C dx fs) ∧ sp [.ref a, y] H2 Q (E σ)
/-- K's words for it -/
structure ItemF (K : PySem.W.Frag) (C f : Addr) : Prop where
  at_ : PySem.W.findIn K (.ref C) "__getitem__" = some (some (.ref f))
  fn : PySem.W.fnIn K f = true
  isf : PySem.W.isFn K (.ref f) = true
theorem pe_itemS (T : ItemF X.K C f) (F : FnOk X.prog X.w X.K X.mg X.base CX k f fd ps sp) (hr : Room (k + 1) X.A) (hb : Binds X.K fd ps []) (hx : ∀ σ, PassesAt CX X σ (E σ)) (ha : PE X a ta) (hb' : PE X b tb)
    (hsl : ∀ x i, subscripted b true x i = runValue (.builtin "lifetime.subscript" ⟨[x, i], []⟩) := by intro _ _; rfl) : PE X (.Subscript a b pos) (tItemS C sp E ta tb) := by
  refine ⟨fun pins s σ H Q I h => ?_⟩
  refine Subscript_ (binT ha hb' I h fun v u s2 x y H2 I2 rx ry q => ?_)
  obtain ⟨z, dx, fs, rfl, hz, q⟩ := q
  cases rx
  obtain ⟨mA, J, _⟩ := ins_get I2.hok hz
  obtain ⟨od, J, _⟩ := J.look
  obtain ⟨m, hF⟩ := I2.fr
  refine PySem.W.sub_K hF I2.ok.mod.kin J T.at_ T.fn T.isf ?_ (hsl _ _)
  have r2 : Vals [V.ref z, y] [Value.ref z, u] := .cons rfl (.cons ry .nil)
  have hl := F.len _ _ _ _ q
  have bt := hb s2 [Value.ref z, u] I2.kIn (by simpa using hl)
  rw [List.append_nil] at bt
  refine wpAny_call (codeAny_mono (F.run X.A.in1 X.stack s2 H2 ⟨[Value.ref z, u], []⟩ [Value.ref z, u] [V.ref z, y] Q (E σ) hr.in1 I2.env0.in1 bt r2 q) fun r s' hq => ?_)
  cases r with
  | error e => exact hx σ pins H2 s2 e s' I2 hq
  | ok fl =>
    cases fl with
    | ret w => exact I2.after hq
    | next => exact False.elim hq
    | brk => exact False.elim hq
    | cont => exact False.elim hq
end
end KV
set_option Elab.async false
set_option linter.all false
set_option maxRecDepth 100000
set_option maxHeartbeats 4000000
/-! bool of a tuple. -/
namespace KV
open PySem
theorem meets_bool_tup (l : Addr) (items : Array Value) (hfit : (items.size : Int) < 2 ^ 63) :
    Meets (Builtin.«bool.__new__» ⟨[.type "bool", .ref l], []⟩) (fun _ R s => PyProof.Rows.IsTup s.heap l items ∧ R (.ok (.ret (.bool (!items.isEmpty)))) { s with toks := s.toks + 1 + 1 }) :=
  Meets.of_wp fun prog w A R s hs => by
    obtain ⟨hl, hs⟩ := hs
    obtain ⟨hp, g, d, tk, os⟩ := s
    have f1 := F.conv_sub_bool
    repeat (any_goals (first | assumption | (with_reducible refine PyProof.Rows.truthy_tuple hl hfit ?_) | wp_step))
    all_goals first | exact ⟨_, rfl, hs⟩ | exact hs | skip
theorem call_bool_tup {prog : Program} {w : World} {A : Around} {E : Value → Shared → Prop} {s : Shared} {l : Addr} {items : Array Value} {Q : Value → Shared → Prop} (hfit : (items.size : Int) < 2 ^ 63) (hl : PyProof.Rows.IsTup s.heap l items)
    (h : Q (.bool (!items.isEmpty)) { s with toks := s.toks + 1 + 1 }) : wpAny (model prog w) A (call (.type "bool") [.ref l]) Q E s :=
  call_bool_1 (meets_bool_tup l items hfit) ⟨hl, rfl, h⟩
section
open PySem.Spec PyProof.Rows L2
variable {X : Cx}
theorem call_boolT : CallR X (.type "bool") (fun xs H Q => ∃ (a : Addr) (zs : List V), xs = [.ref a] ∧ SqT X.K H a zs ∧ Q (.bl (!zs.isEmpty)) H) := by
  intro pins s σ H xs us Q I r h
  obtain ⟨a, zs, rfl, hq, q⟩ := h
  obtain rfl := Vals.ref1 r
  obtain ⟨its, rv, pl, hz⟩ := I.tuple hq
  have hl := line63
  have hlen := rv.length
  refine call_bool_tup (by simp only [List.size_toArray]; omega) pl ?_
  exact ⟨.bl (!zs.isEmpty), H, I.tok _, by rw [isEmpty_of rv]; rfl, q⟩
end
end KV
set_option Elab.async false
set_option linter.all false
set_option maxRecDepth 100000
set_option maxHeartbeats 4000000
/-! An own error with an own __init__, made where nothing is handled: its context is None. -/
namespace KV
open PySem PySem.Spec PyProof.Rows L2
section
variable {X : Cx} {k : Nat} {fI C : Addr} {fd : FuncData} {x : Str} {p pos : Pos} {e : Expr} {es : List Expr} {ta : TA} {ps : List Str} {sp : Sp}
/-- the object laid, __init__ run: what is left is an error in its own right -/
theorem init_left {pins : List (Addr × Obj)} {σ : L2.St} {H : Hp} {hp : Heap} {g : Array GenState} {dr : Drawn} {tk : Nat} {os : OsState} {Q : XK} {us : List Value} {vs : List V} {A : Around}
    (T : OexC X.K C) (F1 : FnOk X.prog X.w X.K X.mg X.base CX0 k fI fd ps sp) (hr : Room k A) (env : ∀ {s : Shared} {H : Hp}, Env0 X.prog X.w X.K X.mg X.base X.A X.stack s H → Env0 X.prog X.w X.K X.mg X.base A X.stack s H)
    (hb : Binds X.K fd ps []) (I : Inv X pins σ H ⟨hp, g, dr, tk, os⟩) (r : Vals vs us)
    (q : ∀ a, H a = none → sp (.ref a :: (vs ++ [])) (upd H a (exo a C none)) (fun v H2 => v = .non ∧ ∃ (d : Addr) (fs : List (Str × V)), H2 a = some (exo a C (some d)) ∧ H2 d = some (exd d fs) ∧ H d = none ∧ Q (.ref C) (some d) (upd (del H2 a) d (.xd fs))) (fun _ _ _ => False)) :
    codeAny (model X.prog X.w) A (.call (.ref fI) ⟨.ref (hp.objs.size + 1) :: us, []⟩) (PySem.W.InitBack (hp.objs.size + 1) (callEnd (L2N.MkP X pins σ Q) X.xe))
      ⟨(hp.push (PySem.W.kdv_tup us)).push (PySem.HandSPX.excO C hp.objs.size), g, dr, tk, os⟩ := by
  have up : hp.objs.size ≤ hp.objs.size + 1 := Nat.le_succ _
  have fresh : H (hp.objs.size + 1) = none := I.hok.fresh up
  have stays : ∀ b o, hp.get? b = some o → ((hp.push (PySem.W.kdv_tup us)).push (PySem.HandSPX.excO C hp.objs.size)).get? b = some o := by
    intro b o z
    exact Heap.get?_push_of_some _ (Heap.get?_push_of_some _ z)
  have there : ((hp.push (PySem.W.kdv_tup us)).push (PySem.HandSPX.excO C hp.objs.size)).get? (hp.objs.size + 1) = some (PySem.HandSPX.excO C hp.objs.size) := by heap_get
  have J := I.laid (t' := tk) (a := hp.objs.size + 1) (o := exo (hp.objs.size + 1) C none) stays up (exo_ok there)
  have wish := q _ fresh
  have many := F1.len _ _ _ _ wish
  have rr : Vals (V.ref (hp.objs.size + 1) :: (vs ++ [])) ((Value.ref (hp.objs.size + 1) :: us) ++ []) := by
    rw [List.append_nil, List.append_nil]
    exact .cons rfl r
  have eq : ((Value.ref (hp.objs.size + 1) :: us) ++ []).length = ps.length := by
    rw [← many]
    exact (Paired.length rr).symm
  refine codeAny_mono (F1.run A X.stack _ _ _ ((Value.ref (hp.objs.size + 1) :: us) ++ []) _ _ _ hr (env J.env0) (hb _ (Value.ref (hp.objs.size + 1) :: us) J.kIn eq) rr wish) ?_
  intro res s' hq
  match res, s', hq with
  | .ok (.ret z), ⟨h2, g2, d2, t2, o2⟩, hq =>
    obtain ⟨v, H2, e1, e2, e3, e4, rv, ev, d, fs, ea, ed, hd, q2⟩ := hq
    subst ev
    obtain ⟨t0, G, J2, kG, ge, hoe, na⟩ := mk_end0 (d2 := d2) (t2 := t2) I up stays e3 e4 e1 e2 ea ed hd
    refine ⟨rv, hp.objs.size + 1, _, _, ⟨G, g2, d2, t2, o2⟩, _, .ref C, some d, rfl, J2, kG, ge, hoe, ⟨rfl, rfl, fun ws z => ?_⟩, rfl, rfl, na, rfl, e2, raises_own T.exC T.tyC, q2⟩
    cases z
    rfl
/-- raise C(e, ..): its making -/
theorem pmk_oexN (T : OexC X.K C) (iC : PySem.W.findIn X.K (.ref C) "__init__" = some (some (.ref fI))) (tI : PySem.W.typeIn X.K (.ref fI) = some (.type "function")) (F1 : FnOk X.prog X.w X.K X.mg X.base CX0 k fI fd ps sp) (hr : Room (k + 1) X.A)
    (hb : Binds X.K fd ps []) (hg : Gl X x) (hm : X.mg x = some (.ref C)) (ha : PA X (e :: es) ta) (hdb : (x == ("__debug__" : Str)) = false := by decide)
    (hst : starEach (e :: es) X.env = (false, eval e X.env) :: starEach es X.env := by rfl) (hpl : (backTo pos (starEach es X.env)).any (·.1) = false := by rfl) : L2N.PMk X (.Call (.Name x p) (e :: es) [] pos) (tMkO C sp [] ta) := by
  intro pins s σ H Q I h
  have args := ha.run pos pins s σ H _ I h
  obtain ⟨a1, a2, a3, a4, bm, a6, a7, a8, a9, b1, b2, b3, b4, b5, b6, own, refs⟩ := T.cls
  apply wpAny_Call_Name_kw
  refine ld_glob I hg hm ?_ hdb
  refine PySem.W.callWith_K (h₀ := X.base) I.ok.mod.kin T.kC (thn args fun us s1 w1 => ?_) hst hpl
  obtain ⟨vs, H1, I1, r1, hz, q1⟩ := w1
  refine ⟨I1.kIn, ?_⟩
  show wpAny _ _ (call (.ref C) us) _ _ _
  obtain ⟨hp, g, dr, tk, os⟩ := s1
  have small : us.length ≤ sizeLine := by
    have := Paired.length r1
    rw [sizeLine_eq]
    omega
  refine wpAny_call (PySem.HandSPX.call_own F.excBase_ValueError (fun Y => PySem.HandSPX.refsVE_contains Y bm refs) (I1.kIn _ _ own) (PySem.W.looks_findIn I1.kIn iC) (fun self => PySem.W.bind_fn I1.kIn self tI) small ?_)
  exact init_left T F1 (hr.make C _ _) (fun z => z.make C _ _) hb I1 r1 q1
end
end KV
set_option Elab.async false
set_option linter.all false
set_option maxRecDepth 100000
set_option maxHeartbeats 0
/-! books.py: names. -/
namespace LW
open PySem PySem.Spec PyProof.Rows L2 KV
/-- a raised error: its class, its value in new lists -/
def Raised (K : PySem.W.Frag) (H : Hp) (E : XK) (x : Str) (e : PyData) : Prop := ∀ (u : V) (Fo : Fp) (d : Addr) (H' : Hp), Off (fun _ => False) H H' → H d = none → H' d = some (.xd [("value", u)]) → Ow H' u e Fo → (∀ a, Fo a → H a = none) → E (.ref (He.ga K x)) (some d) H'
theorem Raised.off {K : PySem.W.Frag} {H H1 : Hp} {E : XK} {x : Str} {e : PyData} (h : Raised K H E x e) (k : Off (fun _ => False) H H1) : Raised K H1 E x e :=
  fun u Fo d H' k1 nd ed o f => h u Fo d H' (k.trans k1) (k.none nd fun z => z) ed o fun a z => k.none (f a z) fun z => z
/-- how a check ends -/
def endX (K : PySem.W.Frag) (H : Hp) (Q : VK) (E : XK) : Option (Str × PyData) → Prop
  | none => ∀ H', Off (fun _ => False) H H' → Q .non H'
  | some (x, e) => Raised K H E x e
theorem endX.off {K : PySem.W.Frag} {H H1 : Hp} {Q : VK} {E : XK} {o : Option (Str × PyData)} (h : endX K H Q E o) (k : Off (fun _ => False) H H1) : endX K H1 Q E o := by
  cases o with
  | none => exact fun H' k' => h H' (k.trans k')
  | some z => exact Raised.off h k
/-- raise X(v) -/
theorem raise_of {K : PySem.W.Frag} {C fI : Addr} {v : V} {H1 : Hp} {E' : XK} (T : ErrOk K "value" fI C) (q : ∀ d, H1 d = none → E' (.ref C) (some d) (upd H1 d (.xd [("value", v)]))) :
    [v].length ≤ 1000 ∧ ∀ a, H1 a = none → spInit K "value" (.ref a :: ([v] ++ [])) (upd H1 a (exo a C none))
      (fun v H2 => v = .non ∧ ∃ (d : Addr) (fs : List (Str × V)), H2 a = some (exo a C (some d)) ∧ H2 d = some (exd d fs) ∧ H1 d = none ∧ E' (.ref C) (some d) (upd (del H2 a) d (.xd fs))) (fun _ _ _ => False) := by
  refine ⟨by show 1 ≤ 1000; decide, fun a ha => ⟨a, C, v, rfl, T.oex, T.no, upd_same, fun dx hd hne => ⟨rfl, dx, [("value", v)], ?_, ?_, ?_, ?_⟩⟩⟩
  · unfold exH
    exact upd_same
  · unfold exH
    rw [upd_ne hne]
    exact upd_same
  · rw [upd_ne hne] at hd
    exact hd
  · have hd1 : H1 dx = none := by
      rw [upd_ne hne] at hd
      exact hd
    have e : upd (del (exH (upd H1 a (exo a C none)) a dx C "value" v) a) dx (.xd [("value", v)]) = upd H1 dx (.xd [("value", v)]) := by
      funext b
      by_cases z : b = dx
      · rw [z, upd_same, upd_same]
      · rw [upd_ne z, upd_ne z]
        by_cases y : b = a
        · rw [y, del_same, ha]
        · rw [del_ne y]
          unfold exH
          rw [upd_ne y, upd_ne z, upd_ne y]
    rw [e]
    exact q dx hd1
/-- .. of a text -/
theorem raise_str {K : PySem.W.Frag} {fI : Addr} {x y : Str} {H H1 : Hp} {E : XK} (T : ErrOk K "value" fI (He.ga K x)) (k : Off (fun _ => False) H H1) (q : Raised K H E x (.str y)) :
    [V.str y].length ≤ 1000 ∧ ∀ a, H1 a = none → spInit K "value" (.ref a :: ([V.str y] ++ [])) (upd H1 a (exo a (He.ga K x) none))
      (fun v H2 => v = .non ∧ ∃ (d : Addr) (fs : List (Str × V)), H2 a = some (exo a (He.ga K x) (some d)) ∧ H2 d = some (exd d fs) ∧ H1 d = none ∧ E (.ref (He.ga K x)) (some d) (upd (del H2 a) d (.xd fs))) (fun _ _ _ => False) :=
  raise_of T fun d hd => (q.off k) (.str y) (fun _ => False) d _ (Off.new hd) hd upd_same (.str y fun _ z => z) fun _ z => z.elim
/-- the first error in a name -/
def wrongName (b : List Str) (x : Str) : Option (Str × PyData) := if isT x = false then some ("InvalidName", .str x) else if x ∈ b then some ("DoubleName", .str x) else none
theorem wrongCols_cons (b cs : List Str) (c : Str) : wrongCols b (c :: cs) = match wrongName b c with
    | some e => some e
    | none => wrongCols (b ++ [c]) cs := by
  rw [wrongCols]
  unfold wrongName
  split
  · rfl
  · split
    · rfl
    · rfl
theorem wrongTabs_cons (b : List Str) (t : Tab) (ts : List Tab) : wrongTabs b (t :: ts) = match wrongName b t.1 with
    | some e => some e
    | none => match wrongCols [] t.2 with
      | some e => some e
      | none => wrongTabs (b ++ [t.1]) ts := by
  rw [wrongTabs]
  unfold wrongName
  split
  · rfl
  · split
    · rfl
    · rfl
theorem small_le (c : Nat) : ((!decide (({ cps := #[c] } : Str).cps.toList < ("a" : Str).cps.toList)) && (!decide (("z" : Str).cps.toList < ({ cps := #[c] } : Str).cps.toList))) = small c := by
  have ea : ("a" : Str).cps.toList = [97] := by decide +kernel
  have ez : ("z" : Str).cps.toList = [122] := by decide +kernel
  have ec : ({ cps := #[c] } : Str).cps.toList = [c] := rfl
  rw [ec, ea, ez]
  unfold small
  have h1 : ([c] < [97]) ↔ c < 97 := by simp [List.cons_lt_cons_iff]
  have h2 : ([122] < [c]) ↔ 122 < c := by simp [List.cons_lt_cons_iff]
  rw [decide_eq_decide.mpr h1, decide_eq_decide.mpr h2]
  by_cases x : c < 97
  · have y : ¬ (97 ≤ c ∧ c ≤ 122) := by omega
    rw [decide_eq_true x, decide_eq_false y]
    rfl
  · by_cases z : 122 < c
    · have y : ¬ (97 ≤ c ∧ c ≤ 122) := by omega
      rw [decide_eq_false x, decide_eq_true z, decide_eq_false y]
      rfl
    · have y : (97 ≤ c ∧ c ≤ 122) := by omega
      rw [decide_eq_false x, decide_eq_false z, decide_eq_true y]
      rfl
section
variable {P : Program} {w : World} {K : PySem.W.Frag} {mg : Str → Option Value} {base : Heap}
/-! ### is_name -/
theorem scIsN : FnScope ["text", "letter"] ["text"] (defScope pIsName) := ⟨rfl, rfl, rfl, by decide +kernel, rfl, by decide +kernel, by decide +kernel⟩
theorem ok_isN {f : Addr} {fd : FuncData} {t8 : Nat} (F : FnP K "is_name" pIsName f fd) (ml : mg "len" = none) (ma : mg "all" = none) (m8 : mg "LONGEST_NAME" = some (.int 8 t8)) :
    FnOk P w K mg base CX0 1 f fd ["text"] spIsT := by
  refine F.ok scIsN (fun vs H Q E h => ?_) (fun cdv A outer s H vs Q E hr h => ?_)
  · obtain ⟨x, rfl, _⟩ := h
    rfl
  obtain ⟨x, rfl, ha, hx, q⟩ := h
  refine ⟨_, pss_one (ps_ret (pe_and (pe_chain op_le op_le pe_int (pe_callB call_len_str rfl ml boot_len (pa_cons (pv 0) pa_nil)) (pe_glob (v := .int 8) rfl m8 ⟨_, rfl⟩))
      (pe_one (pe_callB (cr_all rfl) rfl ma (by decide +kernel) (pa_cons (pe_lc (own := [("letter", 1)]) (g := gName 1) (tt := tYes) rfl scIsN.nd (pi_str (pv 0))
          (blkOk_by (own := [("letter", 1)]) (N := ["text", "letter"]) (sc := defScope pIsName) (by decide +kernel))
          (fun _ _ _ _ _ => pg_name (i := 1) scIsN.nd rfl (Or.inl rfl)) (fun _ _ _ _ _ => pts_nil)
          (fun _ _ _ _ _ => pe_chain op_le_str op_le_str pe_str (pv 1) pe_str)) pa_nil))))), ?_⟩
  have no : ¬ False := fun z => z
  have xl : x.length ≤ sizeLine := Nat.le_trans hx (by decide)
  refine ⟨_, rfl, x, rfl, xl, _, _, rfl, rfl, _, rfl, ite2 (fun c1 => ⟨_, _, rfl, rfl, _, rfl, ite2 (fun c2 => ?_) (fun c2 => ?_)⟩) (fun c1 => ⟨_, rfl, iteF ?_⟩)⟩
  rotate_left
  · have e : isT x = false := by
      have : ¬ x.length < 9 := fun z => c2 (decide_eq_true (by omega))
      simp [isT, this]
    rw [← e]
    exact q H (Off.refl _ _)
  · have e : isT x = false := by
      have : ¬ 0 < x.length := fun z => c1 (decide_eq_true (by omega))
      simp [isT, this]
    rw [← e]
    exact q H (Off.refl _ _)
  have l1 : 0 < x.length := by
    have := of_decide_eq_true c1
    omega
  have l2 : x.length < 9 := by
    have := of_decide_eq_true c2
    omega
  have lt : x.cps.toList.length = x.length := by simp [Str.length]
  refine ⟨_, rfl, x, rfl, fun D hD => lc_str (x := x) (fun i H' => H' D = some (.lst ((((x.cps.toList.take i).map small).map V.bl))) ∧ Off (fun _ => False) H H') ⟨upd_same, Off.new hD⟩
    (fun i c H' hc g => ?_) fun H' g => ?_⟩
  · obtain ⟨g1, g2⟩ := g
    have sm := small_le c
    have step : ∀ b : Bool, b = small c → ∃ acc, H' D = some (.lst acc) ∧ acc.length < sizeLine ∧ (upd H' D (.lst (acc ++ [V.bl b]))) D = some (.lst ((((x.cps.toList.take (i + 1)).map small).map V.bl))) ∧ Off (fun _ => False) H (upd H' D (.lst (acc ++ [V.bl b]))) := by
      intro b eb
      refine ⟨_, g1, by rw [List.length_map, List.length_map, List.length_take]; exact small4000 (by omega), ?_, fun a u ea na => ?_⟩
      · rw [upd_same, List.take_add_one, hc, eb, List.map_append, List.map_append]
        rfl
      · rw [upd_ne (fun z => by rw [z, hD] at ea; cases ea)]
        exact g2 a u ea na
    refine ⟨rfl, ?_⟩
    refine Exists.intro _ ⟨rfl, _, _, rfl, rfl, _, rfl, ?_⟩
    refine ite2 (fun b => ⟨_, _, rfl, rfl, ?_⟩) (fun b => ?_)
    · rw [b, Bool.true_and] at sm
      exact step _ sm
    · have b' := Bool.eq_false_iff.mpr b
      rw [b', Bool.false_and] at sm
      exact step _ sm
  · obtain ⟨g1, g2⟩ := g
    rw [List.take_length] at g1
    refine ⟨D, _, rfl, SqL.of g1, ?_⟩
    have e : isT x = (x.cps.toList.map small).all id := by
      have z1 : decide (0 < x.length) = true := decide_eq_true l1
      have z2 : decide (x.length < 9) = true := decide_eq_true l2
      unfold isT
      rw [z1, z2, List.all_map]
      rfl
    rw [← e]
    exact q H' g2
end
end LW
set_option Elab.async false
set_option linter.all false
set_option maxRecDepth 100000
set_option maxHeartbeats 0
/-! books.py: check_name, check_columns, check_tables. -/
namespace LW
open PySem PySem.Spec PyProof.Rows L2 KV
def spChkN (K : PySem.W.Frag) : Sp := fun vs H Q E => ∃ (x : Str) (b : Addr) (bs : List Str), vs = [.str x, .ref b] ∧ Asc x ∧ x.length ≤ 4000 ∧ SqL K H b (bs.map V.str) ∧ endX K H Q E (wrongName bs x)
def spChkC (K : PySem.W.Frag) : Sp := fun vs H Q E => ∃ (c : Addr) (cs : List Str), vs = [.ref c] ∧ (∀ x ∈ cs, Asc x ∧ x.length ≤ 4000) ∧ cs.length ≤ 4000 ∧ SqL K H c (cs.map V.str) ∧ endX K H Q E (wrongCols [] cs)
def spChkT (K : PySem.W.Frag) : Sp := fun vs H Q E => ∃ (v : V) (ts : List Tab) (n mc mt : Nat), vs = [v] ∧ Dp K H v (tabsD ts) ∧ TabsW n mc mt ts ∧ n ≤ 4000 ∧ mc ≤ 4000 ∧ mt ≤ 4000 ∧ endX K H Q E (wrongTabs [] ts)
section
variable {P : Program} {w : World} {K : PySem.W.Frag} {mg : Str → Option Value} {base : Heap}
theorem scChkN : FnScope ["name", "before"] ["name", "before"] (defScope pCheckName) := ⟨rfl, rfl, rfl, by decide +kernel, rfl, by decide +kernel, by decide +kernel⟩
theorem ok_chkN {f fI : Addr} {fd dI dE : FuncData} (F : FnP K "check_name" pCheckName f fd) (T : ErrT P w K mg base dE) (GI : FnOk P w K mg base CX0 1 fI dI ["text"] spIsT) (bI : Binds K dI ["text"] []) (mI : mg "is_name" = some (.ref fI)) (kI : PySem.W.keepIn K (.ref fI) = true) :
    FnOk P w K mg base (L2N.CX P w) 3 f fd ["name", "before"] (spChkN K) := by
  have GI2 : FnOk P w K mg base CX0 2 fI dI ["text"] spIsT := GI.mono (by decide)
  have t1 := T.es.ok "InvalidName" (by decide)
  have t2 := T.es.ok "DoubleName" (by decide)
  have g1 := T.g "InvalidName" (by decide)
  have g2 := T.g "DoubleName" (by decide)
  refine F.ok scChkN (fun vs H Q E h => ?_) (fun cdv A outer s H vs Q E hr h => ?_)
  · obtain ⟨x, b, bs, rfl, _⟩ := h
    rfl
  obtain ⟨x, b, bs, rfl, ax, lx, sb, q⟩ := h
  refine ⟨_, (pss_cons (ps_if (pt_not (pt_val (pe_call GI2 hr rfl mI kI bI .nil pass0 (pa_cons (pv 0) pa_nil))))
      (pss_one (L2N.ps_raise rfl (L2N.takes_of rfl rfl rfl rfl) (pmk_oexN t1.oex t1.ini t1.fn T.ini hr T.b rfl g1 (pa_cons (pv 0) pa_nil)))) pss_nil)
    (pss_one (ps_if (pt_cmpR op_in_seq (pv 0) (pv 1) rfl)
      (pss_one (L2N.ps_raise rfl (L2N.takes_of rfl rfl rfl rfl) (pmk_oexN t2.oex t2.ini t2.fn T.ini hr T.b rfl g2 (pa_cons (pv 0) pa_nil)))) pss_nil))), ?_⟩
  refine ⟨_, rfl, x, rfl, ax, lx, fun H1 k1 => ⟨_, rfl, ?_⟩⟩
  unfold wrongName at q
  cases hT : isT x with
  | false =>
    rw [if_pos hT] at q
    exact iteT ⟨_, rfl, raise_str t1 k1 q⟩
  | true =>
    rw [if_neg (by rw [hT]; decide)] at q
    refine iteF ⟨_, rfl, _, rfl, b, _, rfl, .inl (sqL_off k1 sb), rfl, flat_strs _, _, rfl, ?_⟩
    rw [inV_strs]
    refine ite2 (fun c => ?_) (fun c => ?_)
    · rw [if_pos (of_decide_eq_true c)] at q
      exact ⟨_, rfl, raise_str t2 k1 q⟩
    · rw [if_neg fun z => c (decide_eq_true z)] at q
      exact q H1 k1
theorem scChkC : FnScope ["columns", "before", "column"] ["columns"] (defScope pCheckColumns) := ⟨rfl, rfl, rfl, by decide +kernel, rfl, by decide +kernel, by decide +kernel⟩
theorem ok_chkC {f fN : Addr} {fd dN : FuncData} (F : FnP K "check_columns" pCheckColumns f fd) (GN : FnOk P w K mg base (L2N.CX P w) 3 fN dN ["name", "before"] (spChkN K)) (bN : Binds K dN ["name", "before"] []) (mN : mg "check_name" = some (.ref fN)) (kN : PySem.W.keepIn K (.ref fN) = true) :
    FnOk P w K mg base (L2N.CX P w) 4 f fd ["columns"] (spChkC K) := by
  refine F.ok scChkC (fun vs H Q E h => ?_) (fun cdv A outer s H vs Q E hr h => ?_)
  · obtain ⟨c, cs, rfl, _⟩ := h
    rfl
  obtain ⟨ca, cs, rfl, gs, lc, sc, q⟩ := h
  refine ⟨_, (pss_cons (ps_set (i := 1) scChkC.nd rfl (Or.inl rfl) (pe_lst pa_nil))
    (pss_one (ps_for (passes_of rfl) rfl (pi_list (pv 0)) (pg_name (i := 2) scChkC.nd rfl (Or.inl rfl))
      (pss_cons (ps_expr (pe_callS GN hr rfl mN kN bN (fun σ => L2N.passAt (L2N.takes_of rfl rfl rfl rfl) σ) (pa_cons (pv 2) (pa_cons (pv 1) pa_nil))))
      (pss_one (ps_expr (pe_bm PySem.F.plainAttrs_list PySem.F.slot_list_append PySem.F.type_list_append mt_append (pv 1) (pa_cons (pv 2) pa_nil)))))))), ?_⟩
  have no : ¬ False := fun z => z
  refine ⟨(by show 0 ≤ sizeLine; decide), fun l hl => ?_⟩
  have k0 : Off (fun _ => False) H (upd H l (.lst [])) := Off.new hl
  refine ⟨_, rfl, ca, rfl, ⟨_, sqL_off k0 sc⟩, for_list (K := K) (a := ca) (xs := cs.map V.str) (fun i σ H' => ∃ w2, σ = [some (.ref ca), some (.ref l), w2] ∧ H' l = some (.lst ((cs.take i).map V.str)) ∧ Off (fun _ => False) H H' ∧
      wrongCols [] cs = wrongCols (cs.take i) (cs.drop i))
    ⟨none, rfl, upd_same, k0, rfl⟩ (fun i σ H' _ g => ?_) (fun i x σ H' hx g => ?_) fun σ H' g => ?_⟩
  · obtain ⟨_, _, _, k, _⟩ := g
    exact sqL_off k sc
  · obtain ⟨w2, rfl, el, k, eq⟩ := g
    rw [List.getElem?_map] at hx
    obtain ⟨c, hc, rfl⟩ := Option.map_eq_some_iff.mp hx
    have gc := gs c (List.mem_of_getElem? hc)
    rw [drop_cons hc, wrongCols_cons] at eq
    refine ⟨_, rfl, _, rfl, c, l, cs.take i, rfl, gc.1, gc.2, SqL.of el, ?_⟩
    cases e1 : wrongName (cs.take i) c with
    | some e =>
      rw [e1] at eq
      rw [eq] at q
      exact Raised.off q k
    | none =>
      rw [e1] at eq
      intro G kG
      have elG := kG _ _ el no
      refine ⟨_, rfl, .inl ⟨rfl, _, SqL.of elG⟩, _, rfl, l, _, _, rfl, rfl, elG, ?_, ?_⟩
      · rw [List.length_map, List.length_take]
        exact small4000 (by omega)
      · refine ⟨_, rfl, ?_, fun b o eb nb => ?_, ?_⟩
        · rw [upd_same, take_snoc hc, List.map_append]
          rfl
        · rw [upd_ne (fun z => by rw [z, hl] at eb; cases eb)]
          exact kG _ _ (k b o eb nb) no
        · rw [take_snoc hc]
          exact eq
  · obtain ⟨w2, rfl, el, k, eq⟩ := g
    rw [List.length_map, List.drop_length] at eq
    rw [eq] at q
    exact q H' k
theorem scChkT : FnScope ["tables", "names", "name", "columns"] ["tables"] (defScope pCheckTables) := ⟨rfl, rfl, rfl, by decide +kernel, rfl, by decide +kernel, by decide +kernel⟩
theorem ok_chkT {f fN fC : Addr} {fd dN dC : FuncData} (F : FnP K "check_tables" pCheckTables f fd) (GN : FnOk P w K mg base (L2N.CX P w) 3 fN dN ["name", "before"] (spChkN K)) (bN : Binds K dN ["name", "before"] []) (mN : mg "check_name" = some (.ref fN)) (kN : PySem.W.keepIn K (.ref fN) = true)
    (GC : FnOk P w K mg base (L2N.CX P w) 4 fC dC ["columns"] (spChkC K)) (bC : Binds K dC ["columns"] []) (mC : mg "check_columns" = some (.ref fC)) (kC : PySem.W.keepIn K (.ref fC) = true) :
    FnOk P w K mg base (L2N.CX P w) 5 f fd ["tables"] (spChkT K) := by
  have GN4 : FnOk P w K mg base (L2N.CX P w) 4 fN dN ["name", "before"] (spChkN K) := GN.mono (by decide)
  refine F.ok scChkT (fun vs H Q E h => ?_) (fun cdv A outer s H vs Q E hr h => ?_)
  · obtain ⟨v, ts, n, mc, mt, rfl, _⟩ := h
    rfl
  obtain ⟨v, ts, n, mc, mt, rfl, hv, tb, hn, hmc, hmt, q⟩ := h
  refine ⟨_, (pss_cons (ps_set (i := 1) scChkT.nd rfl (Or.inl rfl) (pe_lst pa_nil))
    (pss_one (ps_for (passes_of rfl) rfl (pi_list (pv 0)) (pg_tup rfl (pgs_cons (pg_name (i := 2) scChkT.nd rfl (Or.inl rfl)) (pgs_cons (pg_name (i := 3) scChkT.nd rfl (Or.inl rfl)) pgs_nil)))
      (pss_cons (ps_expr (pe_callS GN4 hr rfl mN kN bN (fun σ => L2N.passAt (L2N.takes_of rfl rfl rfl rfl) σ) (pa_cons (pv 2) (pa_cons (pv 1) pa_nil))))
      (pss_cons (ps_expr (pe_bm PySem.F.plainAttrs_list PySem.F.slot_list_append PySem.F.type_list_append mt_append (pv 1) (pa_cons (pv 2) pa_nil)))
      (pss_one (ps_expr (pe_callS GC hr rfl mC kC bC (fun σ => L2N.passAt (L2N.takes_of rfl rfl rfl rfl) σ) (pa_cons (pv 3) pa_nil))))))))), ?_⟩
  have no : ¬ False := fun z => z
  obtain ⟨aw, xw, rfl, qw, rw'⟩ := dp_tabs hv
  have lw : xw.length = ts.length := by rw [dpAll_length rw', List.length_map]
  refine ⟨(by show 0 ≤ sizeLine; decide), fun l hl => ?_⟩
  have k0 : Off (fun _ => False) H (upd H l (.lst [])) := Off.new hl
  refine ⟨_, rfl, aw, rfl, ⟨_, sqL_off k0 qw⟩, for_list (K := K) (a := aw) (xs := xw) (fun i σ H' => ∃ w2 w3, σ = [some (.ref aw), some (.ref l), w2, w3] ∧ H' l = some (.lst (((ts.take i).map Prod.fst).map V.str)) ∧ Off (fun _ => False) H H' ∧
      wrongTabs [] ts = wrongTabs ((ts.take i).map Prod.fst) (ts.drop i))
    ⟨none, none, rfl, upd_same, k0, rfl⟩ (fun i σ H' _ g => ?_) (fun i x σ H' hx g => ?_) fun σ H' g => ?_⟩
  · obtain ⟨_, _, _, _, k, _⟩ := g
    exact sqL_off k qw
  · obtain ⟨w2, w3, rfl, el, k, eq⟩ := g
    obtain ⟨dt, edt, hdt⟩ := dpAll_at rw' hx
    rw [List.getElem?_map] at edt
    obtain ⟨t, et, rfl⟩ := Option.map_eq_some_iff.mp edt
    have bt := tb.each t (List.mem_of_getElem? et)
    obtain ⟨ta, wc, rfl, st, dc⟩ := dp_tab hdt
    obtain ⟨ca, rfl, _⟩ := dp_cols dc
    rw [drop_cons et, wrongTabs_cons] at eq
    refine ⟨ta, [.str t.1, .ref ca], rfl, sqT_off k st, rfl, .str t.1, [.ref ca], rfl, .ref ca, [], rfl, rfl, ?_⟩
    refine ⟨_, rfl, _, rfl, t.1, l, (ts.take i).map Prod.fst, rfl, bt.name.1, Nat.le_trans bt.name.2 hn, SqL.of el, ?_⟩
    cases e1 : wrongName ((ts.take i).map Prod.fst) t.1 with
    | some e =>
      rw [e1] at eq
      rw [eq] at q
      exact Raised.off q k
    | none =>
      rw [e1] at eq
      dsimp only at eq
      intro G kG
      have elG := kG _ _ el no
      have kHG := k.trans kG
      refine ⟨_, rfl, .inl ⟨rfl, _, SqL.of elG⟩, _, rfl, l, _, _, rfl, rfl, elG, ?_, ?_⟩
      · rw [List.length_map, List.length_map, List.length_take]
        have := tb.most
        exact small4000 (by omega)
      · have k2 : Off (fun _ => False) H (upd G l (.lst (((ts.take i).map Prod.fst).map V.str ++ [.str t.1]))) := fun b o eb nb => by
          rw [upd_ne (fun z => by rw [z, hl] at eb; cases eb)]
          exact kHG b o eb nb
        have el2 := upd_same (H := G) (a := l) (o := .lst (((ts.take i).map Prod.fst).map V.str ++ [.str t.1]))
        refine ⟨_, rfl, ca, t.2, rfl, fun x hx => ⟨(bt.good x hx).1, Nat.le_trans (bt.good x hx).2 hn⟩, Nat.le_trans bt.most hmc, dp_cols_ref (dp_off k2 dc), ?_⟩
        cases e2 : wrongCols [] t.2 with
        | some e =>
          rw [e2] at eq
          rw [eq] at q
          exact Raised.off q k2
        | none =>
          rw [e2] at eq
          intro G2 kG2
          refine ⟨_, _, rfl, ?_, k2.trans kG2, ?_⟩
          · rw [take_snoc et, kG2 _ _ el2 no, List.map_append, List.map_append]
            rfl
          · rw [take_snoc et, List.map_append]
            exact eq
  · obtain ⟨w2, w3, rfl, el, k, eq⟩ := g
    rw [lw, List.drop_length] at eq
    rw [eq] at q
    exact q H' k
end
end LW
set_option Elab.async false
set_option linter.all false
set_option maxRecDepth 100000
set_option maxHeartbeats 0
/-! books.py: copied, has_form. -/
namespace LW
open PySem PySem.Spec PyProof.Rows L2 KV
/-- the first thing and the length are as told -/
def formed : RB → Bool
  | ([k, x], some (cs, tl)) => decide ((k = "key" ∧ tl.length = 0) ∨ (k = "settles" ∧ tl.length = 1))
  | _ => false
theorem wrong1_formed {ts : List Tab} {r : RB} (h : formed r = false) : wrong1 ts r = some (("InvalidRule" : Str), rbD r) := by
  obtain ⟨hd, o⟩ := r
  rcases hd with _ | ⟨k, _ | ⟨x, _ | ⟨y, hd⟩⟩⟩
  · rfl
  · rfl
  · rcases o with _ | ⟨cs, tl⟩
    · rfl
    · exact wrong1_not (of_decide_eq_false h)
  · rfl
/-- the forms of rules -/
def formsD : PyData := .tuple [.tuple [.str "key", .int 3], .tuple [.str "settles", .int 4]]
theorem eqv_form (a b : Str) (i j : Int) : PyData.eqv (.tuple [.str a, .int i]) (.tuple [.str b, .int j]) = ((a == b) && (i == j)) := by
  simp [PyData.eqv, PyData.eqvAll]
theorem shaped_form {x : Str} {i : Int} (h : Asc x) : SeqAt.shaped (.tuple [.str x, .int i]) = true := by
  unfold SeqAt.shaped
  simp [PyData.canLay0, PyData.canLayAll0, PyData.depth, PyData.depthAll, strOk_asc h]
theorem form_eq {r : RB} {N M : Nat} (ok : RbOk N M r) {x : Str} {hd : List Str} (h : r.1 = x :: hd) :
    [PyData.tuple [.str "key", .int 3], .tuple [.str "settles", .int 4]].any (fun e => e.eqv (.tuple [.str x, .int (((rbL r).length : Nat) : Int)])) = formed r := by
  obtain ⟨hdl, o⟩ := r
  have h : hdl = x :: hd := h
  subst h
  have no : ∀ n : Nat, n < 3 → [PyData.tuple [.str "key", .int 3], .tuple [.str "settles", .int 4]].any (fun e => e.eqv (.tuple [.str x, .int ((n : Nat) : Int)])) = false := by
    intro n hn
    have e1 : ((3 : Int) == (n : Int)) = false := by
      rw [beq_eq_false_iff_ne]
      omega
    have e2 : ((4 : Int) == (n : Int)) = false := by
      rw [beq_eq_false_iff_ne]
      omega
    simp only [List.any_cons, List.any_nil, eqv_form, e1, e2, Bool.and_false, Bool.or_false]
  have h2 : (x :: hd).length ≤ 2 := ok.head
  rcases hd with _ | ⟨y, _ | ⟨z, hd⟩⟩
  · rcases o with _ | q
    · exact no 1 (by decide)
    · have := ok.two (by simp)
      simp at this
  · rcases o with _ | ⟨cs, tl⟩
    · exact no 2 (by decide)
    · have l : (rbL ([x, y], some (cs, tl))).length = 3 + tl.length := by
        simp [rbL]
        omega
      rw [l]
      simp only [List.any_cons, List.any_nil, eqv_form, Bool.or_false]
      have e1 : ((3 : Int) == ((3 + tl.length : Nat) : Int)) = decide (tl.length = 0) := by
        rw [Bool.eq_iff_iff, beq_iff_eq, decide_eq_true_iff]
        omega
      have e2 : ((4 : Int) == ((3 + tl.length : Nat) : Int)) = decide (tl.length = 1) := by
        rw [Bool.eq_iff_iff, beq_iff_eq, decide_eq_true_iff]
        omega
      have e3 : ∀ s : Str, (s == x) = decide (x = s) := by
        intro s
        rw [Bool.eq_iff_iff, beq_iff_eq, decide_eq_true_iff]
        exact eq_comm
      rw [e1, e2, e3, e3]
      unfold formed
      rw [Bool.eq_iff_iff, decide_eq_true_iff]
      simp only [Bool.or_eq_true, Bool.and_eq_true, decide_eq_true_iff]
  · simp at h2
def spForm (K : PySem.W.Frag) : Sp := fun vs H Q _ => ∃ (v w : V) (r : RB) (N M : Nat), vs = [v, w] ∧ Dp K H v (rbD r) ∧ RbOk N M r ∧ Dp K H w formsD ∧ ∀ H', Off (fun _ => False) H H' → Q (.bl (formed r)) H'
section
variable {P : Program} {w : World} {K : PySem.W.Frag} {mg : Str → Option Value} {base : Heap}
theorem scCopiedP : FnScope ["thing", "part"] ["thing"] (defScope pCopied) := ⟨rfl, rfl, rfl, by decide +kernel, rfl, by decide +kernel, by decide +kernel⟩
theorem ok_copiedP_step {n : Nat} {f : Addr} {fd : FuncData} (F : FnP K "copied" pCopied f fd) (hb : Binds K fd ["thing"] []) (mf : mg "copied" = some (.ref f)) (mi : mg "isinstance" = none) (ml : mg "list" = none) (mt : mg "tuple" = none)
    (G : FnOk P w K mg base CX0 n f fd ["thing"] (spCopied K n)) : FnOk P w K mg base CX0 (n + 1) f fd ["thing"] (spCopied K (n + 1)) := by
  refine F.ok scCopiedP (fun vs H Q E h => ?_) (fun cdv A outer s H vs Q E hr h => ?_)
  · obtain ⟨v, d, b, ms, rfl, _⟩ := h
    rfl
  obtain ⟨v, d, b, ms, rfl, o, hf, hm, hk, q⟩ := h
  refine ⟨_, pss_cons (ps_if (pt_val (pe_callB call_isi rfl mi boot_isinstance (pa_cons (pv 0) (pa_cons (pe_bltn (v := .ty "list") rfl ml boot_list rfl) pa_nil))))
      (pss_one (ps_ret (pe_lc (own := [("part", 1)]) (g := gName 1) (tt := tYes) rfl scCopiedP.nd (pi_list (pv 0)) (blkOk_by (own := [("part", 1)]) (N := ["thing", "part"]) (sc := defScope pCopied) (by decide +kernel))
        (fun _ _ _ _ _ => pg_name (i := 1) scCopiedP.nd rfl (Or.inl rfl)) (fun _ _ _ _ _ => pts_nil)
        (fun _ _ _ _ _ => pe_call G hr rfl mf F.kp hb .nil pass0 (pa_cons (pv 1) pa_nil))))) pss_nil)
    (pss_cons (ps_if (pt_val (pe_callB call_isi rfl mi boot_isinstance (pa_cons (pv 0) (pa_cons (pe_bltn (v := .ty "tuple") rfl mt boot_tuple rfl) pa_nil))))
      (pss_one (ps_ret (pe_callTy call_tuple_of rfl mt boot_tuple (pa_cons (pe_lc (own := [("part", 1)]) (g := gName 1) (tt := tYes) rfl scCopiedP.nd (pi_tup (pv 0)) (blkOk_by (own := [("part", 1)]) (N := ["thing", "part"]) (sc := defScope pCopied) (by decide +kernel))
        (fun _ _ _ _ _ => pg_name (i := 1) scCopiedP.nd rfl (Or.inl rfl)) (fun _ _ _ _ _ => pts_nil)
        (fun _ _ _ _ _ => pe_call G hr rfl mf F.kp hb .nil pass0 (pa_cons (pv 1) pa_nil))) pa_nil)))) pss_nil)
    (pss_one (ps_ret (pv 0)))), ?_⟩
  refine ⟨_, rfl, v, .ty "list", .type (tyName d), .type "list", isList d, rfl, .ty _, dp_ty o, kit_list d, _, rfl, ?_⟩
  by_cases hL : isList d = true
  · rw [hL]
    obtain ⟨a, xs, ds, rfl, rfl, h0, r⟩ := dp_list o hL
    cases ms with
    | nil => exact hf.elim
    | cons m ms =>
    obtain ⟨hl, hfs⟩ := hf
    refine iteT ⟨_, rfl, a, rfl, ⟨xs, h0⟩, fun D hD => lc_list (K := K) (a := a) (xs := xs) (fun i H' => Grow (fun _ => False) H D (ds.take i) H') (Grow.start hD) (fun i H' _ g => ?_) (fun i x H' hx g => ?_) fun H' g => ?_⟩
    · obtain ⟨_, _, _, _, _, _, off⟩ := g
      exact sqL_off off h0
    · exact ⟨rfl, Exists.intro x ⟨rfl, copy_turn r hfs hm (Nat.lt_of_succ_lt_succ hk) hl hD hx g⟩⟩
    · rw [dpAll_length r, List.take_length] at g
      obtain ⟨F', o', f', k'⟩ := g.list hD
      exact q _ F' H' o' f' k'
  · have hL : isList d = false := by simpa using hL
    rw [hL]
    refine iteF ⟨_, rfl, v, .ty "tuple", .type (tyName d), .type "tuple", isTuple d, rfl, .ty _, dp_ty o, kit_tuple d, _, rfl, ?_⟩
    by_cases hT : isTuple d = true
    · rw [hT]
      obtain ⟨a, xs, ds, rfl, rfl, h0, r⟩ := dp_tuple o hT
      cases ms with
      | nil => exact hf.elim
      | cons m ms =>
      obtain ⟨hl, hfs⟩ := hf
      refine iteT ⟨_, rfl, a, rfl, ⟨xs, h0⟩, fun D hD => lc_tup (K := K) (a := a) (xs := xs) (fun i H' => Grow (fun _ => False) H D (ds.take i) H') (Grow.start hD) (fun i H' _ g => ?_) (fun i x H' hx g => ?_) fun H' g => ?_⟩
      · obtain ⟨_, _, _, _, _, _, off⟩ := g
        exact sqT_off off h0
      · exact ⟨rfl, Exists.intro x ⟨rfl, copy_turn r hfs hm (Nat.lt_of_succ_lt_succ hk) hl hD hx g⟩⟩
      · rw [dpAll_length r, List.take_length] at g
        obtain ⟨acc, _, e1, _⟩ := id g
        refine ⟨D, acc, rfl, .inl ⟨SqL.of e1, fun p hp => ?_⟩⟩
        obtain ⟨F', o', f', k'⟩ := g.tuple e1 hp
        exact q _ F' _ o' f' k'
    · have hT : isTuple d = false := by simpa using hT
      rw [hT]
      exact iteF ⟨_, rfl, q v _ H (copy_leaf o hL hT) (fun _ z => z.elim) (Off.refl _ _)⟩
theorem ok_copiedP {f : Addr} {fd : FuncData} (F : FnP K "copied" pCopied f fd) (hb : Binds K fd ["thing"] []) (mf : mg "copied" = some (.ref f)) (mi : mg "isinstance" = none) (ml : mg "list" = none) (mt : mg "tuple" = none) :
    ∀ n : Nat, FnOk P w K mg base CX0 n f fd ["thing"] (spCopied K n)
  | 0 => none_leftN fun vs H Q E => copied_none
  | n + 1 => ok_copiedP_step F hb mf mi ml mt (ok_copiedP F hb mf mi ml mt n)
theorem scForm : FnScope ["thing", "forms"] ["thing", "forms"] (defScope pHasForm) := ⟨rfl, rfl, rfl, by decide +kernel, rfl, by decide +kernel, by decide +kernel⟩
theorem ok_form {f : Addr} {fd : FuncData} (F : FnP K "has_form" pHasForm f fd) (ml : mg "len" = none) (mb : mg "bool" = none) : FnOk P w K mg base CX0 2 f fd ["thing", "forms"] (spForm K) := by
  refine F.ok scForm (fun vs H Q E h => ?_) (fun cdv A outer s H vs Q E hr h => ?_)
  · obtain ⟨v, w, r, N, M, rfl, _⟩ := h
    rfl
  obtain ⟨v, w, r, N, M, rfl, hv, ok, hw, q⟩ := h
  have hu65 : (A.deeper (envOfC "has_form" (defScope pHasForm) s.heap.objs.size f cdv)).units + 65 < cLine := by
    have := hr.un
    omega
  refine ⟨_, pss_one (ps_ret (pe_and (pe_callTy call_boolT rfl mb (by decide +kernel) (pa_cons (pv 0) pa_nil))
    (pe_one (pe_cmpR (op_inD hu65) (pe_tup (pa_cons (pe_ix ix_tup (pv 0) pe_int (fun _ _ => rfl)) (pa_cons (pe_callB call_len_seq rfl ml boot_len (pa_cons (pv 0) pa_nil)) pa_nil))) (pv 1) rfl)))), ?_⟩
  obtain ⟨ra, vs, rfl, sq, da⟩ : ∃ a vs, v = .ref a ∧ SqT K H a vs ∧ DpAll K H vs (rbL r) := by
    cases hv with
    | tup h r => exact ⟨_, _, rfl, h, r⟩
  have lv : vs.length = (rbL r).length := dpAll_length da
  refine ⟨_, rfl, ra, vs, rfl, sq, _, rfl, ?_⟩
  cases hh : r.1 with
  | nil =>
    have ho : r.2 = none := by
      cases h2 : r.2 with
      | none => rfl
      | some z =>
        have := ok.two (by rw [h2]; simp)
        rw [hh] at this
        simp at this
    have er : r = ([], none) := Prod.ext hh ho
    subst er
    have ev : vs = [] := by cases da; rfl
    subst ev
    refine iteF ?_
    exact q H (Off.refl _ _)
  | cons x hd =>
    have e0 : ∃ tl, vs = .str x :: tl := by
      obtain ⟨hdl, o⟩ := r
      have hh : hdl = x :: hd := hh
      subst hh
      rcases o with _ | ⟨cs, tl⟩ <;>
      · cases da with
        | cons h r =>
          cases h
          exact ⟨_, rfl⟩
    obtain ⟨tl, rfl⟩ := e0
    refine iteT ?_
    obtain ⟨fa, xs, rfl, sf, df⟩ : ∃ a xs, w = .ref a ∧ SqT K H a xs ∧ DpAll K H xs [.tuple [.str "key", .int 3], .tuple [.str "settles", .int 4]] := by
      cases hw with
      | tup h r => exact ⟨_, _, rfl, h, r⟩
    have gx : Asc x := (ok.hg x (by rw [hh]; simp)).1
    refine ⟨_, rfl, ra, _, 0, _, rfl, rfl, sq, atI_nat (j := 0) rfl, _, rfl, ra, _, rfl, .inr sq, (by show 2 ≤ sizeLine; decide), fun t nt => ?_⟩
    have k1 : Off (fun _ => False) H (upd H t (.tup [.str x, .int ((V.str x :: tl).length : Nat)])) := Off.new nt
    refine ⟨_, rfl, fa, xs, _, .tuple [.str x, .int ((V.str x :: tl).length : Nat)], rfl, .inr (sqT_off k1 sf), dpAll_off k1 df, .tup (SqT.of upd_same) (.cons (.str _) (.cons (.int _) .nil)), ?_, shaped_form gx, ?_⟩
    · have all : ∀ e ∈ ([.tuple [.str "key", .int 3], .tuple [.str "settles", .int 4]] : List PyData), SeqAt.shaped e = true := by decide +kernel
      exact all
    · have fe := form_eq ok hh
      rw [← lv] at fe
      rw [if_neg (by decide), fe]
      exact q _ k1
end
end LW
set_option Elab.async false
set_option linter.all false
set_option maxRecDepth 100000
set_option maxHeartbeats 0
/-! books.py: book[name], check_rule. -/
namespace LW
open PySem PySem.Spec PyProof.Rows L2 KV
/-- what the text says of the class -/
structure BookT (K : PySem.W.Frag) (mg : Str → Option Value) : Prop where
  cl : L2.Cls K (He.ga K "Book")
  n1 : NoAttr K (He.ga K "Book") "_tables"
  n2 : NoAttr K (He.ga K "Book") "_rules"
  mkr : Mk K (He.ga K "Book") (He.ma K (He.ga K "Book") "__init__")
  g : mg "Book" = some (.ref (He.ga K "Book"))
  it : ItemF K (He.ga K "Book") (He.ma K (He.ga K "Book") "__getitem__")
/-- at b: a book of these tables -/
def BookAt (K : PySem.W.Frag) (H : Hp) (b : Addr) (ts : List Tab) : Prop := ∃ dx fs v, H b = some (.ins (He.ga K "Book") dx fs) ∧ fs.lookup ("_tables" : Str) = some v ∧ Dp K H v (tabsD ts)
theorem BookAt.off {K : PySem.W.Frag} {H H' : Hp} {b : Addr} {ts : List Tab} (h : BookAt K H b ts) (k : Off (fun _ => False) H H') : BookAt K H' b ts := by
  obtain ⟨dx, fs, v, h1, h2, h3⟩ := h
  exact ⟨dx, fs, v, k _ _ h1 fun z => z, h2, dp_off k h3⟩
def itemX (K : PySem.W.Frag) (H : Hp) (Q : VK) (E : XK) (x : Str) : Option Tab → Prop
  | some t => ∀ l H', H l = none → H' l = some (.lst (t.2.map V.str)) → Off (fun _ => False) H H' → Q (.ref l) H'
  | none => Raised K H E "UnknownTable" (.str x)
def spItem (K : PySem.W.Frag) : Sp := fun vs H Q E => ∃ (b : Addr) (x : Str) (ts : List Tab), vs = [.ref b, .str x] ∧ BookAt K H b ts ∧ itemX K H Q E x (tabOf ts x)
def spChkR (K : PySem.W.Frag) : Sp := fun vs H Q E => ∃ (b : Addr) (v : V) (ts : List Tab) (r : RB) (N M : Nat), vs = [.ref b, v] ∧ BookAt K H b ts ∧ Dp K H v (rbD r) ∧ RbOk N M r ∧ M ≤ 4000 ∧ endX K H Q E (wrong1 ts r)
theorem formed_ok {r : RB} (h : formed r = true) : ∃ k x cs tl, r = ([k, x], some (cs, tl)) ∧ ((k = "key" ∧ tl.length = 0) ∨ (k = "settles" ∧ tl.length = 1)) := by
  obtain ⟨hd, o⟩ := r
  rcases hd with _ | ⟨k, _ | ⟨x, _ | ⟨y, hd⟩⟩⟩
  · cases h
  · cases h
  · rcases o with _ | ⟨cs, tl⟩
    · cases h
    · exact ⟨k, x, cs, tl, rfl, of_decide_eq_true h⟩
  · cases h
theorem tabOf_cons_yes {t : Tab} {ts : List Tab} {x : Str} (h : t.1 = x) : tabOf (t :: ts) x = some t := by simp [tabOf, List.find?_cons, h]
theorem tabOf_cons_no {t : Tab} {ts : List Tab} {x : Str} (h : ¬ t.1 = x) : tabOf (t :: ts) x = tabOf ts x := by simp [tabOf, List.find?_cons, h]
section
variable {P : Program} {w : World} {K : PySem.W.Frag} {mg : Str → Option Value} {base : Heap}
theorem scItem : FnScope ["self", "name", "table", "columns"] ["self", "name"] (defScope pBook_getitem) := ⟨rfl, rfl, rfl, by decide +kernel, rfl, by decide +kernel, by decide +kernel⟩
theorem ok_item {f : Addr} {fd dE : FuncData} (F : FunD K "__getitem__" "Book.__getitem__" (defArgs pBook_getitem) (defBody pBook_getitem) (defScope pBook_getitem) [] [] f fd) (T : ErrT P w K mg base dE) (B : BookT K mg) (mL : mg "list" = none) :
    FnOk P w K mg base (L2N.CX P w) 3 f fd ["self", "name"] (spItem K) := by
  have t1 := T.es.ok "UnknownTable" (by decide)
  have g1 := T.g "UnknownTable" (by decide)
  refine F.ok scItem (fun vs H Q E h => ?_) (fun cdv A outer s H vs Q E hr h => ?_)
  · obtain ⟨b, x, ts, rfl, _⟩ := h
    rfl
  obtain ⟨b, x, ts, rfl, hb, q⟩ := h
  refine ⟨_, (pss_cons (ps_for (passes_of rfl) rfl (pi_list (pe_fld (pv 0) rfl)) (pg_tup rfl (pgs_cons (pg_name (i := 2) scItem.nd rfl (Or.inl rfl)) (pgs_cons (pg_name (i := 3) scItem.nd rfl (Or.inl rfl)) pgs_nil)))
      (pss_one (ps_if (pt_cmpR op_eq (pv 2) (pv 1) (nomark _)) (pss_one (ps_ret (pe_callTy call_list_of rfl mL boot_list (pa_cons (pv 3) pa_nil)))) pss_nil)))
    (pss_one (L2N.ps_raise rfl (L2N.takes_of rfl rfl rfl rfl) (pmk_oexN t1.oex t1.ini t1.fn T.ini hr T.b rfl g1 (pa_cons (pv 1) pa_nil))))), ?_⟩
  have no : ¬ False := fun z => z
  obtain ⟨dx, fs, v, h1, h2, h3⟩ := hb
  obtain ⟨aw, xw, rfl, qw, rw'⟩ := dp_tabs h3
  have lw : xw.length = ts.length := by rw [dpAll_length rw', List.length_map]
  refine ⟨_, rfl, b, _, dx, fs, _, rfl, h1, B.cl, B.n1, h2, aw, rfl, ⟨_, qw⟩, for_list (K := K) (a := aw) (xs := xw) (fun i σ H' => ∃ w2 w3, σ = [some (.ref b), some (.str x), w2, w3] ∧ Off (fun _ => False) H H' ∧ tabOf ts x = tabOf (ts.drop i) x)
    ⟨none, none, rfl, Off.refl _ _, rfl⟩ (fun i σ H' _ g => ?_) (fun i y σ H' hy g => ?_) fun σ H' g => ?_⟩
  · obtain ⟨_, _, _, k, _⟩ := g
    exact sqL_off k qw
  · obtain ⟨w2, w3, rfl, k, eq⟩ := g
    obtain ⟨dt, edt, hdt⟩ := dpAll_at rw' hy
    rw [List.getElem?_map] at edt
    obtain ⟨t, et, rfl⟩ := Option.map_eq_some_iff.mp edt
    obtain ⟨ta, wc, rfl, st, dc⟩ := dp_tab hdt
    obtain ⟨ca, rfl, _⟩ := dp_cols dc
    rw [drop_cons et] at eq
    refine ⟨ta, [.str t.1, .ref ca], rfl, sqT_off k st, rfl, .str t.1, [.ref ca], rfl, .ref ca, [], rfl, rfl, ?_⟩
    refine ⟨_, rfl, _, rfl, rfl, _, rfl, ite2 (fun c => ?_) (fun c => ?_)⟩
    · have ex : t.1 = x := V.str.inj (of_decide_eq_true c)
      rw [tabOf_cons_yes ex] at eq
      rw [eq] at q
      refine ⟨_, rfl, ca, _, rfl, .inl (dp_cols_ref (dp_off k dc)), fun l hl => ?_⟩
      exact q l _ (k.none hl no) upd_same (k.trans (Off.new hl))
    · have ex : ¬ t.1 = x := fun z => c (decide_eq_true (by rw [z]))
      rw [tabOf_cons_no ex] at eq
      exact ⟨_, _, rfl, k, eq⟩
  · obtain ⟨w2, w3, rfl, k, eq⟩ := g
    rw [lw, List.drop_length] at eq
    rw [eq] at q
    exact ⟨_, rfl, raise_str t1 k q⟩
theorem scChkR : FnScope ["book", "rule", "known", "column"] ["book", "rule"] (defScope pCheckRule) := ⟨rfl, rfl, rfl, by decide +kernel, rfl, by decide +kernel, by decide +kernel⟩
theorem ok_chkR {f fF fC : Addr} {fd dE dF dC dI : FuncData} {RF : Addr} (F : FnP K "check_rule" pCheckRule f fd) (T : ErrT P w K mg base dE) (B : BookT K mg)
    (GF : FnOk P w K mg base CX0 2 fF dF ["thing", "forms"] (spForm K)) (bF : Binds K dF ["thing", "forms"] []) (mF : mg "has_form" = some (.ref fF)) (kF : PySem.W.keepIn K (.ref fF) = true)
    (GC : FnOk P w K mg base CX0 6 fC dC ["thing"] (spCopied K 6)) (bC : Binds K dC ["thing"] []) (mC : mg "copied" = some (.ref fC)) (kC : PySem.W.keepIn K (.ref fC) = true)
    (GI : FnOk P w K mg base (L2N.CX P w) 3 (He.ma K (He.ga K "Book") "__getitem__") dI ["self", "name"] (spItem K)) (bI : Binds K dI ["self", "name"] [])
    (mR : mg "RULE_FORMS" = some (.ref RF)) (hR : ∀ H, Dp K H (.ref RF) formsD) :
    FnOk P w K mg base (L2N.CX P w) 7 f fd ["book", "rule"] (spChkR K) := by
  have GF6 : FnOk P w K mg base CX0 6 fF dF ["thing", "forms"] (spForm K) := GF.mono (by decide)
  have t1 := T.es.ok "InvalidRule" (by decide)
  have g1 := T.g "InvalidRule" (by decide)
  have t2 := T.es.ok "UnknownColumn" (by decide)
  have g2 := T.g "UnknownColumn" (by decide)
  refine F.ok scChkR (fun vs H Q E h => ?_) (fun cdv A outer s H vs Q E hr h => ?_)
  · obtain ⟨b, v, ts, r, N, M, rfl, _⟩ := h
    rfl
  obtain ⟨b, v, ts, r, N, M, rfl, hb, hv, ok, hM, q⟩ := h
  refine ⟨_, (pss_cons (ps_if (pt_not (pt_val (pe_call GF6 hr rfl mF kF bF .nil pass0 (pa_cons (pv 1) (pa_cons (pe_glob (v := .ref RF) rfl mR rfl) pa_nil)))))
      (pss_one (L2N.ps_raise rfl (L2N.takes_of rfl rfl rfl rfl) (pmk_oexN t1.oex t1.ini t1.fn T.ini (hr.mono (by decide)) T.b rfl g1 (pa_cons (pe_call GC hr rfl mC kC bC .nil pass0 (pa_cons (pv 1) pa_nil)) pa_nil)))) pss_nil)
    (pss_cons (ps_set (i := 2) scChkR.nd rfl (Or.inl rfl) (pe_itemS (C := He.ga K "Book") B.it GI (hr.mono (by decide)) bI (fun σ => L2N.passAt (L2N.takes_of rfl rfl rfl rfl) σ) (pv 0) (pe_ix ix_tup (pv 1) pe_int (fun _ _ => rfl))))
    (pss_one (ps_for (passes_of rfl) rfl (pi_list (pe_lst (StX.pa_star (pe_ix ix_tup (pv 1) pe_int (fun _ _ => rfl)) (StX.pa_star (pe_slice sl_tupW (pv 1) (po_some pe_int) po_none) pa_nil)))) (pg_name (i := 3) scChkR.nd rfl (Or.inl rfl))
      (pss_one (ps_if (pt_cmpR op_notIn_seq (pv 3) (pv 2) rfl)
        (pss_one (L2N.ps_raise rfl (L2N.takes_of rfl rfl rfl rfl) (pmk_oexN t2.oex t2.ini t2.fn T.ini (hr.mono (by decide)) T.b rfl g2 (pa_cons (pv 3) pa_nil)))) pss_nil)))))), ?_⟩
  have no : ¬ False := fun z => z
  refine ⟨_, rfl, v, .ref RF, r, N, M, rfl, hv, ok, hR _, fun H1 k1 => ⟨_, rfl, ?_⟩⟩
  cases hf : formed r with
  | false =>
    rw [wrong1_formed hf] at q
    refine iteT ⟨_, rfl, v, rbD r, N, [5, M], rfl, dp_off k1 hv, fit_rb ok, by simp; omega, (by show 2 < 6; decide), fun v' Fo H2 o2 fr2 k2 => raise_of t1 fun d hd => ?_⟩
    have k3 := k2.trans (Off.new (o := .xd [("value", v')]) hd)
    refine (Raised.off q k1) v' Fo d _ k3 (k2.none hd no) upd_same (o2.keep (Off.new hd) (fun _ z => z.elim) fun _ _ z => z) fr2
  | true =>
    obtain ⟨k0, x0, cs, tl, rfl, fm⟩ := formed_ok hf
    have w1 := wrong1_yes (ts := ts) (x := x0) (cs := cs) fm
    rw [w1] at q
    obtain ⟨lc, gc, lt, gt⟩ := ok.cs cs tl rfl
    obtain ⟨ra, vs, rfl, sq, da⟩ : ∃ a vs, v = .ref a ∧ SqT K H a vs ∧ DpAll K H vs (rbL ([k0, x0], some (cs, tl))) := by
      cases hv with
      | tup h r => exact ⟨_, _, rfl, h, r⟩
    obtain ⟨ca, rfl, dc⟩ : ∃ ca, vs = .str k0 :: .str x0 :: .ref ca :: tl.map V.str ∧ Dp K H (.ref ca) (colsD cs) := by
      cases da with
      | cons h r =>
        cases h
        cases r with
        | cons h r =>
          cases h
          cases r with
          | cons h r =>
            obtain ⟨ca, rfl, _⟩ := dp_cols h
            exact ⟨ca, by rw [dpAll_strs r], h⟩
    have lv : (V.str k0 :: V.str x0 :: V.ref ca :: tl.map V.str).length = 3 + tl.length := by
      simp
      omega
    have at1 : atI (V.str k0 :: V.str x0 :: V.ref ca :: tl.map V.str) 1 = some (V.str x0) := atI_nat (j := 1) rfl
    have at2 : atI (V.str k0 :: V.str x0 :: V.ref ca :: tl.map V.str) 2 = some (V.ref ca) := atI_nat (j := 2) rfl
    have hb1 := hb.off k1
    obtain ⟨dx, fs, v1, h1, h2, h3⟩ := id hb1
    refine iteF ⟨_, rfl, _, rfl, ra, _, 1, _, rfl, rfl, sqT_off k1 sq, at1, b, dx, fs, rfl, h1, b, x0, ts, rfl, hb1, ?_⟩
    cases e1 : tabOf ts x0 with
    | none =>
      rw [e1] at q
      exact Raised.off q k1
    | some t =>
      rw [e1] at q
      dsimp only at q
      intro l H2 _ el k2
      have k12 := k1.trans k2
      refine ⟨_, rfl, ra, _, 2, _, rfl, rfl, sqT_off k12 sq, at2, ca, _, rfl, .inr (dp_cols_ref (dp_off k12 dc)), _, rfl, _, rfl, ra, _, rfl, sqT_off k12 sq, fun _ p3 hp3 => ?_, fun c => by rw [lv] at c; simp [HT.sIx] at c⟩
      have ecut3 : cutV (V.str k0 :: V.str x0 :: V.ref ca :: tl.map V.str) (some 3) none = tl.map V.str := by
        rw [cutV_tail (by decide)]
        rfl
      rw [ecut3]
      have k3 := k12.trans (Off.new (o := .tup (tl.map V.str)) hp3)
      have k23 := k2.trans (Off.new (o := .tup (tl.map V.str)) hp3)
      have e3 : cs.map V.str ++ (tl.map V.str ++ []) = (cs ++ tl).map V.str := by simp
      refine ⟨p3, _, rfl, .inl (SqT.of upd_same), ?_, fun m hm => ?_⟩
      · rw [e3, List.length_map, List.length_append]
        exact Nat.le_trans (m := 4002) (by omega) (by decide)
      rw [e3]
      have em := upd_same (H := upd H2 p3 (.tup (tl.map V.str))) (a := m) (o := .lst ((cs ++ tl).map V.str))
      have k4 := k3.trans (Off.new (o := .lst ((cs ++ tl).map V.str)) hm)
      have el4 := (Off.new (G := fun _ => False) (o := .lst ((cs ++ tl).map V.str)) hm) _ _ ((Off.new (G := fun _ => False) (o := .tup (tl.map V.str)) hp3) _ _ el no) no
      generalize upd (upd H2 p3 (.tup (tl.map V.str))) m (.lst ((cs ++ tl).map V.str)) = G at em k4 el4 ⊢
      refine ⟨m, rfl, ⟨_, SqL.of em⟩, for_list (K := K) (a := m) (xs := (cs ++ tl).map V.str) (fun i σ H' => ∃ w3, σ = [some (.ref b), some (.ref ra), some (.ref l), w3] ∧ Off (fun _ => False) G H' ∧
          (cs ++ tl).find? (fun c => !decide (c ∈ t.2)) = ((cs ++ tl).drop i).find? fun c => !decide (c ∈ t.2))
        ⟨none, rfl, Off.refl _ _, rfl⟩ (fun i σ H' _ g => ?_) (fun i y σ H' hy g => ?_) fun σ H' g => ?_⟩
      · obtain ⟨_, _, k, _⟩ := g
        exact SqL.of (k _ _ em no)
      · obtain ⟨w3, rfl, k, eq⟩ := g
        rw [List.getElem?_map] at hy
        obtain ⟨c, hc, rfl⟩ := Option.map_eq_some_iff.mp hy
        rw [drop_cons hc, List.find?_cons] at eq
        refine ⟨_, rfl, _, rfl, l, _, rfl, .inl (SqL.of (k _ _ el4 no)), rfl, flat_strs _, _, rfl, ?_⟩
        rw [if_pos rfl, inV_strs]
        refine ite2 (fun z => ?_) (fun z => ?_)
        · rw [z] at eq
          rw [eq] at q
          exact ⟨_, rfl, raise_str t2 (k4.trans k) q⟩
        · rw [Bool.eq_false_iff.mpr z] at eq
          exact ⟨_, rfl, k, eq⟩
      · obtain ⟨w3, rfl, k, eq⟩ := g
        rw [List.length_map, List.drop_length] at eq
        rw [eq] at q
        exact q H' (k4.trans k)
end
end LW
set_option Elab.async false
set_option linter.all false
set_option maxRecDepth 100000
set_option maxHeartbeats 0
/-! books.py: Book(..), tables, rules. -/
namespace LW
open PySem PySem.Spec PyProof.Rows L2 KV
/-- a def that stands: its promise, its binding, its name -/
structure Dn (P : Program) (w : World) (K : PySem.W.Frag) (mg : Str → Option Value) (base : Heap) (k : Nat) (x : Str) (ps : List Str) (sp : Sp) (f : Addr) (fd : FuncData) : Prop where
  g : FnOk P w K mg base CX0 k f fd ps sp
  b : Binds K fd ps []
  m : mg x = some (.ref f)
  kp : PySem.W.keepIn K (.ref f) = true
structure DnC (P : Program) (w : World) (K : PySem.W.Frag) (mg : Str → Option Value) (base : Heap) (k : Nat) (x : Str) (ps : List Str) (sp : Sp) (f : Addr) (fd : FuncData) : Prop where
  g : FnC P w K mg base CX0 k f fd ps sp
  b : Binds K fd ps []
  m : mg x = some (.ref f)
  kp : PySem.W.keepIn K (.ref f) = true
theorem NoSq.ins {H : Hp} {p C dx : Addr} {fs : List (Str × V)} (h : H p = some (.ins C dx fs)) : NoSq H p := by
  refine ⟨fun xs z => ?_, fun xs z => ?_⟩ <;>
  · rcases z with z | ⟨o, z⟩ <;> rw [h] at z <;> cases z
theorem Off.in {H H' : Hp} {p : Addr} (k : Off (fun _ => False) H H') : Off (fun a => a = p) H H' := k.mono fun _ z => z.elim
theorem lookup_one (f : Str) (v : V) : List.lookup f (putF f v []) = some v := by simp [putF, List.lookup]
theorem put_two (v1 v2 : V) : putF "_rules" v2 (putF "_tables" v1 []) = [(("_tables" : Str), v1), (("_rules" : Str), v2)] := by
  have h : ¬ ("_tables" : Str) = "_rules" := by decide +kernel
  simp [putF, h]
/-- at b: the book of these tables and rules -/
def BookOf (K : PySem.W.Frag) (H : Hp) (b : Addr) (ts : List Tab) (rs : List RB) : Prop := ∃ dx v1 v2, H b = some (.ins (He.ga K "Book") dx [("_tables", v1), ("_rules", v2)]) ∧ Dp K H v1 (tabsD ts) ∧ Dp K H v2 (rbsD rs)
theorem BookOf.off {K : PySem.W.Frag} {H H' : Hp} {b : Addr} {ts : List Tab} {rs : List RB} (h : BookOf K H b ts rs) (k : Off (fun _ => False) H H') : BookOf K H' b ts rs := by
  obtain ⟨dx, v1, v2, h1, h2, h3⟩ := h
  exact ⟨dx, v1, v2, k _ _ h1 fun z => z, dp_off k h2, dp_off k h3⟩
/-- the same, its lists its own -/
def BookOw (K : PySem.W.Frag) (H : Hp) (b : Addr) (ts : List Tab) (rs : List RB) (F : Fp) : Prop := ∃ dx v1 v2 F1 F2, H b = some (.ins (He.ga K "Book") dx [("_tables", v1), ("_rules", v2)]) ∧ Ow H v1 (tabsD ts) F1 ∧ Ow H v2 (rbsD rs) F2 ∧ (∀ a, F1 a → F a) ∧ ∀ a, F2 a → F a
theorem BookOw.of {K : PySem.W.Frag} {H : Hp} {b : Addr} {ts : List Tab} {rs : List RB} {F : Fp} (h : BookOw K H b ts rs F) : BookOf K H b ts rs := by
  obtain ⟨dx, v1, v2, F1, F2, h1, h2, h3, _⟩ := h
  exact ⟨dx, v1, v2, h1, h2.dp, h3.dp⟩
theorem BookOw.keep {K : PySem.W.Frag} {H H' : Hp} {b : Addr} {ts : List Tab} {rs : List RB} {F G : Fp} (h : BookOw K H b ts rs F) (k : Off G H H') (hG : ∀ a, G a → ∃ xs, H a = some (.lst xs)) (n : ∀ a, F a → ¬ G a) : BookOw K H' b ts rs F := by
  obtain ⟨dx, v1, v2, F1, F2, h1, h2, h3, s1, s2⟩ := h
  refine ⟨dx, v1, v2, F1, F2, k _ _ h1 fun z => ?_, h2.keep k hG fun a z => n a (s1 a z), h3.keep k hG fun a z => n a (s2 a z), s1, s2⟩
  obtain ⟨xs, e⟩ := hG b z
  rw [h1] at e
  cases e
theorem BookOw.off {K : PySem.W.Frag} {H H' : Hp} {b : Addr} {ts : List Tab} {rs : List RB} {F : Fp} (h : BookOw K H b ts rs F) (k : Off (fun _ => False) H H') : BookOw K H' b ts rs F := h.keep k (fun _ z => z.elim) fun _ _ z => z
theorem BookOw.dom {K : PySem.W.Frag} {H : Hp} {b : Addr} {ts : List Tab} {rs : List RB} {F : Fp} (h : BookOw K H b ts rs F) : ∃ F', BookOw K H b ts rs F' ∧ (∀ a, F' a → F a) ∧ ∀ a, F' a → ∃ xs, H a = some (.lst xs) := by
  obtain ⟨dx, v1, v2, F1, F2, h1, h2, h3, s1, s2⟩ := h
  exact ⟨fun a => F1 a ∨ F2 a, ⟨dx, v1, v2, F1, F2, h1, h2, h3, fun a => .inl, fun a => .inr⟩, fun a z => z.elim (s1 a) (s2 a), fun a z => z.elim (h2.dom a) (h3.dom a)⟩
/-- owned data over the change of a thing that is neither a list nor a tuple -/
theorem ow_ins {H : Hp} {p : Addr} {o : HO} (n : NoSq H p) {v : V} {d : PyData} {F : Fp} (h : Ow H v d F) : Ow (upd H p o) v d F := by
  have k : Off (fun a => a = p) H (upd H p o) := Off.upd rfl
  have key : (∀ {v : V} {d : PyData} {F : Fp}, Ow H v d F → Ow (upd H p o) v d F) := by
    intro v d F h
    refine Ow.rec (motive_1 := fun v d F _ => Ow (upd H p o) v d F) (motive_2 := fun vs ds F _ => OwAll (upd H p o) vs ds F) ?_ ?_ ?_ ?_ ?_ ?_ ?_ ?_ h
    · exact fun e => .non e
    · exact fun b e => .bl b e
    · exact fun i e => .int i e
    · exact fun x e => .str x e
    · intro F G a xs ds h0 _ ne e r
      exact .lst (k _ _ h0 fun z => n.1 xs (by
        have z : a = p := z
        rw [← z]
        exact .inl h0)) r ne e
    · intro F a xs ds h0 _ r
      exact .tup (k _ _ h0 fun z => n.2 xs (by
        have z : a = p := z
        rw [← z]
        exact .inl h0)) r
    · exact fun e => .nil e
    · exact fun _ _ ne e h r => .cons h r ne e
  exact key h
def bookX (K : PySem.W.Frag) (H : Hp) (x : Addr) (ts : List Tab) (rs : List RB) (Q : VK) (E : XK) : Option (Str × PyData) → Prop
  | none => ∀ H' F, BookOw K H' x ts rs F → (∀ a, F a → H a = none) → Off (fun a => a = x) H H' → Q .non H'
  | some (y, e) => ∀ (u : V) (Fo : Fp) (d : Addr) (H' : Hp), Off (fun a => a = x) H H' → H d = none → H' d = some (.xd [("value", u)]) → Ow H' u e Fo → (∀ a, Fo a → H a = none) → E (.ref (He.ga K y)) (some d) H'
theorem bookX_raised {K : PySem.W.Frag} {H H1 : Hp} {x : Addr} {ts : List Tab} {rs : List RB} {Q : VK} {E : XK} {y : Str} {e : PyData} (q : bookX K H x ts rs Q E (some (y, e))) (k : Off (fun a => a = x) H H1) (nx : H x ≠ none) (hx : H1 x ≠ none) : Raised K H1 E y e := by
  intro u Fo d H' k1 nd ed o f
  have non : ∀ a, H1 a = none → H a = none := fun a z => by
    by_cases y : a = x
    · exact absurd (y ▸ z) hx
    · exact k.none z y
  exact q u Fo d H' (k.trans (Off.in k1)) (non d nd) ed o fun a z => non a (f a z)
structure BkB (n mc mt N M L : Nat) (ts : List Tab) (rs : List RB) : Prop where
  tb : TabsW n mc mt ts
  rb : ∀ r ∈ rs, RbOk N M r
  hn : n ≤ 4000
  hmc : mc ≤ 4000
  hmt : mt ≤ 4000
  hM : M ≤ 4000
  lr : rs.length ≤ L
  hL : L ≤ 4000
def spBook (K : PySem.W.Frag) : Sp := fun vs H Q E => ∃ (x dx : Addr) (v w : V) (ts : List Tab) (rs : List RB) (n mc mt N M L : Nat), vs = [.ref x, v, w] ∧ H x = some (.ins (He.ga K "Book") dx []) ∧ Dp K H v (tabsD ts) ∧ Dp K H w (rbsD rs) ∧ BkB n mc mt N M L ts rs ∧
  bookX K H x ts rs Q E (wrongBook ts rs)
section
variable {P : Program} {w : World} {K : PySem.W.Frag} {mg : Str → Option Value} {base : Heap}
theorem scBook : FnScope ["self", "tables", "rules", "rule"] ["self", "tables", "rules"] (defScope pBook_init) := ⟨rfl, rfl, rfl, by decide +kernel, rfl, by decide +kernel, by decide +kernel⟩
theorem ok_book {f fT fC fR : Addr} {fd dT dC dR : FuncData} (F : FunD K "__init__" "Book.__init__" (defArgs pBook_init) (defBody pBook_init) (defScope pBook_init) [] [] f fd) (B : BookT K mg)
    (GT : FnOk P w K mg base (L2N.CX P w) 5 fT dT ["tables"] (spChkT K)) (bT : Binds K dT ["tables"] []) (mT : mg "check_tables" = some (.ref fT)) (kT : PySem.W.keepIn K (.ref fT) = true)
    (GC : FnOk P w K mg base CX0 6 fC dC ["thing"] (spCopied K 6)) (bC : Binds K dC ["thing"] []) (mC : mg "copied" = some (.ref fC)) (kC : PySem.W.keepIn K (.ref fC) = true)
    (GR : FnOk P w K mg base (L2N.CX P w) 7 fR dR ["book", "rule"] (spChkR K)) (bR : Binds K dR ["book", "rule"] []) (mR : mg "check_rule" = some (.ref fR)) (kR : PySem.W.keepIn K (.ref fR) = true) :
    FnOk P w K mg base (L2N.CX P w) 8 f fd ["self", "tables", "rules"] (spBook K) := by
  have GT7 : FnOk P w K mg base (L2N.CX P w) 7 fT dT ["tables"] (spChkT K) := GT.mono (by decide)
  have GC7 : FnOk P w K mg base CX0 7 fC dC ["thing"] (spCopied K 6) := GC.mono (by decide)
  refine F.ok scBook (fun vs H Q E h => ?_) (fun cdv A outer s H vs Q E hr h => ?_)
  · obtain ⟨x, dx, v, w, ts, rs, n, mc, mt, N, M, L, rfl, _⟩ := h
    rfl
  obtain ⟨x, dx, v, w, ts, rs, n, mc, mt, N, M, L, rfl, hx, hv, hw, bb, q⟩ := h
  refine ⟨_, (pss_cons (ps_expr (pe_callS GT7 hr rfl mT kT bT (fun σ => L2N.passAt (L2N.takes_of rfl rfl rfl rfl) σ) (pa_cons (pv 1) pa_nil)))
    (pss_cons (ps_fld (pv 0) (pe_call GC7 hr rfl mC kC bC .nil pass0 (pa_cons (pv 1) pa_nil)) rfl)
    (pss_cons (ps_for (passes_of rfl) rfl (pi_list (pv 2)) (pg_name (i := 3) scBook.nd rfl (Or.inl rfl))
      (pss_one (ps_expr (pe_callS GR hr rfl mR kR bR (fun σ => L2N.passAt (L2N.takes_of rfl rfl rfl rfl) σ) (pa_cons (pv 0) (pa_cons (pv 3) pa_nil))))))
    (pss_one (ps_fld (pv 0) (pe_call GC7 hr rfl mC kC bC .nil pass0 (pa_cons (pv 2) pa_nil)) rfl))))), ?_⟩
  have no : ¬ False := fun z => z
  have nx : H x ≠ none := by rw [hx]; simp
  refine ⟨_, rfl, v, ts, n, mc, mt, rfl, hv, bb.tb, bb.hn, bb.hmc, bb.hmt, ?_⟩
  unfold wrongBook at q
  cases e1 : wrongTabs [] ts with
  | some z =>
    rw [e1] at q
    exact bookX_raised q (Off.refl _ _) nx nx
  | none =>
    rw [e1] at q
    dsimp only at q
    intro H1 k1
    have hx1 := k1 _ _ hx no
    refine ⟨_, rfl, v, tabsD ts, n, [mt, 2, mc], rfl, dp_off k1 hv, fit_tabsW bb.tb, ?_, (by show 3 < 6; decide), fun v1 F1 H2 o1 fr1 k2 => ?_⟩
    · have h1 := bb.hmt
      have h2 := bb.hmc
      simp
      omega
    have hx2 := k2 _ _ hx1 no
    refine ⟨_, rfl, x, _, dx, [], rfl, hx2, B.cl, B.n1, (by decide), ?_⟩
    have kx : Off (fun a => a = x) H2 (upd H2 x (.ins (He.ga K "Book") dx (putF "_tables" v1 []))) := Off.upd rfl
    have hx3 := upd_same (H := H2) (a := x) (o := .ins (He.ga K "Book") dx (putF "_tables" v1 []))
    have w1 := ow_ins (p := x) (o := .ins (He.ga K "Book") dx (putF "_tables" v1 [])) (NoSq.ins hx2) o1
    have d1 := w1.dp (K := K)
    have w3 := dp_in kx (NoSq.ins hx2) (dp_off k2 (dp_off k1 hw))
    have k3 : Off (fun a => a = x) H (upd H2 x (.ins (He.ga K "Book") dx (putF "_tables" v1 []))) := (Off.in (k1.trans k2)).trans kx
    have gn : ∀ a, upd H2 x (.ins (He.ga K "Book") dx (putF "_tables" v1 [])) a = none → H1 a = none := fun a z => k2.none (by rw [← z, upd_ne (fun y => by rw [y, upd_same] at z; cases z)]) no
    generalize upd H2 x (.ins (He.ga K "Book") dx (putF "_tables" v1 [])) = G at hx3 d1 w1 gn w3 k3 ⊢
    have ba : BookAt K G x ts := ⟨dx, _, v1, hx3, lookup_one _ _, d1⟩
    obtain ⟨aw, xw, rfl, qw, rw'⟩ : ∃ a xs, w = .ref a ∧ SqL K G a xs ∧ DpAll K G xs (rs.map rbD) := by
      cases w3 with
      | lst h r => exact ⟨_, _, rfl, h, r⟩
    have lw : xw.length = rs.length := by rw [dpAll_length rw', List.length_map]
    refine ⟨_, rfl, aw, rfl, ⟨_, qw⟩, for_list (K := K) (a := aw) (xs := xw) (fun i σ H' => ∃ w3, σ = [some (.ref x), some v, some (.ref aw), w3] ∧ Off (fun _ => False) G H' ∧ wrongs ts rs = wrongs ts (rs.drop i))
      ⟨none, rfl, Off.refl _ _, rfl⟩ (fun i σ H' _ g => ?_) (fun i y σ H' hy g => ?_) fun σ H' g => ?_⟩
    · obtain ⟨_, _, k, _⟩ := g
      exact sqL_off k qw
    · obtain ⟨w3, rfl, k, eq⟩ := g
      obtain ⟨dr, edr, hdr⟩ := dpAll_at rw' hy
      rw [List.getElem?_map] at edr
      obtain ⟨r, er, rfl⟩ := Option.map_eq_some_iff.mp edr
      rw [drop_cons er, wrongs] at eq
      refine ⟨_, rfl, _, rfl, x, y, ts, r, N, M, rfl, ba.off k, dp_off k hdr, bb.rb r (List.mem_of_getElem? er), bb.hM, ?_⟩
      cases e2 : wrong1 ts r with
      | some z =>
        rw [e2] at eq
        rw [eq] at q
        exact (bookX_raised q k3 nx (by rw [hx3]; simp)).off k
      | none =>
        rw [e2] at eq
        intro H5 k5
        exact ⟨_, rfl, k.trans k5, eq⟩
    · obtain ⟨w3, rfl, k, eq⟩ := g
      rw [lw, List.drop_length] at eq
      rw [eq] at q
      refine ⟨_, rfl, .ref aw, rbsD rs, N, [L, 5, M], rfl, .lst (sqL_off k qw) (dpAll_off k rw'), fit_rbs bb.lr bb.rb, ?_, (by show 3 < 6; decide), fun v2 F2 H6 o2 fr2 k6 => ?_⟩
      · have h1 := bb.hL
        have h2 := bb.hM
        simp
        omega
      have kk := k.trans k6
      have hx6 := kk _ _ hx3 no
      refine ⟨_, rfl, x, _, dx, _, rfl, hx6, B.cl, B.n2, (by show 1 < 1000; decide), ?_⟩
      have kz : Off (fun a => a = x) H6 (upd H6 x (.ins (He.ga K "Book") dx (putF "_rules" v2 (putF "_tables" v1 [])))) := Off.upd rfl
      have u1 := ow_ins (p := x) (o := .ins (He.ga K "Book") dx (putF "_rules" v2 (putF "_tables" v1 []))) (NoSq.ins hx6) (w1.keep kk (fun _ z => z.elim) fun _ _ z => z)
      have u2 := ow_ins (p := x) (o := .ins (He.ga K "Book") dx (putF "_rules" v2 (putF "_tables" v1 []))) (NoSq.ins hx6) o2
      refine q _ (fun a => F1 a ∨ F2 a) ⟨dx, v1, v2, F1, F2, ?_, u1, u2, fun _ => .inl, fun _ => .inr⟩ (fun a z => ?_) ((k3.trans (Off.in kk)).trans kz)
      · rw [upd_same, put_two]
      · rcases z with z | z
        · exact k1.none (fr1 a z) no
        · exact k1.none (gn a (k.none (fr2 a z) no)) no
end
end LW
set_option Elab.async false
set_option linter.all false
set_option maxRecDepth 100000
set_option maxHeartbeats 0
/-! book.tables, book.rules; _law_caught_of -/
namespace LW
open PySem PySem.Spec PyProof.Rows L2 KV
def spGetT (K : PySem.W.Frag) : Sp := fun vs H Q _ => ∃ (b : Addr) (ts : List Tab) (rs : List RB) (n mc mt N M L : Nat), vs = [.ref b] ∧ BookOf K H b ts rs ∧ BkB n mc mt N M L ts rs ∧
  ∀ v' F' H', Ow H' v' (tabsD ts) F' → (∀ a, F' a → H a = none) → Off (fun _ => False) H H' → Q v' H'
def spGetR (K : PySem.W.Frag) : Sp := fun vs H Q _ => ∃ (b : Addr) (ts : List Tab) (rs : List RB) (n mc mt N M L : Nat), vs = [.ref b] ∧ BookOf K H b ts rs ∧ BkB n mc mt N M L ts rs ∧
  ∀ v' F' H', Ow H' v' (rbsD rs) F' → (∀ a, F' a → H a = none) → Off (fun _ => False) H H' → Q v' H'
/-- how the catch of a book's making ends -/
def caughtX (K : PySem.W.Frag) (H : Hp) (ts : List Tab) (rs : List RB) (Q : VK) : Option (Str × PyData) → Prop
  | none => ∀ b t H', BookOf K H' b ts rs → SqT K H' t [.ref b, .non] → Off (fun _ => False) H H' → Q (.ref t) H'
  | some (y, e) => ∀ a dx t u Fo H', Cau H' a (He.ga K y) dx [("value", u)] → Ow H' u e Fo → (∀ b, Fo b → H b = none) → SqT K H' t [.non, .ref a] → Off (fun _ => False) H H' → Q (.ref t) H'
def spCaught (K : PySem.W.Frag) : Sp := fun vs H Q _ => ∃ (v w : V) (way : Int) (ts : List Tab) (rs : List RB) (n mc mt N M L : Nat), vs = [v, w, .int way] ∧ Dp K H v (tabsD ts) ∧ Dp K H w (rbsD rs) ∧ BkB n mc mt N M L ts rs ∧
  caughtX K H ts rs Q (wrongBook ts rs)
theorem wrongName_mem {b : List Str} {x y : Str} {e : PyData} (h : wrongName b x = some (y, e)) : y ∈ names.tail := by
  unfold wrongName at h
  split at h
  · cases h
    decide
  · split at h
    · cases h
      decide
    · cases h
theorem wrongCols_mem {y : Str} {e : PyData} : ∀ {cs b : List Str}, wrongCols b cs = some (y, e) → y ∈ names.tail
  | [], b, h => by
    rw [wrongCols] at h
    cases h
  | c :: cs, b, h => by
    rw [wrongCols_cons] at h
    cases q : wrongName b c with
    | none =>
      rw [q] at h
      exact wrongCols_mem h
    | some z =>
      rw [q] at h
      cases h
      exact wrongName_mem q
theorem wrongTabs_mem {y : Str} {e : PyData} : ∀ {ts : List Tab} {b : List Str}, wrongTabs b ts = some (y, e) → y ∈ names.tail
  | [], b, h => by
    rw [wrongTabs] at h
    cases h
  | t :: ts, b, h => by
    rw [wrongTabs_cons] at h
    cases q : wrongName b t.1 with
    | some z =>
      rw [q] at h
      cases h
      exact wrongName_mem q
    | none =>
      rw [q] at h
      dsimp only at h
      cases q2 : wrongCols [] t.2 with
      | some z =>
        rw [q2] at h
        cases h
        exact wrongCols_mem q2
      | none =>
        rw [q2] at h
        exact wrongTabs_mem h
theorem wrong1_mem {ts : List Tab} {r : RB} {y : Str} {e : PyData} (h : wrong1 ts r = some (y, e)) : y ∈ names.tail := by
  cases hf : formed r with
  | false =>
    rw [wrong1_formed hf] at h
    cases h
    decide
  | true =>
    obtain ⟨k, x, cs, tl, rfl, fm⟩ := formed_ok hf
    rw [wrong1_yes fm] at h
    cases q : tabOf ts x with
    | none =>
      rw [q] at h
      cases h
      decide
    | some t =>
      rw [q] at h
      dsimp only at h
      cases q2 : (cs ++ tl).find? fun c => !decide (c ∈ t.2) with
      | none =>
        rw [q2] at h
        cases h
      | some c =>
        rw [q2] at h
        cases h
        decide
theorem wrongs_mem {ts : List Tab} {y : Str} {e : PyData} : ∀ {rs : List RB}, wrongs ts rs = some (y, e) → y ∈ names.tail
  | [], h => by
    rw [wrongs] at h
    cases h
  | r :: rs, h => by
    rw [wrongs] at h
    cases q : wrong1 ts r with
    | some z =>
      rw [q] at h
      cases h
      exact wrong1_mem q
    | none =>
      rw [q] at h
      exact wrongs_mem h
theorem wrongBook_mem {ts : List Tab} {rs : List RB} {y : Str} {e : PyData} (h : wrongBook ts rs = some (y, e)) : y ∈ names.tail := by
  unfold wrongBook at h
  cases q : wrongTabs [] ts with
  | some z =>
    rw [q] at h
    cases h
    exact wrongTabs_mem q
  | none =>
    rw [q] at h
    exact wrongs_mem h
section
variable {P : Program} {w : World} {K : PySem.W.Frag} {mg : Str → Option Value} {base : Heap}
theorem scGetT : FnScope ["self"] ["self"] (defScope pBook_tables) := ⟨rfl, rfl, rfl, by decide +kernel, rfl, by decide +kernel, by decide +kernel⟩
theorem ok_getT {f fC : Addr} {fd dC : FuncData} (F : FunD K "tables" "Book.tables" (defArgs pBook_tables) (defBody pBook_tables) (defScope pBook_tables) [] [] f fd) (B : BookT K mg)
    (GC : FnOk P w K mg base CX0 6 fC dC ["thing"] (spCopied K 6)) (bC : Binds K dC ["thing"] []) (mC : mg "copied" = some (.ref fC)) (kC : PySem.W.keepIn K (.ref fC) = true) :
    FnOk P w K mg base CX0 7 f fd ["self"] (spGetT K) := by
  refine F.ok scGetT (fun vs H Q E h => ?_) (fun cdv A outer s H vs Q E hr h => ?_)
  · obtain ⟨b, ts, rs, n, mc, mt, N, M, L, rfl, _⟩ := h
    rfl
  obtain ⟨b, ts, rs, n, mc, mt, N, M, L, rfl, hb, bb, q⟩ := h
  refine ⟨_, pss_one (ps_ret (pe_call GC hr rfl mC kC bC .nil pass0 (pa_cons (pe_fld (pv 0) rfl) pa_nil))), ?_⟩
  obtain ⟨dx, v1, v2, h1, h2, h3⟩ := hb
  refine ⟨_, rfl, b, _, dx, _, v1, rfl, h1, B.cl, B.n1, by simp [List.lookup], v1, tabsD ts, n, [mt, 2, mc], rfl, h2, fit_tabsW bb.tb, ?_, (by show 3 < 6; decide), q⟩
  have h1 := bb.hmt
  have h2 := bb.hmc
  simp
  omega
theorem scGetR : FnScope ["self"] ["self"] (defScope pBook_rules) := ⟨rfl, rfl, rfl, by decide +kernel, rfl, by decide +kernel, by decide +kernel⟩
theorem ok_getR {f fC : Addr} {fd dC : FuncData} (F : FunD K "rules" "Book.rules" (defArgs pBook_rules) (defBody pBook_rules) (defScope pBook_rules) [] [] f fd) (B : BookT K mg)
    (GC : FnOk P w K mg base CX0 6 fC dC ["thing"] (spCopied K 6)) (bC : Binds K dC ["thing"] []) (mC : mg "copied" = some (.ref fC)) (kC : PySem.W.keepIn K (.ref fC) = true) :
    FnOk P w K mg base CX0 7 f fd ["self"] (spGetR K) := by
  refine F.ok scGetR (fun vs H Q E h => ?_) (fun cdv A outer s H vs Q E hr h => ?_)
  · obtain ⟨b, ts, rs, n, mc, mt, N, M, L, rfl, _⟩ := h
    rfl
  obtain ⟨b, ts, rs, n, mc, mt, N, M, L, rfl, hb, bb, q⟩ := h
  refine ⟨_, pss_one (ps_ret (pe_call GC hr rfl mC kC bC .nil pass0 (pa_cons (pe_fld (pv 0) rfl) pa_nil))), ?_⟩
  obtain ⟨dx, v1, v2, h1, h2, h3⟩ := hb
  have ne : (("_rules" : Str) == ("_tables" : Str)) = false := by decide +kernel
  refine ⟨_, rfl, b, _, dx, _, v2, rfl, h1, B.cl, B.n2, by simp [List.lookup, ne], v2, rbsD rs, N, [L, 5, M], rfl, h3, fit_rbs bb.lr bb.rb, ?_, (by show 3 < 6; decide), q⟩
  have h1 := bb.hL
  have h2 := bb.hM
  simp
  omega
end
end LW
set_option Elab.async false
set_option linter.all false
set_option maxRecDepth 100000
set_option maxHeartbeats 0
/-! sizes for _law_right -/
namespace LW
open PySem PySem.Spec PyProof.Rows L2 KV
/-- a drawn rule, as any rule -/
def rbOf : Rul → RB
  | (t, cs, none) => (["key", t], some (cs, []))
  | (t, cs, some c) => (["settles", t], some (cs, [c]))
theorem rbD_of (r : Rul) : rulD r = rbD (rbOf r) := by
  obtain ⟨t, cs, o⟩ := r
  cases o <;> rfl
theorem rbsD_of (rs : List Rul) : rulsD rs = rbsD (rs.map rbOf) := by
  unfold rulsD rbsD
  congr 1
  rw [List.map_map]
  exact List.map_congr_left fun r _ => rbD_of r
theorem rbOk_of {mt mc N M : Nat} {ts : List Tab} {r : Rul} (h : RulOk ts r) (tk : TabsOk mt mc ts) (hN : 8 ≤ N) (hM : mc ≤ M) : RbOk N M (rbOf r) := by
  obtain ⟨t, ht, e1, e2, e3⟩ := h
  have tb := tk.each t ht
  obtain ⟨x, cs, o⟩ := r
  have e1 : x = t.1 := e1
  have e2 : cs.Sublist t.2 := e2
  subst e1
  have gn : Gd N t.1 := tb.name.gd.mono hN
  have gk : Gd N "key" := (gdB_ok (n := 8) (by decide +kernel)).mono hN
  have gs : Gd N "settles" := (gdB_ok (n := 8) (by decide +kernel)).mono hN
  have lc : cs.length ≤ M := Nat.le_trans e2.length_le (Nat.le_trans tb.most hM)
  have gc : ∀ y ∈ cs, Gd N y := fun y hy => (tb.good y (e2.subset hy)).gd.mono hN
  cases o with
  | none =>
    refine ⟨by show 2 ≤ 2; decide, fun y hy => ?_, fun _ => rfl, fun cs' tl e => ?_⟩
    · have hy : y ∈ ([("key" : Str), t.1] : List Str) := hy
      rcases List.mem_cons.mp hy with rfl | hy
      · exact gk
      · rw [List.mem_singleton.mp hy]
        exact gn
    · have e : some (cs, ([] : List Str)) = some (cs', tl) := e
      cases e
      exact ⟨lc, gc, by decide, fun y hy => absurd hy (by simp)⟩
  | some c =>
    refine ⟨by show 2 ≤ 2; decide, fun y hy => ?_, fun _ => rfl, fun cs' tl e => ?_⟩
    · have hy : y ∈ ([("settles" : Str), t.1] : List Str) := hy
      rcases List.mem_cons.mp hy with rfl | hy
      · exact gs
      · rw [List.mem_singleton.mp hy]
        exact gn
    · have e : some (cs, [c]) = some (cs', tl) := e
      cases e
      refine ⟨lc, gc, by show 1 ≤ 2; decide, fun y hy => ?_⟩
      rw [List.mem_singleton.mp hy]
      exact (tb.good c (e3 c rfl)).gd.mono hN
inductive Les : List Nat → List Nat → Prop
  | nil : Les [] []
  | cons {m m' : Nat} {ms ms' : List Nat} (h : m ≤ m') (r : Les ms ms') : Les (m :: ms) (m' :: ms')
theorem fit_wide {b : Nat} : ∀ {ms ms' : List Nat} {d : PyData}, Les ms ms' → Fit b ms d → Fit b ms' d
  | ms, ms', .none, _, _ => by cases ms' <;> trivial
  | ms, ms', .bool _, _, _ => by cases ms' <;> trivial
  | ms, ms', .int i, _, h => by cases ms <;> cases ms' <;> exact h
  | ms, ms', .str x, _, h => by cases ms <;> cases ms' <;> exact h
  | [], _, .list _, _, h => h.elim
  | [], _, .tuple _, _, h => h.elim
  | [], _, .dict _, _, h => h.elim
  | _ :: _, _, .dict _, _, h => h.elim
  | m :: ms, m' :: ms', .list ds, .cons h1 h2, ⟨h3, h4⟩ => ⟨Nat.le_trans h3 h1, fun d hd => fit_wide h2 (h4 d hd)⟩
  | m :: ms, m' :: ms', .tuple ds, .cons h1 h2, ⟨h3, h4⟩ => ⟨Nat.le_trans h3 h1, fun d hd => fit_wide h2 (h4 d hd)⟩
/-- what an error holds -/
def ErrFit (e : PyData) : Prop := Fit 100 [5, 8] e ∧ noInt e = true
theorem errFit_str {n : Nat} {x : Str} (h : Gd n x) (hn : n ≤ 100) : ErrFit (.str x) := ⟨fit_str (h.mono hn), by simp [noInt]⟩
theorem wrongName_fit {n : Nat} {b : List Str} {x y : Str} {e : PyData} (h : wrongName b x = some (y, e)) (g : Gd n x) (hn : n ≤ 100) : ErrFit e := by
  unfold wrongName at h
  split at h
  · cases h
    exact errFit_str g hn
  · split at h
    · cases h
      exact errFit_str g hn
    · cases h
theorem wrongCols_fit {n : Nat} (hn : n ≤ 100) {y : Str} {e : PyData} : ∀ {cs b : List Str}, wrongCols b cs = some (y, e) → (∀ x ∈ cs, Gd n x) → ErrFit e
  | [], b, h, _ => by
    rw [wrongCols] at h
    cases h
  | c :: cs, b, h, g => by
    rw [wrongCols_cons] at h
    cases q : wrongName b c with
    | none =>
      rw [q] at h
      exact wrongCols_fit hn h fun x hx => g x (List.mem_cons_of_mem _ hx)
    | some z =>
      rw [q] at h
      cases h
      exact wrongName_fit q (g c List.mem_cons_self) hn
theorem wrongTabs_fit {n mc : Nat} (hn : n ≤ 100) {y : Str} {e : PyData} : ∀ {ts : List Tab} {b : List Str}, wrongTabs b ts = some (y, e) → (∀ t ∈ ts, TabB n mc t) → ErrFit e
  | [], b, h, _ => by
    rw [wrongTabs] at h
    cases h
  | t :: ts, b, h, g => by
    have bt := g t List.mem_cons_self
    rw [wrongTabs_cons] at h
    cases q : wrongName b t.1 with
    | some z =>
      rw [q] at h
      cases h
      exact wrongName_fit q bt.name hn
    | none =>
      rw [q] at h
      dsimp only at h
      cases q2 : wrongCols [] t.2 with
      | some z =>
        rw [q2] at h
        cases h
        exact wrongCols_fit hn q2 bt.good
      | none =>
        rw [q2] at h
        exact wrongTabs_fit hn h fun x hx => g x (List.mem_cons_of_mem _ hx)
theorem rb_fit {N M : Nat} {r : RB} (ok : RbOk N M r) (hN : N ≤ 100) (hM : M ≤ 8) : ErrFit (rbD r) := by
  refine ⟨fit_wide (.cons (Nat.le_refl _) (.cons hM .nil)) ((fit_rb ok).mono hN), ?_⟩
  unfold rbD
  simp only [noInt]
  exact noInt_rb r
theorem wrong1_fit {N M : Nat} {ts : List Tab} {r : RB} {y : Str} {e : PyData} (h : wrong1 ts r = some (y, e)) (ok : RbOk N M r) (hN : N ≤ 100) (hM : M ≤ 8) : ErrFit e := by
  cases hf : formed r with
  | false =>
    rw [wrong1_formed hf] at h
    cases h
    exact rb_fit ok hN hM
  | true =>
    obtain ⟨k, x, cs, tl, rfl, fm⟩ := formed_ok hf
    obtain ⟨lc, gc, lt, gt⟩ := ok.cs cs tl rfl
    rw [wrong1_yes fm] at h
    cases q : tabOf ts x with
    | none =>
      rw [q] at h
      cases h
      exact errFit_str (ok.hg x (by simp)) hN
    | some t =>
      rw [q] at h
      dsimp only at h
      cases q2 : (cs ++ tl).find? fun c => !decide (c ∈ t.2) with
      | none =>
        rw [q2] at h
        cases h
      | some c =>
        rw [q2] at h
        cases h
        rcases List.mem_append.mp (List.mem_of_find?_eq_some q2) with z | z
        · exact errFit_str (gc c z) hN
        · exact errFit_str (gt c z) hN
theorem wrongs_fit {N M : Nat} (hN : N ≤ 100) (hM : M ≤ 8) {ts : List Tab} {y : Str} {e : PyData} : ∀ {rs : List RB}, wrongs ts rs = some (y, e) → (∀ r ∈ rs, RbOk N M r) → ErrFit e
  | [], h, _ => by
    rw [wrongs] at h
    cases h
  | r :: rs, h, g => by
    rw [wrongs] at h
    cases q : wrong1 ts r with
    | some z =>
      rw [q] at h
      cases h
      exact wrong1_fit q (g r List.mem_cons_self) hN hM
    | none =>
      rw [q] at h
      exact wrongs_fit hN hM h fun x hx => g x (List.mem_cons_of_mem _ hx)
theorem wrongBook_fit {n mc mt N M L : Nat} {ts : List Tab} {rs : List RB} (bb : BkB n mc mt N M L ts rs) (hn : n ≤ 100) (hN : N ≤ 100) (hM : M ≤ 8) {y : Str} {e : PyData} (h : wrongBook ts rs = some (y, e)) : ErrFit e := by
  unfold wrongBook at h
  cases q : wrongTabs [] ts with
  | some z =>
    rw [q] at h
    cases h
    exact wrongTabs_fit hn q bb.tb.each
  | none =>
    rw [q] at h
    exact wrongs_fit hN hM h bb.rb
theorem sz_err {e : PyData} (h : ErrFit e) : Sz 100 [5, 8] e := ⟨h.1, by decide, by decide, by decide, by decide⟩
theorem sz_tabs {n mc mt : Nat} {ts : List Tab} (h : TabsW n mc mt ts) (hn : n ≤ 100) (hc : mc ≤ 8) (ht : mt ≤ 6) : Sz 100 [6, 2, 8] (tabsD ts) :=
  ⟨fit_wide (.cons ht (.cons (Nat.le_refl _) (.cons hc .nil))) ((fit_tabsW h).mono hn), by decide, by decide, by decide, by decide⟩
theorem sz_rbs {N M L : Nat} {rs : List RB} (l : rs.length ≤ L) (h : ∀ r ∈ rs, RbOk N M r) (hN : N ≤ 100) (hM : M ≤ 8) (hL : L ≤ 19) : Sz 100 [19, 5, 8] (rbsD rs) :=
  ⟨fit_wide (.cons hL (.cons (Nat.le_refl _) (.cons hM .nil))) ((fit_rbs l h).mono hN), by decide, by decide, by decide, by decide⟩
theorem sz_both {ts : List Tab} {rs : List RB} (h1 : Sz 100 [6, 2, 8] (tabsD ts)) (h2 : Sz 100 [19, 5, 8] (rbsD rs)) : Sz 100 [2, 19, 5, 8] (.tuple [tabsD ts, rbsD rs]) := by
  refine ⟨⟨by show 2 ≤ 2; decide, fun d hd => ?_⟩, by decide, by decide, by decide, by decide⟩
  rcases List.mem_cons.mp hd with rfl | hd
  · exact fit_wide (.cons (by decide) (.cons (by decide) (.cons (by decide) .nil))) h1.fit
  · rw [List.mem_singleton.mp hd]
    exact h2.fit
end LW
set_option Elab.async false
set_option linter.all false
set_option maxRecDepth 100000
set_option maxHeartbeats 0
/-! books.py: len, with_rules, without -/
namespace LW
open PySem PySem.Spec PyProof.Rows L2 KV
/-- how the making of a book ends -/
def bookR (K : PySem.W.Frag) (H : Hp) (Q : VK) (E : XK) (ts : List Tab) (rs : List RB) : Option (Str × PyData) → Prop
  | none => ∀ x H' F, BookOw K H' x ts rs F → (∀ a, F a → H a = none) → H x = none → Off (fun _ => False) H H' → Q (.ref x) H'
  | some (y, e) => Raised K H E y e
theorem bookR.off {K : PySem.W.Frag} {H H1 : Hp} {Q : VK} {E : XK} {ts : List Tab} {rs : List RB} {o : Option (Str × PyData)} (h : bookR K H Q E ts rs o) (k : Off (fun _ => False) H H1) : bookR K H1 Q E ts rs o := by
  cases o with
  | none => exact fun x H' F h1 h2 h3 k' => h x H' F h1 (fun a z => k.none (h2 a z) id) (k.none h3 id) (k.trans k')
  | some z => exact Raised.off h k
/-- Book(v, w) -/
theorem made_of {K : PySem.W.Frag} {H : Hp} {v w : V} {Q : VK} {E : XK} {ts : List Tab} {rs : List RB} {n mc mt N M L : Nat} (dv : Dp K H v (tabsD ts)) (dw : Dp K H w (rbsD rs)) (bb : BkB n mc mt N M L ts rs) (q : bookR K H Q E ts rs (wrongBook ts rs)) :
    ∀ x dx, H x = none → H dx = none → dx ≠ x → spBook K [.ref x, v, w] (upd (upd H dx (.own x)) x (.ins (He.ga K "Book") dx [])) (fun v H2 => v = .non ∧ Q (.ref x) H2) E := by
  intro x dx nx ndx nex
  have no : ¬ False := id
  have kM : Off (fun _ => False) H (upd (upd H dx (.own x)) x (.ins (He.ga K "Book") dx [])) := (Off.new ndx).trans (Off.new (by rw [upd_ne (Ne.symm nex)]; exact nx))
  have nM : ∀ a, upd (upd H dx (.own x)) x (.ins (He.ga K "Book") dx []) a = none → H a = none := fun a z => kM.none z no
  refine ⟨x, dx, v, w, ts, rs, n, mc, mt, N, M, L, rfl, upd_same, dp_off kM dv, dp_off kM dw, bb, ?_⟩
  generalize upd (upd H dx (.own x)) x (.ins (He.ga K "Book") dx []) = HM at kM nM ⊢
  have conv : ∀ H', Off (fun a => a = x) HM H' → Off (fun _ => False) H H' := fun H' k b o eb nb => k _ _ (kM b o eb nb) fun z => by
    rw [z, nx] at eb
    cases eb
  cases e1 : wrongBook ts rs with
  | none =>
    rw [e1] at q
    exact fun H' F bo fr k => ⟨rfl, q x H' F bo (fun a z => nM a (fr a z)) nx (conv H' k)⟩
  | some z =>
    obtain ⟨y, e⟩ := z
    rw [e1] at q
    exact fun u Fo d H' k nd ed ow fr => q u Fo d H' (conv H' k) (nM d nd) ed ow fun a z => nM a (fr a z)
def spLen (K : PySem.W.Frag) : Sp := fun vs H Q _ => ∃ (b : Addr) (ts : List Tab) (rs : List RB), vs = [.ref b] ∧ BookOf K H b ts rs ∧ ∀ H', Off (fun _ => False) H H' → Q (.int (ts.length : Nat)) H'
def spWith (K : PySem.W.Frag) : Sp := fun vs H Q E => ∃ (b : Addr) (w : V) (ts : List Tab) (rs more : List RB) (n mc mt N M L : Nat), vs = [.ref b, w] ∧ BookOf K H b ts rs ∧ Dp K H w (rbsD more) ∧ BkB n mc mt N M L ts (rs ++ more) ∧ bookR K H Q E ts (rs ++ more) (wrongBook ts (rs ++ more))
def spWithout (K : PySem.W.Frag) : Sp := fun vs H Q E => ∃ (b : Addr) (i : Int) (ts : List Tab) (rs : List RB) (n mc mt N M L : Nat), vs = [.ref b, .int i] ∧ BookOf K H b ts rs ∧ BkB n mc mt N M L ts rs ∧
  (if 0 ≤ i ∧ i < (rs.length : Int) then bookR K H Q E ts (rs.take i.toNat ++ rs.drop (i.toNat + 1)) (wrongBook ts (rs.take i.toNat ++ rs.drop (i.toNat + 1))) else Raised K H E "InvalidRule" (.int i))
theorem dp_rbs {K : PySem.W.Frag} {H : Hp} {v : V} {rs : List RB} (h : Dp K H v (rbsD rs)) : ∃ a xs, v = .ref a ∧ SqL K H a xs ∧ DpAll K H xs (rs.map rbD) := by
  cases h with
  | lst h r => exact ⟨_, _, rfl, h, r⟩
theorem look_rules (v1 v2 : V) : List.lookup ("_rules" : Str) [(("_tables" : Str), v1), (("_rules" : Str), v2)] = some v2 := by
  have ne : (("_rules" : Str) == ("_tables" : Str)) = false := by decide +kernel
  simp [List.lookup, ne]
theorem look_tables (v1 v2 : V) : List.lookup ("_tables" : Str) [(("_tables" : Str), v1), (("_rules" : Str), v2)] = some v1 := by
  simp [List.lookup]
section
variable {P : Program} {w : World} {K : PySem.W.Frag} {mg : Str → Option Value} {base : Heap}
theorem scLen : FnScope ["self"] ["self"] (defScope pBook_len) := ⟨rfl, rfl, rfl, by decide +kernel, rfl, by decide +kernel, by decide +kernel⟩
theorem ok_len {f : Addr} {fd : FuncData} (F : FunD K "__len__" "Book.__len__" (defArgs pBook_len) (defBody pBook_len) (defScope pBook_len) [] [] f fd) (B : BookT K mg) (ml : mg "len" = none) :
    FnOk P w K mg base CX0 1 f fd ["self"] (spLen K) := by
  refine F.ok scLen (fun vs H Q E h => ?_) (fun cdv A outer s H vs Q E hr h => ?_)
  · obtain ⟨b, ts, rs, rfl, _⟩ := h
    rfl
  obtain ⟨b, ts, rs, rfl, hb, q⟩ := h
  refine ⟨_, pss_one (ps_ret (pe_callB call_len_seq rfl ml boot_len (pa_cons (pe_fld (pv 0) rfl) pa_nil))), ?_⟩
  obtain ⟨dx, v1, v2, h1, h2, h3⟩ := hb
  obtain ⟨aw, xw, rfl, qw, rw'⟩ := dp_tabs h2
  have lw : xw.length = ts.length := by rw [dpAll_length rw', List.length_map]
  refine ⟨_, rfl, b, _, dx, _, _, rfl, h1, B.cl, B.n1, by simp [List.lookup], aw, xw, rfl, .inl qw, ?_⟩
  rw [lw]
  exact q H (Off.refl _ _)
end
end LW
set_option Elab.async false
set_option linter.all false
set_option maxRecDepth 100000
set_option maxHeartbeats 0
/-! sizes of joined texts -/
namespace LW
open PySem PySem.Spec PyProof.Rows L2 KV
theorem sum_joinS (sep : Str) : ∀ ys : List Str, (ys.map (·.length)).sum + ys.length * sep.length ≤ (Str.join sep ys).length + sep.length
  | [] => by simp
  | [x] => by
    show _ ≤ x.length + _
    simp only [List.map_cons, List.map_nil, List.sum_cons, List.sum_nil, List.length_cons, List.length_nil]
    omega
  | x :: y :: r => by
    have h := sum_joinS sep (y :: r)
    show _ ≤ (x ++ sep ++ Str.join sep (y :: r)).length + _
    rw [Str.length_append, Str.length_append]
    simp only [List.map_cons, List.sum_cons, List.length_cons, Nat.succ_mul] at h ⊢
    omega
theorem sum_join (sep : Str) (ys : List Str) : (ys.map (·.length)).sum + ys.length * sep.length ≤ (Txt.join sep ys).length + sep.length := by
  rw [show Txt.join sep ys = Str.join sep ys from StrLaws.glued_eq_join sep ys]
  exact sum_joinS sep ys
theorem mem_sum {ys : List Str} {y : Str} (h : y ∈ ys) : y.length ≤ (ys.map (·.length)).sum := by
  induction ys with
  | nil => simp at h
  | cons z zs ih =>
    rw [List.map_cons, List.sum_cons]
    rcases List.mem_cons.mp h with rfl | h
    · omega
    · have := ih h
      omega
/-- a part of a joined text, and their number -/
theorem join_part {sep : Str} {ys : List Str} {y : Str} (h : y ∈ ys) : y.length ≤ (Txt.join sep ys).length := by
  have h1 := sum_join sep ys
  have h2 := mem_sum h
  have h3 : 1 ≤ ys.length := List.length_pos_of_mem h
  have h4 : sep.length ≤ ys.length * sep.length := Nat.le_mul_of_pos_left _ h3
  omega
theorem join_many {sep : Str} {ys : List Str} (hs : 1 ≤ sep.length) : ys.length ≤ (Txt.join sep ys).length + 1 := by
  rcases Nat.eq_zero_or_pos ys.length with z | z
  · omega
  have h1 := sum_join sep ys
  obtain ⟨m, hm⟩ : ∃ m, ys.length = m + 1 := ⟨ys.length - 1, by omega⟩
  rw [hm, Nat.succ_mul] at h1
  have h4 : m ≤ m * sep.length := Nat.le_mul_of_pos_right _ hs
  omega
end LW
set_option Elab.async false
set_option linter.all false
set_option maxRecDepth 100000
set_option maxHeartbeats 0
/-! texts.py: show_book -/
namespace LW
open PySem PySem.Spec PyProof.Rows L2 KV
def ruleW : RB → List Str
  | ([k, x], some (cs, tl)) => if k = "settles" then (k :: x :: cs) ++ ((">" : Str) :: tl) else k :: x :: cs
  | _ => []
theorem ruleW_eq (k x : Str) (cs tl : List Str) : ruleW ([k, x], some (cs, tl)) = if k = "settles" then (k :: x :: cs) ++ ((">" : Str) :: tl) else k :: x :: cs := rfl
def tabW (t : Tab) : List Str := "table" :: t.1 :: t.2
def tabT (t : Tab) : Str := Txt.join " " (tabW t)
def ruleT (r : RB) : Str := Txt.join " " (ruleW r)
def bookT (ts : List Tab) (rs : List RB) : Str := Txt.join "; " (ts.map tabT ++ rs.map ruleT)
theorem sum_le {ys : List Str} {n : Nat} (h : ∀ y ∈ ys, y.length ≤ n) : (ys.map (·.length)).sum ≤ ys.length * n := by
  induction ys with
  | nil => simp
  | cons y ys ih =>
    have h1 := h y List.mem_cons_self
    have h2 := ih fun z hz => h z (List.mem_cons_of_mem _ hz)
    rw [List.map_cons, List.sum_cons, List.length_cons, Nat.add_mul]
    omega
theorem join_le {ys : List Str} {n : Nat} (sep : Str) (h : ∀ y ∈ ys, y.length ≤ n) : (Txt.join sep ys).length ≤ ys.length * (n + sep.length) := by
  rw [show Txt.join sep ys = Str.join sep ys from StrLaws.glued_eq_join sep ys]
  have h1 := StrLaws.join_length_le sep ys
  have h2 := sum_le h
  rw [Nat.mul_add]
  omega
theorem sp1 : (" " : Str).length = 1 := by decide +kernel
theorem sp2 : ("; " : Str).length = 2 := by decide +kernel
theorem tabW_le {n mc : Nat} {t : Tab} (h : TabB n mc t) (h8 : 8 ≤ n) : ∀ y ∈ tabW t, y.length ≤ n := by
  intro y hy
  unfold tabW at hy
  rcases List.mem_cons.mp hy with rfl | hy
  · have : ("table" : Str).length = 5 := by decide +kernel
    omega
  · rcases List.mem_cons.mp hy with rfl | hy
    · exact h.name.2
    · exact (h.good y hy).2
theorem ruleW_le {n M : Nat} {r : RB} (h : RbOk n M r) (f : formed r = true) (h8 : 8 ≤ n) : (∀ y ∈ ruleW r, y.length ≤ n) ∧ (ruleW r).length ≤ M + 5 := by
  obtain ⟨k, x, cs, tl, rfl, _⟩ := formed_ok f
  obtain ⟨a, b, c, d⟩ := h.cs cs tl rfl
  have gk := (h.hg k (by simp)).2
  have gx := (h.hg x (by simp)).2
  have g1 : (">" : Str).length = 1 := by decide +kernel
  rw [ruleW_eq]
  split
  · refine ⟨fun y hy => ?_, ?_⟩
    · rcases List.mem_append.mp hy with hy | hy
      · rcases List.mem_cons.mp hy with rfl | hy
        · exact gk
        · rcases List.mem_cons.mp hy with rfl | hy
          · exact gx
          · exact (b y hy).2
      · rcases List.mem_cons.mp hy with rfl | hy
        · omega
        · exact (d y hy).2
    · simp
      omega
  · refine ⟨fun y hy => ?_, by simp; omega⟩
    rcases List.mem_cons.mp hy with rfl | hy
    · exact gk
    · rcases List.mem_cons.mp hy with rfl | hy
      · exact gx
      · exact (b y hy).2
def spRuleT (K : PySem.W.Frag) : Sp := fun vs H Q _ => ∃ (v : V) (r : RB) (n M : Nat), vs = [v] ∧ Dp K H v (rbD r) ∧ RbOk n M r ∧ formed r = true ∧ M ≤ 4001 ∧ (ruleT r).length ≤ 4000 ∧ ∀ H', Off (fun _ => False) H H' → Q (.str (ruleT r)) H'
def spShow (K : PySem.W.Frag) : Sp := fun vs H Q _ => ∃ (b : Addr) (ts : List Tab) (rs : List RB) (n mc mt N M L : Nat), vs = [.ref b] ∧ BookOf K H b ts rs ∧ BkB n mc mt N M L ts rs ∧ (bookT ts rs).length ≤ 4000 ∧ (∀ r ∈ rs, formed r = true) ∧ ∀ H', Off (fun _ => False) H H' → Q (.str (bookT ts rs)) H'
section
variable {P : Program} {w : World} {K : PySem.W.Frag} {mg : Str → Option Value} {base : Heap}
theorem scRuleT : FnScope ["rule", "words"] ["rule"] (defScope pRuleText) := ⟨rfl, rfl, rfl, by decide +kernel, rfl, by decide +kernel, by decide +kernel⟩
theorem ok_ruleT {f : Addr} {fd : FuncData} (F : FnP K "rule_text" pRuleText f fd) : FnOk P w K mg base CX0 1 f fd ["rule"] (spRuleT K) := by
  refine F.ok scRuleT (fun vs H Q E h => ?_) (fun cdv A outer s H vs Q E hr h => ?_)
  · obtain ⟨v, r, n, M, rfl, _⟩ := h
    rfl
  obtain ⟨v, r, n, M, rfl, hv, ok, fm, hM, hT, q⟩ := h
  refine ⟨_, pss_cons (ps_set (i := 1) scRuleT.nd rfl (Or.inl rfl) (pe_lst (pa_cons (pe_ix ix_tup (pv 0) pe_int (fun _ _ => rfl)) (pa_cons (pe_ix ix_tup (pv 0) pe_int (fun _ _ => rfl)) (StX.pa_star (pe_ix ix_tup (pv 0) pe_int (fun _ _ => rfl)) pa_nil)))))
    (pss_cons (ps_if (pt_cmpR op_eq (pe_ix ix_tup (pv 0) pe_int (fun _ _ => rfl)) pe_str (nomark _))
        (pss_one (ps_set (i := 1) scRuleT.nd rfl (Or.inl rfl) (pe_lst (StX.pa_star (pv 1) (pa_cons pe_str (pa_cons (pe_ix ix_tup (pv 0) pe_int (fun _ _ => rfl)) pa_nil)))))) pss_nil)
    (pss_one (ps_ret (pe_join pe_str (pv 1))))), ?_⟩
  have no : ¬ False := id
  obtain ⟨k, x, cs, tl, rfl, form⟩ := formed_ok fm
  obtain ⟨lc, gc, lt, gt⟩ := ok.cs cs tl rfl
  obtain ⟨ra, vs, rfl, sq, da⟩ : ∃ a vs, v = .ref a ∧ SqT K H a vs ∧ DpAll K H vs (rbL ([k, x], some (cs, tl))) := by
    cases hv with
    | tup h r => exact ⟨_, _, rfl, h, r⟩
  obtain ⟨ca, rfl, dc⟩ : ∃ ca, vs = .str k :: .str x :: .ref ca :: tl.map V.str ∧ Dp K H (.ref ca) (colsD cs) := by
    cases da with
    | cons h r =>
      cases h
      cases r with
      | cons h r =>
        cases h
        cases r with
        | cons h r =>
          obtain ⟨ca, rfl, _⟩ := dp_cols h
          exact ⟨ca, by rw [dpAll_strs r], h⟩
  have at0 : atI (V.str k :: V.str x :: V.ref ca :: tl.map V.str) 0 = some (V.str k) := atI_nat (j := 0) rfl
  have at1 : atI (V.str k :: V.str x :: V.ref ca :: tl.map V.str) 1 = some (V.str x) := atI_nat (j := 1) rfl
  have at2 : atI (V.str k :: V.str x :: V.ref ca :: tl.map V.str) 2 = some (V.ref ca) := atI_nat (j := 2) rfl
  have joined : ∀ {G : Hp} {l : Addr} {ys : List Str}, ys = ruleW ([k, x], some (cs, tl)) → SqL K G l (ys.map V.str) → KV.Off (fun _ => False) H G → ∃ a p, ∃ ys : List Str, V.str " " = .str a ∧ [V.ref l] = [.ref p] ∧ (SqL K G p (ys.map V.str) ∨ SqT K G p (ys.map V.str)) ∧
      (ys.map (·.length)).sum + ys.length * a.length ≤ 16777216 ∧ Q (.str (Txt.join a ys)) G := by
    intro G l ys e h kG
    refine ⟨_, l, ys, rfl, rfl, .inl h, ?_, ?_⟩
    · rw [e]
      have z1 := sum_join " " (ruleW ([k, x], some (cs, tl)))
      have z2 : (Txt.join " " (ruleW ([k, x], some (cs, tl)))).length ≤ 4000 := hT
      rw [sp1] at z1 ⊢
      omega
    · rw [e]
      exact q G kG
  refine ⟨_, rfl, ra, _, 0, _, rfl, rfl, sq, at0, _, rfl, ra, _, 1, _, rfl, rfl, sq, at1, _, rfl, ra, _, 2, _, rfl, rfl, sq, at2, ca, _, rfl, .inr (dp_cols_ref dc), ?_, fun l hl => ?_⟩
  · rw [List.append_nil, List.length_cons, List.length_cons, List.length_map]
    exact Nat.le_trans (m := 5000) (by omega) (by decide)
  have k1 : Off (fun _ => False) H (upd H l (.lst (V.str k :: V.str x :: (cs.map V.str ++ [])))) := Off.new hl
  have e1 := upd_same (H := H) (a := l) (o := .lst (V.str k :: V.str x :: (cs.map V.str ++ [])))
  generalize upd H l (.lst (V.str k :: V.str x :: (cs.map V.str ++ []))) = G1 at k1 e1 ⊢
  rw [List.append_nil] at e1
  refine ⟨_, rfl, ra, _, 0, _, rfl, rfl, sqT_off k1 sq, at0, rfl, _, rfl, ite2 (fun c => ?_) (fun c => ?_)⟩
  · have ek : k = "settles" := V.str.inj (of_decide_eq_true c)
    have l1 : tl.length = 1 := by
      rcases form with ⟨z, _⟩ | ⟨_, z⟩
      · rw [z] at ek
        exact absurd ek (by decide +kernel)
      · exact z
    obtain ⟨y, rfl⟩ : ∃ y, tl = [y] := by
      match tl, l1 with
      | [y], _ => exact ⟨y, rfl⟩
    have at3 : atI (V.str k :: V.str x :: V.ref ca :: [y].map V.str) 3 = some (V.str y) := atI_nat (j := 3) rfl
    refine ⟨_, rfl, l, _, rfl, .inr (SqL.of e1), _, rfl, ra, _, 3, _, rfl, rfl, sqT_off k1 sq, at3, ?_, fun m hm => ?_⟩
    · rw [List.length_append, List.length_cons, List.length_cons, List.length_map]
      exact Nat.le_trans (m := 5000) (by simp; omega) (by decide)
    have k2 := k1.trans (Off.new (o := .lst ((V.str k :: V.str x :: cs.map V.str) ++ [V.str ">", V.str y])) hm)
    refine ⟨⟨_, rfl⟩, _, rfl, joined (ys := (k :: x :: cs) ++ [(">" : Str), y]) ?_ ?_ k2⟩
    · rw [ruleW_eq, if_pos ek]
    · rw [List.map_append]
      exact SqL.of upd_same
  · have ek : ¬ k = "settles" := fun z => c (decide_eq_true (by rw [z]))
    refine ⟨⟨_, rfl⟩, _, rfl, joined (ys := k :: x :: cs) ?_ (SqL.of e1) k1⟩
    rw [ruleW_eq, if_neg ek]
end
end LW
set_option Elab.async false
set_option linter.all false
set_option maxRecDepth 100000
set_option maxHeartbeats 0
namespace LW
open PySem PySem.Spec PyProof.Rows L2 KV
def rJoinK (K : PySem.W.Frag) : V → List V → Hp → VK → Prop := fun x xs H Q => ∃ a p, ∃ ys : List Str, x = .str a ∧ xs = [.ref p] ∧ (SqL K H p (ys.map V.str) ∨ SqT K H p (ys.map V.str)) ∧ (ys.map (·.length)).sum + ys.length * a.length ≤ 16777216 ∧ Q (.str (Txt.join a ys)) H
section
variable {P : Program} {w : World} {K : PySem.W.Frag} {mg : Str → Option Value} {base : Heap}
theorem scShow : FnScope ["book", "tables", "name", "columns", "rules", "rule"] ["book"] (defScope pShowBook) := ⟨rfl, rfl, rfl, by decide +kernel, rfl, by decide +kernel, by decide +kernel⟩
theorem ok_show {f fR pT gT pR gR : Addr} {fd dR dgT dgR : FuncData} (F : FnP K "show_book" pShowBook f fd) (B : BookT K mg) (GRt : FnOk P w K mg base CX0 1 fR dR ["rule"] (spRuleT K)) (bRt : Binds K dR ["rule"] []) (mRt : mg "rule_text" = some (.ref fR)) (kRt : PySem.W.keepIn K (.ref fR) = true)
    (pt : PropOf K (He.ga K "Book") "tables" pT gT) (GT : FnOk P w K mg base CX0 7 gT dgT ["self"] (spGetT K)) (bT : Binds K dgT ["self"] [])
    (pr : PropOf K (He.ga K "Book") "rules" pR gR) (GR : FnOk P w K mg base CX0 7 gR dgR ["self"] (spGetR K)) (bR : Binds K dgR ["self"] []) : FnOk P w K mg base CX0 9 f fd ["book"] (spShow K) := by
  refine F.ok scShow (fun vs H Q E h => ?_) (fun cdv A outer s H vs Q E hr h => ?_)
  · obtain ⟨b, ts, rs, n, mc, mt, N, M, L, rfl, _⟩ := h
    rfl
  obtain ⟨b, ts, rs, n, mc, mt, N, M, L, rfl, hb, bb, hT, fm, q⟩ := h
  refine ⟨_, pss_cons (ps_setLc (i := 1) (own := [("name", 2), ("columns", 3)]) (g := gTup K 2 (gCons (gName 2) (gCons (gName 3) gNil))) (tt := tYes) (te := tM1 (rJoinK K) (tC (.str " ")) (tLst (tCons (tC (.str "table")) (tCons (tVar 2) (StX.tStar K (tVar 3) tNil))))) rfl scShow.nd rfl rfl rfl (pi_list (pe_prop (pv 0) B.cl pt GT (hr.mono (by decide)) bT .nil pass0 rfl))
        (blkOk_by (own := [("name", 2), ("columns", 3)]) (N := ["book", "tables", "name", "columns", "rules", "rule"]) (sc := defScope pShowBook) (by decide +kernel))
        (fun _ _ _ _ _ => pg_tup rfl (pgs_cons (pg_name (i := 2) scShow.nd rfl (Or.inl rfl)) (pgs_cons (pg_name (i := 3) scShow.nd rfl (Or.inl rfl)) pgs_nil))) (fun _ _ _ _ _ => pts_nil)
        (fun _ _ _ _ _ => pe_join pe_str (pe_lst (pa_cons pe_str (pa_cons (pv 2) (StX.pa_star (pv 3) pa_nil))))))
    (pss_cons (ps_setLc (i := 4) (own := [("rule", 5)]) (g := gName 5) (tt := tYes) rfl scShow.nd rfl rfl rfl (pi_list (pe_prop (pv 0) B.cl pr GR (hr.mono (by decide)) bR .nil pass0 rfl))
        (blkOk_by (own := [("rule", 5)]) (N := ["book", "tables", "name", "columns", "rules", "rule"]) (sc := defScope pShowBook) (by decide +kernel))
        (fun _ _ _ _ _ => pg_name (i := 5) scShow.nd rfl (Or.inl rfl)) (fun _ _ _ _ _ => pts_nil)
        (fun _ _ _ _ _ => pe_call GRt (hr.mono (by decide)) rfl mRt kRt bRt .nil pass0 (pa_cons (pv 5) pa_nil)))
    (pss_one (ps_ret (pe_join pe_str (pe_op op_cat (pv 1) (pv 4)))))), ?_⟩
  have no : ¬ False := id
  obtain ⟨dx, x1, x2, hx, _, _⟩ := id hb
  refine ⟨_, rfl, b, dx, _, rfl, hx, b, ts, rs, n, mc, mt, N, M, L, rfl, hb, bb, fun v1 F1 H1 o1 f1 k1 => ?_⟩
  obtain ⟨a1, w1, rfl, q1, r1⟩ := dp_tabs (o1.dp (K := K))
  have lw1 : w1.length = ts.length := by rw [dpAll_length r1, List.length_map]
  have lt := bb.tb.most
  have hmt := bb.hmt
  have hmc := bb.hmc
  have hL := bb.hL
  have hM := bb.hM
  refine ⟨a1, rfl, ⟨_, q1⟩, fun D hD => lc_list (K := K) (a := a1) (xs := w1) (fun i H' => H' D = some (.lst (((ts.take i).map tabT).map V.str)) ∧ Off (fun _ => False) H1 H') ⟨upd_same, Off.new hD⟩ (fun i H' _ g => sqL_off g.2 q1) (fun i x H' hx g => ?_) fun H' g => ?_⟩
  · obtain ⟨g1, g2⟩ := g
    obtain ⟨dt, edt, hdt⟩ := dpAll_at r1 hx
    rw [List.getElem?_map] at edt
    obtain ⟨t, et, rfl⟩ := Option.map_eq_some_iff.mp edt
    have bt := bb.tb.each t (List.mem_of_getElem? et)
    obtain ⟨ta, wc, rfl, st, dc⟩ := dp_tab hdt
    obtain ⟨ca, rfl, _⟩ := dp_cols dc
    have lc := bt.most
    refine ⟨ta, [.str t.1, .ref ca], rfl, sqT_off g2 st, rfl, .str t.1, [.ref ca], rfl, .ref ca, [], rfl, rfl, rfl, ?_⟩
    show (∃ a, V.str " " = V.str a) ∧ _
    refine ⟨⟨_, rfl⟩, ?_⟩
    refine ⟨_, rfl, _, rfl, ca, _, rfl, .inr (dp_cols_ref (dp_off g2 dc)), ?_, fun l hl => ?_⟩
    · rw [List.append_nil, List.length_cons, List.length_cons, List.length_map]
      exact Nat.le_trans (m := 9000) (by omega) (by decide)
    have k2 := g2.trans (Off.new (o := .lst (V.str "table" :: V.str t.1 :: (t.2.map V.str ++ []))) hl)
    refine ⟨_, l, tabW t, rfl, rfl, .inl ?_, ?_, ?_⟩
    · rw [List.append_nil]
      exact SqL.of upd_same
    · have z := sum_join " " (tabW t)
      have z2 : (tabT t).length ≤ 4000 := Nat.le_trans (join_part (sep := "; ") (ys := ts.map tabT ++ rs.map ruleT) (List.mem_append_left _ (List.mem_map_of_mem (f := tabT) (List.mem_of_getElem? et)))) hT
      unfold tabT at z2
      rw [sp1] at z ⊢
      omega
    · refine ⟨_, (Off.new (G := fun _ => False) hl) _ _ g1 no, ?_, ?_, fun b o eb nb => ?_⟩
      · rw [List.length_map, List.length_map, List.length_take]
        exact small4000 (by omega)
      · rw [upd_same, take_snoc et, List.map_append, List.map_append]
        rfl
      · rw [upd_ne (fun z => by rw [z, hD] at eb; cases eb)]
        exact k2 b o eb nb
  obtain ⟨g1, g2⟩ := g
  rw [lw1, List.take_length] at g1
  have kH := k1.trans g2
  -- the rules
  refine ⟨_, rfl, b, dx, _, rfl, kH _ _ hx no, b, ts, rs, n, mc, mt, N, M, L, rfl, hb.off kH, bb, fun v2 F2 H2 o2 f2 k2 => ?_⟩
  obtain ⟨a2, w2, rfl, q2, r2⟩ := dp_rbs (o2.dp (K := K))
  have lw2 : w2.length = rs.length := by rw [dpAll_length r2, List.length_map]
  have lr := bb.lr
  refine ⟨a2, rfl, ⟨_, q2⟩, fun D2 hD2 => lc_list (K := K) (a := a2) (xs := w2) (fun i H' => H' D2 = some (.lst (((rs.take i).map ruleT).map V.str)) ∧ Off (fun _ => False) H2 H') ⟨upd_same, Off.new hD2⟩ (fun i H' _ g => sqL_off g.2 q2) (fun i x H' hx2 g => ?_) fun H' g => ?_⟩
  · obtain ⟨u1, u2⟩ := g
    obtain ⟨dr, edr, hdr⟩ := dpAll_at r2 hx2
    rw [List.getElem?_map] at edr
    obtain ⟨r, er, rfl⟩ := Option.map_eq_some_iff.mp edr
    have mem := List.mem_of_getElem? er
    refine ⟨rfl, ?_⟩
    refine Exists.intro x ⟨rfl, x, r, N, M, rfl, dp_off u2 hdr, bb.rb r mem, fm r mem, by omega, Nat.le_trans (join_part (sep := "; ") (ys := ts.map tabT ++ rs.map ruleT) (List.mem_append_right _ (List.mem_map_of_mem (f := ruleT) mem))) hT, fun H5 k5 => ?_⟩
    refine ⟨_, k5 _ _ u1 no, ?_, ?_, fun b o eb nb => ?_⟩
    · rw [List.length_map, List.length_map, List.length_take]
      exact small4000 (by omega)
    · rw [upd_same, take_snoc er, List.map_append, List.map_append]
      rfl
    · rw [upd_ne (fun z => by rw [z, hD2] at eb; cases eb)]
      exact k5 _ _ (u2 b o eb nb) nb
  · obtain ⟨u1, u2⟩ := g
    rw [lw2, List.take_length] at u1
    have kk := k2.trans u2
    have e1 := kk _ _ g1 no
    refine ⟨⟨_, rfl⟩, _, rfl, _, rfl, D, D2, _, _, rfl, rfl, e1, u1, ?_, fun m hm => ?_⟩
    · rw [List.length_map, List.length_map, List.length_map, List.length_map]
      exact Nat.le_trans (m := 9000) (by omega) (by decide)
    have km := (kH.trans kk).trans (Off.new (o := .lst (((ts.map tabT).map V.str) ++ ((rs.map ruleT).map V.str))) hm)
    refine ⟨_, m, ts.map tabT ++ rs.map ruleT, rfl, rfl, .inl ?_, ?_, ?_⟩
    · rw [List.map_append]
      exact SqL.of upd_same
    · have z := sum_join "; " (ts.map tabT ++ rs.map ruleT)
      have z2 : (Txt.join "; " (ts.map tabT ++ rs.map ruleT)).length ≤ 4000 := hT
      rw [sp2] at z ⊢
      omega
    · exact q _ km
end
end LW
set_option Elab.async false
set_option linter.all false
set_option maxRecDepth 100000
set_option maxHeartbeats 0
/-! k54: what a text is read as, and what a text of a book is -/
namespace LW
open PySem PySem.Spec PyProof.Rows L2 KV
def wordsOf (p : Str) : List Str := Txt.split p " "
def piecesOf (w : Str) : List Str := if w.length = 0 then [] else Txt.split w "; "
/-- a rule of these words, as it is read -/
def ruleOf : List Str → Option RB
  | k :: x :: rest => if k = "key" then some ([("key" : Str), x], some (rest, [])) else if k = "settles" ∧ 2 ≤ rest.length ∧ rest[rest.length - 2]? = some (">" : Str) then some ([("settles" : Str), x], some (rest.take (rest.length - 2), rest.drop (rest.length - 1))) else none
  | _ => none
/-- a rule over these tables, by its words -/
def isRuleL (ts : List Tab) : List Str → Bool
  | k :: x :: rest => decide (k = "key" ∨ k = "settles") && match tabOf ts x with
    | none => false
    | some t => if k = "settles" then decide (2 ≤ rest.length ∧ rest[rest.length - 2]? = some (">" : Str)) && (rest.take (rest.length - 2) ++ rest.drop (rest.length - 1)).all fun c => decide (c ∈ t.2) else rest.all fun c => decide (c ∈ t.2)
  | _ => false
theorem ruleOf_eq (k x : Str) (rest : List Str) : ruleOf (k :: x :: rest) = if k = "key" then some ([("key" : Str), x], some (rest, [])) else if k = "settles" ∧ 2 ≤ rest.length ∧ rest[rest.length - 2]? = some (">" : Str) then some ([("settles" : Str), x], some (rest.take (rest.length - 2), rest.drop (rest.length - 1))) else none := rfl
theorem isRuleL_eq (ts : List Tab) (k x : Str) (rest : List Str) : isRuleL ts (k :: x :: rest) = (decide (k = "key" ∨ k = "settles") && match tabOf ts x with
    | none => false
    | some t => if k = "settles" then decide (2 ≤ rest.length ∧ rest[rest.length - 2]? = some (">" : Str)) && (rest.take (rest.length - 2) ++ rest.drop (rest.length - 1)).all fun c => decide (c ∈ t.2) else rest.all fun c => decide (c ∈ t.2)) := rfl
def parseL : List Str → List Tab → List RB → Option (List Tab × List RB)
  | [], ts, rs => some (ts, rs)
  | p :: ps, ts, rs => match wordsOf p with
    | k :: ws => if k = "table" then (match ws with
        | x :: c :: cs => if rs.isEmpty then parseL ps (ts ++ [(x, c :: cs)]) rs else none
        | _ => none)
      else match ruleOf (k :: ws) with
        | none => none
        | some r => parseL ps ts (rs ++ [r])
    | [] => none
def isBookL : List Str → List Tab → Bool → Bool
  | [], _, _ => true
  | p :: ps, ts, bh => match wordsOf p with
    | k :: ws => if k = "table" then (match ws with
        | x :: c :: cs => !bh && (decide (x ∉ ts.map Prod.fst) && ((isT x && (c :: cs).all isT) && (decide (c :: cs).Nodup && isBookL ps (ts ++ [(x, c :: cs)]) bh)))
        | _ => false)
      else isRuleL ts (k :: ws) && isBookL ps ts true
    | [] => false
/-! ### what is wrong, in other words -/
theorem wrongCols_iff : ∀ {cs b : List Str}, wrongCols b cs = none ↔ (∀ c ∈ cs, isT c = true) ∧ cs.Nodup ∧ ∀ c ∈ cs, c ∉ b
  | [], b => by simp [wrongCols]
  | c :: cs, b => by
    have ih := wrongCols_iff (cs := cs) (b := b ++ [c])
    cases ht : isT c with
    | false =>
      rw [wrongCols_bad ht]
      simp [ht]
    | true =>
      by_cases hm : c ∈ b
      · rw [wrongCols_two ht hm]
        simp [hm]
      · rw [wrongCols_next ht hm, ih]
        constructor
        · rintro ⟨h1, h2, h3⟩
          refine ⟨fun d hd => ?_, List.nodup_cons.mpr ⟨fun z => ?_, h2⟩, fun d hd => ?_⟩
          · rcases List.mem_cons.mp hd with rfl | hd
            · exact ht
            · exact h1 d hd
          · exact h3 c z (by simp)
          · rcases List.mem_cons.mp hd with rfl | hd
            · exact hm
            · exact fun z => h3 d hd (by simp [z])
        · rintro ⟨h1, h2, h3⟩
          obtain ⟨n1, n2⟩ := List.nodup_cons.mp h2
          refine ⟨fun d hd => h1 d (List.mem_cons_of_mem _ hd), n2, fun d hd z => ?_⟩
          rcases List.mem_append.mp z with z | z
          · exact h3 d (List.mem_cons_of_mem _ hd) z
          · rw [List.mem_singleton.mp z] at hd
            exact n1 hd
def TabGood (b : List Str) (t : Tab) : Prop := isT t.1 = true ∧ t.1 ∉ b ∧ (∀ c ∈ t.2, isT c = true) ∧ t.2.Nodup
theorem wrongTabs_one {b : List Str} {t : Tab} {ts : List Tab} : wrongTabs b (t :: ts) = none ↔ TabGood b t ∧ wrongTabs (b ++ [t.1]) ts = none := by
  unfold TabGood
  cases ht : isT t.1 with
  | false =>
    rw [wrongTabs_bad ht]
    simp
  | true =>
    by_cases hm : t.1 ∈ b
    · rw [wrongTabs_two ht hm]
      simp [hm]
    · cases hc : wrongCols [] t.2 with
      | none =>
        rw [wrongTabs_next ht hm hc]
        obtain ⟨h1, h2, _⟩ := wrongCols_iff.mp hc
        exact ⟨fun z => ⟨⟨rfl, hm, h1, h2⟩, z⟩, fun z => z.2⟩
      | some e =>
        rw [wrongTabs_cols ht hm hc]
        constructor
        · intro z
          cases z
        · rintro ⟨⟨_, _, h1, h2⟩, _⟩
          rw [wrongCols_iff.mpr ⟨h1, h2, fun c _ z => by simp at z⟩] at hc
          cases hc
theorem wrongTabs_app : ∀ {ts us : List Tab} {b : List Str}, wrongTabs b (ts ++ us) = none ↔ wrongTabs b ts = none ∧ wrongTabs (b ++ ts.map Prod.fst) us = none
  | [], us, b => by simp [wrongTabs]
  | t :: ts, us, b => by
    rw [List.cons_append, wrongTabs_one, wrongTabs_one, wrongTabs_app (ts := ts), List.map_cons, List.append_assoc]
    exact and_assoc.symm
theorem wrongs_cons (ts : List Tab) (r : RB) (rs : List RB) : wrongs ts (r :: rs) = match wrong1 ts r with
    | some e => some e
    | none => wrongs ts rs := rfl
theorem wrongs_app {ts : List Tab} : ∀ {rs qs : List RB}, wrongs ts (rs ++ qs) = none ↔ wrongs ts rs = none ∧ wrongs ts qs = none
  | [], qs => by simp [wrongs]
  | r :: rs, qs => by
    have ih := wrongs_app (ts := ts) (rs := rs) (qs := qs)
    rw [List.cons_append, wrongs_cons, wrongs_cons]
    cases wrong1 ts r with
    | none => exact ih
    | some e => simp
theorem wrongs_one {ts : List Tab} {r : RB} : wrongs ts [r] = none ↔ wrong1 ts r = none := by
  unfold wrongs
  cases wrong1 ts r with
  | none => simp [wrongs]
  | some e => simp
theorem wrongBook_iff {ts : List Tab} {rs : List RB} : wrongBook ts rs = none ↔ wrongTabs [] ts = none ∧ wrongs ts rs = none := by
  unfold wrongBook
  cases wrongTabs [] ts with
  | none => simp
  | some e => simp
/-! ### rules -/
theorem find_none {cs : List Str} {t : Tab} : cs.find? (fun c => !decide (c ∈ t.2)) = none ↔ cs.all (fun c => decide (c ∈ t.2)) = true := by
  rw [List.find?_eq_none, List.all_eq_true]
  constructor
  · intro h c hc
    have := h c hc
    simpa using this
  · intro h c hc
    have := h c hc
    simpa using this
theorem wrong1_none {ts : List Tab} {k x : Str} {cs tl : List Str} (f : (k = "key" ∧ tl.length = 0) ∨ (k = "settles" ∧ tl.length = 1)) : wrong1 ts ([k, x], some (cs, tl)) = none ↔ ∃ t, tabOf ts x = some t ∧ (cs ++ tl).all (fun c => decide (c ∈ t.2)) = true := by
  rw [wrong1_yes f]
  cases e : tabOf ts x with
  | none => simp
  | some t =>
    simp only [Option.some.injEq, exists_eq_left']
    rw [← find_none]
    cases (cs ++ tl).find? (fun c => !decide (c ∈ t.2)) with
    | none => simp
    | some c => simp
theorem key_ne : ("key" : Str) ≠ "settles" := by decide +kernel
theorem isRule_iff {ts : List Tab} {ws : List Str} : isRuleL ts ws = true ↔ ∃ r, ruleOf ws = some r ∧ wrong1 ts r = none := by
  rcases ws with _ | ⟨k, _ | ⟨x, rest⟩⟩
  · simp [isRuleL, ruleOf]
  · simp [isRuleL, ruleOf]
  · by_cases hk : k = "key"
    · subst hk
      have e1 : ruleOf ("key" :: x :: rest) = some ([("key" : Str), x], some (rest, [])) := by
        rw [ruleOf_eq]
        rw [if_pos rfl]
      rw [e1]
      have e2 : isRuleL ts ("key" :: x :: rest) = match tabOf ts x with
          | none => false
          | some t => rest.all fun c => decide (c ∈ t.2) := by
        rw [isRuleL_eq]
        rw [decide_eq_true (show ("key" : Str) = "key" ∨ ("key" : Str) = "settles" from .inl rfl), Bool.true_and]
        cases tabOf ts x with
        | none => rfl
        | some t => exact if_neg key_ne
      rw [e2]
      simp only [Option.some.injEq, exists_eq_left']
      rw [wrong1_none (.inl ⟨rfl, rfl⟩), List.append_nil]
      cases tabOf ts x with
      | none => simp
      | some t => simp
    · by_cases hs : k = "settles"
      · subst hs
        have e2 : isRuleL ts ("settles" :: x :: rest) = match tabOf ts x with
            | none => false
            | some t => decide (2 ≤ rest.length ∧ rest[rest.length - 2]? = some (">" : Str)) && (rest.take (rest.length - 2) ++ rest.drop (rest.length - 1)).all fun c => decide (c ∈ t.2) := by
          rw [isRuleL_eq]
          rw [decide_eq_true (show ("settles" : Str) = "key" ∨ ("settles" : Str) = "settles" from .inr rfl), Bool.true_and]
          cases tabOf ts x with
          | none => rfl
          | some t => exact if_pos rfl
        rw [e2]
        by_cases hf : 2 ≤ rest.length ∧ rest[rest.length - 2]? = some (">" : Str)
        · have e1 : ruleOf ("settles" :: x :: rest) = some ([("settles" : Str), x], some (rest.take (rest.length - 2), rest.drop (rest.length - 1))) := by
            rw [ruleOf_eq]
            rw [if_neg (Ne.symm key_ne), if_pos ⟨rfl, hf⟩]
          rw [e1]
          simp only [Option.some.injEq, exists_eq_left']
          have l1 : (rest.drop (rest.length - 1)).length = 1 := by
            rw [List.length_drop]
            omega
          rw [wrong1_none (.inr ⟨rfl, l1⟩), decide_eq_true hf]
          cases tabOf ts x with
          | none => simp
          | some t => simp
        · have e1 : ruleOf ("settles" :: x :: rest) = none := by
            rw [ruleOf_eq]
            rw [if_neg (Ne.symm key_ne), if_neg fun z => hf z.2]
          rw [e1, decide_eq_false hf]
          cases tabOf ts x with
          | none => simp
          | some t => simp
      · have e1 : ruleOf (k :: x :: rest) = none := by
          rw [ruleOf_eq]
          rw [if_neg hk, if_neg fun z => hs z.1]
        rw [e1]
        rw [isRuleL_eq]
        rw [decide_eq_false fun z => z.elim hk hs]
        simp
/-! ### reading on -/
theorem parse_on : ∀ {ps : List Str} {ts ts' : List Tab} {rs rs' : List RB}, parseL ps ts rs = some (ts', rs') → (∃ us, ts' = ts ++ us) ∧ (∃ qs, rs' = rs ++ qs) ∧ (rs ≠ [] → ts' = ts)
  | [], ts, ts', rs, rs', h => by
    cases h
    exact ⟨⟨[], by simp⟩, ⟨[], by simp⟩, fun _ => rfl⟩
  | p :: ps, ts, ts', rs, rs', h => by
    unfold parseL at h
    rcases ew : wordsOf p with _ | ⟨k, ws⟩
    · rw [ew] at h
      cases h
    · rw [ew] at h
      dsimp only at h
      by_cases hk : k = "table"
      · rw [if_pos hk] at h
        rcases ws with _ | ⟨x, _ | ⟨c, cs⟩⟩
        · cases h
        · cases h
        · dsimp only at h
          cases hr : rs.isEmpty with
          | false =>
            rw [hr] at h
            cases h
          | true =>
            rw [hr] at h
            have hr := List.isEmpty_iff.mp hr
            obtain ⟨⟨us, e1⟩, e2, _⟩ := parse_on (show parseL ps (ts ++ [(x, c :: cs)]) rs = some (ts', rs') from h)
            exact ⟨⟨(x, c :: cs) :: us, by rw [e1, List.append_assoc]; rfl⟩, e2, fun z => (z hr).elim⟩
      · rw [if_neg hk] at h
        cases hq : ruleOf (k :: ws) with
        | none =>
          rw [hq] at h
          cases h
        | some r =>
          rw [hq] at h
          obtain ⟨e1, ⟨qs, e2⟩, e3⟩ := parse_on (show parseL ps ts (rs ++ [r]) = some (ts', rs') from h)
          exact ⟨e1, ⟨r :: qs, by rw [e2, List.append_assoc]; rfl⟩, fun _ => e3 (by simp)⟩
/-- a text is a book's exactly if it is read as tables and rules with nothing wrong -/
theorem isBook_iff : ∀ {ps : List Str} {ts : List Tab} {rs : List RB}, wrongBook ts rs = none → (isBookL ps ts (!rs.isEmpty) = true ↔ ∃ ts' rs', parseL ps ts rs = some (ts', rs') ∧ wrongBook ts' rs' = none)
  | [], ts, rs, h => by
    refine ⟨fun _ => ⟨ts, rs, rfl, h⟩, fun _ => rfl⟩
  | p :: ps, ts, rs, h => by
    obtain ⟨h1, h2⟩ := wrongBook_iff.mp h
    unfold isBookL parseL
    rcases wordsOf p with _ | ⟨k, ws⟩
    · simp
    · dsimp only
      by_cases hk : k = "table"
      · rw [if_pos hk, if_pos hk]
        rcases ws with _ | ⟨x, _ | ⟨c, cs⟩⟩
        · simp
        · simp
        · dsimp only
          cases hr : rs.isEmpty with
          | false => simp
          | true =>
            have er := List.isEmpty_iff.mp hr
            subst er
            rw [if_pos rfl]
            by_cases tg : TabGood (ts.map Prod.fst) (x, c :: cs)
            · have w2 : wrongBook (ts ++ [(x, c :: cs)]) [] = none := wrongBook_iff.mpr ⟨wrongTabs_app.mpr ⟨h1, wrongTabs_one.mpr ⟨by simpa using tg, rfl⟩⟩, rfl⟩
              have ih := isBook_iff (ps := ps) w2
              obtain ⟨t1, t2, t3, t4⟩ := tg
              rw [← ih, decide_eq_true t2, decide_eq_true t4, t1, List.all_eq_true.mpr t3]
              simp
            · constructor
              · intro z
                simp only [Bool.and_eq_true, decide_eq_true_eq, List.all_eq_true] at z
                obtain ⟨_, z1, ⟨z2, z3⟩, z4, _⟩ := z
                exact (tg ⟨z2, z1, z3, z4⟩).elim
              · rintro ⟨ts', rs', e, w⟩
                obtain ⟨⟨us, rfl⟩, _, _⟩ := parse_on e
                obtain ⟨w1, _⟩ := wrongBook_iff.mp w
                obtain ⟨w3, _⟩ := wrongTabs_app.mp w1
                obtain ⟨_, w4⟩ := wrongTabs_app.mp w3
                obtain ⟨w5, _⟩ := wrongTabs_one.mp w4
                exact (tg (by simpa using w5)).elim
      · rw [if_neg hk, if_neg hk, Bool.and_eq_true, isRule_iff]
        cases hq : ruleOf (k :: ws) with
        | none => simp
        | some r =>
          dsimp only
          by_cases w1 : wrong1 ts r = none
          · have w2 : wrongBook ts (rs ++ [r]) = none := wrongBook_iff.mpr ⟨h1, wrongs_app.mpr ⟨h2, wrongs_one.mpr w1⟩⟩
            have ih := isBook_iff (ps := ps) w2
            have e : (!(rs ++ [r]).isEmpty) = true := by simp
            rw [e] at ih
            rw [← ih]
            exact ⟨fun z => z.2, fun z => ⟨⟨r, rfl, w1⟩, z⟩⟩
          · constructor
            · rintro ⟨⟨r', e, w⟩, _⟩
              cases e
              exact (w1 w).elim
            · rintro ⟨ts', rs', e, w⟩
              obtain ⟨_, ⟨qs, rfl⟩, e3⟩ := parse_on e
              have e3 := e3 (by simp)
              subst e3
              obtain ⟨_, w2⟩ := wrongBook_iff.mp w
              obtain ⟨w3, _⟩ := wrongs_app.mp w2
              obtain ⟨_, w4⟩ := wrongs_app.mp w3
              exact (w1 (wrongs_one.mp w4)).elim
end LW
set_option Elab.async false
set_option linter.all false
set_option maxRecDepth 100000
set_option maxHeartbeats 0
/-! k54: a book that was read is shown as its text -/
namespace LW
open PySem PySem.Spec PyProof.Rows L2 KV
theorem join_words (p : Str) : Txt.join " " (wordsOf p) = p := by
  rw [show Txt.join " " (wordsOf p) = Str.join " " (wordsOf p) from StrLaws.glued_eq_join _ _]
  exact StrLaws.join_split p " "
theorem rest_parts {rest : List Str} (h : 2 ≤ rest.length) (g : rest[rest.length - 2]? = some (">" : Str)) : rest.take (rest.length - 2) ++ ((">" : Str) :: rest.drop (rest.length - 1)) = rest := by
  have e : rest.drop (rest.length - 2) = (">" : Str) :: rest.drop (rest.length - 1) := by
    rw [drop_cons g]
    congr 2
    omega
  rw [← e, List.take_append_drop]
theorem formed_mk {k x : Str} {cs tl : List Str} (h : (k = "key" ∧ tl.length = 0) ∨ (k = "settles" ∧ tl.length = 1)) : formed ([k, x], some (cs, tl)) = true := decide_eq_true h
theorem ruleW_of {ws : List Str} {r : RB} (h : ruleOf ws = some r) : ruleW r = ws ∧ formed r = true := by
  rcases ws with _ | ⟨k, _ | ⟨x, rest⟩⟩
  · cases h
  · cases h
  · rw [ruleOf_eq] at h
    by_cases hk : k = "key"
    · rw [if_pos hk] at h
      cases h
      refine ⟨?_, formed_mk (.inl ⟨rfl, rfl⟩)⟩
      rw [ruleW_eq, if_neg key_ne, hk]
    · rw [if_neg hk] at h
      by_cases hs : k = "settles" ∧ 2 ≤ rest.length ∧ rest[rest.length - 2]? = some (">" : Str)
      · rw [if_pos hs] at h
        cases h
        obtain ⟨h1, h2, h3⟩ := hs
        refine ⟨?_, formed_mk (.inr ⟨rfl, ?_⟩)⟩
        · rw [ruleW_eq, if_pos rfl, h1]
          show ("settles" : Str) :: x :: (rest.take (rest.length - 2) ++ ((">" : Str) :: rest.drop (rest.length - 1))) = _
          rw [rest_parts h2 h3]
        · rw [List.length_drop]
          omega
      · rw [if_neg hs] at h
        cases h
theorem shown_on : ∀ {ps : List Str} {ts ts' : List Tab} {rs rs' : List RB}, parseL ps ts rs = some (ts', rs') → ts'.map tabT ++ rs'.map ruleT = ts.map tabT ++ rs.map ruleT ++ ps
  | [], ts, ts', rs, rs', h => by
    cases h
    rw [List.append_nil]
  | p :: ps, ts, ts', rs, rs', h => by
    have jp := join_words p
    unfold parseL at h
    rcases ew : wordsOf p with _ | ⟨k, ws⟩
    · rw [ew] at h
      cases h
    · rw [ew] at h jp
      dsimp only at h
      by_cases hk : k = "table"
      · rw [if_pos hk] at h
        rcases ws with _ | ⟨x, _ | ⟨c, cs⟩⟩
        · cases h
        · cases h
        · dsimp only at h
          cases hr : rs.isEmpty with
          | false =>
            rw [hr] at h
            cases h
          | true =>
            rw [hr] at h
            have hr := List.isEmpty_iff.mp hr
            subst hr
            rw [shown_on (show parseL ps (ts ++ [(x, c :: cs)]) [] = some (ts', rs') from h), List.map_append]
            have e : tabT (x, c :: cs) = p := by
              rw [← jp, hk]
              rfl
            simp [e]
      · rw [if_neg hk] at h
        cases hq : ruleOf (k :: ws) with
        | none =>
          rw [hq] at h
          cases h
        | some r =>
          rw [hq] at h
          rw [shown_on (show parseL ps ts (rs ++ [r]) = some (ts', rs') from h), List.map_append]
          have e : ruleT r = p := by
            unfold ruleT
            rw [(ruleW_of hq).1]
            exact jp
          simp [e]
theorem pieces_join (w : Str) : Txt.join "; " (piecesOf w) = w := by
  unfold piecesOf
  split
  · rename_i h
    have e : w = Str.empty := TL.ext_tl (by
      have h0 : (TL.tl w).length = 0 := by
        show w.cps.toList.length = 0
        rw [Array.length_toList]
        exact h
      rw [List.length_eq_zero_iff.mp h0]
      rfl)
    rw [e]
    rfl
  · rw [show Txt.join "; " (Txt.split w "; ") = Str.join "; " (Txt.split w "; ") from StrLaws.glued_eq_join _ _]
    exact StrLaws.join_split w "; "
/-- a text that was read is what its book shows -/
theorem shown_back {w : Str} {ts : List Tab} {rs : List RB} (h : parseL (piecesOf w) [] [] = some (ts, rs)) : bookT ts rs = w := by
  unfold bookT
  rw [shown_on h]
  exact pieces_join w
theorem parse_formed : ∀ {ps : List Str} {ts ts' : List Tab} {rs rs' : List RB}, parseL ps ts rs = some (ts', rs') → (∀ r ∈ rs, formed r = true) → ∀ r ∈ rs', formed r = true
  | [], ts, ts', rs, rs', h, f => by
    cases h
    exact f
  | p :: ps, ts, ts', rs, rs', h, f => by
    unfold parseL at h
    rcases ew : wordsOf p with _ | ⟨k, ws⟩
    · rw [ew] at h
      cases h
    · rw [ew] at h
      dsimp only at h
      by_cases hk : k = "table"
      · rw [if_pos hk] at h
        rcases ws with _ | ⟨x, _ | ⟨c, cs⟩⟩
        · cases h
        · cases h
        · dsimp only at h
          cases hr : rs.isEmpty with
          | false =>
            rw [hr] at h
            cases h
          | true =>
            rw [hr] at h
            exact parse_formed (show parseL ps (ts ++ [(x, c :: cs)]) rs = some (ts', rs') from h) f
      · rw [if_neg hk] at h
        cases hq : ruleOf (k :: ws) with
        | none =>
          rw [hq] at h
          cases h
        | some r =>
          rw [hq] at h
          refine parse_formed (show parseL ps ts (rs ++ [r]) = some (ts', rs') from h) fun r' hr => ?_
          rcases List.mem_append.mp hr with hr | hr
          · exact f r' hr
          · rw [List.mem_singleton.mp hr]
            exact (ruleW_of hq).2
end LW
set_option Elab.async false
set_option linter.all false
set_option maxRecDepth 100000
set_option maxHeartbeats 0
/-! k54: how big what is read can be -/
namespace LW
open PySem PySem.Spec PyProof.Rows L2 KV
theorem joinL_in {S p : List Nat} : ∀ {ps : List (List Nat)}, p ∈ ps → (∀ c ∈ p, c ∈ TL.joinL S ps) ∧ p.length ≤ (TL.joinL S ps).length
  | [], h => by simp at h
  | [q], h => by
    rw [List.mem_singleton.mp h]
    exact ⟨fun _ h => h, Nat.le_refl _⟩
  | q :: q2 :: r, h => by
    show (∀ c ∈ p, c ∈ q ++ (S ++ TL.joinL S (q2 :: r))) ∧ p.length ≤ (q ++ (S ++ TL.joinL S (q2 :: r))).length
    rw [List.length_append, List.length_append]
    rcases List.mem_cons.mp h with rfl | h
    · exact ⟨fun c hc => List.mem_append_left _ hc, by omega⟩
    · obtain ⟨h1, h2⟩ := joinL_in (S := S) h
      exact ⟨fun c hc => List.mem_append_right _ (List.mem_append_right _ (h1 c hc)), by omega⟩
theorem joinL_len {S : List Nat} (hS : 1 ≤ S.length) : ∀ {ps : List (List Nat)}, ps.length ≤ (TL.joinL S ps).length + 1
  | [] => Nat.zero_le _
  | [q] => by simp
  | q :: q2 :: r => by
    have := joinL_len hS (ps := q2 :: r)
    show (q2 :: r).length + 1 ≤ (q ++ (S ++ TL.joinL S (q2 :: r))).length + 1
    rw [List.length_append, List.length_append]
    omega
theorem tl_len (x : Str) : (TL.tl x).length = x.length := by
  show x.cps.toList.length = x.cps.size
  simp
theorem split_tl (x y : Str) : TL.tl x = TL.joinL (TL.tl y) ((Txt.split x y).map TL.tl) := by
  rw [← TL.tl_join, StrLaws.join_split]
theorem split_in {x y p : Str} (h : p ∈ Txt.split x y) : (∀ c ∈ p.cps.toList, c ∈ x.cps.toList) ∧ p.length ≤ x.length := by
  obtain ⟨h1, h2⟩ := joinL_in (S := TL.tl y) (List.mem_map_of_mem (f := TL.tl) h)
  rw [← split_tl] at h1 h2
  rw [tl_len, tl_len] at h2
  exact ⟨h1, h2⟩
theorem split_len {x y : Str} (hy : 1 ≤ y.length) : (Txt.split x y).length ≤ x.length + 1 := by
  have := joinL_len (S := TL.tl y) (by rw [tl_len]; exact hy) (ps := (Txt.split x y).map TL.tl)
  rw [← split_tl, tl_len, List.length_map] at this
  exact this
theorem split_gd {n : Nat} {x y p : Str} (g : Gd n x) (h : p ∈ Txt.split x y) : Gd n p := by
  obtain ⟨h1, h2⟩ := split_in h
  exact ⟨fun c hc => g.1 c (h1 c hc), Nat.le_trans h2 g.2⟩
theorem pieces_gd {n : Nat} {w : Str} (g : Gd n w) : (∀ p ∈ piecesOf w, Gd n p) ∧ (piecesOf w).length ≤ n + 1 := by
  unfold piecesOf
  split
  · exact ⟨fun p h => by simp at h, Nat.zero_le _⟩
  · exact ⟨fun p h => split_gd g h, Nat.le_trans (split_len (by decide)) (Nat.succ_le_succ g.2)⟩
theorem words_gd {n : Nat} {p : Str} (g : Gd n p) : (∀ x ∈ wordsOf p, Gd n x) ∧ (wordsOf p).length ≤ n + 1 :=
  ⟨fun x h => split_gd g h, Nat.le_trans (split_len (by decide)) (Nat.succ_le_succ g.2)⟩
theorem ruleOf_gd {n : Nat} {ws : List Str} {r : RB} (h : ruleOf ws = some r) (g : ∀ x ∈ ws, Gd n x) (l : ws.length ≤ n + 1) (h8 : 8 ≤ n) : RbOk n (n + 1) r := by
  have kk : Gd n "key" ∧ Gd n "settles" := ⟨⟨(gdB_ok (n := 8) (by decide +kernel)).1, Nat.le_trans (gdB_ok (n := 8) (x := "key") (by decide +kernel)).2 h8⟩, ⟨(gdB_ok (n := 8) (by decide +kernel)).1, Nat.le_trans (gdB_ok (n := 8) (x := "settles") (by decide +kernel)).2 h8⟩⟩
  rcases ws with _ | ⟨k, _ | ⟨x, rest⟩⟩
  · cases h
  · cases h
  · have gx := g x (by simp)
    have gr : ∀ c ∈ rest, Gd n c := fun c hc => g c (by simp [hc])
    have lr : rest.length + 2 ≤ n + 1 := l
    rw [ruleOf_eq] at h
    by_cases hk : k = "key"
    · rw [if_pos hk] at h
      cases h
      refine ⟨Nat.le_refl _, fun y hy => ?_, fun _ => rfl, fun a b e => ?_⟩
      · rcases List.mem_cons.mp hy with rfl | hy
        · exact kk.1
        · rw [List.mem_singleton.mp hy]
          exact gx
      · cases e
        exact ⟨by omega, gr, Nat.zero_le _, fun y hy => by simp at hy⟩
    · rw [if_neg hk] at h
      by_cases hs : k = "settles" ∧ 2 ≤ rest.length ∧ rest[rest.length - 2]? = some (">" : Str)
      · rw [if_pos hs] at h
        cases h
        refine ⟨Nat.le_refl _, fun y hy => ?_, fun _ => rfl, fun a b e => ?_⟩
        · rcases List.mem_cons.mp hy with rfl | hy
          · exact kk.2
          · rw [List.mem_singleton.mp hy]
            exact gx
        · cases e
          exact ⟨by rw [List.length_take]; omega, fun c hc => gr c (List.mem_of_mem_take hc), by rw [List.length_drop]; omega, fun c hc => gr c (List.mem_of_mem_drop hc)⟩
      · rw [if_neg hs] at h
        cases h
theorem split_ne (x y : Str) : Txt.split x y ≠ [] := by
  unfold Txt.split
  split
  · simp
  · split
    · simp
    · rw [StrLaws.partsBetween_eq]
      obtain ⟨p, r, e⟩ := StrLaws.partsFrom_ne x y.length 0 (Builtin.Str.occurrences x y 0 x.length (x.length + 1))
      rw [e]
      simp
theorem words_ne (p : Str) : ∃ k ws, wordsOf p = k :: ws := List.exists_cons_of_ne_nil (split_ne p " ")
theorem parse_gd {n : Nat} (h8 : 8 ≤ n) : ∀ {ps : List Str} {ts ts' : List Tab} {rs rs' : List RB}, parseL ps ts rs = some (ts', rs') → (∀ p ∈ ps, Gd n p) → (∀ t ∈ ts, TabB n (n + 1) t) → (∀ r ∈ rs, RbOk n (n + 1) r) →
    (∀ t ∈ ts', TabB n (n + 1) t) ∧ (∀ r ∈ rs', RbOk n (n + 1) r) ∧ ts'.length + rs'.length = ts.length + rs.length + ps.length
  | [], ts, ts', rs, rs', h, _, gt, gr => by
    cases h
    exact ⟨gt, gr, rfl⟩
  | p :: ps, ts, ts', rs, rs', h, gp, gt, gr => by
    obtain ⟨gw, lw⟩ := words_gd (gp p List.mem_cons_self)
    have gp' : ∀ q ∈ ps, Gd n q := fun q hq => gp q (List.mem_cons_of_mem _ hq)
    unfold parseL at h
    rcases ew : wordsOf p with _ | ⟨k, ws⟩
    · rw [ew] at h
      cases h
    · rw [ew] at h gw lw
      dsimp only at h
      by_cases hk : k = "table"
      · rw [if_pos hk] at h
        rcases ws with _ | ⟨x, _ | ⟨c, cs⟩⟩
        · cases h
        · cases h
        · dsimp only at h
          cases hr : rs.isEmpty with
          | false =>
            rw [hr] at h
            cases h
          | true =>
            rw [hr] at h
            have lw : cs.length + 3 ≤ n + 1 := lw
            obtain ⟨a1, a2, a3⟩ := parse_gd h8 (show parseL ps (ts ++ [(x, c :: cs)]) rs = some (ts', rs') from h) gp' (fun t ht => by
              rcases List.mem_append.mp ht with ht | ht
              · exact gt t ht
              · rw [List.mem_singleton.mp ht]
                exact ⟨Nat.succ_le_succ (Nat.zero_le _), by show cs.length + 1 ≤ n + 1; omega, fun y hy => gw y (List.mem_cons_of_mem _ (List.mem_cons_of_mem _ hy)), gw x (by simp)⟩) gr
            refine ⟨a1, a2, ?_⟩
            rw [a3]
            simp only [List.length_append, List.length_cons, List.length_nil]
            omega
      · rw [if_neg hk] at h
        cases hq : ruleOf (k :: ws) with
        | none =>
          rw [hq] at h
          cases h
        | some r =>
          rw [hq] at h
          obtain ⟨a1, a2, a3⟩ := parse_gd h8 (show parseL ps ts (rs ++ [r]) = some (ts', rs') from h) gp' gt (fun r' hr => by
            rcases List.mem_append.mp hr with hr | hr
            · exact gr r' hr
            · rw [List.mem_singleton.mp hr]
              exact ruleOf_gd hq gw lw h8)
          refine ⟨a1, a2, ?_⟩
          rw [a3]
          simp only [List.length_append, List.length_cons, List.length_nil]
          omega
end LW
set_option Elab.async false
set_option linter.all false
set_option maxRecDepth 100000
set_option maxHeartbeats 0
/-! readings.py: rule_of, of any words -/
namespace LW
open PySem PySem.Spec PyProof.Rows L2 KV
theorem if_cut0 {tc : TT} {A1 A2 B : TS} {D : Ends} {σ : L2.St} {H : Hp} (W : L2.St → Hp → Prop) (hB : ∀ σ' H', W σ' H' → B D σ' H') (hA : (∀ σ' H', W σ' H' → B D σ' H') → tSeq (tIfS tc A1 A2) B D σ H) : tSeq (tIfS tc A1 A2) B D σ H := hA hB
theorem els_cut1 {tc : TT} {A1 A2 : TS} {D : Ends} {σ : L2.St} {H : Hp} (h2 : A2 D σ H) (hA : A2 D σ H → tIfS tc A1 A2 D σ H) : tIfS tc A1 A2 D σ H := hA h2
theorem atI_back {α : Type} (xs : List α) (u v : α) : atI (xs ++ [u, v]) (-2) = some u := by
  have hl : (xs ++ [u, v]).length = xs.length + 2 := by simp
  have e : ixN (xs ++ [u, v]).length (-2) = some xs.length := by
    unfold ixN
    rw [hl, if_neg (by decide), if_pos (by omega)]
    congr 1
    omega
  unfold atI
  rw [e]
  simp
theorem cutV_mid (a b : V) (xs : List V) (u v : V) : cutV (a :: b :: (xs ++ [u, v])) (some 2) (some (-2)) = xs := by
  unfold cutV
  have l : (a :: b :: (xs ++ [u, v])).length = xs.length + 4 := by simp
  have h1 : HT.sIx (a :: b :: (xs ++ [u, v])).length 0 (some 2) = 2 := by
    rw [l]
    simp [HT.sIx]
  have h2 : HT.sIx (a :: b :: (xs ++ [u, v])).length (a :: b :: (xs ++ [u, v])).length (some (-2)) = xs.length + 2 := by
    rw [l]
    simp [HT.sIx]
    omega
  rw [h1, h2]
  simp
/-- a list's last two -/
theorem two_back {α : Type} : ∀ {xs : List α}, 2 ≤ xs.length → ∃ ys u v, xs = ys ++ [u, v]
  | [], h => by simp at h
  | [x], h => by simp at h
  | [x, y], _ => ⟨[], x, y, rfl⟩
  | x :: y :: z :: r, _ => by
    obtain ⟨ys, u, v, e⟩ := two_back (xs := y :: z :: r) (by simp)
    exact ⟨x :: ys, u, v, by rw [e]; rfl⟩
def endRule (K : PySem.W.Frag) (H : Hp) (ws : List Str) (Q : VK) (E : XK) : Option RB → Prop
  | some r => ∀ t F H', Ow H' (.ref t) (rbD r) F → (∀ a, F a → H a = none) → Off (fun _ => False) H H' → Q (.ref t) H'
  | none => Raised K H E "Unreadable" (.str (Txt.join " " ws))
def spRuleG (K : PySem.W.Frag) : Sp := fun vs H Q E => ∃ (l : Addr) (ws : List Str), vs = [.ref l] ∧ SqL K H l (ws.map V.str) ∧ ws ≠ [] ∧ ws.length ≤ 4001 ∧ (Txt.join " " ws).length ≤ 4000 ∧ endRule K H ws Q E (ruleOf ws)
section
variable {P : Program} {w : World} {K : PySem.W.Frag} {mg : Str → Option Value} {base : Heap}
theorem scRuleOf : FnScope ["words"] ["words"] (defScope pRuleOf) := ⟨rfl, rfl, rfl, by decide +kernel, rfl, by decide +kernel, by decide +kernel⟩
theorem ok_ruleG {f : Addr} {fd dE : FuncData} (F : FnP K "rule_of" pRuleOf f fd) (T : ErrT P w K mg base dE) (ml : mg "len" = none) : FnOk P w K mg base (L2N.CX P w) 3 f fd ["words"] (spRuleG K) := by
  have t1 := T.es.ok "Unreadable" (by decide)
  have g1 := T.g "Unreadable" (by decide)
  refine F.ok scRuleOf (fun vs H Q E h => ?_) (fun cdv A outer s H vs Q E hr h => ?_)
  · obtain ⟨l, ws, rfl, _⟩ := h
    rfl
  obtain ⟨l, ws, rfl, sl, ne, lw, lj, q⟩ := h
  refine ⟨_, pss_cons (ps_if (PW.pt (pw_and (pt_cmpR op_eq (pe_ix ix_list (pv 0) pe_int (fun _ _ => rfl)) pe_str (nomark _)) (pw_and1 (pt_cmpR op_ge (pe_callB call_len_seq rfl ml boot_len (pa_cons (pv 0) pa_nil)) pe_int (nomark _)))))
      (pss_one (ps_ret (pe_tup (pa_cons pe_str (pa_cons (pe_ix ix_list (pv 0) pe_int (fun _ _ => rfl)) (pa_cons (pe_slice sl_list (pv 0) (po_some pe_int) po_none) pa_nil)))))) pss_nil)
    (pss_cons (ps_if (PW.pt (pw_and (pt_cmpR op_eq (pe_ix ix_list (pv 0) pe_int (fun _ _ => rfl)) pe_str (nomark _)) (pw_and (pt_cmpR op_ge (pe_callB call_len_seq rfl ml boot_len (pa_cons (pv 0) pa_nil)) pe_int (nomark _))
        (pw_and1 (pt_cmpR op_eq (pe_ix ix_list (pv 0) (pe_un un_neg pe_int) (fun _ _ => rfl)) pe_str (nomark _))))))
      (pss_one (ps_ret (pe_tup (pa_cons pe_str (pa_cons (pe_ix ix_list (pv 0) pe_int (fun _ _ => rfl)) (pa_cons (pe_slice sl_list (pv 0) (po_some pe_int) (po_some (pe_un un_neg pe_int))) (pa_cons (pe_ix ix_list (pv 0) (pe_un un_neg pe_int) (fun _ _ => rfl)) pa_nil))))))) pss_nil)
    (pss_one (L2N.ps_raise rfl (L2N.takes_of rfl rfl rfl rfl) (pmk_oexN t1.oex t1.ini t1.fn T.ini hr T.b rfl g1 (pa_cons (pe_join pe_str (pv 0)) pa_nil))))), ?_⟩
  have no : ¬ False := id
  obtain ⟨k, ws, rfl⟩ := List.exists_cons_of_ne_nil ne
  have sl : SqL K H l (V.str k :: ws.map V.str) := sl
  have a0 : atI (V.str k :: ws.map V.str) 0 = some (V.str k) := atI_nat (j := 0) rfl
  have len : ((V.str k :: ws.map V.str).length : Int) = (ws.length : Int) + 1 := by simp
  have ow : ∀ {k x : Str} {cs : List Str} {G : Hp} {m t : Addr}, G m = none → upd G m (.lst (cs.map V.str)) t = none → ∀ {zs : List V} {ds : List PyData}, OwAll (upd (upd G m (.lst (cs.map V.str))) t (.tup (V.str k :: V.str x :: V.ref m :: zs))) zs ds (fun _ => False) →
      Ow (upd (upd G m (.lst (cs.map V.str))) t (.tup (V.str k :: V.str x :: V.ref m :: zs))) (.ref t) (.tuple (.str k :: .str x :: colsD cs :: ds)) (fun a => a = m) := by
    intro k x cs G m t nm nt zs ds hz
    have em : upd (upd G m (.lst (cs.map V.str))) t (.tup (V.str k :: V.str x :: V.ref m :: zs)) m = some (.lst (cs.map V.str)) := (upd_ne (ne_of_none upd_same nt)).trans upd_same
    refine .tup upd_same (owc_str (owc_str (owc (.lst em (owAll_strs (fun _ z => z) cs) (fun z => z) fun b => ⟨.inl, fun z => z.elim id False.elim⟩) hz)))
  refine if_cut0 (fun σ' H' => σ' = [some (.ref l)] ∧ H' = H ∧ ¬ (k = "key" ∧ 1 ≤ ws.length)) (fun σ' H' g => ?_) (fun rest => ?_)
  rotate_left
  · refine ⟨_, rfl, l, _, 0, _, rfl, rfl, sl, a0, rfl, _, rfl, ite2 (fun c => ?_) (fun c => rest _ _ ⟨rfl, rfl, fun z => c (decide_eq_true (by rw [z.1]))⟩)⟩
    have ek : k = "key" := V.str.inj (of_decide_eq_true c)
    refine ⟨_, rfl, l, _, rfl, .inl sl, _, _, rfl, rfl, _, rfl, ite2 (fun c2 => ?_) (fun c2 => rest _ _ ⟨rfl, rfl, fun z => c2 (decide_eq_true (by rw [len]; omega))⟩)⟩
    have l1 : 1 ≤ ws.length := by
      have := of_decide_eq_true c2
      rw [len] at this
      omega
    obtain ⟨x, cs, rfl⟩ := List.exists_cons_of_ne_nil (List.length_pos_iff.mp l1)
    have a1 : atI (V.str k :: (x :: cs).map V.str) 1 = some (V.str x) := atI_nat (j := 1) rfl
    refine ⟨_, rfl, l, _, 1, _, rfl, rfl, sl, a1, _, rfl, _, rfl, l, _, rfl, sl, fun m nm => ⟨(by show 3 ≤ sizeLine; decide), fun t nt => ?_⟩⟩
    have ec : cutV (V.str k :: (x :: cs).map V.str) (some 2) none = cs.map V.str := by
      rw [cutV_tail (by decide)]
      rfl
    rw [ec] at nt ⊢
    rw [ruleOf_eq, if_pos ek] at q
    refine q t _ _ (ow nm nt ow0) (fun a z => ?_) ((Off.new nm).trans (Off.new nt))
    rw [z]
    exact nm
  obtain ⟨rfl, rfl, n1⟩ := g
  refine if_cut0 (fun σ' G => σ' = [some (.ref l)] ∧ G = H' ∧ ruleOf (k :: ws) = none) (fun σ' G g => ?_) (fun rest => ?_)
  rotate_left
  · have bad : ¬ (k = "settles" ∧ 3 ≤ ws.length ∧ atI (V.str k :: ws.map V.str) (-2) = some (.str ">")) → ruleOf (k :: ws) = none := by
      intro h
      rcases ws with _ | ⟨x, rest⟩
      · rfl
      · rw [ruleOf_eq, if_neg fun z => n1 ⟨z, Nat.succ_le_succ (Nat.zero_le _)⟩, if_neg]
        rintro ⟨z1, z2, z3⟩
        refine h ⟨z1, Nat.succ_le_succ z2, ?_⟩
        obtain ⟨ys, u, v, rfl⟩ := two_back z2
        have e : (ys ++ [u, v])[(ys ++ [u, v]).length - 2]? = some u := by simp
        rw [e] at z3
        cases z3
        have := atI_back (V.str k :: V.str x :: ys.map V.str) (.str ">") (.str v)
        simpa using this
    refine ⟨_, rfl, l, _, 0, _, rfl, rfl, sl, a0, rfl, _, rfl, ite2 (fun c => ?_) (fun c => rest _ _ ⟨rfl, rfl, bad fun z => c (decide_eq_true (by rw [z.1]))⟩)⟩
    have ek : k = "settles" := V.str.inj (of_decide_eq_true c)
    refine ⟨_, rfl, l, _, rfl, .inl sl, _, _, rfl, rfl, _, rfl, ite2 (fun c2 => ?_) (fun c2 => rest _ _ ⟨rfl, rfl, bad fun z => c2 (decide_eq_true (by rw [len]; omega))⟩)⟩
    have l3 : 3 ≤ ws.length := by
      have := of_decide_eq_true c2
      rw [len] at this
      omega
    obtain ⟨x, rest', rfl⟩ := List.exists_cons_of_ne_nil (l := ws) (fun z => by rw [z] at l3; exact absurd l3 (by decide))
    have l2 : 2 ≤ rest'.length := Nat.le_of_succ_le_succ l3
    obtain ⟨ys, u, v, rfl⟩ := two_back l2
    have sl : SqL K H' l (V.str k :: V.str x :: (ys.map V.str ++ [V.str u, V.str v])) := by
      have e : V.str k :: (x :: (ys ++ [u, v])).map V.str = V.str k :: V.str x :: (ys.map V.str ++ [V.str u, V.str v]) := by simp
      rw [← e]
      exact sl
    have e0 : (V.str k :: (x :: (ys ++ [u, v])).map V.str) = V.str k :: V.str x :: (ys.map V.str ++ [V.str u, V.str v]) := by simp
    have b0 : atI (V.str k :: V.str x :: (ys.map V.str ++ [V.str u, V.str v])) 0 = some (V.str k) := atI_nat (j := 0) rfl
    have b1' : atI (V.str k :: V.str x :: (ys.map V.str ++ [V.str u, V.str v])) 1 = some (V.str x) := atI_nat (j := 1) rfl
    have b2 : atI (V.str k :: V.str x :: (ys.map V.str ++ [V.str u, V.str v])) (-2) = some (V.str u) := atI_back (V.str k :: V.str x :: ys.map V.str) _ _
    have b1 : atI (V.str k :: V.str x :: (ys.map V.str ++ [V.str u, V.str v])) (-1) = some (V.str v) := by
      have := atI_last (V.str k :: V.str x :: (ys.map V.str ++ [V.str u])) (V.str v)
      simpa using this
    refine ⟨_, rfl, _, rfl, l, _, -2, _, rfl, rfl, sl, b2, rfl, _, rfl, ite2 (fun c3 => ?_) (fun c3 => rest _ _ ⟨rfl, rfl, bad fun z => ?_⟩)⟩
    rotate_left
    · rw [e0, b2] at z
      exact c3 (decide_eq_true (Option.some.inj z.2.2))
    have eu : u = ">" := V.str.inj (of_decide_eq_true c3)
    subst eu
    refine ⟨_, rfl, l, _, 1, _, rfl, rfl, sl, b1', _, rfl, _, rfl, _, rfl, _, rfl, l, _, rfl, sl, fun m nm => ?_⟩
    have ec : cutV (V.str k :: V.str x :: (ys.map V.str ++ [V.str ">", V.str v])) (some 2) (some (-2)) = ys.map V.str := cutV_mid _ _ _ _ _
    rw [show (-2 : Int) = -2 from rfl, ec] at *
    have k1 : Off (fun _ => False) H' (upd H' m (.lst (ys.map V.str))) := Off.new nm
    refine ⟨_, rfl, _, rfl, l, _, -1, _, rfl, rfl, sqL_off k1 sl, b1, (by show 4 ≤ sizeLine; decide), fun t nt => ?_⟩
    have er : ruleOf (k :: x :: (ys ++ [(">" : Str), v])) = some ([("settles" : Str), x], some (ys, [v])) := by
      rw [ruleOf_eq, if_neg (by rw [ek]; exact Ne.symm key_ne), if_pos]
      · have h1 : (ys ++ [(">" : Str), v]).length - 2 = ys.length := by simp
        have h2 : (ys ++ [(">" : Str), v]).length - 1 = (ys ++ [(">" : Str)]).length := by simp
        have h3 : ys ++ [(">" : Str), v] = (ys ++ [(">" : Str)]) ++ [v] := by simp
        rw [h1, h2, List.take_left, h3, List.drop_left]
      · refine ⟨ek, l2, ?_⟩
        simp
    rw [er] at q
    refine q t _ _ (ow nm nt (owc_str ow0)) (fun a z => ?_) (k1.trans (Off.new nt))
    rw [z]
    exact nm
  obtain ⟨rfl, rfl, n2⟩ := g
  rw [n2] at q
  refine ⟨⟨_, rfl⟩, _, rfl, _, l, k :: ws, rfl, rfl, .inl sl, ?_, raise_str t1 (Off.refl _ _) q⟩
  have z := sum_join " " (k :: ws)
  rw [sp1] at z ⊢
  omega
end
end LW
set_option Elab.async false
set_option linter.all false
set_option maxRecDepth 100000
set_option maxHeartbeats 0
/-! readings.py: tables_and_rules, of any text -/
namespace LW
open PySem PySem.Spec PyProof.Rows L2 KV
def endTR (K : PySem.W.Frag) (H : Hp) (Q : VK) (E : XK) : Option (List Tab × List RB) → Prop
  | some (ts, rs) => ∀ a b t H', Dp K H' (.ref a) (tabsD ts) → Dp K H' (.ref b) (rbsD rs) → SqT K H' t [.ref a, .ref b] → Off (fun _ => False) H H' → Q (.ref t) H'
  | none => ∀ y : Str, Raised K H E "Unreadable" (.str y)
def spTRG (K : PySem.W.Frag) : Sp := fun vs H Q E => ∃ (x : Str), vs = [.str x] ∧ Gd 3000 x ∧ endTR K H Q E (parseL (piecesOf x) [] [])
theorem for_cut {K : PySem.W.Frag} {te : TE} {g : TG} {tb B : TS} {D : Ends} {σ : L2.St} {H : Hp} (W : V → Hp → Prop)
    (hB : ∀ (D' : Ends) v H', D' = { D with nx := B D } → W v H' → ∃ a, v = .ref a ∧ (∃ xs, SqL K H' a xs) ∧ ∃ Wl : Nat → Nat → L2.St → Hp → Prop, (∃ m, Wl 0 m σ H') ∧ ∀ i m σ H, Wl i m σ H →
      ((Itl K a).stop i H ∧ D'.nx σ H) ∨ ((Itl K a).go i H ∧ ∃ N : L2.St → Hp → Prop, (∀ σ' H', N σ' H' → ∃ m', m' < m ∧ Wl (i + 1) m' σ' H') ∧ ∀ x H', (Itl K a).yld i H x H' → g x σ H' fun σ2 H2 => tb { D' with nx := N, ct := N, bk := D'.nx } σ2 H2))
    (hA : ∀ Q' : VK, (∀ v H', W v H' → Q' v H') → te σ H Q') : tSeq (tFor (iList K te) g tb) B D σ H := hA _ fun v H' h => hB _ v H' rfl h
theorem parse_rule {p k : Str} {ps ws : List Str} {ts : List Tab} {rs : List RB} (e : wordsOf p = k :: ws) (h : k ≠ "table") : parseL (p :: ps) ts rs = match ruleOf (k :: ws) with
    | none => none
    | some r => parseL ps ts (rs ++ [r]) := by
  rw [parseL, e]
  dsimp only
  rw [if_neg h]
  all_goals (cases ruleOf (k :: ws) <;> rfl)
theorem parse_table {p x c : Str} {ps cs : List Str} {ts : List Tab} (e : wordsOf p = ("table" : Str) :: x :: c :: cs) : parseL (p :: ps) ts [] = parseL ps (ts ++ [(x, c :: cs)]) [] := by
  rw [parseL, e]
  dsimp only
  rw [if_pos rfl]
  exact if_pos rfl
theorem parse_bad1 {p : Str} {ps ws : List Str} {ts : List Tab} {rs : List RB} (e : wordsOf p = ("table" : Str) :: ws) (h : rs ≠ []) : parseL (p :: ps) ts rs = none := by
  rw [parseL, e]
  dsimp only
  rw [if_pos rfl]
  rcases ws with _ | ⟨x, _ | ⟨c, cs⟩⟩
  · rfl
  · rfl
  · dsimp only
    rw [if_neg fun z => h (List.isEmpty_iff.mp z)]
theorem parse_bad2 {p : Str} {ps ws : List Str} {ts : List Tab} {rs : List RB} (e : wordsOf p = ("table" : Str) :: ws) (h : ws.length < 2) : parseL (p :: ps) ts rs = none := by
  rw [parseL, e]
  dsimp only
  rw [if_pos rfl]
  rcases ws with _ | ⟨x, _ | ⟨c, cs⟩⟩
  · rfl
  · rfl
  · simp at h
    omega
section
variable {P : Program} {w : World} {K : PySem.W.Frag} {mg : Str → Option Value} {base : Heap}
theorem scTR : FnScope ["text", "tables", "rules", "piece", "words"] ["text"] (defScope pTablesAndRules) := ⟨rfl, rfl, rfl, by decide +kernel, rfl, by decide +kernel, by decide +kernel⟩
theorem ok_TRG {f fO : Addr} {fd dE dO : FuncData} (F : FnP K "tables_and_rules" pTablesAndRules f fd) (T : ErrT P w K mg base dE) (GO : FnOk P w K mg base (L2N.CX P w) 3 fO dO ["words"] (spRuleG K)) (bO : Binds K dO ["words"] []) (mO : mg "rule_of" = some (.ref fO)) (kO : PySem.W.keepIn K (.ref fO) = true)
    (ml : mg "len" = none) : FnOk P w K mg base (L2N.CX P w) 4 f fd ["text"] (spTRG K) := by
  have t1 := T.es.ok "Unreadable" (by decide)
  have g1 := T.g "Unreadable" (by decide)
  refine F.ok scTR (fun vs H Q E h => ?_) (fun cdv A outer s H vs Q E hr h => ?_)
  · obtain ⟨x, rfl, _⟩ := h
    rfl
  obtain ⟨x, rfl, gx, q⟩ := h
  refine ⟨_, pss_cons (ps_set (i := 1) scTR.nd rfl (Or.inl rfl) (pe_lst pa_nil))
    (pss_cons (ps_set (i := 2) scTR.nd rfl (Or.inl rfl) (pe_lst pa_nil))
    (pss_cons (ps_for (passes_of rfl) rfl (pi_list (pe_ifExp (pt_truth (pv 0) (by intro _; rfl)) (pe_split (pv 0) pe_str) (pe_lst pa_nil))) (pg_name (i := 3) scTR.nd rfl (Or.inl rfl))
      (pss_cons (ps_set (i := 4) scTR.nd rfl (Or.inl rfl) (pe_split (pv 3) pe_str))
      (pss_one (ps_if (pt_cmpR op_ne (pe_ix ix_list (pv 4) pe_int (fun _ _ => rfl)) pe_str (nomark _))
        (pss_one (ps_expr (pe_bm PySem.F.plainAttrs_list PySem.F.slot_list_append PySem.F.type_list_append mt_append (pv 2) (pa_cons (pe_callS GO hr rfl mO kO bO (fun σ => L2N.passAt (L2N.takes_of rfl rfl rfl rfl) σ) (pa_cons (pv 4) pa_nil)) pa_nil))))
        (pss_one (ps_if (PW.pt (pw_or (pt_truth (pv 2) (by intro _; rfl)) (pw_or1 (pt_cmpR op_lt (pe_callB call_len_seq rfl ml boot_len (pa_cons (pv 4) pa_nil)) pe_int (nomark _)))))
          (pss_one (L2N.ps_raise rfl (L2N.takes_of rfl rfl rfl rfl) (pmk_oexN t1.oex t1.ini t1.fn T.ini (hr.mono (by decide)) T.b rfl g1 (pa_cons (pv 3) pa_nil))))
          (pss_one (ps_expr (pe_bm PySem.F.plainAttrs_list PySem.F.slot_list_append PySem.F.type_list_append mt_append (pv 1) (pa_cons (pe_tup (pa_cons (pe_ix ix_list (pv 4) pe_int (fun _ _ => rfl)) (pa_cons (pe_slice sl_list (pv 4) (po_some pe_int) po_none) pa_nil))) pa_nil))))))))))
    (pss_one (ps_ret (pe_tup (pa_cons (pv 1) (pa_cons (pv 2) pa_nil))))))), ?_⟩
  have no : ¬ False := id
  have s0 : 0 ≤ sizeLine := by decide
  obtain ⟨gp, lp⟩ := pieces_gd gx
  refine ⟨s0, fun l1 n1 => ⟨s0, fun l2 n2 => ?_⟩⟩
  have k1 : Off (fun _ => False) H (upd H l1 (.lst [])) := Off.new n1
  have k2 : Off (fun _ => False) (upd H l1 (.lst [])) (upd (upd H l1 (.lst [])) l2 (.lst [])) := Off.new n2
  have ne12 : l1 ≠ l2 := ne_of_none (upd_same (H := H) (a := l1) (o := .lst [])) n2
  have nH1 : H l1 = none := n1
  have nH2 : H l2 = none := k1.none n2 no
  generalize hB0 : upd (upd H l1 (.lst [])) l2 (.lst []) = B0 at k2 ⊢
  have b10 : B0 l1 = some (.lst []) := k2 _ _ upd_same no
  have b20 : B0 l2 = some (.lst []) := by rw [← hB0]; exact upd_same
  have kB0 := k1.trans k2
  dsimp only [gName]
  refine for_cut (fun v G => ∃ sp, v = .ref sp ∧ B0 sp = none ∧ G = upd B0 sp (.lst ((piecesOf x).map V.str))) (fun D' v G eD g => ?_) (fun Q' qq => ?_)
  rotate_left
  · by_cases hx : x.length = 0
    · have ep : piecesOf x = [] := if_pos hx
      refine ⟨_, rfl, false, ⟨Nat.le_trans gx.2 (by decide), by rw [hx]; rfl⟩, iteF ⟨s0, fun sp nsp => qq _ _ ⟨sp, rfl, nsp, by rw [ep]; rfl⟩⟩⟩
    · have ep : piecesOf x = Txt.split x "; " := if_neg hx
      have pos : ((x.length : Int) != 0) = true := by
        rw [bne_iff_ne]
        omega
      refine ⟨_, rfl, true, ⟨Nat.le_trans gx.2 (by decide), pos.symm⟩, iteT ⟨_, rfl, ⟨_, rfl⟩, _, _, rfl, rfl, (by decide +kernel), Nat.le_trans (m := 3002) (Nat.add_le_add_right gx.2 2) (by decide), fun sp nsp => qq _ _ ⟨sp, rfl, nsp, by rw [ep]⟩⟩⟩
  obtain ⟨sp, rfl, nsp, rfl⟩ := g
  generalize hPS : piecesOf x = PS at q gp lp ⊢
  have k3 : Off (fun _ => False) B0 (upd B0 sp (.lst (PS.map V.str))) := Off.new nsp
  have b1 := k3 _ _ b10 no
  have b2 := k3 _ _ b20 no
  have b3 := upd_same (H := B0) (a := sp) (o := .lst (PS.map V.str))
  have kB := kB0.trans k3
  have ne1s : l1 ≠ sp := ne_of_none b10 nsp
  have ne2s : l2 ≠ sp := ne_of_none b20 nsp
  generalize upd B0 sp (.lst (PS.map V.str)) = B at b1 b2 b3 kB ⊢
  refine ⟨sp, rfl, ⟨_, SqL.of b3⟩, for_list (K := K) (a := sp) (xs := PS.map V.str) (fun i σ G => ∃ w3 w4 xs ys Ft Fr ts rs, σ = [some (.str x), some (.ref l1), some (.ref l2), w3, w4] ∧ G l1 = some (.lst xs) ∧ OwAll G xs (ts.map tabD) Ft ∧ (∀ a, Ft a → B a = none) ∧
      G l2 = some (.lst ys) ∧ OwAll G ys (rs.map rbD) Fr ∧ (∀ a, Fr a → B a = none) ∧ Off (fun a => a = l1 ∨ a = l2) B G ∧ parseL PS [] [] = parseL (PS.drop i) ts rs ∧ ts.length + rs.length = i)
    ⟨none, none, [], [], fun _ => False, fun _ => False, [], [], rfl, b1, OwAll.nil fun _ z => z, fun _ z => z.elim, b2, OwAll.nil fun _ z => z, fun _ z => z.elim, Off.refl _ _, rfl, rfl⟩ (fun i σ G _ g => ?_) (fun i y σ G hx g => ?_) fun σ G g => ?_⟩
  · obtain ⟨_, _, _, _, _, _, _, _, _, _, _, _, _, _, _, k, _⟩ := g
    exact SqL.of (k _ _ b3 fun z => z.elim (fun z => ne1s z.symm) fun z => ne2s z.symm)
  · obtain ⟨w3, w4, xs, ys, Ft, Fr, ts, rs, rfl, e1, o1, f1, e2, o2, f2, k, ep, lt⟩ := g
    rw [List.getElem?_map] at hx
    obtain ⟨p, hp, rfl⟩ := Option.map_eq_some_iff.mp hx
    have hi : i < PS.length := (List.getElem?_eq_some_iff.mp hp).1
    have gpp := gp p (List.mem_of_getElem? hp)
    obtain ⟨gw, lw⟩ := words_gd gpp
    obtain ⟨kw, ws, ew⟩ := words_ne p
    rw [ew] at gw lw
    rw [drop_cons hp] at ep
    have lx := o1.length
    have ly := o2.length
    rw [List.length_map] at lx ly
    have fresh : ∀ {G' : Hp}, Off (fun _ => False) G G' → ∀ a, G' a = none → B a = none := fun k' a z => by
      have z1 := k'.none z no
      cases q0 : B a with
      | none => rfl
      | some o =>
        by_cases c : a = l1 ∨ a = l2
        · rcases c with rfl | rfl
          · rw [e1] at z1; cases z1
          · rw [e2] at z1; cases z1
        · rw [k a o q0 c] at z1
          cases z1
    have kHG : Off (fun _ => False) H G := fun a o ea _ => k a o (kB a o ea no) fun z => by
      rcases z with rfl | rfl
      · rw [nH1] at ea
        cases ea
      · rw [nH2] at ea
        cases ea
    refine ⟨_, rfl, ⟨_, rfl⟩, _, _, rfl, rfl, (by decide +kernel), Nat.le_trans (m := 3002) (Nat.add_le_add_right gpp.2 2) (by decide), fun m nm => ?_⟩
    rw [show Txt.split p " " = kw :: ws from ew]
    have km : Off (fun _ => False) G (upd G m (.lst ((kw :: ws).map V.str))) := Off.new nm
    have em := upd_same (H := G) (a := m) (o := .lst ((kw :: ws).map V.str))
    generalize upd G m (.lst ((kw :: ws).map V.str)) = G1 at km em ⊢
    have em : G1 m = some (.lst (V.str kw :: ws.map V.str)) := em
    have e1m := km _ _ e1 no
    have e2m := km _ _ e2 no
    refine ⟨_, rfl, m, _, 0, _, rfl, rfl, SqL.of em, atI_nat (j := 0) rfl, rfl, _, rfl, ?_⟩
    by_cases hk : kw = "table"
    · rw [decide_eq_true (show V.str kw = V.str "table" by rw [hk])]
      refine iteF ?_
      rw [hk] at ew
      by_cases hr : rs = []
      · subst hr
        have ey : ys = [] := List.length_eq_zero_iff.mp (by simpa using ly)
        subst ey
        refine ⟨_, rfl, false, .inl ⟨[], SqL.of e2m, rfl⟩, iteF ⟨_, rfl, m, _, rfl, .inl (SqL.of em), _, _, rfl, rfl, _, rfl, ite2 (fun c => ?_) (fun c => ?_)⟩⟩
        · have l2 : ws.length < 2 := by
            have := of_decide_eq_true c
            simp at this
            omega
          rw [ep, parse_bad2 ew l2] at q
          exact ⟨_, rfl, raise_str t1 (kHG.trans km) (q p)⟩
        · have l2 : 2 ≤ ws.length := by
            rcases Nat.lt_or_ge ws.length 2 with z | z
            · refine absurd ?_ c
              refine decide_eq_true ?_
              simp
              omega
            · exact z
          obtain ⟨x0, c0, cs, rfl⟩ : ∃ x0 c0 cs, ws = x0 :: c0 :: cs := by
            match ws, l2 with
            | x0 :: c0 :: cs, _ => exact ⟨x0, c0, cs, rfl⟩
          rw [parse_table ew] at ep
          refine ⟨_, rfl, .inl ⟨rfl, _, SqL.of e1m⟩, _, rfl, m, _, 1, _, rfl, rfl, SqL.of em, atI_nat (j := 1) rfl, _, rfl, _, rfl, m, _, rfl, SqL.of em, fun m2 nm2 => ⟨(by show 2 ≤ sizeLine; decide), fun pt np => ?_⟩⟩
          have ec : cutV (V.str kw :: (x0 :: c0 :: cs).map V.str) (some 2) none = (c0 :: cs).map V.str := by
            rw [cutV_tail (by decide)]
            rfl
          rw [ec] at np
          rw [ec]
          have k5 : Off (fun _ => False) G1 (upd G1 m2 (.lst ((c0 :: cs).map V.str))) := Off.new nm2
          have k6 : Off (fun _ => False) (upd G1 m2 (.lst ((c0 :: cs).map V.str))) (upd (upd G1 m2 (.lst ((c0 :: cs).map V.str))) pt (.tup [V.str x0, V.ref m2])) := Off.new np
          have em2 := k6 _ _ (upd_same (H := G1) (a := m2) (o := .lst ((c0 :: cs).map V.str))) no
          have fm2 : B m2 = none := fresh km m2 nm2
          have op : Ow (upd (upd G1 m2 (.lst ((c0 :: cs).map V.str))) pt (.tup [V.str x0, V.ref m2])) (.ref pt) (tabD (x0, c0 :: cs)) (fun a => a = m2) :=
            .tup upd_same (owc_str (owc (.lst em2 (owAll_strs (fun _ z => z) (c0 :: cs)) (fun z => z) fun b => ⟨.inl, fun z => z.elim id False.elim⟩) ow0))
          have kG := (km.trans k5).trans k6
          generalize upd (upd G1 m2 (.lst ((c0 :: cs).map V.str))) pt (.tup [V.str x0, V.ref m2]) = G2 at op kG ⊢
          have e1' := kG _ _ e1 no
          refine ⟨l1, _, _, rfl, rfl, e1', by rw [lx]; exact small4000 (by omega), ?_⟩
          have kl : Off (fun a => a = l1) G2 (upd G2 l1 (.lst (xs ++ [.ref pt]))) := Off.upd rfl
          have hgl : ∀ a, a = l1 → ∃ xs, G2 a = some (.lst xs) := fun a z => ⟨xs, by rw [z]; exact e1'⟩
          have b1' : ∀ a, Ft a → ¬ a = l1 := fun a z y => by have q0 := f1 a z; rw [y, b1] at q0; cases q0
          have o1' := (o1.keep kG (fun _ z => z.elim) fun _ _ z => z)
          refine ⟨_, _, xs ++ [.ref pt], [], fun a => Ft a ∨ a = m2, fun _ => False, ts ++ [(x0, c0 :: cs)], [], rfl, upd_same, ?_, fun a z => z.elim (f1 a) fun y => y ▸ fm2, ?_, OwAll.nil fun _ z => z, fun _ z => z.elim, fun a o ea na => ?_, ep, by simp at lt ⊢; omega⟩
          · rw [List.map_append]
            refine OwAll.snoc (o1'.keep kl hgl b1') (op.keep kl hgl fun a z y => ?_) (fun a z y => ?_) fun a => Iff.rfl
            · rw [z] at y
              rw [y, b1] at fm2
              cases fm2
            · obtain ⟨xs', z1⟩ := o1.dom a z
              rw [y] at z1
              have := km.none nm2 no
              rw [z1] at this
              cases this
          · rw [upd_ne (fun z => ne12 z.symm)]
            exact kG _ _ e2 no
          · rw [upd_ne (fun z => na (.inl z))]
            exact kG _ _ (k a o ea na) no
      · have ey : ys ≠ [] := fun z => hr (List.length_eq_zero_iff.mp (by rw [← ly, z]; rfl))
        rw [ep, parse_bad1 ew hr] at q
        refine ⟨_, rfl, true, .inl ⟨ys, SqL.of e2m, ?_⟩, iteT ⟨_, rfl, raise_str t1 (kHG.trans km) (q p)⟩⟩
        have := List.length_pos_iff.mpr ey
        simp
        omega
    · rw [decide_eq_false (fun z => hk (V.str.inj z))]
      rw [parse_rule ew hk] at ep
      have jl : (Txt.join " " (kw :: ws)).length ≤ 4000 := by
        rw [← ew, join_words]
        exact Nat.le_trans gpp.2 (by decide)
      refine iteT ⟨_, rfl, .inl ⟨rfl, _, SqL.of e2m⟩, _, rfl, m, kw :: ws, rfl, SqL.of em, by simp, Nat.le_trans lw (by decide), jl, ?_⟩
      cases hq : ruleOf (kw :: ws) with
      | none =>
        rw [hq] at ep
        rw [ep] at q
        exact (q _).off (kHG.trans km)
      | some r =>
        rw [hq] at ep
        intro pt Fp G2 op fp k5
        have kG := km.trans k5
        have e2' := kG _ _ e2 no
        refine ⟨l2, _, _, rfl, rfl, e2', by rw [ly]; exact small4000 (by omega), ?_⟩
        have kl : Off (fun a => a = l2) G2 (upd G2 l2 (.lst (ys ++ [.ref pt]))) := Off.upd rfl
        have hgl : ∀ a, a = l2 → ∃ xs, G2 a = some (.lst xs) := fun a z => ⟨ys, by rw [z]; exact e2'⟩
        have b1' : ∀ a, Ft a → ¬ a = l2 := fun a z y => by have q0 := f1 a z; rw [y, b2] at q0; cases q0
        have b2' : ∀ a, Fr a → ¬ a = l2 := fun a z y => by have q0 := f2 a z; rw [y, b2] at q0; cases q0
        have o1' := (o1.keep kG (fun _ z => z.elim) fun _ _ z => z)
        have o2' := (o2.keep kG (fun _ z => z.elim) fun _ _ z => z)
        refine ⟨_, _, xs, ys ++ [.ref pt], Ft, fun a => Fr a ∨ Fp a, ts, rs ++ [r], rfl, ?_, o1'.keep kl hgl b1', f1, upd_same, ?_, fun a z => z.elim (f2 a) fun y => fresh km a (fp a y), fun a o ea na => ?_, ep, by rw [List.length_append]; show ts.length + (rs.length + 1) = i + 1; omega⟩
        · rw [upd_ne ne12]
          exact kG _ _ e1 no
        · rw [List.map_append]
          refine OwAll.snoc (o2'.keep kl hgl b2') (op.keep kl hgl fun a z y => ?_) (fun a z y => ?_) fun a => Iff.rfl
          · have := fp a z
            rw [y, km _ _ e2 no] at this
            cases this
          · obtain ⟨xs', z1⟩ := o2.dom a z
            have := fp a y
            rw [km _ _ z1 no] at this
            cases this
        · rw [upd_ne (fun z => na (.inr z))]
          exact kG _ _ (k a o ea na) no
  · obtain ⟨w3, w4, xs, ys, Ft, Fr, ts, rs, rfl, e1, o1, f1, e2, o2, f2, k, ep, _⟩ := g
    rw [List.length_map, List.drop_length] at ep
    rw [ep] at q
    subst eD
    refine ⟨_, rfl, _, rfl, (by show 2 ≤ sizeLine; decide), fun t nt => ?_⟩
    have kt : Off (fun _ => False) G (upd G t (.tup [.ref l1, .ref l2])) := Off.new nt
    refine q l1 l2 t _ (.lst (SqL.of (kt _ _ e1 no)) (dpAll_off kt o1.dp)) (.lst (SqL.of (kt _ _ e2 no)) (dpAll_off kt o2.dp)) (SqT.of upd_same) fun a o ea _ => ?_
    refine kt a o (k a o (kB a o ea no) fun z => ?_) no
    rcases z with rfl | rfl
    · rw [nH1] at ea
      cases ea
    · rw [nH2] at ea
      cases ea
end
end LW
set_option Elab.async false
set_option linter.all false
set_option maxRecDepth 100000
set_option maxHeartbeats 0
/-! readings.py: read_book, of any text -/
namespace LW
open PySem PySem.Spec PyProof.Rows L2 KV
/-- the book that a text is -/
def readOf (x : Str) : Option (List Tab × List RB) := match parseL (piecesOf x) [] [] with
  | some (ts, rs) => if (wrongBook ts rs).isNone then some (ts, rs) else none
  | none => none
def endRead (K : PySem.W.Frag) (H : Hp) (x : Str) (Q : VK) (E : XK) : Option (List Tab × List RB) → Prop
  | some (ts, rs) => ∀ b H' F, BookOw K H' b ts rs F → (∀ a, F a → H a = none) → H b = none → Off (fun _ => False) H H' → Q (.ref b) H'
  | none => Raised K H E "Unreadable" (.str x)
def spReadG (K : PySem.W.Frag) : Sp := fun vs H Q E => ∃ (x : Str), vs = [.str x] ∧ Gd 3000 x ∧ endRead K H x Q E (readOf x)
section
variable {P : Program} {w : World} {K : PySem.W.Frag} {mg : Str → Option Value} {base : Heap}
theorem ok_initH {f : Addr} {fd : FuncData} (F : FunD K "__init__" "KeyTellError.__init__" (defArgs pKeyTellError_init) (defBody pKeyTellError_init) (defScope pKeyTellError_init) [] [] f fd) :
    L2H.FnH P w K mg base CX0 1 f fd ["self", "value"] (spInit K "value") := by
  obtain ⟨oc, od, dV, kV, doc, pm, an, cdv, ct, osl, rfl, lk, hcd, hD, hK⟩ := F.ex
  refine L2H.fn_ofH lk hcd scInit (fun vs H Q E h => ?_) (fun A outer s H vs Q E p hot hr h => ?_)
  · obtain ⟨a, C, v, rfl, _⟩ := h
    rfl
  obtain ⟨a, C, v, rfl, T, no, e, q⟩ := h
  refine ⟨_, pss_one (ps_ost (pv 0) (pv 1)), ?_⟩
  exact ⟨_, rfl, _, rfl, a, C, rfl, T, no, .inl ⟨e, fun dx h1 h2 => q dx h1 h2⟩⟩
theorem scRead : FnScope ["text", "tables", "rules"] ["text"] (defScope pReadBook) := ⟨rfl, rfl, rfl, by decide +kernel, rfl, by decide +kernel, by decide +kernel⟩
theorem ok_readG {f fT : Addr} {fd dT dB dE : FuncData} (F : FnP K "read_book" pReadBook f fd) (B : BookT K mg) (T : ErrT P w K mg base dE) (TH : L2H.FnH P w K mg base CX0 1 (He.ma K (He.ga K "KeyTellError") "__init__") dE ["self", "value"] (spInit K "value")) (GT : FnOk P w K mg base (L2N.CX P w) 4 fT dT ["text"] (spTRG K)) (bT : Binds K dT ["text"] []) (mT : mg "tables_and_rules" = some (.ref fT)) (kT : PySem.W.keepIn K (.ref fT) = true)
    (GB : FnOk P w K mg base (L2N.CX P w) 8 (He.ma K (He.ga K "Book") "__init__") dB ["self", "tables", "rules"] (spBook K)) (bB : Binds K dB ["self", "tables", "rules"] []) (gE : mg "KeyTellError" = some (.ref (He.ga K "KeyTellError")))
    (ex : ∀ y ∈ names.tail, PySem.W.exmOne K (.ref (He.ga K y)) (.ref (He.ga K "KeyTellError")) = some true) : FnOk P w K mg base (L2.CX P w) 10 f fd ["text"] (spReadG K) := by
  have t1 := T.es.ok "Unreadable" (by decide)
  have g1 := T.g "Unreadable" (by decide)
  refine F.ok scRead (fun vs H Q E h => ?_) (fun cdv A outer s H vs Q E hr h => ?_)
  · obtain ⟨x, rfl, _⟩ := h
    rfl
  obtain ⟨x, rfl, gx, q⟩ := h
  refine ⟨_, pss_one (L2H.ps_try_onlyX rfl rfl ⟨rfl, by decide, .inl gE⟩ (fun hd => by passes_own) (takes_of rfl rfl rfl rfl) (fun W pn xe tk _ _ =>
      pss_cons (ps_asg (pe_callS GT (hr.mono (by decide)) rfl mT kT bT (fun σ => L2N.passAt tk σ) (pa_cons (pv 0) pa_nil)) (show PG _ _ (gTup K 2 (gCons (gName 1) (gCons (gName 2) gNil))) from pg_tup rfl (pgs_cons (pg_name (i := 1) scRead.nd rfl (Or.inl rfl)) (pgs_cons (pg_name (i := 2) scRead.nd rfl (Or.inl rfl)) pgs_nil))))
      (pss_one (ps_ret (pe_makeS B.mkr GB hr rfl B.g bB (fun σ => L2N.passAt tk σ) (pa_cons (pv 1) (pa_cons (pv 2) pa_nil))))))
    (fun a oe cls d pn _ _ tk hot => pss_one (L2H.ps_raiseHN hot tk (L2H.pmk5_oexH t1.oex t1.ini t1.fn TH (L2H.roomH_mark (hr.mono (by decide)) _) hot T.b pass0 rfl g1 (pa_cons (pv 0) pa_nil))))), ?_⟩
  have no : ¬ False := id
  obtain ⟨gp, lp⟩ := pieces_gd gx
  refine ⟨_, rfl, x, rfl, gx, ?_⟩
  cases hp : parseL (piecesOf x) [] [] with
  | none =>
    have er : readOf x = none := by
      unfold readOf
      rw [hp]
    rw [er] at q
    intro y u Fo d H' k nd ed o fr
    refine ⟨true, ex "Unreadable" (by decide), fun _ a na => ⟨_, rfl, raise_str t1 k q⟩, fun z => nomatch z⟩
  | some z =>
    obtain ⟨ts, rs⟩ := z
    obtain ⟨bt, br, ln⟩ := parse_gd (n := 3000) (by decide) hp gp (fun t h => absurd h (by simp)) (fun r h => absurd h (by simp))
    have ln : ts.length + rs.length = (piecesOf x).length := by simpa using ln
    have bb : BkB 3000 3001 3001 3000 3001 3001 ts rs := ⟨⟨by omega, bt⟩, br, by decide, by decide, by decide, by decide, by omega, by decide⟩
    intro a b t H1 da db sq k1
    refine ⟨t, [.ref a, .ref b], rfl, sq, rfl, .ref a, [.ref b], rfl, .ref b, [], rfl, rfl, ?_⟩
    refine ⟨_, rfl, _, rfl, made_of da db bb ?_⟩
    cases hw : wrongBook ts rs with
    | none =>
      have er : readOf x = some (ts, rs) := by
        unfold readOf
        rw [hp]
        dsimp only
        rw [hw]
        rfl
      rw [er] at q
      exact fun x H' F' bo fr nx k => q x H' F' bo (fun a z => k1.none (fr a z) no) (k1.none nx no) (k1.trans k)
    | some z =>
      obtain ⟨y, e⟩ := z
      have er : readOf x = none := by
        unfold readOf
        rw [hp]
        dsimp only
        rw [hw]
        rfl
      rw [er] at q
      intro u Fo d H' k nd ed o fr
      exact ⟨true, ex y (wrongBook_mem hw), fun _ a na => ⟨_, rfl, raise_str t1 (k1.trans k) q⟩, fun z => nomatch z⟩
end
end LW
set_option Elab.async false
set_option linter.all false
set_option maxRecDepth 100000
set_option maxHeartbeats 0
/-! k54: _law_is_title, _law_is_rule -/
namespace LW
open PySem PySem.Spec PyProof.Rows L2 KV
theorem cutV_b2 (xs : List V) (u v : V) : cutV (xs ++ [u, v]) none (some (-2)) = xs := by
  unfold cutV
  have l : (xs ++ [u, v]).length = xs.length + 2 := by simp
  have h1 : HT.sIx (xs ++ [u, v]).length 0 none = 0 := rfl
  have h2 : HT.sIx (xs ++ [u, v]).length (xs ++ [u, v]).length (some (-2)) = xs.length := by
    rw [l]
    simp [HT.sIx]
    omega
  rw [h1, h2]
  simp
theorem cutV_b1 (xs : List V) (u v : V) : cutV (xs ++ [u, v]) (some (-1)) none = [v] := by
  unfold cutV
  have l : (xs ++ [u, v]).length = xs.length + 2 := by simp
  have h1 : HT.sIx (xs ++ [u, v]).length 0 (some (-1)) = xs.length + 1 := by
    rw [l]
    simp [HT.sIx]
    omega
  have h2 : HT.sIx (xs ++ [u, v]).length (xs ++ [u, v]).length none = (xs ++ [u, v]).length := rfl
  rw [h1, h2]
  have e2 : xs.length + 1 = (xs ++ [u]).length := by simp
  have e : (xs ++ [u, v]).drop (xs.length + 1) = [v] := by
    rw [show xs ++ [u, v] = (xs ++ [u]) ++ [v] by simp, e2, List.drop_left]
  rw [e, l]
  simp
theorem filter_all {cs : List Str} {p : Str → Bool} : (cs.filter fun c => !p c).isEmpty = cs.all p := by
  induction cs with
  | nil => rfl
  | cons c cs ih =>
    rw [List.filter_cons, List.all_cons]
    cases p c with
    | true => simpa using ih
    | false => rfl
/-- tables by title, as a dict -/
def spIsR (K : PySem.W.Frag) : Sp := fun vs H Q _ => ∃ (x : Str) (d : Addr) (kvs : List (Key × V)) (ts : List Tab), vs = [.str x, .ref d] ∧ Gd 3000 x ∧ H d = some (.dK kvs) ∧ TitK K H kvs ts ∧ (∀ t ∈ ts, TabB 3000 3001 t) ∧ ∀ H', Off (fun _ => False) H H' → Q (.bl (isRuleL ts (wordsOf x))) H'
section
variable {P : Program} {w : World} {K : PySem.W.Frag} {mg : Str → Option Value} {base : Heap}
theorem scIsT : FnScope ["wording", "letters", "sign"] ["wording"] (defScope sIsTitle) := ⟨rfl, rfl, rfl, by decide +kernel, rfl, by decide +kernel, by decide +kernel⟩
theorem ok_isT {f : Addr} {fd : FuncData} (F : FnP K "_law_is_title" sIsTitle f fd) (ml : mg "len" = none) :
    FnOk P w K mg base CX0 1 f fd ["wording"] spIsT := by
  refine F.ok scIsT (fun vs H Q E h => ?_) (fun cdv A outer s H vs Q E hr h => ?_)
  · obtain ⟨x, rfl, _⟩ := h
    rfl
  obtain ⟨x, rfl, ha, hx, q⟩ := h
  have hu : (A.deeper (envOfC "_law_is_title" (defScope sIsTitle) s.heap.objs.size f cdv)).units + 64 < cLine := hr.units
  refine ⟨_, pss_cons (ps_set (i := 1) scIsT.nd rfl (Or.inr rfl) pe_str)
    (pss_one (ps_ret (pe_and (pe_chain op_lt op_lt pe_int (pe_callB call_len_str rfl ml boot_len (pa_cons (pv 0) pa_nil)) pe_int)
      (pe_one (pe_cmpR (op_eqD hu) (pe_lc (own := [("sign", 2)]) (g := gName 2) rfl scIsT.nd (pi_str (pv 0))
          (blkOk_by (own := [("sign", 2)]) (N := ["wording", "letters", "sign"]) (sc := defScope sIsTitle) (by decide +kernel))
          (fun _ _ _ _ _ => pg_name (i := 2) scIsT.nd rfl (Or.inl rfl)) (fun _ _ _ _ _ => pts_one (pt_cmpR op_notIn_sign (pv 2) (pv 1) rfl))
          (fun _ _ _ _ _ => pv 2)) (pe_lst pa_nil) (nomark _)))))), ?_⟩
  have no : ¬ False := fun z => z
  have xl : x.length ≤ sizeLine := Nat.le_trans hx (by decide)
  refine ⟨_, rfl, x, rfl, xl, _, _, rfl, rfl, _, rfl, ite2 (fun c1 => ⟨_, _, rfl, rfl, _, rfl, ite2 (fun c2 => ?_) (fun c2 => ?_)⟩) (fun c1 => ⟨_, rfl, iteF ?_⟩)⟩
  rotate_left
  · have e : isT x = false := by
      have : ¬ x.length < 9 := fun z => c2 (decide_eq_true (by omega))
      simp [isT, this]
    rw [← e]
    exact q H (Off.refl _ _)
  · have e : isT x = false := by
      have : ¬ 0 < x.length := fun z => c1 (decide_eq_true (by omega))
      simp [isT, this]
    rw [← e]
    exact q H (Off.refl _ _)
  have l1 : 0 < x.length := by
    have := of_decide_eq_true c1
    omega
  have l2 : x.length < 9 := by
    have := of_decide_eq_true c2
    omega
  have lt : x.cps.toList.length = x.length := by simp [Str.length]
  refine ⟨_, rfl, x, rfl, fun D hD => lc_str (x := x) (fun i H' => H' D = some (.lst (((x.cps.toList.take i).filter fun c => !small c).map fun c => V.str (tx [c]))) ∧ Off (fun _ => False) H H') ⟨upd_same, Off.new hD⟩
    (fun i c H' hc g => ?_) fun H' g => ?_⟩
  · obtain ⟨g1, g2⟩ := g
    refine ⟨rfl, Exists.intro _ ⟨rfl, Exists.intro _ ⟨rfl, c, _, rfl, rfl, ?_⟩⟩⟩
    rw [abc_mem]
    rw [List.take_add_one, hc, List.filter_append]
    refine ⟨_, rfl, ite2 (fun b => ?_) (fun b => ?_)⟩
    · have lf : ((x.cps.toList.take i).filter fun c => !small c).length ≤ 9 := Nat.le_trans (List.length_filter_le _ _) (by rw [List.length_take]; omega)
      refine ⟨_, rfl, _, g1, by rw [List.length_map]; exact small4000 (by omega), ?_, fun a u ea na => ?_⟩
      · rw [upd_same]
        have : List.filter (fun c => !small c) (some c).toList = [c] := by simp [Option.toList, b]
        rw [this, List.map_append]
        rfl
      · rw [upd_ne (fun z => by rw [z, hD] at ea; cases ea)]
        exact g2 a u ea na
    · have : List.filter (fun c => !small c) (some c).toList = [] := by simp [Option.toList] at b ⊢; exact b
      rw [this, List.append_nil]
      exact ⟨g1, g2⟩
  · obtain ⟨g1, g2⟩ := g
    rw [List.take_length] at g1
    refine ⟨by decide, fun D2 hD2 => ?_⟩
    have k2 : Off (fun _ => False) H' (upd H' D2 (.lst [])) := Off.new hD2
    have em : (x.cps.toList.filter fun c => !small c).map (fun c => V.str (tx [c])) = ((x.cps.toList.filter fun c => !small c).map fun c => tx [c]).map V.str := by rw [List.map_map]; rfl
    rw [em] at g1
    refine ⟨.list (((x.cps.toList.filter fun c => !small c).map fun c => tx [c]).map PyData.str), .list [], .lst (SqL.of (k2 _ _ g1 no)) (dp_strs _), .lst (SqL.of upd_same) .nil, shaped_strs fun y hy => ?_, by decide +kernel, ?_⟩
    · obtain ⟨c, hc, rfl⟩ := List.mem_map.mp hy
      intro d hd
      rw [tx_cps, List.mem_singleton] at hd
      rw [hd]
      exact ha c ((List.mem_filter.mp hc).1)
    · rw [eqv_nil]
      have e : isT x = (((x.cps.toList.filter fun c => !small c).map fun c => tx [c]).map PyData.str).isEmpty := by
        have f := filt_small x.cps.toList
        unfold isT
        rw [decide_eq_true l1, decide_eq_true l2, Bool.true_and, Bool.true_and, ← f]
        simp [List.isEmpty_map]
      rw [← e]
      exact q _ (g2.trans k2)
theorem scIsR : FnScope ["wording", "by_titles", "pieces", "some", "column"] ["wording", "by_titles"] (defScope sIsRule) := ⟨rfl, rfl, rfl, by decide +kernel, rfl, by decide +kernel, by decide +kernel⟩
theorem ok_isR {f : Addr} {fd : FuncData} (F : FnP K "_law_is_rule" sIsRule f fd) (ml : mg "len" = none) : FnOk P w K mg base CX0 1 f fd ["wording", "by_titles"] (spIsR K) := by
  refine F.ok scIsR (fun vs H Q E h => ?_) (fun cdv A outer s H vs Q E hr h => ?_)
  · obtain ⟨x, d, kvs, ts, rfl, _⟩ := h
    rfl
  obtain ⟨x, d, kvs, ts, rfl, gx, ed, tk, tb, q⟩ := h
  have hu : (A.deeper (envOfC "_law_is_rule" (defScope sIsRule) s.heap.objs.size f cdv)).units + 64 < cLine := hr.units
  have hu1 : (A.deeper (envOfC "_law_is_rule" (defScope sIsRule) s.heap.objs.size f cdv)).units + 1 < cLine := by omega
  refine ⟨_, pss_cons (ps_set (i := 2) scIsR.nd rfl (Or.inr rfl) (pe_split (pv 0) pe_str))
    (pss_cons (ps_if (PW.pt (pw_or (pt_cmpR op_notIn_seq (pe_ix ix_list (pv 2) pe_int (fun _ _ => rfl)) (pe_tup (pa_cons pe_str (pa_cons pe_str pa_nil))) rfl) (pw_or (pt_cmpR op_lt (pe_callB call_len_seq rfl ml boot_len (pa_cons (pv 2) pa_nil)) pe_int (nomark _)) (pw_or1 (pt_cmp (pc_dnotin hu1 (pe_ix ix_list (pv 2) pe_int (fun _ _ => rfl)) (pv 1)))))))
      (pss_one (ps_ret pe_bl)) pss_nil)
    (pss_cons (ps_set (i := 3) scIsR.nd rfl (Or.inl rfl) (pe_slice sl_list (pv 2) (po_some pe_int) po_none))
    (pss_cons (ps_if (pt_cmpR op_eq (pe_ix ix_list (pv 2) pe_int (fun _ _ => rfl)) pe_str (nomark _))
      (pss_cons (ps_if (PW.pt (pw_or (pt_cmpR op_lt (pe_callB call_len_seq rfl ml boot_len (pa_cons (pv 3) pa_nil)) pe_int (nomark _)) (pw_or1 (pt_cmpR op_ne (pe_ix ix_list (pv 3) (pe_un un_neg pe_int) (fun _ _ => rfl)) pe_str (nomark _)))))
        (pss_one (ps_ret pe_bl)) pss_nil)
      (pss_one (ps_set (i := 3) scIsR.nd rfl (Or.inl rfl) (pe_op op_cat (pe_slice sl_list (pv 3) po_none (po_some (pe_un un_neg pe_int))) (pe_slice sl_list (pv 3) (po_some (pe_un un_neg pe_int)) po_none))))) pss_nil)
    (pss_one (ps_ret (pe_cmpR (op_eqD hu) (pe_lc (own := [("column", 4)]) (g := gName 4) (tt := tTest (tOp (rIn K true) (tVar 4) (tDGet (tVar 1) (tOp (rIxL K) (tVar 2) (tC (.int 1)))))) (te := tVar 4) rfl scIsR.nd (pi_list (pv 3))
        (blkOk_by (own := [("column", 4)]) (N := ["wording", "by_titles", "pieces", "some", "column"]) (sc := defScope sIsRule) (by decide +kernel))
        (fun _ _ _ _ _ => pg_name (i := 4) scIsR.nd rfl (Or.inl rfl)) (fun _ _ _ _ _ => pts_one (pt_cmpR op_notIn_seq (pv 4) (pe_dget hu1 (pv 1) (pe_ix ix_list (pv 2) pe_int (fun _ _ => rfl)) (fun _ _ => rfl)) rfl)) (fun _ _ _ _ _ => pv 4)) (pe_lst pa_nil) (nomark _))))))), ?_⟩
  have no : ¬ False := id
  obtain ⟨k, ws, ew⟩ := words_ne x
  obtain ⟨gw, lw⟩ := words_gd gx
  rw [ew] at gw lw q
  have lw : ws.length ≤ 3000 := Nat.le_of_succ_le_succ lw
  refine ⟨_, rfl, ⟨_, rfl⟩, _, _, rfl, rfl, (by decide +kernel), Nat.le_trans (m := 3002) (Nat.add_le_add_right gx.2 2) (by decide), fun m nm => ?_⟩
  rw [show Txt.split x " " = k :: ws from ew]
  have k1 : Off (fun _ => False) H (upd H m (.lst ((k :: ws).map V.str))) := Off.new nm
  have em := upd_same (H := H) (a := m) (o := .lst ((k :: ws).map V.str))
  generalize upd H m (.lst ((k :: ws).map V.str)) = H1 at k1 em ⊢
  have em : H1 m = some (.lst (V.str k :: ws.map V.str)) := em
  have a0 : atI (V.str k :: ws.map V.str) 0 = some (V.str k) := atI_nat (j := 0) rfl
  dsimp only [gName]
  refine if_cut0 (fun σ' G => σ' = [some (.str x), some (.ref d), some (.ref m), none, none] ∧ Off (fun _ => False) H1 G ∧ (k = "key" ∨ k = "settles") ∧ ∃ x0 rest v t, ws = x0 :: rest ∧ valV kvs (.inr x0) = some v ∧ tabOf ts x0 = some t ∧ Dp K H v (colsD t.2)) (fun σ' G g => ?_) (fun rest => ?_)
  rotate_left
  · refine ⟨_, rfl, m, _, 0, _, rfl, rfl, SqL.of em, a0, (by show 2 ≤ sizeLine; decide), fun tp ntp => ⟨tp, _, rfl, .inr (SqT.of upd_same), rfl, by decide +kernel, _, rfl, ?_⟩⟩
    have k2 : Off (fun _ => False) H1 (upd H1 tp (.tup [.str "key", .str "settles"])) := Off.new ntp
    generalize upd H1 tp (.tup [.str "key", .str "settles"]) = H2 at k2 ⊢
    rw [if_pos rfl, show [V.str "key", V.str "settles"] = ([("key" : Str), "settles"] : List Str).map V.str from rfl, inV_strs]
    by_cases hk : k = "key" ∨ k = "settles"
    · rw [decide_eq_true (show k ∈ ([("key" : Str), "settles"] : List Str) by simpa using hk)]
      refine ⟨_, rfl, m, _, rfl, .inl (SqL.of (k2 _ _ em no)), _, _, rfl, rfl, _, rfl, ?_⟩
      rcases ws with _ | ⟨x0, rest0⟩
      · rw [decide_eq_true (by simp)]
        exact q H2 (k1.trans k2)
      · rw [decide_eq_false (by simp; omega)]
        refine ⟨_, rfl, m, _, 1, _, rfl, rfl, SqL.of (k2 _ _ em no), atI_nat (j := 1) rfl, _, rfl, d, _, rfl, DGet.k (k := .inr x0) (k2 _ _ (k1 _ _ ed no) no), _, rfl, ?_⟩
        rcases titK_at (x := x0) tk with ⟨u1, u2⟩ | ⟨v, t, u1, u2, u3⟩
        · rw [u1]
          have e : isRuleL ts (k :: x0 :: rest0) = false := by
            rw [isRuleL_eq, u2]
            simp
          rw [e] at q
          exact q H2 (k1.trans k2)
        · rw [u1]
          exact rest _ _ ⟨rfl, k2, hk, x0, rest0, v, t, rfl, u1, u2, u3⟩
    · rw [decide_eq_false (show ¬ k ∈ ([("key" : Str), "settles"] : List Str) from fun z => hk (by simpa using z))]
      have e : isRuleL ts (k :: ws) = false := by
        rcases ws with _ | ⟨x0, rest0⟩
        · rfl
        · rw [isRuleL_eq, decide_eq_false hk]
          rfl
      rw [e] at q
      exact q H2 (k1.trans k2)
  obtain ⟨rfl, kG, hk, x0, rest, v, t, rfl, u1, u2, u3⟩ := g
  have emG := kG _ _ em no
  have k1G := k1.trans kG
  have lr : rest.length ≤ 3000 := Nat.le_of_succ_le lw
  have gr : ∀ y ∈ rest, Gd 3000 y := fun y hy => gw y (List.mem_cons_of_mem _ (List.mem_cons_of_mem _ hy))
  obtain ⟨ca, rfl, sca⟩ := dp_cols u3
  refine ⟨_, rfl, _, rfl, m, _, rfl, SqL.of emG, fun m2 n2 => ?_⟩
  have ec : cutV (V.str k :: (x0 :: rest).map V.str) (some 2) none = rest.map V.str := by
    rw [cutV_tail (by decide)]
    rfl
  rw [ec]
  have k2 : Off (fun _ => False) G (upd G m2 (.lst (rest.map V.str))) := Off.new n2
  have e2 := upd_same (H := G) (a := m2) (o := .lst (rest.map V.str))
  generalize upd G m2 (.lst (rest.map V.str)) = G2 at k2 e2 ⊢
  have k12 := k1G.trans k2
  have em2 := k2 _ _ emG no
  have a0' : atI (V.str k :: (x0 :: rest).map V.str) 0 = some (V.str k) := atI_nat (j := 0) rfl
  have a1' : atI (V.str k :: (x0 :: rest).map V.str) 1 = some (V.str x0) := atI_nat (j := 1) rfl
  dsimp only [gName]
  refine if_cut0 (fun σ' G' => ∃ (m3 : Addr) (cols : List Str), σ' = [some (.str x), some (.ref d), some (.ref m), some (.ref m3), none] ∧ G' m3 = some (.lst (cols.map V.str)) ∧ Off (fun _ => False) G2 G' ∧ isRuleL ts (k :: x0 :: rest) = cols.all (fun c => decide (c ∈ t.2)) ∧ cols.length ≤ 3000 ∧ ∀ y ∈ cols, Gd 3000 y) (fun σ' G' g => ?_) (fun rest' => ?_)
  rotate_left
  · refine ⟨_, rfl, m, _, 0, _, rfl, rfl, SqL.of em2, a0', rfl, _, rfl, ite2 (fun c => ?_) (fun c => ?_)⟩
    rotate_left
    · have nk : k ≠ "settles" := fun z => c (decide_eq_true (by rw [z]))
      refine rest' _ _ ⟨m2, rest, rfl, e2, Off.refl _ _, ?_, lr, gr⟩
      rw [isRuleL_eq, u2, decide_eq_true hk, Bool.true_and]
      dsimp only
      rw [if_neg nk]
    · have ek : k = "settles" := V.str.inj (of_decide_eq_true c)
      refine if_cut0 (fun σ' G' => σ' = [some (.str x), some (.ref d), some (.ref m), some (.ref m2), none] ∧ G' = G2 ∧ 2 ≤ rest.length ∧ rest[rest.length - 2]? = some (">" : Str)) (fun σ' G' g => ?_) (fun rest2 => ?_)
      rotate_left
      · have bad : ¬ (2 ≤ rest.length ∧ rest[rest.length - 2]? = some (">" : Str)) → isRuleL ts (k :: x0 :: rest) = false := fun h => by
          rw [isRuleL_eq, u2, decide_eq_true hk, Bool.true_and]
          dsimp only
          rw [if_pos ek, decide_eq_false h]
          rfl
        refine ⟨_, rfl, m2, _, rfl, .inl (SqL.of e2), _, _, rfl, rfl, _, rfl, ite2 (fun c2 => ?_) (fun c2 => ?_)⟩
        · rw [bad fun z => by
            have := of_decide_eq_true c2
            rw [List.length_map] at this
            omega] at q
          exact q G2 k12
        have l2 : 2 ≤ rest.length := by
          rcases Nat.lt_or_ge rest.length 2 with z | z
          · refine absurd ?_ c2
            refine decide_eq_true ?_
            rw [List.length_map]
            omega
          · exact z
        obtain ⟨ys, u, w', rfl⟩ := two_back l2
        have b2 : atI ((ys ++ [u, w']).map V.str) (-2) = some (V.str u) := by
          rw [List.map_append]
          exact atI_back (ys.map V.str) _ _
        have g2 : (ys ++ [u, w'])[(ys ++ [u, w']).length - 2]? = some u := by simp
        refine ⟨_, rfl, _, rfl, m2, _, -2, _, rfl, rfl, SqL.of e2, b2, rfl, _, rfl, ?_⟩
        by_cases hu' : u = ">"
        · rw [decide_eq_true (show V.str u = V.str ">" by rw [hu'])]
          exact rest2 _ _ ⟨rfl, rfl, l2, by rw [g2, hu']⟩
        · rw [decide_eq_false fun z => hu' (V.str.inj z)]
          rw [bad fun z => by rw [g2] at z; exact hu' (Option.some.inj z.2)] at q
          exact q G2 k12
      obtain ⟨rfl, rfl, l2, g2⟩ := g
      obtain ⟨ys, u, w', rfl⟩ := two_back l2
      have mp : (ys ++ [u, w']).map V.str = ys.map V.str ++ [V.str u, V.str w'] := by simp
      rw [mp] at e2
      refine ⟨_, rfl, _, rfl, _, rfl, m2, _, rfl, SqL.of e2, fun p1 n1 => ?_⟩
      rw [show (-2 : Int) = -2 from rfl, cutV_b2]
      have j1 : Off (fun _ => False) G' (upd G' p1 (.lst (ys.map V.str))) := Off.new n1
      have f1 := upd_same (H := G') (a := p1) (o := .lst (ys.map V.str))
      generalize upd G' p1 (.lst (ys.map V.str)) = G3 at j1 f1 ⊢
      refine ⟨_, rfl, _, rfl, _, rfl, m2, _, rfl, SqL.of (j1 _ _ e2 no), fun p2 n3 => ?_⟩
      rw [show (-1 : Int) = -1 from rfl, cutV_b1]
      have j2 : Off (fun _ => False) G3 (upd G3 p2 (.lst [V.str w'])) := Off.new n3
      have f2 := upd_same (H := G3) (a := p2) (o := .lst [V.str w'])
      generalize upd G3 p2 (.lst [V.str w']) = G4 at j2 f2 ⊢
      have ly : ys.length + 2 ≤ 3000 := by simpa using lr
      refine ⟨p1, p2, _, _, rfl, rfl, j2 _ _ f1 no, f2, ?_, fun p3 n4 => ?_⟩
      · rw [List.length_map]
        exact Nat.le_trans (m := 3001) (by show ys.length + 1 ≤ 3001; omega) (by decide)
      refine rest' _ _ ⟨p3, ys ++ [w'], rfl, ?_, (j1.trans j2).trans (Off.new n4), ?_, by simp; omega, fun y hy => ?_⟩
      · rw [upd_same, List.map_append]
        rfl
      · rw [isRuleL_eq, u2, decide_eq_true hk, Bool.true_and]
        dsimp only
        rw [if_pos ek, decide_eq_true ⟨l2, g2⟩, Bool.true_and]
        have h1 : (ys ++ [u, w']).length - 2 = ys.length := by simp
        have h2 : (ys ++ [u, w']).length - 1 = (ys ++ [u]).length := by simp
        have h3 : ys ++ [u, w'] = (ys ++ [u]) ++ [w'] := by simp
        rw [h1, h2, List.take_left, h3, List.drop_left]
      · refine gr y ?_
        rcases List.mem_append.mp hy with hy | hy
        · simp [hy]
        · rw [List.mem_singleton.mp hy]
          simp
  obtain ⟨m3, cols, rfl, e3, kG', er, lc, gc⟩ := g
  rw [er] at q
  have em3 := kG' _ _ em2 no
  have k1' := k12.trans kG'
  refine ⟨_, rfl, m3, rfl, ⟨_, SqL.of e3⟩, fun D hD => lc_list (K := K) (a := m3) (xs := cols.map V.str) (fun i G1 => G1 D = some (.lst (((cols.take i).filter fun c => !decide (c ∈ t.2)).map V.str)) ∧ Off (fun _ => False) G' G1) ⟨upd_same, Off.new hD⟩ (fun i G1 _ g => SqL.of (g.2 _ _ e3 no)) (fun i y G1 hy g => ?_) fun G1 g => ?_⟩
  · obtain ⟨f1, f2⟩ := g
    rw [List.getElem?_map] at hy
    obtain ⟨c, hc, rfl⟩ := Option.map_eq_some_iff.mp hy
    have hf : (cols.take (i + 1)).filter (fun c => !decide (c ∈ t.2)) = (cols.take i).filter (fun c => !decide (c ∈ t.2)) ++ if (!decide (c ∈ t.2)) = true then [c] else [] := by
      rw [take_snoc hc, List.filter_append, List.filter_cons]
      rfl
    have kk := k1'.trans f2
    have dg : DGet G1 d (V.str x0) (some (.ref ca)) := by
      have := DGet.k (k := .inr x0) (kk _ _ ed no)
      rw [u1] at this
      exact this
    refine ⟨rfl, _, rfl, _, rfl, _, rfl, m, _, 1, .str x0, rfl, rfl, SqL.of (f2 _ _ em3 no), a1', d, .ref ca, rfl, dg, ca, _, rfl, .inl (sqL_off kk sca), rfl, flat_strs _, _, rfl, ?_⟩
    rw [if_pos rfl, inV_strs]
    refine ite2 (fun z => ?_) (fun z => ?_)
    · rw [if_pos z] at hf
      refine ⟨_, rfl, _, f1, ?_, ?_, ?_⟩
      · rw [List.length_map]
        exact Nat.lt_of_le_of_lt (Nat.le_trans (List.length_filter_le _ _) (Nat.le_trans (List.length_take_le' _ _) lc)) (by decide)
      · rw [hf, List.map_append]
        exact upd_same
      · exact fun a o e n => (upd_ne fun z => by rw [z, hD] at e; cases e).trans (f2 a o e n)
    · rw [if_neg z, List.append_nil] at hf
      rw [hf]
      exact ⟨f1, f2⟩
  · obtain ⟨f1, f2⟩ := g
    rw [List.length_map, List.take_length] at f1
    refine ⟨by decide, fun D2 hD2 => ?_⟩
    have k2' : Off (fun _ => False) G1 (upd G1 D2 (.lst [])) := Off.new hD2
    refine ⟨.list ((cols.filter fun c => !decide (c ∈ t.2)).map PyData.str), .list [], .lst (SqL.of (k2' _ _ f1 no)) (dp_strs _), .lst (SqL.of upd_same) .nil, shaped_strs fun y hy => ?_, by decide +kernel, ?_⟩
    · exact (gc y (List.mem_filter.mp hy).1).1
    · rw [eqv_nil, List.isEmpty_map, filter_all]
      exact q _ ((k1'.trans f2).trans k2')
end
end LW
set_option Elab.async false
set_option linter.all false
set_option maxRecDepth 100000
set_option maxHeartbeats 0
/-! k54: _law_rule_text, _law_book_text -/
namespace LW
open PySem PySem.Spec PyProof.Rows L2 KV
theorem ow_rb {K : PySem.W.Frag} {H : Hp} {v : V} {k x : Str} {cs tl : List Str} {F : Fp} (h : Ow H v (rbD ([k, x], some (cs, tl))) F) : ∃ a c, v = .ref a ∧ H a = some (.tup (.str k :: .str x :: .ref c :: tl.map V.str)) ∧ H c = some (.lst (cs.map V.str)) := by
  cases h with
  | tup h r =>
    cases r with
    | cons h1 r _ _ =>
      cases h1
      cases r with
      | cons h2 r _ _ =>
        cases h2
        cases r with
        | cons h3 r _ _ =>
          have e := dpAll_strs (r.dp (K := K))
          cases h3 with
          | lst hc rc _ _ =>
            have e2 := dpAll_strs (rc.dp (K := K))
            rw [e2] at hc
            rw [e] at h
            exact ⟨_, _, rfl, h, hc⟩
def spTextR (K : PySem.W.Frag) : Sp := fun vs H Q _ => ∃ (v : V) (r : RB), vs = [v] ∧ (∃ F, Ow H v (rbD r) F) ∧ RbOk 8 8 r ∧ formed r = true ∧ ∀ H', Off (fun _ => False) H H' → Q (.str (ruleT r)) H'
section
variable {P : Program} {w : World} {K : PySem.W.Frag} {mg : Str → Option Value} {base : Heap}
theorem scTextR : FnScope ["rule"] ["rule"] (defScope sRuleText) := ⟨rfl, rfl, rfl, by decide +kernel, rfl, by decide +kernel, by decide +kernel⟩
theorem ok_textR {f : Addr} {fd : FuncData} (F : FnP K "_law_rule_text" sRuleText f fd) : FnOk P w K mg base CX0 1 f fd ["rule"] (spTextR K) := by
  refine F.ok scTextR (fun vs H Q E h => ?_) (fun cdv A outer s H vs Q E hr h => ?_)
  · obtain ⟨v, r, rfl, _⟩ := h
    rfl
  obtain ⟨v, r, rfl, hv, ok, fm, q⟩ := h
  refine ⟨_, pss_cons (ps_if (pt_cmpR op_eq (pe_ix ix_tup (pv 0) pe_int (fun _ _ => rfl)) pe_str (nomark _))
      (pss_one (ps_ret (pe_join pe_str (pe_op op_cat (pe_lst (pa_cons pe_str (pa_cons (pe_ix ix_tup (pv 0) pe_int (fun _ _ => rfl)) pa_nil))) (pe_ix ix_tup (pv 0) pe_int (fun _ _ => rfl)))))) pss_nil)
    (pss_one (ps_ret (pe_join pe_str (pe_op op_cat (pe_op op_cat (pe_lst (pa_cons pe_str (pa_cons (pe_ix ix_tup (pv 0) pe_int (fun _ _ => rfl)) pa_nil))) (pe_ix ix_tup (pv 0) pe_int (fun _ _ => rfl))) (pe_lst (pa_cons pe_str (pa_cons (pe_ix ix_tup (pv 0) pe_int (fun _ _ => rfl)) pa_nil))))))), ?_⟩
  have no : ¬ False := id
  obtain ⟨wl, wc⟩ := ruleW_le ok fm (Nat.le_refl 8)
  obtain ⟨k, x, cs, tl, rfl, form⟩ := formed_ok fm
  obtain ⟨lc, gc, lt, gt⟩ := ok.cs cs tl rfl
  obtain ⟨F0, hv⟩ := hv
  obtain ⟨a, c, rfl, ea, ec⟩ := ow_rb (K := K) hv
  have at0 : atI (V.str k :: V.str x :: V.ref c :: tl.map V.str) 0 = some (V.str k) := atI_nat (j := 0) rfl
  have at1 : atI (V.str k :: V.str x :: V.ref c :: tl.map V.str) 1 = some (V.str x) := atI_nat (j := 1) rfl
  have at2 : atI (V.str k :: V.str x :: V.ref c :: tl.map V.str) 2 = some (V.ref c) := atI_nat (j := 2) rfl
  have joined : ∀ {ys : List Str}, ys = ruleW ([k, x], some (cs, tl)) → (ys.map (·.length)).sum + ys.length * (" " : Str).length ≤ 16777216 := by
    intro ys e
    rw [e, sp1]
    have z1 := sum_le wl
    have z2 : (ruleW ([k, x], some (cs, tl))).length * 8 ≤ 13 * 8 := Nat.mul_le_mul (by omega) (Nat.le_refl 8)
    omega
  have s2 : 2 ≤ sizeLine := by decide
  refine ⟨_, rfl, a, _, 0, _, rfl, rfl, SqT.of ea, at0, rfl, _, rfl, ite2 (fun z => ?_) (fun z => ?_)⟩
  · have ek : k = "key" := V.str.inj (of_decide_eq_true z)
    have el : tl = [] := by
      rcases form with ⟨_, y⟩ | ⟨y, _⟩
      · exact List.length_eq_zero_iff.mp y
      · rw [ek] at y
        exact absurd y key_ne
    subst el
    refine ⟨⟨_, rfl⟩, _, rfl, a, _, 1, _, rfl, rfl, SqT.of ea, at1, s2, fun m nm => ?_⟩
    have k1 : Off (fun _ => False) H (upd H m (.lst [.str "key", .str x])) := Off.new nm
    have e1 := upd_same (H := H) (a := m) (o := .lst [.str "key", .str x])
    dsimp only
    generalize upd H m (.lst [.str "key", .str x]) = H1 at k1 e1 ⊢
    refine ⟨_, rfl, a, _, 2, _, rfl, rfl, SqT.of (k1 _ _ ea no), at2, m, c, _, _, rfl, rfl, e1, k1 _ _ ec no, ?_, fun p np => ?_⟩
    · rw [List.length_map]
      exact Nat.le_trans (m := 100) (by show 2 + cs.length ≤ 100; omega) (by decide)
    have ew : ruleW ([k, x], some (cs, [])) = k :: x :: cs := by
      rw [ruleW_eq, if_neg (by rw [ek]; exact key_ne)]
    refine ⟨_, p, k :: x :: cs, rfl, rfl, .inl (SqL.of (by rw [upd_same, ek]; rfl)), joined ew.symm, ?_⟩
    have := q _ (k1.trans (Off.new (o := .lst ([.str "key", .str x] ++ cs.map V.str)) np))
    unfold ruleT at this
    rw [ew] at this
    exact this
  · have ek : k = "settles" := by
      rcases form with ⟨y, _⟩ | ⟨y, _⟩
      · exact absurd (decide_eq_true (show V.str k = V.str "key" by rw [y])) z
      · exact y
    have l1 : tl.length = 1 := by
      rcases form with ⟨y, _⟩ | ⟨_, y⟩
      · rw [ek] at y
        exact absurd y.symm key_ne
      · exact y
    obtain ⟨y, rfl⟩ : ∃ y, tl = [y] := by
      match tl, l1 with
      | [y], _ => exact ⟨y, rfl⟩
    have at3 : atI (V.str k :: V.str x :: V.ref c :: [y].map V.str) 3 = some (V.str y) := atI_nat (j := 3) rfl
    refine ⟨⟨_, rfl⟩, _, rfl, a, _, 1, _, rfl, rfl, SqT.of ea, at1, s2, fun m nm => ?_⟩
    have k1 : Off (fun _ => False) H (upd H m (.lst [.str "settles", .str x])) := Off.new nm
    have e1 := upd_same (H := H) (a := m) (o := .lst [.str "settles", .str x])
    dsimp only
    generalize upd H m (.lst [.str "settles", .str x]) = H1 at k1 e1 ⊢
    refine ⟨_, rfl, a, _, 2, _, rfl, rfl, SqT.of (k1 _ _ ea no), at2, m, c, _, _, rfl, rfl, e1, k1 _ _ ec no, ?_, fun p np => ?_⟩
    · rw [List.length_map]
      exact Nat.le_trans (m := 100) (by show 2 + cs.length ≤ 100; omega) (by decide)
    have k2 : Off (fun _ => False) H1 (upd H1 p (.lst ([.str "settles", .str x] ++ cs.map V.str))) := Off.new np
    have e2 := upd_same (H := H1) (a := p) (o := .lst ([.str "settles", .str x] ++ cs.map V.str))
    generalize upd H1 p (.lst ([.str "settles", .str x] ++ cs.map V.str)) = H2 at k2 e2 ⊢
    refine ⟨_, rfl, a, _, 3, _, rfl, rfl, SqT.of (k2 _ _ (k1 _ _ ea no) no), at3, s2, fun m2 n2 => ?_⟩
    have k3 : Off (fun _ => False) H2 (upd H2 m2 (.lst [.str ">", .str y])) := Off.new n2
    refine ⟨p, m2, _, _, rfl, rfl, k3 _ _ e2 no, upd_same, ?_, fun p2 n3 => ?_⟩
    · rw [List.length_append, List.length_map]
      exact Nat.le_trans (m := 100) (by show 2 + cs.length + 2 ≤ 100; omega) (by decide)
    have ew : ruleW ([k, x], some (cs, [y])) = (k :: x :: cs) ++ [(">" : Str), y] := by
      rw [ruleW_eq, if_pos ek]
    refine ⟨_, p2, (k :: x :: cs) ++ [(">" : Str), y], rfl, rfl, .inl (SqL.of ?_), joined ew.symm, ?_⟩
    · rw [upd_same, List.map_append, ek]
      rfl
    · have := q _ (((k1.trans k2).trans k3).trans (Off.new (o := .lst (([V.str "settles", .str x] ++ cs.map V.str) ++ [.str ">", .str y])) n3))
      unfold ruleT at this
      rw [ew] at this
      exact this
end
end LW
set_option Elab.async false
set_option linter.all false
set_option maxRecDepth 100000
set_option maxHeartbeats 0
/-! k54: _law_book_text -/
namespace LW
open PySem PySem.Spec PyProof.Rows L2 KV
theorem ow_tab {K : PySem.W.Frag} {H : Hp} {v : V} {t : Tab} {F : Fp} (h : Ow H v (tabD t) F) : ∃ a c, v = .ref a ∧ H a = some (.tup [.str t.1, .ref c]) ∧ H c = some (.lst (t.2.map V.str)) := by
  cases h with
  | tup h r =>
    cases r with
    | cons h1 r _ _ =>
      cases h1
      cases r with
      | cons h2 r _ _ =>
        cases r
        cases h2 with
        | lst hc rc _ _ =>
          have e2 := dpAll_strs (rc.dp (K := K))
          rw [e2] at hc
          exact ⟨_, _, rfl, h, hc⟩
def spTextB (K : PySem.W.Frag) : Sp := fun vs H Q _ => ∃ (v w : V) (ts : List Tab) (rs : List RB), vs = [v, w] ∧ (∃ F, Ow H v (tabsD ts) F) ∧ (∃ F, Ow H w (rbsD rs) F) ∧ TabsW 8 8 6 ts ∧ (∀ r ∈ rs, RbOk 8 8 r) ∧ (∀ r ∈ rs, formed r = true) ∧ rs.length ≤ 20 ∧ ∀ H', Off (fun _ => False) H H' → Q (.str (bookT ts rs)) H'
section
variable {P : Program} {w : World} {K : PySem.W.Frag} {mg : Str → Option Value} {base : Heap}
theorem scTextB : FnScope ["tables_here", "rules_here", "found", "title", "known", "rule"] ["tables_here", "rules_here"] (defScope sBookText) := ⟨rfl, rfl, rfl, by decide +kernel, rfl, by decide +kernel, by decide +kernel⟩
theorem ok_textB {f fR : Addr} {fd dR : FuncData} (F : FnP K "_law_book_text" sBookText f fd) (R : Dn P w K mg base 1 "_law_rule_text" ["rule"] (spTextR K) fR dR) : FnOk P w K mg base CX0 2 f fd ["tables_here", "rules_here"] (spTextB K) := by
  refine F.ok scTextB (fun vs H Q E h => ?_) (fun cdv A outer s H vs Q E hr h => ?_)
  · obtain ⟨v, w, ts, rs, rfl, _⟩ := h
    rfl
  obtain ⟨v, w, ts, rs, rfl, ⟨F1, hv⟩, ⟨F2, hw⟩, tb, ro, fm, lr, q⟩ := h
  refine ⟨_, pss_cons (ps_setLc (i := 2) (own := [("title", 3), ("known", 4)]) (g := gTup K 2 (gCons (gName 3) (gCons (gName 4) gNil))) (tt := tYes) (te := tM1 (rJoinK K) (tC (.str " ")) (tOp rCat (tLst (tCons (tC (.str "table")) (tCons (tVar 3) tNil))) (tVar 4))) rfl scTextB.nd rfl rfl rfl (pi_list (pv 0))
        (blkOk_by (own := [("title", 3), ("known", 4)]) (N := ["tables_here", "rules_here", "found", "title", "known", "rule"]) (sc := defScope sBookText) (by decide +kernel))
        (fun _ _ _ _ _ => pg_tup rfl (pgs_cons (pg_name (i := 3) scTextB.nd rfl (Or.inl rfl)) (pgs_cons (pg_name (i := 4) scTextB.nd rfl (Or.inl rfl)) pgs_nil))) (fun _ _ _ _ _ => pts_nil)
        (fun _ _ _ _ _ => pe_join pe_str (pe_op op_cat (pe_lst (pa_cons pe_str (pa_cons (pv 3) pa_nil))) (pv 4))))
    (pss_one (ps_ret (pe_join pe_str (pe_op op_cat (pv 2) (pe_lc (own := [("rule", 5)]) (g := gName 5) (tt := tYes) rfl scTextB.nd (pi_list (pv 1))
        (blkOk_by (own := [("rule", 5)]) (N := ["tables_here", "rules_here", "found", "title", "known", "rule"]) (sc := defScope sBookText) (by decide +kernel))
        (fun _ _ _ _ _ => pg_name (i := 5) scTextB.nd rfl (Or.inl rfl)) (fun _ _ _ _ _ => pts_nil)
        (fun _ _ _ _ _ => pe_call R.g hr rfl R.m R.kp R.b .nil pass0 (pa_cons (pv 5) pa_nil))))))), ?_⟩
  have no : ¬ False := id
  have s2 : 2 ≤ sizeLine := by decide
  obtain ⟨a, xs, rfl, ea, oa⟩ : ∃ a xs, v = .ref a ∧ H a = some (.lst xs) ∧ ∃ F, OwAll H xs (ts.map tabD) F := by
    cases hv with
    | lst h r _ _ => exact ⟨_, _, rfl, h, _, r⟩
  obtain ⟨b, zs, rfl, eb, ob⟩ : ∃ b zs, w = .ref b ∧ H b = some (.lst zs) ∧ ∃ F, OwAll H zs (rs.map rbD) F := by
    cases hw with
    | lst h r _ _ => exact ⟨_, _, rfl, h, _, r⟩
  obtain ⟨Fa, oa⟩ := oa
  obtain ⟨Fb, ob⟩ := ob
  have la : xs.length = ts.length := by rw [oa.length, List.length_map]
  have lb : zs.length = rs.length := by rw [ob.length, List.length_map]
  have lt := tb.most
  refine ⟨_, rfl, a, rfl, ⟨_, SqL.of ea⟩, fun D hD => lc_list (K := K) (a := a) (xs := xs) (fun i G => G D = some (.lst (((ts.take i).map tabT).map V.str)) ∧ Off (fun _ => False) H G) ⟨upd_same, Off.new hD⟩ (fun i G _ g => SqL.of (g.2 _ _ ea no)) (fun i x G hx g => ?_) fun G g => ?_⟩
  · obtain ⟨g1, g2⟩ := g
    obtain ⟨d, E0, hd, od, _⟩ := oa.at_ hx
    rw [List.getElem?_map] at hd
    obtain ⟨t, ht, rfl⟩ := Option.map_eq_some_iff.mp hd
    obtain ⟨ta, c, rfl, et, ec⟩ := ow_tab (K := K) od
    have bt := tb.each t (List.mem_of_getElem? ht)
    have lc := bt.most
    refine ⟨ta, [.str t.1, .ref c], rfl, SqT.of (g2 _ _ et no), rfl, .str t.1, [.ref c], rfl, .ref c, [], rfl, rfl, rfl, ?_⟩
    show (∃ a, V.str " " = V.str a) ∧ _
    refine ⟨⟨_, rfl⟩, _, rfl, s2, fun m nm => ?_⟩
    have k1 : Off (fun _ => False) G (upd G m (.lst [.str "table", .str t.1])) := Off.new nm
    refine ⟨_, rfl, m, c, _, _, rfl, rfl, upd_same, k1 _ _ (g2 _ _ ec no) no, ?_, fun p np => ?_⟩
    · rw [List.length_map]
      exact Nat.le_trans (m := 100) (by show 2 + t.2.length ≤ 100; omega) (by decide)
    have k2 := k1.trans (Off.new (o := .lst ([V.str "table", .str t.1] ++ t.2.map V.str)) np)
    refine ⟨_, p, tabW t, rfl, rfl, .inl (SqL.of upd_same), ?_, ?_⟩
    · have z := sum_le (tabW_le bt (Nat.le_refl 8))
      have l2 : (tabW t).length ≤ 10 := by
        unfold tabW
        rw [List.length_cons, List.length_cons]
        omega
      rw [sp1]
      omega
    · refine ⟨_, k2 _ _ g1 no, ?_, ?_, fun b o eb nb => ?_⟩
      · rw [List.length_map, List.length_map, List.length_take]
        exact small4000 (by omega)
      · rw [upd_same, take_snoc ht, List.map_append, List.map_append]
        rfl
      · rw [upd_ne (fun z => by rw [z, hD] at eb; cases eb)]
        exact k2 _ _ (g2 b o eb nb) no
  obtain ⟨g1, g2⟩ := g
  rw [la, List.take_length] at g1
  refine ⟨⟨_, rfl⟩, _, rfl, _, rfl, b, rfl, ⟨_, SqL.of (g2 _ _ eb no)⟩, fun D2 hD2 => lc_list (K := K) (a := b) (xs := zs) (fun i G1 => G1 D2 = some (.lst (((rs.take i).map ruleT).map V.str)) ∧ Off (fun _ => False) G G1) ⟨upd_same, Off.new hD2⟩ (fun i G1 _ g => SqL.of ((g2.trans g.2) _ _ eb no)) (fun i x G1 hx g => ?_) fun G1 g => ?_⟩
  · obtain ⟨u1, u2⟩ := g
    obtain ⟨d, E0, hd, od, _⟩ := ob.at_ hx
    rw [List.getElem?_map] at hd
    obtain ⟨r, hr', rfl⟩ := Option.map_eq_some_iff.mp hd
    have mem := List.mem_of_getElem? hr'
    refine ⟨rfl, ?_⟩
    refine Exists.intro x ⟨rfl, x, r, rfl, ⟨E0, od.keep (g2.trans u2) (fun _ z => z.elim) fun _ _ z => z⟩, ro r mem, fm r mem, fun G2 k2 => ?_⟩
    refine ⟨_, k2 _ _ u1 no, ?_, ?_, fun b o eb nb => ?_⟩
    · rw [List.length_map, List.length_map, List.length_take]
      exact small4000 (by omega)
    · rw [upd_same, take_snoc hr', List.map_append, List.map_append]
      rfl
    · rw [upd_ne (fun z => by rw [z, hD2] at eb; cases eb)]
      exact k2 _ _ (u2 b o eb nb) nb
  · obtain ⟨u1, u2⟩ := g
    rw [lb, List.take_length] at u1
    refine ⟨D, D2, _, _, rfl, rfl, u2 _ _ g1 no, u1, ?_, fun m hm => ?_⟩
    · rw [List.length_map, List.length_map, List.length_map, List.length_map]
      exact Nat.le_trans (m := 100) (by omega) (by decide)
    have km := (g2.trans u2).trans (Off.new (o := .lst (((ts.map tabT).map V.str) ++ ((rs.map ruleT).map V.str))) hm)
    refine ⟨_, m, ts.map tabT ++ rs.map ruleT, rfl, rfl, .inl ?_, ?_, ?_⟩
    · rw [List.map_append]
      exact SqL.of upd_same
    · have each : ∀ y ∈ ts.map tabT ++ rs.map ruleT, y.length ≤ 200 := by
        intro y hy
        rcases List.mem_append.mp hy with hy | hy
        · obtain ⟨t, ht, rfl⟩ := List.mem_map.mp hy
          have bt := tb.each t ht
          have z := join_le " " (tabW_le bt (Nat.le_refl 8))
          have l2 : (tabW t).length ≤ 10 := by
            have := bt.most
            unfold tabW
            rw [List.length_cons, List.length_cons]
            omega
          rw [sp1] at z
          have : (tabW t).length * (8 + 1) ≤ 10 * 9 := Nat.mul_le_mul l2 (by decide)
          unfold tabT
          omega
        · obtain ⟨r, hr', rfl⟩ := List.mem_map.mp hy
          obtain ⟨z1, z2⟩ := ruleW_le (ro r hr') (fm r hr') (Nat.le_refl 8)
          have z := join_le " " z1
          rw [sp1] at z
          have : (ruleW r).length * (8 + 1) ≤ 13 * 9 := Nat.mul_le_mul z2 (by decide)
          unfold ruleT
          omega
      have z := sum_le each
      have l3 : (ts.map tabT ++ rs.map ruleT).length ≤ 26 := by
        rw [List.length_append, List.length_map, List.length_map]
        omega
      have : (ts.map tabT ++ rs.map ruleT).length * 200 ≤ 26 * 200 := Nat.mul_le_mul l3 (Nat.le_refl _)
      rw [sp2]
      omega
    · exact q _ km
end
end LW
set_option Elab.async false
set_option linter.all false
set_option maxRecDepth 100000
set_option maxHeartbeats 4000000
/-! len(set(xs)), xs a list of texts. -/
namespace KV
open PySem PySem.Spec PyProof.Rows L2
/-- how many different texts -/
def dnR : List Str → Nat
  | [] => 0
  | x :: xs => dnR xs + if x ∈ xs then 0 else 1
def dn (xs : List Str) : Nat := dnR xs.reverse
theorem dn_snoc (xs : List Str) (x : Str) : dn (xs ++ [x]) = if x ∈ xs then dn xs else dn xs + 1 := by
  unfold dn
  rw [List.reverse_append]
  show dnR xs.reverse + (if x ∈ xs.reverse then 0 else 1) = _
  by_cases h : x ∈ xs
  · rw [if_pos (List.mem_reverse.mpr h), if_pos h, Nat.add_zero]
  · rw [if_neg (fun z => h (List.mem_reverse.mp z)), if_neg h]
theorem dnR_le : ∀ xs : List Str, dnR xs ≤ xs.length
  | [] => Nat.le_refl _
  | x :: xs => by
    have := dnR_le xs
    show dnR xs + (if x ∈ xs then 0 else 1) ≤ xs.length + 1
    split <;> omega
theorem dn_le (xs : List Str) : dn xs ≤ xs.length := by
  have := dnR_le xs.reverse
  rwa [List.length_reverse] at this
theorem dnR_nd : ∀ xs : List Str, dnR xs = xs.length ↔ xs.Nodup
  | [] => by simp [dnR]
  | x :: xs => by
    have ih := dnR_nd xs
    have le := dnR_le xs
    rw [List.nodup_cons, ← ih]
    show dnR xs + (if x ∈ xs then 0 else 1) = xs.length + 1 ↔ _
    by_cases h : x ∈ xs
    · rw [if_pos h]
      constructor
      · intro z
        omega
      · rintro ⟨z, _⟩
        exact (z h).elim
    · rw [if_neg h]
      constructor
      · intro z
        exact ⟨h, by omega⟩
      · rintro ⟨_, z⟩
        omega
theorem dn_nd (xs : List Str) : dn xs = xs.length ↔ xs.Nodup := by
  have := dnR_nd xs.reverse
  rw [List.length_reverse, (List.reverse_perm xs).nodup_iff] at this
  exact this
section
variable {prog : Program} {w : World} {A : Around} {R : Result → Shared → Prop} {I : Addr} {fp wr : List Addr} {G : Array GenState → Array GenState → Prop} {n : Nat} {P : Nat → Value → Prop} {St : Nat → Shared → Prop}
/-- the texts of a list, added one by one -/
theorem adds_all (W : WalksS prog w A.in1 I fp wr G n P St) (D : Addr) (apart : D ∉ fp) (xs : List Str) (many : xs.length = n) (room : n + 1 < scanBound) (each : ∀ i v, P i v → ∃ t, v = .str (xs.getD i Str.empty) t) :
    ∀ (m i : Nat) (s : Shared), n - i = m → i ≤ n → St i s → s.heap.SetOf (PySem.strKind prog w) D (fun y => decide (y ∈ xs.take i)) (dn (xs.take i)) →
      (∀ s', Moved (D :: wr) G s s' → s'.heap.SetOf (PySem.strKind prog w) D (fun y => decide (y ∈ xs)) (dn xs) → R (.ok (.ret .none)) s') → codeAny (model prog w) A (.builtin "set.update.loop" ⟨[.ref D, .ref I], []⟩) R s := by
  have out : D ∉ wr := fun z => apart (W.sub _ z)
  have wider : ∀ b ∈ wr, b ∈ D :: wr := fun b z => List.mem_cons_of_mem _ z
  intro m
  induction m with
  | zero =>
    intro i s hm hi st so fin
    obtain rfl : i = n := by omega
    apply codeAny_builtin PyProof.Rows.F.entry_set_update_loop
    rw [Around.under_plainId PyProof.Rows.F.plain_set_update_loop _]
    show wpAny _ A.in1 (pyNext (.ref I) >>= _) _ _ s
    apply wpAny_bind
    refine W.done s _ _ st fun s' mv => ?_
    show wpAny _ A.in1 (ret Value.none) _ _ s'
    apply wpAny_pure
    refine fin s' (mv.mono wider) ?_
    rw [List.take_of_length_le (by omega)] at so
    obtain ⟨o, es, ep, t, ho, tail⟩ := so
    exact ⟨o, es, ep, t, mv.heap D _ out ho, tail⟩
  | succ m ih =>
    intro i s hm hi st so fin
    have lt : i < n := by omega
    have lx : i < xs.length := by omega
    apply codeAny_builtin PyProof.Rows.F.entry_set_update_loop
    rw [Around.under_plainId PyProof.Rows.F.plain_set_update_loop _]
    show wpAny _ A.in1 (pyNext (.ref I) >>= _) _ _ s
    apply wpAny_bind
    refine W.item i s _ _ lt st fun v s' pv st' mv => ?_
    obtain ⟨t, rfl⟩ := each i v pv
    have ex : xs.getD i Str.empty = xs[i] := by simp [List.getD, lx]
    rw [ex]
    have so' : s'.heap.SetOf (PySem.strKind prog w) D (fun y => decide (y ∈ xs.take i)) (dn (xs.take i)) := by
      obtain ⟨o, es, ep, tb, ho, tail⟩ := so
      exact ⟨o, es, ep, tb, mv.heap D _ out ho, tail⟩
    show wpAny _ A.in1 (holding [Value.str xs[i] t] (setAdd D (.str xs[i] t)) >>= _) _ _ s'
    apply wpAny_bind
    apply wpAny_holding
    unfold setAdd
    apply wpAny_holding
    apply wpAny_bind
    refine (PySem.strKind prog w).pyHash (k := xs[i]) (strKind_is _ _ _ _) ?_
    have cnt : dn (xs.take i) ≤ i := Nat.le_trans (dn_le _) (by rw [List.length_take]; omega)
    refine wpAny_setAddHashed_of (knd := PySem.strKind prog w) (s := { s' with toks := s'.toks + 1 }) (strKind_is _ _ _ _) rfl so' (by omega) fun h' keeps so2 => ?_
    have tk : xs.take (i + 1) = xs.take i ++ [xs[i]] := by simp
    have so3 : h'.SetOf (PySem.strKind prog w) D (fun y => decide (y ∈ xs.take (i + 1))) (dn (xs.take (i + 1))) := by
      refine SetOf_congr so2 (fun y => ?_) ?_
      · rw [tk]
        by_cases a : y ∈ xs.take i <;> by_cases b : y = xs[i] <;> simp only [List.mem_append, List.mem_singleton, a, b, or_true, true_or, or_false, false_or, decide_true, decide_false, Bool.or_true, Bool.or_false, Bool.true_or, Bool.false_or]
      · rw [tk, dn_snoc]
        by_cases a : xs[i] ∈ xs.take i <;> simp only [a, if_true, if_false, decide_true, decide_false, reduceIte, Bool.false_eq_true]
    apply wpAny_pure
    refine ⟨plainId_quiet PyProof.Rows.F.plain_set_update_loop _, ih (i + 1) _ (by omega) lt (W.frame _ s' _ _ st' (Nat.le_succ _) fun b hb o e => ?_) so3 fun s2 mv2 so4 => ?_⟩
    · rw [keeps.2 b (fun z : b = D => apart (z ▸ hb))]
      exact e
    · refine fin s2 (Moved.trans W.gtrans ((mv.mono wider).then_heap (Nat.le_succ _) fun b o hb e => ?_) mv2) so4
      rw [keeps.2 b (fun z : b = D => hb (z ▸ List.mem_cons_self))]
      exact e
end
section
variable {prog : Program} {w : World} {A : Around} {E : Value → Shared → Prop} {s : Shared}
/-- the new set's object -/
def emptyS (led : Bool) : Obj := { cls := .type "set", dict := none, data := .set #[] 0 (.fresh 0 0 led) }
/-- what stands where set(l) is done -/
def SetDone (prog : Program) (w : World) (s : Shared) (xs : List Str) (h' : Heap) : Prop :=
  h'.SetOf (PySem.strKind prog w) s.heap.objs.size (fun y => decide (y ∈ xs)) (dn xs) ∧ ∀ b o, b < s.heap.objs.size → s.heap.get? b = some o → h'.get? b = some o
theorem init_all {l : Addr} {items : Array Value} {xs : List Str} {led : Bool} (free : A.handled = none) (isl : s.heap.IsList l items) (txt : PyProof.Rows.StrsAre items.toList xs) (room : xs.length + 1 < scanBound) :
    codeAny (model prog w) A (.call (.builtin "set.__init__") ⟨[.ref s.heap.objs.size, .ref l], []⟩) (wants (fun r s2 => r = .none ∧ ∃ h' tk, s2 = { s with heap := h', toks := tk } ∧ SetDone prog w s xs h') E) { s with heap := s.heap.push (emptyS led) } := by
  have hS : (s.heap.push (emptyS led)).get? s.heap.objs.size = some (emptyS led) := Heap.get?_push_size _ rfl
  have hT : Shared.TypeIs { s with heap := s.heap.push (emptyS led) } (.ref s.heap.objs.size) "set" := ⟨_, hS, rfl⟩
  refine codeAny_call_builtin PySem.F.called_set.init.plain PySem.F.entry_set_init (check_set_init_1 hT ?_)
  obtain ⟨ol, hol, hcl, nl, hdl⟩ := isl
  obtain ⟨ocls, odict, odata, oslots⟩ := ol
  simp only at hcl hdl
  subst hcl hdl
  have still : (s.heap.push (emptyS led)).get? l = some { cls := .type "list", dict := odict, data := .seq items nl, slots := oslots } := Heap.get?_push_of_some _ hol
  have n1 := PySem.F.sub_list_set
  have n2 := PySem.F.sub_list_frozenset
  have n3 : (Value.type "list" == Value.type "dict") = false := by decide
  have lis : (s.heap.push (emptyS led)).IsList l items := ⟨_, still, rfl, nl, rfl⟩
  unfold Builtin.«set.__init__» noKeywords Builtin.Frozenset.updateFrom
  generalize hPI : pyIter = PI
  wp_walk
  subst hPI
  apply wpAny_pyIter_list lis
  apply wpAny_bind
  apply wpAny_runValue
  have below : l < s.heap.objs.size := Heap.lt_size hol
  have free3 : A.in1.in1.handled = none := by simp [free]
  have sz : (s.heap.push (emptyS led)).objs.size = s.heap.objs.size + 1 := Heap.size_push ..
  have other : l ≠ (s.heap.push (emptyS led)).objs.size := by
    rw [sz]
    exact Nat.ne_of_lt (Nat.lt_succ_of_lt below)
  have apart : s.heap.objs.size ∉ [(s.heap.push (emptyS led)).objs.size, l] := by
    rw [sz]
    intro z
    rcases List.mem_cons.mp z with z | z
    · exact Nat.ne_of_lt (Nat.lt_succ_self _) z
    · exact Nat.ne_of_gt below (List.mem_singleton.mp z)
  have many : xs.length = items.size := by rw [← StrsAre.len_eq txt, Array.length_toList]
  have each : ∀ (i : Nat) (v : Value), items[i]? = some v → ∃ t, v = .str (xs.getD i Str.empty) t := fun i v hv => SS.strs_at txt i v (by rw [Array.getElem?_toList]; exact hv)
  refine adds_all ((Walks.list free3 _ l other items).toS) s.heap.objs.size apart xs many (by rw [← many]; exact room) each (items.size - 0) 0 _ (by omega) (Nat.zero_le _) ?st ?first ?last
  case st => exact ⟨⟨_, Heap.get?_push_size _ rfl, rfl, rfl⟩, (lis.push _)⟩
  case first =>
    have at_ : ((s.heap.push (emptyS led)).push { cls := .type "list_iterator", data := .fields #[.ref l, .int 0 0] }).get? s.heap.objs.size = some (emptyS led) := Heap.get?_push_of_some _ hS
    refine PyProof.Rows.SetOf_congr ((PyProof.Rows.setObjOf_fresh (knd := PySem.strKind prog w) led).setOf at_ (by unfold scanBound; omega)) (fun _ => rfl) rfl
  case last =>
    intro s' mv so
    obtain ⟨h', g', d', tk', os'⟩ := s'
    obtain rfl : g' = s.gens := mv.gens
    obtain rfl : d' = s.drawn := mv.drawn
    obtain rfl : os' = s.os := mv.os
    show wpAny _ _ _ _ _ _
    apply wpAny_pure
    show wpAny _ _ (ret Value.none) _ _ _
    apply wpAny_pure
    refine ⟨rfl, h', tk', rfl, so, fun b o hb e => ?_⟩
    refine mv.heap b o (fun z => ?_) (Heap.get?_push_of_some _ (Heap.get?_push_of_some _ e))
    rcases List.mem_cons.mp z with z | z
    · exact Nat.ne_of_lt hb z
    · have z := List.mem_singleton.mp z
      rw [sz] at z
      exact Nat.ne_of_lt (Nat.lt_succ_of_lt hb) z
/-- set(l), l a list of texts -/
theorem call_setL {l : Addr} {items : Array Value} {xs : List Str} {Q : Value → Shared → Prop} (free : A.handled = none) (isl : s.heap.IsList l items) (txt : PyProof.Rows.StrsAre items.toList xs) (room : xs.length + 1 < scanBound)
    (h : ∀ (h' : Heap) (tk : Nat), SetDone prog w s xs h' → Q (.ref s.heap.objs.size) { s with heap := h', toks := tk }) : wpAny (model prog w) A (call (.type "set") [.ref l]) Q E s := by
  obtain ⟨c, tl, hmro⟩ := PySem.F.called_set.mro
  have a1 := PySem.F.called_set.made
  have a2 := PySem.F.called_set.sub
  refine wpAny_call (codeAny_of_tree ?_)
  show wpAny _ _ (callAny (.type "set") _) _ _ _
  refine wpAny_pure ⟨Code.quiet_builtin _ (by decide +kernel), codeAny_builtin PySem.F.entry_type_call ?_⟩
  rw [Around.under_plain (weight_type_call_type "set" [.ref l] []) rfl]
  have a3 := PySem.F.called_set.notType
  have a4 := PySem.F.called_set.canCreate
  have a5 := PySem.F.typeCall_set_1 (.ref l)
  repeat (any_goals (first | assumption | wp_step))
  refine codeAny_mono (code_set_new_1 (.ref l) (E := E) (Q₁ := fun obj s1 => ∃ led : Bool, obj = .ref s.heap.objs.size ∧ s1 = { s with heap := s.heap.push (emptyS led) }) fun led => ⟨led, rfl, rfl⟩) fun r s1 hr => ?_
  cases r with
  | error e => exact hr
  | ok fl =>
    cases fl with
    | ret obj =>
      obtain ⟨led, rfl, rfl⟩ := hr
      have hli := PySem.F.called_set.init.lookup
      have hbi := PySem.F.called_set.init.bind (.ref s.heap.objs.size)
      have hT : Shared.TypeIs { s with heap := s.heap.push (emptyS led) } (.ref s.heap.objs.size) "set" := ⟨_, Heap.get?_push_size _ rfl, rfl⟩
      repeat (any_goals (first | assumption | wp_step))
      refine codeAny_mono (init_all (E := E) (led := led) (by simpa using free) isl txt room) fun r₂ s₂ hr₂ => ?_
      cases r₂ with
      | error e => exact hr₂
      | ok fl₂ =>
        cases fl₂ with
        | ret r =>
          obtain ⟨rfl, h', tk, rfl, hS'⟩ := hr₂
          repeat (any_goals (first | assumption | wp_step))
          exact h _ _ hS'
        | _ => exact hr₂.elim
    | _ => exact hr.elim
end
/-- len(set(xs)), xs a list of texts -/
def tLenSetN (K : PySem.W.Frag) (ta : TE) : TE := fun σ H Q => ta σ H fun x H1 => ∃ l, ∃ xs : List Str, x = .ref l ∧ SqL K H1 l (xs.map V.str) ∧ xs.length ≤ 4000 ∧ Q (.int (dn xs : Nat)) H1
section
variable {X : Cx}
theorem pe_lenSetN {a : Expr} {ta : TE} {p p2 q pos : Pos} (hc : X.calm = true) (hg : Gl X "len") (hm : X.mg "len" = none) (hg2 : Gl X "set") (hm2 : X.mg "set" = none) (ha : PE X a ta)
    (na : starEach [a] X.env = (false, eval a X.env) :: starEach [] X.env := by rfl) : PE X (.Call (.Name "len" p) [.Call (.Name "set" p2) [a] [] q] [] pos) (tLenSetN X.K ta) := by
  refine ⟨fun pins s σ H Q I h => ?_⟩
  refine Call_ (ld_blt I hg hm boot_len ?_)
  refine PyProof.Rows.callWith_builtin1 (PyProof.Rows.args_cons ?_ rfl) rfl rfl
  refine Call_ (ld_blt I hg2 hm2 boot_set ?_)
  refine PyProof.Rows.callWith_type1 (PyProof.Rows.args_cons (thn (ha.run pins s σ H _ I h) fun v s1 ⟨x, H1, I1, r1, q1⟩ => PyProof.Rows.args_nil ?_) na) na rfl
  obtain ⟨l, xs, rfl, hq, h1, q1⟩ := q1
  cases r1
  obtain ⟨its, r, pl, hz⟩ := I1.list hq
  refine call_setL (xs := xs) (I1.ok.hd hc) pl.isList (by simpa using strsAre_of r) (by unfold scanBound; omega) fun h' tk hS => ?_
  refine PyProof.Rows.args_nil ?_
  obtain ⟨hS, hk⟩ := hS
  have le := dn_le xs
  obtain ⟨o, es, ep, t, ho, hex, hd, _, _, _, hf, hn⟩ := hS
  have I2 : Inv X pins σ H1 { s1 with heap := h', toks := tk } := I1.kept fun b o e => hk b o (Heap.lt_size e) e
  refine call_len_set ho hex hd hf (by rw [hn] <;> omega) ⟨.int (dn xs : Nat), H1, I2.tok _, ⟨_, by rw [hn]⟩, q1⟩
end
end KV
set_option Elab.async false
set_option linter.all false
set_option maxRecDepth 100000
set_option maxHeartbeats 0
/-! k54: _law_is_book -/
namespace LW
open PySem PySem.Spec PyProof.Rows L2 KV
theorem isB_table {p x c : Str} {ps cs : List Str} {ts : List Tab} {bh : Bool} (e : wordsOf p = ("table" : Str) :: x :: c :: cs) : isBookL (p :: ps) ts bh = (!bh && (decide (x ∉ ts.map Prod.fst) && ((isT x && (c :: cs).all isT) && (decide (c :: cs).Nodup && isBookL ps (ts ++ [(x, c :: cs)]) bh)))) := by
  rw [isBookL, e]
  dsimp only
  rw [if_pos rfl]
theorem isB_rule {p k : Str} {ps ws : List Str} {ts : List Tab} {bh : Bool} (e : wordsOf p = k :: ws) (h : k ≠ "table") : isBookL (p :: ps) ts bh = (isRuleL ts (k :: ws) && isBookL ps ts true) := by
  rw [isBookL, e]
  dsimp only
  rw [if_neg h]
theorem isB_short {p : Str} {ps ws : List Str} {ts : List Tab} {bh : Bool} (e : wordsOf p = ("table" : Str) :: ws) (h : ws.length < 2) : isBookL (p :: ps) ts bh = false := by
  rw [isBookL, e]
  dsimp only
  rw [if_pos rfl]
  rcases ws with _ | ⟨x, _ | ⟨c, cs⟩⟩
  · rfl
  · rfl
  · simp at h
    omega
def spIsB : Sp := fun vs H Q _ => ∃ (x : Str), vs = [.str x] ∧ Gd 3000 x ∧ ∀ H', Off (fun _ => False) H H' → Q (.bl (isBookL (piecesOf x) [] false)) H'
section
variable {P : Program} {w : World} {K : PySem.W.Frag} {mg : Str → Option Value} {base : Heap}
theorem scIsB : FnScope ["wording", "by_titles", "is_behind", "part", "pieces", "piece"] ["wording"] (defScope sIsBook) := ⟨rfl, rfl, rfl, by decide +kernel, rfl, by decide +kernel, by decide +kernel⟩
theorem ok_isB {f fT fR : Addr} {fd dT dR : FuncData} (F : FnP K "_law_is_book" sIsBook f fd) (GT : Dn P w K mg base 1 "_law_is_title" ["wording"] spIsT fT dT) (GR : Dn P w K mg base 1 "_law_is_rule" ["wording", "by_titles"] (spIsR K) fR dR) (ml : mg "len" = none) (ms : mg "set" = none) :
    FnOk P w K mg base CX0 2 f fd ["wording"] spIsB := by
  refine F.ok scIsB (fun vs H Q E h => ?_) (fun cdv A outer s H vs Q E hr h => ?_)
  · obtain ⟨x, rfl, _⟩ := h
    rfl
  obtain ⟨x, rfl, gx, q⟩ := h
  have hu : (A.deeper (envOfC "_law_is_book" (defScope sIsBook) s.heap.objs.size f cdv)).units + 64 < cLine := hr.units
  have hu1 : (A.deeper (envOfC "_law_is_book" (defScope sIsBook) s.heap.objs.size f cdv)).units + 1 < cLine := by omega
  refine ⟨_, PSs.nox (pss_cons (ps_par (i := 1) (j := 2) rfl scIsB.nd rfl rfl (by decide) rfl rfl (pa_cons pe_dnewK (pa_cons pe_bl pa_nil)) rfl)
    (pss_cons (ps_for PassesOwn.never rfl (pi_list (pe_ifExp (pt_cmpR op_ne (pv 0) pe_str (nomark _)) (pe_split (pv 0) pe_str) (pe_lst pa_nil))) (pg_name (i := 3) scIsB.nd rfl (Or.inl rfl))
      (pss_cons (ps_set (i := 4) scIsB.nd rfl (Or.inl rfl) (pe_split (pv 3) pe_str))
      (pss_one (ps_if (pt_cmpR op_ne (pe_ix ix_list (pv 4) pe_int (fun _ _ => rfl)) pe_str (nomark _))
        (pss_cons (ps_set (i := 2) scIsB.nd rfl (Or.inl rfl) pe_bl)
        (pss_one (ps_if (pt_not (pt_val (pe_call GR.g hr rfl GR.m GR.kp GR.b .nil pass0 (pa_cons (pv 3) (pa_cons (pv 1) pa_nil))))) (pss_one (ps_ret pe_bl)) pss_nil)))
        (pss_one (ps_if (PW.pt (pw_or (pt_val (pv 2)) (pw_or (pt_cmpR op_lt (pe_callB call_len_seq rfl ml boot_len (pa_cons (pv 4) pa_nil)) pe_int (nomark _)) (pw_or1 (pt_cmp (pc_din hu1 (pe_ix ix_list (pv 4) pe_int (fun _ _ => rfl)) (pv 1)))))))
          (pss_one (ps_ret pe_bl))
          (pss_cons (ps_if (pt_cmpR (op_neD hu) (pe_lc (own := [("piece", 5)]) (g := gName 5) rfl scIsB.nd (pi_list (pe_slice sl_list (pv 4) (po_some pe_int) po_none))
              (blkOk_by (own := [("piece", 5)]) (N := ["wording", "by_titles", "is_behind", "part", "pieces", "piece"]) (sc := defScope sIsBook) (by decide +kernel))
              (fun _ _ _ _ _ => pg_name (i := 5) scIsB.nd rfl (Or.inl rfl)) (fun _ _ _ _ _ => pts_one (pt_not (pt_val (pe_call GT.g hr rfl GT.m GT.kp GT.b .nil pass0 (pa_cons (pv 5) pa_nil)))))
              (fun _ _ _ _ _ => pv 5)) (pe_lst pa_nil) (nomark _)) (pss_one (ps_ret pe_bl)) pss_nil)
          (pss_cons (ps_if (pt_cmpR op_lt (pe_lenSetN rfl rfl ml rfl ms (pe_slice sl_list (pv 4) (po_some pe_int) po_none)) (pe_callB call_len_seq rfl ml boot_len (pa_cons (pe_slice sl_list (pv 4) (po_some pe_int) po_none) pa_nil)) (nomark _)) (pss_one (ps_ret pe_bl)) pss_nil)
          (pss_one (ps_dput hu1 (pv 1) (pe_ix ix_list (pv 4) pe_int (fun _ _ => rfl)) (pe_slice sl_list (pv 4) (po_some pe_int) po_none) rfl)))))))))) 
    (pss_one (ps_ret pe_bl)))), ?_⟩
  have no : ¬ False := id
  have s0 : 0 ≤ sizeLine := by decide
  obtain ⟨gp, lp⟩ := pieces_gd gx
  refine fun d nd => ?_
  have k0 : Off (fun _ => False) H (upd H d (.dK [])) := Off.new nd
  have ed0 := upd_same (H := H) (a := d) (o := .dK [])
  generalize upd H d (.dK []) = B0 at k0 ed0 ⊢
  refine ⟨_, _, rfl, ?_⟩
  dsimp only [gName]
  refine for_cut (fun v G => ∃ sp, v = .ref sp ∧ B0 sp = none ∧ G = upd B0 sp (.lst ((piecesOf x).map V.str))) (fun D' v G eD g => ?_) (fun Q' qq => ?_)
  rotate_left
  · by_cases hx : x.length = 0
    · have ep : piecesOf x = [] := if_pos hx
      have ex : x = "" := str_ext (by
        have : x.cps.toList.length = 0 := by simpa [Str.length] using hx
        rw [List.length_eq_zero_iff.mp this]
        rfl)
      refine ⟨_, rfl, rfl, _, rfl, ?_⟩
      rw [decide_eq_true (show V.str x = V.str "" by rw [ex])]
      exact iteF ⟨s0, fun sp nsp => qq _ _ ⟨sp, rfl, nsp, by rw [ep]; rfl⟩⟩
    · have ep : piecesOf x = Txt.split x "; " := if_neg hx
      refine ⟨_, rfl, rfl, _, rfl, ?_⟩
      rw [decide_eq_false (show ¬ V.str x = V.str "" from fun z => hx (by rw [V.str.inj z]; rfl))]
      exact iteT ⟨_, rfl, ⟨_, rfl⟩, _, _, rfl, rfl, (by decide +kernel), Nat.le_trans (m := 3002) (Nat.add_le_add_right gx.2 2) (by decide), fun sp nsp => qq _ _ ⟨sp, rfl, nsp, by rw [ep]⟩⟩
  obtain ⟨sp, rfl, nsp, rfl⟩ := g
  generalize hPS : piecesOf x = PS at q gp lp ⊢
  have k3 : Off (fun _ => False) B0 (upd B0 sp (.lst (PS.map V.str))) := Off.new nsp
  have ed1 := k3 _ _ ed0 no
  have b3 := upd_same (H := B0) (a := sp) (o := .lst (PS.map V.str))
  have kB := k0.trans k3
  have nds : d ≠ sp := ne_of_none ed0 nsp
  generalize upd B0 sp (.lst (PS.map V.str)) = B at ed1 b3 kB ⊢
  refine ⟨sp, rfl, ⟨_, SqL.of b3⟩, for_list (K := K) (a := sp) (xs := PS.map V.str) (fun i σ G => ∃ w3 w4 w5 kvs ts bh, σ = [some (.str x), some (.ref d), some (.bl bh), w3, w4, w5] ∧ G d = some (.dK kvs) ∧ TitK K G kvs ts ∧ (∀ t ∈ ts, TabB 3000 3001 t) ∧ ts.length ≤ i ∧ Off (fun a => a = d) B G ∧ isBookL PS [] false = isBookL (PS.drop i) ts bh)
    ⟨none, none, none, [], [], false, rfl, ed1, .nil, fun t h => absurd h (by simp), Nat.le_refl _, Off.refl _ _, rfl⟩ (fun i σ G _ g => ?_) (fun i y σ G hx g => ?_) fun σ G g => ?_⟩
  · obtain ⟨_, _, _, _, _, _, _, _, _, _, _, k, _⟩ := g
    exact SqL.of (k _ _ b3 fun z => nds z.symm)
  rotate_left
  · obtain ⟨w3, w4, w5, kvs, ts, bh, rfl, ed, tk, tb, lt, k, eq⟩ := g
    rw [List.length_map, List.drop_length] at eq
    rw [eq] at q
    subst eD
    refine q G fun a o ea _ => k a o (kB a o ea no) fun z => by
      rw [z, nd] at ea
      cases ea
  obtain ⟨w3, w4, w5, kvs, ts, bh, rfl, ed, tk, tb, lt, k, eq⟩ := g
  rw [List.getElem?_map] at hx
  obtain ⟨p, hp, rfl⟩ := Option.map_eq_some_iff.mp hx
  have hi : i < PS.length := (List.getElem?_eq_some_iff.mp hp).1
  have gpp := gp p (List.mem_of_getElem? hp)
  obtain ⟨gw, lw⟩ := words_gd gpp
  obtain ⟨kw, ws, ew⟩ := words_ne p
  rw [ew] at gw lw
  rw [drop_cons hp] at eq
  have kHG : Off (fun _ => False) H G := fun a o ea _ => k a o (kB a o ea no) fun z => by
    rw [z, nd] at ea
    cases ea
  refine ⟨_, rfl, ⟨_, rfl⟩, _, _, rfl, rfl, (by decide +kernel), Nat.le_trans (m := 3002) (Nat.add_le_add_right gpp.2 2) (by decide), fun m nm => ?_⟩
  rw [show Txt.split p " " = kw :: ws from ew]
  have km : Off (fun _ => False) G (upd G m (.lst ((kw :: ws).map V.str))) := Off.new nm
  have em := upd_same (H := G) (a := m) (o := .lst ((kw :: ws).map V.str))
  generalize upd G m (.lst ((kw :: ws).map V.str)) = G1 at km em ⊢
  have em : G1 m = some (.lst (V.str kw :: ws.map V.str)) := em
  have kH1 := kHG.trans km
  have ed2 := km _ _ ed no
  have tk2 := titK_off km tk
  refine ⟨_, rfl, m, _, 0, _, rfl, rfl, SqL.of em, atI_nat (j := 0) rfl, rfl, _, rfl, ?_⟩
  by_cases hk : kw = "table"
  rotate_left
  · rw [decide_eq_false (show ¬ (V.str kw = V.str "table") from fun z => hk (V.str.inj z))]
    rw [isB_rule ew hk] at eq
    refine iteT ⟨_, rfl, _, rfl, p, d, kvs, ts, rfl, gpp, ed2, tk2, tb, fun G2 k2 => ⟨_, rfl, ?_⟩⟩
    rw [show wordsOf p = kw :: ws from ew]
    cases er : isRuleL ts (kw :: ws) with
    | false =>
      rw [eq, er] at q
      subst eD
      exact iteT (q G2 (kH1.trans k2))
    | true =>
      rw [er, Bool.true_and] at eq
      exact iteF ⟨_, _, _, kvs, ts, true, rfl, k2 _ _ ed2 no, titK_off k2 tk2, tb, Nat.le_succ_of_le lt, fun a o ea na => k2 _ _ (km _ _ (k a o ea na) no) no, eq⟩
  subst hk
  rw [decide_eq_true (show V.str "table" = V.str "table" from rfl)]
  have bad : isBookL PS [] false = false → ∀ G', Off (fun _ => False) G1 G' → D'.rt (.bl false) G' := fun e G' k' => by
    rw [e] at q
    subst eD
    exact q G' (kH1.trans k')
  refine iteF ⟨_, rfl, ?_⟩
  rcases bh with _ | _
  rotate_left
  · refine ⟨_, rfl, bad ?_ _ (Off.refl _ _)⟩
    rw [eq]
    rcases Nat.lt_or_ge ws.length 2 with z | z
    · exact isB_short ew z
    · match ws, z with
      | x0 :: c0 :: cs, _ => rw [isB_table ew]; rfl
  refine ⟨_, rfl, _, rfl, m, _, rfl, .inl (SqL.of em), _, _, rfl, rfl, _, rfl, ?_⟩
  refine ite2 (fun c => ?_) (fun c => ?_)
  · refine bad ?_ _ (Off.refl _ _)
    rw [eq]
    have := of_decide_eq_true c
    exact isB_short ew (by simp at this; omega)
  have l2 : 2 ≤ ws.length := by
    rcases Nat.lt_or_ge ws.length 2 with z | z
    · refine absurd ?_ c
      refine decide_eq_true ?_
      simp
      omega
    · exact z
  obtain ⟨x0, c0, cs, rfl⟩ : ∃ x0 c0 cs, ws = x0 :: c0 :: cs := by
    match ws, l2 with
    | x0 :: c0 :: cs, _ => exact ⟨x0, c0, cs, rfl⟩
  rw [isB_table ew, Bool.not_false, Bool.true_and] at eq
  refine ⟨_, rfl, m, _, 1, _, rfl, rfl, SqL.of em, atI_nat (j := 1) rfl, _, rfl, d, _, rfl, DGet.k (k := .inr x0) ed2, _, rfl, ?_⟩
  rcases titK_at (x := x0) tk2 with ⟨v1, v2⟩ | ⟨v, t', v1, v2, v3⟩
  rotate_left
  · rw [v1]
    refine bad ?_ _ (Off.refl _ _)
    rw [eq, decide_eq_false (fun z => z (tabOf_some v2))]
    rfl
  rw [v1]
  rw [decide_eq_true (tabOf_none v2), Bool.true_and] at eq
  have ec1 : cutV (V.str "table" :: (x0 :: c0 :: cs).map V.str) (some 1) none = (x0 :: c0 :: cs).map V.str := by
    rw [cutV_tail (by decide)]
    rfl
  have ec2 : cutV (V.str "table" :: (x0 :: c0 :: cs).map V.str) (some 2) none = (c0 :: cs).map V.str := by
    rw [cutV_tail (by decide)]
    rfl
  have lcs : cs.length + 3 ≤ 3001 := by simpa using lw
  refine ⟨_, rfl, _, rfl, m, _, rfl, SqL.of em, fun m2 n2 => ?_⟩
  rw [ec1]
  have j1 : Off (fun _ => False) G1 (upd G1 m2 (.lst ((x0 :: c0 :: cs).map V.str))) := Off.new n2
  have e2 := upd_same (H := G1) (a := m2) (o := .lst ((x0 :: c0 :: cs).map V.str))
  generalize upd G1 m2 (.lst ((x0 :: c0 :: cs).map V.str)) = G2 at j1 e2 ⊢
  generalize hL : x0 :: c0 :: cs = L at e2 ⊢
  have gL : ∀ y ∈ L, Gd 3000 y := fun y hy => gw y (List.mem_cons_of_mem _ (by rw [hL]; exact hy))
  have lL : L.length ≤ 3000 := by rw [← hL]; simp; omega
  refine ⟨m2, rfl, ⟨_, SqL.of e2⟩, fun D hD => lc_list (K := K) (a := m2) (xs := L.map V.str) (fun i G' => G' D = some (.lst (((L.take i).filter fun c => !isT c).map V.str)) ∧ Off (fun _ => False) G2 G') ⟨upd_same, Off.new hD⟩ (fun i G' _ g => SqL.of (g.2 _ _ e2 no)) (fun i y G' hy g => ?_) fun G' g => ?_⟩
  · obtain ⟨f1, f2⟩ := g
    rw [List.getElem?_map] at hy
    obtain ⟨c, hc, rfl⟩ := Option.map_eq_some_iff.mp hy
    have gc := gL c (List.mem_of_getElem? hc)
    have hf : (L.take (i + 1)).filter (fun c => !isT c) = (L.take i).filter (fun c => !isT c) ++ if (!isT c) = true then [c] else [] := by
      rw [take_snoc hc, List.filter_append, List.filter_cons]
      rfl
    refine ⟨rfl, _, rfl, c, rfl, gc.1, Nat.le_trans gc.2 (by decide), fun G3 k3 => ⟨_, rfl, ?_⟩⟩
    have f1' := k3 _ _ f1 no
    refine ite2 (fun z => ?_) (fun z => ?_)
    · rw [if_pos z] at hf
      refine ⟨_, rfl, _, f1', ?_, ?_, ?_⟩
      · rw [List.length_map]
        exact Nat.lt_of_le_of_lt (Nat.le_trans (List.length_filter_le _ _) (Nat.le_trans (List.length_take_le' _ _) lL)) (by decide)
      · rw [hf, List.map_append]
        exact upd_same
      · exact fun a o e n => (upd_ne fun z => by rw [z, hD] at e; cases e).trans (k3 a o (f2 a o e n) n)
    · rw [if_neg z, List.append_nil] at hf
      rw [hf]
      exact ⟨f1', f2.trans k3⟩
  obtain ⟨f1, f2⟩ := g
  rw [List.length_map, List.take_length] at f1
  refine ⟨by decide, fun D2 hD2 => ?_⟩
  have k2' : Off (fun _ => False) G' (upd G' D2 (.lst [])) := Off.new hD2
  refine ⟨.list ((L.filter fun c => !isT c).map PyData.str), .list [], .lst (SqL.of (k2' _ _ f1 no)) (dp_strs _), .lst (SqL.of upd_same) .nil, shaped_strs fun y hy => ?_, by decide +kernel, ?_⟩
  · exact (gL y (List.mem_filter.mp hy).1).1
  have kk := (j1.trans f2).trans k2'
  generalize upd G' D2 (.lst []) = G4 at kk ⊢
  rw [eqv_nil, List.isEmpty_map, filter_all]
  have el : L.all isT = (isT x0 && (c0 :: cs).all isT) := by rw [← hL]; rfl
  rw [el]
  cases hT : (isT x0 && (c0 :: cs).all isT) with
  | false =>
    refine ⟨_, rfl, iteT (bad ?_ _ kk)⟩
    rw [eq, hT]
    rfl
  | true =>
    rw [hT, Bool.true_and] at eq
    refine ⟨_, rfl, iteF ?_⟩
    have em4 := kk _ _ em no
    refine ⟨_, rfl, _, rfl, m, _, rfl, SqL.of em4, fun m3 n3 => ?_⟩
    rw [ec2]
    have j3 : Off (fun _ => False) G4 (upd G4 m3 (.lst ((c0 :: cs).map V.str))) := Off.new n3
    refine ⟨m3, c0 :: cs, rfl, SqL.of upd_same, by simp; omega, ?_⟩
    generalize upd G4 m3 (.lst ((c0 :: cs).map V.str)) = G5 at j3 ⊢
    refine ⟨_, rfl, _, rfl, m, _, rfl, SqL.of (j3 _ _ em4 no), fun m4 n4 => ?_⟩
    rw [ec2]
    have j4 : Off (fun _ => False) G5 (upd G5 m4 (.lst ((c0 :: cs).map V.str))) := Off.new n4
    refine ⟨m4, _, rfl, .inl (SqL.of upd_same), _, _, rfl, rfl, _, rfl, ?_⟩
    generalize upd G5 m4 (.lst ((c0 :: cs).map V.str)) = G6 at j4 ⊢
    have k6 := (kk.trans j3).trans j4
    have le := dn_le (c0 :: cs)
    have nd' := dn_nd (c0 :: cs)
    refine ite2 (fun c => ?_) (fun c => ?_)
    · have c := of_decide_eq_true c
      refine bad ?_ _ k6
      rw [eq, decide_eq_false (fun z => by
        have := nd'.mpr z
        rw [List.length_map] at c
        omega)]
      rfl
    · have nn : (c0 :: cs).Nodup := nd'.mp (by
        rcases Nat.lt_or_ge (dn (c0 :: cs)) (c0 :: cs).length with z | z
        · refine absurd (decide_eq_true ?_) c
          rw [List.length_map]
          omega
        · omega)
      rw [decide_eq_true nn, Bool.true_and] at eq
      have em6 := k6 _ _ em no
      have ed6 := k6 _ _ ed2 no
      refine ⟨_, rfl, _, rfl, m, _, rfl, SqL.of em6, fun m5 n5 => ?_⟩
      rw [ec2]
      have j5 : Off (fun _ => False) G6 (upd G6 m5 (.lst ((c0 :: cs).map V.str))) := Off.new n5
      have e5 := upd_same (H := G6) (a := m5) (o := .lst ((c0 :: cs).map V.str))
      generalize upd G6 m5 (.lst ((c0 :: cs).map V.str)) = G7 at j5 e5 ⊢
      have k7 := k6.trans j5
      have ed7 := j5 _ _ ed6 no
      have lk : kvs.length < sizeLine := by
        have l1 := titK_len tk
        exact Nat.lt_of_le_of_lt (m := 3001) (by omega) (by decide)
      refine ⟨_, rfl, _, rfl, m, _, 1, _, rfl, rfl, SqL.of (j5 _ _ em6 no), atI_nat (j := 1) rfl, d, _, rfl, DPut.k (k := .inr x0) ed7 lk, ?_⟩
      have ep : putK kvs (.inr x0) (V.ref m5) = kvs ++ [(.inr x0, .ref m5)] := putK_new _ v1
      rw [ep]
      have kin : Off (fun a => a = d) G7 (upd G7 d (.dK (kvs ++ [(.inr x0, .ref m5)]))) := Off.upd rfl
      have nsq : NoSq G7 d := NoSq.dK ed7
      refine ⟨_, _, _, _, ts ++ [(x0, c0 :: cs)], false, rfl, upd_same, ?_, fun t ht => ?_, by rw [List.length_append]; exact Nat.succ_le_succ lt, fun b o eb nb => ?_, eq⟩
      · exact titK_snoc (t := (x0, c0 :: cs)) (dp_in kin nsq (.lst (SqL.of e5) (dp_strs _))) (titK_in kin nsq (titK_off k7 tk2))
      · rcases List.mem_append.mp ht with ht | ht
        · exact tb t ht
        · rw [List.mem_singleton.mp ht]
          exact ⟨by simp, by simp; omega, fun y hy => gL y (by rw [← hL]; exact List.mem_cons_of_mem _ hy), gL x0 (by rw [← hL]; simp)⟩
      · rw [upd_ne nb]
        exact k7 _ _ (km _ _ (k b o eb nb) no) no
end
end LW
set_option Elab.async false
set_option linter.all false
set_option maxRecDepth 100000
set_option maxHeartbeats 4000000
/-! A caught error within its clause: its class, its field. -/
namespace KV
open PySem PySem.Spec PyProof.Rows L2
theorem held_at {P : Program} {w : World} {H : Hp} {h : Heap} {a C dx : Addr} {fs : List (Str × V)} {oe : Obj} {vs : Array Value} (hok : HOk P w H h) (he : h.get? a = some oe) (hc : oe.cls = .ref C) (hd : oe.dict = some dx) (hf : oe.data = .fields vs) (e : H dx = some (.xd fs)) :
    ∃ mA od, PySem.W.InstAt h a oe C (some od) ∧ oe.dict = some dx ∧ h.Ns1 dx mA ∧ h.get? dx = some od ∧ (∀ f, PySem.W.lookIn f od = some (mA f)) ∧ ∀ f : Str, RelO (List.lookup f fs) (mA f) := by
  have h2 := hok _ _ e
  unfold ObjOk at h2
  obtain ⟨mA, hns, hr⟩ := h2
  obtain ⟨od, hod, hl⟩ := lookIn_ns hns
  obtain ⟨c, d, dat, sl⟩ := oe
  dsimp only at hc hd hf
  subst hc hd hf
  exact ⟨mA, od, ⟨he, rfl, rfl, hod⟩, rfl, hns, hod, hl, hr⟩
section
variable {X : Cx} {a : Addr} {oe : Obj} {pn : List (Addr × Obj)} {cls : Value} {d : Option Addr} {f : Str} {pos : Pos} {e : Expr} {te : TE}
/-- the field of the error that the clause holds -/
def tGetH (K : PySem.W.Frag) (a : Addr) (cls : Value) (d : Option Addr) (f : Str) (te : TE) : TE := fun σ H Q => te σ H fun x H1 => ∃ (C dx : Addr) (fs : List (Str × V)) (v : V), x = .ref a ∧ cls = .ref C ∧ d = some dx ∧ XfC K C ∧ PySem.W.findIn K (.ref C) f = some none ∧
  H1 dx = some (.xd fs) ∧ fs.lookup f = some v ∧ Q v H1
theorem pe_getH (hz : Zc cls d oe) (hf : ∃ vs, oe.data = .fields vs) (he : PE (X.suite a ((a, oe) :: pn)) e te) (hb : attributeBase e f (X.suite a ((a, oe) :: pn)).env (eval e (X.suite a ((a, oe) :: pn)).env) = eval e (X.suite a ((a, oe) :: pn)).env := by rfl) : PE (X.suite a ((a, oe) :: pn)) (.Attribute e f pos) (tGetH X.K a cls d f te) := by
  constructor
  intro pins s σ H Q I h
  refine attr_of hb (thn (he.run pins s σ H _ I h) ?_)
  rintro u s1 ⟨x, H1, I1, rx, C, dx, fs, v, rfl, rfl, rfl, T, hno, ea, l, q⟩
  cases rx
  obtain ⟨hget, _⟩ := I1.pin (a, oe) (List.mem_append.mpr (.inl List.mem_cons_self))
  obtain ⟨vs, hv⟩ := hf
  obtain ⟨mA, od, J, hdx, hns, hod, hl, hr⟩ := held_at I1.hok hget hz.1 hz.2 hv ea
  obtain ⟨u, hu, ru⟩ := RelO.some_of (v := v) (o := mA f) (by rw [← l]; exact hr f)
  exact HandSPX.exc_get I1.kIn J T.ga T.gg T.exC (PySem.W.findObj_own T.hdC hno rfl (by rw [hl, hu])) (handed_of ru) ⟨v, H1, I1.tok _, ru, q⟩
/-- isinstance(e, C), e the error that the clause holds -/
def rIsH (K : PySem.W.Frag) (a : Addr) (cls : Value) (d : Option Addr) : List V → Hp → VK → Prop := fun xs H Q => ∃ (D dx : Addr) (fs : List (Str × V)) (c : V) (u : Value) (b : Bool), xs = [.ref a, c] ∧ cls = .ref D ∧ d = some dx ∧ ClsV c u ∧ PySem.W.ErrC K D ∧
  H dx = some (.xd fs) ∧ PySem.W.kitOne K (.ref D) u = some b ∧ Q (.bl b) H
theorem call_isH (hz : Zc cls d oe) (hf : ∃ vs, oe.data = .fields vs) : CallR (X.suite a ((a, oe) :: pn)) (.builtin "isinstance") (rIsH X.K a cls d) := by
  intro pins s σ H xs us Q I r h
  obtain ⟨D, dx, fs, c, u, b, rfl, rfl, rfl, k, ec, ea, e, q⟩ := h
  obtain ⟨u1, u2, rfl, r1, r2⟩ := vals2 r
  have e2 := k.eq r2
  subst e2
  cases r1
  obtain ⟨hget, _⟩ := I.pin (a, oe) (List.mem_append.mpr (.inl List.mem_cons_self))
  obtain ⟨vs, hv⟩ := hf
  obtain ⟨mA, od, J, _⟩ := held_at I.hok hget hz.1 hz.2 hv ea
  exact PySem.W.kia_one (PySem.W.err_kit ec) I.kIn J e (fun z => nomatch z) fun tk => ⟨.bl b, H, I.tok tk, rfl, q⟩
/-- isinstance(e, (C1, C2, ..)) -/
def rIsHT (K : PySem.W.Frag) (a : Addr) (cls : Value) (d : Option Addr) : List V → Hp → VK → Prop := fun xs H Q => ∃ (D dx tp : Addr) (fs : List (Str × V)) (cs : List V) (us : List Value) (b : Bool), xs = [.ref a, .ref tp] ∧ cls = .ref D ∧ d = some dx ∧ H tp = some (.tup cs) ∧ Paired ClsV cs us ∧ PySem.W.ErrC K D ∧
  H dx = some (.xd fs) ∧ PySem.W.kitAny K (.ref D) us = some b ∧ Q (.bl b) H
theorem call_isHT (hz : Zc cls d oe) (hf : ∃ vs, oe.data = .fields vs) : CallR (X.suite a ((a, oe) :: pn)) (.builtin "isinstance") (rIsHT X.K a cls d) := by
  intro pins s σ H xs us Q I r h
  obtain ⟨D, dx, tp, fs, cs, ws, b, rfl, rfl, rfl, hT, k, ec, ea, e, q⟩ := h
  obtain ⟨u1, u2, rfl, r1, r2⟩ := vals2 r
  cases (show u2 = Value.ref tp from r2)
  cases r1
  obtain ⟨hget, _⟩ := I.pin (a, oe) (List.mem_append.mpr (.inl List.mem_cons_self))
  obtain ⟨vs, hv⟩ := hf
  obtain ⟨mA, od, J, _⟩ := held_at I.hok hget hz.1 hz.2 hv ea
  obtain ⟨_, its, rv, o, h1, h2, n, h3⟩ := (show ObjOk X.prog X.w H s.heap tp (.tup cs) from I.hok tp _ hT)
  have e3 := ClsV.all k rv
  subst e3
  obtain ⟨oc, od', dt, sl⟩ := o
  simp only at h2 h3
  subst h2 h3
  exact PySem.W.kia_tup (PySem.W.err_kit ec) I.kIn J h1 e (fun z => nomatch z) fun tk => ⟨.bl b, H, I.tok tk, rfl, q⟩
end
end KV
set_option Elab.async false
set_option linter.all false
set_option maxRecDepth 100000
set_option maxHeartbeats 4000000
/-! A head that knows defs at any address, own words of the class, tuples of tuples. -/
namespace KV
open PySem PySem.Spec PyProof.Rows L2
open He (Fa)
abbrev Df := He5.DefA
def obsB (fa : List Fa) (fn : List Df) (ex : PySem.W.Frag → Bool) (K : PySem.W.Frag) : He.AlD := (((fa.all fun f => f.ok K) && fn.all fun d => d.ok K) && ex K, fn.map fun d => He5.fnA K (d.at_ K))
def valB (fn : List Df) : He.AlD := (true, fn.map He5.DefA.val)
def SaysB (fa : List Fa) (fn : List Df) (ex : PySem.W.Frag → Bool) (K : PySem.W.Frag) : Prop := obsB fa fn ex K = valB fn
def obsBG (n : Nat) (fa : List Fa) (fn : List Df) (ex : PySem.W.Frag → Bool) (g : Addr → Option Obj) : He.AlD := obsB fa fn ex (He.frT g (He.asD g n))
def hookB (n : Nat) (fa : List Fa) (fn : List Df) (ex : PySem.W.Frag → Bool) : PySem.W.Hook where
  α := He.AlD
  obs := fun s => obsBG n fa fn ex s.heap.get?
  val := fun _ => valB fn
  says := fun _ h => ∃ K : PySem.W.Frag, K.In h ∧ SaysB fa fn ex K
  of := fun _ _ e => ⟨_, He.frT_in, e⟩
  keeps := fun _ _ _ ⟨K, hK, c⟩ k => ⟨K, PySem.W.Frag.In.keeps hK k, c⟩
theorem obsBG_eq {n : Nat} {fa : List Fa} {fn : List Df} {ex : PySem.W.Frag → Bool} {g : Addr → Option Obj} {s : Shared} (h : ∀ a, g a = s.heap.get? a) : obsBG n fa fn ex g = (hookB n fa fn ex).obs s := by
  have e : g = s.heap.get? := funext h
  rw [e] <;> rfl
section
variable {fa : List Fa} {fn : List Df} {ex : PySem.W.Frag → Bool} {K : PySem.W.Frag}
theorem SaysB.parts (c : SaysB fa fn ex K) : (fa.all fun f => f.ok K) = true ∧ (fn.all fun d => d.ok K) = true ∧ ex K = true := by
  have c1 : (((fa.all fun f => f.ok K) && fn.all fun d => d.ok K) && ex K) = true := congrArg (fun z : He.AlD => z.1) c
  obtain ⟨c2, c3⟩ := He.ba c1
  obtain ⟨c4, c5⟩ := He.ba c2
  exact ⟨c4, c5, c3⟩
theorem SaysB.facts (c : SaysB fa fn ex K) {f : Fa} (h : f ∈ fa) : f.ok K = true := List.all_eq_true.mp c.parts.1 f h
theorem SaysB.def_ (c : SaysB fa fn ex K) (i : Nat) {d : Df} (h : fn[i]? = some d := by rfl) : ∃ fd, FunD K d.name d.qual d.params d.body d.scope (d.dvs K) (d.kws K) (d.at_ K) fd := by
  have e : fn.map (fun d => He5.fnA K (d.at_ K)) = fn.map He5.DefA.val := congrArg (fun z : He.AlD => z.2) c
  have e2 : (fn.map fun d => He5.fnA K (d.at_ K))[i]? = (fn.map He5.DefA.val)[i]? := by rw [e]
  rw [List.getElem?_map, List.getElem?_map, h] at e2
  exact He5.DefA.funD (Option.some.inj e2) (List.all_eq_true.mp c.parts.2.1 d (List.mem_of_getElem? h))
end
/-! ### own words of a class -/
def pgB (K : PySem.W.Frag) (C : Addr) (f : Str) : Addr := match PySem.W.recIn K (He.ma K C f) "property" with
  | some (.ref g :: _) => g
  | _ => 0
def propB (K : PySem.W.Frag) (C : Addr) (f : Str) : Bool := He.eqO (PySem.W.findIn K (.ref C) f) (some (some (.ref (He.ma K C f)))) && (He.eqO (PySem.W.specialIn K (.ref (He.ma K C f)) "__get__") (some (some (.builtin "property.__get__"))) &&
  (decide (PySem.W.takesIn K (.ref (He.ma K C f)) = some true) && (match PySem.W.recIn K (He.ma K C f) "property" with
    | some (.ref _ :: _) => true
    | _ => false)))
theorem propB_ok {K : PySem.W.Frag} {C : Addr} {f : Str} (h : propB K C f = true) : PropOf K C f (He.ma K C f) (pgB K C f) := by
  obtain ⟨h1, h⟩ := He.ba h
  obtain ⟨h2, h⟩ := He.ba h
  obtain ⟨h3, h4⟩ := He.ba h
  refine ⟨He.eqO_ok h1, He.eqO_ok h2, of_decide_eq_true h3, ?_⟩
  unfold pgB
  cases q : PySem.W.recIn K (He.ma K C f) "property" with
  | none =>
    rw [q] at h4
    cases h4
  | some l =>
    rw [q] at h4
    match l, h4 with
    | .ref g :: r, _ => exact ⟨r, rfl⟩
def itemB (K : PySem.W.Frag) (C : Addr) : Bool := He.eqO (PySem.W.findIn K (.ref C) "__getitem__") (some (some (.ref (He.ma K C "__getitem__")))) && (PySem.W.fnIn K (He.ma K C "__getitem__") && PySem.W.isFn K (.ref (He.ma K C "__getitem__")))
theorem itemB_ok {K : PySem.W.Frag} {C : Addr} (h : itemB K C = true) : ItemF K C (He.ma K C "__getitem__") := by
  obtain ⟨h1, h⟩ := He.ba h
  obtain ⟨h2, h3⟩ := He.ba h
  exact ⟨He.eqO_ok h1, h2, h3⟩
/-! ### tuples of the written part -/
def tupAt (K : PySem.W.Frag) (a : Addr) : Option (List Value) := match K.lookup a with
  | some ⟨.type t, _, .seq its _, _⟩ => if t = "tuple" ∧ its.size ≤ sizeLine then some its.toList else none
  | _ => none
theorem tupAt_ok {K : PySem.W.Frag} {a : Addr} {vs : List Value} (h : tupAt K a = some vs) {xs : List V} (r : Vals xs vs) (H : Hp) : SqT K H a xs := by
  unfold tupAt at h
  cases q : K.lookup a with
  | none =>
    rw [q] at h
    cases h
  | some o =>
    obtain ⟨oc, od, dt, osl⟩ := o
    rw [q] at h
    cases oc with
    | type t =>
      cases dt with
      | seq its n =>
        have h : (if t = "tuple" ∧ its.size ≤ sizeLine then some its.toList else none) = some vs := h
        by_cases c : t = "tuple" ∧ its.size ≤ sizeLine
        · rw [if_pos c] at h
          cases h
          exact .inr ⟨_, its, n, q, congrArg Value.type c.1, rfl, c.2, r⟩
        · rw [if_neg c] at h
          cases h
      | _ => cases h
    | _ => cases dt <;> cases h
/-- a tuple of a text and a number -/
def pairB (K : PySem.W.Frag) (a : Addr) (x : Str) (i : Int) : Bool := match tupAt K a with
  | some [.str y _, .int j _] => decide (y = x) && decide (j = i)
  | _ => false
theorem pairB_ok {K : PySem.W.Frag} {a : Addr} {x : Str} {i : Int} (h : pairB K a x i = true) (H : Hp) : Dp K H (.ref a) (.tuple [.str x, .int i]) := by
  unfold pairB at h
  split at h
  · rename_i y t j u q
    obtain ⟨h1, h2⟩ := He.ba h
    have h1 := of_decide_eq_true h1
    have h2 := of_decide_eq_true h2
    subst h1 h2
    exact .tup (tupAt_ok (xs := [.str y, .int j]) q (.cons ⟨t, rfl⟩ (.cons ⟨u, rfl⟩ .nil)) H) (.cons (.str _) (.cons (.int _) .nil))
  · cases h
/-- a tuple of such pairs -/
def pairsB (K : PySem.W.Frag) (a : Addr) (x y : Str) (i j : Int) : Bool := match tupAt K a with
  | some [.ref b, .ref c] => pairB K b x i && pairB K c y j
  | _ => false
theorem pairsB_ok {K : PySem.W.Frag} {a : Addr} {x y : Str} {i j : Int} (h : pairsB K a x y i j = true) (H : Hp) : Dp K H (.ref a) (.tuple [.tuple [.str x, .int i], .tuple [.str y, .int j]]) := by
  unfold pairsB at h
  split at h
  · rename_i b c q
    obtain ⟨h1, h2⟩ := He.ba h
    exact .tup (tupAt_ok (xs := [.ref b, .ref c]) q (.cons rfl (.cons rfl .nil)) H) (.cons (pairB_ok h1 H) (.cons (pairB_ok h2 H) .nil))
  · cases h
end KV
set_option Elab.async false
set_option linter.all false
set_option maxRecDepth 100000
set_option maxHeartbeats 4000000
/-! len of an own instance. -/
namespace KV
open PySem PySem.Spec PyProof.Rows L2
section
variable {X : Cx} {k : Nat} {f C : Addr} {fd : FuncData} {ps : List Str} {sp : Sp}
def rLenO (C : Addr) (sp : Sp) : List V → Hp → VK → Prop := fun xs H Q => ∃ a dx fs, xs = [.ref a] ∧ H a = some (.ins C dx fs) ∧ sp [.ref a] H (fun v H' => ∃ n : Int, v = .int n ∧ 0 ≤ n ∧ n < 2 ^ 63 ∧ Q (.int n) H') fun _ _ _ => False
theorem call_lenO (hs : PySem.W.findIn X.K (.ref C) "__len__" = some (some (.ref f))) (hf : PySem.W.isFn X.K (.ref f) = true) (F : FnOk X.prog X.w X.K X.mg X.base CX0 k f fd ps sp) (hr : Room (k + 1) X.A) (hb : Binds X.K fd ps []) : CallR X (.builtin "len") (rLenO C sp) := by
  intro pins s σ H xs us Q I r h
  obtain ⟨a, dx, fs, rfl, ha, q⟩ := h
  obtain rfl := Vals.ref1 r
  obtain ⟨mA, J, _⟩ := ins_get I.hok ha
  obtain ⟨od, J, _⟩ := J.look
  obtain ⟨m, hF⟩ := I.fr
  refine PySem.W.len_K hF I.ok.mod.kin J hs hf ?_
  have r2 : Vals [V.ref a] [Value.ref a] := .cons rfl .nil
  have hl := F.len _ _ _ _ q
  have bt := hb s [Value.ref a] I.kIn (by simpa using hl)
  rw [List.append_nil] at bt
  refine wpAny_call (codeAny_mono (F.run X.A.in1 X.stack s H ⟨[Value.ref a], []⟩ [Value.ref a] [V.ref a] _ (fun _ _ _ => False) hr.in1 I.env0.in1 bt r2 q) fun r s' hq => ?_)
  cases r with
  | error e => exact hq.elim
  | ok fl =>
    cases fl with
    | ret w =>
      obtain ⟨v, H', I3, rv, n, ev, n0, n1, q3⟩ := I.after hq
      subst ev
      obtain ⟨t, rfl⟩ := rv
      exact ⟨⟨n0, n1⟩, .int n, H', I3.tok _, ⟨_, rfl⟩, q3⟩
    | next => exact False.elim hq
    | brk => exact False.elim hq
    | cont => exact False.elim hq
end
end KV
set_option Elab.async false
set_option linter.all false
set_option maxRecDepth 100000
set_option maxHeartbeats 4000000
/-! != of own instances with an own __eq__ and no own __ne__. -/
namespace KV
open PySem PySem.Spec PyProof.Rows L2
section
variable {prog : Program} {w : World} {A : Around} {E : Value → Shared → Prop} {s : Shared} {K : PySem.W.Frag} {x y C f : Addr} {ox oy : Obj} {od od' : Option Obj}
theorem entry_neO (hu : A.units < cLine) (X : K.In s.heap) (I : PySem.W.InstAt s.heap x ox C od) (hs : PySem.W.findIn K (.ref C) "__eq__" = some (some (.ref f))) (hf : PySem.W.isFn K (.ref f) = true) {Q : Fin → Shared → Prop}
    (h : wpAny (model prog w) A (call (.ref f) [.ref x, .ref y]) (fun v s' => ∃ b, v = .bool b ∧ Q (.done (.ret (.bool (!b)))) s') E s) : wpAny (model prog w) A (Builtin.«object.__ne__» ⟨[.ref x, .ref y], []⟩) Q E s := by
  unfold Builtin.«object.__ne__»
  repeat (first
    | with_reducible refine wpAny_cRoomFor hu ?_
    | (refine wpAny_bind (m := callSpecialIfBound? (.ref x) (Str.ofString "__eq__") [.ref y]) (PySem.W.ifBound_K X I hs hf (wpAny_mono h (fun r s' hr => by
          obtain ⟨b, rfl, hq⟩ := hr
          repeat (first | exact hq | exact wpAny_pure hq | exact wpAny_truthy_bool hq | (refine wpAny_bind (m := truthy (.bool _)) (wpAny_truthy_bool ?_)) | wp_step)) fun _ _ e => e)))
    | wp_step)
theorem call_objNe {Q : Value → Shared → Prop} (hu : A.in1.units < cLine) (X : K.In s.heap) (I : PySem.W.InstAt s.heap x ox C od) (hm : PySem.W.mroIn K C (.type "object") = some true)
    (hs : PySem.W.findIn K (.ref C) "__eq__" = some (some (.ref f))) (hf : PySem.W.isFn K (.ref f) = true) (h : wpAny (model prog w) A.in1 (call (.ref f) [.ref x, .ref y]) (fun v s' => ∃ b, v = .bool b ∧ Q (.bool (!b)) s') E s) :
    wpAny (model prog w) A (call (.builtin "object.__ne__") [.ref x, .ref y]) Q E s :=
  wpAny_call (codeAny_call_builtin F.cmp_object.ne.plain F.cmpEntry_ne (PySem.W.check_slot F.cmpKind_ne F.cmpSplit_ne (I.type.andThen (PySem.W.looks_mroIn X hm)) (F.cmpArgs_ne _ _) (entry_neO hu X I hs hf h)))
theorem ifBound_objNe {M : Model} {args : List Value} {Q : Option Value → Shared → Prop} (X : K.In s.heap) (I : PySem.W.InstAt s.heap x ox C od) (hn : PySem.W.findIn K (.ref C) "__ne__" = some (some (.builtin "object.__ne__")))
    (h : wpAny M A (call (.builtin "object.__ne__") (.ref x :: args)) (fun v => Q (some v)) E s) : wpAny M A (callSpecialIfBound? (.ref x) "__ne__" args) Q E s := by
  unfold callSpecialIfBound? bindSpecialIfBound?
  refine wpAny_holding (wpAny_bind (wpAny_bind (wpAny_bind (I.type.here ((PySem.W.looks_findIn X hn).here ?_)))))
  have fin : wpAny M A (do
      let v ← call (.builtin "object.__ne__") ([.ref x] ++ args)
      pure (some v)) Q E s := wpAny_bind (wpAny_mono h (fun v s' h' => wpAny_pure h') fun _ _ h' => h')
  refine wpAny_bind (wpAny_askSetting (wpAny_ite ?_))
  split
  · exact wpAny_bind (wpAny_of_eq (F.cmp_object.ne.bind _) (wpAny_pure fin))
  · exact wpAny_tryCatch (wpAny_bind (wpAny_of_eq (F.cmp_object.ne.bind _) (wpAny_pure fin)))
theorem rc_neO {Q : Value → Shared → Prop} (hu : A.units < cLine) (hu1 : A.in1.units < cLine) (X : K.In s.heap) (I : PySem.W.InstAt s.heap x ox C od) (J : PySem.W.InstAt s.heap y oy C od') (hm : PySem.W.mroIn K C (.type "object") = some true)
    (hn : PySem.W.findIn K (.ref C) "__ne__" = some (some (.builtin "object.__ne__"))) (hs : PySem.W.findIn K (.ref C) "__eq__" = some (some (.ref f))) (hf : PySem.W.isFn K (.ref f) = true)
    (h : wpAny (model prog w) A.in1 (call (.ref f) [.ref x, .ref y]) (fun v s' => ∃ b, v = .bool b ∧ Q (.bool (!b)) s') E s) : wpAny (model prog w) A (richCompare .NotEq (.ref x) (.ref y)) Q E s := by
  have one : wpAny (model prog w) A (tryCompare (.ref x) "__ne__" (.ref y)) (fun r s' => ∃ b, r = some (.bool b) ∧ Q (.bool b) s') E s := by
    unfold tryCompare
    refine wpAny_bind (ifBound_objNe X I hn (call_objNe hu1 X I hm hs hf (wpAny_mono h (fun v s' hv => ?_) fun _ _ e => e)))
    obtain ⟨b, rfl, hq⟩ := hv
    exact ⟨b, rfl, wpAny_pure ⟨!b, rfl, hq⟩⟩
  unfold richCompare
  simp only [oneThing_ref, cmpInfo_NotEq]
  refine wpAny_holding (wpAny_bind (wpAny_cRoomFor hu ?_))
  refine wpAny_bind (I.type.here (wpAny_bind (J.type.here ?_)))
  split
  · rename_i q
    simp at q
  · refine wpAny_bind (wpAny_pure ?_)
    rw [if_neg (by decide)]
    refine wpAny_bind (m := tryCompare (.ref x) _ (.ref y)) (wpAny_mono one (fun r s' z => ?_) fun _ _ e => e)
    obtain ⟨b, rfl, hq⟩ := z
    exact wpAny_pure hq
end
/-- x == y, x != y of two instances of the class at C, whose own == is the def that promises sp -/
def rEqO (C : Addr) (sp : Sp) (g : Bool → Bool) : R2 := fun x y H Q => ∃ a b dx dy fs gs, x = .ref a ∧ y = .ref b ∧ H a = some (.ins C dx fs) ∧ H b = some (.ins C dy gs) ∧ sp [.ref a, .ref b] H (fun v H' => ∃ r : Bool, v = .bl r ∧ Q (.bl (g r)) H') fun _ _ _ => False
section
variable {X : Cx} {n : Nat} {C f : Addr} {fd : FuncData} {ps : List Str} {sp : Sp}
theorem run_eqO {A : Around} {pins : List (Addr × Obj)} {s : Shared} {σ : L2.St} {H : Hp} {a b : Addr} {G : V → Hp → Prop} {Qv : Value → Shared → Prop} (F : FnOk X.prog X.w X.K X.mg X.base CX0 n f fd ps sp) (hb : Binds X.K fd ps []) (I : Inv X pins σ H s) (hr : Room n A) (e0 : Env0 X.prog X.w X.K X.mg X.base A X.stack s H)
    (h : sp [.ref a, .ref b] H (fun v H' => ∃ r : Bool, v = .bl r ∧ G (.bl r) H') fun _ _ _ => False) (q : ∀ r H' s', Inv X pins σ H' s' → G (.bl r) H' → Qv (.bool r) s') :
    wpAny (model X.prog X.w) A (call (.ref f) [.ref a, .ref b]) Qv X.xe s := by
  have hl := F.len _ _ _ _ h
  have r2 : Vals [V.ref a, V.ref b] [Value.ref a, Value.ref b] := .cons rfl (.cons rfl .nil)
  refine wpAny_call (codeAny_mono (F.run A X.stack s H ⟨[.ref a, .ref b], []⟩ [.ref a, .ref b] [.ref a, .ref b] _ (fun _ _ _ => False) hr e0 (by
    have := hb s [.ref a, .ref b] I.kIn (by simpa using hl)
    simpa using this) r2 h) fun r s' hq => ?_)
  cases r with
  | error e => exact hq.elim
  | ok fl =>
    cases fl with
    | ret w =>
      obtain ⟨z, H', I', rz, r, ez, qz⟩ := I.after hq
      subst ez
      cases rz
      exact q r H' s' I' qz
    | next => exact False.elim hq
    | brk => exact False.elim hq
    | cont => exact False.elim hq
theorem op_neO (F : FnOk X.prog X.w X.K X.mg X.base CX0 n f fd ps sp) (hn : PySem.W.findIn X.K (.ref C) "__ne__" = some (some (.builtin "object.__ne__"))) (hm : PySem.W.mroIn X.K C (.type "object") = some true)
    (hs : PySem.W.findIn X.K (.ref C) "__eq__" = some (some (.ref f))) (hf : PySem.W.isFn X.K (.ref f) = true) (hb : Binds X.K fd ps []) (hr : Room (n + 1) X.A) : OpR X (compareOp .NotEq) (rEqO C sp fun r => !r) := by
  intro pins s σ H x y v u Q I rx ry hq
  obtain ⟨a, b, dx, dy, fs, gs, rfl, rfl, ha, hb', q⟩ := hq
  cases rx
  cases ry
  obtain ⟨mA, J, _⟩ := ins_get I.hok ha
  obtain ⟨mB, J', _⟩ := ins_get I.hok hb'
  obtain ⟨od, J, _⟩ := J.look
  obtain ⟨od', J', _⟩ := J'.look
  show wpAny (model X.prog X.w) X.A (richCompare .NotEq (.ref a) (.ref b)) (EP X pins σ Q) X.xe s
  exact rc_neO hr.units0 hr.in1.units0 I.kIn J J' hm hn hs hf (run_eqO (G := fun v H' => ∃ r : Bool, v = .bl r ∧ Q (.bl (!r)) H') F hb I hr.in1 I.env0.in1 (by
    refine (show sp [.ref a, .ref b] H _ _ = sp [.ref a, .ref b] H _ _ from ?_).mp q
    congr 1
    funext v H'
    exact propext ⟨fun ⟨r, e, h⟩ => ⟨r, e, r, rfl, h⟩, fun ⟨r, e, r', e', h⟩ => ⟨r, e, by cases e'; exact h⟩⟩) fun r H' s' I' ⟨r', e, h⟩ => by
      cases e
      exact ⟨r, rfl, .bl (!r), H', I', rfl, h⟩)
theorem op_eqO (F : FnOk X.prog X.w X.K X.mg X.base CX0 n f fd ps sp) (hs : PySem.W.findIn X.K (.ref C) "__eq__" = some (some (.ref f))) (hf : PySem.W.isFn X.K (.ref f) = true) (hb : Binds X.K fd ps []) (hr : Room (n + 1) X.A) : OpR X (compareOp .Eq) (rEqO C sp fun r => r) := by
  intro pins s σ H x y v u Q I rx ry hq
  obtain ⟨a, b, dx, dy, fs, gs, rfl, rfl, ha, hb', q⟩ := hq
  cases rx
  cases ry
  obtain ⟨mA, J, _⟩ := ins_get I.hok ha
  obtain ⟨mB, J', _⟩ := ins_get I.hok hb'
  obtain ⟨od, J, _⟩ := J.look
  obtain ⟨od', J', _⟩ := J'.look
  obtain ⟨m, hF⟩ := I.fr
  show wpAny (model X.prog X.w) X.A (richCompare .Eq (.ref a) (.ref b)) (EP X pins σ Q) X.xe s
  refine PySem.W.cmp_K (op := .Eq) (tb := .ref C) hr.units0 hF I.ok.mod.kin J J'.type (by simp [PySem.W.notFirst]) hs hf ?_
  exact run_eqO (G := Q) F hb I (hr.mono (Nat.le_succ n)) I.env0 q fun r H' s' I' h => ⟨.bl r, H', I', rfl, h⟩
end
end KV
set_option Elab.async false
set_option linter.all false
set_option maxRecDepth 100000
set_option maxHeartbeats 4000000
/-! Methods that may raise, within a try; the same with keywords. -/
namespace KV
open PySem PySem.Spec PyProof.Rows L2
section
variable {X : Cx} {CX : CXT} {k : Nat} {f C : Addr} {fd : FuncData} {ps ks : List Str} {sp : Sp} {E : L2.St → XK} {m : Str} {apos pos : Pos} {o e : Expr} {es : List Expr} {kws : List Keyword} {t tk : TA} {ta : TE} {g : List Value → List Value → List Value} {gV : List V → List V → List V}
def tMethA (C : Addr) (m : Str) (sp : Sp) (E : L2.St → XK) (ta : TE) (t : TA) : TE := fun σ H Q => ta σ H fun x H1 => ∃ a dx fs, x = .ref a ∧ H1 a = some (.ins C dx fs) ∧ fs.lookup m = none ∧ t σ H1 fun vs H2 => sp (.ref a :: vs) H2 Q (E σ)
theorem pe_methA {pl : Sem Bool} (he : PE X o ta) (c : Cls X.K C) (hm : Meth X.K C m f) (F : FnOk X.prog X.w X.K X.mg X.base CX k f fd ps sp) (hr : Room k X.A) (hb : Binds X.K fd ps []) (hx : ∀ σ, PassesAt CX X σ (E σ)) (ha : PA X (e :: es) t)
    (hst : starEach (e :: es) X.env = (false, eval e X.env) :: starEach es X.env := by rfl) (hpl : (backTo pos (starEach es X.env)).any (·.1) = false := by rfl)
    (ht : eval (.Call (.Attribute o m apos) (e :: es) [] pos) X.env = (eval o X.env >>= fun z => standAt apos.atName >>= fun _ => holding [z] (getMethod z m pl) >>= fun zz => callWith pos zz.1 zz.2 (backTo pos (starEach (e :: es) X.env)) (backToKw pos (keywordEach [] X.env))) := by rfl) :
    PE X (.Call (.Attribute o m apos) (e :: es) [] pos) (tMethA C m sp E ta t) := by
  refine ⟨fun pins s σ H Q I h => ?_⟩
  refine PySem.W.methodCall_KW (pl := pl) (thn (he.run pins s σ H _ I h) fun u s1 ⟨x, H1, I1, rx, a, dx, fs, ex, ea, l, q⟩ => ?_) ht
  subst ex
  obtain rfl : u = Value.ref a := rx
  refine getmeth_ok I1 ea c hm l (PySem.W.callWith_K (first := [.ref a]) (h₀ := X.base) I.ok.mod.kin hm.kp (thn (ha.run pos pins s1 σ H1 _ I1 q) fun us s2 ⟨vs, H2, I2, r, q2⟩ => ⟨I2.kIn, ?_⟩) hst hpl)
  exact run_fnSD (us := .ref a :: us) (vs := .ref a :: vs) (ds := []) (dvs := []) F hr hb .nil (hx σ) I2 (.cons rfl r) (by rw [List.append_nil]; exact q2)
def tMethKA (C : Addr) (m : Str) (n : Nat) (sp : Sp) (gV : List V → List V → List V) (E : L2.St → XK) (ta : TE) (tk : TA) : TE := fun σ H Q => ta σ H fun x H1 => ∃ a dx fs, x = .ref a ∧ H1 a = some (.ins C dx fs) ∧ fs.lookup m = none ∧ tk σ H1 fun zs H2 => zs.length = n ∧ sp (gV [.ref a] zs) H2 Q (E σ)
theorem pe_methKA {pl : Sem Bool} (he : PE X o ta) (c : Cls X.K C) (hm : Meth X.K C m f) (F : FnOk X.prog X.w X.K X.mg X.base CX k f fd ps sp) (hr : Room k X.A) (hb : KBn X.K fd ps 1 ks g gV) (hx : ∀ σ, PassesAt CX X σ (E σ)) (hkw : PK X kws tk)
    (hall : (backToKw pos (keywordEach kws X.env)).all (·.1.isSome) = true := by rfl) (hks : (backToKw pos (keywordEach kws X.env)).filterMap (·.1) = ks := by rfl)
    (hpl : ((backTo pos (starEach [] X.env)).any (·.1) || (backToKw pos (keywordEach kws X.env)).any (·.1.isNone)) = false := by rfl)
    (ht : eval (.Call (.Attribute o m apos) [] kws pos) X.env = (eval o X.env >>= fun z => standAt apos.atName >>= fun _ => holding [z] (getMethod z m pl) >>= fun zz => callWith pos zz.1 zz.2 (backTo pos (starEach [] X.env)) (backToKw pos (keywordEach kws X.env))) := by rfl) :
    PE X (.Call (.Attribute o m apos) [] kws pos) (tMethKA C m ks.length sp gV E ta tk) := by
  refine ⟨fun pins s σ H Q I h => ?_⟩
  refine PySem.W.methodCall_KW (pl := pl) (thn (he.run pins s σ H _ I h) fun u s1 ⟨x, H1, I1, rx, a, dx, fs, ex, ea, l, q⟩ => ?_) ht
  subst ex
  obtain rfl : u = Value.ref a := rx
  refine getmeth_ok I1 ea c hm l (PySem.W.callWith_KW0 (first := [.ref a]) (h₀ := X.base) I.ok.mod.kin hm.kp hall (thn (hkw.run pos pins s1 σ H1 _ I1 q) fun ws s2 ⟨zs, H2, I2, rz, l2, q2⟩ => ⟨I2.kIn, ?_⟩) hpl)
  rw [hks]
  have r1 : Vals [V.ref a] [Value.ref a] := .cons rfl .nil
  have r2 := hb.rel r1 rz
  have hl : (g [Value.ref a] ws).length = ps.length := by
    rw [← r2.length]
    exact F.len _ _ _ _ q2
  refine wpAny_call (codeAny_mono (F.run X.A X.stack s2 H2 ⟨[Value.ref a], ks.zip ws⟩ (g [Value.ref a] ws) (gV [.ref a] zs) Q (E σ) hr I2.env0 (hb.to s2 [Value.ref a] ws I2.kIn rfl (by rw [← rz.length]; exact l2)) r2 q2) fun r s' hq => ?_)
  cases r with
  | error e => exact hx σ pins _ _ e s' I2 hq
  | ok fl =>
    cases fl with
    | ret u => exact I2.after hq
    | next => exact False.elim hq
    | brk => exact False.elim hq
    | cont => exact False.elim hq
end
end KV
set_option Elab.async false
set_option linter.all false
set_option maxRecDepth 100000
set_option maxHeartbeats 4000000
/-! A def called by keywords alone that may raise, within a try. -/
namespace KV
open PySem PySem.Spec PyProof.Rows L2
section
variable {X : Cx} {CX : CXT} {k : Nat} {f : Addr} {fd : FuncData} {x : Str} {ps ks : List Str} {sp : Sp} {E : L2.St → XK} {p pos : Pos} {kws : List Keyword} {tk : TA} {g : List Value → List Value → List Value} {gV : List V → List V → List V}
def tCallKA (n : Nat) (sp : Sp) (gV : List V → List V → List V) (E : L2.St → XK) (tk : TA) : TE := fun σ H Q => tk σ H fun zs H2 => zs.length = n ∧ sp (gV [] zs) H2 Q (E σ)
theorem pe_callKA (F : FnOk X.prog X.w X.K X.mg X.base CX k f fd ps sp) (hr : Room k X.A) (hg : Gl X x) (hm : X.mg x = some (.ref f)) (hk : PySem.W.keepIn X.K (.ref f) = true) (hb : KBn X.K fd ps 0 ks g gV) (hx : ∀ σ, PassesAt CX X σ (E σ)) (hkw : PK X kws tk)
    (hall : (backToKw pos (keywordEach kws X.env)).all (·.1.isSome) = true := by rfl) (hks : (backToKw pos (keywordEach kws X.env)).filterMap (·.1) = ks := by rfl)
    (hpl : ((backTo pos (starEach [] X.env)).any (·.1) || (backToKw pos (keywordEach kws X.env)).any (·.1.isNone)) = false := by rfl)
    (hdb : (x == ("__debug__" : Str)) = false := by decide) :
    PE X (.Call (.Name x p) [] kws pos) (tCallKA ks.length sp gV E tk) := by
  refine ⟨fun pins s σ H Q I h => ?_⟩
  refine wpAny_Call_Name_kw (ld_glob I hg hm ?_ hdb)
  refine PySem.W.callWith_KW0 (first := []) (h₀ := X.base) I.ok.mod.kin hk hall (thn (hkw.run pos pins s σ H _ I h) fun ws s2 ⟨zs, H2, I2, rz, l2, q2⟩ => ⟨I2.kIn, ?_⟩) hpl
  rw [hks]
  have r2 := hb.rel .nil rz
  have hl : (g [] ws).length = ps.length := by
    rw [← r2.length]
    exact F.len _ _ _ _ q2
  refine wpAny_call (codeAny_mono (F.run X.A X.stack s2 H2 ⟨[], ks.zip ws⟩ (g [] ws) (gV [] zs) Q (E σ) hr I2.env0 (hb.to s2 [] ws I2.kIn rfl (by rw [← rz.length]; exact l2)) r2 q2) fun r s' hq => ?_)
  cases r with
  | error e => exact hx σ pins _ _ e s' I2 hq
  | ok fl =>
    cases fl with
    | ret u => exact I2.after hq
    | next => exact False.elim hq
    | brk => exact False.elim hq
    | cont => exact False.elim hq
end
end KV
set_option Elab.async false
set_option linter.all false
set_option maxRecDepth 100000
set_option maxHeartbeats 0
/-! k54: _law_caught_book -/
namespace LW
open PySem PySem.Spec PyProof.Rows L2 KV
/-- what is told of a text -/
def owedL (x : Str) : List Str := if isBookL (piecesOf x) [] false then [x] else []
theorem isB_read (x : Str) : isBookL (piecesOf x) [] false = (readOf x).isSome := by
  have h := isBook_iff (ps := piecesOf x) (ts := []) (rs := []) rfl
  unfold readOf
  cases hp : parseL (piecesOf x) [] [] with
  | none =>
    rw [hp] at h
    cases e : isBookL (piecesOf x) [] false with
    | false => rfl
    | true =>
      obtain ⟨_, _, z, _⟩ := h.mp e
      cases z
  | some z =>
    obtain ⟨ts, rs⟩ := z
    rw [hp] at h
    dsimp only
    cases hw : wrongBook ts rs with
    | none => exact h.mpr ⟨ts, rs, rfl, hw⟩
    | some y =>
      cases e : isBookL (piecesOf x) [] false with
      | false => rfl
      | true =>
        obtain ⟨_, _, z, z2⟩ := h.mp e
        cases z
        rw [hw] at z2
        cases z2
theorem owed_some {x : Str} {ts : List Tab} {rs : List RB} (h : readOf x = some (ts, rs)) : owedL x = [x] ∧ bookT ts rs = x ∧ parseL (piecesOf x) [] [] = some (ts, rs) ∧ wrongBook ts rs = none := by
  have e := isB_read x
  rw [h] at e
  refine ⟨if_pos e, ?_⟩
  unfold readOf at h
  cases hp : parseL (piecesOf x) [] [] with
  | none =>
    rw [hp] at h
    cases h
  | some z =>
    obtain ⟨ts', rs'⟩ := z
    rw [hp] at h
    dsimp only at h
    cases hw : wrongBook ts' rs' with
    | none =>
      rw [hw] at h
      cases h
      exact ⟨shown_back hp, rfl, hw⟩
    | some y =>
      rw [hw] at h
      cases h
theorem owed_none {x : Str} (h : readOf x = none) : owedL x = [] := by
  have e := isB_read x
  rw [h] at e
  exact if_neg (by rw [e]; decide)
def spCaughtB : Sp := fun vs H Q _ => ∃ (x : Str) (way : Int), vs = [.str x, .int way] ∧ Gd 3000 x ∧ ∀ D H', H' D = some (.lst ((owedL x).map V.str)) → Off (fun _ => False) H H' → Q (.ref D) H'
section
variable {P : Program} {w : World} {K : PySem.W.Frag} {mg : Str → Option Value} {base : Heap}
theorem scCaughtB : FnScope ["wording", "way", "found", "e", "odd"] ["wording", "way"] (defScope sCaughtBook) := ⟨rfl, rfl, rfl, by decide +kernel, rfl, by decide +kernel, by decide +kernel⟩
theorem ok_caughtB {f fR fS : Addr} {fd dR dS dI : FuncData} {g : List Value → List Value → List Value} (F : FnP K "_law_caught_book" sCaughtBook f fd) (T : ErrT P w K mg base dI)
    (GR : FnOk P w K mg base (L2.CX P w) 10 fR dR ["text"] (spReadG K)) (bR : Binds K dR ["text"] []) (mR : mg "read_book" = some (.ref fR)) (kR : PySem.W.keepIn K (.ref fR) = true) (kB : KBn K dR ["text"] 0 ["text"] g (fun us zs => us ++ zs))
    (GS : Dn P w K mg base 9 "show_book" ["book"] (spShow K) fS dS) (gE : mg "KeyTellError" = some (.ref (He.ga K "KeyTellError")))
    (exm : ∀ y ∈ names.tail, PySem.W.exmOne K (.ref (He.ga K y)) (.ref (He.ga K "KeyTellError")) = some true) (mi : mg "isinstance" = none) : FnOk P w K mg base CX0 11 f fd ["wording", "way"] spCaughtB := by
  refine F.ok scCaughtB (fun vs H Q E h => ?_) (fun cdv A outer s H vs Q E hr h => ?_)
  · obtain ⟨x, way, rfl, _⟩ := h
    rfl
  obtain ⟨x, way, rfl, gx, q⟩ := h
  have hr9 : Room 9 _ := hr.mono (by decide)
  have hr10 : Room 10 _ := hr.mono (by decide)
  refine ⟨_, PSs.nox (pss_cons (ps_set (i := 2) scCaughtB.nd rfl (Or.inl rfl) (pe_lst pa_nil))
    (pss_cons (L2.ps_try_as (i := 3) rfl rfl scCaughtB.nd rfl rfl ⟨rfl, by decide, .inl gE⟩ takes0 (fun W pn xe tk _ =>
        pss_one (ps_set (i := 2) scCaughtB.nd rfl (Or.inl rfl) (pe_lst (pa_cons (pe_call GS.g hr9 rfl GS.m GS.kp GS.b .nil pass0 (pa_cons (pe_ifExp (pt_cmpR op_eq (pv 1) pe_int (nomark _))
          (pe_callS GR hr10 rfl mR kR bR (fun σ => passAt tk σ) (pa_cons (pv 0) pa_nil)) (pe_callKA GR hr10 rfl mR kR kB (fun σ => passAt tk σ) (pk_cons (pv 0) pk_nil))) pa_nil)) pa_nil))))
      (fun a oe cls d pn hz hf => pss_cons (ps_set (i := 4) scCaughtB.nd rfl (Or.inl rfl) (pe_callB (call_isHT hz hf) rfl mi boot_isinstance (pa_cons (pv 3) (pa_cons (pe_tup (pa_cons (pe_glob (v := .ref (He.ga K "DoubleName")) rfl (T.g "DoubleName" (by decide)) rfl rfl) (pa_cons (pe_glob (v := .ref (He.ga K "InvalidName")) rfl (T.g "InvalidName" (by decide)) rfl rfl) (pa_cons (pe_glob (v := .ref (He.ga K "InvalidRule")) rfl (T.g "InvalidRule" (by decide)) rfl rfl) (pa_cons (pe_glob (v := .ref (He.ga K "UnknownColumn")) rfl (T.g "UnknownColumn" (by decide)) rfl rfl) (pa_cons (pe_glob (v := .ref (He.ga K "UnknownTable")) rfl (T.g "UnknownTable" (by decide)) rfl rfl) pa_nil)))))) pa_nil))))
        (pss_cons (ps_set (i := 4) scCaughtB.nd rfl (Or.inl rfl) (pe_or (pv 4) (pe_one (pe_not (pe_callB (call_isH hz hf) rfl mi boot_isinstance (pa_cons (pv 3) (pa_cons (pe_glob (v := .ref (He.ga K "Unreadable")) rfl (T.g "Unreadable" (by decide)) rfl rfl) pa_nil)))))))
        (pss_one (ps_set (i := 2) scCaughtB.nd rfl (Or.inl rfl) (pe_ifExp (PW.pt (pw_or (pt_val (pv 4)) (pw_or1 (pt_cmpR op_ne (pe_getH hz hf (pv 3)) (pv 0) (nomark _))))) (pe_lst (pa_cons pe_str pa_nil)) (pe_lst pa_nil)))))))
    (pss_one (ps_ret (pv 2))))), ?_⟩
  have no : ¬ False := id
  refine ⟨(by decide), fun l0 n0 => ?_⟩
  have k0 : Off (fun _ => False) H (upd H l0 (.lst [])) := Off.new n0
  have e0 := upd_same (H := H) (a := l0) (o := .lst [])
  generalize upd H l0 (.lst []) = H0 at k0 e0 ⊢
  have kit : ∀ y ∈ names, PySem.W.kitOne K (.ref (He.ga K "Unreadable")) (.ref (He.ga K y)) = some (decide ("Unreadable" = y) || decide (y = "KeyTellError")) := fun y hy => T.es.kit "Unreadable" (by decide) y hy
  have er := (T.es.ok "Unreadable" (by decide)).err
  have xf := T.es.ok "Unreadable" (by decide)
  refine ⟨_, rfl, rfl, _, rfl, ite2 (fun c => ⟨_, rfl, x, rfl, gx, ?_⟩) (fun c => ⟨_, rfl, rfl, x, rfl, gx, ?_⟩)⟩
  all_goals
    cases hr' : readOf x with
    | some z =>
      obtain ⟨ts, rs⟩ := z
      obtain ⟨w1, w2, w3, w4⟩ := owed_some hr'
      rw [w1] at q
      obtain ⟨gp, lp⟩ := pieces_gd gx
      obtain ⟨bt, br, ln⟩ := parse_gd (n := 3000) (by decide) w3 gp (fun t h => absurd h (by simp)) (fun r h => absurd h (by simp))
      have ln : ts.length + rs.length = (piecesOf x).length := by simpa using ln
      have bb : BkB 3000 3001 3001 3000 3001 3001 ts rs := ⟨⟨by omega, bt⟩, br, by decide, by decide, by decide, by decide, by omega, by decide⟩
      intro b H1 F1 bo fr nb k1
      refine ⟨b, ts, rs, _, _, _, _, _, _, rfl, bo.of, bb, by rw [w2]; exact Nat.le_trans gx.2 (by decide), parse_formed w3 (fun r h => absurd h (by simp)), fun H2 k2 => ?_⟩
      refine ⟨(by show 1 ≤ sizeLine; decide), fun l nl => ?_⟩
      rw [w2]
      refine ⟨_, rfl, q l _ upd_same ?_⟩
      exact ((k0.trans k1).trans k2).trans (Off.new nl)
    | none =>
      have w1 := owed_none hr'
      rw [w1] at q
      intro u Fo d H1 k1 nd ed o fr
      refine ⟨true, exm "Unreadable" (by decide), fun _ a na => ?_, fun z => nomatch z⟩
      cases o
      have five : PySem.W.kitAny K (.ref (He.ga K "Unreadable")) [.ref (He.ga K "DoubleName"), .ref (He.ga K "InvalidName"), .ref (He.ga K "InvalidRule"), .ref (He.ga K "UnknownColumn"), .ref (He.ga K "UnknownTable")] = some false :=
        kitAny_cons (kit "DoubleName" (by decide)) (fun _ => kitAny_cons (kit "InvalidName" (by decide)) (fun _ => kitAny_cons (kit "InvalidRule" (by decide)) (fun _ => kitAny_cons (kit "UnknownColumn" (by decide)) (fun _ => kitAny_cons (kit "UnknownTable" (by decide)) (fun _ => rfl) (fun z => nomatch z)) (fun z => nomatch z)) (fun z => nomatch z)) (fun z => nomatch z)) (fun z => nomatch z)
      generalize hcs : [Value.ref (He.ga K "DoubleName"), .ref (He.ga K "InvalidName"), .ref (He.ga K "InvalidRule"), .ref (He.ga K "UnknownColumn"), .ref (He.ga K "UnknownTable")] = us5 at five
      refine ⟨_, rfl, (by show 5 ≤ sizeLine; decide), fun tp ntp => ?_⟩
      have pr : Paired ClsV [V.ref (He.ga K "DoubleName"), .ref (He.ga K "InvalidName"), .ref (He.ga K "InvalidRule"), .ref (He.ga K "UnknownColumn"), .ref (He.ga K "UnknownTable")] us5 := by
        rw [← hcs]
        exact .cons (.own _) (.cons (.own _) (.cons (.own _) (.cons (.own _) (.cons (.own _) .nil))))
      generalize [V.ref (He.ga K "DoubleName"), .ref (He.ga K "InvalidName"), .ref (He.ga K "InvalidRule"), .ref (He.ga K "UnknownColumn"), .ref (He.ga K "UnknownTable")] = cs5 at pr ntp ⊢
      have k2 : Off (fun _ => False) H1 (upd H1 tp (.tup cs5)) := Off.new ntp
      have ed2 := k2 _ _ ed no
      have e2 := upd_same (H := H1) (a := tp) (o := .tup cs5)
      generalize upd H1 tp (.tup cs5) = H2 at k2 ed2 e2 ⊢
      refine ⟨He.ga K "Unreadable", d, tp, [("value", .str x)], cs5, us5, false, rfl, rfl, rfl, e2, pr, er, ed2, five, ?_⟩
      have ku := kit "Unreadable" (by decide)
      rw [show (decide (("Unreadable" : Str) = "Unreadable") || decide (("Unreadable" : Str) = "KeyTellError")) = true from by decide +kernel] at ku
      refine ⟨_, rfl, _, rfl, iteF ⟨_, rfl, He.ga K "Unreadable", d, _, _, _, true, rfl, rfl, rfl, .own _, er, ed2, ku, _, rfl, ?_⟩⟩
      refine ⟨_, rfl, _, rfl, iteF ⟨_, rfl, He.ga K "Unreadable", d, _, _, rfl, rfl, rfl, xf.xf, xf.no, ed2, rfl, _, rfl, rfl, _, rfl, ?_⟩⟩
      rw [decide_eq_true (show V.str x = V.str x from rfl)]
      refine iteF ⟨by decide, fun l nl => ⟨_, rfl, q l _ upd_same ?_⟩⟩
      exact ((k0.trans k1).trans k2).trans (Off.new nl)
end
end LW
set_option Elab.async false
set_option linter.all false
set_option maxRecDepth 100000
set_option maxHeartbeats 4000000
/-! A text times an int; replace of written texts in a written list behind a text. -/
namespace KV
open PySem PySem.Spec PyProof.Rows L2
/-- x n times -/
def repS (n : Nat) (x : Str) : Str := ⟨(List.replicate n x.cps).foldl (· ++ ·) #[]⟩
theorem rep_fold (l : List Nat) : ∀ (m : Nat) (b : Array Nat), (List.foldl (· ++ ·) b (List.replicate m l.toArray)) = b ++ ((List.replicate m l).flatten).toArray
  | 0, b => by simp
  | m + 1, b => by
    rw [List.replicate_succ, List.foldl_cons, rep_fold l m, List.replicate_succ, List.flatten_cons]
    simp
theorem repS_list (n : Nat) (x : Str) : (repS n x).cps.toList = (List.replicate n x.cps.toList).flatten := by
  unfold repS
  have := rep_fold x.cps.toList n #[]
  simp only [Array.toArray_toList] at this
  show (List.foldl (· ++ ·) #[] (List.replicate n x.cps)).toList = _
  rw [this]
  simp
theorem repS_len (n : Nat) (x : Str) : (repS n x).length = n * x.length := by
  have e : (repS n x).length = (repS n x).cps.toList.length := by simp [Str.length]
  rw [e, repS_list]
  simp [Str.length]
theorem repS_mem {n : Nat} {x : Str} {c : Nat} (h : c ∈ (repS n x).cps.toList) : c ∈ x.cps.toList := by
  rw [repS_list, List.mem_flatten] at h
  obtain ⟨l, hl, hc⟩ := h
  rw [(List.mem_replicate.mp hl).2] at hc
  exact hc
def rMulS : R2 := fun x y H Q => ∃ i n, x = .str i ∧ y = .int n ∧ 1 ≤ n ∧ n ≤ 1000 ∧ i.length ≤ 1000 ∧ Q (.str (repS n.toNat i)) H
section
variable {X : Cx}
theorem op_mulS : OpR X (binaryOp .Mult) rMulS := by
  intro pins s σ H x y v u Q I rx ry h
  obtain ⟨i, n, rfl, rfl, h1, h2, h3, q⟩ := h
  obtain ⟨t, rfl⟩ := rx
  obtain ⟨t', rfl⟩ := ry
  have le : i.length * n.toNat ≤ 1000 * 1000 := Nat.mul_le_mul h3 (by omega)
  refine PySem.P.mul_str ?_ ?_ ?_ ?_
  · rw [decide_eq_false (by omega), decide_eq_false (by omega)]
    rfl
  · intro _ _ z
    have : (1000 : Int) ≤ (2 ^ 63 - 1) / n := by
      rw [Int.le_ediv_iff_mul_le (by omega)]
      omega
    omega
  · intro _ _
    unfold Builtin.Str.tooLong
    have : 1000 * 1000 ≤ sizeLine := by decide
    exact decide_eq_false (by omega)
  · rw [if_neg (by omega)]
    have le2 : n.toNat * i.length ≤ 1000 * 1000 := Nat.mul_le_mul (by omega) h3
    have sz : (repS n.toNat i).length ≤ sizeLine := by
      rw [repS_len]
      exact Nat.le_trans le2 (by decide)
    split
    · rename_i z
      have e : repS n.toNat i = i := by
        rcases Bool.or_eq_true_iff.mp z with z | z
        · have : n = 1 := by simpa using z
          subst this
          have hl := repS_list 1 i
          simp at hl
          generalize hq : repS 1 i = r at hl
          have hq2 : repS (1 : Int).toNat i = r := hq
          rw [hq2]
          cases i
          cases r
          simpa using hl
        · have z : i.length = 0 := by simpa using z
          have l := repS_len n.toNat i
          rw [z, Nat.mul_zero] at l
          have a1 : (repS n.toNat i).cps = #[] := Array.eq_empty_of_size_eq_zero l
          have a2 : i.cps = #[] := Array.eq_empty_of_size_eq_zero z
          cases i
          cases hq : repS n.toNat _
          simp_all
      rw [e] at q
      exact ⟨.str i, H, I, ⟨_, rfl⟩, q⟩
    · exact ⟨sz, .str (repS n.toNat i), H, I.tok _, ⟨_, rfl⟩, q⟩
end
section
variable {X : Cx} {e : Expr} {te : TE} {c : Str} {j : Nat} {cpos pos : Pos} {es : List Expr} {t : TA}
/-- a text and a written one behind it: a token is out -/
def PEK (X : Cx) (e : Expr) (t : TE) : Prop := ∀ (pins : List (Addr × Obj)) (s : Shared) (σ : L2.St) (H : Hp) (Q : VK), L2.Inv X pins σ H s → t σ H Q → wpAny (model X.prog X.w) X.A (eval e X.env) (fun v s' => 1 ≤ s'.toks ∧ EP X pins σ Q v s') X.xe s
theorem pek_add (ha : PE X e te) : PEK X (.BinOp e .Add (.Constant (.str c) j cpos) pos) (tOp (fun x y H Q => ∃ i j, x = .str i ∧ y = .str j ∧ i.length + j.length ≤ sizeLine ∧ Q (.str (i ++ j)) H) te (tC (.str c))) := by
  intro pins s σ H Q I h
  refine wpAny_BinOp (thn (ha.run pins s σ H _ I h) fun v s1 ⟨x, H1, I1, r1, q1⟩ => Calls.Constant_str ?_)
  refine wpAny_mono (PySem.wpAny_toks_of (n := 1) (by show 1 ≤ s1.toks + 1; omega) (op_add_str pins _ σ H1 x (.str c) v (.str c s1.toks) Q (I1.tok _) r1 ⟨_, rfl⟩ q1)) (fun _ _ z => z) fun _ _ z => z.2
theorem pa_consK (ha : PEK X e te) (hr : PAT X es t) (hs : starEach (e :: es) X.env = (false, eval e X.env) :: starEach es X.env := by rfl) : PA X (e :: es) (tCons te t) := by
  refine ⟨fun pos pins s σ H Q I h => ?_⟩
  rw [hs]
  show wpAny _ _ (spliced ((false, eval e X.env) :: backTo pos (starEach es X.env))) _ _ s
  refine Calls.spliced_cons (wpAny_mono (ha pins s σ H _ I h) (fun v s1 q => ?_) fun _ _ z => z)
  obtain ⟨hk, x, H1, I1, r1, q1⟩ := q
  exact thn (hr pos pins s1 σ H1 _ hk I1 q1) fun us s2 ⟨xs, H2, I2, r2, q2⟩ => ⟨x :: xs, H2, I2, .cons r1 r2, q2⟩
end
end KV
set_option Elab.async false
set_option linter.all false
set_option maxRecDepth 100000
set_option maxHeartbeats 0
/-! k54: _law_odd_book -/
namespace LW
open PySem PySem.Spec PyProof.Rows L2 KV
def spOdd : Sp := fun vs H Q _ => ∃ (p : Addr) (c : Nat) (x : Str), vs = [.ref p, .str x] ∧ Gd 700 x ∧ Pu H p c ∧ c + 10 ≤ 1000000000 ∧ ∀ y H' c', Gd 1700 y → Pu H' p c' → c' ≤ c + 3 → Off (fun a => a = p) H H' → Q (.str y) H'
theorem gd_str {n : Nat} (x : Str) (h : gdB n x = true) : Gd n x := gdB_ok h
theorem gd_joinS {n k : Nat} {sep : Str} (hs : Gd k sep) : ∀ {ys : List Str}, (∀ y ∈ ys, Gd n y) → Gd (ys.length * (n + k)) (Str.join sep ys)
  | [], _ => ⟨fun c hc => absurd hc (by show ¬ c ∈ ([] : List Nat); simp), by simp [Str.join]; rfl⟩
  | [x], h => (h x (by simp)).mono (by simp)
  | x :: y :: r, h => by
    have ih := gd_joinS hs (ys := y :: r) fun z hz => h z (List.mem_cons_of_mem _ hz)
    refine (((h x (by simp)).add hs).add ih).mono ?_
    simp only [List.length_cons, Nat.succ_mul]
    omega
theorem gd_join {n k : Nat} {sep : Str} (hs : Gd k sep) {ys : List Str} (h : ∀ y ∈ ys, Gd n y) : Gd (ys.length * (n + k)) (Txt.join sep ys) := by
  rw [show Txt.join sep ys = Str.join sep ys from StrLaws.glued_eq_join sep ys]
  exact gd_joinS hs h
theorem gd_sum {n k : Nat} {ys : List Str} (h : ∀ y ∈ ys, Gd n y) : (ys.map (·.length)).sum + ys.length * k ≤ ys.length * (n + k) := by
  induction ys with
  | nil => simp
  | cons y ys ih =>
    have := ih fun z hz => h z (List.mem_cons_of_mem _ hz)
    have l := (h y (by simp)).2
    simp only [List.map_cons, List.sum_cons, List.length_cons, Nat.succ_mul]
    omega
theorem gd_rep {n m : Nat} {x : Str} (h : Gd m x) : Gd (n * m) (repS n x) := ⟨fun c hc => h.1 c (repS_mem hc), by rw [repS_len]; exact Nat.mul_le_mul_left _ h.2⟩
theorem replL_mem {y z : List Nat} {c : Nat} : ∀ (l : List Nat) (s : Nat), c ∈ StrLaws.replS y z s l → c ∈ l ∨ c ∈ z
  | [], s, h => by
    cases s <;> · rw [StrLaws.replS] at h; simp at h
  | a :: l, 0, h => by
    rw [StrLaws.replS] at h
    split at h
    · rcases List.mem_append.mp h with h | h
      · exact .inr h
      · exact (replL_mem l _ h).imp (List.mem_cons_of_mem _) id
    · rcases List.mem_cons.mp h with rfl | h
      · exact .inl (by simp)
      · exact (replL_mem l _ h).imp (List.mem_cons_of_mem _) id
  | a :: l, s + 1, h => by
    rw [StrLaws.replS] at h
    exact (replL_mem l s h).imp (List.mem_cons_of_mem _) id
theorem gd_repl {n k : Nat} {x y z : Str} (h : Gd n x) (hz : Gd k z) (hy : 1 ≤ y.length) : Gd (n + (n + 1) * k) (Txt.replace x y z) := by
  refine ⟨fun c hc => ?_, ?_⟩
  · rw [StrLaws.replace_list hy] at hc
    rcases replL_mem _ _ hc with hc | hc
    · exact h.1 c hc
    · exact hz.1 c hc
  · refine Nat.le_trans (TK.replace_len x y z) ?_
    exact Nat.add_le_add h.2 (Nat.mul_le_mul (Nat.succ_le_succ h.2) hz.2)
/-- texts of at most so many plain signs -/
def AllS (xs : List V) : Prop := ∀ v ∈ xs, ∃ y, v = .str y ∧ Gd 1700 y
theorem allS_of {l : List Str} (h : ∀ y ∈ l, Gd 1700 y) : AllS (l.map V.str) := fun v hv => by
  obtain ⟨y, hy, rfl⟩ := List.mem_map.mp hv
  exact ⟨y, rfl, h y hy⟩
theorem allS_lits {l : List Str} (h : l.all (gdB 1700) = true) : AllS (l.map V.str) := allS_of fun y hy => gdB_ok (List.all_eq_true.mp h y hy)
def MenuAt (G : Hp) (m : Addr) (n : Nat) : Prop := ∃ xs, G m = some (.lst xs) ∧ AllS xs ∧ xs.length = n
theorem MenuAt.off {G G' : Hp} {m : Addr} {n : Nat} (h : MenuAt G m n) {F : Fp} (k : Off F G G') (no : ¬ F m) : MenuAt G' m n := by
  obtain ⟨xs, e, r⟩ := h
  exact ⟨xs, k _ _ e no, r⟩
/-- menu = menu + [..] -/
theorem menu_cut {ta : TA} {B : TS} {D : Ends} {G : Hp} {m : Addr} {n k : Nat} {s0 s1 s3 s4 s5 s6 s7 : Option V} (hm : MenuAt G m n) (room : n + k ≤ 4000)
    (items : ∀ Q : List V → Hp → Prop, (∀ ys G1, AllS ys → ys.length = k → Off (fun _ => False) G G1 → Q ys G1) → ta [s0, s1, some (.ref m), s3, s4, s5, s6, s7] G Q)
    (next : ∀ m' G', MenuAt G' m' (n + k) → Off (fun _ => False) G G' → B D [s0, s1, some (.ref m'), s3, s4, s5, s6, s7] G') :
    tSeq (tAsg (tOp rCat (tVar 2) (tLst ta)) (gName 2)) B D [s0, s1, some (.ref m), s3, s4, s5, s6, s7] G := by
  obtain ⟨xs, em, ax, lx⟩ := hm
  have big : 4000 ≤ sizeLine := by decide
  refine ⟨_, rfl, items _ fun ys G1 ay ly k1 => ⟨by omega, fun l nl => ?_⟩⟩
  have em1 := k1 _ _ em id
  have j1 : Off (fun _ => False) G1 (upd G1 l (.lst ys)) := Off.new nl
  refine ⟨m, l, xs, ys, rfl, rfl, j1 _ _ em1 id, upd_same, by omega, fun m2 n2 => ?_⟩
  refine next m2 _ ⟨xs ++ ys, upd_same, fun v hv => ?_, by rw [List.length_append]; omega⟩ ((k1.trans j1).trans (Off.new n2))
  rcases List.mem_append.mp hv with h | h
  · exact ax v h
  · exact ay v h
theorem head_cut {c : Str} {B : TS} {D : Ends} {G : Hp} {s0 s1 s2 s3 s4 s5 s6 s7 : Option V} (next : B D [s0, s1, s2, some (.str c), s4, s5, s6, s7] G) : tSeq (tAsg (tC (.str c)) (gName 3)) B D [s0, s1, s2, s3, s4, s5, s6, s7] G := next
theorem MenuAt.ne {G : Hp} {m p : Addr} {n c : Nat} (h : MenuAt G m n) (hp : Pu G p c) : m ≠ p := by
  obtain ⟨xs, e, ax, _⟩ := h
  obtain ⟨a, b, d, ep, _⟩ := hp
  intro z
  rw [z, ep] at e
  cases e
  obtain ⟨y, ey, _⟩ := ax (.int a) (by simp)
  cases ey
section
variable {P : Program} {w : World} {K : PySem.W.Frag} {mg : Str → Option Value} {base : Heap}
theorem scOdd : FnScope ["purse", "wording", "menu", "head", "lot", "at", "title", "many"] ["purse", "wording"] (defScope sOddBook) := ⟨rfl, rfl, rfl, by decide +kernel, rfl, by decide +kernel, by decide +kernel⟩
theorem ok_odd {f fC : Addr} {fd dC : FuncData} (F : FnP K "_law_odd_book" sOddBook f fd) (C : Dn P w K mg base 1 "_law_coin" ["purse", "many"] spCoin fC dC) (mr : mg "range" = none) (ml : mg "len" = none) : FnOk P w K mg base CX0 2 f fd ["purse", "wording"] spOdd := by
  refine F.ok scOdd (fun vs H Q E h => ?_) (fun cdv A outer s H vs Q E hr h => ?_)
  · obtain ⟨p, c, x, rfl, _⟩ := h
    rfl
  obtain ⟨p, c, x, rfl, gx, hp, hc, q⟩ := h
  refine ⟨_, (pss_cons (ps_set (i := 2) scOdd.nd rfl (Or.inl rfl) (pe_lst (pa_cons pe_str (pa_cons pe_str (pa_cons pe_str (pa_cons pe_str (pa_cons pe_str (pa_cons pe_str (pa_cons pe_str pa_nil)))))))))
    (pss_cons (ps_set (i := 2) scOdd.nd rfl (Or.inl rfl) (pe_op op_cat (pv 2) (pe_lst (pa_cons pe_str (pa_cons pe_str (pa_cons pe_str (pa_cons pe_str pa_nil)))))))
    (pss_cons (ps_set (i := 2) scOdd.nd rfl (Or.inl rfl) (pe_op op_cat (pv 2) (pe_lst (pa_cons pe_str (pa_cons pe_str (pa_cons pe_str (pa_cons pe_str pa_nil)))))))
    (pss_cons (ps_set (i := 2) scOdd.nd rfl (Or.inl rfl) (pe_op op_cat (pv 2) (pe_lst (pa_cons pe_str pa_nil))))
    (pss_cons (ps_set (i := 2) scOdd.nd rfl (Or.inl rfl) (pe_op op_cat (pv 2) (pe_lst (pa_cons pe_str (pa_cons pe_str (pa_cons pe_str pa_nil))))))
    (pss_cons (ps_set (i := 2) scOdd.nd rfl (Or.inl rfl) (pe_op op_cat (pv 2) (pe_lst (pa_cons pe_str (pa_cons pe_str (pa_cons pe_str pa_nil))))))
    (pss_cons (ps_set (i := 3) scOdd.nd rfl (Or.inl rfl) pe_str)
    (pss_cons (ps_set (i := 2) scOdd.nd rfl (Or.inl rfl) (pe_op op_cat (pv 2) (pe_lst (pa_cons (pe_op op_add_str (pv 3) pe_str) (pa_cons (pe_op op_add_str (pv 3) pe_str) (pa_cons (pe_op op_add_str (pv 3) pe_str) pa_nil))))))
    (pss_cons (ps_set (i := 2) scOdd.nd rfl (Or.inl rfl) (pe_op op_cat (pv 2) (pe_lst (pa_cons (pe_op op_add_str (pv 3) pe_str) (pa_cons (pe_op op_add_str (pv 3) pe_str) (pa_cons (pe_op op_add_str (pv 3) pe_str) pa_nil))))))
    (pss_cons (ps_set (i := 2) scOdd.nd rfl (Or.inl rfl) (pe_op op_cat (pv 2) (pe_lst (pa_cons (pe_op op_add_str (pv 3) pe_str) (pa_cons (pe_op op_add_str (pv 3) pe_str) (pa_cons (pe_op op_add_str (pv 3) pe_str) pa_nil))))))
    (pss_cons (ps_set (i := 2) scOdd.nd rfl (Or.inl rfl) (pe_op op_cat (pv 2) (pe_lst (pa_cons (pe_op op_add_str (pv 3) pe_str) (pa_cons (pe_op op_add_str (pv 3) pe_str) pa_nil)))))
    (pss_cons (ps_set (i := 2) scOdd.nd rfl (Or.inl rfl) (pe_op op_cat (pv 2) (pe_lst (pa_cons (pe_op op_add_str (pv 3) pe_str) (pa_cons (pe_op op_add_str (pv 3) pe_str) (pa_cons (pe_op op_add_str (pv 3) pe_str) pa_nil))))))
    (pss_cons (ps_set (i := 2) scOdd.nd rfl (Or.inl rfl) (pe_op op_cat (pv 2) (pe_lst (pa_cons (pe_op op_add_str (pv 3) pe_str) pa_nil))))
    (pss_cons (ps_set (i := 2) scOdd.nd rfl (Or.inl rfl) (pe_op op_cat (pv 2) (pe_lst (pa_cons (pe_op op_add_str (pv 3) pe_str) (pa_cons (pe_op op_add_str (pv 3) pe_str) pa_nil)))))
    (pss_cons (ps_set (i := 2) scOdd.nd rfl (Or.inl rfl) (pe_op op_cat (pv 2) (pe_lst (pa_cons (pe_op op_add_str (pv 3) pe_str) (pa_cons (pe_op op_add_str (pv 3) pe_str) pa_nil)))))
    (pss_cons (ps_set (i := 2) scOdd.nd rfl (Or.inl rfl) (pe_op op_cat (pv 2) (pe_lst (pa_cons (pe_op op_add_str (pv 3) pe_str) (pa_cons (pe_op op_add_str (pv 3) pe_str) pa_nil)))))
    (pss_cons (ps_set (i := 2) scOdd.nd rfl (Or.inl rfl) (pe_op op_cat (pv 2) (pe_lst (pa_cons (pe_op op_add_str (pv 3) pe_str) (pa_cons (pe_op op_add_str (pv 3) pe_str) (pa_cons (pe_op op_add_str (pv 3) pe_str) pa_nil))))))
    (pss_cons (ps_set (i := 2) scOdd.nd rfl (Or.inl rfl) (pe_op op_cat (pv 2) (pe_lst (pa_cons (pe_op op_add_str pe_str (pv 3)) (pa_cons (pe_op op_add_str (pv 3) pe_str) pa_nil)))))
    (pss_cons (ps_set (i := 2) scOdd.nd rfl (Or.inl rfl) (pe_op op_cat (pv 2) (pe_lst (pa_cons (pe_op op_add_str (pv 3) pe_str) (pa_cons (pe_op op_add_str (pv 3) pe_str) pa_nil)))))
    (pss_cons (ps_setLc (i := 4) (own := [("at", 5)]) (g := gName 5) (tt := tYes) rfl scOdd.nd rfl rfl rfl (pi_range1 rfl mr (pa_cons (pe_op op_add pe_int (pe_call C.g hr rfl C.m C.kp C.b .nil pass0 (pa_cons (pv 0) (pa_cons pe_int pa_nil)))) pa_nil)) (blkOk_by (own := [("at", 5)]) (N := ["purse", "wording", "menu", "head", "lot", "at", "title", "many"]) (sc := defScope sOddBook) (by decide +kernel)) (fun _ _ _ _ _ => pg_name (i := 5) scOdd.nd rfl (Or.inl rfl)) (fun _ _ _ _ _ => pts_nil) (fun _ _ _ _ _ => (pe_ix ix_str pe_str (pv 5) (fun _ _ => rfl))))
    (pss_cons (ps_set (i := 2) scOdd.nd rfl (Or.inl rfl) (pe_op op_cat (pv 2) (pe_lst (pa_cons (pe_join pe_str (pe_lc (own := [("title", 6)]) (g := gName 6) (tt := tYes) rfl scOdd.nd (pi_list (pv 4)) (blkOk_by (own := [("title", 6)]) (N := ["purse", "wording", "menu", "head", "lot", "at", "title", "many"]) (sc := defScope sOddBook) (by decide +kernel)) (fun _ _ _ _ _ => pg_name (i := 6) scOdd.nd rfl (Or.inl rfl)) (fun _ _ _ _ _ => pts_nil) (fun _ _ _ _ _ => (pe_op op_add_str (pe_op op_add_str pe_str (pv 6)) pe_str)))) (pa_cons (pe_op op_add_str pe_str (pe_join pe_str (pv 4))) pa_nil)))))
    (pss_cons (ps_set (i := 2) scOdd.nd rfl (Or.inl rfl) (pe_op op_cat (pv 2) (pe_lst (pa_cons (pe_op op_add_str (pe_op op_add_str (pe_op op_add_str pe_str (pe_join pe_str (pv 4))) pe_str) (pe_join pe_str (pe_revL (pv 4)))) (pa_cons (pe_op op_add_str pe_str (pe_join pe_str (pe_op op_cat (pv 4) (pe_slice sl_list (pv 4) po_none (po_some pe_int))))) pa_nil)))))
    (pss_cons (ps_set (i := 7) scOdd.nd rfl (Or.inl rfl) (pe_op op_add pe_int (pe_call C.g hr rfl C.m C.kp C.b .nil pass0 (pa_cons (pv 0) (pa_cons pe_int pa_nil)))))
    (pss_cons (ps_set (i := 2) scOdd.nd rfl (Or.inl rfl) (pe_op op_cat (pv 2) (pe_lst (pa_cons (pe_op op_add_str (pv 3) (pe_op op_mulS pe_str (pv 7))) pa_nil))))
    (pss_cons (ps_set (i := 2) scOdd.nd rfl (Or.inl rfl) (pe_op op_cat (pv 2) (pe_lst (pa_cons (pe_op op_add_str pe_str (pe_join pe_str (pe_lc (own := [("at", 5)]) (g := gName 5) (tt := tYes) rfl scOdd.nd (pi_range1 rfl mr (pa_cons pe_int pa_nil)) (blkOk_by (own := [("at", 5)]) (N := ["purse", "wording", "menu", "head", "lot", "at", "title", "many"]) (sc := defScope sOddBook) (by decide +kernel)) (fun _ _ _ _ _ => pg_name (i := 5) scOdd.nd rfl (Or.inl rfl)) (fun _ _ _ _ _ => pts_nil) (fun _ _ _ _ _ => (pe_op op_mulS pe_str (pe_op op_add pe_int (pv 5))))))) pa_nil))))
    (pss_cons (ps_set (i := 2) scOdd.nd rfl (Or.inl rfl) (pe_op op_cat (pv 2) (pe_lst (pa_cons (pe_op op_add_str (pe_op op_add_str (pv 3) pe_str) (pe_op op_mulS pe_str (pv 7))) pa_nil))))
    (pss_cons (ps_set (i := 2) scOdd.nd rfl (Or.inl rfl) (pe_op op_cat (pv 2) (pe_lst (pa_consK (pek_add (pv 1)) (pat_cons (CwR.PET.of (pe_op op_add_str (pv 1) pe_str)) (pat_cons (CwR.pet_replC (pv 1)) pat_nil))))))
    (pss_cons (ps_set (i := 2) scOdd.nd rfl (Or.inl rfl) (pe_op op_cat (pv 2) (pe_lst (pa_consK (pek_add (pv 1)) (pat_cons (CwR.pet_replC (pv 1)) pat_nil)))))
    (pss_one (ps_ret (pe_ix ix_list (pv 2) (pe_call C.g hr rfl C.m C.kp C.b .nil pass0 (pa_cons (pv 0) (pa_cons (pe_callB call_len_seq rfl ml boot_len (pa_cons (pv 2) pa_nil)) pa_nil))) (fun _ _ => rfl)))))))))))))))))))))))))))))))), ?_⟩
  have no : ¬ False := id
  refine ⟨by decide, fun m n => ?_⟩
  have hm : MenuAt (upd H m (.lst [.str "", .str " ", .str "table", .str "table p", .str "table p ", .str "table p id", .str "table p  id"])) m 7 := ⟨_, upd_same, allS_lits (l := [("" : Str), " ", "table", "table p", "table p ", "table p id", "table p  id"]) (by decide +kernel), rfl⟩
  have kk : Off (fun _ => False) H (upd H m (.lst [.str "", .str " ", .str "table", .str "table p", .str "table p ", .str "table p id", .str "table p  id"])) := Off.new n
  dsimp only [gName]
  generalize upd H m (.lst [.str "", .str " ", .str "table", .str "table p", .str "table p ", .str "table p id", .str "table p  id"]) = G at hm kk ⊢
  show tSeq _ _ _ [some (.ref p), some (.str x), some (.ref m), none, none, none, none, none] _
  refine menu_cut (n := 7) (k := 4) hm (by decide) (fun Q h => h _ _ (allS_lits (l := [("table p id id" : Str), ("table P id" : Str), ("table p Id" : Str), ("table p i1" : Str)]) (by decide +kernel)) rfl (Off.refl _ _)) fun m1 G1 hm1 kk1 => ?_
  replace hm := hm1
  replace kk := kk.trans kk1
  clear hm1 kk1
  refine menu_cut (n := 11) (k := 4) hm (by decide) (fun Q h => h _ _ (allS_lits (l := [("table p id town" : Str), ("table abcdefgh a" : Str), ("table abcdefghi a" : Str), ("table p abcdefghi" : Str)]) (by decide +kernel)) rfl (Off.refl _ _)) fun m1 G1 hm1 kk1 => ?_
  replace hm := hm1
  replace kk := kk.trans kk1
  clear hm1 kk1
  refine menu_cut (n := 15) (k := 1) hm (by decide) (fun Q h => h _ _ (allS_lits (l := [("table p id; table p id" : Str)]) (by decide +kernel)) rfl (Off.refl _ _)) fun m1 G1 hm1 kk1 => ?_
  replace hm := hm1
  replace kk := kk.trans kk1
  clear hm1 kk1
  refine menu_cut (n := 16) (k := 3) hm (by decide) (fun Q h => h _ _ (allS_lits (l := [("table p id; table q id" : Str), ("table p id;table q id" : Str), ("table p id; " : Str)]) (by decide +kernel)) rfl (Off.refl _ _)) fun m1 G1 hm1 kk1 => ?_
  replace hm := hm1
  replace kk := kk.trans kk1
  clear hm1 kk1
  refine menu_cut (n := 19) (k := 3) hm (by decide) (fun Q h => h _ _ (allS_lits (l := [("; table p id" : Str), ("table p id;" : Str), ("table table table" : Str)]) (by decide +kernel)) rfl (Off.refl _ _)) fun m1 G1 hm1 kk1 => ?_
  replace hm := hm1
  replace kk := kk.trans kk1
  clear hm1 kk1
  refine head_cut ?_
  refine menu_cut (n := 22) (k := 3) hm (by decide) (fun Q h => ⟨_, rfl, _, _, rfl, rfl, (by decide), _, rfl, _, _, rfl, rfl, (by decide), _, rfl, _, _, rfl, rfl, (by decide), h _ _ (allS_lits (l := [(("table p id town" : Str) ++ ("; key p" : Str)), (("table p id town" : Str) ++ ("; key p id" : Str)), (("table p id town" : Str) ++ ("; key p id id" : Str))]) (by decide +kernel)) rfl (Off.refl _ _)⟩) fun m1 G1 hm1 kk1 => ?_
  replace hm := hm1
  replace kk := kk.trans kk1
  clear hm1 kk1
  refine menu_cut (n := 25) (k := 3) hm (by decide) (fun Q h => ⟨_, rfl, _, _, rfl, rfl, (by decide), _, rfl, _, _, rfl, rfl, (by decide), _, rfl, _, _, rfl, rfl, (by decide), h _ _ (allS_lits (l := [(("table p id town" : Str) ++ ("; key p town id" : Str)), (("table p id town" : Str) ++ ("; key q id" : Str)), (("table p id town" : Str) ++ ("; key" : Str))]) (by decide +kernel)) rfl (Off.refl _ _)⟩) fun m1 G1 hm1 kk1 => ?_
  replace hm := hm1
  replace kk := kk.trans kk1
  clear hm1 kk1
  refine menu_cut (n := 28) (k := 3) hm (by decide) (fun Q h => ⟨_, rfl, _, _, rfl, rfl, (by decide), _, rfl, _, _, rfl, rfl, (by decide), _, rfl, _, _, rfl, rfl, (by decide), h _ _ (allS_lits (l := [(("table p id town" : Str) ++ ("; key p no" : Str)), (("table p id town" : Str) ++ ("; key p id > town" : Str)), (("table p id town" : Str) ++ ("; settles p id > town" : Str))]) (by decide +kernel)) rfl (Off.refl _ _)⟩) fun m1 G1 hm1 kk1 => ?_
  replace hm := hm1
  replace kk := kk.trans kk1
  clear hm1 kk1
  refine menu_cut (n := 31) (k := 2) hm (by decide) (fun Q h => ⟨_, rfl, _, _, rfl, rfl, (by decide), _, rfl, _, _, rfl, rfl, (by decide), h _ _ (allS_lits (l := [(("table p id town" : Str) ++ ("; settles p > town" : Str)), (("table p id town" : Str) ++ ("; settles p" : Str))]) (by decide +kernel)) rfl (Off.refl _ _)⟩) fun m1 G1 hm1 kk1 => ?_
  replace hm := hm1
  replace kk := kk.trans kk1
  clear hm1 kk1
  refine menu_cut (n := 33) (k := 3) hm (by decide) (fun Q h => ⟨_, rfl, _, _, rfl, rfl, (by decide), _, rfl, _, _, rfl, rfl, (by decide), _, rfl, _, _, rfl, rfl, (by decide), h _ _ (allS_lits (l := [(("table p id town" : Str) ++ ("; settles p id town" : Str)), (("table p id town" : Str) ++ ("; settles p id >" : Str)), (("table p id town" : Str) ++ ("; settles p > " : Str))]) (by decide +kernel)) rfl (Off.refl _ _)⟩) fun m1 G1 hm1 kk1 => ?_
  replace hm := hm1
  replace kk := kk.trans kk1
  clear hm1 kk1
  refine menu_cut (n := 36) (k := 1) hm (by decide) (fun Q h => ⟨_, rfl, _, _, rfl, rfl, (by decide), h _ _ (allS_lits (l := [(("table p id town" : Str) ++ ("; settles p id > town id" : Str))]) (by decide +kernel)) rfl (Off.refl _ _)⟩) fun m1 G1 hm1 kk1 => ?_
  replace hm := hm1
  replace kk := kk.trans kk1
  clear hm1 kk1
  refine menu_cut (n := 37) (k := 2) hm (by decide) (fun Q h => ⟨_, rfl, _, _, rfl, rfl, (by decide), _, rfl, _, _, rfl, rfl, (by decide), h _ _ (allS_lits (l := [(("table p id town" : Str) ++ ("; settles p id > no" : Str)), (("table p id town" : Str) ++ ("; settles p no > id" : Str))]) (by decide +kernel)) rfl (Off.refl _ _)⟩) fun m1 G1 hm1 kk1 => ?_
  replace hm := hm1
  replace kk := kk.trans kk1
  clear hm1 kk1
  refine menu_cut (n := 39) (k := 2) hm (by decide) (fun Q h => ⟨_, rfl, _, _, rfl, rfl, (by decide), _, rfl, _, _, rfl, rfl, (by decide), h _ _ (allS_lits (l := [(("table p id town" : Str) ++ ("; settles q > id" : Str)), (("table p id town" : Str) ++ ("; settles p id  > town" : Str))]) (by decide +kernel)) rfl (Off.refl _ _)⟩) fun m1 G1 hm1 kk1 => ?_
  replace hm := hm1
  replace kk := kk.trans kk1
  clear hm1 kk1
  refine menu_cut (n := 41) (k := 2) hm (by decide) (fun Q h => ⟨_, rfl, _, _, rfl, rfl, (by decide), _, rfl, _, _, rfl, rfl, (by decide), h _ _ (allS_lits (l := [(("table p id town" : Str) ++ ("; settles p id > id" : Str)), (("table p id town" : Str) ++ ("; settles p > id > town" : Str))]) (by decide +kernel)) rfl (Off.refl _ _)⟩) fun m1 G1 hm1 kk1 => ?_
  replace hm := hm1
  replace kk := kk.trans kk1
  clear hm1 kk1
  refine menu_cut (n := 43) (k := 3) hm (by decide) (fun Q h => ⟨_, rfl, _, _, rfl, rfl, (by decide), _, rfl, _, _, rfl, rfl, (by decide), _, rfl, _, _, rfl, rfl, (by decide), h _ _ (allS_lits (l := [(("table p id town" : Str) ++ ("; Key p id" : Str)), (("table p id town" : Str) ++ ("; keys p id" : Str)), (("table p id town" : Str) ++ ("; key  p id" : Str))]) (by decide +kernel)) rfl (Off.refl _ _)⟩) fun m1 G1 hm1 kk1 => ?_
  replace hm := hm1
  replace kk := kk.trans kk1
  clear hm1 kk1
  refine menu_cut (n := 46) (k := 2) hm (by decide) (fun Q h => ⟨_, rfl, _, _, rfl, rfl, (by decide), _, rfl, _, _, rfl, rfl, (by decide), h _ _ (allS_lits (l := [(("key p id; " : Str) ++ ("table p id town" : Str)), (("table p id town" : Str) ++ ("; key p id; table q id" : Str))]) (by decide +kernel)) rfl (Off.refl _ _)⟩) fun m1 G1 hm1 kk1 => ?_
  replace hm := hm1
  replace kk := kk.trans kk1
  clear hm1 kk1
  refine menu_cut (n := 48) (k := 2) hm (by decide) (fun Q h => ⟨_, rfl, _, _, rfl, rfl, (by decide), _, rfl, _, _, rfl, rfl, (by decide), h _ _ (allS_lits (l := [(("table p id town" : Str) ++ ("; key p id; key p id" : Str)), (("table p id town" : Str) ++ ("; key p id; settles p id > town" : Str))]) (by decide +kernel)) rfl (Off.refl _ _)⟩) fun m1 G1 hm1 kk1 => ?_
  replace hm := hm1
  replace kk := kk.trans kk1
  clear hm1 kk1
  have hpG : Pu G1 p c := hp.off kk no
  have pm := hm.ne hpG
  refine ⟨_, rfl, p, 20, c, rfl, hpG, by omega, by decide, by decide, fun j H1 j0 j20 hp1 b1 => ?_⟩
  have hm1 := hm.off b1.off pm
  have k1 : Off (fun a => a = p) H H1 := (kk.mono fun _ z => z.elim).trans b1.off
  refine ⟨_, _, rfl, rfl, 7 + j, rfl, by omega, by omega, fun D hD => lc_range (lo := 0) (n := (7 + j).toNat) (fun i H' => (∃ cs : List Nat, H' D = some (.lst (cs.map fun c => V.str (tx [c]))) ∧ cs.length = i ∧ ∀ c ∈ cs, 97 ≤ c ∧ c ≤ 122) ∧ Off (fun _ => False) H1 H')
    ⟨⟨[], upd_same, rfl, fun c hc => absurd hc (by simp)⟩, Off.new hD⟩ (fun i H' hi g => ?_) fun H' g => ?_⟩
  · obtain ⟨⟨cs, e1, hl, hs⟩, k'⟩ := g
    refine ⟨rfl, _, rfl, _, 0 + (i : Int), _, rfl, rfl, by decide +kernel, abc_at (by omega) (by omega), _, e1, by rw [List.length_map, hl]; exact small1000 (by omega), ⟨cs ++ [97 + (0 + (i : Int)).toNat], by rw [upd_same, List.map_append]; rfl, by simp [hl], fun z hz => ?_⟩, fun a u ea na => ?_⟩
    · rcases List.mem_append.mp hz with hz | hz
      · exact hs z hz
      · rw [List.mem_singleton.mp hz]
        omega
    · rw [upd_ne (fun z => by rw [z, hD] at ea; cases ea)]
      exact k' a u ea na
  obtain ⟨⟨cs, e1, hl, hs⟩, k'⟩ := g
  obtain ⟨ls, el, gl, ll⟩ : ∃ ls : List Str, H' D = some (.lst (ls.map V.str)) ∧ (∀ y ∈ ls, Gd 1 y) ∧ ls.length ≤ 26 := by
    refine ⟨cs.map fun c => tx [c], by rw [e1, List.map_map]; rfl, fun y hy => ?_, by rw [List.length_map, hl]; omega⟩
    obtain ⟨c, hc, rfl⟩ := List.mem_map.mp hy
    refine ⟨fun d hd => ?_, by rw [tx_len]; exact Nat.le_refl 1⟩
    rw [tx_cps, List.mem_singleton] at hd
    have := hs c hc
    omega
  clear cs e1 hl hs
  replace hm := hm1.off k' no
  have hp2 := hp1.off k' no
  have k2 := k1.trans (k'.mono fun _ z => z.elim)
  clear hm1
  -- two joined texts
  refine menu_cut (n := 50) (k := 2) hm (by decide) (fun Q h => ?_) fun m1 G1 hm1 kk1 => ?_
  · refine ⟨⟨_, rfl⟩, _, rfl, D, rfl, ⟨_, SqL.of el⟩, fun D2 nD2 => lc_list (K := K) (a := D) (xs := ls.map V.str) (fun i G => G D2 = some (.lst ((((ls.take i).map fun y => ("table " : Str) ++ y ++ " id")).map V.str)) ∧ Off (fun _ => False) H' G) ⟨upd_same, Off.new nD2⟩ (fun i G _ g => SqL.of (g.2 _ _ el no)) (fun i y G hy g => ?_) fun G g => ?_⟩
    · obtain ⟨g1, g2⟩ := g
      rw [List.getElem?_map] at hy
      obtain ⟨c, hc, rfl⟩ := Option.map_eq_some_iff.mp hy
      have gc := (gl c (List.mem_of_getElem? hc)).2
      have lz : (10 : Nat) ≤ sizeLine := by decide
      have l6 : ("table " : Str).length = 6 := by decide +kernel
      have l3 : (" id" : Str).length = 3 := by decide +kernel
      refine ⟨rfl, _, rfl, _, _, rfl, rfl, by omega, _, _, rfl, rfl, by rw [Str.length_append]; omega, _, g1, ?_, ?_, fun b o eb nb => ?_⟩
      · rw [List.length_map, List.length_map, List.length_take]
        exact small4000 (by omega)
      · rw [upd_same, take_snoc hc, List.map_append, List.map_append]
        rfl
      · rw [upd_ne (fun z => by rw [z, nD2] at eb; cases eb)]
        exact g2 b o eb nb
    · obtain ⟨g1, g2⟩ := g
      rw [List.length_map, List.take_length] at g1
      have g6 := gd_str (n := 6) "table " (by decide +kernel)
      have g3 := gd_str (n := 3) " id" (by decide +kernel)
      have each : ∀ z ∈ ls.map (fun y => ("table " : Str) ++ y ++ " id"), Gd 10 z := fun z hz => by
        obtain ⟨y, hy, rfl⟩ := List.mem_map.mp hz
        exact (g6.add (gl y hy)).add g3
      have s1 := gd_sum (k := ("; " : Str).length) each
      have j1 := gd_join (gd_str (n := 2) "; " (by decide +kernel)) each
      have s2 := gd_sum (k := (" " : Str).length) gl
      have j2 := gd_join (gd_str (n := 1) " " (by decide +kernel)) gl
      rw [List.length_map] at j1
      rw [List.length_map, sp2] at s1
      rw [sp1] at s2
      have t8 := gd_str (n := 8) "table p " (by decide +kernel)
      have lz : (2000 : Nat) ≤ sizeLine := by decide
      refine ⟨_, D2, _, rfl, rfl, .inl (SqL.of g1), by rw [List.length_map, sp2]; omega, ⟨_, rfl⟩, _, rfl, _, D, ls, rfl, rfl, .inl (SqL.of (g2 _ _ el no)), by rw [sp1]; omega, _, _, rfl, rfl, ?_, h _ _ (allS_of (l := [Txt.join "; " (ls.map fun y => ("table " : Str) ++ y ++ " id"), "table p " ++ Txt.join " " ls]) fun z hz => ?_) rfl g2⟩
      · have := (t8.add j2).2
        rw [Str.length_append] at this
        omega
      · rcases List.mem_cons.mp hz with rfl | hz
        · exact j1.mono (by omega)
        · rw [List.mem_singleton.mp hz]
          exact (t8.add j2).mono (by omega)
  replace hm := hm1
  have el1 := kk1 _ _ el no
  replace hp2 := hp2.off kk1 no
  replace k2 := k2.trans (kk1.mono fun _ z => z.elim)
  clear hm1 kk1 el
  have t8 := gd_str (n := 8) "table p " (by decide +kernel)
  have t8b := gd_str (n := 8) "; key p " (by decide +kernel)
  have lz : (2000 : Nat) ≤ sizeLine := by decide
  have s2 := gd_sum (k := (" " : Str).length) gl
  have j2 := gd_join (gd_str (n := 1) " " (by decide +kernel)) gl
  rw [sp1] at s2
  have glr : ∀ y ∈ ls.reverse, Gd 1 y := fun y hy => gl y (List.mem_reverse.mp hy)
  have s3 := gd_sum (k := (" " : Str).length) glr
  have j3 := gd_join (gd_str (n := 1) " " (by decide +kernel)) glr
  rw [sp1, List.length_reverse] at s3
  rw [List.length_reverse] at j3
  have gl4 : ∀ y ∈ ls ++ ls.take 1, Gd 1 y := fun y hy => by
    rcases List.mem_append.mp hy with hy | hy
    · exact gl y hy
    · exact gl y (List.mem_of_mem_take hy)
  have l4 : (ls ++ ls.take 1).length ≤ 27 := by
    rw [List.length_append, List.length_take]
    omega
  have s4 := gd_sum (k := (" " : Str).length) gl4
  have j4 := gd_join (gd_str (n := 1) " " (by decide +kernel)) gl4
  rw [sp1] at s4
  refine menu_cut (n := 52) (k := 2) hm (by decide) (fun Q h => ?_) fun m1 G1' hm1 kk1 => ?_
  · have b1 := (t8.add j2).2
    have b2 := ((t8.add j2).add t8b).2
    have b3 := (((t8.add j2).add t8b).add j3).2
    have b4 := (t8.add j4).2
    rw [Str.length_append] at b1 b2 b3 b4
    refine ⟨⟨_, rfl⟩, _, rfl, _, D, ls, rfl, rfl, .inl (SqL.of el1), by rw [sp1]; omega, _, _, rfl, rfl, by omega, _, _, rfl, rfl, by omega, ⟨_, rfl⟩, _, rfl, D, _, rfl, SqL.of el1, fun m3 n3 => ?_⟩
    rw [← List.map_reverse]
    have k3 : Off (fun _ => False) G1 (upd G1 m3 (.lst (ls.reverse.map V.str))) := Off.new n3
    refine ⟨_, m3, ls.reverse, rfl, rfl, .inl (SqL.of upd_same), by rw [sp1, List.length_reverse]; omega, _, _, rfl, rfl, by omega, ?_⟩
    generalize upd G1 m3 (.lst (ls.reverse.map V.str)) = G3 at k3 ⊢
    have el3 := k3 _ _ el1 no
    refine ⟨⟨_, rfl⟩, _, rfl, _, rfl, _, rfl, D, _, rfl, SqL.of el3, fun m4 n4 => ?_⟩
    have ec : cutV (ls.map V.str) none (some 1) = (ls.take 1).map V.str := by
      rw [cutV_head (by decide), List.map_take]
      rfl
    rw [ec]
    have k4 : Off (fun _ => False) G3 (upd G3 m4 (.lst ((ls.take 1).map V.str))) := Off.new n4
    refine ⟨D, m4, _, _, rfl, rfl, k4 _ _ el3 no, upd_same, ?_, fun m5 n5 => ?_⟩
    · rw [List.length_map, List.length_map, List.length_take]
      omega
    rw [← List.map_append]
    refine ⟨_, m5, ls ++ ls.take 1, rfl, rfl, .inl (SqL.of upd_same), by rw [sp1]; omega, _, _, rfl, rfl, by omega, ?_⟩
    refine h _ _ (allS_of (l := ["table p " ++ Txt.join " " ls ++ "; key p " ++ Txt.join " " ls.reverse, "table p " ++ Txt.join " " (ls ++ ls.take 1)]) fun z hz => ?_) rfl ((k3.trans k4).trans (Off.new n5))
    rcases List.mem_cons.mp hz with rfl | hz
    · exact (((t8.add j2).add t8b).add j3).mono (by omega)
    · rw [List.mem_singleton.mp hz]
      exact (t8.add j4).mono (by omega)
  replace hm := hm1
  replace hp2 := hp2.off kk1 no
  replace k2 := k2.trans (kk1.mono fun _ z => z.elim)
  clear hm1 kk1 el1
  have pm2 := hm.ne hp2
  refine ⟨_, rfl, p, 150, _, rfl, hp2, by omega, by decide, by decide, fun a H2 a0 a1 hp3 b3 => ⟨_, _, rfl, rfl, ?_⟩⟩
  have hm3 := hm.off b3.off pm2
  have k3 := k2.trans b3.off
  clear hm hp2 k2 b3 pm2
  dsimp only [gName]
  generalize hmn : (1 + a : Int) = mn
  have mn1 : 1 ≤ mn := by omega
  have mn2 : mn ≤ 150 := by omega
  have mnN : mn.toNat ≤ 150 := by omega
  clear hmn a0 a1
  show tSeq _ _ _ [some (.ref p), some (.str x), some (.ref _), some (.str "table p id town"), some (.ref _), none, none, some (.int mn)] _
  have th := gd_str (n := 15) "table p id town" (by decide +kernel)
  have tk := gd_rep (n := mn.toNat) (gd_str (n := 10) "; key p id" (by decide +kernel))
  have ti := gd_rep (n := mn.toNat) (gd_str (n := 3) " id" (by decide +kernel))
  refine menu_cut (n := 54) (k := 1) hm3 (by decide) (fun Q h => ?_) fun m1 G1 hm1 kk1 => ?_
  · have z := (th.add tk).2
    rw [Str.length_append] at z
    refine ⟨_, rfl, _, rfl, _, _, rfl, rfl, mn1, by omega, by decide +kernel, _, _, rfl, rfl, by omega, ?_⟩
    refine h _ _ (allS_of (l := ["table p id town" ++ repS mn.toNat "; key p id"]) fun z hz => ?_) rfl (Off.refl _ _)
    rw [List.mem_singleton.mp hz]
    exact (th.add tk).mono (by omega)
  replace hp3 := hp3.off kk1 no
  replace k3 := k3.trans (kk1.mono fun _ z => z.elim)
  clear kk1 hm3
  have a1 := gd_str (n := 1) "a" (by decide +kernel)
  refine menu_cut (n := 55) (k := 1) hm1 (by decide) (fun Q h => ?_) fun m2 G2 hm2 kk1 => ?_
  · refine ⟨⟨_, rfl⟩, 8, rfl, by decide, by decide, fun D2 nD2 => lc_range (lo := 0) (n := 8) (fun i G => (∃ zs : List Str, G D2 = some (.lst (zs.map V.str)) ∧ zs.length = i ∧ ∀ z ∈ zs, Gd 8 z) ∧ Off (fun _ => False) G1 G) ⟨⟨[], upd_same, rfl, fun z hz => absurd hz (by simp)⟩, Off.new nD2⟩ (fun i G hi g => ?_) fun G g => ?_⟩
    · obtain ⟨⟨zs, e1, lz', gz⟩, g2⟩ := g
      refine ⟨rfl, _, rfl, _, _, rfl, rfl, _, _, rfl, rfl, (by show (1 : Int) ≤ 1 + (0 + (i : Int)); omega), (by show 1 + (0 + (i : Int)) ≤ 1000; omega), by decide +kernel, _, e1, by rw [List.length_map, lz']; exact small1000 (by omega), ⟨zs ++ [repS (1 + (0 + (i : Int))).toNat "a"], by rw [upd_same, List.map_append]; rfl, by simp [lz'], fun z hz => ?_⟩, fun b o eb nb => ?_⟩
      · rcases List.mem_append.mp hz with hz | hz
        · exact gz z hz
        · rw [List.mem_singleton.mp hz]
          exact (gd_rep a1).mono (by omega)
      · rw [upd_ne (fun z => by rw [z, nD2] at eb; cases eb)]
        exact g2 b o eb nb
    · obtain ⟨⟨zs, e1, lz', gz⟩, g2⟩ := g
      have s5 := gd_sum (k := (" " : Str).length) gz
      have j5 := gd_join (gd_str (n := 1) " " (by decide +kernel)) gz
      rw [sp1] at s5
      have b5 := (t8.add j5).2
      rw [Str.length_append] at b5
      refine ⟨_, D2, zs, rfl, rfl, .inl (SqL.of e1), by rw [sp1]; omega, _, _, rfl, rfl, by omega, h _ _ (allS_of (l := ["table p " ++ Txt.join " " zs]) fun z hz => ?_) rfl g2⟩
      rw [List.mem_singleton.mp hz]
      exact (t8.add j5).mono (by omega)
  replace hp3 := hp3.off kk1 no
  replace k3 := k3.trans (kk1.mono fun _ z => z.elim)
  clear kk1 hm1
  have tkp := gd_str (n := 7) "; key p" (by decide +kernel)
  refine menu_cut (n := 56) (k := 1) hm2 (by decide) (fun Q h => ?_) fun m3 G3 hm3 kk1 => ?_
  · have z1 := (th.add tkp).2
    have z2 := ((th.add tkp).add ti).2
    rw [Str.length_append] at z1 z2
    refine ⟨_, rfl, _, _, rfl, rfl, by omega, _, rfl, _, _, rfl, rfl, mn1, by omega, by decide +kernel, _, _, rfl, rfl, by omega, ?_⟩
    refine h _ _ (allS_of (l := ["table p id town" ++ "; key p" ++ repS mn.toNat " id"]) fun z hz => ?_) rfl (Off.refl _ _)
    rw [List.mem_singleton.mp hz]
    exact ((th.add tkp).add ti).mono (by omega)
  replace hp3 := hp3.off kk1 no
  replace k3 := k3.trans (kk1.mono fun _ z => z.elim)
  clear kk1 hm2
  have g1 := gd_str (n := 8) "; key zz" (by decide +kernel)
  have g2 := gd_str (n := 13) "; table zz id" (by decide +kernel)
  have g3 := gd_str (n := 1) ";" (by decide +kernel)
  have g4 := gd_str (n := 1) " " (by decide +kernel)
  have c1 := (gx.add g1).2
  have c2 := (gx.add g2).2
  have c4 := (gx.add g4).2
  rw [Str.length_append] at c1 c2 c4
  have lx := gx.2
  have r1 := gd_repl (y := "; ") gx g3 (by decide +kernel)
  have r2 := gd_repl (y := " > ") gx g4 (by decide +kernel)
  refine menu_cut (n := 57) (k := 3) hm3 (by decide) (fun Q h => ?_) fun m4 G4 hm4 kk1 => ?_
  · refine ⟨_, rfl, _, _, rfl, rfl, by omega, _, rfl, _, _, rfl, rfl, by omega, _, rfl, x, rfl, ?_, ?_⟩
    · rw [show (";" : Str).length = 1 from by decide +kernel]
      omega
    refine h _ _ (allS_of (l := [x ++ "; key zz", x ++ "; table zz id", Txt.replace x "; " ";"]) fun z hz => ?_) rfl (Off.refl _ _)
    rcases List.mem_cons.mp hz with rfl | hz
    · exact (gx.add g1).mono (by omega)
    rcases List.mem_cons.mp hz with rfl | hz
    · exact (gx.add g2).mono (by omega)
    · rw [List.mem_singleton.mp hz]
      exact r1.mono (by omega)
  replace hp3 := hp3.off kk1 no
  replace k3 := k3.trans (kk1.mono fun _ z => z.elim)
  clear kk1 hm3
  refine menu_cut (n := 60) (k := 2) hm4 (by decide) (fun Q h => ?_) fun m5 G5 hm5 kk1 => ?_
  · refine ⟨_, rfl, _, _, rfl, rfl, by omega, _, rfl, x, rfl, ?_, ?_⟩
    · rw [show (" " : Str).length = 1 from by decide +kernel]
      omega
    refine h _ _ (allS_of (l := [x ++ " ", Txt.replace x " > " " "]) fun z hz => ?_) rfl (Off.refl _ _)
    rcases List.mem_cons.mp hz with rfl | hz
    · exact (gx.add g4).mono (by omega)
    · rw [List.mem_singleton.mp hz]
      exact r2.mono (by omega)
  replace hp3 := hp3.off kk1 no
  replace k3 := k3.trans (kk1.mono fun _ z => z.elim)
  clear kk1 hm4
  have pm5 := hm5.ne hp3
  obtain ⟨xs, e5, ax, lx5⟩ := hm5
  refine ⟨_, rfl, _, rfl, _, rfl, m5, xs, rfl, .inl (SqL.of e5), p, _, _, rfl, hp3, by omega, by omega, by omega, fun i H5 i0 i1 hp4 b4 => ?_⟩
  have lt : i.toNat < xs.length := by omega
  obtain ⟨y, ey, gy⟩ := ax xs[i.toNat] (List.getElem_mem lt)
  refine ⟨m5, xs, i, .str y, rfl, rfl, SqL.of ((b4 m5 pm5).trans e5), ?_, ?_⟩
  · have := atI_nat (xs := xs) (j := i.toNat) (v := V.str y) (by rw [List.getElem?_eq_getElem lt, ey])
    rwa [Int.toNat_of_nonneg i0] at this
  · exact q y H5 _ gy hp4 (by omega) (k3.trans b4.off)
end
end LW
set_option Elab.async false
set_option linter.all false
set_option maxRecDepth 100000
set_option maxHeartbeats 0
/-! k54: _law_marred_book -/
namespace LW
open PySem PySem.Spec PyProof.Rows L2 KV
theorem join_upperS (sep : Str) : ∀ {ys : List Str}, 1 ≤ ys.length → (Str.join sep ys).length + sep.length ≤ (ys.map (·.length)).sum + ys.length * sep.length
  | [], h => by simp at h
  | [x], _ => by
    show x.length + _ ≤ _
    simp
  | x :: y :: r, _ => by
    have h := join_upperS sep (ys := y :: r) (by simp)
    show (x ++ sep ++ Str.join sep (y :: r)).length + _ ≤ _
    rw [Str.length_append, Str.length_append]
    simp only [List.map_cons, List.sum_cons, List.length_cons, Nat.succ_mul] at h ⊢
    omega
theorem join_upper {sep : Str} {ys : List Str} (h : 1 ≤ ys.length) : (Txt.join sep ys).length + sep.length ≤ (ys.map (·.length)).sum + ys.length * sep.length := by
  rw [show Txt.join sep ys = Str.join sep ys from StrLaws.glued_eq_join sep ys]
  exact join_upperS sep h
def textOf : Stmt → Str
  | .Assign _ (.Constant (.str c) _ _) _ => c
  | _ => Str.empty
/-- the long line of signs -/
def wideS : Str := textOf ((defBody sMarredBook).getD 1 (.Pass ⟨0, 0, 0, 0⟩))
def spMarred : Sp := fun vs H Q _ => ∃ (p : Addr) (c : Nat) (x : Str), vs = [.ref p, .str x] ∧ Gd 700 x ∧ Pu H p c ∧ c + 20 ≤ 1000000000 ∧ ∀ y H' c', Gd 1701 y → Pu H' p c' → c' ≤ c + 8 → Off (fun a => a = p) H H' → Q (.str y) H'
section
variable {P : Program} {w : World} {K : PySem.W.Frag} {mg : Str → Option Value} {base : Heap}
theorem scMar : FnScope ["purse", "wording", "spot", "way", "wide", "signs", "sign", "between", "pieces", "left", "right", "piece"] ["purse", "wording"] (defScope sMarredBook) := ⟨rfl, rfl, rfl, by decide +kernel, rfl, by decide +kernel, by decide +kernel⟩
theorem ok_marred {f fC fO : Addr} {fd dC dO : FuncData} (F : FnP K "_law_marred_book" sMarredBook f fd) (C : Dn P w K mg base 1 "_law_coin" ["purse", "many"] spCoin fC dC) (O : Dn P w K mg base 2 "_law_odd_book" ["purse", "wording"] spOdd fO dO) (ml : mg "len" = none) : FnOk P w K mg base CX0 3 f fd ["purse", "wording"] spMarred := by
  refine F.ok scMar (fun vs H Q E h => ?_) (fun cdv A outer s H vs Q E hr h => ?_)
  · obtain ⟨p, c, x, rfl, _⟩ := h
    rfl
  obtain ⟨p, c, x, rfl, gx, hp, hc, q⟩ := h
  have hr1 : Room 1 _ := hr.mono (by decide)
  refine ⟨_, pss_cons (ps_par (i := 2) (j := 3) rfl scMar.nd rfl rfl (by decide) rfl rfl (pa_cons (pe_call C.g (hr.mono (by decide)) rfl C.m C.kp C.b .nil pass0 (pa_cons (pv 0) (pa_cons (pe_op op_add (pe_callB call_len_str rfl ml boot_len (pa_cons (pv 1) pa_nil)) pe_int) pa_nil))) (pa_cons (pe_call C.g (hr.mono (by decide)) rfl C.m C.kp C.b .nil pass0 (pa_cons (pv 0) (pa_cons pe_int pa_nil))) pa_nil)) rfl)
    (pss_cons (ps_set (i := 4) scMar.nd rfl (Or.inl rfl) pe_str)
    (pss_cons (ps_set (i := 5) scMar.nd rfl (Or.inl rfl) (pe_ix ix_list (pe_lst (pa_cons pe_str (pa_cons (pv 4) pa_nil))) (pe_call C.g (hr.mono (by decide)) rfl C.m C.kp C.b .nil pass0 (pa_cons (pv 0) (pa_cons pe_int pa_nil))) (fun _ _ => rfl)))
    (pss_cons (ps_set (i := 6) scMar.nd rfl (Or.inl rfl) (pe_ix ix_str (pv 5) (pe_call C.g (hr.mono (by decide)) rfl C.m C.kp C.b .nil pass0 (pa_cons (pv 0) (pa_cons (pe_callB call_len_str rfl ml boot_len (pa_cons (pv 5) pa_nil)) pa_nil))) (fun _ _ => rfl)))
    (pss_cons (ps_if (pt_cmpR op_eq (pv 3) pe_int (nomark _)) (pss_one (ps_ret (pe_op op_add_str (pe_op op_add_str (pe_slice sl_str (pv 1) po_none (po_some (pv 2))) (pv 6)) (pe_slice sl_str (pv 1) (po_some (pv 2)) po_none)))) pss_nil)
    (pss_cons (ps_if (pt_cmpR op_eq (pv 3) pe_int (nomark _)) (pss_one (ps_ret (pe_op op_add_str (pe_slice sl_str (pv 1) po_none (po_some (pv 2))) (pe_slice sl_str (pv 1) (po_some (pe_op op_add (pv 2) pe_int)) po_none)))) pss_nil)
    (pss_cons (ps_if (pt_cmpR op_eq (pv 3) pe_int (nomark _)) (pss_one (ps_ret (pe_op op_add_str (pe_op op_add_str (pe_slice sl_str (pv 1) po_none (po_some (pv 2))) (pv 6)) (pe_slice sl_str (pv 1) (po_some (pe_op op_add (pv 2) pe_int)) po_none)))) pss_nil)
    (pss_cons (ps_if (pt_cmpR op_eq (pv 3) pe_int (nomark _)) (pss_one (ps_ret (pe_call O.g hr rfl O.m O.kp O.b .nil pass0 (pa_cons (pv 0) (pa_cons (pv 1) pa_nil))))) pss_nil)
    (pss_cons (ps_if (pt_cmpR op_in_seq (pv 3) (pe_tup (pa_cons pe_int (pa_cons pe_int pa_nil))) rfl)
      (pss_cons (ps_set (i := 7) scMar.nd rfl (Or.inl rfl) (pe_ix ix_list (pe_lst (pa_cons pe_str (pa_cons pe_str pa_nil))) (pe_op op_sub (pv 3) pe_int) (fun _ _ => rfl)))
      (pss_cons (ps_set (i := 8) scMar.nd rfl (Or.inl rfl) (pe_split (pv 1) (pv 7)))
      (pss_cons (ps_par (i := 9) (j := 10) rfl scMar.nd rfl rfl (by decide) rfl rfl (pa_cons (pe_call C.g (hr.mono (by decide)) rfl C.m C.kp C.b .nil pass0 (pa_cons (pv 0) (pa_cons (pe_callB call_len_seq rfl ml boot_len (pa_cons (pv 8) pa_nil)) pa_nil))) (pa_cons (pe_call C.g (hr.mono (by decide)) rfl C.m C.kp C.b .nil pass0 (pa_cons (pv 0) (pa_cons (pe_callB call_len_seq rfl ml boot_len (pa_cons (pv 8) pa_nil)) pa_nil))) pa_nil)) rfl)
      (pss_cons (ps_set (i := 11) scMar.nd rfl (Or.inl rfl) (pe_ix ix_list (pv 8) (pv 9) (fun _ _ => rfl)))
      (pss_cons (ps_asg (pe_ix ix_list (pv 8) (pv 10) (fun _ _ => rfl)) (pg_sub (pv 8) (pv 9) set_list))
      (pss_cons (ps_asg (pv 11) (pg_sub (pv 8) (pv 10) set_list))
      (pss_one (ps_ret (pe_join (pv 7) (pv 8)))))))))) pss_nil)
    (pss_one (ps_ret (pv 1))))))))))), ?_⟩
  have no : ¬ False := id
  have lx := gx.2
  have lz : (2000 : Nat) ≤ sizeLine := by decide
  refine ⟨_, rfl, _, rfl, x, rfl, by omega, _, _, rfl, rfl, p, _, c, rfl, hp, by omega, by omega, by omega, fun spot H1 s0 s1 hp1 b1 => ⟨_, rfl, p, 8, c + 1, rfl, hp1, by omega, by decide, by decide, fun way H2 w0 w8 hp2 b2 => ?_⟩⟩
  have k2 := b1.off.trans b2.off
  refine ⟨_, _, rfl, ?_⟩
  refine ⟨_, rfl, by decide, fun l nl => ?_⟩
  have j2 : Off (fun _ => False) H2 (upd H2 l (.lst [.str "pid town;>keysab", .str wideS])) := Off.new nl
  have el := upd_same (H := H2) (a := l) (o := .lst [.str "pid town;>keysab", .str wideS])
  have hp3 := hp2.off j2 no
  have pl : l ≠ p := fun z => by
    obtain ⟨xs, ep⟩ := hp2.lst
    rw [← z, nl] at ep
    cases ep
  refine ⟨_, rfl, p, 2, c + 2, rfl, hp3, by omega, by decide, by decide, fun i H3 i0 i2 hp4 b3 => ?_⟩
  have el3 := (b3 l pl).trans el
  obtain ⟨sg, hs, gs, ls⟩ : ∃ sg : Str, atI [V.str "pid town;>keysab", V.str wideS] i = some (.str sg) ∧ Gd 200 sg ∧ 1 ≤ sg.length := by
    rcases (show i = 0 ∨ i = 1 by omega) with rfl | rfl
    · exact ⟨_, rfl, gd_str _ (by decide +kernel), by decide +kernel⟩
    · exact ⟨_, rfl, gd_str _ (by decide +kernel), by decide +kernel⟩
  refine ⟨l, _, i, .str sg, rfl, rfl, SqL.of el3, hs, ?_⟩
  have k3 : Off (fun a => a = p) H H3 := (k2.trans (j2.mono fun _ z => z.elim)).trans b3.off
  refine ⟨_, rfl, _, rfl, _, rfl, sg, rfl, by have := gs.2; omega, p, _, c + 3, rfl, hp4, by omega, by omega, by have := gs.2; omega, fun n H4 n0 n1 hp5 b4 => ?_⟩
  have k4 := k3.trans b4.off
  have ln : n.toNat < sg.cps.toList.length := by
    have : sg.cps.toList.length = sg.length := by simp [Str.length]
    omega
  have gch : Gd 1 (tx [sg.cps.toList[n.toNat]]) := by
    refine ⟨fun d hd => ?_, by rw [tx_len]; exact Nat.le_refl 1⟩
    rw [tx_cps, List.mem_singleton] at hd
    rw [hd]
    exact gs.1 _ (List.getElem_mem ln)
  have ach : atI sg.cps.toList n = some sg.cps.toList[n.toNat] := by
    have := atI_nat (xs := sg.cps.toList) (j := n.toNat) (v := sg.cps.toList[n.toNat]) (List.getElem?_eq_getElem ln)
    rwa [Int.toNat_of_nonneg n0] at this
  refine ⟨sg, n, _, rfl, rfl, by have := gs.2; omega, ach, ?_⟩
  obtain ⟨sn, esn⟩ : ∃ sn : Str, sn = ⟨#[sg.cps.toList[n.toNat]]⟩ := ⟨_, rfl⟩
  replace gch : Gd 1 sn := by
    rw [esn]
    exact gch
  rw [← esn]
  have fin : ∀ y G, Gd 1701 y → Off (fun _ => False) H4 G → Q (.str y) G := fun y G gy k => q y G (c + 4) gy (hp5.off k no) (by omega) (k4.trans (k.mono fun _ z => z.elim))
  dsimp only [gName]
  show tSeq _ _ _ [some (.ref p), some (.str x), some (.int spot), some (.int way), some (.str wideS), some (.str sg), some (.str sn), none, none, none, none, none] _
  have d1 : ∀ lo hi, Gd 700 (cutS x lo hi) := fun lo hi => gx.cut lo hi
  have b1' := fun lo hi => (d1 lo hi).2
  have ls1 := gch.2
  refine ⟨_, rfl, rfl, _, rfl, ite2 (fun c0 => ?_) (fun c0 => ?_)⟩
  · refine ⟨_, rfl, _, rfl, _, rfl, x, rfl, by omega, _, rfl, _, _, rfl, rfl, ?_, _, rfl, _, rfl, _, rfl, x, rfl, by omega, _, _, rfl, rfl, ?_, ?_⟩
    · have := b1' none (some spot)
      omega
    · have := b1' none (some spot)
      have := b1' (some spot) none
      rw [Str.length_append]
      omega
    · exact fin _ _ ((((d1 _ _).add gch).add (d1 _ _)).mono (by decide)) (Off.refl _ _)
  refine ⟨_, rfl, rfl, _, rfl, ite2 (fun c1 => ?_) (fun c1 => ?_)⟩
  · refine ⟨_, rfl, _, rfl, _, rfl, x, rfl, by omega, _, rfl, _, rfl, _, _, rfl, rfl, _, rfl, x, rfl, by omega, _, _, rfl, rfl, ?_, ?_⟩
    · have := b1' none (some spot)
      have := b1' (some (spot + 1)) none
      omega
    · exact fin _ _ (((d1 _ _).add (d1 _ _)).mono (by decide)) (Off.refl _ _)
  refine ⟨_, rfl, rfl, _, rfl, ite2 (fun c2 => ?_) (fun c2 => ?_)⟩
  · refine ⟨_, rfl, _, rfl, _, rfl, x, rfl, by omega, _, rfl, _, _, rfl, rfl, ?_, _, rfl, _, rfl, _, _, rfl, rfl, _, rfl, x, rfl, by omega, _, _, rfl, rfl, ?_, ?_⟩
    · have := b1' none (some spot)
      omega
    · have := b1' none (some spot)
      have := b1' (some (spot + 1)) none
      rw [Str.length_append]
      omega
    · exact fin _ _ ((((d1 _ _).add gch).add (d1 _ _)).mono (by decide)) (Off.refl _ _)
  refine ⟨_, rfl, rfl, _, rfl, ite2 (fun c3 => ?_) (fun c3 => ?_)⟩
  · exact ⟨_, rfl, _, rfl, p, c + 4, x, rfl, gx, hp5, by omega, fun y G c' gy hg hc' k => q y G c' (gy.mono (by decide)) hg (by omega) (k4.trans k)⟩
  have n0' : way ≠ 0 := fun z => c0 (decide_eq_true (by rw [z]))
  have n1' : way ≠ 1 := fun z => c1 (decide_eq_true (by rw [z]))
  have n2' : way ≠ 2 := fun z => c2 (decide_eq_true (by rw [z]))
  have n3' : way ≠ 3 := fun z => c3 (decide_eq_true (by rw [z]))
  refine ⟨_, rfl, by decide, fun tp ntp => ⟨tp, _, rfl, .inr (SqT.of upd_same), rfl, by decide +kernel, _, rfl, ?_⟩⟩
  have j5 : Off (fun _ => False) H4 (upd H4 tp (.tup [.int 4, .int 5])) := Off.new ntp
  generalize upd H4 tp (.tup [.int 4, .int 5]) = H5 at j5 ⊢
  rw [if_neg (show ¬ (false = true) by decide)]
  by_cases w45 : way = 4 ∨ way = 5
  rotate_left
  · rw [show inV (V.int way) [V.int 4, V.int 5] = false by
      rcases (show way = 6 ∨ way = 7 by omega) with rfl | rfl <;> decide]
    exact iteF ⟨_, rfl, fin _ _ (gx.mono (by decide)) j5⟩
  rw [show inV (V.int way) [V.int 4, V.int 5] = true by
    rcases w45 with rfl | rfl <;> decide]
  refine iteT ?_
  obtain ⟨b, hb, gb, lb⟩ : ∃ b : Str, atI [V.str " ", V.str "; "] (way - 4) = some (.str b) ∧ Gd 2 b ∧ 1 ≤ b.length := by
    rcases w45 with rfl | rfl
    · exact ⟨" ", rfl, gd_str _ (by decide +kernel), by decide +kernel⟩
    · exact ⟨"; ", rfl, gd_str _ (by decide +kernel), by decide +kernel⟩
  refine ⟨by decide, fun l2 nl2 => ⟨_, rfl, _, _, rfl, rfl, l2, _, _, .str b, rfl, rfl, SqL.of upd_same, hb, ?_⟩⟩
  have j6 : Off (fun _ => False) H5 (upd H5 l2 (.lst [.str " ", .str "; "])) := Off.new nl2
  generalize upd H5 l2 (.lst [.str " ", .str "; "]) = H6 at j6 ⊢
  refine ⟨_, rfl, ⟨_, rfl⟩, _, rfl, _, _, rfl, rfl, ?_, by omega, fun m nm => ?_⟩
  · rw [beq_eq_false_iff_ne]
    omega
  have j7 : Off (fun _ => False) H6 (upd H6 m (.lst ((Txt.split x b).map V.str))) := Off.new nm
  have em := upd_same (H := H6) (a := m) (o := .lst ((Txt.split x b).map V.str))
  generalize upd H6 m (.lst ((Txt.split x b).map V.str)) = H7 at j7 em ⊢
  have k47 := (j5.trans j6).trans j7
  have hp7 := hp5.off k47 no
  have pm : m ≠ p := fun z => by
    obtain ⟨xs, ep⟩ := (hp5.off (j5.trans j6) no).lst
    rw [← z, nm] at ep
    cases ep
  have ljn : Txt.join b (Txt.split x b) = x := by
    rw [show Txt.join b (Txt.split x b) = Str.join b (Txt.split x b) from StrLaws.glued_eq_join _ _]
    exact StrLaws.join_split x b
  have gps : ∀ y ∈ Txt.split x b, Gd 700 y := fun y hy => split_gd gx hy
  have lps : (Txt.split x b).length ≤ 701 := Nat.le_trans (split_len lb) (by omega)
  have sps := sum_join b (Txt.split x b)
  rw [ljn] at sps
  have ne1 : 1 ≤ (Txt.split x b).length := List.length_pos_iff.mpr (split_ne x b)
  generalize Txt.split x b = ps at em gps lps sps ne1 ⊢
  clear ljn
  have lmp : (ps.map V.str).length = ps.length := List.length_map _
  refine ⟨_, rfl, _, rfl, m, _, rfl, .inl (SqL.of em), p, _, c + 4, rfl, hp7, by omega, by omega, by omega, fun lf H8 l0 l1 hp8 b8 => ?_⟩
  have em8 := (b8 m pm).trans em
  refine ⟨_, rfl, _, rfl, m, _, rfl, .inl (SqL.of em8), p, _, c + 5, rfl, hp8, by omega, by omega, by omega, fun rt H9 r0 r1 hp9 b9 => ?_⟩
  have em9 := (b9 m pm).trans em8
  have k9 : Off (fun a => a = p) H H9 := (k4.trans (k47.mono fun _ z => z.elim)).trans (b8.off.trans b9.off)
  refine ⟨_, _, rfl, ?_⟩
  have ltl : lf.toNat < ps.length := by omega
  have ltr : rt.toNat < ps.length := by omega
  have at' : ∀ {xs : List V} {k : Int} {v : V}, 0 ≤ k → xs[k.toNat]? = some v → atI xs k = some v := fun {xs k v} h0 h => by
    have := atI_nat (xs := xs) (j := k.toNat) (v := v) h
    rwa [Int.toNat_of_nonneg h0] at this
  have al : atI (ps.map V.str) lf = some (.str ps[lf.toNat]) := at' l0 (by rw [List.getElem?_map, List.getElem?_eq_getElem ltl]; rfl)
  have ar : atI (ps.map V.str) rt = some (.str ps[rt.toNat]) := at' r0 (by rw [List.getElem?_map, List.getElem?_eq_getElem ltr]; rfl)
  have ixl : ∀ n : Nat, n = ps.length → ixN n lf = some lf.toNat := fun n e => by
    unfold ixN
    rw [if_pos l0, if_pos (by omega)]
  have ixr : ∀ n : Nat, n = ps.length → ixN n rt = some rt.toNat := fun n e => by
    unfold ixN
    rw [if_pos r0, if_pos (by omega)]
  refine ⟨_, rfl, _, rfl, m, _, lf, _, rfl, rfl, SqL.of em9, al, ?_⟩
  refine ⟨_, rfl, _, rfl, m, _, rt, _, rfl, rfl, SqL.of em9, ar, ?_⟩
  refine ⟨_, rfl, _, rfl, m, _, lf, _, rfl, rfl, em9, ixl _ lmp, ?_⟩
  have e10 := upd_same (H := H9) (a := m) (o := .lst ((ps.map V.str).set lf.toNat (.str ps[rt.toNat])))
  have b10 : Off (fun a => a = m) H9 (upd H9 m (.lst ((ps.map V.str).set lf.toNat (.str ps[rt.toNat])))) := Off.upd rfl
  generalize upd H9 m (.lst ((ps.map V.str).set lf.toNat (.str ps[rt.toNat]))) = HA at e10 b10 ⊢
  refine ⟨_, rfl, _, rfl, _, rfl, m, _, rt, _, rfl, rfl, e10, ixr _ (by rw [List.length_set]; exact lmp), ?_⟩
  obtain ⟨qs, eq, pq⟩ : ∃ qs : List Str, ((ps.map V.str).set lf.toNat (V.str ps[rt.toNat])).set rt.toNat (V.str ps[lf.toNat]) = qs.map V.str ∧ qs.Perm ps :=
    ⟨(ps.set lf.toNat ps[rt.toNat]).set rt.toNat ps[lf.toNat], by rw [List.map_set, List.map_set], List.set_set_perm ltl ltr⟩
  rw [eq]
  have b11 : Off (fun a => a = m) HA (upd HA m (.lst (qs.map V.str))) := Off.upd rfl
  have e11 := upd_same (H := HA) (a := m) (o := .lst (qs.map V.str))
  generalize upd HA m (.lst (qs.map V.str)) = HB at b11 e11 ⊢
  have lq := pq.length_eq
  have sq : (qs.map (·.length)).sum = (ps.map (·.length)).sum := (pq.map _).sum_nat
  have gq : ∀ y ∈ qs, Gd 700 y := fun y hy => gps y (pq.mem_iff.mp hy)
  have jl := join_upper (sep := b) (ys := qs) (by omega)
  rw [sq, lq] at jl
  refine ⟨_, rfl, ⟨_, rfl⟩, _, rfl, _, m, qs, rfl, rfl, .inl (SqL.of e11), Nat.le_trans (by rw [sq, lq]; exact sps) (by have := gb.2; omega), ?_⟩
  refine q _ HB (c + 6) ⟨(gd_join gb gq).1, by omega⟩ ?_ (by omega) ?_
  · have := hp9.off b10 (fun z => pm z.symm)
    exact this.off b11 (fun z => pm z.symm)
  · have nm' : H m = none := by
      have a1 : H6 m = none := nm
      cases e : H m with
      | none => rfl
      | some o => 
        have := (k4.trans ((j5.trans j6).mono fun _ z => z.elim)) m o e pm
        rw [a1] at this
        cases this
    intro a o ea na
    have ne : a ≠ m := fun z => by rw [z, nm'] at ea; cases ea
    exact b11 a o (b10 a o (k9 a o ea na) ne) ne
end
end LW
set_option Elab.async false
set_option linter.all false
set_option maxRecDepth 100000
set_option maxHeartbeats 0
/-! k54: _law_right -/
namespace LW
open PySem PySem.Spec PyProof.Rows L2 KV
theorem formed_of (r : Rul) : formed (rbOf r) = true := by
  obtain ⟨t, cs, o⟩ := r
  cases o with
  | none => exact formed_mk (.inl ⟨rfl, rfl⟩)
  | some c => exact formed_mk (.inr ⟨rfl, rfl⟩)
theorem tabW_gd {mc : Nat} {t : Tab} (h : TabB 8 mc t) : ∀ y ∈ tabW t, Gd 8 y := fun y hy => by
  unfold tabW at hy
  rcases List.mem_cons.mp hy with rfl | hy
  · exact gd_str _ (by decide +kernel)
  rcases List.mem_cons.mp hy with rfl | hy
  · exact h.name
  · exact h.good y hy
theorem ruleW_gd {M : Nat} {r : RB} (h : RbOk 8 M r) (f : formed r = true) : ∀ y ∈ ruleW r, Gd 8 y := by
  obtain ⟨k, x, cs, tl, rfl, _⟩ := formed_ok f
  obtain ⟨a, b, c, d⟩ := h.cs cs tl rfl
  have hg := h.hg
  intro y hy
  rw [ruleW_eq] at hy
  have hd : ∀ y ∈ k :: x :: cs, Gd 8 y := fun y hy => by
    rcases List.mem_cons.mp hy with rfl | hy
    · exact hg _ (by simp)
    rcases List.mem_cons.mp hy with rfl | hy
    · exact hg _ (by simp)
    · exact b y hy
  split at hy
  · rcases List.mem_append.mp hy with hy | hy
    · exact hd y hy
    rcases List.mem_cons.mp hy with rfl | hy
    · exact gd_str _ (by decide +kernel)
    · exact d y hy
  · exact hd y hy
theorem bookT_gd {ts : List Tab} {rs : List RB} (tb : TabsW 8 4 3 ts) (ro : ∀ r ∈ rs, RbOk 8 4 r) (fm : ∀ r ∈ rs, formed r = true) (lr : rs.length ≤ 5) : Gd 700 (bookT ts rs) := by
  have g1 := gd_str (n := 1) " " (by decide +kernel)
  have g2 := gd_str (n := 2) "; " (by decide +kernel)
  have each : ∀ y ∈ ts.map tabT ++ rs.map ruleT, Gd 81 y := fun y hy => by
    rcases List.mem_append.mp hy with hy | hy
    · obtain ⟨t, ht, rfl⟩ := List.mem_map.mp hy
      have bt := tb.each t ht
      have lc := bt.most
      refine (gd_join g1 (tabW_gd bt)).mono ?_
      unfold tabW
      simp only [List.length_cons]
      omega
    · obtain ⟨r, hr, rfl⟩ := List.mem_map.mp hy
      have z := (ruleW_le (ro r hr) (fm r hr) (Nat.le_refl 8)).2
      refine (gd_join g1 (ruleW_gd (ro r hr) (fm r hr))).mono ?_
      omega
  refine (gd_join g2 each).mono ?_
  rw [List.length_append, List.length_map, List.length_map]
  have := tb.most
  omega
def spRight : Sp := fun vs H Q _ => ∃ (p : Addr) (c : Nat), vs = [.ref p] ∧ Pu H p c ∧ c + 6000 ≤ 1000000000 ∧ ∀ H' c', Pu H' p c' → c' ≤ c + 4000 → Off (fun a => a = p) H H' → Q (.bl true) H'
section
variable {P : Program} {w : World} {K : PySem.W.Frag} {mg : Str → Option Value} {base : Heap}
theorem scRight : FnScope ["purse", "tables_here", "rules_here", "turn", "bent", "owed"] ["purse"] (defScope sRight) := ⟨rfl, rfl, rfl, by decide +kernel, rfl, by decide +kernel, by decide +kernel⟩
theorem ok_right {f fC fT fR fM fB fI fG : Addr} {fd dC dT dR dM dB dI dG : FuncData} (F : FnP K "_law_right" sRight f fd) (C : Dn P w K mg base 1 "_law_coin" ["purse", "many"] spCoin fC dC)
    (T : Dn P w K mg base 3 "_law_drawn_tables" ["purse", "most_tables", "most_columns"] spDrawnTables fT dT) (R : Dn P w K mg base 2 "_law_drawn_rules" ["purse", "tables_here", "most"] (spDrawnRules K) fR dR)
    (M : Dn P w K mg base 3 "_law_marred_book" ["purse", "wording"] spMarred fM dM) (B : Dn P w K mg base 2 "_law_book_text" ["tables_here", "rules_here"] (spTextB K) fB dB)
    (I : Dn P w K mg base 2 "_law_is_book" ["wording"] spIsB fI dI) (G : Dn P w K mg base 11 "_law_caught_book" ["wording", "way"] spCaughtB fG dG) (mr : mg "range" = none) (ml : mg "len" = none) : FnOk P w K mg base CX0 12 f fd ["purse"] spRight := by
  refine F.ok scRight (fun vs H Q E h => ?_) (fun cdv A outer s H vs Q E hr h => ?_)
  · obtain ⟨p, c, rfl, _⟩ := h
    rfl
  obtain ⟨p, c, rfl, hp, hc, q⟩ := h
  have hu : (A.deeper (envOfC "_law_right" (defScope sRight) s.heap.objs.size f cdv)).units + 64 < cLine := hr.units
  refine ⟨_, PSs.nox (pss_cons (ps_set (i := 1) scRight.nd rfl (Or.inl rfl) (pe_call T.g (hr.mono (by decide)) rfl T.m T.kp T.b .nil pass0 (pa_cons (pv 0) (pa_cons pe_int (pa_cons pe_int pa_nil)))))
    (pss_cons (ps_set (i := 2) scRight.nd rfl (Or.inl rfl) (pe_call R.g (hr.mono (by decide)) rfl R.m R.kp R.b .nil pass0 (pa_cons (pv 0) (pa_cons (pv 1) (pa_cons pe_int pa_nil)))))
    (pss_cons (ps_for PassesOwn.never rfl (pi_range1 rfl mr (pa_cons pe_int pa_nil)) (pg_name (i := 3) scRight.nd rfl (Or.inl rfl))
      (pss_cons (ps_set (i := 4) scRight.nd rfl (Or.inl rfl) (pe_call M.g (hr.mono (by decide)) rfl M.m M.kp M.b .nil pass0 (pa_cons (pv 0) (pa_cons (pe_call B.g (hr.mono (by decide)) rfl B.m B.kp B.b .nil pass0 (pa_cons (pv 1) (pa_cons (pv 2) pa_nil))) pa_nil))))
      (pss_cons (ps_set (i := 5) scRight.nd rfl (Or.inl rfl) (pe_ifExp (pt_val (pe_call I.g (hr.mono (by decide)) rfl I.m I.kp I.b .nil pass0 (pa_cons (pv 4) pa_nil))) (pe_lst (pa_cons (pv 4) pa_nil)) (pe_lst pa_nil)))
      (pss_one (ps_if (PW.pt (pw_and (pt_cmpR op_le (pe_callB call_len_str rfl ml boot_len (pa_cons (pv 4) pa_nil)) pe_int (nomark _)) (pw_and1 (pt_cmpR (op_neD hu) (pe_call G.g hr rfl G.m G.kp G.b .nil pass0 (pa_cons (pv 4) (pa_cons (pe_call C.g (hr.mono (by decide)) rfl C.m C.kp C.b .nil pass0 (pa_cons (pv 0) (pa_cons pe_int pa_nil))) pa_nil))) (pv 5) (nomark _))))) (pss_one (ps_ret pe_bl)) pss_nil)))))
    (pss_one (ps_ret pe_bl))))), ?_⟩
  have no : ¬ False := id
  have n1 : (2000 : Nat) ≤ sizeLine := by decide
  refine ⟨_, rfl, p, 3, 4, c, rfl, by decide, by decide, by decide, by decide, hp, by omega, fun ts D F1 H1 c1 tk o1 f1 hp1 hc1 k1 => ?_⟩
  refine ⟨_, rfl, _, rfl, p, .ref D, ts, 3, 4, 5, c1, rfl, o1.dp, tk, by decide, by decide, by decide, hp1, by omega, fun qs D2 F2 H2 c2 lq gq o2 f2 hp2 hc2 k2 => ?_⟩
  have pF : ∀ a, F1 a → ¬ a = p := fun a z y => by
    obtain ⟨xs, ep⟩ := hp.lst
    have := f1 a z
    rw [y, ep] at this
    cases this
  have pF2 : ∀ a, F2 a → ¬ a = p := fun a z y => by
    obtain ⟨xs, ep⟩ := hp1.lst
    have := f2 a z
    rw [y, ep] at this
    cases this
  have lp : ∀ {G : Hp} {c' : Nat}, Pu G p c' → ∀ a, a = p → ∃ xs, G a = some (.lst xs) := fun h a z => z ▸ h.lst
  have o1' := o1.keep k2 (lp hp1) pF
  have hro : ∀ r ∈ qs.map rbOf, RbOk 8 4 r := fun r hr => by
    obtain ⟨q0, hq, rfl⟩ := List.mem_map.mp hr
    exact rbOk_of (gq q0 hq) tk (by decide) (by decide)
  have hfm : ∀ r ∈ qs.map rbOf, formed r = true := fun r hr => by
    obtain ⟨q0, hq, rfl⟩ := List.mem_map.mp hr
    exact formed_of q0
  have lrs : (qs.map rbOf).length ≤ 5 := by rw [List.length_map]; exact lq
  rw [rbsD_of] at o2
  generalize qs.map rbOf = rs at o2 hro hfm lrs
  have tb : TabsW 8 4 3 ts := tk.b.w
  have gb := bookT_gd tb hro hfm lrs
  have kH := k1.trans k2
  refine ⟨6, rfl, by decide, by decide, for_range (lo := 0) (n := 6) (fun i σ G => (∃ w3 w4 w5, σ = [some (.ref p), some (.ref D), some (.ref D2), w3, w4, w5]) ∧ (∃ c', Pu G p c' ∧ c' ≤ c2 + i * 9) ∧ Off (fun a => a = p) H2 G) ⟨⟨_, _, _, rfl⟩, ⟨c2, hp2, by omega⟩, Off.refl _ _⟩ (fun i σ G hi g => ?_) fun σ G g => ?_⟩
  rotate_left
  · obtain ⟨_, ⟨c', hp', hc'⟩, k⟩ := g
    exact q G c' hp' (by omega) (kH.trans k)
  obtain ⟨⟨w3, w4, w5, rfl⟩, ⟨c', hp', hc'⟩, k⟩ := g
  have o1g := o1'.keep k (lp hp2) pF
  have o2g := o2.keep k (lp hp2) pF2
  refine ⟨_, rfl, _, rfl, _, rfl, .ref D, .ref D2, ts, rs, rfl, ⟨_, o1g⟩, ⟨_, o2g⟩, ⟨by have := tb.most; omega, fun t ht => (tb.each t ht).mono (Nat.le_refl _) (by decide)⟩, fun r hr => ?_, hfm, by omega, fun G1 kG1 => ?_⟩
  · exact (hro r hr).mono (Nat.le_refl _) (by decide)
  have hp1' := hp'.off kG1 no
  refine ⟨p, c', _, rfl, gb, hp1', by omega, fun y G2 cc gy hpy hcc kG2 => ?_⟩
  have gy3 : Gd 3000 y := gy.mono (by decide)
  refine ⟨_, rfl, y, rfl, gy3, fun G3 kG3 => ⟨_, rfl, ?_⟩⟩
  refine ite2 (fun hb => ⟨_, rfl, by show 1 ≤ sizeLine; decide, fun l nl => ?_⟩) (fun hb => ⟨by show 0 ≤ sizeLine; decide, fun l nl => ?_⟩)
  all_goals
    first
    | (obtain ⟨G4, eG, el⟩ : ∃ G4, G4 = upd G3 l (.lst [V.str y]) ∧ G4 l = some (.lst ((owedL y).map V.str)) := ⟨_, rfl, by rw [upd_same, show owedL y = [y] from if_pos hb]; rfl⟩
       have k4 : Off (fun _ => False) G3 G4 := by rw [eG]; exact Off.new nl
       dsimp only [gName]
       rw [← eG])
    | (obtain ⟨G4, eG, el⟩ : ∃ G4, G4 = upd G3 l (.lst []) ∧ G4 l = some (.lst ((owedL y).map V.str)) := ⟨_, rfl, by rw [upd_same, show owedL y = [] from if_neg hb]; rfl⟩
       have k4 : Off (fun _ => False) G3 G4 := by rw [eG]; exact Off.new nl
       dsimp only [gName]
       rw [← eG])
    have go4 : ∀ z ∈ owedL y, Gd 1701 z := fun z hz => by
      by_cases e : isBookL (piecesOf y) [] false = true
      · rw [show owedL y = [y] from if_pos e] at hz
        rw [List.mem_singleton.mp hz]
        exact gy
      · rw [show owedL y = [] from if_neg e] at hz
        exact absurd hz (by simp)
    have hp4 := (hpy.off kG3 no).off k4 no
    have kk := (((k.trans (kG1.mono fun _ z => z.elim)).trans kG2).trans (kG3.mono fun _ z => z.elim)).trans (k4.mono fun _ z => z.elim)
    refine ⟨_, rfl, y, rfl, by have := gy.2; omega, _, _, rfl, rfl, _, rfl, ite2 (fun _ => ?_) (fun c => (c (decide_eq_true (by have := gy.2; omega))).elim)⟩
    refine ⟨_, rfl, _, rfl, p, 2, cc, rfl, hp4, by omega, by decide, by decide, fun n G5 n0 n2 hp5 b5 => ⟨y, n, rfl, gy3, fun D5 G6 e6 k6 => ⟨_, rfl, ?_⟩⟩⟩
    have lp4 : l ≠ p := fun z => by
      obtain ⟨xs, ep⟩ := (hpy.off kG3 no).lst
      rw [← z, nl] at ep
      cases ep
    have el6 := k6 _ _ ((b5 l lp4).trans el) no
    have sh : SeqAt.shaped (.list ((owedL y).map PyData.str)) = true := shaped_strs fun z hz => (go4 z hz).1
    refine ⟨.list ((owedL y).map PyData.str), .list ((owedL y).map PyData.str), .lst (SqL.of e6) (dp_strs _), .lst (SqL.of el6) (dp_strs _), sh, sh, _, rfl, ?_⟩
    rw [SeqAt.eqv_refl _ (SeqAt.canLay_of_shaped sh)]
    refine iteF ⟨⟨_, _, _, rfl⟩, ⟨cc + 1, hp5.off k6 no, by rw [Nat.add_mul]; omega⟩, (kk.trans b5.off).trans (k6.mono fun _ z => z.elim)⟩
end
end LW
set_option Elab.async false
set_option linter.all false
set_option maxRecDepth 100000
set_option maxHeartbeats 0
/-! k54: law -/
namespace LW
open PySem PySem.Spec PyProof.Rows L2 KV
def spLaw (K : PySem.W.Frag) : Sp := fun vs H Q _ => ∃ (a : Addr) (ns : List Int), vs = [.ref a] ∧ SqL K H a (ns.map V.int) ∧ ∀ H', Q (.bl true) H'
section
variable {P : Program} {w : World} {K : PySem.W.Frag} {mg : Str → Option Value} {base : Heap}
theorem scLaw : FnScope ["script", "spot", "purse", "turn"] ["script"] (defScope sLaw) := ⟨rfl, rfl, rfl, by decide +kernel, rfl, by decide +kernel, by decide +kernel⟩
theorem ok_law {f fP fR : Addr} {fd dP dR : FuncData} (F : FnP K "law" sLaw f fd) (GP : Dn P w K mg base 1 "_law_purse" ["script", "place"] (spPurse K) fP dP) (GR : Dn P w K mg base 12 "_law_right" ["purse"] spRight fR dR)
    (mr : mg "range" = none) (mM : mg "max" = none) (mm : mg "min" = none) (ml : mg "len" = none) : FnC P w K mg base CX0 13 f fd ["script"] (spLaw K) := by
  refine Fun.okC F scLaw (fun vs H Q E h => ?_) (fun cdv A outer s H vs Q E hG hr h => ?_)
  · obtain ⟨a, ns, rfl, _⟩ := h
    rfl
  obtain ⟨a, ns, rfl, hS, q⟩ := h
  have hr1 : Room 1 _ := hr.mono (by decide)
  refine ⟨_, PSs.nox (pss_cons (ps_for PassesOwn.never rfl (pi_range1 rfl mr (pa_cons (pe_callB (call_max2 rfl) rfl mM boot_max (pa_cons pe_int (pa_cons (pe_callB (call_min2 rfl) rfl mm (by decide +kernel) (pa_cons pe_int (pa_cons (pe_callB call_len_seq rfl ml boot_len (pa_cons (pv 0) pa_nil)) pa_nil))) pa_nil))) pa_nil))
      (pg_name (i := 1) scLaw.nd rfl (Or.inl rfl))
      (pss_cons (ps_set (i := 2) scLaw.nd rfl (Or.inl rfl) (pe_call GP.g hr1 rfl GP.m GP.kp GP.b .nil pass0 (pa_cons (pv 0) (pa_cons (pv 1) pa_nil))))
      (pss_one (ps_for PassesOwn.never rfl (pi_range1 rfl mr (pa_cons pe_int pa_nil)) (pg_name (i := 3) scLaw.nd rfl (Or.inl rfl))
        (pss_one (ps_if (pt_not (pt_val (pe_call GR.g hr rfl GR.m GR.kp GR.b .nil pass0 (pa_cons (pv 2) pa_nil)))) (pss_one (ps_ret pe_bl)) pss_nil))))))
    (pss_one (ps_ret pe_bl))), ?_⟩
  have no : ¬ False := fun z => z
  have hl : (ns.map V.int).length = ns.length := List.length_map _
  have hb : ∀ L : Nat, (-(2 ^ 62) ≤ (if (if (L : Int) < 6 then (L : Int) else 6) > 1 then (if (L : Int) < 6 then (L : Int) else 6) else 1)) ∧ (if (if (L : Int) < 6 then (L : Int) else 6) > 1 then (if (L : Int) < 6 then (L : Int) else 6) else 1) ≤ 6 := by
    intro L
    split <;> split <;> omega
  obtain ⟨h1, h2⟩ := hb (ns.map V.int).length
  refine ⟨_, rfl, a, _, rfl, .inl hS, _, _, rfl, _, _, rfl, _, rfl, h1, by omega, for_range (lo := 0) (fun i σ H' => (∃ x y z, σ = [some (.ref a), x, y, z]) ∧ Off (fun _ => False) H H') ⟨⟨_, _, _, rfl⟩, Off.refl _ _⟩ (fun i σ H' hi g => ?_) fun σ H' g => ?_⟩
  · obtain ⟨⟨x, y, z, rfl⟩, k⟩ := g
    refine ⟨_, rfl, _, rfl, a, ns, 0 + (i : Int), rfl, sqL_off k hS, by omega, by omega, fun p np H1 hp1 k1 => ?_⟩
    have k01 : Off (fun _ => False) H H1 := fun b o e n => by
      have e' := k b o e n
      rw [k1 b (ne_of_none e' np)]
      exact e'
    have np0 : H p = none := k.none np no
    refine ⟨2, rfl, by decide, by decide, for_range (lo := 0) (n := 2) (fun t σ H2 => (∃ y w, σ = [some (.ref a), y, some (.ref p), w]) ∧ (∃ c, Pu H2 p c ∧ c ≤ t * 4000) ∧ Off (fun _ => False) H H2) ⟨⟨_, _, rfl⟩, ⟨0, hp1, by omega⟩, k01⟩ (fun t σ H2 ht g => ?_) fun σ H2 g => ?_⟩
    · obtain ⟨⟨y, w', rfl⟩, ⟨c, hp2, hc⟩, k2⟩ := g
      refine ⟨_, rfl, p, c, rfl, hp2, by omega, fun H3 c3 hp3 hc3 k3 => ⟨_, rfl, iteF ⟨⟨_, _, rfl⟩, ⟨c3, hp3, ?_⟩, ?_⟩⟩⟩
      · rw [Nat.add_mul]
        omega
      · intro b o e n
        exact k3 _ _ (k2 _ _ e n) fun y => by
          rw [y, np0] at e
          cases e
    · obtain ⟨⟨y, w', rfl⟩, _, k2⟩ := g
      exact ⟨⟨_, _, _, rfl⟩, k2⟩
  · exact q H'
end
end LW
set_option Elab.async false
set_option linter.all false
set_option maxRecDepth 100000
set_option maxHeartbeats 0
/-! the head -/
namespace LW
open PySem PySem.Spec PyProof.Rows L2 KV
def dD (x : Str) (st : Stmt) : Df := { at_ := fun K => He.ga K x, name := x, qual := x, params := defArgs st, body := defBody st, scope := defScope st }
def dM (C m q : Str) (st : Stmt) : Df := { at_ := fun K => He.ma K (He.ga K C) m, name := m, qual := q, params := defArgs st, body := defBody st, scope := defScope st }
def dG (C m q : Str) (st : Stmt) : Df := { at_ := fun K => pgB K (He.ga K C) m, name := m, qual := q, params := defArgs st, body := defBody st, scope := defScope st }
def fn : List Df := [dM "KeyTellError" "__init__" "KeyTellError.__init__" pKeyTellError_init, dM "Book" "__init__" "Book.__init__" pBook_init, dM "Book" "__getitem__" "Book.__getitem__" pBook_getitem, dG "Book" "tables" "Book.tables" pBook_tables, dG "Book" "rules" "Book.rules" pBook_rules, dD "check_tables" pCheckTables, dD "check_columns" pCheckColumns, dD "check_name" pCheckName, dD "check_rule" pCheckRule, dD "is_name" pIsName, dD "has_form" pHasForm, dD "copied" pCopied, dD "read_book" pReadBook, dD "tables_and_rules" pTablesAndRules, dD "rule_of" pRuleOf, dD "show_book" pShowBook, dD "rule_text" pRuleText, dD "_law_purse" sPurse, dD "_law_coin" sCoin, dD "_law_words" sWords, dD "_law_drawn_tables" sDrawnTables, dD "_law_drawn_rules" sDrawnRules, dD "_law_rule_text" sRuleText, dD "_law_book_text" sBookText, dD "_law_is_title" sIsTitle, dD "_law_is_rule" sIsRule, dD "_law_is_book" sIsBook, dD "_law_caught_book" sCaughtBook, dD "_law_odd_book" sOddBook, dD "_law_marred_book" sMarredBook, dD "_law_right" sRight, dD "law" sLaw]
def fnN0 : List Str := ["check_tables", "check_columns", "check_name", "check_rule", "is_name", "has_form", "copied", "read_book", "tables_and_rules", "rule_of", "show_book", "rule_text", "_law_purse", "_law_coin", "_law_words", "_law_drawn_tables", "_law_drawn_rules", "_law_rule_text", "_law_book_text", "_law_is_title", "_law_is_rule", "_law_is_book", "_law_caught_book", "_law_odd_book", "_law_marred_book", "_law_right", "law"]
def fnNames : List Str := fnN0
def bltNames : List Str := ["len", "max", "min", "abs", "int", "isinstance", "list", "tuple", "range", "repr", "all", "bool", "set", "str"]
def own : List He.Fa := [.cls "Book", .noat "Book" "_tables", .noat "Book" "_rules", .mkr "Book", .int "LONGEST_NAME" 8]
def fa : List He.Fa := names.map He.Fa.glo ++ (fnNames.map He.Fa.glo ++ (bltNames.map He.Fa.free ++ (names.tail.map (fun y => He.Fa.exm y "KeyTellError" true) ++ ((["Book", "RULE_FORMS"] : List Str).map He.Fa.glo ++ own))))
def isCB (K : PySem.W.Frag) (C : Addr) : Bool := He.eqO (PySem.W.findIn K (.ref C) "__class__") (some (some (.builtin "object.__class__"))) && (He.eqO (PySem.W.specialIn K (.builtin "object.__class__") "__get__") (some (some (.builtin "getset_descriptor.__get__"))) &&
  (decide (PySem.W.takesIn K (.builtin "object.__class__") = some true) && (decide (PySem.W.mroIn K C (.type "object") = some true) && decide (PySem.W.kitOne K (.ref C) (.ref C) = some true))))
theorem isCB_ok {K : PySem.W.Frag} {C : Addr} (c : L2.Cls K C) (h : isCB K C = true) : C8.InsC K C := by
  obtain ⟨h1, h⟩ := He.ba h
  obtain ⟨h2, h⟩ := He.ba h
  obtain ⟨h3, h⟩ := He.ba h
  obtain ⟨h4, h5⟩ := He.ba h
  exact ⟨c, He.eqO_ok h1, He.eqO_ok h2, of_decide_eq_true h3, of_decide_eq_true h4, of_decide_eq_true h5⟩
def neB (K : PySem.W.Frag) (C : Addr) : Bool := He.eqO (PySem.W.findIn K (.ref C) "__ne__") (some (some (.builtin "object.__ne__"))) && decide (PySem.W.mroIn K C (.type "object") = some true)
theorem neB_ok {K : PySem.W.Frag} {C : Addr} (h : neB K C = true) : PySem.W.findIn K (.ref C) "__ne__" = some (some (.builtin "object.__ne__")) ∧ PySem.W.mroIn K C (.type "object") = some true := by
  obtain ⟨h1, h2⟩ := He.ba h
  exact ⟨He.eqO_ok h1, of_decide_eq_true h2⟩
def ex (K : PySem.W.Frag) : Bool := errsB K "value" "KeyTellError" names && (itemB K (He.ga K "Book") && (propB K (He.ga K "Book") "tables" && (propB K (He.ga K "Book") "rules" && (isCB K (He.ga K "Book") && (pairsB K (He.ga K "RULE_FORMS") "key" "settles" 3 4)))))
abbrev R : PySem.W.OpenRow := PySem.W.OpenLaw.row PySem.Challenge.rw_keysthrough_k54_books_that_are_none
abbrev hk : PySem.W.Hook := hookB 5 fa fn ex
def ob (s : PySem.W.SharedT) : He.AlD := obsBG 5 fa fn ex (HandSHeadRun.getT s)
theorem ob_eq (s : PySem.W.SharedT) : ob s = hk.obs s.abs := obsBG_eq (HandSHeadRun.getT_eq s)
def looseA : List Str := ["_wall", "Book", "RULE_FORMS", "LONGEST_NAME"]
def looseB0 : List Str := ["check_tables", "check_columns", "check_name", "check_rule", "is_name", "has_form", "copied", "read_book", "tables_and_rules", "rule_of", "show_book", "rule_text", "_law_purse", "_law_coin", "_law_words", "_law_drawn_tables", "_law_drawn_rules", "_law_rule_text", "_law_book_text", "_law_is_title", "_law_is_rule", "_law_is_book", "_law_caught_book", "_law_odd_book", "_law_marred_book", "_law_right"]
def loose : List Str := names ++ (looseA ++ (looseB0))
theorem run (w : World) : HandSHeadRun.RunEq R (PySem.W.view R.prog [42]) hk ob 20000 loose w := by
  intro os
  kernel_rfl
end LW
set_option Elab.async false
set_option linter.all false
set_option maxRecDepth 100000
set_option maxHeartbeats 0
/-! the end -/
namespace LW
open PySem PySem.Spec PyProof.Rows L2 KV
section
variable {P : Program} {w : World} {K : PySem.W.Frag} {h : Heap} {mg : Str → Option Value}
theorem facts {f : Addr} (X : K.In h) (G : h.Ns mainGlobals mg) (hfa : mg ("law" : Str) = some (.ref f)) (c : SaysB fa fn ex K) :
    ∃ fd : FuncData, (∀ (s : Shared) (v : Value), BindsTo s fd ⟨[v], []⟩ [("script", v)]) ∧ ∀ base : Heap, K.In base → base.Ns mainGlobals mg → FnC P w K mg base CX0 13 f fd ["script"] (spLaw K) := by
  obtain ⟨_, _, cx⟩ := c.parts
  obtain ⟨cE, cx⟩ := He.ba cx
  obtain ⟨cI, cx⟩ := He.ba cx
  obtain ⟨cT, cx⟩ := He.ba cx
  obtain ⟨cR, cx⟩ := He.ba cx
  obtain ⟨cC, cx⟩ := He.ba cx
  have cF := cx
  have es := errsB_ok cE
  have gl : ∀ x ∈ names, mg x = some (.ref (He.ga K x)) := fun x hx => He.glo_ok X G (c.facts (List.mem_append_left _ (List.mem_map_of_mem hx)))
  have gf : ∀ x ∈ fnNames, mg x = some (.ref (He.ga K x)) := fun x hx => He.glo_ok X G (c.facts (List.mem_append_right _ (List.mem_append_left _ (List.mem_map_of_mem hx))))
  have gb : ∀ x ∈ bltNames, mg x = none := fun x hx => He.free_ok X G (c.facts (List.mem_append_right _ (List.mem_append_right _ (List.mem_append_left _ (List.mem_map_of_mem hx)))))
  have gx : ∀ y ∈ names.tail, PySem.W.exmOne K (.ref (He.ga K y)) (.ref (He.ga K "KeyTellError")) = some true := fun y hy =>
    He.exm_ok (c.facts (List.mem_append_right _ (List.mem_append_right _ (List.mem_append_right _ (List.mem_append_left _ (List.mem_map_of_mem (f := fun y => He.Fa.exm y "KeyTellError" true) hy))))))
  have gg : ∀ x ∈ (["Book", "RULE_FORMS"] : List Str), mg x = some (.ref (He.ga K x)) := fun x hx =>
    He.glo_ok X G (c.facts (List.mem_append_right _ (List.mem_append_right _ (List.mem_append_right _ (List.mem_append_right _ (List.mem_append_left _ (List.mem_map_of_mem hx)))))))
  have go : ∀ q ∈ own, q.ok K = true := fun q hq => c.facts (List.mem_append_right _ (List.mem_append_right _ (List.mem_append_right _ (List.mem_append_right _ (List.mem_append_right _ hq)))))
  have B : BookT K mg := ⟨He.cls_ok (go (.cls "Book") (by simp [own])), He.noat_ok (go (.noat "Book" "_tables") (by simp [own])), He.noat_ok (go (.noat "Book" "_rules") (by simp [own])), He.mkr_ok (go (.mkr "Book") (by simp [own])), gg "Book" (by decide), itemB_ok cI⟩
  have IC : C8.InsC K (He.ga K "Book") := isCB_ok B.cl cC
  obtain ⟨t8, m8⟩ := He.int_ok X G (go (.int "LONGEST_NAME" 8) (by simp [own]))
  obtain ⟨dI, FI⟩ := c.def_ 0 (d := dM "KeyTellError" "__init__" "KeyTellError.__init__" pKeyTellError_init) rfl
  obtain ⟨dB, FB⟩ := c.def_ 1 (d := dM "Book" "__init__" "Book.__init__" pBook_init) rfl
  obtain ⟨dIt, FIt⟩ := c.def_ 2 (d := dM "Book" "__getitem__" "Book.__getitem__" pBook_getitem) rfl
  obtain ⟨dGT, FGT⟩ := c.def_ 3 (d := dG "Book" "tables" "Book.tables" pBook_tables) rfl
  obtain ⟨dGR, FGR⟩ := c.def_ 4 (d := dG "Book" "rules" "Book.rules" pBook_rules) rfl
  obtain ⟨dCT, FCT⟩ := c.def_ 5 (d := dD "check_tables" pCheckTables) rfl
  obtain ⟨dCC, FCC⟩ := c.def_ 6 (d := dD "check_columns" pCheckColumns) rfl
  obtain ⟨dCN, FCN⟩ := c.def_ 7 (d := dD "check_name" pCheckName) rfl
  obtain ⟨dCR, FCR⟩ := c.def_ 8 (d := dD "check_rule" pCheckRule) rfl
  obtain ⟨dIN, FIN⟩ := c.def_ 9 (d := dD "is_name" pIsName) rfl
  obtain ⟨dHF, FHF⟩ := c.def_ 10 (d := dD "has_form" pHasForm) rfl
  obtain ⟨dCp, FCp⟩ := c.def_ 11 (d := dD "copied" pCopied) rfl
  obtain ⟨dRd, FRd⟩ := c.def_ 12 (d := dD "read_book" pReadBook) rfl
  obtain ⟨dTR, FTR⟩ := c.def_ 13 (d := dD "tables_and_rules" pTablesAndRules) rfl
  obtain ⟨dRO, FRO⟩ := c.def_ 14 (d := dD "rule_of" pRuleOf) rfl
  obtain ⟨dSh, FSh⟩ := c.def_ 15 (d := dD "show_book" pShowBook) rfl
  obtain ⟨dRT, FRT⟩ := c.def_ 16 (d := dD "rule_text" pRuleText) rfl
  obtain ⟨dPu, FPu⟩ := c.def_ 17 (d := dD "_law_purse" sPurse) rfl
  obtain ⟨dCo, FCo⟩ := c.def_ 18 (d := dD "_law_coin" sCoin) rfl
  obtain ⟨dWo, FWo⟩ := c.def_ 19 (d := dD "_law_words" sWords) rfl
  obtain ⟨dDT, FDT⟩ := c.def_ 20 (d := dD "_law_drawn_tables" sDrawnTables) rfl
  obtain ⟨dDR, FDR⟩ := c.def_ 21 (d := dD "_law_drawn_rules" sDrawnRules) rfl
  obtain ⟨dXR, FXR⟩ := c.def_ 22 (d := dD "_law_rule_text" sRuleText) rfl
  obtain ⟨dXB, FXB⟩ := c.def_ 23 (d := dD "_law_book_text" sBookText) rfl
  obtain ⟨dXT, FXT⟩ := c.def_ 24 (d := dD "_law_is_title" sIsTitle) rfl
  obtain ⟨dXI, FXI⟩ := c.def_ 25 (d := dD "_law_is_rule" sIsRule) rfl
  obtain ⟨dXK, FXK⟩ := c.def_ 26 (d := dD "_law_is_book" sIsBook) rfl
  obtain ⟨dXC, FXC⟩ := c.def_ 27 (d := dD "_law_caught_book" sCaughtBook) rfl
  obtain ⟨dXO, FXO⟩ := c.def_ 28 (d := dD "_law_odd_book" sOddBook) rfl
  obtain ⟨dXM, FXM⟩ := c.def_ 29 (d := dD "_law_marred_book" sMarredBook) rfl
  obtain ⟨dRi, FRi⟩ := c.def_ 30 (d := dD "_law_right" sRight) rfl
  obtain ⟨dLa, FLa⟩ := c.def_ 31 (d := dD "law" sLaw) rfl
  have e := hfa.symm.trans (gf "law" (by decide))
  cases e
  have bI : Binds K dI ["self", "value"] [] := FI.bindsN fun _ _ _ _ _ _ us hl => match us, hl with | [_, _], _ => rfl
  have bB : Binds K dB ["self", "tables", "rules"] [] := FB.bindsN fun _ _ _ _ _ _ us hl => match us, hl with | [_, _, _], _ => rfl
  have bIt : Binds K dIt ["self", "name"] [] := FIt.bindsN fun _ _ _ _ _ _ us hl => match us, hl with | [_, _], _ => rfl
  have bGT : Binds K dGT ["self"] [] := FGT.bindsN fun _ _ _ _ _ _ us hl => match us, hl with | [_], _ => rfl
  have bGR : Binds K dGR ["self"] [] := FGR.bindsN fun _ _ _ _ _ _ us hl => match us, hl with | [_], _ => rfl
  have bCT : Binds K dCT ["tables"] [] := FCT.bindsN fun _ _ _ _ _ _ us hl => match us, hl with | [_], _ => rfl
  have bCC : Binds K dCC ["columns"] [] := FCC.bindsN fun _ _ _ _ _ _ us hl => match us, hl with | [_], _ => rfl
  have bCN : Binds K dCN ["name", "before"] [] := FCN.bindsN fun _ _ _ _ _ _ us hl => match us, hl with | [_, _], _ => rfl
  have bCR : Binds K dCR ["book", "rule"] [] := FCR.bindsN fun _ _ _ _ _ _ us hl => match us, hl with | [_, _], _ => rfl
  have bIN : Binds K dIN ["text"] [] := FIN.bindsN fun _ _ _ _ _ _ us hl => match us, hl with | [_], _ => rfl
  have bHF : Binds K dHF ["thing", "forms"] [] := FHF.bindsN fun _ _ _ _ _ _ us hl => match us, hl with | [_, _], _ => rfl
  have bCp : Binds K dCp ["thing"] [] := FCp.bindsN fun _ _ _ _ _ _ us hl => match us, hl with | [_], _ => rfl
  have bRd : Binds K dRd ["text"] [] := FRd.bindsN fun _ _ _ _ _ _ us hl => match us, hl with | [_], _ => rfl
  have bTR : Binds K dTR ["text"] [] := FTR.bindsN fun _ _ _ _ _ _ us hl => match us, hl with | [_], _ => rfl
  have bRO : Binds K dRO ["words"] [] := FRO.bindsN fun _ _ _ _ _ _ us hl => match us, hl with | [_], _ => rfl
  have bSh : Binds K dSh ["book"] [] := FSh.bindsN fun _ _ _ _ _ _ us hl => match us, hl with | [_], _ => rfl
  have bRT : Binds K dRT ["rule"] [] := FRT.bindsN fun _ _ _ _ _ _ us hl => match us, hl with | [_], _ => rfl
  have bPu : Binds K dPu ["script", "place"] [] := FPu.bindsN fun _ _ _ _ _ _ us hl => match us, hl with | [_, _], _ => rfl
  have bCo : Binds K dCo ["purse", "many"] [] := FCo.bindsN fun _ _ _ _ _ _ us hl => match us, hl with | [_, _], _ => rfl
  have bWo : Binds K dWo ["purse", "many"] [] := FWo.bindsN fun _ _ _ _ _ _ us hl => match us, hl with | [_, _], _ => rfl
  have bDT : Binds K dDT ["purse", "most_tables", "most_columns"] [] := FDT.bindsN fun _ _ _ _ _ _ us hl => match us, hl with | [_, _, _], _ => rfl
  have bDR : Binds K dDR ["purse", "tables_here", "most"] [] := FDR.bindsN fun _ _ _ _ _ _ us hl => match us, hl with | [_, _, _], _ => rfl
  have bXR : Binds K dXR ["rule"] [] := FXR.bindsN fun _ _ _ _ _ _ us hl => match us, hl with | [_], _ => rfl
  have bXB : Binds K dXB ["tables_here", "rules_here"] [] := FXB.bindsN fun _ _ _ _ _ _ us hl => match us, hl with | [_, _], _ => rfl
  have bXT : Binds K dXT ["wording"] [] := FXT.bindsN fun _ _ _ _ _ _ us hl => match us, hl with | [_], _ => rfl
  have bXI : Binds K dXI ["wording", "by_titles"] [] := FXI.bindsN fun _ _ _ _ _ _ us hl => match us, hl with | [_, _], _ => rfl
  have bXK : Binds K dXK ["wording"] [] := FXK.bindsN fun _ _ _ _ _ _ us hl => match us, hl with | [_], _ => rfl
  have bXC : Binds K dXC ["wording", "way"] [] := FXC.bindsN fun _ _ _ _ _ _ us hl => match us, hl with | [_, _], _ => rfl
  have bXO : Binds K dXO ["purse", "wording"] [] := FXO.bindsN fun _ _ _ _ _ _ us hl => match us, hl with | [_, _], _ => rfl
  have bXM : Binds K dXM ["purse", "wording"] [] := FXM.bindsN fun _ _ _ _ _ _ us hl => match us, hl with | [_, _], _ => rfl
  have bRi : Binds K dRi ["purse"] [] := FRi.bindsN fun _ _ _ _ _ _ us hl => match us, hl with | [_], _ => rfl
  have bL := FunD.bindsA (ps := ["script"]) FLa fun _ _ _ _ _ _ us hl => match us, hl with | [_], _ => rfl
  have bk : ∀ (s : Shared) (a u : Value), BindsTo s dI ⟨[a], [("value", u)]⟩ [("self", a), ("value", u)] := by
    obtain ⟨oc, od, dV, kV, doc, pm, an, cdv, ct, osl, rfl, lk, hcd, hD, hK⟩ := FI.ex
    rcases hD with ⟨_, rfl⟩ | ⟨e, _⟩
    · intro s a u
      exact .of_eq (by rfl)
    · exact absurd rfl e
  have kR : KBn K dRd ["text"] 0 ["text"] (fun us ws => us ++ ws) (fun us zs => us ++ zs) := by
    obtain ⟨oc, od, dV, kV, doc, pm, an, cdv, ct, osl, rfl, lk, hcd, hD, hK⟩ := FRd.ex
    rcases hD with ⟨_, rfl⟩ | ⟨e, _⟩
    · refine ⟨fun s us ws _ h1 h2 => ?_, fun r1 r2 => r1.append r2⟩
      match us, ws, h1, h2 with
      | [], [x], _, _ => exact .of_eq (by rfl)
    · exact absurd rfl e
  refine ⟨dLa, fun s v => bL s [v] rfl, fun base _ _ => ?_⟩
  have T : ErrT P w K mg base dI := ⟨es, gl, ok_init FI, bI, bk⟩
  have mi := gb "int" (by decide)
  have mis := gb "isinstance" (by decide)
  have ml := gb "list" (by decide)
  have mt := gb "tuple" (by decide)
  have mr := gb "range" (by decide)
  have mn := gb "len" (by decide)
  have mp := gb "repr" (by decide)
  have mC := gf "_law_coin" (by decide)
  have gIN := ok_isN (P := P) (w := w) (base := base) FIN mn (gb "all" (by decide)) m8
  have gCN := ok_chkN FCN T gIN bIN (gf "is_name" (by decide)) FIN.kp
  have gCC := ok_chkC FCC gCN bCN (gf "check_name" (by decide)) FCN.kp
  have gCT := ok_chkT FCT gCN bCN (gf "check_name" (by decide)) FCN.kp gCC bCC (gf "check_columns" (by decide)) FCC.kp
  have gHF := ok_form (P := P) (w := w) (base := base) FHF mn (gb "bool" (by decide))
  have gCp := ok_copiedP (P := P) (w := w) (base := base) FCp bCp (gf "copied" (by decide)) mis ml mt 6
  have gIt := ok_item FIt T B ml
  have gCR := ok_chkR FCR T B gHF bHF (gf "has_form" (by decide)) FHF.kp gCp bCp (gf "copied" (by decide)) FCp.kp gIt bIt (gg "RULE_FORMS" (by decide)) (pairsB_ok cF)
  have gBk := ok_book FB B gCT bCT (gf "check_tables" (by decide)) FCT.kp gCp bCp (gf "copied" (by decide)) FCp.kp gCR bCR (gf "check_rule" (by decide)) FCR.kp
  have gGT := ok_getT FGT B gCp bCp (gf "copied" (by decide)) FCp.kp
  have gGR := ok_getR FGR B gCp bCp (gf "copied" (by decide)) FCp.kp
  have gRT := ok_ruleT (P := P) (w := w) (mg := mg) (base := base) FRT
  have gSh := ok_show FSh B gRT bRT (gf "rule_text" (by decide)) FRT.kp (propB_ok cT) gGT bGT (propB_ok cR) gGR bGR
  have gRO := ok_ruleG FRO T mn
  have gTR := ok_TRG FTR T gRO bRO (gf "rule_of" (by decide)) FRO.kp mn
  have gRd := ok_readG FRd B T (ok_initH FI) gTR bTR (gf "tables_and_rules" (by decide)) FTR.kp gBk bB (gl "KeyTellError" (by decide)) gx
  have gDT := ok_drawnTables (P := P) (w := w) (base := base) FDT FCo bCo mC FWo bWo (gf "_law_words" (by decide)) mi mr
  have gDR := ok_drawnRules (P := P) (w := w) (base := base) FDR FCo bCo mC mi mr mn
  have gCo := ok_coin (P := P) (w := w) (base := base) FCo mi
  have gXR := ok_textR (P := P) (w := w) (mg := mg) (base := base) FXR
  have gXB := ok_textB FXB ⟨gXR, bXR, gf "_law_rule_text" (by decide), FXR.kp⟩
  have gXT := ok_isT (P := P) (w := w) (base := base) FXT mn
  have gXI := ok_isR (P := P) (w := w) (base := base) FXI mn
  have gXK := ok_isB FXK ⟨gXT, bXT, gf "_law_is_title" (by decide), FXT.kp⟩ ⟨gXI, bXI, gf "_law_is_rule" (by decide), FXI.kp⟩ mn (gb "set" (by decide))
  have gXC := ok_caughtB FXC T gRd bRd (gf "read_book" (by decide)) FRd.kp kR ⟨gSh, bSh, gf "show_book" (by decide), FSh.kp⟩ (gl "KeyTellError" (by decide)) gx mis
  have gXO := ok_odd FXO ⟨gCo, bCo, gf "_law_coin" (by decide), FCo.kp⟩ mr mn
  have gXM := ok_marred FXM ⟨gCo, bCo, gf "_law_coin" (by decide), FCo.kp⟩ ⟨gXO, bXO, gf "_law_odd_book" (by decide), FXO.kp⟩ mn
  have gRi := ok_right FRi ⟨gCo, bCo, gf "_law_coin" (by decide), FCo.kp⟩ ⟨gDT, bDT, gf "_law_drawn_tables" (by decide), FDT.kp⟩ ⟨gDR, bDR, gf "_law_drawn_rules" (by decide), FDR.kp⟩ ⟨gXM, bXM, gf "_law_marred_book" (by decide), FXM.kp⟩ ⟨gXB, bXB, gf "_law_book_text" (by decide), FXB.kp⟩ ⟨gXK, bXK, gf "_law_is_book" (by decide), FXK.kp⟩ ⟨gXC, bXC, gf "_law_caught_book" (by decide), FXC.kp⟩ mr mn
  exact ok_law FLa ⟨ok_purse FPu mn (gb "max" (by decide)) (gb "abs" (by decide)) mi, bPu, gf "_law_purse" (by decide), FPu.kp⟩ ⟨gRi, bRi, gf "_law_right" (by decide), FRi.kp⟩ mr (gb "max" (by decide)) (gb "min" (by decide)) mn
end
end LW
open PySem PySem.W PySem.Calls PyProof.Rows
set_option maxRecDepth 100000 in
set_option maxHeartbeats 0 in
theorem PySem.Challenge.cw_keysthrough_k54_books_that_are_none_holds : PySem.Challenge.rw_keysthrough_k54_books_that_are_none.Holds := by
  w_on; o_law
  refine HandSHeadRun.head_any (r := OpenLaw.row PySem.Challenge.rw_keysthrough_k54_books_that_are_none) (q := view (OpenLaw.row PySem.Challenge.rw_keysthrough_k54_books_that_are_none).prog [42]) (H := LW.hk) (ob := LW.ob) (M := 20000) (loose := LW.loose)
    (d := HandSHeadRun.topDef (OpenLaw.row PySem.Challenge.rw_keysthrough_k54_books_that_are_none).prog 42) (kwd := []) LW.ob_eq
    (by kernel_rfl) (fun s => by kernel_rfl) LW.run (by kernel_rfl) (by kernel_rfl) (by kernel_rfl) (by rfl) (by first | assumption | decide +kernel) (by decide +kernel) ⟨rfl, rfl, rfl, rfl, rfl, by decide +kernel⟩ ?hw ?hc
  case hw => w_witness2
  case hc =>
    refine KV.walk_ofC (l := PySem.Challenge.rw_keysthrough_k54_books_that_are_none) (n := 63) (k := 13) (x := "script") (CX := L2.CX0) rfl (by decide) (by kernel_rfl) ⟨rfl, by decide, by decide⟩ ?F (fun _ _ _ _ z => z)
    intro w mg fa h Y G hmg0
    obtain ⟨K, KX, c⟩ := Y
    have hmg : mg ("law" : PySem.Str) = some (.ref fa) := by
      have e : (HandSHeadRun.topDef (OpenLaw.row PySem.Challenge.rw_keysthrough_k54_books_that_are_none).prog 42).name = ("law" : PySem.Str) := by kernel_rfl
      rw [← e]
      exact hmg0
    obtain ⟨fd, hb, hF⟩ := LW.facts (P := (PySem.Challenge.rw_keysthrough_k54_books_that_are_none).prog) (w := w) KX G hmg c
    exact ⟨K, fd, LW.spLaw K, KX, hb, fun H a ns hl _ hS => ⟨a, ns, rfl, hS, fun _ => rfl⟩, hF⟩
