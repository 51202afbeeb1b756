import PyProof.Rows.All
import Wide.All
import OpenK.AllK
import Wide.FinOn
import PyProof.ReprRoads
import PyProof.CallFns
import HandS.ForMost
import HandS.Wide
import HandS.IsInst
import HandS.ExcInit
import HandS.Defaults
import HandS.ExcIs
import HandS.ExcField
import HandS.MakeKw
import HandS.HeadHook1
import HandS.HeadHook2
import HandS.HeadHook3
import HandS.HeadHook4
import HandS.HeadEnd
import HandS.Head0
import HandS.Head1
import HandS.Head2
import HandS.ForExc
import HandS.MakeKwOnly
import HandS.Property
import HandS.Small
import HandS.HeadNt
import HandS.Star
import PySem.Challenge.RW_keysthrough_k03_books_that_are_none
set_option Elab.async false
set_option linter.all false
set_option maxRecDepth 100000
set_option maxHeartbeats 2000000
/-! Calls from where no repr is under way; repr of data; powers of great ints. -/
namespace KV
open PySem PySem.Spec PyProof.Rows L2

/-- what a def promises to a caller above which no repr is under way -/
structure FnC (P : Program) (w : World) (K : PySem.W.Frag) (mg : Str → Option Value) (base : Heap) (CX : CXT) (k : Nat)
    (f : Addr) (fd : FuncData) (ps : List Str) (sp : Sp) : Prop where
  len : ∀ vs H Q E, sp vs H Q E → vs.length = ps.length
  run : ∀ (A : Around) (outer : List Env) (s : Shared) (H : Hp) (args : Args) (us : List Value) (vs : List V) (Q : VK) (E : XK),
    A.guards = some [] → Room k A → Env0 P w K mg base A outer s H → BindsTo s fd args (ps.zip us) → Vals vs us → sp vs H Q E →
      codeAny (model P w) A (.call (.ref f) args) (CR CX outer P w H s Q E) s

theorem FnC.of {P : Program} {w : World} {K : PySem.W.Frag} {mg : Str → Option Value} {base : Heap} {CX : CXT} {k : Nat} {f : Addr}
    {fd : FuncData} {ps : List Str} {sp : Sp} (F : FnOk P w K mg base CX k f fd ps sp) : FnC P w K mg base CX k f fd ps sp :=
  ⟨F.len, fun A outer s H args us vs Q E _ hr e0 hb r h => F.run A outer s H args us vs Q E hr e0 hb r h⟩

section
variable {X : Cx} {CX : CXT} {k : Nat} {f : Addr} {fd : FuncData} {ps : List Str} {sp : Sp} {E : XK} {x : Str} {p pos : Pos}
  {e : Expr} {es : List Expr} {t : TA}
/-- f(e, ..) from such a place, every parameter given -/
theorem pe_callC (hG : X.A.guards = some []) (F : FnC X.prog X.w X.K X.mg X.base CX k f fd ps sp) (hr : Room k X.A) (hg : Gl X x)
    (hm : X.mg x = some (.ref f)) (hk : PySem.W.keepIn X.K (.ref f) = true) (hb : Binds X.K fd ps []) (hx : Passes CX X E)
    (ha : PA X (e :: es) t) (hdb : (x == ("__debug__" : Str)) = false := by decide)
    (he : starEach (e :: es) X.env = (false, eval e X.env) :: starEach es X.env := by rfl)
    (hpl : (backTo pos (starEach es X.env)).any (·.1) = false := by rfl) :
    PE X (.Call (.Name x p) (e :: es) [] pos) (tCall sp [] E t) := by
  constructor
  intro pins s σ H Q I h
  apply wpAny_Call_Name_kw
  refine ld_glob I hg hm ?_ hdb
  refine PySem.W.callWith_K (h₀ := X.base) I.ok.mod.kin hk (thn (ha.run pos pins s σ H _ I h) ?_) he hpl
  rintro us s1 ⟨vs, H1, I1, r, q⟩
  refine ⟨I1.kIn, ?_⟩
  rw [List.append_nil] at q
  have hl : (us ++ []).length = ps.length := by rw [List.append_nil, ← r.length]; exact F.len _ _ _ _ q
  have hb1 := hb s1 us I1.kIn hl
  rw [List.append_nil] at hb1
  refine wpAny_call (codeAny_mono (F.run X.A X.stack s1 H1 ⟨us, []⟩ us vs Q E hG hr I1.env0 hb1 r q) ?_)
  intro res s' hq
  match res, hq with
  | .error er, hq => exact hx pins σ H1 s1 er s' I1 hq
  | .ok (.ret u), hq => exact I1.after hq
end

/-- the rule of a def for such callers -/
theorem Fun.okC {P : Program} {w : World} {K : PySem.W.Frag} {mg : Str → Option Value} {base : Heap} {x qual : Str} {params : Arguments}
    {body : List Stmt} {scope : Scope} {dvs : List V} {kws : List (Str × V)} {f : Addr} {fd : FuncData} {CX : CXT} {N ps : List Str} {k : Nat} {sp : Sp}
    (F : FunD K x qual params body scope dvs kws f fd) (S : FnScope N ps scope) (len : ∀ vs H Q E, sp vs H Q E → vs.length = ps.length)
    (hbody : ∀ (cdv : Value) (A : Around) (outer : List Env) (s : Shared) (H : Hp) (vs : List V) (Q : VK) (E : XK), A.guards = some [] →
      Room k (A.deeper (envOfC qual scope s.heap.objs.size f cdv)) → sp vs H Q E →
      ∃ t, PSs (cxOf CX P w K mg base N qual scope f cdv A outer s H E) body t ∧ t { nx := fun _ H' => Q .non H', rt := Q } (start N vs) H) :
    FnC P w K mg base CX (k + 1) f fd ps sp := by
  obtain ⟨oc, od, dV, kV, doc, pm, an, cdv, ct, osl, rfl, lk, hcd, _, _⟩ := F.ex
  refine ⟨len, ?_⟩
  intro A outer s H args us vs Q E hG hr e0 hb r hsp
  have keepB : ∀ b o, base.get? b = some o → s.heap.get? b = some o := fun b o q => (e0.bs b o q).1
  have KX : K.In s.heap := e0.mod.kin.keeps keepB
  have hkind : ∀ y ∈ ps.zip us, scope.names.lookup y.1 = some .local ∨
      (scope.names.lookup y.1 = some .cell ∧ ((cellsFrom (s.heap.objs.size + 1) scope.names []).lookup y.1).isSome = true) := by
    rintro ⟨n, v⟩ hy
    exact (S.par n (List.of_mem_zip hy).1).imp id fun q => ⟨q, PySem.W.cellsFrom_some _ _ _ (.inl q)⟩
  apply codeAny_call_function hr.depth (KX _ _ lk) rfl S.co S.gen rfl (PySem.W.codeRec_of KX hcd)
  apply hb
  apply wpAny_newFunctionEnv_cells S.kind hkind
  intro env he s1 x
  subst he
  refine ⟨(e0.mod.nolimit.keeps keepB).keeps x.toInCall.keep, codeAny_func ?_⟩
  obtain ⟨t, ht, hq⟩ := hbody cdv A outer s H vs Q E hG (hr.deeper _) hsp
  have I : Inv (cxOf CX P w K mg base N qual scope f cdv A outer s H E) [] (start N vs) H s1 := inv_start S hr.hd e0 (len _ _ _ _ hsp) r x
  refine wpAny_mono (ht.run [] s1 (start N vs) H _ I hq) ?_ (fun er s' hs => hs)
  intro fl s' hs
  match fl, hs with
  | .ret u, ⟨v, σ', H', J, rv, q⟩ => exact ⟨v, H', J.os, J.bare, J.base, J.hok, rv, q⟩
  | .next, ⟨σ', H', J, q⟩ => exact ⟨V.non, H', J.os, J.bare, J.base, J.hok, rfl, q⟩
  | .brk, ⟨_, _, _, q⟩ => exact False.elim q
  | .cont, ⟨_, _, _, q⟩ => exact False.elim q

/-! ### ints -/
def CPowB (i j : Int) : Prop := 0 ≤ j ∧ (Builtin.Int.intBits i : Int) * j ≤ 2 ^ 27
theorem op_powB {X : Cx} : OpR X (binaryOp .Pow) (rI CPowB fun i j => .int (i ^ j.toNat)) :=
  opI fun _ _ _ _ _ _ _ hc q => pow_int hc.1 hc.2 q

/-! ### repr -/
/-- repr(x), x data of any depth -/
def rRep (K : PySem.W.Frag) : List V → Hp → VK → Prop := fun xs H Q => ∃ x d, xs = [x] ∧ Dp K H x d ∧ d.showable = true ∧ d.hasDict = false ∧
  d.depth ≤ 60 ∧ d.shown.length ≤ sizeLine ∧ Q (.str d.shown) H
theorem call_repD {X : Cx} (hG : X.A.guards = some []) (hu : X.A.units + 64 < cLine) : CallR X (.builtin "repr") (rRep X.K) := by
  intro pins s σ H xs us Q I r h
  obtain ⟨x, d, rfl, hd, hs, hh, hdp, hz, q⟩ := h
  obtain ⟨u, rfl, ru⟩ := vals1 r
  have leaf : ∀ z tk, d.shown = z → EP X pins σ Q (.str z s.toks) { s with toks := tk } := fun z tk e => ⟨.str z, H, I.tok tk, ⟨_, rfl⟩, e ▸ q⟩
  cases hd with
  | non => cases ru; exact PySem.P.repr_of_none (leaf _ _ (by simp only [PyData.shown]))
  | bl b => cases ru; exact PySem.P.repr_of_bool (leaf _ _ (by simp only [PyData.shown]))
  | int i =>
    obtain ⟨t, rfl⟩ := ru
    exact PySem.P.repr_of_int (by simpa [PyData.showable] using hs) (leaf _ _ (by simp only [PyData.shown]))
  | str z =>
    obtain ⟨t, rfl⟩ := ru
    simp only [PyData.shown] at hz
    exact PySem.P.repr_of_str (leaf _ _ (by simp only [PyData.shown])) hz
  | @lst a ys ds h1 h2 =>
    cases ru
    obtain ⟨as, rr⟩ := Dp.reads I (.list ds) (.ref a) (.ref a) (.lst h1 h2) rfl
    exact repr_of_reads' rr hs (PyData.noDict_hsm hh) hG (by omega) (fun _ _ e => e) (fun h' u tk k => ⟨.str _, H, I.kept (t' := tk) k, ⟨_, rfl⟩, q⟩) hz
  | @tup a ys ds h1 h2 =>
    cases ru
    obtain ⟨as, rr⟩ := Dp.reads I (.tuple ds) (.ref a) (.ref a) (.tup h1 h2) rfl
    exact repr_of_reads' rr hs (PyData.noDict_hsm hh) hG (by omega) (fun _ _ e => e) (fun h' u tk k => ⟨.str _, H, I.kept (t' := tk) k, ⟨_, rfl⟩, q⟩) hz
/-! ### the law's call -/
section
variable {P : Program} {w : World} {K : PySem.W.Frag} {mg mb : Str → Option Value} {CX : CXT} {k : Nat} {fa a : Addr} {fd : FuncData}
  {x : Str} {sp : Sp} {s₁ : Shared} {vs : List Value} {ns : List Int}
/-- the end, from an abstract heap that tracks nothing but perhaps the script -/
theorem law_coreC (KX : K.In s₁.heap) (hns : s₁.heap.Ns mainGlobals mg) (hb : s₁.heap.Ns builtinsNs mb)
    (hbb : ∀ x : Str, x ≠ "__name__" → mb x = bootBuiltins x) (hlim : s₁.heap.NoLimit) (hg : s₁.gens = #[])
    (ha : s₁.heap.get? a = some { cls := .type "list", data := .seq vs.toArray }) (hr : Room k callerA)
    (F : ∀ base : Heap, K.In base → base.Ns mainGlobals mg → FnC P w K mg base CX k fa fd [x] sp)
    (hbind : ∀ (s : Shared) (u : Value), BindsTo s fd ⟨[u], []⟩ [(x, u)])
    (hCX : ∀ H e s', CX [] H s₁ (fun _ _ _ => False) e s' → False) (H : Hp) (hO : Only H)
    (hsp : sp [.ref a] H (fun v _ => v = .bl true) fun _ _ _ => False) (ok : HOk P w H s₁.heap) (hA : ∀ b u, H b = some u → b = a)
    (hK : ∀ u, H a = some u → K.lookup a = none) :
    codeAny (model P w) callerA (.call (.ref fa) ⟨[.ref a], []⟩)
      (fun r s' => r = .ok (.ret (.bool true)) ∧ OldK s₁.heap s'.heap ∧ s'.os = s₁.os ∧ AllBare s'.gens) s₁ := by
  have off : ∀ {b : Addr} {o : Obj}, s₁.heap.get? b = some o → (∀ es ep, o.data = .dict es ep → H b = none) := by
    intro b o e es ep d
    cases q : H b with
    | none => rfl
    | some u =>
      have z := hA b u q
      rw [z, ha] at e
      have z2 := Option.some.inj e
      rw [← z2] at d
      exact absurd d (by simp)
  have nsB : ∀ {b : Addr} {m : Str → Option Value}, s₁.heap.Ns b m → (hidT s₁.heap H).Ns b m := by
    rintro b m ⟨o, es, ep, e, d, r⟩
    exact ⟨o, es, ep, hidT_get e (off e es ep d), d, r⟩
  have inB : K.In (hidT s₁.heap H) := by
    intro b o e
    refine hidT_get (KX b o e) ?_
    cases q : H b with
    | none => rfl
    | some u =>
      have z := hA b u q
      subst z
      rw [hK u q] at e
      cases e
  obtain ⟨mc, hm1, hm2⟩ := hlim
  have M : Mod K mg (hidT s₁.heap H) := ⟨inB, nsB hns, ⟨mb, nsB hb, hbb⟩, ⟨mc, nsB hm1, hm2⟩⟩
  have E : Env0 P w K mg (hidT s₁.heap H) callerA [] s₁ H :=
    { frames := rfl, mod := M, bs := fun b o e => of_hidT e, bsz := Nat.le_of_eq (hidT_size _ _), funs := trivial,
      frf := fun b z => absurd (show b ∈ ([] : List Addr) from z) (by simp), hok := ok, bare := .of_eq hg }
  have R := (F _ inB (nsB hns)).run callerA [] s₁ H ⟨[.ref a], []⟩ [.ref a] [.ref a] _ _ rfl hr E (hbind s₁ (.ref a)) (.cons rfl .nil) hsp
  refine codeAny_mono R ?_
  intro r s' h
  match r, h with
  | .error e, h => exact (hCX H e s' h).elim
  | .ok (.ret u), ⟨v, H', os, bare, un, hok', rv, q⟩ =>
    have q1 : v = .bl true := q
    rw [q1] at rv
    have e1 : u = Value.bool true := rv
    refine ⟨by rw [e1], OldK.of_keep ?_, os, bare⟩
    intro b o e
    rcases hO b with z | ⟨ob, xs, z⟩
    · exact un.keep b o e z (fun z => absurd (show b ∈ ([] : List Addr) from z) (by simp)) (by simp)
    · have e2 := (ok b _ z).1
      have e3 := (hok' b _ (un.frzs b ob _ z)).1
      rw [e] at e2
      rw [Option.some.inj e2]
      exact e3

theorem law_callC (KX : K.In s₁.heap) (hns : s₁.heap.Ns mainGlobals mg) (hb : s₁.heap.Ns builtinsNs mb)
    (hbb : ∀ x : Str, x ≠ "__name__" → mb x = bootBuiltins x) (hlim : s₁.heap.NoLimit) (hg : s₁.gens = #[])
    (ha : s₁.heap.get? a = some { cls := .type "list", data := .seq vs.toArray }) (hi : IntsAre vs ns) (hl : ns.length ≤ sizeLine) (hr : Room k callerA)
    (F : ∀ base : Heap, K.In base → base.Ns mainGlobals mg → FnC P w K mg base CX k fa fd [x] sp)
    (hbind : ∀ (s : Shared) (u : Value), BindsTo s fd ⟨[u], []⟩ [(x, u)])
    (hsp : ∀ H : Hp, Only H → SqL K H a (ns.map V.int) → sp [.ref a] H (fun v _ => v = .bl true) fun _ _ _ => False)
    (hCX : ∀ H e s', CX [] H s₁ (fun _ _ _ => False) e s' → False) :
    codeAny (model P w) callerA (.call (.ref fa) ⟨[.ref a], []⟩)
      (fun r s' => r = .ok (.ret (.bool true)) ∧ OldK s₁.heap s'.heap ∧ s'.os = s₁.os ∧ AllBare s'.gens) s₁ := by
  have rv := vals_ints hi
  have core := law_coreC KX hns hb hbb hlim hg ha hr F hbind hCX
  by_cases hk : (K.lookup a).isSome = true
  · obtain ⟨o, ho⟩ := Option.isSome_iff_exists.mp hk
    have e := (KX a o ho).symm.trans ha
    have e2 := Option.some.inj e
    subst e2
    have hS : SqL K (fun _ => none) a (ns.map V.int) := .inr ⟨_, vs.toArray, _, ho, rfl, rfl, rfl, by rw [List.size_toArray, hi.length]; exact hl, rv⟩
    exact core _ (fun _ => .inl rfl) (hsp _ (fun _ => .inl rfl) hS) (fun b u z => by cases z) (fun b u z => by cases z) fun u z => by cases z
  · have hn : K.lookup a = none := by
      cases q : K.lookup a with
      | none => rfl
      | some o => rw [q] at hk; exact absurd rfl hk
    let O : HO := .frz { cls := .type "list", data := .seq vs.toArray } (.lst (ns.map V.int))
    have at_ : ∀ b u, upd (fun _ => none) a O b = some u → b = a ∧ u = O := by
      intro b u z
      by_cases hba : b = a
      · rw [hba, upd_same] at z
        exact ⟨hba, (Option.some.inj z).symm⟩
      · rw [upd_ne hba] at z
        cases z
    have hO : Only (upd (fun _ => none) a O) := by
      intro b
      by_cases hba : b = a
      · exact .inr ⟨_, _, by rw [hba, upd_same]⟩
      · exact .inl (by rw [upd_ne hba])
    refine core _ hO (hsp _ hO (.inl (.inr ⟨_, upd_same⟩))) ?_ (fun b u z => (at_ b u z).1) fun _ _ => hn
    intro b u z
    obtain ⟨rfl, rfl⟩ := at_ b u z
    exact ⟨ha, by rw [List.length_map]; exact hl, vs, _, rv, ha⟩

/-- the law's walk, its def's promise given to callers above which no repr is under way -/
theorem walk_ofC {l : PySem.W.OpenLaw} {n k : Nat} {q : Program} {loose : List Str} {XP : (Str → Option Value) → Heap → Prop} {YP : World → Heap → Prop} {d : DefRec} {CX : CXT} {x : Str}
    (hn : l.most = some n) (hn2 : n ≤ sizeLine) (hdf : d.params.defaults = []) (hr : Room k callerA)
    (F : ∀ (w : World) (mg : Str → Option Value) (fa : Addr) (h : Heap), YP w h → h.Ns mainGlobals mg → mg d.name = some (.ref fa) →
      ∃ (K : PySem.W.Frag) (fd : FuncData) (sp : Sp), K.In h ∧ (∀ (s : Shared) (u : Value), BindsTo s fd ⟨[u], []⟩ [(x, u)]) ∧
        (∀ (H : Hp) (a : Addr) (ns : List Int), ns.length ≤ n → Only H → SqL K H a (ns.map V.int) → sp [.ref a] H (fun v _ => v = .bl true) fun _ _ _ => False) ∧
        ∀ base : Heap, K.In base → base.Ns mainGlobals mg → FnC l.prog w K mg base CX k fa fd [x] sp)
    (hCX : ∀ (H : Hp) (s : Shared) (e : Value) (s' : Shared), CX [] H s (fun _ _ _ => False) e s' → False) :
    PySem.W.WalkO q loose XP YP l.row.toRowW d [] (fun f vs => PySem.call f vs) := by
  apply Att.attach_call hn hdf
  intro w s₀ s₁ mg mb fa o pm cd doc a vs ns G Y ho hd hcd hmg hobj hints hlen hg
  obtain ⟨K, fd, sp, KX, hb, hsp, hF⟩ := F w mg fa _ Y G.T.g hmg
  exact law_callC KX G.T.g G.T.b G.T.builtins G.T.nolimit hg hobj hints (Nat.le_trans hlen hn2) hr hF hb (fun H hO hS => hsp H a ns hlen hO hS)
    fun H e s' => hCX H s₁ e s'
end
end KV
set_option Elab.async false
set_option linter.all false
set_option maxRecDepth 100000
set_option maxHeartbeats 4000000
/-! Own errors over ValueError as values: made by position and by keyword, a field read, isinstance. -/
namespace PySem
namespace KVX
open PySem.W PySem.Calls PyProof.Rows PySem.HandSPX
section
variable {prog : Program} {w : World} {A : Around} {E : Value → Shared → Prop} {R : Result → Shared → Prop} {h : Heap} {g : Array GenState} {d : Drawn} {t : Nat} {os : OsState}
variable {nm q : Str} {C N : Addr} {bs bm bmB : List Value} {hdct : Bool} {sn : List Str} {sub : List Value} {ab : Bool} {col : Option Bool} {dd : Option Addr} {k0 k1 k2 k3 k5 : Option Value} {B newId initId : String}
  {kw : List (Str × Value)}

theorem checkK {M : Model} (F : ExcBaseFacts B newId initId bmB) (hT : ∀ X : String, bm.contains (.type X) = bmB.contains (.type X))
    {Q : Unit → Shared → Prop} (hC : h.get? C = some (excClassObj nm q C N bs bm hdct sn sub ab col dd k0 k1 k2 k3 k5 newId))
    (hq : Q () ⟨h, g, d, t, os⟩) : wpAny M A (checkBuiltinCall newId ⟨[.ref C], kw⟩) Q E ⟨h, g, d, t, os⟩ := by
  have inB : (Value.ref C :: bm).contains (.type B) = true := by
    rw [List.contains_cons, hT, F.hasB, Bool.or_true]
  have star := F.noStar
  simp only [checkBuiltinCall, F.newSplit, F.newKind, F.newRow]
  repeat (first
    | refine wpAny_loadPart_at hC ?_
    | (refine wpAny_isSubtype_exc hC ?_; rw [inB])
    | refine wpAny_staticBase_exc hC ?_
    | refine wpAny_madeBy_exc hC ?_
    | simp only [bne_self_eq_false, Bool.false_eq_true, if_false]
    | wp_step)
  exact hq

theorem newK (F : ExcBaseFacts B newId initId bmB) (hT : ∀ X : String, bm.contains (.type X) = bmB.contains (.type X))
    (hC : h.get? C = some (excClassObj nm q C N bs bm hdct sn sub ab col dd k0 k1 k2 k3 k5 newId))
    (hq : R (.ok (.ret (.ref (h.objs.size + 1)))) ⟨(h.push (kdv_tup [])).push (excO C h.objs.size), g, d, t, os⟩) :
    codeAny (model prog w) A (.builtin newId ⟨[.ref C], kw⟩) R ⟨h, g, d, t, os⟩ := by
  have ends := F.ends
  have inB : (Value.ref C :: bm).contains (.type B) = true := by
    rw [List.contains_cons, hT, F.hasB, Bool.or_true]
  have noA : (Value.ref C :: bm).contains (.type "AttributeError") = false := by
    rw [List.contains_cons, hT, F.noAttr]; rfl
  have noN : (Value.ref C :: bm).contains (.type "NameError") = false := by
    rw [List.contains_cons, hT, F.noName]; rfl
  have hz : ([] : List Value).length ≤ sizeLine := Nat.zero_le _
  apply codeAny_builtinAt F.entry
  unfold Builtin.«BaseException.__new__»
  apply wpAt_bind
  show wpAt _ _ _ (stack >>= _) _ _ _
  apply wpAt_bind
  refine wpAt_stack fun p below => wpAt_of_wpAny ?_
  wp_walk
  apply wpAt_of_wpAny
  rw [F.owner]
  repeat (first
    | with_reducible refine wpAny_madeHere_exc F.canon hC ?_
    | with_reducible refine wpAny_loadPart_at hC ?_
    | (with_reducible refine wpAny_isSubtype_exc hC ?_; first | rw [inB] | rw [noA] | rw [noN])
    | wp_step)
  show R _ _
  rw [Heap.size_push]
  exact hq

theorem typeCallK (F : ExcBaseFacts B newId initId bmB) (hT : ∀ X : String, bm.contains (.type X) = bmB.contains (.type X)) {fI : Addr} {Q : Fin → Shared → Prop}
    (hC : h.get? C = some (excClassObj nm q C N bs bm hdct sn sub ab col dd k0 k1 k2 k3 k5 newId))
    (hi : W.Looks (model prog w) h (typeLookup (.ref C) "__init__") (some (.ref fI)))
    (hb : ∀ self, W.Looks (model prog w) h (bindSpecial (.ref fI) self) (.ref fI, [self]))
    (hq : codeAny (model prog w) A (.call (.ref fI) ⟨[.ref (h.objs.size + 1)], kw⟩)
      (fun r s' => match r with | .ok (.ret v) => v = .none ∧ Q (.done (.ret (.ref (h.objs.size + 1)))) s' | .ok _ => False | .error e => E e s')
      ⟨(h.push (kdv_tup [])).push (excO C h.objs.size), g, d, t, os⟩) :
    wpAny (model prog w) A (Builtin.«type.__call__» ⟨[.ref C], kw⟩) Q E ⟨h, g, d, t, os⟩ := by
  repeat (first
    | with_reducible refine wpAny_loadPart_at hC ?_
    | with_reducible refine wpAny_madeBy_exc hC ?_
    | wp_step)
  apply codeAny_call_builtin_code (Code.quiet_builtin _ F.quiet) (checkK F hT hC ?_)
  apply newK F hT hC
  show wpAny _ _ _ _ _ _
  have keep : ∀ b o, h.get? b = some o → ((h.push (kdv_tup [])).push (excO C h.objs.size)).get? b = some o := fun b o e =>
    Heap.get?_push_of_some _ (Heap.get?_push_of_some _ e)
  have hget : ((h.push (kdv_tup [])).push (excO C h.objs.size)).get? (h.objs.size + 1) = some (excO C h.objs.size) := by heap_get
  have inC : (Value.ref C :: bm).contains (.ref C) = true := by simp
  have i1 := hi.keeps keep
  have b1 := (hb (.ref (h.objs.size + 1))).keeps keep
  unfold isInstance
  repeat (first
    | with_reducible refine wpAny_loadPart_at hget ?_
    | (with_reducible refine wpAny_isSubtype_exc (keep _ _ hC) ?_; rw [inC])
    | wp_step)
  show wpAny _ _ (typeLookup (.ref C) _) _ _ _
  apply i1.at
  apply wpAny_holding
  apply wpAny_bind
  apply b1.at
  apply wpAny_bind
  refine wpAny_call (codeAny_mono hq fun r s' z => ?_)
  rcases r with e | (v | _ | _ | _) <;> first | exact z | exact z.elim | skip
  obtain ⟨rfl, z⟩ := z
  first
    | exact wpAny_pure (wpAny_pure z)
    | (wp_walk; exact z)

theorem callK (F : ExcBaseFacts B newId initId bmB) (hT : ∀ X : String, bm.contains (.type X) = bmB.contains (.type X)) {fI : Addr}
    (hC : h.get? C = some (excClassObj nm q C N bs bm hdct sn sub ab col dd k0 k1 k2 k3 k5 newId))
    (hi : W.Looks (model prog w) h (typeLookup (.ref C) "__init__") (some (.ref fI)))
    (hb : ∀ self, W.Looks (model prog w) h (bindSpecial (.ref fI) self) (.ref fI, [self]))
    (hq : codeAny (model prog w) (A.under (.builtin "type.__call__" ⟨[.ref C], kw⟩)) (.call (.ref fI) ⟨[.ref (h.objs.size + 1)], kw⟩) (W.InitBack (h.objs.size + 1) R)
      ⟨(h.push (kdv_tup [])).push (excO C h.objs.size), g, d, t, os⟩) :
    codeAny (model prog w) A (.call (.ref C) ⟨[], kw⟩) R ⟨h, g, d, t, os⟩ := by
  have look := tc_lookup
  have bind := tc_bind (.ref C)
  have hTy : (⟨h, g, d, t, os⟩ : Shared).TypeIs (.ref C) "type" := ⟨_, hC, rfl⟩
  apply codeAny_of_tree
  show wpAny _ _ (callAny (.ref C) _) _ _ _
  repeat (any_goals (first
    | assumption
    | with_reducible refine wpAny_loadPart_at hC ?_
    | wp_step))
  refine ⟨rfl, ?_⟩
  apply codeAny_call_builtin_at (Code.quiet_builtin _ (by decide +kernel)) entry_typeCall
  refine wpAny_check_type_call_sub hC (typeCallK F hT hC hi hb ?_)
  refine codeAny_mono hq fun r s' z => ?_
  rcases r with e | (v | _ | _ | _) <;> exact z
end
end KVX
end PySem
set_option Elab.async false
set_option linter.all false
set_option maxRecDepth 100000
set_option maxHeartbeats 4000000
namespace PySem.W
open PySem PySem.Spec PySem.Calls PyProof.Rows
section
variable {prog : Program} {w : World} {A : Around} {E : Value → Shared → Prop} {s : Shared} {K : Frag} {x D : Addr} {ox : Obj} {od : Option Obj}
/-- what the class of an error says of its objects' __class__ -/
structure ErrC (K : Frag) (D : Addr) : Prop where
  hga : findIn K (.ref D) "__getattribute__" = some (some (.builtin "BaseException.__getattribute__"))
  hgt : findIn K (.ref D) "__getattr__" = some none
  hsub : subIn K (.ref D) (.type "BaseException") = some true
  hdct : hasDictIn K D = true
  ha : findIn K (.ref D) "__class__" = some (some (.builtin "object.__class__"))
  hn : specialIn K (.builtin "object.__class__") "__get__" = some (some (.builtin "getset_descriptor.__get__"))
  htk : takesIn K (.builtin "object.__class__") = some true
  hm : mroIn K D (.type "object") = some true

theorem err_find (c : ErrC K D) : findObj K D od "__class__" = some (.bind (.builtin "getset_descriptor.__get__") (.builtin "object.__class__")) := by
  obtain ⟨cd, hc, _⟩ := any_some c.hdct
  unfold findObj
  rw [hc, Option.bind_some, c.ha, Option.bind_some]
  simp [c.hn, c.htk]

theorem err_class {Q : Option Value → Shared → Prop} (c : ErrC K D) (X : K.In s.heap) (I : InstAt s.heap x ox D od)
    (h : Q (some (.ref D)) { s with toks := s.toks + 1 }) : wpAny (model prog w) A (getAttr? (.ref x) "__class__") Q E s := by
  obtain ⟨hp, g, d, t, os⟩ := s
  have T := I.type (M := model prog w)
  have G := looks_findIn (M := model prog w) X c.hga
  have N := looks_findIn (M := model prog w) X c.hgt
  have Fd := looks_find (M := model prog w) X I (err_find c)
  have sub : Looks (model prog w) hp (isInstance (.ref x) (.type "BaseException")) true := T.andThen (looks_subIn X c.hsub)
  have n0 : (false && onTheHeap (Value.builtin "BaseException.__getattribute__")) = false := rfl
  have n2 : (Value.builtin "BaseException.__getattribute__" == Value.builtin "object.__getattribute__") = false := by decide +kernel
  have n1 : (onTheHeap (Value.ref D) && Value.builtin "BaseException.__getattribute__" == Value.builtin "object.__getattribute__") = false := by
    rw [n2]; rfl
  unfold getAttr? getAttrBy? getAttrBy
  apply wpAny_bind
  apply wpAny_mkText
  apply wpAny_bind
  apply wpAny_attempt
  apply wpAny_holding
  refine wpAny_bind (T.at (wpAny_bind (G.at ?_)))
  show wpAny _ _ (if (onTheHeap (Value.ref D) && Value.builtin "BaseException.__getattribute__" == Value.builtin "object.__getattribute__") = true then _ else _) _ _ _
  rw [n1, if_neg Bool.false_ne_true]
  unfold getAttrByItsOwn hookBefore
  apply wpAny_bind
  rw [if_pos (show onTheHeap (Value.ref D) = true from rfl)]
  apply N.at
  refine wpAny_bind (wpAny_attempt (wpAny_holding ?_))
  unfold callGetattribute
  rw [n0, if_neg Bool.false_ne_true]
  unfold boundAndCalled
  rw [PySem.F.excAttr_ValueError.ga.bind (.ref x)]
  apply wpAny_bind
  apply wpAny_pure
  show wpAny _ _ (call (.builtin "BaseException.__getattribute__") [.ref x, .str "__class__" t]) _ _ _
  apply wpAny_call
  apply codeAny_call_builtin PySem.F.excAttr_ValueError.ga.plain PySem.F.entry_bexc_ga
  refine @check_slot (model prog w) _ _ ⟨hp, g, d, t + 1, os⟩ "BaseException.__getattribute__" "BaseException" "__getattribute__" (.ref x) [.str "__class__" t] [] _
    (by decide +kernel) (by decide +kernel) sub (PySem.F.args_bexc_ga (.ref x) (.str "__class__" t)) ?_
  unfold Builtin.«object.__getattribute__»
  apply wpAny_bind
  refine wpAny_of_eq (a := ((Value.ref x : Value), [Value.str "__class__" t])) (by first | rfl | (simp only [slotArgs]; rfl)) ?_
  apply wpAny_bind
  apply wpAny_pure
  refine wpAny_bind (T.at (wpAny_bind (Fd.at ?_)))
  show wpAny _ _ (holding [Value.builtin "object.__class__"] (call (.builtin "getset_descriptor.__get__") [.builtin "object.__class__", .ref x, .ref D]) >>= ret) _ _ _
  apply wpAny_bind
  apply wpAny_holding
  apply wpAny_call
  refine class_get (s := ⟨hp, g, d, t + 1, os⟩) (ox := ox) (od := od) X I c.hm ?_
  apply wpAny_pure
  show wpAny _ _ (handedOut (.ref D)) _ _ _
  rw [handedOut_of (v := .ref D) rfl]
  first
    | exact wpAny_pure (wpAny_pure h)
    | exact wpAny_pure h
    | exact wpAny_pure (wpAny_bind (wpAny_pure (wpAny_pure h)))

theorem err_obj (c : ErrC K D) : ∃ c' d' cd' sl', K.lookup D = some ⟨c', d', .cls cd', sl'⟩ := by
  obtain ⟨cdD, hcD, _⟩ := any_some c.hdct
  unfold clsIn at hcD
  split at hcD
  · rename_i c' d' cd' sl' ho
    exact ⟨_, _, _, _, ho⟩
  · cases hcD

theorem err_kit (c : ErrC K D) : KitX K (.ref x) (.ref D) (fun h => InstAt h x ox D od) where
  ty := fun _ _ _ I => I.type
  it := fun _ _ X _ => by
    obtain ⟨c', d', cd', sl', ho⟩ := err_obj c
    intro A' Q' E' s' k q
    unfold isType loadHead
    exact wpAny_bind (wpAny_loadPart (k _ _ (X _ _ ho)) (wpAny_pure q))
  ne := fun h tp dd its n sl X htp => by
    obtain ⟨c', d', cd', sl', ho⟩ := err_obj c
    refine Bool.eq_false_iff.mpr fun q => ?_
    have e : D = tp := Value.ref.inj (beq_iff_eq.mp q)
    subst e
    have z := (X _ _ ho).symm.trans htp
    cases z
  ca := fun X I k => err_class c X I k
end
end PySem.W

namespace KV
open PySem PySem.Spec PyProof.Rows L2
/-- a new error at a, its dict at dx -/
def exH (H : Hp) (a dx C : Addr) (f : Str) (v : V) : Hp := upd (upd H dx (exd dx [(f, v)])) a (exo a C (some dx))
theorem exH_upd {H : Hp} {a dx C : Addr} {f : Str} {v : V} (hne : dx ≠ a) : exH (upd H a (exo a C none)) a dx C f v = exH H a dx C f v := by
  funext b
  unfold exH
  by_cases h1 : b = a
  · rw [h1, upd_same, upd_same]
  · rw [upd_ne h1, upd_ne h1]
    by_cases h2 : b = dx
    · rw [h2, upd_same, upd_same]
    · rw [upd_ne h2, upd_ne h2, upd_ne h1]
/-- what __init__(self, f) with self.f = f promises -/
def spInit (K : PySem.W.Frag) (f : Str) : Sp := fun vs H Q _ => ∃ (a C : Addr) (v : V), vs = [.ref a, v] ∧ OexC K C ∧
  PySem.W.findIn K (.ref C) f = some none ∧ H a = some (exo a C none) ∧ ∀ dx, H dx = none → dx ≠ a → Q .non (exH H a dx C f v)
/-- C(e), C(f = e): a new error that holds the value -/
def tNewEx (C : Addr) (f : Str) (te : TE) : TE := fun σ H Q => te σ H fun v H1 => ∀ a dx, H1 a = none → H1 dx = none → dx ≠ a → Q (.ref a) (exH H1 a dx C f v)

section
variable {X : Cx} {k : Nat} {fI C : Addr} {fd : FuncData} {f x : Str} {p pos kp : Pos} {e : Expr} {te : TE}
/-- the head of such a call: the object is laid, __init__ runs -/
theorem run_init {pins : List (Addr × Obj)} {σ : L2.St} {H : Hp} {hp : Heap} {g : Array GenState} {dr : Drawn} {tk : Nat} {os : OsState} {Q : VK} {v : V} {u : Value} {args : Args} {rest : List Value} {A : Around}
    (T : OexC X.K C) (hf : PySem.W.findIn X.K (.ref C) f = some none) (F1 : FnOk X.prog X.w X.K X.mg X.base CX0 k fI fd ["self", f] (spInit X.K f))
    (hr : Room k A) (he : ∀ {s : Shared} {H : Hp}, Env0 X.prog X.w X.K X.mg X.base X.A X.stack s H → Env0 X.prog X.w X.K X.mg X.base A X.stack s H)
    (hb : ∀ s : Shared, X.K.In s.heap → BindsTo s fd args [("self", .ref (hp.objs.size + 1)), (f, u)])
    (I : Inv X pins σ H ⟨hp, g, dr, tk, os⟩) (r : RelV v u) (q : ∀ a dx, H a = none → H dx = none → dx ≠ a → Q (.ref a) (exH H a dx C f v)) :
    codeAny (model X.prog X.w) A (.call (.ref fI) args) (PySem.W.InitBack (hp.objs.size + 1) (callEnd (EP X pins σ Q) X.xe))
      ⟨(hp.push (PySem.W.kdv_tup rest)).push (PySem.HandSPX.excO C hp.objs.size), g, dr, tk, os⟩ := by
  have hsz : hp.objs.size ≤ hp.objs.size + 1 := Nat.le_succ _
  have hn : H (hp.objs.size + 1) = none := I.hok.fresh hsz
  have keep : ∀ b o, hp.get? b = some o → ((hp.push (PySem.W.kdv_tup rest)).push (PySem.HandSPX.excO C hp.objs.size)).get? b = some o :=
    fun b o e => Heap.get?_push_of_some _ (Heap.get?_push_of_some _ e)
  have hget : ((hp.push (PySem.W.kdv_tup rest)).push (PySem.HandSPX.excO C hp.objs.size)).get? (hp.objs.size + 1) = some (PySem.HandSPX.excO C hp.objs.size) := by heap_get
  have J := I.laid (t' := tk) (a := hp.objs.size + 1) (o := exo (hp.objs.size + 1) C none) keep hsz (exo_ok hget)
  have hs : spInit X.K f [.ref (hp.objs.size + 1), v] (upd H (hp.objs.size + 1) (exo (hp.objs.size + 1) C none))
      (fun v' H3 => v' = .non ∧ Q (.ref (hp.objs.size + 1)) H3) (fun _ _ _ => False) := by
    refine ⟨_, C, v, rfl, T, hf, upd_same, fun dx hd hne => ⟨rfl, ?_⟩⟩
    rw [upd_ne hne] at hd
    rw [exH_upd hne]
    exact q _ dx hn hd hne
  refine codeAny_mono (F1.run A X.stack _ _ args [.ref (hp.objs.size + 1), u] [.ref (hp.objs.size + 1), v] _ _ hr (he J.env0) (hb _ J.kIn) (.cons rfl (.cons r .nil)) hs) ?_
  intro res s' hq
  match res, hq with
  | .ok (.ret z), hq =>
    obtain ⟨v', H3, I3, rv, ev, q3⟩ := J.after hq
    subst ev
    exact ⟨rv, .ref (hp.objs.size + 1), H3, I3, rfl, q3⟩

/-- C(e) -/
theorem pe_exP (T : OexC X.K C) (hf : PySem.W.findIn X.K (.ref C) f = some none) (iC : PySem.W.findIn X.K (.ref C) "__init__" = some (some (.ref fI)))
    (tI : PySem.W.typeIn X.K (.ref fI) = some (.type "function")) (F1 : FnOk X.prog X.w X.K X.mg X.base CX0 k fI fd ["self", f] (spInit X.K f)) (hr : Room (k + 1) X.A)
    (hb : Binds X.K fd ["self", f] []) (hg : Gl X x) (hm : X.mg x = some (.ref C)) (ha : PE X e te)
    (hdb : (x == ("__debug__" : Str)) = false := by decide) (hst : starEach (e :: []) X.env = (false, eval e X.env) :: starEach [] X.env := by rfl)
    (hpl : (backTo pos (starEach [] X.env)).any (·.1) = false := by rfl) : PE X (.Call (.Name x p) [e] [] pos) (tNewEx C f te) := by
  constructor
  intro pins s σ H Q I h
  obtain ⟨nm, q, N, bs, bm, sn, sub, ab, col, dd, k0, k1, k2, k3, k5, hC, hbm⟩ := T.cls
  apply wpAny_Call_Name_kw
  refine ld_glob I hg hm ?_ hdb
  refine PySem.W.callWith_K (h₀ := X.base) I.ok.mod.kin T.kC (thn ((pa_cons ha pa_nil hst).run pos pins s σ H _ I (show tCons te tNil σ H (fun vs H1 => ∃ v, vs = [v] ∧ ∀ a dx, H1 a = none → H1 dx = none → dx ≠ a → Q (.ref a) (exH H1 a dx C f v)) from ?_)) ?_) hst hpl
  · refine Eq.mp ?_ h
    unfold tNewEx tCons tNil
    congr 1
    funext v H1
    apply propext
    constructor
    · intro z; exact ⟨v, rfl, z⟩
    · rintro ⟨v', e1, z⟩
      cases e1
      exact z
  · rintro us s1 ⟨vs, H1, I1, r1, v, rfl, q1⟩
    refine ⟨I1.kIn, ?_⟩
    obtain ⟨u, rfl, ru⟩ := vals1 r1
    show wpAny _ _ (call (.ref C) [u]) _ _ _
    obtain ⟨hp, g, dr, tk, os⟩ := s1
    refine wpAny_call (PySem.HandSPX.call_own F.excBase_ValueError (fun Y => PySem.HandSPX.refsVE_contains Y bm hbm) (I1.kIn _ _ hC) (PySem.W.looks_findIn I1.kIn iC)
      (fun self => PySem.W.bind_fn I1.kIn self tI) (by rw [sizeLine_eq]; exact (by decide : 1 ≤ 16777216)) ?_)
    exact run_init T hf F1 (hr.make C _ _) (fun z => z.make C _ _) (fun s k => hb s [.ref (hp.objs.size + 1), u] k rfl) I1 ru q1

/-- C(f = e) -/
theorem pe_exK (T : OexC X.K C) (hf : PySem.W.findIn X.K (.ref C) f = some none) (iC : PySem.W.findIn X.K (.ref C) "__init__" = some (some (.ref fI)))
    (tI : PySem.W.typeIn X.K (.ref fI) = some (.type "function")) (F1 : FnOk X.prog X.w X.K X.mg X.base CX0 k fI fd ["self", f] (spInit X.K f)) (hr : Room (k + 1) X.A)
    (hb : ∀ (s : Shared) (a u : Value), BindsTo s fd ⟨[a], [(f, u)]⟩ [("self", a), (f, u)]) (hg : Gl X x) (hm : X.mg x = some (.ref C)) (ha : PE X e te)
    (hall : (backToKw pos (keywordEach [⟨some f, e, kp⟩] X.env)).all (·.1.isSome) = true := by rfl)
    (hks : (backToKw pos (keywordEach [⟨some f, e, kp⟩] X.env)).filterMap (·.1) = [f] := by rfl) (hdb : (x == ("__debug__" : Str)) = false := by decide)
    (hpl : ((backTo pos (starEach [] X.env)).any (·.1) || (backToKw pos (keywordEach [⟨some f, e, kp⟩] X.env)).any (·.1.isNone)) = false := by rfl) :
    PE X (.Call (.Name x p) [] [⟨some f, e, kp⟩] pos) (tNewEx C f te) := by
  constructor
  intro pins s σ H Q I h
  obtain ⟨nm, q, N, bs, bm, sn, sub, ab, col, dd, k0, k1, k2, k3, k5, hC, hbm⟩ := T.cls
  apply wpAny_Call_Name_kw
  refine ld_glob I hg hm ?_ hdb
  refine PySem.W.callWith_KW0 (h₀ := X.base) I.ok.mod.kin T.kC hall ?_ hpl
  refine thn ((pk_cons ha pk_nil).run pos pins s σ H _ I (show tCons te tNil σ H (fun vs H1 => ∃ v, vs = [v] ∧ ∀ a dx, H1 a = none → H1 dx = none → dx ≠ a → Q (.ref a) (exH H1 a dx C f v)) from ?_)) ?_
  · refine Eq.mp ?_ h
    unfold tNewEx tCons tNil
    congr 1
    funext v H1
    apply propext
    constructor
    · intro z; exact ⟨v, rfl, z⟩
    · rintro ⟨v', e1, z⟩
      cases e1
      exact z
  · rintro us s1 ⟨vs, H1, I1, r1, v, rfl, q1⟩
    refine ⟨I1.kIn, ?_⟩
    obtain ⟨u, rfl, ru⟩ := vals1 r1
    rw [hks]
    show wpAny _ _ (call (.ref C) [] [(f, u)]) _ _ _
    obtain ⟨hp, g, dr, tk, os⟩ := s1
    refine wpAny_call (PySem.KVX.callK F.excBase_ValueError (fun Y => PySem.HandSPX.refsVE_contains Y bm hbm) (I1.kIn _ _ hC) (PySem.W.looks_findIn I1.kIn iC)
      (fun self => PySem.W.bind_fn I1.kIn self tI) ?_)
    exact run_init T hf F1 (hr.make C [] [(f, u)]) (fun z => z.make C [] [(f, u)]) (fun s _ => hb s _ u) I1 ru q1

/-- the field of such an error -/
def tGetEx (K : PySem.W.Frag) (f : Str) (te : TE) : TE := fun σ H Q => te σ H fun x H1 => ∃ (a C dx : Addr) (fs : List (Str × V)) (v : V), x = .ref a ∧ XfC K C ∧ PySem.W.findIn K (.ref C) f = some none ∧
  H1 a = some (exo a C (some dx)) ∧ H1 dx = some (exd dx fs) ∧ fs.lookup f = some v ∧ Q v H1
theorem pe_getEx (he : PE X e te) (hb : attributeBase e f X.env (eval e X.env) = eval e X.env := by rfl) : PE X (.Attribute e f pos) (tGetEx X.K f te) := by
  constructor
  intro pins s σ H Q I h
  refine attr_of hb (thn (he.run pins s σ H _ I h) ?_)
  rintro u s1 ⟨x, H1, I1, rx, a, C, dx, fs, v, rfl, T, hno, ea, ed, l, q⟩
  cases rx
  obtain ⟨t1, ho⟩ := exo_at I1.hok ea
  obtain ⟨mA, hns, hr⟩ := exd_at I1.hok ed
  obtain ⟨od, hod, hl⟩ := lookIn_ns hns
  obtain ⟨u, hu, ru⟩ := RelO.some_of (v := v) (o := mA f) (by rw [← l]; exact hr f)
  have J : PySem.W.InstAt s1.heap a { cls := .ref C, dict := some dx, data := .fields #[.ref t1, .none, .none, .none, .bool false, .none] } C (some od) := ⟨ho, rfl, rfl, hod⟩
  exact HandSPX.exc_get I1.kIn J T.ga T.gg T.exC (PySem.W.findObj_own T.hdC hno rfl (by rw [hl, hu])) (handed_of ru) ⟨v, H1, I1.tok _, ru, q⟩

/-- isinstance(x, C), x such an error -/
def rIsX (K : PySem.W.Frag) : List V → Hp → VK → Prop := fun xs H Q => ∃ (a D dx : Addr) (fs : List (Str × V)) (c : V) (u : Value) (b : Bool), xs = [.ref a, c] ∧ ClsV c u ∧ PySem.W.ErrC K D ∧
  H a = some (exo a D (some dx)) ∧ H dx = some (exd dx fs) ∧ PySem.W.kitOne K (.ref D) u = some b ∧ Q (.bl b) H
theorem call_isX : CallR X (.builtin "isinstance") (rIsX X.K) := by
  intro pins s σ H xs us Q I r h
  obtain ⟨a, D, dx, fs, c, u, b, rfl, k, cls, ea, ed, e, q⟩ := h
  obtain ⟨u1, u2, rfl, r1, r2⟩ := vals2 r
  have e2 := k.eq r2
  subst e2
  cases r1
  obtain ⟨t1, ho⟩ := exo_at I.hok ea
  obtain ⟨mA, hns, hr⟩ := exd_at I.hok ed
  obtain ⟨od, hod, hl⟩ := lookIn_ns hns
  have J : PySem.W.InstAt s.heap a { cls := .ref D, dict := some dx, data := .fields #[.ref t1, .none, .none, .none, .bool false, .none] } D (some od) := ⟨ho, rfl, rfl, hod⟩
  exact PySem.W.kia_one (PySem.W.err_kit cls) I.kIn J e (fun z => nomatch z) fun tk => ⟨.bl b, H, I.tok tk, rfl, q⟩
end
end KV
set_option Elab.async false
set_option linter.all false
set_option maxRecDepth 100000
set_option maxHeartbeats 4000000
/-! What the written part says of the classes of errors. -/
namespace KV
open PySem PySem.Spec PyProof.Rows L2 He
/-- an error class over ValueError, its field f stored by the __init__ at fI -/
structure ErrOk (K : PySem.W.Frag) (f : Str) (fI C : Addr) : Prop where
  oex : OexC K C
  xf : XfC K C
  err : PySem.W.ErrC K C
  no : PySem.W.findIn K (.ref C) f = some none
  ini : PySem.W.findIn K (.ref C) "__init__" = some (some (.ref fI))
  fn : PySem.W.typeIn K (.ref fI) = some (.type "function")
def clsB (K : PySem.W.Frag) (C : Addr) : Bool := match K.lookup C with
  | some ⟨.type t, _, .cls cd, sl⟩ => decide (t = "type") && (match cd.mro, sl.toList with
    | .ref C' :: bm, [_, _, _, _, some (.builtin n), _] => decide (C' = C) && (decide (n = "ValueError.__new__") && (!cd.hasDel && (cd.hasDict && PySem.HandSPX.refsVE bm)))
    | _, _ => false)
  | _ => false
theorem clsB_ok {K : PySem.W.Frag} {C : Addr} (h : clsB K C = true) : ∃ nm q N bs bm sn sub ab col dd k0 k1 k2 k3 k5,
    K.lookup C = some (excClassObj nm q C N bs bm true sn sub ab col dd k0 k1 k2 k3 k5 "ValueError.__new__") ∧ PySem.HandSPX.refsVE bm = true := by
  unfold clsB at h
  split at h
  · rename_i t dd cd sl ho
    obtain ⟨h1, h2⟩ := ba h
    have ht := of_decide_eq_true h1
    subst ht
    split at h2
    · rename_i C' bm k0 k1 k2 k3 n k5 hm hs
      obtain ⟨g1, h2⟩ := ba h2
      obtain ⟨g2, h2⟩ := ba h2
      obtain ⟨g3, h2⟩ := ba h2
      obtain ⟨g4, g5⟩ := ba h2
      have e1 := of_decide_eq_true g1
      have e2 := of_decide_eq_true g2
      subst e1 e2
      obtain ⟨nm, bs, mro, ns, qn, hd, sn, sub, ab, col, del⟩ := cd
      dsimp only at hm g3 g4
      subst hm g4
      have hdel : del = false := by simpa using g3
      subst hdel
      have hsl : sl = #[k0, k1, k2, k3, some (.builtin "ValueError.__new__"), k5] := by
        obtain ⟨l⟩ := sl
        simp only at hs
        rw [hs]
      subst hsl
      exact ⟨nm, qn, ns, bs, bm, sn, sub, ab, col, dd, k0, k1, k2, k3, k5, ho, g5⟩
    · cases h2
  · cases h
def errB (K : PySem.W.Frag) (f : Str) (fI C : Addr) : Bool :=
  clsB K C && (eqO (PySem.W.findIn K (.ref C) "__setattr__") (some (some (.builtin "object.__setattr__"))) && (decide (PySem.W.subIn K (.ref C) (.type "BaseException") = some true) &&
  (decide (PySem.W.typeIn K (.ref C) = some (.type "type")) && (PySem.W.keepIn K (.ref C) && (eqO (PySem.W.findIn K (.ref C) "__getattribute__") (some (some (.builtin "BaseException.__getattribute__"))) &&
  (eqO (PySem.W.findIn K (.ref C) "__getattr__") (some none) && (PySem.W.hasDictIn K C && (eqO (PySem.W.findIn K (.ref C) "__class__") (some (some (.builtin "object.__class__"))) &&
  (eqO (PySem.W.specialIn K (.builtin "object.__class__") "__get__") (some (some (.builtin "getset_descriptor.__get__"))) && (decide (PySem.W.takesIn K (.builtin "object.__class__") = some true) &&
  (decide (PySem.W.mroIn K C (.type "object") = some true) && (eqO (PySem.W.findIn K (.ref C) f) (some none) && (eqO (PySem.W.findIn K (.ref C) "__init__") (some (some (.ref fI))) &&
  decide (PySem.W.typeIn K (.ref fI) = some (.type "function")))))))))))))))
theorem errB_ok {K : PySem.W.Frag} {f : Str} {fI C : Addr} (h : errB K f fI C = true) : ErrOk K f fI C := by
  obtain ⟨a1, h⟩ := ba h
  obtain ⟨a2, h⟩ := ba h
  obtain ⟨a3, h⟩ := ba h
  obtain ⟨a4, h⟩ := ba h
  obtain ⟨a5, h⟩ := ba h
  obtain ⟨a6, h⟩ := ba h
  obtain ⟨a7, h⟩ := ba h
  obtain ⟨a8, h⟩ := ba h
  obtain ⟨a9, h⟩ := ba h
  obtain ⟨b1, h⟩ := ba h
  obtain ⟨b2, h⟩ := ba h
  obtain ⟨b3, h⟩ := ba h
  obtain ⟨b4, h⟩ := ba h
  obtain ⟨b5, b6⟩ := ba h
  exact ⟨⟨clsB_ok a1, eqO_ok a2, of_decide_eq_true a3, of_decide_eq_true a4, a5⟩, ⟨eqO_ok a6, eqO_ok a7, of_decide_eq_true a3, a8⟩,
    ⟨eqO_ok a6, eqO_ok a7, of_decide_eq_true a3, a8, eqO_ok a9, eqO_ok b1, of_decide_eq_true b2, of_decide_eq_true b3⟩, eqO_ok b4, eqO_ok b5, of_decide_eq_true b6⟩
/-- all classes of errors: the first is the others' base -/
def errsB (K : PySem.W.Frag) (f : Str) (base : Str) (names : List Str) : Bool :=
  (names.all fun x => errB K f (ma K (ga K base) "__init__") (ga K x)) &&
  ((names.all fun x => names.all fun y => decide (PySem.W.kitOne K (.ref (ga K x)) (.ref (ga K y)) = some (decide (x = y) || decide (y = base)))) &&
  (names.all fun x => decide (PySem.W.kitOne K (.ref (ga K x)) (.type "ValueError") = some true)))
structure Errs (K : PySem.W.Frag) (f base : Str) (names : List Str) : Prop where
  ok : ∀ x ∈ names, ErrOk K f (ma K (ga K base) "__init__") (ga K x)
  kit : ∀ x ∈ names, ∀ y ∈ names, PySem.W.kitOne K (.ref (ga K x)) (.ref (ga K y)) = some (decide (x = y) || decide (y = base))
  ve : ∀ x ∈ names, PySem.W.kitOne K (.ref (ga K x)) (.type "ValueError") = some true
theorem errsB_ok {K : PySem.W.Frag} {f base : Str} {names : List Str} (h : errsB K f base names = true) : Errs K f base names := by
  obtain ⟨h1, h⟩ := ba h
  obtain ⟨h2, h3⟩ := ba h
  exact ⟨fun x hx => errB_ok (List.all_eq_true.mp h1 x hx), fun x hx y hy => of_decide_eq_true (List.all_eq_true.mp (List.all_eq_true.mp h2 x hx) y hy), fun x hx => of_decide_eq_true (List.all_eq_true.mp h3 x hx)⟩
end KV
set_option Elab.async false
set_option linter.all false
set_option maxRecDepth 100000
set_option maxHeartbeats 4000000
/-! A caught error that is kept behind its clause. -/
namespace KV
open PySem PySem.Spec PyProof.Rows L2
/-- at a: a caught error of this class, its dict at d -/
def exk (a : Addr) (cls : Value) (d : Option Addr) : HO := .ext fun h => ∃ oe vs, h.get? a = some oe ∧ oe.cls = cls ∧ oe.dict = d ∧ oe.data = .fields vs
theorem exk_ok {P : Program} {w : World} {H : Hp} {h : Heap} {a : Addr} {cls : Value} {d : Option Addr} {oe : Obj} {vs : Array Value} (he : h.get? a = some oe) (hz : Zc cls d oe) (hd : oe.data = .fields vs) :
    ObjOk P w H h a (exk a cls d) :=
  ⟨⟨oe, vs, he, hz.1, hz.2, hd⟩, ⟨oe, he⟩, fun h1 h2 z k => by
    obtain ⟨o1, v1, e1, e2, e3, e4⟩ := z
    exact ⟨o1, v1, k _ e1, e2, e3, e4⟩⟩
theorem keepX {X : Cx} {pins : List (Addr × Obj)} {σ : L2.St} {H : Hp} {s : Shared} {a : Addr} {oe : Obj} {vs : Array Value} {cls : Value} {d : Option Addr} (I : L2.Inv X pins σ H s) (he : s.heap.get? a = some oe) (hz : Zc cls d oe)
    (hd : oe.data = .fields vs) (na : H a = none) (nL : a ≠ X.env.locals) (n0 : X.s_0.heap.get? a = none) (np : ∀ p ∈ X.pn ++ pins, p.1 ≠ a) : L2.Inv X pins σ (upd H a (exk a cls d)) s where
  ok := I.ok
  os := I.os
  bare := I.bare
  base := {
    keep := I.base.keep
    slot := I.base.slot
    free := fun b o h1 h2 h3 => by
      rw [upd_ne fun z => by rw [z, n0] at h1; cases h1]
      exact I.base.free b o h1 h2 h3
    there := I.base.there
    tups := fun b xs h => by
      have q := I.base.tups b xs h
      rw [upd_ne fun z => by rw [z, na] at q; cases q]
      exact q
    frzs := fun b o u h => by
      have q := I.base.frzs b o u h
      rw [upd_ne fun z => by rw [z, na] at q; cases q]
      exact q
    tbls := fun b ps h => by
      obtain ⟨m, q⟩ := I.base.tbls b ps h
      refine ⟨m, ?_⟩
      rw [upd_ne fun z => by rw [z, na] at q; cases q]
      exact q }
  loc := I.loc
  cell := I.cell
  free := by
    rw [upd_ne (Ne.symm nL)]
    exact I.free
  freeC := fun x c h => by
    obtain ⟨v, q⟩ := I.cell x c h
    rw [upd_ne fun z => by
      rw [z] at q
      obtain ⟨o, q1, q2⟩ := q
      rw [he] at q1
      cases q1
      rw [hd] at q2
      cases q2]
    exact I.freeC x c h
  pin := fun p hp => by
    obtain ⟨h1, h2, h3⟩ := I.pin p hp
    refine ⟨h1, ?_, h3⟩
    rw [upd_ne (np p hp)]
    exact h2
  hok := fun b o h => by
    by_cases e : b = a
    · subst e
      rw [upd_same] at h
      cases h
      exact exk_ok he hz hd
    · rw [upd_ne e] at h
      refine (I.hok b o h).stay (fun c u _ q => q) (fun c q => ?_) fun c xs q => ?_
      · rw [upd_ne fun z => by rw [z, na] at q; cases q]
        exact q
      · rw [upd_ne fun z => by rw [z, na] at q; cases q]
        exact q
  len := I.len
/-- what follows, with the error kept -/
def kEnds (i : Nat) (a : Addr) (cls : Value) (d : Option Addr) (D : Ends) : Ends where
  nx := fun σ' H' => H' a = none ∧ D.nx (σ'.set i none) (upd H' a (exk a cls d))
  rt := fun v H' => H' a = none ∧ D.rt v (upd H' a (exk a cls d))
  bk := fun σ' H' => H' a = none ∧ D.bk (σ'.set i none) (upd H' a (exk a cls d))
  ct := fun σ' H' => H' a = none ∧ D.ct (σ'.set i none) (upd H' a (exk a cls d))
/-- the wish of a try whose clause keeps the error -/
def wKeep (K : PySem.W.Frag) (c : Value) (i : Nat) (ts : Addr → Value → Option Addr → TS) (Wout : WX) (D : Ends) : WX := fun cls d σ H => ∃ b, PySem.W.exmOne K cls c = some b ∧
  (b = true → ∀ a, H a = none → ts a cls d (kEnds i a cls d D) (σ.set i (some (.ref a))) H) ∧ (b = false → Wout cls d σ H)
theorem ps_try_keep {X : Cx} {x n : Str} {c : Value} {i : Nat} {body suite : List Stmt} {b₀ : Stmt} {np pos pos' : Pos} {tb : WX → TS} {ts : Addr → Value → Option Addr → TS} {Wout : WX}
    (hs : X.stack = X.env :: X.outer) (hf : X.env.frame = some X.env.locals) (hN : X.N.Nodup) (hi : X.N[i]? = some n) (hln : X.env.kindOf n = some NameKind.local) (hx : X.ex = []) (hc : Names X x c) (tk : Takes X Wout)
    (hb : ∀ (W : WX) (pn : List (Addr × Obj)) (xe : Value → Shared → Prop), Takes (X.tr pn xe) W → PassesOwn (model X.prog X.w) X.A X.env xe → PSs (X.tr pn xe) body (tb W))
    (hsu : ∀ (a : Addr) (oe : Obj) (cls : Value) (d : Option Addr) (pn : List (Addr × Obj)), Zc cls d oe → (∃ vs, oe.data = Data.fields vs) → PSs (X.suite a ((a, oe) :: pn)) (b₀ :: suite) (ts a cls d)) :
    PS X (Stmt.Try body [ExceptHandler.ExceptHandler (some (Expr.Name x np)) (some n) (b₀ :: suite) pos'] [] [] pos) fun D σ H => tb (wKeep X.K c i ts Wout D) D σ H := by
  constructor
  intro pins s σ H D I h
  have ok := I.ok
  have hfr : X.A.frames = some (X.env :: X.outer) := by rw [ok.frames, hs]
  have hloc : L2.Loc X.env.scope n := Or.inl hln
  let xe' : Value → Shared → Prop := fun e s₁ => wpAny (model X.prog X.w) X.A (noteFrame e X.env) (fun _ s₂ => wpAny (model X.prog X.w) X.A (setFlight e none)
    (fun _ s₃ => wpAny (model X.prog X.w) X.A (handleBy e X.env [ExceptHandler.ExceptHandler (some (Expr.Name x np)) (some n) (b₀ :: suite) pos']) (SP X pins D) X.xe s₃) X.xe s₂) X.xe s₁
  have tk' : Takes (X.tr (X.pn ++ pins) xe') (wKeep X.K c i ts Wout D) := ?_
  refine wpAny_Try_except (wpAny_mono ((hb (wKeep X.K c i ts Wout D) (X.pn ++ pins) xe' tk' PassesOwn.looking).run [] s σ H D (Inv.toTry I xe') h) ?_ (fun _ _ z => z))
  rotate_left
  · intro u s' xx
    obtain ⟨a, B, sI, pins', σ', H', cls, d, rfl, J', nb, up, sky, na, os, ag, b, hb1, hyes, hno⟩ := xx
    have J := Inv.ofTry J' ok
    have sky' : Sky B (X.env :: X.outer) a (Zc cls d) X.env.locals s'.heap := by rw [← hs]; exact sky
    refine Sky.land Zc.steady hfr hf sky' fun h3 fl3 up3 => ?_
    have J3 := Inv.landed (X := X) (s' := ⟨h3, s'.gens, s'.drawn, s'.toks, s'.os⟩) J nb fl3.1 (up.trans up3) os ag
    obtain ⟨oe3, vs3, he3, hz3, hd3⟩ := HandSPX.FlyingZ.there fl3
    have nfr : a ∉ List.filterMap (fun e : Env => e.frame) (X.env :: X.outer) := fun hm => by
      obtain ⟨_, o', e', hnf⟩ := fl3.2.2.1.mem hm
      rw [he3] at e'
      cases e'
      exact hnf _ hd3
    have nL : a ≠ X.env.locals := fun z => nfr (List.mem_filterMap.mpr ⟨X.env, List.mem_cons_self, by rw [hf, z]⟩)
    have nF : a ∉ X.fs := fun hm => by
      obtain ⟨e, he, q⟩ := List.mem_filterMap.mp hm
      exact nfr (List.mem_filterMap.mpr ⟨e, List.mem_cons_of_mem _ he, q⟩)
    have nB : B.get? a = none := fl3.2.1
    have nfs : a ∉ frs X.stack := by
      rw [hs]
      exact nfr
    have nI : ∀ o, sI.heap.get? a ≠ some o := fun o z => by
      have q := nb a o z nfs
      rw [nB] at q
      cases q
    have n0 : X.s_0.heap.get? a = none := by
      cases q : X.s_0.heap.get? a with
      | none => rfl
      | some o =>
        obtain ⟨o', q'⟩ := J.base.there a o q (by rw [hx]; simp)
        exact absurd q' (nI o')
    have npn : ∀ p ∈ X.pn ++ pins, p.1 ≠ a := fun p hp z => by
      have q := (J.pin p hp).1
      rw [z] at q
      exact nI _ q
    have S3 := Inv.suite J3 he3 hd3 na nL nF
    refine wpAny_handleBy_cons (codeAny_handlers_test ?_) (fun q => by cases q)
    have LT : PySem.W.Looks (model X.prog X.w) h3 (typeOf (.ref a)) cls := fun A Q E s k q => wpAny_typeOf_ref (k a oe3 he3) (by rw [hz3.1]; exact q)
    have LM := PySem.W.exm_one (J3.kIn) LT hb1
    have test : ∀ {Q : Value → Shared → Prop} {E : Value → Shared → Prop}, Q c ⟨h3, s'.gens, s'.drawn, s'.toks, s'.os⟩ →
        wpAny (model X.prog X.w) (X.suite a ((a, oe3) :: (X.pn ++ pins))).A (eval (.Name x np) X.env) Q E ⟨h3, s'.gens, s'.drawn, s'.toks, s'.os⟩ := by
      intro Q E q
      obtain ⟨hg, hdbg, hm | ⟨hm, hv, hnn⟩⟩ := hc
      · exact ld_glob S3 hg hm q hdbg
      · exact ld_blt S3 hg hm hv q hnn hdbg
    refine test (PySem.W.Looks.here LM ?_)
    cases b with
    | false =>
      show wpAny _ _ (handleBy _ _ []) _ _ _
      refine wpAny_handleBy_nil ?_
      obtain ⟨k1, k2, k3, oe, vs, T, oT, ts', he, hz, hd, h1, hr⟩ := id fl3
      refine wpAny_bind (wpAny_field he hd h1 ?_)
      have nn : ¬ ((Value.ref T == Value.none) = true) := fun z => by cases (beq_iff_eq.mp z)
      rw [if_neg nn]
      refine wpAny_bind ?_
      rw [hf]
      refine HandSPX.setFlight_upZ fl3 fun h4 hh4 up4 => ?_
      refine wpAny_throw (tk (.ref a) _ ⟨a, B, sI, pins, σ', H', cls, d, rfl, J, nb, (up.trans up3).trans up4, ?_, na, os, ag, hno rfl⟩)
      rw [hs]
      exact Or.inr (Or.inr hh4)
    | true =>
      show codeAny _ _ _ _ _
      refine codeAny_handlers_suite_as (HandSPX.lands_againZ fl3 fun h4 fl4 up4 => ?_)
      have J4 := Inv.landed (X := X) (s' := ⟨h4, s'.gens, s'.drawn, s'.toks, s'.os⟩) J nb fl4.1 ((up.trans up3).trans up4) os ag
      obtain ⟨oe4, vs4, he4, hz4, hd4⟩ := HandSPX.FlyingZ.there fl4
      have S4 := Inv.suite J4 he4 hd4 na nL nF
      refine store_ok (X := X.suite a ((a, oe4) :: (X.pn ++ pins))) (v := V.ref a) S4 hN hi hloc rfl (fun s5 S5 => ?_) (Or.inr hln)
      refine wpAny_mono ((hsu a oe4 cls d (X.pn ++ pins) hz4 ⟨vs4, hd4⟩).run [] s5 (List.set σ' i (some (V.ref a))) H' (kEnds i a cls d D) S5 (hyes rfl a na)) (fun f s6 hsp => ?_) (fun _ _ z => False.elim z)
      have end_ : ∀ {σ6 : L2.St} {H6 : Hp} {Q : Unit → Shared → Prop}, L2.Inv (X.suite a ((a, oe4) :: (X.pn ++ pins))) [] σ6 H6 s6 → H6 a = none → (∀ s7, L2.Inv X pins (List.set σ6 i none) (upd H6 a (exk a cls d)) s7 → Q () s7) →
          wpAny (model X.prog X.w) X.A (do
            bindName X.env n Value.none
            unbindBehindTheSuite X.env n pos') Q X.xe s6 := by
        intro σ6 H6 Q S6 n6 hq
        have he6 : s6.heap.get? a = some oe4 := (S6.pin (a, oe4) (by simp)).1
        exact gone_ok (keepX (Inv.unsuite S6 ok) he6 hz4 hd4 n6 nL n0 npn) hN hi hln hq
      cases f with
      | next =>
        obtain ⟨σ6, H6, S6, n6, q6⟩ := hsp
        exact end_ S6 n6 fun s7 J7 => ⟨_, _, J7, q6⟩
      | brk =>
        obtain ⟨σ6, H6, S6, n6, q6⟩ := hsp
        exact end_ S6 n6 fun s7 J7 => ⟨_, _, J7, q6⟩
      | cont =>
        obtain ⟨σ6, H6, S6, n6, q6⟩ := hsp
        exact end_ S6 n6 fun s7 J7 => ⟨_, _, J7, q6⟩
      | ret u =>
        obtain ⟨v6, σ6, H6, S6, r6, n6, q6⟩ := hsp
        exact end_ S6 n6 fun s7 J7 => ⟨v6, _, _, J7, r6, q6⟩
  · intro f s1 hsp
    cases f with
    | next =>
      obtain ⟨σ', H', J', q⟩ := hsp
      exact wpAny_execs_nil ⟨σ', H', Inv.ofTry J' ok, q⟩
    | brk =>
      obtain ⟨σ', H', J', q⟩ := hsp
      exact ⟨σ', H', Inv.ofTry J' ok, q⟩
    | cont =>
      obtain ⟨σ', H', J', q⟩ := hsp
      exact ⟨σ', H', Inv.ofTry J' ok, q⟩
    | ret u =>
      obtain ⟨v, σ', H', J', r, q⟩ := hsp
      exact ⟨v, σ', H', Inv.ofTry J' ok, r, q⟩
end KV
set_option Elab.async false
set_option linter.all false
set_option maxRecDepth 100000
set_option maxHeartbeats 4000000
/-! What a kept error tells: its class, its field. -/
namespace KV
open PySem PySem.Spec PyProof.Rows L2
/-- at a: a kept error of class C with these fields -/
def Cau (H : Hp) (a C dx : Addr) (fs : List (Str × V)) : Prop := H a = some (exk a (.ref C) (some dx)) ∧ H dx = some (.xd fs)
theorem cau_at {P : Program} {w : World} {H : Hp} {h : Heap} {a C dx : Addr} {fs : List (Str × V)} (hok : HOk P w H h) (e : Cau H a C dx fs) :
    ∃ oe mA od, PySem.W.InstAt h a oe C (some od) ∧ oe.dict = some dx ∧ h.Ns1 dx mA ∧ h.get? dx = some od ∧ (∀ f, PySem.W.lookIn f od = some (mA f)) ∧ ∀ f : Str, RelO (List.lookup f fs) (mA f) := by
  have h1 := hok _ _ e.1
  have h2 := hok _ _ e.2
  unfold ObjOk at h2
  obtain ⟨⟨oe, vs, he, hc, hd, hf⟩, _⟩ := h1
  obtain ⟨mA, hns, hr⟩ := h2
  obtain ⟨od, hod, hl⟩ := lookIn_ns hns
  obtain ⟨c, d, dat, sl⟩ := oe
  dsimp only at hc hd hf
  subst hc hd hf
  exact ⟨_, mA, od, ⟨he, rfl, rfl, hod⟩, rfl, hns, hod, hl, hr⟩
section
variable {X : Cx} {f : Str} {pos : Pos} {e : Expr} {te : TE}
/-- the field of a kept error -/
def tGetK (K : PySem.W.Frag) (f : Str) (te : TE) : TE := fun σ H Q => te σ H fun x H1 => ∃ (a C dx : Addr) (fs : List (Str × V)) (v : V), x = .ref a ∧ XfC K C ∧ PySem.W.findIn K (.ref C) f = some none ∧
  Cau H1 a C dx fs ∧ fs.lookup f = some v ∧ Q v H1
theorem pe_getK (he : PE X e te) (hb : attributeBase e f X.env (eval e X.env) = eval e X.env := by rfl) : PE X (.Attribute e f pos) (tGetK X.K f te) := by
  constructor
  intro pins s σ H Q I h
  refine attr_of hb (thn (he.run pins s σ H _ I h) ?_)
  rintro u s1 ⟨x, H1, I1, rx, a, C, dx, fs, v, rfl, T, hno, ea, l, q⟩
  cases rx
  obtain ⟨oe, mA, od, J, hdx, hns, hod, hl, hr⟩ := cau_at I1.hok ea
  obtain ⟨u, hu, ru⟩ := RelO.some_of (v := v) (o := mA f) (by rw [← l]; exact hr f)
  exact HandSPX.exc_get I1.kIn J T.ga T.gg T.exC (PySem.W.findObj_own T.hdC hno rfl (by rw [hl, hu])) (handed_of ru) ⟨v, H1, I1.tok _, ru, q⟩
/-- isinstance(x, C), x a kept error -/
def rIsK (K : PySem.W.Frag) : List V → Hp → VK → Prop := fun xs H Q => ∃ (a D dx : Addr) (fs : List (Str × V)) (c : V) (u : Value) (b : Bool), xs = [.ref a, c] ∧ ClsV c u ∧ PySem.W.ErrC K D ∧
  Cau H a D dx fs ∧ PySem.W.kitOne K (.ref D) u = some b ∧ Q (.bl b) H
theorem call_isK : CallR X (.builtin "isinstance") (rIsK X.K) := by
  intro pins s σ H xs us Q I r h
  obtain ⟨a, D, dx, fs, c, u, b, rfl, k, cls, ea, e, q⟩ := h
  obtain ⟨u1, u2, rfl, r1, r2⟩ := vals2 r
  have e2 := k.eq r2
  subst e2
  cases r1
  obtain ⟨oe, mA, od, J, _⟩ := cau_at I.hok ea
  exact PySem.W.kia_one (PySem.W.err_kit cls) I.kIn J e (fun z => nomatch z) fun tk => ⟨.bl b, H, I.tok tk, rfl, q⟩
end
end KV
set_option Elab.async false
set_option linter.all false
set_option maxRecDepth 100000
set_option maxHeartbeats 4000000
/-! x in xs, x not in xs: items of any data. -/
namespace KV
open PySem PySem.Spec PyProof.Rows L2
open Classical in
/-- whether the value reads as data that equals d -/
noncomputable def eD (h : Heap) (d : PyData) (y : Value) : Bool := decide (∃ e as, Reads h y e as ∧ e.eqv d = true)
open Classical in
theorem eD_of {h : Heap} {d e : PyData} {y : Value} {as : List Addr} (r : Reads h y e as) : eD h d y = e.eqv d := by
  unfold eD
  cases q : e.eqv d with
  | true => exact decide_eq_true ⟨e, as, r, q⟩
  | false =>
    refine decide_eq_false ?_
    rintro ⟨e', as', r', q'⟩
    have z := reads_det (h := h) (h' := h) (fun b o k _ => k) r r'
    rw [z.1, q] at q'
    cases q'
section
variable {X : Cx} {pins : List (Addr × Obj)} {σ : L2.St} {H : Hp} {s : Shared}
theorem any_data (I : L2.Inv X pins σ H s) {d : PyData} : ∀ {xs : List V} {us : List Value} {ds : List PyData}, Vals xs us → DpAll X.K H xs ds → us.any (eD s.heap d) = ds.any fun e => e.eqv d
  | _, _, _, .nil, .nil => rfl
  | _, _, _, .cons h r, .cons k q => by
    obtain ⟨as, rd⟩ := Dp.reads I _ _ _ k h
    rw [List.any_cons, List.any_cons, eD_of rd, any_data I r q]
theorem at_data (I : L2.Inv X pins σ H s) {d : PyData} {v : Value} {bs : List Addr} (rd : Reads s.heap v d bs) (sd : SeqAt.shaped d = true) (hu : X.A.units + 65 < cLine) :
    ∀ {xs : List V} {us : List Value} {ds : List PyData}, Vals xs us → DpAll X.K H xs ds → (∀ e ∈ ds, SeqAt.shaped e = true) → ∀ y ∈ us, SeqAt.EqAt X.A.in1 s y v (eD s.heap d y)
  | _, _, _, .nil, .nil, _, y, hy => absurd hy (by simp)
  | _, _, _, .cons h r, .cons k q, hs, y, hy => by
    rcases List.mem_cons.mp hy with rfl | hy
    · obtain ⟨as, r1⟩ := Dp.reads I _ _ _ k h
      rw [eD_of r1]
      exact PySem.W.keq_at r1 rd (hs _ List.mem_cons_self) sd (by show X.A.units + 1 + 64 < cLine; omega)
    · exact at_data I rd sd hu r q (fun e he => hs e (List.mem_cons_of_mem _ he)) y hy
end
def rInD (K : PySem.W.Frag) (neg : Bool) : R2 := fun x y H Q => ∃ (p : Addr) (xs : List V) (ds : List PyData) (d : PyData), y = .ref p ∧ (SqL K H p xs ∨ SqT K H p xs) ∧ DpAll K H xs ds ∧ Dp K H x d ∧ (∀ e ∈ ds, SeqAt.shaped e = true) ∧ SeqAt.shaped d = true ∧
  Q (.bl (if neg = true then !ds.any (fun e => e.eqv d) else ds.any fun e => e.eqv d)) H
theorem op_notInD {X : Cx} (hu : X.A.units + 65 < cLine) : OpR X (compareOp .NotIn) (rInD X.K true) := by
  intro pins s σ H x y v u Q I rx ry h
  obtain ⟨p, xs, ds, d, rfl, hq, hd, hx, hs, sd, q⟩ := h
  cases ry
  obtain ⟨bs, rd⟩ := Dp.reads I d x v hx rx
  rcases hq with hq | hq
  · obtain ⟨its, r, pl, _⟩ := Inv.list I hq
    refine SeqAt.notIn_listAt (eD s.heap d) (PlainL.isList pl) (fun y hy => at_data I rd sd hu r hd hs y (by simpa using hy)) ⟨.bl _, H, I, rfl, ?_⟩
    have e : its.toArray.any (eD s.heap d) = its.any (eD s.heap d) := by simp
    rw [e, any_data I r hd]
    exact q
  · obtain ⟨its, r, pl, _⟩ := Inv.tuple I hq
    refine SeqAt.notIn_tupleAt (eD s.heap d) pl (fun y hy => at_data I rd sd hu r hd hs y (by simpa using hy)) ⟨.bl _, H, I, rfl, ?_⟩
    have e : its.toArray.any (eD s.heap d) = its.any (eD s.heap d) := by simp
    rw [e, any_data I r hd]
    exact q
theorem op_inD {X : Cx} (hu : X.A.units + 65 < cLine) : OpR X (compareOp .In) (rInD X.K false) := by
  intro pins s σ H x y v u Q I rx ry h
  obtain ⟨p, xs, ds, d, rfl, hq, hd, hx, hs, sd, q⟩ := h
  cases ry
  obtain ⟨bs, rd⟩ := Dp.reads I d x v hx rx
  rcases hq with hq | hq
  · obtain ⟨its, r, pl, _⟩ := Inv.list I hq
    refine SeqAt.in_listAt (eD s.heap d) (PlainL.isList pl) (fun y hy => at_data I rd sd hu r hd hs y (by simpa using hy)) ⟨.bl _, H, I, rfl, ?_⟩
    have e : its.toArray.any (eD s.heap d) = its.any (eD s.heap d) := by simp
    rw [e, any_data I r hd]
    exact q
  · obtain ⟨its, r, pl, _⟩ := Inv.tuple I hq
    refine SeqAt.in_tupleAt (eD s.heap d) pl (fun y hy => at_data I rd sd hu r hd hs y (by simpa using hy)) ⟨.bl _, H, I, rfl, ?_⟩
    have e : its.toArray.any (eD s.heap d) = its.any (eD s.heap d) := by simp
    rw [e, any_data I r hd]
    exact q
end KV
set_option Elab.async false
set_option linter.all false
set_option maxRecDepth 100000
set_option maxHeartbeats 4000000
/-! A slice that is the whole tuple: the tuple itself. -/
namespace KV
open PySem PySem.Spec PyProof.Rows L2
theorem getItem_tuple_whole {prog : Program} {w : World} {A : Around} {E : Value → Shared → Prop} {s : Shared} {t sl : Addr} {items : Array Value} {vl vu : Value} {lo hi : Option Int} {Q : Value → Shared → Prop}
    (ht : IsTup s.heap t items) (hs : s.heap.IsSliceOf sl vl vu .none) (pl : IsPart vl lo) (pu : IsPart vu hi) (hw : HT.sIx items.size 0 lo = 0 ∧ HT.sIx items.size items.size hi = items.size) (h : Q (.ref t) s) :
    wpAny (model prog w) A (getItem (.ref t) (.ref sl)) Q E s := by
  obtain ⟨os, hos, hcs, hds⟩ := id hs
  refine wpAny_holding (wpAny_bind (wpAny_sequenceKey (IsTup.typeIs ht) (by decide) (wpAny_bind (wpAny_callSpecial?_slot (IsTup.typeIs ht) slot_tuple_getitem (wpAny_call_entry slot_tuple_getitem (IsTup.typeIs ht) entry_tuple_getitem ?_)))))
  refine wpAny_bind (show wpAny _ _ (pure (Value.ref t, [Value.ref sl])) _ _ _ from wpAny_pure ?_)
  refine wpAny_bind (tupleItemsOf_ ht (wpAny_bind (wpAny_typeOf (T := "slice") (show s.TypeIs (.ref sl) "slice" from ⟨os, hos, hcs⟩) ?_)))
  rw [if_pos (by decide)]
  refine wpAny_bind (HT.sliceApplied_gen hs pl pu ?_)
  rw [hw.1, hw.2]
  have e : ((((0 : Nat) : Int) == 0 && (1 : Int) == 1) && (items.size - 0 == items.size)) = true := by simp
  dsimp only
  rw [if_pos e]
  refine wpAny_bind (show wpAny _ _ (do
    let c ← typeOf (Value.ref t)
    pure (c == Value.type "tuple")) _ _ _ from wpAny_bind (wpAny_typeOf (IsTup.typeIs ht) (wpAny_pure ?_)))
  rw [if_pos (by decide)]
  refine wpAny_bind (wpAny_rule ?_)
  exact wpAny_pure ⟨.ref t, rfl, wpAny_pure h⟩
/-- t[lo:hi], all of t or less -/
def rSlTW (K : PySem.W.Frag) : V → Option Int → Option Int → Hp → VK → Prop := fun x lo hi H Q => ∃ (a : Addr) (xs : List V), x = .ref a ∧ SqT K H a xs ∧
  (¬ (HT.sIx xs.length 0 lo = 0 ∧ HT.sIx xs.length xs.length hi = xs.length) → ∀ p, H p = none → Q (.ref p) (upd H p (.tup (cutV xs lo hi)))) ∧
  ((HT.sIx xs.length 0 lo = 0 ∧ HT.sIx xs.length xs.length hi = xs.length) → Q (.ref a) H)
theorem sl_tupW {X : Cx} : SlR X (rSlTW X.K) := by
  intro pins s σ H x v vl vu lo hi sl Q I rx hs pl pu h
  obtain ⟨a, xs, rfl, hx, h1, h2⟩ := h
  by_cases c : HT.sIx xs.length 0 lo = 0 ∧ HT.sIx xs.length xs.length hi = xs.length
  · cases rx
    obtain ⟨its, r, ht, hz⟩ := Inv.tuple I hx
    have hl : its.toArray.size = xs.length := by rw [List.size_toArray]; exact r.length.symm
    exact ⟨"tuple", "tuple.__getitem__", slot_tuple_getitem.lookup, IsTup.typeIs ht, getItem_tuple_whole ht hs pl pu (by rw [hl]; exact c) ⟨.ref a, H, I, rfl, h2 c⟩⟩
  · exact sl_tup pins s σ H _ v vl vu lo hi sl Q I rx hs pl pu ⟨a, xs, rfl, hx, c, h1 c⟩
/-- xs + ys: lists of any standing -/
def rCatS (K : PySem.W.Frag) : R2 := fun x y H Q => ∃ (l b : Addr) (xs zs : List V), x = .ref l ∧ y = .ref b ∧ SqL K H l xs ∧ SqL K H b zs ∧ xs.length + zs.length ≤ sizeLine ∧
  ∀ p, H p = none → Q (.ref p) (upd H p (.lst (xs ++ zs)))
theorem op_catS {X : Cx} : OpR X (binaryOp .Add) (rCatS X.K) := by
  intro pins s σ H x y v u Q I rx ry h
  obtain ⟨l, b, xs, zs, rfl, rfl, h1, h2, hz, q⟩ := h
  cases rx
  cases ry
  obtain ⟨its, r, pl, _⟩ := Inv.list I h1
  obtain ⟨its2, r2, pl2, _⟩ := Inv.list I h2
  obtain ⟨⟨c, d, dat, sl⟩, n, e, e1, e2, e3⟩ := pl
  obtain ⟨⟨c2, d2, dat2, sl2⟩, n2, f, f1, f2, f3⟩ := pl2
  dsimp only at e1 e2 e3 f1 f2 f3
  subst e1 e2 e3 f1 f2 f3
  have hsz : its.toArray.size + its2.toArray.size ≤ sizeLine := by
    have a := r.length
    have a2 := r2.length
    rw [List.size_toArray, List.size_toArray]
    omega
  refine concat_meets ⟨_, e, rfl⟩ ⟨_, f, rfl⟩ noFill_list_add seq_list_add F.slot_list_add F.entry_list_add (F.args_list_add_2 (.ref l) (.ref b))
    (PyProof.Rows.list_addW l b its.toArray its2.toArray n n2 none none sl sl2 hsz) ⟨e, f, ?_⟩
  rw [List.append_toArray]
  exact ⟨.ref _, upd H _ (.lst (xs ++ zs)), Inv.lnew I (r.append r2) (by rw [List.length_append]; exact hz), rfl, q _ (Inv.fresh I)⟩
end KV
set_option Elab.async false
set_option linter.all false
set_option maxRecDepth 100000
set_option maxHeartbeats 4000000
/-! Own classes made by an __init__ that may raise; own __getitem__ that may raise. -/
namespace KV
open PySem PySem.Spec PyProof.Rows L2
section
variable {X : Cx} {CX : CXT} {k : Nat} {f C : Addr} {fd : FuncData} {ps ks : List Str} {sp : Sp} {E : L2.St → XK} {x : Str} {p pos : Pos} {e a b : Expr} {es : List Expr} {kws : List Keyword} {t tk : TA} {ta tb : TE} {g : List Value → List Value → List Value} {gV : List V → List V → List V}
def tMakeS (C : Addr) (sp : Sp) (E : L2.St → XK) (t : TA) : TE := fun σ H Q => t σ H fun vs H1 => ∀ x dx, H1 x = none → H1 dx = none → dx ≠ x →
  sp (.ref x :: vs) (upd (upd H1 dx (.own x)) x (.ins C dx [])) (fun v H2 => v = .non ∧ Q (.ref x) H2) (E σ)
theorem run_makeS {pins : List (Addr × Obj)} {σ : L2.St} {H : Hp} {s : Shared} {Q : VK} {us : List Value} {vs : List V} (M : Mk X.K C f) (F : FnOk X.prog X.w X.K X.mg X.base CX k f fd ps sp) (hr : Room (k + 1) X.A) (hb : Binds X.K fd ps [])
    (hx : PassesAt CX X σ (E σ)) (I : L2.Inv X pins σ H s) (r : Vals vs us)
    (h : ∀ x dx, H x = none → H dx = none → dx ≠ x → sp (.ref x :: vs) (upd (upd H dx (.own x)) x (.ins C dx [])) (fun v H2 => v = .non ∧ Q (.ref x) H2) (E σ)) :
    wpAny (model X.prog X.w) X.A (call (.ref C) us) (EP X pins σ Q) X.xe s := by
  have hq := h (s.heap.objs.size + 1) s.heap.objs.size (I.hok.fresh (Nat.le_succ _)) (I.hok.fresh (Nat.le_refl _)) (Nat.ne_of_lt (Nat.lt_succ_self _))
  have I2 := Inv.made (C := C) I
  have r2 : Vals (V.ref (s.heap.objs.size + 1) :: vs) (Value.ref (s.heap.objs.size + 1) :: us) := .cons rfl r
  have hl : (Value.ref (s.heap.objs.size + 1) :: us).length = ps.length := by
    have e := r2.length
    rw [F.len _ _ _ _ hq] at e
    exact e.symm
  have b := hb _ (Value.ref (s.heap.objs.size + 1) :: us) I2.kIn (by rw [List.append_nil]; exact hl)
  rw [List.append_nil] at b
  refine wpAny_call (make_map (f := f) I.kIn M.makes M.init (beq_iff_eq.mp M.fn) (codeAny_mono (F.run _ X.stack _ _ ⟨Value.ref (s.heap.objs.size + 1) :: us, []⟩ (Value.ref (s.heap.objs.size + 1) :: us) _ _ (E σ) (hr.make C us [])
    (I2.env0.make C us []) b r2 hq) fun r s' hq' => ?_))
  cases r with
  | error e => exact hx pins _ _ e s' I2 hq'
  | ok fl =>
    cases fl with
    | ret u =>
      obtain ⟨v, H', I3, rv, ev, q3⟩ := I2.after hq'
      subst ev
      exact ⟨rv, ⟨V.ref (s.heap.objs.size + 1), H', I3, rfl, q3⟩⟩
    | next => exact False.elim hq'
    | brk => exact False.elim hq'
    | cont => exact False.elim hq'
theorem pe_makeS (M : Mk X.K C f) (F : FnOk X.prog X.w X.K X.mg X.base CX k f fd ps sp) (hr : Room (k + 1) X.A) (hg : Gl X x) (hm : X.mg x = some (.ref C)) (hb : Binds X.K fd ps []) (hx : ∀ σ, PassesAt CX X σ (E σ))
    (ha : PA X (e :: es) t) (hdb : (x == ("__debug__" : Str)) = false := by decide) (he : starEach (e :: es) X.env = (false, eval e X.env) :: starEach es X.env := by rfl) (hpl : (backTo pos (starEach es X.env)).any (·.1) = false := by rfl) :
    PE X (.Call (.Name x p) (e :: es) [] pos) (tMakeS C sp E t) := by
  refine ⟨fun pins s σ H Q I h => ?_⟩
  refine wpAny_Call_Name_kw (ld_glob I hg hm ?_ hdb)
  refine PySem.W.callWith_K (h₀ := X.base) I.ok.mod.kin M.kp (thn (ha.run pos pins s σ H _ I h) fun us s1 ⟨vs, H1, I1, r, q⟩ => ⟨I1.kIn, ?_⟩) he hpl
  exact run_makeS M F hr hb (hx σ) I1 r q
/-- .. with keywords alone -/
def tMakeKS (C : Addr) (m : Nat) (sp : Sp) (gV : List V → List V → List V) (E : L2.St → XK) (tk : TA) : TE := fun σ H Q => tk σ H fun zs H2 => zs.length = m ∧ ∀ x dx, H2 x = none → H2 dx = none → dx ≠ x →
  sp (gV [.ref x] zs) (upd (upd H2 dx (.own x)) x (.ins C dx [])) (fun v H3 => v = .non ∧ Q (.ref x) H3) (E σ)
theorem run_makeKS {pins : List (Addr × Obj)} {σ : L2.St} {H : Hp} {s : Shared} {Q : VK} {ws : List Value} {zs : List V} (M : Mk X.K C f) (F : FnOk X.prog X.w X.K X.mg X.base CX k f fd ps sp) (hr : Room (k + 1) X.A) (hb : KBn X.K fd ps 1 ks g gV) (hx : PassesAt CX X σ (E σ))
    (I : L2.Inv X pins σ H s) (rz : Vals zs ws) (l2 : zs.length = ks.length)
    (h : ∀ x dx, H x = none → H dx = none → dx ≠ x → sp (gV [.ref x] zs) (upd (upd H dx (.own x)) x (.ins C dx [])) (fun v H2 => v = .non ∧ Q (.ref x) H2) (E σ)) :
    wpAny (model X.prog X.w) X.A (call (.ref C) [] (ks.zip ws)) (EP X pins σ Q) X.xe s := by
  have hq := h (s.heap.objs.size + 1) s.heap.objs.size (I.hok.fresh (Nat.le_succ _)) (I.hok.fresh (Nat.le_refl _)) (Nat.ne_of_lt (Nat.lt_succ_self _))
  have I2 := Inv.made (C := C) I
  have r1 : Vals [V.ref (s.heap.objs.size + 1)] [Value.ref (s.heap.objs.size + 1)] := .cons rfl .nil
  have r2 := hb.rel r1 rz
  refine wpAny_call (make_map (f := f) I.kIn M.makes M.init (beq_iff_eq.mp M.fn) (codeAny_mono (F.run _ X.stack _ _ ⟨[Value.ref (s.heap.objs.size + 1)], ks.zip ws⟩ (g [Value.ref (s.heap.objs.size + 1)] ws) _ _ (E σ) (hr.make C [] (ks.zip ws))
    (I2.env0.make C [] (ks.zip ws)) (hb.to _ [Value.ref (s.heap.objs.size + 1)] ws I2.kIn rfl (rz.length.symm.trans l2)) r2 hq) fun r s' hq' => ?_))
  cases r with
  | error e => exact hx pins _ _ e s' I2 hq'
  | ok fl =>
    cases fl with
    | ret u =>
      obtain ⟨v, H', I3, rv, ev, q3⟩ := I2.after hq'
      subst ev
      exact ⟨rv, ⟨V.ref (s.heap.objs.size + 1), H', I3, rfl, q3⟩⟩
    | next => exact False.elim hq'
    | brk => exact False.elim hq'
    | cont => exact False.elim hq'
theorem pe_makeKS (M : Mk X.K C f) (F : FnOk X.prog X.w X.K X.mg X.base CX k f fd ps sp) (hr : Room (k + 1) X.A) (hg : Gl X x) (hm : X.mg x = some (.ref C)) (hb : KBn X.K fd ps 1 ks g gV) (hx : ∀ σ, PassesAt CX X σ (E σ)) (hkw : PK X kws tk)
    (hall : (backToKw pos (keywordEach kws X.env)).all (·.1.isSome) = true := by rfl) (hks : (backToKw pos (keywordEach kws X.env)).filterMap (·.1) = ks := by rfl) (hdb : (x == ("__debug__" : Str)) = false := by decide)
    (hpl : ((backTo pos (starEach [] X.env)).any (·.1) || (backToKw pos (keywordEach kws X.env)).any (·.1.isNone)) = false := by rfl) :
    PE X (.Call (.Name x p) [] kws pos) (tMakeKS C ks.length sp gV E tk) := by
  refine ⟨fun pins s σ H Q I h => ?_⟩
  refine wpAny_Call_Name_kw (ld_glob I hg hm ?_ hdb)
  refine PySem.W.callWith_KW0 (h₀ := X.base) I.ok.mod.kin M.kp hall ?_ hpl
  refine thn (hkw.run pos pins s σ H _ I h) fun ws s2 ⟨zs, H2, I2, rz, l2, q2⟩ => ⟨I2.kIn, ?_⟩
  rw [hks]
  exact run_makeKS M F hr hb (hx σ) I2 rz l2 q2
/-! ### o[y], by an own __getitem__ -/
def tItemS (C : Addr) (sp : Sp) (E : L2.St → XK) (ta tb : TE) : TE := fun σ H Q => ta σ H fun x H1 => tb σ H1 fun y H2 => ∃ a dx fs, x = .ref a ∧ H2 a = some (.ins C dx fs) ∧ sp [.ref a, y] H2 Q (E σ)
/-- K's words for it -/
structure ItemF (K : PySem.W.Frag) (C f : Addr) : Prop where
  at_ : PySem.W.findIn K (.ref C) "__getitem__" = some (some (.ref f))
  fn : PySem.W.fnIn K f = true
  isf : PySem.W.isFn K (.ref f) = true
theorem pe_itemS (T : ItemF X.K C f) (F : FnOk X.prog X.w X.K X.mg X.base CX k f fd ps sp) (hr : Room (k + 1) X.A) (hb : Binds X.K fd ps []) (hx : ∀ σ, PassesAt CX X σ (E σ)) (ha : PE X a ta) (hb' : PE X b tb)
    (hsl : ∀ x i, subscripted b true x i = runValue (.builtin "lifetime.subscript" ⟨[x, i], []⟩) := by intro _ _; rfl) : PE X (.Subscript a b pos) (tItemS C sp E ta tb) := by
  refine ⟨fun pins s σ H Q I h => ?_⟩
  refine Subscript_ (binT ha hb' I h fun v u s2 x y H2 I2 rx ry q => ?_)
  obtain ⟨z, dx, fs, rfl, hz, q⟩ := q
  cases rx
  obtain ⟨mA, J, _⟩ := ins_get I2.hok hz
  obtain ⟨od, J, _⟩ := J.look
  obtain ⟨m, hF⟩ := I2.fr
  refine PySem.W.sub_K hF I2.ok.mod.kin J T.at_ T.fn T.isf ?_ (hsl _ _)
  have r2 : Vals [V.ref z, y] [Value.ref z, u] := .cons rfl (.cons ry .nil)
  have hl := F.len _ _ _ _ q
  have bt := hb s2 [Value.ref z, u] I2.kIn (by simpa using hl)
  rw [List.append_nil] at bt
  refine wpAny_call (codeAny_mono (F.run X.A.in1 X.stack s2 H2 ⟨[Value.ref z, u], []⟩ [Value.ref z, u] [V.ref z, y] Q (E σ) hr.in1 I2.env0.in1 bt r2 q) fun r s' hq => ?_)
  cases r with
  | error e => exact hx σ pins H2 s2 e s' I2 hq
  | ok fl =>
    cases fl with
    | ret w => exact I2.after hq
    | next => exact False.elim hq
    | brk => exact False.elim hq
    | cont => exact False.elim hq
end
end KV
set_option Elab.async false
set_option linter.all false
set_option maxRecDepth 100000
set_option maxHeartbeats 4000000
/-! bool of a tuple. -/
namespace KV
open PySem
theorem meets_bool_tup (l : Addr) (items : Array Value) (hfit : (items.size : Int) < 2 ^ 63) :
    Meets (Builtin.«bool.__new__» ⟨[.type "bool", .ref l], []⟩) (fun _ R s => PyProof.Rows.IsTup s.heap l items ∧ R (.ok (.ret (.bool (!items.isEmpty)))) { s with toks := s.toks + 1 + 1 }) :=
  Meets.of_wp fun prog w A R s hs => by
    obtain ⟨hl, hs⟩ := hs
    obtain ⟨hp, g, d, tk, os⟩ := s
    have f1 := F.conv_sub_bool
    repeat (any_goals (first | assumption | (with_reducible refine PyProof.Rows.truthy_tuple hl hfit ?_) | wp_step))
    all_goals first | exact ⟨_, rfl, hs⟩ | exact hs | skip
theorem call_bool_tup {prog : Program} {w : World} {A : Around} {E : Value → Shared → Prop} {s : Shared} {l : Addr} {items : Array Value} {Q : Value → Shared → Prop} (hfit : (items.size : Int) < 2 ^ 63) (hl : PyProof.Rows.IsTup s.heap l items)
    (h : Q (.bool (!items.isEmpty)) { s with toks := s.toks + 1 + 1 }) : wpAny (model prog w) A (call (.type "bool") [.ref l]) Q E s :=
  call_bool_1 (meets_bool_tup l items hfit) ⟨hl, rfl, h⟩
section
open PySem.Spec PyProof.Rows L2
variable {X : Cx}
theorem call_boolT : CallR X (.type "bool") (fun xs H Q => ∃ (a : Addr) (zs : List V), xs = [.ref a] ∧ SqT X.K H a zs ∧ Q (.bl (!zs.isEmpty)) H) := by
  intro pins s σ H xs us Q I r h
  obtain ⟨a, zs, rfl, hq, q⟩ := h
  obtain rfl := Vals.ref1 r
  obtain ⟨its, rv, pl, hz⟩ := I.tuple hq
  have hl := line63
  have hlen := rv.length
  refine call_bool_tup (by simp only [List.size_toArray]; omega) pl ?_
  exact ⟨.bl (!zs.isEmpty), H, I.tok _, by rw [isEmpty_of rv]; rfl, q⟩
end
end KV
set_option Elab.async false
set_option linter.all false
set_option maxRecDepth 100000
set_option maxHeartbeats 4000000
/-! A head that knows defs at any address, own words of the class, tuples of tuples. -/
namespace KV
open PySem PySem.Spec PyProof.Rows L2
open He (Fa)
abbrev Df := He5.DefA
def obsB (fa : List Fa) (fn : List Df) (ex : PySem.W.Frag → Bool) (K : PySem.W.Frag) : He.AlD := (((fa.all fun f => f.ok K) && fn.all fun d => d.ok K) && ex K, fn.map fun d => He5.fnA K (d.at_ K))
def valB (fn : List Df) : He.AlD := (true, fn.map He5.DefA.val)
def SaysB (fa : List Fa) (fn : List Df) (ex : PySem.W.Frag → Bool) (K : PySem.W.Frag) : Prop := obsB fa fn ex K = valB fn
def obsBG (n : Nat) (fa : List Fa) (fn : List Df) (ex : PySem.W.Frag → Bool) (g : Addr → Option Obj) : He.AlD := obsB fa fn ex (He.frT g (He.asD g n))
def hookB (n : Nat) (fa : List Fa) (fn : List Df) (ex : PySem.W.Frag → Bool) : PySem.W.Hook where
  α := He.AlD
  obs := fun s => obsBG n fa fn ex s.heap.get?
  val := fun _ => valB fn
  says := fun _ h => ∃ K : PySem.W.Frag, K.In h ∧ SaysB fa fn ex K
  of := fun _ _ e => ⟨_, He.frT_in, e⟩
  keeps := fun _ _ _ ⟨K, hK, c⟩ k => ⟨K, PySem.W.Frag.In.keeps hK k, c⟩
theorem obsBG_eq {n : Nat} {fa : List Fa} {fn : List Df} {ex : PySem.W.Frag → Bool} {g : Addr → Option Obj} {s : Shared} (h : ∀ a, g a = s.heap.get? a) : obsBG n fa fn ex g = (hookB n fa fn ex).obs s := by
  have e : g = s.heap.get? := funext h
  rw [e] <;> rfl
section
variable {fa : List Fa} {fn : List Df} {ex : PySem.W.Frag → Bool} {K : PySem.W.Frag}
theorem SaysB.parts (c : SaysB fa fn ex K) : (fa.all fun f => f.ok K) = true ∧ (fn.all fun d => d.ok K) = true ∧ ex K = true := by
  have c1 : (((fa.all fun f => f.ok K) && fn.all fun d => d.ok K) && ex K) = true := congrArg (fun z : He.AlD => z.1) c
  obtain ⟨c2, c3⟩ := He.ba c1
  obtain ⟨c4, c5⟩ := He.ba c2
  exact ⟨c4, c5, c3⟩
theorem SaysB.facts (c : SaysB fa fn ex K) {f : Fa} (h : f ∈ fa) : f.ok K = true := List.all_eq_true.mp c.parts.1 f h
theorem SaysB.def_ (c : SaysB fa fn ex K) (i : Nat) {d : Df} (h : fn[i]? = some d := by rfl) : ∃ fd, FunD K d.name d.qual d.params d.body d.scope (d.dvs K) (d.kws K) (d.at_ K) fd := by
  have e : fn.map (fun d => He5.fnA K (d.at_ K)) = fn.map He5.DefA.val := congrArg (fun z : He.AlD => z.2) c
  have e2 : (fn.map fun d => He5.fnA K (d.at_ K))[i]? = (fn.map He5.DefA.val)[i]? := by rw [e]
  rw [List.getElem?_map, List.getElem?_map, h] at e2
  exact He5.DefA.funD (Option.some.inj e2) (List.all_eq_true.mp c.parts.2.1 d (List.mem_of_getElem? h))
end
/-! ### own words of a class -/
def pgB (K : PySem.W.Frag) (C : Addr) (f : Str) : Addr := match PySem.W.recIn K (He.ma K C f) "property" with
  | some (.ref g :: _) => g
  | _ => 0
def propB (K : PySem.W.Frag) (C : Addr) (f : Str) : Bool := He.eqO (PySem.W.findIn K (.ref C) f) (some (some (.ref (He.ma K C f)))) && (He.eqO (PySem.W.specialIn K (.ref (He.ma K C f)) "__get__") (some (some (.builtin "property.__get__"))) &&
  (decide (PySem.W.takesIn K (.ref (He.ma K C f)) = some true) && (match PySem.W.recIn K (He.ma K C f) "property" with
    | some (.ref _ :: _) => true
    | _ => false)))
theorem propB_ok {K : PySem.W.Frag} {C : Addr} {f : Str} (h : propB K C f = true) : PropOf K C f (He.ma K C f) (pgB K C f) := by
  obtain ⟨h1, h⟩ := He.ba h
  obtain ⟨h2, h⟩ := He.ba h
  obtain ⟨h3, h4⟩ := He.ba h
  refine ⟨He.eqO_ok h1, He.eqO_ok h2, of_decide_eq_true h3, ?_⟩
  unfold pgB
  cases q : PySem.W.recIn K (He.ma K C f) "property" with
  | none =>
    rw [q] at h4
    cases h4
  | some l =>
    rw [q] at h4
    match l, h4 with
    | .ref g :: r, _ => exact ⟨r, rfl⟩
def itemB (K : PySem.W.Frag) (C : Addr) : Bool := He.eqO (PySem.W.findIn K (.ref C) "__getitem__") (some (some (.ref (He.ma K C "__getitem__")))) && (PySem.W.fnIn K (He.ma K C "__getitem__") && PySem.W.isFn K (.ref (He.ma K C "__getitem__")))
theorem itemB_ok {K : PySem.W.Frag} {C : Addr} (h : itemB K C = true) : ItemF K C (He.ma K C "__getitem__") := by
  obtain ⟨h1, h⟩ := He.ba h
  obtain ⟨h2, h3⟩ := He.ba h
  exact ⟨He.eqO_ok h1, h2, h3⟩
/-! ### tuples of the written part -/
def tupAt (K : PySem.W.Frag) (a : Addr) : Option (List Value) := match K.lookup a with
  | some ⟨.type t, _, .seq its _, _⟩ => if t = "tuple" ∧ its.size ≤ sizeLine then some its.toList else none
  | _ => none
theorem tupAt_ok {K : PySem.W.Frag} {a : Addr} {vs : List Value} (h : tupAt K a = some vs) {xs : List V} (r : Vals xs vs) (H : Hp) : SqT K H a xs := by
  unfold tupAt at h
  cases q : K.lookup a with
  | none =>
    rw [q] at h
    cases h
  | some o =>
    obtain ⟨oc, od, dt, osl⟩ := o
    rw [q] at h
    cases oc with
    | type t =>
      cases dt with
      | seq its n =>
        have h : (if t = "tuple" ∧ its.size ≤ sizeLine then some its.toList else none) = some vs := h
        by_cases c : t = "tuple" ∧ its.size ≤ sizeLine
        · rw [if_pos c] at h
          cases h
          exact .inr ⟨_, its, n, q, congrArg Value.type c.1, rfl, c.2, r⟩
        · rw [if_neg c] at h
          cases h
      | _ => cases h
    | _ => cases dt <;> cases h
/-- a tuple of a text and a number -/
def pairB (K : PySem.W.Frag) (a : Addr) (x : Str) (i : Int) : Bool := match tupAt K a with
  | some [.str y _, .int j _] => decide (y = x) && decide (j = i)
  | _ => false
theorem pairB_ok {K : PySem.W.Frag} {a : Addr} {x : Str} {i : Int} (h : pairB K a x i = true) (H : Hp) : Dp K H (.ref a) (.tuple [.str x, .int i]) := by
  unfold pairB at h
  split at h
  · rename_i y t j u q
    obtain ⟨h1, h2⟩ := He.ba h
    have h1 := of_decide_eq_true h1
    have h2 := of_decide_eq_true h2
    subst h1 h2
    exact .tup (tupAt_ok (xs := [.str y, .int j]) q (.cons ⟨t, rfl⟩ (.cons ⟨u, rfl⟩ .nil)) H) (.cons (.str _) (.cons (.int _) .nil))
  · cases h
/-- a tuple of such pairs -/
def pairsB (K : PySem.W.Frag) (a : Addr) (x y : Str) (i j : Int) : Bool := match tupAt K a with
  | some [.ref b, .ref c] => pairB K b x i && pairB K c y j
  | _ => false
theorem pairsB_ok {K : PySem.W.Frag} {a : Addr} {x y : Str} {i j : Int} (h : pairsB K a x y i j = true) (H : Hp) : Dp K H (.ref a) (.tuple [.tuple [.str x, .int i], .tuple [.str y, .int j]]) := by
  unfold pairsB at h
  split at h
  · rename_i b c q
    obtain ⟨h1, h2⟩ := He.ba h
    exact .tup (tupAt_ok (xs := [.ref b, .ref c]) q (.cons rfl (.cons rfl .nil)) H) (.cons (pairB_ok h1 H) (.cons (pairB_ok h2 H) .nil))
  · cases h
end KV
set_option Elab.async false
set_option linter.all false
set_option maxRecDepth 100000
set_option maxHeartbeats 1000000
/-! Data in the heap whose lists stand each in one place: what may be changed in place. -/
namespace KV
open PySem PySem.Spec PyProof.Rows L2
abbrev Fp := Addr → Prop
mutual
/-- v stands for d; F: the addresses of the lists in it, each in one place -/
inductive Ow (H : Hp) : V → PyData → Fp → Prop where
  | non {F : Fp} (e : ∀ a, ¬ F a) : Ow H .non .none F
  | bl {F : Fp} (b : Bool) (e : ∀ a, ¬ F a) : Ow H (.bl b) (.bool b) F
  | int {F : Fp} (i : Int) (e : ∀ a, ¬ F a) : Ow H (.int i) (.int i) F
  | str {F : Fp} (x : Str) (e : ∀ a, ¬ F a) : Ow H (.str x) (.str x) F
  | lst {F G : Fp} {a : Addr} {xs : List V} {ds : List PyData} (h : H a = some (.lst xs)) (r : OwAll H xs ds F) (n : ¬ F a) (e : ∀ b, G b ↔ b = a ∨ F b) : Ow H (.ref a) (.list ds) G
  | tup {F : Fp} {a : Addr} {xs : List V} {ds : List PyData} (h : H a = some (.tup xs)) (r : OwAll H xs ds F) : Ow H (.ref a) (.tuple ds) F
inductive OwAll (H : Hp) : List V → List PyData → Fp → Prop where
  | nil {F : Fp} (e : ∀ a, ¬ F a) : OwAll H [] [] F
  | cons {F G L : Fp} {v : V} {vs : List V} {d : PyData} {ds : List PyData} (h : Ow H v d F) (r : OwAll H vs ds G) (n : ∀ a, F a → ¬ G a) (e : ∀ a, L a ↔ F a ∨ G a) : OwAll H (v :: vs) (d :: ds) L
end
/-- all that stands outside G is as it was -/
def Off (G : Fp) (H H' : Hp) : Prop := ∀ a o, H a = some o → ¬ G a → H' a = some o
theorem Off.refl (G : Fp) (H : Hp) : Off G H H := fun _ _ h _ => h
theorem Off.mono {F G : Fp} {H H' : Hp} (h : Off F H H') (s : ∀ a, F a → G a) : Off G H H' := fun a o e n => h a o e fun z => n (s a z)
theorem Off.trans {G : Fp} {H H1 H2 : Hp} (a : Off G H H1) (b : Off G H1 H2) : Off G H H2 := fun c o e n => b c o (a c o e n) n
theorem Off.new {G : Fp} {H : Hp} {p : Addr} {o : HO} (n : H p = none) : Off G H (upd H p o) := fun a u e _ => by
  rw [upd_ne (ne_of_none e n)]
  exact e
theorem Off.upd {G : Fp} {H : Hp} {p : Addr} {o : HO} (g : G p) : Off G H (upd H p o) := fun a u e n => by
  rw [upd_ne fun z => n (by rw [z]; exact g)]
  exact e
section
variable {H H' : Hp} {K : PySem.W.Frag}
mutual
theorem Ow.dom : ∀ {v : V} {d : PyData} {F : Fp}, Ow H v d F → ∀ a, F a → ∃ xs, H a = some (.lst xs)
  | _, _, _, .non e, a, h => (e a h).elim
  | _, _, _, .bl _ e, a, h => (e a h).elim
  | _, _, _, .int _ e, a, h => (e a h).elim
  | _, _, _, .str _ e, a, h => (e a h).elim
  | _, _, _, .lst h0 r _ e, a, h => by
    rcases (e a).mp h with rfl | h
    · exact ⟨_, h0⟩
    · exact r.dom a h
  | _, _, _, .tup _ r, a, h => r.dom a h
theorem OwAll.dom : ∀ {vs : List V} {ds : List PyData} {F : Fp}, OwAll H vs ds F → ∀ a, F a → ∃ xs, H a = some (.lst xs)
  | _, _, _, .nil e, a, h => (e a h).elim
  | _, _, _, .cons h0 r _ e, a, h => by
    rcases (e a).mp h with h | h
    · exact h0.dom a h
    · exact r.dom a h
end
mutual
theorem Ow.keep {G : Fp} (k : Off G H H') (hG : ∀ a, G a → ∃ xs, H a = some (.lst xs)) : ∀ {v : V} {d : PyData} {F : Fp}, Ow H v d F → (∀ a, F a → ¬ G a) → Ow H' v d F
  | _, _, _, .non e, _ => .non e
  | _, _, _, .bl b e, _ => .bl b e
  | _, _, _, .int i e, _ => .int i e
  | _, _, _, .str x e, _ => .str x e
  | _, _, _, .lst h0 r n e, s => .lst (k _ _ h0 (s _ ((e _).mpr (.inl rfl)))) (r.keep k hG fun a z => s a ((e a).mpr (.inr z))) n e
  | _, _, _, .tup h0 r, s => .tup (k _ _ h0 fun z => by
      obtain ⟨xs, q⟩ := hG _ z
      rw [h0] at q
      cases q) (r.keep k hG s)
theorem OwAll.keep {G : Fp} (k : Off G H H') (hG : ∀ a, G a → ∃ xs, H a = some (.lst xs)) : ∀ {vs : List V} {ds : List PyData} {F : Fp}, OwAll H vs ds F → (∀ a, F a → ¬ G a) → OwAll H' vs ds F
  | _, _, _, .nil e, _ => .nil e
  | _, _, _, .cons h0 r n e, s => .cons (h0.keep k hG fun a z => s a ((e a).mpr (.inl z))) (r.keep k hG fun a z => s a ((e a).mpr (.inr z))) n e
end
mutual
theorem Ow.dp : ∀ {v : V} {d : PyData} {F : Fp}, Ow H v d F → Dp K H v d
  | _, _, _, .non _ => .non
  | _, _, _, .bl b _ => .bl b
  | _, _, _, .int i _ => .int i
  | _, _, _, .str x _ => .str x
  | _, _, _, .lst h0 r _ _ => .lst (SqL.of h0) r.dp
  | _, _, _, .tup h0 r => .tup (SqT.of h0) r.dp
theorem OwAll.dp : ∀ {vs : List V} {ds : List PyData} {F : Fp}, OwAll H vs ds F → DpAll K H vs ds
  | _, _, _, .nil _ => .nil
  | _, _, _, .cons h0 r _ _ => .cons h0.dp r.dp
end
theorem OwAll.length : ∀ {vs : List V} {ds : List PyData} {F : Fp}, OwAll H vs ds F → vs.length = ds.length
  | _, _, _, .nil _ => rfl
  | _, _, _, .cons _ r _ _ => congrArg Nat.succ r.length
theorem OwAll.congr : ∀ {vs : List V} {ds : List PyData} {F G : Fp}, OwAll H vs ds F → (∀ a, G a ↔ F a) → OwAll H vs ds G
  | _, _, _, _, .nil e, h => .nil fun a z => e a ((h a).mp z)
  | _, _, _, _, .cons h0 r n e, h => .cons h0 r n fun a => (h a).trans (e a)
theorem Ow.congr : ∀ {v : V} {d : PyData} {F G : Fp}, Ow H v d F → (∀ a, G a ↔ F a) → Ow H v d G
  | _, _, _, _, .non e, h => .non fun a z => e a ((h a).mp z)
  | _, _, _, _, .bl b e, h => .bl b fun a z => e a ((h a).mp z)
  | _, _, _, _, .int i e, h => .int i fun a z => e a ((h a).mp z)
  | _, _, _, _, .str x e, h => .str x fun a z => e a ((h a).mp z)
  | _, _, _, _, .lst h0 r n e, h => .lst h0 r n fun a => (h a).trans (e a)
  | _, _, _, _, .tup h0 r, h => .tup h0 (r.congr h)
theorem OwAll.snoc : ∀ {vs : List V} {ds : List PyData} {v : V} {d : PyData} {F G L : Fp}, OwAll H vs ds F → Ow H v d G → (∀ a, F a → ¬ G a) → (∀ a, L a ↔ F a ∨ G a) → OwAll H (vs ++ [v]) (ds ++ [d]) L
  | _, _, _, _, _, _, _, .nil e, h, n, l => .cons (h.congr fun a => (l a).trans ⟨fun z => z.elim (fun y => (e a y).elim) id, .inr⟩) (.nil (F := fun _ => False) fun _ z => z) (fun _ _ z => z) fun a => ⟨.inl, fun z => z.elim id False.elim⟩
  | _, _, _, _, F, G, L, .cons (F := F1) (G := G1) h0 r n0 e, h, n, l =>
    .cons (G := fun a => G1 a ∨ G a) h0 (r.snoc h (fun a z => n a ((e a).mpr (.inr z))) fun a => Iff.rfl)
      (fun a z y => y.elim (n0 a z) (n a ((e a).mpr (.inl z)))) fun a => (l a).trans ((or_congr (e a) Iff.rfl).trans or_assoc)
theorem OwAll.reverse : ∀ {vs : List V} {ds : List PyData} {F : Fp}, OwAll H vs ds F → OwAll H vs.reverse ds.reverse F
  | _, _, _, .nil e => .nil e
  | _, _, _, .cons h0 r n e => by
    rw [List.reverse_cons, List.reverse_cons]
    exact r.reverse.snoc h0 (fun a z y => n a y z) fun a => (e a).trans or_comm
/-- one item of it, and what changes when it is changed in place -/
theorem OwAll.at_ : ∀ {vs : List V} {ds : List PyData} {F : Fp} {i : Nat} {v : V}, OwAll H vs ds F → vs[i]? = some v →
    ∃ (d : PyData) (E : Fp), ds[i]? = some d ∧ Ow H v d E ∧ (∀ a, E a → F a) ∧ ∀ (H' : Hp) (d' : PyData), Ow H' v d' E → Off E H H' → OwAll H' vs (ds.set i d') F
  | _, _, _, i, v, .nil e, h => by simp at h
  | _, _, _, 0, v, .cons (F := F1) h0 r n e, h => by
    have hv := Option.some.inj h
    subst hv
    exact ⟨_, F1, rfl, h0, fun a z => (e a).mpr (.inl z), fun H' d' o k => .cons o (r.keep k (fun a z => h0.dom a z) fun a z y => n a y z) n e⟩
  | _, _, _, i + 1, v, .cons h0 r n e, h => by
    obtain ⟨d, E, e1, o, s, f⟩ := r.at_ (i := i) (v := v) (by simpa using h)
    exact ⟨d, E, by simpa using e1, o, fun a z => (e a).mpr (.inr (s a z)), fun H' d' o' k =>
      .cons (h0.keep k (fun a z => o.dom a z) fun a z y => n a z (s a y)) (f H' d' o' k) n e⟩
end

/-! ### sizes -/
/-- data whose texts have at most b signs; ms: how many items there are at most, level by level -/
def Fit (b : Nat) : List Nat → PyData → Prop
  | _, .none => True
  | _, .bool _ => True
  | _, .int i => i.natAbs < 2 ^ 110
  | _, .str x => x.length ≤ b ∧ ∀ c ∈ x.cps.toList, c < 16 ^ 8
  | [], _ => False
  | m :: ms, .list ds => ds.length ≤ m ∧ ∀ d ∈ ds, Fit b ms d
  | m :: ms, .tuple ds => ds.length ≤ m ∧ ∀ d ∈ ds, Fit b ms d
  | _ :: _, .dict _ => False
def big (b : Nat) : List Nat → Nat
  | [] => 10 * b + 200
  | m :: ms => 10 * b + 200 + m * (big b ms + 2)
theorem textFrom_most : ∀ (ts : List Str) (k b : Nat) (acc : Str), (∀ t ∈ ts, t.length ≤ b) → (textFrom k acc ts).length ≤ acc.length + ts.length * (b + 2)
  | [], _, b, acc, _ => by show acc.length ≤ _; omega
  | t :: ts, k, b, acc, h => by
    have ih := textFrom_most ts (k + 1) b (acc ++ (if k > 0 then ", " else "" : String) ++ t) fun x hx => h x (List.mem_cons_of_mem _ hx)
    have ht := h t List.mem_cons_self
    have e : (acc ++ (if k > 0 then ", " else "" : String) ++ t).length ≤ acc.length + 2 + t.length := by
      rw [strLen_append, strLen_append]
      split
      · have : ((", " : String) : Str).length = 2 := rfl
        omega
      · have : (("" : String) : Str).length = 0 := rfl
        omega
    show (textFrom (k + 1) (acc ++ (if k > 0 then ", " else "" : String) ++ t) ts).length ≤ _
    rw [List.length_cons, Nat.add_mul]
    omega
theorem listText_most {ts : List Str} {b : Nat} (h : ∀ t ∈ ts, t.length ≤ b) : (listText ts).length ≤ 2 + ts.length * (b + 2) := by
  have := textFrom_most ts 0 b "[" h
  have e1 : (("[" : String) : Str).length = 1 := rfl
  have e2 : (("]" : String) : Str).length = 1 := rfl
  show (textFrom 0 "[" ts ++ "]").length ≤ _
  rw [strLen_append]
  omega
theorem piled_most : ∀ (ts : List Str) (b : Nat), (∀ t ∈ ts, t.length ≤ b) → piled ts ≤ ts.length * (b + 2)
  | [], b, _ => Nat.zero_le _
  | t :: ts, b, h => by
    have ih := piled_most ts b fun x hx => h x (List.mem_cons_of_mem _ hx)
    have ht := h t List.mem_cons_self
    rw [List.length_cons, Nat.add_mul]
    show (t.length + 2) + piled ts ≤ _
    omega
theorem tupleText_most {ts : List Str} {b : Nat} (h : ∀ t ∈ ts, t.length ≤ b) : (tupleText ts).length ≤ 3 + ts.length * (b + 2) := by
  have p := piled_most ts b h
  have e1 : (("(" : String) : Str).length = 1 := rfl
  have e2 : ((",)" : String) : Str).length = 2 := rfl
  have e3 : ((")" : String) : Str).length = 1 := rfl
  have j : (Str.join ", " ts).length ≤ piled ts := by
    by_cases z : ts = []
    · subst z
      exact Nat.zero_le _
    · have := join_length_add ts z
      omega
  show (("(" : Str) ++ Str.join ", " ts ++ (if ts.length == 1 then ",)" else ")" : String)).length ≤ _
  rw [strLen_append, strLen_append]
  split <;> omega
theorem shownAll_mem : ∀ {ds : List PyData} {t : Str}, t ∈ PyData.shownAll ds → ∃ d ∈ ds, t = d.shown
  | [], t, h => by simp [PyData.shownAll] at h
  | d :: ds, t, h => by
    simp only [PyData.shownAll, List.mem_cons] at h
    rcases h with h | h
    · exact ⟨d, List.mem_cons_self, h⟩
    · obtain ⟨e, he, q⟩ := shownAll_mem h
      exact ⟨e, List.mem_cons_of_mem _ he, q⟩
theorem shownAll_length : ∀ ds : List PyData, (PyData.shownAll ds).length = ds.length
  | [] => by simp [PyData.shownAll]
  | d :: ds => by simp [PyData.shownAll, shownAll_length ds]
theorem showableAll_of : ∀ {ds : List PyData}, (∀ d ∈ ds, d.showable = true) → PyData.showableAll ds = true
  | [], _ => by simp [PyData.showableAll]
  | d :: ds, h => by
    simp only [PyData.showableAll, Bool.and_eq_true]
    exact ⟨h d List.mem_cons_self, showableAll_of fun e he => h e (List.mem_cons_of_mem _ he)⟩
theorem hasDictAll_of : ∀ {ds : List PyData}, (∀ d ∈ ds, d.hasDict = false) → PyData.hasDictAll ds = false
  | [], _ => by simp [PyData.hasDictAll]
  | d :: ds, h => by
    simp only [PyData.hasDictAll, Bool.or_eq_false_iff]
    exact ⟨h d List.mem_cons_self, hasDictAll_of fun e he => h e (List.mem_cons_of_mem _ he)⟩
theorem depthAll_of {n : Nat} : ∀ {ds : List PyData}, (∀ d ∈ ds, d.depth ≤ n) → PyData.depthAll ds ≤ n
  | [], _ => by simp [PyData.depthAll]
  | d :: ds, h => by
    have h1 := h d List.mem_cons_self
    have h2 := depthAll_of fun e he => h e (List.mem_cons_of_mem _ he)
    simp only [PyData.depthAll]
    omega
/-- what repr asks of such data -/
structure ReprOk (n b : Nat) (d : PyData) : Prop where
  sh : d.showable = true
  nd : d.hasDict = false
  dp : d.depth ≤ n
  sz : d.shown.length ≤ b
theorem big_le (b : Nat) : ∀ ms, 10 * b + 200 ≤ big b ms
  | [] => Nat.le_refl _
  | _ :: _ => Nat.le_add_right _ _
theorem Fit.ok {b : Nat} : ∀ {ms : List Nat} {d : PyData}, Fit b ms d → ReprOk ms.length (big b ms) d
  | ms, .none, _ => ⟨by simp [PyData.showable], by simp [PyData.hasDict], by simp [PyData.depth], by
      simp only [PyData.shown]
      exact Nat.le_trans (Nat.le_trans (by decide : _ ≤ 200) (Nat.le_add_left _ _)) (big_le b ms)⟩
  | ms, .bool c, _ => ⟨by simp [PyData.showable], by simp [PyData.hasDict], by simp [PyData.depth], by
      simp only [PyData.shown]
      exact Nat.le_trans (Nat.le_trans (by cases c <;> decide : _ ≤ 200) (Nat.le_add_left _ _)) (big_le b ms)⟩
  | ms, .int i, h => by
    have h : i.natAbs < 2 ^ 110 := by cases ms <;> exact h
    have l := PySem.Flt.log2_lt_of (n := i.natAbs) (k := 110) (by decide) h
    refine ⟨?_, by simp [PyData.hasDict], by simp [PyData.depth], ?_⟩
    · simp only [PyData.showable]
      exact decide_eq_true (by omega)
    · simp only [PyData.shown]
      have q : (Str.ofString (toString i)).length ≤ 110 + 1 := by
        rw [PySem.ofString_length]
        exact int_text_length_le (a := i) (k := 110) (by decide) l
      exact Nat.le_trans q (Nat.le_trans (Nat.le_trans (by decide : 110 + 1 ≤ 200) (Nat.le_add_left _ _)) (big_le b ms))
  | ms, .str x, h => by
    have h : x.length ≤ b ∧ ∀ c ∈ x.cps.toList, c < 16 ^ 8 := by cases ms <;> exact h
    refine ⟨by simp [PyData.showable], by simp [PyData.hasDict], by simp [PyData.depth], ?_⟩
    simp only [PyData.shown]
    have q := StrLaws.reprText_len x h.2
    exact Nat.le_trans q (Nat.le_trans (by omega : _ ≤ 10 * b + 200) (big_le b ms))
  | [], .list _, h => h.elim
  | [], .tuple _, h => h.elim
  | [], .dict _, h => h.elim
  | _ :: _, .dict _, h => h.elim
  | m :: ms, .list ds, ⟨h1, h2⟩ => by
    have all : ∀ d ∈ ds, ReprOk ms.length (big b ms) d := fun d hd => (h2 d hd).ok
    refine ⟨?_, ?_, ?_, ?_⟩
    · simp only [PyData.showable]
      exact showableAll_of fun d hd => (all d hd).sh
    · simp only [PyData.hasDict]
      exact hasDictAll_of fun d hd => (all d hd).nd
    · have := depthAll_of fun d hd => (all d hd).dp
      simp only [PyData.depth, List.length_cons]
      omega
    · simp only [PyData.shown]
      have q := listText_most (ts := PyData.shownAll ds) (b := big b ms) fun t ht => by
        obtain ⟨d, hd, rfl⟩ := shownAll_mem ht
        exact (all d hd).sz
      rw [shownAll_length] at q
      have z := Nat.mul_le_mul_right (big b ms + 2) h1
      show _ ≤ 10 * b + 200 + m * (big b ms + 2)
      omega
  | m :: ms, .tuple ds, ⟨h1, h2⟩ => by
    have all : ∀ d ∈ ds, ReprOk ms.length (big b ms) d := fun d hd => (h2 d hd).ok
    refine ⟨?_, ?_, ?_, ?_⟩
    · simp only [PyData.showable]
      exact showableAll_of fun d hd => (all d hd).sh
    · simp only [PyData.hasDict]
      exact hasDictAll_of fun d hd => (all d hd).nd
    · have := depthAll_of fun d hd => (all d hd).dp
      simp only [PyData.depth, List.length_cons]
      omega
    · simp only [PyData.shown]
      have q := tupleText_most (ts := PyData.shownAll ds) (b := big b ms) fun t ht => by
        obtain ⟨d, hd, rfl⟩ := shownAll_mem ht
        exact (all d hd).sz
      rw [shownAll_length] at q
      have z := Nat.mul_le_mul_right (big b ms + 2) h1
      show _ ≤ 10 * b + 200 + m * (big b ms + 2)
      omega
/-! ### what _law_muddle makes of data -/
mutual
def mud : PyData → PyData
  | .list ds => .list ((mudAll ds ++ [PyData.str "muddled"]).reverse)
  | .tuple ds => .tuple (mudAll ds)
  | d => d
def mudAll : List PyData → List PyData
  | [] => []
  | d :: ds => mud d :: mudAll ds
end
theorem mudAll_map : ∀ ds : List PyData, mudAll ds = ds.map mud
  | [] => by simp [mudAll]
  | d :: ds => by simp [mudAll, mudAll_map ds]
theorem Fit.mono {b b' : Nat} (hb : b ≤ b') : ∀ {ms : List Nat} {d : PyData}, Fit b ms d → Fit b' ms d
  | ms, .none, _ => by cases ms <;> trivial
  | ms, .bool _, _ => by cases ms <;> trivial
  | ms, .int i, h => by cases ms <;> exact h
  | ms, .str x, h => by cases ms <;> exact ⟨Nat.le_trans h.1 hb, h.2⟩
  | [], .list _, h => h.elim
  | [], .tuple _, h => h.elim
  | [], .dict _, h => h.elim
  | _ :: _, .dict _, h => h.elim
  | m :: ms, .list ds, ⟨h1, h2⟩ => ⟨h1, fun d hd => (h2 d hd).mono hb⟩
  | m :: ms, .tuple ds, ⟨h1, h2⟩ => ⟨h1, fun d hd => (h2 d hd).mono hb⟩
/-- one more in each list -/
def more (ms : List Nat) : List Nat := ms.map (· + 1)
theorem Fit.mud {b : Nat} (hb : 7 ≤ b) : ∀ {ms : List Nat} {d : PyData}, Fit b ms d → Fit b (more ms) (KV.mud d)
  | ms, .none, _ => by cases ms <;> simp [KV.mud, Fit, more]
  | ms, .bool _, _ => by cases ms <;> simp [KV.mud, Fit, more]
  | ms, .int i, h => by cases ms <;> (simp only [KV.mud, more, List.map_cons, List.map_nil]; exact h)
  | ms, .str x, h => by cases ms <;> (simp only [KV.mud, more, List.map_cons, List.map_nil]; exact h)
  | [], .list _, h => h.elim
  | [], .tuple _, h => h.elim
  | [], .dict _, h => h.elim
  | _ :: _, .dict _, h => h.elim
  | m :: ms, .list ds, ⟨h1, h2⟩ => by
    simp only [KV.mud]
    refine ⟨by simp [mudAll_map]; omega, fun d hd => ?_⟩
    rw [List.mem_reverse, List.mem_append, mudAll_map, List.mem_map] at hd
    rcases hd with ⟨e, he, rfl⟩ | hd
    · exact (h2 e he).mud hb
    · have hd := List.mem_singleton.mp hd
      subst hd
      have e7 : ("muddled" : Str).length = 7 := by decide +kernel
      have z : ("muddled" : Str).length ≤ b ∧ ∀ c ∈ ("muddled" : Str).cps.toList, c < 16 ^ 8 := ⟨by omega, by decide +kernel⟩
      cases ms <;> exact z
  | m :: ms, .tuple ds, ⟨h1, h2⟩ => by
    simp only [KV.mud]
    refine ⟨by simp [mudAll_map]; omega, fun d hd => ?_⟩
    rw [mudAll_map, List.mem_map] at hd
    obtain ⟨e, he, rfl⟩ := hd
    exact (h2 e he).mud hb

/-! ### a list that grows by new data -/
/-- at D: a new list of the data ds, its lists new; nothing else of H but G has changed -/
def Grow (G : Fp) (H : Hp) (D : Addr) (ds : List PyData) (H' : Hp) : Prop := ∃ acc FA, H' D = some (.lst acc) ∧ OwAll H' acc ds FA ∧ ¬ FA D ∧ (∀ b, FA b → H b = none) ∧ Off G H H'
theorem Grow.start {G : Fp} {H : Hp} {D : Addr} (h : H D = none) : Grow G H D [] (upd H D (.lst [])) :=
  ⟨[], fun _ => False, upd_same, .nil fun _ z => z, fun z => z, fun _ z => z.elim, Off.new h⟩
theorem Grow.len {G : Fp} {H H' : Hp} {D : Addr} {ds : List PyData} (g : Grow G H D ds H') : ∃ acc, H' D = some (.lst acc) ∧ acc.length = ds.length := by
  obtain ⟨acc, FA, h1, h2, _⟩ := g
  exact ⟨acc, h1, h2.length⟩
theorem Off.none {G : Fp} {H H' : Hp} (k : Off G H H') {a : Addr} (h : H' a = none) (n : ¬ G a) : H a = none := by
  cases q : H a with
  | none => rfl
  | some o =>
    have z := k a o q n
    rw [h] at z
    cases z
theorem Grow.step {G : Fp} {H H' H4 : Hp} {D : Addr} {ds : List PyData} {v : V} {d : PyData} {F : Fp} (g : Grow G H D ds H') (hD : H D = none) (hG0 : ∀ a, G a → H a ≠ none) (hG1 : ∀ a, G a → ∃ xs, H' a = some (.lst xs))
    (o : Ow H4 v d F) (hF : ∀ a, F a → H' a = none) (k : Off G H' H4) : ∃ acc, H4 D = some (.lst acc) ∧ acc.length = ds.length ∧ Grow G H D (ds ++ [d]) (upd H4 D (.lst (acc ++ [v]))) := by
  obtain ⟨acc, FA, h1, h2, h3, h4, h5⟩ := g
  have nD : ¬ G D := fun z => hG0 D z hD
  have e4 := k _ _ h1 nD
  refine ⟨acc, e4, h2.length, acc ++ [v], fun b => FA b ∨ F b, upd_same, ?_, ?_, ?_, ?_⟩
  · have b1 : OwAll H4 acc ds FA := h2.keep k hG1 fun a z y => hG0 a y (h4 a z)
    have kD : Off (fun a => a = D) H4 (upd H4 D (.lst (acc ++ [v]))) := Off.upd rfl
    have hgD : ∀ a, a = D → ∃ xs, H4 a = some (.lst xs) := fun a z => ⟨acc, by rw [z]; exact e4⟩
    refine OwAll.snoc (b1.keep kD hgD fun a z y => h3 (y ▸ z)) (o.keep kD hgD fun a z y => ?_) (fun a z y => ?_) fun a => Iff.rfl
    · have q := hF a z
      rw [y, h1] at q
      cases q
    · obtain ⟨xs, q⟩ := h2.dom a z
      rw [hF a y] at q
      cases q
  · rintro (z | z)
    · exact h3 z
    · have q := hF D z
      rw [h1] at q
      cases q
  · rintro b (z | z)
    · exact h4 b z
    · have q := hF b z
      exact h5.none q fun y => by
        obtain ⟨xs, q2⟩ := hG1 b y
        rw [q] at q2
        cases q2
  · intro a u e n
    rw [upd_ne fun z => by rw [z, hD] at e; cases e]
    exact k _ _ (h5 a u e n) n
theorem Grow.list {G : Fp} {H H' : Hp} {D : Addr} {ds : List PyData} (g : Grow G H D ds H') (hD : H D = Option.none) : ∃ F, Ow H' (.ref D) (.list ds) F ∧ (∀ a, F a → H a = Option.none) ∧ Off G H H' := by
  obtain ⟨acc, FA, h1, h2, h3, h4, h5⟩ := g
  exact ⟨fun b => b = D ∨ FA b, .lst h1 h2 h3 fun _ => Iff.rfl, fun a z => z.elim (fun y => y ▸ hD) (h4 a), h5⟩
theorem Grow.tuple {G : Fp} {H H' : Hp} {D p : Addr} {ds : List PyData} {acc : List V} (g : Grow G H D ds H') (e : H' D = some (.lst acc)) (hp : H' p = Option.none) :
    ∃ F, Ow (upd H' p (.tup acc)) (.ref p) (.tuple ds) F ∧ (∀ a, F a → H a = Option.none) ∧ Off G H (upd H' p (.tup acc)) := by
  obtain ⟨acc', FA, h1, h2, h3, h4, h5⟩ := g
  rw [e] at h1
  have e1 : acc = acc' := HO.lst.inj (Option.some.inj h1)
  subst e1
  exact ⟨FA, .tup upd_same (h2.keep (G := fun _ => False) (Off.new hp) (fun _ z => z.elim) fun _ _ z => z), h4, h5.trans (Off.new hp)⟩

/-! ### data that is read -/
section
variable {K : PySem.W.Frag} {H H' : Hp}
theorem sqL_off {a : Addr} {xs : List V} (k : Off (fun _ => False) H H') (h : SqL K H a xs) : SqL K H' a xs := by
  rcases h with (h | ⟨o, h⟩) | h
  · exact .inl (.inl (k _ _ h fun z => z))
  · exact .inl (.inr ⟨o, k _ _ h fun z => z⟩)
  · exact .inr h
theorem sqT_off {a : Addr} {xs : List V} (k : Off (fun _ => False) H H') (h : SqT K H a xs) : SqT K H' a xs := by
  rcases h with (h | ⟨o, h⟩) | h
  · exact .inl (.inl (k _ _ h fun z => z))
  · exact .inl (.inr ⟨o, k _ _ h fun z => z⟩)
  · exact .inr h
mutual
theorem dp_off (k : Off (fun _ => False) H H') : ∀ {v : V} {d : PyData}, Dp K H v d → Dp K H' v d
  | _, _, .non => .non
  | _, _, .bl b => .bl b
  | _, _, .int i => .int i
  | _, _, .str x => .str x
  | _, _, .lst h r => .lst (sqL_off k h) (dpAll_off k r)
  | _, _, .tup h r => .tup (sqT_off k h) (dpAll_off k r)
theorem dpAll_off (k : Off (fun _ => False) H H') : ∀ {vs : List V} {ds : List PyData}, DpAll K H vs ds → DpAll K H' vs ds
  | _, _, .nil => .nil
  | _, _, .cons h r => .cons (dp_off k h) (dpAll_off k r)
end
theorem dpAll_length : ∀ {vs : List V} {ds : List PyData}, DpAll K H vs ds → vs.length = ds.length
  | _, _, .nil => rfl
  | _, _, .cons _ r => congrArg Nat.succ (dpAll_length r)
theorem dpAll_at : ∀ {vs : List V} {ds : List PyData} {i : Nat} {v : V}, DpAll K H vs ds → vs[i]? = some v → ∃ d, ds[i]? = some d ∧ Dp K H v d
  | _, _, _, _, .nil, h => by simp at h
  | _, _, 0, _, .cons h0 r, h => by
    have hv := Option.some.inj h
    subst hv
    exact ⟨_, rfl, h0⟩
  | _, _, i + 1, v, .cons h0 r, h => by
    obtain ⟨d, e, q⟩ := dpAll_at (i := i) (v := v) r (by simpa using h)
    exact ⟨d, by simpa using e, q⟩
/-- .. by the data -/
theorem dpAll_at' : ∀ {vs : List V} {ds : List PyData} {i : Nat} {d : PyData}, DpAll K H vs ds → ds[i]? = some d → ∃ v, vs[i]? = some v ∧ Dp K H v d
  | _, _, _, _, .nil, h => by simp at h
  | _, _, 0, _, .cons h0 r, h => by
    have hv := Option.some.inj h
    subst hv
    exact ⟨_, rfl, h0⟩
  | _, _, i + 1, d, .cons h0 r, h => by
    obtain ⟨v, e, q⟩ := dpAll_at' (i := i) (d := d) r (by simpa using h)
    exact ⟨v, by simpa using e, q⟩
end
end KV
set_option Elab.async false
set_option linter.all false
set_option maxRecDepth 100000
namespace LW
open PySem PySem.Spec PyProof.Rows L2 KV
def top (i : Nat) : Stmt := PySem.Challenge.pw_keysthrough_k03_books_that_are_none.main.body.getD i (.Pass ⟨0, 0, 0, 0⟩)
abbrev pWall : Stmt := top 0
abbrev cKeyTellError : Stmt := top 2
abbrev pKeyTellError_init : Stmt := inClass (top 2) 0
abbrev cInvalidName : Stmt := top 3
abbrev cDoubleName : Stmt := top 4
abbrev cUnknownTable : Stmt := top 5
abbrev cUnknownColumn : Stmt := top 6
abbrev cInvalidRule : Stmt := top 7
abbrev cInvalidRow : Stmt := top 8
abbrev cInvalidQuestion : Stmt := top 9
abbrev cBrokenRule : Stmt := top 10
abbrev cNoSuchRow : Stmt := top 11
abbrev cNothingToUndo : Stmt := top 12
abbrev cUnreadable : Stmt := top 13
abbrev cBook : Stmt := top 17
abbrev pBook_init : Stmt := inClass (top 17) 0
abbrev pBook_tables : Stmt := inClass (top 17) 1
abbrev pBook_rules : Stmt := inClass (top 17) 2
abbrev pBook_len : Stmt := inClass (top 17) 3
abbrev pBook_getitem : Stmt := inClass (top 17) 4
abbrev pBook_iter : Stmt := inClass (top 17) 5
abbrev pBook_eq : Stmt := inClass (top 17) 6
abbrev pBook_with_rules : Stmt := inClass (top 17) 7
abbrev pBook_without : Stmt := inClass (top 17) 8
abbrev pCheckTables : Stmt := top 18
abbrev pCheckColumns : Stmt := top 19
abbrev pCheckName : Stmt := top 20
abbrev pCheckRule : Stmt := top 21
abbrev pIsName : Stmt := top 22
abbrev pHasForm : Stmt := top 23
abbrev pCopied : Stmt := top 24
abbrev sPurse : Stmt := top 26
abbrev sCoin : Stmt := top 27
abbrev sWords : Stmt := top 28
abbrev sDrawnTables : Stmt := top 29
abbrev sDrawnRules : Stmt := top 30
abbrev sCopied : Stmt := top 31
abbrev sMuddle : Stmt := top 32
abbrev sOwn : Stmt := top 33
abbrev sKinds : Stmt := top 34
abbrev sErrorRight : Stmt := top 35
abbrev sIsTitle : Stmt := top 36
abbrev sBadTitle : Stmt := top 37
abbrev sBentTables : Stmt := top 38
abbrev sBentRule : Stmt := top 39
abbrev sBentRules : Stmt := top 40
abbrev sWrongRule : Stmt := top 41
abbrev sWrongBook : Stmt := top 42
abbrev sCaughtOf : Stmt := top 43
abbrev sRight : Stmt := top 44
abbrev sLaw : Stmt := top 45
abbrev FnP (K : PySem.W.Frag) (x : Str) (st : Stmt) (f : Addr) (fd : FuncData) : Prop := FunD K x x (defArgs st) (defBody st) (defScope st) [] [] f fd
end LW
set_option Elab.async false
set_option linter.all false
set_option maxRecDepth 100000
set_option maxHeartbeats 4000000
namespace LW
open PySem PySem.Spec PyProof.Rows L2 KV
/-- at p: a purse, from which at most c numbers were stirred -/
def Pu (H : Hp) (p : Addr) (c : Nat) : Prop := ∃ a b n : Int, H p = some (.lst [.int a, .int b, .int n]) ∧ 0 ≤ a ∧ 0 ≤ b ∧ b < 1000000000000000000000007 ∧ 0 ≤ n ∧ n ≤ (c : Int)
/-- all but p is as it was -/
def But (p : Addr) (H H' : Hp) : Prop := ∀ b, b ≠ p → H' b = H b
theorem Pu.mono {H : Hp} {p : Addr} {c d : Nat} (h : Pu H p c) (e : c ≤ d) : Pu H p d := by
  obtain ⟨a, b, n, h1, h2, h3, h4, h5, h6⟩ := h
  exact ⟨a, b, n, h1, h2, h3, h4, h5, by omega⟩
theorem Pu.at {H H' : Hp} {p : Addr} {c : Nat} (h : Pu H p c) (e : H' p = H p) : Pu H' p c := by
  obtain ⟨a, b, n, h1, h2⟩ := h
  exact ⟨a, b, n, e.trans h1, h2⟩

def spPurse (K : PySem.W.Frag) : Sp := fun vs H Q _ => ∃ (a : Addr) (ns : List Int) (i : Int), vs = [.ref a, .int i] ∧ SqL K H a (ns.map V.int) ∧ 0 ≤ i ∧ i ≤ 100 ∧
  ∀ p, H p = none → ∀ H', Pu H' p 0 → But p H H' → Q (.ref p) H'
def spCoin : Sp := fun vs H Q _ => ∃ (p : Addr) (m : Int) (c : Nat), vs = [.ref p, .int m] ∧ Pu H p c ∧ c ≤ 1000000000 ∧ 0 < m ∧ m ≤ 1000000000000000000000000000000 ∧
  ∀ i H', 0 ≤ i → i < m → Pu H' p (c + 1) → But p H H' → Q (.int i) H'

section
variable {P : Program} {w : World} {K : PySem.W.Frag} {mg : Str → Option Value} {base : Heap}
theorem scPurse : FnScope ["script", "place", "cell"] ["script", "place"] (defScope sPurse) := ⟨rfl, rfl, rfl, by decide +kernel, rfl, by decide +kernel, by decide +kernel⟩
theorem ok_purse {f : Addr} {fd : FuncData} (F : FnP K "_law_purse" sPurse f fd) (ml : mg "len" = none) (mm : mg "max" = none) (ma : mg "abs" = none) (mi : mg "int" = none) :
    FnOk P w K mg base CX0 1 f fd ["script", "place"] (spPurse K) := by
  refine F.ok scPurse (fun vs H Q E h => ?_) (fun cdv A outer s H vs Q E hr h => ?_)
  · obtain ⟨a, ns, i, rfl, _⟩ := h
    rfl
  obtain ⟨a, ns, i, rfl, hS, h0, h1, q⟩ := h
  refine ⟨_, pss_cons (ps_set (i := 2) scPurse.nd rfl (Or.inl rfl) (pe_ifExp (pt_cmpR op_lt (pv 1) (pe_callB call_len_seq rfl ml boot_len (pa_cons (pv 0) pa_nil)) (nomark _))
      (pe_ix ix_list (pv 0) (pv 1) (fun _ _ => rfl)) pe_int))
    (pss_one (ps_ret (pe_lst (pa_cons (pe_callB (call_max2 rfl) rfl mm boot_max (pa_cons pe_int (pa_cons (pe_op op_sub (pe_callB call_abs rfl ma boot_abs (pa_cons (pv 2) pa_nil)) (pe_op op_pow pe_int pe_int)) pa_nil)))
      (pa_cons (pe_op op_mod (pe_callTy call_int1 rfl mi (by decide +kernel) (pa_cons (pe_op op_add (pe_op op_add (pe_op op_mul (pv 2) pe_int) (pe_op op_mul (pv 1) pe_int)) pe_int) pa_nil)) (pe_op op_add (pe_op op_pow pe_int pe_int) pe_int))
      (pa_cons pe_int pa_nil)))))), ?_⟩
  have hl : (ns.map V.int).length = ns.length := List.length_map _
  have fin : ∀ z : Int, ∀ p, H p = none → Q (.ref p) (upd H p (.lst [.int (if (if z < 0 then -z else z) - (10 : Int) ^ (18 : Int).toNat > 0 then (if z < 0 then -z else z) - (10 : Int) ^ (18 : Int).toNat else 0),
      .int ((z * 30011 + i * 7368787 + 104729) % ((10 : Int) ^ (24 : Int).toNat + 7)), .int 0])) := by
    intro z p hp
    have e : (10 : Int) ^ (24 : Int).toNat + 7 = 1000000000000000000000007 := by decide
    rw [e]
    refine q p hp _ ⟨_, _, _, upd_same, ?_, Int.emod_nonneg _ (by decide), Int.emod_lt_of_pos _ (by decide), Int.le_refl _, Int.le_refl _⟩ fun b hb => upd_ne hb
    split <;> omega
  refine ⟨_, rfl, _, rfl, a, _, rfl, .inl hS, _, _, rfl, rfl, _, rfl, ite2 (fun c => ?_) (fun c => ?_)⟩
  · have c' : i < (((ns.map V.int).length : Nat) : Int) := of_decide_eq_true c
    rw [hl] at c'
    have hk : i.toNat < ns.length := by omega
    have ek : i = ((i.toNat : Nat) : Int) := by omega
    have v : atI (ns.map V.int) ((i.toNat : Nat) : Int) = some (.int ns[i.toNat]) := atI_nat (by rw [List.getElem?_map, List.getElem?_eq_getElem hk] <;> rfl)
    rw [← ek] at v
    refine ⟨_, rfl, _, rfl, a, _, _, _, rfl, rfl, hS, v, ?_⟩
    exact ⟨_, rfl, _, rfl, _, _, rfl, rfl, ⟨by decide, by decide, by decide⟩, _, _, rfl, rfl, _, _, rfl, _, rfl, _, _, rfl, rfl, .inr ⟨by decide, by decide⟩, _, rfl, _, _, rfl, rfl, .inr ⟨by decide, by decide⟩, _, _, rfl, rfl, _, _, rfl, rfl,
      .inl ⟨_, rfl, _, _, rfl, rfl, ⟨by decide, by decide, by decide⟩, _, _, rfl, rfl, _, _, rfl, rfl, (by show (0 : Int) < 10 ^ Int.toNat 24 + 7; decide), by show 3 ≤ sizeLine; decide, fin _⟩⟩
  · exact ⟨_, rfl, _, rfl, _, _, rfl, rfl, ⟨by decide, by decide, by decide⟩, _, _, rfl, rfl, _, _, rfl, _, rfl, _, _, rfl, rfl, .inr ⟨by decide, by decide⟩, _, rfl, _, _, rfl, rfl, .inr ⟨by decide, by decide⟩, _, _, rfl, rfl, _, _, rfl, rfl,
      .inl ⟨_, rfl, _, _, rfl, rfl, ⟨by decide, by decide, by decide⟩, _, _, rfl, rfl, _, _, rfl, rfl, (by show (0 : Int) < 10 ^ Int.toNat 24 + 7; decide), by show 3 ≤ sizeLine; decide, fin _⟩⟩
theorem scCoin : FnScope ["purse", "many", "drawn", "stirred"] ["purse", "many"] (defScope sCoin) := ⟨rfl, rfl, rfl, by decide +kernel, rfl, by decide +kernel, by decide +kernel⟩
/-- the bits of a number below 2 ^ 100 -/
theorem bits100 {z : Int} (h0 : 0 ≤ z) (h : z < 2 ^ 100) : (Builtin.Int.intBits z : Int) ≤ 100 := by
  unfold Builtin.Int.intBits
  split
  · omega
  · rename_i hz
    have h1 : z.natAbs < 2 ^ 100 := by
      have e : ((2 ^ 100 : Nat) : Int) = 2 ^ 100 := by decide
      omega
    have := PySem.Flt.log2_lt_of (by decide : 0 < 100) h1
    omega
theorem ok_coin {f : Addr} {fd : FuncData} (F : FnP K "_law_coin" sCoin f fd) (mi : mg "int" = none) :
    FnOk P w K mg base CX0 1 f fd ["purse", "many"] spCoin := by
  refine F.ok scCoin (fun vs H Q E h => ?_) (fun cdv A outer s H vs Q E hr h => ?_)
  · obtain ⟨p, m, c, rfl, _⟩ := h
    rfl
  obtain ⟨p, m, c, rfl, ⟨a, b, n, hp, ha, hb, hb2, hn, hn2⟩, hc, hm, hm2, q⟩ := h
  have ix : ∀ {X : Cx} (i : Int) {p1 p2 p3 : Pos} {j : Nat}, X.N[0]? = some ("purse" : Str) → Vis X.env.scope ("purse" : Str) →
      PE X (.Subscript (.Name "purse" p1) (.Constant (.int i) j p2) p3) (tOp (rIxL X.K) (tVar 0) (tC (.int i))) :=
    fun i _ _ _ _ hN hv => pe_ix ix_list (pv 0 hN hv) pe_int (fun _ _ => rfl)
  refine ⟨_, pss_cons (ps_if (pt_cmpR op_gt (ix 0 rfl (Or.inl rfl)) pe_int (nomark _))
      (pss_cons (ps_set (i := 2) scCoin.nd rfl (Or.inl rfl) (pe_op op_mod (pe_callTy call_int1 rfl mi (by decide +kernel) (pa_cons (ix 0 rfl (Or.inl rfl)) pa_nil)) (pv 1)))
      (pss_cons (ps_asg (pe_op op_fdivW (ix 0 rfl (Or.inl rfl)) (pv 1)) (pg_sub (pv 0) pe_int set_list))
      (pss_one (ps_ret (pv 2))))) pss_nil)
    (pss_cons (ps_asg (pe_op op_add (ix 2 rfl (Or.inl rfl)) pe_int) (pg_sub (pv 0) pe_int set_list))
    (pss_cons (ps_set (i := 3) scCoin.nd rfl (Or.inl rfl) (pe_op op_mod (pe_op op_powB (pe_callTy call_int1 rfl mi (by decide +kernel) (pa_cons (pe_op op_add (ix 1 rfl (Or.inl rfl)) (pe_op op_mul pe_int (ix 2 rfl (Or.inl rfl)))) pa_nil)) pe_int) (pe_op op_add (pe_op op_pow pe_int pe_int) pe_int)))
    (pss_cons (ps_set (i := 3) scCoin.nd rfl (Or.inl rfl) (pe_op op_mod (pe_op op_powB (pe_callTy call_int1 rfl mi (by decide +kernel) (pa_cons (pe_op op_add (pv 3) (pe_op op_mul pe_int (ix 2 rfl (Or.inl rfl)))) pa_nil)) pe_int) (pe_op op_add (pe_op op_pow pe_int pe_int) pe_int)))
    (pss_one (ps_ret (pe_op op_mod (pe_callTy call_int1 rfl mi (by decide +kernel) (pa_cons (pe_op op_fdiv (pv 3) pe_int) pa_nil)) (pv 1))))))), ?_⟩
  refine ⟨_, rfl, p, _, _, _, rfl, rfl, SqL.of hp, rfl, _, _, rfl, rfl, _, rfl, ite2 (fun d => ?_) (fun d => ?_)⟩
  · have cd : CDivW a m := ⟨hm, Nat.lt_trans (PySem.Flt.log2_lt_of (n := m.natAbs) (k := 100) (by decide) (by
      have e : ((2 ^ 100 : Nat) : Int) = 1267650600228229401496703205376 := by decide
      omega)) (by decide)⟩
    refine ⟨_, rfl, p, _, _, _, rfl, rfl, SqL.of hp, rfl, .inl ⟨_, rfl, _, rfl, _, _, rfl, rfl, hm, ?_⟩⟩
    refine ⟨_, rfl, p, _, _, _, rfl, rfl, SqL.of hp, rfl, _, rfl, _, _, rfl, rfl, cd, _, rfl, p, _, _, _, rfl, rfl, hp, rfl, _, rfl, ?_⟩
    exact q _ _ (Int.emod_nonneg _ (by omega)) (Int.emod_lt_of_pos _ hm) ⟨_, _, _, upd_same, Int.ediv_nonneg ha (by omega), hb, hb2, hn, by omega⟩ fun b hb => upd_ne hb
  · have e1 : (10 : Int) ^ Int.toNat 25 + 13 = 10000000000000000000000013 := by decide
    have e2 : (10 : Int) ^ Int.toNat 24 + 7 = 1000000000000000000000007 := by decide
    have hu := @upd_same H p (.lst ([V.int a, V.int b, V.int n].set 2 (.int (n + 1))))
    have g1 : CPowB (b + 2038074743 * (n + 1)) 3 := ⟨by decide, by have := bits100 (z := b + 2038074743 * (n + 1)) (by omega) (by omega); omega⟩
    have z1 := Int.emod_nonneg ((b + 2038074743 * (n + 1)) ^ Int.toNat 3) (by decide : (10 : Int) ^ Int.toNat 25 + 13 ≠ 0)
    have z2 := Int.emod_lt_of_pos ((b + 2038074743 * (n + 1)) ^ Int.toNat 3) (by decide : (0 : Int) < (10 : Int) ^ Int.toNat 25 + 13)
    have g2 : ∀ y : Int, 0 ≤ y → y < (10 : Int) ^ Int.toNat 25 + 13 → CPowB (y + 982451653 * (n + 1)) 2 := fun y h1 h2 =>
      ⟨by decide, by have := bits100 (z := y + 982451653 * (n + 1)) (by omega) (by omega); omega⟩
    refine ⟨_, rfl, p, _, _, _, rfl, rfl, SqL.of hp, rfl, _, _, rfl, rfl, _, rfl, p, _, _, _, rfl, rfl, hp, rfl, ?_⟩
    refine ⟨_, rfl, p, _, _, _, rfl, rfl, SqL.of hu, rfl, _, rfl, p, _, _, _, rfl, rfl, SqL.of hu, rfl, _, _, rfl, rfl, .inl ⟨by decide, by decide⟩, _, _, rfl, rfl, .inl ⟨_, rfl, _, _, rfl, rfl, g1,
      _, _, rfl, rfl, ⟨by decide, by decide, by decide⟩, _, _, rfl, rfl, _, _, rfl, rfl, (by show (0 : Int) < 10 ^ Int.toNat 25 + 13; decide), ?_⟩⟩
    refine ⟨_, rfl, _, rfl, p, _, _, _, rfl, rfl, SqL.of hu, rfl, _, _, rfl, rfl, .inl ⟨by decide, by decide⟩, _, _, rfl, rfl, .inl ⟨_, rfl, _, _, rfl, rfl, g2 _ z1 z2,
      _, _, rfl, rfl, ⟨by decide, by decide, by decide⟩, _, _, rfl, rfl, _, _, rfl, rfl, (by show (0 : Int) < 10 ^ Int.toNat 24 + 7; decide), ?_⟩⟩
    refine ⟨_, rfl, _, _, rfl, rfl, ⟨by decide, by decide⟩, .inl ⟨_, rfl, _, rfl, _, _, rfl, rfl, hm, ?_⟩⟩
    exact q _ _ (Int.emod_nonneg _ (by omega)) (Int.emod_lt_of_pos _ hm) ⟨_, _, _, hu, ha, hb, hb2, by omega, by omega⟩ fun b hb => upd_ne hb
end
end LW
set_option Elab.async false
set_option linter.all false
set_option maxRecDepth 100000
set_option maxHeartbeats 4000000
namespace LW
open PySem PySem.Spec PyProof.Rows L2 KV
/-! ### isinstance of data -/
def tyName : PyData → String
  | .none => "NoneType"
  | .bool _ => "bool"
  | .int _ => "int"
  | .str _ => "str"
  | .list _ => "list"
  | .tuple _ => "tuple"
  | .dict _ => "dict"
theorem dp_ty {K : PySem.W.Frag} {H : Hp} {v : V} {d : PyData} (o : Dp K H v d) : TyX K H v (.type (tyName d)) := by
  cases o with
  | non => exact .base .non
  | bl b => exact .base (.bl b)
  | int i => exact .base (.int i)
  | str x => exact .base (.str x)
  | lst h _ =>
    rcases h with (h | ⟨o, h⟩) | ⟨o, its, n, hk, hc, _⟩
    · exact .base (.lst h)
    · exact .base (.frz h)
    · exact .kList hk hc
  | tup h _ =>
    rcases h with (h | ⟨o, h⟩) | ⟨o, its, n, hk, hc, _⟩
    · exact .base (.tup h)
    · exact .fTuple h
    · exact .kTuple hk hc
theorem ow_ty {K : PySem.W.Frag} {H : Hp} {v : V} {d : PyData} {F : Fp} (o : Ow H v d F) : TyX K H v (.type (tyName d)) := dp_ty o.dp
def isList : PyData → Bool
  | .list _ => true
  | _ => false
def isTuple : PyData → Bool
  | .tuple _ => true
  | _ => false
theorem kit_list {K : PySem.W.Frag} : ∀ d : PyData, PySem.W.kitOne K (.type (tyName d)) (.type "list") = some (isList d)
  | .none => kit_ty (show kitB "NoneType" "list" = some false by decide +kernel)
  | .bool _ => kit_ty (show kitB "bool" "list" = some false by decide +kernel)
  | .int _ => kit_ty (show kitB "int" "list" = some false by decide +kernel)
  | .str _ => kit_ty (show kitB "str" "list" = some false by decide +kernel)
  | .list _ => kit_ty (show kitB "list" "list" = some true by decide +kernel)
  | .tuple _ => kit_ty (show kitB "tuple" "list" = some false by decide +kernel)
  | .dict _ => kit_ty (show kitB "dict" "list" = some false by decide +kernel)
theorem kit_tuple {K : PySem.W.Frag} : ∀ d : PyData, PySem.W.kitOne K (.type (tyName d)) (.type "tuple") = some (isTuple d)
  | .none => kit_ty (show kitB "NoneType" "tuple" = some false by decide +kernel)
  | .bool _ => kit_ty (show kitB "bool" "tuple" = some false by decide +kernel)
  | .int _ => kit_ty (show kitB "int" "tuple" = some false by decide +kernel)
  | .str _ => kit_ty (show kitB "str" "tuple" = some false by decide +kernel)
  | .list _ => kit_ty (show kitB "list" "tuple" = some false by decide +kernel)
  | .tuple _ => kit_ty (show kitB "tuple" "tuple" = some true by decide +kernel)
  | .dict _ => kit_ty (show kitB "dict" "tuple" = some false by decide +kernel)
theorem kit_seq {K : PySem.W.Frag} (d : PyData) : PySem.W.kitAny K (.type (tyName d)) [.type "list", .type "tuple"] = some (isList d || isTuple d) := by
  refine kitAny_cons (kit_list d) (fun e => ?_) fun e => by rw [e]; rfl
  refine kitAny_cons (kit_tuple d) (fun e2 => ?_) fun e2 => by rw [e2, Bool.or_true]
  rw [e, e2]
  exact kitAny_nil

end LW
set_option Elab.async false
set_option linter.all false
set_option maxRecDepth 100000
set_option maxHeartbeats 4000000
namespace LW
open PySem PySem.Spec PyProof.Rows L2 KV
theorem But.off {p : Addr} {H H' : Hp} (h : But p H H') : Off (fun a => a = p) H H' := fun a o e n => (h a n).trans e
theorem Pu.lst {H : Hp} {p : Addr} {c : Nat} (h : Pu H p c) : ∃ xs, H p = some (.lst xs) := by
  obtain ⟨a, b, n, e, _⟩ := h
  exact ⟨_, e⟩
theorem Pu.off {H H' : Hp} {p : Addr} {c : Nat} {G : Fp} (h : Pu H p c) (k : Off G H H') (n : ¬ G p) : Pu H' p c := by
  obtain ⟨a, b, m, h1, h2⟩ := h
  exact ⟨a, b, m, k _ _ h1 n, h2⟩
/-! ### copies: new lists all through -/
def spCopied (K : PySem.W.Frag) (n : Nat) : Sp := fun vs H Q _ => ∃ (v : V) (d : PyData) (b : Nat) (ms : List Nat), vs = [v] ∧ Dp K H v d ∧ Fit b ms d ∧ (∀ m ∈ ms, m ≤ 1000) ∧ ms.length < n ∧
  ∀ v' F' H', Ow H' v' d F' → (∀ a, F' a → H a = none) → Off (fun _ => False) H H' → Q v' H'
theorem copy_leaf {K : PySem.W.Frag} {H : Hp} {v : V} {d : PyData} (o : Dp K H v d) (h : isList d = false) (h2 : isTuple d = false) : Ow H v d fun _ => False := by
  cases o with
  | non => exact .non fun _ z => z
  | bl b => exact .bl b fun _ z => z
  | int i => exact .int i fun _ z => z
  | str x => exact .str x fun _ z => z
  | lst _ _ => cases h
  | tup _ _ => cases h2
theorem dp_list {K : PySem.W.Frag} {H : Hp} {v : V} {d : PyData} (o : Dp K H v d) (h : isList d = true) : ∃ a xs ds, v = .ref a ∧ d = .list ds ∧ SqL K H a xs ∧ DpAll K H xs ds := by
  cases o with
  | lst h0 r => exact ⟨_, _, _, rfl, rfl, h0, r⟩
  | _ => cases h
theorem dp_tuple {K : PySem.W.Frag} {H : Hp} {v : V} {d : PyData} (o : Dp K H v d) (h : isTuple d = true) : ∃ a xs ds, v = .ref a ∧ d = .tuple ds ∧ SqT K H a xs ∧ DpAll K H xs ds := by
  cases o with
  | tup h0 r => exact ⟨_, _, _, rfl, rfl, h0, r⟩
  | _ => cases h
/-- one turn of the loop over the items -/
theorem copy_turn {K : PySem.W.Frag} {H H' : Hp} {n b i D : Nat} {ds : List PyData} {xs : List V} {ms : List Nat} {m : Nat} {x : V} (r : DpAll K H xs ds) (hfs : ∀ e ∈ ds, Fit b ms e) (hm : ∀ k ∈ m :: ms, k ≤ 1000) (hk : ms.length < n) (hl : ds.length ≤ m)
    (hD : H D = none) (hx : xs[i]? = some x) (g : Grow (fun _ => False) H D (ds.take i) H') :
    spCopied K n [x] H' (fun y H4 => ∃ acc, H4 D = some (.lst acc) ∧ acc.length < sizeLine ∧ Grow (fun _ => False) H D (ds.take (i + 1)) (upd H4 D (.lst (acc ++ [y])))) E0 := by
  obtain ⟨d1, e1, o1⟩ := dpAll_at r hx
  obtain ⟨_, _, _, _, _, _, off⟩ := id g
  have hm1 := hm m List.mem_cons_self
  refine ⟨x, d1, b, ms, rfl, dp_off off o1, hfs d1 (List.mem_of_getElem? e1), fun k hk => hm k (List.mem_cons_of_mem _ hk), hk, ?_⟩
  intro v' F' H4 o4 f4 k4
  obtain ⟨acc, a1, a2, a3⟩ := g.step hD (fun _ z => z.elim) (fun _ z => z.elim) o4 f4 k4
  refine ⟨acc, a1, by rw [a2, List.length_take]; exact small1000 (by omega), ?_⟩
  rw [List.take_add_one, e1]
  exact a3
section
variable {P : Program} {w : World} {K : PySem.W.Frag} {mg : Str → Option Value} {base : Heap}
theorem none_leftN {f : Addr} {fd : FuncData} {ps : List Str} {sp : Sp} (h : ∀ vs H Q E, ¬ sp vs H Q E) : FnOk P w K mg base CX0 0 f fd ps sp :=
  ⟨fun vs H Q E z => absurd z (h vs H Q E), fun A outer s H args us vs Q E _ _ _ _ z => absurd z (h vs H Q E)⟩
theorem copied_none {vs : List V} {H : Hp} {Q : VK} {E : XK} : ¬ spCopied K 0 vs H Q E := fun h => by
  obtain ⟨_, _, _, _, _, _, _, _, h, _⟩ := h
  exact absurd h (Nat.not_lt_zero _)
theorem scCopied : FnScope ["thing", "part"] ["thing"] (defScope sCopied) := ⟨rfl, rfl, rfl, by decide +kernel, rfl, by decide +kernel, by decide +kernel⟩
theorem ok_copied_step {n : Nat} {f : Addr} {fd : FuncData} (F : FnP K "_law_copied" sCopied f fd) (hb : Binds K fd ["thing"] []) (mf : mg "_law_copied" = some (.ref f)) (mi : mg "isinstance" = none) (ml : mg "list" = none) (mt : mg "tuple" = none)
    (G : FnOk P w K mg base CX0 n f fd ["thing"] (spCopied K n)) : FnOk P w K mg base CX0 (n + 1) f fd ["thing"] (spCopied K (n + 1)) := by
  refine F.ok scCopied (fun vs H Q E h => ?_) (fun cdv A outer s H vs Q E hr h => ?_)
  · obtain ⟨v, d, b, ms, rfl, _⟩ := h
    rfl
  obtain ⟨v, d, b, ms, rfl, o, hf, hm, hk, q⟩ := h
  refine ⟨_, pss_cons (ps_if (pt_val (pe_callB call_isi rfl mi boot_isinstance (pa_cons (pv 0) (pa_cons (pe_bltn (v := .ty "list") rfl ml boot_list rfl) pa_nil))))
      (pss_one (ps_ret (pe_lc (own := [("part", 1)]) (g := gName 1) (tt := tYes) rfl scCopied.nd (pi_list (pv 0)) (blkOk_by (own := [("part", 1)]) (N := ["thing", "part"]) (sc := defScope sCopied) (by decide +kernel))
        (fun _ _ _ _ _ => pg_name (i := 1) scCopied.nd rfl (Or.inl rfl)) (fun _ _ _ _ _ => pts_nil)
        (fun _ _ _ _ _ => pe_call G hr rfl mf F.kp hb .nil pass0 (pa_cons (pv 1) pa_nil))))) pss_nil)
    (pss_one (ps_ret (pe_ifExp (pt_val (pe_callB call_isi rfl mi boot_isinstance (pa_cons (pv 0) (pa_cons (pe_bltn (v := .ty "tuple") rfl mt boot_tuple rfl) pa_nil))))
      (pe_callTy call_tuple_of rfl mt boot_tuple (pa_cons (pe_lc (own := [("part", 1)]) (g := gName 1) (tt := tYes) rfl scCopied.nd (pi_tup (pv 0)) (blkOk_by (own := [("part", 1)]) (N := ["thing", "part"]) (sc := defScope sCopied) (by decide +kernel))
        (fun _ _ _ _ _ => pg_name (i := 1) scCopied.nd rfl (Or.inl rfl)) (fun _ _ _ _ _ => pts_nil)
        (fun _ _ _ _ _ => pe_call G hr rfl mf F.kp hb .nil pass0 (pa_cons (pv 1) pa_nil))) pa_nil))
      (pv 0)))), ?_⟩
  refine ⟨_, rfl, v, .ty "list", .type (tyName d), .type "list", isList d, rfl, .ty _, dp_ty o, kit_list d, _, rfl, ?_⟩
  by_cases hL : isList d = true
  · rw [hL]
    obtain ⟨a, xs, ds, rfl, rfl, h0, r⟩ := dp_list o hL
    cases ms with
    | nil => exact hf.elim
    | cons m ms =>
    obtain ⟨hl, hfs⟩ := hf
    refine iteT ⟨_, rfl, a, rfl, ⟨xs, h0⟩, fun D hD => lc_list (K := K) (a := a) (xs := xs) (fun i H' => Grow (fun _ => False) H D (ds.take i) H') (Grow.start hD) (fun i H' _ g => ?_) (fun i x H' hx g => ?_) fun H' g => ?_⟩
    · obtain ⟨_, _, _, _, _, _, off⟩ := g
      exact sqL_off off h0
    · exact ⟨rfl, Exists.intro x ⟨rfl, copy_turn r hfs hm (Nat.lt_of_succ_lt_succ hk) hl hD hx g⟩⟩
    · rw [dpAll_length r, List.take_length] at g
      obtain ⟨F', o', f', k'⟩ := g.list hD
      exact q _ F' H' o' f' k'
  · have hL : isList d = false := by simpa using hL
    rw [hL]
    refine iteF ⟨_, rfl, v, .ty "tuple", .type (tyName d), .type "tuple", isTuple d, rfl, .ty _, dp_ty o, kit_tuple d, _, rfl, ?_⟩
    by_cases hT : isTuple d = true
    · rw [hT]
      obtain ⟨a, xs, ds, rfl, rfl, h0, r⟩ := dp_tuple o hT
      cases ms with
      | nil => exact hf.elim
      | cons m ms =>
      obtain ⟨hl, hfs⟩ := hf
      refine iteT ⟨_, rfl, a, rfl, ⟨xs, h0⟩, fun D hD => lc_tup (K := K) (a := a) (xs := xs) (fun i H' => Grow (fun _ => False) H D (ds.take i) H') (Grow.start hD) (fun i H' _ g => ?_) (fun i x H' hx g => ?_) fun H' g => ?_⟩
      · obtain ⟨_, _, _, _, _, _, off⟩ := g
        exact sqT_off off h0
      · exact ⟨rfl, Exists.intro x ⟨rfl, copy_turn r hfs hm (Nat.lt_of_succ_lt_succ hk) hl hD hx g⟩⟩
      · rw [dpAll_length r, List.take_length] at g
        obtain ⟨acc, _, e1, _⟩ := id g
        refine ⟨D, acc, rfl, .inl ⟨SqL.of e1, fun p hp => ?_⟩⟩
        obtain ⟨F', o', f', k'⟩ := g.tuple e1 hp
        exact q _ F' _ o' f' k'
    · have hT : isTuple d = false := by simpa using hT
      rw [hT]
      exact iteF ⟨_, rfl, q v _ H (copy_leaf o hL hT) (fun _ z => z.elim) (Off.refl _ _)⟩
theorem ok_copied {f : Addr} {fd : FuncData} (F : FnP K "_law_copied" sCopied f fd) (hb : Binds K fd ["thing"] []) (mf : mg "_law_copied" = some (.ref f)) (mi : mg "isinstance" = none) (ml : mg "list" = none) (mt : mg "tuple" = none) :
    ∀ n : Nat, FnOk P w K mg base CX0 n f fd ["thing"] (spCopied K n)
  | 0 => none_leftN fun vs H Q E => copied_none
  | n + 1 => ok_copied_step F hb mf mi ml mt (ok_copied F hb mf mi ml mt n)
end
end LW
set_option Elab.async false
set_option linter.all false
set_option maxRecDepth 100000
set_option maxHeartbeats 4000000
namespace LW
open PySem PySem.Spec PyProof.Rows L2 KV
/-! ### _law_muddle -/
def spMuddle (n : Nat) : Sp := fun vs H Q _ => ∃ (v : V) (d : PyData) (F : Fp) (b : Nat) (ms : List Nat), vs = [v] ∧ Ow H v d F ∧ Fit b ms d ∧ (∀ m ∈ ms, m ≤ 1000) ∧ ms.length < n ∧
  ∀ H', Ow H' v (mud d) F → Off F H H' → Q .non H'
/-- the first i items are muddled -/
def mixed (ds : List PyData) (i : Nat) : List PyData := mudAll (ds.take i) ++ ds.drop i
theorem mixed_at {ds : List PyData} {i : Nat} : (mixed ds i)[i]? = ds[i]? := by
  unfold mixed
  rw [mudAll_map]
  by_cases h : i < ds.length
  · rw [List.getElem?_append_right (by simp; omega)]
    simp [Nat.min_eq_left (Nat.le_of_lt h)]
  · rw [List.getElem?_eq_none (by simp; omega), List.getElem?_eq_none (by omega)]
theorem mixed_set {ds : List PyData} {i : Nat} {d : PyData} (h : ds[i]? = some d) : (mixed ds i).set i (mud d) = mixed ds (i + 1) := by
  obtain ⟨hi, e⟩ := List.getElem?_eq_some_iff.mp h
  unfold mixed
  rw [mudAll_map, mudAll_map, List.set_append_right _ _ (by simp; omega), List.take_add_one, h, List.map_append]
  have e2 : i - (List.map mud (List.take i ds)).length = 0 := by simp; omega
  rw [e2, List.drop_eq_getElem_cons hi, List.append_assoc]
  rfl
theorem mixed_end (ds : List PyData) : mixed ds ds.length = mudAll ds := by simp [mixed]
theorem mixed_start (ds : List PyData) : mixed ds 0 = ds := by simp [mixed, mudAll]
section
variable {P : Program} {w : World} {K : PySem.W.Frag} {mg : Str → Option Value} {base : Heap}
theorem scMuddle : FnScope ["thing", "part"] ["thing"] (defScope sMuddle) := ⟨rfl, rfl, rfl, by decide +kernel, rfl, by decide +kernel, by decide +kernel⟩
theorem ok_muddle_step {n : Nat} {f : Addr} {fd : FuncData} (F : FnP K "_law_muddle" sMuddle f fd) (hb : Binds K fd ["thing"] []) (mf : mg "_law_muddle" = some (.ref f)) (mi : mg "isinstance" = none) (ml : mg "list" = none) (mt : mg "tuple" = none)
    (G : FnOk P w K mg base CX0 n f fd ["thing"] (spMuddle n)) : FnOk P w K mg base CX0 (n + 1) f fd ["thing"] (spMuddle (n + 1)) := by
  refine F.ok scMuddle (fun vs H Q E h => ?_) (fun cdv A outer s H vs Q E hr h => ?_)
  · obtain ⟨v, d, F, b, ms, rfl, _⟩ := h
    rfl
  obtain ⟨v, d, Fv, b, ms, rfl, o, hf, hm, hk, q⟩ := h
  refine ⟨_, PSs.nox (pss_cons (ps_if (pt_val (pe_callB call_isiT rfl mi boot_isinstance (pa_cons (pv 0) (pa_cons (pe_tup (pa_cons (pe_bltn (v := .ty "list") rfl ml boot_list rfl) (pa_cons (pe_bltn (v := .ty "tuple") rfl mt boot_tuple rfl) pa_nil))) pa_nil))))
      (pss_one (ps_for PassesOwn.never rfl (pi_list (pe_callTy call_list_of rfl ml boot_list (pa_cons (pv 0) pa_nil))) (pg_name (i := 1) scMuddle.nd rfl (Or.inl rfl))
        (pss_one (ps_expr (pe_call G hr rfl mf F.kp hb .nil pass0 (pa_cons (pv 1) pa_nil)))))) pss_nil)
    (pss_one (ps_if (pt_val (pe_callB call_isi rfl mi boot_isinstance (pa_cons (pv 0) (pa_cons (pe_bltn (v := .ty "list") rfl ml boot_list rfl) pa_nil))))
      (pss_cons (ps_expr (pe_bm PySem.F.plainAttrs_list PySem.F.slot_list_append PySem.F.type_list_append mt_append (pv 0) (pa_cons pe_str pa_nil)))
        (pss_one (ps_expr (pe_bm0 PySem.F.plainAttrs_list PySem.F.slot_list_reverse PySem.F.type_list_reverse mt_reverse (pv 0))))) pss_nil))), ?_⟩
  refine ⟨_, rfl, (by show 2 ≤ sizeLine; decide), fun tp htp => ?_⟩
  have off1 : ∀ G : Fp, Off G H (upd H tp (.tup [.ty "list", .ty "tuple"])) := fun G => Off.new htp
  have o1 := o.keep (G := fun _ => False) (off1 _) (fun _ z => z.elim) fun _ _ z => z
  refine ⟨v, tp, _, .type (tyName d), _, _, rfl, upd_same, .cons (.ty "list") (.cons (.ty "tuple") .nil), ow_ty o1, kit_seq d, _, rfl, ?_⟩
  generalize upd H tp (.tup [.ty "list", .ty "tuple"]) = H1 at off1 o1
  -- one turn
  have turn : ∀ {ds : List PyData} {xs : List V} {F1 : Fp} {ks : List Nat} {i : Nat} {x : V} {H2 H' : Hp}, OwAll H' xs (mixed ds i) F1 → (∀ e ∈ ds, Fit b ks e) → (∀ k ∈ ks, k ≤ 1000) → ks.length < n → xs[i]? = some x → Off F1 H2 H' →
      spMuddle n [x] H' (fun _ H4 => OwAll H4 xs (mixed ds (i + 1)) F1 ∧ Off F1 H2 H4) E0 := by
    intro ds xs F1 ks i x H2 H' r hfs hks hk' hx k0
    obtain ⟨d1, E1, e1, oo, s1, fin⟩ := r.at_ hx
    rw [mixed_at] at e1
    refine ⟨x, d1, E1, b, ks, rfl, oo, hfs d1 (List.mem_of_getElem? e1), hks, hk', fun H4 o4 k4 => ?_⟩
    have z := fin H4 (mud d1) o4 k4
    rw [mixed_set e1] at z
    exact ⟨z, k0.trans (k4.mono s1)⟩
  cases d with
  | list ds =>
    cases o1 with
    | @lst F1 _ a xs _ h0 r n0 e0 =>
    cases ms with
    | nil => exact hf.elim
    | cons m ms =>
    obtain ⟨hl, hfs⟩ := hf
    have hm1 := hm m List.mem_cons_self
    have hms : ∀ k ∈ ms, k ≤ 1000 := fun k z => hm k (List.mem_cons_of_mem _ z)
    have hk1 := Nat.lt_of_succ_lt_succ hk
    refine iteT ⟨_, rfl, a, xs, rfl, .inl (SqL.of h0), fun l hl0 => ⟨l, rfl, ⟨xs, SqL.of upd_same⟩, for_list (K := K) (a := l) (xs := xs)
      (fun i σ H' => ∃ w, σ = [some (.ref a), w] ∧ OwAll H' xs (mixed ds i) F1 ∧ Off F1 (upd H1 l (.lst xs)) H') ⟨none, rfl, ?_, Off.refl _ _⟩ (fun i σ H' _ g => ?_) (fun i x σ H' hx g => ?_) fun σ H' g => ?_⟩⟩
    · rw [mixed_start]
      exact r.keep (G := fun _ => False) (Off.new hl0) (fun _ z => z.elim) fun _ _ z => z
    · obtain ⟨_, _, _, off⟩ := g
      refine SqL.of (off _ _ upd_same fun z => ?_)
      obtain ⟨ys, y⟩ := r.dom _ z
      rw [hl0] at y
      cases y
    · obtain ⟨w1, rfl, r1, off⟩ := g
      have tn := turn r1 hfs hms hk1 hx off
      obtain ⟨v5, d5, F5, m5, k5, e5, o5, f5, m5', k5', q5⟩ := tn
      exact ⟨_, rfl, v5, d5, F5, m5, k5, e5, o5, f5, m5', k5', fun H4 a1 a2 => ⟨_, rfl, q5 H4 a1 a2⟩⟩
    · obtain ⟨w1, rfl, r1, off⟩ := g
      rw [r.length, mixed_end] at r1
      have na : a ≠ l := fun z => by
        rw [z, hl0] at h0
        cases h0
      have ea : H' a = some (.lst xs) := off _ _ (by rw [upd_ne na]; exact h0) n0
      refine ⟨_, rfl, .ref a, .ty "list", .type "list", .type "list", true, rfl, .ty _, .base (.lst ea), kit_list (.list ds), _, rfl, iteT ?_⟩
      refine ⟨_, rfl, .inl ⟨rfl, xs, SqL.of ea⟩, a, xs, _, rfl, rfl, ea, small1000 (by have := r.length; omega), ?_⟩
      refine ⟨_, rfl, .inl ⟨rfl, _, SqL.of upd_same⟩, ?_⟩
      refine ⟨a, xs ++ [V.str "muddled"], rfl, rfl, upd_same, ?_⟩
      have kA : Off (fun b => b = a) H' (upd (upd H' a (.lst (xs ++ [V.str "muddled"]))) a (.lst (xs ++ [V.str "muddled"]).reverse)) := by
        rw [upd_upd]
        exact Off.upd rfl
      refine q _ ?_ ?_
      · simp only [mud]
        refine .lst upd_same ?_ n0 e0
        exact ((r1.snoc (Ow.str "muddled" (F := fun _ => False) fun _ z => z) (fun _ _ z => z) fun b => (or_iff_left id).symm).reverse).keep kA (fun b z => ⟨xs, by rw [z]; exact ea⟩) fun b z y => n0 (y ▸ z)
      · refine (off1 _).trans ((Off.new hl0).trans ((off.mono fun b z => (e0 b).mpr (.inr z)).trans (kA.mono fun b z => (e0 b).mpr (.inl z))))
  | tuple ds =>
    cases o1 with
    | @tup F1 a xs _ h0 r =>
    cases ms with
    | nil => exact hf.elim
    | cons m ms =>
    obtain ⟨hl, hfs⟩ := hf
    have hm1 := hm m List.mem_cons_self
    have hms : ∀ k ∈ ms, k ≤ 1000 := fun k z => hm k (List.mem_cons_of_mem _ z)
    have hk1 := Nat.lt_of_succ_lt_succ hk
    refine iteT ⟨_, rfl, a, xs, rfl, .inr (SqT.of h0), fun l hl0 => ⟨l, rfl, ⟨xs, SqL.of upd_same⟩, for_list (K := K) (a := l) (xs := xs)
      (fun i σ H' => ∃ w, σ = [some (.ref a), w] ∧ OwAll H' xs (mixed ds i) Fv ∧ Off Fv (upd H1 l (.lst xs)) H') ⟨none, rfl, ?_, Off.refl _ _⟩ (fun i σ H' _ g => ?_) (fun i x σ H' hx g => ?_) fun σ H' g => ?_⟩⟩
    · rw [mixed_start]
      exact r.keep (G := fun _ => False) (Off.new hl0) (fun _ z => z.elim) fun _ _ z => z
    · obtain ⟨_, _, _, off⟩ := g
      refine SqL.of (off _ _ upd_same fun z => ?_)
      obtain ⟨ys, y⟩ := r.dom _ z
      rw [hl0] at y
      cases y
    · obtain ⟨w1, rfl, r1, off⟩ := g
      have tn := turn r1 hfs hms hk1 hx off
      obtain ⟨v5, d5, F5, m5, k5, e5, o5, f5, m5', k5', q5⟩ := tn
      exact ⟨_, rfl, v5, d5, F5, m5, k5, e5, o5, f5, m5', k5', fun H4 a1 a2 => ⟨_, rfl, q5 H4 a1 a2⟩⟩
    · obtain ⟨w1, rfl, r1, off⟩ := g
      rw [r.length, mixed_end] at r1
      have na : a ≠ l := fun z => by
        rw [z, hl0] at h0
        cases h0
      have nF : ¬ Fv a := fun z => by
        obtain ⟨ys, y⟩ := r.dom _ z
        rw [h0] at y
        cases y
      have ea : H' a = some (.tup xs) := off _ _ (by rw [upd_ne na]; exact h0) nF
      refine ⟨_, rfl, .ref a, .ty "list", .type "tuple", .type "list", false, rfl, .ty _, .base (.tup ea), kit_list (.tuple ds), _, rfl, iteF ?_⟩
      refine q _ ?_ ((off1 _).trans ((Off.new hl0).trans off))
      simp only [mud]
      exact .tup ea r1
  | none => exact iteF ⟨_, rfl, v, .ty "list", .type (tyName .none), .type "list", false, rfl, .ty _, ow_ty o1, kit_list _, _, rfl, iteF (q _ (by simpa only [mud] using o1) (off1 _))⟩
  | bool b => exact iteF ⟨_, rfl, v, .ty "list", .type (tyName (.bool b)), .type "list", false, rfl, .ty _, ow_ty o1, kit_list _, _, rfl, iteF (q _ (by simpa only [mud] using o1) (off1 _))⟩
  | int i => exact iteF ⟨_, rfl, v, .ty "list", .type (tyName (.int i)), .type "list", false, rfl, .ty _, ow_ty o1, kit_list _, _, rfl, iteF (q _ (by simpa only [mud] using o1) (off1 _))⟩
  | str x => exact iteF ⟨_, rfl, v, .ty "list", .type (tyName (.str x)), .type "list", false, rfl, .ty _, ow_ty o1, kit_list _, _, rfl, iteF (q _ (by simpa only [mud] using o1) (off1 _))⟩
  | dict kvs => cases o1
theorem ok_muddle {f : Addr} {fd : FuncData} (F : FnP K "_law_muddle" sMuddle f fd) (hb : Binds K fd ["thing"] []) (mf : mg "_law_muddle" = some (.ref f)) (mi : mg "isinstance" = none) (ml : mg "list" = none) (mt : mg "tuple" = none) :
    ∀ n : Nat, FnOk P w K mg base CX0 n f fd ["thing"] (spMuddle n)
  | 0 => none_leftN fun vs H Q E h => by
    obtain ⟨_, _, _, _, _, _, _, _, _, h, _⟩ := h
    exact absurd h (Nat.not_lt_zero _)
  | n + 1 => ok_muddle_step F hb mf mi ml mt (ok_muddle F hb mf mi ml mt n)
end
end LW
set_option Elab.async false
set_option linter.all false
set_option maxRecDepth 100000
set_option maxHeartbeats 4000000
namespace LW
open PySem PySem.Spec PyProof.Rows L2 KV
/-! ### _law_own -/
/-- sizes that repr takes, also once muddled -/
structure Sz (b : Nat) (ms : List Nat) (d : PyData) : Prop where
  fit : Fit b ms d
  b7 : 7 ≤ b
  dp : ms.length ≤ 5
  w : ∀ m ∈ ms, m ≤ 999
  big : big b (more ms) ≤ sizeLine
theorem big_more (b : Nat) : ∀ ms : List Nat, KV.big b ms ≤ KV.big b (more ms)
  | [] => Nat.le_refl _
  | m :: ms => by
    have ih := big_more b ms
    show 10 * b + 200 + m * (KV.big b ms + 2) ≤ 10 * b + 200 + (m + 1) * (KV.big b (more ms) + 2)
    have h : m * (KV.big b ms + 2) ≤ (m + 1) * (KV.big b (more ms) + 2) := Nat.mul_le_mul (Nat.le_succ _) (by omega)
    omega
theorem Sz.rep {b : Nat} {ms : List Nat} {d : PyData} (s : Sz b ms d) : d.showable = true ∧ d.hasDict = false ∧ d.depth ≤ 60 ∧ d.shown.length ≤ sizeLine :=
  ⟨s.fit.ok.sh, s.fit.ok.nd, Nat.le_trans s.fit.ok.dp (Nat.le_trans s.dp (by decide)), Nat.le_trans s.fit.ok.sz (Nat.le_trans (big_more b ms) s.big)⟩
theorem Sz.mud {b : Nat} {ms : List Nat} {d : PyData} (s : Sz b ms d) : (KV.mud d).showable = true ∧ (KV.mud d).hasDict = false ∧ (KV.mud d).depth ≤ 60 ∧ (KV.mud d).shown.length ≤ sizeLine := by
  have f := (s.fit.mud s.b7).ok
  have l : (more ms).length = ms.length := List.length_map _
  refine ⟨f.sh, f.nd, Nat.le_trans f.dp ?_, Nat.le_trans f.sz s.big⟩
  rw [l]
  exact Nat.le_trans s.dp (by decide)
def spOwn (K : PySem.W.Frag) : Sp := fun vs H Q _ => ∃ (told due : V) (d : PyData) (F : Fp) (b : Nat) (ms : List Nat), vs = [told, due] ∧ Ow H told d F ∧ Dp K H due d ∧ Sz b ms d ∧
  ∀ H', Off F H H' → Q (.bl true) H'
section
variable {P : Program} {w : World} {K : PySem.W.Frag} {mg : Str → Option Value} {base : Heap}
theorem scOwn : FnScope ["told", "due", "mirror"] ["told", "due"] (defScope sOwn) := ⟨rfl, rfl, rfl, by decide +kernel, rfl, by decide +kernel, by decide +kernel⟩
theorem ok_own {f fC fM : Addr} {fd dC dM : FuncData} (F : FnP K "_law_own" sOwn f fd) (GC : FnOk P w K mg base CX0 6 fC dC ["thing"] (spCopied K 6)) (bC : Binds K dC ["thing"] []) (mC : mg "_law_copied" = some (.ref fC)) (kC : PySem.W.keepIn K (.ref fC) = true)
    (GM : FnOk P w K mg base CX0 6 fM dM ["thing"] (spMuddle 6)) (bM : Binds K dM ["thing"] []) (mM : mg "_law_muddle" = some (.ref fM)) (kM : PySem.W.keepIn K (.ref fM) = true) (mp : mg "repr" = none) :
    FnC P w K mg base CX0 7 f fd ["told", "due"] (spOwn K) := by
  refine Fun.okC F scOwn (fun vs H Q E h => ?_) (fun cdv A outer s H vs Q E hG hr h => ?_)
  · obtain ⟨t, u, d, F, b, ms, rfl, _⟩ := h
    rfl
  obtain ⟨told, due, d, Fo, b, ms, rfl, o, u, sz, q⟩ := h
  have hu : (A.deeper (envOfC "_law_own" (defScope sOwn) s.heap.objs.size f cdv)).units + 64 < cLine := hr.units
  have cmp : ∀ {X : Cx} (i j : Nat) {n1 n2 x1 x2 : Str} {p1 p2 p3 p4 p5 p6 : Pos}, True := fun _ _ => trivial
  refine ⟨_, pss_cons (ps_if (pt_cmpR op_ne (pe_callB (call_repD hG hu) rfl mp boot_repr (pa_cons (pv 0) pa_nil)) (pe_callB (call_repD hG hu) rfl mp boot_repr (pa_cons (pv 1) pa_nil)) (nomark _)) (pss_one (ps_ret pe_bl)) pss_nil)
    (pss_cons (ps_set (i := 2) scOwn.nd rfl (Or.inl rfl) (pe_call GC hr rfl mC kC bC .nil pass0 (pa_cons (pv 1) pa_nil)))
    (pss_cons (ps_expr (pe_call GM hr rfl mM kM bM .nil pass0 (pa_cons (pv 0) pa_nil)))
    (pss_cons (ps_expr (pe_call GM hr rfl mM kM bM .nil pass0 (pa_cons (pv 2) pa_nil)))
    (pss_one (ps_ret (pe_cmpR op_eq (pe_callB (call_repD hG hu) rfl mp boot_repr (pa_cons (pv 0) pa_nil)) (pe_callB (call_repD hG hu) rfl mp boot_repr (pa_cons (pv 2) pa_nil)) (nomark _))))))), ?_⟩
  obtain ⟨z1, z2, z3, z4⟩ := sz.rep
  obtain ⟨y1, y2, y3, y4⟩ := sz.mud
  have hm : ∀ m ∈ ms, m ≤ 1000 := fun m h => Nat.le_succ_of_le (sz.w m h)
  have hk : ms.length < 6 := Nat.lt_succ_of_le sz.dp
  refine ⟨_, rfl, told, d, rfl, o.dp, z1, z2, z3, z4, _, rfl, due, d, rfl, u, z1, z2, z3, z4, rfl, _, rfl, ?_⟩
  rw [decide_eq_true rfl]
  refine iteF ?_
  refine ⟨_, rfl, due, d, b, ms, rfl, u, sz.fit, hm, hk, fun mi Fm H1 om fr k1 => ?_⟩
  have o1 := o.keep k1 (fun _ z => z.elim) fun _ _ z => z
  refine ⟨_, rfl, told, d, Fo, b, ms, rfl, o1, sz.fit, hm, hk, fun H2 o2 k2 => ?_⟩
  have dis : ∀ a, Fm a → ¬ Fo a := fun a z y => by
    obtain ⟨xs, e⟩ := o.dom a y
    rw [fr a z] at e
    cases e
  have om2 := om.keep k2 (fun a z => o1.dom a z) dis
  refine ⟨_, rfl, mi, d, Fm, b, ms, rfl, om2, sz.fit, hm, hk, fun H3 o3 k3 => ?_⟩
  have o3' := o2.keep k3 (fun a z => om2.dom a z) fun a z y => dis a y z
  refine ⟨_, rfl, told, mud d, rfl, o3'.dp, y1, y2, y3, y4, _, rfl, mi, mud d, rfl, o3.dp, y1, y2, y3, y4, rfl, ?_⟩
  rw [decide_eq_true rfl]
  refine q H3 fun a e ea na => ?_
  have e1 := k1 a e ea fun z => z
  have e2 := k2 a e e1 na
  refine k3 a e e2 fun z => ?_
  rw [fr a z] at ea
  cases ea
end
end LW
set_option Elab.async false
set_option linter.all false
set_option maxRecDepth 100000
set_option maxHeartbeats 4000000
namespace LW
open PySem PySem.Spec PyProof.Rows L2 KV
/-! ### _law_words -/
/-- one to eight letters from a to z -/
def Title (x : Str) : Prop := 1 ≤ x.length ∧ x.length ≤ 8 ∧ ∀ c ∈ x.cps.toList, 97 ≤ c ∧ c ≤ 122
/-- the text of these signs -/
def tx (l : List Nat) : Str := ⟨l.toArray⟩
theorem tx_len (l : List Nat) : (tx l).length = l.length := by simp [tx, Str.length]
theorem tx_cps (l : List Nat) : (tx l).cps.toList = l := by simp [tx]
theorem tx_inj {a b : List Nat} (h : tx a = tx b) : a = b := by rw [← tx_cps a, h, tx_cps]
theorem str_ext {x y : Str} (h : x.cps.toList = y.cps.toList) : x = y := by
  cases x; cases y
  simpa using h
theorem tx_add (a b : List Nat) : tx a ++ tx b = tx (a ++ b) := str_ext (by
  show (⟨(tx a).cps ++ (tx b).cps⟩ : Str).cps.toList = _
  simp [tx])
theorem tx_join : ∀ l : List Nat, Txt.join "" (l.map fun c => tx [c]) = tx l := by
  intro l
  unfold Txt.join
  rw [StrLaws.glued_eq_join]
  have emp : ("" : Str) = tx [] := by decide +kernel
  induction l with
  | nil => exact emp ▸ rfl
  | cons c r ih =>
    cases r with
    | nil => rfl
    | cons d r =>
      have e : Str.join "" (tx [c] :: tx [d] :: r.map fun c => tx [c]) = tx [c] ++ "" ++ Str.join "" (tx [d] :: r.map fun c => tx [c]) := rfl
      show Str.join "" (tx [c] :: tx [d] :: r.map fun c => tx [c]) = _
      have ih' : Str.join "" (tx [d] :: r.map fun c => tx [c]) = tx (d :: r) := ih
      rw [e, ih', emp, tx_add, tx_add]
      rfl
theorem tx_cut {l : List Nat} {k : Int} (h : 0 ≤ k) : cutS (tx l) none (some k) = tx (l.take k.toNat) := by
  refine str_ext ?_
  have hk : ¬ k < 0 := by omega
  unfold cutS
  simp [HT.sIx, hk, tx, Str.length]
theorem title_tx {l : List Nat} : Title (tx l) ↔ 1 ≤ l.length ∧ l.length ≤ 8 ∧ ∀ c ∈ l, 97 ≤ c ∧ c ≤ 122 := by
  unfold Title
  rw [tx_len, tx_cps]
/-- the letters -/
theorem abc_at {i : Int} (h0 : 0 ≤ i) (h1 : i < 26) : atI ("abcdefghijklmnopqrstuvwxyz" : Str).cps.toList i = some (97 + i.toNat) := by
  have all : ∀ k : Fin 26, ("abcdefghijklmnopqrstuvwxyz" : Str).cps.toList[k.val]? = some (97 + k.val) := by decide +kernel
  have e : ((i.toNat : Nat) : Int) = i := by omega
  have q : ("abcdefghijklmnopqrstuvwxyz" : Str).cps.toList[i.toNat]? = some (97 + i.toNat) := all ⟨i.toNat, by omega⟩
  generalize i.toNat = k at e q
  rw [← e]
  exact atI_nat q
def menuL : List Str := ["all", "as", "key", "id", "town", "table", "is", "same", "missing", "settles", "pair", "left", "a", "b"]
def menuF (k : Nat) : Str := menuL.getD (k % 14) ""
theorem menu_at (k : Nat) : menuL[k % 14]? = some (menuF k) := by
  have h : k % 14 < menuL.length := Nat.mod_lt _ (by decide)
  unfold menuF
  rw [List.getD_eq_getElem?_getD, List.getElem?_eq_getElem h]
  rfl
theorem menu_title (k : Nat) : Title (menuF k) := by
  have all : ∀ j : Fin 14, 1 ≤ (menuL.getD j.val "").length ∧ (menuL.getD j.val "").length ≤ 8 ∧ (menuL.getD j.val "").cps.toList.all (fun c => decide (97 ≤ c ∧ c ≤ 122)) = true := by decide +kernel
  have q := all ⟨k % 14, Nat.mod_lt _ (by decide)⟩
  exact ⟨q.1, q.2.1, fun c hc => of_decide_eq_true (List.all_eq_true.mp q.2.2 c hc)⟩
theorem menu_inj {a b : Nat} (h : menuF a = menuF b) : a % 14 = b % 14 := by
  have all : ∀ i j : Fin 14, menuL.getD i.val "" = menuL.getD j.val "" → i.val = j.val := by decide +kernel
  exact all ⟨a % 14, Nat.mod_lt _ (by decide)⟩ ⟨b % 14, Nat.mod_lt _ (by decide)⟩ h
/-- a range of texts -/
def rgS (f : Nat → Str) (i : Nat) : List V := ((List.range i).map f).map V.str
theorem rgS_len (f : Nat → Str) (i : Nat) : (rgS f i).length = i := by simp [rgS]
theorem rgS_succ (f : Nat → Str) (i : Nat) : rgS f i ++ [V.str (f i)] = rgS f (i + 1) := by simp [rgS, List.range_succ]
theorem nd_range {f : Nat → Str} {n : Nat} (h : ∀ i j, i < j → j < n → f i ≠ f j) : ((List.range n).map f).Nodup := by
  rw [List.Nodup, List.pairwise_map]
  refine List.Pairwise.imp_of_mem ?_ List.nodup_range |>.imp fun h => h
  intro a b ha hb ne
  rw [List.mem_range] at ha hb
  rcases Nat.lt_or_gt_of_ne ne with c | c
  · exact h a b c hb
  · exact fun e => h b a c ha e.symm
def spWords : Sp := fun vs H Q _ => ∃ (p : Addr) (m c : Nat), vs = [.ref p, .int (m : Int)] ∧ m ≤ 100 ∧ Pu H p c ∧ c + 10 ≤ 1000000000 ∧
  ∀ (ws : List Str) (D : Addr) (H' : Hp) (c' : Nat), ws.length = m → (∀ x ∈ ws, Title x) → ws.Nodup → H D = none → H' D = some (.lst (ws.map V.str)) → Pu H' p c' → c' ≤ c + 10 → Off (fun a => a = p) H H' → Q (.ref D) H'
section
variable {P : Program} {w : World} {K : PySem.W.Frag} {mg : Str → Option Value} {base : Heap}
theorem scWords : FnScope ["purse", "many", "letters", "way", "menu", "stem", "start", "turn", "rank"] ["purse", "many"] (defScope sWords) := ⟨rfl, rfl, rfl, by decide +kernel, rfl, by decide +kernel, by decide +kernel⟩
theorem ok_words {f fC : Addr} {fd dC : FuncData} (F : FnP K "_law_words" sWords f fd) (FC : FnP K "_law_coin" sCoin fC dC) (bC : Binds K dC ["purse", "many"] []) (mC : mg "_law_coin" = some (.ref fC)) (mi : mg "int" = none) (mr : mg "range" = none) :
    FnOk P w K mg base CX0 2 f fd ["purse", "many"] spWords := by
  have GC : FnOk P w K mg base CX0 1 fC dC ["purse", "many"] spCoin := ok_coin FC mi
  refine F.ok scWords (fun vs H Q E h => ?_) (fun cdv A outer s H vs Q E hr h => ?_)
  · obtain ⟨p, m, c, rfl, _⟩ := h
    rfl
  obtain ⟨p, m, c, rfl, hm, hp, hc, q⟩ := h
  refine ⟨_, pss_cons (ps_asg (pe_tup (pa_cons pe_str (pa_cons (pe_call GC hr rfl mC FC.kp bC .nil pass0 (pa_cons (pv 0) (pa_cons pe_int pa_nil))) pa_nil)))
      (pg_tup rfl (pgs_cons (pg_name (i := 2) scWords.nd rfl (Or.inr rfl)) (pgs_cons (pg_name (i := 3) scWords.nd rfl (Or.inl rfl)) pgs_nil))))
    (pss_cons (ps_set (i := 4) scWords.nd rfl (Or.inr rfl) (pe_lst (pa_cons pe_str (pa_cons pe_str (pa_cons pe_str (pa_cons pe_str (pa_cons pe_str (pa_cons pe_str (pa_cons pe_str (pa_cons pe_str (pa_cons pe_str (pa_cons pe_str (pa_cons pe_str (pa_cons pe_str (pa_cons pe_str (pa_cons pe_str pa_nil))))))))))))))))
    (pss_cons (ps_set (i := 5) scWords.nd rfl (Or.inr rfl) (pe_join pe_str (pe_lc (own := [("turn", 7)]) (g := gName 7) (tt := tYes) rfl scWords.nd (pi_range1 rfl mr (pa_cons pe_int pa_nil))
        (blkOk_by (own := [("turn", 7)]) (N := ["purse", "many", "letters", "way", "menu", "stem", "start", "turn", "rank"]) (sc := defScope sWords) (by decide +kernel))
        (fun _ _ _ _ _ => pg_name (i := 7) scWords.nd rfl (Or.inl rfl)) (fun _ _ _ _ _ => pts_nil)
        (fun _ _ _ _ _ => pe_ix ix_str (pv 2) (pe_call GC hr rfl mC FC.kp bC .nil pass0 (pa_cons (pv 0) (pa_cons pe_int pa_nil))) (fun _ _ => rfl)))))
    (pss_cons (ps_if (PW.pt (pw_and (pt_cmpR op_eq (pv 3) pe_int (nomark _)) (pw_and1 (pt_cmpR op_lt (pv 1) pe_int (nomark _)))))
      (pss_cons (ps_set (i := 6) scWords.nd rfl (Or.inr rfl) (pe_call GC hr rfl mC FC.kp bC .nil pass0 (pa_cons (pv 0) (pa_cons pe_int pa_nil))))
        (pss_one (ps_ret (pe_lc (own := [("rank", 8)]) (g := gName 8) (tt := tYes) (te := tOp (rIxL K) (tVar 4) (tOp (rI (fun _ j => 0 < j) fun i j => .int (i % j)) (tCB (fun xs H Q => (∃ i, xs = [.int i] ∧ Q (.int i) H) ∨ ∃ k, xs = [.bl k] ∧ Q (.int (if k then 1 else 0)) H) (tCons (tOp (rI0 fun i j => .int (i + j)) (tVar 6) (tOp (rI CMul fun i j => .int (i * j)) (tC (.int 3)) (tVar 8))) tNil)) (tC (.int 14)))) rfl scWords.nd (pi_range1 rfl mr (pa_cons (pv 1) pa_nil))
          (blkOk_by (own := [("rank", 8)]) (N := ["purse", "many", "letters", "way", "menu", "stem", "start", "turn", "rank"]) (sc := defScope sWords) (by decide +kernel))
          (fun _ _ _ _ _ => pg_name (i := 8) scWords.nd rfl (Or.inl rfl)) (fun _ _ _ _ _ => pts_nil)
          (fun _ _ _ _ _ => pe_ix ix_list (pv 4) (pe_op op_mod (pe_callTy call_int1 rfl mi (by decide +kernel) (pa_cons (pe_op op_add (pv 6) (pe_op op_mul pe_int (pv 8))) pa_nil)) pe_int) (fun _ _ => rfl)))))) pss_nil)
    (pss_cons (ps_if (PW.pt (pw_and (pt_cmpR op_eq (pv 3) pe_int (nomark _)) (pw_and1 (pt_cmpR op_lt (pv 1) pe_int (nomark _)))))
      (pss_one (ps_ret (pe_lc (own := [("rank", 8)]) (g := gName 8) (tt := tYes) rfl scWords.nd (pi_range1 rfl mr (pa_cons (pv 1) pa_nil))
          (blkOk_by (own := [("rank", 8)]) (N := ["purse", "many", "letters", "way", "menu", "stem", "start", "turn", "rank"]) (sc := defScope sWords) (by decide +kernel))
          (fun _ _ _ _ _ => pg_name (i := 8) scWords.nd rfl (Or.inl rfl)) (fun _ _ _ _ _ => pts_nil)
          (fun _ _ _ _ _ => pe_slice sl_str (pv 5) po_none (po_some (pe_op op_add (pv 8) pe_int)))))) pss_nil)
    (pss_cons (ps_set (i := 6) scWords.nd rfl (Or.inr rfl) (pe_call GC hr rfl mC FC.kp bC .nil pass0 (pa_cons (pv 0) (pa_cons pe_int pa_nil))))
    (pss_one (ps_ret (pe_lc (own := [("rank", 8)]) (g := gName 8) (tt := tYes) rfl scWords.nd (pi_range1 rfl mr (pa_cons (pv 1) pa_nil))
          (blkOk_by (own := [("rank", 8)]) (N := ["purse", "many", "letters", "way", "menu", "stem", "start", "turn", "rank"]) (sc := defScope sWords) (by decide +kernel))
          (fun _ _ _ _ _ => pg_name (i := 8) scWords.nd rfl (Or.inl rfl)) (fun _ _ _ _ _ => pts_nil)
          (fun _ _ _ _ _ => pe_op op_add_str (pe_ix ix_str (pv 2) (pe_op op_mod (pe_callTy call_int1 rfl mi (by decide +kernel) (pa_cons (pe_op op_add (pv 6) (pv 8)) pa_nil)) pe_int) (fun _ _ => rfl))
            (pe_slice sl_str (pv 5) po_none (po_some (pe_op op_fdiv (pv 8) pe_int)))))))))))), ?_⟩
  refine ⟨_, rfl, p, 3, c, rfl, hp, by omega, by decide, by decide, fun way H1 w0 w3 hp1 b1 => ⟨by show 2 ≤ sizeLine; decide, fun tp htp => ⟨tp, _, rfl, SqT.of upd_same, rfl, _, _, rfl, _, _, rfl, ?_⟩⟩⟩
  have pt : p ≠ tp := by
    obtain ⟨xs, ep⟩ := hp1.lst
    exact ne_of_none ep htp
  have hp2 := hp1.at (H' := upd H1 tp (.tup [.str "abcdefghijklmnopqrstuvwxyz", .int way])) (upd_ne pt)
  have off2 : Off (fun a => a = p) H (upd H1 tp (.tup [.str "abcdefghijklmnopqrstuvwxyz", .int way])) := b1.off.trans (Off.new htp)
  refine ⟨rfl, (by show 14 ≤ sizeLine; decide), fun mn hmn => ?_⟩
  generalize upd H1 tp (.tup [.str "abcdefghijklmnopqrstuvwxyz", .int way]) = H2 at hp2 off2 hmn
  have pm : p ≠ mn := by
    obtain ⟨xs, ep⟩ := hp2.lst
    exact ne_of_none ep hmn
  have hm0 : (upd H2 mn (.lst (menuL.map V.str))) mn = some (.lst (menuL.map V.str)) := upd_same
  have hp3 : Pu (upd H2 mn (.lst (menuL.map V.str))) p (c + 1) := hp2.at (upd_ne pm)
  have off3 : Off (fun a => a = p) H (upd H2 mn (.lst (menuL.map V.str))) := off2.trans (Off.new hmn)
  show gName 4 _ _ (upd H2 mn (.lst (menuL.map V.str))) _
  generalize upd H2 mn (.lst (menuL.map V.str)) = H3 at hm0 hp3 off3
  refine ⟨⟨_, rfl⟩, 8, rfl, by decide, by decide, fun D hD => lc_range (lo := 0) (n := 8)
    (fun i H' => ∃ cs : List Nat, H' D = some (.lst (cs.map fun c => V.str (tx [c]))) ∧ cs.length = i ∧ (∀ c ∈ cs, 97 ≤ c ∧ c ≤ 122) ∧ Pu H' p (c + 1 + i) ∧ Off (fun a => a = p) H3 H') ?_ (fun i H' hi g => ?_) fun H' g => ?_⟩
  · obtain ⟨xs, ep⟩ := hp3.lst
    exact ⟨[], upd_same, rfl, fun c hc => absurd hc (by simp), hp3.at (upd_ne (ne_of_none ep hD)), Off.new hD⟩
  · obtain ⟨cs, e1, hl, hs, hp', k'⟩ := g
    obtain ⟨xs, ep⟩ := hp3.lst
    have pD : p ≠ D := ne_of_none ep hD
    refine ⟨rfl, Exists.intro _ ⟨rfl, Exists.intro _ ⟨rfl, p, 26, c + 1 + i, rfl, hp', by omega, by decide, by decide, fun j H4 j0 j7 hp4 b4 => ?_⟩⟩⟩
    refine ⟨_, j, _, rfl, rfl, by decide +kernel, abc_at j0 j7, _, (b4 D (Ne.symm pD)).trans e1, by rw [List.length_map, hl]; exact small1000 (by omega), cs ++ [97 + j.toNat], ?_, by simp [hl], fun z hz => ?_, hp4.at (upd_ne pD), fun a u ea na => ?_⟩
    · rw [upd_same, List.map_append]
      rfl
    · rcases List.mem_append.mp hz with hz | hz
      · exact hs z hz
      · rw [List.mem_singleton.mp hz]
        omega
    · rw [upd_ne (fun z => by rw [z, hD] at ea; cases ea)]
      exact (b4 a na).trans (k' a u ea na)
  obtain ⟨cs, e1, hl, hs, hp4, k4⟩ := g
  have ej : Txt.join "" (cs.map fun c => tx [c]) = tx cs := tx_join cs
  have em : cs.map (fun c => V.str (tx [c])) = (cs.map fun c => tx [c]).map V.str := by rw [List.map_map]; rfl
  rw [em] at e1
  have off4 : Off (fun a => a = p) H H' := off3.trans k4
  have hm4 : H' mn = some (.lst (menuL.map V.str)) := k4 _ _ hm0 (Ne.symm pm)
  refine ⟨_, D, cs.map (fun c => tx [c]), rfl, rfl, .inl (SqL.of e1), ?_, ?_⟩
  · rw [List.map_map, List.length_map, hl]
    have : List.map ((fun x : Str => x.length) ∘ fun c => tx [c]) cs = List.map (fun _ => 1) cs := rfl
    have e0 : ("" : Str).length = 0 := by decide +kernel
    have s1 : ∀ l : List Nat, (l.map fun _ => 1).sum = l.length := fun l => by induction l <;> simp_all <;> omega
    rw [this, e0, s1, hl]
    decide
  rw [ej]
  have fin : ∀ (f : Nat → Str) (H5 : Hp) (c5 : Nat) (D5 : Addr) (H6 : Hp), Pu H5 p c5 → c5 ≤ c + 10 → Off (fun a => a = p) H H5 → H5 D5 = none → H6 D5 = some (.lst (rgS f m)) → Off (fun _ => False) H5 H6 →
      (∀ r, r < m → Title (f r)) → (∀ i j, i < j → j < m → f i ≠ f j) → Q (.ref D5) H6 := by
    intro f H5 c5 D5 H6 h1 h2 h3 h4 h5 h6 h7 h8
    obtain ⟨xs, ep⟩ := id h1.lst
    have nD : D5 ≠ p := fun z => by
      rw [z, ep] at h4
      cases h4
    refine q ((List.range m).map f) D5 H6 c5 (by simp) (fun x hx => ?_) (nd_range h8) (h3.none h4 nD) h5 (h1.at ((h6 p _ ep id).trans ep.symm)) h2 (h3.trans (h6.mono fun a z => z.elim))
    obtain ⟨r, hr, rfl⟩ := List.mem_map.mp hx
    exact h7 r (List.mem_range.mp hr)
  have len8 : (tx cs).length ≤ sizeLine := by
    rw [tx_len, hl]
    decide
  have cA : way = 0 → m < 15 → ∀ {σ : L2.St} {R : VK} {E : XK}, True := fun _ _ _ _ _ => trivial
  refine ⟨_, rfl, rfl, _, rfl, ?_⟩
  by_cases w1 : way = 0
  rw [decide_eq_true (p := V.int way = V.int 0) (by rw [w1])]
  refine iteT ⟨_, rfl, _, _, rfl, rfl, _, rfl, ite2 (fun m1 => ?_) (fun m1 => ?_)⟩
  · have m2 : m < 15 := by
      have := of_decide_eq_true m1
      omega
    refine ⟨_, rfl, p, 14, c + 1 + 8, rfl, hp4, by omega, by decide, by decide, fun st H5 s0 s14 hp5 b5 => ⟨_, rfl, m, rfl, by omega, by omega, fun D5 hD5 => ?_⟩⟩
    have off5 := off4.trans b5.off
    refine lc_range (lo := 0) (n := m) (fun i H6 => H6 D5 = some (.lst (rgS (fun r => menuF (st.toNat + 3 * r)) i)) ∧ Off (fun _ => False) H5 H6) ⟨upd_same, Off.new hD5⟩ (fun i H6 hi g => ?_) fun H6 g => ?_
    · obtain ⟨g1, g2⟩ := g
      refine ⟨rfl, Exists.intro _ ⟨rfl, Exists.intro _ ⟨rfl, Exists.intro _ ⟨rfl, _, _, rfl, rfl, .inl ⟨by decide, by decide⟩, _, _, rfl, rfl, .inl ⟨_, rfl, _, _, rfl, rfl, (by show (0 : Int) < 14; decide), ?_⟩⟩⟩⟩⟩
      have ek : (st + 3 * (0 + (i : Int))) % 14 = (((st.toNat + 3 * i) % 14 : Nat) : Int) := by omega
      refine ⟨mn, _, (st + 3 * (0 + (i : Int))) % 14, V.str (menuF (st.toNat + 3 * i)), rfl, rfl, SqL.of (g2 _ _ ((b5 mn (Ne.symm pm)).trans hm4) id), ?_, _, g1, by rw [rgS_len]; exact small1000 (by omega), ?_⟩
      · rw [ek]
        exact atI_nat (by rw [List.getElem?_map, menu_at]; rfl)
      exact ⟨by rw [upd_same, rgS_succ], fun a u ea na => by rw [upd_ne (fun z => by rw [z, hD5] at ea; cases ea)]; exact g2 a u ea na⟩
    · obtain ⟨g1, g2⟩ := g
      refine fin _ H5 _ D5 H6 hp5 (by omega) off5 hD5 g1 g2 (fun r hr => ?_) (fun a b h1 h2 z => ?_)
      · exact menu_title _
      · have := menu_inj z
        omega
  rotate_left
  rw [decide_eq_false (p := V.int way = V.int 0) fun z => w1 (by cases z; rfl)]
  refine iteF (iteF ?_)
  all_goals
    refine ⟨_, rfl, rfl, _, rfl, ?_⟩
    by_cases w2 : way = 1
    rw [decide_eq_true (p := V.int way = V.int 1) (by rw [w2])]
    refine iteT ⟨_, rfl, _, _, rfl, rfl, _, rfl, ite2 (fun m2 => ?_) (fun m2 => ?_)⟩
    · have m3 : m < 9 := by
        have := of_decide_eq_true m2
        omega
      refine ⟨_, rfl, m, rfl, by omega, by omega, fun D5 hD5 => ?_⟩
      refine lc_range (lo := 0) (n := m) (fun i H6 => H6 D5 = some (.lst (rgS (fun r => tx (cs.take (r + 1))) i)) ∧ Off (fun _ => False) H' H6) ⟨upd_same, Off.new hD5⟩ (fun i H6 hi g => ?_) fun H6 g => ?_
      · obtain ⟨g1, g2⟩ := g
        have ek : (0 + (i : Int) + 1).toNat = i + 1 := by omega
        have ec := tx_cut (l := cs) (k := 0 + (i : Int) + 1) (by omega)
        rw [ek] at ec
        refine ⟨rfl, Exists.intro _ ⟨rfl, Exists.intro _ ⟨rfl, _, _, rfl, rfl, _, rfl, _, rfl, len8, _, g1, by rw [rgS_len]; exact small1000 (by omega), ?_⟩⟩⟩
        rw [ec]
        exact ⟨by rw [upd_same, rgS_succ (fun r => tx (cs.take (r + 1)))], fun a u ea na => by rw [upd_ne (fun z => by rw [z, hD5] at ea; cases ea)]; exact g2 a u ea na⟩
      · obtain ⟨g1, g2⟩ := g
        refine fin _ H' _ D5 H6 hp4 (by omega) off4 hD5 g1 g2 (fun r hr => ?_) (fun a b h1 h2 z => ?_)
        · refine title_tx.mpr ⟨by rw [List.length_take]; omega, by rw [List.length_take]; omega, fun c hc => hs c (List.mem_of_mem_take hc)⟩
        · have := congrArg List.length (tx_inj z)
          rw [List.length_take, List.length_take] at this
          omega
    rotate_left
    rw [decide_eq_false (p := V.int way = V.int 1) fun z => w2 (by cases z; rfl)]
    refine iteF (iteF ?_)
    all_goals
      refine ⟨_, rfl, p, 26, c + 1 + 8, rfl, hp4, by omega, by decide, by decide, fun st H5 s0 s26 hp5 b5 => ⟨_, rfl, m, rfl, by omega, by omega, fun D5 hD5 => ?_⟩⟩
      have off5 := off4.trans b5.off
      refine lc_range (lo := 0) (n := m) (fun i H6 => H6 D5 = some (.lst (rgS (fun r => tx ((97 + (st.toNat + r) % 26) :: cs.take (r / 26))) i)) ∧ Off (fun _ => False) H5 H6) ⟨upd_same, Off.new hD5⟩ (fun i H6 hi g => ?_) fun H6 g => ?_
      · obtain ⟨g1, g2⟩ := g
        have ek : ((st + (0 + (i : Int))) % 26).toNat = (st.toNat + i) % 26 := by omega
        have e2 : ((0 + (i : Int)) / 26).toNat = i / 26 := by omega
        have ea := abc_at (i := (st + (0 + (i : Int))) % 26) (by omega) (by omega)
        rw [ek] at ea
        have ec := tx_cut (l := cs) (k := (0 + (i : Int)) / 26) (by omega)
        rw [e2] at ec
        refine ⟨rfl, Exists.intro _ ⟨rfl, Exists.intro _ ⟨rfl, Exists.intro _ ⟨rfl, _, _, rfl, rfl, .inl ⟨_, rfl, _, _, rfl, rfl, (by show (0 : Int) < 26; decide), _, _, _, rfl, rfl, by decide +kernel, ea, Exists.intro _ ⟨rfl, Exists.intro _ ⟨rfl, _, _, rfl, rfl, ⟨by decide, by decide⟩, _, rfl, _, rfl, len8, _, _, rfl, rfl, ?_, _, g1, by rw [rgS_len]; exact small1000 (by omega), ?_⟩⟩⟩⟩⟩⟩⟩
        · rw [ec]
          show (tx [97 + (st.toNat + i) % 26]).length + _ ≤ _
          rw [tx_len, tx_len, List.length_take]
          show 1 + _ ≤ 16777216
          omega
        · rw [ec]
          have ej2 : (⟨#[97 + (st.toNat + i) % 26]⟩ : Str) ++ tx (cs.take (i / 26)) = tx ((97 + (st.toNat + i) % 26) :: cs.take (i / 26)) := tx_add [97 + (st.toNat + i) % 26] (cs.take (i / 26))
          rw [ej2]
          exact ⟨by rw [upd_same, rgS_succ (fun r => tx ((97 + (st.toNat + r) % 26) :: cs.take (r / 26)))], fun a u ea na => by rw [upd_ne (fun z => by rw [z, hD5] at ea; cases ea)]; exact g2 a u ea na⟩
      · obtain ⟨g1, g2⟩ := g
        refine fin _ H5 _ D5 H6 hp5 (by omega) off5 hD5 g1 g2 (fun r hr => ?_) (fun a b h1 h2 z => ?_)
        · refine title_tx.mpr ⟨by simp, by rw [List.length_cons, List.length_take]; omega, fun c hc => ?_⟩
          rcases List.mem_cons.mp hc with hc | hc
          · omega
          · exact hs c (List.mem_of_mem_take hc)
        · have z1 := tx_inj z
          have z2 := (List.cons.inj z1).1
          have z3 := congrArg List.length (List.cons.inj z1).2
          rw [List.length_take, List.length_take] at z3
          omega
end
end LW
set_option Elab.async false
set_option linter.all false
set_option maxRecDepth 100000
set_option maxHeartbeats 4000000
namespace LW
open PySem PySem.Spec PyProof.Rows L2 KV
/-! ### _law_drawn_tables -/
abbrev Tab := Str × List Str
def colsD (cs : List Str) : PyData := .list (cs.map PyData.str)
def tabD (t : Tab) : PyData := .tuple [.str t.1, colsD t.2]
def tabsD (ts : List Tab) : PyData := .list (ts.map tabD)
structure TabOk (mc : Nat) (t : Tab) : Prop where
  one : 1 ≤ t.2.length
  most : t.2.length ≤ mc
  good : ∀ x ∈ t.2, Title x
  nd : t.2.Nodup
  name : Title t.1
structure TabsOk (mt mc : Nat) (ts : List Tab) : Prop where
  one : 1 ≤ ts.length
  most : ts.length ≤ mt
  nd : (ts.map Prod.fst).Nodup
  each : ∀ t ∈ ts, TabOk mc t
/-- texts have no lists -/
theorem owAll_strs {H : Hp} {F : Fp} (e : ∀ a, ¬ F a) : ∀ xs : List Str, OwAll H (xs.map V.str) (xs.map PyData.str) F
  | [] => .nil e
  | x :: xs => .cons (.str x e) (owAll_strs e xs) (fun a z _ => e a z) fun a => ⟨.inl, fun z => z.elim id id⟩
/-- a list of texts -/
theorem ow_strs {H : Hp} {D : Addr} {xs : List Str} (h : H D = some (.lst (xs.map V.str))) : Ow H (.ref D) (colsD xs) fun a => a = D :=
  .lst h (owAll_strs (F := fun _ => False) (fun _ z => z) xs) (fun z => z) fun a => ⟨.inl, fun z => z.elim id False.elim⟩
def spDrawnTables : Sp := fun vs H Q _ => ∃ (p : Addr) (mt mc c : Nat), vs = [.ref p, .int (mt : Int), .int (mc : Int)] ∧ 1 ≤ mt ∧ mt ≤ 20 ∧ 1 ≤ mc ∧ mc ≤ 20 ∧ Pu H p c ∧ c + 300 ≤ 1000000000 ∧
  ∀ (ts : List Tab) (D : Addr) (F : Fp) (H' : Hp) (c' : Nat), TabsOk mt mc ts → Ow H' (.ref D) (tabsD ts) F → (∀ a, F a → H a = none) → Pu H' p c' → c' ≤ c + 300 → Off (fun a => a = p) H H' → Q (.ref D) H'
section
variable {P : Program} {w : World} {K : PySem.W.Frag} {mg : Str → Option Value} {base : Heap}
theorem scDrawnTables : FnScope ["purse", "most_tables", "most_columns", "found", "title"] ["purse", "most_tables", "most_columns"] (defScope sDrawnTables) := ⟨rfl, rfl, rfl, by decide +kernel, rfl, by decide +kernel, by decide +kernel⟩
theorem ok_drawnTables {f fC fW : Addr} {fd dC dW : FuncData} (F : FnP K "_law_drawn_tables" sDrawnTables f fd) (FC : FnP K "_law_coin" sCoin fC dC) (bC : Binds K dC ["purse", "many"] []) (mC : mg "_law_coin" = some (.ref fC))
    (FW : FnP K "_law_words" sWords fW dW) (bW : Binds K dW ["purse", "many"] []) (mW : mg "_law_words" = some (.ref fW)) (mi : mg "int" = none) (mr : mg "range" = none) :
    FnOk P w K mg base CX0 3 f fd ["purse", "most_tables", "most_columns"] spDrawnTables := by
  have GC : FnOk P w K mg base CX0 2 fC dC ["purse", "many"] spCoin := (ok_coin FC mi).mono (by decide)
  have GW : FnOk P w K mg base CX0 2 fW dW ["purse", "many"] spWords := ok_words FW FC bC mC mi mr
  refine F.ok scDrawnTables (fun vs H Q E h => ?_) (fun cdv A outer s H vs Q E hr h => ?_)
  · obtain ⟨p, mt, mc, c, rfl, _⟩ := h
    rfl
  obtain ⟨p, mt, mc, c, rfl, t1, t2, c1, c2, hp, hc, q⟩ := h
  refine ⟨_, PSs.nox (pss_cons (ps_set (i := 3) scDrawnTables.nd rfl (Or.inl rfl) (pe_lst pa_nil))
    (pss_cons (ps_for PassesOwn.never rfl (pi_list (pe_call GW hr rfl mW FW.kp bW .nil pass0 (pa_cons (pv 0) (pa_cons (pe_op op_add pe_int (pe_call GC hr rfl mC FC.kp bC .nil pass0 (pa_cons (pv 0) (pa_cons (pv 1) pa_nil)))) pa_nil)))) (pg_name (i := 4) scDrawnTables.nd rfl (Or.inl rfl))
      (pss_one (ps_expr (pe_bm PySem.F.plainAttrs_list PySem.F.slot_list_append PySem.F.type_list_append mt_append (pv 3)
        (pa_cons (pe_tup (pa_cons (pv 4) (pa_cons (pe_call GW hr rfl mW FW.kp bW .nil pass0 (pa_cons (pv 0) (pa_cons (pe_op op_add pe_int (pe_call GC hr rfl mC FC.kp bC .nil pass0 (pa_cons (pv 0) (pa_cons (pv 2) pa_nil)))) pa_nil))) pa_nil))) pa_nil)))))
    (pss_one (ps_ret (pv 3))))), ?_⟩
  refine ⟨by decide, fun fo hfo => ?_⟩
  obtain ⟨xs0, ep0⟩ := id hp.lst
  have pf : p ≠ fo := ne_of_none ep0 hfo
  have hp1 : Pu (upd H fo (.lst [])) p c := hp.at (upd_ne pf)
  have g1 : Grow (fun a => a = p) H fo [] (upd H fo (.lst [])) := Grow.start hfo
  generalize upd H fo (.lst []) = H1 at hp1 g1 ⊢
  refine ⟨_, rfl, _, rfl, _, rfl, p, mt, c, rfl, hp1, by omega, by omega, by omega, fun k H2 k0 k1 hp2 b2 => ?_⟩
  refine ⟨_, _, rfl, rfl, p, (1 + k).toNat, c + 1, ?_, by omega, hp2, by omega, fun ws W H3 c3 wl wt wn wf wd hp3 hc3 off3 => ?_⟩
  · rw [show (((1 + k).toNat : Nat) : Int) = 1 + k by omega]
    rfl
  have g3 : Grow (fun a => a = p) H fo [] H3 := by
    obtain ⟨acc, FA, a1, a2, a3, a4, a5⟩ := g1
    cases a2 with
    | nil e => exact ⟨[], FA, off3 _ _ (b2.off _ _ a1 (Ne.symm pf)) (Ne.symm pf), .nil e, a3, a4, a5.trans (b2.off.trans off3)⟩
  have kn : (1 + k).toNat ≤ mt := by omega
  have pW : p ≠ W := fun z => by
    obtain ⟨xs, ep⟩ := hp2.lst
    rw [← z, ep] at wf
    cases wf
  have fW : fo ≠ W := fun z => by
    obtain ⟨acc, FA, a1, a2, a3, a4, a5⟩ := g1
    rw [← z, b2 fo (Ne.symm pf), a1] at wf
    cases wf
  refine ⟨W, rfl, ⟨_, SqL.of wd⟩, for_list (K := K) (a := W) (xs := ws.map V.str)
    (fun i σ H' => ∃ (w : Option V) (ts : List Tab) (c' : Nat), σ = [some (.ref p), some (.int mt), some (.int mc), some (.ref fo), w] ∧ Grow (fun a => a = p) H fo (ts.map tabD) H' ∧ ts.map Prod.fst = ws.take i ∧ (∀ t ∈ ts, TabOk mc t) ∧
      Pu H' p c' ∧ c' ≤ c3 + 11 * i ∧ H' W = some (.lst (ws.map V.str))) ⟨none, [], c3, rfl, g3, rfl, fun t h => absurd h (by simp), hp3, by omega, wd⟩ (fun i σ H' _ g => ?_) (fun i x σ H' hx g => ?_) fun σ H' g => ?_⟩
  · obtain ⟨_, _, _, _, _, _, _, _, _, e⟩ := g
    exact SqL.of e
  · obtain ⟨w1, ts, c', rfl, g, hn, ht, hp', hc', hW⟩ := g
    rw [List.getElem?_map] at hx
    cases hy : ws[i]? with
    | none => rw [hy] at hx; cases hx
    | some y =>
    rw [hy] at hx
    cases hx
    have hi : i < ws.length := (List.getElem?_eq_some_iff.mp hy).1
    have hi2 : i < 20 := by omega
    obtain ⟨acc, ga1, ga2⟩ := g.len
    have gl : ts.length = i := by
      have := congrArg List.length hn
      rw [List.length_map, List.length_take] at this
      omega
    obtain ⟨xs1, ep1⟩ := hp'.lst
    refine ⟨_, rfl, .inl ⟨rfl, _, SqL.of ga1⟩, _, rfl, _, rfl, _, rfl, _, rfl, p, mc, c', rfl, hp', by omega, by omega, by omega, fun k H4 k0 k1 hp4 b4 => ?_⟩
    refine ⟨_, _, rfl, rfl, p, (1 + k).toNat, c' + 1, ?_, by omega, hp4, by omega, fun cs C H5 c5 cl ct cn cf cd hp5 hc5 off5 => ?_⟩
    · rw [show (((1 + k).toNat : Nat) : Int) = 1 + k by omega]
      rfl
    refine ⟨(by show 2 ≤ sizeLine; decide), fun tp htp => ?_⟩
    have o45 : Off (fun a => a = p) H' (upd H5 tp (.tup [.str y, .ref C])) := (b4.off.trans off5).trans (Off.new htp)
    have pt : p ≠ tp := fun z => by
      obtain ⟨xs, ep⟩ := hp5.lst
      rw [z, htp] at ep
      cases ep
    have Ct : C ≠ tp := fun z => by
      rw [z, htp] at cd
      cases cd
    have nC : H' C = none := b4.off.none cf fun z => by
      obtain ⟨xs, ep⟩ := hp4.lst
      rw [z, ep] at cf
      cases cf
    have ow : Ow (upd H5 tp (.tup [.str y, .ref C])) (.ref tp) (tabD (y, cs)) (fun a => a = C) :=
      .tup upd_same (.cons (F := fun _ => False) (.str y fun _ z => z) (.cons (G := fun _ => False) (ow_strs ((upd_ne Ct).trans cd)) (.nil fun _ z => z) (fun _ _ z => z) fun a => ⟨.inl, fun z => z.elim id False.elim⟩) (fun _ z => z.elim) fun a => ⟨.inr, fun z => z.elim False.elim id⟩)
    obtain ⟨acc2, a1, a2, a3⟩ := g.step hfo (fun a z => by rw [z, ep0]; simp) (fun a z => by rw [z]; exact ⟨_, ep1⟩) ow (fun a z => by rw [z]; exact nC) o45
    refine ⟨fo, acc2, _, rfl, rfl, a1, small1000 (by rw [a2, List.length_map]; omega), some (.str y), ts ++ [(y, cs)], c5, rfl, ?_, ?_, ?_, ?_, by omega, ?_⟩
    · rw [List.map_append]
      exact a3
    · rw [List.map_append, hn, List.take_add_one, hy]
      rfl
    · intro t h
      rcases List.mem_append.mp h with h | h
      · exact ht t h
      · rw [List.mem_singleton.mp h]
        exact ⟨by show 1 ≤ cs.length; omega, by show cs.length ≤ mc; omega, ct, cn, wt y (List.mem_of_getElem? hy)⟩
    · exact (hp5.at (upd_ne pt)).at (upd_ne pf)
    · rw [upd_ne (Ne.symm fW)]
      exact o45 _ _ hW (Ne.symm pW)
  · obtain ⟨w1, ts, c', rfl, g, hn, ht, hp', hc', hW⟩ := g
    rw [List.length_map, List.take_length] at hn
    have tl : ts.length = ws.length := by
      have := congrArg List.length hn
      rwa [List.length_map] at this
    obtain ⟨F', o', f', k'⟩ := g.list hfo
    rw [List.length_map] at hc'
    exact ⟨_, rfl, q ts fo F' H' c' ⟨by omega, by omega, hn ▸ wn, ht⟩ o' f' hp' (by omega) k'⟩
end
end LW
set_option Elab.async false
set_option linter.all false
set_option maxRecDepth 100000
set_option maxHeartbeats 4000000
namespace LW
open PySem PySem.Spec PyProof.Rows L2 KV
/-! ### data without a number: no purse is in it -/
mutual
def noInt : PyData → Bool
  | .int _ => false
  | .dict _ => false
  | .list ds => noIntAll ds
  | .tuple ds => noIntAll ds
  | _ => true
def noIntAll : List PyData → Bool
  | [] => true
  | d :: ds => noInt d && noIntAll ds
end
theorem noIntAll_of : ∀ {ds : List PyData}, (∀ d ∈ ds, noInt d = true) → noIntAll ds = true
  | [], _ => by simp [noIntAll]
  | d :: ds, h => by
    simp only [noIntAll, Bool.and_eq_true]
    exact ⟨h d List.mem_cons_self, noIntAll_of fun e he => h e (List.mem_cons_of_mem _ he)⟩
theorem noIntAll_mem : ∀ {ds : List PyData}, noIntAll ds = true → ∀ d ∈ ds, noInt d = true
  | d :: ds, h, e, he => by
    simp only [noIntAll, Bool.and_eq_true] at h
    rcases List.mem_cons.mp he with z | z
    · exact z ▸ h.1
    · exact noIntAll_mem h.2 e z
theorem noInt_cols (cs : List Str) : noInt (colsD cs) = true := by
  simp only [colsD, noInt]
  refine noIntAll_of fun d h => ?_
  obtain ⟨x, _, rfl⟩ := List.mem_map.mp h
  simp [noInt]
theorem noInt_tab (t : Tab) : noInt (tabD t) = true := by simp [tabD, noInt, noIntAll, noInt_cols]
theorem noInt_tabs (ts : List Tab) : noInt (tabsD ts) = true := by
  simp only [tabsD, noInt]
  refine noIntAll_of fun d h => ?_
  obtain ⟨x, _, rfl⟩ := List.mem_map.mp h
  exact noInt_tab x
section
variable {K : PySem.W.Frag} {H H' : Hp} {p : Addr} {c : Nat}
mutual
theorem dp_but (k : Off (fun a => a = p) H H') (hp : Pu H p c) : ∀ {v : V} {d : PyData}, Dp K H v d → noInt d = true → Dp K H' v d
  | _, _, .non, _ => .non
  | _, _, .bl b, _ => .bl b
  | _, _, .int i, _ => .int i
  | _, _, .str x, _ => .str x
  | _, _, .lst (a := a) (xs := xs) h r, n => by
    simp only [noInt] at n
    refine .lst ?_ (dpAll_but k hp r n)
    rcases h with (h | ⟨o, h⟩) | h
    · refine .inl (.inl (k _ _ h fun z => ?_))
      obtain ⟨x, y, z2, e, _⟩ := hp
      rw [z, e] at h
      cases h
      cases r with
      | cons h0 _ =>
        cases h0
        simp [noIntAll, noInt] at n
    · refine .inl (.inr ⟨o, k _ _ h fun z => ?_⟩)
      obtain ⟨x, y, z2, e, _⟩ := hp
      rw [z, e] at h
      cases h
    · exact .inr h
  | _, _, .tup (a := a) (xs := xs) h r, n => by
    simp only [noInt] at n
    refine .tup ?_ (dpAll_but k hp r n)
    rcases h with (h | ⟨o, h⟩) | h
    · refine .inl (.inl (k _ _ h fun z => ?_))
      obtain ⟨x, y, z2, e, _⟩ := hp
      rw [z, e] at h
      cases h
    · refine .inl (.inr ⟨o, k _ _ h fun z => ?_⟩)
      obtain ⟨x, y, z2, e, _⟩ := hp
      rw [z, e] at h
      cases h
    · exact .inr h
theorem dpAll_but (k : Off (fun a => a = p) H H') (hp : Pu H p c) : ∀ {vs : List V} {ds : List PyData}, DpAll K H vs ds → noIntAll ds = true → DpAll K H' vs ds
  | _, _, .nil, _ => .nil
  | _, _, .cons h r, n => by
    simp only [noIntAll, Bool.and_eq_true] at n
    exact .cons (dp_but k hp h n.1) (dpAll_but k hp r n.2)
end
/-- the parts of tables -/
theorem dp_tabs {v : V} {ts : List Tab} (h : Dp K H v (tabsD ts)) : ∃ a xs, v = .ref a ∧ SqL K H a xs ∧ DpAll K H xs (ts.map tabD) := by
  cases h with
  | lst h r => exact ⟨_, _, rfl, h, r⟩
theorem dp_tab {v : V} {t : Tab} (h : Dp K H v (tabD t)) : ∃ a w, v = .ref a ∧ SqT K H a [.str t.1, w] ∧ Dp K H w (colsD t.2) := by
  cases h with
  | tup h r =>
    cases r with
    | cons h1 r1 =>
      cases r1 with
      | cons h2 r2 =>
        cases r2
        cases h1
        exact ⟨_, _, rfl, h, h2⟩
theorem dpAll_strs : ∀ {xs : List V} {cs : List Str}, DpAll K H xs (cs.map PyData.str) → xs = cs.map V.str
  | _, [], .nil => rfl
  | _, c :: cs, .cons h r => by
    cases h
    rw [dpAll_strs r]
    rfl
theorem dp_cols {v : V} {cs : List Str} (h : Dp K H v (colsD cs)) : ∃ a, v = .ref a ∧ SqL K H a (cs.map V.str) := by
  cases h with
  | lst h r => exact ⟨_, rfl, dpAll_strs r ▸ h⟩
end
/-- the same, at a known place -/
theorem dp_tabs_ref {K : PySem.W.Frag} {H : Hp} {a : Addr} {ts : List Tab} (h : Dp K H (.ref a) (tabsD ts)) : ∃ xs, SqL K H a xs ∧ DpAll K H xs (ts.map tabD) ∧ xs.length = ts.length := by
  obtain ⟨b, xs, e, h1, h2⟩ := dp_tabs h
  cases e
  exact ⟨xs, h1, h2, by rw [dpAll_length h2, List.length_map]⟩
theorem dp_cols_ref {K : PySem.W.Frag} {H : Hp} {a : Addr} {cs : List Str} (h : Dp K H (.ref a) (colsD cs)) : SqL K H a (cs.map V.str) := by
  obtain ⟨b, e, h1⟩ := dp_cols h
  cases e
  exact h1
/-- the table at a place -/
theorem tab_at {K : PySem.W.Frag} {H : Hp} {a : Addr} {ts : List Tab} {k : Int} (h : Dp K H (.ref a) (tabsD ts)) (k0 : 0 ≤ k) (k1 : k < (ts.length : Int)) :
    ∃ xs t ta ca, SqL K H a xs ∧ atI xs k = some (.ref ta) ∧ t ∈ ts ∧ ts[k.toNat]? = some t ∧ SqT K H ta [.str t.1, .ref ca] ∧ Dp K H (.ref ca) (colsD t.2) := by
  obtain ⟨xs, h1, h2, h3⟩ := dp_tabs_ref h
  have hk : k.toNat < ts.length := by omega
  have e1 : (ts.map tabD)[k.toNat]? = some (tabD (ts[k.toNat])) := by rw [List.getElem?_map, List.getElem?_eq_getElem hk]; rfl
  obtain ⟨v, e2, e3⟩ := dpAll_at' h2 e1
  obtain ⟨ta, w, rfl, e4, e5⟩ := dp_tab e3
  obtain ⟨ca, rfl, _⟩ := dp_cols e5
  have ek : ((k.toNat : Nat) : Int) = k := by omega
  exact ⟨xs, ts[k.toNat], ta, ca, h1, by rw [← ek]; exact atI_nat e2, List.getElem_mem hk, List.getElem?_eq_getElem hk, e4, e5⟩
theorem col_at {cs : List Str} {k : Int} (k0 : 0 ≤ k) (k1 : k < (cs.length : Int)) : ∃ c, atI (cs.map V.str) k = some (.str c) ∧ c ∈ cs ∧ cs[k.toNat]? = some c := by
  have hk : k.toNat < cs.length := by omega
  have ek : ((k.toNat : Nat) : Int) = k := by omega
  have e : atI (cs.map V.str) ((k.toNat : Nat) : Int) = some (.str cs[k.toNat]) := atI_nat (by rw [List.getElem?_map, List.getElem?_eq_getElem hk]; rfl)
  rw [ek] at e
  exact ⟨cs[k.toNat], e, List.getElem_mem hk, List.getElem?_eq_getElem hk⟩
/-- items of owned tuples -/
theorem owc_str {H : Hp} {x : Str} {vs : List V} {ds : List PyData} {G : Fp} (r : OwAll H vs ds G) : OwAll H (.str x :: vs) (.str x :: ds) G :=
  .cons (F := fun _ => False) (.str x fun _ z => z) r (fun _ z => z.elim) fun a => ⟨.inr, fun z => z.elim False.elim id⟩
theorem owc {H : Hp} {v : V} {d : PyData} {vs : List V} {ds : List PyData} {F : Fp} (h : Ow H v d F) (r : OwAll H vs ds fun _ => False) : OwAll H (v :: vs) (d :: ds) F :=
  .cons h r (fun _ _ z => z) fun a => ⟨.inl, fun z => z.elim id False.elim⟩
theorem ow0 {H : Hp} : OwAll H [] [] fun _ => False := .nil fun _ z => z
/-! ### _law_drawn_rules -/
/-- the table, the columns, the settled one -/
abbrev Rul := Str × List Str × Option Str
def rulD : Rul → PyData
  | (t, cs, none) => .tuple [.str "key", .str t, colsD cs]
  | (t, cs, some c) => .tuple [.str "settles", .str t, colsD cs, .str c]
def rulsD (rs : List Rul) : PyData := .list (rs.map rulD)
def RulOk (ts : List Tab) (r : Rul) : Prop := ∃ t ∈ ts, r.1 = t.1 ∧ r.2.1.Sublist t.2 ∧ ∀ c, r.2.2 = some c → c ∈ t.2
def spDrawnRules (K : PySem.W.Frag) : Sp := fun vs H Q _ => ∃ (p : Addr) (v : V) (ts : List Tab) (mt mc m c : Nat), vs = [.ref p, v, .int (m : Int)] ∧ Dp K H v (tabsD ts) ∧ TabsOk mt mc ts ∧ mt ≤ 20 ∧ mc ≤ 20 ∧ m ≤ 40 ∧ Pu H p c ∧ c + 1200 ≤ 1000000000 ∧
  ∀ (rs : List Rul) (D : Addr) (F : Fp) (H' : Hp) (c' : Nat), rs.length ≤ m → (∀ r ∈ rs, RulOk ts r) → Ow H' (.ref D) (rulsD rs) F → (∀ a, F a → H a = none) → Pu H' p c' → c' ≤ c + 1200 → Off (fun a => a = p) H H' → Q (.ref D) H'
section
variable {P : Program} {w : World} {K : PySem.W.Frag} {mg : Str → Option Value} {base : Heap}
theorem scDrawnRules : FnScope ["purse", "tables_here", "most", "found", "turn", "title", "known", "some", "column"] ["purse", "tables_here", "most"] (defScope sDrawnRules) := ⟨rfl, rfl, rfl, by decide +kernel, rfl, by decide +kernel, by decide +kernel⟩
theorem ok_drawnRules {f fC : Addr} {fd dC : FuncData} (F : FnP K "_law_drawn_rules" sDrawnRules f fd) (FC : FnP K "_law_coin" sCoin fC dC) (bC : Binds K dC ["purse", "many"] []) (mC : mg "_law_coin" = some (.ref fC))
    (mi : mg "int" = none) (mr : mg "range" = none) (ml : mg "len" = none) :
    FnOk P w K mg base CX0 2 f fd ["purse", "tables_here", "most"] (spDrawnRules K) := by
  have GC : FnOk P w K mg base CX0 1 fC dC ["purse", "many"] spCoin := ok_coin FC mi
  refine F.ok scDrawnRules (fun vs H Q E h => ?_) (fun cdv A outer s H vs Q E hr h => ?_)
  · obtain ⟨p, v, ts, mt, mc, m, c, rfl, _⟩ := h
    rfl
  obtain ⟨p, v, ts, mt, mc, m, c, rfl, hv, tok, t2, c2, m2, hp, hc, q⟩ := h
  refine ⟨_, PSs.nox (pss_cons (ps_set (i := 3) scDrawnRules.nd rfl (Or.inl rfl) (pe_lst pa_nil))
    (pss_cons (ps_for PassesOwn.never rfl (pi_range1 rfl mr (pa_cons (pe_call GC hr rfl mC FC.kp bC .nil pass0 (pa_cons (pv 0) (pa_cons (pe_op op_add (pv 2) pe_int) pa_nil))) pa_nil)) (pg_name (i := 4) scDrawnRules.nd rfl (Or.inl rfl))
      (pss_cons (ps_asg (pe_ix ix_list (pv 1) (pe_call GC hr rfl mC FC.kp bC .nil pass0 (pa_cons (pv 0) (pa_cons (pe_callB call_len_seq rfl ml boot_len (pa_cons (pv 1) pa_nil)) pa_nil))) (fun _ _ => rfl))
          (pg_tup rfl (pgs_cons (pg_name (i := 5) scDrawnRules.nd rfl (Or.inl rfl)) (pgs_cons (pg_name (i := 6) scDrawnRules.nd rfl (Or.inl rfl)) pgs_nil))))
      (pss_cons (ps_setLc (i := 7) (own := [("column", 8)]) (g := gName 8) rfl scDrawnRules.nd rfl rfl rfl (pi_list (pv 6))
          (blkOk_by (own := [("column", 8)]) (N := ["purse", "tables_here", "most", "found", "turn", "title", "known", "some", "column"]) (sc := defScope sDrawnRules) (by decide +kernel))
          (fun _ _ _ _ _ => pg_name (i := 8) scDrawnRules.nd rfl (Or.inl rfl)) (fun _ _ _ _ _ => pts_one (pt_cmpR op_eq (pe_call GC hr rfl mC FC.kp bC .nil pass0 (pa_cons (pv 0) (pa_cons pe_int pa_nil))) pe_int (nomark _)))
          (fun _ _ _ _ _ => pv 8))
      (pss_one (ps_if (pt_cmpR op_eq (pe_call GC hr rfl mC FC.kp bC .nil pass0 (pa_cons (pv 0) (pa_cons pe_int pa_nil))) pe_int (nomark _))
        (pss_one (ps_expr (pe_bm PySem.F.plainAttrs_list PySem.F.slot_list_append PySem.F.type_list_append mt_append (pv 3)
          (pa_cons (pe_tup (pa_cons pe_str (pa_cons (pv 5) (pa_cons (pv 7) pa_nil)))) pa_nil))))
        (pss_cons (ps_set (i := 8) scDrawnRules.nd rfl (Or.inl rfl) (pe_ix ix_list (pv 6) (pe_call GC hr rfl mC FC.kp bC .nil pass0 (pa_cons (pv 0) (pa_cons (pe_callB call_len_seq rfl ml boot_len (pa_cons (pv 6) pa_nil)) pa_nil))) (fun _ _ => rfl)))
        (pss_one (ps_expr (pe_bm PySem.F.plainAttrs_list PySem.F.slot_list_append PySem.F.type_list_append mt_append (pv 3)
          (pa_cons (pe_tup (pa_cons pe_str (pa_cons (pv 5) (pa_cons (pv 7) (pa_cons (pv 8) pa_nil))))) pa_nil))))))))))
    (pss_one (ps_ret (pv 3))))), ?_⟩
  obtain ⟨a, xs, rfl, _⟩ := dp_tabs hv
  refine ⟨by decide, fun fo hfo => ?_⟩
  obtain ⟨xs0, ep0⟩ := id hp.lst
  have pf : p ≠ fo := ne_of_none ep0 hfo
  have hp1 : Pu (upd H fo (.lst [])) p c := hp.at (upd_ne pf)
  have g1 : Grow (fun a => a = p) H fo [] (upd H fo (.lst [])) := Grow.start hfo
  generalize upd H fo (.lst []) = H1 at hp1 g1 ⊢
  refine ⟨_, rfl, _, rfl, _, _, rfl, rfl, p, (m : Int) + 1, c, rfl, hp1, by omega, by omega, by omega, fun n H2 n0 n1 hp2 b2 => ⟨n, rfl, by omega, by omega, ?_⟩⟩
  have g2 : Grow (fun a => a = p) H fo [] H2 := by
    obtain ⟨acc, FA, a1, a2, a3, a4, a5⟩ := g1
    cases a2 with
    | nil e => exact ⟨[], FA, b2.off _ _ a1 (Ne.symm pf), .nil e, a3, a4, a5.trans b2.off⟩
  refine for_range (lo := 0) (n := n.toNat) (fun i σ H' => ∃ (w4 w5 w6 w7 w8 : Option V) (rs : List Rul) (c' : Nat), σ = [some (.ref p), some (.ref a), some (.int m), some (.ref fo), w4, w5, w6, w7, w8] ∧ Grow (fun a => a = p) H fo (rs.map rulD) H' ∧
    rs.length ≤ i ∧ (∀ r ∈ rs, RulOk ts r) ∧ Pu H' p c' ∧ c' ≤ c + 1 + 29 * i) ⟨none, none, none, none, none, [], c + 1, rfl, g2, by simp, fun r h => absurd h (by simp), hp2, by omega⟩ (fun i σ H' hi g => ?_) fun σ H' g => ?_
  · obtain ⟨w4, w5, w6, w7, w8, rs, c', rfl, g, hl, hr', hp', hc'⟩ := g
    have hi2 : i < 41 := by omega
    have offH : Off (fun a => a = p) H H' := by
      obtain ⟨_, _, _, _, _, _, h⟩ := g
      exact h
    have hv' := dp_but offH hp hv (noInt_tabs ts)
    obtain ⟨xs', sq', _, len'⟩ := dp_tabs_ref hv'
    have tl := tok.one
    have tm := tok.most
    refine ⟨_, rfl, _, rfl, _, rfl, a, xs', rfl, .inl sq', p, (xs'.length : Int), c', rfl, hp', by omega, by omega, by omega, fun k H4 k0 k1 hp4 b4 => ?_⟩
    have hv4 := dp_but b4.off hp' hv' (noInt_tabs ts)
    obtain ⟨xs4, t, ta, ca, s1, s2, s3, _, s4, s5⟩ := tab_at hv4 k0 (by omega)
    have cm := (tok.each t s3).most
    have co := (tok.each t s3).one
    refine ⟨a, xs4, k, _, rfl, rfl, s1, s2, ta, _, rfl, s4, rfl, _, _, rfl, _, _, rfl, rfl, ?_⟩
    obtain ⟨xs4p, ep4⟩ := id hp4.lst
    refine ⟨_, rfl, ca, rfl, ⟨_, dp_cols_ref s5⟩, fun D hD => lc_list (K := K) (a := ca) (xs := t.2.map V.str)
      (fun j H5 => ∃ (cs : List Str) (c5 : Nat), H5 D = some (.lst (cs.map V.str)) ∧ cs.Sublist (t.2.take j) ∧ Pu H5 p c5 ∧ c5 ≤ c' + 1 + j ∧ Off (fun a => a = p) H4 H5)
      ⟨[], c' + 1, upd_same, List.nil_sublist _, hp4.at (upd_ne (ne_of_none ep4 hD)), by omega, Off.new hD⟩ (fun j H5 _ g5 => ?_) (fun j x H5 hx g5 => ?_) fun H5 g5 => ?_⟩
    · obtain ⟨_, _, _, _, _, _, o5⟩ := g5
      exact dp_cols_ref (dp_but o5 hp4 s5 (noInt_cols _))
    · obtain ⟨cs, c5, e5, sub, hp5, hc5, o5⟩ := g5
      rw [List.getElem?_map] at hx
      cases hy : t.2[j]? with
      | none => rw [hy] at hx; cases hx
      | some y =>
      rw [hy] at hx
      cases hx
      have hj : j < t.2.length := (List.getElem?_eq_some_iff.mp hy).1
      have pD : D ≠ p := fun z => ne_of_none ep4 hD z.symm
      refine ⟨rfl, _, rfl, p, 2, c5, rfl, hp5, by omega, by decide, by decide, fun z H6 _ _ hp6 b6 => ⟨rfl, _, rfl, ite2 (fun _ => ?_) (fun _ => ?_)⟩⟩
      · have sl := sub.length_le
        rw [List.length_take] at sl
        refine ⟨_, rfl, cs.map V.str, b6.off _ _ e5 pD, by rw [List.length_map]; exact small1000 (by omega), cs ++ [y], c5 + 1, by rw [upd_same, List.map_append]; rfl, ?_, hp6.at (upd_ne (Ne.symm pD)), by omega, fun b u eb nb => ?_⟩
        · rw [List.take_add_one, hy]
          exact sub.append (List.Sublist.refl _)
        · rw [upd_ne (fun z => by rw [z, hD] at eb; cases eb)]
          exact b6.off _ _ (o5 _ _ eb nb) nb
      · refine ⟨cs, c5 + 1, b6.off _ _ e5 pD, ?_, hp6, by omega, o5.trans b6.off⟩
        rw [List.take_add_one]
        exact sub.trans (List.sublist_append_left _ _)
    · obtain ⟨cs, c5, e5, sub, hp5, hc5, o5⟩ := g5
      rw [List.length_map] at hc5 sub
      rw [List.take_length] at sub
      have pD : D ≠ p := fun z => ne_of_none ep4 hD z.symm
      have nD : H' D = none := b4.off.none hD pD
      obtain ⟨xs1, ep1⟩ := hp'.lst
      refine ⟨_, rfl, p, 2, c5, rfl, hp5, by omega, by decide, by decide, fun z H6 _ _ hp6 b6 => ⟨rfl, _, rfl, ite2 (fun _ => ?_) (fun _ => ?_)⟩⟩
      · have o6 : Off (fun a => a = p) H' H6 := b4.off.trans (o5.trans b6.off)
        obtain ⟨acc, ga1, ga2⟩ := g.len
        have e6 := b6.off _ _ e5 pD
        refine ⟨_, rfl, .inl ⟨rfl, _, SqL.of (o6 _ _ ga1 (Ne.symm pf))⟩, _, rfl, _, rfl, (by show 3 ≤ sizeLine; decide), fun tp htp => ?_⟩
        have Dt : D ≠ tp := fun z => by rw [z, htp] at e6; cases e6
        have pt : p ≠ tp := fun z => by
          obtain ⟨xs, ep⟩ := hp6.lst
          rw [z, htp] at ep
          cases ep
        have o7 : Off (fun a => a = p) H' (upd H6 tp (.tup [.str "key", .str t.1, .ref D])) := o6.trans (Off.new htp)
        have ow : Ow (upd H6 tp (.tup [.str "key", .str t.1, .ref D])) (.ref tp) (rulD (t.1, cs, none)) (fun a => a = D) :=
          .tup upd_same (owc_str (owc_str (owc (ow_strs ((upd_ne Dt).trans e6)) ow0)))
        obtain ⟨acc2, a1, a2, a3⟩ := g.step hfo (fun a z => by rw [z, ep0]; simp) (fun a z => by rw [z]; exact ⟨_, ep1⟩) ow (fun a z => by rw [z]; exact nD) o7
        refine ⟨fo, acc2, _, rfl, rfl, a1, small1000 (by rw [a2, List.length_map]; omega), _, _, _, _, _, rs ++ [(t.1, cs, none)], c5 + 1, rfl, ?_, ?_, ?_, ?_, ?_⟩
        · rw [List.map_append]
          exact a3
        · rw [List.length_append]
          exact Nat.succ_le_succ hl
        · intro r h
          rcases List.mem_append.mp h with h | h
          · exact hr' r h
          · rw [List.mem_singleton.mp h]
            exact ⟨t, s3, rfl, sub, fun c h => by cases h⟩
        · exact (hp6.at (upd_ne pt)).at (upd_ne pf)
        · omega
      · have sq6 := dp_cols_ref (dp_but (o5.trans b6.off) hp4 s5 (noInt_cols _))
        refine ⟨_, rfl, _, rfl, _, rfl, ca, _, rfl, .inl sq6, p, ((t.2.map V.str).length : Int), c5 + 1, rfl, hp6, by omega, by rw [List.length_map]; omega, by rw [List.length_map]; omega, fun e H7 e0 e1 hp7 b7 => ?_⟩
        rw [List.length_map] at e1
        have sq7 := dp_cols_ref (dp_but (o5.trans (b6.off.trans b7.off)) hp4 s5 (noInt_cols _))
        obtain ⟨y, y1, y2, _⟩ := col_at e0 e1
        refine ⟨ca, _, e, _, rfl, rfl, sq7, y1, ?_⟩
        have o6 : Off (fun a => a = p) H' H7 := b4.off.trans (o5.trans (b6.off.trans b7.off))
        obtain ⟨acc, ga1, ga2⟩ := g.len
        have e7 := b7.off _ _ (b6.off _ _ e5 pD) pD
        refine ⟨_, rfl, .inl ⟨rfl, _, SqL.of (o6 _ _ ga1 (Ne.symm pf))⟩, _, rfl, _, rfl, _, rfl, (by show 4 ≤ sizeLine; decide), fun tp htp => ?_⟩
        have Dt : D ≠ tp := fun z => by rw [z, htp] at e7; cases e7
        have pt : p ≠ tp := fun z => by
          obtain ⟨xs, ep⟩ := hp7.lst
          rw [z, htp] at ep
          cases ep
        have o7 : Off (fun a => a = p) H' (upd H7 tp (.tup [.str "settles", .str t.1, .ref D, .str y])) := o6.trans (Off.new htp)
        have ow : Ow (upd H7 tp (.tup [.str "settles", .str t.1, .ref D, .str y])) (.ref tp) (rulD (t.1, cs, some y)) (fun a => a = D) :=
          .tup upd_same (owc_str (owc_str (owc (ow_strs ((upd_ne Dt).trans e7)) (owc_str ow0))))
        obtain ⟨acc2, a1, a2, a3⟩ := g.step hfo (fun a z => by rw [z, ep0]; simp) (fun a z => by rw [z]; exact ⟨_, ep1⟩) ow (fun a z => by rw [z]; exact nD) o7
        refine ⟨fo, acc2, _, rfl, rfl, a1, small1000 (by rw [a2, List.length_map]; omega), _, _, _, _, _, rs ++ [(t.1, cs, some y)], c5 + 2, rfl, ?_, ?_, ?_, ?_, ?_⟩
        · rw [List.map_append]
          exact a3
        · rw [List.length_append]
          exact Nat.succ_le_succ hl
        · intro r h
          rcases List.mem_append.mp h with h | h
          · exact hr' r h
          · rw [List.mem_singleton.mp h]
            exact ⟨t, s3, rfl, sub, fun c h => by cases h; exact y2⟩
        · exact (hp7.at (upd_ne pt)).at (upd_ne pf)
        · omega
  · obtain ⟨w4, w5, w6, w7, w8, rs, c', rfl, g, hl, hr', hp', hc'⟩ := g
    obtain ⟨F', o', f', k'⟩ := g.list hfo
    exact ⟨_, rfl, q rs fo F' H' c' (by omega) hr' o' f' hp' (by omega) k'⟩
end
end LW
set_option Elab.async false
set_option linter.all false
set_option maxRecDepth 100000
set_option maxHeartbeats 4000000
namespace LW
open PySem PySem.Spec PyProof.Rows L2 KV
/-- a comprehension over zip of two lists of one length -/
theorem lc_zip {K : PySem.W.Frag} {a b : Addr} {xs ys : List V} {g : TG} {tt : TT} {te : TE} {vs : List Nat} {σ : L2.St} {H1 : Hp} {D : Addr} {Qd : Hp → Prop} (Pv : Nat → Hp → Prop) (hxy : xs.length = ys.length)
    (h0 : Pv 0 (upd H1 D (.lst []))) (hl : ∀ i H, i ≤ xs.length → Pv i H → SqL K H a xs ∧ SqL K H b ys)
    (hs : ∀ i x y H T, xs[i]? = some x → ys[i]? = some y → Pv i H → H T = none → g (.ref T) (wipe σ vs) (upd H T (.tup [x, y])) fun σ2 H2 => wipe σ2 vs = wipe σ vs ∧ tt σ2 H2 fun c H3 =>
      if c = true then te σ2 H3 fun y H4 => ∃ acc, H4 D = some (.lst acc) ∧ acc.length < sizeLine ∧ Pv (i + 1) (upd H4 D (.lst (acc ++ [y]))) else Pv (i + 1) H3)
    (hd : ∀ H, Pv xs.length H → Qd H) :
    ∃ W : Nat → Nat → Hp → Prop, (∃ m, W 0 m (upd H1 D (.lst []))) ∧ ∀ i m H, W i m H →
      ((Itz K a b).stop i H ∧ Qd H) ∨ ((Itz K a b).go i H ∧ ∃ Nx : Hp → Prop, (∀ H', Nx H' → ∃ m', m' < m ∧ W (i + 1) m' H') ∧ ∀ x H', (Itz K a b).yld i H x H' → g x (wipe σ vs) H' fun σ2 H2 => wipe σ2 vs = wipe σ vs ∧ tt σ2 H2 fun c H3 =>
        if c = true then te σ2 H3 fun y H4 => ∃ acc, H4 D = some (.lst acc) ∧ acc.length < sizeLine ∧ Nx (upd H4 D (.lst (acc ++ [y]))) else Nx H3) := by
  refine ⟨fun i m H => m = xs.length - i ∧ i ≤ xs.length ∧ Pv i H, ⟨_, rfl, Nat.zero_le _, h0⟩, ?_⟩
  rintro i m H ⟨rfl, hi, pv⟩
  obtain ⟨q1, q2⟩ := hl i H hi pv
  rcases Nat.lt_or_ge i xs.length with lt | ge
  · have ly : i < ys.length := by omega
    refine .inr ⟨⟨xs, ys, xs[i], ys[i], q1, q2, by simp [lt], by simp [ly]⟩, Pv (i + 1), fun H' z => ⟨xs.length - (i + 1), by omega, rfl, lt, z⟩, ?_⟩
    rintro v H' ⟨T, x, y, rfl, hT, rfl, e1, e2⟩
    exact hs i x y H T (e1 xs q1) (e2 ys q2) pv hT
  · have e : i = xs.length := by omega
    rw [e] at pv
    exact .inl ⟨⟨xs, ys, q1, q2, .inl ge⟩, hd H pv⟩
theorem cau_off {H H' : Hp} {a C dx : Addr} {fs : List (Str × V)} (h : Cau H a C dx fs) (k : Off (fun _ => False) H H') : Cau H' a C dx fs := ⟨k _ _ h.1 id, k _ _ h.2 id⟩
def names : List Str := ["KeyTellError", "BrokenRule", "DoubleName", "InvalidName", "InvalidQuestion", "InvalidRow", "InvalidRule", "NoSuchRow", "NothingToUndo", "UnknownColumn", "UnknownTable", "Unreadable"]
section
variable {P : Program} {w : World} {K : PySem.W.Frag} {mg : Str → Option Value} {base : Heap}
/-! ### KeyTellError.__init__ -/
theorem scInit : FnScope ["self", "value"] ["self", "value"] (defScope pKeyTellError_init) := ⟨rfl, rfl, rfl, by decide +kernel, rfl, by decide +kernel, by decide +kernel⟩
theorem ok_init {f : Addr} {fd : FuncData} (F : FunD K "__init__" "KeyTellError.__init__" (defArgs pKeyTellError_init) (defBody pKeyTellError_init) (defScope pKeyTellError_init) [] [] f fd) :
    FnOk P w K mg base CX0 1 f fd ["self", "value"] (spInit K "value") := by
  refine F.ok scInit (fun vs H Q E h => ?_) (fun cdv A outer s H vs Q E hr h => ?_)
  · obtain ⟨a, C, v, rfl, _⟩ := h
    rfl
  obtain ⟨a, C, v, rfl, T, no, e, q⟩ := h
  refine ⟨_, pss_one (ps_ost (pv 0) (pv 1)), ?_⟩
  exact ⟨_, rfl, _, rfl, a, C, rfl, T, no, .inl ⟨e, fun dx h1 h2 => q dx h1 h2⟩⟩
/-- what both lean on -/
structure ErrT (P : Program) (w : World) (K : PySem.W.Frag) (mg : Str → Option Value) (base : Heap) (fdI : FuncData) : Prop where
  es : Errs K "value" "KeyTellError" names
  g : ∀ x ∈ names, mg x = some (.ref (He.ga K x))
  ini : FnOk P w K mg base CX0 1 (He.ma K (He.ga K "KeyTellError") "__init__") fdI ["self", "value"] (spInit K "value")
  b : Binds K fdI ["self", "value"] []
  bk : ∀ (s : Shared) (a u : Value), BindsTo s fdI ⟨[a], [("value", u)]⟩ [("self", a), ("value", u)]
/-! ### _law_kinds -/
def kinds (x : Str) : List Str := names.tail.filter fun y => decide (x = y)
def spKinds (K : PySem.W.Frag) : Sp := fun vs H Q _ => ∃ (a dx : Addr) (x : Str) (fs : List (Str × V)), vs = [.ref a] ∧ x ∈ names ∧ Cau H a (He.ga K x) dx fs ∧
  ∀ D H', H D = none → H' D = some (.lst ((kinds x).map V.str)) → Off (fun _ => False) H H' → Q (.ref D) H'
theorem scKinds : FnScope ["caught", "words", "told", "word", "is_so"] ["caught"] (defScope sKinds) := ⟨rfl, rfl, rfl, by decide +kernel, rfl, by decide +kernel, by decide +kernel⟩
theorem ok_kinds {f : Addr} {fd fdI : FuncData} (F : FnP K "_law_kinds" sKinds f fd) (T : ErrT P w K mg base fdI) (mi : mg "isinstance" = none) (mz : mg "zip" = none) : FnOk P w K mg base CX0 1 f fd ["caught"] (spKinds K) := by
  refine F.ok scKinds (fun vs H Q E h => ?_) (fun cdv A outer s H vs Q E hr h => ?_)
  · obtain ⟨a, dx, x, fs, rfl, _⟩ := h
    rfl
  obtain ⟨a, dx, x, fs, rfl, hx, ec, q⟩ := h
  have is : ∀ {X : Cx} (hX : X.K = K ∧ X.mg = mg) (y : Str) {p p1 p2 pos : Pos} (hy : y ∈ names), Gl X "isinstance" → Gl X y → (y == ("__debug__" : Str)) = false → PE X (.Name "caught" p1) (tVar 0) →
      PE X (.Call (.Name "isinstance" p) [.Name "caught" p1, .Name y p2] [] pos) (tCB (rIsK K) (tCons (tVar 0) (tCons (tC (.ref (He.ga K y))) tNil))) := by
    rintro X ⟨rfl, rfl⟩ y p p1 p2 pos hy hg1 hg2 hd he
    exact pe_callB call_isK hg1 mi boot_isinstance (pa_cons he (pa_cons (pe_glob hg2 (T.g y hy) rfl hd) pa_nil))
  refine ⟨_, pss_cons (ps_set (i := 1) scKinds.nd rfl (Or.inl rfl) (pe_lst (pa_cons pe_str (pa_cons pe_str (pa_cons pe_str (pa_cons pe_str (pa_cons pe_str (pa_cons pe_str (pa_cons pe_str pa_nil)))))))))
    (pss_cons (ps_set (i := 1) scKinds.nd rfl (Or.inl rfl) (pe_op op_cat (pv 1) (pe_lst (pa_cons pe_str (pa_cons pe_str (pa_cons pe_str (pa_cons pe_str pa_nil)))))))
    (pss_cons (ps_set (i := 2) scKinds.nd rfl (Or.inl rfl) (pe_lst (pa_cons (is ⟨rfl, rfl⟩ "BrokenRule" (by decide) rfl rfl rfl (pv 0)) (pa_cons (is ⟨rfl, rfl⟩ "DoubleName" (by decide) rfl rfl rfl (pv 0)) (pa_cons (is ⟨rfl, rfl⟩ "InvalidName" (by decide) rfl rfl rfl (pv 0)) pa_nil)))))
    (pss_cons (ps_set (i := 2) scKinds.nd rfl (Or.inl rfl) (pe_op op_cat (pv 2) (pe_lst (pa_cons (is ⟨rfl, rfl⟩ "InvalidQuestion" (by decide) rfl rfl rfl (pv 0)) (pa_cons (is ⟨rfl, rfl⟩ "InvalidRow" (by decide) rfl rfl rfl (pv 0)) pa_nil)))))
    (pss_cons (ps_set (i := 2) scKinds.nd rfl (Or.inl rfl) (pe_op op_cat (pv 2) (pe_lst (pa_cons (is ⟨rfl, rfl⟩ "InvalidRule" (by decide) rfl rfl rfl (pv 0)) (pa_cons (is ⟨rfl, rfl⟩ "NoSuchRow" (by decide) rfl rfl rfl (pv 0)) (pa_cons (is ⟨rfl, rfl⟩ "NothingToUndo" (by decide) rfl rfl rfl (pv 0)) pa_nil))))))
    (pss_cons (ps_set (i := 2) scKinds.nd rfl (Or.inl rfl) (pe_op op_cat (pv 2) (pe_lst (pa_cons (is ⟨rfl, rfl⟩ "UnknownColumn" (by decide) rfl rfl rfl (pv 0)) (pa_cons (is ⟨rfl, rfl⟩ "UnknownTable" (by decide) rfl rfl rfl (pv 0)) (pa_cons (is ⟨rfl, rfl⟩ "Unreadable" (by decide) rfl rfl rfl (pv 0)) pa_nil))))))
    (pss_one (ps_ret (pe_lc (own := [("word", 3), ("is_so", 4)]) (g := gTup K 2 (gCons (gName 3) (gCons (gName 4) gNil))) rfl scKinds.nd (pi_zip rfl mz (pa_cons (pv 1) (pa_cons (pv 2) pa_nil)))
        (blkOk_by (own := [("word", 3), ("is_so", 4)]) (N := ["caught", "words", "told", "word", "is_so"]) (sc := defScope sKinds) (by decide +kernel))
        (fun _ _ _ _ _ => pg_tup rfl (pgs_cons (pg_name (i := 3) scKinds.nd rfl (Or.inl rfl)) (pgs_cons (pg_name (i := 4) scKinds.nd rfl (Or.inl rfl)) pgs_nil)))
        (fun _ _ _ _ _ => pts_one (pt_val (pv 4))) (fun _ _ _ _ _ => pv 3))))))))), ?_⟩
  have kt : ∀ y, y ∈ names → PySem.W.kitOne K (.ref (He.ga K x)) (.ref (He.ga K y)) = some (decide (x = y) || decide (y = "KeyTellError")) := fun y hy => T.es.kit x hx y hy
  have er := (T.es.ok x hx).err
  have no : ¬ False := fun z => z
  have k0 : Off (fun _ => False) H H := Off.refl _ _
  refine ⟨by show 7 ≤ sizeLine; decide, fun p1 n1 => ?_⟩
  have k1 : ∀ o, Off (fun _ => False) H (upd _ p1 o) := fun o => k0.trans (Off.new n1)
  refine ⟨_, rfl, by show 4 ≤ sizeLine; decide, fun p2 n2 => ?_⟩
  have k2 : ∀ o, Off (fun _ => False) H (upd _ p2 o) := fun o => (k1 _).trans (Off.new n2)
  refine ⟨p1, p2, _, _, rfl, rfl, by rw [upd_ne (ne_of_none upd_same n2)]; exact upd_same, upd_same, by show 11 ≤ sizeLine; decide, fun p3 n3 => ?_⟩
  have k3 : ∀ o, Off (fun _ => False) H (upd _ p3 o) := fun o => (k2 _).trans (Off.new n3)
  refine ⟨_, rfl, a, _, dx, fs, _, _, _, rfl, .own _, er, cau_off ec (k3 _), kt "BrokenRule" (by decide), _, rfl, a, _, dx, fs, _, _, _, rfl, .own _, er, cau_off ec (k3 _), kt "DoubleName" (by decide), _, rfl, a, _, dx, fs, _, _, _, rfl, .own _, er, cau_off ec (k3 _), kt "InvalidName" (by decide), by show 3 ≤ sizeLine; decide, fun p4 n4 => ?_⟩
  have k4 : ∀ o, Off (fun _ => False) H (upd _ p4 o) := fun o => (k3 _).trans (Off.new n4)
  have j4 : ∀ o, Off (fun _ => False) _ (upd _ p4 o) := fun o => Off.new n4
  refine ⟨_, rfl, _, rfl, a, _, dx, fs, _, _, _, rfl, .own _, er, cau_off ec (k4 _), kt "InvalidQuestion" (by decide), _, rfl, a, _, dx, fs, _, _, _, rfl, .own _, er, cau_off ec (k4 _), kt "InvalidRow" (by decide), by show 2 ≤ sizeLine; decide, fun p5 n5 => ?_⟩
  have k5 : ∀ o, Off (fun _ => False) H (upd _ p5 o) := fun o => (k4 _).trans (Off.new n5)
  have j5 : ∀ o, Off (fun _ => False) _ (upd _ p5 o) := fun o => (j4 _).trans (Off.new n5)
  refine ⟨p4, p5, _, _, rfl, rfl, by rw [upd_ne (ne_of_none upd_same n5)]; exact upd_same, upd_same, by show 5 ≤ sizeLine; decide, fun p6 n6 => ?_⟩
  have k6 : ∀ o, Off (fun _ => False) H (upd _ p6 o) := fun o => (k5 _).trans (Off.new n6)
  have j6 : ∀ o, Off (fun _ => False) _ (upd _ p6 o) := fun o => (j5 _).trans (Off.new n6)
  refine ⟨_, rfl, _, rfl, a, _, dx, fs, _, _, _, rfl, .own _, er, cau_off ec (k6 _), kt "InvalidRule" (by decide), _, rfl, a, _, dx, fs, _, _, _, rfl, .own _, er, cau_off ec (k6 _), kt "NoSuchRow" (by decide), _, rfl, a, _, dx, fs, _, _, _, rfl, .own _, er, cau_off ec (k6 _), kt "NothingToUndo" (by decide), by show 3 ≤ sizeLine; decide, fun p7 n7 => ?_⟩
  have k7 : ∀ o, Off (fun _ => False) H (upd _ p7 o) := fun o => (k6 _).trans (Off.new n7)
  have j7 : ∀ o, Off (fun _ => False) _ (upd _ p7 o) := fun o => (j6 _).trans (Off.new n7)
  refine ⟨p6, p7, _, _, rfl, rfl, by rw [upd_ne (ne_of_none upd_same n7)]; exact upd_same, upd_same, by show 8 ≤ sizeLine; decide, fun p8 n8 => ?_⟩
  have k8 : ∀ o, Off (fun _ => False) H (upd _ p8 o) := fun o => (k7 _).trans (Off.new n8)
  have j8 : ∀ o, Off (fun _ => False) _ (upd _ p8 o) := fun o => (j7 _).trans (Off.new n8)
  refine ⟨_, rfl, _, rfl, a, _, dx, fs, _, _, _, rfl, .own _, er, cau_off ec (k8 _), kt "UnknownColumn" (by decide), _, rfl, a, _, dx, fs, _, _, _, rfl, .own _, er, cau_off ec (k8 _), kt "UnknownTable" (by decide), _, rfl, a, _, dx, fs, _, _, _, rfl, .own _, er, cau_off ec (k8 _), kt "Unreadable" (by decide), by show 3 ≤ sizeLine; decide, fun p9 n9 => ?_⟩
  have k9 : ∀ o, Off (fun _ => False) H (upd _ p9 o) := fun o => (k8 _).trans (Off.new n9)
  have j9 : ∀ o, Off (fun _ => False) _ (upd _ p9 o) := fun o => (j8 _).trans (Off.new n9)
  refine ⟨p8, p9, _, _, rfl, rfl, by rw [upd_ne (ne_of_none upd_same n9)]; exact upd_same, upd_same, by show 11 ≤ sizeLine; decide, fun p10 n10 => ?_⟩
  have k10 : ∀ o, Off (fun _ => False) H (upd _ p10 o) := fun o => (k9 _).trans (Off.new n10)
  have j10 : ∀ o, Off (fun _ => False) _ (upd _ p10 o) := fun o => (j9 _).trans (Off.new n10)
  refine ⟨_, rfl, _, rfl, p3, p10, names.tail.map V.str, names.tail.map (fun y => V.bl (decide (x = y) || decide (y = "KeyTellError"))), rfl, SqL.of (j10 _ _ _ upd_same no), SqL.of upd_same, fun D hD => ?_⟩
  have e3 := j10 (.lst (names.tail.map (fun y => V.bl (decide (x = y) || decide (y = "KeyTellError"))))) p3 _ upd_same no
  refine lc_zip (K := K) (a := p3) (b := p10) (xs := names.tail.map V.str) (ys := names.tail.map (fun y => V.bl (decide (x = y) || decide (y = "KeyTellError"))))
    (fun i H' => H' D = some (.lst (((names.tail.take i).filter fun y => decide (x = y)).map V.str)) ∧ Off (fun _ => False) _ H') (by rw [List.length_map, List.length_map]) ⟨upd_same, Off.new hD⟩
    (fun i H' _ g => ⟨SqL.of (g.2 _ _ e3 no), SqL.of (g.2 p10 _ upd_same no)⟩) (fun i x1 y1 H' Tp h1 h2 g hT => ?_) fun H' g => ?_
  · obtain ⟨g1, g2⟩ := g
    rw [List.getElem?_map] at h1 h2
    cases e : names.tail[i]? with
    | none =>
      rw [e] at h1
      cases h1
    | some y =>
    rw [e] at h1 h2
    have x1e := (Option.some.inj h1).symm
    subst x1e
    have hy : decide (y = "KeyTellError") = false := by
      have all : ∀ z ∈ names.tail, decide (z = "KeyTellError") = false := by decide
      exact all y (List.mem_of_getElem? e)
    have y1e : V.bl (decide (x = y) || decide (y = "KeyTellError")) = y1 := Option.some.inj h2
    rw [hy, Bool.or_false] at y1e
    subst y1e
    have tD : D ≠ Tp := ne_of_none g1 hT
    have l11 : ((names.tail.take i).filter fun y => decide (x = y)).length ≤ 11 := Nat.le_trans (List.length_filter_le _ _) (by rw [List.length_take]; exact Nat.le_trans (Nat.min_le_right _ _) (by decide))
    refine ⟨Tp, _, rfl, SqT.of upd_same, rfl, _, _, rfl, _, _, rfl, rfl, rfl, _, rfl, _, rfl, ?_⟩
    rw [List.take_add_one, e, List.filter_append]
    by_cases xy : x = y
    · rw [decide_eq_true xy]
      refine iteT ⟨_, rfl, _, by rw [upd_ne tD]; exact g1, by rw [List.length_map]; exact small1000 (by omega), ?_, ?_⟩
      · rw [upd_same]
        simp [xy]
      · intro c o ec nc
        have nD : c ≠ D := ne_of_none ec hD
        have ec' := g2 _ _ ec nc
        rw [upd_ne nD, upd_ne (ne_of_none ec' hT)]
        exact ec'
    · rw [decide_eq_false xy]
      refine iteF ⟨?_, g2.trans (Off.new hT)⟩
      rw [upd_ne tD]
      simpa [xy] using g1
  · obtain ⟨g1, g2⟩ := g
    rw [List.length_map, List.take_length] at g1
    refine q D H' ?_ g1 ((k10 _).trans g2)
    exact (k10 _).none hD no
end
end LW
set_option Elab.async false
set_option linter.all false
set_option maxRecDepth 100000
set_option maxHeartbeats 4000000
namespace LW
open PySem PySem.Spec PyProof.Rows L2 KV
/-! ### _law_error_right -/
def spErrR (K : PySem.W.Frag) : Sp := fun vs H Q _ => (vs = [.non, .non] ∧ ∀ H', Off (fun _ => False) H H' → Q (.bl true) H') ∨
  ∃ (a dx t : Addr) (x : Str) (u v : V) (d : PyData) (F : Fp) (b : Nat) (ms : List Nat), vs = [.ref a, .ref t] ∧ x ∈ names.tail ∧ Cau H a (He.ga K x) dx [("value", v)] ∧ SqT K H t [.str x, u] ∧ Ow H v d F ∧ Dp K H u d ∧ Sz b ms d ∧
    ∀ H', Off F H H' → Q (.bl true) H'
theorem kinds_one {x : Str} (h : x ∈ names.tail) : kinds x = [x] := by
  have all : ∀ y ∈ names.tail, kinds y = [y] := by decide
  exact all x h
section
variable {P : Program} {w : World} {K : PySem.W.Frag} {mg : Str → Option Value} {base : Heap}
theorem scErrR : FnScope ["caught", "due"] ["caught", "due"] (defScope sErrorRight) := ⟨rfl, rfl, rfl, by decide +kernel, rfl, by decide +kernel, by decide +kernel⟩
theorem ok_errR {f fK fO : Addr} {fd dK dO dI : FuncData} (F : FnP K "_law_error_right" sErrorRight f fd) (T : ErrT P w K mg base dI) (GK : FnOk P w K mg base CX0 1 fK dK ["caught"] (spKinds K)) (bK : Binds K dK ["caught"] []) (mK : mg "_law_kinds" = some (.ref fK)) (kK : PySem.W.keepIn K (.ref fK) = true)
    (GO : FnC P w K mg base CX0 7 fO dO ["told", "due"] (spOwn K)) (bO : Binds K dO ["told", "due"] []) (mO : mg "_law_own" = some (.ref fO)) (kO : PySem.W.keepIn K (.ref fO) = true) (mi : mg "isinstance" = none) (mv : mg "ValueError" = none) :
    FnC P w K mg base CX0 8 f fd ["caught", "due"] (spErrR K) := by
  refine Fun.okC F scErrR (fun vs H Q E h => ?_) (fun cdv A outer s H vs Q E hG hr h => ?_)
  · rcases h with ⟨rfl, _⟩ | ⟨a, dx, t, x, u, v, d, F, b, ms, rfl, _⟩
    · rfl
    · rfl
  have hr1 : Room 1 _ := hr.mono (by decide)
  have hu : (A.deeper (envOfC "_law_error_right" (defScope sErrorRight) s.heap.objs.size f cdv)).units + 64 < cLine := hr.units
  refine ⟨_, pss_cons (ps_if (PW.pt (pw_or (pt_cmpR op_isN (pv 1) pe_non (nomark _)) (pw_or1 (pt_cmpR op_isN (pv 0) pe_non (nomark _)))))
      (pss_one (ps_ret (pe_and (pe_cmpR op_isN (pv 1) pe_non (nomark _)) (pe_one (pe_cmpR op_isN (pv 0) pe_non (nomark _)))))) pss_nil)
    (pss_cons (ps_if (PW.pt (pw_or (pt_not (pt_val (pe_callB call_isK rfl mi boot_isinstance (pa_cons (pv 0) (pa_cons (pe_bltn (v := .ty "ValueError") rfl mv PyProof.Rows.Boot.«ValueError» rfl) pa_nil)))))
      (pw_or1 (pt_cmpR (op_neD hu) (pe_call GK hr1 rfl mK kK bK .nil pass0 (pa_cons (pv 0) pa_nil)) (pe_lst (pa_cons (pe_ix ix_tup (pv 1) pe_int (fun _ _ => rfl)) pa_nil)) (nomark _))))) (pss_one (ps_ret pe_bl)) pss_nil)
    (pss_one (ps_ret (pe_callC hG GO hr rfl mO kO bO pass0 (pa_cons (pe_getK (pv 0)) (pa_cons (pe_ix ix_tup (pv 1) pe_int (fun _ _ => rfl)) pa_nil)))))), ?_⟩
  rcases h with ⟨rfl, q⟩ | ⟨a, dx, t, x, u, v, d, Fo, b, ms, rfl, hx, ec, et, o, du, sz, q⟩
  · have e : decide (V.non = V.non) = true := decide_eq_true rfl
    refine ⟨_, rfl, rfl, _, rfl, ite2 (fun _ => iteT ⟨_, rfl, rfl, _, rfl, ite2 (fun _ => ⟨_, rfl, rfl, ?_⟩) (fun c => (c e).elim)⟩) (fun c => (c e).elim)⟩
    rw [e]
    exact q H (Off.refl _ _)
  · have hx' : x ∈ names := List.mem_of_mem_tail hx
    have er := (T.es.ok x hx').err
    have no : ∀ {y : Addr}, ¬ decide (V.ref y = V.non) = true := fun c => by cases of_decide_eq_true c
    refine ⟨_, rfl, rfl, _, rfl, ite2 (fun c => (no c).elim) (fun _ => ⟨_, rfl, rfl, _, rfl, ite2 (fun c => (no c).elim) (fun _ => ?_)⟩)⟩
    refine ⟨_, rfl, a, _, dx, _, _, _, true, rfl, .ty _, er, ec, T.es.ve x hx', _, rfl, iteF ?_⟩
    refine ⟨_, rfl, a, dx, x, _, rfl, hx', ec, fun D H1 hD eD k1 => ?_⟩
    have et1 := sqT_off k1 et
    refine ⟨_, rfl, t, _, 0, _, rfl, rfl, et1, rfl, (by show 1 ≤ sizeLine; decide), fun D2 hD2 => ?_⟩
    rw [kinds_one hx] at eD
    have sh : SeqAt.shaped (.list [.str x]) = true := by
      have all : ∀ y ∈ names.tail, SeqAt.shaped (.list [.str y]) = true := by decide +kernel
      exact all x hx
    have k2 : Off (fun _ => False) H1 (upd H1 D2 (.lst [.str x])) := Off.new hD2
    refine ⟨.list [.str x], .list [.str x], .lst (SqL.of (k2 _ _ eD id)) (.cons (.str x) .nil), .lst (SqL.of upd_same) (.cons (.str x) .nil), sh, sh, _, rfl, ?_⟩
    rw [SeqAt.eqv_refl _ (SeqAt.canLay_of_shaped sh)]
    have k12 := k1.trans k2
    refine iteF ⟨_, rfl, a, _, dx, _, v, rfl, (T.es.ok x hx').xf, (T.es.ok x hx').no, cau_off ec k12, rfl, _, rfl, t, _, 1, _, rfl, rfl, sqT_off k12 et, rfl, ?_⟩
    refine ⟨v, u, d, Fo, b, ms, rfl, o.keep k12 (fun _ z => z.elim) (fun _ _ z => z), dp_off k12 du, sz, fun H' k => q H' ?_⟩
    exact (k12.mono fun _ z => z.elim).trans k
end
end LW
set_option Elab.async false
set_option linter.all false
set_option maxRecDepth 100000
set_option maxHeartbeats 4000000
namespace LW
open PySem PySem.Spec PyProof.Rows L2 KV
/-- a comprehension over the signs of a text -/
theorem lc_str {x : Str} {g : TG} {tt : TT} {te : TE} {vs : List Nat} {σ : L2.St} {H1 : Hp} {D : Addr} {Qd : Hp → Prop} (Pv : Nat → Hp → Prop) (h0 : Pv 0 (upd H1 D (.lst [])))
    (hs : ∀ i c H, x.cps.toList[i]? = some c → Pv i H → g (.str ⟨#[c]⟩) (wipe σ vs) H fun σ2 H2 => wipe σ2 vs = wipe σ vs ∧ tt σ2 H2 fun b H3 =>
      if b = true then te σ2 H3 fun y H4 => ∃ acc, H4 D = some (.lst acc) ∧ acc.length < sizeLine ∧ Pv (i + 1) (upd H4 D (.lst (acc ++ [y]))) else Pv (i + 1) H3)
    (hd : ∀ H, Pv x.cps.toList.length H → Qd H) :
    ∃ W : Nat → Nat → Hp → Prop, (∃ m, W 0 m (upd H1 D (.lst []))) ∧ ∀ i m H, W i m H →
      ((Its x).stop i H ∧ Qd H) ∨ ((Its x).go i H ∧ ∃ Nx : Hp → Prop, (∀ H', Nx H' → ∃ m', m' < m ∧ W (i + 1) m' H') ∧ ∀ y H', (Its x).yld i H y H' → g y (wipe σ vs) H' fun σ2 H2 => wipe σ2 vs = wipe σ vs ∧ tt σ2 H2 fun c H3 =>
        if c = true then te σ2 H3 fun y H4 => ∃ acc, H4 D = some (.lst acc) ∧ acc.length < sizeLine ∧ Nx (upd H4 D (.lst (acc ++ [y]))) else Nx H3) := by
  refine ⟨fun i m H => m = x.cps.toList.length - i ∧ i ≤ x.cps.toList.length ∧ Pv i H, ⟨_, rfl, Nat.zero_le _, h0⟩, ?_⟩
  rintro i m H ⟨rfl, hi, pv⟩
  have sz : x.cps.toList.length = x.cps.size := by simp
  rcases Nat.lt_or_ge i x.cps.toList.length with lt | ge
  · refine .inr ⟨by show i < x.cps.size; omega, Pv (i + 1), fun H' z => ⟨x.cps.toList.length - (i + 1), by omega, rfl, lt, z⟩, ?_⟩
    rintro v H' ⟨rfl, c, hc, rfl⟩
    exact hs i c _ (by rw [← hc]; simp) pv
  · have e : i = x.cps.toList.length := by omega
    rw [e] at pv
    exact .inl ⟨by show x.cps.size ≤ i; omega, hd H pv⟩
/-! ### _law_is_title -/
def Asc (x : Str) : Prop := ∀ c ∈ x.cps.toList, c < 128
def small (c : Nat) : Bool := decide (97 ≤ c ∧ c ≤ 122)
def isT (x : Str) : Bool := decide (0 < x.length) && (decide (x.length < 9) && x.cps.toList.all small)
theorem isT_title {x : Str} : isT x = true ↔ Title x := by
  unfold isT Title
  simp only [Bool.and_eq_true, decide_eq_true_eq, List.all_eq_true, small]
  constructor
  · rintro ⟨h1, h2, h3⟩
    exact ⟨h1, by omega, h3⟩
  · rintro ⟨h1, h2, h3⟩
    exact ⟨h1, by omega, h3⟩
theorem Title.asc {x : Str} (h : Title x) : Asc x := fun c hc => by have := h.2.2 c hc; omega
theorem abc_mem (c : Nat) : decide (c ∈ ("abcdefghijklmnopqrstuvwxyz" : Str).cps.toList) = small c := by
  have e : ("abcdefghijklmnopqrstuvwxyz" : Str).cps.toList = (List.range 26).map (97 + ·) := by decide +kernel
  rw [e]
  unfold small
  rw [decide_eq_decide]
  simp only [List.mem_map, List.mem_range]
  constructor
  · rintro ⟨a, h, rfl⟩
    omega
  · rintro ⟨h1, h2⟩
    exact ⟨c - 97, by omega, by omega⟩
theorem strOk_asc {x : Str} (h : Asc x) : PyData.strOk x = true := by
  unfold PyData.strOk
  rw [Array.all_eq_true']
  intro c hc
  exact decide_eq_true (Nat.lt_trans (h c (by simpa using hc)) (by decide))
theorem lay_strs : ∀ {xs : List Str}, (∀ x ∈ xs, Asc x) → PyData.canLayAll0 (xs.map PyData.str) = true
  | [], _ => by simp [PyData.canLayAll0]
  | x :: xs, h => by
    simp only [List.map_cons, PyData.canLayAll0, PyData.canLay0, Bool.and_eq_true]
    exact ⟨strOk_asc (h x List.mem_cons_self), lay_strs fun y hy => h y (List.mem_cons_of_mem _ hy)⟩
theorem depth_strs : ∀ xs : List Str, PyData.depthAll (xs.map PyData.str) ≤ 0
  | [] => by simp [PyData.depthAll]
  | x :: xs => by
    have ih := depth_strs xs
    simp only [List.map_cons, PyData.depthAll, PyData.depth]
    omega
theorem shaped_strs {xs : List Str} (h : ∀ x ∈ xs, Asc x) : SeqAt.shaped (.list (xs.map PyData.str)) = true := by
  unfold SeqAt.shaped
  rw [Bool.and_eq_true]
  refine ⟨by simp only [PyData.canLay0]; exact lay_strs h, decide_eq_true ?_⟩
  have := depth_strs xs
  simp only [PyData.depth]
  omega
theorem eqv_nil (ds : List PyData) : PyData.eqv (.list ds) (.list []) = ds.isEmpty := by
  cases ds <;> simp [PyData.eqv, PyData.eqvAll]
theorem dp_strs {K : PySem.W.Frag} {H : Hp} : ∀ xs : List Str, DpAll K H (xs.map V.str) (xs.map PyData.str)
  | [] => .nil
  | x :: xs => .cons (.str x) (dp_strs xs)
theorem filt_small (l : List Nat) : (l.filter fun c => !small c).isEmpty = l.all small := by
  induction l with
  | nil => rfl
  | cons c l ih =>
    cases h : small c <;> simp [h, ih]
def spIsT : Sp := fun vs H Q _ => ∃ x : Str, vs = [.str x] ∧ Asc x ∧ x.length ≤ 1000 ∧ ∀ H', Off (fun _ => False) H H' → Q (.bl (isT x)) H'
section
variable {P : Program} {w : World} {K : PySem.W.Frag} {mg : Str → Option Value} {base : Heap}
theorem scIsT : FnScope ["wording", "letters", "sign"] ["wording"] (defScope sIsTitle) := ⟨rfl, rfl, rfl, by decide +kernel, rfl, by decide +kernel, by decide +kernel⟩
theorem ok_isT {f : Addr} {fd : FuncData} (F : FnP K "_law_is_title" sIsTitle f fd) (ml : mg "len" = none) :
    FnOk P w K mg base CX0 1 f fd ["wording"] spIsT := by
  refine F.ok scIsT (fun vs H Q E h => ?_) (fun cdv A outer s H vs Q E hr h => ?_)
  · obtain ⟨x, rfl, _⟩ := h
    rfl
  obtain ⟨x, rfl, ha, hx, q⟩ := h
  have hu : (A.deeper (envOfC "_law_is_title" (defScope sIsTitle) s.heap.objs.size f cdv)).units + 64 < cLine := hr.units
  refine ⟨_, pss_cons (ps_set (i := 1) scIsT.nd rfl (Or.inr rfl) pe_str)
    (pss_one (ps_ret (pe_and (pe_chain op_lt op_lt pe_int (pe_callB call_len_str rfl ml boot_len (pa_cons (pv 0) pa_nil)) pe_int)
      (pe_one (pe_cmpR (op_eqD hu) (pe_lc (own := [("sign", 2)]) (g := gName 2) rfl scIsT.nd (pi_str (pv 0))
          (blkOk_by (own := [("sign", 2)]) (N := ["wording", "letters", "sign"]) (sc := defScope sIsTitle) (by decide +kernel))
          (fun _ _ _ _ _ => pg_name (i := 2) scIsT.nd rfl (Or.inl rfl)) (fun _ _ _ _ _ => pts_one (pt_cmpR op_notIn_sign (pv 2) (pv 1) rfl))
          (fun _ _ _ _ _ => pv 2)) (pe_lst pa_nil) (nomark _)))))), ?_⟩
  have no : ¬ False := fun z => z
  have xl : x.length ≤ sizeLine := Nat.le_trans hx (by decide)
  refine ⟨_, rfl, x, rfl, xl, _, _, rfl, rfl, _, rfl, ite2 (fun c1 => ⟨_, _, rfl, rfl, _, rfl, ite2 (fun c2 => ?_) (fun c2 => ?_)⟩) (fun c1 => ⟨_, rfl, iteF ?_⟩)⟩
  rotate_left
  · have e : isT x = false := by
      have : ¬ x.length < 9 := fun z => c2 (decide_eq_true (by omega))
      simp [isT, this]
    rw [← e]
    exact q H (Off.refl _ _)
  · have e : isT x = false := by
      have : ¬ 0 < x.length := fun z => c1 (decide_eq_true (by omega))
      simp [isT, this]
    rw [← e]
    exact q H (Off.refl _ _)
  have l1 : 0 < x.length := by
    have := of_decide_eq_true c1
    omega
  have l2 : x.length < 9 := by
    have := of_decide_eq_true c2
    omega
  have lt : x.cps.toList.length = x.length := by simp [Str.length]
  refine ⟨_, rfl, x, rfl, fun D hD => lc_str (x := x) (fun i H' => H' D = some (.lst (((x.cps.toList.take i).filter fun c => !small c).map fun c => V.str (tx [c]))) ∧ Off (fun _ => False) H H') ⟨upd_same, Off.new hD⟩
    (fun i c H' hc g => ?_) fun H' g => ?_⟩
  · obtain ⟨g1, g2⟩ := g
    refine ⟨rfl, Exists.intro _ ⟨rfl, Exists.intro _ ⟨rfl, c, _, rfl, rfl, ?_⟩⟩⟩
    rw [abc_mem]
    rw [List.take_add_one, hc, List.filter_append]
    refine ⟨_, rfl, ite2 (fun b => ?_) (fun b => ?_)⟩
    · have lf : ((x.cps.toList.take i).filter fun c => !small c).length ≤ 9 := Nat.le_trans (List.length_filter_le _ _) (by rw [List.length_take]; omega)
      refine ⟨_, rfl, _, g1, by rw [List.length_map]; exact small1000 (by omega), ?_, fun a u ea na => ?_⟩
      · rw [upd_same]
        have : List.filter (fun c => !small c) (some c).toList = [c] := by simp [Option.toList, b]
        rw [this, List.map_append]
        rfl
      · rw [upd_ne (fun z => by rw [z, hD] at ea; cases ea)]
        exact g2 a u ea na
    · have : List.filter (fun c => !small c) (some c).toList = [] := by simp [Option.toList] at b ⊢; exact b
      rw [this, List.append_nil]
      exact ⟨g1, g2⟩
  · obtain ⟨g1, g2⟩ := g
    rw [List.take_length] at g1
    refine ⟨by decide, fun D2 hD2 => ?_⟩
    have k2 : Off (fun _ => False) H' (upd H' D2 (.lst [])) := Off.new hD2
    have em : (x.cps.toList.filter fun c => !small c).map (fun c => V.str (tx [c])) = ((x.cps.toList.filter fun c => !small c).map fun c => tx [c]).map V.str := by rw [List.map_map]; rfl
    rw [em] at g1
    refine ⟨.list (((x.cps.toList.filter fun c => !small c).map fun c => tx [c]).map PyData.str), .list [], .lst (SqL.of (k2 _ _ g1 no)) (dp_strs _), .lst (SqL.of upd_same) .nil, shaped_strs fun y hy => ?_, by decide +kernel, ?_⟩
    · obtain ⟨c, hc, rfl⟩ := List.mem_map.mp hy
      intro d hd
      rw [tx_cps, List.mem_singleton] at hd
      rw [hd]
      exact ha c ((List.mem_filter.mp hc).1)
    · rw [eqv_nil]
      have e : isT x = (((x.cps.toList.filter fun c => !small c).map fun c => tx [c]).map PyData.str).isEmpty := by
        have f := filt_small x.cps.toList
        unfold isT
        rw [decide_eq_true l1, decide_eq_true l2, Bool.true_and, Bool.true_and, ← f]
        simp [List.isEmpty_map]
      rw [← e]
      exact q _ (g2.trans k2)
end
end LW
set_option Elab.async false
set_option linter.all false
set_option maxRecDepth 100000
set_option maxHeartbeats 4000000
namespace LW
open PySem PySem.Spec PyProof.Rows L2 KV
/-! ### _law_bad_title -/
/-- plain signs, at most n of them -/
def Gd (n : Nat) (x : Str) : Prop := Asc x ∧ x.length ≤ n
theorem Gd.mono {n m : Nat} {x : Str} (h : Gd n x) (e : n ≤ m) : Gd m x := ⟨h.1, Nat.le_trans h.2 e⟩
theorem Gd.add {n m : Nat} {x y : Str} (h : Gd n x) (k : Gd m y) : Gd (n + m) (x ++ y) := by
  refine ⟨fun c hc => ?_, ?_⟩
  · have hc : c ∈ (x.cps ++ y.cps).toList := hc
    rw [Array.toList_append] at hc
    rcases List.mem_append.mp hc with z | z
    · exact h.1 c z
    · exact k.1 c z
  · have e : (x ++ y).length = x.length + y.length := by
      show (x.cps ++ y.cps).size = _
      rw [Array.size_append]
      rfl
    rw [e]
    exact Nat.add_le_add h.2 k.2
theorem Gd.cut {n : Nat} {x : Str} (h : Gd n x) (lo hi : Option Int) : Gd n (cutS x lo hi) := by
  unfold cutS
  refine ⟨fun c hc => h.1 c ?_, ?_⟩
  · have hc : c ∈ (List.take (HT.sIx x.length x.length hi - HT.sIx x.length 0 lo) (List.drop (HT.sIx x.length 0 lo) x.cps.toList)).toArray.toList := hc
    exact List.mem_of_mem_drop (List.mem_of_mem_take (by simpa using hc))
  · have l : x.cps.toList.length = x.length := by simp [Str.length]
    show (List.take (HT.sIx x.length x.length hi - HT.sIx x.length 0 lo) (List.drop (HT.sIx x.length 0 lo) x.cps.toList)).toArray.size ≤ n
    rw [List.size_toArray, List.length_take, List.length_drop, l]
    have := h.2
    omega
def gdB (n : Nat) (x : Str) : Bool := x.cps.toList.all (fun c => decide (c < 128)) && decide (x.length ≤ n)
theorem gdB_ok {n : Nat} {x : Str} (h : gdB n x = true) : Gd n x := by
  unfold gdB at h
  rw [Bool.and_eq_true] at h
  exact ⟨fun c hc => of_decide_eq_true (List.all_eq_true.mp h.1 c hc), of_decide_eq_true h.2⟩
theorem tx_of (x : Str) : tx x.cps.toList = x := str_ext (tx_cps _)
theorem upper_tx : ∀ l : List Nat, (∀ c ∈ l, c < 128) → ∃ l', Txt.upper (tx l) = tx l' ∧ l'.length = l.length ∧ ∀ c ∈ l', c < 128
  | [], _ => ⟨[], by decide +kernel, rfl, fun c h => absurd h (by simp)⟩
  | c :: l, h => by
    obtain ⟨l', e, e1, e2⟩ := upper_tx l fun d hd => h d (List.mem_cons_of_mem _ hd)
    have hc := h c List.mem_cons_self
    refine ⟨(if 97 ≤ c ∧ c ≤ 122 then c - 32 else c) :: l', ?_, by simp [e1], fun d hd => ?_⟩
    · have z : tx (c :: l) = tx [c] ++ tx l := (tx_add [c] l).symm
      rw [z, PySem.W.KOpn.upper_app, e]
      have z2 : Txt.upper (tx [c]) = tx [if 97 ≤ c ∧ c ≤ 122 then c - 32 else c] := PySem.W.KOpn.upper_one hc
      rw [z2, tx_add]
      rfl
    · rcases List.mem_cons.mp hd with z | z
      · rw [z]
        split <;> omega
      · exact e2 d z
theorem Gd.upper {n : Nat} {x : Str} (h : Gd n x) : Gd n (Txt.upper x) := by
  obtain ⟨l', e, e1, e2⟩ := upper_tx x.cps.toList h.1
  rw [tx_of] at e
  rw [e]
  refine ⟨fun c hc => e2 c (by rwa [tx_cps] at hc), ?_⟩
  rw [tx_len, e1]
  exact Nat.le_trans (by simp [Str.length]) h.2
theorem Title.gd {x : Str} (h : Title x) : Gd 8 x := ⟨h.asc, h.2.1⟩
/-- what is new is not what was there -/
theorem off_ne {H H' : Hp} {a b : Addr} {o : HO} (k : Off (fun _ => False) H H') (h : H a = some o) (n : H' b = none) : b ≠ a := fun z => by
  rw [z, k _ _ h id] at n
  cases n
def spBad : Sp := fun vs H Q _ => ∃ (p : Addr) (x : Str) (n c : Nat), vs = [.ref p, .str x] ∧ Gd n x ∧ n ≤ 1000 ∧ Pu H p c ∧ c + 1 ≤ 1000000000 ∧
  ∀ (y : Str) (H' : Hp), Gd (2 * n + 9) y → Pu H' p (c + 1) → Off (fun a => a = p) H H' → Q (.str y) H'
section
variable {P : Program} {w : World} {K : PySem.W.Frag} {mg : Str → Option Value} {base : Heap}
theorem scBad : FnScope ["purse", "word", "menu"] ["purse", "word"] (defScope sBadTitle) := ⟨rfl, rfl, rfl, by decide +kernel, rfl, by decide +kernel, by decide +kernel⟩
theorem ok_bad {f fC : Addr} {fd dC : FuncData} (F : FnP K "_law_bad_title" sBadTitle f fd) (FC : FnP K "_law_coin" sCoin fC dC) (bC : Binds K dC ["purse", "many"] []) (mC : mg "_law_coin" = some (.ref fC)) (mi : mg "int" = none) (ml : mg "len" = none) :
    FnOk P w K mg base CX0 2 f fd ["purse", "word"] spBad := by
  have GC : FnOk P w K mg base CX0 1 fC dC ["purse", "many"] spCoin := ok_coin FC mi
  refine F.ok scBad (fun vs H Q E h => ?_) (fun cdv A outer s H vs Q E hr h => ?_)
  · obtain ⟨p, x, n, c, rfl, _⟩ := h
    rfl
  obtain ⟨p, x, n, c, rfl, hg, hn, hp, hc, q⟩ := h
  refine ⟨_, pss_cons (ps_set (i := 2) scBad.nd rfl (Or.inl rfl) (pe_lst (pa_cons pe_str (pa_cons pe_str (pa_cons pe_str (pa_cons pe_str (pa_cons pe_str (pa_cons pe_str (pa_cons pe_str (pa_cons pe_str (pa_cons pe_str (pa_cons pe_str (pa_cons pe_str (pa_cons pe_str (pa_cons pe_str (pa_cons (pe_upper (pv 1)) pa_nil))))))))))))))))
    (pss_cons (ps_set (i := 2) scBad.nd rfl (Or.inl rfl) (pe_op op_cat (pv 2) (pe_lst (pa_cons (pe_op op_add_str (pv 1) pe_str) (pa_cons (pe_op op_add_str (pe_op op_add_str (pe_slice sl_str (pv 1) po_none (po_some pe_int)) pe_str) (pe_slice sl_str (pv 1) (po_some pe_int) po_none))
      (pa_cons (pe_op op_add_str pe_str (pv 1)) (pa_cons (pe_op op_add_str (pv 1) pe_str) (pa_cons (pe_slice sl_str (pv 1) po_none (po_some (pe_un un_neg pe_int))) (pa_cons (pe_op op_add_str (pv 1) pe_str) pa_nil)))))))))
    (pss_cons (ps_set (i := 2) scBad.nd rfl (Or.inl rfl) (pe_op op_cat (pv 2) (pe_lst (pa_cons (pe_op op_add_str (pe_op op_add_str (pe_slice sl_str (pv 1) po_none (po_some pe_int)) pe_str) (pe_slice sl_str (pv 1) (po_some pe_int) po_none))
      (pa_cons (pe_op op_add_str (pe_slice sl_str (pv 1) po_none (po_some (pe_un un_neg pe_int))) pe_str) (pa_cons (pe_op op_add_str (pv 1) (pv 1)) pa_nil))))))
    (pss_one (ps_ret (pe_ix ix_list (pv 2) (pe_call GC hr rfl mC FC.kp bC .nil pass0 (pa_cons (pv 0) (pa_cons (pe_callB call_len_seq rfl ml boot_len (pa_cons (pv 2) pa_nil)) pa_nil))) (fun _ _ => rfl)))))), ?_⟩
  have sz : ∀ {n m : Nat} {i j : Str}, Gd n i → Gd m j → n + m ≤ 16777216 → i.length + j.length ≤ sizeLine := fun h k e => Nat.le_trans (Nat.add_le_add h.2 k.2) e
  have xl : x.length ≤ sizeLine := Nat.le_trans hg.2 (Nat.le_trans hn (by decide))
  have k8 : Gd 8 "abcdefgh" := gdB_ok (by decide +kernel)
  have kb : Gd 1 " " := gdB_ok (by decide +kernel)
  have kq : Gd 1 "q" := gdB_ok (by decide +kernel)
  have kQ : Gd 1 "Q" := gdB_ok (by decide +kernel)
  have k9 : Gd 1 "9" := gdB_ok (by decide +kernel)
  have cut := fun lo hi => hg.cut lo hi
  refine ⟨_, rfl, ⟨_, rfl⟩, x, rfl, rfl, Nat.le_trans hg.2 (Nat.le_trans hn (by decide)), (by show 14 ≤ sizeLine; decide), fun m1 n1 => ?_⟩
  refine ⟨_, rfl, _, rfl, _, _, rfl, rfl, sz hg k8 (by omega), _, rfl, _, rfl, _, rfl, xl, _, _, rfl, rfl, sz (cut _ _) kb (by omega), _, rfl, _, rfl, _, rfl, xl, _, _, rfl, rfl, sz ((cut _ _).add kb) (cut _ _) (by omega), _, rfl, _, _, rfl, rfl, sz kb hg (by omega), _, rfl, _, _, rfl, rfl, sz hg kb (by omega), _, rfl, _, rfl, _, rfl, _, rfl, xl, _, rfl, _, _, rfl, rfl, sz hg kq (by omega), (by show 6 ≤ sizeLine; decide), fun m2 n2 => ?_⟩
  refine ⟨m1, m2, _, _, rfl, rfl, by rw [upd_ne (ne_of_none upd_same n2)]; exact upd_same, upd_same, (by show 20 ≤ sizeLine; decide), fun m3 n3 => ?_⟩
  refine ⟨_, rfl, _, rfl, _, rfl, _, rfl, xl, _, _, rfl, rfl, sz (cut _ _) kQ (by omega), _, rfl, _, rfl, _, rfl, xl, _, _, rfl, rfl, sz ((cut _ _).add kQ) (cut _ _) (by omega), _, rfl, _, rfl, _, rfl, _, rfl, xl, _, _, rfl, rfl, sz (cut _ _) k9 (by omega), _, rfl, _, rfl, _, _, rfl, rfl, sz hg hg (by omega), (by show 3 ≤ sizeLine; decide), fun m4 n4 => ?_⟩
  refine ⟨m3, m4, _, _, rfl, rfl, by rw [upd_ne (ne_of_none upd_same n4)]; exact upd_same, upd_same, (by show 23 ≤ sizeLine; decide), fun m5 n5 => ?_⟩
  let ys : List Str := ["", " ", "A", "a b", "a1", "a.b", "_", "{", "~a", "a-", "`a", "abcdefghi", "key", Txt.upper x, x ++ "abcdefgh", cutS x none (some 4) ++ " " ++ cutS x (some 4) none, " " ++ x, x ++ " ", cutS x none (some (-1)), x ++ "q",
    cutS x none (some 3) ++ "Q" ++ cutS x (some 4) none, cutS x none (some (-1)) ++ "9", x ++ x]
  have all : ∀ y ∈ ys, Gd (2 * n + 9) y := by
    have cst : ∀ y ∈ (["", " ", "A", "a b", "a1", "a.b", "_", "{", "~a", "a-", "`a", "abcdefghi", "key"] : List Str), Gd 9 y := by
      have all9 : ∀ y ∈ (["", " ", "A", "a b", "a1", "a.b", "_", "{", "~a", "a-", "`a", "abcdefghi", "key"] : List Str), gdB 9 y = true := by decide +kernel
      exact fun y hy => gdB_ok (all9 y hy)
    intro y hy
    have hy : y ∈ (["", " ", "A", "a b", "a1", "a.b", "_", "{", "~a", "a-", "`a", "abcdefghi", "key"] : List Str) ++ [Txt.upper x, x ++ "abcdefgh", cutS x none (some 4) ++ " " ++ cutS x (some 4) none, " " ++ x, x ++ " ", cutS x none (some (-1)), x ++ "q",
      cutS x none (some 3) ++ "Q" ++ cutS x (some 4) none, cutS x none (some (-1)) ++ "9", x ++ x] := hy
    rcases List.mem_append.mp hy with hy | hy
    · exact (cst y hy).mono (by omega)
    simp only [List.mem_cons, List.not_mem_nil, or_false] at hy
    rcases hy with rfl | rfl | rfl | rfl | rfl | rfl | rfl | rfl | rfl | rfl
    · exact hg.upper.mono (by omega)
    · exact (hg.add k8).mono (by omega)
    · exact (((cut _ _).add kb).add (cut _ _)).mono (by omega)
    · exact (kb.add hg).mono (by omega)
    · exact (hg.add kb).mono (by omega)
    · exact (cut _ _).mono (by omega)
    · exact (hg.add kq).mono (by omega)
    · exact (((cut _ _).add kQ).add (cut _ _)).mono (by omega)
    · exact ((cut _ _).add k9).mono (by omega)
    · exact (hg.add hg).mono (by omega)
  have off5 : Off (fun _ => False) H _ := (Off.new n1).trans ((Off.new n2).trans ((Off.new n3).trans ((Off.new n4).trans (Off.new (o := .lst (ys.map V.str)) n5))))
  obtain ⟨xs0, ep0⟩ := id hp.lst
  have hp5 := hp.at ((off5 _ _ ep0 id).trans ep0.symm)
  have l23 : ((ys.map V.str).length : Int) = 23 := rfl
  refine ⟨_, rfl, _, rfl, _, rfl, m5, ys.map V.str, rfl, .inl (SqL.of upd_same), p, ((ys.map V.str).length : Int), c, rfl, hp5, by omega, by omega, by omega, fun k H6 k0 k1 hp6 b6 => ?_⟩
  obtain ⟨y, y1, y2, _⟩ := col_at (cs := ys) k0 (by rw [List.length_map] at k1; exact k1)
  have pm : m5 ≠ p := off_ne ((Off.new n1).trans ((Off.new n2).trans ((Off.new n3).trans (Off.new n4)))) ep0 n5
  exact ⟨m5, ys.map V.str, k, _, rfl, rfl, SqL.of ((b6 _ pm).trans upd_same), y1, q y H6 (all y y2) hp6 ((off5.mono fun _ z => z.elim).trans b6.off)⟩
end
end LW
set_option Elab.async false
set_option linter.all false
set_option maxRecDepth 100000
set_option maxHeartbeats 4000000
namespace LW
open PySem PySem.Spec PyProof.Rows L2 KV
theorem cutV_head {xs : List V} {k : Int} (h : 0 ≤ k) : cutV xs none (some k) = xs.take k.toNat := by
  have hk : ¬ k < 0 := by omega
  unfold cutV
  simp [HT.sIx, hk]
theorem cutV_tail {xs : List V} {k : Int} (h : 0 ≤ k) : cutV xs (some k) none = xs.drop k.toNat := by
  have hk : ¬ k < 0 := by omega
  unfold cutV
  simp [HT.sIx, hk]
  by_cases c : k.toNat ≤ xs.length
  · rw [Nat.min_eq_left c, List.take_of_length_le (by simp)]
  · rw [Nat.min_eq_right (by omega)]
    simp
    omega
/-! ### _law_bent_tables -/
/-- tables that may be wrong: plain texts, so many at most -/
structure TabB (n mc : Nat) (t : Tab) : Prop where
  one : 1 ≤ t.2.length
  most : t.2.length ≤ mc
  good : ∀ x ∈ t.2, Gd n x
  name : Gd n t.1
structure TabsB (n mc mt : Nat) (ts : List Tab) : Prop where
  one : 1 ≤ ts.length
  most : ts.length ≤ mt
  each : ∀ t ∈ ts, TabB n mc t
theorem TabsOk.b {mt mc : Nat} {ts : List Tab} (h : TabsOk mt mc ts) : TabsB 8 mc mt ts :=
  ⟨h.one, h.most, fun t ht => ⟨(h.each t ht).one, (h.each t ht).most, fun x hx => ((h.each t ht).good x hx).gd, (h.each t ht).name.gd⟩⟩
theorem TabB.mono {n n' mc mc' : Nat} {t : Tab} (h : TabB n mc t) (e : n ≤ n') (f : mc ≤ mc') : TabB n' mc' t := ⟨h.one, Nat.le_trans h.most f, fun x hx => (h.good x hx).mono e, h.name.mono e⟩
theorem fit_str {n : Nat} {ms : List Nat} {x : Str} (h : Gd n x) : Fit n ms (.str x) := by
  have q : x.length ≤ n ∧ ∀ c ∈ x.cps.toList, c < 16 ^ 8 := ⟨h.2, fun c hc => Nat.lt_trans (h.1 c hc) (by decide)⟩
  cases ms <;> exact q
theorem fit_cols {n mc : Nat} {ms : List Nat} {cs : List Str} (h : cs.length ≤ mc) (g : ∀ x ∈ cs, Gd n x) : Fit n (mc :: ms) (colsD cs) := by
  refine ⟨by rw [List.length_map]; exact h, fun d hd => ?_⟩
  obtain ⟨x, hx, rfl⟩ := List.mem_map.mp hd
  exact fit_str (g x hx)
theorem fit_tab {n mc : Nat} {t : Tab} (h : TabB n mc t) : Fit n [2, mc] (tabD t) := by
  refine ⟨by show 2 ≤ 2; decide, fun d hd => ?_⟩
  rcases List.mem_cons.mp hd with rfl | hd
  · exact fit_str h.name
  · rw [List.mem_singleton.mp hd]
    exact fit_cols h.most h.good
theorem fit_tabs {n mc mt : Nat} {ts : List Tab} (h : TabsB n mc mt ts) : Fit n [mt, 2, mc] (tabsD ts) := by
  refine ⟨by rw [List.length_map]; exact h.most, fun d hd => ?_⟩
  obtain ⟨t, ht, rfl⟩ := List.mem_map.mp hd
  exact fit_tab (h.each t ht)
theorem dpAll_set {K : PySem.W.Frag} {H : Hp} : ∀ {xs : List V} {ds : List PyData} {v : V} {d : PyData} (i : Nat), DpAll K H xs ds → Dp K H v d → DpAll K H (xs.set i v) (ds.set i d)
  | _, _, _, _, _, .nil, _ => .nil
  | _, _, _, _, 0, .cons h r, k => .cons k r
  | _, _, _, _, i + 1, .cons h r, k => .cons h (dpAll_set i r k)
def spBentT (K : PySem.W.Frag) : Sp := fun vs H Q _ => ∃ (p : Addr) (v : V) (ts : List Tab) (n mc mt c : Nat), vs = [.ref p, v] ∧ Dp K H v (tabsD ts) ∧ TabsB n mc mt ts ∧ n ≤ 300 ∧ mc ≤ 100 ∧ mt ≤ 100 ∧ Pu H p c ∧ c + 10 ≤ 1000000000 ∧
  ∀ (v' : V) (ts' : List Tab) (H' : Hp) (c' : Nat), Dp K H' v' (tabsD ts') → TabsB (2 * n + 9) (mc + 1) mt ts' → Pu H' p c' → c' ≤ c + 10 → Off (fun a => a = p) H H' → Q v' H'
section
variable {P : Program} {w : World} {K : PySem.W.Frag} {mg : Str → Option Value} {base : Heap}
theorem scBentT : FnScope ["purse", "tables_here", "found", "way", "spot", "again", "title", "known", "place", "twin"] ["purse", "tables_here"] (defScope sBentTables) := ⟨rfl, rfl, rfl, by decide +kernel, rfl, by decide +kernel, by decide +kernel⟩
theorem ok_bentT {f fC fB fD : Addr} {fd dC dB dD : FuncData} (F : FnP K "_law_bent_tables" sBentTables f fd) (FC : FnP K "_law_coin" sCoin fC dC) (bC : Binds K dC ["purse", "many"] []) (mC : mg "_law_coin" = some (.ref fC))
    (GB : FnOk P w K mg base CX0 2 fB dB ["purse", "word"] spBad) (bB : Binds K dB ["purse", "word"] []) (mB : mg "_law_bad_title" = some (.ref fB)) (kB : PySem.W.keepIn K (.ref fB) = true)
    (GD : FnOk P w K mg base CX0 6 fD dD ["thing"] (spCopied K 6)) (bD : Binds K dD ["thing"] []) (mD : mg "_law_copied" = some (.ref fD)) (kD : PySem.W.keepIn K (.ref fD) = true) (mi : mg "int" = none) (ml : mg "len" = none) :
    FnOk P w K mg base CX0 7 f fd ["purse", "tables_here"] (spBentT K) := by
  have GC : FnOk P w K mg base CX0 6 fC dC ["purse", "many"] spCoin := (ok_coin FC mi).mono (by decide)
  have GB6 : FnOk P w K mg base CX0 6 fB dB ["purse", "word"] spBad := GB.mono (by decide)
  refine F.ok scBentT (fun vs H Q E h => ?_) (fun cdv A outer s H vs Q E hr h => ?_)
  · obtain ⟨p, v, ts, n, mc, mt, c, rfl, _⟩ := h
    rfl
  obtain ⟨p, v, ts, n, mc, mt, c, rfl, hv, tb, hn, hmc, hmt, hp, hc, q⟩ := h
  refine ⟨_, pss_cons (ps_par (i := 2) (j := 3) rfl scBentT.nd rfl rfl (by decide) rfl rfl (pa_cons (pe_call GD hr rfl mD kD bD .nil pass0 (pa_cons (pv 1) pa_nil)) (pa_cons (pe_call GC hr rfl mC FC.kp bC .nil pass0 (pa_cons (pv 0) (pa_cons pe_int pa_nil))) pa_nil)) rfl)
    (pss_cons (ps_par (i := 4) (j := 5) rfl scBentT.nd rfl rfl (by decide) rfl rfl (pa_cons (pe_call GC hr rfl mC FC.kp bC .nil pass0 (pa_cons (pv 0) (pa_cons (pe_callB call_len_seq rfl ml boot_len (pa_cons (pv 2) pa_nil)) pa_nil)))
        (pa_cons (pe_call GC hr rfl mC FC.kp bC .nil pass0 (pa_cons (pv 0) (pa_cons (pe_callB call_len_seq rfl ml boot_len (pa_cons (pv 2) pa_nil)) pa_nil))) pa_nil)) rfl)
    (pss_cons (ps_asg (pe_ix ix_list (pv 2) (pv 4) (fun _ _ => rfl)) (pg_tup rfl (pgs_cons (pg_name (i := 6) scBentT.nd rfl (Or.inl rfl)) (pgs_cons (pg_name (i := 7) scBentT.nd rfl (Or.inl rfl)) pgs_nil))))
    (pss_cons (ps_par (i := 8) (j := 9) rfl scBentT.nd rfl rfl (by decide) rfl rfl (pa_cons (pe_call GC hr rfl mC FC.kp bC .nil pass0 (pa_cons (pv 0) (pa_cons (pe_callB call_len_seq rfl ml boot_len (pa_cons (pv 7) pa_nil)) pa_nil)))
        (pa_cons (pe_call GC hr rfl mC FC.kp bC .nil pass0 (pa_cons (pv 0) (pa_cons (pe_callB call_len_seq rfl ml boot_len (pa_cons (pv 7) pa_nil)) pa_nil))) pa_nil)) rfl)
    (pss_cons (ps_if (pt_cmpR op_eq (pv 3) pe_int (nomark _)) (pss_one (ps_asg (pe_tup (pa_cons (pe_call GB6 hr rfl mB kB bB .nil pass0 (pa_cons (pv 0) (pa_cons (pv 6) pa_nil))) (pa_cons (pv 7) pa_nil))) (pg_sub (pv 2) (pv 4) set_list)))
      (pss_one (ps_if (pt_cmpR op_eq (pv 3) pe_int (nomark _)) (pss_one (ps_asg (pe_tup (pa_cons (pv 6) (pa_cons (pe_op op_cat (pe_op op_cat (pe_slice sl_list (pv 7) po_none (po_some (pv 8))) (pe_lst (pa_cons (pe_call GB6 hr rfl mB kB bB .nil pass0 (pa_cons (pv 0) (pa_cons (pe_ix ix_list (pv 7) (pv 8) (fun _ _ => rfl)) pa_nil))) pa_nil)))
            (pe_slice sl_list (pv 7) (po_some (pe_op op_add (pv 8) pe_int)) po_none)) pa_nil))) (pg_sub (pv 2) (pv 4) set_list)))
        (pss_one (ps_if (pt_cmpR op_eq (pv 3) pe_int (nomark _)) (pss_one (ps_asg (pe_tup (pa_cons (pe_ix ix_tup (pe_ix ix_list (pv 2) (pv 5) (fun _ _ => rfl)) pe_int (fun _ _ => rfl)) (pa_cons (pv 7) pa_nil))) (pg_sub (pv 2) (pv 4) set_list)))
          (pss_one (ps_if (pt_cmpR op_eq (pv 3) pe_int (nomark _)) (pss_one (ps_asg (pe_tup (pa_cons (pv 6) (pa_cons (pe_op op_cat (pe_op op_cat (pe_slice sl_list (pv 7) po_none (po_some (pv 8))) (pe_lst (pa_cons (pe_ix ix_list (pv 7) (pv 9) (fun _ _ => rfl)) pa_nil)))
              (pe_slice sl_list (pv 7) (po_some (pv 8)) po_none)) pa_nil))) (pg_sub (pv 2) (pv 4) set_list))) pss_nil)))))))
    (pss_one (ps_ret (pv 2))))))), ?_⟩
  obtain ⟨xs0, ep0⟩ := id hp.lst
  refine ⟨_, rfl, v, tabsD ts, n, [mt, 2, mc], rfl, hv, fit_tabs tb, by simp; omega, (by show 3 < 6; decide), fun v' F' H1 o1 fr k1 => ?_⟩
  obtain ⟨D, xs, rfl, hD1, F1, r1, nD1, fr1, frD⟩ : ∃ D xs, v' = .ref D ∧ H1 D = some (.lst xs) ∧ ∃ F1, OwAll H1 xs (ts.map tabD) F1 ∧ ¬ F1 D ∧ (∀ a, F1 a → H a = none) ∧ H D = none := by
    cases o1 with
    | lst h r n e => exact ⟨_, _, rfl, h, _, r, n, fun a z => fr a ((e a).mpr (.inr z)), fr _ ((e _).mpr (.inl rfl))⟩
  have hp1 : Pu H1 p c := hp.at ((k1 _ _ ep0 id).trans ep0.symm)
  have ep1 := k1 _ _ ep0 id
  have pD : p ≠ D := ne_of_none ep0 frD
  have own : ∀ H', Off (fun a => a = p) H1 H' → OwAll H' xs (ts.map tabD) F1 := fun H' k => r1.keep k (fun a z => by rw [z]; exact ⟨_, ep1⟩) fun a z y => by
    have q0 := fr1 a z
    rw [y, ep0] at q0
    cases q0
  have dps : ∀ H', Off (fun a => a = p) H1 H' → Dp K H' (.ref D) (tabsD ts) := fun H' k => .lst (SqL.of (k _ _ hD1 (Ne.symm pD))) (own H' k).dp
  have lx : xs.length = ts.length := by rw [r1.length, List.length_map]
  have refs : ∀ x ∈ xs, ∃ a, x = V.ref a := by
    intro x hx
    obtain ⟨j, hj⟩ := List.getElem?_of_mem hx
    obtain ⟨d, e, o⟩ := dpAll_at (r1.dp (K := K)) hj
    rw [List.getElem?_map] at e
    cases e2 : ts[j]? with
    | none => rw [e2] at e; cases e
    | some t =>
      rw [e2] at e
      cases e
      obtain ⟨a, w, rfl, _⟩ := dp_tab o
      exact ⟨a, rfl⟩
  have tl := tb.one
  have tm := tb.most
  refine ⟨_, rfl, p, 6, c, rfl, hp1, by omega, by decide, by decide, fun way H2 w0 w6 hp2 b2 => ⟨_, _, rfl, ?_⟩⟩
  have k2 : Off (fun a => a = p) H1 H2 := b2.off
  obtain ⟨y2, q2, _, l2⟩ := dp_tabs_ref (dps H2 k2)
  refine ⟨_, rfl, _, rfl, D, y2, rfl, .inl q2, p, (y2.length : Int), c + 1, rfl, hp2, by omega, by omega, by omega, fun spot H3 s0 s1 hp3 b3 => ?_⟩
  have k3 : Off (fun a => a = p) H1 H3 := k2.trans b3.off
  obtain ⟨y3, q3, _, l3⟩ := dp_tabs_ref (dps H3 k3)
  refine ⟨_, rfl, _, rfl, D, y3, rfl, .inl q3, p, (y3.length : Int), c + 2, rfl, hp3, by omega, by omega, by omega, fun again H4 a0 a1 hp4 b4 => ⟨_, _, rfl, ?_⟩⟩
  have k4 : Off (fun a => a = p) H1 H4 := k3.trans b4.off
  obtain ⟨y4, t, ta, ca, u1, u2, u3, u4, u5, u6⟩ := tab_at (k := spot) (dps H4 k4) s0 (by omega)
  refine ⟨_, rfl, _, rfl, D, y4, spot, _, rfl, rfl, u1, u2, ta, _, rfl, u5, rfl, _, _, rfl, _, _, rfl, rfl, ?_⟩
  have tB := tb.each t u3
  have cm := tB.most
  have co := tB.one
  have cols : ∀ H', Off (fun a => a = p) H4 H' → SqL K H' ca (t.2.map V.str) := fun H' k => dp_cols_ref (dp_but k hp4 u6 (noInt_cols _))
  refine ⟨_, rfl, _, rfl, ca, _, rfl, .inl (cols H4 (Off.refl _ _)), p, ((t.2.map V.str).length : Int), c + 3, rfl, hp4, by omega, by rw [List.length_map]; omega, by rw [List.length_map]; omega, fun pl H5 p0 p1 hp5 b5 => ?_⟩
  refine ⟨_, rfl, _, rfl, ca, _, rfl, .inl (cols H5 b5.off), p, ((t.2.map V.str).length : Int), c + 4, rfl, hp5, by omega, by rw [List.length_map]; omega, by rw [List.length_map]; omega, fun tw H6 t0 t1 hp6 b6 => ⟨_, _, rfl, ?_⟩⟩
  rw [List.length_map] at p1 t1
  have k46 : Off (fun a => a = p) H4 H6 := b5.off.trans b6.off
  have k6 : Off (fun a => a = p) H1 H6 := k4.trans k46
  have ksp : ((spot.toNat : Nat) : Int) = spot := by omega
  have ix : ixN xs.length spot = some spot.toNat := by
    unfold ixN
    rw [if_pos s0, if_pos (by omega)]
  -- the end with a new table at the place
  have fin : ∀ (H7 : Hp) (tp kc : Addr) (t' : Tab) (c7 : Nat), Off (fun a => a = p) H6 H7 → H7 tp = some (.tup [.str t'.1, .ref kc]) → (∀ l, SqL K (upd H7 D (.lst l)) kc (t'.2.map V.str)) → Pu H7 p c7 → c7 ≤ c + 10 → TabB (2 * n + 9) (mc + 1) t' →
      Q (.ref D) (upd H7 D (.lst (xs.set spot.toNat (.ref tp)))) := by
    intro H7 tp kc t' c7 k7 e7 kcs hp7 hc7 tb'
    have k17 : Off (fun a => a = p) H1 H7 := k6.trans k7
    have hD7 : H7 D = some (.lst xs) := k17 _ _ hD1 (Ne.symm pD)
    have tD : tp ≠ D := fun z => by rw [z, hD7] at e7; cases e7
    have kD : Off (fun a => a = D) H7 (upd H7 D (.lst (xs.set spot.toNat (.ref tp)))) := Off.upd rfl
    have r7 := (own H7 k17).keep kD (fun a z => by rw [z]; exact ⟨_, hD7⟩) fun a z y => nD1 (y ▸ z)
    have d7 : Dp K (upd H7 D (.lst (xs.set spot.toNat (.ref tp)))) (.ref tp) (tabD t') := .tup (SqT.of ((upd_ne tD).trans e7)) (.cons (.str _) (.cons (.lst (kcs _) (dp_strs _)) .nil))
    have d8 := dpAll_set spot.toNat r7.dp d7
    have es : (ts.map tabD).set spot.toNat (tabD t') = (ts.set spot.toNat t').map tabD := (List.map_set).symm
    rw [es] at d8
    refine q (.ref D) (ts.set spot.toNat t') _ c7 (.lst (SqL.of upd_same) d8) ⟨by rw [List.length_set]; exact tb.one, by rw [List.length_set]; exact tb.most, fun u hu => ?_⟩ (hp7.at (upd_ne pD)) hc7 ?_
    · rcases List.mem_or_eq_of_mem_set hu with h | rfl
      · exact (tb.each u h).mono (by omega) (by omega)
      · exact tb'
    · intro b o eb nb
      rw [upd_ne (fun z => by rw [z, frD] at eb; cases eb)]
      exact k17 _ _ (k1 _ _ eb id) nb
  -- a list of texts is not the list of the tables
  have notD : ∀ (H7 : Hp) (kc : Addr) (cs : List Str) (l : List V), H7 D = some (.lst xs) → 1 ≤ cs.length → SqL K H7 kc (cs.map V.str) → SqL K (upd H7 D (.lst l)) kc (cs.map V.str) := by
    intro H7 kc cs l hD7 h1 h
    have nd : ∀ {o : HO}, H7 kc = some o → o = .lst (cs.map V.str) ∨ (∃ o', o = .frz o' (.lst (cs.map V.str))) → kc ≠ D := fun {o} e ho z => by
      rw [z, hD7] at e
      cases e
      rcases ho with ho | ⟨o', ho⟩
      · cases ho
        cases cs with
        | nil => simp at h1
        | cons y cs =>
          obtain ⟨a, ea⟩ := refs (.str y) (by simp)
          cases ea
      · cases ho
    rcases h with (h | ⟨o, h⟩) | h
    · exact .inl (.inl ((upd_ne (nd h (.inl rfl))).trans h))
    · exact .inl (.inr ⟨o, (upd_ne (nd h (.inr ⟨_, rfl⟩))).trans h⟩)
    · exact .inr h
  have yes : ∀ {i : Int}, decide (V.int way = V.int i) = true → way = i := fun c => V.int.inj (of_decide_eq_true c)
  refine ⟨_, rfl, rfl, _, rfl, ite2 (fun w => ?_) (fun _ => ⟨_, rfl, rfl, _, rfl, ite2 (fun w => ?_) (fun _ => ⟨_, rfl, rfl, _, rfl, ite2 (fun w => ?_) (fun _ => ⟨_, rfl, rfl, _, rfl, ite2 (fun w => ?_) (fun _ => ?_)⟩)⟩)⟩)⟩
  · refine ⟨_, rfl, _, rfl, p, t.1, n, c + 5, rfl, tB.name, by omega, hp6, by omega, fun y H7 gy hp7 k7 => ⟨_, rfl, (by show 2 ≤ sizeLine; decide), fun tp htp => ?_⟩⟩
    have pt : p ≠ tp := fun z => by
      obtain ⟨xs, ep⟩ := hp7.lst
      rw [z, htp] at ep
      cases ep
    have kk : Off (fun a => a = p) H6 (upd H7 tp (.tup [.str y, .ref ca])) := k7.trans (Off.new htp)
    have hDn := (k6.trans kk) _ _ hD1 (Ne.symm pD)
    refine ⟨_, rfl, _, rfl, D, xs, spot, _, rfl, rfl, hDn, ix, _, rfl, ?_⟩
    exact fin _ tp ca (y, t.2) (c + 6) kk upd_same (fun l => notD _ _ _ l hDn co (cols _ (k46.trans kk))) (hp7.at (upd_ne pt)) (by omega) ⟨co, by show t.2.length ≤ _; omega, fun x hx => (tB.good x hx).mono (by omega), gy⟩
  · -- the columns with a bad name at a place
    refine ⟨_, rfl, _, rfl, _, rfl, _, rfl, ca, _, rfl, cols H6 k46, fun m1 n1 => ?_⟩
    have j1 : Off (fun a => a = p) H6 (upd H6 m1 (.lst (cutV (t.2.map V.str) none (some pl)))) := Off.new n1
    have e1 := upd_same (H := H6) (a := m1) (o := .lst (cutV (t.2.map V.str) none (some pl)))
    obtain ⟨xs6, ep6⟩ := id hp6.lst
    have hq1 : Pu (upd H6 m1 (.lst (cutV (t.2.map V.str) none (some pl)))) p (c + 5) := hp6.at (upd_ne (ne_of_none ep6 n1))
    generalize upd H6 m1 (.lst (cutV (t.2.map V.str) none (some pl))) = G1 at j1 e1 hq1 ⊢
    obtain ⟨y0, z1, z2, _⟩ := col_at (cs := t.2) p0 p1
    refine ⟨_, rfl, _, rfl, _, rfl, ca, _, pl, _, rfl, rfl, cols _ (k46.trans j1), z1, p, y0, n, c + 5, rfl, tB.good y0 z2, by omega, hq1, by omega, fun y G2 gy hq2 kb => ⟨(by show 1 ≤ sizeLine; decide), fun m2 n2 => ?_⟩⟩
    have pm1 : p ≠ m1 := fun z => by
      have := ne_of_none ep6 n1
      exact this z
    have e1' := kb _ _ e1 (Ne.symm pm1)
    have j2 : Off (fun a => a = p) H6 (upd G2 m2 (.lst [.str y])) := j1.trans (kb.trans (Off.new n2))
    have e12 : (upd G2 m2 (.lst [.str y])) m1 = some (.lst (cutV (t.2.map V.str) none (some pl))) := (upd_ne (ne_of_none e1' n2)).trans e1'
    have lc : (t.2.map V.str).length = t.2.length := List.length_map _
    have c1' : cutV (t.2.map V.str) none (some pl) = (t.2.map V.str).take pl.toNat := cutV_head p0
    refine ⟨m1, m2, _, _, rfl, rfl, e12, upd_same, ?_, fun m3 n3 => ?_⟩
    · rw [c1', List.length_take]
      show _ + 1 ≤ 16777216
      omega
    obtain ⟨xs2, ep2⟩ := id hq2.lst
    have pm2 : p ≠ m2 := ne_of_none ep2 n2
    have pm3 : p ≠ m3 := fun z => by
      rw [← z, upd_ne pm2, ep2] at n3
      cases n3
    have j3 := j2.trans (Off.new (G := fun a => a = p) (o := .lst (cutV (t.2.map V.str) none (some pl) ++ [.str y])) n3)
    refine ⟨_, rfl, _, rfl, _, _, rfl, rfl, _, rfl, ca, _, rfl, cols _ (k46.trans j3), fun m4 n4 => ?_⟩
    have c2' : cutV (t.2.map V.str) (some (pl + 1)) none = (t.2.map V.str).drop (pl + 1).toNat := cutV_tail (by omega)
    refine ⟨m3, m4, _, _, rfl, rfl, (upd_ne (ne_of_none upd_same n4)).trans upd_same, upd_same, ?_, fun m5 n5 => ⟨(by show 2 ≤ sizeLine; decide), fun tp htp => ?_⟩⟩
    · rw [c1', c2', List.length_append, List.length_take, List.length_drop]
      show _ + 1 + _ ≤ 16777216
      omega
    have j4 := j3.trans (Off.new (G := fun a => a = p) (o := .lst (cutV (t.2.map V.str) (some (pl + 1)) none)) n4)
    have j5 := j4.trans (Off.new (G := fun a => a = p) (o := .lst ((cutV (t.2.map V.str) none (some pl) ++ [.str y]) ++ cutV (t.2.map V.str) (some (pl + 1)) none)) n5)
    have j6 := j5.trans (Off.new (G := fun a => a = p) (o := .tup [.str t.1, .ref m5]) htp)
    have hDn := (k6.trans j6) _ _ hD1 (Ne.symm pD)
    have e2p : (upd G2 m2 (.lst [.str y])) p = some (.lst xs2) := (upd_ne pm2).trans ep2
    have hq6 := hq2.at (((Off.new (G := fun _ => False) n2).trans ((Off.new n3).trans ((Off.new n4).trans ((Off.new n5).trans (Off.new (o := .tup [.str t.1, .ref m5]) htp))))) _ _ ep2 id |>.trans ep2.symm)
    refine ⟨_, rfl, _, rfl, D, xs, spot, _, rfl, rfl, hDn, ix, _, rfl, ?_⟩
    have ez : (cutV (t.2.map V.str) none (some pl) ++ [V.str y]) ++ cutV (t.2.map V.str) (some (pl + 1)) none = (t.2.take pl.toNat ++ [y] ++ t.2.drop (pl + 1).toNat).map V.str := by
      rw [c1', c2', List.map_append, List.map_append, List.map_take, List.map_drop]
      rfl
    have lz : (t.2.take pl.toNat ++ [y] ++ t.2.drop (pl + 1).toNat).length ≤ t.2.length + 1 := by
      rw [List.length_append, List.length_append, List.length_take, List.length_drop]
      show _ + 1 + _ ≤ _
      omega
    have lz1 : 1 ≤ (t.2.take pl.toNat ++ [y] ++ t.2.drop (pl + 1).toNat).length := by
      rw [List.length_append, List.length_append]
      show 1 ≤ _ + 1 + _
      omega
    have m5t : m5 ≠ tp := ne_of_none upd_same htp
    refine fin _ tp m5 (t.1, t.2.take pl.toNat ++ [y] ++ t.2.drop (pl + 1).toNat) (c + 6) j6 upd_same (fun l => notD _ _ _ l hDn lz1 (SqL.of ?_)) hq6 (by omega) ⟨lz1, Nat.le_trans lz (Nat.succ_le_succ cm), fun x hx => ?_, tB.name.mono (by omega)⟩
    · rw [upd_ne m5t, upd_same, ez]
    · rcases List.mem_append.mp hx with hx | hx
      · rcases List.mem_append.mp hx with hx | hx
        · exact (tB.good x (List.mem_of_mem_take hx)).mono (by omega)
        · rw [List.mem_singleton.mp hx]
          exact gy
      · exact (tB.good x (List.mem_of_mem_drop hx)).mono (by omega)
  · obtain ⟨y7, t7, ta7, ca7, v1, v2, v3, v4, v5, v6⟩ := tab_at (k := again) (dps H6 k6) a0 (by omega)
    refine ⟨_, rfl, _, rfl, D, y7, again, _, rfl, rfl, v1, v2, ta7, _, 0, _, rfl, rfl, v5, rfl, _, rfl, (by show 2 ≤ sizeLine; decide), fun tp htp => ?_⟩
    obtain ⟨xs6, ep6⟩ := id hp6.lst
    have pt : p ≠ tp := ne_of_none ep6 htp
    have kk : Off (fun a => a = p) H6 (upd H6 tp (.tup [.str t7.1, .ref ca])) := Off.new htp
    have hDn := (k6.trans kk) _ _ hD1 (Ne.symm pD)
    refine ⟨_, rfl, _, rfl, D, xs, spot, _, rfl, rfl, hDn, ix, _, rfl, ?_⟩
    exact fin _ tp ca (t7.1, t.2) (c + 5) kk upd_same (fun l => notD _ _ _ l hDn co (cols _ (k46.trans kk))) (hp6.at (upd_ne pt)) (by omega) ⟨co, by show t.2.length ≤ _; omega, fun x hx => (tB.good x hx).mono (by omega), (tb.each t7 v3).name.mono (by omega)⟩
  · -- the columns with one of them put at a place
    refine ⟨_, rfl, _, rfl, _, rfl, _, rfl, ca, _, rfl, cols H6 k46, fun m1 n1 => ?_⟩
    obtain ⟨xs2, ep2⟩ := id hp6.lst
    have j1 := Off.new (G := fun a => a = p) (o := .lst (cutV (t.2.map V.str) none (some pl))) n1
    obtain ⟨y, z1, z2, _⟩ := col_at (cs := t.2) t0 t1
    refine ⟨_, rfl, _, rfl, ca, _, tw, _, rfl, rfl, cols _ (k46.trans j1), z1, (by show 1 ≤ sizeLine; decide), fun m2 n2 => ?_⟩
    have j2 := j1.trans (Off.new (G := fun a => a = p) (o := .lst [.str y]) n2)
    have lc : (t.2.map V.str).length = t.2.length := List.length_map _
    have c1' : cutV (t.2.map V.str) none (some pl) = (t.2.map V.str).take pl.toNat := cutV_head p0
    refine ⟨m1, m2, _, _, rfl, rfl, (upd_ne (ne_of_none upd_same n2)).trans upd_same, upd_same, ?_, fun m3 n3 => ?_⟩
    · rw [c1', List.length_take]
      show _ + 1 ≤ 16777216
      omega
    have j3 := j2.trans (Off.new (G := fun a => a = p) (o := .lst (cutV (t.2.map V.str) none (some pl) ++ [.str y])) n3)
    refine ⟨_, rfl, _, rfl, _, rfl, ca, _, rfl, cols _ (k46.trans j3), fun m4 n4 => ?_⟩
    have c2' : cutV (t.2.map V.str) (some pl) none = (t.2.map V.str).drop pl.toNat := cutV_tail p0
    refine ⟨m3, m4, _, _, rfl, rfl, (upd_ne (ne_of_none upd_same n4)).trans upd_same, upd_same, ?_, fun m5 n5 => ⟨(by show 2 ≤ sizeLine; decide), fun tp htp => ?_⟩⟩
    · rw [c1', c2', List.length_append, List.length_take, List.length_drop]
      show _ + 1 + _ ≤ 16777216
      omega
    have j4 := j3.trans (Off.new (G := fun a => a = p) (o := .lst (cutV (t.2.map V.str) (some pl) none)) n4)
    have j5 := j4.trans (Off.new (G := fun a => a = p) (o := .lst ((cutV (t.2.map V.str) none (some pl) ++ [.str y]) ++ cutV (t.2.map V.str) (some pl) none)) n5)
    have j6 := j5.trans (Off.new (G := fun a => a = p) (o := .tup [.str t.1, .ref m5]) htp)
    have hDn := (k6.trans j6) _ _ hD1 (Ne.symm pD)
    have hq6 := hp6.at (((Off.new (G := fun _ => False) n1).trans ((Off.new n2).trans ((Off.new n3).trans ((Off.new n4).trans ((Off.new n5).trans (Off.new (o := .tup [.str t.1, .ref m5]) htp)))))) _ _ ep2 id |>.trans ep2.symm)
    refine ⟨_, rfl, _, rfl, D, xs, spot, _, rfl, rfl, hDn, ix, _, rfl, ?_⟩
    have ez : (cutV (t.2.map V.str) none (some pl) ++ [V.str y]) ++ cutV (t.2.map V.str) (some pl) none = (t.2.take pl.toNat ++ [y] ++ t.2.drop pl.toNat).map V.str := by
      rw [c1', c2', List.map_append, List.map_append, List.map_take, List.map_drop]
      rfl
    have lz : (t.2.take pl.toNat ++ [y] ++ t.2.drop pl.toNat).length ≤ t.2.length + 1 := by
      rw [List.length_append, List.length_append, List.length_take, List.length_drop]
      show _ + 1 + _ ≤ _
      omega
    have lz1 : 1 ≤ (t.2.take pl.toNat ++ [y] ++ t.2.drop pl.toNat).length := by
      rw [List.length_append, List.length_append]
      show 1 ≤ _ + 1 + _
      omega
    have m5t : m5 ≠ tp := ne_of_none upd_same htp
    refine fin _ tp m5 (t.1, t.2.take pl.toNat ++ [y] ++ t.2.drop pl.toNat) (c + 5) j6 upd_same (fun l => notD _ _ _ l hDn lz1 (SqL.of ?_)) hq6 (by omega) ⟨lz1, Nat.le_trans lz (Nat.succ_le_succ cm), fun x hx => ?_, tB.name.mono (by omega)⟩
    · rw [upd_ne m5t, upd_same, ez]
    · rcases List.mem_append.mp hx with hx | hx
      · rcases List.mem_append.mp hx with hx | hx
        · exact (tB.good x (List.mem_of_mem_take hx)).mono (by omega)
        · rw [List.mem_singleton.mp hx]
          exact (tB.good y z2).mono (by omega)
      · exact (tB.good x (List.mem_of_mem_drop hx)).mono (by omega)
  · exact ⟨_, rfl, q (.ref D) ts H6 (c + 5) (dps H6 k6) ⟨tb.one, tb.most, fun u hu => (tb.each u hu).mono (by omega) (by omega)⟩ hp6 (by omega) ((k1.mono fun _ z => z.elim).trans k6)⟩
end
end LW
set_option Elab.async false
set_option linter.all false
set_option maxRecDepth 100000
set_option maxHeartbeats 0
namespace LW
open PySem PySem.Spec PyProof.Rows L2 KV
/-! ### _law_bent_rule -/
/-- a tuple of texts, with a list of texts at the third place or not -/
abbrev RB := List Str × Option (List Str × List Str)
def rbL : RB → List PyData
  | (h, none) => h.map PyData.str
  | (h, some (cs, tl)) => h.map PyData.str ++ colsD cs :: tl.map PyData.str
def rbD (r : RB) : PyData := .tuple (rbL r)
structure RbOk (n mc : Nat) (r : RB) : Prop where
  head : r.1.length ≤ 2
  hg : ∀ x ∈ r.1, Gd n x
  two : r.2 ≠ none → r.1.length = 2
  cs : ∀ cs tl, r.2 = some (cs, tl) → cs.length ≤ mc ∧ (∀ x ∈ cs, Gd n x) ∧ tl.length ≤ 2 ∧ ∀ x ∈ tl, Gd n x
theorem noInt_rb (r : RB) : noIntAll (rbL r) = true := by
  refine noIntAll_of fun d hd => ?_
  have st : ∀ {l : List Str}, d ∈ l.map PyData.str → noInt d = true := fun h => by
    obtain ⟨x, _, rfl⟩ := List.mem_map.mp h
    simp [noInt]
  obtain ⟨h, o⟩ := r
  cases o with
  | none => exact st hd
  | some q =>
    obtain ⟨cs, tl⟩ := q
    rcases List.mem_append.mp hd with hd | hd
    · exact st hd
    · rcases List.mem_cons.mp hd with rfl | hd
      · exact noInt_cols cs
      · exact st hd
/-- what the menu stands on -/
structure BR (K : PySem.W.Frag) (p : Addr) (c : Nat) (H0 : Hp) (sm be : Addr) (cs bs : List Str) (keep : List (Addr × HO)) (us : List V) (rs : List RB) (H : Hp) : Prop where
  so : Dp K H (.ref sm) (colsD cs)
  b : Dp K H (.ref be) (colsD bs)
  cum : DpAll K H us (rs.map rbD)
  pu : Pu H p c
  off : Off (fun a => a = p) H0 H
  kp : ∀ x ∈ keep, H x.1 = some x.2
section
variable {K : PySem.W.Frag} {p sm be : Addr} {c : Nat} {H0 H H' : Hp} {cs bs : List Str} {keep : List (Addr × HO)} {us : List V} {rs : List RB}
theorem BR.step (B : BR K p c H0 sm be cs bs keep us rs H) (k : Off (fun _ => False) H H') : BR K p c H0 sm be cs bs keep us rs H' :=
  ⟨dp_off k B.so, dp_off k B.b, dpAll_off k B.cum, B.pu.off k id, B.off.trans (k.mono fun _ z => z.elim), fun x hx => k _ _ (B.kp x hx) id⟩
theorem dpAll_snoc : ∀ {us : List V} {es : List PyData} {v : V} {d : PyData}, DpAll K H us es → Dp K H v d → DpAll K H (us ++ [v]) (es ++ [d])
  | _, _, _, _, .nil, h => .cons h .nil
  | _, _, _, _, .cons h0 r, h => .cons h0 (dpAll_snoc r h)
/-- one more tuple -/
theorem BR.tup {a : Addr} (B : BR K p c H0 sm be cs bs keep us rs H) (ha : H a = none) (vs : List V) (r : RB) (hd : ∀ G, BR K p c H0 sm be cs bs keep us rs G → DpAll K G vs (rbL r)) :
    BR K p c H0 sm be cs bs keep (us ++ [.ref a]) (rs ++ [r]) (upd H a (.tup vs)) := by
  have B1 := B.step (H' := upd H a (.tup vs)) (Off.new ha)
  refine ⟨B1.so, B1.b, ?_, B1.pu, B1.off, B1.kp⟩
  rw [List.map_append]
  exact dpAll_snoc B1.cum (.tup (SqT.of upd_same) (hd _ B1))
/-- a new list of those -/
theorem BR.menu {a : Addr} (B : BR K p c H0 sm be cs bs keep us rs H) (ha : H a = none) (xs : List V) : BR K p c H0 sm be cs bs [(a, .lst xs)] us rs (upd H a (.lst xs)) := by
  have B1 := B.step (H' := upd H a (.lst xs)) (Off.new ha)
  refine ⟨B1.so, B1.b, B1.cum, B1.pu, B1.off, fun x hx => ?_⟩
  rw [List.mem_singleton.mp hx]
  exact upd_same
theorem BR.more {a : Addr} {o : HO} (B : BR K p c H0 sm be cs bs keep us rs H) (ha : H a = none) : BR K p c H0 sm be cs bs ((a, o) :: keep) us rs (upd H a o) := by
  have B1 := B.step (H' := upd H a o) (Off.new ha)
  refine ⟨B1.so, B1.b, B1.cum, B1.pu, B1.off, fun x hx => ?_⟩
  rcases List.mem_cons.mp hx with rfl | hx
  · exact upd_same
  · exact B1.kp x hx
theorem BR.bad {d : Nat} (B : BR K p c H0 sm be cs bs keep us rs H) (k : Off (fun a => a = p) H H') (hp : Pu H' p d) (hk : ∀ x ∈ keep, x.1 ≠ p) : BR K p d H0 sm be cs bs keep us rs H' := by
  have nm : noIntAll (rs.map rbD) = true := noIntAll_of fun d hd => by
    obtain ⟨r, _, rfl⟩ := List.mem_map.mp hd
    unfold rbD
    simp only [noInt]
    exact noInt_rb r
  exact ⟨dp_but k B.pu B.so (noInt_cols _), dp_but k B.pu B.b (noInt_cols _), dpAll_but k B.pu B.cum nm, hp, B.off.trans k, fun x hx => k _ _ (B.kp x hx) (hk x hx)⟩
theorem mem2 {Pr : Str → Prop} {x y : Str} (h : Pr x) (k : Pr y) : ∀ z ∈ [x, y], Pr z := by
  intro z hz
  rcases List.mem_cons.mp hz with e | hz
  · rw [e]
    exact h
  · rw [List.mem_singleton.mp hz]
    exact k
theorem rb1 {n mc : Nat} {x : Str} (h : Gd n x) : RbOk n mc ([x], none) := ⟨by show 1 ≤ 2; decide, fun y hy => by rw [List.mem_singleton.mp hy]; exact h, fun z => (z rfl).elim, fun _ _ z => by cases z⟩
theorem rb2 {n mc : Nat} {x y : Str} (h : Gd n x) (k : Gd n y) : RbOk n mc ([x, y], none) :=
  ⟨by show 2 ≤ 2; decide, mem2 h k, fun z => rfl, fun _ _ z => by cases z⟩
theorem rb3 {n mc : Nat} {x y : Str} {cs tl : List Str} (h : Gd n x) (k : Gd n y) (c1 : cs.length ≤ mc) (c2 : ∀ x ∈ cs, Gd n x) (t1 : tl.length ≤ 2) (t2 : ∀ x ∈ tl, Gd n x) : RbOk n mc ([x, y], some (cs, tl)) :=
  ⟨by show 2 ≤ 2; decide, mem2 h k, fun z => rfl, fun _ _ z => by cases z; exact ⟨c1, c2, t1, t2⟩⟩
end
def spBentR (K : PySem.W.Frag) : Sp := fun vs H Q _ => ∃ (p : Addr) (v : V) (ts : List Tab) (n mc mt c : Nat), vs = [.ref p, v] ∧ Dp K H v (tabsD ts) ∧ TabsB n mc mt ts ∧ 7 ≤ n ∧ n ≤ 300 ∧ mc ≤ 100 ∧ mt ≤ 100 ∧ Pu H p c ∧ c + 10 ≤ 1000000000 ∧
  ∀ (v' : V) (r : RB) (H' : Hp) (c' : Nat), Dp K H' v' (rbD r) → RbOk (2 * n + 9) (mc + 1) r → Pu H' p c' → c' ≤ c + 10 → Off (fun a => a = p) H H' → Q v' H'
section
variable {P : Program} {w : World} {K : PySem.W.Frag} {mg : Str → Option Value} {base : Heap}
theorem scBentR : FnScope ["purse", "tables_here", "title", "known", "many", "spot", "stray", "some", "end", "bent", "menu"] ["purse", "tables_here"] (defScope sBentRule) := ⟨rfl, rfl, rfl, by decide +kernel, rfl, by decide +kernel, by decide +kernel⟩
theorem ok_bentR {f fC fB : Addr} {fd dC dB : FuncData} (F : FnP K "_law_bent_rule" sBentRule f fd) (FC : FnP K "_law_coin" sCoin fC dC) (bC : Binds K dC ["purse", "many"] []) (mC : mg "_law_coin" = some (.ref fC))
    (GB : FnOk P w K mg base CX0 2 fB dB ["purse", "word"] spBad) (bB : Binds K dB ["purse", "word"] []) (mB : mg "_law_bad_title" = some (.ref fB)) (kB : PySem.W.keepIn K (.ref fB) = true) (mi : mg "int" = none) (ml : mg "len" = none) (mL : mg "list" = none) :
    FnOk P w K mg base CX0 3 f fd ["purse", "tables_here"] (spBentR K) := by
  have GC : FnOk P w K mg base CX0 2 fC dC ["purse", "many"] spCoin := (ok_coin FC mi).mono (by decide)
  refine F.ok scBentR (fun vs H Q E h => ?_) (fun cdv A outer s H vs Q E hr h => ?_)
  · obtain ⟨p, v, ts, n, mc, mt, c, rfl, _⟩ := h
    rfl
  obtain ⟨p, v, ts, n, mc, mt, c, rfl, hv, tb, n7, hn, hmc, hmt, hp, hc, q⟩ := h
  refine ⟨_, pss_cons (ps_asg (pe_ix ix_list (pv 1) (pe_call GC hr rfl mC FC.kp bC .nil pass0 (pa_cons (pv 0) (pa_cons (pe_callB call_len_seq rfl ml boot_len (pa_cons (pv 1) pa_nil)) pa_nil))) (fun _ _ => rfl))
      (pg_tup rfl (pgs_cons (pg_name (i := 2) scBentR.nd rfl (Or.inl rfl)) (pgs_cons (pg_name (i := 3) scBentR.nd rfl (Or.inl rfl)) pgs_nil))))
    (pss_cons (ps_set (i := 4) scBentR.nd rfl (Or.inl rfl) (pe_call GC hr rfl mC FC.kp bC .nil pass0 (pa_cons (pv 0) (pa_cons (pe_op op_add (pe_callB call_len_seq rfl ml boot_len (pa_cons (pv 3) pa_nil)) pe_int) pa_nil))))
    (pss_cons (ps_par (i := 5) (j := 6) rfl scBentR.nd rfl rfl (by decide) rfl rfl (pa_cons (pe_call GC hr rfl mC FC.kp bC .nil pass0 (pa_cons (pv 0) (pa_cons (pe_op op_add (pv 4) pe_int) pa_nil)))
        (pa_cons (pe_call GB hr rfl mB kB bB .nil pass0 (pa_cons (pv 0) (pa_cons (pe_ix ix_list (pv 3) (pe_call GC hr rfl mC FC.kp bC .nil pass0 (pa_cons (pv 0) (pa_cons (pe_callB call_len_seq rfl ml boot_len (pa_cons (pv 3) pa_nil)) pa_nil))) (fun _ _ => rfl)) pa_nil))) pa_nil)) rfl)
    (pss_cons (ps_par (i := 7) (j := 8) rfl scBentR.nd rfl rfl (by decide) rfl rfl (pa_cons (pe_callTy call_list_of rfl mL boot_list (pa_cons (pe_slice sl_list (pv 3) po_none (po_some (pv 4))) pa_nil))
        (pa_cons (pe_ix ix_list (pv 3) (pe_call GC hr rfl mC FC.kp bC .nil pass0 (pa_cons (pv 0) (pa_cons (pe_callB call_len_seq rfl ml boot_len (pa_cons (pv 3) pa_nil)) pa_nil))) (fun _ _ => rfl)) pa_nil)) rfl)
    (pss_cons (ps_set (i := 9) scBentR.nd rfl (Or.inl rfl) (pe_op op_cat (pe_op op_cat (pe_slice sl_list (pv 7) po_none (po_some (pv 5))) (pe_lst (pa_cons (pv 6) pa_nil))) (pe_slice sl_list (pv 7) (po_some (pv 5)) po_none)))
    (pss_cons (ps_set (i := 10) scBentR.nd rfl (Or.inl rfl) (pe_lst (pa_cons (pe_tup (pa_cons pe_str (pa_cons (pv 2) (pa_cons (pv 7) (pa_cons (pv 8) pa_nil))))) (pa_cons (pe_tup (pa_cons pe_str (pa_cons (pv 2) (pa_cons (pv 7) pa_nil))))
        (pa_cons (pe_tup (pa_cons pe_str (pa_cons (pv 2) pa_nil))) (pa_cons (pe_tup (pa_cons pe_str (pa_cons (pv 2) (pa_cons (pv 7) (pa_cons (pv 8) (pa_cons (pv 8) pa_nil)))))) pa_nil))))))
    (pss_cons (ps_set (i := 10) scBentR.nd rfl (Or.inl rfl) (pe_op op_cat (pv 10) (pe_lst (pa_cons (pe_tup (pa_cons pe_str pa_nil)) (pa_cons (pe_tup (pa_cons pe_str pa_nil)) (pa_cons (pe_tup (pa_cons pe_str (pa_cons (pv 6) (pa_cons (pv 7) pa_nil))))
        (pa_cons (pe_tup (pa_cons pe_str (pa_cons (pv 6) (pa_cons (pv 9) pa_nil)))) (pa_cons (pe_tup (pa_cons pe_str (pa_cons (pv 6) (pa_cons (pv 7) (pa_cons (pv 6) pa_nil))))) pa_nil))))))))
    (pss_cons (ps_set (i := 10) scBentR.nd rfl (Or.inl rfl) (pe_op op_cat (pv 10) (pe_lst (pa_cons (pe_tup (pa_cons pe_str (pa_cons (pv 2) (pa_cons (pv 9) pa_nil)))) (pa_cons (pe_tup (pa_cons pe_str (pa_cons (pv 2) (pa_cons (pv 9) (pa_cons (pv 8) pa_nil)))))
        (pa_cons (pe_tup (pa_cons pe_str (pa_cons (pv 2) (pa_cons (pv 7) (pa_cons (pv 6) pa_nil))))) pa_nil))))))
    (pss_cons (ps_set (i := 10) scBentR.nd rfl (Or.inl rfl) (pe_op op_cat (pv 10) (pe_lst (pa_cons (pe_tup (pa_cons pe_str (pa_cons (pv 2) (pa_cons (pv 9) (pa_cons (pe_call GB hr rfl mB kB bB .nil pass0 (pa_cons (pv 0) (pa_cons (pv 8) pa_nil))) pa_nil)))))
        (pa_cons (pe_tup (pa_cons pe_str (pa_cons (pv 2) (pa_cons (pv 7) pa_nil)))) pa_nil)))))
    (pss_cons (ps_set (i := 10) scBentR.nd rfl (Or.inl rfl) (pe_op op_cat (pv 10) (pe_lst (pa_cons (pe_tup (pa_cons pe_str (pa_cons (pv 2) (pa_cons (pv 7) (pa_cons (pv 8) pa_nil))))) (pa_cons (pe_tup (pa_cons pe_str (pa_cons (pv 2) (pa_cons (pv 7) pa_nil))))
        (pa_cons (pe_tup (pa_cons pe_str (pa_cons (pv 2) (pa_cons (pv 7) pa_nil)))) (pa_cons (pe_tup (pa_cons pe_str (pa_cons (pv 2) (pa_cons (pv 7) pa_nil)))) pa_nil)))))))
    (pss_cons (ps_set (i := 10) scBentR.nd rfl (Or.inl rfl) (pe_op op_cat (pv 10) (pe_lst (pa_cons (pe_tup (pa_cons pe_str (pa_cons (pv 6) (pa_cons (pv 9) (pa_cons (pv 8) pa_nil))))) (pa_cons (pe_tup (pa_cons (pv 2) (pa_cons (pv 2) (pa_cons (pv 7) pa_nil))))
        (pa_cons (pe_tup (pa_cons pe_str (pa_cons (pv 2) (pa_cons (pv 7) (pa_cons (pv 8) pa_nil))))) (pa_cons (pe_tup pa_nil) pa_nil)))))))
    (pss_one (ps_ret (pe_ix ix_list (pv 10) (pe_call GC hr rfl mC FC.kp bC .nil pass0 (pa_cons (pv 0) (pa_cons (pe_callB call_len_seq rfl ml boot_len (pa_cons (pv 10) pa_nil)) pa_nil))) (fun _ _ => rfl)))))))))))))), ?_⟩
  obtain ⟨xs0, ep0⟩ := id hp.lst
  obtain ⟨a, _, rfl, _⟩ := dp_tabs hv
  obtain ⟨x0, q0, _, l0⟩ := dp_tabs_ref hv
  have tl := tb.one
  have tm := tb.most
  refine ⟨_, rfl, _, rfl, _, rfl, a, x0, rfl, .inl q0, p, (x0.length : Int), c, rfl, hp, by omega, by omega, by omega, fun k H1 k0 k1 hp1 b1 => ?_⟩
  obtain ⟨x1, t, ta, ca, s1, s2, s3, _, s4, s5⟩ := tab_at (k := k) (dp_but b1.off hp hv (noInt_tabs ts)) k0 (by omega)
  have tB := tb.each t s3
  have cm := tB.most
  have co := tB.one
  have lc : (t.2.map V.str).length = t.2.length := List.length_map _
  have cols : ∀ H', Off (fun a => a = p) H1 H' → SqL K H' ca (t.2.map V.str) := fun H' k => dp_cols_ref (dp_but k hp1 s5 (noInt_cols _))
  refine ⟨a, x1, k, _, rfl, rfl, s1, s2, ta, _, rfl, s4, rfl, _, _, rfl, _, _, rfl, rfl, ?_⟩
  refine ⟨_, rfl, _, rfl, ca, _, rfl, .inl (cols H1 (Off.refl _ _)), _, _, rfl, rfl, p, ((t.2.map V.str).length : Int) + 1, c + 1, rfl, hp1, by omega, by omega, by omega, fun many H2 m0 m1 hp2 b2 => ?_⟩
  refine ⟨_, rfl, _, rfl, _, _, rfl, rfl, p, many + 1, c + 2, rfl, hp2, by omega, by omega, by omega, fun spot H3 p0 p1 hp3 b3 => ?_⟩
  have k3 : Off (fun a => a = p) H1 H3 := b2.off.trans b3.off
  refine ⟨_, rfl, _, rfl, _, rfl, _, rfl, ca, _, rfl, .inl (cols H3 k3), p, ((t.2.map V.str).length : Int), c + 3, rfl, hp3, by omega, by omega, by omega, fun e0 H4 e1 e2 hp4 b4 => ?_⟩
  have k4 := k3.trans b4.off
  obtain ⟨y0, z1, z2, _⟩ := col_at (cs := t.2) e1 (by omega)
  refine ⟨ca, _, e0, _, rfl, rfl, cols H4 k4, z1, p, y0, n, c + 4, rfl, tB.good y0 z2, by omega, hp4, by omega, fun stray H5 gs hp5 kb => ⟨_, _, rfl, ?_⟩⟩
  have k5 := k4.trans kb
  refine ⟨_, rfl, _, rfl, _, rfl, ca, _, rfl, cols H5 k5, fun m1' n1' => ⟨m1', _, rfl, .inl (SqL.of upd_same), fun sm nsm => ?_⟩⟩
  have c1' : cutV (t.2.map V.str) none (some many) = (t.2.take many.toNat).map V.str := by rw [cutV_head m0, List.map_take]
  rw [c1'] at nsm
  have j1 : Off (fun a => a = p) H5 (upd (upd H5 m1' (.lst ((t.2.take many.toNat).map V.str))) sm (.lst ((t.2.take many.toNat).map V.str))) := (Off.new n1').trans (Off.new nsm)
  have es := upd_same (H := upd H5 m1' (.lst ((t.2.take many.toNat).map V.str))) (a := sm) (o := .lst ((t.2.take many.toNat).map V.str))
  have hq := hp5.off (((Off.new n1').trans (Off.new nsm)) : Off (fun _ => False) H5 (upd (upd H5 m1' (.lst ((t.2.take many.toNat).map V.str))) sm (.lst ((t.2.take many.toNat).map V.str)))) id
  rw [c1']
  generalize upd (upd H5 m1' (.lst ((t.2.take many.toNat).map V.str))) sm (.lst ((t.2.take many.toNat).map V.str)) = H6 at j1 es hq ⊢
  have k6 := k5.trans j1
  obtain ⟨xs6, ep6⟩ := id hq.lst
  have psm : sm ≠ p := off_ne (Off.new n1') (hp5.lst).choose_spec nsm
  refine ⟨_, rfl, _, rfl, _, rfl, ca, _, rfl, .inl (cols H6 k6), p, ((t.2.map V.str).length : Int), c + 5, rfl, hq, by omega, by omega, by omega, fun f0 H7 f1 f2 hp7 b7 => ?_⟩
  have k7 := k6.trans b7.off
  obtain ⟨en, z3, z4, _⟩ := col_at (cs := t.2) f1 (by omega)
  refine ⟨ca, _, f0, _, rfl, rfl, cols H7 k7, z3, _, _, rfl, ?_⟩
  have es7 := b7.off _ _ es psm
  -- the bent list
  obtain ⟨cs, hcs⟩ : ∃ cs, cs = t.2.take many.toNat := ⟨_, rfl⟩
  rw [← hcs] at es7
  have lcs : cs.length ≤ t.2.length := by rw [hcs, List.length_take]; omega
  have lcm : (cs.length : Int) = many := by rw [hcs, List.length_take]; omega
  have gcs : ∀ x ∈ cs, Gd n x := fun x hx => tB.good x (List.mem_of_mem_take (hcs ▸ hx))
  have lV : (cs.map V.str).length = cs.length := List.length_map _
  refine ⟨_, rfl, _, rfl, _, rfl, sm, _, rfl, SqL.of es7, fun r1 o1 => ?_⟩
  have d1 : cutV (cs.map V.str) none (some spot) = (cs.take spot.toNat).map V.str := by rw [cutV_head p0, List.map_take]
  have d2 : cutV (cs.map V.str) (some spot) none = (cs.drop spot.toNat).map V.str := by rw [cutV_tail p0, List.map_drop]
  refine ⟨_, rfl, (by show 1 ≤ sizeLine; decide), fun r2 o2 => ⟨r1, r2, _, _, rfl, rfl, (upd_ne (ne_of_none upd_same o2)).trans upd_same, upd_same, ?_, fun r3 o3 => ?_⟩⟩
  · rw [d1, List.length_map, List.length_take]
    show _ + 1 ≤ 16777216
    omega
  have g3 : Off (fun _ => False) H7 _ := (Off.new o1).trans ((Off.new o2).trans (Off.new (o := .lst (cutV (cs.map V.str) none (some spot) ++ [.str stray])) o3))
  refine ⟨_, rfl, _, rfl, _, rfl, sm, _, rfl, SqL.of (g3 _ _ es7 id), fun r4 o4 => ⟨r3, r4, _, _, rfl, rfl, (upd_ne (ne_of_none upd_same o4)).trans upd_same, upd_same, ?_, fun be o5 => ?_⟩⟩
  · rw [d1, d2, List.length_append, List.length_map, List.length_map, List.length_take, List.length_drop]
    show _ + 1 + _ ≤ 16777216
    omega
  have ez : (cutV (cs.map V.str) none (some spot) ++ [V.str stray]) ++ cutV (cs.map V.str) (some spot) none = (cs.take spot.toNat ++ [stray] ++ cs.drop spot.toNat).map V.str := by
    rw [d1, d2, List.map_append, List.map_append]
    rfl
  have g5 : Off (fun _ => False) H7 _ := g3.trans ((Off.new o4).trans (Off.new (o := .lst ((cutV (cs.map V.str) none (some spot) ++ [V.str stray]) ++ cutV (cs.map V.str) (some spot) none)) o5))
  have eb : ∃ G, upd (upd (upd (upd (upd H7 r1 (.lst (cutV (cs.map V.str) none (some spot)))) r2 (.lst [.str stray])) r3 (.lst (cutV (cs.map V.str) none (some spot) ++ [.str stray]))) r4 (.lst (cutV (cs.map V.str) (some spot) none))) be (.lst ((cutV (cs.map V.str) none (some spot) ++ [V.str stray]) ++ cutV (cs.map V.str) (some spot) none)) = G := ⟨_, rfl⟩
  obtain ⟨G0, eG⟩ := eb
  have ebe : G0 be = some (.lst ((cs.take spot.toNat ++ [stray] ++ cs.drop spot.toNat).map V.str)) := by rw [← eG, upd_same, ez]
  rw [eG] at g5 ⊢
  obtain ⟨bs, hbs⟩ : ∃ bs, bs = cs.take spot.toNat ++ [stray] ++ cs.drop spot.toNat := ⟨_, rfl⟩
  rw [← hbs] at ebe
  have lbs : bs.length ≤ mc + 1 := by
    rw [hbs, List.length_append, List.length_append, List.length_take, List.length_drop]
    show _ + 1 + _ ≤ _
    omega
  have B : BR K p (c + 6) H sm be cs bs [] [] [] G0 := ⟨.lst (SqL.of (g5 _ _ es7 id)) (dp_strs _), .lst (SqL.of ebe) (dp_strs _), .nil, hp7.off g5 id, b1.off.trans (k7.trans (g5.mono fun _ z => z.elim)), fun x hx => absurd hx (by simp)⟩
  clear eG
  refine ⟨_, rfl, _, rfl, _, rfl, (by show 4 ≤ sizeLine; decide), fun a1 n1 => ?_⟩
  replace B : BR K p (c + 6) H sm be cs bs [] [.ref a1] [(["key", t.1], some (cs, [en]))] (upd G0 a1 (.tup [.str "key", .str t.1, .ref sm, .str en])) := B.tup n1 [.str "key", .str t.1, .ref sm, .str en] (["key", t.1], some (cs, [en])) fun _ B => (.cons (.str _) (.cons (.str _) (.cons B.so (.cons (.str _) .nil))))
  generalize upd G0 a1 (.tup [.str "key", .str t.1, .ref sm, .str en]) = G1 at B ⊢
  refine ⟨_, rfl, _, rfl, (by show 3 ≤ sizeLine; decide), fun a2 n2 => ?_⟩
  replace B : BR K p (c + 6) H sm be cs bs [] [.ref a1, .ref a2] [(["key", t.1], some (cs, [en])), (["settles", t.1], some (cs, []))] (upd G1 a2 (.tup [.str "settles", .str t.1, .ref sm])) := B.tup n2 [.str "settles", .str t.1, .ref sm] (["settles", t.1], some (cs, [])) fun _ B => (.cons (.str _) (.cons (.str _) (.cons B.so .nil)))
  generalize upd G1 a2 (.tup [.str "settles", .str t.1, .ref sm]) = G2 at B ⊢
  refine ⟨_, rfl, (by show 2 ≤ sizeLine; decide), fun a3 n3 => ?_⟩
  replace B : BR K p (c + 6) H sm be cs bs [] [.ref a1, .ref a2, .ref a3] [(["key", t.1], some (cs, [en])), (["settles", t.1], some (cs, [])), (["key", t.1], none)] (upd G2 a3 (.tup [.str "key", .str t.1])) := B.tup n3 [.str "key", .str t.1] (["key", t.1], none) fun _ B => (.cons (.str _) (.cons (.str _) .nil))
  generalize upd G2 a3 (.tup [.str "key", .str t.1]) = G3 at B ⊢
  refine ⟨_, rfl, _, rfl, _, rfl, _, rfl, (by show 5 ≤ sizeLine; decide), fun a4 n4 => ?_⟩
  replace B : BR K p (c + 6) H sm be cs bs [] [.ref a1, .ref a2, .ref a3, .ref a4] [(["key", t.1], some (cs, [en])), (["settles", t.1], some (cs, [])), (["key", t.1], none), (["settles", t.1], some (cs, [en, en]))] (upd G3 a4 (.tup [.str "settles", .str t.1, .ref sm, .str en, .str en])) := B.tup n4 [.str "settles", .str t.1, .ref sm, .str en, .str en] (["settles", t.1], some (cs, [en, en])) fun _ B => (.cons (.str _) (.cons (.str _) (.cons B.so (.cons (.str _) (.cons (.str _) .nil)))))
  generalize upd G3 a4 (.tup [.str "settles", .str t.1, .ref sm, .str en, .str en]) = G4 at B ⊢
  refine ⟨(by show 4 ≤ sizeLine; decide), fun u0 v0 => ?_⟩
  replace B : BR K p (c + 6) H sm be cs bs [(u0, .lst [.ref a1, .ref a2, .ref a3, .ref a4])] [.ref a1, .ref a2, .ref a3, .ref a4] [(["key", t.1], some (cs, [en])), (["settles", t.1], some (cs, [])), (["key", t.1], none), (["settles", t.1], some (cs, [en, en]))] (upd G4 u0 (.lst [.ref a1, .ref a2, .ref a3, .ref a4])) := B.menu v0 [.ref a1, .ref a2, .ref a3, .ref a4]
  generalize upd G4 u0 (.lst [.ref a1, .ref a2, .ref a3, .ref a4]) = M0 at B ⊢
  show gName 10 (V.ref u0) [some (.ref p), some (.ref a), some (.str t.1), some (.ref ca), some (.int many), some (.int spot), some (.str stray), some (.ref sm), some (.str en), some (.ref be), none] M0 _
  refine ⟨_, rfl, (by show 1 ≤ sizeLine; decide), fun a5 n5 => ?_⟩
  replace B : BR K p (c + 6) H sm be cs bs [(u0, .lst [.ref a1, .ref a2, .ref a3, .ref a4])] [.ref a1, .ref a2, .ref a3, .ref a4, .ref a5] [(["key", t.1], some (cs, [en])), (["settles", t.1], some (cs, [])), (["key", t.1], none), (["settles", t.1], some (cs, [en, en])), (["key"], none)] (upd M0 a5 (.tup [.str "key"])) := B.tup n5 [.str "key"] (["key"], none) fun _ B => (.cons (.str _) .nil)
  generalize upd M0 a5 (.tup [.str "key"]) = G5 at B ⊢
  refine ⟨(by show 1 ≤ sizeLine; decide), fun a6 n6 => ?_⟩
  replace B : BR K p (c + 6) H sm be cs bs [(u0, .lst [.ref a1, .ref a2, .ref a3, .ref a4])] [.ref a1, .ref a2, .ref a3, .ref a4, .ref a5, .ref a6] [(["key", t.1], some (cs, [en])), (["settles", t.1], some (cs, [])), (["key", t.1], none), (["settles", t.1], some (cs, [en, en])), (["key"], none), (["settles"], none)] (upd G5 a6 (.tup [.str "settles"])) := B.tup n6 [.str "settles"] (["settles"], none) fun _ B => (.cons (.str _) .nil)
  generalize upd G5 a6 (.tup [.str "settles"]) = G6 at B ⊢
  refine ⟨_, rfl, _, rfl, (by show 3 ≤ sizeLine; decide), fun a7 n7 => ?_⟩
  replace B : BR K p (c + 6) H sm be cs bs [(u0, .lst [.ref a1, .ref a2, .ref a3, .ref a4])] [.ref a1, .ref a2, .ref a3, .ref a4, .ref a5, .ref a6, .ref a7] [(["key", t.1], some (cs, [en])), (["settles", t.1], some (cs, [])), (["key", t.1], none), (["settles", t.1], some (cs, [en, en])), (["key"], none), (["settles"], none), (["key", stray], some (cs, []))] (upd G6 a7 (.tup [.str "key", .str stray, .ref sm])) := B.tup n7 [.str "key", .str stray, .ref sm] (["key", stray], some (cs, [])) fun _ B => (.cons (.str _) (.cons (.str _) (.cons B.so .nil)))
  generalize upd G6 a7 (.tup [.str "key", .str stray, .ref sm]) = G7 at B ⊢
  refine ⟨_, rfl, _, rfl, (by show 3 ≤ sizeLine; decide), fun a8 n8 => ?_⟩
  replace B : BR K p (c + 6) H sm be cs bs [(u0, .lst [.ref a1, .ref a2, .ref a3, .ref a4])] [.ref a1, .ref a2, .ref a3, .ref a4, .ref a5, .ref a6, .ref a7, .ref a8] [(["key", t.1], some (cs, [en])), (["settles", t.1], some (cs, [])), (["key", t.1], none), (["settles", t.1], some (cs, [en, en])), (["key"], none), (["settles"], none), (["key", stray], some (cs, [])), (["key", stray], some (bs, []))] (upd G7 a8 (.tup [.str "key", .str stray, .ref be])) := B.tup n8 [.str "key", .str stray, .ref be] (["key", stray], some (bs, [])) fun _ B => (.cons (.str _) (.cons (.str _) (.cons B.b .nil)))
  generalize upd G7 a8 (.tup [.str "key", .str stray, .ref be]) = G8 at B ⊢
  refine ⟨_, rfl, _, rfl, _, rfl, (by show 4 ≤ sizeLine; decide), fun a9 n9 => ?_⟩
  replace B : BR K p (c + 6) H sm be cs bs [(u0, .lst [.ref a1, .ref a2, .ref a3, .ref a4])] [.ref a1, .ref a2, .ref a3, .ref a4, .ref a5, .ref a6, .ref a7, .ref a8, .ref a9] [(["key", t.1], some (cs, [en])), (["settles", t.1], some (cs, [])), (["key", t.1], none), (["settles", t.1], some (cs, [en, en])), (["key"], none), (["settles"], none), (["key", stray], some (cs, [])), (["key", stray], some (bs, [])), (["settles", stray], some (cs, [stray]))] (upd G8 a9 (.tup [.str "settles", .str stray, .ref sm, .str stray])) := B.tup n9 [.str "settles", .str stray, .ref sm, .str stray] (["settles", stray], some (cs, [stray])) fun _ B => (.cons (.str _) (.cons (.str _) (.cons B.so (.cons (.str _) .nil))))
  generalize upd G8 a9 (.tup [.str "settles", .str stray, .ref sm, .str stray]) = G9 at B ⊢
  refine ⟨(by show 5 ≤ sizeLine; decide), fun w1 v1 => ?_⟩
  replace B := B.more (o := .lst [.ref a5, .ref a6, .ref a7, .ref a8, .ref a9]) v1
  generalize upd G9 w1 (.lst [.ref a5, .ref a6, .ref a7, .ref a8, .ref a9]) = N1 at B ⊢
  refine ⟨u0, w1, [.ref a1, .ref a2, .ref a3, .ref a4], [.ref a5, .ref a6, .ref a7, .ref a8, .ref a9], rfl, rfl, B.kp (u0, .lst [.ref a1, .ref a2, .ref a3, .ref a4]) (List.mem_cons_of_mem _ List.mem_cons_self), B.kp (w1, .lst [.ref a5, .ref a6, .ref a7, .ref a8, .ref a9]) List.mem_cons_self, (by show 9 ≤ sizeLine; decide), fun u1 x1 => ?_⟩
  replace B : BR K p (c + 6) H sm be cs bs [(u1, .lst [.ref a1, .ref a2, .ref a3, .ref a4, .ref a5, .ref a6, .ref a7, .ref a8, .ref a9])] [.ref a1, .ref a2, .ref a3, .ref a4, .ref a5, .ref a6, .ref a7, .ref a8, .ref a9] [(["key", t.1], some (cs, [en])), (["settles", t.1], some (cs, [])), (["key", t.1], none), (["settles", t.1], some (cs, [en, en])), (["key"], none), (["settles"], none), (["key", stray], some (cs, [])), (["key", stray], some (bs, [])), (["settles", stray], some (cs, [stray]))] (upd N1 u1 (.lst ([.ref a1, .ref a2, .ref a3, .ref a4] ++ [.ref a5, .ref a6, .ref a7, .ref a8, .ref a9]))) := B.menu x1 ([.ref a1, .ref a2, .ref a3, .ref a4] ++ [.ref a5, .ref a6, .ref a7, .ref a8, .ref a9])
  generalize upd N1 u1 (.lst ([.ref a1, .ref a2, .ref a3, .ref a4] ++ [.ref a5, .ref a6, .ref a7, .ref a8, .ref a9])) = M1 at B ⊢
  show gName 10 (V.ref u1) [some (.ref p), some (.ref a), some (.str t.1), some (.ref ca), some (.int many), some (.int spot), some (.str stray), some (.ref sm), some (.str en), some (.ref be), some (.ref u0)] M1 _
  refine ⟨_, rfl, _, rfl, _, rfl, (by show 3 ≤ sizeLine; decide), fun a10 n10 => ?_⟩
  replace B : BR K p (c + 6) H sm be cs bs [(u1, .lst [.ref a1, .ref a2, .ref a3, .ref a4, .ref a5, .ref a6, .ref a7, .ref a8, .ref a9])] [.ref a1, .ref a2, .ref a3, .ref a4, .ref a5, .ref a6, .ref a7, .ref a8, .ref a9, .ref a10] [(["key", t.1], some (cs, [en])), (["settles", t.1], some (cs, [])), (["key", t.1], none), (["settles", t.1], some (cs, [en, en])), (["key"], none), (["settles"], none), (["key", stray], some (cs, [])), (["key", stray], some (bs, [])), (["settles", stray], some (cs, [stray])), (["key", t.1], some (bs, []))] (upd M1 a10 (.tup [.str "key", .str t.1, .ref be])) := B.tup n10 [.str "key", .str t.1, .ref be] (["key", t.1], some (bs, [])) fun _ B => (.cons (.str _) (.cons (.str _) (.cons B.b .nil)))
  generalize upd M1 a10 (.tup [.str "key", .str t.1, .ref be]) = G10 at B ⊢
  refine ⟨_, rfl, _, rfl, _, rfl, (by show 4 ≤ sizeLine; decide), fun a11 n11 => ?_⟩
  replace B : BR K p (c + 6) H sm be cs bs [(u1, .lst [.ref a1, .ref a2, .ref a3, .ref a4, .ref a5, .ref a6, .ref a7, .ref a8, .ref a9])] [.ref a1, .ref a2, .ref a3, .ref a4, .ref a5, .ref a6, .ref a7, .ref a8, .ref a9, .ref a10, .ref a11] [(["key", t.1], some (cs, [en])), (["settles", t.1], some (cs, [])), (["key", t.1], none), (["settles", t.1], some (cs, [en, en])), (["key"], none), (["settles"], none), (["key", stray], some (cs, [])), (["key", stray], some (bs, [])), (["settles", stray], some (cs, [stray])), (["key", t.1], some (bs, [])), (["settles", t.1], some (bs, [en]))] (upd G10 a11 (.tup [.str "settles", .str t.1, .ref be, .str en])) := B.tup n11 [.str "settles", .str t.1, .ref be, .str en] (["settles", t.1], some (bs, [en])) fun _ B => (.cons (.str _) (.cons (.str _) (.cons B.b (.cons (.str _) .nil))))
  generalize upd G10 a11 (.tup [.str "settles", .str t.1, .ref be, .str en]) = G11 at B ⊢
  refine ⟨_, rfl, _, rfl, _, rfl, (by show 4 ≤ sizeLine; decide), fun a12 n12 => ?_⟩
  replace B : BR K p (c + 6) H sm be cs bs [(u1, .lst [.ref a1, .ref a2, .ref a3, .ref a4, .ref a5, .ref a6, .ref a7, .ref a8, .ref a9])] [.ref a1, .ref a2, .ref a3, .ref a4, .ref a5, .ref a6, .ref a7, .ref a8, .ref a9, .ref a10, .ref a11, .ref a12] [(["key", t.1], some (cs, [en])), (["settles", t.1], some (cs, [])), (["key", t.1], none), (["settles", t.1], some (cs, [en, en])), (["key"], none), (["settles"], none), (["key", stray], some (cs, [])), (["key", stray], some (bs, [])), (["settles", stray], some (cs, [stray])), (["key", t.1], some (bs, [])), (["settles", t.1], some (bs, [en])), (["settles", t.1], some (cs, [stray]))] (upd G11 a12 (.tup [.str "settles", .str t.1, .ref sm, .str stray])) := B.tup n12 [.str "settles", .str t.1, .ref sm, .str stray] (["settles", t.1], some (cs, [stray])) fun _ B => (.cons (.str _) (.cons (.str _) (.cons B.so (.cons (.str _) .nil))))
  generalize upd G11 a12 (.tup [.str "settles", .str t.1, .ref sm, .str stray]) = G12 at B ⊢
  refine ⟨(by show 3 ≤ sizeLine; decide), fun w2 v2 => ?_⟩
  replace B := B.more (o := .lst [.ref a10, .ref a11, .ref a12]) v2
  generalize upd G12 w2 (.lst [.ref a10, .ref a11, .ref a12]) = N2 at B ⊢
  refine ⟨u1, w2, [.ref a1, .ref a2, .ref a3, .ref a4, .ref a5, .ref a6, .ref a7, .ref a8, .ref a9], [.ref a10, .ref a11, .ref a12], rfl, rfl, B.kp (u1, .lst [.ref a1, .ref a2, .ref a3, .ref a4, .ref a5, .ref a6, .ref a7, .ref a8, .ref a9]) (List.mem_cons_of_mem _ List.mem_cons_self), B.kp (w2, .lst [.ref a10, .ref a11, .ref a12]) List.mem_cons_self, (by show 12 ≤ sizeLine; decide), fun u2 x2 => ?_⟩
  replace B : BR K p (c + 6) H sm be cs bs [(u2, .lst [.ref a1, .ref a2, .ref a3, .ref a4, .ref a5, .ref a6, .ref a7, .ref a8, .ref a9, .ref a10, .ref a11, .ref a12])] [.ref a1, .ref a2, .ref a3, .ref a4, .ref a5, .ref a6, .ref a7, .ref a8, .ref a9, .ref a10, .ref a11, .ref a12] [(["key", t.1], some (cs, [en])), (["settles", t.1], some (cs, [])), (["key", t.1], none), (["settles", t.1], some (cs, [en, en])), (["key"], none), (["settles"], none), (["key", stray], some (cs, [])), (["key", stray], some (bs, [])), (["settles", stray], some (cs, [stray])), (["key", t.1], some (bs, [])), (["settles", t.1], some (bs, [en])), (["settles", t.1], some (cs, [stray]))] (upd N2 u2 (.lst ([.ref a1, .ref a2, .ref a3, .ref a4, .ref a5, .ref a6, .ref a7, .ref a8, .ref a9] ++ [.ref a10, .ref a11, .ref a12]))) := B.menu x2 ([.ref a1, .ref a2, .ref a3, .ref a4, .ref a5, .ref a6, .ref a7, .ref a8, .ref a9] ++ [.ref a10, .ref a11, .ref a12])
  generalize upd N2 u2 (.lst ([.ref a1, .ref a2, .ref a3, .ref a4, .ref a5, .ref a6, .ref a7, .ref a8, .ref a9] ++ [.ref a10, .ref a11, .ref a12])) = M2 at B ⊢
  show gName 10 (V.ref u2) [some (.ref p), some (.ref a), some (.str t.1), some (.ref ca), some (.int many), some (.int spot), some (.str stray), some (.ref sm), some (.str en), some (.ref be), some (.ref u1)] M2 _
  have hk2 : u2 ≠ p := fun z => by
    have em := B.kp _ (List.mem_singleton.mpr rfl)
    obtain ⟨_, _, _, e, _⟩ := B.pu
    rw [← z, em] at e
    cases e
  refine ⟨_, rfl, _, rfl, _, rfl, _, rfl, _, rfl, p, en, n, c + 6, rfl, tB.good en z4, by omega, B.pu, by omega, fun bad Gb gbad hpb kbad => ⟨(by show 4 ≤ sizeLine; decide), fun a13 n13 => ?_⟩⟩
  replace B := B.bad kbad hpb fun x hx => by
    rw [List.mem_singleton.mp hx]
    exact hk2
  replace B : BR K p (c + 7) H sm be cs bs [(u2, .lst [.ref a1, .ref a2, .ref a3, .ref a4, .ref a5, .ref a6, .ref a7, .ref a8, .ref a9, .ref a10, .ref a11, .ref a12])] [.ref a1, .ref a2, .ref a3, .ref a4, .ref a5, .ref a6, .ref a7, .ref a8, .ref a9, .ref a10, .ref a11, .ref a12, .ref a13] [(["key", t.1], some (cs, [en])), (["settles", t.1], some (cs, [])), (["key", t.1], none), (["settles", t.1], some (cs, [en, en])), (["key"], none), (["settles"], none), (["key", stray], some (cs, [])), (["key", stray], some (bs, [])), (["settles", stray], some (cs, [stray])), (["key", t.1], some (bs, [])), (["settles", t.1], some (bs, [en])), (["settles", t.1], some (cs, [stray])), (["settles", t.1], some (bs, [bad]))] (upd Gb a13 (.tup [.str "settles", .str t.1, .ref be, .str bad])) := B.tup n13 [.str "settles", .str t.1, .ref be, .str bad] (["settles", t.1], some (bs, [bad])) fun _ B => (.cons (.str _) (.cons (.str _) (.cons B.b (.cons (.str _) .nil))))
  generalize upd Gb a13 (.tup [.str "settles", .str t.1, .ref be, .str bad]) = G13 at B ⊢
  refine ⟨_, rfl, _, rfl, (by show 3 ≤ sizeLine; decide), fun a14 n14 => ?_⟩
  replace B : BR K p (c + 7) H sm be cs bs [(u2, .lst [.ref a1, .ref a2, .ref a3, .ref a4, .ref a5, .ref a6, .ref a7, .ref a8, .ref a9, .ref a10, .ref a11, .ref a12])] [.ref a1, .ref a2, .ref a3, .ref a4, .ref a5, .ref a6, .ref a7, .ref a8, .ref a9, .ref a10, .ref a11, .ref a12, .ref a13, .ref a14] [(["key", t.1], some (cs, [en])), (["settles", t.1], some (cs, [])), (["key", t.1], none), (["settles", t.1], some (cs, [en, en])), (["key"], none), (["settles"], none), (["key", stray], some (cs, [])), (["key", stray], some (bs, [])), (["settles", stray], some (cs, [stray])), (["key", t.1], some (bs, [])), (["settles", t.1], some (bs, [en])), (["settles", t.1], some (cs, [stray])), (["settles", t.1], some (bs, [bad])), (["key", t.1], some (cs, []))] (upd G13 a14 (.tup [.str "key", .str t.1, .ref sm])) := B.tup n14 [.str "key", .str t.1, .ref sm] (["key", t.1], some (cs, [])) fun _ B => (.cons (.str _) (.cons (.str _) (.cons B.so .nil)))
  generalize upd G13 a14 (.tup [.str "key", .str t.1, .ref sm]) = G14 at B ⊢
  refine ⟨(by show 2 ≤ sizeLine; decide), fun w3 v3 => ?_⟩
  replace B := B.more (o := .lst [.ref a13, .ref a14]) v3
  generalize upd G14 w3 (.lst [.ref a13, .ref a14]) = N3 at B ⊢
  refine ⟨u2, w3, [.ref a1, .ref a2, .ref a3, .ref a4, .ref a5, .ref a6, .ref a7, .ref a8, .ref a9, .ref a10, .ref a11, .ref a12], [.ref a13, .ref a14], rfl, rfl, B.kp (u2, .lst [.ref a1, .ref a2, .ref a3, .ref a4, .ref a5, .ref a6, .ref a7, .ref a8, .ref a9, .ref a10, .ref a11, .ref a12]) (List.mem_cons_of_mem _ List.mem_cons_self), B.kp (w3, .lst [.ref a13, .ref a14]) List.mem_cons_self, (by show 14 ≤ sizeLine; decide), fun u3 x3 => ?_⟩
  replace B : BR K p (c + 7) H sm be cs bs [(u3, .lst [.ref a1, .ref a2, .ref a3, .ref a4, .ref a5, .ref a6, .ref a7, .ref a8, .ref a9, .ref a10, .ref a11, .ref a12, .ref a13, .ref a14])] [.ref a1, .ref a2, .ref a3, .ref a4, .ref a5, .ref a6, .ref a7, .ref a8, .ref a9, .ref a10, .ref a11, .ref a12, .ref a13, .ref a14] [(["key", t.1], some (cs, [en])), (["settles", t.1], some (cs, [])), (["key", t.1], none), (["settles", t.1], some (cs, [en, en])), (["key"], none), (["settles"], none), (["key", stray], some (cs, [])), (["key", stray], some (bs, [])), (["settles", stray], some (cs, [stray])), (["key", t.1], some (bs, [])), (["settles", t.1], some (bs, [en])), (["settles", t.1], some (cs, [stray])), (["settles", t.1], some (bs, [bad])), (["key", t.1], some (cs, []))] (upd N3 u3 (.lst ([.ref a1, .ref a2, .ref a3, .ref a4, .ref a5, .ref a6, .ref a7, .ref a8, .ref a9, .ref a10, .ref a11, .ref a12] ++ [.ref a13, .ref a14]))) := B.menu x3 ([.ref a1, .ref a2, .ref a3, .ref a4, .ref a5, .ref a6, .ref a7, .ref a8, .ref a9, .ref a10, .ref a11, .ref a12] ++ [.ref a13, .ref a14])
  generalize upd N3 u3 (.lst ([.ref a1, .ref a2, .ref a3, .ref a4, .ref a5, .ref a6, .ref a7, .ref a8, .ref a9, .ref a10, .ref a11, .ref a12] ++ [.ref a13, .ref a14])) = M3 at B ⊢
  show gName 10 (V.ref u3) [some (.ref p), some (.ref a), some (.str t.1), some (.ref ca), some (.int many), some (.int spot), some (.str stray), some (.ref sm), some (.str en), some (.ref be), some (.ref u2)] M3 _
  refine ⟨_, rfl, _, rfl, _, rfl, _, rfl, (by show 4 ≤ sizeLine; decide), fun a15 n15 => ?_⟩
  replace B : BR K p (c + 7) H sm be cs bs [(u3, .lst [.ref a1, .ref a2, .ref a3, .ref a4, .ref a5, .ref a6, .ref a7, .ref a8, .ref a9, .ref a10, .ref a11, .ref a12, .ref a13, .ref a14])] [.ref a1, .ref a2, .ref a3, .ref a4, .ref a5, .ref a6, .ref a7, .ref a8, .ref a9, .ref a10, .ref a11, .ref a12, .ref a13, .ref a14, .ref a15] [(["key", t.1], some (cs, [en])), (["settles", t.1], some (cs, [])), (["key", t.1], none), (["settles", t.1], some (cs, [en, en])), (["key"], none), (["settles"], none), (["key", stray], some (cs, [])), (["key", stray], some (bs, [])), (["settles", stray], some (cs, [stray])), (["key", t.1], some (bs, [])), (["settles", t.1], some (bs, [en])), (["settles", t.1], some (cs, [stray])), (["settles", t.1], some (bs, [bad])), (["key", t.1], some (cs, [])), (["settles", t.1], some (cs, [en]))] (upd M3 a15 (.tup [.str "settles", .str t.1, .ref sm, .str en])) := B.tup n15 [.str "settles", .str t.1, .ref sm, .str en] (["settles", t.1], some (cs, [en])) fun _ B => (.cons (.str _) (.cons (.str _) (.cons B.so (.cons (.str _) .nil))))
  generalize upd M3 a15 (.tup [.str "settles", .str t.1, .ref sm, .str en]) = G15 at B ⊢
  refine ⟨_, rfl, _, rfl, (by show 3 ≤ sizeLine; decide), fun a16 n16 => ?_⟩
  replace B : BR K p (c + 7) H sm be cs bs [(u3, .lst [.ref a1, .ref a2, .ref a3, .ref a4, .ref a5, .ref a6, .ref a7, .ref a8, .ref a9, .ref a10, .ref a11, .ref a12, .ref a13, .ref a14])] [.ref a1, .ref a2, .ref a3, .ref a4, .ref a5, .ref a6, .ref a7, .ref a8, .ref a9, .ref a10, .ref a11, .ref a12, .ref a13, .ref a14, .ref a15, .ref a16] [(["key", t.1], some (cs, [en])), (["settles", t.1], some (cs, [])), (["key", t.1], none), (["settles", t.1], some (cs, [en, en])), (["key"], none), (["settles"], none), (["key", stray], some (cs, [])), (["key", stray], some (bs, [])), (["settles", stray], some (cs, [stray])), (["key", t.1], some (bs, [])), (["settles", t.1], some (bs, [en])), (["settles", t.1], some (cs, [stray])), (["settles", t.1], some (bs, [bad])), (["key", t.1], some (cs, [])), (["settles", t.1], some (cs, [en])), (["keys", t.1], some (cs, []))] (upd G15 a16 (.tup [.str "keys", .str t.1, .ref sm])) := B.tup n16 [.str "keys", .str t.1, .ref sm] (["keys", t.1], some (cs, [])) fun _ B => (.cons (.str _) (.cons (.str _) (.cons B.so .nil)))
  generalize upd G15 a16 (.tup [.str "keys", .str t.1, .ref sm]) = G16 at B ⊢
  refine ⟨_, rfl, _, rfl, (by show 3 ≤ sizeLine; decide), fun a17 n17 => ?_⟩
  replace B : BR K p (c + 7) H sm be cs bs [(u3, .lst [.ref a1, .ref a2, .ref a3, .ref a4, .ref a5, .ref a6, .ref a7, .ref a8, .ref a9, .ref a10, .ref a11, .ref a12, .ref a13, .ref a14])] [.ref a1, .ref a2, .ref a3, .ref a4, .ref a5, .ref a6, .ref a7, .ref a8, .ref a9, .ref a10, .ref a11, .ref a12, .ref a13, .ref a14, .ref a15, .ref a16, .ref a17] [(["key", t.1], some (cs, [en])), (["settles", t.1], some (cs, [])), (["key", t.1], none), (["settles", t.1], some (cs, [en, en])), (["key"], none), (["settles"], none), (["key", stray], some (cs, [])), (["key", stray], some (bs, [])), (["settles", stray], some (cs, [stray])), (["key", t.1], some (bs, [])), (["settles", t.1], some (bs, [en])), (["settles", t.1], some (cs, [stray])), (["settles", t.1], some (bs, [bad])), (["key", t.1], some (cs, [])), (["settles", t.1], some (cs, [en])), (["keys", t.1], some (cs, [])), (["Key", t.1], some (cs, []))] (upd G16 a17 (.tup [.str "Key", .str t.1, .ref sm])) := B.tup n17 [.str "Key", .str t.1, .ref sm] (["Key", t.1], some (cs, [])) fun _ B => (.cons (.str _) (.cons (.str _) (.cons B.so .nil)))
  generalize upd G16 a17 (.tup [.str "Key", .str t.1, .ref sm]) = G17 at B ⊢
  refine ⟨_, rfl, _, rfl, (by show 3 ≤ sizeLine; decide), fun a18 n18 => ?_⟩
  replace B : BR K p (c + 7) H sm be cs bs [(u3, .lst [.ref a1, .ref a2, .ref a3, .ref a4, .ref a5, .ref a6, .ref a7, .ref a8, .ref a9, .ref a10, .ref a11, .ref a12, .ref a13, .ref a14])] [.ref a1, .ref a2, .ref a3, .ref a4, .ref a5, .ref a6, .ref a7, .ref a8, .ref a9, .ref a10, .ref a11, .ref a12, .ref a13, .ref a14, .ref a15, .ref a16, .ref a17, .ref a18] [(["key", t.1], some (cs, [en])), (["settles", t.1], some (cs, [])), (["key", t.1], none), (["settles", t.1], some (cs, [en, en])), (["key"], none), (["settles"], none), (["key", stray], some (cs, [])), (["key", stray], some (bs, [])), (["settles", stray], some (cs, [stray])), (["key", t.1], some (bs, [])), (["settles", t.1], some (bs, [en])), (["settles", t.1], some (cs, [stray])), (["settles", t.1], some (bs, [bad])), (["key", t.1], some (cs, [])), (["settles", t.1], some (cs, [en])), (["keys", t.1], some (cs, [])), (["Key", t.1], some (cs, [])), (["", t.1], some (cs, []))] (upd G17 a18 (.tup [.str "", .str t.1, .ref sm])) := B.tup n18 [.str "", .str t.1, .ref sm] (["", t.1], some (cs, [])) fun _ B => (.cons (.str _) (.cons (.str _) (.cons B.so .nil)))
  generalize upd G17 a18 (.tup [.str "", .str t.1, .ref sm]) = G18 at B ⊢
  refine ⟨(by show 4 ≤ sizeLine; decide), fun w4 v4 => ?_⟩
  replace B := B.more (o := .lst [.ref a15, .ref a16, .ref a17, .ref a18]) v4
  generalize upd G18 w4 (.lst [.ref a15, .ref a16, .ref a17, .ref a18]) = N4 at B ⊢
  refine ⟨u3, w4, [.ref a1, .ref a2, .ref a3, .ref a4, .ref a5, .ref a6, .ref a7, .ref a8, .ref a9, .ref a10, .ref a11, .ref a12, .ref a13, .ref a14], [.ref a15, .ref a16, .ref a17, .ref a18], rfl, rfl, B.kp (u3, .lst [.ref a1, .ref a2, .ref a3, .ref a4, .ref a5, .ref a6, .ref a7, .ref a8, .ref a9, .ref a10, .ref a11, .ref a12, .ref a13, .ref a14]) (List.mem_cons_of_mem _ List.mem_cons_self), B.kp (w4, .lst [.ref a15, .ref a16, .ref a17, .ref a18]) List.mem_cons_self, (by show 18 ≤ sizeLine; decide), fun u4 x4 => ?_⟩
  replace B : BR K p (c + 7) H sm be cs bs [(u4, .lst [.ref a1, .ref a2, .ref a3, .ref a4, .ref a5, .ref a6, .ref a7, .ref a8, .ref a9, .ref a10, .ref a11, .ref a12, .ref a13, .ref a14, .ref a15, .ref a16, .ref a17, .ref a18])] [.ref a1, .ref a2, .ref a3, .ref a4, .ref a5, .ref a6, .ref a7, .ref a8, .ref a9, .ref a10, .ref a11, .ref a12, .ref a13, .ref a14, .ref a15, .ref a16, .ref a17, .ref a18] [(["key", t.1], some (cs, [en])), (["settles", t.1], some (cs, [])), (["key", t.1], none), (["settles", t.1], some (cs, [en, en])), (["key"], none), (["settles"], none), (["key", stray], some (cs, [])), (["key", stray], some (bs, [])), (["settles", stray], some (cs, [stray])), (["key", t.1], some (bs, [])), (["settles", t.1], some (bs, [en])), (["settles", t.1], some (cs, [stray])), (["settles", t.1], some (bs, [bad])), (["key", t.1], some (cs, [])), (["settles", t.1], some (cs, [en])), (["keys", t.1], some (cs, [])), (["Key", t.1], some (cs, [])), (["", t.1], some (cs, []))] (upd N4 u4 (.lst ([.ref a1, .ref a2, .ref a3, .ref a4, .ref a5, .ref a6, .ref a7, .ref a8, .ref a9, .ref a10, .ref a11, .ref a12, .ref a13, .ref a14] ++ [.ref a15, .ref a16, .ref a17, .ref a18]))) := B.menu x4 ([.ref a1, .ref a2, .ref a3, .ref a4, .ref a5, .ref a6, .ref a7, .ref a8, .ref a9, .ref a10, .ref a11, .ref a12, .ref a13, .ref a14] ++ [.ref a15, .ref a16, .ref a17, .ref a18])
  generalize upd N4 u4 (.lst ([.ref a1, .ref a2, .ref a3, .ref a4, .ref a5, .ref a6, .ref a7, .ref a8, .ref a9, .ref a10, .ref a11, .ref a12, .ref a13, .ref a14] ++ [.ref a15, .ref a16, .ref a17, .ref a18])) = M4 at B ⊢
  show gName 10 (V.ref u4) [some (.ref p), some (.ref a), some (.str t.1), some (.ref ca), some (.int many), some (.int spot), some (.str stray), some (.ref sm), some (.str en), some (.ref be), some (.ref u3)] M4 _
  refine ⟨_, rfl, _, rfl, _, rfl, _, rfl, (by show 4 ≤ sizeLine; decide), fun a19 n19 => ?_⟩
  replace B : BR K p (c + 7) H sm be cs bs [(u4, .lst [.ref a1, .ref a2, .ref a3, .ref a4, .ref a5, .ref a6, .ref a7, .ref a8, .ref a9, .ref a10, .ref a11, .ref a12, .ref a13, .ref a14, .ref a15, .ref a16, .ref a17, .ref a18])] [.ref a1, .ref a2, .ref a3, .ref a4, .ref a5, .ref a6, .ref a7, .ref a8, .ref a9, .ref a10, .ref a11, .ref a12, .ref a13, .ref a14, .ref a15, .ref a16, .ref a17, .ref a18, .ref a19] [(["key", t.1], some (cs, [en])), (["settles", t.1], some (cs, [])), (["key", t.1], none), (["settles", t.1], some (cs, [en, en])), (["key"], none), (["settles"], none), (["key", stray], some (cs, [])), (["key", stray], some (bs, [])), (["settles", stray], some (cs, [stray])), (["key", t.1], some (bs, [])), (["settles", t.1], some (bs, [en])), (["settles", t.1], some (cs, [stray])), (["settles", t.1], some (bs, [bad])), (["key", t.1], some (cs, [])), (["settles", t.1], some (cs, [en])), (["keys", t.1], some (cs, [])), (["Key", t.1], some (cs, [])), (["", t.1], some (cs, [])), (["settle", stray], some (bs, [en]))] (upd M4 a19 (.tup [.str "settle", .str stray, .ref be, .str en])) := B.tup n19 [.str "settle", .str stray, .ref be, .str en] (["settle", stray], some (bs, [en])) fun _ B => (.cons (.str _) (.cons (.str _) (.cons B.b (.cons (.str _) .nil))))
  generalize upd M4 a19 (.tup [.str "settle", .str stray, .ref be, .str en]) = G19 at B ⊢
  refine ⟨_, rfl, _, rfl, _, rfl, (by show 3 ≤ sizeLine; decide), fun a20 n20 => ?_⟩
  replace B : BR K p (c + 7) H sm be cs bs [(u4, .lst [.ref a1, .ref a2, .ref a3, .ref a4, .ref a5, .ref a6, .ref a7, .ref a8, .ref a9, .ref a10, .ref a11, .ref a12, .ref a13, .ref a14, .ref a15, .ref a16, .ref a17, .ref a18])] [.ref a1, .ref a2, .ref a3, .ref a4, .ref a5, .ref a6, .ref a7, .ref a8, .ref a9, .ref a10, .ref a11, .ref a12, .ref a13, .ref a14, .ref a15, .ref a16, .ref a17, .ref a18, .ref a19, .ref a20] [(["key", t.1], some (cs, [en])), (["settles", t.1], some (cs, [])), (["key", t.1], none), (["settles", t.1], some (cs, [en, en])), (["key"], none), (["settles"], none), (["key", stray], some (cs, [])), (["key", stray], some (bs, [])), (["settles", stray], some (cs, [stray])), (["key", t.1], some (bs, [])), (["settles", t.1], some (bs, [en])), (["settles", t.1], some (cs, [stray])), (["settles", t.1], some (bs, [bad])), (["key", t.1], some (cs, [])), (["settles", t.1], some (cs, [en])), (["keys", t.1], some (cs, [])), (["Key", t.1], some (cs, [])), (["", t.1], some (cs, [])), (["settle", stray], some (bs, [en])), ([t.1, t.1], some (cs, []))] (upd G19 a20 (.tup [.str t.1, .str t.1, .ref sm])) := B.tup n20 [.str t.1, .str t.1, .ref sm] ([t.1, t.1], some (cs, [])) fun _ B => (.cons (.str _) (.cons (.str _) (.cons B.so .nil)))
  generalize upd G19 a20 (.tup [.str t.1, .str t.1, .ref sm]) = G20 at B ⊢
  refine ⟨_, rfl, _, rfl, _, rfl, (by show 4 ≤ sizeLine; decide), fun a21 n21 => ?_⟩
  replace B : BR K p (c + 7) H sm be cs bs [(u4, .lst [.ref a1, .ref a2, .ref a3, .ref a4, .ref a5, .ref a6, .ref a7, .ref a8, .ref a9, .ref a10, .ref a11, .ref a12, .ref a13, .ref a14, .ref a15, .ref a16, .ref a17, .ref a18])] [.ref a1, .ref a2, .ref a3, .ref a4, .ref a5, .ref a6, .ref a7, .ref a8, .ref a9, .ref a10, .ref a11, .ref a12, .ref a13, .ref a14, .ref a15, .ref a16, .ref a17, .ref a18, .ref a19, .ref a20, .ref a21] [(["key", t.1], some (cs, [en])), (["settles", t.1], some (cs, [])), (["key", t.1], none), (["settles", t.1], some (cs, [en, en])), (["key"], none), (["settles"], none), (["key", stray], some (cs, [])), (["key", stray], some (bs, [])), (["settles", stray], some (cs, [stray])), (["key", t.1], some (bs, [])), (["settles", t.1], some (bs, [en])), (["settles", t.1], some (cs, [stray])), (["settles", t.1], some (bs, [bad])), (["key", t.1], some (cs, [])), (["settles", t.1], some (cs, [en])), (["keys", t.1], some (cs, [])), (["Key", t.1], some (cs, [])), (["", t.1], some (cs, [])), (["settle", stray], some (bs, [en])), ([t.1, t.1], some (cs, [])), (["settles ", t.1], some (cs, [en]))] (upd G20 a21 (.tup [.str "settles ", .str t.1, .ref sm, .str en])) := B.tup n21 [.str "settles ", .str t.1, .ref sm, .str en] (["settles ", t.1], some (cs, [en])) fun _ B => (.cons (.str _) (.cons (.str _) (.cons B.so (.cons (.str _) .nil))))
  generalize upd G20 a21 (.tup [.str "settles ", .str t.1, .ref sm, .str en]) = G21 at B ⊢
  refine ⟨(by show 0 ≤ sizeLine; decide), fun a22 n22 => ?_⟩
  replace B : BR K p (c + 7) H sm be cs bs [(u4, .lst [.ref a1, .ref a2, .ref a3, .ref a4, .ref a5, .ref a6, .ref a7, .ref a8, .ref a9, .ref a10, .ref a11, .ref a12, .ref a13, .ref a14, .ref a15, .ref a16, .ref a17, .ref a18])] [.ref a1, .ref a2, .ref a3, .ref a4, .ref a5, .ref a6, .ref a7, .ref a8, .ref a9, .ref a10, .ref a11, .ref a12, .ref a13, .ref a14, .ref a15, .ref a16, .ref a17, .ref a18, .ref a19, .ref a20, .ref a21, .ref a22] [(["key", t.1], some (cs, [en])), (["settles", t.1], some (cs, [])), (["key", t.1], none), (["settles", t.1], some (cs, [en, en])), (["key"], none), (["settles"], none), (["key", stray], some (cs, [])), (["key", stray], some (bs, [])), (["settles", stray], some (cs, [stray])), (["key", t.1], some (bs, [])), (["settles", t.1], some (bs, [en])), (["settles", t.1], some (cs, [stray])), (["settles", t.1], some (bs, [bad])), (["key", t.1], some (cs, [])), (["settles", t.1], some (cs, [en])), (["keys", t.1], some (cs, [])), (["Key", t.1], some (cs, [])), (["", t.1], some (cs, [])), (["settle", stray], some (bs, [en])), ([t.1, t.1], some (cs, [])), (["settles ", t.1], some (cs, [en])), ([], none)] (upd G21 a22 (.tup [])) := B.tup n22 [] ([], none) fun _ B => .nil
  generalize upd G21 a22 (.tup []) = G22 at B ⊢
  refine ⟨(by show 4 ≤ sizeLine; decide), fun w5 v5 => ?_⟩
  replace B := B.more (o := .lst [.ref a19, .ref a20, .ref a21, .ref a22]) v5
  generalize upd G22 w5 (.lst [.ref a19, .ref a20, .ref a21, .ref a22]) = N5 at B ⊢
  refine ⟨u4, w5, [.ref a1, .ref a2, .ref a3, .ref a4, .ref a5, .ref a6, .ref a7, .ref a8, .ref a9, .ref a10, .ref a11, .ref a12, .ref a13, .ref a14, .ref a15, .ref a16, .ref a17, .ref a18], [.ref a19, .ref a20, .ref a21, .ref a22], rfl, rfl, B.kp (u4, .lst [.ref a1, .ref a2, .ref a3, .ref a4, .ref a5, .ref a6, .ref a7, .ref a8, .ref a9, .ref a10, .ref a11, .ref a12, .ref a13, .ref a14, .ref a15, .ref a16, .ref a17, .ref a18]) (List.mem_cons_of_mem _ List.mem_cons_self), B.kp (w5, .lst [.ref a19, .ref a20, .ref a21, .ref a22]) List.mem_cons_self, (by show 22 ≤ sizeLine; decide), fun u5 x5 => ?_⟩
  replace B : BR K p (c + 7) H sm be cs bs [(u5, .lst [.ref a1, .ref a2, .ref a3, .ref a4, .ref a5, .ref a6, .ref a7, .ref a8, .ref a9, .ref a10, .ref a11, .ref a12, .ref a13, .ref a14, .ref a15, .ref a16, .ref a17, .ref a18, .ref a19, .ref a20, .ref a21, .ref a22])] [.ref a1, .ref a2, .ref a3, .ref a4, .ref a5, .ref a6, .ref a7, .ref a8, .ref a9, .ref a10, .ref a11, .ref a12, .ref a13, .ref a14, .ref a15, .ref a16, .ref a17, .ref a18, .ref a19, .ref a20, .ref a21, .ref a22] [(["key", t.1], some (cs, [en])), (["settles", t.1], some (cs, [])), (["key", t.1], none), (["settles", t.1], some (cs, [en, en])), (["key"], none), (["settles"], none), (["key", stray], some (cs, [])), (["key", stray], some (bs, [])), (["settles", stray], some (cs, [stray])), (["key", t.1], some (bs, [])), (["settles", t.1], some (bs, [en])), (["settles", t.1], some (cs, [stray])), (["settles", t.1], some (bs, [bad])), (["key", t.1], some (cs, [])), (["settles", t.1], some (cs, [en])), (["keys", t.1], some (cs, [])), (["Key", t.1], some (cs, [])), (["", t.1], some (cs, [])), (["settle", stray], some (bs, [en])), ([t.1, t.1], some (cs, [])), (["settles ", t.1], some (cs, [en])), ([], none)] (upd N5 u5 (.lst ([.ref a1, .ref a2, .ref a3, .ref a4, .ref a5, .ref a6, .ref a7, .ref a8, .ref a9, .ref a10, .ref a11, .ref a12, .ref a13, .ref a14, .ref a15, .ref a16, .ref a17, .ref a18] ++ [.ref a19, .ref a20, .ref a21, .ref a22]))) := B.menu x5 ([.ref a1, .ref a2, .ref a3, .ref a4, .ref a5, .ref a6, .ref a7, .ref a8, .ref a9, .ref a10, .ref a11, .ref a12, .ref a13, .ref a14, .ref a15, .ref a16, .ref a17, .ref a18] ++ [.ref a19, .ref a20, .ref a21, .ref a22])
  generalize upd N5 u5 (.lst ([.ref a1, .ref a2, .ref a3, .ref a4, .ref a5, .ref a6, .ref a7, .ref a8, .ref a9, .ref a10, .ref a11, .ref a12, .ref a13, .ref a14, .ref a15, .ref a16, .ref a17, .ref a18] ++ [.ref a19, .ref a20, .ref a21, .ref a22])) = M5 at B ⊢
  show gName 10 (V.ref u5) [some (.ref p), some (.ref a), some (.str t.1), some (.ref ca), some (.int many), some (.int spot), some (.str stray), some (.ref sm), some (.str en), some (.ref be), some (.ref u4)] M5 _
  have all : ∀ r ∈ ([(["key", t.1], some (cs, [en])), (["settles", t.1], some (cs, [])), (["key", t.1], none), (["settles", t.1], some (cs, [en, en])), (["key"], none), (["settles"], none), (["key", stray], some (cs, [])), (["key", stray], some (bs, [])), (["settles", stray], some (cs, [stray])), (["key", t.1], some (bs, [])), (["settles", t.1], some (bs, [en])), (["settles", t.1], some (cs, [stray])), (["settles", t.1], some (bs, [bad])), (["key", t.1], some (cs, [])), (["settles", t.1], some (cs, [en])), (["keys", t.1], some (cs, [])), (["Key", t.1], some (cs, [])), (["", t.1], some (cs, [])), (["settle", stray], some (bs, [en])), ([t.1, t.1], some (cs, [])), (["settles ", t.1], some (cs, [en])), ([], none)] : List RB), RbOk (2 * n + 9) (mc + 1) r := by
    have gt : Gd (2 * n + 9) t.1 := tB.name.mono (by omega)
    have ge : Gd (2 * n + 9) en := (tB.good en z4).mono (by omega)
    have gC : ∀ x ∈ cs, Gd (2 * n + 9) x := fun x hx => (gcs x hx).mono (by omega)
    have lC : cs.length ≤ mc + 1 := by omega
    have gB' : ∀ x ∈ bs, Gd (2 * n + 9) x := fun x hx => by
      rw [hbs] at hx
      rcases List.mem_append.mp hx with hx | hx
      · rcases List.mem_append.mp hx with hx | hx
        · exact gC x (List.mem_of_mem_take hx)
        · rw [List.mem_singleton.mp hx]
          exact gs
      · exact gC x (List.mem_of_mem_drop hx)
    have gk : ∀ x ∈ (["key", "settles", "keys", "Key", "", "settle", "settles "] : List Str), Gd (2 * n + 9) x := fun x hx => by
      have z : ∀ y ∈ (["key", "settles", "keys", "Key", "", "settle", "settles "] : List Str), gdB 8 y = true := by decide +kernel
      exact (gdB_ok (z x hx)).mono (by omega)
    have g0 : ∀ x ∈ ([] : List Str), Gd (2 * n + 9) x := fun x hx => absurd hx (by simp)
    have h1 : ∀ {y : Str}, Gd (2 * n + 9) y → ∀ x ∈ [y], Gd (2 * n + 9) x := fun h x hx => by rw [List.mem_singleton.mp hx]; exact h
    have h2 : ∀ {y z : Str}, Gd (2 * n + 9) y → Gd (2 * n + 9) z → ∀ x ∈ [y, z], Gd (2 * n + 9) x := fun h k x hx => by
      rcases List.mem_cons.mp hx with rfl | hx
      · exact h
      · exact h1 k x hx
    simp only [List.forall_mem_cons]
    refine ⟨rb3 (gk _ (by decide)) gt lC gC (by simp) (h1 ge), rb3 (gk _ (by decide)) gt lC gC (by simp) g0, rb2 (gk _ (by decide)) gt, rb3 (gk _ (by decide)) gt lC gC (by simp) (h2 ge ge), rb1 (gk _ (by decide)), rb1 (gk _ (by decide)), rb3 (gk _ (by decide)) gs lC gC (by simp) g0, rb3 (gk _ (by decide)) gs lbs gB' (by simp) g0, rb3 (gk _ (by decide)) gs lC gC (by simp) (h1 gs), rb3 (gk _ (by decide)) gt lbs gB' (by simp) g0, rb3 (gk _ (by decide)) gt lbs gB' (by simp) (h1 ge), rb3 (gk _ (by decide)) gt lC gC (by simp) (h1 gs), rb3 (gk _ (by decide)) gt lbs gB' (by simp) (h1 gbad), rb3 (gk _ (by decide)) gt lC gC (by simp) g0, rb3 (gk _ (by decide)) gt lC gC (by simp) (h1 ge), rb3 (gk _ (by decide)) gt lC gC (by simp) g0, rb3 (gk _ (by decide)) gt lC gC (by simp) g0, rb3 (gk _ (by decide)) gt lC gC (by simp) g0, rb3 (gk _ (by decide)) gs lbs gB' (by simp) (h1 ge), rb3 gt gt lC gC (by simp) g0, rb3 (gk _ (by decide)) gt lC gC (by simp) (h1 ge), ⟨by decide, g0, fun z => (z rfl).elim, fun _ _ z => by cases z⟩, fun r hr => absurd hr (by simp)⟩
  obtain ⟨U, hU⟩ : ∃ U : List V, U = ([.ref a1, .ref a2, .ref a3, .ref a4, .ref a5, .ref a6, .ref a7, .ref a8, .ref a9, .ref a10, .ref a11, .ref a12, .ref a13, .ref a14, .ref a15, .ref a16, .ref a17, .ref a18, .ref a19, .ref a20, .ref a21, .ref a22] : List V) := ⟨_, rfl⟩
  obtain ⟨R, hR⟩ : ∃ R : List RB, R = ([(["key", t.1], some (cs, [en])), (["settles", t.1], some (cs, [])), (["key", t.1], none), (["settles", t.1], some (cs, [en, en])), (["key"], none), (["settles"], none), (["key", stray], some (cs, [])), (["key", stray], some (bs, [])), (["settles", stray], some (cs, [stray])), (["key", t.1], some (bs, [])), (["settles", t.1], some (bs, [en])), (["settles", t.1], some (cs, [stray])), (["settles", t.1], some (bs, [bad])), (["key", t.1], some (cs, [])), (["settles", t.1], some (cs, [en])), (["keys", t.1], some (cs, [])), (["Key", t.1], some (cs, [])), (["", t.1], some (cs, [])), (["settle", stray], some (bs, [en])), ([t.1, t.1], some (cs, [])), (["settles ", t.1], some (cs, [en])), ([], none)] : List RB) := ⟨_, rfl⟩
  have l22 : U.length = 22 := by rw [hU]; rfl
  rw [← hR] at all
  have em : M5 u5 = some (.lst U) := by rw [hU]; exact B.kp _ (List.mem_singleton.mpr rfl)
  have cum : DpAll K M5 U (R.map rbD) := by rw [hU, hR]; exact B.cum
  refine ⟨_, rfl, _, rfl, _, rfl, u5, U, rfl, .inl (SqL.of em), p, (U.length : Int), c + 7, rfl, B.pu, by omega, by omega, by omega, fun k9 H9 q0 q1 hp9 b9 => ?_⟩
  rw [l22] at q1
  have lk : k9.toNat < U.length := by omega
  have ek : ((k9.toNat : Nat) : Int) = k9 := by omega
  have u5p : u5 ≠ p := fun z => by
    obtain ⟨_, _, _, e, _⟩ := B.pu
    rw [← z, em, hU] at e
    cases e
  obtain ⟨vk, hvk⟩ : ∃ v, U[k9.toNat]? = some v := ⟨_, List.getElem?_eq_getElem lk⟩
  obtain ⟨dk, hdk, dv⟩ := dpAll_at cum hvk
  rw [List.getElem?_map] at hdk
  obtain ⟨rk, hrk, rfl⟩ := Option.map_eq_some_iff.mp hdk
  have dv9 := dp_but b9.off B.pu dv (by unfold rbD; simp only [noInt]; exact noInt_rb rk)
  refine ⟨u5, U, k9, vk, rfl, rfl, SqL.of (b9.off _ _ em u5p), ?_, q vk rk H9 (c + 8) dv9 (all rk (List.mem_of_getElem? hrk)) hp9 (by omega) (B.off.trans b9.off)⟩
  rw [← ek]
  exact atI_nat hvk
end
end LW
set_option Elab.async false
set_option linter.all false
set_option maxRecDepth 100000
set_option maxHeartbeats 0
namespace LW
open PySem PySem.Spec PyProof.Rows L2 KV
/-! ### _law_bent_rules -/
def rbsD (rs : List RB) : PyData := .list (rs.map rbD)
theorem dpAll_take {K : PySem.W.Frag} {H : Hp} : ∀ {xs : List V} {ds : List PyData} (k : Nat), DpAll K H xs ds → DpAll K H (xs.take k) (ds.take k)
  | _, _, 0, _ => by simp only [List.take_zero]; exact .nil
  | _, _, k + 1, .nil => by simp only [List.take_nil]; exact .nil
  | _, _, k + 1, .cons h r => .cons h (dpAll_take k r)
theorem dpAll_drop {K : PySem.W.Frag} {H : Hp} : ∀ {xs : List V} {ds : List PyData} (k : Nat), DpAll K H xs ds → DpAll K H (xs.drop k) (ds.drop k)
  | _, _, 0, h => h
  | _, _, k + 1, .nil => .nil
  | _, _, k + 1, .cons h r => dpAll_drop k r
theorem dpAll_append {K : PySem.W.Frag} {H : Hp} : ∀ {xs ys : List V} {ds es : List PyData}, DpAll K H xs ds → DpAll K H ys es → DpAll K H (xs ++ ys) (ds ++ es)
  | _, _, _, _, .nil, k => k
  | _, _, _, _, .cons h r, k => .cons h (dpAll_append r k)
theorem RbOk.mono {n n' m m' : Nat} {r : RB} (h : RbOk n m r) (e : n ≤ n') (f : m ≤ m') : RbOk n' m' r :=
  ⟨h.head, fun x hx => (h.hg x hx).mono e, h.two, fun cs tl z => by
    obtain ⟨a, b, c, d⟩ := h.cs cs tl z
    exact ⟨Nat.le_trans a f, fun x hx => (b x hx).mono e, c, fun x hx => (d x hx).mono e⟩⟩
theorem fit_rb {n m : Nat} {r : RB} (h : RbOk n m r) : Fit n [5, m] (rbD r) := by
  have str : ∀ {l : List Str} {d : PyData}, (∀ x ∈ l, Gd n x) → d ∈ l.map PyData.str → Fit n [m] d := fun g hd => by
    obtain ⟨x, hx, rfl⟩ := List.mem_map.mp hd
    exact fit_str (g x hx)
  obtain ⟨hd, o⟩ := r
  cases o with
  | none => exact ⟨by rw [rbL, List.length_map]; exact Nat.le_trans h.head (by decide), fun d hd => str h.hg hd⟩
  | some q =>
    obtain ⟨cs, tl⟩ := q
    obtain ⟨a, b, c, d⟩ := h.cs cs tl rfl
    have hh := h.head
    refine ⟨?_, fun e he => ?_⟩
    · rw [rbL, List.length_append, List.length_cons, List.length_map, List.length_map]
      show hd.length + _ ≤ 5
      have hh : hd.length ≤ 2 := hh
      omega
    · rcases List.mem_append.mp he with he | he
      · exact str h.hg he
      · rcases List.mem_cons.mp he with rfl | he
        · exact fit_cols a b
        · exact str d he
theorem fit_rbs {n m M : Nat} {rs : List RB} (l : rs.length ≤ M) (h : ∀ r ∈ rs, RbOk n m r) : Fit n [M, 5, m] (rbsD rs) := by
  refine ⟨by rw [List.length_map]; exact l, fun d hd => ?_⟩
  obtain ⟨r, hr, rfl⟩ := List.mem_map.mp hd
  exact fit_rb (h r hr)
theorem noInt_rbs (rs : List RB) : noInt (rbsD rs) = true := by
  simp only [rbsD, noInt]
  refine noIntAll_of fun d hd => ?_
  obtain ⟨r, _, rfl⟩ := List.mem_map.mp hd
  unfold rbD
  simp only [noInt]
  exact noInt_rb r
def spBentRs (K : PySem.W.Frag) : Sp := fun vs H Q _ => ∃ (p : Addr) (v w : V) (ts : List Tab) (rs : List RB) (n mc mt N M L c : Nat), vs = [.ref p, v, w] ∧ Dp K H v (tabsD ts) ∧ TabsB n mc mt ts ∧ 7 ≤ n ∧ n ≤ 300 ∧ mc ≤ 100 ∧ mt ≤ 100 ∧
  Dp K H w (rbsD rs) ∧ (∀ r ∈ rs, RbOk N M r) ∧ 2 * n + 9 ≤ N ∧ mc + 1 ≤ M ∧ M ≤ 1000 ∧ rs.length ≤ L ∧ L ≤ 1000 ∧ Pu H p c ∧ c + 20 ≤ 1000000000 ∧
  ∀ (v' : V) (rs' : List RB) (H' : Hp) (c' : Nat), Dp K H' v' (rbsD rs') → (∀ r ∈ rs', RbOk N M r) → rs'.length ≤ L + 1 → Pu H' p c' → c' ≤ c + 20 → Off (fun a => a = p) H H' → Q v' H'
section
variable {P : Program} {w : World} {K : PySem.W.Frag} {mg : Str → Option Value} {base : Heap}
theorem scBentRs : FnScope ["purse", "tables_here", "rules_here", "spot", "found"] ["purse", "tables_here", "rules_here"] (defScope sBentRules) := ⟨rfl, rfl, rfl, by decide +kernel, rfl, by decide +kernel, by decide +kernel⟩
theorem ok_bentRs {f fC fB fD : Addr} {fd dC dB dD : FuncData} (F : FnP K "_law_bent_rules" sBentRules f fd) (FC : FnP K "_law_coin" sCoin fC dC) (bC : Binds K dC ["purse", "many"] []) (mC : mg "_law_coin" = some (.ref fC))
    (GB : FnOk P w K mg base CX0 3 fB dB ["purse", "tables_here"] (spBentR K)) (bB : Binds K dB ["purse", "tables_here"] []) (mB : mg "_law_bent_rule" = some (.ref fB)) (kB : PySem.W.keepIn K (.ref fB) = true)
    (GD : FnOk P w K mg base CX0 6 fD dD ["thing"] (spCopied K 6)) (bD : Binds K dD ["thing"] []) (mD : mg "_law_copied" = some (.ref fD)) (kD : PySem.W.keepIn K (.ref fD) = true) (mi : mg "int" = none) (ml : mg "len" = none) :
    FnOk P w K mg base CX0 7 f fd ["purse", "tables_here", "rules_here"] (spBentRs K) := by
  have GC : FnOk P w K mg base CX0 6 fC dC ["purse", "many"] spCoin := (ok_coin FC mi).mono (by decide)
  have GB6 : FnOk P w K mg base CX0 6 fB dB ["purse", "tables_here"] (spBentR K) := GB.mono (by decide)
  refine F.ok scBentRs (fun vs H Q E h => ?_) (fun cdv A outer s H vs Q E hr h => ?_)
  · obtain ⟨p, v, w, ts, rs, n, mc, mt, N, M, L, c, rfl, _⟩ := h
    rfl
  obtain ⟨p, v, w, ts, rs, n, mc, mt, N, M, L, c, rfl, hv, tb, n7, hn, hmc, hmt, hw, hrs, eN, eM, hM, lL, hL, hp, hc, q⟩ := h
  refine ⟨_, pss_cons (ps_set (i := 3) scBentRs.nd rfl (Or.inl rfl) (pe_call GC hr rfl mC FC.kp bC .nil pass0 (pa_cons (pv 0) (pa_cons (pe_op op_add (pe_callB call_len_seq rfl ml boot_len (pa_cons (pv 2) pa_nil)) pe_int) pa_nil))))
    (pss_cons (ps_set (i := 4) scBentRs.nd rfl (Or.inl rfl) (pe_call GD hr rfl mD kD bD .nil pass0 (pa_cons (pv 2) pa_nil)))
    (pss_one (ps_ret (pe_op op_cat (pe_op op_cat (pe_slice sl_list (pv 4) po_none (po_some (pv 3))) (pe_lst (pa_cons (pe_call GB6 hr rfl mB kB bB .nil pass0 (pa_cons (pv 0) (pa_cons (pv 1) pa_nil))) pa_nil))) (pe_slice sl_list (pv 4) (po_some (pv 3)) po_none))))), ?_⟩
  obtain ⟨aw, xw, rfl, qw, rw'⟩ : ∃ a xs, w = .ref a ∧ SqL K H a xs ∧ DpAll K H xs (rs.map rbD) := by
    cases hw with
    | lst h r => exact ⟨_, _, rfl, h, r⟩
  have lw : xw.length = rs.length := by rw [dpAll_length rw', List.length_map]
  refine ⟨_, rfl, _, rfl, aw, xw, rfl, .inl qw, _, _, rfl, rfl, p, (xw.length : Int) + 1, c, rfl, hp, by omega, by omega, by omega, fun spot H1 s0 s1 hp1 b1 => ?_⟩
  have hw1 := dp_but b1.off hp hw (noInt_rbs rs)
  refine ⟨_, rfl, .ref aw, rbsD rs, N, [L, 5, M], rfl, hw1, fit_rbs lL hrs, by simp; omega, (by show 3 < 6; decide), fun v2 F2 H2 o2 fr2 k2 => ?_⟩
  obtain ⟨xs0, ep1⟩ := id hp1.lst
  obtain ⟨D, xs, rfl, hD, nD⟩ : ∃ D xs, v2 = .ref D ∧ H2 D = some (.lst xs) ∧ H1 D = none := by
    cases o2 with
    | lst h r n e => exact ⟨_, _, rfl, h, fr2 _ ((e _).mpr (.inl rfl))⟩
  have pD : D ≠ p := fun z => by
    rw [z, ep1] at nD
    cases nD
  have hp2 : Pu H2 p (c + 1) := hp1.off k2 id
  have dD2 : Dp K H2 (.ref D) (rbsD rs) := o2.dp
  have dall : ∀ G, Off (fun a => a = p) H2 G → DpAll K G xs (rs.map rbD) := fun G k => by
    have d := dp_but k hp2 dD2 (noInt_rbs rs)
    cases d with
    | lst h r =>
      have hD' := k _ _ hD pD
      rcases h with (h | ⟨o, h⟩) | h
      · rw [hD'] at h
        cases h
        exact r
      · rw [hD'] at h
        cases h
      · cases o2 with
        | lst h2 r2 n2 e2 =>
          rw [hD] at h2
          cases h2
          have : DpAll K H2 xs (rs.map rbD) := r2.dp
          exact dpAll_but k hp2 this (by have z := noInt_rbs rs; simp only [rbsD, noInt] at z; exact z)
  have lx : xs.length = rs.length := by rw [dpAll_length (dall H2 (Off.refl _ _)), List.length_map]
  have k02 : Off (fun a => a = p) H H2 := b1.off.trans (k2.mono fun _ z => z.elim)
  refine ⟨_, rfl, _, rfl, _, rfl, D, xs, rfl, SqL.of hD, fun m1 n1 => ?_⟩
  have d1 : cutV xs none (some spot) = xs.take spot.toNat := cutV_head s0
  have d2 : cutV xs (some spot) none = xs.drop spot.toNat := cutV_tail s0
  have j1 : Off (fun _ => False) H2 (upd H2 m1 (.lst (cutV xs none (some spot)))) := Off.new n1
  have e1 := upd_same (H := H2) (a := m1) (o := .lst (cutV xs none (some spot)))
  have hq1 := hp2.off j1 id
  have m1p : m1 ≠ p := fun z => by
    obtain ⟨ys, e⟩ := hp2.lst
    rw [z, e] at n1
    cases n1
  generalize upd H2 m1 (.lst (cutV xs none (some spot))) = G1 at j1 e1 hq1 ⊢
  have j1' : Off (fun a => a = p) H2 G1 := j1.mono fun _ z => z.elim
  refine ⟨_, rfl, _, rfl, p, v, ts, n, mc, mt, c + 1, rfl, dp_but (k02.trans j1') hp hv (noInt_tabs ts), tb, n7, hn, hmc, hmt, hq1, by omega, fun rv rb G2 c2 drb okr hq2 hc2 kb => ⟨(by show 1 ≤ sizeLine; decide), fun m2 n2 => ?_⟩⟩
  have e1' := kb _ _ e1 m1p
  have hqp : ∃ ys, G2 p = some (.lst ys) := hq2.lst
  obtain ⟨ys, eyp⟩ := hqp
  refine ⟨m1, m2, _, _, rfl, rfl, (upd_ne (ne_of_none e1' n2)).trans e1', upd_same, ?_, fun m3 n3 => ?_⟩
  · rw [d1, List.length_take]
    show _ + 1 ≤ 16777216
    omega
  have g3 : Off (fun _ => False) G2 _ := (Off.new n2).trans (Off.new (o := .lst (cutV xs none (some spot) ++ [rv])) n3)
  have kD3 := (j1'.trans (kb.trans (g3.mono fun _ z => z.elim))) _ _ hD pD
  refine ⟨_, rfl, _, rfl, _, rfl, D, xs, rfl, SqL.of kD3, fun m4 n4 => ⟨m3, m4, _, _, rfl, rfl, (upd_ne (ne_of_none upd_same n4)).trans upd_same, upd_same, ?_, fun m5 n5 => ?_⟩⟩
  · rw [d1, d2, List.length_append, List.length_take, List.length_drop]
    show _ + 1 + _ ≤ 16777216
    omega
  have g5 : Off (fun _ => False) G2 _ := g3.trans ((Off.new n4).trans (Off.new (o := .lst ((cutV xs none (some spot) ++ [rv]) ++ cutV xs (some spot) none)) n5))
  have k25 := j1'.trans (kb.trans (g5.mono fun _ z => z.elim))
  have ed : (rs.take spot.toNat ++ [rb] ++ rs.drop spot.toNat).map rbD = ((rs.map rbD).take spot.toNat ++ [rbD rb]) ++ (rs.map rbD).drop spot.toNat := by
    rw [List.map_append, List.map_append, List.map_take, List.map_drop]
    rfl
  refine q (.ref m5) (rs.take spot.toNat ++ [rb] ++ rs.drop spot.toNat) _ c2 (.lst (SqL.of upd_same) ?_) (fun r hr => ?_) ?_ (hq2.off g5 id) (by omega) (k02.trans k25)
  · rw [ed, d1, d2]
    have da := dall _ k25
    rw [d1, d2] at da
    exact dpAll_append (dpAll_append (dpAll_take _ da) (.cons (by have z := dp_off g5 drb; rw [d1, d2] at z; exact z) .nil)) (dpAll_drop _ da)
  · rcases List.mem_append.mp hr with hr | hr
    · rcases List.mem_append.mp hr with hr | hr
      · exact hrs r (List.mem_of_mem_take hr)
      · rw [List.mem_singleton.mp hr]
        exact okr.mono eN eM
    · exact hrs r (List.mem_of_mem_drop hr)
  · rw [List.length_append, List.length_append, List.length_take, List.length_drop]
    show _ + 1 + _ ≤ _
    omega
end
end LW
set_option Elab.async false
set_option linter.all false
set_option maxRecDepth 100000
set_option maxHeartbeats 0
namespace LW
open PySem PySem.Spec PyProof.Rows L2 KV
/-! ### _law_wrong_rule -/
def tabOf (ts : List Tab) (x : Str) : Option Tab := ts.find? fun t => decide (t.1 = x)
/-- the first error of a rule -/
def wrong1 (ts : List Tab) : RB → Option (Str × PyData)
  | ([k, x], some (cs, tl)) =>
    if (k = "key" ∧ tl.length = 0) ∨ (k = "settles" ∧ tl.length = 1) then
      match tabOf ts x with
      | none => some ("UnknownTable", .str x)
      | some t => match (cs ++ tl).find? fun c => !decide (c ∈ t.2) with
        | none => none
        | some c => some ("UnknownColumn", .str c)
    else some ("InvalidRule", rbD ([k, x], some (cs, tl)))
  | r => some ("InvalidRule", rbD r)
def wrongs (ts : List Tab) : List RB → Option (Str × PyData)
  | [] => none
  | r :: rs => match wrong1 ts r with
    | some e => some e
    | none => wrongs ts rs
/-- a dict of the tables -/
inductive TitK (K : PySem.W.Frag) (H : Hp) : List (Key × V) → List Tab → Prop where
  | nil : TitK K H [] []
  | cons {kvs : List (Key × V)} {ts : List Tab} {t : Tab} {v : V} (h : Dp K H v (colsD t.2)) (r : TitK K H kvs ts) : TitK K H ((.inr t.1, v) :: kvs) (t :: ts)
theorem titK_off {K : PySem.W.Frag} {H H' : Hp} (k : Off (fun _ => False) H H') : ∀ {kvs : List (Key × V)} {ts : List Tab}, TitK K H kvs ts → TitK K H' kvs ts
  | _, _, .nil => .nil
  | _, _, .cons h r => .cons (dp_off k h) (titK_off k r)
theorem titK_at {K : PySem.W.Frag} {H : Hp} {x : Str} : ∀ {kvs : List (Key × V)} {ts : List Tab}, TitK K H kvs ts →
    (valV kvs (.inr x) = none ∧ tabOf ts x = none) ∨ ∃ v t, valV kvs (.inr x) = some v ∧ tabOf ts x = some t ∧ Dp K H v (colsD t.2)
  | _, _, .nil => .inl ⟨rfl, rfl⟩
  | _, _, .cons (t := t) (v := v) (kvs := kvs) (ts := ts) h r => by
    by_cases e : t.1 = x
    · refine .inr ⟨v, t, ?_, ?_, h⟩
      · simp [valV, List.find?_cons, e]
      · simp [tabOf, List.find?_cons, e]
    · have e1 : valV (((.inr t.1 : Key), v) :: kvs) (.inr x) = valV kvs (.inr x) := by simp [valV, List.find?_cons, e]
      have e2 : tabOf (t :: ts) x = tabOf ts x := by simp [tabOf, List.find?_cons, e]
      rw [e1, e2]
      exact titK_at r
def endR (K : PySem.W.Frag) (H : Hp) (Q : VK) : Option (Str × PyData) → Prop
  | none => ∀ H', Off (fun _ => False) H H' → Q .non H'
  | some (x, e) => ∀ t u H', SqT K H' t [.str x, u] → Dp K H' u e → Off (fun _ => False) H H' → Q (.ref t) H'
def spWrongR (K : PySem.W.Frag) : Sp := fun vs H Q _ => ∃ (d : Addr) (w : V) (kvs : List (Key × V)) (ts : List Tab) (rs : List RB) (N M : Nat), vs = [.ref d, w] ∧ H d = some (.dK kvs) ∧ TitK K H kvs ts ∧ (∀ t ∈ ts, t.2.length ≤ 1000) ∧
  Dp K H w (rbsD rs) ∧ (∀ r ∈ rs, RbOk N M r) ∧ M ≤ 1000 ∧ rs.length ≤ 1000 ∧ endR K H Q (wrongs ts rs)
theorem eqv_one (a b : Str) : PyData.eqv (.tuple [.str a]) (.tuple [.str b]) = (a == b) := by
  simp [PyData.eqv, PyData.eqvAll]
theorem shaped_one {x : Str} (h : Asc x) : SeqAt.shaped (.tuple [.str x]) = true := by
  have q := shaped_strs (xs := [x]) fun y hy => by rw [List.mem_singleton.mp hy]; exact h
  unfold SeqAt.shaped at q ⊢
  simpa [PyData.canLay0, PyData.depth] using q
theorem wrong1_not {ts : List Tab} {k x : Str} {cs tl : List Str} (h : ¬ ((k = "key" ∧ tl.length = 0) ∨ (k = "settles" ∧ tl.length = 1))) : wrong1 ts ([k, x], some (cs, tl)) = some (("InvalidRule" : Str), rbD ([k, x], some (cs, tl))) := by
  simp only [wrong1]
  rw [if_neg h]
theorem wrong1_yes {ts : List Tab} {k x : Str} {cs tl : List Str} (h : (k = "key" ∧ tl.length = 0) ∨ (k = "settles" ∧ tl.length = 1)) : wrong1 ts ([k, x], some (cs, tl)) =
    match tabOf ts x with
    | none => some (("UnknownTable" : Str), .str x)
    | some t => match (cs ++ tl).find? fun c => !decide (c ∈ t.2) with
      | none => none
      | some c => some (("UnknownColumn" : Str), .str c) := by
  simp only [wrong1]
  rw [if_pos h]
theorem inV_strs (c : Str) (l : List Str) : inV (.str c) (l.map V.str) = decide (c ∈ l) := by
  induction l with
  | nil => rfl
  | cons a l ih =>
    have e : inV (.str c) ((a :: l).map V.str) = ((a == c) || inV (.str c) (l.map V.str)) := rfl
    rw [e, ih]
    by_cases z : a = c
    · simp [z]
    · have z2 : ¬ c = a := fun y => z y.symm
      simp [z, z2]
theorem flat_strs (l : List Str) : (l.map V.str).all flatV = true := by
  induction l with
  | nil => rfl
  | cons a l ih => exact ih
theorem forms_tail {K : PySem.W.Frag} {σ : L2.St} {G : Hp} {sl : Addr} {ds : List PyData} {Q' : VK} (h : Dp K G (.ref sl) (.tuple ds)) (sh : SeqAt.shaped (.tuple ds) = true)
    (q : ∀ G', Off (fun _ => False) G G' → Q' (.bl (!(PyData.eqv (.tuple [.str "key"]) (.tuple ds) || PyData.eqv (.tuple [.str "settles"]) (.tuple ds)))) G') :
    tTup (tCons (tTup (tCons (tC (.str "key")) tNil)) (tCons (tTup (tCons (tC (.str "settles")) tNil)) tNil)) σ G fun y H2 => rInD K true (.ref sl) y H2 Q' := by
  refine ⟨by show 1 ≤ sizeLine; decide, fun t1 n1 => ⟨by show 1 ≤ sizeLine; decide, fun t2 n2 => ⟨by show 2 ≤ sizeLine; decide, fun t3 n3 => ?_⟩⟩⟩
  have k1 : Off (fun _ => False) G (upd G t1 (.tup [.str "key"])) := Off.new n1
  have k2 := k1.trans (Off.new (o := .tup [.str "settles"]) n2)
  have k3 := k2.trans (Off.new (o := .tup [.ref t1, .ref t2]) n3)
  have e2 : (upd (upd G t1 (.tup [.str "key"])) t2 (.tup [.str "settles"])) t1 = some (.tup [.str "key"]) := (upd_ne (ne_of_none upd_same n2)).trans upd_same
  have e3 := (upd_ne (o := .tup [.ref t1, .ref t2]) (ne_of_none e2 n3)).trans e2
  have f2 : (upd (upd G t1 (.tup [.str "key"])) t2 (.tup [.str "settles"])) t2 = some (.tup [.str "settles"]) := upd_same
  have f3 := (upd_ne (o := .tup [.ref t1, .ref t2]) (ne_of_none f2 n3)).trans f2
  refine ⟨t3, [.ref t1, .ref t2], [.tuple [.str "key"], .tuple [.str "settles"]], .tuple ds, rfl, .inr (SqT.of upd_same), .cons (.tup (SqT.of e3) (.cons (.str _) .nil)) (.cons (.tup (SqT.of f3) (.cons (.str _) .nil)) .nil),
    dp_off k3 h, ?_, sh, ?_⟩
  · have all : ∀ e ∈ ([.tuple [.str "key"], .tuple [.str "settles"]] : List PyData), SeqAt.shaped e = true := by decide +kernel
    exact all
  · have z := q _ k3
    simpa using z
section
variable {P : Program} {w : World} {K : PySem.W.Frag} {mg : Str → Option Value} {base : Heap}
theorem scWrongR : FnScope ["titles", "rules_here", "rule", "strays", "place"] ["titles", "rules_here"] (defScope sWrongRule) := ⟨rfl, rfl, rfl, by decide +kernel, rfl, by decide +kernel, by decide +kernel⟩
theorem ok_wrongR {f : Addr} {fd : FuncData} (F : FnP K "_law_wrong_rule" sWrongRule f fd) (ml : mg "len" = none) (mL : mg "list" = none) :
    FnOk P w K mg base CX0 2 f fd ["titles", "rules_here"] (spWrongR K) := by
  refine F.ok scWrongR (fun vs H Q E h => ?_) (fun cdv A outer s H vs Q E hr h => ?_)
  · obtain ⟨d, v, kvs, ts, rs, N, M, rfl, _⟩ := h
    rfl
  obtain ⟨d, v, kvs, ts, rs, N, M, rfl, hd, tk, tl, hv, hrs, hM, lr, q⟩ := h
  have hu1 : (A.deeper (envOfC "_law_wrong_rule" (defScope sWrongRule) s.heap.objs.size f cdv)).units + 1 < cLine := by
    have := hr.un
    omega
  have hu65 : (A.deeper (envOfC "_law_wrong_rule" (defScope sWrongRule) s.heap.objs.size f cdv)).units + 65 < cLine := by
    have := hr.un
    omega
  have hu64 : (A.deeper (envOfC "_law_wrong_rule" (defScope sWrongRule) s.heap.objs.size f cdv)).units + 64 < cLine := by
    have := hr.un
    omega
  refine ⟨_, PSs.nox (pss_cons (ps_for PassesOwn.never rfl (pi_list (pv 1)) (pg_name (i := 2) scWrongR.nd rfl (Or.inr rfl))
      (pss_cons (ps_if (PW.pt (pw_or (pt_cmpR (op_notInD hu65) (pe_slice sl_tupW (pv 2) po_none (po_some pe_int)) (pe_tup (pa_cons (pe_tup (pa_cons pe_str pa_nil)) (pa_cons (pe_tup (pa_cons pe_str pa_nil)) pa_nil))) rfl)
          (pw_or1 (pt_cmpR op_ne (pe_callB call_len_seq rfl ml boot_len (pa_cons (pv 2) pa_nil)) (pe_ifExp (pt_cmpR op_eq (pe_ix ix_tup (pv 2) pe_int (fun _ _ => rfl)) pe_str (nomark _)) pe_int pe_int) (nomark _)))))
        (pss_one (ps_ret (pe_tup (pa_cons pe_str (pa_cons (pv 2) pa_nil))))) pss_nil)
      (pss_cons (ps_if (pt_cmp (pc_dnotin hu1 (pe_ix ix_tup (pv 2) pe_int (fun _ _ => rfl)) (pv 0)))
        (pss_one (ps_ret (pe_tup (pa_cons pe_str (pa_cons (pe_ix ix_tup (pv 2) pe_int (fun _ _ => rfl)) pa_nil))))) pss_nil)
      (pss_cons (ps_setLc (i := 3) (own := [("place", 4)]) (g := gName 4) (tt := tTest (tOp (rIn K true) (tVar 4) (tDGet (tVar 0) (tOp (rIxT K) (tVar 2) (tC (.int 1)))))) rfl scWrongR.nd rfl rfl rfl (pi_list (pe_op op_catS (pe_ix ix_tup (pv 2) pe_int (fun _ _ => rfl)) (pe_callTy call_list_of rfl mL boot_list (pa_cons (pe_slice sl_tupW (pv 2) (po_some pe_int) po_none) pa_nil))))
          (blkOk_by (own := [("place", 4)]) (N := ["titles", "rules_here", "rule", "strays", "place"]) (sc := defScope sWrongRule) (by decide +kernel))
          (fun _ _ _ _ _ => pg_name (i := 4) scWrongR.nd rfl (Or.inl rfl)) (fun _ _ _ _ _ => pts_one (pt_cmpR op_notIn_seq (pv 4) (pe_dget hu1 (pv 0) (pe_ix ix_tup (pv 2) pe_int (fun _ _ => rfl)) (fun _ _ => rfl)) rfl))
          (fun _ _ _ _ _ => pv 4))
      (pss_one (ps_if (pt_cmpR (op_neD hu64) (pv 3) (pe_lst pa_nil) (nomark _)) (pss_one (ps_ret (pe_tup (pa_cons pe_str (pa_cons (pe_ix ix_list (pv 3) pe_int (fun _ _ => rfl)) pa_nil))))) pss_nil))))))
    (pss_one (ps_ret pe_non))), ?_⟩
  obtain ⟨aw, xw, rfl, qw, rw'⟩ : ∃ a xs, v = .ref a ∧ SqL K H a xs ∧ DpAll K H xs (rs.map rbD) := by
    cases hv with
    | lst h r => exact ⟨_, _, rfl, h, r⟩
  have lw : xw.length = rs.length := by rw [dpAll_length rw', List.length_map]
  refine ⟨_, rfl, aw, rfl, ⟨_, qw⟩, for_list (K := K) (a := aw) (xs := xw) (fun i σ H' => ∃ w2 w3 w4, σ = [some (.ref d), some (.ref aw), w2, w3, w4] ∧ Off (fun _ => False) H H' ∧ wrongs ts rs = wrongs ts (rs.drop i))
    ⟨none, none, none, rfl, Off.refl _ _, rfl⟩ (fun i σ H' _ g => ?_) (fun i x σ H' hx g => ?_) fun σ H' g => ?_⟩
  · obtain ⟨_, _, _, _, k, _⟩ := g
    exact sqL_off k qw
  · obtain ⟨w2, w3, w4, rfl, k, eq⟩ := g
    obtain ⟨dr, edr, hdr⟩ := dpAll_at rw' hx
    rw [List.getElem?_map] at edr
    obtain ⟨r, er, rfl⟩ := Option.map_eq_some_iff.mp edr
    have hi : i < rs.length := (List.getElem?_eq_some_iff.mp er).1
    have edrop : rs.drop i = r :: rs.drop (i + 1) := by
      rw [List.drop_eq_getElem_cons hi]
      congr 1
      exact (List.getElem?_eq_some_iff.mp er).2
    have ok := hrs r (List.mem_of_getElem? er)
    obtain ⟨ra, vs, rfl, sq, da⟩ : ∃ a vs, x = .ref a ∧ SqT K H a vs ∧ DpAll K H vs (rbL r) := by
      cases hdr with
      | tup h r => exact ⟨_, _, rfl, h, r⟩
    have qe : ∀ y e, wrong1 ts r = some (y, e) → ∀ t u G, SqT K G t [.str y, u] → Dp K G u e → Off (fun _ => False) H G → Q (.ref t) G := by
      intro y e h1
      have h2 : wrongs ts rs = some (y, e) := by
        rw [eq, edrop]
        unfold wrongs
        rw [h1]
      rw [h2] at q
      exact q
    have qn : wrong1 ts r = none → wrongs ts rs = wrongs ts (rs.drop (i + 1)) := by
      intro h1
      rw [eq, edrop]
      show wrongs ts (r :: rs.drop (i + 1)) = _
      rw [wrongs, h1]
    have inv : ∀ {G : Hp}, wrong1 ts r = some (("InvalidRule" : Str), rbD r) → Off (fun _ => False) H G → ∀ t, G t = none → Q (.ref t) (upd G t (.tup [.str "InvalidRule", .ref ra])) := by
      intro G h1 kG t ht
      have k2 : Off (fun _ => False) H (upd G t (.tup [.str "InvalidRule", .ref ra])) := kG.trans (Off.new ht)
      exact qe _ _ h1 t _ _ (SqT.of upd_same) (dp_off k2 (.tup sq da)) k2
    have no : ¬ False := fun z => z
    obtain ⟨hdl, o⟩ := r
    have hl2 : hdl.length ≤ 2 := ok.head
    have ret : ∀ {G : Hp}, wrong1 ts (hdl, o) = some (("InvalidRule" : Str), rbD (hdl, o)) → Off (fun _ => False) H G → True := fun _ _ => trivial
    rcases o with _ | ⟨cs, tl'⟩
    · rcases hdl with _ | ⟨x0, hdl⟩
      · -- no thing
        have ev : vs = [] := by cases da; rfl
        subst ev
        refine ⟨_, rfl, _, rfl, ra, [], rfl, sqT_off k sq, fun c => (c ⟨rfl, rfl⟩).elim, fun _ => ?_⟩
        refine forms_tail (K := K) (ds := []) (.tup (sqT_off k sq) .nil) (by decide +kernel) fun G kG => ?_
        have b : (!(PyData.eqv (.tuple [.str "key"]) (.tuple []) || PyData.eqv (.tuple [.str "settles"]) (.tuple []))) = true := by decide +kernel
        rw [b]
        refine ⟨_, rfl, iteT (iteT ⟨_, rfl, (by show 2 ≤ sizeLine; decide), fun t nt => ?_⟩)⟩
        exact inv rfl (k.trans kG) t nt
      · rcases hdl with _ | ⟨y0, hdl⟩
        · -- one text
          obtain ⟨rfl⟩ : vs = [.str x0] := by
            cases da with
            | cons h r => cases h; cases r; rfl
          refine ⟨_, rfl, _, rfl, ra, [.str x0], rfl, sqT_off k sq, fun c => (c ⟨rfl, rfl⟩).elim, fun _ => ?_⟩
          refine forms_tail (K := K) (ds := [.str x0]) (.tup (sqT_off k sq) (.cons (.str _) .nil)) (shaped_one (ok.hg x0 (by simp)).1) fun G kG => ?_
          have kG0 := k.trans kG
          rw [eqv_one, eqv_one]
          refine ⟨_, rfl, ?_⟩
          by_cases kk : (("key" : Str) == x0 || ("settles" : Str) == x0) = true
          rw [kk]
          refine iteF ⟨_, rfl, ra, _, rfl, .inr (sqT_off kG0 sq), _, rfl, ra, _, 0, _, rfl, rfl, sqT_off kG0 sq, rfl, rfl, _, rfl, ite2 (fun c => ⟨rfl, _, rfl, ?_⟩) (fun c => ⟨rfl, _, rfl, ?_⟩)⟩
          rotate_left 2
          rw [Bool.eq_false_iff.mpr kk]
          refine iteT (iteT ?_)
          rotate_left
          refine ite2 (fun _ => ?_) (fun z => (z (by rw [decide_eq_false (fun y => by cases y)]; rfl)).elim)
          rotate_left
          refine ite2 (fun _ => ?_) (fun z => (z (by rw [decide_eq_false (fun y => by cases y)]; rfl)).elim)
          all_goals
            refine ⟨_, rfl, (by show 2 ≤ sizeLine; decide), fun t nt => ?_⟩
            exact inv rfl kG0 t nt
        · -- two texts
          obtain rfl : hdl = [] := by
            cases hdl with
            | nil => rfl
            | cons _ _ => simp at hl2
          obtain ⟨rfl⟩ : vs = [.str x0, .str y0] := by
            cases da with
            | cons h r =>
              cases h
              cases r with
              | cons h r =>
                cases h
                cases r
                rfl
          refine ⟨_, rfl, _, rfl, ra, [.str x0, .str y0], rfl, sqT_off k sq, fun _ p hp => ?_, fun c => absurd c.2 (by show ¬ HT.sIx 2 2 (some 1) = 2; decide)⟩
          have kp : Off (fun _ => False) H (upd H' p (.tup [.str x0])) := k.trans (Off.new hp)
          refine forms_tail (K := K) (ds := [.str x0]) (.tup (SqT.of upd_same) (.cons (.str _) .nil)) (shaped_one (ok.hg x0 (by simp)).1) fun G kG => ?_
          have kG0 := kp.trans kG
          rw [eqv_one, eqv_one]
          refine ⟨_, rfl, ?_⟩
          by_cases kk : (("key" : Str) == x0 || ("settles" : Str) == x0) = true
          rw [kk]
          refine iteF ⟨_, rfl, ra, _, rfl, .inr (sqT_off kG0 sq), _, rfl, ra, _, 0, _, rfl, rfl, sqT_off kG0 sq, rfl, rfl, _, rfl, ite2 (fun c => ⟨rfl, _, rfl, ?_⟩) (fun c => ⟨rfl, _, rfl, ?_⟩)⟩
          rotate_left 2
          rw [Bool.eq_false_iff.mpr kk]
          refine iteT (iteT ?_)
          rotate_left
          refine ite2 (fun _ => ?_) (fun z => (z (by rw [decide_eq_false (fun y => by cases y)]; rfl)).elim)
          rotate_left
          refine ite2 (fun _ => ?_) (fun z => (z (by rw [decide_eq_false (fun y => by cases y)]; rfl)).elim)
          all_goals
            refine ⟨_, rfl, (by show 2 ≤ sizeLine; decide), fun t nt => ?_⟩
            exact inv rfl kG0 t nt
    · -- with a list of texts
      have two : hdl.length = 2 := ok.two (by simp)
      obtain ⟨x0, y0, rfl⟩ : ∃ x y, hdl = [x, y] := by
        match hdl, two with
        | [x, y], _ => exact ⟨x, y, rfl⟩
      obtain ⟨lc, gc, lt, gt⟩ := ok.cs cs tl' rfl
      obtain ⟨ca, rfl, dc⟩ : ∃ ca, vs = .str x0 :: .str y0 :: .ref ca :: tl'.map V.str ∧ Dp K H (.ref ca) (colsD cs) := by
        cases da with
        | cons h r =>
          cases h
          cases r with
          | cons h r =>
            cases h
            cases r with
            | cons h r =>
              obtain ⟨ca, rfl, _⟩ := dp_cols h
              exact ⟨ca, by rw [dpAll_strs r], h⟩
      have lv : (V.str x0 :: V.str y0 :: V.ref ca :: tl'.map V.str).length = 3 + tl'.length := by
        simp
        omega
      have hs1 : HT.sIx (3 + tl'.length) (3 + tl'.length) (some 1) = 1 := by
        simp [HT.sIx]
        omega
      refine ⟨_, rfl, _, rfl, ra, _, rfl, sqT_off k sq, fun _ p hp => ?_, fun c => by rw [lv, hs1] at c; omega⟩
      have ecut : cutV (V.str x0 :: V.str y0 :: V.ref ca :: tl'.map V.str) none (some 1) = [.str x0] := by
        rw [cutV_head (by decide)]
        rfl
      rw [ecut]
      have kp : Off (fun _ => False) H (upd H' p (.tup [.str x0])) := k.trans (Off.new hp)
      refine forms_tail (K := K) (ds := [.str x0]) (.tup (SqT.of upd_same) (.cons (.str _) .nil)) (shaped_one (ok.hg x0 (by simp)).1) fun G kG => ?_
      have kG0 := kp.trans kG
      rw [eqv_one, eqv_one]
      refine ⟨_, rfl, ?_⟩
      by_cases kk : (("key" : Str) == x0 || ("settles" : Str) == x0) = true
      rotate_left
      · rw [Bool.eq_false_iff.mpr kk]
        refine iteT (iteT ⟨_, rfl, (by show 2 ≤ sizeLine; decide), fun t nt => ?_⟩)
        refine inv (wrong1_not fun z => kk ?_) kG0 t nt
        rcases z with ⟨z, _⟩ | ⟨z, _⟩
        · rw [z]
          decide +kernel
        · rw [z]
          decide +kernel
      rw [kk]
      have sG := sqT_off kG0 sq
      have at0 : atI (V.str x0 :: V.str y0 :: V.ref ca :: tl'.map V.str) 0 = some (V.str x0) := atI_nat (j := 0) rfl
      have at1 : atI (V.str x0 :: V.str y0 :: V.ref ca :: tl'.map V.str) 1 = some (V.str y0) := atI_nat (j := 1) rfl
      have at2 : atI (V.str x0 :: V.str y0 :: V.ref ca :: tl'.map V.str) 2 = some (V.ref ca) := atI_nat (j := 2) rfl
      refine iteF ⟨_, rfl, ra, _, rfl, .inr sG, _, rfl, ra, _, 0, _, rfl, rfl, sG, at0, rfl, _, rfl, ite2 (fun c => ⟨rfl, _, rfl, ?_⟩) (fun c => ⟨rfl, _, rfl, ?_⟩)⟩
      have ek : x0 = "key" := V.str.inj (of_decide_eq_true c)
      by_cases l0 : tl'.length = 0
      rotate_left
      · refine ite2 (fun _ => ⟨_, rfl, (by show 2 ≤ sizeLine; decide), fun t nt => ?_⟩) (fun z => (z ?_).elim)
        · refine inv (wrong1_not fun z => ?_) kG0 t nt
          rcases z with ⟨_, z⟩ | ⟨z, _⟩
          · exact l0 z
          · rw [ek] at z
            exact absurd z (by decide +kernel)
        · rw [lv, decide_eq_false fun y => l0 (by have := V.int.inj y; omega)]
          rfl
      have es : x0 = "settles" := by
        rw [Bool.or_eq_true] at kk
        rcases kk with z | z
        · exact (c (decide_eq_true (by rw [eq_of_beq z]))).elim
        · exact (eq_of_beq z).symm
      by_cases l1 : tl'.length = 1
      rotate_left
      · refine ite2 (fun _ => ⟨_, rfl, (by show 2 ≤ sizeLine; decide), fun t nt => ?_⟩) (fun z => (z ?_).elim)
        · refine inv (wrong1_not fun z => ?_) kG0 t nt
          rcases z with ⟨z, _⟩ | ⟨_, z⟩
          · rw [es] at z
            exact absurd z (by decide +kernel)
          · exact l1 z
        · rw [lv, decide_eq_false fun y => l1 (by have := V.int.inj y; omega)]
          rfl
      rw [lv, decide_eq_true (show V.int ((3 + tl'.length : Nat) : Int) = V.int 3 by rw [l0]; rfl)]
      have form : (x0 = "key" ∧ tl'.length = 0) ∨ (x0 = "settles" ∧ tl'.length = 1) := .inl ⟨ek, l0⟩
      refine iteF ?_
      rotate_left
      rw [lv, decide_eq_true (show V.int ((3 + tl'.length : Nat) : Int) = V.int 4 by rw [l1]; rfl)]
      have form : (x0 = "key" ∧ tl'.length = 0) ∨ (x0 = "settles" ∧ tl'.length = 1) := .inr ⟨es, l1⟩
      refine iteF ?_
      all_goals
        have w1 := wrong1_yes (ts := ts) (x := y0) (cs := cs) form
        have dG : G d = some (.dK kvs) := kG0 _ _ hd no
        refine ⟨_, rfl, ra, _, 1, _, rfl, rfl, sG, at1, _, rfl, d, _, rfl, DGet.k (k := .inr y0) dG, _, rfl, ?_⟩
        rcases titK_at (x := y0) (titK_off kG0 tk) with ⟨v1, v2⟩ | ⟨v, t, v1, v2, v3⟩
        · rw [v1]
          refine iteT ⟨_, rfl, ra, _, 1, _, rfl, rfl, sG, at1, (by show 2 ≤ sizeLine; decide), fun tt nt => ?_⟩
          rw [v2] at w1
          exact qe _ _ w1 tt _ _ (SqT.of upd_same) (.str _) (kG0.trans (Off.new nt))
        rw [v1]
        refine iteF ?_
        rw [v2] at w1
        obtain ⟨va, rfl, _⟩ := dp_cols v3
        have lt2 := tl t (List.mem_of_find?_eq_some v2)
        refine ⟨_, rfl, ra, _, 2, _, rfl, rfl, sG, at2, _, rfl, _, rfl, ra, _, rfl, sG, fun _ p3 hp3 => ?_, fun c => by rw [lv] at c; simp [HT.sIx] at c⟩
        have ecut3 : cutV (V.str x0 :: V.str y0 :: V.ref ca :: tl'.map V.str) (some 3) none = tl'.map V.str := by
          rw [cutV_tail (by decide)]
          rfl
        rw [ecut3]
        have j1 : Off (fun _ => False) H (upd G p3 (.tup (tl'.map V.str))) := kG0.trans (Off.new hp3)
        refine ⟨p3, _, rfl, .inr (SqT.of upd_same), fun l hl => ?_⟩
        have j2 := j1.trans (Off.new (o := .lst (tl'.map V.str)) hl)
        refine ⟨ca, l, _, _, rfl, rfl, dp_cols_ref (dp_off j2 dc), SqL.of upd_same, by rw [List.length_map, List.length_map]; show _ ≤ 16777216; omega, fun m hm => ?_⟩
        have j3 := j2.trans (Off.new (o := .lst (cs.map V.str ++ tl'.map V.str)) hm)
        have em := upd_same (H := upd (upd G p3 (.tup (tl'.map V.str))) l (.lst (tl'.map V.str))) (a := m) (o := .lst (cs.map V.str ++ tl'.map V.str))
        generalize upd (upd (upd G p3 (.tup (tl'.map V.str))) l (.lst (tl'.map V.str))) m (.lst (cs.map V.str ++ tl'.map V.str)) = Gm at j3 em ⊢
        have eap : cs.map V.str ++ tl'.map V.str = (cs ++ tl').map V.str := List.map_append.symm
        rw [eap] at em
        have jm : Off (fun _ => False) G Gm → True := fun _ => trivial
        refine ⟨m, rfl, ⟨_, SqL.of em⟩, fun D hD => lc_list (K := K) (a := m) (xs := (cs ++ tl').map V.str)
          (fun j G' => G' D = some (.lst ((((cs ++ tl').take j).filter fun c => !decide (c ∈ t.2)).map V.str)) ∧ Off (fun _ => False) Gm G') ⟨upd_same, Off.new hD⟩ (fun j G' _ g => SqL.of (g.2 _ _ em no)) (fun j x G' hx g => ?_) fun G' g => ?_⟩
        · obtain ⟨g1, g2⟩ := g
          rw [List.getElem?_map] at hx
          obtain ⟨c, hc, rfl⟩ := Option.map_eq_some_iff.mp hx
          have kg := j3.trans g2
          have sg := sqT_off kg sq
          have dg : G' d = some (.dK kvs) := kg _ _ hd no
          have dva : Dp K G' (.ref va) (colsD t.2) := by
            rcases titK_at (x := y0) (titK_off kg tk) with ⟨u1, u2⟩ | ⟨v', t', u1, u2, u3⟩
            · rw [v2] at u2
              cases u2
            · rw [v1] at u1
              rw [v2] at u2
              cases u1
              cases u2
              exact u3
          refine ⟨rfl, Exists.intro _ ⟨rfl, Exists.intro _ ⟨rfl, Exists.intro _ ⟨rfl, ra, _, 1, _, rfl, rfl, sg, at1, d, .ref va, rfl, by rw [← v1]; exact DGet.k (k := .inr y0) dg, va, t.2.map V.str, rfl, .inl (dp_cols_ref dva), rfl, flat_strs _, _, rfl, ?_⟩⟩⟩⟩
          rw [if_pos rfl, inV_strs, List.take_add_one, hc, List.filter_append]
          have lf : (((cs ++ tl').take j).filter fun c => !decide (c ∈ t.2)).length ≤ 1002 := Nat.le_trans (List.length_filter_le _ _) (by rw [List.length_take, List.length_append]; omega)
          refine ite2 (fun b => ?_) (fun b => ?_)
          · refine ⟨_, rfl, _, g1, by rw [List.length_map]; exact Nat.lt_of_le_of_lt lf (by decide), ?_, fun q o eq' nq => by
              rw [upd_ne (fun z => by rw [z, hD] at eq'; cases eq')]
              exact g2 q o eq' nq⟩
            rw [upd_same]
            have : List.filter (fun c => !decide (c ∈ t.2)) (some c).toList = [c] := by simp only [Option.toList, List.filter_cons, b]; rfl
            rw [this, List.map_append]
            rfl
          · have : List.filter (fun c => !decide (c ∈ t.2)) (some c).toList = [] := by
              simp only [Option.toList, List.filter_cons]
              rw [if_neg b]
              rfl
            rw [this, List.append_nil]
            exact ⟨g1, g2⟩
        · obtain ⟨g1, g2⟩ := g
          rw [List.length_map, List.take_length] at g1
          have kg := j3.trans g2
          obtain ⟨S, hS⟩ : ∃ S, S = (cs ++ tl').filter fun c => !decide (c ∈ t.2) := ⟨_, rfl⟩
          rw [← hS] at g1
          have hf : (cs ++ tl').find? (fun c => !decide (c ∈ t.2)) = S.head? := by rw [hS, List.head?_filter]
          dsimp only at w1
          rw [hf] at w1
          have aS : ∀ x ∈ S, Asc x := fun x hx => by
            rw [hS] at hx
            rcases List.mem_append.mp (List.mem_filter.mp hx).1 with z | z
            · exact (gc x z).1
            · exact (gt x z).1
          refine ⟨_, rfl, by decide, fun D2 hD2 => ?_⟩
          have k2 : Off (fun _ => False) G' (upd G' D2 (.lst [])) := Off.new hD2
          refine ⟨.list (S.map PyData.str), .list [], .lst (SqL.of (k2 _ _ g1 no)) (dp_strs S), .lst (SqL.of upd_same) .nil, shaped_strs aS, by decide +kernel, _, rfl, ?_⟩
          rw [eqv_nil]
          cases hS2 : S with
          | nil =>
            rw [hS2] at w1
            refine iteF ⟨_, _, _, rfl, kg.trans k2, qn w1⟩
          | cons c rest =>
            rw [hS2] at w1 g1
            refine iteT ⟨_, rfl, D, _, 0, _, rfl, rfl, SqL.of (k2 _ _ g1 no), atI_nat (j := 0) rfl, (by show 2 ≤ sizeLine; decide), fun tt nt => ?_⟩
            exact qe _ _ w1 tt _ _ (SqT.of upd_same) (.str _) ((kg.trans k2).trans (Off.new nt))
  · obtain ⟨w2, w3, w4, rfl, k, eq⟩ := g
    rw [lw, List.drop_length] at eq
    rw [eq] at q
    exact q H' k
end
end LW
set_option Elab.async false
set_option linter.all false
set_option maxRecDepth 100000
set_option maxHeartbeats 0
namespace LW
open PySem PySem.Spec PyProof.Rows L2 KV
/-- a loop over enumerate of a list -/
theorem for_enum {K : PySem.W.Frag} {a : Addr} {xs : List V} {g : TG} {tb : TS} {D : Ends} {σ : L2.St} {H : Hp} (Pv : Nat → L2.St → Hp → Prop) (h0 : Pv 0 σ H) (hl : ∀ i σ H, i ≤ xs.length → Pv i σ H → SqL K H a xs)
    (hs : ∀ i x σ H T, xs[i]? = some x → Pv i σ H → H T = none → g (.ref T) σ (upd H T (.tup [.int (i : Nat), x])) fun σ2 H2 => tb { D with nx := Pv (i + 1), ct := Pv (i + 1), bk := D.nx } σ2 H2) (hd : ∀ σ H, Pv xs.length σ H → D.nx σ H) :
    ∃ W : Nat → Nat → L2.St → Hp → Prop, (∃ m, W 0 m σ H) ∧ ∀ i m σ H, W i m σ H →
      ((Ite K a).stop i H ∧ D.nx σ H) ∨ ((Ite K a).go i H ∧ ∃ N : L2.St → Hp → Prop, (∀ σ' H', N σ' H' → ∃ m', m' < m ∧ W (i + 1) m' σ' H') ∧ ∀ x H', (Ite K a).yld i H x H' → g x σ H' fun σ2 H2 => tb { D with nx := N, ct := N, bk := D.nx } σ2 H2) := by
  refine ⟨fun i m σ H => m = xs.length - i ∧ i ≤ xs.length ∧ Pv i σ H, ⟨xs.length, by simp, Nat.zero_le _, h0⟩, ?_⟩
  rintro i m σ H ⟨rfl, hi, p⟩
  have q := hl i σ H hi p
  by_cases hlt : i < xs.length
  · refine .inr ⟨⟨xs, xs[i], q, by simp [hlt]⟩, Pv (i + 1), fun σ' H' p' => ⟨xs.length - (i + 1), by omega, rfl, hlt, p'⟩, fun x H' y => ?_⟩
    obtain ⟨T, x', rfl, hT, rfl, y⟩ := y
    exact hs i x' σ _ T (y xs q) p hT
  · have e : i = xs.length := by omega
    subst e
    exact .inl ⟨⟨xs, q, Nat.le_refl _⟩, hd σ H p⟩
/-- at p: neither a list nor a tuple -/
def NoSq (H : Hp) (p : Addr) : Prop := (∀ xs, ¬ Rd H p (.lst xs)) ∧ ∀ xs, ¬ Rd H p (.tup xs)
theorem NoSq.dK {H : Hp} {p : Addr} {kvs : List (Key × V)} (h : H p = some (.dK kvs)) : NoSq H p := by
  refine ⟨fun xs z => ?_, fun xs z => ?_⟩ <;>
  · rcases z with z | ⟨o, z⟩ <;> rw [h] at z <;> cases z
section
variable {K : PySem.W.Frag} {H H' : Hp} {p : Addr}
theorem sqL_in {a : Addr} {xs : List V} (k : Off (fun a => a = p) H H') (n : NoSq H p) (h : SqL K H a xs) : SqL K H' a xs := by
  rcases h with h | h
  · have z : a ≠ p := fun z => n.1 xs (z ▸ h)
    rcases h with h | ⟨o, h⟩
    · exact .inl (.inl (k _ _ h z))
    · exact .inl (.inr ⟨o, k _ _ h z⟩)
  · exact .inr h
theorem sqT_in {a : Addr} {xs : List V} (k : Off (fun a => a = p) H H') (n : NoSq H p) (h : SqT K H a xs) : SqT K H' a xs := by
  rcases h with h | h
  · have z : a ≠ p := fun z => n.2 xs (z ▸ h)
    rcases h with h | ⟨o, h⟩
    · exact .inl (.inl (k _ _ h z))
    · exact .inl (.inr ⟨o, k _ _ h z⟩)
  · exact .inr h
mutual
theorem dp_in (k : Off (fun a => a = p) H H') (n : NoSq H p) : ∀ {v : V} {d : PyData}, Dp K H v d → Dp K H' v d
  | _, _, .non => .non
  | _, _, .bl b => .bl b
  | _, _, .int i => .int i
  | _, _, .str x => .str x
  | _, _, .lst h r => .lst (sqL_in k n h) (dpAll_in k n r)
  | _, _, .tup h r => .tup (sqT_in k n h) (dpAll_in k n r)
theorem dpAll_in (k : Off (fun a => a = p) H H') (n : NoSq H p) : ∀ {vs : List V} {ds : List PyData}, DpAll K H vs ds → DpAll K H' vs ds
  | _, _, .nil => .nil
  | _, _, .cons h r => .cons (dp_in k n h) (dpAll_in k n r)
end
theorem titK_in (k : Off (fun a => a = p) H H') (n : NoSq H p) : ∀ {kvs : List (Key × V)} {ts : List Tab}, TitK K H kvs ts → TitK K H' kvs ts
  | _, _, .nil => .nil
  | _, _, .cons h r => .cons (dp_in k n h) (titK_in k n r)
theorem titK_snoc {t : Tab} {v : V} (h : Dp K H v (colsD t.2)) : ∀ {kvs : List (Key × V)} {ts : List Tab}, TitK K H kvs ts → TitK K H (kvs ++ [(.inr t.1, v)]) (ts ++ [t])
  | _, _, .nil => .cons h .nil
  | _, _, .cons h0 r => .cons h0 (titK_snoc h r)
theorem titK_len : ∀ {kvs : List (Key × V)} {ts : List Tab}, TitK K H kvs ts → kvs.length = ts.length
  | _, _, .nil => rfl
  | _, _, .cons _ r => congrArg Nat.succ (titK_len r)
end
theorem tabOf_none {ts : List Tab} {x : Str} (h : tabOf ts x = none) : x ∉ ts.map Prod.fst := by
  unfold tabOf at h
  intro z
  obtain ⟨t, ht, e⟩ := List.mem_map.mp z
  have q := List.find?_eq_none.mp h t ht
  exact q (decide_eq_true e)
theorem tabOf_some {ts : List Tab} {x : Str} {t : Tab} (h : tabOf ts x = some t) : x ∈ ts.map Prod.fst := by
  unfold tabOf at h
  have m := List.mem_of_find?_eq_some h
  have e := List.find?_some h
  exact List.mem_map.mpr ⟨t, m, of_decide_eq_true e⟩
/-! ### _law_wrong_book -/
def wrongCols : List Str → List Str → Option (Str × PyData)
  | _, [] => none
  | b, c :: cs => if isT c = false then some ("InvalidName", .str c) else if c ∈ b then some ("DoubleName", .str c) else wrongCols (b ++ [c]) cs
def wrongTabs : List Str → List Tab → Option (Str × PyData)
  | _, [] => none
  | b, t :: ts => if isT t.1 = false then some ("InvalidName", .str t.1) else if t.1 ∈ b then some ("DoubleName", .str t.1) else match wrongCols [] t.2 with
    | some e => some e
    | none => wrongTabs (b ++ [t.1]) ts
def wrongBook (ts : List Tab) (rs : List RB) : Option (Str × PyData) := match wrongTabs [] ts with
  | some e => some e
  | none => wrongs ts rs
theorem wrongCols_bad {b cs : List Str} {c : Str} (h : isT c = false) : wrongCols b (c :: cs) = some (("InvalidName" : Str), PyData.str c) := by
  unfold wrongCols
  rw [if_pos h]
theorem wrongCols_two {b cs : List Str} {c : Str} (h : isT c = true) (m : c ∈ b) : wrongCols b (c :: cs) = some (("DoubleName" : Str), PyData.str c) := by
  unfold wrongCols
  rw [if_neg (by rw [h]; decide), if_pos m]
theorem wrongCols_next {b cs : List Str} {c : Str} (h : isT c = true) (m : c ∉ b) : wrongCols b (c :: cs) = wrongCols (b ++ [c]) cs := by
  rw [wrongCols, if_neg (by rw [h]; decide), if_neg m]
theorem wrongTabs_bad {b : List Str} {t : Tab} {ts : List Tab} (h : isT t.1 = false) : wrongTabs b (t :: ts) = some (("InvalidName" : Str), PyData.str t.1) := by
  unfold wrongTabs
  rw [if_pos h]
theorem wrongTabs_two {b : List Str} {t : Tab} {ts : List Tab} (h : isT t.1 = true) (m : t.1 ∈ b) : wrongTabs b (t :: ts) = some (("DoubleName" : Str), PyData.str t.1) := by
  unfold wrongTabs
  rw [if_neg (by rw [h]; decide), if_pos m]
theorem wrongTabs_cols {b : List Str} {t : Tab} {ts : List Tab} {e : Str × PyData} (h : isT t.1 = true) (m : t.1 ∉ b) (c : wrongCols [] t.2 = some e) : wrongTabs b (t :: ts) = some e := by
  rw [wrongTabs, if_neg (by rw [h]; decide), if_neg m, c]
theorem wrongTabs_next {b : List Str} {t : Tab} {ts : List Tab} (h : isT t.1 = true) (m : t.1 ∉ b) (c : wrongCols [] t.2 = none) : wrongTabs b (t :: ts) = wrongTabs (b ++ [t.1]) ts := by
  rw [wrongTabs, if_neg (by rw [h]; decide), if_neg m, c]
theorem drop_cons {α : Type} {l : List α} {i : Nat} {x : α} (h : l[i]? = some x) : l.drop i = x :: l.drop (i + 1) := by
  obtain ⟨hi, e⟩ := List.getElem?_eq_some_iff.mp h
  rw [List.drop_eq_getElem_cons hi, e]
theorem take_snoc {α : Type} {l : List α} {i : Nat} {x : α} (h : l[i]? = some x) : l.take (i + 1) = l.take i ++ [x] := by
  rw [List.take_add_one, h]
  rfl
def spWrongB (K : PySem.W.Frag) : Sp := fun vs H Q _ => ∃ (v w : V) (ts : List Tab) (rs : List RB) (n mc mt N M : Nat), vs = [v, w] ∧ Dp K H v (tabsD ts) ∧ TabsB n mc mt ts ∧ n ≤ 1000 ∧ mc ≤ 1000 ∧ mt ≤ 1000 ∧
  Dp K H w (rbsD rs) ∧ (∀ r ∈ rs, RbOk N M r) ∧ M ≤ 1000 ∧ rs.length ≤ 1000 ∧ endR K H Q (wrongBook ts rs)
section
variable {P : Program} {w : World} {K : PySem.W.Frag} {mg : Str → Option Value} {base : Heap}
theorem scWrongB : FnScope ["tables_here", "rules_here", "titles", "title", "known", "spot", "place"] ["tables_here", "rules_here"] (defScope sWrongBook) := ⟨rfl, rfl, rfl, by decide +kernel, rfl, by decide +kernel, by decide +kernel⟩
theorem ok_wrongB {f fI fR : Addr} {fd dI dR : FuncData} (F : FnP K "_law_wrong_book" sWrongBook f fd) (GI : FnOk P w K mg base CX0 1 fI dI ["wording"] spIsT) (bI : Binds K dI ["wording"] []) (mI : mg "_law_is_title" = some (.ref fI)) (kI : PySem.W.keepIn K (.ref fI) = true)
    (GR : FnOk P w K mg base CX0 2 fR dR ["titles", "rules_here"] (spWrongR K)) (bR : Binds K dR ["titles", "rules_here"] []) (mR : mg "_law_wrong_rule" = some (.ref fR)) (kR : PySem.W.keepIn K (.ref fR) = true) (me : mg "enumerate" = none) :
    FnOk P w K mg base CX0 3 f fd ["tables_here", "rules_here"] (spWrongB K) := by
  have GI2 : FnOk P w K mg base CX0 2 fI dI ["wording"] spIsT := GI.mono (by decide)
  refine F.ok scWrongB (fun vs H Q E h => ?_) (fun cdv A outer s H vs Q E hr h => ?_)
  · obtain ⟨v, w, ts, rs, n, mc, mt, N, M, rfl, _⟩ := h
    rfl
  obtain ⟨v, w, ts, rs, n, mc, mt, N, M, rfl, hv, tb, hn, hmc, hmt, hw, hrs, hM, lr, q⟩ := h
  have hu1 : (A.deeper (envOfC "_law_wrong_book" (defScope sWrongBook) s.heap.objs.size f cdv)).units + 1 < cLine := by
    have := hr.un
    omega
  refine ⟨_, PSs.nox (pss_cons (ps_set (i := 2) scWrongB.nd rfl (Or.inl rfl) pe_dnewK)
    (pss_cons (ps_for PassesOwn.never rfl (pi_list (pv 0)) (pg_tup rfl (pgs_cons (pg_name (i := 3) scWrongB.nd rfl (Or.inl rfl)) (pgs_cons (pg_name (i := 4) scWrongB.nd rfl (Or.inl rfl)) pgs_nil)))
      (pss_cons (ps_if (pt_not (pt_val (pe_call GI2 hr rfl mI kI bI .nil pass0 (pa_cons (pv 3) pa_nil)))) (pss_one (ps_ret (pe_tup (pa_cons pe_str (pa_cons (pv 3) pa_nil))))) pss_nil)
      (pss_cons (ps_if (pt_cmp (pc_din hu1 (pv 3) (pv 2))) (pss_one (ps_ret (pe_tup (pa_cons pe_str (pa_cons (pv 3) pa_nil))))) pss_nil)
      (pss_cons (ps_for PassesOwn.never rfl (pi_enum rfl me (pa_cons (pv 4) pa_nil)) (pg_tup rfl (pgs_cons (pg_name (i := 5) scWrongB.nd rfl (Or.inl rfl)) (pgs_cons (pg_name (i := 6) scWrongB.nd rfl (Or.inl rfl)) pgs_nil)))
        (pss_cons (ps_if (pt_not (pt_val (pe_call GI2 hr rfl mI kI bI .nil pass0 (pa_cons (pv 6) pa_nil)))) (pss_one (ps_ret (pe_tup (pa_cons pe_str (pa_cons (pv 6) pa_nil))))) pss_nil)
        (pss_one (ps_if (pt_cmpR op_in_seq (pv 6) (pe_slice sl_list (pv 4) po_none (po_some (pv 5))) rfl) (pss_one (ps_ret (pe_tup (pa_cons pe_str (pa_cons (pv 6) pa_nil))))) pss_nil))))
      (pss_one (ps_dput hu1 (pv 2) (pv 3) (pv 4) rfl))))))
    (pss_one (ps_ret (pe_call GR hr rfl mR kR bR .nil pass0 (pa_cons (pv 2) (pa_cons (pv 1) pa_nil))))))), ?_⟩
  obtain ⟨aw, xw, rfl, qw, rw'⟩ := dp_tabs hv
  have lw : xw.length = ts.length := by rw [dpAll_length rw', List.length_map]
  have no : ¬ False := fun z => z
  refine fun d hd => ?_
  have k0 : Off (fun _ => False) H (upd H d (.dK [])) := Off.new hd
  refine ⟨_, rfl, aw, rfl, ⟨_, sqL_off k0 qw⟩, for_list (K := K) (a := aw) (xs := xw) (fun i σ H' => ∃ w3 w4 w5 w6 kvs, σ = [some (.ref aw), some w, some (.ref d), w3, w4, w5, w6] ∧ H' d = some (.dK kvs) ∧ TitK K H' kvs (ts.take i) ∧ Off (fun _ => False) H H' ∧
      wrongTabs [] ts = wrongTabs ((ts.take i).map Prod.fst) (ts.drop i))
    ⟨none, none, none, none, [], rfl, upd_same, .nil, k0, rfl⟩ (fun i σ H' _ g => ?_) (fun i x σ H' hx g => ?_) fun σ H' g => ?_⟩
  · obtain ⟨_, _, _, _, _, _, _, _, k, _⟩ := g
    exact sqL_off k qw
  · obtain ⟨w3, w4, w5, w6, kvs, rfl, ed, tk, k, eq⟩ := g
    obtain ⟨dt, edt, hdt⟩ := dpAll_at rw' hx
    rw [List.getElem?_map] at edt
    obtain ⟨t, et, rfl⟩ := Option.map_eq_some_iff.mp edt
    have mem := List.mem_of_getElem? et
    obtain ⟨ta, wc, rfl, st, dc⟩ := dp_tab hdt
    obtain ⟨ca, rfl, _⟩ := dp_cols dc
    have bt := tb.each t mem
    have qe : ∀ y e, wrongTabs ((ts.take i).map Prod.fst) (t :: ts.drop (i + 1)) = some (y, e) → ∀ p u G, SqT K G p [.str y, u] → Dp K G u e → Off (fun _ => False) H G → Q (.ref p) G := by
      intro y e h1
      have h2 : wrongBook ts rs = some (y, e) := by
        unfold wrongBook
        rw [eq, drop_cons et, h1]
      rw [h2] at q
      exact q
    rw [drop_cons et] at eq
    refine ⟨ta, [.str t.1, .ref ca], rfl, sqT_off k st, rfl, .str t.1, [.ref ca], rfl, .ref ca, [], rfl, rfl, ?_⟩
    refine ⟨_, rfl, t.1, rfl, bt.name.1, Nat.le_trans bt.name.2 hn, fun H1 k1 => ⟨_, rfl, ?_⟩⟩
    have kH1 := k.trans k1
    cases hT : isT t.1 with
    | false =>
      refine iteT ⟨_, rfl, (by show 2 ≤ sizeLine; decide), fun p hp => ?_⟩
      exact qe _ _ (wrongTabs_bad hT) p _ _ (SqT.of upd_same) (.str _) (kH1.trans (Off.new hp))
    | true =>
      refine iteF ?_
      have ed1 := k1 _ _ ed no
      have tk1 := titK_off k1 tk
      refine ⟨_, rfl, _, rfl, d, _, rfl, DGet.k (k := .inr t.1) ed1, _, rfl, ?_⟩
      rcases titK_at (x := t.1) tk1 with ⟨v1, v2⟩ | ⟨v, t', v1, v2, v3⟩
      rotate_left
      · rw [v1]
        refine iteT ⟨_, rfl, (by show 2 ≤ sizeLine; decide), fun p hp => ?_⟩
        exact qe _ _ (wrongTabs_two hT (tabOf_some v2)) p _ _ (SqT.of upd_same) (.str _) (kH1.trans (Off.new hp))
      rw [v1]
      refine iteF ?_
      have nm := tabOf_none v2
      refine ⟨_, rfl, ca, _, rfl, dp_cols_ref (dp_off kH1 dc), for_enum (K := K) (a := ca) (xs := t.2.map V.str) (fun j σ G => ∃ w5 w6, σ = [some (V.ref aw), some w, some (V.ref d), some (V.str t.1), some (V.ref ca), w5, w6] ∧ Off (fun _ => False) H1 G ∧
          wrongCols [] t.2 = wrongCols (t.2.take j) (t.2.drop j))
        ⟨w5, w6, rfl, Off.refl _ _, rfl⟩ (fun j σ G _ g => ?_) (fun j x σ G T hx g hT' => ?_) fun σ G g => ?_⟩
      · obtain ⟨_, _, _, g2, _⟩ := g
        exact dp_cols_ref (dp_off (kH1.trans g2) dc)
      · obtain ⟨u5, u6, rfl, g2, g3⟩ := g
        rw [List.getElem?_map] at hx
        obtain ⟨c, hc, rfl⟩ := Option.map_eq_some_iff.mp hx
        have gc := bt.good c (List.mem_of_getElem? hc)
        rw [drop_cons hc] at g3
        have qc : ∀ y e, wrongCols (t.2.take j) (c :: t.2.drop (j + 1)) = some (y, e) → ∀ p u G, SqT K G p [.str y, u] → Dp K G u e → Off (fun _ => False) H G → Q (.ref p) G := fun y e h1 =>
          qe y e (wrongTabs_cols hT nm (g3.trans h1))
        have j1 := g2.trans (Off.new (o := .tup [.int (j : Nat), .str c]) hT')
        refine ⟨T, [.int (j : Nat), .str c], rfl, SqT.of upd_same, rfl, .int (j : Nat), [.str c], rfl, .str c, [], rfl, rfl, ?_⟩
        generalize upd G T (.tup [.int (j : Nat), .str c]) = G1 at j1 ⊢
        refine ⟨_, rfl, c, rfl, gc.1, Nat.le_trans gc.2 hn, fun G2 k2 => ⟨_, rfl, ?_⟩⟩
        have j2 := kH1.trans (j1.trans k2)
        cases hc2 : isT c with
        | false =>
          refine iteT ⟨_, rfl, (by show 2 ≤ sizeLine; decide), fun p hp => ?_⟩
          exact qc _ _ (wrongCols_bad hc2) p _ _ (SqT.of upd_same) (.str _) (j2.trans (Off.new hp))
        | true =>
          refine iteF ⟨_, rfl, _, rfl, _, rfl, _, rfl, ca, _, rfl, dp_cols_ref (dp_off j2 dc), fun m hm => ?_⟩
          have ecut : cutV (t.2.map V.str) none (some ((j : Nat) : Int)) = (t.2.take j).map V.str := by
            rw [cutV_head (by omega), List.map_take]
            rfl
          rw [ecut]
          have j3 := Off.new (G := fun _ => False) (o := .lst ((t.2.take j).map V.str)) hm
          refine ⟨m, _, rfl, .inl (SqL.of upd_same), rfl, flat_strs _, _, rfl, ?_⟩
          rw [inV_strs]
          refine ite2 (fun b => ?_) (fun b => ?_)
          · refine ⟨_, rfl, (by show 2 ≤ sizeLine; decide), fun p hp => ?_⟩
            exact qc _ _ (wrongCols_two hc2 (of_decide_eq_true b)) p _ _ (SqT.of upd_same) (.str _) ((j2.trans j3).trans (Off.new hp))
          · refine ⟨_, _, rfl, (j1.trans k2).trans j3, ?_⟩
            rw [take_snoc hc]
            exact g3.trans (wrongCols_next hc2 fun z => b (decide_eq_true z))
      · obtain ⟨u5, u6, rfl, g2, g3⟩ := g
        rw [List.length_map, List.drop_length, List.take_length] at g3
        have ed2 := g2 _ _ ed1 no
        have lk : kvs.length < sizeLine := by
          have l1 := titK_len tk
          have l2 : (ts.take i).length ≤ ts.length := by rw [List.length_take]; omega
          have l3 := tb.most
          exact Nat.lt_of_le_of_lt (m := 1000) (by omega) (by decide)
        refine ⟨_, rfl, _, rfl, _, rfl, d, _, rfl, DPut.k (k := .inr t.1) ed2 lk, ?_⟩
        have ep : putK kvs (.inr t.1) (V.ref ca) = kvs ++ [(.inr t.1, .ref ca)] := putK_new _ v1
        rw [ep]
        have kin : Off (fun a => a = d) G (upd G d (.dK (kvs ++ [(.inr t.1, .ref ca)]))) := Off.upd rfl
        have nsq : NoSq G d := NoSq.dK ed2
        have kHG := kH1.trans g2
        refine ⟨_, _, _, _, _, rfl, upd_same, ?_, fun b o eb nb => ?_, ?_⟩
        · rw [take_snoc et]
          exact titK_snoc (dp_in kin nsq (dp_off kHG dc)) (titK_in kin nsq (titK_off g2 tk1))
        · rw [upd_ne fun z => by rw [z, hd] at eb; cases eb]
          exact kHG _ _ eb nb
        · rw [take_snoc et, List.map_append]
          exact eq.trans (wrongTabs_next hT nm g3)
  · obtain ⟨w3, w4, w5, w6, kvs, rfl, ed, tk, k, eq⟩ := g
    rw [lw, List.take_length] at tk
    rw [lw, List.take_length, List.drop_length] at eq
    have e2 : wrongBook ts rs = wrongs ts rs := by
      unfold wrongBook
      rw [eq]
      rfl
    rw [e2] at q
    refine ⟨_, rfl, _, rfl, d, w, kvs, ts, rs, N, M, rfl, ed, tk, fun t ht => Nat.le_trans (tb.each t ht).most hmc, dp_off k hw, hrs, hM, lr, ?_⟩
    cases e3 : wrongs ts rs with
    | none =>
      rw [e3] at q
      exact fun H2 k2 => q H2 (k.trans k2)
    | some z =>
      obtain ⟨y, e⟩ := z
      rw [e3] at q
      exact fun p u H2 h1 h2 k2 => q p u H2 h1 h2 (k.trans k2)
end
end LW
set_option Elab.async false
set_option linter.all false
set_option maxRecDepth 100000
set_option maxHeartbeats 0
/-! books.py: names. -/
namespace LW
open PySem PySem.Spec PyProof.Rows L2 KV
/-- a raised error: its class, its value in new lists -/
def Raised (K : PySem.W.Frag) (H : Hp) (E : XK) (x : Str) (e : PyData) : Prop := ∀ (u : V) (Fo : Fp) (d : Addr) (H' : Hp), Off (fun _ => False) H H' → H d = none → H' d = some (.xd [("value", u)]) → Ow H' u e Fo → (∀ a, Fo a → H a = none) → E (.ref (He.ga K x)) (some d) H'
theorem Raised.off {K : PySem.W.Frag} {H H1 : Hp} {E : XK} {x : Str} {e : PyData} (h : Raised K H E x e) (k : Off (fun _ => False) H H1) : Raised K H1 E x e :=
  fun u Fo d H' k1 nd ed o f => h u Fo d H' (k.trans k1) (k.none nd fun z => z) ed o fun a z => k.none (f a z) fun z => z
/-- how a check ends -/
def endX (K : PySem.W.Frag) (H : Hp) (Q : VK) (E : XK) : Option (Str × PyData) → Prop
  | none => ∀ H', Off (fun _ => False) H H' → Q .non H'
  | some (x, e) => Raised K H E x e
theorem endX.off {K : PySem.W.Frag} {H H1 : Hp} {Q : VK} {E : XK} {o : Option (Str × PyData)} (h : endX K H Q E o) (k : Off (fun _ => False) H H1) : endX K H1 Q E o := by
  cases o with
  | none => exact fun H' k' => h H' (k.trans k')
  | some z => exact Raised.off h k
/-- raise X(v) -/
theorem raise_of {K : PySem.W.Frag} {C fI : Addr} {v : V} {H1 : Hp} {E' : XK} (T : ErrOk K "value" fI C) (q : ∀ d, H1 d = none → E' (.ref C) (some d) (upd H1 d (.xd [("value", v)]))) :
    [v].length ≤ 1000 ∧ ∀ a, H1 a = none → spInit K "value" (.ref a :: ([v] ++ [])) (upd H1 a (exo a C none))
      (fun v H2 => v = .non ∧ ∃ (d : Addr) (fs : List (Str × V)), H2 a = some (exo a C (some d)) ∧ H2 d = some (exd d fs) ∧ H1 d = none ∧ E' (.ref C) (some d) (upd (del H2 a) d (.xd fs))) (fun _ _ _ => False) := by
  refine ⟨by show 1 ≤ 1000; decide, fun a ha => ⟨a, C, v, rfl, T.oex, T.no, upd_same, fun dx hd hne => ⟨rfl, dx, [("value", v)], ?_, ?_, ?_, ?_⟩⟩⟩
  · unfold exH
    exact upd_same
  · unfold exH
    rw [upd_ne hne]
    exact upd_same
  · rw [upd_ne hne] at hd
    exact hd
  · have hd1 : H1 dx = none := by
      rw [upd_ne hne] at hd
      exact hd
    have e : upd (del (exH (upd H1 a (exo a C none)) a dx C "value" v) a) dx (.xd [("value", v)]) = upd H1 dx (.xd [("value", v)]) := by
      funext b
      by_cases z : b = dx
      · rw [z, upd_same, upd_same]
      · rw [upd_ne z, upd_ne z]
        by_cases y : b = a
        · rw [y, del_same, ha]
        · rw [del_ne y]
          unfold exH
          rw [upd_ne y, upd_ne z, upd_ne y]
    rw [e]
    exact q dx hd1
/-- .. of a text -/
theorem raise_str {K : PySem.W.Frag} {fI : Addr} {x y : Str} {H H1 : Hp} {E : XK} (T : ErrOk K "value" fI (He.ga K x)) (k : Off (fun _ => False) H H1) (q : Raised K H E x (.str y)) :
    [V.str y].length ≤ 1000 ∧ ∀ a, H1 a = none → spInit K "value" (.ref a :: ([V.str y] ++ [])) (upd H1 a (exo a (He.ga K x) none))
      (fun v H2 => v = .non ∧ ∃ (d : Addr) (fs : List (Str × V)), H2 a = some (exo a (He.ga K x) (some d)) ∧ H2 d = some (exd d fs) ∧ H1 d = none ∧ E (.ref (He.ga K x)) (some d) (upd (del H2 a) d (.xd fs))) (fun _ _ _ => False) :=
  raise_of T fun d hd => (q.off k) (.str y) (fun _ => False) d _ (Off.new hd) hd upd_same (.str y fun _ z => z) fun _ z => z.elim
/-- the first error in a name -/
def wrongName (b : List Str) (x : Str) : Option (Str × PyData) := if isT x = false then some ("InvalidName", .str x) else if x ∈ b then some ("DoubleName", .str x) else none
theorem wrongCols_cons (b cs : List Str) (c : Str) : wrongCols b (c :: cs) = match wrongName b c with
    | some e => some e
    | none => wrongCols (b ++ [c]) cs := by
  rw [wrongCols]
  unfold wrongName
  split
  · rfl
  · split
    · rfl
    · rfl
theorem wrongTabs_cons (b : List Str) (t : Tab) (ts : List Tab) : wrongTabs b (t :: ts) = match wrongName b t.1 with
    | some e => some e
    | none => match wrongCols [] t.2 with
      | some e => some e
      | none => wrongTabs (b ++ [t.1]) ts := by
  rw [wrongTabs]
  unfold wrongName
  split
  · rfl
  · split
    · rfl
    · rfl
theorem small_le (c : Nat) : ((!decide (({ cps := #[c] } : Str).cps.toList < ("a" : Str).cps.toList)) && (!decide (("z" : Str).cps.toList < ({ cps := #[c] } : Str).cps.toList))) = small c := by
  have ea : ("a" : Str).cps.toList = [97] := by decide +kernel
  have ez : ("z" : Str).cps.toList = [122] := by decide +kernel
  have ec : ({ cps := #[c] } : Str).cps.toList = [c] := rfl
  rw [ec, ea, ez]
  unfold small
  have h1 : ([c] < [97]) ↔ c < 97 := by simp [List.cons_lt_cons_iff]
  have h2 : ([122] < [c]) ↔ 122 < c := by simp [List.cons_lt_cons_iff]
  rw [decide_eq_decide.mpr h1, decide_eq_decide.mpr h2]
  by_cases x : c < 97
  · have y : ¬ (97 ≤ c ∧ c ≤ 122) := by omega
    rw [decide_eq_true x, decide_eq_false y]
    rfl
  · by_cases z : 122 < c
    · have y : ¬ (97 ≤ c ∧ c ≤ 122) := by omega
      rw [decide_eq_false x, decide_eq_true z, decide_eq_false y]
      rfl
    · have y : (97 ≤ c ∧ c ≤ 122) := by omega
      rw [decide_eq_false x, decide_eq_false z, decide_eq_true y]
      rfl
section
variable {P : Program} {w : World} {K : PySem.W.Frag} {mg : Str → Option Value} {base : Heap}
/-! ### is_name -/
theorem scIsN : FnScope ["text", "letter"] ["text"] (defScope pIsName) := ⟨rfl, rfl, rfl, by decide +kernel, rfl, by decide +kernel, by decide +kernel⟩
theorem ok_isN {f : Addr} {fd : FuncData} {t8 : Nat} (F : FnP K "is_name" pIsName f fd) (ml : mg "len" = none) (ma : mg "all" = none) (m8 : mg "LONGEST_NAME" = some (.int 8 t8)) :
    FnOk P w K mg base CX0 1 f fd ["text"] spIsT := by
  refine F.ok scIsN (fun vs H Q E h => ?_) (fun cdv A outer s H vs Q E hr h => ?_)
  · obtain ⟨x, rfl, _⟩ := h
    rfl
  obtain ⟨x, rfl, ha, hx, q⟩ := h
  refine ⟨_, pss_one (ps_ret (pe_and (pe_chain op_le op_le pe_int (pe_callB call_len_str rfl ml boot_len (pa_cons (pv 0) pa_nil)) (pe_glob (v := .int 8) rfl m8 ⟨_, rfl⟩))
      (pe_one (pe_callB (cr_all rfl) rfl ma (by decide +kernel) (pa_cons (pe_lc (own := [("letter", 1)]) (g := gName 1) (tt := tYes) rfl scIsN.nd (pi_str (pv 0))
          (blkOk_by (own := [("letter", 1)]) (N := ["text", "letter"]) (sc := defScope pIsName) (by decide +kernel))
          (fun _ _ _ _ _ => pg_name (i := 1) scIsN.nd rfl (Or.inl rfl)) (fun _ _ _ _ _ => pts_nil)
          (fun _ _ _ _ _ => pe_chain op_le_str op_le_str pe_str (pv 1) pe_str)) pa_nil))))), ?_⟩
  have no : ¬ False := fun z => z
  have xl : x.length ≤ sizeLine := Nat.le_trans hx (by decide)
  refine ⟨_, rfl, x, rfl, xl, _, _, rfl, rfl, _, rfl, ite2 (fun c1 => ⟨_, _, rfl, rfl, _, rfl, ite2 (fun c2 => ?_) (fun c2 => ?_)⟩) (fun c1 => ⟨_, rfl, iteF ?_⟩)⟩
  rotate_left
  · have e : isT x = false := by
      have : ¬ x.length < 9 := fun z => c2 (decide_eq_true (by omega))
      simp [isT, this]
    rw [← e]
    exact q H (Off.refl _ _)
  · have e : isT x = false := by
      have : ¬ 0 < x.length := fun z => c1 (decide_eq_true (by omega))
      simp [isT, this]
    rw [← e]
    exact q H (Off.refl _ _)
  have l1 : 0 < x.length := by
    have := of_decide_eq_true c1
    omega
  have l2 : x.length < 9 := by
    have := of_decide_eq_true c2
    omega
  have lt : x.cps.toList.length = x.length := by simp [Str.length]
  refine ⟨_, rfl, x, rfl, fun D hD => lc_str (x := x) (fun i H' => H' D = some (.lst ((((x.cps.toList.take i).map small).map V.bl))) ∧ Off (fun _ => False) H H') ⟨upd_same, Off.new hD⟩
    (fun i c H' hc g => ?_) fun H' g => ?_⟩
  · obtain ⟨g1, g2⟩ := g
    have sm := small_le c
    have step : ∀ b : Bool, b = small c → ∃ acc, H' D = some (.lst acc) ∧ acc.length < sizeLine ∧ (upd H' D (.lst (acc ++ [V.bl b]))) D = some (.lst ((((x.cps.toList.take (i + 1)).map small).map V.bl))) ∧ Off (fun _ => False) H (upd H' D (.lst (acc ++ [V.bl b]))) := by
      intro b eb
      refine ⟨_, g1, by rw [List.length_map, List.length_map, List.length_take]; exact small1000 (by omega), ?_, fun a u ea na => ?_⟩
      · rw [upd_same, List.take_add_one, hc, eb, List.map_append, List.map_append]
        rfl
      · rw [upd_ne (fun z => by rw [z, hD] at ea; cases ea)]
        exact g2 a u ea na
    refine ⟨rfl, ?_⟩
    refine Exists.intro _ ⟨rfl, _, _, rfl, rfl, _, rfl, ?_⟩
    refine ite2 (fun b => ⟨_, _, rfl, rfl, ?_⟩) (fun b => ?_)
    · rw [b, Bool.true_and] at sm
      exact step _ sm
    · have b' := Bool.eq_false_iff.mpr b
      rw [b', Bool.false_and] at sm
      exact step _ sm
  · obtain ⟨g1, g2⟩ := g
    rw [List.take_length] at g1
    refine ⟨D, _, rfl, SqL.of g1, ?_⟩
    have e : isT x = (x.cps.toList.map small).all id := by
      have z1 : decide (0 < x.length) = true := decide_eq_true l1
      have z2 : decide (x.length < 9) = true := decide_eq_true l2
      unfold isT
      rw [z1, z2, List.all_map]
      rfl
    rw [← e]
    exact q H' g2
end
end LW
set_option Elab.async false
set_option linter.all false
set_option maxRecDepth 100000
set_option maxHeartbeats 0
/-! books.py: check_name, check_columns, check_tables. -/
namespace LW
open PySem PySem.Spec PyProof.Rows L2 KV
def spChkN (K : PySem.W.Frag) : Sp := fun vs H Q E => ∃ (x : Str) (b : Addr) (bs : List Str), vs = [.str x, .ref b] ∧ Asc x ∧ x.length ≤ 1000 ∧ SqL K H b (bs.map V.str) ∧ endX K H Q E (wrongName bs x)
def spChkC (K : PySem.W.Frag) : Sp := fun vs H Q E => ∃ (c : Addr) (cs : List Str), vs = [.ref c] ∧ (∀ x ∈ cs, Asc x ∧ x.length ≤ 1000) ∧ cs.length ≤ 1000 ∧ SqL K H c (cs.map V.str) ∧ endX K H Q E (wrongCols [] cs)
def spChkT (K : PySem.W.Frag) : Sp := fun vs H Q E => ∃ (v : V) (ts : List Tab) (n mc mt : Nat), vs = [v] ∧ Dp K H v (tabsD ts) ∧ TabsB n mc mt ts ∧ n ≤ 1000 ∧ mc ≤ 1000 ∧ mt ≤ 1000 ∧ endX K H Q E (wrongTabs [] ts)
section
variable {P : Program} {w : World} {K : PySem.W.Frag} {mg : Str → Option Value} {base : Heap}
theorem scChkN : FnScope ["name", "before"] ["name", "before"] (defScope pCheckName) := ⟨rfl, rfl, rfl, by decide +kernel, rfl, by decide +kernel, by decide +kernel⟩
theorem ok_chkN {f fI : Addr} {fd dI dE : FuncData} (F : FnP K "check_name" pCheckName f fd) (T : ErrT P w K mg base dE) (GI : FnOk P w K mg base CX0 1 fI dI ["text"] spIsT) (bI : Binds K dI ["text"] []) (mI : mg "is_name" = some (.ref fI)) (kI : PySem.W.keepIn K (.ref fI) = true) :
    FnOk P w K mg base (L2.CX P w) 3 f fd ["name", "before"] (spChkN K) := by
  have GI2 : FnOk P w K mg base CX0 2 fI dI ["text"] spIsT := GI.mono (by decide)
  have t1 := T.es.ok "InvalidName" (by decide)
  have t2 := T.es.ok "DoubleName" (by decide)
  have g1 := T.g "InvalidName" (by decide)
  have g2 := T.g "DoubleName" (by decide)
  refine F.ok scChkN (fun vs H Q E h => ?_) (fun cdv A outer s H vs Q E hr h => ?_)
  · obtain ⟨x, b, bs, rfl, _⟩ := h
    rfl
  obtain ⟨x, b, bs, rfl, ax, lx, sb, q⟩ := h
  refine ⟨_, (pss_cons (ps_if (pt_not (pt_val (pe_call GI2 hr rfl mI kI bI .nil pass0 (pa_cons (pv 0) pa_nil))))
      (pss_one (ps_raise rfl (takes_of rfl rfl rfl rfl) (pmk_oex t1.oex t1.ini t1.fn T.ini hr T.b .nil pass0 rfl g1 (pa_cons (pv 0) pa_nil)))) pss_nil)
    (pss_one (ps_if (pt_cmpR op_in_seq (pv 0) (pv 1) rfl)
      (pss_one (ps_raise rfl (takes_of rfl rfl rfl rfl) (pmk_oex t2.oex t2.ini t2.fn T.ini hr T.b .nil pass0 rfl g2 (pa_cons (pv 0) pa_nil)))) pss_nil))), ?_⟩
  refine ⟨_, rfl, x, rfl, ax, lx, fun H1 k1 => ⟨_, rfl, ?_⟩⟩
  unfold wrongName at q
  cases hT : isT x with
  | false =>
    rw [if_pos hT] at q
    exact iteT ⟨_, rfl, raise_str t1 k1 q⟩
  | true =>
    rw [if_neg (by rw [hT]; decide)] at q
    refine iteF ⟨_, rfl, _, rfl, b, _, rfl, .inl (sqL_off k1 sb), rfl, flat_strs _, _, rfl, ?_⟩
    rw [inV_strs]
    refine ite2 (fun c => ?_) (fun c => ?_)
    · rw [if_pos (of_decide_eq_true c)] at q
      exact ⟨_, rfl, raise_str t2 k1 q⟩
    · rw [if_neg fun z => c (decide_eq_true z)] at q
      exact q H1 k1
theorem scChkC : FnScope ["columns", "before", "column"] ["columns"] (defScope pCheckColumns) := ⟨rfl, rfl, rfl, by decide +kernel, rfl, by decide +kernel, by decide +kernel⟩
theorem ok_chkC {f fN : Addr} {fd dN : FuncData} (F : FnP K "check_columns" pCheckColumns f fd) (GN : FnOk P w K mg base (L2.CX P w) 3 fN dN ["name", "before"] (spChkN K)) (bN : Binds K dN ["name", "before"] []) (mN : mg "check_name" = some (.ref fN)) (kN : PySem.W.keepIn K (.ref fN) = true) :
    FnOk P w K mg base (L2.CX P w) 4 f fd ["columns"] (spChkC K) := by
  refine F.ok scChkC (fun vs H Q E h => ?_) (fun cdv A outer s H vs Q E hr h => ?_)
  · obtain ⟨c, cs, rfl, _⟩ := h
    rfl
  obtain ⟨ca, cs, rfl, gs, lc, sc, q⟩ := h
  refine ⟨_, (pss_cons (ps_set (i := 1) scChkC.nd rfl (Or.inl rfl) (pe_lst pa_nil))
    (pss_one (ps_for (passes_of rfl) rfl (pi_list (pv 0)) (pg_name (i := 2) scChkC.nd rfl (Or.inl rfl))
      (pss_cons (ps_expr (pe_callS GN hr rfl mN kN bN (fun σ => passAt (takes_of rfl rfl rfl rfl) σ) (pa_cons (pv 2) (pa_cons (pv 1) pa_nil))))
      (pss_one (ps_expr (pe_bm PySem.F.plainAttrs_list PySem.F.slot_list_append PySem.F.type_list_append mt_append (pv 1) (pa_cons (pv 2) pa_nil)))))))), ?_⟩
  have no : ¬ False := fun z => z
  refine ⟨(by show 0 ≤ sizeLine; decide), fun l hl => ?_⟩
  have k0 : Off (fun _ => False) H (upd H l (.lst [])) := Off.new hl
  refine ⟨_, rfl, ca, rfl, ⟨_, sqL_off k0 sc⟩, for_list (K := K) (a := ca) (xs := cs.map V.str) (fun i σ H' => ∃ w2, σ = [some (.ref ca), some (.ref l), w2] ∧ H' l = some (.lst ((cs.take i).map V.str)) ∧ Off (fun _ => False) H H' ∧
      wrongCols [] cs = wrongCols (cs.take i) (cs.drop i))
    ⟨none, rfl, upd_same, k0, rfl⟩ (fun i σ H' _ g => ?_) (fun i x σ H' hx g => ?_) fun σ H' g => ?_⟩
  · obtain ⟨_, _, _, k, _⟩ := g
    exact sqL_off k sc
  · obtain ⟨w2, rfl, el, k, eq⟩ := g
    rw [List.getElem?_map] at hx
    obtain ⟨c, hc, rfl⟩ := Option.map_eq_some_iff.mp hx
    have gc := gs c (List.mem_of_getElem? hc)
    rw [drop_cons hc, wrongCols_cons] at eq
    refine ⟨_, rfl, _, rfl, c, l, cs.take i, rfl, gc.1, gc.2, SqL.of el, ?_⟩
    cases e1 : wrongName (cs.take i) c with
    | some e =>
      rw [e1] at eq
      rw [eq] at q
      exact Raised.off q k
    | none =>
      rw [e1] at eq
      intro G kG
      have elG := kG _ _ el no
      refine ⟨_, rfl, .inl ⟨rfl, _, SqL.of elG⟩, _, rfl, l, _, _, rfl, rfl, elG, ?_, ?_⟩
      · rw [List.length_map, List.length_take]
        exact small1000 (by omega)
      · refine ⟨_, rfl, ?_, fun b o eb nb => ?_, ?_⟩
        · rw [upd_same, take_snoc hc, List.map_append]
          rfl
        · rw [upd_ne (fun z => by rw [z, hl] at eb; cases eb)]
          exact kG _ _ (k b o eb nb) no
        · rw [take_snoc hc]
          exact eq
  · obtain ⟨w2, rfl, el, k, eq⟩ := g
    rw [List.length_map, List.drop_length] at eq
    rw [eq] at q
    exact q H' k
theorem scChkT : FnScope ["tables", "names", "name", "columns"] ["tables"] (defScope pCheckTables) := ⟨rfl, rfl, rfl, by decide +kernel, rfl, by decide +kernel, by decide +kernel⟩
theorem ok_chkT {f fN fC : Addr} {fd dN dC : FuncData} (F : FnP K "check_tables" pCheckTables f fd) (GN : FnOk P w K mg base (L2.CX P w) 3 fN dN ["name", "before"] (spChkN K)) (bN : Binds K dN ["name", "before"] []) (mN : mg "check_name" = some (.ref fN)) (kN : PySem.W.keepIn K (.ref fN) = true)
    (GC : FnOk P w K mg base (L2.CX P w) 4 fC dC ["columns"] (spChkC K)) (bC : Binds K dC ["columns"] []) (mC : mg "check_columns" = some (.ref fC)) (kC : PySem.W.keepIn K (.ref fC) = true) :
    FnOk P w K mg base (L2.CX P w) 5 f fd ["tables"] (spChkT K) := by
  have GN4 : FnOk P w K mg base (L2.CX P w) 4 fN dN ["name", "before"] (spChkN K) := GN.mono (by decide)
  refine F.ok scChkT (fun vs H Q E h => ?_) (fun cdv A outer s H vs Q E hr h => ?_)
  · obtain ⟨v, ts, n, mc, mt, rfl, _⟩ := h
    rfl
  obtain ⟨v, ts, n, mc, mt, rfl, hv, tb, hn, hmc, hmt, q⟩ := h
  refine ⟨_, (pss_cons (ps_set (i := 1) scChkT.nd rfl (Or.inl rfl) (pe_lst pa_nil))
    (pss_one (ps_for (passes_of rfl) rfl (pi_list (pv 0)) (pg_tup rfl (pgs_cons (pg_name (i := 2) scChkT.nd rfl (Or.inl rfl)) (pgs_cons (pg_name (i := 3) scChkT.nd rfl (Or.inl rfl)) pgs_nil)))
      (pss_cons (ps_expr (pe_callS GN4 hr rfl mN kN bN (fun σ => passAt (takes_of rfl rfl rfl rfl) σ) (pa_cons (pv 2) (pa_cons (pv 1) pa_nil))))
      (pss_cons (ps_expr (pe_bm PySem.F.plainAttrs_list PySem.F.slot_list_append PySem.F.type_list_append mt_append (pv 1) (pa_cons (pv 2) pa_nil)))
      (pss_one (ps_expr (pe_callS GC hr rfl mC kC bC (fun σ => passAt (takes_of rfl rfl rfl rfl) σ) (pa_cons (pv 3) pa_nil))))))))), ?_⟩
  have no : ¬ False := fun z => z
  obtain ⟨aw, xw, rfl, qw, rw'⟩ := dp_tabs hv
  have lw : xw.length = ts.length := by rw [dpAll_length rw', List.length_map]
  refine ⟨(by show 0 ≤ sizeLine; decide), fun l hl => ?_⟩
  have k0 : Off (fun _ => False) H (upd H l (.lst [])) := Off.new hl
  refine ⟨_, rfl, aw, rfl, ⟨_, sqL_off k0 qw⟩, for_list (K := K) (a := aw) (xs := xw) (fun i σ H' => ∃ w2 w3, σ = [some (.ref aw), some (.ref l), w2, w3] ∧ H' l = some (.lst (((ts.take i).map Prod.fst).map V.str)) ∧ Off (fun _ => False) H H' ∧
      wrongTabs [] ts = wrongTabs ((ts.take i).map Prod.fst) (ts.drop i))
    ⟨none, none, rfl, upd_same, k0, rfl⟩ (fun i σ H' _ g => ?_) (fun i x σ H' hx g => ?_) fun σ H' g => ?_⟩
  · obtain ⟨_, _, _, _, k, _⟩ := g
    exact sqL_off k qw
  · obtain ⟨w2, w3, rfl, el, k, eq⟩ := g
    obtain ⟨dt, edt, hdt⟩ := dpAll_at rw' hx
    rw [List.getElem?_map] at edt
    obtain ⟨t, et, rfl⟩ := Option.map_eq_some_iff.mp edt
    have bt := tb.each t (List.mem_of_getElem? et)
    obtain ⟨ta, wc, rfl, st, dc⟩ := dp_tab hdt
    obtain ⟨ca, rfl, _⟩ := dp_cols dc
    rw [drop_cons et, wrongTabs_cons] at eq
    refine ⟨ta, [.str t.1, .ref ca], rfl, sqT_off k st, rfl, .str t.1, [.ref ca], rfl, .ref ca, [], rfl, rfl, ?_⟩
    refine ⟨_, rfl, _, rfl, t.1, l, (ts.take i).map Prod.fst, rfl, bt.name.1, Nat.le_trans bt.name.2 hn, SqL.of el, ?_⟩
    cases e1 : wrongName ((ts.take i).map Prod.fst) t.1 with
    | some e =>
      rw [e1] at eq
      rw [eq] at q
      exact Raised.off q k
    | none =>
      rw [e1] at eq
      dsimp only at eq
      intro G kG
      have elG := kG _ _ el no
      have kHG := k.trans kG
      refine ⟨_, rfl, .inl ⟨rfl, _, SqL.of elG⟩, _, rfl, l, _, _, rfl, rfl, elG, ?_, ?_⟩
      · rw [List.length_map, List.length_map, List.length_take]
        have := tb.most
        exact small1000 (by omega)
      · have k2 : Off (fun _ => False) H (upd G l (.lst (((ts.take i).map Prod.fst).map V.str ++ [.str t.1]))) := fun b o eb nb => by
          rw [upd_ne (fun z => by rw [z, hl] at eb; cases eb)]
          exact kHG b o eb nb
        have el2 := upd_same (H := G) (a := l) (o := .lst (((ts.take i).map Prod.fst).map V.str ++ [.str t.1]))
        refine ⟨_, rfl, ca, t.2, rfl, fun x hx => ⟨(bt.good x hx).1, Nat.le_trans (bt.good x hx).2 hn⟩, Nat.le_trans bt.most hmc, dp_cols_ref (dp_off k2 dc), ?_⟩
        cases e2 : wrongCols [] t.2 with
        | some e =>
          rw [e2] at eq
          rw [eq] at q
          exact Raised.off q k2
        | none =>
          rw [e2] at eq
          intro G2 kG2
          refine ⟨_, _, rfl, ?_, k2.trans kG2, ?_⟩
          · rw [take_snoc et, kG2 _ _ el2 no, List.map_append, List.map_append]
            rfl
          · rw [take_snoc et, List.map_append]
            exact eq
  · obtain ⟨w2, w3, rfl, el, k, eq⟩ := g
    rw [lw, List.drop_length] at eq
    rw [eq] at q
    exact q H' k
end
end LW
set_option Elab.async false
set_option linter.all false
set_option maxRecDepth 100000
set_option maxHeartbeats 0
/-! books.py: copied, has_form. -/
namespace LW
open PySem PySem.Spec PyProof.Rows L2 KV
/-- the first thing and the length are as told -/
def formed : RB → Bool
  | ([k, x], some (cs, tl)) => decide ((k = "key" ∧ tl.length = 0) ∨ (k = "settles" ∧ tl.length = 1))
  | _ => false
theorem wrong1_formed {ts : List Tab} {r : RB} (h : formed r = false) : wrong1 ts r = some (("InvalidRule" : Str), rbD r) := by
  obtain ⟨hd, o⟩ := r
  rcases hd with _ | ⟨k, _ | ⟨x, _ | ⟨y, hd⟩⟩⟩
  · rfl
  · rfl
  · rcases o with _ | ⟨cs, tl⟩
    · rfl
    · exact wrong1_not (of_decide_eq_false h)
  · rfl
/-- the forms of rules -/
def formsD : PyData := .tuple [.tuple [.str "key", .int 3], .tuple [.str "settles", .int 4]]
theorem eqv_form (a b : Str) (i j : Int) : PyData.eqv (.tuple [.str a, .int i]) (.tuple [.str b, .int j]) = ((a == b) && (i == j)) := by
  simp [PyData.eqv, PyData.eqvAll]
theorem shaped_form {x : Str} {i : Int} (h : Asc x) : SeqAt.shaped (.tuple [.str x, .int i]) = true := by
  unfold SeqAt.shaped
  simp [PyData.canLay0, PyData.canLayAll0, PyData.depth, PyData.depthAll, strOk_asc h]
theorem form_eq {r : RB} {N M : Nat} (ok : RbOk N M r) {x : Str} {hd : List Str} (h : r.1 = x :: hd) :
    [PyData.tuple [.str "key", .int 3], .tuple [.str "settles", .int 4]].any (fun e => e.eqv (.tuple [.str x, .int (((rbL r).length : Nat) : Int)])) = formed r := by
  obtain ⟨hdl, o⟩ := r
  have h : hdl = x :: hd := h
  subst h
  have no : ∀ n : Nat, n < 3 → [PyData.tuple [.str "key", .int 3], .tuple [.str "settles", .int 4]].any (fun e => e.eqv (.tuple [.str x, .int ((n : Nat) : Int)])) = false := by
    intro n hn
    have e1 : ((3 : Int) == (n : Int)) = false := by
      rw [beq_eq_false_iff_ne]
      omega
    have e2 : ((4 : Int) == (n : Int)) = false := by
      rw [beq_eq_false_iff_ne]
      omega
    simp only [List.any_cons, List.any_nil, eqv_form, e1, e2, Bool.and_false, Bool.or_false]
  have h2 : (x :: hd).length ≤ 2 := ok.head
  rcases hd with _ | ⟨y, _ | ⟨z, hd⟩⟩
  · rcases o with _ | q
    · exact no 1 (by decide)
    · have := ok.two (by simp)
      simp at this
  · rcases o with _ | ⟨cs, tl⟩
    · exact no 2 (by decide)
    · have l : (rbL ([x, y], some (cs, tl))).length = 3 + tl.length := by
        simp [rbL]
        omega
      rw [l]
      simp only [List.any_cons, List.any_nil, eqv_form, Bool.or_false]
      have e1 : ((3 : Int) == ((3 + tl.length : Nat) : Int)) = decide (tl.length = 0) := by
        rw [Bool.eq_iff_iff, beq_iff_eq, decide_eq_true_iff]
        omega
      have e2 : ((4 : Int) == ((3 + tl.length : Nat) : Int)) = decide (tl.length = 1) := by
        rw [Bool.eq_iff_iff, beq_iff_eq, decide_eq_true_iff]
        omega
      have e3 : ∀ s : Str, (s == x) = decide (x = s) := by
        intro s
        rw [Bool.eq_iff_iff, beq_iff_eq, decide_eq_true_iff]
        exact eq_comm
      rw [e1, e2, e3, e3]
      unfold formed
      rw [Bool.eq_iff_iff, decide_eq_true_iff]
      simp only [Bool.or_eq_true, Bool.and_eq_true, decide_eq_true_iff]
  · simp at h2
def spForm (K : PySem.W.Frag) : Sp := fun vs H Q _ => ∃ (v w : V) (r : RB) (N M : Nat), vs = [v, w] ∧ Dp K H v (rbD r) ∧ RbOk N M r ∧ Dp K H w formsD ∧ ∀ H', Off (fun _ => False) H H' → Q (.bl (formed r)) H'
section
variable {P : Program} {w : World} {K : PySem.W.Frag} {mg : Str → Option Value} {base : Heap}
theorem scCopiedP : FnScope ["thing", "part"] ["thing"] (defScope pCopied) := ⟨rfl, rfl, rfl, by decide +kernel, rfl, by decide +kernel, by decide +kernel⟩
theorem ok_copiedP_step {n : Nat} {f : Addr} {fd : FuncData} (F : FnP K "copied" pCopied f fd) (hb : Binds K fd ["thing"] []) (mf : mg "copied" = some (.ref f)) (mi : mg "isinstance" = none) (ml : mg "list" = none) (mt : mg "tuple" = none)
    (G : FnOk P w K mg base CX0 n f fd ["thing"] (spCopied K n)) : FnOk P w K mg base CX0 (n + 1) f fd ["thing"] (spCopied K (n + 1)) := by
  refine F.ok scCopiedP (fun vs H Q E h => ?_) (fun cdv A outer s H vs Q E hr h => ?_)
  · obtain ⟨v, d, b, ms, rfl, _⟩ := h
    rfl
  obtain ⟨v, d, b, ms, rfl, o, hf, hm, hk, q⟩ := h
  refine ⟨_, pss_cons (ps_if (pt_val (pe_callB call_isi rfl mi boot_isinstance (pa_cons (pv 0) (pa_cons (pe_bltn (v := .ty "list") rfl ml boot_list rfl) pa_nil))))
      (pss_one (ps_ret (pe_lc (own := [("part", 1)]) (g := gName 1) (tt := tYes) rfl scCopiedP.nd (pi_list (pv 0)) (blkOk_by (own := [("part", 1)]) (N := ["thing", "part"]) (sc := defScope pCopied) (by decide +kernel))
        (fun _ _ _ _ _ => pg_name (i := 1) scCopiedP.nd rfl (Or.inl rfl)) (fun _ _ _ _ _ => pts_nil)
        (fun _ _ _ _ _ => pe_call G hr rfl mf F.kp hb .nil pass0 (pa_cons (pv 1) pa_nil))))) pss_nil)
    (pss_cons (ps_if (pt_val (pe_callB call_isi rfl mi boot_isinstance (pa_cons (pv 0) (pa_cons (pe_bltn (v := .ty "tuple") rfl mt boot_tuple rfl) pa_nil))))
      (pss_one (ps_ret (pe_callTy call_tuple_of rfl mt boot_tuple (pa_cons (pe_lc (own := [("part", 1)]) (g := gName 1) (tt := tYes) rfl scCopiedP.nd (pi_tup (pv 0)) (blkOk_by (own := [("part", 1)]) (N := ["thing", "part"]) (sc := defScope pCopied) (by decide +kernel))
        (fun _ _ _ _ _ => pg_name (i := 1) scCopiedP.nd rfl (Or.inl rfl)) (fun _ _ _ _ _ => pts_nil)
        (fun _ _ _ _ _ => pe_call G hr rfl mf F.kp hb .nil pass0 (pa_cons (pv 1) pa_nil))) pa_nil)))) pss_nil)
    (pss_one (ps_ret (pv 0)))), ?_⟩
  refine ⟨_, rfl, v, .ty "list", .type (tyName d), .type "list", isList d, rfl, .ty _, dp_ty o, kit_list d, _, rfl, ?_⟩
  by_cases hL : isList d = true
  · rw [hL]
    obtain ⟨a, xs, ds, rfl, rfl, h0, r⟩ := dp_list o hL
    cases ms with
    | nil => exact hf.elim
    | cons m ms =>
    obtain ⟨hl, hfs⟩ := hf
    refine iteT ⟨_, rfl, a, rfl, ⟨xs, h0⟩, fun D hD => lc_list (K := K) (a := a) (xs := xs) (fun i H' => Grow (fun _ => False) H D (ds.take i) H') (Grow.start hD) (fun i H' _ g => ?_) (fun i x H' hx g => ?_) fun H' g => ?_⟩
    · obtain ⟨_, _, _, _, _, _, off⟩ := g
      exact sqL_off off h0
    · exact ⟨rfl, Exists.intro x ⟨rfl, copy_turn r hfs hm (Nat.lt_of_succ_lt_succ hk) hl hD hx g⟩⟩
    · rw [dpAll_length r, List.take_length] at g
      obtain ⟨F', o', f', k'⟩ := g.list hD
      exact q _ F' H' o' f' k'
  · have hL : isList d = false := by simpa using hL
    rw [hL]
    refine iteF ⟨_, rfl, v, .ty "tuple", .type (tyName d), .type "tuple", isTuple d, rfl, .ty _, dp_ty o, kit_tuple d, _, rfl, ?_⟩
    by_cases hT : isTuple d = true
    · rw [hT]
      obtain ⟨a, xs, ds, rfl, rfl, h0, r⟩ := dp_tuple o hT
      cases ms with
      | nil => exact hf.elim
      | cons m ms =>
      obtain ⟨hl, hfs⟩ := hf
      refine iteT ⟨_, rfl, a, rfl, ⟨xs, h0⟩, fun D hD => lc_tup (K := K) (a := a) (xs := xs) (fun i H' => Grow (fun _ => False) H D (ds.take i) H') (Grow.start hD) (fun i H' _ g => ?_) (fun i x H' hx g => ?_) fun H' g => ?_⟩
      · obtain ⟨_, _, _, _, _, _, off⟩ := g
        exact sqT_off off h0
      · exact ⟨rfl, Exists.intro x ⟨rfl, copy_turn r hfs hm (Nat.lt_of_succ_lt_succ hk) hl hD hx g⟩⟩
      · rw [dpAll_length r, List.take_length] at g
        obtain ⟨acc, _, e1, _⟩ := id g
        refine ⟨D, acc, rfl, .inl ⟨SqL.of e1, fun p hp => ?_⟩⟩
        obtain ⟨F', o', f', k'⟩ := g.tuple e1 hp
        exact q _ F' _ o' f' k'
    · have hT : isTuple d = false := by simpa using hT
      rw [hT]
      exact iteF ⟨_, rfl, q v _ H (copy_leaf o hL hT) (fun _ z => z.elim) (Off.refl _ _)⟩
theorem ok_copiedP {f : Addr} {fd : FuncData} (F : FnP K "copied" pCopied f fd) (hb : Binds K fd ["thing"] []) (mf : mg "copied" = some (.ref f)) (mi : mg "isinstance" = none) (ml : mg "list" = none) (mt : mg "tuple" = none) :
    ∀ n : Nat, FnOk P w K mg base CX0 n f fd ["thing"] (spCopied K n)
  | 0 => none_leftN fun vs H Q E => copied_none
  | n + 1 => ok_copiedP_step F hb mf mi ml mt (ok_copiedP F hb mf mi ml mt n)
theorem scForm : FnScope ["thing", "forms"] ["thing", "forms"] (defScope pHasForm) := ⟨rfl, rfl, rfl, by decide +kernel, rfl, by decide +kernel, by decide +kernel⟩
theorem ok_form {f : Addr} {fd : FuncData} (F : FnP K "has_form" pHasForm f fd) (ml : mg "len" = none) (mb : mg "bool" = none) : FnOk P w K mg base CX0 2 f fd ["thing", "forms"] (spForm K) := by
  refine F.ok scForm (fun vs H Q E h => ?_) (fun cdv A outer s H vs Q E hr h => ?_)
  · obtain ⟨v, w, r, N, M, rfl, _⟩ := h
    rfl
  obtain ⟨v, w, r, N, M, rfl, hv, ok, hw, q⟩ := h
  have hu65 : (A.deeper (envOfC "has_form" (defScope pHasForm) s.heap.objs.size f cdv)).units + 65 < cLine := by
    have := hr.un
    omega
  refine ⟨_, pss_one (ps_ret (pe_and (pe_callTy call_boolT rfl mb (by decide +kernel) (pa_cons (pv 0) pa_nil))
    (pe_one (pe_cmpR (op_inD hu65) (pe_tup (pa_cons (pe_ix ix_tup (pv 0) pe_int (fun _ _ => rfl)) (pa_cons (pe_callB call_len_seq rfl ml boot_len (pa_cons (pv 0) pa_nil)) pa_nil))) (pv 1) rfl)))), ?_⟩
  obtain ⟨ra, vs, rfl, sq, da⟩ : ∃ a vs, v = .ref a ∧ SqT K H a vs ∧ DpAll K H vs (rbL r) := by
    cases hv with
    | tup h r => exact ⟨_, _, rfl, h, r⟩
  have lv : vs.length = (rbL r).length := dpAll_length da
  refine ⟨_, rfl, ra, vs, rfl, sq, _, rfl, ?_⟩
  cases hh : r.1 with
  | nil =>
    have ho : r.2 = none := by
      cases h2 : r.2 with
      | none => rfl
      | some z =>
        have := ok.two (by rw [h2]; simp)
        rw [hh] at this
        simp at this
    have er : r = ([], none) := Prod.ext hh ho
    subst er
    have ev : vs = [] := by cases da; rfl
    subst ev
    refine iteF ?_
    exact q H (Off.refl _ _)
  | cons x hd =>
    have e0 : ∃ tl, vs = .str x :: tl := by
      obtain ⟨hdl, o⟩ := r
      have hh : hdl = x :: hd := hh
      subst hh
      rcases o with _ | ⟨cs, tl⟩ <;>
      · cases da with
        | cons h r =>
          cases h
          exact ⟨_, rfl⟩
    obtain ⟨tl, rfl⟩ := e0
    refine iteT ?_
    obtain ⟨fa, xs, rfl, sf, df⟩ : ∃ a xs, w = .ref a ∧ SqT K H a xs ∧ DpAll K H xs [.tuple [.str "key", .int 3], .tuple [.str "settles", .int 4]] := by
      cases hw with
      | tup h r => exact ⟨_, _, rfl, h, r⟩
    have gx : Asc x := (ok.hg x (by rw [hh]; simp)).1
    refine ⟨_, rfl, ra, _, 0, _, rfl, rfl, sq, atI_nat (j := 0) rfl, _, rfl, ra, _, rfl, .inr sq, (by show 2 ≤ sizeLine; decide), fun t nt => ?_⟩
    have k1 : Off (fun _ => False) H (upd H t (.tup [.str x, .int ((V.str x :: tl).length : Nat)])) := Off.new nt
    refine ⟨_, rfl, fa, xs, _, .tuple [.str x, .int ((V.str x :: tl).length : Nat)], rfl, .inr (sqT_off k1 sf), dpAll_off k1 df, .tup (SqT.of upd_same) (.cons (.str _) (.cons (.int _) .nil)), ?_, shaped_form gx, ?_⟩
    · have all : ∀ e ∈ ([.tuple [.str "key", .int 3], .tuple [.str "settles", .int 4]] : List PyData), SeqAt.shaped e = true := by decide +kernel
      exact all
    · have fe := form_eq ok hh
      rw [← lv] at fe
      rw [if_neg (by decide), fe]
      exact q _ k1
end
end LW
set_option Elab.async false
set_option linter.all false
set_option maxRecDepth 100000
set_option maxHeartbeats 0
/-! books.py: book[name], check_rule. -/
namespace LW
open PySem PySem.Spec PyProof.Rows L2 KV
/-- what the text says of the class -/
structure BookT (K : PySem.W.Frag) (mg : Str → Option Value) : Prop where
  cl : L2.Cls K (He.ga K "Book")
  n1 : NoAttr K (He.ga K "Book") "_tables"
  n2 : NoAttr K (He.ga K "Book") "_rules"
  mkr : Mk K (He.ga K "Book") (He.ma K (He.ga K "Book") "__init__")
  g : mg "Book" = some (.ref (He.ga K "Book"))
  it : ItemF K (He.ga K "Book") (He.ma K (He.ga K "Book") "__getitem__")
/-- at b: a book of these tables -/
def BookAt (K : PySem.W.Frag) (H : Hp) (b : Addr) (ts : List Tab) : Prop := ∃ dx fs v, H b = some (.ins (He.ga K "Book") dx fs) ∧ fs.lookup ("_tables" : Str) = some v ∧ Dp K H v (tabsD ts)
theorem BookAt.off {K : PySem.W.Frag} {H H' : Hp} {b : Addr} {ts : List Tab} (h : BookAt K H b ts) (k : Off (fun _ => False) H H') : BookAt K H' b ts := by
  obtain ⟨dx, fs, v, h1, h2, h3⟩ := h
  exact ⟨dx, fs, v, k _ _ h1 fun z => z, h2, dp_off k h3⟩
def itemX (K : PySem.W.Frag) (H : Hp) (Q : VK) (E : XK) (x : Str) : Option Tab → Prop
  | some t => ∀ l H', H' l = some (.lst (t.2.map V.str)) → Off (fun _ => False) H H' → Q (.ref l) H'
  | none => Raised K H E "UnknownTable" (.str x)
def spItem (K : PySem.W.Frag) : Sp := fun vs H Q E => ∃ (b : Addr) (x : Str) (ts : List Tab), vs = [.ref b, .str x] ∧ BookAt K H b ts ∧ itemX K H Q E x (tabOf ts x)
def spChkR (K : PySem.W.Frag) : Sp := fun vs H Q E => ∃ (b : Addr) (v : V) (ts : List Tab) (r : RB) (N M : Nat), vs = [.ref b, v] ∧ BookAt K H b ts ∧ Dp K H v (rbD r) ∧ RbOk N M r ∧ M ≤ 1000 ∧ endX K H Q E (wrong1 ts r)
theorem formed_ok {r : RB} (h : formed r = true) : ∃ k x cs tl, r = ([k, x], some (cs, tl)) ∧ ((k = "key" ∧ tl.length = 0) ∨ (k = "settles" ∧ tl.length = 1)) := by
  obtain ⟨hd, o⟩ := r
  rcases hd with _ | ⟨k, _ | ⟨x, _ | ⟨y, hd⟩⟩⟩
  · cases h
  · cases h
  · rcases o with _ | ⟨cs, tl⟩
    · cases h
    · exact ⟨k, x, cs, tl, rfl, of_decide_eq_true h⟩
  · cases h
theorem tabOf_cons_yes {t : Tab} {ts : List Tab} {x : Str} (h : t.1 = x) : tabOf (t :: ts) x = some t := by simp [tabOf, List.find?_cons, h]
theorem tabOf_cons_no {t : Tab} {ts : List Tab} {x : Str} (h : ¬ t.1 = x) : tabOf (t :: ts) x = tabOf ts x := by simp [tabOf, List.find?_cons, h]
section
variable {P : Program} {w : World} {K : PySem.W.Frag} {mg : Str → Option Value} {base : Heap}
theorem scItem : FnScope ["self", "name", "table", "columns"] ["self", "name"] (defScope pBook_getitem) := ⟨rfl, rfl, rfl, by decide +kernel, rfl, by decide +kernel, by decide +kernel⟩
theorem ok_item {f : Addr} {fd dE : FuncData} (F : FunD K "__getitem__" "Book.__getitem__" (defArgs pBook_getitem) (defBody pBook_getitem) (defScope pBook_getitem) [] [] f fd) (T : ErrT P w K mg base dE) (B : BookT K mg) (mL : mg "list" = none) :
    FnOk P w K mg base (L2.CX P w) 3 f fd ["self", "name"] (spItem K) := by
  have t1 := T.es.ok "UnknownTable" (by decide)
  have g1 := T.g "UnknownTable" (by decide)
  refine F.ok scItem (fun vs H Q E h => ?_) (fun cdv A outer s H vs Q E hr h => ?_)
  · obtain ⟨b, x, ts, rfl, _⟩ := h
    rfl
  obtain ⟨b, x, ts, rfl, hb, q⟩ := h
  refine ⟨_, (pss_cons (ps_for (passes_of rfl) rfl (pi_list (pe_fld (pv 0) rfl)) (pg_tup rfl (pgs_cons (pg_name (i := 2) scItem.nd rfl (Or.inl rfl)) (pgs_cons (pg_name (i := 3) scItem.nd rfl (Or.inl rfl)) pgs_nil)))
      (pss_one (ps_if (pt_cmpR op_eq (pv 2) (pv 1) (nomark _)) (pss_one (ps_ret (pe_callTy call_list_of rfl mL boot_list (pa_cons (pv 3) pa_nil)))) pss_nil)))
    (pss_one (ps_raise rfl (takes_of rfl rfl rfl rfl) (pmk_oex t1.oex t1.ini t1.fn T.ini hr T.b .nil pass0 rfl g1 (pa_cons (pv 1) pa_nil))))), ?_⟩
  have no : ¬ False := fun z => z
  obtain ⟨dx, fs, v, h1, h2, h3⟩ := hb
  obtain ⟨aw, xw, rfl, qw, rw'⟩ := dp_tabs h3
  have lw : xw.length = ts.length := by rw [dpAll_length rw', List.length_map]
  refine ⟨_, rfl, b, _, dx, fs, _, rfl, h1, B.cl, B.n1, h2, aw, rfl, ⟨_, qw⟩, for_list (K := K) (a := aw) (xs := xw) (fun i σ H' => ∃ w2 w3, σ = [some (.ref b), some (.str x), w2, w3] ∧ Off (fun _ => False) H H' ∧ tabOf ts x = tabOf (ts.drop i) x)
    ⟨none, none, rfl, Off.refl _ _, rfl⟩ (fun i σ H' _ g => ?_) (fun i y σ H' hy g => ?_) fun σ H' g => ?_⟩
  · obtain ⟨_, _, _, k, _⟩ := g
    exact sqL_off k qw
  · obtain ⟨w2, w3, rfl, k, eq⟩ := g
    obtain ⟨dt, edt, hdt⟩ := dpAll_at rw' hy
    rw [List.getElem?_map] at edt
    obtain ⟨t, et, rfl⟩ := Option.map_eq_some_iff.mp edt
    obtain ⟨ta, wc, rfl, st, dc⟩ := dp_tab hdt
    obtain ⟨ca, rfl, _⟩ := dp_cols dc
    rw [drop_cons et] at eq
    refine ⟨ta, [.str t.1, .ref ca], rfl, sqT_off k st, rfl, .str t.1, [.ref ca], rfl, .ref ca, [], rfl, rfl, ?_⟩
    refine ⟨_, rfl, _, rfl, rfl, _, rfl, ite2 (fun c => ?_) (fun c => ?_)⟩
    · have ex : t.1 = x := V.str.inj (of_decide_eq_true c)
      rw [tabOf_cons_yes ex] at eq
      rw [eq] at q
      refine ⟨_, rfl, ca, _, rfl, .inl (dp_cols_ref (dp_off k dc)), fun l hl => ?_⟩
      exact q l _ upd_same (k.trans (Off.new hl))
    · have ex : ¬ t.1 = x := fun z => c (decide_eq_true (by rw [z]))
      rw [tabOf_cons_no ex] at eq
      exact ⟨_, _, rfl, k, eq⟩
  · obtain ⟨w2, w3, rfl, k, eq⟩ := g
    rw [lw, List.drop_length] at eq
    rw [eq] at q
    exact ⟨_, rfl, raise_str t1 k q⟩
theorem scChkR : FnScope ["book", "rule", "known", "column"] ["book", "rule"] (defScope pCheckRule) := ⟨rfl, rfl, rfl, by decide +kernel, rfl, by decide +kernel, by decide +kernel⟩
theorem ok_chkR {f fF fC : Addr} {fd dE dF dC dI : FuncData} {RF : Addr} (F : FnP K "check_rule" pCheckRule f fd) (T : ErrT P w K mg base dE) (B : BookT K mg)
    (GF : FnOk P w K mg base CX0 2 fF dF ["thing", "forms"] (spForm K)) (bF : Binds K dF ["thing", "forms"] []) (mF : mg "has_form" = some (.ref fF)) (kF : PySem.W.keepIn K (.ref fF) = true)
    (GC : FnOk P w K mg base CX0 6 fC dC ["thing"] (spCopied K 6)) (bC : Binds K dC ["thing"] []) (mC : mg "copied" = some (.ref fC)) (kC : PySem.W.keepIn K (.ref fC) = true)
    (GI : FnOk P w K mg base (L2.CX P w) 3 (He.ma K (He.ga K "Book") "__getitem__") dI ["self", "name"] (spItem K)) (bI : Binds K dI ["self", "name"] [])
    (mR : mg "RULE_FORMS" = some (.ref RF)) (hR : ∀ H, Dp K H (.ref RF) formsD) :
    FnOk P w K mg base (L2.CX P w) 7 f fd ["book", "rule"] (spChkR K) := by
  have GF6 : FnOk P w K mg base CX0 6 fF dF ["thing", "forms"] (spForm K) := GF.mono (by decide)
  have t1 := T.es.ok "InvalidRule" (by decide)
  have g1 := T.g "InvalidRule" (by decide)
  have t2 := T.es.ok "UnknownColumn" (by decide)
  have g2 := T.g "UnknownColumn" (by decide)
  refine F.ok scChkR (fun vs H Q E h => ?_) (fun cdv A outer s H vs Q E hr h => ?_)
  · obtain ⟨b, v, ts, r, N, M, rfl, _⟩ := h
    rfl
  obtain ⟨b, v, ts, r, N, M, rfl, hb, hv, ok, hM, q⟩ := h
  refine ⟨_, (pss_cons (ps_if (pt_not (pt_val (pe_call GF6 hr rfl mF kF bF .nil pass0 (pa_cons (pv 1) (pa_cons (pe_glob (v := .ref RF) rfl mR rfl) pa_nil)))))
      (pss_one (ps_raise rfl (takes_of rfl rfl rfl rfl) (pmk_oex t1.oex t1.ini t1.fn T.ini (hr.mono (by decide)) T.b .nil pass0 rfl g1 (pa_cons (pe_call GC hr rfl mC kC bC .nil pass0 (pa_cons (pv 1) pa_nil)) pa_nil)))) pss_nil)
    (pss_cons (ps_set (i := 2) scChkR.nd rfl (Or.inl rfl) (pe_itemS (C := He.ga K "Book") B.it GI (hr.mono (by decide)) bI (fun σ => passAt (takes_of rfl rfl rfl rfl) σ) (pv 0) (pe_ix ix_tup (pv 1) pe_int (fun _ _ => rfl))))
    (pss_one (ps_for (passes_of rfl) rfl (pi_list (pe_lst (StX.pa_star (pe_ix ix_tup (pv 1) pe_int (fun _ _ => rfl)) (StX.pa_star (pe_slice sl_tupW (pv 1) (po_some pe_int) po_none) pa_nil)))) (pg_name (i := 3) scChkR.nd rfl (Or.inl rfl))
      (pss_one (ps_if (pt_cmpR op_notIn_seq (pv 3) (pv 2) rfl)
        (pss_one (ps_raise rfl (takes_of rfl rfl rfl rfl) (pmk_oex t2.oex t2.ini t2.fn T.ini (hr.mono (by decide)) T.b .nil pass0 rfl g2 (pa_cons (pv 3) pa_nil)))) pss_nil)))))), ?_⟩
  have no : ¬ False := fun z => z
  refine ⟨_, rfl, v, .ref RF, r, N, M, rfl, hv, ok, hR _, fun H1 k1 => ⟨_, rfl, ?_⟩⟩
  cases hf : formed r with
  | false =>
    rw [wrong1_formed hf] at q
    refine iteT ⟨_, rfl, v, rbD r, N, [5, M], rfl, dp_off k1 hv, fit_rb ok, by simp; omega, (by show 2 < 6; decide), fun v' Fo H2 o2 fr2 k2 => raise_of t1 fun d hd => ?_⟩
    have k3 := k2.trans (Off.new (o := .xd [("value", v')]) hd)
    refine (Raised.off q k1) v' Fo d _ k3 (k2.none hd no) upd_same (o2.keep (Off.new hd) (fun _ z => z.elim) fun _ _ z => z) fr2
  | true =>
    obtain ⟨k0, x0, cs, tl, rfl, fm⟩ := formed_ok hf
    have w1 := wrong1_yes (ts := ts) (x := x0) (cs := cs) fm
    rw [w1] at q
    obtain ⟨lc, gc, lt, gt⟩ := ok.cs cs tl rfl
    obtain ⟨ra, vs, rfl, sq, da⟩ : ∃ a vs, v = .ref a ∧ SqT K H a vs ∧ DpAll K H vs (rbL ([k0, x0], some (cs, tl))) := by
      cases hv with
      | tup h r => exact ⟨_, _, rfl, h, r⟩
    obtain ⟨ca, rfl, dc⟩ : ∃ ca, vs = .str k0 :: .str x0 :: .ref ca :: tl.map V.str ∧ Dp K H (.ref ca) (colsD cs) := by
      cases da with
      | cons h r =>
        cases h
        cases r with
        | cons h r =>
          cases h
          cases r with
          | cons h r =>
            obtain ⟨ca, rfl, _⟩ := dp_cols h
            exact ⟨ca, by rw [dpAll_strs r], h⟩
    have lv : (V.str k0 :: V.str x0 :: V.ref ca :: tl.map V.str).length = 3 + tl.length := by
      simp
      omega
    have at1 : atI (V.str k0 :: V.str x0 :: V.ref ca :: tl.map V.str) 1 = some (V.str x0) := atI_nat (j := 1) rfl
    have at2 : atI (V.str k0 :: V.str x0 :: V.ref ca :: tl.map V.str) 2 = some (V.ref ca) := atI_nat (j := 2) rfl
    have hb1 := hb.off k1
    obtain ⟨dx, fs, v1, h1, h2, h3⟩ := id hb1
    refine iteF ⟨_, rfl, _, rfl, ra, _, 1, _, rfl, rfl, sqT_off k1 sq, at1, b, dx, fs, rfl, h1, b, x0, ts, rfl, hb1, ?_⟩
    cases e1 : tabOf ts x0 with
    | none =>
      rw [e1] at q
      exact Raised.off q k1
    | some t =>
      rw [e1] at q
      dsimp only at q
      intro l H2 el k2
      have k12 := k1.trans k2
      refine ⟨_, rfl, ra, _, 2, _, rfl, rfl, sqT_off k12 sq, at2, ca, _, rfl, .inr (dp_cols_ref (dp_off k12 dc)), _, rfl, _, rfl, ra, _, rfl, sqT_off k12 sq, fun _ p3 hp3 => ?_, fun c => by rw [lv] at c; simp [HT.sIx] at c⟩
      have ecut3 : cutV (V.str k0 :: V.str x0 :: V.ref ca :: tl.map V.str) (some 3) none = tl.map V.str := by
        rw [cutV_tail (by decide)]
        rfl
      rw [ecut3]
      have k3 := k12.trans (Off.new (o := .tup (tl.map V.str)) hp3)
      have k23 := k2.trans (Off.new (o := .tup (tl.map V.str)) hp3)
      have e3 : cs.map V.str ++ (tl.map V.str ++ []) = (cs ++ tl).map V.str := by simp
      refine ⟨p3, _, rfl, .inl (SqT.of upd_same), ?_, fun m hm => ?_⟩
      · rw [e3, List.length_map, List.length_append]
        exact Nat.le_trans (m := 1002) (by omega) (by decide)
      rw [e3]
      have em := upd_same (H := upd H2 p3 (.tup (tl.map V.str))) (a := m) (o := .lst ((cs ++ tl).map V.str))
      have k4 := k3.trans (Off.new (o := .lst ((cs ++ tl).map V.str)) hm)
      have el4 := (Off.new (G := fun _ => False) (o := .lst ((cs ++ tl).map V.str)) hm) _ _ ((Off.new (G := fun _ => False) (o := .tup (tl.map V.str)) hp3) _ _ el no) no
      generalize upd (upd H2 p3 (.tup (tl.map V.str))) m (.lst ((cs ++ tl).map V.str)) = G at em k4 el4 ⊢
      refine ⟨m, rfl, ⟨_, SqL.of em⟩, for_list (K := K) (a := m) (xs := (cs ++ tl).map V.str) (fun i σ H' => ∃ w3, σ = [some (.ref b), some (.ref ra), some (.ref l), w3] ∧ Off (fun _ => False) G H' ∧
          (cs ++ tl).find? (fun c => !decide (c ∈ t.2)) = ((cs ++ tl).drop i).find? fun c => !decide (c ∈ t.2))
        ⟨none, rfl, Off.refl _ _, rfl⟩ (fun i σ H' _ g => ?_) (fun i y σ H' hy g => ?_) fun σ H' g => ?_⟩
      · obtain ⟨_, _, k, _⟩ := g
        exact SqL.of (k _ _ em no)
      · obtain ⟨w3, rfl, k, eq⟩ := g
        rw [List.getElem?_map] at hy
        obtain ⟨c, hc, rfl⟩ := Option.map_eq_some_iff.mp hy
        rw [drop_cons hc, List.find?_cons] at eq
        refine ⟨_, rfl, _, rfl, l, _, rfl, .inl (SqL.of (k _ _ el4 no)), rfl, flat_strs _, _, rfl, ?_⟩
        rw [if_pos rfl, inV_strs]
        refine ite2 (fun z => ?_) (fun z => ?_)
        · rw [z] at eq
          rw [eq] at q
          exact ⟨_, rfl, raise_str t2 (k4.trans k) q⟩
        · rw [Bool.eq_false_iff.mpr z] at eq
          exact ⟨_, rfl, k, eq⟩
      · obtain ⟨w3, rfl, k, eq⟩ := g
        rw [List.length_map, List.drop_length] at eq
        rw [eq] at q
        exact q H' (k4.trans k)
end
end LW
set_option Elab.async false
set_option linter.all false
set_option maxRecDepth 100000
set_option maxHeartbeats 0
/-! books.py: Book(..), tables, rules. -/
namespace LW
open PySem PySem.Spec PyProof.Rows L2 KV
theorem NoSq.ins {H : Hp} {p C dx : Addr} {fs : List (Str × V)} (h : H p = some (.ins C dx fs)) : NoSq H p := by
  refine ⟨fun xs z => ?_, fun xs z => ?_⟩ <;>
  · rcases z with z | ⟨o, z⟩ <;> rw [h] at z <;> cases z
theorem Off.in {H H' : Hp} {p : Addr} (k : Off (fun _ => False) H H') : Off (fun a => a = p) H H' := k.mono fun _ z => z.elim
theorem lookup_one (f : Str) (v : V) : List.lookup f (putF f v []) = some v := by simp [putF, List.lookup]
theorem put_two (v1 v2 : V) : putF "_rules" v2 (putF "_tables" v1 []) = [(("_tables" : Str), v1), (("_rules" : Str), v2)] := by
  have h : ¬ ("_tables" : Str) = "_rules" := by decide +kernel
  simp [putF, h]
/-- at b: the book of these tables and rules -/
def BookOf (K : PySem.W.Frag) (H : Hp) (b : Addr) (ts : List Tab) (rs : List RB) : Prop := ∃ dx v1 v2, H b = some (.ins (He.ga K "Book") dx [("_tables", v1), ("_rules", v2)]) ∧ Dp K H v1 (tabsD ts) ∧ Dp K H v2 (rbsD rs)
theorem BookOf.off {K : PySem.W.Frag} {H H' : Hp} {b : Addr} {ts : List Tab} {rs : List RB} (h : BookOf K H b ts rs) (k : Off (fun _ => False) H H') : BookOf K H' b ts rs := by
  obtain ⟨dx, v1, v2, h1, h2, h3⟩ := h
  exact ⟨dx, v1, v2, k _ _ h1 fun z => z, dp_off k h2, dp_off k h3⟩
def bookX (K : PySem.W.Frag) (H : Hp) (x : Addr) (ts : List Tab) (rs : List RB) (Q : VK) (E : XK) : Option (Str × PyData) → Prop
  | none => ∀ H', BookOf K H' x ts rs → Off (fun a => a = x) H H' → Q .non H'
  | some (y, e) => ∀ (u : V) (Fo : Fp) (d : Addr) (H' : Hp), Off (fun a => a = x) H H' → H d = none → H' d = some (.xd [("value", u)]) → Ow H' u e Fo → (∀ a, Fo a → H a = none) → E (.ref (He.ga K y)) (some d) H'
theorem bookX_raised {K : PySem.W.Frag} {H H1 : Hp} {x : Addr} {ts : List Tab} {rs : List RB} {Q : VK} {E : XK} {y : Str} {e : PyData} (q : bookX K H x ts rs Q E (some (y, e))) (k : Off (fun a => a = x) H H1) (nx : H x ≠ none) (hx : H1 x ≠ none) : Raised K H1 E y e := by
  intro u Fo d H' k1 nd ed o f
  have non : ∀ a, H1 a = none → H a = none := fun a z => by
    by_cases y : a = x
    · exact absurd (y ▸ z) hx
    · exact k.none z y
  exact q u Fo d H' (k.trans (Off.in k1)) (non d nd) ed o fun a z => non a (f a z)
structure BkB (n mc mt N M L : Nat) (ts : List Tab) (rs : List RB) : Prop where
  tb : TabsB n mc mt ts
  rb : ∀ r ∈ rs, RbOk N M r
  hn : n ≤ 1000
  hmc : mc ≤ 1000
  hmt : mt ≤ 1000
  hM : M ≤ 1000
  lr : rs.length ≤ L
  hL : L ≤ 1000
def spBook (K : PySem.W.Frag) : Sp := fun vs H Q E => ∃ (x dx : Addr) (v w : V) (ts : List Tab) (rs : List RB) (n mc mt N M L : Nat), vs = [.ref x, v, w] ∧ H x = some (.ins (He.ga K "Book") dx []) ∧ Dp K H v (tabsD ts) ∧ Dp K H w (rbsD rs) ∧ BkB n mc mt N M L ts rs ∧
  bookX K H x ts rs Q E (wrongBook ts rs)
section
variable {P : Program} {w : World} {K : PySem.W.Frag} {mg : Str → Option Value} {base : Heap}
theorem scBook : FnScope ["self", "tables", "rules", "rule"] ["self", "tables", "rules"] (defScope pBook_init) := ⟨rfl, rfl, rfl, by decide +kernel, rfl, by decide +kernel, by decide +kernel⟩
theorem ok_book {f fT fC fR : Addr} {fd dT dC dR : FuncData} (F : FunD K "__init__" "Book.__init__" (defArgs pBook_init) (defBody pBook_init) (defScope pBook_init) [] [] f fd) (B : BookT K mg)
    (GT : FnOk P w K mg base (L2.CX P w) 5 fT dT ["tables"] (spChkT K)) (bT : Binds K dT ["tables"] []) (mT : mg "check_tables" = some (.ref fT)) (kT : PySem.W.keepIn K (.ref fT) = true)
    (GC : FnOk P w K mg base CX0 6 fC dC ["thing"] (spCopied K 6)) (bC : Binds K dC ["thing"] []) (mC : mg "copied" = some (.ref fC)) (kC : PySem.W.keepIn K (.ref fC) = true)
    (GR : FnOk P w K mg base (L2.CX P w) 7 fR dR ["book", "rule"] (spChkR K)) (bR : Binds K dR ["book", "rule"] []) (mR : mg "check_rule" = some (.ref fR)) (kR : PySem.W.keepIn K (.ref fR) = true) :
    FnOk P w K mg base (L2.CX P w) 8 f fd ["self", "tables", "rules"] (spBook K) := by
  have GT7 : FnOk P w K mg base (L2.CX P w) 7 fT dT ["tables"] (spChkT K) := GT.mono (by decide)
  have GC7 : FnOk P w K mg base CX0 7 fC dC ["thing"] (spCopied K 6) := GC.mono (by decide)
  refine F.ok scBook (fun vs H Q E h => ?_) (fun cdv A outer s H vs Q E hr h => ?_)
  · obtain ⟨x, dx, v, w, ts, rs, n, mc, mt, N, M, L, rfl, _⟩ := h
    rfl
  obtain ⟨x, dx, v, w, ts, rs, n, mc, mt, N, M, L, rfl, hx, hv, hw, bb, q⟩ := h
  refine ⟨_, (pss_cons (ps_expr (pe_callS GT7 hr rfl mT kT bT (fun σ => passAt (takes_of rfl rfl rfl rfl) σ) (pa_cons (pv 1) pa_nil)))
    (pss_cons (ps_fld (pv 0) (pe_call GC7 hr rfl mC kC bC .nil pass0 (pa_cons (pv 1) pa_nil)) rfl)
    (pss_cons (ps_for (passes_of rfl) rfl (pi_list (pv 2)) (pg_name (i := 3) scBook.nd rfl (Or.inl rfl))
      (pss_one (ps_expr (pe_callS GR hr rfl mR kR bR (fun σ => passAt (takes_of rfl rfl rfl rfl) σ) (pa_cons (pv 0) (pa_cons (pv 3) pa_nil))))))
    (pss_one (ps_fld (pv 0) (pe_call GC7 hr rfl mC kC bC .nil pass0 (pa_cons (pv 2) pa_nil)) rfl))))), ?_⟩
  have no : ¬ False := fun z => z
  have nx : H x ≠ none := by rw [hx]; simp
  refine ⟨_, rfl, v, ts, n, mc, mt, rfl, hv, bb.tb, bb.hn, bb.hmc, bb.hmt, ?_⟩
  unfold wrongBook at q
  cases e1 : wrongTabs [] ts with
  | some z =>
    rw [e1] at q
    exact bookX_raised q (Off.refl _ _) nx nx
  | none =>
    rw [e1] at q
    dsimp only at q
    intro H1 k1
    have hx1 := k1 _ _ hx no
    refine ⟨_, rfl, v, tabsD ts, n, [mt, 2, mc], rfl, dp_off k1 hv, fit_tabs bb.tb, ?_, (by show 3 < 6; decide), fun v1 F1 H2 o1 fr1 k2 => ?_⟩
    · have h1 := bb.hmt
      have h2 := bb.hmc
      simp
      omega
    have hx2 := k2 _ _ hx1 no
    refine ⟨_, rfl, x, _, dx, [], rfl, hx2, B.cl, B.n1, (by decide), ?_⟩
    have kx : Off (fun a => a = x) H2 (upd H2 x (.ins (He.ga K "Book") dx (putF "_tables" v1 []))) := Off.upd rfl
    have hx3 := upd_same (H := H2) (a := x) (o := .ins (He.ga K "Book") dx (putF "_tables" v1 []))
    have d1 := dp_in (K := K) kx (NoSq.ins hx2) o1.dp
    have w3 := dp_in kx (NoSq.ins hx2) (dp_off k2 (dp_off k1 hw))
    have k3 : Off (fun a => a = x) H (upd H2 x (.ins (He.ga K "Book") dx (putF "_tables" v1 []))) := (Off.in (k1.trans k2)).trans kx
    generalize upd H2 x (.ins (He.ga K "Book") dx (putF "_tables" v1 [])) = G at hx3 d1 w3 k3 ⊢
    have ba : BookAt K G x ts := ⟨dx, _, v1, hx3, lookup_one _ _, d1⟩
    obtain ⟨aw, xw, rfl, qw, rw'⟩ : ∃ a xs, w = .ref a ∧ SqL K G a xs ∧ DpAll K G xs (rs.map rbD) := by
      cases w3 with
      | lst h r => exact ⟨_, _, rfl, h, r⟩
    have lw : xw.length = rs.length := by rw [dpAll_length rw', List.length_map]
    refine ⟨_, rfl, aw, rfl, ⟨_, qw⟩, for_list (K := K) (a := aw) (xs := xw) (fun i σ H' => ∃ w3, σ = [some (.ref x), some v, some (.ref aw), w3] ∧ Off (fun _ => False) G H' ∧ wrongs ts rs = wrongs ts (rs.drop i))
      ⟨none, rfl, Off.refl _ _, rfl⟩ (fun i σ H' _ g => ?_) (fun i y σ H' hy g => ?_) fun σ H' g => ?_⟩
    · obtain ⟨_, _, k, _⟩ := g
      exact sqL_off k qw
    · obtain ⟨w3, rfl, k, eq⟩ := g
      obtain ⟨dr, edr, hdr⟩ := dpAll_at rw' hy
      rw [List.getElem?_map] at edr
      obtain ⟨r, er, rfl⟩ := Option.map_eq_some_iff.mp edr
      rw [drop_cons er, wrongs] at eq
      refine ⟨_, rfl, _, rfl, x, y, ts, r, N, M, rfl, ba.off k, dp_off k hdr, bb.rb r (List.mem_of_getElem? er), bb.hM, ?_⟩
      cases e2 : wrong1 ts r with
      | some z =>
        rw [e2] at eq
        rw [eq] at q
        exact (bookX_raised q k3 nx (by rw [hx3]; simp)).off k
      | none =>
        rw [e2] at eq
        intro H5 k5
        exact ⟨_, rfl, k.trans k5, eq⟩
    · obtain ⟨w3, rfl, k, eq⟩ := g
      rw [lw, List.drop_length] at eq
      rw [eq] at q
      refine ⟨_, rfl, .ref aw, rbsD rs, N, [L, 5, M], rfl, .lst (sqL_off k qw) (dpAll_off k rw'), fit_rbs bb.lr bb.rb, ?_, (by show 3 < 6; decide), fun v2 F2 H6 o2 fr2 k6 => ?_⟩
      · have h1 := bb.hL
        have h2 := bb.hM
        simp
        omega
      have kk := k.trans k6
      have hx6 := kk _ _ hx3 no
      refine ⟨_, rfl, x, _, dx, _, rfl, hx6, B.cl, B.n2, (by show 1 < 1000; decide), ?_⟩
      have kz : Off (fun a => a = x) H6 (upd H6 x (.ins (He.ga K "Book") dx (putF "_rules" v2 (putF "_tables" v1 [])))) := Off.upd rfl
      refine q _ ⟨dx, v1, v2, ?_, dp_in kz (NoSq.ins hx6) (dp_off kk d1), dp_in kz (NoSq.ins hx6) o2.dp⟩ ((k3.trans (Off.in kk)).trans kz)
      rw [upd_same, put_two]
end
end LW
set_option Elab.async false
set_option linter.all false
set_option maxRecDepth 100000
set_option maxHeartbeats 0
/-! book.tables, book.rules; _law_caught_of -/
namespace LW
open PySem PySem.Spec PyProof.Rows L2 KV
def spGetT (K : PySem.W.Frag) : Sp := fun vs H Q _ => ∃ (b : Addr) (ts : List Tab) (rs : List RB) (n mc mt N M L : Nat), vs = [.ref b] ∧ BookOf K H b ts rs ∧ BkB n mc mt N M L ts rs ∧
  ∀ v' F' H', Ow H' v' (tabsD ts) F' → (∀ a, F' a → H a = none) → Off (fun _ => False) H H' → Q v' H'
def spGetR (K : PySem.W.Frag) : Sp := fun vs H Q _ => ∃ (b : Addr) (ts : List Tab) (rs : List RB) (n mc mt N M L : Nat), vs = [.ref b] ∧ BookOf K H b ts rs ∧ BkB n mc mt N M L ts rs ∧
  ∀ v' F' H', Ow H' v' (rbsD rs) F' → (∀ a, F' a → H a = none) → Off (fun _ => False) H H' → Q v' H'
/-- how the catch of a book's making ends -/
def caughtX (K : PySem.W.Frag) (H : Hp) (ts : List Tab) (rs : List RB) (Q : VK) : Option (Str × PyData) → Prop
  | none => ∀ b t H', BookOf K H' b ts rs → SqT K H' t [.ref b, .non] → Off (fun _ => False) H H' → Q (.ref t) H'
  | some (y, e) => ∀ a dx t u Fo H', Cau H' a (He.ga K y) dx [("value", u)] → Ow H' u e Fo → (∀ b, Fo b → H b = none) → SqT K H' t [.non, .ref a] → Off (fun _ => False) H H' → Q (.ref t) H'
def spCaught (K : PySem.W.Frag) : Sp := fun vs H Q _ => ∃ (v w : V) (way : Int) (ts : List Tab) (rs : List RB) (n mc mt N M L : Nat), vs = [v, w, .int way] ∧ Dp K H v (tabsD ts) ∧ Dp K H w (rbsD rs) ∧ BkB n mc mt N M L ts rs ∧
  caughtX K H ts rs Q (wrongBook ts rs)
theorem wrongName_mem {b : List Str} {x y : Str} {e : PyData} (h : wrongName b x = some (y, e)) : y ∈ names.tail := by
  unfold wrongName at h
  split at h
  · cases h
    decide
  · split at h
    · cases h
      decide
    · cases h
theorem wrongCols_mem {y : Str} {e : PyData} : ∀ {cs b : List Str}, wrongCols b cs = some (y, e) → y ∈ names.tail
  | [], b, h => by
    rw [wrongCols] at h
    cases h
  | c :: cs, b, h => by
    rw [wrongCols_cons] at h
    cases q : wrongName b c with
    | none =>
      rw [q] at h
      exact wrongCols_mem h
    | some z =>
      rw [q] at h
      cases h
      exact wrongName_mem q
theorem wrongTabs_mem {y : Str} {e : PyData} : ∀ {ts : List Tab} {b : List Str}, wrongTabs b ts = some (y, e) → y ∈ names.tail
  | [], b, h => by
    rw [wrongTabs] at h
    cases h
  | t :: ts, b, h => by
    rw [wrongTabs_cons] at h
    cases q : wrongName b t.1 with
    | some z =>
      rw [q] at h
      cases h
      exact wrongName_mem q
    | none =>
      rw [q] at h
      dsimp only at h
      cases q2 : wrongCols [] t.2 with
      | some z =>
        rw [q2] at h
        cases h
        exact wrongCols_mem q2
      | none =>
        rw [q2] at h
        exact wrongTabs_mem h
theorem wrong1_mem {ts : List Tab} {r : RB} {y : Str} {e : PyData} (h : wrong1 ts r = some (y, e)) : y ∈ names.tail := by
  cases hf : formed r with
  | false =>
    rw [wrong1_formed hf] at h
    cases h
    decide
  | true =>
    obtain ⟨k, x, cs, tl, rfl, fm⟩ := formed_ok hf
    rw [wrong1_yes fm] at h
    cases q : tabOf ts x with
    | none =>
      rw [q] at h
      cases h
      decide
    | some t =>
      rw [q] at h
      dsimp only at h
      cases q2 : (cs ++ tl).find? fun c => !decide (c ∈ t.2) with
      | none =>
        rw [q2] at h
        cases h
      | some c =>
        rw [q2] at h
        cases h
        decide
theorem wrongs_mem {ts : List Tab} {y : Str} {e : PyData} : ∀ {rs : List RB}, wrongs ts rs = some (y, e) → y ∈ names.tail
  | [], h => by
    rw [wrongs] at h
    cases h
  | r :: rs, h => by
    rw [wrongs] at h
    cases q : wrong1 ts r with
    | some z =>
      rw [q] at h
      cases h
      exact wrong1_mem q
    | none =>
      rw [q] at h
      exact wrongs_mem h
theorem wrongBook_mem {ts : List Tab} {rs : List RB} {y : Str} {e : PyData} (h : wrongBook ts rs = some (y, e)) : y ∈ names.tail := by
  unfold wrongBook at h
  cases q : wrongTabs [] ts with
  | some z =>
    rw [q] at h
    cases h
    exact wrongTabs_mem q
  | none =>
    rw [q] at h
    exact wrongs_mem h
section
variable {P : Program} {w : World} {K : PySem.W.Frag} {mg : Str → Option Value} {base : Heap}
theorem scGetT : FnScope ["self"] ["self"] (defScope pBook_tables) := ⟨rfl, rfl, rfl, by decide +kernel, rfl, by decide +kernel, by decide +kernel⟩
theorem ok_getT {f fC : Addr} {fd dC : FuncData} (F : FunD K "tables" "Book.tables" (defArgs pBook_tables) (defBody pBook_tables) (defScope pBook_tables) [] [] f fd) (B : BookT K mg)
    (GC : FnOk P w K mg base CX0 6 fC dC ["thing"] (spCopied K 6)) (bC : Binds K dC ["thing"] []) (mC : mg "copied" = some (.ref fC)) (kC : PySem.W.keepIn K (.ref fC) = true) :
    FnOk P w K mg base CX0 7 f fd ["self"] (spGetT K) := by
  refine F.ok scGetT (fun vs H Q E h => ?_) (fun cdv A outer s H vs Q E hr h => ?_)
  · obtain ⟨b, ts, rs, n, mc, mt, N, M, L, rfl, _⟩ := h
    rfl
  obtain ⟨b, ts, rs, n, mc, mt, N, M, L, rfl, hb, bb, q⟩ := h
  refine ⟨_, pss_one (ps_ret (pe_call GC hr rfl mC kC bC .nil pass0 (pa_cons (pe_fld (pv 0) rfl) pa_nil))), ?_⟩
  obtain ⟨dx, v1, v2, h1, h2, h3⟩ := hb
  refine ⟨_, rfl, b, _, dx, _, v1, rfl, h1, B.cl, B.n1, by simp [List.lookup], v1, tabsD ts, n, [mt, 2, mc], rfl, h2, fit_tabs bb.tb, ?_, (by show 3 < 6; decide), q⟩
  have h1 := bb.hmt
  have h2 := bb.hmc
  simp
  omega
theorem scGetR : FnScope ["self"] ["self"] (defScope pBook_rules) := ⟨rfl, rfl, rfl, by decide +kernel, rfl, by decide +kernel, by decide +kernel⟩
theorem ok_getR {f fC : Addr} {fd dC : FuncData} (F : FunD K "rules" "Book.rules" (defArgs pBook_rules) (defBody pBook_rules) (defScope pBook_rules) [] [] f fd) (B : BookT K mg)
    (GC : FnOk P w K mg base CX0 6 fC dC ["thing"] (spCopied K 6)) (bC : Binds K dC ["thing"] []) (mC : mg "copied" = some (.ref fC)) (kC : PySem.W.keepIn K (.ref fC) = true) :
    FnOk P w K mg base CX0 7 f fd ["self"] (spGetR K) := by
  refine F.ok scGetR (fun vs H Q E h => ?_) (fun cdv A outer s H vs Q E hr h => ?_)
  · obtain ⟨b, ts, rs, n, mc, mt, N, M, L, rfl, _⟩ := h
    rfl
  obtain ⟨b, ts, rs, n, mc, mt, N, M, L, rfl, hb, bb, q⟩ := h
  refine ⟨_, pss_one (ps_ret (pe_call GC hr rfl mC kC bC .nil pass0 (pa_cons (pe_fld (pv 0) rfl) pa_nil))), ?_⟩
  obtain ⟨dx, v1, v2, h1, h2, h3⟩ := hb
  have ne : (("_rules" : Str) == ("_tables" : Str)) = false := by decide +kernel
  refine ⟨_, rfl, b, _, dx, _, v2, rfl, h1, B.cl, B.n2, by simp [List.lookup, ne], v2, rbsD rs, N, [L, 5, M], rfl, h3, fit_rbs bb.lr bb.rb, ?_, (by show 3 < 6; decide), q⟩
  have h1 := bb.hL
  have h2 := bb.hM
  simp
  omega
theorem scCaught : FnScope ["tables_here", "rules_here", "way", "made", "caught", "e"] ["tables_here", "rules_here", "way"] (defScope sCaughtOf) := ⟨rfl, rfl, rfl, by decide +kernel, rfl, by decide +kernel, by decide +kernel⟩
theorem ok_caught {f : Addr} {fd dB : FuncData} {g : List Value → List Value → List Value} (F : FnP K "_law_caught_of" sCaughtOf f fd) (B : BookT K mg) (GB : FnOk P w K mg base (L2.CX P w) 8 (He.ma K (He.ga K "Book") "__init__") dB ["self", "tables", "rules"] (spBook K)) (bB : Binds K dB ["self", "tables", "rules"] [])
    (kB : KBn K dB ["self", "tables", "rules"] 1 ["rules", "tables"] g (fun us zs => us ++ zs.reverse)) (gE : mg "KeyTellError" = some (.ref (He.ga K "KeyTellError")))
    (exm : ∀ y ∈ names.tail, PySem.W.exmOne K (.ref (He.ga K y)) (.ref (He.ga K "KeyTellError")) = some true) :
    FnOk P w K mg base CX0 10 f fd ["tables_here", "rules_here", "way"] (spCaught K) := by
  refine F.ok scCaught (fun vs H Q E h => ?_) (fun cdv A outer s H vs Q E hr h => ?_)
  · obtain ⟨v, w, way, ts, rs, n, mc, mt, N, M, L, rfl, _⟩ := h
    rfl
  obtain ⟨v, w, way, ts, rs, n, mc, mt, N, M, L, rfl, hv, hw, bb, q⟩ := h
  refine ⟨_, PSs.nox (pss_cons (ps_asg (pe_tup (pa_cons pe_non (pa_cons pe_non pa_nil))) (pg_tup rfl (pgs_cons (pg_name (i := 3) scCaught.nd rfl (Or.inl rfl)) (pgs_cons (pg_name (i := 4) scCaught.nd rfl (Or.inl rfl)) pgs_nil))))
    (pss_cons (ps_try_keep (i := 5) rfl rfl scCaught.nd rfl rfl rfl ⟨rfl, by decide, .inl gE⟩ takes0 (fun W pn xe tk _ =>
        pss_one (ps_set (i := 3) scCaught.nd rfl (Or.inl rfl) (pe_ifExp (pt_cmpR op_eq (pv 2) pe_int (nomark _)) (pe_makeS B.mkr GB hr rfl B.g bB (fun σ => passAt tk σ) (pa_cons (pv 0) (pa_cons (pv 1) pa_nil)))
          (pe_makeKS B.mkr GB hr rfl B.g kB (fun σ => passAt tk σ) (pk_cons (pv 1) (pk_cons (pv 0) pk_nil))))))
      (fun a oe cls d pn hz hf => pss_one (ps_set (i := 4) scCaught.nd rfl (Or.inl rfl) (pv 5))))
    (pss_one (ps_ret (pe_tup (pa_cons (pv 3) (pa_cons (pv 4) pa_nil))))))), ?_⟩
  have no : ¬ False := fun z => z
  refine ⟨(by show 2 ≤ sizeLine; decide), fun t0 n0 => ?_⟩
  have k0 : Off (fun _ => False) H (upd H t0 (.tup [.non, .non])) := Off.new n0
  refine ⟨t0, [.non, .non], rfl, SqT.of upd_same, rfl, .non, [.non], rfl, .non, [], rfl, rfl, ?_⟩
  generalize upd H t0 (.tup [.non, .non]) = H0 at k0 ⊢
  refine ⟨_, rfl, rfl, _, rfl, ite2 (fun c => ⟨_, rfl, _, rfl, fun x dx nx ndx nex => ?_⟩) (fun c => ⟨_, rfl, _, rfl, rfl, fun x dx nx ndx nex => ?_⟩)⟩
  all_goals
    have kM : Off (fun _ => False) H (upd (upd H0 dx (.own x)) x (.ins (He.ga K "Book") dx [])) := (k0.trans (Off.new ndx)).trans (Off.new (by rw [upd_ne (Ne.symm nex)]; exact nx))
    have nxH : H x = none := k0.none nx no
    have eM := upd_same (H := upd H0 dx (.own x)) (a := x) (o := .ins (He.ga K "Book") dx [])
    refine ⟨x, dx, v, w, ts, rs, n, mc, mt, N, M, L, rfl, upd_same, dp_off kM hv, dp_off kM hw, bb, ?_⟩
    generalize upd (upd H0 dx (.own x)) x (.ins (He.ga K "Book") dx []) = HM at kM eM ⊢
    have conv : ∀ H', Off (fun a => a = x) HM H' → Off (fun _ => False) H H' := fun H' k b o eb nb => k _ _ (kM b o eb nb) fun z => by
      rw [z, nxH] at eb
      cases eb
    cases e1 : wrongBook ts rs with
    | none =>
      rw [e1] at q
      intro H' bo k
      refine ⟨rfl, ?_⟩
      refine ⟨_, rfl, _, rfl, (by show 2 ≤ sizeLine; decide), fun t nt => ?_⟩
      exact q x t _ (bo.off (Off.new nt)) (SqT.of upd_same) ((conv H' k).trans (Off.new nt))
    | some z =>
      obtain ⟨y, e⟩ := z
      rw [e1] at q
      intro u Fo d H' k nd ed ow fr
      refine ⟨true, exm y (wrongBook_mem e1), fun _ a ha => ?_, fun z => nomatch z⟩
      refine ⟨_, rfl, ha, ?_⟩
      refine ⟨_, rfl, _, rfl, (by show 2 ≤ sizeLine; decide), fun t nt => ?_⟩
      have ka : Off (fun _ => False) H' (upd H' a (exk a (.ref (He.ga K y)) (some d))) := Off.new ha
      have kt : Off (fun _ => False) (upd H' a (exk a (.ref (He.ga K y)) (some d))) (upd (upd H' a (exk a (.ref (He.ga K y)) (some d))) t (.tup [.non, .ref a])) := Off.new nt
      have kk := ka.trans kt
      refine q a d t u Fo _ ⟨kt _ _ upd_same no, kk _ _ ed no⟩ (ow.keep kk (fun _ z => z.elim) fun _ _ z => z) (fun b z => ?_) (SqT.of upd_same) ((conv H' k).trans kk)
      exact kM.none (fr b z) no
end
end LW
set_option Elab.async false
set_option linter.all false
set_option maxRecDepth 100000
set_option maxHeartbeats 0
/-! sizes for _law_right -/
namespace LW
open PySem PySem.Spec PyProof.Rows L2 KV
/-- a drawn rule, as any rule -/
def rbOf : Rul → RB
  | (t, cs, none) => (["key", t], some (cs, []))
  | (t, cs, some c) => (["settles", t], some (cs, [c]))
theorem rbD_of (r : Rul) : rulD r = rbD (rbOf r) := by
  obtain ⟨t, cs, o⟩ := r
  cases o <;> rfl
theorem rbsD_of (rs : List Rul) : rulsD rs = rbsD (rs.map rbOf) := by
  unfold rulsD rbsD
  congr 1
  rw [List.map_map]
  exact List.map_congr_left fun r _ => rbD_of r
theorem rbOk_of {mt mc N M : Nat} {ts : List Tab} {r : Rul} (h : RulOk ts r) (tk : TabsOk mt mc ts) (hN : 8 ≤ N) (hM : mc ≤ M) : RbOk N M (rbOf r) := by
  obtain ⟨t, ht, e1, e2, e3⟩ := h
  have tb := tk.each t ht
  obtain ⟨x, cs, o⟩ := r
  have e1 : x = t.1 := e1
  have e2 : cs.Sublist t.2 := e2
  subst e1
  have gn : Gd N t.1 := tb.name.gd.mono hN
  have gk : Gd N "key" := (gdB_ok (n := 8) (by decide +kernel)).mono hN
  have gs : Gd N "settles" := (gdB_ok (n := 8) (by decide +kernel)).mono hN
  have lc : cs.length ≤ M := Nat.le_trans e2.length_le (Nat.le_trans tb.most hM)
  have gc : ∀ y ∈ cs, Gd N y := fun y hy => (tb.good y (e2.subset hy)).gd.mono hN
  cases o with
  | none =>
    refine ⟨by show 2 ≤ 2; decide, fun y hy => ?_, fun _ => rfl, fun cs' tl e => ?_⟩
    · have hy : y ∈ ([("key" : Str), t.1] : List Str) := hy
      rcases List.mem_cons.mp hy with rfl | hy
      · exact gk
      · rw [List.mem_singleton.mp hy]
        exact gn
    · have e : some (cs, ([] : List Str)) = some (cs', tl) := e
      cases e
      exact ⟨lc, gc, by decide, fun y hy => absurd hy (by simp)⟩
  | some c =>
    refine ⟨by show 2 ≤ 2; decide, fun y hy => ?_, fun _ => rfl, fun cs' tl e => ?_⟩
    · have hy : y ∈ ([("settles" : Str), t.1] : List Str) := hy
      rcases List.mem_cons.mp hy with rfl | hy
      · exact gs
      · rw [List.mem_singleton.mp hy]
        exact gn
    · have e : some (cs, [c]) = some (cs', tl) := e
      cases e
      refine ⟨lc, gc, by show 1 ≤ 2; decide, fun y hy => ?_⟩
      rw [List.mem_singleton.mp hy]
      exact (tb.good c (e3 c rfl)).gd.mono hN
inductive Les : List Nat → List Nat → Prop
  | nil : Les [] []
  | cons {m m' : Nat} {ms ms' : List Nat} (h : m ≤ m') (r : Les ms ms') : Les (m :: ms) (m' :: ms')
theorem fit_wide {b : Nat} : ∀ {ms ms' : List Nat} {d : PyData}, Les ms ms' → Fit b ms d → Fit b ms' d
  | ms, ms', .none, _, _ => by cases ms' <;> trivial
  | ms, ms', .bool _, _, _ => by cases ms' <;> trivial
  | ms, ms', .int i, _, h => by cases ms <;> cases ms' <;> exact h
  | ms, ms', .str x, _, h => by cases ms <;> cases ms' <;> exact h
  | [], _, .list _, _, h => h.elim
  | [], _, .tuple _, _, h => h.elim
  | [], _, .dict _, _, h => h.elim
  | _ :: _, _, .dict _, _, h => h.elim
  | m :: ms, m' :: ms', .list ds, .cons h1 h2, ⟨h3, h4⟩ => ⟨Nat.le_trans h3 h1, fun d hd => fit_wide h2 (h4 d hd)⟩
  | m :: ms, m' :: ms', .tuple ds, .cons h1 h2, ⟨h3, h4⟩ => ⟨Nat.le_trans h3 h1, fun d hd => fit_wide h2 (h4 d hd)⟩
/-- what an error holds -/
def ErrFit (e : PyData) : Prop := Fit 100 [5, 8] e ∧ noInt e = true
theorem errFit_str {n : Nat} {x : Str} (h : Gd n x) (hn : n ≤ 100) : ErrFit (.str x) := ⟨fit_str (h.mono hn), by simp [noInt]⟩
theorem wrongName_fit {n : Nat} {b : List Str} {x y : Str} {e : PyData} (h : wrongName b x = some (y, e)) (g : Gd n x) (hn : n ≤ 100) : ErrFit e := by
  unfold wrongName at h
  split at h
  · cases h
    exact errFit_str g hn
  · split at h
    · cases h
      exact errFit_str g hn
    · cases h
theorem wrongCols_fit {n : Nat} (hn : n ≤ 100) {y : Str} {e : PyData} : ∀ {cs b : List Str}, wrongCols b cs = some (y, e) → (∀ x ∈ cs, Gd n x) → ErrFit e
  | [], b, h, _ => by
    rw [wrongCols] at h
    cases h
  | c :: cs, b, h, g => by
    rw [wrongCols_cons] at h
    cases q : wrongName b c with
    | none =>
      rw [q] at h
      exact wrongCols_fit hn h fun x hx => g x (List.mem_cons_of_mem _ hx)
    | some z =>
      rw [q] at h
      cases h
      exact wrongName_fit q (g c List.mem_cons_self) hn
theorem wrongTabs_fit {n mc : Nat} (hn : n ≤ 100) {y : Str} {e : PyData} : ∀ {ts : List Tab} {b : List Str}, wrongTabs b ts = some (y, e) → (∀ t ∈ ts, TabB n mc t) → ErrFit e
  | [], b, h, _ => by
    rw [wrongTabs] at h
    cases h
  | t :: ts, b, h, g => by
    have bt := g t List.mem_cons_self
    rw [wrongTabs_cons] at h
    cases q : wrongName b t.1 with
    | some z =>
      rw [q] at h
      cases h
      exact wrongName_fit q bt.name hn
    | none =>
      rw [q] at h
      dsimp only at h
      cases q2 : wrongCols [] t.2 with
      | some z =>
        rw [q2] at h
        cases h
        exact wrongCols_fit hn q2 bt.good
      | none =>
        rw [q2] at h
        exact wrongTabs_fit hn h fun x hx => g x (List.mem_cons_of_mem _ hx)
theorem rb_fit {N M : Nat} {r : RB} (ok : RbOk N M r) (hN : N ≤ 100) (hM : M ≤ 8) : ErrFit (rbD r) := by
  refine ⟨fit_wide (.cons (Nat.le_refl _) (.cons hM .nil)) ((fit_rb ok).mono hN), ?_⟩
  unfold rbD
  simp only [noInt]
  exact noInt_rb r
theorem wrong1_fit {N M : Nat} {ts : List Tab} {r : RB} {y : Str} {e : PyData} (h : wrong1 ts r = some (y, e)) (ok : RbOk N M r) (hN : N ≤ 100) (hM : M ≤ 8) : ErrFit e := by
  cases hf : formed r with
  | false =>
    rw [wrong1_formed hf] at h
    cases h
    exact rb_fit ok hN hM
  | true =>
    obtain ⟨k, x, cs, tl, rfl, fm⟩ := formed_ok hf
    obtain ⟨lc, gc, lt, gt⟩ := ok.cs cs tl rfl
    rw [wrong1_yes fm] at h
    cases q : tabOf ts x with
    | none =>
      rw [q] at h
      cases h
      exact errFit_str (ok.hg x (by simp)) hN
    | some t =>
      rw [q] at h
      dsimp only at h
      cases q2 : (cs ++ tl).find? fun c => !decide (c ∈ t.2) with
      | none =>
        rw [q2] at h
        cases h
      | some c =>
        rw [q2] at h
        cases h
        rcases List.mem_append.mp (List.mem_of_find?_eq_some q2) with z | z
        · exact errFit_str (gc c z) hN
        · exact errFit_str (gt c z) hN
theorem wrongs_fit {N M : Nat} (hN : N ≤ 100) (hM : M ≤ 8) {ts : List Tab} {y : Str} {e : PyData} : ∀ {rs : List RB}, wrongs ts rs = some (y, e) → (∀ r ∈ rs, RbOk N M r) → ErrFit e
  | [], h, _ => by
    rw [wrongs] at h
    cases h
  | r :: rs, h, g => by
    rw [wrongs] at h
    cases q : wrong1 ts r with
    | some z =>
      rw [q] at h
      cases h
      exact wrong1_fit q (g r List.mem_cons_self) hN hM
    | none =>
      rw [q] at h
      exact wrongs_fit hN hM h fun x hx => g x (List.mem_cons_of_mem _ hx)
theorem wrongBook_fit {n mc mt N M L : Nat} {ts : List Tab} {rs : List RB} (bb : BkB n mc mt N M L ts rs) (hn : n ≤ 100) (hN : N ≤ 100) (hM : M ≤ 8) {y : Str} {e : PyData} (h : wrongBook ts rs = some (y, e)) : ErrFit e := by
  unfold wrongBook at h
  cases q : wrongTabs [] ts with
  | some z =>
    rw [q] at h
    cases h
    exact wrongTabs_fit hn q bb.tb.each
  | none =>
    rw [q] at h
    exact wrongs_fit hN hM h bb.rb
theorem sz_err {e : PyData} (h : ErrFit e) : Sz 100 [5, 8] e := ⟨h.1, by decide, by decide, by decide, by decide⟩
theorem sz_tabs {n mc mt : Nat} {ts : List Tab} (h : TabsB n mc mt ts) (hn : n ≤ 100) (hc : mc ≤ 8) (ht : mt ≤ 6) : Sz 100 [6, 2, 8] (tabsD ts) :=
  ⟨fit_wide (.cons ht (.cons (Nat.le_refl _) (.cons hc .nil))) ((fit_tabs h).mono hn), by decide, by decide, by decide, by decide⟩
theorem sz_rbs {N M L : Nat} {rs : List RB} (l : rs.length ≤ L) (h : ∀ r ∈ rs, RbOk N M r) (hN : N ≤ 100) (hM : M ≤ 8) (hL : L ≤ 19) : Sz 100 [19, 5, 8] (rbsD rs) :=
  ⟨fit_wide (.cons hL (.cons (Nat.le_refl _) (.cons hM .nil))) ((fit_rbs l h).mono hN), by decide, by decide, by decide, by decide⟩
theorem sz_both {ts : List Tab} {rs : List RB} (h1 : Sz 100 [6, 2, 8] (tabsD ts)) (h2 : Sz 100 [19, 5, 8] (rbsD rs)) : Sz 100 [2, 19, 5, 8] (.tuple [tabsD ts, rbsD rs]) := by
  refine ⟨⟨by show 2 ≤ 2; decide, fun d hd => ?_⟩, by decide, by decide, by decide, by decide⟩
  rcases List.mem_cons.mp hd with rfl | hd
  · exact fit_wide (.cons (by decide) (.cons (by decide) (.cons (by decide) .nil))) h1.fit
  · rw [List.mem_singleton.mp hd]
    exact h2.fit
end LW
set_option Elab.async false
set_option linter.all false
set_option maxRecDepth 100000
set_option maxHeartbeats 0
/-! _law_right -/
namespace LW
open PySem PySem.Spec PyProof.Rows L2 KV
/-- a def that stands: its promise, its binding, its name -/
structure Dn (P : Program) (w : World) (K : PySem.W.Frag) (mg : Str → Option Value) (base : Heap) (k : Nat) (x : Str) (ps : List Str) (sp : Sp) (f : Addr) (fd : FuncData) : Prop where
  g : FnOk P w K mg base CX0 k f fd ps sp
  b : Binds K fd ps []
  m : mg x = some (.ref f)
  kp : PySem.W.keepIn K (.ref f) = true
structure DnC (P : Program) (w : World) (K : PySem.W.Frag) (mg : Str → Option Value) (base : Heap) (k : Nat) (x : Str) (ps : List Str) (sp : Sp) (f : Addr) (fd : FuncData) : Prop where
  g : FnC P w K mg base CX0 k f fd ps sp
  b : Binds K fd ps []
  m : mg x = some (.ref f)
  kp : PySem.W.keepIn K (.ref f) = true
def spRight (K : PySem.W.Frag) : Sp := fun vs H Q _ => ∃ (p : Addr) (c : Nat), vs = [.ref p] ∧ Pu H p c ∧ c + 2000 ≤ 1000000000 ∧ ∀ H' c', Pu H' p c' → c' ≤ c + 2000 → Off (fun a => a = p) H H' → Q (.bl true) H'
theorem iteC {sm : Bool} {a b : Int} {σ : L2.St} {H : Hp} {Q : VK} (h : Q (.int (if sm = true then a else b)) H) : if sm = true then tC (.int a) σ H Q else tC (.int b) σ H Q := by
  cases sm with
  | true => exact h
  | false => exact h
/-- how long the texts may be after so many turns -/
def nB : Nat → Nat
  | 0 => 8
  | t + 1 => 2 * nB t + 9
/-- what is due -/
def DueAt (K : PySem.W.Frag) (H : Hp) (u : V) : Option (Str × PyData) → Prop
  | none => u = .non
  | some (y, e) => ∃ t, u = .ref t ∧ Dp K H (.ref t) (.tuple [.str y, e])
theorem DueAt.off {K : PySem.W.Frag} {H H' : Hp} {u : V} {o : Option (Str × PyData)} (h : DueAt K H u o) (k : Off (fun _ => False) H H') : DueAt K H' u o := by
  cases o with
  | none => exact h
  | some z =>
    obtain ⟨t, e, d⟩ := h
    exact ⟨t, e, dp_off k d⟩
theorem DueAt.but {K : PySem.W.Frag} {H H' : Hp} {u : V} {p : Addr} {c : Nat} {o : Option (Str × PyData)} (h : DueAt K H u o) (k : Off (fun a => a = p) H H') (hp : Pu H p c) (n : ∀ y e, o = some (y, e) → noInt e = true) : DueAt K H' u o := by
  cases o with
  | none => exact h
  | some z =>
    obtain ⟨y, e⟩ := z
    obtain ⟨t, et, d⟩ := h
    exact ⟨t, et, dp_but k hp d (by simp [noInt, noIntAll, n y e rfl])⟩
theorem endR_of {K : PySem.W.Frag} {H : Hp} {Q : VK} {o : Option (Str × PyData)} (h : ∀ u H', Off (fun _ => False) H H' → DueAt K H' u o → Q u H') : endR K H Q o := by
  cases o with
  | none => exact fun H' k => h .non H' k rfl
  | some z =>
    obtain ⟨y, e⟩ := z
    exact fun t u H' h1 h2 k => h (.ref t) H' k ⟨t, rfl, .tup h1 (.cons (.str _) (.cons h2 .nil))⟩
/-- what was made, what was caught; H: the heap before -/
def CauAt (K : PySem.W.Frag) (H H' : Hp) (ts : List Tab) (rs : List RB) (mv cv : V) : Option (Str × PyData) → Prop
  | none => cv = .non ∧ ∃ b, mv = .ref b ∧ BookOf K H' b ts rs
  | some (y, e) => ∃ a dx u Fo, cv = .ref a ∧ Cau H' a (He.ga K y) dx [("value", u)] ∧ Ow H' u e Fo ∧ ∀ b, Fo b → H b = none
theorem caughtX_of {K : PySem.W.Frag} {H : Hp} {ts : List Tab} {rs : List RB} {Q : VK} {o : Option (Str × PyData)} (h : ∀ mv cv t H', Off (fun _ => False) H H' → SqT K H' t [mv, cv] → CauAt K H H' ts rs mv cv o → Q (.ref t) H') : caughtX K H ts rs Q o := by
  cases o with
  | none => exact fun b t H' h1 h2 k => h (.ref b) .non t H' k h2 ⟨rfl, b, rfl, h1⟩
  | some z =>
    obtain ⟨y, e⟩ := z
    exact fun a dx t u Fo H' h1 h2 h3 h4 k => h .non (.ref a) t H' k h4 ⟨a, dx, u, Fo, rfl, h1, h2, h3⟩
theorem errR_of {K : PySem.W.Frag} {H G : Hp} {ts : List Tab} {rs : List RB} {mv cv u : V} {Q : VK} {E : XK} {o : Option (Str × PyData)} (k : Off (fun _ => False) H G) (du : DueAt K G u o) (ca : CauAt K H G ts rs mv cv o)
    (fe : ∀ y e, o = some (y, e) → y ∈ names.tail ∧ ErrFit e) (q : ∀ G', Off (fun _ => False) H G' → (o = none → Off (fun _ => False) G G') → Q (.bl true) G') : spErrR K [cv, u] G Q E := by
  cases o with
  | none =>
    obtain ⟨rfl, b, rfl, hb⟩ := ca
    obtain rfl : u = .non := du
    exact .inl ⟨rfl, fun G' k' => q G' (k.trans k') fun _ => k'⟩
  | some z =>
    obtain ⟨y, e⟩ := z
    obtain ⟨t, rfl, d⟩ := du
    obtain ⟨a, dx, v, Fo, rfl, h1, h2, h3⟩ := ca
    obtain ⟨xs, sq, dd⟩ : ∃ xs, SqT K G t xs ∧ DpAll K G xs [.str y, e] := by
      cases d with
      | tup h r => exact ⟨_, h, r⟩
    obtain ⟨w, rfl, dw⟩ : ∃ w, xs = [.str y, w] ∧ Dp K G w e := by
      cases dd with
      | cons h r =>
        cases h
        cases r with
        | cons h r =>
          cases r
          exact ⟨_, rfl, h⟩
    obtain ⟨f1, f2⟩ := fe y e rfl
    refine .inr ⟨a, dx, t, y, w, v, e, Fo, 100, [5, 8], rfl, f1, h1, sq, h2, dw, sz_err f2, fun G' k' => q G' (fun b o eb _ => k' b o (k b o eb id) fun z => ?_) fun z => by cases z⟩
    rw [h3 b z] at eb
    cases eb
section
variable {P : Program} {w : World} {K : PySem.W.Frag} {mg : Str → Option Value} {base : Heap}
/-- what stands in the middle: the tables, the rules, the purse -/
structure Mid (K : PySem.W.Frag) (H0 : Hp) (p : Addr) (c : Nat) (G : Hp) (v w : V) (n mc N M L : Nat) (ts : List Tab) (rs : List RB) : Prop where
  dt : Dp K G v (tabsD ts)
  dr : Dp K G w (rbsD rs)
  bb : BkB n mc 6 N M L ts rs
  pu : Pu G p c
  k : Off (fun a => a = p) H0 G
theorem scRight : FnScope ["purse", "is_small", "plain", "given", "kept", "turn", "due", "handed", "made", "caught"] ["purse"] (defScope sRight) := ⟨rfl, rfl, rfl, by decide +kernel, rfl, by decide +kernel, by decide +kernel⟩
theorem ok_right {f fC fT fR fB fBs fW fD fA fE fO pT gT pR gR : Addr} {fd dC dT dR dB dBs dW dD dA dE dO dgT dgR : FuncData} (F : FnP K "_law_right" sRight f fd) (B : BookT K mg)
    (C : Dn P w K mg base 1 "_law_coin" ["purse", "many"] spCoin fC dC) (T : Dn P w K mg base 3 "_law_drawn_tables" ["purse", "most_tables", "most_columns"] spDrawnTables fT dT)
    (R : Dn P w K mg base 2 "_law_drawn_rules" ["purse", "tables_here", "most"] (spDrawnRules K) fR dR) (BT : Dn P w K mg base 7 "_law_bent_tables" ["purse", "tables_here"] (spBentT K) fB dB)
    (BR : Dn P w K mg base 7 "_law_bent_rules" ["purse", "tables_here", "rules_here"] (spBentRs K) fBs dBs) (W : Dn P w K mg base 3 "_law_wrong_book" ["tables_here", "rules_here"] (spWrongB K) fW dW)
    (D : Dn P w K mg base 6 "_law_copied" ["thing"] (spCopied K 6) fD dD) (A' : Dn P w K mg base 10 "_law_caught_of" ["tables_here", "rules_here", "way"] (spCaught K) fA dA)
    (E' : DnC P w K mg base 8 "_law_error_right" ["caught", "due"] (spErrR K) fE dE) (O : DnC P w K mg base 7 "_law_own" ["told", "due"] (spOwn K) fO dO)
    (pt : PropOf K (He.ga K "Book") "tables" pT gT) (GT : FnOk P w K mg base CX0 7 gT dgT ["self"] (spGetT K)) (bT : Binds K dgT ["self"] [])
    (pr : PropOf K (He.ga K "Book") "rules" pR gR) (GR : FnOk P w K mg base CX0 7 gR dgR ["self"] (spGetR K)) (bR : Binds K dgR ["self"] [])
    (mr : mg "range" = none) (mp : mg "repr" = none) : FnC P w K mg base CX0 11 f fd ["purse"] (spRight K) := by
  refine Fun.okC F scRight (fun vs H Q E h => ?_) (fun cdv A outer s H vs Q E hG hr h => ?_)
  · obtain ⟨p, c, rfl, _⟩ := h
    rfl
  have hu : (A.deeper (envOfC "_law_right" (defScope sRight) s.heap.objs.size f cdv)).units + 64 < cLine := hr.units
  have coin : ∀ {X : Cx} (hX : X.prog = P ∧ X.w = w ∧ X.K = K ∧ X.mg = mg ∧ X.base = base) (hR : Room 10 X.A) {e1 e2 : Expr} {t1 t2 : TE} {p1 p2 : Pos}, True := fun _ _ => trivial
  refine ⟨_, PSs.nox (pss_cons (ps_set (i := 1) scRight.nd rfl (Or.inl rfl) (pe_cmpR op_gt (pe_call C.g (hr.mono (by decide)) rfl C.m C.kp C.b .nil pass0 (pa_cons (pv 0) (pa_cons pe_int pa_nil))) pe_int (nomark _)))
    (pss_cons (ps_set (i := 2) scRight.nd rfl (Or.inl rfl) (pe_call T.g (hr.mono (by decide)) rfl T.m T.kp T.b .nil pass0 (pa_cons (pv 0) (pa_cons (pe_ifExp (pt_val (pv 1)) pe_int pe_int) (pa_cons (pe_ifExp (pt_val (pv 1)) pe_int pe_int) pa_nil)))))
    (pss_cons (ps_par (i := 3) (j := 4) rfl scRight.nd rfl rfl (by decide) rfl rfl (pa_cons (pv 2) (pa_cons (pe_call R.g (hr.mono (by decide)) rfl R.m R.kp R.b .nil pass0 (pa_cons (pv 0) (pa_cons (pv 2) (pa_cons (pe_ifExp (pt_val (pv 1)) pe_int pe_int) pa_nil)))) pa_nil)) rfl)
    (pss_cons (ps_for PassesOwn.never rfl (pi_range1 rfl mr (pa_cons (pe_call C.g (hr.mono (by decide)) rfl C.m C.kp C.b .nil pass0 (pa_cons (pv 0) (pa_cons pe_int pa_nil))) pa_nil)) (pg_name (i := 5) scRight.nd rfl (Or.inl rfl))
      (pss_one (ps_set (i := 3) scRight.nd rfl (Or.inl rfl) (pe_call BT.g (hr.mono (by decide)) rfl BT.m BT.kp BT.b .nil pass0 (pa_cons (pv 0) (pa_cons (pv 3) pa_nil))))))
    (pss_cons (ps_for PassesOwn.never rfl (pi_range1 rfl mr (pa_cons (pe_call C.g (hr.mono (by decide)) rfl C.m C.kp C.b .nil pass0 (pa_cons (pv 0) (pa_cons pe_int pa_nil))) pa_nil)) (pg_name (i := 5) scRight.nd rfl (Or.inl rfl))
      (pss_one (ps_set (i := 4) scRight.nd rfl (Or.inl rfl) (pe_call BR.g (hr.mono (by decide)) rfl BR.m BR.kp BR.b .nil pass0 (pa_cons (pv 0) (pa_cons (pv 2) (pa_cons (pv 4) pa_nil)))))))
    (pss_cons (ps_set (i := 6) scRight.nd rfl (Or.inl rfl) (pe_call W.g (hr.mono (by decide)) rfl W.m W.kp W.b .nil pass0 (pa_cons (pv 3) (pa_cons (pv 4) pa_nil))))
    (pss_cons (ps_set (i := 7) scRight.nd rfl (Or.inl rfl) (pe_tup (pa_cons (pe_call D.g (hr.mono (by decide)) rfl D.m D.kp D.b .nil pass0 (pa_cons (pv 3) pa_nil)) (pa_cons (pe_call D.g (hr.mono (by decide)) rfl D.m D.kp D.b .nil pass0 (pa_cons (pv 4) pa_nil)) pa_nil))))
    (pss_cons (ps_for PassesOwn.never rfl (pi_range1 rfl mr (pa_cons pe_int pa_nil)) (pg_name (i := 5) scRight.nd rfl (Or.inl rfl))
      (pss_cons (ps_asg (pe_call A'.g hr rfl A'.m A'.kp A'.b .nil pass0 (pa_cons (pe_ix ix_tup (pv 7) pe_int (fun _ _ => rfl)) (pa_cons (pe_ix ix_tup (pv 7) pe_int (fun _ _ => rfl)) (pa_cons (pe_call C.g (hr.mono (by decide)) rfl C.m C.kp C.b .nil pass0 (pa_cons (pv 0) (pa_cons pe_int pa_nil))) pa_nil))))
          (pg_tup rfl (pgs_cons (pg_name (i := 8) scRight.nd rfl (Or.inl rfl)) (pgs_cons (pg_name (i := 9) scRight.nd rfl (Or.inl rfl)) pgs_nil))))
      (pss_cons (ps_if (PW.pt (pw_or (pt_not (pt_val (pe_callC hG E'.g (hr.mono (by decide)) rfl E'.m E'.kp E'.b pass0 (pa_cons (pv 9) (pa_cons (pv 6) pa_nil)))))
          (pw_or1 (pt_cmpR op_ne (pe_callB (call_repD hG hu) rfl mp boot_repr (pa_cons (pv 7) pa_nil)) (pe_callB (call_repD hG hu) rfl mp boot_repr (pa_cons (pe_tup (pa_cons (pv 3) (pa_cons (pv 4) pa_nil))) pa_nil)) (nomark _))))) (pss_one (ps_ret pe_bl)) pss_nil)
      (pss_one (ps_if (PW.pt (pw_and (pt_cmpR op_isN (pv 6) pe_non (nomark _)) (pw_and1 (pt_not (PW.pt (pw_and (pt_val (pe_callC hG O.g (hr.mono (by decide)) rfl O.m O.kp O.b pass0 (pa_cons (pe_prop (pv 8) B.cl pt GT (hr.mono (by decide)) bT .nil pass0 rfl) (pa_cons (pv 3) pa_nil))))
          (pw_and1 (pt_val (pe_callC hG O.g (hr.mono (by decide)) rfl O.m O.kp O.b pass0 (pa_cons (pe_prop (pv 8) B.cl pr GR (hr.mono (by decide)) bR .nil pass0 rfl) (pa_cons (pv 4) pa_nil)))))))))))
        (pss_one (ps_ret pe_bl)) pss_nil)))))
    (pss_one (ps_ret pe_bl)))))))))), ?_⟩
  obtain ⟨p, c, rfl, hp, hc, q⟩ := h
  have no : ¬ False := fun z => z
  refine ⟨_, rfl, p, 3, c, rfl, hp, by omega, by decide, by decide, fun i0 H1 i00 i01 hp1 b1 => ⟨_, _, rfl, rfl, ?_⟩⟩
  have k1 : Off (fun a => a = p) H H1 := b1.off
  show gName 1 (V.bl (decide ((0 : Int) < i0))) [some (.ref p), none, none, none, none, none, none, none, none, none] H1 _
  generalize decide ((0 : Int) < i0) = sm
  obtain ⟨m1, e1, l1, l2⟩ : ∃ m1 : Nat, (if sm = true then (3 : Int) else 6) = (m1 : Int) ∧ 1 ≤ m1 ∧ m1 ≤ 6 := by
    cases sm with
    | true => exact ⟨3, rfl, by decide, by decide⟩
    | false => exact ⟨6, rfl, by decide, by decide⟩
  obtain ⟨m2, e2, l3⟩ : ∃ m2 : Nat, (if sm = true then (4 : Int) else 17) = (m2 : Int) ∧ m2 ≤ 17 := by
    cases sm with
    | true => exact ⟨4, rfl, by decide⟩
    | false => exact ⟨17, rfl, by decide⟩
  refine ⟨_, rfl, _, rfl, sm, rfl, iteC ?_⟩
  rw [e1]
  refine ⟨_, rfl, sm, rfl, iteC ?_⟩
  rw [e1]
  refine ⟨p, m1, m1, c + 1, rfl, l1, by omega, l1, by omega, hp1, by omega, fun ts D F2 H2 c2 tk ow2 fr2 hp2 hc2 k2 => ?_⟩
  have k02 := k1.trans k2
  refine ⟨_, rfl, _, rfl, _, rfl, _, rfl, sm, rfl, iteC ?_⟩
  rw [e2]
  refine ⟨p, .ref D, ts, m1, m1, m2, c2, rfl, ow2.dp, tk, by omega, by omega, by omega, hp2, by omega, fun rs0 DR F3 H3 c3 lr0 ro0 ow3 fr3 hp3 hc3 k3 => ⟨_, _, rfl, ?_⟩⟩
  have k03 := k02.trans k3
  have dP3 := dp_but (K := K) k3 hp2 ow2.dp (noInt_tabs ts)
  have dR3 : Dp K H3 (.ref DR) (rbsD (rs0.map rbOf)) := by
    rw [← rbsD_of]
    exact ow3.dp
  have rb0 : ∀ r ∈ rs0.map rbOf, RbOk 25 7 r := fun r hr => by
    obtain ⟨r0, h0, rfl⟩ := List.mem_map.mp hr
    exact rbOk_of (ro0 r0 h0) tk (by decide) (by omega)
  have lr1 : (rs0.map rbOf).length ≤ 17 := by
    rw [List.length_map]
    omega
  have tb0 : TabsB 8 6 6 ts := by
    have b := tk.b
    exact ⟨b.one, Nat.le_trans b.most l2, fun t ht => (b.each t ht).mono (Nat.le_refl _) l2⟩
  generalize rs0.map rbOf = rs1 at dR3 rb0 lr1
  -- the tables are bent
  refine ⟨_, rfl, p, 3, c3, rfl, hp3, by omega, by decide, by decide, fun i1 H4 i10 i11 hp4 b4 => ⟨i1, rfl, by omega, by omega, for_range (lo := 0) (fun t σ G => ∃ v ts' w5 c', σ = [some (.ref p), some (.bl sm), some (.ref D), some v, some (.ref DR), w5, none, none, none, none] ∧
      Dp K G v (tabsD ts') ∧ TabsB (nB t) (6 + t) 6 ts' ∧ Pu G p c' ∧ c' ≤ c3 + 1 + 10 * t ∧ Off (fun a => a = p) H G ∧ Dp K G (.ref D) (tabsD ts) ∧ Dp K G (.ref DR) (rbsD rs1))
    ⟨_, ts, none, c3 + 1, rfl, dp_but b4.off hp3 dP3 (noInt_tabs ts), tb0, hp4, by omega, k03.trans b4.off, dp_but b4.off hp3 dP3 (noInt_tabs ts), dp_but b4.off hp3 dR3 (noInt_rbs rs1)⟩ (fun t σ G ht g => ?_) fun σ G g => ?_⟩⟩
  · obtain ⟨v, ts', w5, c', rfl, d1, tb, hpG, hcG, kG, dP, dR⟩ := g
    have ht2 : t < 2 := by omega
    have nb : nB t ≤ 59 := by
      rcases t with _ | _ | t
      · decide
      · decide
      · omega
    refine ⟨_, rfl, _, rfl, p, v, ts', nB t, 6 + t, 6, c', rfl, d1, tb, by omega, by omega, by decide, hpG, by omega, fun v' ts2 G2 c2 d2 tb2 hp2 hc2 k2 => ?_⟩
    exact ⟨v', ts2, _, c2, rfl, d2, tb2, hp2, by omega, kG.trans k2, dp_but k2 hpG dP (noInt_tabs ts), dp_but k2 hpG dR (noInt_rbs rs1)⟩
  obtain ⟨v, ts', w5, c', rfl, dv, tb, hpG, hcG, kG, dP, dR⟩ := g
  have hi2 : i1.toNat ≤ 2 := by omega
  have tbf : TabsB 59 8 6 ts' := by
    have nb : nB i1.toNat ≤ 59 := by
      generalize i1.toNat = t at hi2
      rcases t with _ | _ | _ | t
      · decide
      · decide
      · decide
      · omega
    exact ⟨tb.one, tb.most, fun t ht => (tb.each t ht).mono nb (by omega)⟩
  -- the rules are bent
  refine ⟨_, rfl, p, 3, c', rfl, hpG, by omega, by decide, by decide, fun i2 H5 i20 i21 hp5 b5 => ⟨i2, rfl, by omega, by omega, for_range (lo := 0) (fun t σ G => ∃ w rs' w5 c', σ = [some (.ref p), some (.bl sm), some (.ref D), some v, some w, w5, none, none, none, none] ∧
      Dp K G w (rbsD rs') ∧ (∀ r ∈ rs', RbOk 25 7 r) ∧ rs'.length ≤ 17 + t ∧ Pu G p c' ∧ c' ≤ c3 + 30 + 20 * t ∧ Off (fun a => a = p) H G ∧ Dp K G (.ref D) (tabsD ts) ∧ Dp K G v (tabsD ts'))
    ⟨_, rs1, _, c' + 1, rfl, dp_but b5.off hpG dR (noInt_rbs rs1), rb0, by omega, hp5, by omega, kG.trans b5.off, dp_but b5.off hpG dP (noInt_tabs ts), dp_but b5.off hpG dv (noInt_tabs ts')⟩ (fun t σ G2 ht g => ?_) fun σ G2 g => ?_⟩⟩
  · obtain ⟨w, rs', w5, c4, rfl, d1, rb, lr, hpG2, hcG2, kG2, dP2, dv2⟩ := g
    refine ⟨_, rfl, _, rfl, _, rfl, p, .ref D, w, ts, rs', 8, 6, 6, 25, 7, 17 + t, c4, rfl, dP2, tb0, by decide, by decide, by decide, by decide, d1, rb, by decide, by decide, by decide, lr, by omega, hpG2, by omega, fun w2 rs2 G3 c5 d2 rb2 lr2 hp2 hc2 k2 => ?_⟩
    exact ⟨w2, rs2, _, c5, rfl, d2, rb2, lr2, hp2, by omega, kG2.trans k2, dp_but k2 hpG2 dP2 (noInt_tabs ts), dp_but k2 hpG2 dv2 (noInt_tabs ts')⟩
  obtain ⟨w, rs', w5, c4, rfl, dw, rb, lr, hpG2, hcG2, kG2, dP2, dv2⟩ := g
  have bb : BkB 59 8 6 25 7 19 ts' rs' := ⟨tbf, rb, by decide, by decide, by decide, by decide, by omega, by decide⟩
  have fe : ∀ y e, wrongBook ts' rs' = some (y, e) → y ∈ names.tail ∧ ErrFit e := fun y e h => ⟨wrongBook_mem h, wrongBook_fit bb (by decide) (by decide) (by decide) h⟩
  have szT := sz_tabs tbf (by decide) (by decide) (by decide)
  have szR := sz_rbs (L := 19) (show rs'.length ≤ 19 by omega) rb (by decide) (by decide) (by decide)
  obtain ⟨z1, z2, z3, z4⟩ := (sz_both szT szR).rep
  -- what is due; what is handed in
  refine ⟨_, rfl, _, rfl, v, w, ts', rs', 59, 8, 6, 25, 7, rfl, dv2, tbf, by decide, by decide, by decide, dw, rb, by decide, by omega, endR_of fun u G3 k3 du => ?_⟩
  refine ⟨_, rfl, v, tabsD ts', 100, [6, 2, 8], rfl, dp_off k3 dv2, szT.fit, by decide, by decide, fun vg Fg G4 og fg k4 => ⟨_, rfl, w, rbsD rs', 100, [19, 5, 8], rfl, dp_off (k3.trans k4) dw, szR.fit, by decide, by decide, fun vk Fk G5 ok fk k5 => ⟨(by show 2 ≤ sizeLine; decide), fun hd nhd => ?_⟩⟩⟩
  have k35 := k3.trans (k4.trans k5)
  have k6 := k35.trans (Off.new (o := .tup [vg, vk]) nhd)
  have k56 : Off (fun _ => False) G5 (upd G5 hd (.tup [vg, vk])) := Off.new nhd
  have dH6 : Dp K (upd G5 hd (.tup [vg, vk])) (.ref hd) (.tuple [tabsD ts', rbsD rs']) := .tup (SqT.of upd_same) (.cons (dp_off (k5.trans k56) og.dp) (.cons (dp_off k56 ok.dp) .nil))
  have du6 := du.off ((k4.trans k5).trans k56)
  have hp6 : Pu (upd G5 hd (.tup [vg, vk])) p c4 := hpG2.off k6 no
  have dv6 := dp_off k6 dv2
  have dw6 := dp_off k6 dw
  have kH6 : Off (fun a => a = p) H (upd G5 hd (.tup [vg, vk])) := kG2.trans (k6.mono fun _ z => z.elim)
  have hc4 : c4 + 100 ≤ c + 2000 := by omega
  generalize upd G5 hd (.tup [vg, vk]) = G6 at dH6 du6 hp6 dv6 dw6 kH6 ⊢
  have nH : noInt (.tuple [tabsD ts', rbsD rs']) = true := by simp [noInt, noIntAll, noInt_tabs, noInt_rbs]
  -- three turns
  refine ⟨3, rfl, by decide, by decide, for_range (lo := 0) (fun t σ G => ∃ w5 w8 w9 c', σ = [some (.ref p), some (.bl sm), some (.ref D), some v, some w, w5, some u, some (.ref hd), w8, w9] ∧ Dp K G v (tabsD ts') ∧ Dp K G w (rbsD rs') ∧ Dp K G (.ref hd) (.tuple [tabsD ts', rbsD rs']) ∧
      DueAt K G u (wrongBook ts' rs') ∧ Pu G p c' ∧ c' ≤ c4 + t ∧ Off (fun a => a = p) H G)
    ⟨_, none, none, c4, rfl, dv6, dw6, dH6, du6, hp6, by omega, kH6⟩ (fun t σ G ht g => ?_) fun σ G g => ?_⟩
  rotate_left
  · obtain ⟨_, _, _, c', rfl, _, _, _, _, hpE, hcE, kE⟩ := g
    exact q G c' hpE (by omega) kE
  obtain ⟨w5, w8, w9, c', rfl, dvG, dwG, dH, duG, hpt, hct, kHG⟩ := g
  have ht3 : t < 3 := by omega
  obtain ⟨xs, sqH, ddH⟩ : ∃ xs, SqT K G hd xs ∧ DpAll K G xs [tabsD ts', rbsD rs'] := by
    cases dH with
    | tup h r => exact ⟨_, h, r⟩
  obtain ⟨hv, hw, rfl, dhv, dhw⟩ : ∃ hv hw, xs = [hv, hw] ∧ Dp K G hv (tabsD ts') ∧ Dp K G hw (rbsD rs') := by
    cases ddH with
    | cons h r =>
      cases r with
      | cons h2 r =>
        cases r
        exact ⟨_, _, rfl, h, h2⟩
  refine ⟨_, rfl, hd, _, 0, _, rfl, rfl, sqH, atI_nat (j := 0) rfl, _, rfl, hd, _, 1, _, rfl, rfl, sqH, atI_nat (j := 1) rfl, _, rfl, p, 2, c', rfl, hpt, by omega, by decide, by decide, fun way G1 w0 w1 hp1 b1 => ?_⟩
  have kb := b1.off
  have nT := noInt_tabs ts'
  have nR := noInt_rbs rs'
  have dv1 := dp_but kb hpt dvG nT
  have dw1 := dp_but kb hpt dwG nR
  have dH1 := dp_but kb hpt dH nH
  have du1 := duG.but kb hpt fun y e h => (fe y e h).2.2
  refine ⟨hv, hw, way, ts', rs', 59, 8, 6, 25, 7, 19, rfl, dp_but kb hpt dhv nT, dp_but kb hpt dhw nR, bb, caughtX_of fun mv cv t2 G2 k2 sq2 ca => ?_⟩
  refine ⟨t2, _, rfl, sq2, rfl, mv, [cv], rfl, cv, [], rfl, rfl, ?_⟩
  refine ⟨_, rfl, _, rfl, ?_⟩
  simp only [tNil]
  show spErrR K ((cv :: (u :: [])) ++ []) G2 _ E0
  refine errR_of k2 (du1.off k2) ca fe fun G3 k3 k23 => ?_
  refine ⟨_, rfl, iteF ?_⟩
  have dH3 := dp_off k3 dH1
  have dv3 := dp_off k3 dv1
  have dw3 := dp_off k3 dw1
  refine ⟨_, rfl, .ref hd, _, rfl, dH3, z1, z2, z3, z4, _, rfl, _, rfl, (by show 2 ≤ sizeLine; decide), fun t3 n3 => ?_⟩
  have k4' : Off (fun _ => False) G3 (upd G3 t3 (.tup [v, w])) := Off.new n3
  refine ⟨.ref t3, .tuple [tabsD ts', rbsD rs'], rfl, .tup (SqT.of upd_same) (.cons (dp_off k4' dv3) (.cons (dp_off k4' dw3) .nil)), z1, z2, z3, z4, rfl, _, rfl, ?_⟩
  rw [decide_eq_true rfl]
  refine iteF ?_
  have k14 := k3.trans k4'
  have du4 := du1.off k14
  have fin : ∀ G', Off (fun _ => False) G1 G' → ∃ w5 w8' w9' c2, [some (V.ref p), some (V.bl sm), some (V.ref D), some v, some w, some (V.int (0 + (t : Int))), some u, some (V.ref hd), some mv, some cv] = [some (V.ref p), some (V.bl sm), some (V.ref D), some v, some w, w5, some u, some (V.ref hd), w8', w9'] ∧
      Dp K G' v (tabsD ts') ∧ Dp K G' w (rbsD rs') ∧ Dp K G' (.ref hd) (.tuple [tabsD ts', rbsD rs']) ∧ DueAt K G' u (wrongBook ts' rs') ∧ Pu G' p c2 ∧ c2 ≤ c4 + (t + 1) ∧ Off (fun a => a = p) H G' := fun G' k' =>
    ⟨_, _, _, c' + 1, rfl, dp_off k' dv1, dp_off k' dw1, dp_off k' dH1, du1.off k', hp1.off k' no, by omega, (kHG.trans kb).trans (k'.mono fun _ z => z.elim)⟩
  cases eo : wrongBook ts' rs' with
  | some z =>
    obtain ⟨y, e⟩ := z
    rw [eo] at du4 fin
    obtain ⟨td, rfl, _⟩ := du4
    have nn : ¬ decide (V.ref td = V.non) = true := fun c => by cases of_decide_eq_true c
    refine ⟨_, rfl, rfl, _, rfl, ite2 (fun c => (nn c).elim) (fun _ => ?_)⟩
    exact iteF (fin _ k14)
  | none =>
    rw [eo] at du4 ca fin
    obtain ⟨rfl, b, rfl, hb⟩ := ca
    obtain rfl : u = .non := du4
    have hbG := hb.off ((k23 eo).trans k4')
    have dv4 := dp_off k14 dv1
    have dw4 := dp_off k14 dw1
    generalize upd G3 t3 (.tup [v, w]) = GG at k14 hbG dv4 dw4 ⊢
    have own2 : ∀ {F : Fp} {G5 G6 : Hp}, Off (fun _ => False) GG G5 → (∀ a, F a → GG a = none) → Off F G5 G6 → Off (fun _ => False) GG G6 := fun k5 f k6 b o eb _ => k6 b o (k5 b o eb id) fun z => by
      rw [f b z] at eb
      cases eb
    obtain ⟨dx, x1, x2, hx, _, _⟩ := id hbG
    refine ⟨_, rfl, rfl, _, rfl, ite2 (fun _ => ?_) (fun z => (z (decide_eq_true rfl)).elim)⟩
    refine ⟨_, rfl, b, dx, _, rfl, hx, b, ts', rs', 59, 8, 6, 25, 7, 19, rfl, hbG, bb, fun v1 F1 G5 o1 f1 k5 => ⟨_, rfl, v1, v, tabsD ts', F1, 100, [6, 2, 8], rfl, o1, dp_off k5 dv4, szT, fun G6 k6 => ⟨_, rfl, iteT ?_⟩⟩⟩
    have k46 := own2 k5 f1 k6
    refine ⟨_, rfl, b, dx, _, rfl, k46 _ _ hx no, b, ts', rs', 59, 8, 6, 25, 7, 19, rfl, hbG.off k46, bb, fun v2 F2 G7 o2 f2 k7 => ⟨_, rfl, v2, w, rbsD rs', F2, 100, [19, 5, 8], rfl, o2, dp_off (k46.trans k7) dw4, szR, fun G8 k8 => ⟨_, rfl, ?_⟩⟩⟩
    have k48 : Off (fun _ => False) GG G8 := fun b o eb _ => k8 b o (k7 b o (k46 b o eb no) no) fun z => by
      have := f2 b z
      rw [k46 b o eb no] at this
      cases this
    exact iteF (fin _ (k14.trans k48))
end
end LW
set_option Elab.async false
set_option linter.all false
set_option maxRecDepth 100000
set_option maxHeartbeats 0
/-! law of k03, and what its head tells -/
namespace LW
open PySem PySem.Spec PyProof.Rows L2 KV
def spLaw (K : PySem.W.Frag) : Sp := fun vs H Q _ => ∃ (a : Addr) (ns : List Int), vs = [.ref a] ∧ SqL K H a (ns.map V.int) ∧ ∀ H', Q (.bl true) H'
section
variable {P : Program} {w : World} {K : PySem.W.Frag} {mg : Str → Option Value} {base : Heap}
theorem scLaw : FnScope ["script", "spot", "purse", "turn"] ["script"] (defScope sLaw) := ⟨rfl, rfl, rfl, by decide +kernel, rfl, by decide +kernel, by decide +kernel⟩
theorem ok_law {f fP fR : Addr} {fd dP dR : FuncData} (F : FnP K "law" sLaw f fd) (GP : Dn P w K mg base 1 "_law_purse" ["script", "place"] (spPurse K) fP dP) (GR : DnC P w K mg base 11 "_law_right" ["purse"] (spRight K) fR dR)
    (mr : mg "range" = none) (mM : mg "max" = none) (mm : mg "min" = none) (ml : mg "len" = none) : FnC P w K mg base CX0 12 f fd ["script"] (spLaw K) := by
  refine Fun.okC F scLaw (fun vs H Q E h => ?_) (fun cdv A outer s H vs Q E hG hr h => ?_)
  · obtain ⟨a, ns, rfl, _⟩ := h
    rfl
  obtain ⟨a, ns, rfl, hS, q⟩ := h
  have hr1 : Room 1 _ := hr.mono (by decide)
  refine ⟨_, PSs.nox (pss_cons (ps_for PassesOwn.never rfl (pi_range1 rfl mr (pa_cons (pe_callB (call_max2 rfl) rfl mM boot_max (pa_cons pe_int (pa_cons (pe_callB (call_min2 rfl) rfl mm (by decide +kernel) (pa_cons pe_int (pa_cons (pe_callB call_len_seq rfl ml boot_len (pa_cons (pv 0) pa_nil)) pa_nil))) pa_nil))) pa_nil))
      (pg_name (i := 1) scLaw.nd rfl (Or.inl rfl))
      (pss_cons (ps_set (i := 2) scLaw.nd rfl (Or.inl rfl) (pe_call GP.g hr1 rfl GP.m GP.kp GP.b .nil pass0 (pa_cons (pv 0) (pa_cons (pv 1) pa_nil))))
      (pss_one (ps_for PassesOwn.never rfl (pi_range1 rfl mr (pa_cons pe_int pa_nil)) (pg_name (i := 3) scLaw.nd rfl (Or.inl rfl))
        (pss_one (ps_if (pt_not (pt_val (pe_callC hG GR.g hr rfl GR.m GR.kp GR.b pass0 (pa_cons (pv 2) pa_nil)))) (pss_one (ps_ret pe_bl)) pss_nil))))))
    (pss_one (ps_ret pe_bl))), ?_⟩
  have no : ¬ False := fun z => z
  have hl : (ns.map V.int).length = ns.length := List.length_map _
  have hb : ∀ L : Nat, (-(2 ^ 62) ≤ (if (if (L : Int) < 8 then (L : Int) else 8) > 1 then (if (L : Int) < 8 then (L : Int) else 8) else 1)) ∧ (if (if (L : Int) < 8 then (L : Int) else 8) > 1 then (if (L : Int) < 8 then (L : Int) else 8) else 1) ≤ 8 := by
    intro L
    split <;> split <;> omega
  obtain ⟨h1, h2⟩ := hb (ns.map V.int).length
  refine ⟨_, rfl, a, _, rfl, .inl hS, _, _, rfl, _, _, rfl, _, rfl, h1, by omega, for_range (lo := 0) (fun i σ H' => (∃ x y z, σ = [some (.ref a), x, y, z]) ∧ Off (fun _ => False) H H') ⟨⟨_, _, _, rfl⟩, Off.refl _ _⟩ (fun i σ H' hi g => ?_) fun σ H' g => ?_⟩
  · obtain ⟨⟨x, y, z, rfl⟩, k⟩ := g
    refine ⟨_, rfl, _, rfl, a, ns, 0 + (i : Int), rfl, sqL_off k hS, by omega, by omega, fun p np H1 hp1 k1 => ?_⟩
    have k01 : Off (fun _ => False) H H1 := fun b o e n => by
      have e' := k b o e n
      rw [k1 b (ne_of_none e' np)]
      exact e'
    have np0 : H p = none := k.none np no
    refine ⟨3, rfl, by decide, by decide, for_range (lo := 0) (n := 3) (fun t σ H2 => (∃ y w, σ = [some (.ref a), y, some (.ref p), w]) ∧ (∃ c, Pu H2 p c ∧ c ≤ t * 2000) ∧ Off (fun _ => False) H H2) ⟨⟨_, _, rfl⟩, ⟨0, hp1, by omega⟩, k01⟩ (fun t σ H2 ht g => ?_) fun σ H2 g => ?_⟩
    · obtain ⟨⟨y, w', rfl⟩, ⟨c, hp2, hc⟩, k2⟩ := g
      refine ⟨_, rfl, p, c, rfl, hp2, by omega, fun H3 c3 hp3 hc3 k3 => ⟨_, rfl, iteF ⟨⟨_, _, rfl⟩, ⟨c3, hp3, ?_⟩, ?_⟩⟩⟩
      · rw [Nat.add_mul]
        omega
      · intro b o e n
        exact k3 _ _ (k2 _ _ e n) fun y => by
          rw [y, np0] at e
          cases e
    · obtain ⟨⟨y, w', rfl⟩, _, k2⟩ := g
      exact ⟨⟨_, _, _, rfl⟩, k2⟩
  · exact q H'
end
end LW
set_option Elab.async false
set_option linter.all false
set_option maxRecDepth 100000
set_option maxHeartbeats 0
/-! the head of k03 -/
namespace LW
open PySem PySem.Spec PyProof.Rows L2 KV
def dD (x : Str) (st : Stmt) : Df := { at_ := fun K => He.ga K x, name := x, qual := x, params := defArgs st, body := defBody st, scope := defScope st }
def dM (C m q : Str) (st : Stmt) : Df := { at_ := fun K => He.ma K (He.ga K C) m, name := m, qual := q, params := defArgs st, body := defBody st, scope := defScope st }
def dG (C m q : Str) (st : Stmt) : Df := { at_ := fun K => pgB K (He.ga K C) m, name := m, qual := q, params := defArgs st, body := defBody st, scope := defScope st }
def fn : List Df := [dM "KeyTellError" "__init__" "KeyTellError.__init__" pKeyTellError_init, dM "Book" "__init__" "Book.__init__" pBook_init, dM "Book" "__getitem__" "Book.__getitem__" pBook_getitem, dG "Book" "tables" "Book.tables" pBook_tables, dG "Book" "rules" "Book.rules" pBook_rules,
  dD "check_tables" pCheckTables, dD "check_columns" pCheckColumns, dD "check_name" pCheckName, dD "check_rule" pCheckRule, dD "is_name" pIsName, dD "has_form" pHasForm, dD "copied" pCopied,
  dD "_law_purse" sPurse, dD "_law_coin" sCoin, dD "_law_words" sWords, dD "_law_drawn_tables" sDrawnTables, dD "_law_drawn_rules" sDrawnRules, dD "_law_copied" sCopied, dD "_law_muddle" sMuddle, dD "_law_own" sOwn, dD "_law_kinds" sKinds,
  dD "_law_error_right" sErrorRight, dD "_law_is_title" sIsTitle, dD "_law_bad_title" sBadTitle, dD "_law_bent_tables" sBentTables, dD "_law_bent_rule" sBentRule, dD "_law_bent_rules" sBentRules, dD "_law_wrong_rule" sWrongRule, dD "_law_wrong_book" sWrongBook,
  dD "_law_caught_of" sCaughtOf, dD "_law_right" sRight, dD "law" sLaw]
def fnNames : List Str := ["check_tables", "check_columns", "check_name", "check_rule", "is_name", "has_form", "copied", "_law_purse", "_law_coin", "_law_words", "_law_drawn_tables", "_law_drawn_rules", "_law_copied", "_law_muddle", "_law_own", "_law_kinds",
  "_law_error_right", "_law_is_title", "_law_bad_title", "_law_bent_tables", "_law_bent_rule", "_law_bent_rules", "_law_wrong_rule", "_law_wrong_book", "_law_caught_of", "_law_right", "law"]
def bltNames : List Str := ["len", "max", "min", "abs", "int", "isinstance", "list", "tuple", "range", "zip", "repr", "ValueError", "all", "bool", "enumerate"]
def own : List He.Fa := [.cls "Book", .noat "Book" "_tables", .noat "Book" "_rules", .mkr "Book", .int "LONGEST_NAME" 8]
def fa : List He.Fa := names.map He.Fa.glo ++ (fnNames.map He.Fa.glo ++ (bltNames.map He.Fa.free ++ (names.tail.map (fun y => He.Fa.exm y "KeyTellError" true) ++ ((["Book", "RULE_FORMS"] : List Str).map He.Fa.glo ++ own))))
def ex (K : PySem.W.Frag) : Bool := errsB K "value" "KeyTellError" names && (itemB K (He.ga K "Book") && (propB K (He.ga K "Book") "tables" && (propB K (He.ga K "Book") "rules" && pairsB K (He.ga K "RULE_FORMS") "key" "settles" 3 4)))
abbrev R : PySem.W.OpenRow := PySem.W.OpenLaw.row PySem.Challenge.rw_keysthrough_k03_books_that_are_none
abbrev hk : PySem.W.Hook := hookB 5 fa fn ex
def ob (s : PySem.W.SharedT) : He.AlD := obsBG 5 fa fn ex (HandSHeadRun.getT s)
theorem ob_eq (s : PySem.W.SharedT) : ob s = hk.obs s.abs := obsBG_eq (HandSHeadRun.getT_eq s)
def loose : List Str := names ++ (["_wall", "Book", "RULE_FORMS", "LONGEST_NAME", "check_tables", "check_columns", "check_name", "check_rule", "is_name", "has_form", "copied", "_law_purse", "_law_coin", "_law_words", "_law_drawn_tables", "_law_drawn_rules", "_law_copied", "_law_muddle", "_law_own", "_law_kinds",
  "_law_error_right", "_law_is_title", "_law_bad_title", "_law_bent_tables", "_law_bent_rule", "_law_bent_rules", "_law_wrong_rule", "_law_wrong_book", "_law_caught_of", "_law_right"] : List Str)
theorem run (w : World) : HandSHeadRun.RunEq R (PySem.W.view R.prog [45]) hk ob 12000 loose w := by
  intro os
  kernel_rfl
end LW
set_option Elab.async false
set_option linter.all false
set_option maxRecDepth 100000
set_option maxHeartbeats 0
/-! k03: the end -/
namespace LW
open PySem PySem.Spec PyProof.Rows L2 KV
theorem Vals.rev : ∀ {vs : List V} {us : List Value}, Vals vs us → Vals vs.reverse us.reverse
  | _, _, .nil => .nil
  | _, _, .cons h r => by
    rw [List.reverse_cons, List.reverse_cons]
    exact (Vals.rev r).append (.cons h .nil)
section
variable {P : Program} {w : World} {K : PySem.W.Frag} {h : Heap} {mg : Str → Option Value}
theorem facts {f : Addr} (X : K.In h) (G : h.Ns mainGlobals mg) (hfa : mg ("law" : Str) = some (.ref f)) (c : SaysB fa fn ex K) :
    ∃ fd : FuncData, (∀ (s : Shared) (v : Value), BindsTo s fd ⟨[v], []⟩ [("script", v)]) ∧ ∀ base : Heap, K.In base → base.Ns mainGlobals mg → FnC P w K mg base CX0 12 f fd ["script"] (spLaw K) := by
  obtain ⟨_, _, cx⟩ := c.parts
  obtain ⟨cE, cx⟩ := He.ba cx
  obtain ⟨cI, cx⟩ := He.ba cx
  obtain ⟨cT, cx⟩ := He.ba cx
  obtain ⟨cR, cF⟩ := He.ba cx
  have es := errsB_ok cE
  have gl : ∀ x ∈ names, mg x = some (.ref (He.ga K x)) := fun x hx => He.glo_ok X G (c.facts (List.mem_append_left _ (List.mem_map_of_mem hx)))
  have gf : ∀ x ∈ fnNames, mg x = some (.ref (He.ga K x)) := fun x hx => He.glo_ok X G (c.facts (List.mem_append_right _ (List.mem_append_left _ (List.mem_map_of_mem hx))))
  have gb : ∀ x ∈ bltNames, mg x = none := fun x hx => He.free_ok X G (c.facts (List.mem_append_right _ (List.mem_append_right _ (List.mem_append_left _ (List.mem_map_of_mem hx)))))
  have gx : ∀ y ∈ names.tail, PySem.W.exmOne K (.ref (He.ga K y)) (.ref (He.ga K "KeyTellError")) = some true := fun y hy =>
    He.exm_ok (c.facts (List.mem_append_right _ (List.mem_append_right _ (List.mem_append_right _ (List.mem_append_left _ (List.mem_map_of_mem (f := fun y => He.Fa.exm y "KeyTellError" true) hy))))))
  have gg : ∀ x ∈ (["Book", "RULE_FORMS"] : List Str), mg x = some (.ref (He.ga K x)) := fun x hx =>
    He.glo_ok X G (c.facts (List.mem_append_right _ (List.mem_append_right _ (List.mem_append_right _ (List.mem_append_right _ (List.mem_append_left _ (List.mem_map_of_mem hx)))))))
  have go : ∀ q ∈ own, q.ok K = true := fun q hq => c.facts (List.mem_append_right _ (List.mem_append_right _ (List.mem_append_right _ (List.mem_append_right _ (List.mem_append_right _ hq)))))
  have B : BookT K mg := ⟨He.cls_ok (go (.cls "Book") (by simp [own])), He.noat_ok (go (.noat "Book" "_tables") (by simp [own])), He.noat_ok (go (.noat "Book" "_rules") (by simp [own])), He.mkr_ok (go (.mkr "Book") (by simp [own])), gg "Book" (by decide), itemB_ok cI⟩
  obtain ⟨t8, m8⟩ := He.int_ok X G (go (.int "LONGEST_NAME" 8) (by simp [own]))
  obtain ⟨dI, FI⟩ := c.def_ 0 (d := dM "KeyTellError" "__init__" "KeyTellError.__init__" pKeyTellError_init) rfl
  obtain ⟨dB, FB⟩ := c.def_ 1 (d := dM "Book" "__init__" "Book.__init__" pBook_init) rfl
  obtain ⟨dIt, FIt⟩ := c.def_ 2 (d := dM "Book" "__getitem__" "Book.__getitem__" pBook_getitem) rfl
  obtain ⟨dGT, FGT⟩ := c.def_ 3 (d := dG "Book" "tables" "Book.tables" pBook_tables) rfl
  obtain ⟨dGR, FGR⟩ := c.def_ 4 (d := dG "Book" "rules" "Book.rules" pBook_rules) rfl
  obtain ⟨dCT, FCT⟩ := c.def_ 5 (d := dD "check_tables" pCheckTables) rfl
  obtain ⟨dCC, FCC⟩ := c.def_ 6 (d := dD "check_columns" pCheckColumns) rfl
  obtain ⟨dCN, FCN⟩ := c.def_ 7 (d := dD "check_name" pCheckName) rfl
  obtain ⟨dCR, FCR⟩ := c.def_ 8 (d := dD "check_rule" pCheckRule) rfl
  obtain ⟨dIN, FIN⟩ := c.def_ 9 (d := dD "is_name" pIsName) rfl
  obtain ⟨dHF, FHF⟩ := c.def_ 10 (d := dD "has_form" pHasForm) rfl
  obtain ⟨dCp, FCp⟩ := c.def_ 11 (d := dD "copied" pCopied) rfl
  obtain ⟨dPu, FPu⟩ := c.def_ 12 (d := dD "_law_purse" sPurse) rfl
  obtain ⟨dCo, FCo⟩ := c.def_ 13 (d := dD "_law_coin" sCoin) rfl
  obtain ⟨dWo, FWo⟩ := c.def_ 14 (d := dD "_law_words" sWords) rfl
  obtain ⟨dDT, FDT⟩ := c.def_ 15 (d := dD "_law_drawn_tables" sDrawnTables) rfl
  obtain ⟨dDR, FDR⟩ := c.def_ 16 (d := dD "_law_drawn_rules" sDrawnRules) rfl
  obtain ⟨dLC, FLC⟩ := c.def_ 17 (d := dD "_law_copied" sCopied) rfl
  obtain ⟨dMu, FMu⟩ := c.def_ 18 (d := dD "_law_muddle" sMuddle) rfl
  obtain ⟨dOw, FOw⟩ := c.def_ 19 (d := dD "_law_own" sOwn) rfl
  obtain ⟨dKi, FKi⟩ := c.def_ 20 (d := dD "_law_kinds" sKinds) rfl
  obtain ⟨dER, FER⟩ := c.def_ 21 (d := dD "_law_error_right" sErrorRight) rfl
  obtain ⟨dTi, FTi⟩ := c.def_ 22 (d := dD "_law_is_title" sIsTitle) rfl
  obtain ⟨dBa, FBa⟩ := c.def_ 23 (d := dD "_law_bad_title" sBadTitle) rfl
  obtain ⟨dBT, FBT⟩ := c.def_ 24 (d := dD "_law_bent_tables" sBentTables) rfl
  obtain ⟨dBR, FBR⟩ := c.def_ 25 (d := dD "_law_bent_rule" sBentRule) rfl
  obtain ⟨dBs, FBs⟩ := c.def_ 26 (d := dD "_law_bent_rules" sBentRules) rfl
  obtain ⟨dWR, FWR⟩ := c.def_ 27 (d := dD "_law_wrong_rule" sWrongRule) rfl
  obtain ⟨dWB, FWB⟩ := c.def_ 28 (d := dD "_law_wrong_book" sWrongBook) rfl
  obtain ⟨dCa, FCa⟩ := c.def_ 29 (d := dD "_law_caught_of" sCaughtOf) rfl
  obtain ⟨dRi, FRi⟩ := c.def_ 30 (d := dD "_law_right" sRight) rfl
  obtain ⟨dLa, FLa⟩ := c.def_ 31 (d := dD "law" sLaw) rfl
  have e := hfa.symm.trans (gf "law" (by decide))
  cases e
  have b2 : ∀ {x y z q : Str} {p : Arguments} {b : List Stmt} {s : Scope} {f : Addr} {fd : FuncData}, True := fun {_ _ _ _ _ _ _ _ _} => trivial
  have bI : Binds K dI ["self", "value"] [] := FI.bindsN fun _ _ _ _ _ _ us hl => match us, hl with | [_, _], _ => rfl
  have bB : Binds K dB ["self", "tables", "rules"] [] := FB.bindsN fun _ _ _ _ _ _ us hl => match us, hl with | [_, _, _], _ => rfl
  have bIt : Binds K dIt ["self", "name"] [] := FIt.bindsN fun _ _ _ _ _ _ us hl => match us, hl with | [_, _], _ => rfl
  have bGT : Binds K dGT ["self"] [] := FGT.bindsN fun _ _ _ _ _ _ us hl => match us, hl with | [_], _ => rfl
  have bGR : Binds K dGR ["self"] [] := FGR.bindsN fun _ _ _ _ _ _ us hl => match us, hl with | [_], _ => rfl
  have bCT : Binds K dCT ["tables"] [] := FCT.bindsN fun _ _ _ _ _ _ us hl => match us, hl with | [_], _ => rfl
  have bCC : Binds K dCC ["columns"] [] := FCC.bindsN fun _ _ _ _ _ _ us hl => match us, hl with | [_], _ => rfl
  have bCN : Binds K dCN ["name", "before"] [] := FCN.bindsN fun _ _ _ _ _ _ us hl => match us, hl with | [_, _], _ => rfl
  have bCR : Binds K dCR ["book", "rule"] [] := FCR.bindsN fun _ _ _ _ _ _ us hl => match us, hl with | [_, _], _ => rfl
  have bIN : Binds K dIN ["text"] [] := FIN.bindsN fun _ _ _ _ _ _ us hl => match us, hl with | [_], _ => rfl
  have bHF : Binds K dHF ["thing", "forms"] [] := FHF.bindsN fun _ _ _ _ _ _ us hl => match us, hl with | [_, _], _ => rfl
  have bCp : Binds K dCp ["thing"] [] := FCp.bindsN fun _ _ _ _ _ _ us hl => match us, hl with | [_], _ => rfl
  have bPu : Binds K dPu ["script", "place"] [] := FPu.bindsN fun _ _ _ _ _ _ us hl => match us, hl with | [_, _], _ => rfl
  have bCo : Binds K dCo ["purse", "many"] [] := FCo.bindsN fun _ _ _ _ _ _ us hl => match us, hl with | [_, _], _ => rfl
  have bWo : Binds K dWo ["purse", "many"] [] := FWo.bindsN fun _ _ _ _ _ _ us hl => match us, hl with | [_, _], _ => rfl
  have bDT : Binds K dDT ["purse", "most_tables", "most_columns"] [] := FDT.bindsN fun _ _ _ _ _ _ us hl => match us, hl with | [_, _, _], _ => rfl
  have bDR : Binds K dDR ["purse", "tables_here", "most"] [] := FDR.bindsN fun _ _ _ _ _ _ us hl => match us, hl with | [_, _, _], _ => rfl
  have bLC : Binds K dLC ["thing"] [] := FLC.bindsN fun _ _ _ _ _ _ us hl => match us, hl with | [_], _ => rfl
  have bMu : Binds K dMu ["thing"] [] := FMu.bindsN fun _ _ _ _ _ _ us hl => match us, hl with | [_], _ => rfl
  have bOw : Binds K dOw ["told", "due"] [] := FOw.bindsN fun _ _ _ _ _ _ us hl => match us, hl with | [_, _], _ => rfl
  have bKi : Binds K dKi ["caught"] [] := FKi.bindsN fun _ _ _ _ _ _ us hl => match us, hl with | [_], _ => rfl
  have bER : Binds K dER ["caught", "due"] [] := FER.bindsN fun _ _ _ _ _ _ us hl => match us, hl with | [_, _], _ => rfl
  have bTi : Binds K dTi ["wording"] [] := FTi.bindsN fun _ _ _ _ _ _ us hl => match us, hl with | [_], _ => rfl
  have bBa : Binds K dBa ["purse", "word"] [] := FBa.bindsN fun _ _ _ _ _ _ us hl => match us, hl with | [_, _], _ => rfl
  have bBT : Binds K dBT ["purse", "tables_here"] [] := FBT.bindsN fun _ _ _ _ _ _ us hl => match us, hl with | [_, _], _ => rfl
  have bBR : Binds K dBR ["purse", "tables_here"] [] := FBR.bindsN fun _ _ _ _ _ _ us hl => match us, hl with | [_, _], _ => rfl
  have bBs : Binds K dBs ["purse", "tables_here", "rules_here"] [] := FBs.bindsN fun _ _ _ _ _ _ us hl => match us, hl with | [_, _, _], _ => rfl
  have bWR : Binds K dWR ["titles", "rules_here"] [] := FWR.bindsN fun _ _ _ _ _ _ us hl => match us, hl with | [_, _], _ => rfl
  have bWB : Binds K dWB ["tables_here", "rules_here"] [] := FWB.bindsN fun _ _ _ _ _ _ us hl => match us, hl with | [_, _], _ => rfl
  have bCa : Binds K dCa ["tables_here", "rules_here", "way"] [] := FCa.bindsN fun _ _ _ _ _ _ us hl => match us, hl with | [_, _, _], _ => rfl
  have bRi : Binds K dRi ["purse"] [] := FRi.bindsN fun _ _ _ _ _ _ us hl => match us, hl with | [_], _ => rfl
  have bL := FunD.bindsA (ps := ["script"]) FLa fun _ _ _ _ _ _ us hl => match us, hl with | [_], _ => rfl
  have bk : ∀ (s : Shared) (a u : Value), BindsTo s dI ⟨[a], [("value", u)]⟩ [("self", a), ("value", u)] := by
    obtain ⟨oc, od, dV, kV, doc, pm, an, cdv, ct, osl, rfl, lk, hcd, hD, hK⟩ := FI.ex
    rcases hD with ⟨_, rfl⟩ | ⟨e, _⟩
    · intro s a u
      exact .of_eq (by rfl)
    · exact absurd rfl e
  have kB : KBn K dB ["self", "tables", "rules"] 1 ["rules", "tables"] (fun us ws => us ++ ws.reverse) (fun us zs => us ++ zs.reverse) := by
    obtain ⟨oc, od, dV, kV, doc, pm, an, cdv, ct, osl, rfl, lk, hcd, hD, hK⟩ := FB.ex
    rcases hD with ⟨_, rfl⟩ | ⟨e, _⟩
    · refine ⟨fun s us ws _ h1 h2 => ?_, fun r1 r2 => r1.append (Vals.rev r2)⟩
      match us, ws, h1, h2 with
      | [a], [x, y], _, _ => exact .of_eq (by rfl)
    · exact absurd rfl e
  refine ⟨dLa, fun s v => bL s [v] rfl, fun base _ _ => ?_⟩
  have T : ErrT P w K mg base dI := ⟨es, gl, ok_init FI, bI, bk⟩
  have mi := gb "int" (by decide)
  have mis := gb "isinstance" (by decide)
  have ml := gb "list" (by decide)
  have mt := gb "tuple" (by decide)
  have mr := gb "range" (by decide)
  have mn := gb "len" (by decide)
  have mp := gb "repr" (by decide)
  have mC := gf "_law_coin" (by decide)
  -- the program
  have gIN := ok_isN (P := P) (w := w) (base := base) FIN mn (gb "all" (by decide)) m8
  have gCN := ok_chkN FCN T gIN bIN (gf "is_name" (by decide)) FIN.kp
  have gCC := ok_chkC FCC gCN bCN (gf "check_name" (by decide)) FCN.kp
  have gCT := ok_chkT FCT gCN bCN (gf "check_name" (by decide)) FCN.kp gCC bCC (gf "check_columns" (by decide)) FCC.kp
  have gHF := ok_form (P := P) (w := w) (base := base) FHF mn (gb "bool" (by decide))
  have gCp := ok_copiedP (P := P) (w := w) (base := base) FCp bCp (gf "copied" (by decide)) mis ml mt 6
  have gIt := ok_item FIt T B ml
  have gCR := ok_chkR FCR T B gHF bHF (gf "has_form" (by decide)) FHF.kp gCp bCp (gf "copied" (by decide)) FCp.kp gIt bIt (gg "RULE_FORMS" (by decide)) (pairsB_ok cF)
  have gBk := ok_book FB B gCT bCT (gf "check_tables" (by decide)) FCT.kp gCp bCp (gf "copied" (by decide)) FCp.kp gCR bCR (gf "check_rule" (by decide)) FCR.kp
  have gGT := ok_getT FGT B gCp bCp (gf "copied" (by decide)) FCp.kp
  have gGR := ok_getR FGR B gCp bCp (gf "copied" (by decide)) FCp.kp
  -- the law
  have gLC := ok_copied (P := P) (w := w) (base := base) FLC bLC (gf "_law_copied" (by decide)) mis ml mt 6
  have gMu := ok_muddle (P := P) (w := w) (base := base) FMu bMu (gf "_law_muddle" (by decide)) mis ml mt 6
  have gOw := ok_own FOw gLC bLC (gf "_law_copied" (by decide)) FLC.kp gMu bMu (gf "_law_muddle" (by decide)) FMu.kp mp
  have gKi := ok_kinds FKi T mis (gb "zip" (by decide))
  have gER := ok_errR FER T gKi bKi (gf "_law_kinds" (by decide)) FKi.kp gOw bOw (gf "_law_own" (by decide)) FOw.kp mis (gb "ValueError" (by decide))
  have gTi := ok_isT (P := P) (w := w) (base := base) FTi mn
  have gBa := ok_bad (P := P) (w := w) (base := base) FBa FCo bCo mC mi mn
  have gBT := ok_bentT FBT FCo bCo mC gBa bBa (gf "_law_bad_title" (by decide)) FBa.kp gLC bLC (gf "_law_copied" (by decide)) FLC.kp mi mn
  have gBR := ok_bentR FBR FCo bCo mC gBa bBa (gf "_law_bad_title" (by decide)) FBa.kp mi mn ml
  have gBs := ok_bentRs FBs FCo bCo mC gBR bBR (gf "_law_bent_rule" (by decide)) FBR.kp gLC bLC (gf "_law_copied" (by decide)) FLC.kp mi mn
  have gWR := ok_wrongR (P := P) (w := w) (base := base) FWR mn ml
  have gWB := ok_wrongB FWB gTi bTi (gf "_law_is_title" (by decide)) FTi.kp gWR bWR (gf "_law_wrong_rule" (by decide)) FWR.kp (gb "enumerate" (by decide))
  have gCa := ok_caught FCa B gBk bB kB (gl "KeyTellError" (by decide)) gx
  have gDT := ok_drawnTables (P := P) (w := w) (base := base) FDT FCo bCo mC FWo bWo (gf "_law_words" (by decide)) mi mr
  have gDR := ok_drawnRules (P := P) (w := w) (base := base) FDR FCo bCo mC mi mr mn
  have gRi := ok_right FRi B ⟨ok_coin FCo mi, bCo, mC, FCo.kp⟩ ⟨gDT, bDT, gf "_law_drawn_tables" (by decide), FDT.kp⟩ ⟨gDR, bDR, gf "_law_drawn_rules" (by decide), FDR.kp⟩ ⟨gBT, bBT, gf "_law_bent_tables" (by decide), FBT.kp⟩
    ⟨gBs, bBs, gf "_law_bent_rules" (by decide), FBs.kp⟩ ⟨gWB, bWB, gf "_law_wrong_book" (by decide), FWB.kp⟩ ⟨gLC, bLC, gf "_law_copied" (by decide), FLC.kp⟩ ⟨gCa, bCa, gf "_law_caught_of" (by decide), FCa.kp⟩
    ⟨gER, bER, gf "_law_error_right" (by decide), FER.kp⟩ ⟨gOw, bOw, gf "_law_own" (by decide), FOw.kp⟩ (propB_ok cT) gGT bGT (propB_ok cR) gGR bGR mr mp
  exact ok_law FLa ⟨ok_purse FPu mn (gb "max" (by decide)) (gb "abs" (by decide)) mi, bPu, gf "_law_purse" (by decide), FPu.kp⟩ ⟨gRi, bRi, gf "_law_right" (by decide), FRi.kp⟩ mr (gb "max" (by decide)) (gb "min" (by decide)) mn
end
end LW
open PySem PySem.W PySem.Calls PyProof.Rows
set_option maxRecDepth 100000 in
set_option maxHeartbeats 0 in
theorem PySem.Challenge.cw_keysthrough_k03_books_that_are_none_holds : PySem.Challenge.rw_keysthrough_k03_books_that_are_none.Holds := by
  w_on; o_law
  refine HandSHeadRun.head_any (r := OpenLaw.row PySem.Challenge.rw_keysthrough_k03_books_that_are_none) (q := view (OpenLaw.row PySem.Challenge.rw_keysthrough_k03_books_that_are_none).prog [45]) (H := LW.hk) (ob := LW.ob) (M := 12000) (loose := LW.loose)
    (d := HandSHeadRun.topDef (OpenLaw.row PySem.Challenge.rw_keysthrough_k03_books_that_are_none).prog 45) (kwd := []) LW.ob_eq
    (by kernel_rfl) (fun s => by kernel_rfl) LW.run (by kernel_rfl) (by kernel_rfl) (by kernel_rfl) (by rfl) (by first | assumption | decide +kernel) (by decide +kernel) ⟨rfl, rfl, rfl, rfl, rfl, by decide +kernel⟩ ?hw ?hc
  case hw => w_witness2
  case hc =>
    refine KV.walk_ofC (l := PySem.Challenge.rw_keysthrough_k03_books_that_are_none) (n := 63) (k := 12) (x := "script") (CX := L2.CX0) rfl (by decide) (by kernel_rfl) ⟨rfl, by decide, by decide⟩ ?F (fun _ _ _ _ z => z)
    intro w mg fa h Y G hmg0
    obtain ⟨K, KX, c⟩ := Y
    have hmg : mg ("law" : PySem.Str) = some (.ref fa) := by
      have e : (HandSHeadRun.topDef (OpenLaw.row PySem.Challenge.rw_keysthrough_k03_books_that_are_none).prog 45).name = ("law" : PySem.Str) := by kernel_rfl
      rw [← e]
      exact hmg0
    obtain ⟨fd, hb, hF⟩ := LW.facts (P := (PySem.Challenge.rw_keysthrough_k03_books_that_are_none).prog) (w := w) KX G hmg c
    exact ⟨K, fd, LW.spLaw K, KX, hb, fun H a ns hl _ hS => ⟨a, ns, rfl, hS, fun _ => rfl⟩, hF⟩
