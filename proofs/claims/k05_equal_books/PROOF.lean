import PyProof.Rows.All
import Wide.All
import OpenK.AllK
import Wide.FinOn
import PyProof.ReprRoads
import PyProof.CallFns
import HandS.ForMost
import HandS.Wide
import HandS.IsInst
import HandS.ExcInit
import HandS.Defaults
import HandS.ExcIs
import HandS.ExcField
import HandS.MakeKw
import HandS.HeadHook1
import HandS.HeadHook2
import HandS.HeadHook3
import HandS.HeadHook4
import HandS.HeadEnd
import HandS.Head0
import HandS.Head1
import HandS.Head2
import HandS.ForExc
import HandS.MakeKwOnly
import HandS.Property
import HandS.Small
import HandS.Star
import HandS.Style
import HandS.CallRecv
import HandS.HeadNt
import HandS.RaiseMore
import HandS.Codes
import HandS.OwnEq
import PyProof.P3Eq
import HandS.CallSlots
import HandS.DictComp
import PyProof.EqKinds
import PyProof.NeKinds
import KE.DataCmp
import PySem.Challenge.RW_keysthrough_k05_equal_books
set_option Elab.async false
set_option linter.all false
set_option maxRecDepth 100000
set_option maxHeartbeats 2000000
/-! Calls from where no repr is under way; repr of data; powers of great ints. -/
namespace KV
open PySem PySem.Spec PyProof.Rows L2

/-- what a def promises to a caller above which no repr is under way -/
structure FnC (P : Program) (w : World) (K : PySem.W.Frag) (mg : Str → Option Value) (base : Heap) (CX : CXT) (k : Nat)
    (f : Addr) (fd : FuncData) (ps : List Str) (sp : Sp) : Prop where
  len : ∀ vs H Q E, sp vs H Q E → vs.length = ps.length
  run : ∀ (A : Around) (outer : List Env) (s : Shared) (H : Hp) (args : Args) (us : List Value) (vs : List V) (Q : VK) (E : XK),
    A.guards = some [] → Room k A → Env0 P w K mg base A outer s H → BindsTo s fd args (ps.zip us) → Vals vs us → sp vs H Q E →
      codeAny (model P w) A (.call (.ref f) args) (CR CX outer P w H s Q E) s

theorem FnC.of {P : Program} {w : World} {K : PySem.W.Frag} {mg : Str → Option Value} {base : Heap} {CX : CXT} {k : Nat} {f : Addr}
    {fd : FuncData} {ps : List Str} {sp : Sp} (F : FnOk P w K mg base CX k f fd ps sp) : FnC P w K mg base CX k f fd ps sp :=
  ⟨F.len, fun A outer s H args us vs Q E _ hr e0 hb r h => F.run A outer s H args us vs Q E hr e0 hb r h⟩

section
variable {X : Cx} {CX : CXT} {k : Nat} {f : Addr} {fd : FuncData} {ps : List Str} {sp : Sp} {E : XK} {x : Str} {p pos : Pos}
  {e : Expr} {es : List Expr} {t : TA}
/-- f(e, ..) from such a place, every parameter given -/
theorem pe_callC (hG : X.A.guards = some []) (F : FnC X.prog X.w X.K X.mg X.base CX k f fd ps sp) (hr : Room k X.A) (hg : Gl X x)
    (hm : X.mg x = some (.ref f)) (hk : PySem.W.keepIn X.K (.ref f) = true) (hb : Binds X.K fd ps []) (hx : Passes CX X E)
    (ha : PA X (e :: es) t) (hdb : (x == ("__debug__" : Str)) = false := by decide)
    (he : starEach (e :: es) X.env = (false, eval e X.env) :: starEach es X.env := by rfl)
    (hpl : (backTo pos (starEach es X.env)).any (·.1) = false := by rfl) :
    PE X (.Call (.Name x p) (e :: es) [] pos) (tCall sp [] E t) := by
  constructor
  intro pins s σ H Q I h
  apply wpAny_Call_Name_kw
  refine ld_glob I hg hm ?_ hdb
  refine PySem.W.callWith_K (h₀ := X.base) I.ok.mod.kin hk (thn (ha.run pos pins s σ H _ I h) ?_) he hpl
  rintro us s1 ⟨vs, H1, I1, r, q⟩
  refine ⟨I1.kIn, ?_⟩
  rw [List.append_nil] at q
  have hl : (us ++ []).length = ps.length := by rw [List.append_nil, ← r.length]; exact F.len _ _ _ _ q
  have hb1 := hb s1 us I1.kIn hl
  rw [List.append_nil] at hb1
  refine wpAny_call (codeAny_mono (F.run X.A X.stack s1 H1 ⟨us, []⟩ us vs Q E hG hr I1.env0 hb1 r q) ?_)
  intro res s' hq
  match res, hq with
  | .error er, hq => exact hx pins σ H1 s1 er s' I1 hq
  | .ok (.ret u), hq => exact I1.after hq
end

/-- the rule of a def for such callers -/
theorem Fun.okC {P : Program} {w : World} {K : PySem.W.Frag} {mg : Str → Option Value} {base : Heap} {x qual : Str} {params : Arguments}
    {body : List Stmt} {scope : Scope} {dvs : List V} {kws : List (Str × V)} {f : Addr} {fd : FuncData} {CX : CXT} {N ps : List Str} {k : Nat} {sp : Sp}
    (F : FunD K x qual params body scope dvs kws f fd) (S : FnScope N ps scope) (len : ∀ vs H Q E, sp vs H Q E → vs.length = ps.length)
    (hbody : ∀ (cdv : Value) (A : Around) (outer : List Env) (s : Shared) (H : Hp) (vs : List V) (Q : VK) (E : XK), A.guards = some [] →
      Room k (A.deeper (envOfC qual scope s.heap.objs.size f cdv)) → sp vs H Q E →
      ∃ t, PSs (cxOf CX P w K mg base N qual scope f cdv A outer s H E) body t ∧ t { nx := fun _ H' => Q .non H', rt := Q } (start N vs) H) :
    FnC P w K mg base CX (k + 1) f fd ps sp := by
  obtain ⟨oc, od, dV, kV, doc, pm, an, cdv, ct, osl, rfl, lk, hcd, _, _⟩ := F.ex
  refine ⟨len, ?_⟩
  intro A outer s H args us vs Q E hG hr e0 hb r hsp
  have keepB : ∀ b o, base.get? b = some o → s.heap.get? b = some o := fun b o q => (e0.bs b o q).1
  have KX : K.In s.heap := e0.mod.kin.keeps keepB
  have hkind : ∀ y ∈ ps.zip us, scope.names.lookup y.1 = some .local ∨
      (scope.names.lookup y.1 = some .cell ∧ ((cellsFrom (s.heap.objs.size + 1) scope.names []).lookup y.1).isSome = true) := by
    rintro ⟨n, v⟩ hy
    exact (S.par n (List.of_mem_zip hy).1).imp id fun q => ⟨q, PySem.W.cellsFrom_some _ _ _ (.inl q)⟩
  apply codeAny_call_function hr.depth (KX _ _ lk) rfl S.co S.gen rfl (PySem.W.codeRec_of KX hcd)
  apply hb
  apply wpAny_newFunctionEnv_cells S.kind hkind
  intro env he s1 x
  subst he
  refine ⟨(e0.mod.nolimit.keeps keepB).keeps x.toInCall.keep, codeAny_func ?_⟩
  obtain ⟨t, ht, hq⟩ := hbody cdv A outer s H vs Q E hG (hr.deeper _) hsp
  have I : Inv (cxOf CX P w K mg base N qual scope f cdv A outer s H E) [] (start N vs) H s1 := inv_start S hr.hd e0 (len _ _ _ _ hsp) r x
  refine wpAny_mono (ht.run [] s1 (start N vs) H _ I hq) ?_ (fun er s' hs => hs)
  intro fl s' hs
  match fl, hs with
  | .ret u, ⟨v, σ', H', J, rv, q⟩ => exact ⟨v, H', J.os, J.bare, J.base, J.hok, rv, q⟩
  | .next, ⟨σ', H', J, q⟩ => exact ⟨V.non, H', J.os, J.bare, J.base, J.hok, rfl, q⟩
  | .brk, ⟨_, _, _, q⟩ => exact False.elim q
  | .cont, ⟨_, _, _, q⟩ => exact False.elim q

/-! ### ints -/
def CPowB (i j : Int) : Prop := 0 ≤ j ∧ (Builtin.Int.intBits i : Int) * j ≤ 2 ^ 27
theorem op_powB {X : Cx} : OpR X (binaryOp .Pow) (rI CPowB fun i j => .int (i ^ j.toNat)) :=
  opI fun _ _ _ _ _ _ _ hc q => pow_int hc.1 hc.2 q

/-! ### repr -/
/-- repr(x), x data of any depth -/
def rRep (K : PySem.W.Frag) : List V → Hp → VK → Prop := fun xs H Q => ∃ x d, xs = [x] ∧ Dp K H x d ∧ d.showable = true ∧ d.hasDict = false ∧
  d.depth ≤ 60 ∧ d.shown.length ≤ sizeLine ∧ Q (.str d.shown) H
theorem call_repD {X : Cx} (hG : X.A.guards = some []) (hu : X.A.units + 64 < cLine) : CallR X (.builtin "repr") (rRep X.K) := by
  intro pins s σ H xs us Q I r h
  obtain ⟨x, d, rfl, hd, hs, hh, hdp, hz, q⟩ := h
  obtain ⟨u, rfl, ru⟩ := vals1 r
  have leaf : ∀ z tk, d.shown = z → EP X pins σ Q (.str z s.toks) { s with toks := tk } := fun z tk e => ⟨.str z, H, I.tok tk, ⟨_, rfl⟩, e ▸ q⟩
  cases hd with
  | non => cases ru; exact PySem.P.repr_of_none (leaf _ _ (by simp only [PyData.shown]))
  | bl b => cases ru; exact PySem.P.repr_of_bool (leaf _ _ (by simp only [PyData.shown]))
  | int i =>
    obtain ⟨t, rfl⟩ := ru
    exact PySem.P.repr_of_int (by simpa [PyData.showable] using hs) (leaf _ _ (by simp only [PyData.shown]))
  | str z =>
    obtain ⟨t, rfl⟩ := ru
    simp only [PyData.shown] at hz
    exact PySem.P.repr_of_str (leaf _ _ (by simp only [PyData.shown])) hz
  | @lst a ys ds h1 h2 =>
    cases ru
    obtain ⟨as, rr⟩ := Dp.reads I (.list ds) (.ref a) (.ref a) (.lst h1 h2) rfl
    exact repr_of_reads' rr hs (PyData.noDict_hsm hh) hG (by omega) (fun _ _ e => e) (fun h' u tk k => ⟨.str _, H, I.kept (t' := tk) k, ⟨_, rfl⟩, q⟩) hz
  | @tup a ys ds h1 h2 =>
    cases ru
    obtain ⟨as, rr⟩ := Dp.reads I (.tuple ds) (.ref a) (.ref a) (.tup h1 h2) rfl
    exact repr_of_reads' rr hs (PyData.noDict_hsm hh) hG (by omega) (fun _ _ e => e) (fun h' u tk k => ⟨.str _, H, I.kept (t' := tk) k, ⟨_, rfl⟩, q⟩) hz
/-! ### the law's call -/
section
variable {P : Program} {w : World} {K : PySem.W.Frag} {mg mb : Str → Option Value} {CX : CXT} {k : Nat} {fa a : Addr} {fd : FuncData}
  {x : Str} {sp : Sp} {s₁ : Shared} {vs : List Value} {ns : List Int}
/-- the end, from an abstract heap that tracks nothing but perhaps the script -/
theorem law_coreC (KX : K.In s₁.heap) (hns : s₁.heap.Ns mainGlobals mg) (hb : s₁.heap.Ns builtinsNs mb)
    (hbb : ∀ x : Str, x ≠ "__name__" → mb x = bootBuiltins x) (hlim : s₁.heap.NoLimit) (hg : s₁.gens = #[])
    (ha : s₁.heap.get? a = some { cls := .type "list", data := .seq vs.toArray }) (hr : Room k callerA)
    (F : ∀ base : Heap, K.In base → base.Ns mainGlobals mg → FnC P w K mg base CX k fa fd [x] sp)
    (hbind : ∀ (s : Shared) (u : Value), BindsTo s fd ⟨[u], []⟩ [(x, u)])
    (hCX : ∀ H e s', CX [] H s₁ (fun _ _ _ => False) e s' → False) (H : Hp) (hO : Only H)
    (hsp : sp [.ref a] H (fun v _ => v = .bl true) fun _ _ _ => False) (ok : HOk P w H s₁.heap) (hA : ∀ b u, H b = some u → b = a)
    (hK : ∀ u, H a = some u → K.lookup a = none) :
    codeAny (model P w) callerA (.call (.ref fa) ⟨[.ref a], []⟩)
      (fun r s' => r = .ok (.ret (.bool true)) ∧ OldK s₁.heap s'.heap ∧ s'.os = s₁.os ∧ AllBare s'.gens) s₁ := by
  have off : ∀ {b : Addr} {o : Obj}, s₁.heap.get? b = some o → (∀ es ep, o.data = .dict es ep → H b = none) := by
    intro b o e es ep d
    cases q : H b with
    | none => rfl
    | some u =>
      have z := hA b u q
      rw [z, ha] at e
      have z2 := Option.some.inj e
      rw [← z2] at d
      exact absurd d (by simp)
  have nsB : ∀ {b : Addr} {m : Str → Option Value}, s₁.heap.Ns b m → (hidT s₁.heap H).Ns b m := by
    rintro b m ⟨o, es, ep, e, d, r⟩
    exact ⟨o, es, ep, hidT_get e (off e es ep d), d, r⟩
  have inB : K.In (hidT s₁.heap H) := by
    intro b o e
    refine hidT_get (KX b o e) ?_
    cases q : H b with
    | none => rfl
    | some u =>
      have z := hA b u q
      subst z
      rw [hK u q] at e
      cases e
  obtain ⟨mc, hm1, hm2⟩ := hlim
  have M : Mod K mg (hidT s₁.heap H) := ⟨inB, nsB hns, ⟨mb, nsB hb, hbb⟩, ⟨mc, nsB hm1, hm2⟩⟩
  have E : Env0 P w K mg (hidT s₁.heap H) callerA [] s₁ H :=
    { frames := rfl, mod := M, bs := fun b o e => of_hidT e, bsz := Nat.le_of_eq (hidT_size _ _), funs := trivial,
      frf := fun b z => absurd (show b ∈ ([] : List Addr) from z) (by simp), hok := ok, bare := .of_eq hg }
  have R := (F _ inB (nsB hns)).run callerA [] s₁ H ⟨[.ref a], []⟩ [.ref a] [.ref a] _ _ rfl hr E (hbind s₁ (.ref a)) (.cons rfl .nil) hsp
  refine codeAny_mono R ?_
  intro r s' h
  match r, h with
  | .error e, h => exact (hCX H e s' h).elim
  | .ok (.ret u), ⟨v, H', os, bare, un, hok', rv, q⟩ =>
    have q1 : v = .bl true := q
    rw [q1] at rv
    have e1 : u = Value.bool true := rv
    refine ⟨by rw [e1], OldK.of_keep ?_, os, bare⟩
    intro b o e
    rcases hO b with z | ⟨ob, xs, z⟩
    · exact un.keep b o e z (fun z => absurd (show b ∈ ([] : List Addr) from z) (by simp)) (by simp)
    · have e2 := (ok b _ z).1
      have e3 := (hok' b _ (un.frzs b ob _ z)).1
      rw [e] at e2
      rw [Option.some.inj e2]
      exact e3

theorem law_callC (KX : K.In s₁.heap) (hns : s₁.heap.Ns mainGlobals mg) (hb : s₁.heap.Ns builtinsNs mb)
    (hbb : ∀ x : Str, x ≠ "__name__" → mb x = bootBuiltins x) (hlim : s₁.heap.NoLimit) (hg : s₁.gens = #[])
    (ha : s₁.heap.get? a = some { cls := .type "list", data := .seq vs.toArray }) (hi : IntsAre vs ns) (hl : ns.length ≤ sizeLine) (hr : Room k callerA)
    (F : ∀ base : Heap, K.In base → base.Ns mainGlobals mg → FnC P w K mg base CX k fa fd [x] sp)
    (hbind : ∀ (s : Shared) (u : Value), BindsTo s fd ⟨[u], []⟩ [(x, u)])
    (hsp : ∀ H : Hp, Only H → SqL K H a (ns.map V.int) → sp [.ref a] H (fun v _ => v = .bl true) fun _ _ _ => False)
    (hCX : ∀ H e s', CX [] H s₁ (fun _ _ _ => False) e s' → False) :
    codeAny (model P w) callerA (.call (.ref fa) ⟨[.ref a], []⟩)
      (fun r s' => r = .ok (.ret (.bool true)) ∧ OldK s₁.heap s'.heap ∧ s'.os = s₁.os ∧ AllBare s'.gens) s₁ := by
  have rv := vals_ints hi
  have core := law_coreC KX hns hb hbb hlim hg ha hr F hbind hCX
  by_cases hk : (K.lookup a).isSome = true
  · obtain ⟨o, ho⟩ := Option.isSome_iff_exists.mp hk
    have e := (KX a o ho).symm.trans ha
    have e2 := Option.some.inj e
    subst e2
    have hS : SqL K (fun _ => none) a (ns.map V.int) := .inr ⟨_, vs.toArray, _, ho, rfl, rfl, rfl, by rw [List.size_toArray, hi.length]; exact hl, rv⟩
    exact core _ (fun _ => .inl rfl) (hsp _ (fun _ => .inl rfl) hS) (fun b u z => by cases z) (fun b u z => by cases z) fun u z => by cases z
  · have hn : K.lookup a = none := by
      cases q : K.lookup a with
      | none => rfl
      | some o => rw [q] at hk; exact absurd rfl hk
    let O : HO := .frz { cls := .type "list", data := .seq vs.toArray } (.lst (ns.map V.int))
    have at_ : ∀ b u, upd (fun _ => none) a O b = some u → b = a ∧ u = O := by
      intro b u z
      by_cases hba : b = a
      · rw [hba, upd_same] at z
        exact ⟨hba, (Option.some.inj z).symm⟩
      · rw [upd_ne hba] at z
        cases z
    have hO : Only (upd (fun _ => none) a O) := by
      intro b
      by_cases hba : b = a
      · exact .inr ⟨_, _, by rw [hba, upd_same]⟩
      · exact .inl (by rw [upd_ne hba])
    refine core _ hO (hsp _ hO (.inl (.inr ⟨_, upd_same⟩))) ?_ (fun b u z => (at_ b u z).1) fun _ _ => hn
    intro b u z
    obtain ⟨rfl, rfl⟩ := at_ b u z
    exact ⟨ha, by rw [List.length_map]; exact hl, vs, _, rv, ha⟩

/-- the law's walk, its def's promise given to callers above which no repr is under way -/
theorem walk_ofC {l : PySem.W.OpenLaw} {n k : Nat} {q : Program} {loose : List Str} {XP : (Str → Option Value) → Heap → Prop} {YP : World → Heap → Prop} {d : DefRec} {CX : CXT} {x : Str}
    (hn : l.most = some n) (hn2 : n ≤ sizeLine) (hdf : d.params.defaults = []) (hr : Room k callerA)
    (F : ∀ (w : World) (mg : Str → Option Value) (fa : Addr) (h : Heap), YP w h → h.Ns mainGlobals mg → mg d.name = some (.ref fa) →
      ∃ (K : PySem.W.Frag) (fd : FuncData) (sp : Sp), K.In h ∧ (∀ (s : Shared) (u : Value), BindsTo s fd ⟨[u], []⟩ [(x, u)]) ∧
        (∀ (H : Hp) (a : Addr) (ns : List Int), ns.length ≤ n → Only H → SqL K H a (ns.map V.int) → sp [.ref a] H (fun v _ => v = .bl true) fun _ _ _ => False) ∧
        ∀ base : Heap, K.In base → base.Ns mainGlobals mg → FnC l.prog w K mg base CX k fa fd [x] sp)
    (hCX : ∀ (H : Hp) (s : Shared) (e : Value) (s' : Shared), CX [] H s (fun _ _ _ => False) e s' → False) :
    PySem.W.WalkO q loose XP YP l.row.toRowW d [] (fun f vs => PySem.call f vs) := by
  apply Att.attach_call hn hdf
  intro w s₀ s₁ mg mb fa o pm cd doc a vs ns G Y ho hd hcd hmg hobj hints hlen hg
  obtain ⟨K, fd, sp, KX, hb, hsp, hF⟩ := F w mg fa _ Y G.T.g hmg
  exact law_callC KX G.T.g G.T.b G.T.builtins G.T.nolimit hg hobj hints (Nat.le_trans hlen hn2) hr hF hb (fun H hO hS => hsp H a ns hlen hO hS)
    fun H e s' => hCX H s₁ e s'
end
end KV
set_option Elab.async false
set_option linter.all false
set_option maxRecDepth 100000
set_option maxHeartbeats 4000000
/-! Own errors over ValueError as values: made by position and by keyword, a field read, isinstance. -/
namespace PySem
namespace KVX
open PySem.W PySem.Calls PyProof.Rows PySem.HandSPX
section
variable {prog : Program} {w : World} {A : Around} {E : Value → Shared → Prop} {R : Result → Shared → Prop} {h : Heap} {g : Array GenState} {d : Drawn} {t : Nat} {os : OsState}
variable {nm q : Str} {C N : Addr} {bs bm bmB : List Value} {hdct : Bool} {sn : List Str} {sub : List Value} {ab : Bool} {col : Option Bool} {dd : Option Addr} {k0 k1 k2 k3 k5 : Option Value} {B newId initId : String}
  {kw : List (Str × Value)}

theorem checkK {M : Model} (F : ExcBaseFacts B newId initId bmB) (hT : ∀ X : String, bm.contains (.type X) = bmB.contains (.type X))
    {Q : Unit → Shared → Prop} (hC : h.get? C = some (excClassObj nm q C N bs bm hdct sn sub ab col dd k0 k1 k2 k3 k5 newId))
    (hq : Q () ⟨h, g, d, t, os⟩) : wpAny M A (checkBuiltinCall newId ⟨[.ref C], kw⟩) Q E ⟨h, g, d, t, os⟩ := by
  have inB : (Value.ref C :: bm).contains (.type B) = true := by
    rw [List.contains_cons, hT, F.hasB, Bool.or_true]
  have star := F.noStar
  simp only [checkBuiltinCall, F.newSplit, F.newKind, F.newRow]
  repeat (first
    | refine wpAny_loadPart_at hC ?_
    | (refine wpAny_isSubtype_exc hC ?_; rw [inB])
    | refine wpAny_staticBase_exc hC ?_
    | refine wpAny_madeBy_exc hC ?_
    | simp only [bne_self_eq_false, Bool.false_eq_true, if_false]
    | wp_step)
  exact hq

theorem newK (F : ExcBaseFacts B newId initId bmB) (hT : ∀ X : String, bm.contains (.type X) = bmB.contains (.type X))
    (hC : h.get? C = some (excClassObj nm q C N bs bm hdct sn sub ab col dd k0 k1 k2 k3 k5 newId))
    (hq : R (.ok (.ret (.ref (h.objs.size + 1)))) ⟨(h.push (kdv_tup [])).push (excO C h.objs.size), g, d, t, os⟩) :
    codeAny (model prog w) A (.builtin newId ⟨[.ref C], kw⟩) R ⟨h, g, d, t, os⟩ := by
  have ends := F.ends
  have inB : (Value.ref C :: bm).contains (.type B) = true := by
    rw [List.contains_cons, hT, F.hasB, Bool.or_true]
  have noA : (Value.ref C :: bm).contains (.type "AttributeError") = false := by
    rw [List.contains_cons, hT, F.noAttr]; rfl
  have noN : (Value.ref C :: bm).contains (.type "NameError") = false := by
    rw [List.contains_cons, hT, F.noName]; rfl
  have hz : ([] : List Value).length ≤ sizeLine := Nat.zero_le _
  apply codeAny_builtinAt F.entry
  unfold Builtin.«BaseException.__new__»
  apply wpAt_bind
  show wpAt _ _ _ (stack >>= _) _ _ _
  apply wpAt_bind
  refine wpAt_stack fun p below => wpAt_of_wpAny ?_
  wp_walk
  apply wpAt_of_wpAny
  rw [F.owner]
  repeat (first
    | with_reducible refine wpAny_madeHere_exc F.canon hC ?_
    | with_reducible refine wpAny_loadPart_at hC ?_
    | (with_reducible refine wpAny_isSubtype_exc hC ?_; first | rw [inB] | rw [noA] | rw [noN])
    | wp_step)
  show R _ _
  rw [Heap.size_push]
  exact hq

theorem typeCallK (F : ExcBaseFacts B newId initId bmB) (hT : ∀ X : String, bm.contains (.type X) = bmB.contains (.type X)) {fI : Addr} {Q : Fin → Shared → Prop}
    (hC : h.get? C = some (excClassObj nm q C N bs bm hdct sn sub ab col dd k0 k1 k2 k3 k5 newId))
    (hi : W.Looks (model prog w) h (typeLookup (.ref C) "__init__") (some (.ref fI)))
    (hb : ∀ self, W.Looks (model prog w) h (bindSpecial (.ref fI) self) (.ref fI, [self]))
    (hq : codeAny (model prog w) A (.call (.ref fI) ⟨[.ref (h.objs.size + 1)], kw⟩)
      (fun r s' => match r with | .ok (.ret v) => v = .none ∧ Q (.done (.ret (.ref (h.objs.size + 1)))) s' | .ok _ => False | .error e => E e s')
      ⟨(h.push (kdv_tup [])).push (excO C h.objs.size), g, d, t, os⟩) :
    wpAny (model prog w) A (Builtin.«type.__call__» ⟨[.ref C], kw⟩) Q E ⟨h, g, d, t, os⟩ := by
  repeat (first
    | with_reducible refine wpAny_loadPart_at hC ?_
    | with_reducible refine wpAny_madeBy_exc hC ?_
    | wp_step)
  apply codeAny_call_builtin_code (Code.quiet_builtin _ F.quiet) (checkK F hT hC ?_)
  apply newK F hT hC
  show wpAny _ _ _ _ _ _
  have keep : ∀ b o, h.get? b = some o → ((h.push (kdv_tup [])).push (excO C h.objs.size)).get? b = some o := fun b o e =>
    Heap.get?_push_of_some _ (Heap.get?_push_of_some _ e)
  have hget : ((h.push (kdv_tup [])).push (excO C h.objs.size)).get? (h.objs.size + 1) = some (excO C h.objs.size) := by heap_get
  have inC : (Value.ref C :: bm).contains (.ref C) = true := by simp
  have i1 := hi.keeps keep
  have b1 := (hb (.ref (h.objs.size + 1))).keeps keep
  unfold isInstance
  repeat (first
    | with_reducible refine wpAny_loadPart_at hget ?_
    | (with_reducible refine wpAny_isSubtype_exc (keep _ _ hC) ?_; rw [inC])
    | wp_step)
  show wpAny _ _ (typeLookup (.ref C) _) _ _ _
  apply i1.at
  apply wpAny_holding
  apply wpAny_bind
  apply b1.at
  apply wpAny_bind
  refine wpAny_call (codeAny_mono hq fun r s' z => ?_)
  rcases r with e | (v | _ | _ | _) <;> first | exact z | exact z.elim | skip
  obtain ⟨rfl, z⟩ := z
  first
    | exact wpAny_pure (wpAny_pure z)
    | (wp_walk; exact z)

theorem callK (F : ExcBaseFacts B newId initId bmB) (hT : ∀ X : String, bm.contains (.type X) = bmB.contains (.type X)) {fI : Addr}
    (hC : h.get? C = some (excClassObj nm q C N bs bm hdct sn sub ab col dd k0 k1 k2 k3 k5 newId))
    (hi : W.Looks (model prog w) h (typeLookup (.ref C) "__init__") (some (.ref fI)))
    (hb : ∀ self, W.Looks (model prog w) h (bindSpecial (.ref fI) self) (.ref fI, [self]))
    (hq : codeAny (model prog w) (A.under (.builtin "type.__call__" ⟨[.ref C], kw⟩)) (.call (.ref fI) ⟨[.ref (h.objs.size + 1)], kw⟩) (W.InitBack (h.objs.size + 1) R)
      ⟨(h.push (kdv_tup [])).push (excO C h.objs.size), g, d, t, os⟩) :
    codeAny (model prog w) A (.call (.ref C) ⟨[], kw⟩) R ⟨h, g, d, t, os⟩ := by
  have look := tc_lookup
  have bind := tc_bind (.ref C)
  have hTy : (⟨h, g, d, t, os⟩ : Shared).TypeIs (.ref C) "type" := ⟨_, hC, rfl⟩
  apply codeAny_of_tree
  show wpAny _ _ (callAny (.ref C) _) _ _ _
  repeat (any_goals (first
    | assumption
    | with_reducible refine wpAny_loadPart_at hC ?_
    | wp_step))
  refine ⟨rfl, ?_⟩
  apply codeAny_call_builtin_at (Code.quiet_builtin _ (by decide +kernel)) entry_typeCall
  refine wpAny_check_type_call_sub hC (typeCallK F hT hC hi hb ?_)
  refine codeAny_mono hq fun r s' z => ?_
  rcases r with e | (v | _ | _ | _) <;> exact z
end
end KVX
end PySem
set_option Elab.async false
set_option linter.all false
set_option maxRecDepth 100000
set_option maxHeartbeats 4000000
namespace PySem.W
open PySem PySem.Spec PySem.Calls PyProof.Rows
section
variable {prog : Program} {w : World} {A : Around} {E : Value → Shared → Prop} {s : Shared} {K : Frag} {x D : Addr} {ox : Obj} {od : Option Obj}
/-- what the class of an error says of its objects' __class__ -/
structure ErrC (K : Frag) (D : Addr) : Prop where
  hga : findIn K (.ref D) "__getattribute__" = some (some (.builtin "BaseException.__getattribute__"))
  hgt : findIn K (.ref D) "__getattr__" = some none
  hsub : subIn K (.ref D) (.type "BaseException") = some true
  hdct : hasDictIn K D = true
  ha : findIn K (.ref D) "__class__" = some (some (.builtin "object.__class__"))
  hn : specialIn K (.builtin "object.__class__") "__get__" = some (some (.builtin "getset_descriptor.__get__"))
  htk : takesIn K (.builtin "object.__class__") = some true
  hm : mroIn K D (.type "object") = some true

theorem err_find (c : ErrC K D) : findObj K D od "__class__" = some (.bind (.builtin "getset_descriptor.__get__") (.builtin "object.__class__")) := by
  obtain ⟨cd, hc, _⟩ := any_some c.hdct
  unfold findObj
  rw [hc, Option.bind_some, c.ha, Option.bind_some]
  simp [c.hn, c.htk]

theorem err_class {Q : Option Value → Shared → Prop} (c : ErrC K D) (X : K.In s.heap) (I : InstAt s.heap x ox D od)
    (h : Q (some (.ref D)) { s with toks := s.toks + 1 }) : wpAny (model prog w) A (getAttr? (.ref x) "__class__") Q E s := by
  obtain ⟨hp, g, d, t, os⟩ := s
  have T := I.type (M := model prog w)
  have G := looks_findIn (M := model prog w) X c.hga
  have N := looks_findIn (M := model prog w) X c.hgt
  have Fd := looks_find (M := model prog w) X I (err_find c)
  have sub : Looks (model prog w) hp (isInstance (.ref x) (.type "BaseException")) true := T.andThen (looks_subIn X c.hsub)
  have n0 : (false && onTheHeap (Value.builtin "BaseException.__getattribute__")) = false := rfl
  have n2 : (Value.builtin "BaseException.__getattribute__" == Value.builtin "object.__getattribute__") = false := by decide +kernel
  have n1 : (onTheHeap (Value.ref D) && Value.builtin "BaseException.__getattribute__" == Value.builtin "object.__getattribute__") = false := by
    rw [n2]; rfl
  unfold getAttr? getAttrBy? getAttrBy
  apply wpAny_bind
  apply wpAny_mkText
  apply wpAny_bind
  apply wpAny_attempt
  apply wpAny_holding
  refine wpAny_bind (T.at (wpAny_bind (G.at ?_)))
  show wpAny _ _ (if (onTheHeap (Value.ref D) && Value.builtin "BaseException.__getattribute__" == Value.builtin "object.__getattribute__") = true then _ else _) _ _ _
  rw [n1, if_neg Bool.false_ne_true]
  unfold getAttrByItsOwn hookBefore
  apply wpAny_bind
  rw [if_pos (show onTheHeap (Value.ref D) = true from rfl)]
  apply N.at
  refine wpAny_bind (wpAny_attempt (wpAny_holding ?_))
  unfold callGetattribute
  rw [n0, if_neg Bool.false_ne_true]
  unfold boundAndCalled
  rw [PySem.F.excAttr_ValueError.ga.bind (.ref x)]
  apply wpAny_bind
  apply wpAny_pure
  show wpAny _ _ (call (.builtin "BaseException.__getattribute__") [.ref x, .str "__class__" t]) _ _ _
  apply wpAny_call
  apply codeAny_call_builtin PySem.F.excAttr_ValueError.ga.plain PySem.F.entry_bexc_ga
  refine @check_slot (model prog w) _ _ ⟨hp, g, d, t + 1, os⟩ "BaseException.__getattribute__" "BaseException" "__getattribute__" (.ref x) [.str "__class__" t] [] _
    (by decide +kernel) (by decide +kernel) sub (PySem.F.args_bexc_ga (.ref x) (.str "__class__" t)) ?_
  unfold Builtin.«object.__getattribute__»
  apply wpAny_bind
  refine wpAny_of_eq (a := ((Value.ref x : Value), [Value.str "__class__" t])) (by first | rfl | (simp only [slotArgs]; rfl)) ?_
  apply wpAny_bind
  apply wpAny_pure
  refine wpAny_bind (T.at (wpAny_bind (Fd.at ?_)))
  show wpAny _ _ (holding [Value.builtin "object.__class__"] (call (.builtin "getset_descriptor.__get__") [.builtin "object.__class__", .ref x, .ref D]) >>= ret) _ _ _
  apply wpAny_bind
  apply wpAny_holding
  apply wpAny_call
  refine class_get (s := ⟨hp, g, d, t + 1, os⟩) (ox := ox) (od := od) X I c.hm ?_
  apply wpAny_pure
  show wpAny _ _ (handedOut (.ref D)) _ _ _
  rw [handedOut_of (v := .ref D) rfl]
  first
    | exact wpAny_pure (wpAny_pure h)
    | exact wpAny_pure h
    | exact wpAny_pure (wpAny_bind (wpAny_pure (wpAny_pure h)))

theorem err_obj (c : ErrC K D) : ∃ c' d' cd' sl', K.lookup D = some ⟨c', d', .cls cd', sl'⟩ := by
  obtain ⟨cdD, hcD, _⟩ := any_some c.hdct
  unfold clsIn at hcD
  split at hcD
  · rename_i c' d' cd' sl' ho
    exact ⟨_, _, _, _, ho⟩
  · cases hcD

theorem err_kit (c : ErrC K D) : KitX K (.ref x) (.ref D) (fun h => InstAt h x ox D od) where
  ty := fun _ _ _ I => I.type
  it := fun _ _ X _ => by
    obtain ⟨c', d', cd', sl', ho⟩ := err_obj c
    intro A' Q' E' s' k q
    unfold isType loadHead
    exact wpAny_bind (wpAny_loadPart (k _ _ (X _ _ ho)) (wpAny_pure q))
  ne := fun h tp dd its n sl X htp => by
    obtain ⟨c', d', cd', sl', ho⟩ := err_obj c
    refine Bool.eq_false_iff.mpr fun q => ?_
    have e : D = tp := Value.ref.inj (beq_iff_eq.mp q)
    subst e
    have z := (X _ _ ho).symm.trans htp
    cases z
  ca := fun X I k => err_class c X I k
end
end PySem.W

namespace KV
open PySem PySem.Spec PyProof.Rows L2
/-- a new error at a, its dict at dx -/
def exH (H : Hp) (a dx C : Addr) (f : Str) (v : V) : Hp := upd (upd H dx (exd dx [(f, v)])) a (exo a C (some dx))
theorem exH_upd {H : Hp} {a dx C : Addr} {f : Str} {v : V} (hne : dx ≠ a) : exH (upd H a (exo a C none)) a dx C f v = exH H a dx C f v := by
  funext b
  unfold exH
  by_cases h1 : b = a
  · rw [h1, upd_same, upd_same]
  · rw [upd_ne h1, upd_ne h1]
    by_cases h2 : b = dx
    · rw [h2, upd_same, upd_same]
    · rw [upd_ne h2, upd_ne h2, upd_ne h1]
/-- what __init__(self, f) with self.f = f promises -/
def spInit (K : PySem.W.Frag) (f : Str) : Sp := fun vs H Q _ => ∃ (a C : Addr) (v : V), vs = [.ref a, v] ∧ OexC K C ∧
  PySem.W.findIn K (.ref C) f = some none ∧ H a = some (exo a C none) ∧ ∀ dx, H dx = none → dx ≠ a → Q .non (exH H a dx C f v)
/-- C(e), C(f = e): a new error that holds the value -/
def tNewEx (C : Addr) (f : Str) (te : TE) : TE := fun σ H Q => te σ H fun v H1 => ∀ a dx, H1 a = none → H1 dx = none → dx ≠ a → Q (.ref a) (exH H1 a dx C f v)

section
variable {X : Cx} {k : Nat} {fI C : Addr} {fd : FuncData} {f x : Str} {p pos kp : Pos} {e : Expr} {te : TE}
/-- the head of such a call: the object is laid, __init__ runs -/
theorem run_init {pins : List (Addr × Obj)} {σ : L2.St} {H : Hp} {hp : Heap} {g : Array GenState} {dr : Drawn} {tk : Nat} {os : OsState} {Q : VK} {v : V} {u : Value} {args : Args} {rest : List Value} {A : Around}
    (T : OexC X.K C) (hf : PySem.W.findIn X.K (.ref C) f = some none) (F1 : FnOk X.prog X.w X.K X.mg X.base CX0 k fI fd ["self", f] (spInit X.K f))
    (hr : Room k A) (he : ∀ {s : Shared} {H : Hp}, Env0 X.prog X.w X.K X.mg X.base X.A X.stack s H → Env0 X.prog X.w X.K X.mg X.base A X.stack s H)
    (hb : ∀ s : Shared, X.K.In s.heap → BindsTo s fd args [("self", .ref (hp.objs.size + 1)), (f, u)])
    (I : Inv X pins σ H ⟨hp, g, dr, tk, os⟩) (r : RelV v u) (q : ∀ a dx, H a = none → H dx = none → dx ≠ a → Q (.ref a) (exH H a dx C f v)) :
    codeAny (model X.prog X.w) A (.call (.ref fI) args) (PySem.W.InitBack (hp.objs.size + 1) (callEnd (EP X pins σ Q) X.xe))
      ⟨(hp.push (PySem.W.kdv_tup rest)).push (PySem.HandSPX.excO C hp.objs.size), g, dr, tk, os⟩ := by
  have hsz : hp.objs.size ≤ hp.objs.size + 1 := Nat.le_succ _
  have hn : H (hp.objs.size + 1) = none := I.hok.fresh hsz
  have keep : ∀ b o, hp.get? b = some o → ((hp.push (PySem.W.kdv_tup rest)).push (PySem.HandSPX.excO C hp.objs.size)).get? b = some o :=
    fun b o e => Heap.get?_push_of_some _ (Heap.get?_push_of_some _ e)
  have hget : ((hp.push (PySem.W.kdv_tup rest)).push (PySem.HandSPX.excO C hp.objs.size)).get? (hp.objs.size + 1) = some (PySem.HandSPX.excO C hp.objs.size) := by heap_get
  have J := I.laid (t' := tk) (a := hp.objs.size + 1) (o := exo (hp.objs.size + 1) C none) keep hsz (exo_ok hget)
  have hs : spInit X.K f [.ref (hp.objs.size + 1), v] (upd H (hp.objs.size + 1) (exo (hp.objs.size + 1) C none))
      (fun v' H3 => v' = .non ∧ Q (.ref (hp.objs.size + 1)) H3) (fun _ _ _ => False) := by
    refine ⟨_, C, v, rfl, T, hf, upd_same, fun dx hd hne => ⟨rfl, ?_⟩⟩
    rw [upd_ne hne] at hd
    rw [exH_upd hne]
    exact q _ dx hn hd hne
  refine codeAny_mono (F1.run A X.stack _ _ args [.ref (hp.objs.size + 1), u] [.ref (hp.objs.size + 1), v] _ _ hr (he J.env0) (hb _ J.kIn) (.cons rfl (.cons r .nil)) hs) ?_
  intro res s' hq
  match res, hq with
  | .ok (.ret z), hq =>
    obtain ⟨v', H3, I3, rv, ev, q3⟩ := J.after hq
    subst ev
    exact ⟨rv, .ref (hp.objs.size + 1), H3, I3, rfl, q3⟩

/-- C(e) -/
theorem pe_exP (T : OexC X.K C) (hf : PySem.W.findIn X.K (.ref C) f = some none) (iC : PySem.W.findIn X.K (.ref C) "__init__" = some (some (.ref fI)))
    (tI : PySem.W.typeIn X.K (.ref fI) = some (.type "function")) (F1 : FnOk X.prog X.w X.K X.mg X.base CX0 k fI fd ["self", f] (spInit X.K f)) (hr : Room (k + 1) X.A)
    (hb : Binds X.K fd ["self", f] []) (hg : Gl X x) (hm : X.mg x = some (.ref C)) (ha : PE X e te)
    (hdb : (x == ("__debug__" : Str)) = false := by decide) (hst : starEach (e :: []) X.env = (false, eval e X.env) :: starEach [] X.env := by rfl)
    (hpl : (backTo pos (starEach [] X.env)).any (·.1) = false := by rfl) : PE X (.Call (.Name x p) [e] [] pos) (tNewEx C f te) := by
  constructor
  intro pins s σ H Q I h
  obtain ⟨nm, q, N, bs, bm, sn, sub, ab, col, dd, k0, k1, k2, k3, k5, hC, hbm⟩ := T.cls
  apply wpAny_Call_Name_kw
  refine ld_glob I hg hm ?_ hdb
  refine PySem.W.callWith_K (h₀ := X.base) I.ok.mod.kin T.kC (thn ((pa_cons ha pa_nil hst).run pos pins s σ H _ I (show tCons te tNil σ H (fun vs H1 => ∃ v, vs = [v] ∧ ∀ a dx, H1 a = none → H1 dx = none → dx ≠ a → Q (.ref a) (exH H1 a dx C f v)) from ?_)) ?_) hst hpl
  · refine Eq.mp ?_ h
    unfold tNewEx tCons tNil
    congr 1
    funext v H1
    apply propext
    constructor
    · intro z; exact ⟨v, rfl, z⟩
    · rintro ⟨v', e1, z⟩
      cases e1
      exact z
  · rintro us s1 ⟨vs, H1, I1, r1, v, rfl, q1⟩
    refine ⟨I1.kIn, ?_⟩
    obtain ⟨u, rfl, ru⟩ := vals1 r1
    show wpAny _ _ (call (.ref C) [u]) _ _ _
    obtain ⟨hp, g, dr, tk, os⟩ := s1
    refine wpAny_call (PySem.HandSPX.call_own F.excBase_ValueError (fun Y => PySem.HandSPX.refsVE_contains Y bm hbm) (I1.kIn _ _ hC) (PySem.W.looks_findIn I1.kIn iC)
      (fun self => PySem.W.bind_fn I1.kIn self tI) (by rw [sizeLine_eq]; exact (by decide : 1 ≤ 16777216)) ?_)
    exact run_init T hf F1 (hr.make C _ _) (fun z => z.make C _ _) (fun s k => hb s [.ref (hp.objs.size + 1), u] k rfl) I1 ru q1

/-- C(f = e) -/
theorem pe_exK (T : OexC X.K C) (hf : PySem.W.findIn X.K (.ref C) f = some none) (iC : PySem.W.findIn X.K (.ref C) "__init__" = some (some (.ref fI)))
    (tI : PySem.W.typeIn X.K (.ref fI) = some (.type "function")) (F1 : FnOk X.prog X.w X.K X.mg X.base CX0 k fI fd ["self", f] (spInit X.K f)) (hr : Room (k + 1) X.A)
    (hb : ∀ (s : Shared) (a u : Value), BindsTo s fd ⟨[a], [(f, u)]⟩ [("self", a), (f, u)]) (hg : Gl X x) (hm : X.mg x = some (.ref C)) (ha : PE X e te)
    (hall : (backToKw pos (keywordEach [⟨some f, e, kp⟩] X.env)).all (·.1.isSome) = true := by rfl)
    (hks : (backToKw pos (keywordEach [⟨some f, e, kp⟩] X.env)).filterMap (·.1) = [f] := by rfl) (hdb : (x == ("__debug__" : Str)) = false := by decide)
    (hpl : ((backTo pos (starEach [] X.env)).any (·.1) || (backToKw pos (keywordEach [⟨some f, e, kp⟩] X.env)).any (·.1.isNone)) = false := by rfl) :
    PE X (.Call (.Name x p) [] [⟨some f, e, kp⟩] pos) (tNewEx C f te) := by
  constructor
  intro pins s σ H Q I h
  obtain ⟨nm, q, N, bs, bm, sn, sub, ab, col, dd, k0, k1, k2, k3, k5, hC, hbm⟩ := T.cls
  apply wpAny_Call_Name_kw
  refine ld_glob I hg hm ?_ hdb
  refine PySem.W.callWith_KW0 (h₀ := X.base) I.ok.mod.kin T.kC hall ?_ hpl
  refine thn ((pk_cons ha pk_nil).run pos pins s σ H _ I (show tCons te tNil σ H (fun vs H1 => ∃ v, vs = [v] ∧ ∀ a dx, H1 a = none → H1 dx = none → dx ≠ a → Q (.ref a) (exH H1 a dx C f v)) from ?_)) ?_
  · refine Eq.mp ?_ h
    unfold tNewEx tCons tNil
    congr 1
    funext v H1
    apply propext
    constructor
    · intro z; exact ⟨v, rfl, z⟩
    · rintro ⟨v', e1, z⟩
      cases e1
      exact z
  · rintro us s1 ⟨vs, H1, I1, r1, v, rfl, q1⟩
    refine ⟨I1.kIn, ?_⟩
    obtain ⟨u, rfl, ru⟩ := vals1 r1
    rw [hks]
    show wpAny _ _ (call (.ref C) [] [(f, u)]) _ _ _
    obtain ⟨hp, g, dr, tk, os⟩ := s1
    refine wpAny_call (PySem.KVX.callK F.excBase_ValueError (fun Y => PySem.HandSPX.refsVE_contains Y bm hbm) (I1.kIn _ _ hC) (PySem.W.looks_findIn I1.kIn iC)
      (fun self => PySem.W.bind_fn I1.kIn self tI) ?_)
    exact run_init T hf F1 (hr.make C [] [(f, u)]) (fun z => z.make C [] [(f, u)]) (fun s _ => hb s _ u) I1 ru q1

/-- the field of such an error -/
def tGetEx (K : PySem.W.Frag) (f : Str) (te : TE) : TE := fun σ H Q => te σ H fun x H1 => ∃ (a C dx : Addr) (fs : List (Str × V)) (v : V), x = .ref a ∧ XfC K C ∧ PySem.W.findIn K (.ref C) f = some none ∧
  H1 a = some (exo a C (some dx)) ∧ H1 dx = some (exd dx fs) ∧ fs.lookup f = some v ∧ Q v H1
theorem pe_getEx (he : PE X e te) (hb : attributeBase e f X.env (eval e X.env) = eval e X.env := by rfl) : PE X (.Attribute e f pos) (tGetEx X.K f te) := by
  constructor
  intro pins s σ H Q I h
  refine attr_of hb (thn (he.run pins s σ H _ I h) ?_)
  rintro u s1 ⟨x, H1, I1, rx, a, C, dx, fs, v, rfl, T, hno, ea, ed, l, q⟩
  cases rx
  obtain ⟨t1, ho⟩ := exo_at I1.hok ea
  obtain ⟨mA, hns, hr⟩ := exd_at I1.hok ed
  obtain ⟨od, hod, hl⟩ := lookIn_ns hns
  obtain ⟨u, hu, ru⟩ := RelO.some_of (v := v) (o := mA f) (by rw [← l]; exact hr f)
  have J : PySem.W.InstAt s1.heap a { cls := .ref C, dict := some dx, data := .fields #[.ref t1, .none, .none, .none, .bool false, .none] } C (some od) := ⟨ho, rfl, rfl, hod⟩
  exact HandSPX.exc_get I1.kIn J T.ga T.gg T.exC (PySem.W.findObj_own T.hdC hno rfl (by rw [hl, hu])) (handed_of ru) ⟨v, H1, I1.tok _, ru, q⟩

/-- isinstance(x, C), x such an error -/
def rIsX (K : PySem.W.Frag) : List V → Hp → VK → Prop := fun xs H Q => ∃ (a D dx : Addr) (fs : List (Str × V)) (c : V) (u : Value) (b : Bool), xs = [.ref a, c] ∧ ClsV c u ∧ PySem.W.ErrC K D ∧
  H a = some (exo a D (some dx)) ∧ H dx = some (exd dx fs) ∧ PySem.W.kitOne K (.ref D) u = some b ∧ Q (.bl b) H
theorem call_isX : CallR X (.builtin "isinstance") (rIsX X.K) := by
  intro pins s σ H xs us Q I r h
  obtain ⟨a, D, dx, fs, c, u, b, rfl, k, cls, ea, ed, e, q⟩ := h
  obtain ⟨u1, u2, rfl, r1, r2⟩ := vals2 r
  have e2 := k.eq r2
  subst e2
  cases r1
  obtain ⟨t1, ho⟩ := exo_at I.hok ea
  obtain ⟨mA, hns, hr⟩ := exd_at I.hok ed
  obtain ⟨od, hod, hl⟩ := lookIn_ns hns
  have J : PySem.W.InstAt s.heap a { cls := .ref D, dict := some dx, data := .fields #[.ref t1, .none, .none, .none, .bool false, .none] } D (some od) := ⟨ho, rfl, rfl, hod⟩
  exact PySem.W.kia_one (PySem.W.err_kit cls) I.kIn J e (fun z => nomatch z) fun tk => ⟨.bl b, H, I.tok tk, rfl, q⟩
end
end KV
set_option Elab.async false
set_option linter.all false
set_option maxRecDepth 100000
set_option maxHeartbeats 1000000
/-! Data in the heap whose lists stand each in one place: what may be changed in place. -/
namespace KV
open PySem PySem.Spec PyProof.Rows L2
abbrev Fp := Addr → Prop
mutual
/-- v stands for d; F: the addresses of the lists in it, each in one place -/
inductive Ow (H : Hp) : V → PyData → Fp → Prop where
  | non {F : Fp} (e : ∀ a, ¬ F a) : Ow H .non .none F
  | bl {F : Fp} (b : Bool) (e : ∀ a, ¬ F a) : Ow H (.bl b) (.bool b) F
  | int {F : Fp} (i : Int) (e : ∀ a, ¬ F a) : Ow H (.int i) (.int i) F
  | str {F : Fp} (x : Str) (e : ∀ a, ¬ F a) : Ow H (.str x) (.str x) F
  | lst {F G : Fp} {a : Addr} {xs : List V} {ds : List PyData} (h : H a = some (.lst xs)) (r : OwAll H xs ds F) (n : ¬ F a) (e : ∀ b, G b ↔ b = a ∨ F b) : Ow H (.ref a) (.list ds) G
  | tup {F : Fp} {a : Addr} {xs : List V} {ds : List PyData} (h : H a = some (.tup xs)) (r : OwAll H xs ds F) : Ow H (.ref a) (.tuple ds) F
inductive OwAll (H : Hp) : List V → List PyData → Fp → Prop where
  | nil {F : Fp} (e : ∀ a, ¬ F a) : OwAll H [] [] F
  | cons {F G L : Fp} {v : V} {vs : List V} {d : PyData} {ds : List PyData} (h : Ow H v d F) (r : OwAll H vs ds G) (n : ∀ a, F a → ¬ G a) (e : ∀ a, L a ↔ F a ∨ G a) : OwAll H (v :: vs) (d :: ds) L
end
/-- all that stands outside G is as it was -/
def Off (G : Fp) (H H' : Hp) : Prop := ∀ a o, H a = some o → ¬ G a → H' a = some o
theorem Off.refl (G : Fp) (H : Hp) : Off G H H := fun _ _ h _ => h
theorem Off.mono {F G : Fp} {H H' : Hp} (h : Off F H H') (s : ∀ a, F a → G a) : Off G H H' := fun a o e n => h a o e fun z => n (s a z)
theorem Off.trans {G : Fp} {H H1 H2 : Hp} (a : Off G H H1) (b : Off G H1 H2) : Off G H H2 := fun c o e n => b c o (a c o e n) n
theorem Off.new {G : Fp} {H : Hp} {p : Addr} {o : HO} (n : H p = none) : Off G H (upd H p o) := fun a u e _ => by
  rw [upd_ne (ne_of_none e n)]
  exact e
theorem Off.upd {G : Fp} {H : Hp} {p : Addr} {o : HO} (g : G p) : Off G H (upd H p o) := fun a u e n => by
  rw [upd_ne fun z => n (by rw [z]; exact g)]
  exact e
section
variable {H H' : Hp} {K : PySem.W.Frag}
mutual
theorem Ow.dom : ∀ {v : V} {d : PyData} {F : Fp}, Ow H v d F → ∀ a, F a → ∃ xs, H a = some (.lst xs)
  | _, _, _, .non e, a, h => (e a h).elim
  | _, _, _, .bl _ e, a, h => (e a h).elim
  | _, _, _, .int _ e, a, h => (e a h).elim
  | _, _, _, .str _ e, a, h => (e a h).elim
  | _, _, _, .lst h0 r _ e, a, h => by
    rcases (e a).mp h with rfl | h
    · exact ⟨_, h0⟩
    · exact r.dom a h
  | _, _, _, .tup _ r, a, h => r.dom a h
theorem OwAll.dom : ∀ {vs : List V} {ds : List PyData} {F : Fp}, OwAll H vs ds F → ∀ a, F a → ∃ xs, H a = some (.lst xs)
  | _, _, _, .nil e, a, h => (e a h).elim
  | _, _, _, .cons h0 r _ e, a, h => by
    rcases (e a).mp h with h | h
    · exact h0.dom a h
    · exact r.dom a h
end
mutual
theorem Ow.keep {G : Fp} (k : Off G H H') (hG : ∀ a, G a → ∃ xs, H a = some (.lst xs)) : ∀ {v : V} {d : PyData} {F : Fp}, Ow H v d F → (∀ a, F a → ¬ G a) → Ow H' v d F
  | _, _, _, .non e, _ => .non e
  | _, _, _, .bl b e, _ => .bl b e
  | _, _, _, .int i e, _ => .int i e
  | _, _, _, .str x e, _ => .str x e
  | _, _, _, .lst h0 r n e, s => .lst (k _ _ h0 (s _ ((e _).mpr (.inl rfl)))) (r.keep k hG fun a z => s a ((e a).mpr (.inr z))) n e
  | _, _, _, .tup h0 r, s => .tup (k _ _ h0 fun z => by
      obtain ⟨xs, q⟩ := hG _ z
      rw [h0] at q
      cases q) (r.keep k hG s)
theorem OwAll.keep {G : Fp} (k : Off G H H') (hG : ∀ a, G a → ∃ xs, H a = some (.lst xs)) : ∀ {vs : List V} {ds : List PyData} {F : Fp}, OwAll H vs ds F → (∀ a, F a → ¬ G a) → OwAll H' vs ds F
  | _, _, _, .nil e, _ => .nil e
  | _, _, _, .cons h0 r n e, s => .cons (h0.keep k hG fun a z => s a ((e a).mpr (.inl z))) (r.keep k hG fun a z => s a ((e a).mpr (.inr z))) n e
end
mutual
theorem Ow.dp : ∀ {v : V} {d : PyData} {F : Fp}, Ow H v d F → Dp K H v d
  | _, _, _, .non _ => .non
  | _, _, _, .bl b _ => .bl b
  | _, _, _, .int i _ => .int i
  | _, _, _, .str x _ => .str x
  | _, _, _, .lst h0 r _ _ => .lst (SqL.of h0) r.dp
  | _, _, _, .tup h0 r => .tup (SqT.of h0) r.dp
theorem OwAll.dp : ∀ {vs : List V} {ds : List PyData} {F : Fp}, OwAll H vs ds F → DpAll K H vs ds
  | _, _, _, .nil _ => .nil
  | _, _, _, .cons h0 r _ _ => .cons h0.dp r.dp
end
theorem OwAll.length : ∀ {vs : List V} {ds : List PyData} {F : Fp}, OwAll H vs ds F → vs.length = ds.length
  | _, _, _, .nil _ => rfl
  | _, _, _, .cons _ r _ _ => congrArg Nat.succ r.length
theorem OwAll.congr : ∀ {vs : List V} {ds : List PyData} {F G : Fp}, OwAll H vs ds F → (∀ a, G a ↔ F a) → OwAll H vs ds G
  | _, _, _, _, .nil e, h => .nil fun a z => e a ((h a).mp z)
  | _, _, _, _, .cons h0 r n e, h => .cons h0 r n fun a => (h a).trans (e a)
theorem Ow.congr : ∀ {v : V} {d : PyData} {F G : Fp}, Ow H v d F → (∀ a, G a ↔ F a) → Ow H v d G
  | _, _, _, _, .non e, h => .non fun a z => e a ((h a).mp z)
  | _, _, _, _, .bl b e, h => .bl b fun a z => e a ((h a).mp z)
  | _, _, _, _, .int i e, h => .int i fun a z => e a ((h a).mp z)
  | _, _, _, _, .str x e, h => .str x fun a z => e a ((h a).mp z)
  | _, _, _, _, .lst h0 r n e, h => .lst h0 r n fun a => (h a).trans (e a)
  | _, _, _, _, .tup h0 r, h => .tup h0 (r.congr h)
theorem OwAll.snoc : ∀ {vs : List V} {ds : List PyData} {v : V} {d : PyData} {F G L : Fp}, OwAll H vs ds F → Ow H v d G → (∀ a, F a → ¬ G a) → (∀ a, L a ↔ F a ∨ G a) → OwAll H (vs ++ [v]) (ds ++ [d]) L
  | _, _, _, _, _, _, _, .nil e, h, n, l => .cons (h.congr fun a => (l a).trans ⟨fun z => z.elim (fun y => (e a y).elim) id, .inr⟩) (.nil (F := fun _ => False) fun _ z => z) (fun _ _ z => z) fun a => ⟨.inl, fun z => z.elim id False.elim⟩
  | _, _, _, _, F, G, L, .cons (F := F1) (G := G1) h0 r n0 e, h, n, l =>
    .cons (G := fun a => G1 a ∨ G a) h0 (r.snoc h (fun a z => n a ((e a).mpr (.inr z))) fun a => Iff.rfl)
      (fun a z y => y.elim (n0 a z) (n a ((e a).mpr (.inl z)))) fun a => (l a).trans ((or_congr (e a) Iff.rfl).trans or_assoc)
theorem OwAll.reverse : ∀ {vs : List V} {ds : List PyData} {F : Fp}, OwAll H vs ds F → OwAll H vs.reverse ds.reverse F
  | _, _, _, .nil e => .nil e
  | _, _, _, .cons h0 r n e => by
    rw [List.reverse_cons, List.reverse_cons]
    exact r.reverse.snoc h0 (fun a z y => n a y z) fun a => (e a).trans or_comm
/-- one item of it, and what changes when it is changed in place -/
theorem OwAll.at_ : ∀ {vs : List V} {ds : List PyData} {F : Fp} {i : Nat} {v : V}, OwAll H vs ds F → vs[i]? = some v →
    ∃ (d : PyData) (E : Fp), ds[i]? = some d ∧ Ow H v d E ∧ (∀ a, E a → F a) ∧ ∀ (H' : Hp) (d' : PyData), Ow H' v d' E → Off E H H' → OwAll H' vs (ds.set i d') F
  | _, _, _, i, v, .nil e, h => by simp at h
  | _, _, _, 0, v, .cons (F := F1) h0 r n e, h => by
    have hv := Option.some.inj h
    subst hv
    exact ⟨_, F1, rfl, h0, fun a z => (e a).mpr (.inl z), fun H' d' o k => .cons o (r.keep k (fun a z => h0.dom a z) fun a z y => n a y z) n e⟩
  | _, _, _, i + 1, v, .cons h0 r n e, h => by
    obtain ⟨d, E, e1, o, s, f⟩ := r.at_ (i := i) (v := v) (by simpa using h)
    exact ⟨d, E, by simpa using e1, o, fun a z => (e a).mpr (.inr (s a z)), fun H' d' o' k =>
      .cons (h0.keep k (fun a z => o.dom a z) fun a z y => n a z (s a y)) (f H' d' o' k) n e⟩
end

/-! ### sizes -/
/-- data whose texts have at most b signs; ms: how many items there are at most, level by level -/
def Fit (b : Nat) : List Nat → PyData → Prop
  | _, .none => True
  | _, .bool _ => True
  | _, .int i => i.natAbs < 2 ^ 110
  | _, .str x => x.length ≤ b ∧ ∀ c ∈ x.cps.toList, c < 16 ^ 8
  | [], _ => False
  | m :: ms, .list ds => ds.length ≤ m ∧ ∀ d ∈ ds, Fit b ms d
  | m :: ms, .tuple ds => ds.length ≤ m ∧ ∀ d ∈ ds, Fit b ms d
  | _ :: _, .dict _ => False
def big (b : Nat) : List Nat → Nat
  | [] => 10 * b + 200
  | m :: ms => 10 * b + 200 + m * (big b ms + 2)
theorem textFrom_most : ∀ (ts : List Str) (k b : Nat) (acc : Str), (∀ t ∈ ts, t.length ≤ b) → (textFrom k acc ts).length ≤ acc.length + ts.length * (b + 2)
  | [], _, b, acc, _ => by show acc.length ≤ _; omega
  | t :: ts, k, b, acc, h => by
    have ih := textFrom_most ts (k + 1) b (acc ++ (if k > 0 then ", " else "" : String) ++ t) fun x hx => h x (List.mem_cons_of_mem _ hx)
    have ht := h t List.mem_cons_self
    have e : (acc ++ (if k > 0 then ", " else "" : String) ++ t).length ≤ acc.length + 2 + t.length := by
      rw [strLen_append, strLen_append]
      split
      · have : ((", " : String) : Str).length = 2 := rfl
        omega
      · have : (("" : String) : Str).length = 0 := rfl
        omega
    show (textFrom (k + 1) (acc ++ (if k > 0 then ", " else "" : String) ++ t) ts).length ≤ _
    rw [List.length_cons, Nat.add_mul]
    omega
theorem listText_most {ts : List Str} {b : Nat} (h : ∀ t ∈ ts, t.length ≤ b) : (listText ts).length ≤ 2 + ts.length * (b + 2) := by
  have := textFrom_most ts 0 b "[" h
  have e1 : (("[" : String) : Str).length = 1 := rfl
  have e2 : (("]" : String) : Str).length = 1 := rfl
  show (textFrom 0 "[" ts ++ "]").length ≤ _
  rw [strLen_append]
  omega
theorem piled_most : ∀ (ts : List Str) (b : Nat), (∀ t ∈ ts, t.length ≤ b) → piled ts ≤ ts.length * (b + 2)
  | [], b, _ => Nat.zero_le _
  | t :: ts, b, h => by
    have ih := piled_most ts b fun x hx => h x (List.mem_cons_of_mem _ hx)
    have ht := h t List.mem_cons_self
    rw [List.length_cons, Nat.add_mul]
    show (t.length + 2) + piled ts ≤ _
    omega
theorem tupleText_most {ts : List Str} {b : Nat} (h : ∀ t ∈ ts, t.length ≤ b) : (tupleText ts).length ≤ 3 + ts.length * (b + 2) := by
  have p := piled_most ts b h
  have e1 : (("(" : String) : Str).length = 1 := rfl
  have e2 : ((",)" : String) : Str).length = 2 := rfl
  have e3 : ((")" : String) : Str).length = 1 := rfl
  have j : (Str.join ", " ts).length ≤ piled ts := by
    by_cases z : ts = []
    · subst z
      exact Nat.zero_le _
    · have := join_length_add ts z
      omega
  show (("(" : Str) ++ Str.join ", " ts ++ (if ts.length == 1 then ",)" else ")" : String)).length ≤ _
  rw [strLen_append, strLen_append]
  split <;> omega
theorem shownAll_mem : ∀ {ds : List PyData} {t : Str}, t ∈ PyData.shownAll ds → ∃ d ∈ ds, t = d.shown
  | [], t, h => by simp [PyData.shownAll] at h
  | d :: ds, t, h => by
    simp only [PyData.shownAll, List.mem_cons] at h
    rcases h with h | h
    · exact ⟨d, List.mem_cons_self, h⟩
    · obtain ⟨e, he, q⟩ := shownAll_mem h
      exact ⟨e, List.mem_cons_of_mem _ he, q⟩
theorem shownAll_length : ∀ ds : List PyData, (PyData.shownAll ds).length = ds.length
  | [] => by simp [PyData.shownAll]
  | d :: ds => by simp [PyData.shownAll, shownAll_length ds]
theorem showableAll_of : ∀ {ds : List PyData}, (∀ d ∈ ds, d.showable = true) → PyData.showableAll ds = true
  | [], _ => by simp [PyData.showableAll]
  | d :: ds, h => by
    simp only [PyData.showableAll, Bool.and_eq_true]
    exact ⟨h d List.mem_cons_self, showableAll_of fun e he => h e (List.mem_cons_of_mem _ he)⟩
theorem hasDictAll_of : ∀ {ds : List PyData}, (∀ d ∈ ds, d.hasDict = false) → PyData.hasDictAll ds = false
  | [], _ => by simp [PyData.hasDictAll]
  | d :: ds, h => by
    simp only [PyData.hasDictAll, Bool.or_eq_false_iff]
    exact ⟨h d List.mem_cons_self, hasDictAll_of fun e he => h e (List.mem_cons_of_mem _ he)⟩
theorem depthAll_of {n : Nat} : ∀ {ds : List PyData}, (∀ d ∈ ds, d.depth ≤ n) → PyData.depthAll ds ≤ n
  | [], _ => by simp [PyData.depthAll]
  | d :: ds, h => by
    have h1 := h d List.mem_cons_self
    have h2 := depthAll_of fun e he => h e (List.mem_cons_of_mem _ he)
    simp only [PyData.depthAll]
    omega
/-- what repr asks of such data -/
structure ReprOk (n b : Nat) (d : PyData) : Prop where
  sh : d.showable = true
  nd : d.hasDict = false
  dp : d.depth ≤ n
  sz : d.shown.length ≤ b
theorem big_le (b : Nat) : ∀ ms, 10 * b + 200 ≤ big b ms
  | [] => Nat.le_refl _
  | _ :: _ => Nat.le_add_right _ _
theorem Fit.ok {b : Nat} : ∀ {ms : List Nat} {d : PyData}, Fit b ms d → ReprOk ms.length (big b ms) d
  | ms, .none, _ => ⟨by simp [PyData.showable], by simp [PyData.hasDict], by simp [PyData.depth], by
      simp only [PyData.shown]
      exact Nat.le_trans (Nat.le_trans (by decide : _ ≤ 200) (Nat.le_add_left _ _)) (big_le b ms)⟩
  | ms, .bool c, _ => ⟨by simp [PyData.showable], by simp [PyData.hasDict], by simp [PyData.depth], by
      simp only [PyData.shown]
      exact Nat.le_trans (Nat.le_trans (by cases c <;> decide : _ ≤ 200) (Nat.le_add_left _ _)) (big_le b ms)⟩
  | ms, .int i, h => by
    have h : i.natAbs < 2 ^ 110 := by cases ms <;> exact h
    have l := PySem.Flt.log2_lt_of (n := i.natAbs) (k := 110) (by decide) h
    refine ⟨?_, by simp [PyData.hasDict], by simp [PyData.depth], ?_⟩
    · simp only [PyData.showable]
      exact decide_eq_true (by omega)
    · simp only [PyData.shown]
      have q : (Str.ofString (toString i)).length ≤ 110 + 1 := by
        rw [PySem.ofString_length]
        exact int_text_length_le (a := i) (k := 110) (by decide) l
      exact Nat.le_trans q (Nat.le_trans (Nat.le_trans (by decide : 110 + 1 ≤ 200) (Nat.le_add_left _ _)) (big_le b ms))
  | ms, .str x, h => by
    have h : x.length ≤ b ∧ ∀ c ∈ x.cps.toList, c < 16 ^ 8 := by cases ms <;> exact h
    refine ⟨by simp [PyData.showable], by simp [PyData.hasDict], by simp [PyData.depth], ?_⟩
    simp only [PyData.shown]
    have q := StrLaws.reprText_len x h.2
    exact Nat.le_trans q (Nat.le_trans (by omega : _ ≤ 10 * b + 200) (big_le b ms))
  | [], .list _, h => h.elim
  | [], .tuple _, h => h.elim
  | [], .dict _, h => h.elim
  | _ :: _, .dict _, h => h.elim
  | m :: ms, .list ds, ⟨h1, h2⟩ => by
    have all : ∀ d ∈ ds, ReprOk ms.length (big b ms) d := fun d hd => (h2 d hd).ok
    refine ⟨?_, ?_, ?_, ?_⟩
    · simp only [PyData.showable]
      exact showableAll_of fun d hd => (all d hd).sh
    · simp only [PyData.hasDict]
      exact hasDictAll_of fun d hd => (all d hd).nd
    · have := depthAll_of fun d hd => (all d hd).dp
      simp only [PyData.depth, List.length_cons]
      omega
    · simp only [PyData.shown]
      have q := listText_most (ts := PyData.shownAll ds) (b := big b ms) fun t ht => by
        obtain ⟨d, hd, rfl⟩ := shownAll_mem ht
        exact (all d hd).sz
      rw [shownAll_length] at q
      have z := Nat.mul_le_mul_right (big b ms + 2) h1
      show _ ≤ 10 * b + 200 + m * (big b ms + 2)
      omega
  | m :: ms, .tuple ds, ⟨h1, h2⟩ => by
    have all : ∀ d ∈ ds, ReprOk ms.length (big b ms) d := fun d hd => (h2 d hd).ok
    refine ⟨?_, ?_, ?_, ?_⟩
    · simp only [PyData.showable]
      exact showableAll_of fun d hd => (all d hd).sh
    · simp only [PyData.hasDict]
      exact hasDictAll_of fun d hd => (all d hd).nd
    · have := depthAll_of fun d hd => (all d hd).dp
      simp only [PyData.depth, List.length_cons]
      omega
    · simp only [PyData.shown]
      have q := tupleText_most (ts := PyData.shownAll ds) (b := big b ms) fun t ht => by
        obtain ⟨d, hd, rfl⟩ := shownAll_mem ht
        exact (all d hd).sz
      rw [shownAll_length] at q
      have z := Nat.mul_le_mul_right (big b ms + 2) h1
      show _ ≤ 10 * b + 200 + m * (big b ms + 2)
      omega
/-! ### what _law_muddle makes of data -/
mutual
def mud : PyData → PyData
  | .list ds => .list ((mudAll ds ++ [PyData.str "muddled"]).reverse)
  | .tuple ds => .tuple (mudAll ds)
  | d => d
def mudAll : List PyData → List PyData
  | [] => []
  | d :: ds => mud d :: mudAll ds
end
theorem mudAll_map : ∀ ds : List PyData, mudAll ds = ds.map mud
  | [] => by simp [mudAll]
  | d :: ds => by simp [mudAll, mudAll_map ds]
theorem Fit.mono {b b' : Nat} (hb : b ≤ b') : ∀ {ms : List Nat} {d : PyData}, Fit b ms d → Fit b' ms d
  | ms, .none, _ => by cases ms <;> trivial
  | ms, .bool _, _ => by cases ms <;> trivial
  | ms, .int i, h => by cases ms <;> exact h
  | ms, .str x, h => by cases ms <;> exact ⟨Nat.le_trans h.1 hb, h.2⟩
  | [], .list _, h => h.elim
  | [], .tuple _, h => h.elim
  | [], .dict _, h => h.elim
  | _ :: _, .dict _, h => h.elim
  | m :: ms, .list ds, ⟨h1, h2⟩ => ⟨h1, fun d hd => (h2 d hd).mono hb⟩
  | m :: ms, .tuple ds, ⟨h1, h2⟩ => ⟨h1, fun d hd => (h2 d hd).mono hb⟩
/-- one more in each list -/
def more (ms : List Nat) : List Nat := ms.map (· + 1)
theorem Fit.mud {b : Nat} (hb : 7 ≤ b) : ∀ {ms : List Nat} {d : PyData}, Fit b ms d → Fit b (more ms) (KV.mud d)
  | ms, .none, _ => by cases ms <;> simp [KV.mud, Fit, more]
  | ms, .bool _, _ => by cases ms <;> simp [KV.mud, Fit, more]
  | ms, .int i, h => by cases ms <;> (simp only [KV.mud, more, List.map_cons, List.map_nil]; exact h)
  | ms, .str x, h => by cases ms <;> (simp only [KV.mud, more, List.map_cons, List.map_nil]; exact h)
  | [], .list _, h => h.elim
  | [], .tuple _, h => h.elim
  | [], .dict _, h => h.elim
  | _ :: _, .dict _, h => h.elim
  | m :: ms, .list ds, ⟨h1, h2⟩ => by
    simp only [KV.mud]
    refine ⟨by simp [mudAll_map]; omega, fun d hd => ?_⟩
    rw [List.mem_reverse, List.mem_append, mudAll_map, List.mem_map] at hd
    rcases hd with ⟨e, he, rfl⟩ | hd
    · exact (h2 e he).mud hb
    · have hd := List.mem_singleton.mp hd
      subst hd
      have e7 : ("muddled" : Str).length = 7 := by decide +kernel
      have z : ("muddled" : Str).length ≤ b ∧ ∀ c ∈ ("muddled" : Str).cps.toList, c < 16 ^ 8 := ⟨by omega, by decide +kernel⟩
      cases ms <;> exact z
  | m :: ms, .tuple ds, ⟨h1, h2⟩ => by
    simp only [KV.mud]
    refine ⟨by simp [mudAll_map]; omega, fun d hd => ?_⟩
    rw [mudAll_map, List.mem_map] at hd
    obtain ⟨e, he, rfl⟩ := hd
    exact (h2 e he).mud hb

/-! ### a list that grows by new data -/
/-- at D: a new list of the data ds, its lists new; nothing else of H but G has changed -/
def Grow (G : Fp) (H : Hp) (D : Addr) (ds : List PyData) (H' : Hp) : Prop := ∃ acc FA, H' D = some (.lst acc) ∧ OwAll H' acc ds FA ∧ ¬ FA D ∧ (∀ b, FA b → H b = none) ∧ Off G H H'
theorem Grow.start {G : Fp} {H : Hp} {D : Addr} (h : H D = none) : Grow G H D [] (upd H D (.lst [])) :=
  ⟨[], fun _ => False, upd_same, .nil fun _ z => z, fun z => z, fun _ z => z.elim, Off.new h⟩
theorem Grow.len {G : Fp} {H H' : Hp} {D : Addr} {ds : List PyData} (g : Grow G H D ds H') : ∃ acc, H' D = some (.lst acc) ∧ acc.length = ds.length := by
  obtain ⟨acc, FA, h1, h2, _⟩ := g
  exact ⟨acc, h1, h2.length⟩
theorem Off.none {G : Fp} {H H' : Hp} (k : Off G H H') {a : Addr} (h : H' a = none) (n : ¬ G a) : H a = none := by
  cases q : H a with
  | none => rfl
  | some o =>
    have z := k a o q n
    rw [h] at z
    cases z
theorem Grow.step {G : Fp} {H H' H4 : Hp} {D : Addr} {ds : List PyData} {v : V} {d : PyData} {F : Fp} (g : Grow G H D ds H') (hD : H D = none) (hG0 : ∀ a, G a → H a ≠ none) (hG1 : ∀ a, G a → ∃ xs, H' a = some (.lst xs))
    (o : Ow H4 v d F) (hF : ∀ a, F a → H' a = none) (k : Off G H' H4) : ∃ acc, H4 D = some (.lst acc) ∧ acc.length = ds.length ∧ Grow G H D (ds ++ [d]) (upd H4 D (.lst (acc ++ [v]))) := by
  obtain ⟨acc, FA, h1, h2, h3, h4, h5⟩ := g
  have nD : ¬ G D := fun z => hG0 D z hD
  have e4 := k _ _ h1 nD
  refine ⟨acc, e4, h2.length, acc ++ [v], fun b => FA b ∨ F b, upd_same, ?_, ?_, ?_, ?_⟩
  · have b1 : OwAll H4 acc ds FA := h2.keep k hG1 fun a z y => hG0 a y (h4 a z)
    have kD : Off (fun a => a = D) H4 (upd H4 D (.lst (acc ++ [v]))) := Off.upd rfl
    have hgD : ∀ a, a = D → ∃ xs, H4 a = some (.lst xs) := fun a z => ⟨acc, by rw [z]; exact e4⟩
    refine OwAll.snoc (b1.keep kD hgD fun a z y => h3 (y ▸ z)) (o.keep kD hgD fun a z y => ?_) (fun a z y => ?_) fun a => Iff.rfl
    · have q := hF a z
      rw [y, h1] at q
      cases q
    · obtain ⟨xs, q⟩ := h2.dom a z
      rw [hF a y] at q
      cases q
  · rintro (z | z)
    · exact h3 z
    · have q := hF D z
      rw [h1] at q
      cases q
  · rintro b (z | z)
    · exact h4 b z
    · have q := hF b z
      exact h5.none q fun y => by
        obtain ⟨xs, q2⟩ := hG1 b y
        rw [q] at q2
        cases q2
  · intro a u e n
    rw [upd_ne fun z => by rw [z, hD] at e; cases e]
    exact k _ _ (h5 a u e n) n
theorem Grow.list {G : Fp} {H H' : Hp} {D : Addr} {ds : List PyData} (g : Grow G H D ds H') (hD : H D = Option.none) : ∃ F, Ow H' (.ref D) (.list ds) F ∧ (∀ a, F a → H a = Option.none) ∧ Off G H H' := by
  obtain ⟨acc, FA, h1, h2, h3, h4, h5⟩ := g
  exact ⟨fun b => b = D ∨ FA b, .lst h1 h2 h3 fun _ => Iff.rfl, fun a z => z.elim (fun y => y ▸ hD) (h4 a), h5⟩
theorem Grow.tuple {G : Fp} {H H' : Hp} {D p : Addr} {ds : List PyData} {acc : List V} (g : Grow G H D ds H') (e : H' D = some (.lst acc)) (hp : H' p = Option.none) :
    ∃ F, Ow (upd H' p (.tup acc)) (.ref p) (.tuple ds) F ∧ (∀ a, F a → H a = Option.none) ∧ Off G H (upd H' p (.tup acc)) := by
  obtain ⟨acc', FA, h1, h2, h3, h4, h5⟩ := g
  rw [e] at h1
  have e1 : acc = acc' := HO.lst.inj (Option.some.inj h1)
  subst e1
  exact ⟨FA, .tup upd_same (h2.keep (G := fun _ => False) (Off.new hp) (fun _ z => z.elim) fun _ _ z => z), h4, h5.trans (Off.new hp)⟩

/-! ### data that is read -/
section
variable {K : PySem.W.Frag} {H H' : Hp}
theorem sqL_off {a : Addr} {xs : List V} (k : Off (fun _ => False) H H') (h : SqL K H a xs) : SqL K H' a xs := by
  rcases h with (h | ⟨o, h⟩) | h
  · exact .inl (.inl (k _ _ h fun z => z))
  · exact .inl (.inr ⟨o, k _ _ h fun z => z⟩)
  · exact .inr h
theorem sqT_off {a : Addr} {xs : List V} (k : Off (fun _ => False) H H') (h : SqT K H a xs) : SqT K H' a xs := by
  rcases h with (h | ⟨o, h⟩) | h
  · exact .inl (.inl (k _ _ h fun z => z))
  · exact .inl (.inr ⟨o, k _ _ h fun z => z⟩)
  · exact .inr h
mutual
theorem dp_off (k : Off (fun _ => False) H H') : ∀ {v : V} {d : PyData}, Dp K H v d → Dp K H' v d
  | _, _, .non => .non
  | _, _, .bl b => .bl b
  | _, _, .int i => .int i
  | _, _, .str x => .str x
  | _, _, .lst h r => .lst (sqL_off k h) (dpAll_off k r)
  | _, _, .tup h r => .tup (sqT_off k h) (dpAll_off k r)
theorem dpAll_off (k : Off (fun _ => False) H H') : ∀ {vs : List V} {ds : List PyData}, DpAll K H vs ds → DpAll K H' vs ds
  | _, _, .nil => .nil
  | _, _, .cons h r => .cons (dp_off k h) (dpAll_off k r)
end
theorem dpAll_length : ∀ {vs : List V} {ds : List PyData}, DpAll K H vs ds → vs.length = ds.length
  | _, _, .nil => rfl
  | _, _, .cons _ r => congrArg Nat.succ (dpAll_length r)
theorem dpAll_at : ∀ {vs : List V} {ds : List PyData} {i : Nat} {v : V}, DpAll K H vs ds → vs[i]? = some v → ∃ d, ds[i]? = some d ∧ Dp K H v d
  | _, _, _, _, .nil, h => by simp at h
  | _, _, 0, _, .cons h0 r, h => by
    have hv := Option.some.inj h
    subst hv
    exact ⟨_, rfl, h0⟩
  | _, _, i + 1, v, .cons h0 r, h => by
    obtain ⟨d, e, q⟩ := dpAll_at (i := i) (v := v) r (by simpa using h)
    exact ⟨d, by simpa using e, q⟩
/-- .. by the data -/
theorem dpAll_at' : ∀ {vs : List V} {ds : List PyData} {i : Nat} {d : PyData}, DpAll K H vs ds → ds[i]? = some d → ∃ v, vs[i]? = some v ∧ Dp K H v d
  | _, _, _, _, .nil, h => by simp at h
  | _, _, 0, _, .cons h0 r, h => by
    have hv := Option.some.inj h
    subst hv
    exact ⟨_, rfl, h0⟩
  | _, _, i + 1, d, .cons h0 r, h => by
    obtain ⟨v, e, q⟩ := dpAll_at' (i := i) (d := d) r (by simpa using h)
    exact ⟨v, by simpa using e, q⟩
end
end KV
set_option Elab.async false
set_option linter.all false
set_option maxRecDepth 100000
set_option maxHeartbeats 4000000
/-! What the written part says of the classes of errors. -/
namespace KV
open PySem PySem.Spec PyProof.Rows L2 He
/-- an error class over ValueError, its field f stored by the __init__ at fI -/
structure ErrOk (K : PySem.W.Frag) (f : Str) (fI C : Addr) : Prop where
  oex : OexC K C
  xf : XfC K C
  err : PySem.W.ErrC K C
  no : PySem.W.findIn K (.ref C) f = some none
  ini : PySem.W.findIn K (.ref C) "__init__" = some (some (.ref fI))
  fn : PySem.W.typeIn K (.ref fI) = some (.type "function")
def clsB (K : PySem.W.Frag) (C : Addr) : Bool := match K.lookup C with
  | some ⟨.type t, _, .cls cd, sl⟩ => decide (t = "type") && (match cd.mro, sl.toList with
    | .ref C' :: bm, [_, _, _, _, some (.builtin n), _] => decide (C' = C) && (decide (n = "ValueError.__new__") && (!cd.hasDel && (cd.hasDict && PySem.HandSPX.refsVE bm)))
    | _, _ => false)
  | _ => false
theorem clsB_ok {K : PySem.W.Frag} {C : Addr} (h : clsB K C = true) : ∃ nm q N bs bm sn sub ab col dd k0 k1 k2 k3 k5,
    K.lookup C = some (excClassObj nm q C N bs bm true sn sub ab col dd k0 k1 k2 k3 k5 "ValueError.__new__") ∧ PySem.HandSPX.refsVE bm = true := by
  unfold clsB at h
  split at h
  · rename_i t dd cd sl ho
    obtain ⟨h1, h2⟩ := ba h
    have ht := of_decide_eq_true h1
    subst ht
    split at h2
    · rename_i C' bm k0 k1 k2 k3 n k5 hm hs
      obtain ⟨g1, h2⟩ := ba h2
      obtain ⟨g2, h2⟩ := ba h2
      obtain ⟨g3, h2⟩ := ba h2
      obtain ⟨g4, g5⟩ := ba h2
      have e1 := of_decide_eq_true g1
      have e2 := of_decide_eq_true g2
      subst e1 e2
      obtain ⟨nm, bs, mro, ns, qn, hd, sn, sub, ab, col, del⟩ := cd
      dsimp only at hm g3 g4
      subst hm g4
      have hdel : del = false := by simpa using g3
      subst hdel
      have hsl : sl = #[k0, k1, k2, k3, some (.builtin "ValueError.__new__"), k5] := by
        obtain ⟨l⟩ := sl
        simp only at hs
        rw [hs]
      subst hsl
      exact ⟨nm, qn, ns, bs, bm, sn, sub, ab, col, dd, k0, k1, k2, k3, k5, ho, g5⟩
    · cases h2
  · cases h
def errB (K : PySem.W.Frag) (f : Str) (fI C : Addr) : Bool :=
  clsB K C && (eqO (PySem.W.findIn K (.ref C) "__setattr__") (some (some (.builtin "object.__setattr__"))) && (decide (PySem.W.subIn K (.ref C) (.type "BaseException") = some true) &&
  (decide (PySem.W.typeIn K (.ref C) = some (.type "type")) && (PySem.W.keepIn K (.ref C) && (eqO (PySem.W.findIn K (.ref C) "__getattribute__") (some (some (.builtin "BaseException.__getattribute__"))) &&
  (eqO (PySem.W.findIn K (.ref C) "__getattr__") (some none) && (PySem.W.hasDictIn K C && (eqO (PySem.W.findIn K (.ref C) "__class__") (some (some (.builtin "object.__class__"))) &&
  (eqO (PySem.W.specialIn K (.builtin "object.__class__") "__get__") (some (some (.builtin "getset_descriptor.__get__"))) && (decide (PySem.W.takesIn K (.builtin "object.__class__") = some true) &&
  (decide (PySem.W.mroIn K C (.type "object") = some true) && (eqO (PySem.W.findIn K (.ref C) f) (some none) && (eqO (PySem.W.findIn K (.ref C) "__init__") (some (some (.ref fI))) &&
  decide (PySem.W.typeIn K (.ref fI) = some (.type "function")))))))))))))))
theorem errB_ok {K : PySem.W.Frag} {f : Str} {fI C : Addr} (h : errB K f fI C = true) : ErrOk K f fI C := by
  obtain ⟨a1, h⟩ := ba h
  obtain ⟨a2, h⟩ := ba h
  obtain ⟨a3, h⟩ := ba h
  obtain ⟨a4, h⟩ := ba h
  obtain ⟨a5, h⟩ := ba h
  obtain ⟨a6, h⟩ := ba h
  obtain ⟨a7, h⟩ := ba h
  obtain ⟨a8, h⟩ := ba h
  obtain ⟨a9, h⟩ := ba h
  obtain ⟨b1, h⟩ := ba h
  obtain ⟨b2, h⟩ := ba h
  obtain ⟨b3, h⟩ := ba h
  obtain ⟨b4, h⟩ := ba h
  obtain ⟨b5, b6⟩ := ba h
  exact ⟨⟨clsB_ok a1, eqO_ok a2, of_decide_eq_true a3, of_decide_eq_true a4, a5⟩, ⟨eqO_ok a6, eqO_ok a7, of_decide_eq_true a3, a8⟩,
    ⟨eqO_ok a6, eqO_ok a7, of_decide_eq_true a3, a8, eqO_ok a9, eqO_ok b1, of_decide_eq_true b2, of_decide_eq_true b3⟩, eqO_ok b4, eqO_ok b5, of_decide_eq_true b6⟩
/-- all classes of errors: the first is the others' base -/
def errsB (K : PySem.W.Frag) (f : Str) (base : Str) (names : List Str) : Bool :=
  (names.all fun x => errB K f (ma K (ga K base) "__init__") (ga K x)) &&
  ((names.all fun x => names.all fun y => decide (PySem.W.kitOne K (.ref (ga K x)) (.ref (ga K y)) = some (decide (x = y) || decide (y = base)))) &&
  (names.all fun x => decide (PySem.W.kitOne K (.ref (ga K x)) (.type "ValueError") = some true)))
structure Errs (K : PySem.W.Frag) (f base : Str) (names : List Str) : Prop where
  ok : ∀ x ∈ names, ErrOk K f (ma K (ga K base) "__init__") (ga K x)
  kit : ∀ x ∈ names, ∀ y ∈ names, PySem.W.kitOne K (.ref (ga K x)) (.ref (ga K y)) = some (decide (x = y) || decide (y = base))
  ve : ∀ x ∈ names, PySem.W.kitOne K (.ref (ga K x)) (.type "ValueError") = some true
theorem errsB_ok {K : PySem.W.Frag} {f base : Str} {names : List Str} (h : errsB K f base names = true) : Errs K f base names := by
  obtain ⟨h1, h⟩ := ba h
  obtain ⟨h2, h3⟩ := ba h
  exact ⟨fun x hx => errB_ok (List.all_eq_true.mp h1 x hx), fun x hx y hy => of_decide_eq_true (List.all_eq_true.mp (List.all_eq_true.mp h2 x hx) y hy), fun x hx => of_decide_eq_true (List.all_eq_true.mp h3 x hx)⟩
end KV
set_option Elab.async false
set_option linter.all false
set_option maxRecDepth 100000
namespace LW
open PySem PySem.Spec PyProof.Rows L2 KV
def top (i : Nat) : Stmt := PySem.Challenge.pw_keysthrough_k05_equal_books.main.body.getD i (.Pass ⟨0, 0, 0, 0⟩)
abbrev pWall : Stmt := top 0
abbrev cKeyTellError : Stmt := top 2
abbrev pKeyTellError_init : Stmt := inClass (top 2) 0
abbrev cInvalidName : Stmt := top 3
abbrev cDoubleName : Stmt := top 4
abbrev cUnknownTable : Stmt := top 5
abbrev cUnknownColumn : Stmt := top 6
abbrev cInvalidRule : Stmt := top 7
abbrev cInvalidQuestion : Stmt := top 8
abbrev cUnreadable : Stmt := top 9
abbrev cBook : Stmt := top 15
abbrev pBook_init : Stmt := inClass (top 15) 0
abbrev pBook_tables : Stmt := inClass (top 15) 1
abbrev pBook_rules : Stmt := inClass (top 15) 2
abbrev pBook_len : Stmt := inClass (top 15) 3
abbrev pBook_getitem : Stmt := inClass (top 15) 4
abbrev pBook_iter : Stmt := inClass (top 15) 5
abbrev pBook_eq : Stmt := inClass (top 15) 6
abbrev pBook_with_rules : Stmt := inClass (top 15) 7
abbrev pBook_without : Stmt := inClass (top 15) 8
abbrev pShown : Stmt := top 16
abbrev pShownByAll : Stmt := top 17
abbrev pPartsOf : Stmt := top 18
abbrev pNamedColumns : Stmt := top 19
abbrev pColumnsOfCondition : Stmt := top 20
abbrev pColumnsOver : Stmt := top 21
abbrev pIsSound : Stmt := top 22
abbrev pHolds : Stmt := top 23
abbrev pCheckTables : Stmt := top 24
abbrev pCheckColumns : Stmt := top 25
abbrev pCheckName : Stmt := top 26
abbrev pCheckRule : Stmt := top 27
abbrev pCheckUnlike : Stmt := top 28
abbrev pIsName : Stmt := top 29
abbrev pHasForm : Stmt := top 30
abbrev pCopied : Stmt := top 31
abbrev pReadBook : Stmt := top 33
abbrev pTablesAndRules : Stmt := top 34
abbrev pRuleOf : Stmt := top 35
abbrev cStore : Stmt := top 37
abbrev pStore_init : Stmt := inClass (top 37) 0
abbrev pStore_len : Stmt := inClass (top 37) 1
abbrev pStore_eq : Stmt := inClass (top 37) 2
abbrev pStore_call : Stmt := inClass (top 37) 3
abbrev pStore_rows : Stmt := inClass (top 37) 4
abbrev pStore_put : Stmt := inClass (top 37) 5
abbrev pStore_take : Stmt := inClass (top 37) 6
abbrev pStore_undo : Stmt := inClass (top 37) 7
abbrev pAnswered : Stmt := top 38
abbrev pRowsOver : Stmt := top 39
abbrev pJoined : Stmt := top 40
abbrev pChosen : Stmt := top 41
abbrev pRowsThatMeet : Stmt := top 42
abbrev pPlacesOf : Stmt := top 43
abbrev pValuesAt : Stmt := top 44
abbrev pShowBook : Stmt := top 46
abbrev pRuleText : Stmt := top 47
abbrev sPurse : Stmt := top 49
abbrev sCoin : Stmt := top 50
abbrev sWords : Stmt := top 51
abbrev sDrawnTables : Stmt := top 52
abbrev sDrawnRules : Stmt := top 53
abbrev sCopied : Stmt := top 54
abbrev sMuddle : Stmt := top 55
abbrev sRoad : Stmt := top 56
abbrev sShape : Stmt := top 57
abbrev sMoved : Stmt := top 58
abbrev sNearRule : Stmt := top 59
abbrev sNearBook : Stmt := top 60
abbrev sBooksAlike : Stmt := top 61
abbrev sRight : Stmt := top 62
abbrev sLaw : Stmt := top 63
abbrev FnP (K : PySem.W.Frag) (x : Str) (st : Stmt) (f : Addr) (fd : FuncData) : Prop := FunD K x x (defArgs st) (defBody st) (defScope st) [] [] f fd
end LW
set_option Elab.async false
set_option linter.all false
set_option maxRecDepth 100000
set_option maxHeartbeats 4000000
namespace LW
open PySem PySem.Spec PyProof.Rows L2 KV
/-- at p: a purse, from which at most c numbers were stirred -/
def Pu (H : Hp) (p : Addr) (c : Nat) : Prop := ∃ a b n : Int, H p = some (.lst [.int a, .int b, .int n]) ∧ 0 ≤ a ∧ 0 ≤ b ∧ b < 1000000000000000000000007 ∧ 0 ≤ n ∧ n ≤ (c : Int)
/-- all but p is as it was -/
def But (p : Addr) (H H' : Hp) : Prop := ∀ b, b ≠ p → H' b = H b
theorem Pu.mono {H : Hp} {p : Addr} {c d : Nat} (h : Pu H p c) (e : c ≤ d) : Pu H p d := by
  obtain ⟨a, b, n, h1, h2, h3, h4, h5, h6⟩ := h
  exact ⟨a, b, n, h1, h2, h3, h4, h5, by omega⟩
theorem Pu.at {H H' : Hp} {p : Addr} {c : Nat} (h : Pu H p c) (e : H' p = H p) : Pu H' p c := by
  obtain ⟨a, b, n, h1, h2⟩ := h
  exact ⟨a, b, n, e.trans h1, h2⟩

def spPurse (K : PySem.W.Frag) : Sp := fun vs H Q _ => ∃ (a : Addr) (ns : List Int) (i : Int), vs = [.ref a, .int i] ∧ SqL K H a (ns.map V.int) ∧ 0 ≤ i ∧ i ≤ 100 ∧
  ∀ p, H p = none → ∀ H', Pu H' p 0 → But p H H' → Q (.ref p) H'
def spCoin : Sp := fun vs H Q _ => ∃ (p : Addr) (m : Int) (c : Nat), vs = [.ref p, .int m] ∧ Pu H p c ∧ c ≤ 1000000000 ∧ 0 < m ∧ m ≤ 1000000000000000000000000000000 ∧
  ∀ i H', 0 ≤ i → i < m → Pu H' p (c + 1) → But p H H' → Q (.int i) H'

section
variable {P : Program} {w : World} {K : PySem.W.Frag} {mg : Str → Option Value} {base : Heap}
theorem scPurse : FnScope ["script", "place", "cell"] ["script", "place"] (defScope sPurse) := ⟨rfl, rfl, rfl, by decide +kernel, rfl, by decide +kernel, by decide +kernel⟩
theorem ok_purse {f : Addr} {fd : FuncData} (F : FnP K "_law_purse" sPurse f fd) (ml : mg "len" = none) (mm : mg "max" = none) (ma : mg "abs" = none) (mi : mg "int" = none) :
    FnOk P w K mg base CX0 1 f fd ["script", "place"] (spPurse K) := by
  refine F.ok scPurse (fun vs H Q E h => ?_) (fun cdv A outer s H vs Q E hr h => ?_)
  · obtain ⟨a, ns, i, rfl, _⟩ := h
    rfl
  obtain ⟨a, ns, i, rfl, hS, h0, h1, q⟩ := h
  refine ⟨_, pss_cons (ps_set (i := 2) scPurse.nd rfl (Or.inl rfl) (pe_ifExp (pt_cmpR op_lt (pv 1) (pe_callB call_len_seq rfl ml boot_len (pa_cons (pv 0) pa_nil)) (nomark _))
      (pe_ix ix_list (pv 0) (pv 1) (fun _ _ => rfl)) pe_int))
    (pss_one (ps_ret (pe_lst (pa_cons (pe_callB (call_max2 rfl) rfl mm boot_max (pa_cons pe_int (pa_cons (pe_op op_sub (pe_callB call_abs rfl ma boot_abs (pa_cons (pv 2) pa_nil)) (pe_op op_pow pe_int pe_int)) pa_nil)))
      (pa_cons (pe_op op_mod (pe_callTy call_int1 rfl mi (by decide +kernel) (pa_cons (pe_op op_add (pe_op op_add (pe_op op_mul (pv 2) pe_int) (pe_op op_mul (pv 1) pe_int)) pe_int) pa_nil)) (pe_op op_add (pe_op op_pow pe_int pe_int) pe_int))
      (pa_cons pe_int pa_nil)))))), ?_⟩
  have hl : (ns.map V.int).length = ns.length := List.length_map _
  have fin : ∀ z : Int, ∀ p, H p = none → Q (.ref p) (upd H p (.lst [.int (if (if z < 0 then -z else z) - (10 : Int) ^ (18 : Int).toNat > 0 then (if z < 0 then -z else z) - (10 : Int) ^ (18 : Int).toNat else 0),
      .int ((z * 30011 + i * 7368787 + 104729) % ((10 : Int) ^ (24 : Int).toNat + 7)), .int 0])) := by
    intro z p hp
    have e : (10 : Int) ^ (24 : Int).toNat + 7 = 1000000000000000000000007 := by decide
    rw [e]
    refine q p hp _ ⟨_, _, _, upd_same, ?_, Int.emod_nonneg _ (by decide), Int.emod_lt_of_pos _ (by decide), Int.le_refl _, Int.le_refl _⟩ fun b hb => upd_ne hb
    split <;> omega
  refine ⟨_, rfl, _, rfl, a, _, rfl, .inl hS, _, _, rfl, rfl, _, rfl, ite2 (fun c => ?_) (fun c => ?_)⟩
  · have c' : i < (((ns.map V.int).length : Nat) : Int) := of_decide_eq_true c
    rw [hl] at c'
    have hk : i.toNat < ns.length := by omega
    have ek : i = ((i.toNat : Nat) : Int) := by omega
    have v : atI (ns.map V.int) ((i.toNat : Nat) : Int) = some (.int ns[i.toNat]) := atI_nat (by rw [List.getElem?_map, List.getElem?_eq_getElem hk] <;> rfl)
    rw [← ek] at v
    refine ⟨_, rfl, _, rfl, a, _, _, _, rfl, rfl, hS, v, ?_⟩
    exact ⟨_, rfl, _, rfl, _, _, rfl, rfl, ⟨by decide, by decide, by decide⟩, _, _, rfl, rfl, _, _, rfl, _, rfl, _, _, rfl, rfl, .inr ⟨by decide, by decide⟩, _, rfl, _, _, rfl, rfl, .inr ⟨by decide, by decide⟩, _, _, rfl, rfl, _, _, rfl, rfl,
      .inl ⟨_, rfl, _, _, rfl, rfl, ⟨by decide, by decide, by decide⟩, _, _, rfl, rfl, _, _, rfl, rfl, (by show (0 : Int) < 10 ^ Int.toNat 24 + 7; decide), by show 3 ≤ sizeLine; decide, fin _⟩⟩
  · exact ⟨_, rfl, _, rfl, _, _, rfl, rfl, ⟨by decide, by decide, by decide⟩, _, _, rfl, rfl, _, _, rfl, _, rfl, _, _, rfl, rfl, .inr ⟨by decide, by decide⟩, _, rfl, _, _, rfl, rfl, .inr ⟨by decide, by decide⟩, _, _, rfl, rfl, _, _, rfl, rfl,
      .inl ⟨_, rfl, _, _, rfl, rfl, ⟨by decide, by decide, by decide⟩, _, _, rfl, rfl, _, _, rfl, rfl, (by show (0 : Int) < 10 ^ Int.toNat 24 + 7; decide), by show 3 ≤ sizeLine; decide, fin _⟩⟩
theorem scCoin : FnScope ["purse", "many", "drawn", "stirred"] ["purse", "many"] (defScope sCoin) := ⟨rfl, rfl, rfl, by decide +kernel, rfl, by decide +kernel, by decide +kernel⟩
/-- the bits of a number below 2 ^ 100 -/
theorem bits100 {z : Int} (h0 : 0 ≤ z) (h : z < 2 ^ 100) : (Builtin.Int.intBits z : Int) ≤ 100 := by
  unfold Builtin.Int.intBits
  split
  · omega
  · rename_i hz
    have h1 : z.natAbs < 2 ^ 100 := by
      have e : ((2 ^ 100 : Nat) : Int) = 2 ^ 100 := by decide
      omega
    have := PySem.Flt.log2_lt_of (by decide : 0 < 100) h1
    omega
theorem ok_coin {f : Addr} {fd : FuncData} (F : FnP K "_law_coin" sCoin f fd) (mi : mg "int" = none) :
    FnOk P w K mg base CX0 1 f fd ["purse", "many"] spCoin := by
  refine F.ok scCoin (fun vs H Q E h => ?_) (fun cdv A outer s H vs Q E hr h => ?_)
  · obtain ⟨p, m, c, rfl, _⟩ := h
    rfl
  obtain ⟨p, m, c, rfl, ⟨a, b, n, hp, ha, hb, hb2, hn, hn2⟩, hc, hm, hm2, q⟩ := h
  have ix : ∀ {X : Cx} (i : Int) {p1 p2 p3 : Pos} {j : Nat}, X.N[0]? = some ("purse" : Str) → Vis X.env.scope ("purse" : Str) →
      PE X (.Subscript (.Name "purse" p1) (.Constant (.int i) j p2) p3) (tOp (rIxL X.K) (tVar 0) (tC (.int i))) :=
    fun i _ _ _ _ hN hv => pe_ix ix_list (pv 0 hN hv) pe_int (fun _ _ => rfl)
  refine ⟨_, pss_cons (ps_if (pt_cmpR op_gt (ix 0 rfl (Or.inl rfl)) pe_int (nomark _))
      (pss_cons (ps_set (i := 2) scCoin.nd rfl (Or.inl rfl) (pe_op op_mod (pe_callTy call_int1 rfl mi (by decide +kernel) (pa_cons (ix 0 rfl (Or.inl rfl)) pa_nil)) (pv 1)))
      (pss_cons (ps_asg (pe_op op_fdivW (ix 0 rfl (Or.inl rfl)) (pv 1)) (pg_sub (pv 0) pe_int set_list))
      (pss_one (ps_ret (pv 2))))) pss_nil)
    (pss_cons (ps_asg (pe_op op_add (ix 2 rfl (Or.inl rfl)) pe_int) (pg_sub (pv 0) pe_int set_list))
    (pss_cons (ps_set (i := 3) scCoin.nd rfl (Or.inl rfl) (pe_op op_mod (pe_op op_powB (pe_callTy call_int1 rfl mi (by decide +kernel) (pa_cons (pe_op op_add (ix 1 rfl (Or.inl rfl)) (pe_op op_mul pe_int (ix 2 rfl (Or.inl rfl)))) pa_nil)) pe_int) (pe_op op_add (pe_op op_pow pe_int pe_int) pe_int)))
    (pss_cons (ps_set (i := 3) scCoin.nd rfl (Or.inl rfl) (pe_op op_mod (pe_op op_powB (pe_callTy call_int1 rfl mi (by decide +kernel) (pa_cons (pe_op op_add (pv 3) (pe_op op_mul pe_int (ix 2 rfl (Or.inl rfl)))) pa_nil)) pe_int) (pe_op op_add (pe_op op_pow pe_int pe_int) pe_int)))
    (pss_one (ps_ret (pe_op op_mod (pe_callTy call_int1 rfl mi (by decide +kernel) (pa_cons (pe_op op_fdiv (pv 3) pe_int) pa_nil)) (pv 1))))))), ?_⟩
  refine ⟨_, rfl, p, _, _, _, rfl, rfl, SqL.of hp, rfl, _, _, rfl, rfl, _, rfl, ite2 (fun d => ?_) (fun d => ?_)⟩
  · have cd : CDivW a m := ⟨hm, Nat.lt_trans (PySem.Flt.log2_lt_of (n := m.natAbs) (k := 100) (by decide) (by
      have e : ((2 ^ 100 : Nat) : Int) = 1267650600228229401496703205376 := by decide
      omega)) (by decide)⟩
    refine ⟨_, rfl, p, _, _, _, rfl, rfl, SqL.of hp, rfl, .inl ⟨_, rfl, _, rfl, _, _, rfl, rfl, hm, ?_⟩⟩
    refine ⟨_, rfl, p, _, _, _, rfl, rfl, SqL.of hp, rfl, _, rfl, _, _, rfl, rfl, cd, _, rfl, p, _, _, _, rfl, rfl, hp, rfl, _, rfl, ?_⟩
    exact q _ _ (Int.emod_nonneg _ (by omega)) (Int.emod_lt_of_pos _ hm) ⟨_, _, _, upd_same, Int.ediv_nonneg ha (by omega), hb, hb2, hn, by omega⟩ fun b hb => upd_ne hb
  · have e1 : (10 : Int) ^ Int.toNat 25 + 13 = 10000000000000000000000013 := by decide
    have e2 : (10 : Int) ^ Int.toNat 24 + 7 = 1000000000000000000000007 := by decide
    have hu := @upd_same H p (.lst ([V.int a, V.int b, V.int n].set 2 (.int (n + 1))))
    have g1 : CPowB (b + 2038074743 * (n + 1)) 3 := ⟨by decide, by have := bits100 (z := b + 2038074743 * (n + 1)) (by omega) (by omega); omega⟩
    have z1 := Int.emod_nonneg ((b + 2038074743 * (n + 1)) ^ Int.toNat 3) (by decide : (10 : Int) ^ Int.toNat 25 + 13 ≠ 0)
    have z2 := Int.emod_lt_of_pos ((b + 2038074743 * (n + 1)) ^ Int.toNat 3) (by decide : (0 : Int) < (10 : Int) ^ Int.toNat 25 + 13)
    have g2 : ∀ y : Int, 0 ≤ y → y < (10 : Int) ^ Int.toNat 25 + 13 → CPowB (y + 982451653 * (n + 1)) 2 := fun y h1 h2 =>
      ⟨by decide, by have := bits100 (z := y + 982451653 * (n + 1)) (by omega) (by omega); omega⟩
    refine ⟨_, rfl, p, _, _, _, rfl, rfl, SqL.of hp, rfl, _, _, rfl, rfl, _, rfl, p, _, _, _, rfl, rfl, hp, rfl, ?_⟩
    refine ⟨_, rfl, p, _, _, _, rfl, rfl, SqL.of hu, rfl, _, rfl, p, _, _, _, rfl, rfl, SqL.of hu, rfl, _, _, rfl, rfl, .inl ⟨by decide, by decide⟩, _, _, rfl, rfl, .inl ⟨_, rfl, _, _, rfl, rfl, g1,
      _, _, rfl, rfl, ⟨by decide, by decide, by decide⟩, _, _, rfl, rfl, _, _, rfl, rfl, (by show (0 : Int) < 10 ^ Int.toNat 25 + 13; decide), ?_⟩⟩
    refine ⟨_, rfl, _, rfl, p, _, _, _, rfl, rfl, SqL.of hu, rfl, _, _, rfl, rfl, .inl ⟨by decide, by decide⟩, _, _, rfl, rfl, .inl ⟨_, rfl, _, _, rfl, rfl, g2 _ z1 z2,
      _, _, rfl, rfl, ⟨by decide, by decide, by decide⟩, _, _, rfl, rfl, _, _, rfl, rfl, (by show (0 : Int) < 10 ^ Int.toNat 24 + 7; decide), ?_⟩⟩
    refine ⟨_, rfl, _, _, rfl, rfl, ⟨by decide, by decide⟩, .inl ⟨_, rfl, _, rfl, _, _, rfl, rfl, hm, ?_⟩⟩
    exact q _ _ (Int.emod_nonneg _ (by omega)) (Int.emod_lt_of_pos _ hm) ⟨_, _, _, hu, ha, hb, hb2, by omega, by omega⟩ fun b hb => upd_ne hb
end
end LW
set_option Elab.async false
set_option linter.all false
set_option maxRecDepth 100000
set_option maxHeartbeats 4000000
namespace LW
open PySem PySem.Spec PyProof.Rows L2 KV
/-! ### isinstance of data -/
def tyName : PyData → String
  | .none => "NoneType"
  | .bool _ => "bool"
  | .int _ => "int"
  | .str _ => "str"
  | .list _ => "list"
  | .tuple _ => "tuple"
  | .dict _ => "dict"
theorem dp_ty {K : PySem.W.Frag} {H : Hp} {v : V} {d : PyData} (o : Dp K H v d) : TyX K H v (.type (tyName d)) := by
  cases o with
  | non => exact .base .non
  | bl b => exact .base (.bl b)
  | int i => exact .base (.int i)
  | str x => exact .base (.str x)
  | lst h _ =>
    rcases h with (h | ⟨o, h⟩) | ⟨o, its, n, hk, hc, _⟩
    · exact .base (.lst h)
    · exact .base (.frz h)
    · exact .kList hk hc
  | tup h _ =>
    rcases h with (h | ⟨o, h⟩) | ⟨o, its, n, hk, hc, _⟩
    · exact .base (.tup h)
    · exact .fTuple h
    · exact .kTuple hk hc
theorem ow_ty {K : PySem.W.Frag} {H : Hp} {v : V} {d : PyData} {F : Fp} (o : Ow H v d F) : TyX K H v (.type (tyName d)) := dp_ty o.dp
def isList : PyData → Bool
  | .list _ => true
  | _ => false
def isTuple : PyData → Bool
  | .tuple _ => true
  | _ => false
theorem kit_list {K : PySem.W.Frag} : ∀ d : PyData, PySem.W.kitOne K (.type (tyName d)) (.type "list") = some (isList d)
  | .none => kit_ty (show kitB "NoneType" "list" = some false by decide +kernel)
  | .bool _ => kit_ty (show kitB "bool" "list" = some false by decide +kernel)
  | .int _ => kit_ty (show kitB "int" "list" = some false by decide +kernel)
  | .str _ => kit_ty (show kitB "str" "list" = some false by decide +kernel)
  | .list _ => kit_ty (show kitB "list" "list" = some true by decide +kernel)
  | .tuple _ => kit_ty (show kitB "tuple" "list" = some false by decide +kernel)
  | .dict _ => kit_ty (show kitB "dict" "list" = some false by decide +kernel)
theorem kit_tuple {K : PySem.W.Frag} : ∀ d : PyData, PySem.W.kitOne K (.type (tyName d)) (.type "tuple") = some (isTuple d)
  | .none => kit_ty (show kitB "NoneType" "tuple" = some false by decide +kernel)
  | .bool _ => kit_ty (show kitB "bool" "tuple" = some false by decide +kernel)
  | .int _ => kit_ty (show kitB "int" "tuple" = some false by decide +kernel)
  | .str _ => kit_ty (show kitB "str" "tuple" = some false by decide +kernel)
  | .list _ => kit_ty (show kitB "list" "tuple" = some false by decide +kernel)
  | .tuple _ => kit_ty (show kitB "tuple" "tuple" = some true by decide +kernel)
  | .dict _ => kit_ty (show kitB "dict" "tuple" = some false by decide +kernel)
theorem kit_seq {K : PySem.W.Frag} (d : PyData) : PySem.W.kitAny K (.type (tyName d)) [.type "list", .type "tuple"] = some (isList d || isTuple d) := by
  refine kitAny_cons (kit_list d) (fun e => ?_) fun e => by rw [e]; rfl
  refine kitAny_cons (kit_tuple d) (fun e2 => ?_) fun e2 => by rw [e2, Bool.or_true]
  rw [e, e2]
  exact kitAny_nil

end LW
set_option Elab.async false
set_option linter.all false
set_option maxRecDepth 100000
set_option maxHeartbeats 4000000
namespace LW
open PySem PySem.Spec PyProof.Rows L2 KV
theorem But.off {p : Addr} {H H' : Hp} (h : But p H H') : Off (fun a => a = p) H H' := fun a o e n => (h a n).trans e
theorem Pu.lst {H : Hp} {p : Addr} {c : Nat} (h : Pu H p c) : ∃ xs, H p = some (.lst xs) := by
  obtain ⟨a, b, n, e, _⟩ := h
  exact ⟨_, e⟩
theorem Pu.off {H H' : Hp} {p : Addr} {c : Nat} {G : Fp} (h : Pu H p c) (k : Off G H H') (n : ¬ G p) : Pu H' p c := by
  obtain ⟨a, b, m, h1, h2⟩ := h
  exact ⟨a, b, m, k _ _ h1 n, h2⟩
/-! ### copies: new lists all through -/
def spCopied (K : PySem.W.Frag) (n : Nat) : Sp := fun vs H Q _ => ∃ (v : V) (d : PyData) (b : Nat) (ms : List Nat), vs = [v] ∧ Dp K H v d ∧ Fit b ms d ∧ (∀ m ∈ ms, m ≤ 1000) ∧ ms.length < n ∧
  ∀ v' F' H', Ow H' v' d F' → (∀ a, F' a → H a = none) → Off (fun _ => False) H H' → Q v' H'
theorem copy_leaf {K : PySem.W.Frag} {H : Hp} {v : V} {d : PyData} (o : Dp K H v d) (h : isList d = false) (h2 : isTuple d = false) : Ow H v d fun _ => False := by
  cases o with
  | non => exact .non fun _ z => z
  | bl b => exact .bl b fun _ z => z
  | int i => exact .int i fun _ z => z
  | str x => exact .str x fun _ z => z
  | lst _ _ => cases h
  | tup _ _ => cases h2
theorem dp_list {K : PySem.W.Frag} {H : Hp} {v : V} {d : PyData} (o : Dp K H v d) (h : isList d = true) : ∃ a xs ds, v = .ref a ∧ d = .list ds ∧ SqL K H a xs ∧ DpAll K H xs ds := by
  cases o with
  | lst h0 r => exact ⟨_, _, _, rfl, rfl, h0, r⟩
  | _ => cases h
theorem dp_tuple {K : PySem.W.Frag} {H : Hp} {v : V} {d : PyData} (o : Dp K H v d) (h : isTuple d = true) : ∃ a xs ds, v = .ref a ∧ d = .tuple ds ∧ SqT K H a xs ∧ DpAll K H xs ds := by
  cases o with
  | tup h0 r => exact ⟨_, _, _, rfl, rfl, h0, r⟩
  | _ => cases h
/-- one turn of the loop over the items -/
theorem copy_turn {K : PySem.W.Frag} {H H' : Hp} {n b i D : Nat} {ds : List PyData} {xs : List V} {ms : List Nat} {m : Nat} {x : V} (r : DpAll K H xs ds) (hfs : ∀ e ∈ ds, Fit b ms e) (hm : ∀ k ∈ m :: ms, k ≤ 1000) (hk : ms.length < n) (hl : ds.length ≤ m)
    (hD : H D = none) (hx : xs[i]? = some x) (g : Grow (fun _ => False) H D (ds.take i) H') :
    spCopied K n [x] H' (fun y H4 => ∃ acc, H4 D = some (.lst acc) ∧ acc.length < sizeLine ∧ Grow (fun _ => False) H D (ds.take (i + 1)) (upd H4 D (.lst (acc ++ [y])))) E0 := by
  obtain ⟨d1, e1, o1⟩ := dpAll_at r hx
  obtain ⟨_, _, _, _, _, _, off⟩ := id g
  have hm1 := hm m List.mem_cons_self
  refine ⟨x, d1, b, ms, rfl, dp_off off o1, hfs d1 (List.mem_of_getElem? e1), fun k hk => hm k (List.mem_cons_of_mem _ hk), hk, ?_⟩
  intro v' F' H4 o4 f4 k4
  obtain ⟨acc, a1, a2, a3⟩ := g.step hD (fun _ z => z.elim) (fun _ z => z.elim) o4 f4 k4
  refine ⟨acc, a1, by rw [a2, List.length_take]; exact small1000 (by omega), ?_⟩
  rw [List.take_add_one, e1]
  exact a3
section
variable {P : Program} {w : World} {K : PySem.W.Frag} {mg : Str → Option Value} {base : Heap}
theorem none_leftN {f : Addr} {fd : FuncData} {ps : List Str} {sp : Sp} (h : ∀ vs H Q E, ¬ sp vs H Q E) : FnOk P w K mg base CX0 0 f fd ps sp :=
  ⟨fun vs H Q E z => absurd z (h vs H Q E), fun A outer s H args us vs Q E _ _ _ _ z => absurd z (h vs H Q E)⟩
theorem copied_none {vs : List V} {H : Hp} {Q : VK} {E : XK} : ¬ spCopied K 0 vs H Q E := fun h => by
  obtain ⟨_, _, _, _, _, _, _, _, h, _⟩ := h
  exact absurd h (Nat.not_lt_zero _)
theorem scCopied : FnScope ["thing", "part"] ["thing"] (defScope sCopied) := ⟨rfl, rfl, rfl, by decide +kernel, rfl, by decide +kernel, by decide +kernel⟩
theorem ok_copied_step {n : Nat} {f : Addr} {fd : FuncData} (F : FnP K "_law_copied" sCopied f fd) (hb : Binds K fd ["thing"] []) (mf : mg "_law_copied" = some (.ref f)) (mi : mg "isinstance" = none) (ml : mg "list" = none) (mt : mg "tuple" = none)
    (G : FnOk P w K mg base CX0 n f fd ["thing"] (spCopied K n)) : FnOk P w K mg base CX0 (n + 1) f fd ["thing"] (spCopied K (n + 1)) := by
  refine F.ok scCopied (fun vs H Q E h => ?_) (fun cdv A outer s H vs Q E hr h => ?_)
  · obtain ⟨v, d, b, ms, rfl, _⟩ := h
    rfl
  obtain ⟨v, d, b, ms, rfl, o, hf, hm, hk, q⟩ := h
  refine ⟨_, pss_cons (ps_if (pt_val (pe_callB call_isi rfl mi boot_isinstance (pa_cons (pv 0) (pa_cons (pe_bltn (v := .ty "list") rfl ml boot_list rfl) pa_nil))))
      (pss_one (ps_ret (pe_lc (own := [("part", 1)]) (g := gName 1) (tt := tYes) rfl scCopied.nd (pi_list (pv 0)) (blkOk_by (own := [("part", 1)]) (N := ["thing", "part"]) (sc := defScope sCopied) (by decide +kernel))
        (fun _ _ _ _ _ => pg_name (i := 1) scCopied.nd rfl (Or.inl rfl)) (fun _ _ _ _ _ => pts_nil)
        (fun _ _ _ _ _ => pe_call G hr rfl mf F.kp hb .nil pass0 (pa_cons (pv 1) pa_nil))))) pss_nil)
    (pss_one (ps_ret (pe_ifExp (pt_val (pe_callB call_isi rfl mi boot_isinstance (pa_cons (pv 0) (pa_cons (pe_bltn (v := .ty "tuple") rfl mt boot_tuple rfl) pa_nil))))
      (pe_callTy call_tuple_of rfl mt boot_tuple (pa_cons (pe_lc (own := [("part", 1)]) (g := gName 1) (tt := tYes) rfl scCopied.nd (pi_tup (pv 0)) (blkOk_by (own := [("part", 1)]) (N := ["thing", "part"]) (sc := defScope sCopied) (by decide +kernel))
        (fun _ _ _ _ _ => pg_name (i := 1) scCopied.nd rfl (Or.inl rfl)) (fun _ _ _ _ _ => pts_nil)
        (fun _ _ _ _ _ => pe_call G hr rfl mf F.kp hb .nil pass0 (pa_cons (pv 1) pa_nil))) pa_nil))
      (pv 0)))), ?_⟩
  refine ⟨_, rfl, v, .ty "list", .type (tyName d), .type "list", isList d, rfl, .ty _, dp_ty o, kit_list d, _, rfl, ?_⟩
  by_cases hL : isList d = true
  · rw [hL]
    obtain ⟨a, xs, ds, rfl, rfl, h0, r⟩ := dp_list o hL
    cases ms with
    | nil => exact hf.elim
    | cons m ms =>
    obtain ⟨hl, hfs⟩ := hf
    refine iteT ⟨_, rfl, a, rfl, ⟨xs, h0⟩, fun D hD => lc_list (K := K) (a := a) (xs := xs) (fun i H' => Grow (fun _ => False) H D (ds.take i) H') (Grow.start hD) (fun i H' _ g => ?_) (fun i x H' hx g => ?_) fun H' g => ?_⟩
    · obtain ⟨_, _, _, _, _, _, off⟩ := g
      exact sqL_off off h0
    · exact ⟨rfl, Exists.intro x ⟨rfl, copy_turn r hfs hm (Nat.lt_of_succ_lt_succ hk) hl hD hx g⟩⟩
    · rw [dpAll_length r, List.take_length] at g
      obtain ⟨F', o', f', k'⟩ := g.list hD
      exact q _ F' H' o' f' k'
  · have hL : isList d = false := by simpa using hL
    rw [hL]
    refine iteF ⟨_, rfl, v, .ty "tuple", .type (tyName d), .type "tuple", isTuple d, rfl, .ty _, dp_ty o, kit_tuple d, _, rfl, ?_⟩
    by_cases hT : isTuple d = true
    · rw [hT]
      obtain ⟨a, xs, ds, rfl, rfl, h0, r⟩ := dp_tuple o hT
      cases ms with
      | nil => exact hf.elim
      | cons m ms =>
      obtain ⟨hl, hfs⟩ := hf
      refine iteT ⟨_, rfl, a, rfl, ⟨xs, h0⟩, fun D hD => lc_tup (K := K) (a := a) (xs := xs) (fun i H' => Grow (fun _ => False) H D (ds.take i) H') (Grow.start hD) (fun i H' _ g => ?_) (fun i x H' hx g => ?_) fun H' g => ?_⟩
      · obtain ⟨_, _, _, _, _, _, off⟩ := g
        exact sqT_off off h0
      · exact ⟨rfl, Exists.intro x ⟨rfl, copy_turn r hfs hm (Nat.lt_of_succ_lt_succ hk) hl hD hx g⟩⟩
      · rw [dpAll_length r, List.take_length] at g
        obtain ⟨acc, _, e1, _⟩ := id g
        refine ⟨D, acc, rfl, .inl ⟨SqL.of e1, fun p hp => ?_⟩⟩
        obtain ⟨F', o', f', k'⟩ := g.tuple e1 hp
        exact q _ F' _ o' f' k'
    · have hT : isTuple d = false := by simpa using hT
      rw [hT]
      exact iteF ⟨_, rfl, q v _ H (copy_leaf o hL hT) (fun _ z => z.elim) (Off.refl _ _)⟩
theorem ok_copied {f : Addr} {fd : FuncData} (F : FnP K "_law_copied" sCopied f fd) (hb : Binds K fd ["thing"] []) (mf : mg "_law_copied" = some (.ref f)) (mi : mg "isinstance" = none) (ml : mg "list" = none) (mt : mg "tuple" = none) :
    ∀ n : Nat, FnOk P w K mg base CX0 n f fd ["thing"] (spCopied K n)
  | 0 => none_leftN fun vs H Q E => copied_none
  | n + 1 => ok_copied_step F hb mf mi ml mt (ok_copied F hb mf mi ml mt n)
end
end LW
set_option Elab.async false
set_option linter.all false
set_option maxRecDepth 100000
set_option maxHeartbeats 4000000
namespace LW
open PySem PySem.Spec PyProof.Rows L2 KV
/-! ### _law_muddle -/
def spMuddle (n : Nat) : Sp := fun vs H Q _ => ∃ (v : V) (d : PyData) (F : Fp) (b : Nat) (ms : List Nat), vs = [v] ∧ Ow H v d F ∧ Fit b ms d ∧ (∀ m ∈ ms, m ≤ 1000) ∧ ms.length < n ∧
  ∀ H', Ow H' v (mud d) F → Off F H H' → Q .non H'
/-- the first i items are muddled -/
def mixed (ds : List PyData) (i : Nat) : List PyData := mudAll (ds.take i) ++ ds.drop i
theorem mixed_at {ds : List PyData} {i : Nat} : (mixed ds i)[i]? = ds[i]? := by
  unfold mixed
  rw [mudAll_map]
  by_cases h : i < ds.length
  · rw [List.getElem?_append_right (by simp; omega)]
    simp [Nat.min_eq_left (Nat.le_of_lt h)]
  · rw [List.getElem?_eq_none (by simp; omega), List.getElem?_eq_none (by omega)]
theorem mixed_set {ds : List PyData} {i : Nat} {d : PyData} (h : ds[i]? = some d) : (mixed ds i).set i (mud d) = mixed ds (i + 1) := by
  obtain ⟨hi, e⟩ := List.getElem?_eq_some_iff.mp h
  unfold mixed
  rw [mudAll_map, mudAll_map, List.set_append_right _ _ (by simp; omega), List.take_add_one, h, List.map_append]
  have e2 : i - (List.map mud (List.take i ds)).length = 0 := by simp; omega
  rw [e2, List.drop_eq_getElem_cons hi, List.append_assoc]
  rfl
theorem mixed_end (ds : List PyData) : mixed ds ds.length = mudAll ds := by simp [mixed]
theorem mixed_start (ds : List PyData) : mixed ds 0 = ds := by simp [mixed, mudAll]
section
variable {P : Program} {w : World} {K : PySem.W.Frag} {mg : Str → Option Value} {base : Heap}
theorem scMuddle : FnScope ["thing", "part"] ["thing"] (defScope sMuddle) := ⟨rfl, rfl, rfl, by decide +kernel, rfl, by decide +kernel, by decide +kernel⟩
theorem ok_muddle_step {n : Nat} {f : Addr} {fd : FuncData} (F : FnP K "_law_muddle" sMuddle f fd) (hb : Binds K fd ["thing"] []) (mf : mg "_law_muddle" = some (.ref f)) (mi : mg "isinstance" = none) (ml : mg "list" = none) (mt : mg "tuple" = none)
    (G : FnOk P w K mg base CX0 n f fd ["thing"] (spMuddle n)) : FnOk P w K mg base CX0 (n + 1) f fd ["thing"] (spMuddle (n + 1)) := by
  refine F.ok scMuddle (fun vs H Q E h => ?_) (fun cdv A outer s H vs Q E hr h => ?_)
  · obtain ⟨v, d, F, b, ms, rfl, _⟩ := h
    rfl
  obtain ⟨v, d, Fv, b, ms, rfl, o, hf, hm, hk, q⟩ := h
  refine ⟨_, PSs.nox (pss_cons (ps_if (pt_val (pe_callB call_isiT rfl mi boot_isinstance (pa_cons (pv 0) (pa_cons (pe_tup (pa_cons (pe_bltn (v := .ty "list") rfl ml boot_list rfl) (pa_cons (pe_bltn (v := .ty "tuple") rfl mt boot_tuple rfl) pa_nil))) pa_nil))))
      (pss_one (ps_for PassesOwn.never rfl (pi_list (pe_callTy call_list_of rfl ml boot_list (pa_cons (pv 0) pa_nil))) (pg_name (i := 1) scMuddle.nd rfl (Or.inl rfl))
        (pss_one (ps_expr (pe_call G hr rfl mf F.kp hb .nil pass0 (pa_cons (pv 1) pa_nil)))))) pss_nil)
    (pss_one (ps_if (pt_val (pe_callB call_isi rfl mi boot_isinstance (pa_cons (pv 0) (pa_cons (pe_bltn (v := .ty "list") rfl ml boot_list rfl) pa_nil))))
      (pss_cons (ps_expr (pe_bm PySem.F.plainAttrs_list PySem.F.slot_list_append PySem.F.type_list_append mt_append (pv 0) (pa_cons pe_str pa_nil)))
        (pss_one (ps_expr (pe_bm0 PySem.F.plainAttrs_list PySem.F.slot_list_reverse PySem.F.type_list_reverse mt_reverse (pv 0))))) pss_nil))), ?_⟩
  refine ⟨_, rfl, (by show 2 ≤ sizeLine; decide), fun tp htp => ?_⟩
  have off1 : ∀ G : Fp, Off G H (upd H tp (.tup [.ty "list", .ty "tuple"])) := fun G => Off.new htp
  have o1 := o.keep (G := fun _ => False) (off1 _) (fun _ z => z.elim) fun _ _ z => z
  refine ⟨v, tp, _, .type (tyName d), _, _, rfl, upd_same, .cons (.ty "list") (.cons (.ty "tuple") .nil), ow_ty o1, kit_seq d, _, rfl, ?_⟩
  generalize upd H tp (.tup [.ty "list", .ty "tuple"]) = H1 at off1 o1
  -- one turn
  have turn : ∀ {ds : List PyData} {xs : List V} {F1 : Fp} {ks : List Nat} {i : Nat} {x : V} {H2 H' : Hp}, OwAll H' xs (mixed ds i) F1 → (∀ e ∈ ds, Fit b ks e) → (∀ k ∈ ks, k ≤ 1000) → ks.length < n → xs[i]? = some x → Off F1 H2 H' →
      spMuddle n [x] H' (fun _ H4 => OwAll H4 xs (mixed ds (i + 1)) F1 ∧ Off F1 H2 H4) E0 := by
    intro ds xs F1 ks i x H2 H' r hfs hks hk' hx k0
    obtain ⟨d1, E1, e1, oo, s1, fin⟩ := r.at_ hx
    rw [mixed_at] at e1
    refine ⟨x, d1, E1, b, ks, rfl, oo, hfs d1 (List.mem_of_getElem? e1), hks, hk', fun H4 o4 k4 => ?_⟩
    have z := fin H4 (mud d1) o4 k4
    rw [mixed_set e1] at z
    exact ⟨z, k0.trans (k4.mono s1)⟩
  cases d with
  | list ds =>
    cases o1 with
    | @lst F1 _ a xs _ h0 r n0 e0 =>
    cases ms with
    | nil => exact hf.elim
    | cons m ms =>
    obtain ⟨hl, hfs⟩ := hf
    have hm1 := hm m List.mem_cons_self
    have hms : ∀ k ∈ ms, k ≤ 1000 := fun k z => hm k (List.mem_cons_of_mem _ z)
    have hk1 := Nat.lt_of_succ_lt_succ hk
    refine iteT ⟨_, rfl, a, xs, rfl, .inl (SqL.of h0), fun l hl0 => ⟨l, rfl, ⟨xs, SqL.of upd_same⟩, for_list (K := K) (a := l) (xs := xs)
      (fun i σ H' => ∃ w, σ = [some (.ref a), w] ∧ OwAll H' xs (mixed ds i) F1 ∧ Off F1 (upd H1 l (.lst xs)) H') ⟨none, rfl, ?_, Off.refl _ _⟩ (fun i σ H' _ g => ?_) (fun i x σ H' hx g => ?_) fun σ H' g => ?_⟩⟩
    · rw [mixed_start]
      exact r.keep (G := fun _ => False) (Off.new hl0) (fun _ z => z.elim) fun _ _ z => z
    · obtain ⟨_, _, _, off⟩ := g
      refine SqL.of (off _ _ upd_same fun z => ?_)
      obtain ⟨ys, y⟩ := r.dom _ z
      rw [hl0] at y
      cases y
    · obtain ⟨w1, rfl, r1, off⟩ := g
      have tn := turn r1 hfs hms hk1 hx off
      obtain ⟨v5, d5, F5, m5, k5, e5, o5, f5, m5', k5', q5⟩ := tn
      exact ⟨_, rfl, v5, d5, F5, m5, k5, e5, o5, f5, m5', k5', fun H4 a1 a2 => ⟨_, rfl, q5 H4 a1 a2⟩⟩
    · obtain ⟨w1, rfl, r1, off⟩ := g
      rw [r.length, mixed_end] at r1
      have na : a ≠ l := fun z => by
        rw [z, hl0] at h0
        cases h0
      have ea : H' a = some (.lst xs) := off _ _ (by rw [upd_ne na]; exact h0) n0
      refine ⟨_, rfl, .ref a, .ty "list", .type "list", .type "list", true, rfl, .ty _, .base (.lst ea), kit_list (.list ds), _, rfl, iteT ?_⟩
      refine ⟨_, rfl, .inl ⟨rfl, xs, SqL.of ea⟩, a, xs, _, rfl, rfl, ea, small1000 (by have := r.length; omega), ?_⟩
      refine ⟨_, rfl, .inl ⟨rfl, _, SqL.of upd_same⟩, ?_⟩
      refine ⟨a, xs ++ [V.str "muddled"], rfl, rfl, upd_same, ?_⟩
      have kA : Off (fun b => b = a) H' (upd (upd H' a (.lst (xs ++ [V.str "muddled"]))) a (.lst (xs ++ [V.str "muddled"]).reverse)) := by
        rw [upd_upd]
        exact Off.upd rfl
      refine q _ ?_ ?_
      · simp only [mud]
        refine .lst upd_same ?_ n0 e0
        exact ((r1.snoc (Ow.str "muddled" (F := fun _ => False) fun _ z => z) (fun _ _ z => z) fun b => (or_iff_left id).symm).reverse).keep kA (fun b z => ⟨xs, by rw [z]; exact ea⟩) fun b z y => n0 (y ▸ z)
      · refine (off1 _).trans ((Off.new hl0).trans ((off.mono fun b z => (e0 b).mpr (.inr z)).trans (kA.mono fun b z => (e0 b).mpr (.inl z))))
  | tuple ds =>
    cases o1 with
    | @tup F1 a xs _ h0 r =>
    cases ms with
    | nil => exact hf.elim
    | cons m ms =>
    obtain ⟨hl, hfs⟩ := hf
    have hm1 := hm m List.mem_cons_self
    have hms : ∀ k ∈ ms, k ≤ 1000 := fun k z => hm k (List.mem_cons_of_mem _ z)
    have hk1 := Nat.lt_of_succ_lt_succ hk
    refine iteT ⟨_, rfl, a, xs, rfl, .inr (SqT.of h0), fun l hl0 => ⟨l, rfl, ⟨xs, SqL.of upd_same⟩, for_list (K := K) (a := l) (xs := xs)
      (fun i σ H' => ∃ w, σ = [some (.ref a), w] ∧ OwAll H' xs (mixed ds i) Fv ∧ Off Fv (upd H1 l (.lst xs)) H') ⟨none, rfl, ?_, Off.refl _ _⟩ (fun i σ H' _ g => ?_) (fun i x σ H' hx g => ?_) fun σ H' g => ?_⟩⟩
    · rw [mixed_start]
      exact r.keep (G := fun _ => False) (Off.new hl0) (fun _ z => z.elim) fun _ _ z => z
    · obtain ⟨_, _, _, off⟩ := g
      refine SqL.of (off _ _ upd_same fun z => ?_)
      obtain ⟨ys, y⟩ := r.dom _ z
      rw [hl0] at y
      cases y
    · obtain ⟨w1, rfl, r1, off⟩ := g
      have tn := turn r1 hfs hms hk1 hx off
      obtain ⟨v5, d5, F5, m5, k5, e5, o5, f5, m5', k5', q5⟩ := tn
      exact ⟨_, rfl, v5, d5, F5, m5, k5, e5, o5, f5, m5', k5', fun H4 a1 a2 => ⟨_, rfl, q5 H4 a1 a2⟩⟩
    · obtain ⟨w1, rfl, r1, off⟩ := g
      rw [r.length, mixed_end] at r1
      have na : a ≠ l := fun z => by
        rw [z, hl0] at h0
        cases h0
      have nF : ¬ Fv a := fun z => by
        obtain ⟨ys, y⟩ := r.dom _ z
        rw [h0] at y
        cases y
      have ea : H' a = some (.tup xs) := off _ _ (by rw [upd_ne na]; exact h0) nF
      refine ⟨_, rfl, .ref a, .ty "list", .type "tuple", .type "list", false, rfl, .ty _, .base (.tup ea), kit_list (.tuple ds), _, rfl, iteF ?_⟩
      refine q _ ?_ ((off1 _).trans ((Off.new hl0).trans off))
      simp only [mud]
      exact .tup ea r1
  | none => exact iteF ⟨_, rfl, v, .ty "list", .type (tyName .none), .type "list", false, rfl, .ty _, ow_ty o1, kit_list _, _, rfl, iteF (q _ (by simpa only [mud] using o1) (off1 _))⟩
  | bool b => exact iteF ⟨_, rfl, v, .ty "list", .type (tyName (.bool b)), .type "list", false, rfl, .ty _, ow_ty o1, kit_list _, _, rfl, iteF (q _ (by simpa only [mud] using o1) (off1 _))⟩
  | int i => exact iteF ⟨_, rfl, v, .ty "list", .type (tyName (.int i)), .type "list", false, rfl, .ty _, ow_ty o1, kit_list _, _, rfl, iteF (q _ (by simpa only [mud] using o1) (off1 _))⟩
  | str x => exact iteF ⟨_, rfl, v, .ty "list", .type (tyName (.str x)), .type "list", false, rfl, .ty _, ow_ty o1, kit_list _, _, rfl, iteF (q _ (by simpa only [mud] using o1) (off1 _))⟩
  | dict kvs => cases o1
theorem ok_muddle {f : Addr} {fd : FuncData} (F : FnP K "_law_muddle" sMuddle f fd) (hb : Binds K fd ["thing"] []) (mf : mg "_law_muddle" = some (.ref f)) (mi : mg "isinstance" = none) (ml : mg "list" = none) (mt : mg "tuple" = none) :
    ∀ n : Nat, FnOk P w K mg base CX0 n f fd ["thing"] (spMuddle n)
  | 0 => none_leftN fun vs H Q E h => by
    obtain ⟨_, _, _, _, _, _, _, _, _, h, _⟩ := h
    exact absurd h (Nat.not_lt_zero _)
  | n + 1 => ok_muddle_step F hb mf mi ml mt (ok_muddle F hb mf mi ml mt n)
end
end LW
set_option Elab.async false
set_option linter.all false
set_option maxRecDepth 100000
set_option maxHeartbeats 4000000
namespace LW
open PySem PySem.Spec PyProof.Rows L2 KV
/-! ### _law_own -/
/-- sizes that repr takes, also once muddled -/
structure Sz (b : Nat) (ms : List Nat) (d : PyData) : Prop where
  fit : Fit b ms d
  b7 : 7 ≤ b
  dp : ms.length ≤ 5
  w : ∀ m ∈ ms, m ≤ 999
  big : big b (more ms) ≤ sizeLine
theorem big_more (b : Nat) : ∀ ms : List Nat, KV.big b ms ≤ KV.big b (more ms)
  | [] => Nat.le_refl _
  | m :: ms => by
    have ih := big_more b ms
    show 10 * b + 200 + m * (KV.big b ms + 2) ≤ 10 * b + 200 + (m + 1) * (KV.big b (more ms) + 2)
    have h : m * (KV.big b ms + 2) ≤ (m + 1) * (KV.big b (more ms) + 2) := Nat.mul_le_mul (Nat.le_succ _) (by omega)
    omega
theorem Sz.rep {b : Nat} {ms : List Nat} {d : PyData} (s : Sz b ms d) : d.showable = true ∧ d.hasDict = false ∧ d.depth ≤ 60 ∧ d.shown.length ≤ sizeLine :=
  ⟨s.fit.ok.sh, s.fit.ok.nd, Nat.le_trans s.fit.ok.dp (Nat.le_trans s.dp (by decide)), Nat.le_trans s.fit.ok.sz (Nat.le_trans (big_more b ms) s.big)⟩
theorem Sz.mud {b : Nat} {ms : List Nat} {d : PyData} (s : Sz b ms d) : (KV.mud d).showable = true ∧ (KV.mud d).hasDict = false ∧ (KV.mud d).depth ≤ 60 ∧ (KV.mud d).shown.length ≤ sizeLine := by
  have f := (s.fit.mud s.b7).ok
  have l : (more ms).length = ms.length := List.length_map _
  refine ⟨f.sh, f.nd, Nat.le_trans f.dp ?_, Nat.le_trans f.sz s.big⟩
  rw [l]
  exact Nat.le_trans s.dp (by decide)
def spOwn (K : PySem.W.Frag) : Sp := fun vs H Q _ => ∃ (told due : V) (d : PyData) (F : Fp) (b : Nat) (ms : List Nat), vs = [told, due] ∧ Ow H told d F ∧ Dp K H due d ∧ Sz b ms d ∧
  ∀ H', Off F H H' → Q (.bl true) H'
section
variable {P : Program} {w : World} {K : PySem.W.Frag} {mg : Str → Option Value} {base : Heap}
end
end LW
set_option Elab.async false
set_option linter.all false
set_option maxRecDepth 100000
set_option maxHeartbeats 4000000
namespace LW
open PySem PySem.Spec PyProof.Rows L2 KV
/-! ### _law_words -/
/-- one to eight letters from a to z -/
def Title (x : Str) : Prop := 1 ≤ x.length ∧ x.length ≤ 8 ∧ ∀ c ∈ x.cps.toList, 97 ≤ c ∧ c ≤ 122
/-- the text of these signs -/
def tx (l : List Nat) : Str := ⟨l.toArray⟩
theorem tx_len (l : List Nat) : (tx l).length = l.length := by simp [tx, Str.length]
theorem tx_cps (l : List Nat) : (tx l).cps.toList = l := by simp [tx]
theorem tx_inj {a b : List Nat} (h : tx a = tx b) : a = b := by rw [← tx_cps a, h, tx_cps]
theorem str_ext {x y : Str} (h : x.cps.toList = y.cps.toList) : x = y := by
  cases x; cases y
  simpa using h
theorem tx_add (a b : List Nat) : tx a ++ tx b = tx (a ++ b) := str_ext (by
  show (⟨(tx a).cps ++ (tx b).cps⟩ : Str).cps.toList = _
  simp [tx])
theorem tx_join : ∀ l : List Nat, Txt.join "" (l.map fun c => tx [c]) = tx l := by
  intro l
  unfold Txt.join
  rw [StrLaws.glued_eq_join]
  have emp : ("" : Str) = tx [] := by decide +kernel
  induction l with
  | nil => exact emp ▸ rfl
  | cons c r ih =>
    cases r with
    | nil => rfl
    | cons d r =>
      have e : Str.join "" (tx [c] :: tx [d] :: r.map fun c => tx [c]) = tx [c] ++ "" ++ Str.join "" (tx [d] :: r.map fun c => tx [c]) := rfl
      show Str.join "" (tx [c] :: tx [d] :: r.map fun c => tx [c]) = _
      have ih' : Str.join "" (tx [d] :: r.map fun c => tx [c]) = tx (d :: r) := ih
      rw [e, ih', emp, tx_add, tx_add]
      rfl
theorem tx_cut {l : List Nat} {k : Int} (h : 0 ≤ k) : cutS (tx l) none (some k) = tx (l.take k.toNat) := by
  refine str_ext ?_
  have hk : ¬ k < 0 := by omega
  unfold cutS
  simp [HT.sIx, hk, tx, Str.length]
theorem title_tx {l : List Nat} : Title (tx l) ↔ 1 ≤ l.length ∧ l.length ≤ 8 ∧ ∀ c ∈ l, 97 ≤ c ∧ c ≤ 122 := by
  unfold Title
  rw [tx_len, tx_cps]
/-- the letters -/
theorem abc_at {i : Int} (h0 : 0 ≤ i) (h1 : i < 26) : atI ("abcdefghijklmnopqrstuvwxyz" : Str).cps.toList i = some (97 + i.toNat) := by
  have all : ∀ k : Fin 26, ("abcdefghijklmnopqrstuvwxyz" : Str).cps.toList[k.val]? = some (97 + k.val) := by decide +kernel
  have e : ((i.toNat : Nat) : Int) = i := by omega
  have q : ("abcdefghijklmnopqrstuvwxyz" : Str).cps.toList[i.toNat]? = some (97 + i.toNat) := all ⟨i.toNat, by omega⟩
  generalize i.toNat = k at e q
  rw [← e]
  exact atI_nat q
def menuL : List Str := ["all", "as", "key", "id", "town", "table", "is", "same", "missing", "settles", "pair", "left", "a", "b"]
def menuF (k : Nat) : Str := menuL.getD (k % 14) ""
theorem menu_at (k : Nat) : menuL[k % 14]? = some (menuF k) := by
  have h : k % 14 < menuL.length := Nat.mod_lt _ (by decide)
  unfold menuF
  rw [List.getD_eq_getElem?_getD, List.getElem?_eq_getElem h]
  rfl
theorem menu_title (k : Nat) : Title (menuF k) := by
  have all : ∀ j : Fin 14, 1 ≤ (menuL.getD j.val "").length ∧ (menuL.getD j.val "").length ≤ 8 ∧ (menuL.getD j.val "").cps.toList.all (fun c => decide (97 ≤ c ∧ c ≤ 122)) = true := by decide +kernel
  have q := all ⟨k % 14, Nat.mod_lt _ (by decide)⟩
  exact ⟨q.1, q.2.1, fun c hc => of_decide_eq_true (List.all_eq_true.mp q.2.2 c hc)⟩
theorem menu_inj {a b : Nat} (h : menuF a = menuF b) : a % 14 = b % 14 := by
  have all : ∀ i j : Fin 14, menuL.getD i.val "" = menuL.getD j.val "" → i.val = j.val := by decide +kernel
  exact all ⟨a % 14, Nat.mod_lt _ (by decide)⟩ ⟨b % 14, Nat.mod_lt _ (by decide)⟩ h
/-- a range of texts -/
def rgS (f : Nat → Str) (i : Nat) : List V := ((List.range i).map f).map V.str
theorem rgS_len (f : Nat → Str) (i : Nat) : (rgS f i).length = i := by simp [rgS]
theorem rgS_succ (f : Nat → Str) (i : Nat) : rgS f i ++ [V.str (f i)] = rgS f (i + 1) := by simp [rgS, List.range_succ]
theorem nd_range {f : Nat → Str} {n : Nat} (h : ∀ i j, i < j → j < n → f i ≠ f j) : ((List.range n).map f).Nodup := by
  rw [List.Nodup, List.pairwise_map]
  refine List.Pairwise.imp_of_mem ?_ List.nodup_range |>.imp fun h => h
  intro a b ha hb ne
  rw [List.mem_range] at ha hb
  rcases Nat.lt_or_gt_of_ne ne with c | c
  · exact h a b c hb
  · exact fun e => h b a c ha e.symm
def spWords : Sp := fun vs H Q _ => ∃ (p : Addr) (m c : Nat), vs = [.ref p, .int (m : Int)] ∧ m ≤ 100 ∧ Pu H p c ∧ c + 10 ≤ 1000000000 ∧
  ∀ (ws : List Str) (D : Addr) (H' : Hp) (c' : Nat), ws.length = m → (∀ x ∈ ws, Title x) → ws.Nodup → H D = none → H' D = some (.lst (ws.map V.str)) → Pu H' p c' → c' ≤ c + 10 → Off (fun a => a = p) H H' → Q (.ref D) H'
section
variable {P : Program} {w : World} {K : PySem.W.Frag} {mg : Str → Option Value} {base : Heap}
theorem scWords : FnScope ["purse", "many", "letters", "way", "menu", "stem", "start", "turn", "rank"] ["purse", "many"] (defScope sWords) := ⟨rfl, rfl, rfl, by decide +kernel, rfl, by decide +kernel, by decide +kernel⟩
theorem ok_words {f fC : Addr} {fd dC : FuncData} (F : FnP K "_law_words" sWords f fd) (FC : FnP K "_law_coin" sCoin fC dC) (bC : Binds K dC ["purse", "many"] []) (mC : mg "_law_coin" = some (.ref fC)) (mi : mg "int" = none) (mr : mg "range" = none) :
    FnOk P w K mg base CX0 2 f fd ["purse", "many"] spWords := by
  have GC : FnOk P w K mg base CX0 1 fC dC ["purse", "many"] spCoin := ok_coin FC mi
  refine F.ok scWords (fun vs H Q E h => ?_) (fun cdv A outer s H vs Q E hr h => ?_)
  · obtain ⟨p, m, c, rfl, _⟩ := h
    rfl
  obtain ⟨p, m, c, rfl, hm, hp, hc, q⟩ := h
  refine ⟨_, pss_cons (ps_asg (pe_tup (pa_cons pe_str (pa_cons (pe_call GC hr rfl mC FC.kp bC .nil pass0 (pa_cons (pv 0) (pa_cons pe_int pa_nil))) pa_nil)))
      (pg_tup rfl (pgs_cons (pg_name (i := 2) scWords.nd rfl (Or.inr rfl)) (pgs_cons (pg_name (i := 3) scWords.nd rfl (Or.inl rfl)) pgs_nil))))
    (pss_cons (ps_set (i := 4) scWords.nd rfl (Or.inr rfl) (pe_lst (pa_cons pe_str (pa_cons pe_str (pa_cons pe_str (pa_cons pe_str (pa_cons pe_str (pa_cons pe_str (pa_cons pe_str (pa_cons pe_str (pa_cons pe_str (pa_cons pe_str (pa_cons pe_str (pa_cons pe_str (pa_cons pe_str (pa_cons pe_str pa_nil))))))))))))))))
    (pss_cons (ps_set (i := 5) scWords.nd rfl (Or.inr rfl) (pe_join pe_str (pe_lc (own := [("turn", 7)]) (g := gName 7) (tt := tYes) rfl scWords.nd (pi_range1 rfl mr (pa_cons pe_int pa_nil))
        (blkOk_by (own := [("turn", 7)]) (N := ["purse", "many", "letters", "way", "menu", "stem", "start", "turn", "rank"]) (sc := defScope sWords) (by decide +kernel))
        (fun _ _ _ _ _ => pg_name (i := 7) scWords.nd rfl (Or.inl rfl)) (fun _ _ _ _ _ => pts_nil)
        (fun _ _ _ _ _ => pe_ix ix_str (pv 2) (pe_call GC hr rfl mC FC.kp bC .nil pass0 (pa_cons (pv 0) (pa_cons pe_int pa_nil))) (fun _ _ => rfl)))))
    (pss_cons (ps_if (PW.pt (pw_and (pt_cmpR op_eq (pv 3) pe_int (nomark _)) (pw_and1 (pt_cmpR op_lt (pv 1) pe_int (nomark _)))))
      (pss_cons (ps_set (i := 6) scWords.nd rfl (Or.inr rfl) (pe_call GC hr rfl mC FC.kp bC .nil pass0 (pa_cons (pv 0) (pa_cons pe_int pa_nil))))
        (pss_one (ps_ret (pe_lc (own := [("rank", 8)]) (g := gName 8) (tt := tYes) (te := tOp (rIxL K) (tVar 4) (tOp (rI (fun _ j => 0 < j) fun i j => .int (i % j)) (tCB (fun xs H Q => (∃ i, xs = [.int i] ∧ Q (.int i) H) ∨ ∃ k, xs = [.bl k] ∧ Q (.int (if k then 1 else 0)) H) (tCons (tOp (rI0 fun i j => .int (i + j)) (tVar 6) (tOp (rI CMul fun i j => .int (i * j)) (tC (.int 3)) (tVar 8))) tNil)) (tC (.int 14)))) rfl scWords.nd (pi_range1 rfl mr (pa_cons (pv 1) pa_nil))
          (blkOk_by (own := [("rank", 8)]) (N := ["purse", "many", "letters", "way", "menu", "stem", "start", "turn", "rank"]) (sc := defScope sWords) (by decide +kernel))
          (fun _ _ _ _ _ => pg_name (i := 8) scWords.nd rfl (Or.inl rfl)) (fun _ _ _ _ _ => pts_nil)
          (fun _ _ _ _ _ => pe_ix ix_list (pv 4) (pe_op op_mod (pe_callTy call_int1 rfl mi (by decide +kernel) (pa_cons (pe_op op_add (pv 6) (pe_op op_mul pe_int (pv 8))) pa_nil)) pe_int) (fun _ _ => rfl)))))) pss_nil)
    (pss_cons (ps_if (PW.pt (pw_and (pt_cmpR op_eq (pv 3) pe_int (nomark _)) (pw_and1 (pt_cmpR op_lt (pv 1) pe_int (nomark _)))))
      (pss_one (ps_ret (pe_lc (own := [("rank", 8)]) (g := gName 8) (tt := tYes) rfl scWords.nd (pi_range1 rfl mr (pa_cons (pv 1) pa_nil))
          (blkOk_by (own := [("rank", 8)]) (N := ["purse", "many", "letters", "way", "menu", "stem", "start", "turn", "rank"]) (sc := defScope sWords) (by decide +kernel))
          (fun _ _ _ _ _ => pg_name (i := 8) scWords.nd rfl (Or.inl rfl)) (fun _ _ _ _ _ => pts_nil)
          (fun _ _ _ _ _ => pe_slice sl_str (pv 5) po_none (po_some (pe_op op_add (pv 8) pe_int)))))) pss_nil)
    (pss_cons (ps_set (i := 6) scWords.nd rfl (Or.inr rfl) (pe_call GC hr rfl mC FC.kp bC .nil pass0 (pa_cons (pv 0) (pa_cons pe_int pa_nil))))
    (pss_one (ps_ret (pe_lc (own := [("rank", 8)]) (g := gName 8) (tt := tYes) rfl scWords.nd (pi_range1 rfl mr (pa_cons (pv 1) pa_nil))
          (blkOk_by (own := [("rank", 8)]) (N := ["purse", "many", "letters", "way", "menu", "stem", "start", "turn", "rank"]) (sc := defScope sWords) (by decide +kernel))
          (fun _ _ _ _ _ => pg_name (i := 8) scWords.nd rfl (Or.inl rfl)) (fun _ _ _ _ _ => pts_nil)
          (fun _ _ _ _ _ => pe_op op_add_str (pe_ix ix_str (pv 2) (pe_op op_mod (pe_callTy call_int1 rfl mi (by decide +kernel) (pa_cons (pe_op op_add (pv 6) (pv 8)) pa_nil)) pe_int) (fun _ _ => rfl))
            (pe_slice sl_str (pv 5) po_none (po_some (pe_op op_fdiv (pv 8) pe_int)))))))))))), ?_⟩
  refine ⟨_, rfl, p, 3, c, rfl, hp, by omega, by decide, by decide, fun way H1 w0 w3 hp1 b1 => ⟨by show 2 ≤ sizeLine; decide, fun tp htp => ⟨tp, _, rfl, SqT.of upd_same, rfl, _, _, rfl, _, _, rfl, ?_⟩⟩⟩
  have pt : p ≠ tp := by
    obtain ⟨xs, ep⟩ := hp1.lst
    exact ne_of_none ep htp
  have hp2 := hp1.at (H' := upd H1 tp (.tup [.str "abcdefghijklmnopqrstuvwxyz", .int way])) (upd_ne pt)
  have off2 : Off (fun a => a = p) H (upd H1 tp (.tup [.str "abcdefghijklmnopqrstuvwxyz", .int way])) := b1.off.trans (Off.new htp)
  refine ⟨rfl, (by show 14 ≤ sizeLine; decide), fun mn hmn => ?_⟩
  generalize upd H1 tp (.tup [.str "abcdefghijklmnopqrstuvwxyz", .int way]) = H2 at hp2 off2 hmn
  have pm : p ≠ mn := by
    obtain ⟨xs, ep⟩ := hp2.lst
    exact ne_of_none ep hmn
  have hm0 : (upd H2 mn (.lst (menuL.map V.str))) mn = some (.lst (menuL.map V.str)) := upd_same
  have hp3 : Pu (upd H2 mn (.lst (menuL.map V.str))) p (c + 1) := hp2.at (upd_ne pm)
  have off3 : Off (fun a => a = p) H (upd H2 mn (.lst (menuL.map V.str))) := off2.trans (Off.new hmn)
  show gName 4 _ _ (upd H2 mn (.lst (menuL.map V.str))) _
  generalize upd H2 mn (.lst (menuL.map V.str)) = H3 at hm0 hp3 off3
  refine ⟨⟨_, rfl⟩, 8, rfl, by decide, by decide, fun D hD => lc_range (lo := 0) (n := 8)
    (fun i H' => ∃ cs : List Nat, H' D = some (.lst (cs.map fun c => V.str (tx [c]))) ∧ cs.length = i ∧ (∀ c ∈ cs, 97 ≤ c ∧ c ≤ 122) ∧ Pu H' p (c + 1 + i) ∧ Off (fun a => a = p) H3 H') ?_ (fun i H' hi g => ?_) fun H' g => ?_⟩
  · obtain ⟨xs, ep⟩ := hp3.lst
    exact ⟨[], upd_same, rfl, fun c hc => absurd hc (by simp), hp3.at (upd_ne (ne_of_none ep hD)), Off.new hD⟩
  · obtain ⟨cs, e1, hl, hs, hp', k'⟩ := g
    obtain ⟨xs, ep⟩ := hp3.lst
    have pD : p ≠ D := ne_of_none ep hD
    refine ⟨rfl, Exists.intro _ ⟨rfl, Exists.intro _ ⟨rfl, p, 26, c + 1 + i, rfl, hp', by omega, by decide, by decide, fun j H4 j0 j7 hp4 b4 => ?_⟩⟩⟩
    refine ⟨_, j, _, rfl, rfl, by decide +kernel, abc_at j0 j7, _, (b4 D (Ne.symm pD)).trans e1, by rw [List.length_map, hl]; exact small1000 (by omega), cs ++ [97 + j.toNat], ?_, by simp [hl], fun z hz => ?_, hp4.at (upd_ne pD), fun a u ea na => ?_⟩
    · rw [upd_same, List.map_append]
      rfl
    · rcases List.mem_append.mp hz with hz | hz
      · exact hs z hz
      · rw [List.mem_singleton.mp hz]
        omega
    · rw [upd_ne (fun z => by rw [z, hD] at ea; cases ea)]
      exact (b4 a na).trans (k' a u ea na)
  obtain ⟨cs, e1, hl, hs, hp4, k4⟩ := g
  have ej : Txt.join "" (cs.map fun c => tx [c]) = tx cs := tx_join cs
  have em : cs.map (fun c => V.str (tx [c])) = (cs.map fun c => tx [c]).map V.str := by rw [List.map_map]; rfl
  rw [em] at e1
  have off4 : Off (fun a => a = p) H H' := off3.trans k4
  have hm4 : H' mn = some (.lst (menuL.map V.str)) := k4 _ _ hm0 (Ne.symm pm)
  refine ⟨_, D, cs.map (fun c => tx [c]), rfl, rfl, .inl (SqL.of e1), ?_, ?_⟩
  · rw [List.map_map, List.length_map, hl]
    have : List.map ((fun x : Str => x.length) ∘ fun c => tx [c]) cs = List.map (fun _ => 1) cs := rfl
    have e0 : ("" : Str).length = 0 := by decide +kernel
    have s1 : ∀ l : List Nat, (l.map fun _ => 1).sum = l.length := fun l => by induction l <;> simp_all <;> omega
    rw [this, e0, s1, hl]
    decide
  rw [ej]
  have fin : ∀ (f : Nat → Str) (H5 : Hp) (c5 : Nat) (D5 : Addr) (H6 : Hp), Pu H5 p c5 → c5 ≤ c + 10 → Off (fun a => a = p) H H5 → H5 D5 = none → H6 D5 = some (.lst (rgS f m)) → Off (fun _ => False) H5 H6 →
      (∀ r, r < m → Title (f r)) → (∀ i j, i < j → j < m → f i ≠ f j) → Q (.ref D5) H6 := by
    intro f H5 c5 D5 H6 h1 h2 h3 h4 h5 h6 h7 h8
    obtain ⟨xs, ep⟩ := id h1.lst
    have nD : D5 ≠ p := fun z => by
      rw [z, ep] at h4
      cases h4
    refine q ((List.range m).map f) D5 H6 c5 (by simp) (fun x hx => ?_) (nd_range h8) (h3.none h4 nD) h5 (h1.at ((h6 p _ ep id).trans ep.symm)) h2 (h3.trans (h6.mono fun a z => z.elim))
    obtain ⟨r, hr, rfl⟩ := List.mem_map.mp hx
    exact h7 r (List.mem_range.mp hr)
  have len8 : (tx cs).length ≤ sizeLine := by
    rw [tx_len, hl]
    decide
  have cA : way = 0 → m < 15 → ∀ {σ : L2.St} {R : VK} {E : XK}, True := fun _ _ _ _ _ => trivial
  refine ⟨_, rfl, rfl, _, rfl, ?_⟩
  by_cases w1 : way = 0
  rw [decide_eq_true (p := V.int way = V.int 0) (by rw [w1])]
  refine iteT ⟨_, rfl, _, _, rfl, rfl, _, rfl, ite2 (fun m1 => ?_) (fun m1 => ?_)⟩
  · have m2 : m < 15 := by
      have := of_decide_eq_true m1
      omega
    refine ⟨_, rfl, p, 14, c + 1 + 8, rfl, hp4, by omega, by decide, by decide, fun st H5 s0 s14 hp5 b5 => ⟨_, rfl, m, rfl, by omega, by omega, fun D5 hD5 => ?_⟩⟩
    have off5 := off4.trans b5.off
    refine lc_range (lo := 0) (n := m) (fun i H6 => H6 D5 = some (.lst (rgS (fun r => menuF (st.toNat + 3 * r)) i)) ∧ Off (fun _ => False) H5 H6) ⟨upd_same, Off.new hD5⟩ (fun i H6 hi g => ?_) fun H6 g => ?_
    · obtain ⟨g1, g2⟩ := g
      refine ⟨rfl, Exists.intro _ ⟨rfl, Exists.intro _ ⟨rfl, Exists.intro _ ⟨rfl, _, _, rfl, rfl, .inl ⟨by decide, by decide⟩, _, _, rfl, rfl, .inl ⟨_, rfl, _, _, rfl, rfl, (by show (0 : Int) < 14; decide), ?_⟩⟩⟩⟩⟩
      have ek : (st + 3 * (0 + (i : Int))) % 14 = (((st.toNat + 3 * i) % 14 : Nat) : Int) := by omega
      refine ⟨mn, _, (st + 3 * (0 + (i : Int))) % 14, V.str (menuF (st.toNat + 3 * i)), rfl, rfl, SqL.of (g2 _ _ ((b5 mn (Ne.symm pm)).trans hm4) id), ?_, _, g1, by rw [rgS_len]; exact small1000 (by omega), ?_⟩
      · rw [ek]
        exact atI_nat (by rw [List.getElem?_map, menu_at]; rfl)
      exact ⟨by rw [upd_same, rgS_succ], fun a u ea na => by rw [upd_ne (fun z => by rw [z, hD5] at ea; cases ea)]; exact g2 a u ea na⟩
    · obtain ⟨g1, g2⟩ := g
      refine fin _ H5 _ D5 H6 hp5 (by omega) off5 hD5 g1 g2 (fun r hr => ?_) (fun a b h1 h2 z => ?_)
      · exact menu_title _
      · have := menu_inj z
        omega
  rotate_left
  rw [decide_eq_false (p := V.int way = V.int 0) fun z => w1 (by cases z; rfl)]
  refine iteF (iteF ?_)
  all_goals
    refine ⟨_, rfl, rfl, _, rfl, ?_⟩
    by_cases w2 : way = 1
    rw [decide_eq_true (p := V.int way = V.int 1) (by rw [w2])]
    refine iteT ⟨_, rfl, _, _, rfl, rfl, _, rfl, ite2 (fun m2 => ?_) (fun m2 => ?_)⟩
    · have m3 : m < 9 := by
        have := of_decide_eq_true m2
        omega
      refine ⟨_, rfl, m, rfl, by omega, by omega, fun D5 hD5 => ?_⟩
      refine lc_range (lo := 0) (n := m) (fun i H6 => H6 D5 = some (.lst (rgS (fun r => tx (cs.take (r + 1))) i)) ∧ Off (fun _ => False) H' H6) ⟨upd_same, Off.new hD5⟩ (fun i H6 hi g => ?_) fun H6 g => ?_
      · obtain ⟨g1, g2⟩ := g
        have ek : (0 + (i : Int) + 1).toNat = i + 1 := by omega
        have ec := tx_cut (l := cs) (k := 0 + (i : Int) + 1) (by omega)
        rw [ek] at ec
        refine ⟨rfl, Exists.intro _ ⟨rfl, Exists.intro _ ⟨rfl, _, _, rfl, rfl, _, rfl, _, rfl, len8, _, g1, by rw [rgS_len]; exact small1000 (by omega), ?_⟩⟩⟩
        rw [ec]
        exact ⟨by rw [upd_same, rgS_succ (fun r => tx (cs.take (r + 1)))], fun a u ea na => by rw [upd_ne (fun z => by rw [z, hD5] at ea; cases ea)]; exact g2 a u ea na⟩
      · obtain ⟨g1, g2⟩ := g
        refine fin _ H' _ D5 H6 hp4 (by omega) off4 hD5 g1 g2 (fun r hr => ?_) (fun a b h1 h2 z => ?_)
        · refine title_tx.mpr ⟨by rw [List.length_take]; omega, by rw [List.length_take]; omega, fun c hc => hs c (List.mem_of_mem_take hc)⟩
        · have := congrArg List.length (tx_inj z)
          rw [List.length_take, List.length_take] at this
          omega
    rotate_left
    rw [decide_eq_false (p := V.int way = V.int 1) fun z => w2 (by cases z; rfl)]
    refine iteF (iteF ?_)
    all_goals
      refine ⟨_, rfl, p, 26, c + 1 + 8, rfl, hp4, by omega, by decide, by decide, fun st H5 s0 s26 hp5 b5 => ⟨_, rfl, m, rfl, by omega, by omega, fun D5 hD5 => ?_⟩⟩
      have off5 := off4.trans b5.off
      refine lc_range (lo := 0) (n := m) (fun i H6 => H6 D5 = some (.lst (rgS (fun r => tx ((97 + (st.toNat + r) % 26) :: cs.take (r / 26))) i)) ∧ Off (fun _ => False) H5 H6) ⟨upd_same, Off.new hD5⟩ (fun i H6 hi g => ?_) fun H6 g => ?_
      · obtain ⟨g1, g2⟩ := g
        have ek : ((st + (0 + (i : Int))) % 26).toNat = (st.toNat + i) % 26 := by omega
        have e2 : ((0 + (i : Int)) / 26).toNat = i / 26 := by omega
        have ea := abc_at (i := (st + (0 + (i : Int))) % 26) (by omega) (by omega)
        rw [ek] at ea
        have ec := tx_cut (l := cs) (k := (0 + (i : Int)) / 26) (by omega)
        rw [e2] at ec
        refine ⟨rfl, Exists.intro _ ⟨rfl, Exists.intro _ ⟨rfl, Exists.intro _ ⟨rfl, _, _, rfl, rfl, .inl ⟨_, rfl, _, _, rfl, rfl, (by show (0 : Int) < 26; decide), _, _, _, rfl, rfl, by decide +kernel, ea, Exists.intro _ ⟨rfl, Exists.intro _ ⟨rfl, _, _, rfl, rfl, ⟨by decide, by decide⟩, _, rfl, _, rfl, len8, _, _, rfl, rfl, ?_, _, g1, by rw [rgS_len]; exact small1000 (by omega), ?_⟩⟩⟩⟩⟩⟩⟩
        · rw [ec]
          show (tx [97 + (st.toNat + i) % 26]).length + _ ≤ _
          rw [tx_len, tx_len, List.length_take]
          show 1 + _ ≤ 16777216
          omega
        · rw [ec]
          have ej2 : (⟨#[97 + (st.toNat + i) % 26]⟩ : Str) ++ tx (cs.take (i / 26)) = tx ((97 + (st.toNat + i) % 26) :: cs.take (i / 26)) := tx_add [97 + (st.toNat + i) % 26] (cs.take (i / 26))
          rw [ej2]
          exact ⟨by rw [upd_same, rgS_succ (fun r => tx ((97 + (st.toNat + r) % 26) :: cs.take (r / 26)))], fun a u ea na => by rw [upd_ne (fun z => by rw [z, hD5] at ea; cases ea)]; exact g2 a u ea na⟩
      · obtain ⟨g1, g2⟩ := g
        refine fin _ H5 _ D5 H6 hp5 (by omega) off5 hD5 g1 g2 (fun r hr => ?_) (fun a b h1 h2 z => ?_)
        · refine title_tx.mpr ⟨by simp, by rw [List.length_cons, List.length_take]; omega, fun c hc => ?_⟩
          rcases List.mem_cons.mp hc with hc | hc
          · omega
          · exact hs c (List.mem_of_mem_take hc)
        · have z1 := tx_inj z
          have z2 := (List.cons.inj z1).1
          have z3 := congrArg List.length (List.cons.inj z1).2
          rw [List.length_take, List.length_take] at z3
          omega
end
end LW
set_option Elab.async false
set_option linter.all false
set_option maxRecDepth 100000
set_option maxHeartbeats 4000000
namespace LW
open PySem PySem.Spec PyProof.Rows L2 KV
/-! ### _law_drawn_tables -/
abbrev Tab := Str × List Str
def colsD (cs : List Str) : PyData := .list (cs.map PyData.str)
def tabD (t : Tab) : PyData := .tuple [.str t.1, colsD t.2]
def tabsD (ts : List Tab) : PyData := .list (ts.map tabD)
structure TabOk (mc : Nat) (t : Tab) : Prop where
  one : 1 ≤ t.2.length
  most : t.2.length ≤ mc
  good : ∀ x ∈ t.2, Title x
  nd : t.2.Nodup
  name : Title t.1
structure TabsOk (mt mc : Nat) (ts : List Tab) : Prop where
  one : 1 ≤ ts.length
  most : ts.length ≤ mt
  nd : (ts.map Prod.fst).Nodup
  each : ∀ t ∈ ts, TabOk mc t
/-- texts have no lists -/
theorem owAll_strs {H : Hp} {F : Fp} (e : ∀ a, ¬ F a) : ∀ xs : List Str, OwAll H (xs.map V.str) (xs.map PyData.str) F
  | [] => .nil e
  | x :: xs => .cons (.str x e) (owAll_strs e xs) (fun a z _ => e a z) fun a => ⟨.inl, fun z => z.elim id id⟩
/-- a list of texts -/
theorem ow_strs {H : Hp} {D : Addr} {xs : List Str} (h : H D = some (.lst (xs.map V.str))) : Ow H (.ref D) (colsD xs) fun a => a = D :=
  .lst h (owAll_strs (F := fun _ => False) (fun _ z => z) xs) (fun z => z) fun a => ⟨.inl, fun z => z.elim id False.elim⟩
def spDrawnTables : Sp := fun vs H Q _ => ∃ (p : Addr) (mt mc c : Nat), vs = [.ref p, .int (mt : Int), .int (mc : Int)] ∧ 1 ≤ mt ∧ mt ≤ 20 ∧ 1 ≤ mc ∧ mc ≤ 20 ∧ Pu H p c ∧ c + 300 ≤ 1000000000 ∧
  ∀ (ts : List Tab) (D : Addr) (F : Fp) (H' : Hp) (c' : Nat), TabsOk mt mc ts → Ow H' (.ref D) (tabsD ts) F → (∀ a, F a → H a = none) → Pu H' p c' → c' ≤ c + 300 → Off (fun a => a = p) H H' → Q (.ref D) H'
section
variable {P : Program} {w : World} {K : PySem.W.Frag} {mg : Str → Option Value} {base : Heap}
theorem scDrawnTables : FnScope ["purse", "most_tables", "most_columns", "found", "title"] ["purse", "most_tables", "most_columns"] (defScope sDrawnTables) := ⟨rfl, rfl, rfl, by decide +kernel, rfl, by decide +kernel, by decide +kernel⟩
theorem ok_drawnTables {f fC fW : Addr} {fd dC dW : FuncData} (F : FnP K "_law_drawn_tables" sDrawnTables f fd) (FC : FnP K "_law_coin" sCoin fC dC) (bC : Binds K dC ["purse", "many"] []) (mC : mg "_law_coin" = some (.ref fC))
    (FW : FnP K "_law_words" sWords fW dW) (bW : Binds K dW ["purse", "many"] []) (mW : mg "_law_words" = some (.ref fW)) (mi : mg "int" = none) (mr : mg "range" = none) :
    FnOk P w K mg base CX0 3 f fd ["purse", "most_tables", "most_columns"] spDrawnTables := by
  have GC : FnOk P w K mg base CX0 2 fC dC ["purse", "many"] spCoin := (ok_coin FC mi).mono (by decide)
  have GW : FnOk P w K mg base CX0 2 fW dW ["purse", "many"] spWords := ok_words FW FC bC mC mi mr
  refine F.ok scDrawnTables (fun vs H Q E h => ?_) (fun cdv A outer s H vs Q E hr h => ?_)
  · obtain ⟨p, mt, mc, c, rfl, _⟩ := h
    rfl
  obtain ⟨p, mt, mc, c, rfl, t1, t2, c1, c2, hp, hc, q⟩ := h
  refine ⟨_, PSs.nox (pss_cons (ps_set (i := 3) scDrawnTables.nd rfl (Or.inl rfl) (pe_lst pa_nil))
    (pss_cons (ps_for PassesOwn.never rfl (pi_list (pe_call GW hr rfl mW FW.kp bW .nil pass0 (pa_cons (pv 0) (pa_cons (pe_op op_add pe_int (pe_call GC hr rfl mC FC.kp bC .nil pass0 (pa_cons (pv 0) (pa_cons (pv 1) pa_nil)))) pa_nil)))) (pg_name (i := 4) scDrawnTables.nd rfl (Or.inl rfl))
      (pss_one (ps_expr (pe_bm PySem.F.plainAttrs_list PySem.F.slot_list_append PySem.F.type_list_append mt_append (pv 3)
        (pa_cons (pe_tup (pa_cons (pv 4) (pa_cons (pe_call GW hr rfl mW FW.kp bW .nil pass0 (pa_cons (pv 0) (pa_cons (pe_op op_add pe_int (pe_call GC hr rfl mC FC.kp bC .nil pass0 (pa_cons (pv 0) (pa_cons (pv 2) pa_nil)))) pa_nil))) pa_nil))) pa_nil)))))
    (pss_one (ps_ret (pv 3))))), ?_⟩
  refine ⟨by decide, fun fo hfo => ?_⟩
  obtain ⟨xs0, ep0⟩ := id hp.lst
  have pf : p ≠ fo := ne_of_none ep0 hfo
  have hp1 : Pu (upd H fo (.lst [])) p c := hp.at (upd_ne pf)
  have g1 : Grow (fun a => a = p) H fo [] (upd H fo (.lst [])) := Grow.start hfo
  generalize upd H fo (.lst []) = H1 at hp1 g1 ⊢
  refine ⟨_, rfl, _, rfl, _, rfl, p, mt, c, rfl, hp1, by omega, by omega, by omega, fun k H2 k0 k1 hp2 b2 => ?_⟩
  refine ⟨_, _, rfl, rfl, p, (1 + k).toNat, c + 1, ?_, by omega, hp2, by omega, fun ws W H3 c3 wl wt wn wf wd hp3 hc3 off3 => ?_⟩
  · rw [show (((1 + k).toNat : Nat) : Int) = 1 + k by omega]
    rfl
  have g3 : Grow (fun a => a = p) H fo [] H3 := by
    obtain ⟨acc, FA, a1, a2, a3, a4, a5⟩ := g1
    cases a2 with
    | nil e => exact ⟨[], FA, off3 _ _ (b2.off _ _ a1 (Ne.symm pf)) (Ne.symm pf), .nil e, a3, a4, a5.trans (b2.off.trans off3)⟩
  have kn : (1 + k).toNat ≤ mt := by omega
  have pW : p ≠ W := fun z => by
    obtain ⟨xs, ep⟩ := hp2.lst
    rw [← z, ep] at wf
    cases wf
  have fW : fo ≠ W := fun z => by
    obtain ⟨acc, FA, a1, a2, a3, a4, a5⟩ := g1
    rw [← z, b2 fo (Ne.symm pf), a1] at wf
    cases wf
  refine ⟨W, rfl, ⟨_, SqL.of wd⟩, for_list (K := K) (a := W) (xs := ws.map V.str)
    (fun i σ H' => ∃ (w : Option V) (ts : List Tab) (c' : Nat), σ = [some (.ref p), some (.int mt), some (.int mc), some (.ref fo), w] ∧ Grow (fun a => a = p) H fo (ts.map tabD) H' ∧ ts.map Prod.fst = ws.take i ∧ (∀ t ∈ ts, TabOk mc t) ∧
      Pu H' p c' ∧ c' ≤ c3 + 11 * i ∧ H' W = some (.lst (ws.map V.str))) ⟨none, [], c3, rfl, g3, rfl, fun t h => absurd h (by simp), hp3, by omega, wd⟩ (fun i σ H' _ g => ?_) (fun i x σ H' hx g => ?_) fun σ H' g => ?_⟩
  · obtain ⟨_, _, _, _, _, _, _, _, _, e⟩ := g
    exact SqL.of e
  · obtain ⟨w1, ts, c', rfl, g, hn, ht, hp', hc', hW⟩ := g
    rw [List.getElem?_map] at hx
    cases hy : ws[i]? with
    | none => rw [hy] at hx; cases hx
    | some y =>
    rw [hy] at hx
    cases hx
    have hi : i < ws.length := (List.getElem?_eq_some_iff.mp hy).1
    have hi2 : i < 20 := by omega
    obtain ⟨acc, ga1, ga2⟩ := g.len
    have gl : ts.length = i := by
      have := congrArg List.length hn
      rw [List.length_map, List.length_take] at this
      omega
    obtain ⟨xs1, ep1⟩ := hp'.lst
    refine ⟨_, rfl, .inl ⟨rfl, _, SqL.of ga1⟩, _, rfl, _, rfl, _, rfl, _, rfl, p, mc, c', rfl, hp', by omega, by omega, by omega, fun k H4 k0 k1 hp4 b4 => ?_⟩
    refine ⟨_, _, rfl, rfl, p, (1 + k).toNat, c' + 1, ?_, by omega, hp4, by omega, fun cs C H5 c5 cl ct cn cf cd hp5 hc5 off5 => ?_⟩
    · rw [show (((1 + k).toNat : Nat) : Int) = 1 + k by omega]
      rfl
    refine ⟨(by show 2 ≤ sizeLine; decide), fun tp htp => ?_⟩
    have o45 : Off (fun a => a = p) H' (upd H5 tp (.tup [.str y, .ref C])) := (b4.off.trans off5).trans (Off.new htp)
    have pt : p ≠ tp := fun z => by
      obtain ⟨xs, ep⟩ := hp5.lst
      rw [z, htp] at ep
      cases ep
    have Ct : C ≠ tp := fun z => by
      rw [z, htp] at cd
      cases cd
    have nC : H' C = none := b4.off.none cf fun z => by
      obtain ⟨xs, ep⟩ := hp4.lst
      rw [z, ep] at cf
      cases cf
    have ow : Ow (upd H5 tp (.tup [.str y, .ref C])) (.ref tp) (tabD (y, cs)) (fun a => a = C) :=
      .tup upd_same (.cons (F := fun _ => False) (.str y fun _ z => z) (.cons (G := fun _ => False) (ow_strs ((upd_ne Ct).trans cd)) (.nil fun _ z => z) (fun _ _ z => z) fun a => ⟨.inl, fun z => z.elim id False.elim⟩) (fun _ z => z.elim) fun a => ⟨.inr, fun z => z.elim False.elim id⟩)
    obtain ⟨acc2, a1, a2, a3⟩ := g.step hfo (fun a z => by rw [z, ep0]; simp) (fun a z => by rw [z]; exact ⟨_, ep1⟩) ow (fun a z => by rw [z]; exact nC) o45
    refine ⟨fo, acc2, _, rfl, rfl, a1, small1000 (by rw [a2, List.length_map]; omega), some (.str y), ts ++ [(y, cs)], c5, rfl, ?_, ?_, ?_, ?_, by omega, ?_⟩
    · rw [List.map_append]
      exact a3
    · rw [List.map_append, hn, List.take_add_one, hy]
      rfl
    · intro t h
      rcases List.mem_append.mp h with h | h
      · exact ht t h
      · rw [List.mem_singleton.mp h]
        exact ⟨by show 1 ≤ cs.length; omega, by show cs.length ≤ mc; omega, ct, cn, wt y (List.mem_of_getElem? hy)⟩
    · exact (hp5.at (upd_ne pt)).at (upd_ne pf)
    · rw [upd_ne (Ne.symm fW)]
      exact o45 _ _ hW (Ne.symm pW)
  · obtain ⟨w1, ts, c', rfl, g, hn, ht, hp', hc', hW⟩ := g
    rw [List.length_map, List.take_length] at hn
    have tl : ts.length = ws.length := by
      have := congrArg List.length hn
      rwa [List.length_map] at this
    obtain ⟨F', o', f', k'⟩ := g.list hfo
    rw [List.length_map] at hc'
    exact ⟨_, rfl, q ts fo F' H' c' ⟨by omega, by omega, hn ▸ wn, ht⟩ o' f' hp' (by omega) k'⟩
end
end LW
set_option Elab.async false
set_option linter.all false
set_option maxRecDepth 100000
set_option maxHeartbeats 4000000
namespace LW
open PySem PySem.Spec PyProof.Rows L2 KV
/-! ### data without a number: no purse is in it -/
mutual
def noInt : PyData → Bool
  | .int _ => false
  | .dict _ => false
  | .list ds => noIntAll ds
  | .tuple ds => noIntAll ds
  | _ => true
def noIntAll : List PyData → Bool
  | [] => true
  | d :: ds => noInt d && noIntAll ds
end
theorem noIntAll_of : ∀ {ds : List PyData}, (∀ d ∈ ds, noInt d = true) → noIntAll ds = true
  | [], _ => by simp [noIntAll]
  | d :: ds, h => by
    simp only [noIntAll, Bool.and_eq_true]
    exact ⟨h d List.mem_cons_self, noIntAll_of fun e he => h e (List.mem_cons_of_mem _ he)⟩
theorem noIntAll_mem : ∀ {ds : List PyData}, noIntAll ds = true → ∀ d ∈ ds, noInt d = true
  | d :: ds, h, e, he => by
    simp only [noIntAll, Bool.and_eq_true] at h
    rcases List.mem_cons.mp he with z | z
    · exact z ▸ h.1
    · exact noIntAll_mem h.2 e z
theorem noInt_cols (cs : List Str) : noInt (colsD cs) = true := by
  simp only [colsD, noInt]
  refine noIntAll_of fun d h => ?_
  obtain ⟨x, _, rfl⟩ := List.mem_map.mp h
  simp [noInt]
theorem noInt_tab (t : Tab) : noInt (tabD t) = true := by simp [tabD, noInt, noIntAll, noInt_cols]
theorem noInt_tabs (ts : List Tab) : noInt (tabsD ts) = true := by
  simp only [tabsD, noInt]
  refine noIntAll_of fun d h => ?_
  obtain ⟨x, _, rfl⟩ := List.mem_map.mp h
  exact noInt_tab x
section
variable {K : PySem.W.Frag} {H H' : Hp} {p : Addr} {c : Nat}
mutual
theorem dp_but (k : Off (fun a => a = p) H H') (hp : Pu H p c) : ∀ {v : V} {d : PyData}, Dp K H v d → noInt d = true → Dp K H' v d
  | _, _, .non, _ => .non
  | _, _, .bl b, _ => .bl b
  | _, _, .int i, _ => .int i
  | _, _, .str x, _ => .str x
  | _, _, .lst (a := a) (xs := xs) h r, n => by
    simp only [noInt] at n
    refine .lst ?_ (dpAll_but k hp r n)
    rcases h with (h | ⟨o, h⟩) | h
    · refine .inl (.inl (k _ _ h fun z => ?_))
      obtain ⟨x, y, z2, e, _⟩ := hp
      rw [z, e] at h
      cases h
      cases r with
      | cons h0 _ =>
        cases h0
        simp [noIntAll, noInt] at n
    · refine .inl (.inr ⟨o, k _ _ h fun z => ?_⟩)
      obtain ⟨x, y, z2, e, _⟩ := hp
      rw [z, e] at h
      cases h
    · exact .inr h
  | _, _, .tup (a := a) (xs := xs) h r, n => by
    simp only [noInt] at n
    refine .tup ?_ (dpAll_but k hp r n)
    rcases h with (h | ⟨o, h⟩) | h
    · refine .inl (.inl (k _ _ h fun z => ?_))
      obtain ⟨x, y, z2, e, _⟩ := hp
      rw [z, e] at h
      cases h
    · refine .inl (.inr ⟨o, k _ _ h fun z => ?_⟩)
      obtain ⟨x, y, z2, e, _⟩ := hp
      rw [z, e] at h
      cases h
    · exact .inr h
theorem dpAll_but (k : Off (fun a => a = p) H H') (hp : Pu H p c) : ∀ {vs : List V} {ds : List PyData}, DpAll K H vs ds → noIntAll ds = true → DpAll K H' vs ds
  | _, _, .nil, _ => .nil
  | _, _, .cons h r, n => by
    simp only [noIntAll, Bool.and_eq_true] at n
    exact .cons (dp_but k hp h n.1) (dpAll_but k hp r n.2)
end
/-- the parts of tables -/
theorem dp_tabs {v : V} {ts : List Tab} (h : Dp K H v (tabsD ts)) : ∃ a xs, v = .ref a ∧ SqL K H a xs ∧ DpAll K H xs (ts.map tabD) := by
  cases h with
  | lst h r => exact ⟨_, _, rfl, h, r⟩
theorem dp_tab {v : V} {t : Tab} (h : Dp K H v (tabD t)) : ∃ a w, v = .ref a ∧ SqT K H a [.str t.1, w] ∧ Dp K H w (colsD t.2) := by
  cases h with
  | tup h r =>
    cases r with
    | cons h1 r1 =>
      cases r1 with
      | cons h2 r2 =>
        cases r2
        cases h1
        exact ⟨_, _, rfl, h, h2⟩
theorem dpAll_strs : ∀ {xs : List V} {cs : List Str}, DpAll K H xs (cs.map PyData.str) → xs = cs.map V.str
  | _, [], .nil => rfl
  | _, c :: cs, .cons h r => by
    cases h
    rw [dpAll_strs r]
    rfl
theorem dp_cols {v : V} {cs : List Str} (h : Dp K H v (colsD cs)) : ∃ a, v = .ref a ∧ SqL K H a (cs.map V.str) := by
  cases h with
  | lst h r => exact ⟨_, rfl, dpAll_strs r ▸ h⟩
end
/-- the same, at a known place -/
theorem dp_tabs_ref {K : PySem.W.Frag} {H : Hp} {a : Addr} {ts : List Tab} (h : Dp K H (.ref a) (tabsD ts)) : ∃ xs, SqL K H a xs ∧ DpAll K H xs (ts.map tabD) ∧ xs.length = ts.length := by
  obtain ⟨b, xs, e, h1, h2⟩ := dp_tabs h
  cases e
  exact ⟨xs, h1, h2, by rw [dpAll_length h2, List.length_map]⟩
theorem dp_cols_ref {K : PySem.W.Frag} {H : Hp} {a : Addr} {cs : List Str} (h : Dp K H (.ref a) (colsD cs)) : SqL K H a (cs.map V.str) := by
  obtain ⟨b, e, h1⟩ := dp_cols h
  cases e
  exact h1
/-- the table at a place -/
theorem tab_at {K : PySem.W.Frag} {H : Hp} {a : Addr} {ts : List Tab} {k : Int} (h : Dp K H (.ref a) (tabsD ts)) (k0 : 0 ≤ k) (k1 : k < (ts.length : Int)) :
    ∃ xs t ta ca, SqL K H a xs ∧ atI xs k = some (.ref ta) ∧ t ∈ ts ∧ ts[k.toNat]? = some t ∧ SqT K H ta [.str t.1, .ref ca] ∧ Dp K H (.ref ca) (colsD t.2) := by
  obtain ⟨xs, h1, h2, h3⟩ := dp_tabs_ref h
  have hk : k.toNat < ts.length := by omega
  have e1 : (ts.map tabD)[k.toNat]? = some (tabD (ts[k.toNat])) := by rw [List.getElem?_map, List.getElem?_eq_getElem hk]; rfl
  obtain ⟨v, e2, e3⟩ := dpAll_at' h2 e1
  obtain ⟨ta, w, rfl, e4, e5⟩ := dp_tab e3
  obtain ⟨ca, rfl, _⟩ := dp_cols e5
  have ek : ((k.toNat : Nat) : Int) = k := by omega
  exact ⟨xs, ts[k.toNat], ta, ca, h1, by rw [← ek]; exact atI_nat e2, List.getElem_mem hk, List.getElem?_eq_getElem hk, e4, e5⟩
theorem col_at {cs : List Str} {k : Int} (k0 : 0 ≤ k) (k1 : k < (cs.length : Int)) : ∃ c, atI (cs.map V.str) k = some (.str c) ∧ c ∈ cs ∧ cs[k.toNat]? = some c := by
  have hk : k.toNat < cs.length := by omega
  have ek : ((k.toNat : Nat) : Int) = k := by omega
  have e : atI (cs.map V.str) ((k.toNat : Nat) : Int) = some (.str cs[k.toNat]) := atI_nat (by rw [List.getElem?_map, List.getElem?_eq_getElem hk]; rfl)
  rw [ek] at e
  exact ⟨cs[k.toNat], e, List.getElem_mem hk, List.getElem?_eq_getElem hk⟩
/-- items of owned tuples -/
theorem owc_str {H : Hp} {x : Str} {vs : List V} {ds : List PyData} {G : Fp} (r : OwAll H vs ds G) : OwAll H (.str x :: vs) (.str x :: ds) G :=
  .cons (F := fun _ => False) (.str x fun _ z => z) r (fun _ z => z.elim) fun a => ⟨.inr, fun z => z.elim False.elim id⟩
theorem owc {H : Hp} {v : V} {d : PyData} {vs : List V} {ds : List PyData} {F : Fp} (h : Ow H v d F) (r : OwAll H vs ds fun _ => False) : OwAll H (v :: vs) (d :: ds) F :=
  .cons h r (fun _ _ z => z) fun a => ⟨.inl, fun z => z.elim id False.elim⟩
theorem ow0 {H : Hp} : OwAll H [] [] fun _ => False := .nil fun _ z => z
/-! ### _law_drawn_rules -/
/-- the table, the columns, the settled one -/
abbrev Rul := Str × List Str × Option Str
def rulD : Rul → PyData
  | (t, cs, none) => .tuple [.str "key", .str t, colsD cs]
  | (t, cs, some c) => .tuple [.str "settles", .str t, colsD cs, .str c]
def rulsD (rs : List Rul) : PyData := .list (rs.map rulD)
def RulOk (ts : List Tab) (r : Rul) : Prop := ∃ t ∈ ts, r.1 = t.1 ∧ r.2.1.Sublist t.2 ∧ ∀ c, r.2.2 = some c → c ∈ t.2
def spDrawnRules (K : PySem.W.Frag) : Sp := fun vs H Q _ => ∃ (p : Addr) (v : V) (ts : List Tab) (mt mc m c : Nat), vs = [.ref p, v, .int (m : Int)] ∧ Dp K H v (tabsD ts) ∧ TabsOk mt mc ts ∧ mt ≤ 20 ∧ mc ≤ 20 ∧ m ≤ 40 ∧ Pu H p c ∧ c + 1200 ≤ 1000000000 ∧
  ∀ (rs : List Rul) (D : Addr) (F : Fp) (H' : Hp) (c' : Nat), rs.length ≤ m → (∀ r ∈ rs, RulOk ts r) → Ow H' (.ref D) (rulsD rs) F → (∀ a, F a → H a = none) → Pu H' p c' → c' ≤ c + 1200 → Off (fun a => a = p) H H' → Q (.ref D) H'
section
variable {P : Program} {w : World} {K : PySem.W.Frag} {mg : Str → Option Value} {base : Heap}
theorem scDrawnRules : FnScope ["purse", "tables_here", "most", "found", "turn", "title", "known", "some", "column"] ["purse", "tables_here", "most"] (defScope sDrawnRules) := ⟨rfl, rfl, rfl, by decide +kernel, rfl, by decide +kernel, by decide +kernel⟩
theorem ok_drawnRules {f fC : Addr} {fd dC : FuncData} (F : FnP K "_law_drawn_rules" sDrawnRules f fd) (FC : FnP K "_law_coin" sCoin fC dC) (bC : Binds K dC ["purse", "many"] []) (mC : mg "_law_coin" = some (.ref fC))
    (mi : mg "int" = none) (mr : mg "range" = none) (ml : mg "len" = none) :
    FnOk P w K mg base CX0 2 f fd ["purse", "tables_here", "most"] (spDrawnRules K) := by
  have GC : FnOk P w K mg base CX0 1 fC dC ["purse", "many"] spCoin := ok_coin FC mi
  refine F.ok scDrawnRules (fun vs H Q E h => ?_) (fun cdv A outer s H vs Q E hr h => ?_)
  · obtain ⟨p, v, ts, mt, mc, m, c, rfl, _⟩ := h
    rfl
  obtain ⟨p, v, ts, mt, mc, m, c, rfl, hv, tok, t2, c2, m2, hp, hc, q⟩ := h
  refine ⟨_, PSs.nox (pss_cons (ps_set (i := 3) scDrawnRules.nd rfl (Or.inl rfl) (pe_lst pa_nil))
    (pss_cons (ps_for PassesOwn.never rfl (pi_range1 rfl mr (pa_cons (pe_call GC hr rfl mC FC.kp bC .nil pass0 (pa_cons (pv 0) (pa_cons (pe_op op_add (pv 2) pe_int) pa_nil))) pa_nil)) (pg_name (i := 4) scDrawnRules.nd rfl (Or.inl rfl))
      (pss_cons (ps_asg (pe_ix ix_list (pv 1) (pe_call GC hr rfl mC FC.kp bC .nil pass0 (pa_cons (pv 0) (pa_cons (pe_callB call_len_seq rfl ml boot_len (pa_cons (pv 1) pa_nil)) pa_nil))) (fun _ _ => rfl))
          (pg_tup rfl (pgs_cons (pg_name (i := 5) scDrawnRules.nd rfl (Or.inl rfl)) (pgs_cons (pg_name (i := 6) scDrawnRules.nd rfl (Or.inl rfl)) pgs_nil))))
      (pss_cons (ps_setLc (i := 7) (own := [("column", 8)]) (g := gName 8) rfl scDrawnRules.nd rfl rfl rfl (pi_list (pv 6))
          (blkOk_by (own := [("column", 8)]) (N := ["purse", "tables_here", "most", "found", "turn", "title", "known", "some", "column"]) (sc := defScope sDrawnRules) (by decide +kernel))
          (fun _ _ _ _ _ => pg_name (i := 8) scDrawnRules.nd rfl (Or.inl rfl)) (fun _ _ _ _ _ => pts_one (pt_cmpR op_eq (pe_call GC hr rfl mC FC.kp bC .nil pass0 (pa_cons (pv 0) (pa_cons pe_int pa_nil))) pe_int (nomark _)))
          (fun _ _ _ _ _ => pv 8))
      (pss_one (ps_if (pt_cmpR op_eq (pe_call GC hr rfl mC FC.kp bC .nil pass0 (pa_cons (pv 0) (pa_cons pe_int pa_nil))) pe_int (nomark _))
        (pss_one (ps_expr (pe_bm PySem.F.plainAttrs_list PySem.F.slot_list_append PySem.F.type_list_append mt_append (pv 3)
          (pa_cons (pe_tup (pa_cons pe_str (pa_cons (pv 5) (pa_cons (pv 7) pa_nil)))) pa_nil))))
        (pss_cons (ps_set (i := 8) scDrawnRules.nd rfl (Or.inl rfl) (pe_ix ix_list (pv 6) (pe_call GC hr rfl mC FC.kp bC .nil pass0 (pa_cons (pv 0) (pa_cons (pe_callB call_len_seq rfl ml boot_len (pa_cons (pv 6) pa_nil)) pa_nil))) (fun _ _ => rfl)))
        (pss_one (ps_expr (pe_bm PySem.F.plainAttrs_list PySem.F.slot_list_append PySem.F.type_list_append mt_append (pv 3)
          (pa_cons (pe_tup (pa_cons pe_str (pa_cons (pv 5) (pa_cons (pv 7) (pa_cons (pv 8) pa_nil))))) pa_nil))))))))))
    (pss_one (ps_ret (pv 3))))), ?_⟩
  obtain ⟨a, xs, rfl, _⟩ := dp_tabs hv
  refine ⟨by decide, fun fo hfo => ?_⟩
  obtain ⟨xs0, ep0⟩ := id hp.lst
  have pf : p ≠ fo := ne_of_none ep0 hfo
  have hp1 : Pu (upd H fo (.lst [])) p c := hp.at (upd_ne pf)
  have g1 : Grow (fun a => a = p) H fo [] (upd H fo (.lst [])) := Grow.start hfo
  generalize upd H fo (.lst []) = H1 at hp1 g1 ⊢
  refine ⟨_, rfl, _, rfl, _, _, rfl, rfl, p, (m : Int) + 1, c, rfl, hp1, by omega, by omega, by omega, fun n H2 n0 n1 hp2 b2 => ⟨n, rfl, by omega, by omega, ?_⟩⟩
  have g2 : Grow (fun a => a = p) H fo [] H2 := by
    obtain ⟨acc, FA, a1, a2, a3, a4, a5⟩ := g1
    cases a2 with
    | nil e => exact ⟨[], FA, b2.off _ _ a1 (Ne.symm pf), .nil e, a3, a4, a5.trans b2.off⟩
  refine for_range (lo := 0) (n := n.toNat) (fun i σ H' => ∃ (w4 w5 w6 w7 w8 : Option V) (rs : List Rul) (c' : Nat), σ = [some (.ref p), some (.ref a), some (.int m), some (.ref fo), w4, w5, w6, w7, w8] ∧ Grow (fun a => a = p) H fo (rs.map rulD) H' ∧
    rs.length ≤ i ∧ (∀ r ∈ rs, RulOk ts r) ∧ Pu H' p c' ∧ c' ≤ c + 1 + 29 * i) ⟨none, none, none, none, none, [], c + 1, rfl, g2, by simp, fun r h => absurd h (by simp), hp2, by omega⟩ (fun i σ H' hi g => ?_) fun σ H' g => ?_
  · obtain ⟨w4, w5, w6, w7, w8, rs, c', rfl, g, hl, hr', hp', hc'⟩ := g
    have hi2 : i < 41 := by omega
    have offH : Off (fun a => a = p) H H' := by
      obtain ⟨_, _, _, _, _, _, h⟩ := g
      exact h
    have hv' := dp_but offH hp hv (noInt_tabs ts)
    obtain ⟨xs', sq', _, len'⟩ := dp_tabs_ref hv'
    have tl := tok.one
    have tm := tok.most
    refine ⟨_, rfl, _, rfl, _, rfl, a, xs', rfl, .inl sq', p, (xs'.length : Int), c', rfl, hp', by omega, by omega, by omega, fun k H4 k0 k1 hp4 b4 => ?_⟩
    have hv4 := dp_but b4.off hp' hv' (noInt_tabs ts)
    obtain ⟨xs4, t, ta, ca, s1, s2, s3, _, s4, s5⟩ := tab_at hv4 k0 (by omega)
    have cm := (tok.each t s3).most
    have co := (tok.each t s3).one
    refine ⟨a, xs4, k, _, rfl, rfl, s1, s2, ta, _, rfl, s4, rfl, _, _, rfl, _, _, rfl, rfl, ?_⟩
    obtain ⟨xs4p, ep4⟩ := id hp4.lst
    refine ⟨_, rfl, ca, rfl, ⟨_, dp_cols_ref s5⟩, fun D hD => lc_list (K := K) (a := ca) (xs := t.2.map V.str)
      (fun j H5 => ∃ (cs : List Str) (c5 : Nat), H5 D = some (.lst (cs.map V.str)) ∧ cs.Sublist (t.2.take j) ∧ Pu H5 p c5 ∧ c5 ≤ c' + 1 + j ∧ Off (fun a => a = p) H4 H5)
      ⟨[], c' + 1, upd_same, List.nil_sublist _, hp4.at (upd_ne (ne_of_none ep4 hD)), by omega, Off.new hD⟩ (fun j H5 _ g5 => ?_) (fun j x H5 hx g5 => ?_) fun H5 g5 => ?_⟩
    · obtain ⟨_, _, _, _, _, _, o5⟩ := g5
      exact dp_cols_ref (dp_but o5 hp4 s5 (noInt_cols _))
    · obtain ⟨cs, c5, e5, sub, hp5, hc5, o5⟩ := g5
      rw [List.getElem?_map] at hx
      cases hy : t.2[j]? with
      | none => rw [hy] at hx; cases hx
      | some y =>
      rw [hy] at hx
      cases hx
      have hj : j < t.2.length := (List.getElem?_eq_some_iff.mp hy).1
      have pD : D ≠ p := fun z => ne_of_none ep4 hD z.symm
      refine ⟨rfl, _, rfl, p, 2, c5, rfl, hp5, by omega, by decide, by decide, fun z H6 _ _ hp6 b6 => ⟨rfl, _, rfl, ite2 (fun _ => ?_) (fun _ => ?_)⟩⟩
      · have sl := sub.length_le
        rw [List.length_take] at sl
        refine ⟨_, rfl, cs.map V.str, b6.off _ _ e5 pD, by rw [List.length_map]; exact small1000 (by omega), cs ++ [y], c5 + 1, by rw [upd_same, List.map_append]; rfl, ?_, hp6.at (upd_ne (Ne.symm pD)), by omega, fun b u eb nb => ?_⟩
        · rw [List.take_add_one, hy]
          exact sub.append (List.Sublist.refl _)
        · rw [upd_ne (fun z => by rw [z, hD] at eb; cases eb)]
          exact b6.off _ _ (o5 _ _ eb nb) nb
      · refine ⟨cs, c5 + 1, b6.off _ _ e5 pD, ?_, hp6, by omega, o5.trans b6.off⟩
        rw [List.take_add_one]
        exact sub.trans (List.sublist_append_left _ _)
    · obtain ⟨cs, c5, e5, sub, hp5, hc5, o5⟩ := g5
      rw [List.length_map] at hc5 sub
      rw [List.take_length] at sub
      have pD : D ≠ p := fun z => ne_of_none ep4 hD z.symm
      have nD : H' D = none := b4.off.none hD pD
      obtain ⟨xs1, ep1⟩ := hp'.lst
      refine ⟨_, rfl, p, 2, c5, rfl, hp5, by omega, by decide, by decide, fun z H6 _ _ hp6 b6 => ⟨rfl, _, rfl, ite2 (fun _ => ?_) (fun _ => ?_)⟩⟩
      · have o6 : Off (fun a => a = p) H' H6 := b4.off.trans (o5.trans b6.off)
        obtain ⟨acc, ga1, ga2⟩ := g.len
        have e6 := b6.off _ _ e5 pD
        refine ⟨_, rfl, .inl ⟨rfl, _, SqL.of (o6 _ _ ga1 (Ne.symm pf))⟩, _, rfl, _, rfl, (by show 3 ≤ sizeLine; decide), fun tp htp => ?_⟩
        have Dt : D ≠ tp := fun z => by rw [z, htp] at e6; cases e6
        have pt : p ≠ tp := fun z => by
          obtain ⟨xs, ep⟩ := hp6.lst
          rw [z, htp] at ep
          cases ep
        have o7 : Off (fun a => a = p) H' (upd H6 tp (.tup [.str "key", .str t.1, .ref D])) := o6.trans (Off.new htp)
        have ow : Ow (upd H6 tp (.tup [.str "key", .str t.1, .ref D])) (.ref tp) (rulD (t.1, cs, none)) (fun a => a = D) :=
          .tup upd_same (owc_str (owc_str (owc (ow_strs ((upd_ne Dt).trans e6)) ow0)))
        obtain ⟨acc2, a1, a2, a3⟩ := g.step hfo (fun a z => by rw [z, ep0]; simp) (fun a z => by rw [z]; exact ⟨_, ep1⟩) ow (fun a z => by rw [z]; exact nD) o7
        refine ⟨fo, acc2, _, rfl, rfl, a1, small1000 (by rw [a2, List.length_map]; omega), _, _, _, _, _, rs ++ [(t.1, cs, none)], c5 + 1, rfl, ?_, ?_, ?_, ?_, ?_⟩
        · rw [List.map_append]
          exact a3
        · rw [List.length_append]
          exact Nat.succ_le_succ hl
        · intro r h
          rcases List.mem_append.mp h with h | h
          · exact hr' r h
          · rw [List.mem_singleton.mp h]
            exact ⟨t, s3, rfl, sub, fun c h => by cases h⟩
        · exact (hp6.at (upd_ne pt)).at (upd_ne pf)
        · omega
      · have sq6 := dp_cols_ref (dp_but (o5.trans b6.off) hp4 s5 (noInt_cols _))
        refine ⟨_, rfl, _, rfl, _, rfl, ca, _, rfl, .inl sq6, p, ((t.2.map V.str).length : Int), c5 + 1, rfl, hp6, by omega, by rw [List.length_map]; omega, by rw [List.length_map]; omega, fun e H7 e0 e1 hp7 b7 => ?_⟩
        rw [List.length_map] at e1
        have sq7 := dp_cols_ref (dp_but (o5.trans (b6.off.trans b7.off)) hp4 s5 (noInt_cols _))
        obtain ⟨y, y1, y2, _⟩ := col_at e0 e1
        refine ⟨ca, _, e, _, rfl, rfl, sq7, y1, ?_⟩
        have o6 : Off (fun a => a = p) H' H7 := b4.off.trans (o5.trans (b6.off.trans b7.off))
        obtain ⟨acc, ga1, ga2⟩ := g.len
        have e7 := b7.off _ _ (b6.off _ _ e5 pD) pD
        refine ⟨_, rfl, .inl ⟨rfl, _, SqL.of (o6 _ _ ga1 (Ne.symm pf))⟩, _, rfl, _, rfl, _, rfl, (by show 4 ≤ sizeLine; decide), fun tp htp => ?_⟩
        have Dt : D ≠ tp := fun z => by rw [z, htp] at e7; cases e7
        have pt : p ≠ tp := fun z => by
          obtain ⟨xs, ep⟩ := hp7.lst
          rw [z, htp] at ep
          cases ep
        have o7 : Off (fun a => a = p) H' (upd H7 tp (.tup [.str "settles", .str t.1, .ref D, .str y])) := o6.trans (Off.new htp)
        have ow : Ow (upd H7 tp (.tup [.str "settles", .str t.1, .ref D, .str y])) (.ref tp) (rulD (t.1, cs, some y)) (fun a => a = D) :=
          .tup upd_same (owc_str (owc_str (owc (ow_strs ((upd_ne Dt).trans e7)) (owc_str ow0))))
        obtain ⟨acc2, a1, a2, a3⟩ := g.step hfo (fun a z => by rw [z, ep0]; simp) (fun a z => by rw [z]; exact ⟨_, ep1⟩) ow (fun a z => by rw [z]; exact nD) o7
        refine ⟨fo, acc2, _, rfl, rfl, a1, small1000 (by rw [a2, List.length_map]; omega), _, _, _, _, _, rs ++ [(t.1, cs, some y)], c5 + 2, rfl, ?_, ?_, ?_, ?_, ?_⟩
        · rw [List.map_append]
          exact a3
        · rw [List.length_append]
          exact Nat.succ_le_succ hl
        · intro r h
          rcases List.mem_append.mp h with h | h
          · exact hr' r h
          · rw [List.mem_singleton.mp h]
            exact ⟨t, s3, rfl, sub, fun c h => by cases h; exact y2⟩
        · exact (hp7.at (upd_ne pt)).at (upd_ne pf)
        · omega
  · obtain ⟨w4, w5, w6, w7, w8, rs, c', rfl, g, hl, hr', hp', hc'⟩ := g
    obtain ⟨F', o', f', k'⟩ := g.list hfo
    exact ⟨_, rfl, q rs fo F' H' c' (by omega) hr' o' f' hp' (by omega) k'⟩
end
end LW
set_option Elab.async false
set_option linter.all false
set_option maxRecDepth 100000
set_option maxHeartbeats 4000000
/-! A caught error that is kept behind its clause. -/
namespace KV
open PySem PySem.Spec PyProof.Rows L2
/-- at a: a caught error of this class, its dict at d -/
def exk (a : Addr) (cls : Value) (d : Option Addr) : HO := .ext fun h => ∃ oe vs, h.get? a = some oe ∧ oe.cls = cls ∧ oe.dict = d ∧ oe.data = .fields vs
theorem exk_ok {P : Program} {w : World} {H : Hp} {h : Heap} {a : Addr} {cls : Value} {d : Option Addr} {oe : Obj} {vs : Array Value} (he : h.get? a = some oe) (hz : Zc cls d oe) (hd : oe.data = .fields vs) :
    ObjOk P w H h a (exk a cls d) :=
  ⟨⟨oe, vs, he, hz.1, hz.2, hd⟩, ⟨oe, he⟩, fun h1 h2 z k => by
    obtain ⟨o1, v1, e1, e2, e3, e4⟩ := z
    exact ⟨o1, v1, k _ e1, e2, e3, e4⟩⟩
theorem keepX {X : Cx} {pins : List (Addr × Obj)} {σ : L2.St} {H : Hp} {s : Shared} {a : Addr} {oe : Obj} {vs : Array Value} {cls : Value} {d : Option Addr} (I : L2.Inv X pins σ H s) (he : s.heap.get? a = some oe) (hz : Zc cls d oe)
    (hd : oe.data = .fields vs) (na : H a = none) (nL : a ≠ X.env.locals) (n0 : X.s_0.heap.get? a = none) (np : ∀ p ∈ X.pn ++ pins, p.1 ≠ a) : L2.Inv X pins σ (upd H a (exk a cls d)) s where
  ok := I.ok
  os := I.os
  bare := I.bare
  base := {
    keep := I.base.keep
    slot := I.base.slot
    free := fun b o h1 h2 h3 => by
      rw [upd_ne fun z => by rw [z, n0] at h1; cases h1]
      exact I.base.free b o h1 h2 h3
    there := I.base.there
    tups := fun b xs h => by
      have q := I.base.tups b xs h
      rw [upd_ne fun z => by rw [z, na] at q; cases q]
      exact q
    frzs := fun b o u h => by
      have q := I.base.frzs b o u h
      rw [upd_ne fun z => by rw [z, na] at q; cases q]
      exact q
    tbls := fun b ps h => by
      obtain ⟨m, q⟩ := I.base.tbls b ps h
      refine ⟨m, ?_⟩
      rw [upd_ne fun z => by rw [z, na] at q; cases q]
      exact q }
  loc := I.loc
  cell := I.cell
  free := by
    rw [upd_ne (Ne.symm nL)]
    exact I.free
  freeC := fun x c h => by
    obtain ⟨v, q⟩ := I.cell x c h
    rw [upd_ne fun z => by
      rw [z] at q
      obtain ⟨o, q1, q2⟩ := q
      rw [he] at q1
      cases q1
      rw [hd] at q2
      cases q2]
    exact I.freeC x c h
  pin := fun p hp => by
    obtain ⟨h1, h2, h3⟩ := I.pin p hp
    refine ⟨h1, ?_, h3⟩
    rw [upd_ne (np p hp)]
    exact h2
  hok := fun b o h => by
    by_cases e : b = a
    · subst e
      rw [upd_same] at h
      cases h
      exact exk_ok he hz hd
    · rw [upd_ne e] at h
      refine (I.hok b o h).stay (fun c u _ q => q) (fun c q => ?_) fun c xs q => ?_
      · rw [upd_ne fun z => by rw [z, na] at q; cases q]
        exact q
      · rw [upd_ne fun z => by rw [z, na] at q; cases q]
        exact q
  len := I.len
/-- what follows, with the error kept -/
def kEnds (i : Nat) (a : Addr) (cls : Value) (d : Option Addr) (D : Ends) : Ends where
  nx := fun σ' H' => H' a = none ∧ D.nx (σ'.set i none) (upd H' a (exk a cls d))
  rt := fun v H' => H' a = none ∧ D.rt v (upd H' a (exk a cls d))
  bk := fun σ' H' => H' a = none ∧ D.bk (σ'.set i none) (upd H' a (exk a cls d))
  ct := fun σ' H' => H' a = none ∧ D.ct (σ'.set i none) (upd H' a (exk a cls d))
/-- the wish of a try whose clause keeps the error -/
def wKeep (K : PySem.W.Frag) (c : Value) (i : Nat) (ts : Addr → Value → Option Addr → TS) (Wout : WX) (D : Ends) : WX := fun cls d σ H => ∃ b, PySem.W.exmOne K cls c = some b ∧
  (b = true → ∀ a, H a = none → ts a cls d (kEnds i a cls d D) (σ.set i (some (.ref a))) H) ∧ (b = false → Wout cls d σ H)
theorem ps_try_keep {X : Cx} {x n : Str} {c : Value} {i : Nat} {body suite : List Stmt} {b₀ : Stmt} {np pos pos' : Pos} {tb : WX → TS} {ts : Addr → Value → Option Addr → TS} {Wout : WX}
    (hs : X.stack = X.env :: X.outer) (hf : X.env.frame = some X.env.locals) (hN : X.N.Nodup) (hi : X.N[i]? = some n) (hln : X.env.kindOf n = some NameKind.local) (hx : X.ex = []) (hc : Names X x c) (tk : Takes X Wout)
    (hb : ∀ (W : WX) (pn : List (Addr × Obj)) (xe : Value → Shared → Prop), Takes (X.tr pn xe) W → PassesOwn (model X.prog X.w) X.A X.env xe → PSs (X.tr pn xe) body (tb W))
    (hsu : ∀ (a : Addr) (oe : Obj) (cls : Value) (d : Option Addr) (pn : List (Addr × Obj)), Zc cls d oe → (∃ vs, oe.data = Data.fields vs) → PSs (X.suite a ((a, oe) :: pn)) (b₀ :: suite) (ts a cls d)) :
    PS X (Stmt.Try body [ExceptHandler.ExceptHandler (some (Expr.Name x np)) (some n) (b₀ :: suite) pos'] [] [] pos) fun D σ H => tb (wKeep X.K c i ts Wout D) D σ H := by
  constructor
  intro pins s σ H D I h
  have ok := I.ok
  have hfr : X.A.frames = some (X.env :: X.outer) := by rw [ok.frames, hs]
  have hloc : L2.Loc X.env.scope n := Or.inl hln
  let xe' : Value → Shared → Prop := fun e s₁ => wpAny (model X.prog X.w) X.A (noteFrame e X.env) (fun _ s₂ => wpAny (model X.prog X.w) X.A (setFlight e none)
    (fun _ s₃ => wpAny (model X.prog X.w) X.A (handleBy e X.env [ExceptHandler.ExceptHandler (some (Expr.Name x np)) (some n) (b₀ :: suite) pos']) (SP X pins D) X.xe s₃) X.xe s₂) X.xe s₁
  have tk' : Takes (X.tr (X.pn ++ pins) xe') (wKeep X.K c i ts Wout D) := ?_
  refine wpAny_Try_except (wpAny_mono ((hb (wKeep X.K c i ts Wout D) (X.pn ++ pins) xe' tk' PassesOwn.looking).run [] s σ H D (Inv.toTry I xe') h) ?_ (fun _ _ z => z))
  rotate_left
  · intro u s' xx
    obtain ⟨a, B, sI, pins', σ', H', cls, d, rfl, J', nb, up, sky, na, os, ag, b, hb1, hyes, hno⟩ := xx
    have J := Inv.ofTry J' ok
    have sky' : Sky B (X.env :: X.outer) a (Zc cls d) X.env.locals s'.heap := by rw [← hs]; exact sky
    refine Sky.land Zc.steady hfr hf sky' fun h3 fl3 up3 => ?_
    have J3 := Inv.landed (X := X) (s' := ⟨h3, s'.gens, s'.drawn, s'.toks, s'.os⟩) J nb fl3.1 (up.trans up3) os ag
    obtain ⟨oe3, vs3, he3, hz3, hd3⟩ := HandSPX.FlyingZ.there fl3
    have nfr : a ∉ List.filterMap (fun e : Env => e.frame) (X.env :: X.outer) := fun hm => by
      obtain ⟨_, o', e', hnf⟩ := fl3.2.2.1.mem hm
      rw [he3] at e'
      cases e'
      exact hnf _ hd3
    have nL : a ≠ X.env.locals := fun z => nfr (List.mem_filterMap.mpr ⟨X.env, List.mem_cons_self, by rw [hf, z]⟩)
    have nF : a ∉ X.fs := fun hm => by
      obtain ⟨e, he, q⟩ := List.mem_filterMap.mp hm
      exact nfr (List.mem_filterMap.mpr ⟨e, List.mem_cons_of_mem _ he, q⟩)
    have nB : B.get? a = none := fl3.2.1
    have nfs : a ∉ frs X.stack := by
      rw [hs]
      exact nfr
    have nI : ∀ o, sI.heap.get? a ≠ some o := fun o z => by
      have q := nb a o z nfs
      rw [nB] at q
      cases q
    have n0 : X.s_0.heap.get? a = none := by
      cases q : X.s_0.heap.get? a with
      | none => rfl
      | some o =>
        obtain ⟨o', q'⟩ := J.base.there a o q (by rw [hx]; simp)
        exact absurd q' (nI o')
    have npn : ∀ p ∈ X.pn ++ pins, p.1 ≠ a := fun p hp z => by
      have q := (J.pin p hp).1
      rw [z] at q
      exact nI _ q
    have S3 := Inv.suite J3 he3 hd3 na nL nF
    refine wpAny_handleBy_cons (codeAny_handlers_test ?_) (fun q => by cases q)
    have LT : PySem.W.Looks (model X.prog X.w) h3 (typeOf (.ref a)) cls := fun A Q E s k q => wpAny_typeOf_ref (k a oe3 he3) (by rw [hz3.1]; exact q)
    have LM := PySem.W.exm_one (J3.kIn) LT hb1
    have test : ∀ {Q : Value → Shared → Prop} {E : Value → Shared → Prop}, Q c ⟨h3, s'.gens, s'.drawn, s'.toks, s'.os⟩ →
        wpAny (model X.prog X.w) (X.suite a ((a, oe3) :: (X.pn ++ pins))).A (eval (.Name x np) X.env) Q E ⟨h3, s'.gens, s'.drawn, s'.toks, s'.os⟩ := by
      intro Q E q
      obtain ⟨hg, hdbg, hm | ⟨hm, hv, hnn⟩⟩ := hc
      · exact ld_glob S3 hg hm q hdbg
      · exact ld_blt S3 hg hm hv q hnn hdbg
    refine test (PySem.W.Looks.here LM ?_)
    cases b with
    | false =>
      show wpAny _ _ (handleBy _ _ []) _ _ _
      refine wpAny_handleBy_nil ?_
      obtain ⟨k1, k2, k3, oe, vs, T, oT, ts', he, hz, hd, h1, hr⟩ := id fl3
      refine wpAny_bind (wpAny_field he hd h1 ?_)
      have nn : ¬ ((Value.ref T == Value.none) = true) := fun z => by cases (beq_iff_eq.mp z)
      rw [if_neg nn]
      refine wpAny_bind ?_
      rw [hf]
      refine HandSPX.setFlight_upZ fl3 fun h4 hh4 up4 => ?_
      refine wpAny_throw (tk (.ref a) _ ⟨a, B, sI, pins, σ', H', cls, d, rfl, J, nb, (up.trans up3).trans up4, ?_, na, os, ag, hno rfl⟩)
      rw [hs]
      exact Or.inr (Or.inr hh4)
    | true =>
      show codeAny _ _ _ _ _
      refine codeAny_handlers_suite_as (HandSPX.lands_againZ fl3 fun h4 fl4 up4 => ?_)
      have J4 := Inv.landed (X := X) (s' := ⟨h4, s'.gens, s'.drawn, s'.toks, s'.os⟩) J nb fl4.1 ((up.trans up3).trans up4) os ag
      obtain ⟨oe4, vs4, he4, hz4, hd4⟩ := HandSPX.FlyingZ.there fl4
      have S4 := Inv.suite J4 he4 hd4 na nL nF
      refine store_ok (X := X.suite a ((a, oe4) :: (X.pn ++ pins))) (v := V.ref a) S4 hN hi hloc rfl (fun s5 S5 => ?_) (Or.inr hln)
      refine wpAny_mono ((hsu a oe4 cls d (X.pn ++ pins) hz4 ⟨vs4, hd4⟩).run [] s5 (List.set σ' i (some (V.ref a))) H' (kEnds i a cls d D) S5 (hyes rfl a na)) (fun f s6 hsp => ?_) (fun _ _ z => False.elim z)
      have end_ : ∀ {σ6 : L2.St} {H6 : Hp} {Q : Unit → Shared → Prop}, L2.Inv (X.suite a ((a, oe4) :: (X.pn ++ pins))) [] σ6 H6 s6 → H6 a = none → (∀ s7, L2.Inv X pins (List.set σ6 i none) (upd H6 a (exk a cls d)) s7 → Q () s7) →
          wpAny (model X.prog X.w) X.A (do
            bindName X.env n Value.none
            unbindBehindTheSuite X.env n pos') Q X.xe s6 := by
        intro σ6 H6 Q S6 n6 hq
        have he6 : s6.heap.get? a = some oe4 := (S6.pin (a, oe4) (by simp)).1
        exact gone_ok (keepX (Inv.unsuite S6 ok) he6 hz4 hd4 n6 nL n0 npn) hN hi hln hq
      cases f with
      | next =>
        obtain ⟨σ6, H6, S6, n6, q6⟩ := hsp
        exact end_ S6 n6 fun s7 J7 => ⟨_, _, J7, q6⟩
      | brk =>
        obtain ⟨σ6, H6, S6, n6, q6⟩ := hsp
        exact end_ S6 n6 fun s7 J7 => ⟨_, _, J7, q6⟩
      | cont =>
        obtain ⟨σ6, H6, S6, n6, q6⟩ := hsp
        exact end_ S6 n6 fun s7 J7 => ⟨_, _, J7, q6⟩
      | ret u =>
        obtain ⟨v6, σ6, H6, S6, r6, n6, q6⟩ := hsp
        exact end_ S6 n6 fun s7 J7 => ⟨v6, _, _, J7, r6, q6⟩
  · intro f s1 hsp
    cases f with
    | next =>
      obtain ⟨σ', H', J', q⟩ := hsp
      exact wpAny_execs_nil ⟨σ', H', Inv.ofTry J' ok, q⟩
    | brk =>
      obtain ⟨σ', H', J', q⟩ := hsp
      exact ⟨σ', H', Inv.ofTry J' ok, q⟩
    | cont =>
      obtain ⟨σ', H', J', q⟩ := hsp
      exact ⟨σ', H', Inv.ofTry J' ok, q⟩
    | ret u =>
      obtain ⟨v, σ', H', J', r, q⟩ := hsp
      exact ⟨v, σ', H', Inv.ofTry J' ok, r, q⟩
end KV
set_option Elab.async false
set_option linter.all false
set_option maxRecDepth 100000
set_option maxHeartbeats 4000000
/-! What a kept error tells: its class, its field. -/
namespace KV
open PySem PySem.Spec PyProof.Rows L2
/-- at a: a kept error of class C with these fields -/
def Cau (H : Hp) (a C dx : Addr) (fs : List (Str × V)) : Prop := H a = some (exk a (.ref C) (some dx)) ∧ H dx = some (.xd fs)
theorem cau_at {P : Program} {w : World} {H : Hp} {h : Heap} {a C dx : Addr} {fs : List (Str × V)} (hok : HOk P w H h) (e : Cau H a C dx fs) :
    ∃ oe mA od, PySem.W.InstAt h a oe C (some od) ∧ oe.dict = some dx ∧ h.Ns1 dx mA ∧ h.get? dx = some od ∧ (∀ f, PySem.W.lookIn f od = some (mA f)) ∧ ∀ f : Str, RelO (List.lookup f fs) (mA f) := by
  have h1 := hok _ _ e.1
  have h2 := hok _ _ e.2
  unfold ObjOk at h2
  obtain ⟨⟨oe, vs, he, hc, hd, hf⟩, _⟩ := h1
  obtain ⟨mA, hns, hr⟩ := h2
  obtain ⟨od, hod, hl⟩ := lookIn_ns hns
  obtain ⟨c, d, dat, sl⟩ := oe
  dsimp only at hc hd hf
  subst hc hd hf
  exact ⟨_, mA, od, ⟨he, rfl, rfl, hod⟩, rfl, hns, hod, hl, hr⟩
section
variable {X : Cx} {f : Str} {pos : Pos} {e : Expr} {te : TE}
/-- the field of a kept error -/
def tGetK (K : PySem.W.Frag) (f : Str) (te : TE) : TE := fun σ H Q => te σ H fun x H1 => ∃ (a C dx : Addr) (fs : List (Str × V)) (v : V), x = .ref a ∧ XfC K C ∧ PySem.W.findIn K (.ref C) f = some none ∧
  Cau H1 a C dx fs ∧ fs.lookup f = some v ∧ Q v H1
theorem pe_getK (he : PE X e te) (hb : attributeBase e f X.env (eval e X.env) = eval e X.env := by rfl) : PE X (.Attribute e f pos) (tGetK X.K f te) := by
  constructor
  intro pins s σ H Q I h
  refine attr_of hb (thn (he.run pins s σ H _ I h) ?_)
  rintro u s1 ⟨x, H1, I1, rx, a, C, dx, fs, v, rfl, T, hno, ea, l, q⟩
  cases rx
  obtain ⟨oe, mA, od, J, hdx, hns, hod, hl, hr⟩ := cau_at I1.hok ea
  obtain ⟨u, hu, ru⟩ := RelO.some_of (v := v) (o := mA f) (by rw [← l]; exact hr f)
  exact HandSPX.exc_get I1.kIn J T.ga T.gg T.exC (PySem.W.findObj_own T.hdC hno rfl (by rw [hl, hu])) (handed_of ru) ⟨v, H1, I1.tok _, ru, q⟩
/-- isinstance(x, C), x a kept error -/
def rIsK (K : PySem.W.Frag) : List V → Hp → VK → Prop := fun xs H Q => ∃ (a D dx : Addr) (fs : List (Str × V)) (c : V) (u : Value) (b : Bool), xs = [.ref a, c] ∧ ClsV c u ∧ PySem.W.ErrC K D ∧
  Cau H a D dx fs ∧ PySem.W.kitOne K (.ref D) u = some b ∧ Q (.bl b) H
theorem call_isK : CallR X (.builtin "isinstance") (rIsK X.K) := by
  intro pins s σ H xs us Q I r h
  obtain ⟨a, D, dx, fs, c, u, b, rfl, k, cls, ea, e, q⟩ := h
  obtain ⟨u1, u2, rfl, r1, r2⟩ := vals2 r
  have e2 := k.eq r2
  subst e2
  cases r1
  obtain ⟨oe, mA, od, J, _⟩ := cau_at I.hok ea
  exact PySem.W.kia_one (PySem.W.err_kit cls) I.kIn J e (fun z => nomatch z) fun tk => ⟨.bl b, H, I.tok tk, rfl, q⟩
end
end KV
set_option Elab.async false
set_option linter.all false
set_option maxRecDepth 100000
set_option maxHeartbeats 4000000
namespace LW
open PySem PySem.Spec PyProof.Rows L2 KV
/-- a comprehension over zip of two lists of one length -/
theorem lc_zip {K : PySem.W.Frag} {a b : Addr} {xs ys : List V} {g : TG} {tt : TT} {te : TE} {vs : List Nat} {σ : L2.St} {H1 : Hp} {D : Addr} {Qd : Hp → Prop} (Pv : Nat → Hp → Prop) (hxy : xs.length = ys.length)
    (h0 : Pv 0 (upd H1 D (.lst []))) (hl : ∀ i H, i ≤ xs.length → Pv i H → SqL K H a xs ∧ SqL K H b ys)
    (hs : ∀ i x y H T, xs[i]? = some x → ys[i]? = some y → Pv i H → H T = none → g (.ref T) (wipe σ vs) (upd H T (.tup [x, y])) fun σ2 H2 => wipe σ2 vs = wipe σ vs ∧ tt σ2 H2 fun c H3 =>
      if c = true then te σ2 H3 fun y H4 => ∃ acc, H4 D = some (.lst acc) ∧ acc.length < sizeLine ∧ Pv (i + 1) (upd H4 D (.lst (acc ++ [y]))) else Pv (i + 1) H3)
    (hd : ∀ H, Pv xs.length H → Qd H) :
    ∃ W : Nat → Nat → Hp → Prop, (∃ m, W 0 m (upd H1 D (.lst []))) ∧ ∀ i m H, W i m H →
      ((Itz K a b).stop i H ∧ Qd H) ∨ ((Itz K a b).go i H ∧ ∃ Nx : Hp → Prop, (∀ H', Nx H' → ∃ m', m' < m ∧ W (i + 1) m' H') ∧ ∀ x H', (Itz K a b).yld i H x H' → g x (wipe σ vs) H' fun σ2 H2 => wipe σ2 vs = wipe σ vs ∧ tt σ2 H2 fun c H3 =>
        if c = true then te σ2 H3 fun y H4 => ∃ acc, H4 D = some (.lst acc) ∧ acc.length < sizeLine ∧ Nx (upd H4 D (.lst (acc ++ [y]))) else Nx H3) := by
  refine ⟨fun i m H => m = xs.length - i ∧ i ≤ xs.length ∧ Pv i H, ⟨_, rfl, Nat.zero_le _, h0⟩, ?_⟩
  rintro i m H ⟨rfl, hi, pv⟩
  obtain ⟨q1, q2⟩ := hl i H hi pv
  rcases Nat.lt_or_ge i xs.length with lt | ge
  · have ly : i < ys.length := by omega
    refine .inr ⟨⟨xs, ys, xs[i], ys[i], q1, q2, by simp [lt], by simp [ly]⟩, Pv (i + 1), fun H' z => ⟨xs.length - (i + 1), by omega, rfl, lt, z⟩, ?_⟩
    rintro v H' ⟨T, x, y, rfl, hT, rfl, e1, e2⟩
    exact hs i x y H T (e1 xs q1) (e2 ys q2) pv hT
  · have e : i = xs.length := by omega
    rw [e] at pv
    exact .inl ⟨⟨xs, ys, q1, q2, .inl ge⟩, hd H pv⟩
theorem cau_off {H H' : Hp} {a C dx : Addr} {fs : List (Str × V)} (h : Cau H a C dx fs) (k : Off (fun _ => False) H H') : Cau H' a C dx fs := ⟨k _ _ h.1 id, k _ _ h.2 id⟩
def names : List Str := ["KeyTellError", "DoubleName", "InvalidName", "InvalidQuestion", "InvalidRule", "UnknownColumn", "UnknownTable", "Unreadable"]
section
variable {P : Program} {w : World} {K : PySem.W.Frag} {mg : Str → Option Value} {base : Heap}
/-! ### KeyTellError.__init__ -/
theorem scInit : FnScope ["self", "value"] ["self", "value"] (defScope pKeyTellError_init) := ⟨rfl, rfl, rfl, by decide +kernel, rfl, by decide +kernel, by decide +kernel⟩
theorem ok_init {f : Addr} {fd : FuncData} (F : FunD K "__init__" "KeyTellError.__init__" (defArgs pKeyTellError_init) (defBody pKeyTellError_init) (defScope pKeyTellError_init) [] [] f fd) :
    FnOk P w K mg base CX0 1 f fd ["self", "value"] (spInit K "value") := by
  refine F.ok scInit (fun vs H Q E h => ?_) (fun cdv A outer s H vs Q E hr h => ?_)
  · obtain ⟨a, C, v, rfl, _⟩ := h
    rfl
  obtain ⟨a, C, v, rfl, T, no, e, q⟩ := h
  refine ⟨_, pss_one (ps_ost (pv 0) (pv 1)), ?_⟩
  exact ⟨_, rfl, _, rfl, a, C, rfl, T, no, .inl ⟨e, fun dx h1 h2 => q dx h1 h2⟩⟩
/-- what both lean on -/
structure ErrT (P : Program) (w : World) (K : PySem.W.Frag) (mg : Str → Option Value) (base : Heap) (fdI : FuncData) : Prop where
  es : Errs K "value" "KeyTellError" names
  g : ∀ x ∈ names, mg x = some (.ref (He.ga K x))
  ini : FnOk P w K mg base CX0 1 (He.ma K (He.ga K "KeyTellError") "__init__") fdI ["self", "value"] (spInit K "value")
  b : Binds K fdI ["self", "value"] []
  bk : ∀ (s : Shared) (a u : Value), BindsTo s fdI ⟨[a], [("value", u)]⟩ [("self", a), ("value", u)]
/-! ### _law_kinds -/
def kinds (x : Str) : List Str := names.tail.filter fun y => decide (x = y)
def spKinds (K : PySem.W.Frag) : Sp := fun vs H Q _ => ∃ (a dx : Addr) (x : Str) (fs : List (Str × V)), vs = [.ref a] ∧ x ∈ names ∧ Cau H a (He.ga K x) dx fs ∧
  ∀ D H', H D = none → H' D = some (.lst ((kinds x).map V.str)) → Off (fun _ => False) H H' → Q (.ref D) H'
end
end LW
set_option Elab.async false
set_option linter.all false
set_option maxRecDepth 100000
set_option maxHeartbeats 4000000
namespace LW
open PySem PySem.Spec PyProof.Rows L2 KV
/-! ### _law_error_right -/
def spErrR (K : PySem.W.Frag) : Sp := fun vs H Q _ => (vs = [.non, .non] ∧ ∀ H', Off (fun _ => False) H H' → Q (.bl true) H') ∨
  ∃ (a dx t : Addr) (x : Str) (u v : V) (d : PyData) (F : Fp) (b : Nat) (ms : List Nat), vs = [.ref a, .ref t] ∧ x ∈ names.tail ∧ Cau H a (He.ga K x) dx [("value", v)] ∧ SqT K H t [.str x, u] ∧ Ow H v d F ∧ Dp K H u d ∧ Sz b ms d ∧
    ∀ H', Off F H H' → Q (.bl true) H'
theorem kinds_one {x : Str} (h : x ∈ names.tail) : kinds x = [x] := by
  have all : ∀ y ∈ names.tail, kinds y = [y] := by decide
  exact all x h
section
variable {P : Program} {w : World} {K : PySem.W.Frag} {mg : Str → Option Value} {base : Heap}
end
end LW
set_option Elab.async false
set_option linter.all false
set_option maxRecDepth 100000
set_option maxHeartbeats 4000000
namespace LW
open PySem PySem.Spec PyProof.Rows L2 KV
/-- a comprehension over the signs of a text -/
theorem lc_str {x : Str} {g : TG} {tt : TT} {te : TE} {vs : List Nat} {σ : L2.St} {H1 : Hp} {D : Addr} {Qd : Hp → Prop} (Pv : Nat → Hp → Prop) (h0 : Pv 0 (upd H1 D (.lst [])))
    (hs : ∀ i c H, x.cps.toList[i]? = some c → Pv i H → g (.str ⟨#[c]⟩) (wipe σ vs) H fun σ2 H2 => wipe σ2 vs = wipe σ vs ∧ tt σ2 H2 fun b H3 =>
      if b = true then te σ2 H3 fun y H4 => ∃ acc, H4 D = some (.lst acc) ∧ acc.length < sizeLine ∧ Pv (i + 1) (upd H4 D (.lst (acc ++ [y]))) else Pv (i + 1) H3)
    (hd : ∀ H, Pv x.cps.toList.length H → Qd H) :
    ∃ W : Nat → Nat → Hp → Prop, (∃ m, W 0 m (upd H1 D (.lst []))) ∧ ∀ i m H, W i m H →
      ((Its x).stop i H ∧ Qd H) ∨ ((Its x).go i H ∧ ∃ Nx : Hp → Prop, (∀ H', Nx H' → ∃ m', m' < m ∧ W (i + 1) m' H') ∧ ∀ y H', (Its x).yld i H y H' → g y (wipe σ vs) H' fun σ2 H2 => wipe σ2 vs = wipe σ vs ∧ tt σ2 H2 fun c H3 =>
        if c = true then te σ2 H3 fun y H4 => ∃ acc, H4 D = some (.lst acc) ∧ acc.length < sizeLine ∧ Nx (upd H4 D (.lst (acc ++ [y]))) else Nx H3) := by
  refine ⟨fun i m H => m = x.cps.toList.length - i ∧ i ≤ x.cps.toList.length ∧ Pv i H, ⟨_, rfl, Nat.zero_le _, h0⟩, ?_⟩
  rintro i m H ⟨rfl, hi, pv⟩
  have sz : x.cps.toList.length = x.cps.size := by simp
  rcases Nat.lt_or_ge i x.cps.toList.length with lt | ge
  · refine .inr ⟨by show i < x.cps.size; omega, Pv (i + 1), fun H' z => ⟨x.cps.toList.length - (i + 1), by omega, rfl, lt, z⟩, ?_⟩
    rintro v H' ⟨rfl, c, hc, rfl⟩
    exact hs i c _ (by rw [← hc]; simp) pv
  · have e : i = x.cps.toList.length := by omega
    rw [e] at pv
    exact .inl ⟨by show x.cps.size ≤ i; omega, hd H pv⟩
/-! ### _law_is_title -/
def Asc (x : Str) : Prop := ∀ c ∈ x.cps.toList, c < 128
def small (c : Nat) : Bool := decide (97 ≤ c ∧ c ≤ 122)
def isT (x : Str) : Bool := decide (0 < x.length) && (decide (x.length < 9) && x.cps.toList.all small)
theorem isT_title {x : Str} : isT x = true ↔ Title x := by
  unfold isT Title
  simp only [Bool.and_eq_true, decide_eq_true_eq, List.all_eq_true, small]
  constructor
  · rintro ⟨h1, h2, h3⟩
    exact ⟨h1, by omega, h3⟩
  · rintro ⟨h1, h2, h3⟩
    exact ⟨h1, by omega, h3⟩
theorem Title.asc {x : Str} (h : Title x) : Asc x := fun c hc => by have := h.2.2 c hc; omega
theorem abc_mem (c : Nat) : decide (c ∈ ("abcdefghijklmnopqrstuvwxyz" : Str).cps.toList) = small c := by
  have e : ("abcdefghijklmnopqrstuvwxyz" : Str).cps.toList = (List.range 26).map (97 + ·) := by decide +kernel
  rw [e]
  unfold small
  rw [decide_eq_decide]
  simp only [List.mem_map, List.mem_range]
  constructor
  · rintro ⟨a, h, rfl⟩
    omega
  · rintro ⟨h1, h2⟩
    exact ⟨c - 97, by omega, by omega⟩
theorem strOk_asc {x : Str} (h : Asc x) : PyData.strOk x = true := by
  unfold PyData.strOk
  rw [Array.all_eq_true']
  intro c hc
  exact decide_eq_true (Nat.lt_trans (h c (by simpa using hc)) (by decide))
theorem lay_strs : ∀ {xs : List Str}, (∀ x ∈ xs, Asc x) → PyData.canLayAll0 (xs.map PyData.str) = true
  | [], _ => by simp [PyData.canLayAll0]
  | x :: xs, h => by
    simp only [List.map_cons, PyData.canLayAll0, PyData.canLay0, Bool.and_eq_true]
    exact ⟨strOk_asc (h x List.mem_cons_self), lay_strs fun y hy => h y (List.mem_cons_of_mem _ hy)⟩
theorem depth_strs : ∀ xs : List Str, PyData.depthAll (xs.map PyData.str) ≤ 0
  | [] => by simp [PyData.depthAll]
  | x :: xs => by
    have ih := depth_strs xs
    simp only [List.map_cons, PyData.depthAll, PyData.depth]
    omega
theorem shaped_strs {xs : List Str} (h : ∀ x ∈ xs, Asc x) : SeqAt.shaped (.list (xs.map PyData.str)) = true := by
  unfold SeqAt.shaped
  rw [Bool.and_eq_true]
  refine ⟨by simp only [PyData.canLay0]; exact lay_strs h, decide_eq_true ?_⟩
  have := depth_strs xs
  simp only [PyData.depth]
  omega
theorem eqv_nil (ds : List PyData) : PyData.eqv (.list ds) (.list []) = ds.isEmpty := by
  cases ds <;> simp [PyData.eqv, PyData.eqvAll]
theorem dp_strs {K : PySem.W.Frag} {H : Hp} : ∀ xs : List Str, DpAll K H (xs.map V.str) (xs.map PyData.str)
  | [] => .nil
  | x :: xs => .cons (.str x) (dp_strs xs)
theorem filt_small (l : List Nat) : (l.filter fun c => !small c).isEmpty = l.all small := by
  induction l with
  | nil => rfl
  | cons c l ih =>
    cases h : small c <;> simp [h, ih]
def spIsT : Sp := fun vs H Q _ => ∃ x : Str, vs = [.str x] ∧ Asc x ∧ x.length ≤ 1000 ∧ ∀ H', Off (fun _ => False) H H' → Q (.bl (isT x)) H'
section
variable {P : Program} {w : World} {K : PySem.W.Frag} {mg : Str → Option Value} {base : Heap}
end
end LW
set_option Elab.async false
set_option linter.all false
set_option maxRecDepth 100000
set_option maxHeartbeats 4000000
namespace LW
open PySem PySem.Spec PyProof.Rows L2 KV
/-! ### _law_bad_title -/
/-- plain signs, at most n of them -/
def Gd (n : Nat) (x : Str) : Prop := Asc x ∧ x.length ≤ n
theorem Gd.mono {n m : Nat} {x : Str} (h : Gd n x) (e : n ≤ m) : Gd m x := ⟨h.1, Nat.le_trans h.2 e⟩
theorem Gd.add {n m : Nat} {x y : Str} (h : Gd n x) (k : Gd m y) : Gd (n + m) (x ++ y) := by
  refine ⟨fun c hc => ?_, ?_⟩
  · have hc : c ∈ (x.cps ++ y.cps).toList := hc
    rw [Array.toList_append] at hc
    rcases List.mem_append.mp hc with z | z
    · exact h.1 c z
    · exact k.1 c z
  · have e : (x ++ y).length = x.length + y.length := by
      show (x.cps ++ y.cps).size = _
      rw [Array.size_append]
      rfl
    rw [e]
    exact Nat.add_le_add h.2 k.2
theorem Gd.cut {n : Nat} {x : Str} (h : Gd n x) (lo hi : Option Int) : Gd n (cutS x lo hi) := by
  unfold cutS
  refine ⟨fun c hc => h.1 c ?_, ?_⟩
  · have hc : c ∈ (List.take (HT.sIx x.length x.length hi - HT.sIx x.length 0 lo) (List.drop (HT.sIx x.length 0 lo) x.cps.toList)).toArray.toList := hc
    exact List.mem_of_mem_drop (List.mem_of_mem_take (by simpa using hc))
  · have l : x.cps.toList.length = x.length := by simp [Str.length]
    show (List.take (HT.sIx x.length x.length hi - HT.sIx x.length 0 lo) (List.drop (HT.sIx x.length 0 lo) x.cps.toList)).toArray.size ≤ n
    rw [List.size_toArray, List.length_take, List.length_drop, l]
    have := h.2
    omega
def gdB (n : Nat) (x : Str) : Bool := x.cps.toList.all (fun c => decide (c < 128)) && decide (x.length ≤ n)
theorem gdB_ok {n : Nat} {x : Str} (h : gdB n x = true) : Gd n x := by
  unfold gdB at h
  rw [Bool.and_eq_true] at h
  exact ⟨fun c hc => of_decide_eq_true (List.all_eq_true.mp h.1 c hc), of_decide_eq_true h.2⟩
theorem tx_of (x : Str) : tx x.cps.toList = x := str_ext (tx_cps _)
theorem upper_tx : ∀ l : List Nat, (∀ c ∈ l, c < 128) → ∃ l', Txt.upper (tx l) = tx l' ∧ l'.length = l.length ∧ ∀ c ∈ l', c < 128
  | [], _ => ⟨[], by decide +kernel, rfl, fun c h => absurd h (by simp)⟩
  | c :: l, h => by
    obtain ⟨l', e, e1, e2⟩ := upper_tx l fun d hd => h d (List.mem_cons_of_mem _ hd)
    have hc := h c List.mem_cons_self
    refine ⟨(if 97 ≤ c ∧ c ≤ 122 then c - 32 else c) :: l', ?_, by simp [e1], fun d hd => ?_⟩
    · have z : tx (c :: l) = tx [c] ++ tx l := (tx_add [c] l).symm
      rw [z, PySem.W.KOpn.upper_app, e]
      have z2 : Txt.upper (tx [c]) = tx [if 97 ≤ c ∧ c ≤ 122 then c - 32 else c] := PySem.W.KOpn.upper_one hc
      rw [z2, tx_add]
      rfl
    · rcases List.mem_cons.mp hd with z | z
      · rw [z]
        split <;> omega
      · exact e2 d z
theorem Gd.upper {n : Nat} {x : Str} (h : Gd n x) : Gd n (Txt.upper x) := by
  obtain ⟨l', e, e1, e2⟩ := upper_tx x.cps.toList h.1
  rw [tx_of] at e
  rw [e]
  refine ⟨fun c hc => e2 c (by rwa [tx_cps] at hc), ?_⟩
  rw [tx_len, e1]
  exact Nat.le_trans (by simp [Str.length]) h.2
theorem Title.gd {x : Str} (h : Title x) : Gd 8 x := ⟨h.asc, h.2.1⟩
/-- what is new is not what was there -/
theorem off_ne {H H' : Hp} {a b : Addr} {o : HO} (k : Off (fun _ => False) H H') (h : H a = some o) (n : H' b = none) : b ≠ a := fun z => by
  rw [z, k _ _ h id] at n
  cases n
def spBad : Sp := fun vs H Q _ => ∃ (p : Addr) (x : Str) (n c : Nat), vs = [.ref p, .str x] ∧ Gd n x ∧ n ≤ 1000 ∧ Pu H p c ∧ c + 1 ≤ 1000000000 ∧
  ∀ (y : Str) (H' : Hp), Gd (2 * n + 9) y → Pu H' p (c + 1) → Off (fun a => a = p) H H' → Q (.str y) H'
section
variable {P : Program} {w : World} {K : PySem.W.Frag} {mg : Str → Option Value} {base : Heap}
end
end LW
set_option Elab.async false
set_option linter.all false
set_option maxRecDepth 100000
set_option maxHeartbeats 4000000
namespace LW
open PySem PySem.Spec PyProof.Rows L2 KV
theorem cutV_head {xs : List V} {k : Int} (h : 0 ≤ k) : cutV xs none (some k) = xs.take k.toNat := by
  have hk : ¬ k < 0 := by omega
  unfold cutV
  simp [HT.sIx, hk]
theorem cutV_tail {xs : List V} {k : Int} (h : 0 ≤ k) : cutV xs (some k) none = xs.drop k.toNat := by
  have hk : ¬ k < 0 := by omega
  unfold cutV
  simp [HT.sIx, hk]
  by_cases c : k.toNat ≤ xs.length
  · rw [Nat.min_eq_left c, List.take_of_length_le (by simp)]
  · rw [Nat.min_eq_right (by omega)]
    simp
    omega
/-! ### _law_bent_tables -/
/-- tables that may be wrong: plain texts, so many at most -/
structure TabB (n mc : Nat) (t : Tab) : Prop where
  one : 1 ≤ t.2.length
  most : t.2.length ≤ mc
  good : ∀ x ∈ t.2, Gd n x
  name : Gd n t.1
structure TabsB (n mc mt : Nat) (ts : List Tab) : Prop where
  one : 1 ≤ ts.length
  most : ts.length ≤ mt
  each : ∀ t ∈ ts, TabB n mc t
/-- .. perhaps none at all -/
structure TabsW (n mc mt : Nat) (ts : List Tab) : Prop where
  most : ts.length ≤ mt
  each : ∀ t ∈ ts, TabB n mc t
theorem TabsB.w {n mc mt : Nat} {ts : List Tab} (h : TabsB n mc mt ts) : TabsW n mc mt ts := ⟨h.most, h.each⟩
theorem TabsOk.b {mt mc : Nat} {ts : List Tab} (h : TabsOk mt mc ts) : TabsB 8 mc mt ts :=
  ⟨h.one, h.most, fun t ht => ⟨(h.each t ht).one, (h.each t ht).most, fun x hx => ((h.each t ht).good x hx).gd, (h.each t ht).name.gd⟩⟩
theorem TabB.mono {n n' mc mc' : Nat} {t : Tab} (h : TabB n mc t) (e : n ≤ n') (f : mc ≤ mc') : TabB n' mc' t := ⟨h.one, Nat.le_trans h.most f, fun x hx => (h.good x hx).mono e, h.name.mono e⟩
theorem fit_str {n : Nat} {ms : List Nat} {x : Str} (h : Gd n x) : Fit n ms (.str x) := by
  have q : x.length ≤ n ∧ ∀ c ∈ x.cps.toList, c < 16 ^ 8 := ⟨h.2, fun c hc => Nat.lt_trans (h.1 c hc) (by decide)⟩
  cases ms <;> exact q
theorem fit_cols {n mc : Nat} {ms : List Nat} {cs : List Str} (h : cs.length ≤ mc) (g : ∀ x ∈ cs, Gd n x) : Fit n (mc :: ms) (colsD cs) := by
  refine ⟨by rw [List.length_map]; exact h, fun d hd => ?_⟩
  obtain ⟨x, hx, rfl⟩ := List.mem_map.mp hd
  exact fit_str (g x hx)
theorem fit_tab {n mc : Nat} {t : Tab} (h : TabB n mc t) : Fit n [2, mc] (tabD t) := by
  refine ⟨by show 2 ≤ 2; decide, fun d hd => ?_⟩
  rcases List.mem_cons.mp hd with rfl | hd
  · exact fit_str h.name
  · rw [List.mem_singleton.mp hd]
    exact fit_cols h.most h.good
theorem fit_tabs {n mc mt : Nat} {ts : List Tab} (h : TabsB n mc mt ts) : Fit n [mt, 2, mc] (tabsD ts) := by
  refine ⟨by rw [List.length_map]; exact h.most, fun d hd => ?_⟩
  obtain ⟨t, ht, rfl⟩ := List.mem_map.mp hd
  exact fit_tab (h.each t ht)
theorem fit_tabsW {n mc mt : Nat} {ts : List Tab} (h : TabsW n mc mt ts) : Fit n [mt, 2, mc] (tabsD ts) := by
  refine ⟨by rw [List.length_map]; exact h.most, fun d hd => ?_⟩
  obtain ⟨t, ht, rfl⟩ := List.mem_map.mp hd
  exact fit_tab (h.each t ht)
theorem dpAll_set {K : PySem.W.Frag} {H : Hp} : ∀ {xs : List V} {ds : List PyData} {v : V} {d : PyData} (i : Nat), DpAll K H xs ds → Dp K H v d → DpAll K H (xs.set i v) (ds.set i d)
  | _, _, _, _, _, .nil, _ => .nil
  | _, _, _, _, 0, .cons h r, k => .cons k r
  | _, _, _, _, i + 1, .cons h r, k => .cons h (dpAll_set i r k)
def spBentT (K : PySem.W.Frag) : Sp := fun vs H Q _ => ∃ (p : Addr) (v : V) (ts : List Tab) (n mc mt c : Nat), vs = [.ref p, v] ∧ Dp K H v (tabsD ts) ∧ TabsB n mc mt ts ∧ n ≤ 300 ∧ mc ≤ 100 ∧ mt ≤ 100 ∧ Pu H p c ∧ c + 10 ≤ 1000000000 ∧
  ∀ (v' : V) (ts' : List Tab) (H' : Hp) (c' : Nat), Dp K H' v' (tabsD ts') → TabsB (2 * n + 9) (mc + 1) mt ts' → Pu H' p c' → c' ≤ c + 10 → Off (fun a => a = p) H H' → Q v' H'
section
variable {P : Program} {w : World} {K : PySem.W.Frag} {mg : Str → Option Value} {base : Heap}
end
end LW
set_option Elab.async false
set_option linter.all false
set_option maxRecDepth 100000
set_option maxHeartbeats 0
namespace LW
open PySem PySem.Spec PyProof.Rows L2 KV
/-! ### _law_bent_rule -/
/-- a tuple of texts, with a list of texts at the third place or not -/
abbrev RB := List Str × Option (List Str × List Str)
def rbL : RB → List PyData
  | (h, none) => h.map PyData.str
  | (h, some (cs, tl)) => h.map PyData.str ++ colsD cs :: tl.map PyData.str
def rbD (r : RB) : PyData := .tuple (rbL r)
structure RbOk (n mc : Nat) (r : RB) : Prop where
  head : r.1.length ≤ 2
  hg : ∀ x ∈ r.1, Gd n x
  two : r.2 ≠ none → r.1.length = 2
  cs : ∀ cs tl, r.2 = some (cs, tl) → cs.length ≤ mc ∧ (∀ x ∈ cs, Gd n x) ∧ tl.length ≤ 2 ∧ ∀ x ∈ tl, Gd n x
theorem noInt_rb (r : RB) : noIntAll (rbL r) = true := by
  refine noIntAll_of fun d hd => ?_
  have st : ∀ {l : List Str}, d ∈ l.map PyData.str → noInt d = true := fun h => by
    obtain ⟨x, _, rfl⟩ := List.mem_map.mp h
    simp [noInt]
  obtain ⟨h, o⟩ := r
  cases o with
  | none => exact st hd
  | some q =>
    obtain ⟨cs, tl⟩ := q
    rcases List.mem_append.mp hd with hd | hd
    · exact st hd
    · rcases List.mem_cons.mp hd with rfl | hd
      · exact noInt_cols cs
      · exact st hd
/-- texts alone -/
inductive Flat : List V → List PyData → Prop where
  | nil : Flat [] []
  | str {x : Str} {vs : List V} {ds : List PyData} (r : Flat vs ds) : Flat (.str x :: vs) (.str x :: ds)
/-- texts, and one list -/
inductive One (a : Addr) (d : PyData) : List V → List PyData → Prop where
  | str {x : Str} {vs : List V} {ds : List PyData} (r : One a d vs ds) : One a d (.str x :: vs) (.str x :: ds)
  | at_ {vs : List V} {ds : List PyData} (r : Flat vs ds) : One a d (.ref a :: vs) (d :: ds)
inductive Item (sm be : Addr) (cs bs : List Str) (vs : List V) (ds : List PyData) : Prop where
  | flat (h : Flat vs ds)
  | so (h : One sm (colsD cs) vs ds)
  | be (h : One be (colsD bs) vs ds)
theorem Flat.dp {K : PySem.W.Frag} {H : Hp} : ∀ {vs : List V} {ds : List PyData}, Flat vs ds → DpAll K H vs ds
  | _, _, .nil => .nil
  | _, _, .str r => .cons (.str _) r.dp
theorem One.dp {K : PySem.W.Frag} {H : Hp} {a : Addr} {d : PyData} (h : Dp K H (.ref a) d) : ∀ {vs : List V} {ds : List PyData}, One a d vs ds → DpAll K H vs ds
  | _, _, .str r => .cons (.str _) (r.dp h)
  | _, _, .at_ r => .cons h r.dp
theorem Flat.ow {H : Hp} {F : Fp} (e : ∀ a, ¬ F a) : ∀ {vs : List V} {ds : List PyData}, Flat vs ds → OwAll H vs ds F
  | _, _, .nil => .nil e
  | _, _, .str r => .cons (.str _ e) (r.ow e) (fun a z _ => e a z) fun a => ⟨.inl, fun z => z.elim id id⟩
theorem One.ow {H : Hp} {a : Addr} {d : PyData} {F : Fp} (h : Ow H (.ref a) d F) : ∀ {vs : List V} {ds : List PyData}, One a d vs ds → OwAll H vs ds F
  | _, _, .str r => .cons (F := fun _ => False) (.str _ fun _ z => z) (r.ow h) (fun _ z => z.elim) fun a => ⟨.inr, fun z => z.elim False.elim id⟩
  | _, _, .at_ r => .cons (G := fun _ => False) h (r.ow fun _ z => z) (fun _ _ z => z) fun a => ⟨.inl, fun z => z.elim id False.elim⟩
/-- a tuple of the menu -/
def ItemAt (sm be : Addr) (cs bs : List Str) (H : Hp) (u : V) (r : RB) : Prop := ∃ a vs, u = .ref a ∧ H a = some (.tup vs) ∧ Item sm be cs bs vs (rbL r)
theorem paired_snoc {D : V → RB → Prop} : ∀ {us : List V} {rs : List RB} {u : V} {r : RB}, Paired D us rs → D u r → Paired D (us ++ [u]) (rs ++ [r])
  | _, _, _, _, .nil, h => .cons h .nil
  | _, _, _, _, .cons h0 k, h => .cons h0 (paired_snoc k h)
theorem paired_imp {D E : V → RB → Prop} (f : ∀ u r, D u r → E u r) : ∀ {us : List V} {rs : List RB}, Paired D us rs → Paired E us rs
  | _, _, .nil => .nil
  | _, _, .cons h k => .cons (f _ _ h) (paired_imp f k)
theorem paired_at {D : V → RB → Prop} : ∀ {us : List V} {rs : List RB} {i : Nat} {u : V}, Paired D us rs → us[i]? = some u → ∃ r, rs[i]? = some r ∧ D u r
  | _, _, 0, _, .cons h k, e => by
    cases e
    exact ⟨_, rfl, h⟩
  | _, _, i + 1, _, .cons h k, e => paired_at (i := i) k e
  | _, _, i, _, .nil, e => by simp at e
/-- what the menu stands on -/
structure BR (K : PySem.W.Frag) (p : Addr) (c : Nat) (H0 : Hp) (sm be : Addr) (cs bs : List Str) (keep : List (Addr × HO)) (us : List V) (rs : List RB) (H : Hp) : Prop where
  es : H sm = some (.lst (cs.map V.str))
  eb : H be = some (.lst (bs.map V.str))
  ps : sm ≠ p
  pb : be ≠ p
  it : Paired (ItemAt sm be cs bs H) us rs
  pu : Pu H p c
  off : Off (fun a => a = p) H0 H
  kp : ∀ x ∈ keep, H x.1 = some x.2
section
variable {K : PySem.W.Frag} {p sm be : Addr} {c : Nat} {H0 H H' : Hp} {cs bs : List Str} {keep : List (Addr × HO)} {us : List V} {rs : List RB}
theorem BR.cum (B : BR K p c H0 sm be cs bs keep us rs H) : DpAll K H us (rs.map rbD) := by
  have so : Dp K H (.ref sm) (colsD cs) := .lst (SqL.of B.es) (dp_strs _)
  have b : Dp K H (.ref be) (colsD bs) := .lst (SqL.of B.eb) (dp_strs _)
  have key : ∀ {us : List V} {rs : List RB}, Paired (ItemAt sm be cs bs H) us rs → DpAll K H us (rs.map rbD) := by
    intro us rs h
    induction h with
    | nil => exact .nil
    | cons h k ih =>
      obtain ⟨a, vs, rfl, e, i⟩ := h
      refine .cons (.tup (SqT.of e) ?_) ih
      cases i with
      | flat h => exact h.dp
      | so h => exact h.dp so
      | be h => exact h.dp b
  exact key B.it
theorem BR.step (B : BR K p c H0 sm be cs bs keep us rs H) (k : Off (fun _ => False) H H') : BR K p c H0 sm be cs bs keep us rs H' :=
  ⟨k _ _ B.es id, k _ _ B.eb id, B.ps, B.pb, paired_imp (fun u r ⟨a, vs, e, h, i⟩ => ⟨a, vs, e, k _ _ h id, i⟩) B.it, B.pu.off k id, B.off.trans (k.mono fun _ z => z.elim), fun x hx => k _ _ (B.kp x hx) id⟩
/-- one more tuple -/
theorem BR.tup {a : Addr} (B : BR K p c H0 sm be cs bs keep us rs H) (ha : H a = none) (vs : List V) (r : RB) (hd : Item sm be cs bs vs (rbL r)) :
    BR K p c H0 sm be cs bs keep (us ++ [.ref a]) (rs ++ [r]) (upd H a (.tup vs)) := by
  have B1 := B.step (H' := upd H a (.tup vs)) (Off.new ha)
  exact ⟨B1.es, B1.eb, B1.ps, B1.pb, paired_snoc B1.it ⟨a, vs, rfl, upd_same, hd⟩, B1.pu, B1.off, B1.kp⟩
/-- a new list of those -/
theorem BR.menu {a : Addr} (B : BR K p c H0 sm be cs bs keep us rs H) (ha : H a = none) (xs : List V) : BR K p c H0 sm be cs bs [(a, .lst xs)] us rs (upd H a (.lst xs)) := by
  have B1 := B.step (H' := upd H a (.lst xs)) (Off.new ha)
  refine ⟨B1.es, B1.eb, B1.ps, B1.pb, B1.it, B1.pu, B1.off, fun x hx => ?_⟩
  rw [List.mem_singleton.mp hx]
  exact upd_same
theorem BR.more {a : Addr} {o : HO} (B : BR K p c H0 sm be cs bs keep us rs H) (ha : H a = none) : BR K p c H0 sm be cs bs ((a, o) :: keep) us rs (upd H a o) := by
  have B1 := B.step (H' := upd H a o) (Off.new ha)
  refine ⟨B1.es, B1.eb, B1.ps, B1.pb, B1.it, B1.pu, B1.off, fun x hx => ?_⟩
  rcases List.mem_cons.mp hx with rfl | hx
  · exact upd_same
  · exact B1.kp x hx
theorem BR.bad {d : Nat} (B : BR K p c H0 sm be cs bs keep us rs H) (k : Off (fun a => a = p) H H') (hp : Pu H' p d) (hk : ∀ x ∈ keep, x.1 ≠ p) : BR K p d H0 sm be cs bs keep us rs H' := by
  refine ⟨k _ _ B.es B.ps, k _ _ B.eb B.pb, B.ps, B.pb, paired_imp (fun u r ⟨a, vs, e, h, i⟩ => ⟨a, vs, e, k _ _ h fun z => ?_, i⟩) B.it, hp, B.off.trans k, fun x hx => k _ _ (B.kp x hx) (hk x hx)⟩
  obtain ⟨ys, ey⟩ := B.pu.lst
  rw [← z, h] at ey
  cases ey
/-- what a tuple of the menu owns -/
theorem BR.own (B : BR K p c H0 sm be cs bs keep us rs H) {u : V} {r : RB} (h : ItemAt sm be cs bs H u r) : ∃ F, Ow H u (rbD r) F ∧ ∀ a, F a → a = sm ∨ a = be := by
  obtain ⟨a, vs, rfl, e, i⟩ := h
  cases i with
  | flat h => exact ⟨fun _ => False, .tup e (h.ow fun _ z => z), fun _ z => z.elim⟩
  | so h => exact ⟨_, .tup e (h.ow (ow_strs B.es)), fun _ z => .inl z⟩
  | be h => exact ⟨_, .tup e (h.ow (ow_strs B.eb)), fun _ z => .inr z⟩
theorem mem2 {Pr : Str → Prop} {x y : Str} (h : Pr x) (k : Pr y) : ∀ z ∈ [x, y], Pr z := by
  intro z hz
  rcases List.mem_cons.mp hz with e | hz
  · rw [e]
    exact h
  · rw [List.mem_singleton.mp hz]
    exact k
theorem rb1 {n mc : Nat} {x : Str} (h : Gd n x) : RbOk n mc ([x], none) := ⟨by show 1 ≤ 2; decide, fun y hy => by rw [List.mem_singleton.mp hy]; exact h, fun z => (z rfl).elim, fun _ _ z => by cases z⟩
theorem rb2 {n mc : Nat} {x y : Str} (h : Gd n x) (k : Gd n y) : RbOk n mc ([x, y], none) :=
  ⟨by show 2 ≤ 2; decide, mem2 h k, fun z => rfl, fun _ _ z => by cases z⟩
theorem rb3 {n mc : Nat} {x y : Str} {cs tl : List Str} (h : Gd n x) (k : Gd n y) (c1 : cs.length ≤ mc) (c2 : ∀ x ∈ cs, Gd n x) (t1 : tl.length ≤ 2) (t2 : ∀ x ∈ tl, Gd n x) : RbOk n mc ([x, y], some (cs, tl)) :=
  ⟨by show 2 ≤ 2; decide, mem2 h k, fun z => rfl, fun _ _ z => by cases z; exact ⟨c1, c2, t1, t2⟩⟩
end
def spBentR (K : PySem.W.Frag) : Sp := fun vs H Q _ => ∃ (p : Addr) (v : V) (ts : List Tab) (n mc mt c : Nat), vs = [.ref p, v] ∧ Dp K H v (tabsD ts) ∧ TabsB n mc mt ts ∧ 7 ≤ n ∧ n ≤ 300 ∧ mc ≤ 100 ∧ mt ≤ 100 ∧ Pu H p c ∧ c + 10 ≤ 1000000000 ∧
  ∀ (v' : V) (r : RB) (F : Fp) (H' : Hp) (c' : Nat), Ow H' v' (rbD r) F → (∀ a, F a → H a = none) → RbOk (2 * n + 9) (mc + 1) r → Pu H' p c' → c' ≤ c + 10 → Off (fun a => a = p) H H' → Q v' H'
section
variable {P : Program} {w : World} {K : PySem.W.Frag} {mg : Str → Option Value} {base : Heap}
end
end LW
set_option Elab.async false
set_option linter.all false
set_option maxRecDepth 100000
set_option maxHeartbeats 0
namespace LW
open PySem PySem.Spec PyProof.Rows L2 KV
/-! ### _law_bent_rules -/
def rbsD (rs : List RB) : PyData := .list (rs.map rbD)
theorem dpAll_take {K : PySem.W.Frag} {H : Hp} : ∀ {xs : List V} {ds : List PyData} (k : Nat), DpAll K H xs ds → DpAll K H (xs.take k) (ds.take k)
  | _, _, 0, _ => by simp only [List.take_zero]; exact .nil
  | _, _, k + 1, .nil => by simp only [List.take_nil]; exact .nil
  | _, _, k + 1, .cons h r => .cons h (dpAll_take k r)
theorem dpAll_drop {K : PySem.W.Frag} {H : Hp} : ∀ {xs : List V} {ds : List PyData} (k : Nat), DpAll K H xs ds → DpAll K H (xs.drop k) (ds.drop k)
  | _, _, 0, h => h
  | _, _, k + 1, .nil => .nil
  | _, _, k + 1, .cons h r => dpAll_drop k r
theorem dpAll_append {K : PySem.W.Frag} {H : Hp} : ∀ {xs ys : List V} {ds es : List PyData}, DpAll K H xs ds → DpAll K H ys es → DpAll K H (xs ++ ys) (ds ++ es)
  | _, _, _, _, .nil, k => k
  | _, _, _, _, .cons h r, k => .cons h (dpAll_append r k)
theorem RbOk.mono {n n' m m' : Nat} {r : RB} (h : RbOk n m r) (e : n ≤ n') (f : m ≤ m') : RbOk n' m' r :=
  ⟨h.head, fun x hx => (h.hg x hx).mono e, h.two, fun cs tl z => by
    obtain ⟨a, b, c, d⟩ := h.cs cs tl z
    exact ⟨Nat.le_trans a f, fun x hx => (b x hx).mono e, c, fun x hx => (d x hx).mono e⟩⟩
theorem fit_rb {n m : Nat} {r : RB} (h : RbOk n m r) : Fit n [5, m] (rbD r) := by
  have str : ∀ {l : List Str} {d : PyData}, (∀ x ∈ l, Gd n x) → d ∈ l.map PyData.str → Fit n [m] d := fun g hd => by
    obtain ⟨x, hx, rfl⟩ := List.mem_map.mp hd
    exact fit_str (g x hx)
  obtain ⟨hd, o⟩ := r
  cases o with
  | none => exact ⟨by rw [rbL, List.length_map]; exact Nat.le_trans h.head (by decide), fun d hd => str h.hg hd⟩
  | some q =>
    obtain ⟨cs, tl⟩ := q
    obtain ⟨a, b, c, d⟩ := h.cs cs tl rfl
    have hh := h.head
    refine ⟨?_, fun e he => ?_⟩
    · rw [rbL, List.length_append, List.length_cons, List.length_map, List.length_map]
      show hd.length + _ ≤ 5
      have hh : hd.length ≤ 2 := hh
      omega
    · rcases List.mem_append.mp he with he | he
      · exact str h.hg he
      · rcases List.mem_cons.mp he with rfl | he
        · exact fit_cols a b
        · exact str d he
theorem fit_rbs {n m M : Nat} {rs : List RB} (l : rs.length ≤ M) (h : ∀ r ∈ rs, RbOk n m r) : Fit n [M, 5, m] (rbsD rs) := by
  refine ⟨by rw [List.length_map]; exact l, fun d hd => ?_⟩
  obtain ⟨r, hr, rfl⟩ := List.mem_map.mp hd
  exact fit_rb (h r hr)
theorem noInt_rbs (rs : List RB) : noInt (rbsD rs) = true := by
  simp only [rbsD, noInt]
  refine noIntAll_of fun d hd => ?_
  obtain ⟨r, _, rfl⟩ := List.mem_map.mp hd
  unfold rbD
  simp only [noInt]
  exact noInt_rb r
theorem owAll_cutF {H : Hp} : ∀ {xs : List V} {ds : List PyData} {F : Fp} (n : Nat), OwAll H xs ds F → ∃ F1 F2, OwAll H (xs.take n) (ds.take n) F1 ∧ OwAll H (xs.drop n) (ds.drop n) F2 ∧ (∀ a, F a ↔ F1 a ∨ F2 a) ∧ ∀ a, F1 a → ¬ F2 a
  | _, _, F, n, .nil e => ⟨fun _ => False, fun _ => False, by simpa using OwAll.nil fun _ z => z, by simpa using OwAll.nil fun _ z => z, fun a => ⟨fun z => (e a z).elim, fun z => z.elim False.elim False.elim⟩, fun _ z => z.elim⟩
  | _, _, F, 0, .cons h r d e => ⟨fun _ => False, F, by simpa using OwAll.nil fun _ z => z, .cons h r d e, fun a => ⟨.inr, fun z => z.elim False.elim id⟩, fun _ z => z.elim⟩
  | _, _, F, n + 1, .cons (F := F1) (G := G1) h r d e => by
    obtain ⟨A, B, h1, h2, h3, h4⟩ := owAll_cutF n r
    refine ⟨fun a => F1 a ∨ A a, B, .cons h h1 (fun a z y => d a z ((h3 a).mpr (.inl y))) fun _ => Iff.rfl, h2, fun a => ?_, fun a z y => ?_⟩
    · rw [e a, h3 a]
      exact ⟨fun z => z.elim (fun z => .inl (.inl z)) fun z => z.elim (fun z => .inl (.inr z)) .inr, fun z => z.elim (fun z => z.elim .inl fun z => .inr (.inl z)) fun z => .inr (.inr z)⟩
    · rcases z with z | z
      · exact d a z ((h3 a).mpr (.inr y))
      · exact h4 a z y
theorem owAll_appF {H : Hp} : ∀ {xs ys : List V} {ds es : List PyData} {F G : Fp}, OwAll H xs ds F → OwAll H ys es G → (∀ a, F a → ¬ G a) → OwAll H (xs ++ ys) (ds ++ es) (fun a => F a ∨ G a)
  | _, _, _, _, F, G, .nil e, h, d => h.congr fun a => ⟨fun z => z.elim (fun z => (e a z).elim) id, .inr⟩
  | _, _, _, _, F, G, .cons (F := F1) (G := G1) h r d0 e, h2, d => by
    refine .cons (G := fun a => G1 a ∨ G a) h (owAll_appF r h2 fun a z => d a ((e a).mpr (.inr z))) (fun a z y => ?_) fun a => ?_
    · rcases y with y | y
      · exact d0 a z y
      · exact d a ((e a).mpr (.inl z)) y
    · constructor
      · rintro (z | z)
        · exact ((e a).mp z).elim .inl fun z => .inr (.inl z)
        · exact .inr (.inr z)
      · rintro (z | z | z)
        · exact .inl ((e a).mpr (.inl z))
        · exact .inl ((e a).mpr (.inr z))
        · exact .inr z
def spBentRs (K : PySem.W.Frag) : Sp := fun vs H Q _ => ∃ (p : Addr) (v w : V) (ts : List Tab) (rs : List RB) (n mc mt N M L c : Nat), vs = [.ref p, v, w] ∧ Dp K H v (tabsD ts) ∧ TabsB n mc mt ts ∧ 7 ≤ n ∧ n ≤ 300 ∧ mc ≤ 100 ∧ mt ≤ 100 ∧
  Dp K H w (rbsD rs) ∧ (∀ r ∈ rs, RbOk N M r) ∧ 2 * n + 9 ≤ N ∧ mc + 1 ≤ M ∧ M ≤ 1000 ∧ rs.length ≤ L ∧ L ≤ 1000 ∧ Pu H p c ∧ c + 20 ≤ 1000000000 ∧
  ∀ (v' : V) (rs' : List RB) (F : Fp) (H' : Hp) (c' : Nat), Ow H' v' (rbsD rs') F → (∀ a, F a → H a = none) → (∀ r ∈ rs', RbOk N M r) → rs'.length ≤ L + 1 → Pu H' p c' → c' ≤ c + 20 → Off (fun a => a = p) H H' → Q v' H'
section
variable {P : Program} {w : World} {K : PySem.W.Frag} {mg : Str → Option Value} {base : Heap}
end
end LW
set_option Elab.async false
set_option linter.all false
set_option maxRecDepth 100000
set_option maxHeartbeats 4000000
/-! x in xs, x not in xs: items of any data. -/
namespace KV
open PySem PySem.Spec PyProof.Rows L2
open Classical in
/-- whether the value reads as data that equals d -/
noncomputable def eD (h : Heap) (d : PyData) (y : Value) : Bool := decide (∃ e as, Reads h y e as ∧ e.eqv d = true)
open Classical in
theorem eD_of {h : Heap} {d e : PyData} {y : Value} {as : List Addr} (r : Reads h y e as) : eD h d y = e.eqv d := by
  unfold eD
  cases q : e.eqv d with
  | true => exact decide_eq_true ⟨e, as, r, q⟩
  | false =>
    refine decide_eq_false ?_
    rintro ⟨e', as', r', q'⟩
    have z := reads_det (h := h) (h' := h) (fun b o k _ => k) r r'
    rw [z.1, q] at q'
    cases q'
section
variable {X : Cx} {pins : List (Addr × Obj)} {σ : L2.St} {H : Hp} {s : Shared}
theorem any_data (I : L2.Inv X pins σ H s) {d : PyData} : ∀ {xs : List V} {us : List Value} {ds : List PyData}, Vals xs us → DpAll X.K H xs ds → us.any (eD s.heap d) = ds.any fun e => e.eqv d
  | _, _, _, .nil, .nil => rfl
  | _, _, _, .cons h r, .cons k q => by
    obtain ⟨as, rd⟩ := Dp.reads I _ _ _ k h
    rw [List.any_cons, List.any_cons, eD_of rd, any_data I r q]
theorem at_data (I : L2.Inv X pins σ H s) {d : PyData} {v : Value} {bs : List Addr} (rd : Reads s.heap v d bs) (sd : SeqAt.shaped d = true) (hu : X.A.units + 65 < cLine) :
    ∀ {xs : List V} {us : List Value} {ds : List PyData}, Vals xs us → DpAll X.K H xs ds → (∀ e ∈ ds, SeqAt.shaped e = true) → ∀ y ∈ us, SeqAt.EqAt X.A.in1 s y v (eD s.heap d y)
  | _, _, _, .nil, .nil, _, y, hy => absurd hy (by simp)
  | _, _, _, .cons h r, .cons k q, hs, y, hy => by
    rcases List.mem_cons.mp hy with rfl | hy
    · obtain ⟨as, r1⟩ := Dp.reads I _ _ _ k h
      rw [eD_of r1]
      exact PySem.W.keq_at r1 rd (hs _ List.mem_cons_self) sd (by show X.A.units + 1 + 64 < cLine; omega)
    · exact at_data I rd sd hu r q (fun e he => hs e (List.mem_cons_of_mem _ he)) y hy
end
def rInD (K : PySem.W.Frag) (neg : Bool) : R2 := fun x y H Q => ∃ (p : Addr) (xs : List V) (ds : List PyData) (d : PyData), y = .ref p ∧ (SqL K H p xs ∨ SqT K H p xs) ∧ DpAll K H xs ds ∧ Dp K H x d ∧ (∀ e ∈ ds, SeqAt.shaped e = true) ∧ SeqAt.shaped d = true ∧
  Q (.bl (if neg = true then !ds.any (fun e => e.eqv d) else ds.any fun e => e.eqv d)) H
theorem op_notInD {X : Cx} (hu : X.A.units + 65 < cLine) : OpR X (compareOp .NotIn) (rInD X.K true) := by
  intro pins s σ H x y v u Q I rx ry h
  obtain ⟨p, xs, ds, d, rfl, hq, hd, hx, hs, sd, q⟩ := h
  cases ry
  obtain ⟨bs, rd⟩ := Dp.reads I d x v hx rx
  rcases hq with hq | hq
  · obtain ⟨its, r, pl, _⟩ := Inv.list I hq
    refine SeqAt.notIn_listAt (eD s.heap d) (PlainL.isList pl) (fun y hy => at_data I rd sd hu r hd hs y (by simpa using hy)) ⟨.bl _, H, I, rfl, ?_⟩
    have e : its.toArray.any (eD s.heap d) = its.any (eD s.heap d) := by simp
    rw [e, any_data I r hd]
    exact q
  · obtain ⟨its, r, pl, _⟩ := Inv.tuple I hq
    refine SeqAt.notIn_tupleAt (eD s.heap d) pl (fun y hy => at_data I rd sd hu r hd hs y (by simpa using hy)) ⟨.bl _, H, I, rfl, ?_⟩
    have e : its.toArray.any (eD s.heap d) = its.any (eD s.heap d) := by simp
    rw [e, any_data I r hd]
    exact q
theorem op_inD {X : Cx} (hu : X.A.units + 65 < cLine) : OpR X (compareOp .In) (rInD X.K false) := by
  intro pins s σ H x y v u Q I rx ry h
  obtain ⟨p, xs, ds, d, rfl, hq, hd, hx, hs, sd, q⟩ := h
  cases ry
  obtain ⟨bs, rd⟩ := Dp.reads I d x v hx rx
  rcases hq with hq | hq
  · obtain ⟨its, r, pl, _⟩ := Inv.list I hq
    refine SeqAt.in_listAt (eD s.heap d) (PlainL.isList pl) (fun y hy => at_data I rd sd hu r hd hs y (by simpa using hy)) ⟨.bl _, H, I, rfl, ?_⟩
    have e : its.toArray.any (eD s.heap d) = its.any (eD s.heap d) := by simp
    rw [e, any_data I r hd]
    exact q
  · obtain ⟨its, r, pl, _⟩ := Inv.tuple I hq
    refine SeqAt.in_tupleAt (eD s.heap d) pl (fun y hy => at_data I rd sd hu r hd hs y (by simpa using hy)) ⟨.bl _, H, I, rfl, ?_⟩
    have e : its.toArray.any (eD s.heap d) = its.any (eD s.heap d) := by simp
    rw [e, any_data I r hd]
    exact q
end KV
set_option Elab.async false
set_option linter.all false
set_option maxRecDepth 100000
set_option maxHeartbeats 4000000
/-! A slice that is the whole tuple: the tuple itself. -/
namespace KV
open PySem PySem.Spec PyProof.Rows L2
theorem getItem_tuple_whole {prog : Program} {w : World} {A : Around} {E : Value → Shared → Prop} {s : Shared} {t sl : Addr} {items : Array Value} {vl vu : Value} {lo hi : Option Int} {Q : Value → Shared → Prop}
    (ht : IsTup s.heap t items) (hs : s.heap.IsSliceOf sl vl vu .none) (pl : IsPart vl lo) (pu : IsPart vu hi) (hw : HT.sIx items.size 0 lo = 0 ∧ HT.sIx items.size items.size hi = items.size) (h : Q (.ref t) s) :
    wpAny (model prog w) A (getItem (.ref t) (.ref sl)) Q E s := by
  obtain ⟨os, hos, hcs, hds⟩ := id hs
  refine wpAny_holding (wpAny_bind (wpAny_sequenceKey (IsTup.typeIs ht) (by decide) (wpAny_bind (wpAny_callSpecial?_slot (IsTup.typeIs ht) slot_tuple_getitem (wpAny_call_entry slot_tuple_getitem (IsTup.typeIs ht) entry_tuple_getitem ?_)))))
  refine wpAny_bind (show wpAny _ _ (pure (Value.ref t, [Value.ref sl])) _ _ _ from wpAny_pure ?_)
  refine wpAny_bind (tupleItemsOf_ ht (wpAny_bind (wpAny_typeOf (T := "slice") (show s.TypeIs (.ref sl) "slice" from ⟨os, hos, hcs⟩) ?_)))
  rw [if_pos (by decide)]
  refine wpAny_bind (HT.sliceApplied_gen hs pl pu ?_)
  rw [hw.1, hw.2]
  have e : ((((0 : Nat) : Int) == 0 && (1 : Int) == 1) && (items.size - 0 == items.size)) = true := by simp
  dsimp only
  rw [if_pos e]
  refine wpAny_bind (show wpAny _ _ (do
    let c ← typeOf (Value.ref t)
    pure (c == Value.type "tuple")) _ _ _ from wpAny_bind (wpAny_typeOf (IsTup.typeIs ht) (wpAny_pure ?_)))
  rw [if_pos (by decide)]
  refine wpAny_bind (wpAny_rule ?_)
  exact wpAny_pure ⟨.ref t, rfl, wpAny_pure h⟩
/-- t[lo:hi], all of t or less -/
def rSlTW (K : PySem.W.Frag) : V → Option Int → Option Int → Hp → VK → Prop := fun x lo hi H Q => ∃ (a : Addr) (xs : List V), x = .ref a ∧ SqT K H a xs ∧
  (¬ (HT.sIx xs.length 0 lo = 0 ∧ HT.sIx xs.length xs.length hi = xs.length) → ∀ p, H p = none → Q (.ref p) (upd H p (.tup (cutV xs lo hi)))) ∧
  ((HT.sIx xs.length 0 lo = 0 ∧ HT.sIx xs.length xs.length hi = xs.length) → Q (.ref a) H)
theorem sl_tupW {X : Cx} : SlR X (rSlTW X.K) := by
  intro pins s σ H x v vl vu lo hi sl Q I rx hs pl pu h
  obtain ⟨a, xs, rfl, hx, h1, h2⟩ := h
  by_cases c : HT.sIx xs.length 0 lo = 0 ∧ HT.sIx xs.length xs.length hi = xs.length
  · cases rx
    obtain ⟨its, r, ht, hz⟩ := Inv.tuple I hx
    have hl : its.toArray.size = xs.length := by rw [List.size_toArray]; exact r.length.symm
    exact ⟨"tuple", "tuple.__getitem__", slot_tuple_getitem.lookup, IsTup.typeIs ht, getItem_tuple_whole ht hs pl pu (by rw [hl]; exact c) ⟨.ref a, H, I, rfl, h2 c⟩⟩
  · exact sl_tup pins s σ H _ v vl vu lo hi sl Q I rx hs pl pu ⟨a, xs, rfl, hx, c, h1 c⟩
/-- xs + ys: lists of any standing -/
def rCatS (K : PySem.W.Frag) : R2 := fun x y H Q => ∃ (l b : Addr) (xs zs : List V), x = .ref l ∧ y = .ref b ∧ SqL K H l xs ∧ SqL K H b zs ∧ xs.length + zs.length ≤ sizeLine ∧
  ∀ p, H p = none → Q (.ref p) (upd H p (.lst (xs ++ zs)))
theorem op_catS {X : Cx} : OpR X (binaryOp .Add) (rCatS X.K) := by
  intro pins s σ H x y v u Q I rx ry h
  obtain ⟨l, b, xs, zs, rfl, rfl, h1, h2, hz, q⟩ := h
  cases rx
  cases ry
  obtain ⟨its, r, pl, _⟩ := Inv.list I h1
  obtain ⟨its2, r2, pl2, _⟩ := Inv.list I h2
  obtain ⟨⟨c, d, dat, sl⟩, n, e, e1, e2, e3⟩ := pl
  obtain ⟨⟨c2, d2, dat2, sl2⟩, n2, f, f1, f2, f3⟩ := pl2
  dsimp only at e1 e2 e3 f1 f2 f3
  subst e1 e2 e3 f1 f2 f3
  have hsz : its.toArray.size + its2.toArray.size ≤ sizeLine := by
    have a := r.length
    have a2 := r2.length
    rw [List.size_toArray, List.size_toArray]
    omega
  refine concat_meets ⟨_, e, rfl⟩ ⟨_, f, rfl⟩ noFill_list_add seq_list_add F.slot_list_add F.entry_list_add (F.args_list_add_2 (.ref l) (.ref b))
    (PyProof.Rows.list_addW l b its.toArray its2.toArray n n2 none none sl sl2 hsz) ⟨e, f, ?_⟩
  rw [List.append_toArray]
  exact ⟨.ref _, upd H _ (.lst (xs ++ zs)), Inv.lnew I (r.append r2) (by rw [List.length_append]; exact hz), rfl, q _ (Inv.fresh I)⟩
end KV
set_option Elab.async false
set_option linter.all false
set_option maxRecDepth 100000
set_option maxHeartbeats 0
namespace LW
open PySem PySem.Spec PyProof.Rows L2 KV
/-! ### _law_wrong_rule -/
def tabOf (ts : List Tab) (x : Str) : Option Tab := ts.find? fun t => decide (t.1 = x)
/-- the first error of a rule -/
def wrong1 (ts : List Tab) : RB → Option (Str × PyData)
  | ([k, x], some (cs, tl)) =>
    if (k = "key" ∧ tl.length = 0) ∨ (k = "settles" ∧ tl.length = 1) then
      match tabOf ts x with
      | none => some ("UnknownTable", .str x)
      | some t => match (cs ++ tl).find? fun c => !decide (c ∈ t.2) with
        | none => none
        | some c => some ("UnknownColumn", .str c)
    else some ("InvalidRule", rbD ([k, x], some (cs, tl)))
  | r => some ("InvalidRule", rbD r)
def wrongs (ts : List Tab) : List RB → Option (Str × PyData)
  | [] => none
  | r :: rs => match wrong1 ts r with
    | some e => some e
    | none => wrongs ts rs
/-- a dict of the tables -/
inductive TitK (K : PySem.W.Frag) (H : Hp) : List (Key × V) → List Tab → Prop where
  | nil : TitK K H [] []
  | cons {kvs : List (Key × V)} {ts : List Tab} {t : Tab} {v : V} (h : Dp K H v (colsD t.2)) (r : TitK K H kvs ts) : TitK K H ((.inr t.1, v) :: kvs) (t :: ts)
theorem titK_off {K : PySem.W.Frag} {H H' : Hp} (k : Off (fun _ => False) H H') : ∀ {kvs : List (Key × V)} {ts : List Tab}, TitK K H kvs ts → TitK K H' kvs ts
  | _, _, .nil => .nil
  | _, _, .cons h r => .cons (dp_off k h) (titK_off k r)
theorem titK_at {K : PySem.W.Frag} {H : Hp} {x : Str} : ∀ {kvs : List (Key × V)} {ts : List Tab}, TitK K H kvs ts →
    (valV kvs (.inr x) = none ∧ tabOf ts x = none) ∨ ∃ v t, valV kvs (.inr x) = some v ∧ tabOf ts x = some t ∧ Dp K H v (colsD t.2)
  | _, _, .nil => .inl ⟨rfl, rfl⟩
  | _, _, .cons (t := t) (v := v) (kvs := kvs) (ts := ts) h r => by
    by_cases e : t.1 = x
    · refine .inr ⟨v, t, ?_, ?_, h⟩
      · simp [valV, List.find?_cons, e]
      · simp [tabOf, List.find?_cons, e]
    · have e1 : valV (((.inr t.1 : Key), v) :: kvs) (.inr x) = valV kvs (.inr x) := by simp [valV, List.find?_cons, e]
      have e2 : tabOf (t :: ts) x = tabOf ts x := by simp [tabOf, List.find?_cons, e]
      rw [e1, e2]
      exact titK_at r
def endR (K : PySem.W.Frag) (H : Hp) (Q : VK) : Option (Str × PyData) → Prop
  | none => ∀ H', Off (fun _ => False) H H' → Q .non H'
  | some (x, e) => ∀ t u H', SqT K H' t [.str x, u] → Dp K H' u e → Off (fun _ => False) H H' → Q (.ref t) H'
/-- what is told is a text, or one of the rules that were handed in -/
def PartW (xw : List V) (rs : List RB) (u : V) (e : PyData) : Prop := (∃ x, u = .str x ∧ e = .str x) ∨ ∃ (i : Nat) (r : RB), xw[i]? = some u ∧ rs[i]? = some r ∧ e = rbD r
def endRW (K : PySem.W.Frag) (H : Hp) (xw : List V) (rs : List RB) (Q : VK) : Option (Str × PyData) → Prop
  | none => ∀ H', Off (fun _ => False) H H' → Q .non H'
  | some (x, e) => ∀ t u H', SqT K H' t [.str x, u] → Dp K H' u e → PartW xw rs u e → Off (fun _ => False) H H' → Q (.ref t) H'
def spWrongR (K : PySem.W.Frag) : Sp := fun vs H Q _ => ∃ (d aw : Addr) (xw : List V) (kvs : List (Key × V)) (ts : List Tab) (rs : List RB) (N M : Nat), vs = [.ref d, .ref aw] ∧ H d = some (.dK kvs) ∧ TitK K H kvs ts ∧ (∀ t ∈ ts, t.2.length ≤ 1000) ∧
  SqL K H aw xw ∧ DpAll K H xw (rs.map rbD) ∧ (∀ r ∈ rs, RbOk N M r) ∧ M ≤ 1000 ∧ rs.length ≤ 1000 ∧ endRW K H xw rs Q (wrongs ts rs)
theorem eqv_one (a b : Str) : PyData.eqv (.tuple [.str a]) (.tuple [.str b]) = (a == b) := by
  simp [PyData.eqv, PyData.eqvAll]
theorem shaped_one {x : Str} (h : Asc x) : SeqAt.shaped (.tuple [.str x]) = true := by
  have q := shaped_strs (xs := [x]) fun y hy => by rw [List.mem_singleton.mp hy]; exact h
  unfold SeqAt.shaped at q ⊢
  simpa [PyData.canLay0, PyData.depth] using q
theorem wrong1_not {ts : List Tab} {k x : Str} {cs tl : List Str} (h : ¬ ((k = "key" ∧ tl.length = 0) ∨ (k = "settles" ∧ tl.length = 1))) : wrong1 ts ([k, x], some (cs, tl)) = some (("InvalidRule" : Str), rbD ([k, x], some (cs, tl))) := by
  simp only [wrong1]
  rw [if_neg h]
theorem wrong1_yes {ts : List Tab} {k x : Str} {cs tl : List Str} (h : (k = "key" ∧ tl.length = 0) ∨ (k = "settles" ∧ tl.length = 1)) : wrong1 ts ([k, x], some (cs, tl)) =
    match tabOf ts x with
    | none => some (("UnknownTable" : Str), .str x)
    | some t => match (cs ++ tl).find? fun c => !decide (c ∈ t.2) with
      | none => none
      | some c => some (("UnknownColumn" : Str), .str c) := by
  simp only [wrong1]
  rw [if_pos h]
theorem inV_strs (c : Str) (l : List Str) : inV (.str c) (l.map V.str) = decide (c ∈ l) := by
  induction l with
  | nil => rfl
  | cons a l ih =>
    have e : inV (.str c) ((a :: l).map V.str) = ((a == c) || inV (.str c) (l.map V.str)) := rfl
    rw [e, ih]
    by_cases z : a = c
    · simp [z]
    · have z2 : ¬ c = a := fun y => z y.symm
      simp [z, z2]
theorem flat_strs (l : List Str) : (l.map V.str).all flatV = true := by
  induction l with
  | nil => rfl
  | cons a l ih => exact ih
theorem forms_tail {K : PySem.W.Frag} {σ : L2.St} {G : Hp} {sl : Addr} {ds : List PyData} {Q' : VK} (h : Dp K G (.ref sl) (.tuple ds)) (sh : SeqAt.shaped (.tuple ds) = true)
    (q : ∀ G', Off (fun _ => False) G G' → Q' (.bl (!(PyData.eqv (.tuple [.str "key"]) (.tuple ds) || PyData.eqv (.tuple [.str "settles"]) (.tuple ds)))) G') :
    tTup (tCons (tTup (tCons (tC (.str "key")) tNil)) (tCons (tTup (tCons (tC (.str "settles")) tNil)) tNil)) σ G fun y H2 => rInD K true (.ref sl) y H2 Q' := by
  refine ⟨by show 1 ≤ sizeLine; decide, fun t1 n1 => ⟨by show 1 ≤ sizeLine; decide, fun t2 n2 => ⟨by show 2 ≤ sizeLine; decide, fun t3 n3 => ?_⟩⟩⟩
  have k1 : Off (fun _ => False) G (upd G t1 (.tup [.str "key"])) := Off.new n1
  have k2 := k1.trans (Off.new (o := .tup [.str "settles"]) n2)
  have k3 := k2.trans (Off.new (o := .tup [.ref t1, .ref t2]) n3)
  have e2 : (upd (upd G t1 (.tup [.str "key"])) t2 (.tup [.str "settles"])) t1 = some (.tup [.str "key"]) := (upd_ne (ne_of_none upd_same n2)).trans upd_same
  have e3 := (upd_ne (o := .tup [.ref t1, .ref t2]) (ne_of_none e2 n3)).trans e2
  have f2 : (upd (upd G t1 (.tup [.str "key"])) t2 (.tup [.str "settles"])) t2 = some (.tup [.str "settles"]) := upd_same
  have f3 := (upd_ne (o := .tup [.ref t1, .ref t2]) (ne_of_none f2 n3)).trans f2
  refine ⟨t3, [.ref t1, .ref t2], [.tuple [.str "key"], .tuple [.str "settles"]], .tuple ds, rfl, .inr (SqT.of upd_same), .cons (.tup (SqT.of e3) (.cons (.str _) .nil)) (.cons (.tup (SqT.of f3) (.cons (.str _) .nil)) .nil),
    dp_off k3 h, ?_, sh, ?_⟩
  · have all : ∀ e ∈ ([.tuple [.str "key"], .tuple [.str "settles"]] : List PyData), SeqAt.shaped e = true := by decide +kernel
    exact all
  · have z := q _ k3
    simpa using z
section
variable {P : Program} {w : World} {K : PySem.W.Frag} {mg : Str → Option Value} {base : Heap}
end
end LW
set_option Elab.async false
set_option linter.all false
set_option maxRecDepth 100000
set_option maxHeartbeats 0
namespace LW
open PySem PySem.Spec PyProof.Rows L2 KV
/-- a loop over enumerate of a list -/
theorem for_enum {K : PySem.W.Frag} {a : Addr} {xs : List V} {g : TG} {tb : TS} {D : Ends} {σ : L2.St} {H : Hp} (Pv : Nat → L2.St → Hp → Prop) (h0 : Pv 0 σ H) (hl : ∀ i σ H, i ≤ xs.length → Pv i σ H → SqL K H a xs)
    (hs : ∀ i x σ H T, xs[i]? = some x → Pv i σ H → H T = none → g (.ref T) σ (upd H T (.tup [.int (i : Nat), x])) fun σ2 H2 => tb { D with nx := Pv (i + 1), ct := Pv (i + 1), bk := D.nx } σ2 H2) (hd : ∀ σ H, Pv xs.length σ H → D.nx σ H) :
    ∃ W : Nat → Nat → L2.St → Hp → Prop, (∃ m, W 0 m σ H) ∧ ∀ i m σ H, W i m σ H →
      ((Ite K a).stop i H ∧ D.nx σ H) ∨ ((Ite K a).go i H ∧ ∃ N : L2.St → Hp → Prop, (∀ σ' H', N σ' H' → ∃ m', m' < m ∧ W (i + 1) m' σ' H') ∧ ∀ x H', (Ite K a).yld i H x H' → g x σ H' fun σ2 H2 => tb { D with nx := N, ct := N, bk := D.nx } σ2 H2) := by
  refine ⟨fun i m σ H => m = xs.length - i ∧ i ≤ xs.length ∧ Pv i σ H, ⟨xs.length, by simp, Nat.zero_le _, h0⟩, ?_⟩
  rintro i m σ H ⟨rfl, hi, p⟩
  have q := hl i σ H hi p
  by_cases hlt : i < xs.length
  · refine .inr ⟨⟨xs, xs[i], q, by simp [hlt]⟩, Pv (i + 1), fun σ' H' p' => ⟨xs.length - (i + 1), by omega, rfl, hlt, p'⟩, fun x H' y => ?_⟩
    obtain ⟨T, x', rfl, hT, rfl, y⟩ := y
    exact hs i x' σ _ T (y xs q) p hT
  · have e : i = xs.length := by omega
    subst e
    exact .inl ⟨⟨xs, q, Nat.le_refl _⟩, hd σ H p⟩
/-- at p: neither a list nor a tuple -/
def NoSq (H : Hp) (p : Addr) : Prop := (∀ xs, ¬ Rd H p (.lst xs)) ∧ ∀ xs, ¬ Rd H p (.tup xs)
theorem NoSq.dK {H : Hp} {p : Addr} {kvs : List (Key × V)} (h : H p = some (.dK kvs)) : NoSq H p := by
  refine ⟨fun xs z => ?_, fun xs z => ?_⟩ <;>
  · rcases z with z | ⟨o, z⟩ <;> rw [h] at z <;> cases z
section
variable {K : PySem.W.Frag} {H H' : Hp} {p : Addr}
theorem sqL_in {a : Addr} {xs : List V} (k : Off (fun a => a = p) H H') (n : NoSq H p) (h : SqL K H a xs) : SqL K H' a xs := by
  rcases h with h | h
  · have z : a ≠ p := fun z => n.1 xs (z ▸ h)
    rcases h with h | ⟨o, h⟩
    · exact .inl (.inl (k _ _ h z))
    · exact .inl (.inr ⟨o, k _ _ h z⟩)
  · exact .inr h
theorem sqT_in {a : Addr} {xs : List V} (k : Off (fun a => a = p) H H') (n : NoSq H p) (h : SqT K H a xs) : SqT K H' a xs := by
  rcases h with h | h
  · have z : a ≠ p := fun z => n.2 xs (z ▸ h)
    rcases h with h | ⟨o, h⟩
    · exact .inl (.inl (k _ _ h z))
    · exact .inl (.inr ⟨o, k _ _ h z⟩)
  · exact .inr h
mutual
theorem dp_in (k : Off (fun a => a = p) H H') (n : NoSq H p) : ∀ {v : V} {d : PyData}, Dp K H v d → Dp K H' v d
  | _, _, .non => .non
  | _, _, .bl b => .bl b
  | _, _, .int i => .int i
  | _, _, .str x => .str x
  | _, _, .lst h r => .lst (sqL_in k n h) (dpAll_in k n r)
  | _, _, .tup h r => .tup (sqT_in k n h) (dpAll_in k n r)
theorem dpAll_in (k : Off (fun a => a = p) H H') (n : NoSq H p) : ∀ {vs : List V} {ds : List PyData}, DpAll K H vs ds → DpAll K H' vs ds
  | _, _, .nil => .nil
  | _, _, .cons h r => .cons (dp_in k n h) (dpAll_in k n r)
end
theorem titK_in (k : Off (fun a => a = p) H H') (n : NoSq H p) : ∀ {kvs : List (Key × V)} {ts : List Tab}, TitK K H kvs ts → TitK K H' kvs ts
  | _, _, .nil => .nil
  | _, _, .cons h r => .cons (dp_in k n h) (titK_in k n r)
theorem titK_snoc {t : Tab} {v : V} (h : Dp K H v (colsD t.2)) : ∀ {kvs : List (Key × V)} {ts : List Tab}, TitK K H kvs ts → TitK K H (kvs ++ [(.inr t.1, v)]) (ts ++ [t])
  | _, _, .nil => .cons h .nil
  | _, _, .cons h0 r => .cons h0 (titK_snoc h r)
theorem titK_len : ∀ {kvs : List (Key × V)} {ts : List Tab}, TitK K H kvs ts → kvs.length = ts.length
  | _, _, .nil => rfl
  | _, _, .cons _ r => congrArg Nat.succ (titK_len r)
end
theorem tabOf_none {ts : List Tab} {x : Str} (h : tabOf ts x = none) : x ∉ ts.map Prod.fst := by
  unfold tabOf at h
  intro z
  obtain ⟨t, ht, e⟩ := List.mem_map.mp z
  have q := List.find?_eq_none.mp h t ht
  exact q (decide_eq_true e)
theorem tabOf_some {ts : List Tab} {x : Str} {t : Tab} (h : tabOf ts x = some t) : x ∈ ts.map Prod.fst := by
  unfold tabOf at h
  have m := List.mem_of_find?_eq_some h
  have e := List.find?_some h
  exact List.mem_map.mpr ⟨t, m, of_decide_eq_true e⟩
/-! ### _law_wrong_book -/
def wrongCols : List Str → List Str → Option (Str × PyData)
  | _, [] => none
  | b, c :: cs => if isT c = false then some ("InvalidName", .str c) else if c ∈ b then some ("DoubleName", .str c) else wrongCols (b ++ [c]) cs
def wrongTabs : List Str → List Tab → Option (Str × PyData)
  | _, [] => none
  | b, t :: ts => if isT t.1 = false then some ("InvalidName", .str t.1) else if t.1 ∈ b then some ("DoubleName", .str t.1) else match wrongCols [] t.2 with
    | some e => some e
    | none => wrongTabs (b ++ [t.1]) ts
def wrongBook (ts : List Tab) (rs : List RB) : Option (Str × PyData) := match wrongTabs [] ts with
  | some e => some e
  | none => wrongs ts rs
theorem wrongCols_bad {b cs : List Str} {c : Str} (h : isT c = false) : wrongCols b (c :: cs) = some (("InvalidName" : Str), PyData.str c) := by
  unfold wrongCols
  rw [if_pos h]
theorem wrongCols_two {b cs : List Str} {c : Str} (h : isT c = true) (m : c ∈ b) : wrongCols b (c :: cs) = some (("DoubleName" : Str), PyData.str c) := by
  unfold wrongCols
  rw [if_neg (by rw [h]; decide), if_pos m]
theorem wrongCols_next {b cs : List Str} {c : Str} (h : isT c = true) (m : c ∉ b) : wrongCols b (c :: cs) = wrongCols (b ++ [c]) cs := by
  rw [wrongCols, if_neg (by rw [h]; decide), if_neg m]
theorem wrongTabs_bad {b : List Str} {t : Tab} {ts : List Tab} (h : isT t.1 = false) : wrongTabs b (t :: ts) = some (("InvalidName" : Str), PyData.str t.1) := by
  unfold wrongTabs
  rw [if_pos h]
theorem wrongTabs_two {b : List Str} {t : Tab} {ts : List Tab} (h : isT t.1 = true) (m : t.1 ∈ b) : wrongTabs b (t :: ts) = some (("DoubleName" : Str), PyData.str t.1) := by
  unfold wrongTabs
  rw [if_neg (by rw [h]; decide), if_pos m]
theorem wrongTabs_cols {b : List Str} {t : Tab} {ts : List Tab} {e : Str × PyData} (h : isT t.1 = true) (m : t.1 ∉ b) (c : wrongCols [] t.2 = some e) : wrongTabs b (t :: ts) = some e := by
  rw [wrongTabs, if_neg (by rw [h]; decide), if_neg m, c]
theorem wrongTabs_next {b : List Str} {t : Tab} {ts : List Tab} (h : isT t.1 = true) (m : t.1 ∉ b) (c : wrongCols [] t.2 = none) : wrongTabs b (t :: ts) = wrongTabs (b ++ [t.1]) ts := by
  rw [wrongTabs, if_neg (by rw [h]; decide), if_neg m, c]
theorem drop_cons {α : Type} {l : List α} {i : Nat} {x : α} (h : l[i]? = some x) : l.drop i = x :: l.drop (i + 1) := by
  obtain ⟨hi, e⟩ := List.getElem?_eq_some_iff.mp h
  rw [List.drop_eq_getElem_cons hi, e]
theorem take_snoc {α : Type} {l : List α} {i : Nat} {x : α} (h : l[i]? = some x) : l.take (i + 1) = l.take i ++ [x] := by
  rw [List.take_add_one, h]
  rfl
def spWrongB (K : PySem.W.Frag) : Sp := fun vs H Q _ => ∃ (v w : V) (ts : List Tab) (rs : List RB) (n mc mt N M : Nat), vs = [v, w] ∧ Dp K H v (tabsD ts) ∧ TabsB n mc mt ts ∧ n ≤ 1000 ∧ mc ≤ 1000 ∧ mt ≤ 1000 ∧
  Dp K H w (rbsD rs) ∧ (∀ r ∈ rs, RbOk N M r) ∧ M ≤ 1000 ∧ rs.length ≤ 1000 ∧ endR K H Q (wrongBook ts rs)
section
variable {P : Program} {w : World} {K : PySem.W.Frag} {mg : Str → Option Value} {base : Heap}
end
end LW
set_option Elab.async false
set_option linter.all false
set_option maxRecDepth 100000
set_option maxHeartbeats 4000000
/-! Own classes made by an __init__ that may raise; own __getitem__ that may raise. -/
namespace KV
open PySem PySem.Spec PyProof.Rows L2
section
variable {X : Cx} {CX : CXT} {k : Nat} {f C : Addr} {fd : FuncData} {ps ks : List Str} {sp : Sp} {E : L2.St → XK} {x : Str} {p pos : Pos} {e a b : Expr} {es : List Expr} {kws : List Keyword} {t tk : TA} {ta tb : TE} {g : List Value → List Value → List Value} {gV : List V → List V → List V}
def tMakeS (C : Addr) (sp : Sp) (E : L2.St → XK) (t : TA) : TE := fun σ H Q => t σ H fun vs H1 => ∀ x dx, H1 x = none → H1 dx = none → dx ≠ x →
  sp (.ref x :: vs) (upd (upd H1 dx (.own x)) x (.ins C dx [])) (fun v H2 => v = .non ∧ Q (.ref x) H2) (E σ)
theorem run_makeS {pins : List (Addr × Obj)} {σ : L2.St} {H : Hp} {s : Shared} {Q : VK} {us : List Value} {vs : List V} (M : Mk X.K C f) (F : FnOk X.prog X.w X.K X.mg X.base CX k f fd ps sp) (hr : Room (k + 1) X.A) (hb : Binds X.K fd ps [])
    (hx : PassesAt CX X σ (E σ)) (I : L2.Inv X pins σ H s) (r : Vals vs us)
    (h : ∀ x dx, H x = none → H dx = none → dx ≠ x → sp (.ref x :: vs) (upd (upd H dx (.own x)) x (.ins C dx [])) (fun v H2 => v = .non ∧ Q (.ref x) H2) (E σ)) :
    wpAny (model X.prog X.w) X.A (call (.ref C) us) (EP X pins σ Q) X.xe s := by
  have hq := h (s.heap.objs.size + 1) s.heap.objs.size (I.hok.fresh (Nat.le_succ _)) (I.hok.fresh (Nat.le_refl _)) (Nat.ne_of_lt (Nat.lt_succ_self _))
  have I2 := Inv.made (C := C) I
  have r2 : Vals (V.ref (s.heap.objs.size + 1) :: vs) (Value.ref (s.heap.objs.size + 1) :: us) := .cons rfl r
  have hl : (Value.ref (s.heap.objs.size + 1) :: us).length = ps.length := by
    have e := r2.length
    rw [F.len _ _ _ _ hq] at e
    exact e.symm
  have b := hb _ (Value.ref (s.heap.objs.size + 1) :: us) I2.kIn (by rw [List.append_nil]; exact hl)
  rw [List.append_nil] at b
  refine wpAny_call (make_map (f := f) I.kIn M.makes M.init (beq_iff_eq.mp M.fn) (codeAny_mono (F.run _ X.stack _ _ ⟨Value.ref (s.heap.objs.size + 1) :: us, []⟩ (Value.ref (s.heap.objs.size + 1) :: us) _ _ (E σ) (hr.make C us [])
    (I2.env0.make C us []) b r2 hq) fun r s' hq' => ?_))
  cases r with
  | error e => exact hx pins _ _ e s' I2 hq'
  | ok fl =>
    cases fl with
    | ret u =>
      obtain ⟨v, H', I3, rv, ev, q3⟩ := I2.after hq'
      subst ev
      exact ⟨rv, ⟨V.ref (s.heap.objs.size + 1), H', I3, rfl, q3⟩⟩
    | next => exact False.elim hq'
    | brk => exact False.elim hq'
    | cont => exact False.elim hq'
theorem pe_makeS (M : Mk X.K C f) (F : FnOk X.prog X.w X.K X.mg X.base CX k f fd ps sp) (hr : Room (k + 1) X.A) (hg : Gl X x) (hm : X.mg x = some (.ref C)) (hb : Binds X.K fd ps []) (hx : ∀ σ, PassesAt CX X σ (E σ))
    (ha : PA X (e :: es) t) (hdb : (x == ("__debug__" : Str)) = false := by decide) (he : starEach (e :: es) X.env = (false, eval e X.env) :: starEach es X.env := by rfl) (hpl : (backTo pos (starEach es X.env)).any (·.1) = false := by rfl) :
    PE X (.Call (.Name x p) (e :: es) [] pos) (tMakeS C sp E t) := by
  refine ⟨fun pins s σ H Q I h => ?_⟩
  refine wpAny_Call_Name_kw (ld_glob I hg hm ?_ hdb)
  refine PySem.W.callWith_K (h₀ := X.base) I.ok.mod.kin M.kp (thn (ha.run pos pins s σ H _ I h) fun us s1 ⟨vs, H1, I1, r, q⟩ => ⟨I1.kIn, ?_⟩) he hpl
  exact run_makeS M F hr hb (hx σ) I1 r q
/-- .. with keywords alone -/
def tMakeKS (C : Addr) (m : Nat) (sp : Sp) (gV : List V → List V → List V) (E : L2.St → XK) (tk : TA) : TE := fun σ H Q => tk σ H fun zs H2 => zs.length = m ∧ ∀ x dx, H2 x = none → H2 dx = none → dx ≠ x →
  sp (gV [.ref x] zs) (upd (upd H2 dx (.own x)) x (.ins C dx [])) (fun v H3 => v = .non ∧ Q (.ref x) H3) (E σ)
theorem run_makeKS {pins : List (Addr × Obj)} {σ : L2.St} {H : Hp} {s : Shared} {Q : VK} {ws : List Value} {zs : List V} (M : Mk X.K C f) (F : FnOk X.prog X.w X.K X.mg X.base CX k f fd ps sp) (hr : Room (k + 1) X.A) (hb : KBn X.K fd ps 1 ks g gV) (hx : PassesAt CX X σ (E σ))
    (I : L2.Inv X pins σ H s) (rz : Vals zs ws) (l2 : zs.length = ks.length)
    (h : ∀ x dx, H x = none → H dx = none → dx ≠ x → sp (gV [.ref x] zs) (upd (upd H dx (.own x)) x (.ins C dx [])) (fun v H2 => v = .non ∧ Q (.ref x) H2) (E σ)) :
    wpAny (model X.prog X.w) X.A (call (.ref C) [] (ks.zip ws)) (EP X pins σ Q) X.xe s := by
  have hq := h (s.heap.objs.size + 1) s.heap.objs.size (I.hok.fresh (Nat.le_succ _)) (I.hok.fresh (Nat.le_refl _)) (Nat.ne_of_lt (Nat.lt_succ_self _))
  have I2 := Inv.made (C := C) I
  have r1 : Vals [V.ref (s.heap.objs.size + 1)] [Value.ref (s.heap.objs.size + 1)] := .cons rfl .nil
  have r2 := hb.rel r1 rz
  refine wpAny_call (make_map (f := f) I.kIn M.makes M.init (beq_iff_eq.mp M.fn) (codeAny_mono (F.run _ X.stack _ _ ⟨[Value.ref (s.heap.objs.size + 1)], ks.zip ws⟩ (g [Value.ref (s.heap.objs.size + 1)] ws) _ _ (E σ) (hr.make C [] (ks.zip ws))
    (I2.env0.make C [] (ks.zip ws)) (hb.to _ [Value.ref (s.heap.objs.size + 1)] ws I2.kIn rfl (rz.length.symm.trans l2)) r2 hq) fun r s' hq' => ?_))
  cases r with
  | error e => exact hx pins _ _ e s' I2 hq'
  | ok fl =>
    cases fl with
    | ret u =>
      obtain ⟨v, H', I3, rv, ev, q3⟩ := I2.after hq'
      subst ev
      exact ⟨rv, ⟨V.ref (s.heap.objs.size + 1), H', I3, rfl, q3⟩⟩
    | next => exact False.elim hq'
    | brk => exact False.elim hq'
    | cont => exact False.elim hq'
theorem pe_makeKS (M : Mk X.K C f) (F : FnOk X.prog X.w X.K X.mg X.base CX k f fd ps sp) (hr : Room (k + 1) X.A) (hg : Gl X x) (hm : X.mg x = some (.ref C)) (hb : KBn X.K fd ps 1 ks g gV) (hx : ∀ σ, PassesAt CX X σ (E σ)) (hkw : PK X kws tk)
    (hall : (backToKw pos (keywordEach kws X.env)).all (·.1.isSome) = true := by rfl) (hks : (backToKw pos (keywordEach kws X.env)).filterMap (·.1) = ks := by rfl) (hdb : (x == ("__debug__" : Str)) = false := by decide)
    (hpl : ((backTo pos (starEach [] X.env)).any (·.1) || (backToKw pos (keywordEach kws X.env)).any (·.1.isNone)) = false := by rfl) :
    PE X (.Call (.Name x p) [] kws pos) (tMakeKS C ks.length sp gV E tk) := by
  refine ⟨fun pins s σ H Q I h => ?_⟩
  refine wpAny_Call_Name_kw (ld_glob I hg hm ?_ hdb)
  refine PySem.W.callWith_KW0 (h₀ := X.base) I.ok.mod.kin M.kp hall ?_ hpl
  refine thn (hkw.run pos pins s σ H _ I h) fun ws s2 ⟨zs, H2, I2, rz, l2, q2⟩ => ⟨I2.kIn, ?_⟩
  rw [hks]
  exact run_makeKS M F hr hb (hx σ) I2 rz l2 q2
/-! ### o[y], by an own __getitem__ -/
def tItemS (C : Addr) (sp : Sp) (E : L2.St → XK) (ta tb : TE) : TE := fun σ H Q => ta σ H fun x H1 => tb σ H1 fun y H2 => ∃ a dx fs, x = .ref a ∧ H2 a = some (.ins C dx fs) ∧ sp [.ref a, y] H2 Q (E σ)
/-- K's words for it -/
structure ItemF (K : PySem.W.Frag) (C f : Addr) : Prop where
  at_ : PySem.W.findIn K (.ref C) "__getitem__" = some (some (.ref f))
  fn : PySem.W.fnIn K f = true
  isf : PySem.W.isFn K (.ref f) = true
theorem pe_itemS (T : ItemF X.K C f) (F : FnOk X.prog X.w X.K X.mg X.base CX k f fd ps sp) (hr : Room (k + 1) X.A) (hb : Binds X.K fd ps []) (hx : ∀ σ, PassesAt CX X σ (E σ)) (ha : PE X a ta) (hb' : PE X b tb)
    (hsl : ∀ x i, subscripted b true x i = runValue (.builtin "lifetime.subscript" ⟨[x, i], []⟩) := by intro _ _; rfl) : PE X (.Subscript a b pos) (tItemS C sp E ta tb) := by
  refine ⟨fun pins s σ H Q I h => ?_⟩
  refine Subscript_ (binT ha hb' I h fun v u s2 x y H2 I2 rx ry q => ?_)
  obtain ⟨z, dx, fs, rfl, hz, q⟩ := q
  cases rx
  obtain ⟨mA, J, _⟩ := ins_get I2.hok hz
  obtain ⟨od, J, _⟩ := J.look
  obtain ⟨m, hF⟩ := I2.fr
  refine PySem.W.sub_K hF I2.ok.mod.kin J T.at_ T.fn T.isf ?_ (hsl _ _)
  have r2 : Vals [V.ref z, y] [Value.ref z, u] := .cons rfl (.cons ry .nil)
  have hl := F.len _ _ _ _ q
  have bt := hb s2 [Value.ref z, u] I2.kIn (by simpa using hl)
  rw [List.append_nil] at bt
  refine wpAny_call (codeAny_mono (F.run X.A.in1 X.stack s2 H2 ⟨[Value.ref z, u], []⟩ [Value.ref z, u] [V.ref z, y] Q (E σ) hr.in1 I2.env0.in1 bt r2 q) fun r s' hq => ?_)
  cases r with
  | error e => exact hx σ pins H2 s2 e s' I2 hq
  | ok fl =>
    cases fl with
    | ret w => exact I2.after hq
    | next => exact False.elim hq
    | brk => exact False.elim hq
    | cont => exact False.elim hq
end
end KV
set_option Elab.async false
set_option linter.all false
set_option maxRecDepth 100000
set_option maxHeartbeats 4000000
/-! bool of a tuple. -/
namespace KV
open PySem
theorem meets_bool_tup (l : Addr) (items : Array Value) (hfit : (items.size : Int) < 2 ^ 63) :
    Meets (Builtin.«bool.__new__» ⟨[.type "bool", .ref l], []⟩) (fun _ R s => PyProof.Rows.IsTup s.heap l items ∧ R (.ok (.ret (.bool (!items.isEmpty)))) { s with toks := s.toks + 1 + 1 }) :=
  Meets.of_wp fun prog w A R s hs => by
    obtain ⟨hl, hs⟩ := hs
    obtain ⟨hp, g, d, tk, os⟩ := s
    have f1 := F.conv_sub_bool
    repeat (any_goals (first | assumption | (with_reducible refine PyProof.Rows.truthy_tuple hl hfit ?_) | wp_step))
    all_goals first | exact ⟨_, rfl, hs⟩ | exact hs | skip
theorem call_bool_tup {prog : Program} {w : World} {A : Around} {E : Value → Shared → Prop} {s : Shared} {l : Addr} {items : Array Value} {Q : Value → Shared → Prop} (hfit : (items.size : Int) < 2 ^ 63) (hl : PyProof.Rows.IsTup s.heap l items)
    (h : Q (.bool (!items.isEmpty)) { s with toks := s.toks + 1 + 1 }) : wpAny (model prog w) A (call (.type "bool") [.ref l]) Q E s :=
  call_bool_1 (meets_bool_tup l items hfit) ⟨hl, rfl, h⟩
section
open PySem.Spec PyProof.Rows L2
variable {X : Cx}
theorem call_boolT : CallR X (.type "bool") (fun xs H Q => ∃ (a : Addr) (zs : List V), xs = [.ref a] ∧ SqT X.K H a zs ∧ Q (.bl (!zs.isEmpty)) H) := by
  intro pins s σ H xs us Q I r h
  obtain ⟨a, zs, rfl, hq, q⟩ := h
  obtain rfl := Vals.ref1 r
  obtain ⟨its, rv, pl, hz⟩ := I.tuple hq
  have hl := line63
  have hlen := rv.length
  refine call_bool_tup (by simp only [List.size_toArray]; omega) pl ?_
  exact ⟨.bl (!zs.isEmpty), H, I.tok _, by rw [isEmpty_of rv]; rfl, q⟩
end
end KV
set_option Elab.async false
set_option linter.all false
set_option maxRecDepth 100000
set_option maxHeartbeats 0
/-! books.py: names. -/
namespace LW
open PySem PySem.Spec PyProof.Rows L2 KV
/-- a raised error: its class, its value in new lists -/
def Raised (K : PySem.W.Frag) (H : Hp) (E : XK) (x : Str) (e : PyData) : Prop := ∀ (u : V) (Fo : Fp) (d : Addr) (H' : Hp), Off (fun _ => False) H H' → H d = none → H' d = some (.xd [("value", u)]) → Ow H' u e Fo → (∀ a, Fo a → H a = none) → E (.ref (He.ga K x)) (some d) H'
theorem Raised.off {K : PySem.W.Frag} {H H1 : Hp} {E : XK} {x : Str} {e : PyData} (h : Raised K H E x e) (k : Off (fun _ => False) H H1) : Raised K H1 E x e :=
  fun u Fo d H' k1 nd ed o f => h u Fo d H' (k.trans k1) (k.none nd fun z => z) ed o fun a z => k.none (f a z) fun z => z
/-- how a check ends -/
def endX (K : PySem.W.Frag) (H : Hp) (Q : VK) (E : XK) : Option (Str × PyData) → Prop
  | none => ∀ H', Off (fun _ => False) H H' → Q .non H'
  | some (x, e) => Raised K H E x e
theorem endX.off {K : PySem.W.Frag} {H H1 : Hp} {Q : VK} {E : XK} {o : Option (Str × PyData)} (h : endX K H Q E o) (k : Off (fun _ => False) H H1) : endX K H1 Q E o := by
  cases o with
  | none => exact fun H' k' => h H' (k.trans k')
  | some z => exact Raised.off h k
/-- raise X(v) -/
theorem raise_of {K : PySem.W.Frag} {C fI : Addr} {v : V} {H1 : Hp} {E' : XK} (T : ErrOk K "value" fI C) (q : ∀ d, H1 d = none → E' (.ref C) (some d) (upd H1 d (.xd [("value", v)]))) :
    [v].length ≤ 1000 ∧ ∀ a, H1 a = none → spInit K "value" (.ref a :: ([v] ++ [])) (upd H1 a (exo a C none))
      (fun v H2 => v = .non ∧ ∃ (d : Addr) (fs : List (Str × V)), H2 a = some (exo a C (some d)) ∧ H2 d = some (exd d fs) ∧ H1 d = none ∧ E' (.ref C) (some d) (upd (del H2 a) d (.xd fs))) (fun _ _ _ => False) := by
  refine ⟨by show 1 ≤ 1000; decide, fun a ha => ⟨a, C, v, rfl, T.oex, T.no, upd_same, fun dx hd hne => ⟨rfl, dx, [("value", v)], ?_, ?_, ?_, ?_⟩⟩⟩
  · unfold exH
    exact upd_same
  · unfold exH
    rw [upd_ne hne]
    exact upd_same
  · rw [upd_ne hne] at hd
    exact hd
  · have hd1 : H1 dx = none := by
      rw [upd_ne hne] at hd
      exact hd
    have e : upd (del (exH (upd H1 a (exo a C none)) a dx C "value" v) a) dx (.xd [("value", v)]) = upd H1 dx (.xd [("value", v)]) := by
      funext b
      by_cases z : b = dx
      · rw [z, upd_same, upd_same]
      · rw [upd_ne z, upd_ne z]
        by_cases y : b = a
        · rw [y, del_same, ha]
        · rw [del_ne y]
          unfold exH
          rw [upd_ne y, upd_ne z, upd_ne y]
    rw [e]
    exact q dx hd1
/-- .. of a text -/
theorem raise_str {K : PySem.W.Frag} {fI : Addr} {x y : Str} {H H1 : Hp} {E : XK} (T : ErrOk K "value" fI (He.ga K x)) (k : Off (fun _ => False) H H1) (q : Raised K H E x (.str y)) :
    [V.str y].length ≤ 1000 ∧ ∀ a, H1 a = none → spInit K "value" (.ref a :: ([V.str y] ++ [])) (upd H1 a (exo a (He.ga K x) none))
      (fun v H2 => v = .non ∧ ∃ (d : Addr) (fs : List (Str × V)), H2 a = some (exo a (He.ga K x) (some d)) ∧ H2 d = some (exd d fs) ∧ H1 d = none ∧ E (.ref (He.ga K x)) (some d) (upd (del H2 a) d (.xd fs))) (fun _ _ _ => False) :=
  raise_of T fun d hd => (q.off k) (.str y) (fun _ => False) d _ (Off.new hd) hd upd_same (.str y fun _ z => z) fun _ z => z.elim
/-- the first error in a name -/
def wrongName (b : List Str) (x : Str) : Option (Str × PyData) := if isT x = false then some ("InvalidName", .str x) else if x ∈ b then some ("DoubleName", .str x) else none
theorem wrongCols_cons (b cs : List Str) (c : Str) : wrongCols b (c :: cs) = match wrongName b c with
    | some e => some e
    | none => wrongCols (b ++ [c]) cs := by
  rw [wrongCols]
  unfold wrongName
  split
  · rfl
  · split
    · rfl
    · rfl
theorem wrongTabs_cons (b : List Str) (t : Tab) (ts : List Tab) : wrongTabs b (t :: ts) = match wrongName b t.1 with
    | some e => some e
    | none => match wrongCols [] t.2 with
      | some e => some e
      | none => wrongTabs (b ++ [t.1]) ts := by
  rw [wrongTabs]
  unfold wrongName
  split
  · rfl
  · split
    · rfl
    · rfl
theorem small_le (c : Nat) : ((!decide (({ cps := #[c] } : Str).cps.toList < ("a" : Str).cps.toList)) && (!decide (("z" : Str).cps.toList < ({ cps := #[c] } : Str).cps.toList))) = small c := by
  have ea : ("a" : Str).cps.toList = [97] := by decide +kernel
  have ez : ("z" : Str).cps.toList = [122] := by decide +kernel
  have ec : ({ cps := #[c] } : Str).cps.toList = [c] := rfl
  rw [ec, ea, ez]
  unfold small
  have h1 : ([c] < [97]) ↔ c < 97 := by simp [List.cons_lt_cons_iff]
  have h2 : ([122] < [c]) ↔ 122 < c := by simp [List.cons_lt_cons_iff]
  rw [decide_eq_decide.mpr h1, decide_eq_decide.mpr h2]
  by_cases x : c < 97
  · have y : ¬ (97 ≤ c ∧ c ≤ 122) := by omega
    rw [decide_eq_true x, decide_eq_false y]
    rfl
  · by_cases z : 122 < c
    · have y : ¬ (97 ≤ c ∧ c ≤ 122) := by omega
      rw [decide_eq_false x, decide_eq_true z, decide_eq_false y]
      rfl
    · have y : (97 ≤ c ∧ c ≤ 122) := by omega
      rw [decide_eq_false x, decide_eq_false z, decide_eq_true y]
      rfl
section
variable {P : Program} {w : World} {K : PySem.W.Frag} {mg : Str → Option Value} {base : Heap}
/-! ### is_name -/
theorem scIsN : FnScope ["text", "letter"] ["text"] (defScope pIsName) := ⟨rfl, rfl, rfl, by decide +kernel, rfl, by decide +kernel, by decide +kernel⟩
theorem ok_isN {f : Addr} {fd : FuncData} {t8 : Nat} (F : FnP K "is_name" pIsName f fd) (ml : mg "len" = none) (ma : mg "all" = none) (m8 : mg "LONGEST_NAME" = some (.int 8 t8)) :
    FnOk P w K mg base CX0 1 f fd ["text"] spIsT := by
  refine F.ok scIsN (fun vs H Q E h => ?_) (fun cdv A outer s H vs Q E hr h => ?_)
  · obtain ⟨x, rfl, _⟩ := h
    rfl
  obtain ⟨x, rfl, ha, hx, q⟩ := h
  refine ⟨_, pss_one (ps_ret (pe_and (pe_chain op_le op_le pe_int (pe_callB call_len_str rfl ml boot_len (pa_cons (pv 0) pa_nil)) (pe_glob (v := .int 8) rfl m8 ⟨_, rfl⟩))
      (pe_one (pe_callB (cr_all rfl) rfl ma (by decide +kernel) (pa_cons (pe_lc (own := [("letter", 1)]) (g := gName 1) (tt := tYes) rfl scIsN.nd (pi_str (pv 0))
          (blkOk_by (own := [("letter", 1)]) (N := ["text", "letter"]) (sc := defScope pIsName) (by decide +kernel))
          (fun _ _ _ _ _ => pg_name (i := 1) scIsN.nd rfl (Or.inl rfl)) (fun _ _ _ _ _ => pts_nil)
          (fun _ _ _ _ _ => pe_chain op_le_str op_le_str pe_str (pv 1) pe_str)) pa_nil))))), ?_⟩
  have no : ¬ False := fun z => z
  have xl : x.length ≤ sizeLine := Nat.le_trans hx (by decide)
  refine ⟨_, rfl, x, rfl, xl, _, _, rfl, rfl, _, rfl, ite2 (fun c1 => ⟨_, _, rfl, rfl, _, rfl, ite2 (fun c2 => ?_) (fun c2 => ?_)⟩) (fun c1 => ⟨_, rfl, iteF ?_⟩)⟩
  rotate_left
  · have e : isT x = false := by
      have : ¬ x.length < 9 := fun z => c2 (decide_eq_true (by omega))
      simp [isT, this]
    rw [← e]
    exact q H (Off.refl _ _)
  · have e : isT x = false := by
      have : ¬ 0 < x.length := fun z => c1 (decide_eq_true (by omega))
      simp [isT, this]
    rw [← e]
    exact q H (Off.refl _ _)
  have l1 : 0 < x.length := by
    have := of_decide_eq_true c1
    omega
  have l2 : x.length < 9 := by
    have := of_decide_eq_true c2
    omega
  have lt : x.cps.toList.length = x.length := by simp [Str.length]
  refine ⟨_, rfl, x, rfl, fun D hD => lc_str (x := x) (fun i H' => H' D = some (.lst ((((x.cps.toList.take i).map small).map V.bl))) ∧ Off (fun _ => False) H H') ⟨upd_same, Off.new hD⟩
    (fun i c H' hc g => ?_) fun H' g => ?_⟩
  · obtain ⟨g1, g2⟩ := g
    have sm := small_le c
    have step : ∀ b : Bool, b = small c → ∃ acc, H' D = some (.lst acc) ∧ acc.length < sizeLine ∧ (upd H' D (.lst (acc ++ [V.bl b]))) D = some (.lst ((((x.cps.toList.take (i + 1)).map small).map V.bl))) ∧ Off (fun _ => False) H (upd H' D (.lst (acc ++ [V.bl b]))) := by
      intro b eb
      refine ⟨_, g1, by rw [List.length_map, List.length_map, List.length_take]; exact small1000 (by omega), ?_, fun a u ea na => ?_⟩
      · rw [upd_same, List.take_add_one, hc, eb, List.map_append, List.map_append]
        rfl
      · rw [upd_ne (fun z => by rw [z, hD] at ea; cases ea)]
        exact g2 a u ea na
    refine ⟨rfl, ?_⟩
    refine Exists.intro _ ⟨rfl, _, _, rfl, rfl, _, rfl, ?_⟩
    refine ite2 (fun b => ⟨_, _, rfl, rfl, ?_⟩) (fun b => ?_)
    · rw [b, Bool.true_and] at sm
      exact step _ sm
    · have b' := Bool.eq_false_iff.mpr b
      rw [b', Bool.false_and] at sm
      exact step _ sm
  · obtain ⟨g1, g2⟩ := g
    rw [List.take_length] at g1
    refine ⟨D, _, rfl, SqL.of g1, ?_⟩
    have e : isT x = (x.cps.toList.map small).all id := by
      have z1 : decide (0 < x.length) = true := decide_eq_true l1
      have z2 : decide (x.length < 9) = true := decide_eq_true l2
      unfold isT
      rw [z1, z2, List.all_map]
      rfl
    rw [← e]
    exact q H' g2
end
end LW
set_option Elab.async false
set_option linter.all false
set_option maxRecDepth 100000
set_option maxHeartbeats 0
/-! books.py: check_name, check_columns, check_tables. -/
namespace LW
open PySem PySem.Spec PyProof.Rows L2 KV
def spChkN (K : PySem.W.Frag) : Sp := fun vs H Q E => ∃ (x : Str) (b : Addr) (bs : List Str), vs = [.str x, .ref b] ∧ Asc x ∧ x.length ≤ 1000 ∧ SqL K H b (bs.map V.str) ∧ endX K H Q E (wrongName bs x)
def spChkC (K : PySem.W.Frag) : Sp := fun vs H Q E => ∃ (c : Addr) (cs : List Str), vs = [.ref c] ∧ (∀ x ∈ cs, Asc x ∧ x.length ≤ 1000) ∧ cs.length ≤ 1000 ∧ SqL K H c (cs.map V.str) ∧ endX K H Q E (wrongCols [] cs)
def spChkT (K : PySem.W.Frag) : Sp := fun vs H Q E => ∃ (v : V) (ts : List Tab) (n mc mt : Nat), vs = [v] ∧ Dp K H v (tabsD ts) ∧ TabsW n mc mt ts ∧ n ≤ 1000 ∧ mc ≤ 1000 ∧ mt ≤ 1000 ∧ endX K H Q E (wrongTabs [] ts)
section
variable {P : Program} {w : World} {K : PySem.W.Frag} {mg : Str → Option Value} {base : Heap}
theorem scChkN : FnScope ["name", "before"] ["name", "before"] (defScope pCheckName) := ⟨rfl, rfl, rfl, by decide +kernel, rfl, by decide +kernel, by decide +kernel⟩
theorem ok_chkN {f fI : Addr} {fd dI dE : FuncData} (F : FnP K "check_name" pCheckName f fd) (T : ErrT P w K mg base dE) (GI : FnOk P w K mg base CX0 1 fI dI ["text"] spIsT) (bI : Binds K dI ["text"] []) (mI : mg "is_name" = some (.ref fI)) (kI : PySem.W.keepIn K (.ref fI) = true) :
    FnOk P w K mg base (L2.CX P w) 3 f fd ["name", "before"] (spChkN K) := by
  have GI2 : FnOk P w K mg base CX0 2 fI dI ["text"] spIsT := GI.mono (by decide)
  have t1 := T.es.ok "InvalidName" (by decide)
  have t2 := T.es.ok "DoubleName" (by decide)
  have g1 := T.g "InvalidName" (by decide)
  have g2 := T.g "DoubleName" (by decide)
  refine F.ok scChkN (fun vs H Q E h => ?_) (fun cdv A outer s H vs Q E hr h => ?_)
  · obtain ⟨x, b, bs, rfl, _⟩ := h
    rfl
  obtain ⟨x, b, bs, rfl, ax, lx, sb, q⟩ := h
  refine ⟨_, (pss_cons (ps_if (pt_not (pt_val (pe_call GI2 hr rfl mI kI bI .nil pass0 (pa_cons (pv 0) pa_nil))))
      (pss_one (ps_raise rfl (takes_of rfl rfl rfl rfl) (pmk_oex t1.oex t1.ini t1.fn T.ini hr T.b .nil pass0 rfl g1 (pa_cons (pv 0) pa_nil)))) pss_nil)
    (pss_one (ps_if (pt_cmpR op_in_seq (pv 0) (pv 1) rfl)
      (pss_one (ps_raise rfl (takes_of rfl rfl rfl rfl) (pmk_oex t2.oex t2.ini t2.fn T.ini hr T.b .nil pass0 rfl g2 (pa_cons (pv 0) pa_nil)))) pss_nil))), ?_⟩
  refine ⟨_, rfl, x, rfl, ax, lx, fun H1 k1 => ⟨_, rfl, ?_⟩⟩
  unfold wrongName at q
  cases hT : isT x with
  | false =>
    rw [if_pos hT] at q
    exact iteT ⟨_, rfl, raise_str t1 k1 q⟩
  | true =>
    rw [if_neg (by rw [hT]; decide)] at q
    refine iteF ⟨_, rfl, _, rfl, b, _, rfl, .inl (sqL_off k1 sb), rfl, flat_strs _, _, rfl, ?_⟩
    rw [inV_strs]
    refine ite2 (fun c => ?_) (fun c => ?_)
    · rw [if_pos (of_decide_eq_true c)] at q
      exact ⟨_, rfl, raise_str t2 k1 q⟩
    · rw [if_neg fun z => c (decide_eq_true z)] at q
      exact q H1 k1
theorem scChkC : FnScope ["columns", "before", "column"] ["columns"] (defScope pCheckColumns) := ⟨rfl, rfl, rfl, by decide +kernel, rfl, by decide +kernel, by decide +kernel⟩
theorem ok_chkC {f fN : Addr} {fd dN : FuncData} (F : FnP K "check_columns" pCheckColumns f fd) (GN : FnOk P w K mg base (L2.CX P w) 3 fN dN ["name", "before"] (spChkN K)) (bN : Binds K dN ["name", "before"] []) (mN : mg "check_name" = some (.ref fN)) (kN : PySem.W.keepIn K (.ref fN) = true) :
    FnOk P w K mg base (L2.CX P w) 4 f fd ["columns"] (spChkC K) := by
  refine F.ok scChkC (fun vs H Q E h => ?_) (fun cdv A outer s H vs Q E hr h => ?_)
  · obtain ⟨c, cs, rfl, _⟩ := h
    rfl
  obtain ⟨ca, cs, rfl, gs, lc, sc, q⟩ := h
  refine ⟨_, (pss_cons (ps_set (i := 1) scChkC.nd rfl (Or.inl rfl) (pe_lst pa_nil))
    (pss_one (ps_for (passes_of rfl) rfl (pi_list (pv 0)) (pg_name (i := 2) scChkC.nd rfl (Or.inl rfl))
      (pss_cons (ps_expr (pe_callS GN hr rfl mN kN bN (fun σ => passAt (takes_of rfl rfl rfl rfl) σ) (pa_cons (pv 2) (pa_cons (pv 1) pa_nil))))
      (pss_one (ps_expr (pe_bm PySem.F.plainAttrs_list PySem.F.slot_list_append PySem.F.type_list_append mt_append (pv 1) (pa_cons (pv 2) pa_nil)))))))), ?_⟩
  have no : ¬ False := fun z => z
  refine ⟨(by show 0 ≤ sizeLine; decide), fun l hl => ?_⟩
  have k0 : Off (fun _ => False) H (upd H l (.lst [])) := Off.new hl
  refine ⟨_, rfl, ca, rfl, ⟨_, sqL_off k0 sc⟩, for_list (K := K) (a := ca) (xs := cs.map V.str) (fun i σ H' => ∃ w2, σ = [some (.ref ca), some (.ref l), w2] ∧ H' l = some (.lst ((cs.take i).map V.str)) ∧ Off (fun _ => False) H H' ∧
      wrongCols [] cs = wrongCols (cs.take i) (cs.drop i))
    ⟨none, rfl, upd_same, k0, rfl⟩ (fun i σ H' _ g => ?_) (fun i x σ H' hx g => ?_) fun σ H' g => ?_⟩
  · obtain ⟨_, _, _, k, _⟩ := g
    exact sqL_off k sc
  · obtain ⟨w2, rfl, el, k, eq⟩ := g
    rw [List.getElem?_map] at hx
    obtain ⟨c, hc, rfl⟩ := Option.map_eq_some_iff.mp hx
    have gc := gs c (List.mem_of_getElem? hc)
    rw [drop_cons hc, wrongCols_cons] at eq
    refine ⟨_, rfl, _, rfl, c, l, cs.take i, rfl, gc.1, gc.2, SqL.of el, ?_⟩
    cases e1 : wrongName (cs.take i) c with
    | some e =>
      rw [e1] at eq
      rw [eq] at q
      exact Raised.off q k
    | none =>
      rw [e1] at eq
      intro G kG
      have elG := kG _ _ el no
      refine ⟨_, rfl, .inl ⟨rfl, _, SqL.of elG⟩, _, rfl, l, _, _, rfl, rfl, elG, ?_, ?_⟩
      · rw [List.length_map, List.length_take]
        exact small1000 (by omega)
      · refine ⟨_, rfl, ?_, fun b o eb nb => ?_, ?_⟩
        · rw [upd_same, take_snoc hc, List.map_append]
          rfl
        · rw [upd_ne (fun z => by rw [z, hl] at eb; cases eb)]
          exact kG _ _ (k b o eb nb) no
        · rw [take_snoc hc]
          exact eq
  · obtain ⟨w2, rfl, el, k, eq⟩ := g
    rw [List.length_map, List.drop_length] at eq
    rw [eq] at q
    exact q H' k
theorem scChkT : FnScope ["tables", "names", "name", "columns"] ["tables"] (defScope pCheckTables) := ⟨rfl, rfl, rfl, by decide +kernel, rfl, by decide +kernel, by decide +kernel⟩
theorem ok_chkT {f fN fC : Addr} {fd dN dC : FuncData} (F : FnP K "check_tables" pCheckTables f fd) (GN : FnOk P w K mg base (L2.CX P w) 3 fN dN ["name", "before"] (spChkN K)) (bN : Binds K dN ["name", "before"] []) (mN : mg "check_name" = some (.ref fN)) (kN : PySem.W.keepIn K (.ref fN) = true)
    (GC : FnOk P w K mg base (L2.CX P w) 4 fC dC ["columns"] (spChkC K)) (bC : Binds K dC ["columns"] []) (mC : mg "check_columns" = some (.ref fC)) (kC : PySem.W.keepIn K (.ref fC) = true) :
    FnOk P w K mg base (L2.CX P w) 5 f fd ["tables"] (spChkT K) := by
  have GN4 : FnOk P w K mg base (L2.CX P w) 4 fN dN ["name", "before"] (spChkN K) := GN.mono (by decide)
  refine F.ok scChkT (fun vs H Q E h => ?_) (fun cdv A outer s H vs Q E hr h => ?_)
  · obtain ⟨v, ts, n, mc, mt, rfl, _⟩ := h
    rfl
  obtain ⟨v, ts, n, mc, mt, rfl, hv, tb, hn, hmc, hmt, q⟩ := h
  refine ⟨_, (pss_cons (ps_set (i := 1) scChkT.nd rfl (Or.inl rfl) (pe_lst pa_nil))
    (pss_one (ps_for (passes_of rfl) rfl (pi_list (pv 0)) (pg_tup rfl (pgs_cons (pg_name (i := 2) scChkT.nd rfl (Or.inl rfl)) (pgs_cons (pg_name (i := 3) scChkT.nd rfl (Or.inl rfl)) pgs_nil)))
      (pss_cons (ps_expr (pe_callS GN4 hr rfl mN kN bN (fun σ => passAt (takes_of rfl rfl rfl rfl) σ) (pa_cons (pv 2) (pa_cons (pv 1) pa_nil))))
      (pss_cons (ps_expr (pe_bm PySem.F.plainAttrs_list PySem.F.slot_list_append PySem.F.type_list_append mt_append (pv 1) (pa_cons (pv 2) pa_nil)))
      (pss_one (ps_expr (pe_callS GC hr rfl mC kC bC (fun σ => passAt (takes_of rfl rfl rfl rfl) σ) (pa_cons (pv 3) pa_nil))))))))), ?_⟩
  have no : ¬ False := fun z => z
  obtain ⟨aw, xw, rfl, qw, rw'⟩ := dp_tabs hv
  have lw : xw.length = ts.length := by rw [dpAll_length rw', List.length_map]
  refine ⟨(by show 0 ≤ sizeLine; decide), fun l hl => ?_⟩
  have k0 : Off (fun _ => False) H (upd H l (.lst [])) := Off.new hl
  refine ⟨_, rfl, aw, rfl, ⟨_, sqL_off k0 qw⟩, for_list (K := K) (a := aw) (xs := xw) (fun i σ H' => ∃ w2 w3, σ = [some (.ref aw), some (.ref l), w2, w3] ∧ H' l = some (.lst (((ts.take i).map Prod.fst).map V.str)) ∧ Off (fun _ => False) H H' ∧
      wrongTabs [] ts = wrongTabs ((ts.take i).map Prod.fst) (ts.drop i))
    ⟨none, none, rfl, upd_same, k0, rfl⟩ (fun i σ H' _ g => ?_) (fun i x σ H' hx g => ?_) fun σ H' g => ?_⟩
  · obtain ⟨_, _, _, _, k, _⟩ := g
    exact sqL_off k qw
  · obtain ⟨w2, w3, rfl, el, k, eq⟩ := g
    obtain ⟨dt, edt, hdt⟩ := dpAll_at rw' hx
    rw [List.getElem?_map] at edt
    obtain ⟨t, et, rfl⟩ := Option.map_eq_some_iff.mp edt
    have bt := tb.each t (List.mem_of_getElem? et)
    obtain ⟨ta, wc, rfl, st, dc⟩ := dp_tab hdt
    obtain ⟨ca, rfl, _⟩ := dp_cols dc
    rw [drop_cons et, wrongTabs_cons] at eq
    refine ⟨ta, [.str t.1, .ref ca], rfl, sqT_off k st, rfl, .str t.1, [.ref ca], rfl, .ref ca, [], rfl, rfl, ?_⟩
    refine ⟨_, rfl, _, rfl, t.1, l, (ts.take i).map Prod.fst, rfl, bt.name.1, Nat.le_trans bt.name.2 hn, SqL.of el, ?_⟩
    cases e1 : wrongName ((ts.take i).map Prod.fst) t.1 with
    | some e =>
      rw [e1] at eq
      rw [eq] at q
      exact Raised.off q k
    | none =>
      rw [e1] at eq
      dsimp only at eq
      intro G kG
      have elG := kG _ _ el no
      have kHG := k.trans kG
      refine ⟨_, rfl, .inl ⟨rfl, _, SqL.of elG⟩, _, rfl, l, _, _, rfl, rfl, elG, ?_, ?_⟩
      · rw [List.length_map, List.length_map, List.length_take]
        have := tb.most
        exact small1000 (by omega)
      · have k2 : Off (fun _ => False) H (upd G l (.lst (((ts.take i).map Prod.fst).map V.str ++ [.str t.1]))) := fun b o eb nb => by
          rw [upd_ne (fun z => by rw [z, hl] at eb; cases eb)]
          exact kHG b o eb nb
        have el2 := upd_same (H := G) (a := l) (o := .lst (((ts.take i).map Prod.fst).map V.str ++ [.str t.1]))
        refine ⟨_, rfl, ca, t.2, rfl, fun x hx => ⟨(bt.good x hx).1, Nat.le_trans (bt.good x hx).2 hn⟩, Nat.le_trans bt.most hmc, dp_cols_ref (dp_off k2 dc), ?_⟩
        cases e2 : wrongCols [] t.2 with
        | some e =>
          rw [e2] at eq
          rw [eq] at q
          exact Raised.off q k2
        | none =>
          rw [e2] at eq
          intro G2 kG2
          refine ⟨_, _, rfl, ?_, k2.trans kG2, ?_⟩
          · rw [take_snoc et, kG2 _ _ el2 no, List.map_append, List.map_append]
            rfl
          · rw [take_snoc et, List.map_append]
            exact eq
  · obtain ⟨w2, w3, rfl, el, k, eq⟩ := g
    rw [lw, List.drop_length] at eq
    rw [eq] at q
    exact q H' k
end
end LW
set_option Elab.async false
set_option linter.all false
set_option maxRecDepth 100000
set_option maxHeartbeats 0
/-! books.py: copied, has_form. -/
namespace LW
open PySem PySem.Spec PyProof.Rows L2 KV
/-- the first thing and the length are as told -/
def formed : RB → Bool
  | ([k, x], some (cs, tl)) => decide ((k = "key" ∧ tl.length = 0) ∨ (k = "settles" ∧ tl.length = 1))
  | _ => false
theorem wrong1_formed {ts : List Tab} {r : RB} (h : formed r = false) : wrong1 ts r = some (("InvalidRule" : Str), rbD r) := by
  obtain ⟨hd, o⟩ := r
  rcases hd with _ | ⟨k, _ | ⟨x, _ | ⟨y, hd⟩⟩⟩
  · rfl
  · rfl
  · rcases o with _ | ⟨cs, tl⟩
    · rfl
    · exact wrong1_not (of_decide_eq_false h)
  · rfl
/-- the forms of rules -/
def formsD : PyData := .tuple [.tuple [.str "key", .int 3], .tuple [.str "settles", .int 4]]
theorem eqv_form (a b : Str) (i j : Int) : PyData.eqv (.tuple [.str a, .int i]) (.tuple [.str b, .int j]) = ((a == b) && (i == j)) := by
  simp [PyData.eqv, PyData.eqvAll]
theorem shaped_form {x : Str} {i : Int} (h : Asc x) : SeqAt.shaped (.tuple [.str x, .int i]) = true := by
  unfold SeqAt.shaped
  simp [PyData.canLay0, PyData.canLayAll0, PyData.depth, PyData.depthAll, strOk_asc h]
theorem form_eq {r : RB} {N M : Nat} (ok : RbOk N M r) {x : Str} {hd : List Str} (h : r.1 = x :: hd) :
    [PyData.tuple [.str "key", .int 3], .tuple [.str "settles", .int 4]].any (fun e => e.eqv (.tuple [.str x, .int (((rbL r).length : Nat) : Int)])) = formed r := by
  obtain ⟨hdl, o⟩ := r
  have h : hdl = x :: hd := h
  subst h
  have no : ∀ n : Nat, n < 3 → [PyData.tuple [.str "key", .int 3], .tuple [.str "settles", .int 4]].any (fun e => e.eqv (.tuple [.str x, .int ((n : Nat) : Int)])) = false := by
    intro n hn
    have e1 : ((3 : Int) == (n : Int)) = false := by
      rw [beq_eq_false_iff_ne]
      omega
    have e2 : ((4 : Int) == (n : Int)) = false := by
      rw [beq_eq_false_iff_ne]
      omega
    simp only [List.any_cons, List.any_nil, eqv_form, e1, e2, Bool.and_false, Bool.or_false]
  have h2 : (x :: hd).length ≤ 2 := ok.head
  rcases hd with _ | ⟨y, _ | ⟨z, hd⟩⟩
  · rcases o with _ | q
    · exact no 1 (by decide)
    · have := ok.two (by simp)
      simp at this
  · rcases o with _ | ⟨cs, tl⟩
    · exact no 2 (by decide)
    · have l : (rbL ([x, y], some (cs, tl))).length = 3 + tl.length := by
        simp [rbL]
        omega
      rw [l]
      simp only [List.any_cons, List.any_nil, eqv_form, Bool.or_false]
      have e1 : ((3 : Int) == ((3 + tl.length : Nat) : Int)) = decide (tl.length = 0) := by
        rw [Bool.eq_iff_iff, beq_iff_eq, decide_eq_true_iff]
        omega
      have e2 : ((4 : Int) == ((3 + tl.length : Nat) : Int)) = decide (tl.length = 1) := by
        rw [Bool.eq_iff_iff, beq_iff_eq, decide_eq_true_iff]
        omega
      have e3 : ∀ s : Str, (s == x) = decide (x = s) := by
        intro s
        rw [Bool.eq_iff_iff, beq_iff_eq, decide_eq_true_iff]
        exact eq_comm
      rw [e1, e2, e3, e3]
      unfold formed
      rw [Bool.eq_iff_iff, decide_eq_true_iff]
      simp only [Bool.or_eq_true, Bool.and_eq_true, decide_eq_true_iff]
  · simp at h2
def spForm (K : PySem.W.Frag) : Sp := fun vs H Q _ => ∃ (v w : V) (r : RB) (N M : Nat), vs = [v, w] ∧ Dp K H v (rbD r) ∧ RbOk N M r ∧ Dp K H w formsD ∧ ∀ H', Off (fun _ => False) H H' → Q (.bl (formed r)) H'
section
variable {P : Program} {w : World} {K : PySem.W.Frag} {mg : Str → Option Value} {base : Heap}
theorem scCopiedP : FnScope ["thing", "part"] ["thing"] (defScope pCopied) := ⟨rfl, rfl, rfl, by decide +kernel, rfl, by decide +kernel, by decide +kernel⟩
theorem ok_copiedP_step {n : Nat} {f : Addr} {fd : FuncData} (F : FnP K "copied" pCopied f fd) (hb : Binds K fd ["thing"] []) (mf : mg "copied" = some (.ref f)) (mi : mg "isinstance" = none) (ml : mg "list" = none) (mt : mg "tuple" = none)
    (G : FnOk P w K mg base CX0 n f fd ["thing"] (spCopied K n)) : FnOk P w K mg base CX0 (n + 1) f fd ["thing"] (spCopied K (n + 1)) := by
  refine F.ok scCopiedP (fun vs H Q E h => ?_) (fun cdv A outer s H vs Q E hr h => ?_)
  · obtain ⟨v, d, b, ms, rfl, _⟩ := h
    rfl
  obtain ⟨v, d, b, ms, rfl, o, hf, hm, hk, q⟩ := h
  refine ⟨_, pss_cons (ps_if (pt_val (pe_callB call_isi rfl mi boot_isinstance (pa_cons (pv 0) (pa_cons (pe_bltn (v := .ty "list") rfl ml boot_list rfl) pa_nil))))
      (pss_one (ps_ret (pe_lc (own := [("part", 1)]) (g := gName 1) (tt := tYes) rfl scCopiedP.nd (pi_list (pv 0)) (blkOk_by (own := [("part", 1)]) (N := ["thing", "part"]) (sc := defScope pCopied) (by decide +kernel))
        (fun _ _ _ _ _ => pg_name (i := 1) scCopiedP.nd rfl (Or.inl rfl)) (fun _ _ _ _ _ => pts_nil)
        (fun _ _ _ _ _ => pe_call G hr rfl mf F.kp hb .nil pass0 (pa_cons (pv 1) pa_nil))))) pss_nil)
    (pss_cons (ps_if (pt_val (pe_callB call_isi rfl mi boot_isinstance (pa_cons (pv 0) (pa_cons (pe_bltn (v := .ty "tuple") rfl mt boot_tuple rfl) pa_nil))))
      (pss_one (ps_ret (pe_callTy call_tuple_of rfl mt boot_tuple (pa_cons (pe_lc (own := [("part", 1)]) (g := gName 1) (tt := tYes) rfl scCopiedP.nd (pi_tup (pv 0)) (blkOk_by (own := [("part", 1)]) (N := ["thing", "part"]) (sc := defScope pCopied) (by decide +kernel))
        (fun _ _ _ _ _ => pg_name (i := 1) scCopiedP.nd rfl (Or.inl rfl)) (fun _ _ _ _ _ => pts_nil)
        (fun _ _ _ _ _ => pe_call G hr rfl mf F.kp hb .nil pass0 (pa_cons (pv 1) pa_nil))) pa_nil)))) pss_nil)
    (pss_one (ps_ret (pv 0)))), ?_⟩
  refine ⟨_, rfl, v, .ty "list", .type (tyName d), .type "list", isList d, rfl, .ty _, dp_ty o, kit_list d, _, rfl, ?_⟩
  by_cases hL : isList d = true
  · rw [hL]
    obtain ⟨a, xs, ds, rfl, rfl, h0, r⟩ := dp_list o hL
    cases ms with
    | nil => exact hf.elim
    | cons m ms =>
    obtain ⟨hl, hfs⟩ := hf
    refine iteT ⟨_, rfl, a, rfl, ⟨xs, h0⟩, fun D hD => lc_list (K := K) (a := a) (xs := xs) (fun i H' => Grow (fun _ => False) H D (ds.take i) H') (Grow.start hD) (fun i H' _ g => ?_) (fun i x H' hx g => ?_) fun H' g => ?_⟩
    · obtain ⟨_, _, _, _, _, _, off⟩ := g
      exact sqL_off off h0
    · exact ⟨rfl, Exists.intro x ⟨rfl, copy_turn r hfs hm (Nat.lt_of_succ_lt_succ hk) hl hD hx g⟩⟩
    · rw [dpAll_length r, List.take_length] at g
      obtain ⟨F', o', f', k'⟩ := g.list hD
      exact q _ F' H' o' f' k'
  · have hL : isList d = false := by simpa using hL
    rw [hL]
    refine iteF ⟨_, rfl, v, .ty "tuple", .type (tyName d), .type "tuple", isTuple d, rfl, .ty _, dp_ty o, kit_tuple d, _, rfl, ?_⟩
    by_cases hT : isTuple d = true
    · rw [hT]
      obtain ⟨a, xs, ds, rfl, rfl, h0, r⟩ := dp_tuple o hT
      cases ms with
      | nil => exact hf.elim
      | cons m ms =>
      obtain ⟨hl, hfs⟩ := hf
      refine iteT ⟨_, rfl, a, rfl, ⟨xs, h0⟩, fun D hD => lc_tup (K := K) (a := a) (xs := xs) (fun i H' => Grow (fun _ => False) H D (ds.take i) H') (Grow.start hD) (fun i H' _ g => ?_) (fun i x H' hx g => ?_) fun H' g => ?_⟩
      · obtain ⟨_, _, _, _, _, _, off⟩ := g
        exact sqT_off off h0
      · exact ⟨rfl, Exists.intro x ⟨rfl, copy_turn r hfs hm (Nat.lt_of_succ_lt_succ hk) hl hD hx g⟩⟩
      · rw [dpAll_length r, List.take_length] at g
        obtain ⟨acc, _, e1, _⟩ := id g
        refine ⟨D, acc, rfl, .inl ⟨SqL.of e1, fun p hp => ?_⟩⟩
        obtain ⟨F', o', f', k'⟩ := g.tuple e1 hp
        exact q _ F' _ o' f' k'
    · have hT : isTuple d = false := by simpa using hT
      rw [hT]
      exact iteF ⟨_, rfl, q v _ H (copy_leaf o hL hT) (fun _ z => z.elim) (Off.refl _ _)⟩
theorem ok_copiedP {f : Addr} {fd : FuncData} (F : FnP K "copied" pCopied f fd) (hb : Binds K fd ["thing"] []) (mf : mg "copied" = some (.ref f)) (mi : mg "isinstance" = none) (ml : mg "list" = none) (mt : mg "tuple" = none) :
    ∀ n : Nat, FnOk P w K mg base CX0 n f fd ["thing"] (spCopied K n)
  | 0 => none_leftN fun vs H Q E => copied_none
  | n + 1 => ok_copiedP_step F hb mf mi ml mt (ok_copiedP F hb mf mi ml mt n)
theorem scForm : FnScope ["thing", "forms"] ["thing", "forms"] (defScope pHasForm) := ⟨rfl, rfl, rfl, by decide +kernel, rfl, by decide +kernel, by decide +kernel⟩
theorem ok_form {f : Addr} {fd : FuncData} (F : FnP K "has_form" pHasForm f fd) (ml : mg "len" = none) (mb : mg "bool" = none) : FnOk P w K mg base CX0 2 f fd ["thing", "forms"] (spForm K) := by
  refine F.ok scForm (fun vs H Q E h => ?_) (fun cdv A outer s H vs Q E hr h => ?_)
  · obtain ⟨v, w, r, N, M, rfl, _⟩ := h
    rfl
  obtain ⟨v, w, r, N, M, rfl, hv, ok, hw, q⟩ := h
  have hu65 : (A.deeper (envOfC "has_form" (defScope pHasForm) s.heap.objs.size f cdv)).units + 65 < cLine := by
    have := hr.un
    omega
  refine ⟨_, pss_one (ps_ret (pe_and (pe_callTy call_boolT rfl mb (by decide +kernel) (pa_cons (pv 0) pa_nil))
    (pe_one (pe_cmpR (op_inD hu65) (pe_tup (pa_cons (pe_ix ix_tup (pv 0) pe_int (fun _ _ => rfl)) (pa_cons (pe_callB call_len_seq rfl ml boot_len (pa_cons (pv 0) pa_nil)) pa_nil))) (pv 1) rfl)))), ?_⟩
  obtain ⟨ra, vs, rfl, sq, da⟩ : ∃ a vs, v = .ref a ∧ SqT K H a vs ∧ DpAll K H vs (rbL r) := by
    cases hv with
    | tup h r => exact ⟨_, _, rfl, h, r⟩
  have lv : vs.length = (rbL r).length := dpAll_length da
  refine ⟨_, rfl, ra, vs, rfl, sq, _, rfl, ?_⟩
  cases hh : r.1 with
  | nil =>
    have ho : r.2 = none := by
      cases h2 : r.2 with
      | none => rfl
      | some z =>
        have := ok.two (by rw [h2]; simp)
        rw [hh] at this
        simp at this
    have er : r = ([], none) := Prod.ext hh ho
    subst er
    have ev : vs = [] := by cases da; rfl
    subst ev
    refine iteF ?_
    exact q H (Off.refl _ _)
  | cons x hd =>
    have e0 : ∃ tl, vs = .str x :: tl := by
      obtain ⟨hdl, o⟩ := r
      have hh : hdl = x :: hd := hh
      subst hh
      rcases o with _ | ⟨cs, tl⟩ <;>
      · cases da with
        | cons h r =>
          cases h
          exact ⟨_, rfl⟩
    obtain ⟨tl, rfl⟩ := e0
    refine iteT ?_
    obtain ⟨fa, xs, rfl, sf, df⟩ : ∃ a xs, w = .ref a ∧ SqT K H a xs ∧ DpAll K H xs [.tuple [.str "key", .int 3], .tuple [.str "settles", .int 4]] := by
      cases hw with
      | tup h r => exact ⟨_, _, rfl, h, r⟩
    have gx : Asc x := (ok.hg x (by rw [hh]; simp)).1
    refine ⟨_, rfl, ra, _, 0, _, rfl, rfl, sq, atI_nat (j := 0) rfl, _, rfl, ra, _, rfl, .inr sq, (by show 2 ≤ sizeLine; decide), fun t nt => ?_⟩
    have k1 : Off (fun _ => False) H (upd H t (.tup [.str x, .int ((V.str x :: tl).length : Nat)])) := Off.new nt
    refine ⟨_, rfl, fa, xs, _, .tuple [.str x, .int ((V.str x :: tl).length : Nat)], rfl, .inr (sqT_off k1 sf), dpAll_off k1 df, .tup (SqT.of upd_same) (.cons (.str _) (.cons (.int _) .nil)), ?_, shaped_form gx, ?_⟩
    · have all : ∀ e ∈ ([.tuple [.str "key", .int 3], .tuple [.str "settles", .int 4]] : List PyData), SeqAt.shaped e = true := by decide +kernel
      exact all
    · have fe := form_eq ok hh
      rw [← lv] at fe
      rw [if_neg (by decide), fe]
      exact q _ k1
end
end LW
set_option Elab.async false
set_option linter.all false
set_option maxRecDepth 100000
set_option maxHeartbeats 0
/-! books.py: book[name], check_rule. -/
namespace LW
open PySem PySem.Spec PyProof.Rows L2 KV
/-- what the text says of the class -/
structure BookT (K : PySem.W.Frag) (mg : Str → Option Value) : Prop where
  cl : L2.Cls K (He.ga K "Book")
  n1 : NoAttr K (He.ga K "Book") "_tables"
  n2 : NoAttr K (He.ga K "Book") "_rules"
  mkr : Mk K (He.ga K "Book") (He.ma K (He.ga K "Book") "__init__")
  g : mg "Book" = some (.ref (He.ga K "Book"))
  it : ItemF K (He.ga K "Book") (He.ma K (He.ga K "Book") "__getitem__")
/-- at b: a book of these tables -/
def BookAt (K : PySem.W.Frag) (H : Hp) (b : Addr) (ts : List Tab) : Prop := ∃ dx fs v, H b = some (.ins (He.ga K "Book") dx fs) ∧ fs.lookup ("_tables" : Str) = some v ∧ Dp K H v (tabsD ts)
theorem BookAt.off {K : PySem.W.Frag} {H H' : Hp} {b : Addr} {ts : List Tab} (h : BookAt K H b ts) (k : Off (fun _ => False) H H') : BookAt K H' b ts := by
  obtain ⟨dx, fs, v, h1, h2, h3⟩ := h
  exact ⟨dx, fs, v, k _ _ h1 fun z => z, h2, dp_off k h3⟩
def itemX (K : PySem.W.Frag) (H : Hp) (Q : VK) (E : XK) (x : Str) : Option Tab → Prop
  | some t => ∀ l H', H l = none → H' l = some (.lst (t.2.map V.str)) → Off (fun _ => False) H H' → Q (.ref l) H'
  | none => Raised K H E "UnknownTable" (.str x)
def spItem (K : PySem.W.Frag) : Sp := fun vs H Q E => ∃ (b : Addr) (x : Str) (ts : List Tab), vs = [.ref b, .str x] ∧ BookAt K H b ts ∧ itemX K H Q E x (tabOf ts x)
def spChkR (K : PySem.W.Frag) : Sp := fun vs H Q E => ∃ (b : Addr) (v : V) (ts : List Tab) (r : RB) (N M : Nat), vs = [.ref b, v] ∧ BookAt K H b ts ∧ Dp K H v (rbD r) ∧ RbOk N M r ∧ M ≤ 1000 ∧ endX K H Q E (wrong1 ts r)
theorem formed_ok {r : RB} (h : formed r = true) : ∃ k x cs tl, r = ([k, x], some (cs, tl)) ∧ ((k = "key" ∧ tl.length = 0) ∨ (k = "settles" ∧ tl.length = 1)) := by
  obtain ⟨hd, o⟩ := r
  rcases hd with _ | ⟨k, _ | ⟨x, _ | ⟨y, hd⟩⟩⟩
  · cases h
  · cases h
  · rcases o with _ | ⟨cs, tl⟩
    · cases h
    · exact ⟨k, x, cs, tl, rfl, of_decide_eq_true h⟩
  · cases h
theorem tabOf_cons_yes {t : Tab} {ts : List Tab} {x : Str} (h : t.1 = x) : tabOf (t :: ts) x = some t := by simp [tabOf, List.find?_cons, h]
theorem tabOf_cons_no {t : Tab} {ts : List Tab} {x : Str} (h : ¬ t.1 = x) : tabOf (t :: ts) x = tabOf ts x := by simp [tabOf, List.find?_cons, h]
section
variable {P : Program} {w : World} {K : PySem.W.Frag} {mg : Str → Option Value} {base : Heap}
theorem scItem : FnScope ["self", "name", "table", "columns"] ["self", "name"] (defScope pBook_getitem) := ⟨rfl, rfl, rfl, by decide +kernel, rfl, by decide +kernel, by decide +kernel⟩
theorem ok_item {f : Addr} {fd dE : FuncData} (F : FunD K "__getitem__" "Book.__getitem__" (defArgs pBook_getitem) (defBody pBook_getitem) (defScope pBook_getitem) [] [] f fd) (T : ErrT P w K mg base dE) (B : BookT K mg) (mL : mg "list" = none) :
    FnOk P w K mg base (L2.CX P w) 3 f fd ["self", "name"] (spItem K) := by
  have t1 := T.es.ok "UnknownTable" (by decide)
  have g1 := T.g "UnknownTable" (by decide)
  refine F.ok scItem (fun vs H Q E h => ?_) (fun cdv A outer s H vs Q E hr h => ?_)
  · obtain ⟨b, x, ts, rfl, _⟩ := h
    rfl
  obtain ⟨b, x, ts, rfl, hb, q⟩ := h
  refine ⟨_, (pss_cons (ps_for (passes_of rfl) rfl (pi_list (pe_fld (pv 0) rfl)) (pg_tup rfl (pgs_cons (pg_name (i := 2) scItem.nd rfl (Or.inl rfl)) (pgs_cons (pg_name (i := 3) scItem.nd rfl (Or.inl rfl)) pgs_nil)))
      (pss_one (ps_if (pt_cmpR op_eq (pv 2) (pv 1) (nomark _)) (pss_one (ps_ret (pe_callTy call_list_of rfl mL boot_list (pa_cons (pv 3) pa_nil)))) pss_nil)))
    (pss_one (ps_raise rfl (takes_of rfl rfl rfl rfl) (pmk_oex t1.oex t1.ini t1.fn T.ini hr T.b .nil pass0 rfl g1 (pa_cons (pv 1) pa_nil))))), ?_⟩
  have no : ¬ False := fun z => z
  obtain ⟨dx, fs, v, h1, h2, h3⟩ := hb
  obtain ⟨aw, xw, rfl, qw, rw'⟩ := dp_tabs h3
  have lw : xw.length = ts.length := by rw [dpAll_length rw', List.length_map]
  refine ⟨_, rfl, b, _, dx, fs, _, rfl, h1, B.cl, B.n1, h2, aw, rfl, ⟨_, qw⟩, for_list (K := K) (a := aw) (xs := xw) (fun i σ H' => ∃ w2 w3, σ = [some (.ref b), some (.str x), w2, w3] ∧ Off (fun _ => False) H H' ∧ tabOf ts x = tabOf (ts.drop i) x)
    ⟨none, none, rfl, Off.refl _ _, rfl⟩ (fun i σ H' _ g => ?_) (fun i y σ H' hy g => ?_) fun σ H' g => ?_⟩
  · obtain ⟨_, _, _, k, _⟩ := g
    exact sqL_off k qw
  · obtain ⟨w2, w3, rfl, k, eq⟩ := g
    obtain ⟨dt, edt, hdt⟩ := dpAll_at rw' hy
    rw [List.getElem?_map] at edt
    obtain ⟨t, et, rfl⟩ := Option.map_eq_some_iff.mp edt
    obtain ⟨ta, wc, rfl, st, dc⟩ := dp_tab hdt
    obtain ⟨ca, rfl, _⟩ := dp_cols dc
    rw [drop_cons et] at eq
    refine ⟨ta, [.str t.1, .ref ca], rfl, sqT_off k st, rfl, .str t.1, [.ref ca], rfl, .ref ca, [], rfl, rfl, ?_⟩
    refine ⟨_, rfl, _, rfl, rfl, _, rfl, ite2 (fun c => ?_) (fun c => ?_)⟩
    · have ex : t.1 = x := V.str.inj (of_decide_eq_true c)
      rw [tabOf_cons_yes ex] at eq
      rw [eq] at q
      refine ⟨_, rfl, ca, _, rfl, .inl (dp_cols_ref (dp_off k dc)), fun l hl => ?_⟩
      exact q l _ (k.none hl no) upd_same (k.trans (Off.new hl))
    · have ex : ¬ t.1 = x := fun z => c (decide_eq_true (by rw [z]))
      rw [tabOf_cons_no ex] at eq
      exact ⟨_, _, rfl, k, eq⟩
  · obtain ⟨w2, w3, rfl, k, eq⟩ := g
    rw [lw, List.drop_length] at eq
    rw [eq] at q
    exact ⟨_, rfl, raise_str t1 k q⟩
theorem scChkR : FnScope ["book", "rule", "known", "column"] ["book", "rule"] (defScope pCheckRule) := ⟨rfl, rfl, rfl, by decide +kernel, rfl, by decide +kernel, by decide +kernel⟩
theorem ok_chkR {f fF fC : Addr} {fd dE dF dC dI : FuncData} {RF : Addr} (F : FnP K "check_rule" pCheckRule f fd) (T : ErrT P w K mg base dE) (B : BookT K mg)
    (GF : FnOk P w K mg base CX0 2 fF dF ["thing", "forms"] (spForm K)) (bF : Binds K dF ["thing", "forms"] []) (mF : mg "has_form" = some (.ref fF)) (kF : PySem.W.keepIn K (.ref fF) = true)
    (GC : FnOk P w K mg base CX0 6 fC dC ["thing"] (spCopied K 6)) (bC : Binds K dC ["thing"] []) (mC : mg "copied" = some (.ref fC)) (kC : PySem.W.keepIn K (.ref fC) = true)
    (GI : FnOk P w K mg base (L2.CX P w) 3 (He.ma K (He.ga K "Book") "__getitem__") dI ["self", "name"] (spItem K)) (bI : Binds K dI ["self", "name"] [])
    (mR : mg "RULE_FORMS" = some (.ref RF)) (hR : ∀ H, Dp K H (.ref RF) formsD) :
    FnOk P w K mg base (L2.CX P w) 7 f fd ["book", "rule"] (spChkR K) := by
  have GF6 : FnOk P w K mg base CX0 6 fF dF ["thing", "forms"] (spForm K) := GF.mono (by decide)
  have t1 := T.es.ok "InvalidRule" (by decide)
  have g1 := T.g "InvalidRule" (by decide)
  have t2 := T.es.ok "UnknownColumn" (by decide)
  have g2 := T.g "UnknownColumn" (by decide)
  refine F.ok scChkR (fun vs H Q E h => ?_) (fun cdv A outer s H vs Q E hr h => ?_)
  · obtain ⟨b, v, ts, r, N, M, rfl, _⟩ := h
    rfl
  obtain ⟨b, v, ts, r, N, M, rfl, hb, hv, ok, hM, q⟩ := h
  refine ⟨_, (pss_cons (ps_if (pt_not (pt_val (pe_call GF6 hr rfl mF kF bF .nil pass0 (pa_cons (pv 1) (pa_cons (pe_glob (v := .ref RF) rfl mR rfl) pa_nil)))))
      (pss_one (ps_raise rfl (takes_of rfl rfl rfl rfl) (pmk_oex t1.oex t1.ini t1.fn T.ini (hr.mono (by decide)) T.b .nil pass0 rfl g1 (pa_cons (pe_call GC hr rfl mC kC bC .nil pass0 (pa_cons (pv 1) pa_nil)) pa_nil)))) pss_nil)
    (pss_cons (ps_set (i := 2) scChkR.nd rfl (Or.inl rfl) (pe_itemS (C := He.ga K "Book") B.it GI (hr.mono (by decide)) bI (fun σ => passAt (takes_of rfl rfl rfl rfl) σ) (pv 0) (pe_ix ix_tup (pv 1) pe_int (fun _ _ => rfl))))
    (pss_one (ps_for (passes_of rfl) rfl (pi_list (pe_lst (StX.pa_star (pe_ix ix_tup (pv 1) pe_int (fun _ _ => rfl)) (StX.pa_star (pe_slice sl_tupW (pv 1) (po_some pe_int) po_none) pa_nil)))) (pg_name (i := 3) scChkR.nd rfl (Or.inl rfl))
      (pss_one (ps_if (pt_cmpR op_notIn_seq (pv 3) (pv 2) rfl)
        (pss_one (ps_raise rfl (takes_of rfl rfl rfl rfl) (pmk_oex t2.oex t2.ini t2.fn T.ini (hr.mono (by decide)) T.b .nil pass0 rfl g2 (pa_cons (pv 3) pa_nil)))) pss_nil)))))), ?_⟩
  have no : ¬ False := fun z => z
  refine ⟨_, rfl, v, .ref RF, r, N, M, rfl, hv, ok, hR _, fun H1 k1 => ⟨_, rfl, ?_⟩⟩
  cases hf : formed r with
  | false =>
    rw [wrong1_formed hf] at q
    refine iteT ⟨_, rfl, v, rbD r, N, [5, M], rfl, dp_off k1 hv, fit_rb ok, by simp; omega, (by show 2 < 6; decide), fun v' Fo H2 o2 fr2 k2 => raise_of t1 fun d hd => ?_⟩
    have k3 := k2.trans (Off.new (o := .xd [("value", v')]) hd)
    refine (Raised.off q k1) v' Fo d _ k3 (k2.none hd no) upd_same (o2.keep (Off.new hd) (fun _ z => z.elim) fun _ _ z => z) fr2
  | true =>
    obtain ⟨k0, x0, cs, tl, rfl, fm⟩ := formed_ok hf
    have w1 := wrong1_yes (ts := ts) (x := x0) (cs := cs) fm
    rw [w1] at q
    obtain ⟨lc, gc, lt, gt⟩ := ok.cs cs tl rfl
    obtain ⟨ra, vs, rfl, sq, da⟩ : ∃ a vs, v = .ref a ∧ SqT K H a vs ∧ DpAll K H vs (rbL ([k0, x0], some (cs, tl))) := by
      cases hv with
      | tup h r => exact ⟨_, _, rfl, h, r⟩
    obtain ⟨ca, rfl, dc⟩ : ∃ ca, vs = .str k0 :: .str x0 :: .ref ca :: tl.map V.str ∧ Dp K H (.ref ca) (colsD cs) := by
      cases da with
      | cons h r =>
        cases h
        cases r with
        | cons h r =>
          cases h
          cases r with
          | cons h r =>
            obtain ⟨ca, rfl, _⟩ := dp_cols h
            exact ⟨ca, by rw [dpAll_strs r], h⟩
    have lv : (V.str k0 :: V.str x0 :: V.ref ca :: tl.map V.str).length = 3 + tl.length := by
      simp
      omega
    have at1 : atI (V.str k0 :: V.str x0 :: V.ref ca :: tl.map V.str) 1 = some (V.str x0) := atI_nat (j := 1) rfl
    have at2 : atI (V.str k0 :: V.str x0 :: V.ref ca :: tl.map V.str) 2 = some (V.ref ca) := atI_nat (j := 2) rfl
    have hb1 := hb.off k1
    obtain ⟨dx, fs, v1, h1, h2, h3⟩ := id hb1
    refine iteF ⟨_, rfl, _, rfl, ra, _, 1, _, rfl, rfl, sqT_off k1 sq, at1, b, dx, fs, rfl, h1, b, x0, ts, rfl, hb1, ?_⟩
    cases e1 : tabOf ts x0 with
    | none =>
      rw [e1] at q
      exact Raised.off q k1
    | some t =>
      rw [e1] at q
      dsimp only at q
      intro l H2 _ el k2
      have k12 := k1.trans k2
      refine ⟨_, rfl, ra, _, 2, _, rfl, rfl, sqT_off k12 sq, at2, ca, _, rfl, .inr (dp_cols_ref (dp_off k12 dc)), _, rfl, _, rfl, ra, _, rfl, sqT_off k12 sq, fun _ p3 hp3 => ?_, fun c => by rw [lv] at c; simp [HT.sIx] at c⟩
      have ecut3 : cutV (V.str k0 :: V.str x0 :: V.ref ca :: tl.map V.str) (some 3) none = tl.map V.str := by
        rw [cutV_tail (by decide)]
        rfl
      rw [ecut3]
      have k3 := k12.trans (Off.new (o := .tup (tl.map V.str)) hp3)
      have k23 := k2.trans (Off.new (o := .tup (tl.map V.str)) hp3)
      have e3 : cs.map V.str ++ (tl.map V.str ++ []) = (cs ++ tl).map V.str := by simp
      refine ⟨p3, _, rfl, .inl (SqT.of upd_same), ?_, fun m hm => ?_⟩
      · rw [e3, List.length_map, List.length_append]
        exact Nat.le_trans (m := 1002) (by omega) (by decide)
      rw [e3]
      have em := upd_same (H := upd H2 p3 (.tup (tl.map V.str))) (a := m) (o := .lst ((cs ++ tl).map V.str))
      have k4 := k3.trans (Off.new (o := .lst ((cs ++ tl).map V.str)) hm)
      have el4 := (Off.new (G := fun _ => False) (o := .lst ((cs ++ tl).map V.str)) hm) _ _ ((Off.new (G := fun _ => False) (o := .tup (tl.map V.str)) hp3) _ _ el no) no
      generalize upd (upd H2 p3 (.tup (tl.map V.str))) m (.lst ((cs ++ tl).map V.str)) = G at em k4 el4 ⊢
      refine ⟨m, rfl, ⟨_, SqL.of em⟩, for_list (K := K) (a := m) (xs := (cs ++ tl).map V.str) (fun i σ H' => ∃ w3, σ = [some (.ref b), some (.ref ra), some (.ref l), w3] ∧ Off (fun _ => False) G H' ∧
          (cs ++ tl).find? (fun c => !decide (c ∈ t.2)) = ((cs ++ tl).drop i).find? fun c => !decide (c ∈ t.2))
        ⟨none, rfl, Off.refl _ _, rfl⟩ (fun i σ H' _ g => ?_) (fun i y σ H' hy g => ?_) fun σ H' g => ?_⟩
      · obtain ⟨_, _, k, _⟩ := g
        exact SqL.of (k _ _ em no)
      · obtain ⟨w3, rfl, k, eq⟩ := g
        rw [List.getElem?_map] at hy
        obtain ⟨c, hc, rfl⟩ := Option.map_eq_some_iff.mp hy
        rw [drop_cons hc, List.find?_cons] at eq
        refine ⟨_, rfl, _, rfl, l, _, rfl, .inl (SqL.of (k _ _ el4 no)), rfl, flat_strs _, _, rfl, ?_⟩
        rw [if_pos rfl, inV_strs]
        refine ite2 (fun z => ?_) (fun z => ?_)
        · rw [z] at eq
          rw [eq] at q
          exact ⟨_, rfl, raise_str t2 (k4.trans k) q⟩
        · rw [Bool.eq_false_iff.mpr z] at eq
          exact ⟨_, rfl, k, eq⟩
      · obtain ⟨w3, rfl, k, eq⟩ := g
        rw [List.length_map, List.drop_length] at eq
        rw [eq] at q
        exact q H' (k4.trans k)
end
end LW
set_option Elab.async false
set_option linter.all false
set_option maxRecDepth 100000
set_option maxHeartbeats 0
/-! books.py: Book(..), tables, rules. -/
namespace LW
open PySem PySem.Spec PyProof.Rows L2 KV
/-- a def that stands: its promise, its binding, its name -/
structure Dn (P : Program) (w : World) (K : PySem.W.Frag) (mg : Str → Option Value) (base : Heap) (k : Nat) (x : Str) (ps : List Str) (sp : Sp) (f : Addr) (fd : FuncData) : Prop where
  g : FnOk P w K mg base CX0 k f fd ps sp
  b : Binds K fd ps []
  m : mg x = some (.ref f)
  kp : PySem.W.keepIn K (.ref f) = true
structure DnC (P : Program) (w : World) (K : PySem.W.Frag) (mg : Str → Option Value) (base : Heap) (k : Nat) (x : Str) (ps : List Str) (sp : Sp) (f : Addr) (fd : FuncData) : Prop where
  g : FnC P w K mg base CX0 k f fd ps sp
  b : Binds K fd ps []
  m : mg x = some (.ref f)
  kp : PySem.W.keepIn K (.ref f) = true
theorem NoSq.ins {H : Hp} {p C dx : Addr} {fs : List (Str × V)} (h : H p = some (.ins C dx fs)) : NoSq H p := by
  refine ⟨fun xs z => ?_, fun xs z => ?_⟩ <;>
  · rcases z with z | ⟨o, z⟩ <;> rw [h] at z <;> cases z
theorem Off.in {H H' : Hp} {p : Addr} (k : Off (fun _ => False) H H') : Off (fun a => a = p) H H' := k.mono fun _ z => z.elim
theorem lookup_one (f : Str) (v : V) : List.lookup f (putF f v []) = some v := by simp [putF, List.lookup]
theorem put_two (v1 v2 : V) : putF "_rules" v2 (putF "_tables" v1 []) = [(("_tables" : Str), v1), (("_rules" : Str), v2)] := by
  have h : ¬ ("_tables" : Str) = "_rules" := by decide +kernel
  simp [putF, h]
/-- at b: the book of these tables and rules -/
def BookOf (K : PySem.W.Frag) (H : Hp) (b : Addr) (ts : List Tab) (rs : List RB) : Prop := ∃ dx v1 v2, H b = some (.ins (He.ga K "Book") dx [("_tables", v1), ("_rules", v2)]) ∧ Dp K H v1 (tabsD ts) ∧ Dp K H v2 (rbsD rs)
theorem BookOf.off {K : PySem.W.Frag} {H H' : Hp} {b : Addr} {ts : List Tab} {rs : List RB} (h : BookOf K H b ts rs) (k : Off (fun _ => False) H H') : BookOf K H' b ts rs := by
  obtain ⟨dx, v1, v2, h1, h2, h3⟩ := h
  exact ⟨dx, v1, v2, k _ _ h1 fun z => z, dp_off k h2, dp_off k h3⟩
/-- the same, its lists its own -/
def BookOw (K : PySem.W.Frag) (H : Hp) (b : Addr) (ts : List Tab) (rs : List RB) (F : Fp) : Prop := ∃ dx v1 v2 F1 F2, H b = some (.ins (He.ga K "Book") dx [("_tables", v1), ("_rules", v2)]) ∧ Ow H v1 (tabsD ts) F1 ∧ Ow H v2 (rbsD rs) F2 ∧ (∀ a, F1 a → F a) ∧ ∀ a, F2 a → F a
theorem BookOw.of {K : PySem.W.Frag} {H : Hp} {b : Addr} {ts : List Tab} {rs : List RB} {F : Fp} (h : BookOw K H b ts rs F) : BookOf K H b ts rs := by
  obtain ⟨dx, v1, v2, F1, F2, h1, h2, h3, _⟩ := h
  exact ⟨dx, v1, v2, h1, h2.dp, h3.dp⟩
theorem BookOw.keep {K : PySem.W.Frag} {H H' : Hp} {b : Addr} {ts : List Tab} {rs : List RB} {F G : Fp} (h : BookOw K H b ts rs F) (k : Off G H H') (hG : ∀ a, G a → ∃ xs, H a = some (.lst xs)) (n : ∀ a, F a → ¬ G a) : BookOw K H' b ts rs F := by
  obtain ⟨dx, v1, v2, F1, F2, h1, h2, h3, s1, s2⟩ := h
  refine ⟨dx, v1, v2, F1, F2, k _ _ h1 fun z => ?_, h2.keep k hG fun a z => n a (s1 a z), h3.keep k hG fun a z => n a (s2 a z), s1, s2⟩
  obtain ⟨xs, e⟩ := hG b z
  rw [h1] at e
  cases e
theorem BookOw.off {K : PySem.W.Frag} {H H' : Hp} {b : Addr} {ts : List Tab} {rs : List RB} {F : Fp} (h : BookOw K H b ts rs F) (k : Off (fun _ => False) H H') : BookOw K H' b ts rs F := h.keep k (fun _ z => z.elim) fun _ _ z => z
theorem BookOw.dom {K : PySem.W.Frag} {H : Hp} {b : Addr} {ts : List Tab} {rs : List RB} {F : Fp} (h : BookOw K H b ts rs F) : ∃ F', BookOw K H b ts rs F' ∧ (∀ a, F' a → F a) ∧ ∀ a, F' a → ∃ xs, H a = some (.lst xs) := by
  obtain ⟨dx, v1, v2, F1, F2, h1, h2, h3, s1, s2⟩ := h
  exact ⟨fun a => F1 a ∨ F2 a, ⟨dx, v1, v2, F1, F2, h1, h2, h3, fun a => .inl, fun a => .inr⟩, fun a z => z.elim (s1 a) (s2 a), fun a z => z.elim (h2.dom a) (h3.dom a)⟩
/-- owned data over the change of a thing that is neither a list nor a tuple -/
theorem ow_ins {H : Hp} {p : Addr} {o : HO} (n : NoSq H p) {v : V} {d : PyData} {F : Fp} (h : Ow H v d F) : Ow (upd H p o) v d F := by
  have k : Off (fun a => a = p) H (upd H p o) := Off.upd rfl
  have key : (∀ {v : V} {d : PyData} {F : Fp}, Ow H v d F → Ow (upd H p o) v d F) := by
    intro v d F h
    refine Ow.rec (motive_1 := fun v d F _ => Ow (upd H p o) v d F) (motive_2 := fun vs ds F _ => OwAll (upd H p o) vs ds F) ?_ ?_ ?_ ?_ ?_ ?_ ?_ ?_ h
    · exact fun e => .non e
    · exact fun b e => .bl b e
    · exact fun i e => .int i e
    · exact fun x e => .str x e
    · intro F G a xs ds h0 _ ne e r
      exact .lst (k _ _ h0 fun z => n.1 xs (by
        have z : a = p := z
        rw [← z]
        exact .inl h0)) r ne e
    · intro F a xs ds h0 _ r
      exact .tup (k _ _ h0 fun z => n.2 xs (by
        have z : a = p := z
        rw [← z]
        exact .inl h0)) r
    · exact fun e => .nil e
    · exact fun _ _ ne e h r => .cons h r ne e
  exact key h
def bookX (K : PySem.W.Frag) (H : Hp) (x : Addr) (ts : List Tab) (rs : List RB) (Q : VK) (E : XK) : Option (Str × PyData) → Prop
  | none => ∀ H' F, BookOw K H' x ts rs F → (∀ a, F a → H a = none) → Off (fun a => a = x) H H' → Q .non H'
  | some (y, e) => ∀ (u : V) (Fo : Fp) (d : Addr) (H' : Hp), Off (fun a => a = x) H H' → H d = none → H' d = some (.xd [("value", u)]) → Ow H' u e Fo → (∀ a, Fo a → H a = none) → E (.ref (He.ga K y)) (some d) H'
theorem bookX_raised {K : PySem.W.Frag} {H H1 : Hp} {x : Addr} {ts : List Tab} {rs : List RB} {Q : VK} {E : XK} {y : Str} {e : PyData} (q : bookX K H x ts rs Q E (some (y, e))) (k : Off (fun a => a = x) H H1) (nx : H x ≠ none) (hx : H1 x ≠ none) : Raised K H1 E y e := by
  intro u Fo d H' k1 nd ed o f
  have non : ∀ a, H1 a = none → H a = none := fun a z => by
    by_cases y : a = x
    · exact absurd (y ▸ z) hx
    · exact k.none z y
  exact q u Fo d H' (k.trans (Off.in k1)) (non d nd) ed o fun a z => non a (f a z)
structure BkB (n mc mt N M L : Nat) (ts : List Tab) (rs : List RB) : Prop where
  tb : TabsW n mc mt ts
  rb : ∀ r ∈ rs, RbOk N M r
  hn : n ≤ 1000
  hmc : mc ≤ 1000
  hmt : mt ≤ 1000
  hM : M ≤ 1000
  lr : rs.length ≤ L
  hL : L ≤ 1000
def spBook (K : PySem.W.Frag) : Sp := fun vs H Q E => ∃ (x dx : Addr) (v w : V) (ts : List Tab) (rs : List RB) (n mc mt N M L : Nat), vs = [.ref x, v, w] ∧ H x = some (.ins (He.ga K "Book") dx []) ∧ Dp K H v (tabsD ts) ∧ Dp K H w (rbsD rs) ∧ BkB n mc mt N M L ts rs ∧
  bookX K H x ts rs Q E (wrongBook ts rs)
section
variable {P : Program} {w : World} {K : PySem.W.Frag} {mg : Str → Option Value} {base : Heap}
theorem scBook : FnScope ["self", "tables", "rules", "rule"] ["self", "tables", "rules"] (defScope pBook_init) := ⟨rfl, rfl, rfl, by decide +kernel, rfl, by decide +kernel, by decide +kernel⟩
theorem ok_book {f fT fC fR : Addr} {fd dT dC dR : FuncData} (F : FunD K "__init__" "Book.__init__" (defArgs pBook_init) (defBody pBook_init) (defScope pBook_init) [] [] f fd) (B : BookT K mg)
    (GT : FnOk P w K mg base (L2.CX P w) 5 fT dT ["tables"] (spChkT K)) (bT : Binds K dT ["tables"] []) (mT : mg "check_tables" = some (.ref fT)) (kT : PySem.W.keepIn K (.ref fT) = true)
    (GC : FnOk P w K mg base CX0 6 fC dC ["thing"] (spCopied K 6)) (bC : Binds K dC ["thing"] []) (mC : mg "copied" = some (.ref fC)) (kC : PySem.W.keepIn K (.ref fC) = true)
    (GR : FnOk P w K mg base (L2.CX P w) 7 fR dR ["book", "rule"] (spChkR K)) (bR : Binds K dR ["book", "rule"] []) (mR : mg "check_rule" = some (.ref fR)) (kR : PySem.W.keepIn K (.ref fR) = true) :
    FnOk P w K mg base (L2.CX P w) 8 f fd ["self", "tables", "rules"] (spBook K) := by
  have GT7 : FnOk P w K mg base (L2.CX P w) 7 fT dT ["tables"] (spChkT K) := GT.mono (by decide)
  have GC7 : FnOk P w K mg base CX0 7 fC dC ["thing"] (spCopied K 6) := GC.mono (by decide)
  refine F.ok scBook (fun vs H Q E h => ?_) (fun cdv A outer s H vs Q E hr h => ?_)
  · obtain ⟨x, dx, v, w, ts, rs, n, mc, mt, N, M, L, rfl, _⟩ := h
    rfl
  obtain ⟨x, dx, v, w, ts, rs, n, mc, mt, N, M, L, rfl, hx, hv, hw, bb, q⟩ := h
  refine ⟨_, (pss_cons (ps_expr (pe_callS GT7 hr rfl mT kT bT (fun σ => passAt (takes_of rfl rfl rfl rfl) σ) (pa_cons (pv 1) pa_nil)))
    (pss_cons (ps_fld (pv 0) (pe_call GC7 hr rfl mC kC bC .nil pass0 (pa_cons (pv 1) pa_nil)) rfl)
    (pss_cons (ps_for (passes_of rfl) rfl (pi_list (pv 2)) (pg_name (i := 3) scBook.nd rfl (Or.inl rfl))
      (pss_one (ps_expr (pe_callS GR hr rfl mR kR bR (fun σ => passAt (takes_of rfl rfl rfl rfl) σ) (pa_cons (pv 0) (pa_cons (pv 3) pa_nil))))))
    (pss_one (ps_fld (pv 0) (pe_call GC7 hr rfl mC kC bC .nil pass0 (pa_cons (pv 2) pa_nil)) rfl))))), ?_⟩
  have no : ¬ False := fun z => z
  have nx : H x ≠ none := by rw [hx]; simp
  refine ⟨_, rfl, v, ts, n, mc, mt, rfl, hv, bb.tb, bb.hn, bb.hmc, bb.hmt, ?_⟩
  unfold wrongBook at q
  cases e1 : wrongTabs [] ts with
  | some z =>
    rw [e1] at q
    exact bookX_raised q (Off.refl _ _) nx nx
  | none =>
    rw [e1] at q
    dsimp only at q
    intro H1 k1
    have hx1 := k1 _ _ hx no
    refine ⟨_, rfl, v, tabsD ts, n, [mt, 2, mc], rfl, dp_off k1 hv, fit_tabsW bb.tb, ?_, (by show 3 < 6; decide), fun v1 F1 H2 o1 fr1 k2 => ?_⟩
    · have h1 := bb.hmt
      have h2 := bb.hmc
      simp
      omega
    have hx2 := k2 _ _ hx1 no
    refine ⟨_, rfl, x, _, dx, [], rfl, hx2, B.cl, B.n1, (by decide), ?_⟩
    have kx : Off (fun a => a = x) H2 (upd H2 x (.ins (He.ga K "Book") dx (putF "_tables" v1 []))) := Off.upd rfl
    have hx3 := upd_same (H := H2) (a := x) (o := .ins (He.ga K "Book") dx (putF "_tables" v1 []))
    have w1 := ow_ins (p := x) (o := .ins (He.ga K "Book") dx (putF "_tables" v1 [])) (NoSq.ins hx2) o1
    have d1 := w1.dp (K := K)
    have w3 := dp_in kx (NoSq.ins hx2) (dp_off k2 (dp_off k1 hw))
    have k3 : Off (fun a => a = x) H (upd H2 x (.ins (He.ga K "Book") dx (putF "_tables" v1 []))) := (Off.in (k1.trans k2)).trans kx
    have gn : ∀ a, upd H2 x (.ins (He.ga K "Book") dx (putF "_tables" v1 [])) a = none → H1 a = none := fun a z => k2.none (by rw [← z, upd_ne (fun y => by rw [y, upd_same] at z; cases z)]) no
    generalize upd H2 x (.ins (He.ga K "Book") dx (putF "_tables" v1 [])) = G at hx3 d1 w1 gn w3 k3 ⊢
    have ba : BookAt K G x ts := ⟨dx, _, v1, hx3, lookup_one _ _, d1⟩
    obtain ⟨aw, xw, rfl, qw, rw'⟩ : ∃ a xs, w = .ref a ∧ SqL K G a xs ∧ DpAll K G xs (rs.map rbD) := by
      cases w3 with
      | lst h r => exact ⟨_, _, rfl, h, r⟩
    have lw : xw.length = rs.length := by rw [dpAll_length rw', List.length_map]
    refine ⟨_, rfl, aw, rfl, ⟨_, qw⟩, for_list (K := K) (a := aw) (xs := xw) (fun i σ H' => ∃ w3, σ = [some (.ref x), some v, some (.ref aw), w3] ∧ Off (fun _ => False) G H' ∧ wrongs ts rs = wrongs ts (rs.drop i))
      ⟨none, rfl, Off.refl _ _, rfl⟩ (fun i σ H' _ g => ?_) (fun i y σ H' hy g => ?_) fun σ H' g => ?_⟩
    · obtain ⟨_, _, k, _⟩ := g
      exact sqL_off k qw
    · obtain ⟨w3, rfl, k, eq⟩ := g
      obtain ⟨dr, edr, hdr⟩ := dpAll_at rw' hy
      rw [List.getElem?_map] at edr
      obtain ⟨r, er, rfl⟩ := Option.map_eq_some_iff.mp edr
      rw [drop_cons er, wrongs] at eq
      refine ⟨_, rfl, _, rfl, x, y, ts, r, N, M, rfl, ba.off k, dp_off k hdr, bb.rb r (List.mem_of_getElem? er), bb.hM, ?_⟩
      cases e2 : wrong1 ts r with
      | some z =>
        rw [e2] at eq
        rw [eq] at q
        exact (bookX_raised q k3 nx (by rw [hx3]; simp)).off k
      | none =>
        rw [e2] at eq
        intro H5 k5
        exact ⟨_, rfl, k.trans k5, eq⟩
    · obtain ⟨w3, rfl, k, eq⟩ := g
      rw [lw, List.drop_length] at eq
      rw [eq] at q
      refine ⟨_, rfl, .ref aw, rbsD rs, N, [L, 5, M], rfl, .lst (sqL_off k qw) (dpAll_off k rw'), fit_rbs bb.lr bb.rb, ?_, (by show 3 < 6; decide), fun v2 F2 H6 o2 fr2 k6 => ?_⟩
      · have h1 := bb.hL
        have h2 := bb.hM
        simp
        omega
      have kk := k.trans k6
      have hx6 := kk _ _ hx3 no
      refine ⟨_, rfl, x, _, dx, _, rfl, hx6, B.cl, B.n2, (by show 1 < 1000; decide), ?_⟩
      have kz : Off (fun a => a = x) H6 (upd H6 x (.ins (He.ga K "Book") dx (putF "_rules" v2 (putF "_tables" v1 [])))) := Off.upd rfl
      have u1 := ow_ins (p := x) (o := .ins (He.ga K "Book") dx (putF "_rules" v2 (putF "_tables" v1 []))) (NoSq.ins hx6) (w1.keep kk (fun _ z => z.elim) fun _ _ z => z)
      have u2 := ow_ins (p := x) (o := .ins (He.ga K "Book") dx (putF "_rules" v2 (putF "_tables" v1 []))) (NoSq.ins hx6) o2
      refine q _ (fun a => F1 a ∨ F2 a) ⟨dx, v1, v2, F1, F2, ?_, u1, u2, fun _ => .inl, fun _ => .inr⟩ (fun a z => ?_) ((k3.trans (Off.in kk)).trans kz)
      · rw [upd_same, put_two]
      · rcases z with z | z
        · exact k1.none (fr1 a z) no
        · exact k1.none (gn a (k.none (fr2 a z) no)) no
end
end LW
set_option Elab.async false
set_option linter.all false
set_option maxRecDepth 100000
set_option maxHeartbeats 0
/-! book.tables, book.rules; _law_caught_of -/
namespace LW
open PySem PySem.Spec PyProof.Rows L2 KV
def spGetT (K : PySem.W.Frag) : Sp := fun vs H Q _ => ∃ (b : Addr) (ts : List Tab) (rs : List RB) (n mc mt N M L : Nat), vs = [.ref b] ∧ BookOf K H b ts rs ∧ BkB n mc mt N M L ts rs ∧
  ∀ v' F' H', Ow H' v' (tabsD ts) F' → (∀ a, F' a → H a = none) → Off (fun _ => False) H H' → Q v' H'
def spGetR (K : PySem.W.Frag) : Sp := fun vs H Q _ => ∃ (b : Addr) (ts : List Tab) (rs : List RB) (n mc mt N M L : Nat), vs = [.ref b] ∧ BookOf K H b ts rs ∧ BkB n mc mt N M L ts rs ∧
  ∀ v' F' H', Ow H' v' (rbsD rs) F' → (∀ a, F' a → H a = none) → Off (fun _ => False) H H' → Q v' H'
/-- how the catch of a book's making ends -/
def caughtX (K : PySem.W.Frag) (H : Hp) (ts : List Tab) (rs : List RB) (Q : VK) : Option (Str × PyData) → Prop
  | none => ∀ b t H', BookOf K H' b ts rs → SqT K H' t [.ref b, .non] → Off (fun _ => False) H H' → Q (.ref t) H'
  | some (y, e) => ∀ a dx t u Fo H', Cau H' a (He.ga K y) dx [("value", u)] → Ow H' u e Fo → (∀ b, Fo b → H b = none) → SqT K H' t [.non, .ref a] → Off (fun _ => False) H H' → Q (.ref t) H'
def spCaught (K : PySem.W.Frag) : Sp := fun vs H Q _ => ∃ (v w : V) (way : Int) (ts : List Tab) (rs : List RB) (n mc mt N M L : Nat), vs = [v, w, .int way] ∧ Dp K H v (tabsD ts) ∧ Dp K H w (rbsD rs) ∧ BkB n mc mt N M L ts rs ∧
  caughtX K H ts rs Q (wrongBook ts rs)
theorem wrongName_mem {b : List Str} {x y : Str} {e : PyData} (h : wrongName b x = some (y, e)) : y ∈ names.tail := by
  unfold wrongName at h
  split at h
  · cases h
    decide
  · split at h
    · cases h
      decide
    · cases h
theorem wrongCols_mem {y : Str} {e : PyData} : ∀ {cs b : List Str}, wrongCols b cs = some (y, e) → y ∈ names.tail
  | [], b, h => by
    rw [wrongCols] at h
    cases h
  | c :: cs, b, h => by
    rw [wrongCols_cons] at h
    cases q : wrongName b c with
    | none =>
      rw [q] at h
      exact wrongCols_mem h
    | some z =>
      rw [q] at h
      cases h
      exact wrongName_mem q
theorem wrongTabs_mem {y : Str} {e : PyData} : ∀ {ts : List Tab} {b : List Str}, wrongTabs b ts = some (y, e) → y ∈ names.tail
  | [], b, h => by
    rw [wrongTabs] at h
    cases h
  | t :: ts, b, h => by
    rw [wrongTabs_cons] at h
    cases q : wrongName b t.1 with
    | some z =>
      rw [q] at h
      cases h
      exact wrongName_mem q
    | none =>
      rw [q] at h
      dsimp only at h
      cases q2 : wrongCols [] t.2 with
      | some z =>
        rw [q2] at h
        cases h
        exact wrongCols_mem q2
      | none =>
        rw [q2] at h
        exact wrongTabs_mem h
theorem wrong1_mem {ts : List Tab} {r : RB} {y : Str} {e : PyData} (h : wrong1 ts r = some (y, e)) : y ∈ names.tail := by
  cases hf : formed r with
  | false =>
    rw [wrong1_formed hf] at h
    cases h
    decide
  | true =>
    obtain ⟨k, x, cs, tl, rfl, fm⟩ := formed_ok hf
    rw [wrong1_yes fm] at h
    cases q : tabOf ts x with
    | none =>
      rw [q] at h
      cases h
      decide
    | some t =>
      rw [q] at h
      dsimp only at h
      cases q2 : (cs ++ tl).find? fun c => !decide (c ∈ t.2) with
      | none =>
        rw [q2] at h
        cases h
      | some c =>
        rw [q2] at h
        cases h
        decide
theorem wrongs_mem {ts : List Tab} {y : Str} {e : PyData} : ∀ {rs : List RB}, wrongs ts rs = some (y, e) → y ∈ names.tail
  | [], h => by
    rw [wrongs] at h
    cases h
  | r :: rs, h => by
    rw [wrongs] at h
    cases q : wrong1 ts r with
    | some z =>
      rw [q] at h
      cases h
      exact wrong1_mem q
    | none =>
      rw [q] at h
      exact wrongs_mem h
theorem wrongBook_mem {ts : List Tab} {rs : List RB} {y : Str} {e : PyData} (h : wrongBook ts rs = some (y, e)) : y ∈ names.tail := by
  unfold wrongBook at h
  cases q : wrongTabs [] ts with
  | some z =>
    rw [q] at h
    cases h
    exact wrongTabs_mem q
  | none =>
    rw [q] at h
    exact wrongs_mem h
section
variable {P : Program} {w : World} {K : PySem.W.Frag} {mg : Str → Option Value} {base : Heap}
theorem scGetT : FnScope ["self"] ["self"] (defScope pBook_tables) := ⟨rfl, rfl, rfl, by decide +kernel, rfl, by decide +kernel, by decide +kernel⟩
theorem ok_getT {f fC : Addr} {fd dC : FuncData} (F : FunD K "tables" "Book.tables" (defArgs pBook_tables) (defBody pBook_tables) (defScope pBook_tables) [] [] f fd) (B : BookT K mg)
    (GC : FnOk P w K mg base CX0 6 fC dC ["thing"] (spCopied K 6)) (bC : Binds K dC ["thing"] []) (mC : mg "copied" = some (.ref fC)) (kC : PySem.W.keepIn K (.ref fC) = true) :
    FnOk P w K mg base CX0 7 f fd ["self"] (spGetT K) := by
  refine F.ok scGetT (fun vs H Q E h => ?_) (fun cdv A outer s H vs Q E hr h => ?_)
  · obtain ⟨b, ts, rs, n, mc, mt, N, M, L, rfl, _⟩ := h
    rfl
  obtain ⟨b, ts, rs, n, mc, mt, N, M, L, rfl, hb, bb, q⟩ := h
  refine ⟨_, pss_one (ps_ret (pe_call GC hr rfl mC kC bC .nil pass0 (pa_cons (pe_fld (pv 0) rfl) pa_nil))), ?_⟩
  obtain ⟨dx, v1, v2, h1, h2, h3⟩ := hb
  refine ⟨_, rfl, b, _, dx, _, v1, rfl, h1, B.cl, B.n1, by simp [List.lookup], v1, tabsD ts, n, [mt, 2, mc], rfl, h2, fit_tabsW bb.tb, ?_, (by show 3 < 6; decide), q⟩
  have h1 := bb.hmt
  have h2 := bb.hmc
  simp
  omega
theorem scGetR : FnScope ["self"] ["self"] (defScope pBook_rules) := ⟨rfl, rfl, rfl, by decide +kernel, rfl, by decide +kernel, by decide +kernel⟩
theorem ok_getR {f fC : Addr} {fd dC : FuncData} (F : FunD K "rules" "Book.rules" (defArgs pBook_rules) (defBody pBook_rules) (defScope pBook_rules) [] [] f fd) (B : BookT K mg)
    (GC : FnOk P w K mg base CX0 6 fC dC ["thing"] (spCopied K 6)) (bC : Binds K dC ["thing"] []) (mC : mg "copied" = some (.ref fC)) (kC : PySem.W.keepIn K (.ref fC) = true) :
    FnOk P w K mg base CX0 7 f fd ["self"] (spGetR K) := by
  refine F.ok scGetR (fun vs H Q E h => ?_) (fun cdv A outer s H vs Q E hr h => ?_)
  · obtain ⟨b, ts, rs, n, mc, mt, N, M, L, rfl, _⟩ := h
    rfl
  obtain ⟨b, ts, rs, n, mc, mt, N, M, L, rfl, hb, bb, q⟩ := h
  refine ⟨_, pss_one (ps_ret (pe_call GC hr rfl mC kC bC .nil pass0 (pa_cons (pe_fld (pv 0) rfl) pa_nil))), ?_⟩
  obtain ⟨dx, v1, v2, h1, h2, h3⟩ := hb
  have ne : (("_rules" : Str) == ("_tables" : Str)) = false := by decide +kernel
  refine ⟨_, rfl, b, _, dx, _, v2, rfl, h1, B.cl, B.n2, by simp [List.lookup, ne], v2, rbsD rs, N, [L, 5, M], rfl, h3, fit_rbs bb.lr bb.rb, ?_, (by show 3 < 6; decide), q⟩
  have h1 := bb.hL
  have h2 := bb.hM
  simp
  omega
end
end LW
set_option Elab.async false
set_option linter.all false
set_option maxRecDepth 100000
set_option maxHeartbeats 0
/-! sizes for _law_right -/
namespace LW
open PySem PySem.Spec PyProof.Rows L2 KV
/-- a drawn rule, as any rule -/
def rbOf : Rul → RB
  | (t, cs, none) => (["key", t], some (cs, []))
  | (t, cs, some c) => (["settles", t], some (cs, [c]))
theorem rbD_of (r : Rul) : rulD r = rbD (rbOf r) := by
  obtain ⟨t, cs, o⟩ := r
  cases o <;> rfl
theorem rbsD_of (rs : List Rul) : rulsD rs = rbsD (rs.map rbOf) := by
  unfold rulsD rbsD
  congr 1
  rw [List.map_map]
  exact List.map_congr_left fun r _ => rbD_of r
theorem rbOk_of {mt mc N M : Nat} {ts : List Tab} {r : Rul} (h : RulOk ts r) (tk : TabsOk mt mc ts) (hN : 8 ≤ N) (hM : mc ≤ M) : RbOk N M (rbOf r) := by
  obtain ⟨t, ht, e1, e2, e3⟩ := h
  have tb := tk.each t ht
  obtain ⟨x, cs, o⟩ := r
  have e1 : x = t.1 := e1
  have e2 : cs.Sublist t.2 := e2
  subst e1
  have gn : Gd N t.1 := tb.name.gd.mono hN
  have gk : Gd N "key" := (gdB_ok (n := 8) (by decide +kernel)).mono hN
  have gs : Gd N "settles" := (gdB_ok (n := 8) (by decide +kernel)).mono hN
  have lc : cs.length ≤ M := Nat.le_trans e2.length_le (Nat.le_trans tb.most hM)
  have gc : ∀ y ∈ cs, Gd N y := fun y hy => (tb.good y (e2.subset hy)).gd.mono hN
  cases o with
  | none =>
    refine ⟨by show 2 ≤ 2; decide, fun y hy => ?_, fun _ => rfl, fun cs' tl e => ?_⟩
    · have hy : y ∈ ([("key" : Str), t.1] : List Str) := hy
      rcases List.mem_cons.mp hy with rfl | hy
      · exact gk
      · rw [List.mem_singleton.mp hy]
        exact gn
    · have e : some (cs, ([] : List Str)) = some (cs', tl) := e
      cases e
      exact ⟨lc, gc, by decide, fun y hy => absurd hy (by simp)⟩
  | some c =>
    refine ⟨by show 2 ≤ 2; decide, fun y hy => ?_, fun _ => rfl, fun cs' tl e => ?_⟩
    · have hy : y ∈ ([("settles" : Str), t.1] : List Str) := hy
      rcases List.mem_cons.mp hy with rfl | hy
      · exact gs
      · rw [List.mem_singleton.mp hy]
        exact gn
    · have e : some (cs, [c]) = some (cs', tl) := e
      cases e
      refine ⟨lc, gc, by show 1 ≤ 2; decide, fun y hy => ?_⟩
      rw [List.mem_singleton.mp hy]
      exact (tb.good c (e3 c rfl)).gd.mono hN
inductive Les : List Nat → List Nat → Prop
  | nil : Les [] []
  | cons {m m' : Nat} {ms ms' : List Nat} (h : m ≤ m') (r : Les ms ms') : Les (m :: ms) (m' :: ms')
theorem fit_wide {b : Nat} : ∀ {ms ms' : List Nat} {d : PyData}, Les ms ms' → Fit b ms d → Fit b ms' d
  | ms, ms', .none, _, _ => by cases ms' <;> trivial
  | ms, ms', .bool _, _, _ => by cases ms' <;> trivial
  | ms, ms', .int i, _, h => by cases ms <;> cases ms' <;> exact h
  | ms, ms', .str x, _, h => by cases ms <;> cases ms' <;> exact h
  | [], _, .list _, _, h => h.elim
  | [], _, .tuple _, _, h => h.elim
  | [], _, .dict _, _, h => h.elim
  | _ :: _, _, .dict _, _, h => h.elim
  | m :: ms, m' :: ms', .list ds, .cons h1 h2, ⟨h3, h4⟩ => ⟨Nat.le_trans h3 h1, fun d hd => fit_wide h2 (h4 d hd)⟩
  | m :: ms, m' :: ms', .tuple ds, .cons h1 h2, ⟨h3, h4⟩ => ⟨Nat.le_trans h3 h1, fun d hd => fit_wide h2 (h4 d hd)⟩
/-- what an error holds -/
def ErrFit (e : PyData) : Prop := Fit 100 [5, 8] e ∧ noInt e = true
theorem errFit_str {n : Nat} {x : Str} (h : Gd n x) (hn : n ≤ 100) : ErrFit (.str x) := ⟨fit_str (h.mono hn), by simp [noInt]⟩
theorem wrongName_fit {n : Nat} {b : List Str} {x y : Str} {e : PyData} (h : wrongName b x = some (y, e)) (g : Gd n x) (hn : n ≤ 100) : ErrFit e := by
  unfold wrongName at h
  split at h
  · cases h
    exact errFit_str g hn
  · split at h
    · cases h
      exact errFit_str g hn
    · cases h
theorem wrongCols_fit {n : Nat} (hn : n ≤ 100) {y : Str} {e : PyData} : ∀ {cs b : List Str}, wrongCols b cs = some (y, e) → (∀ x ∈ cs, Gd n x) → ErrFit e
  | [], b, h, _ => by
    rw [wrongCols] at h
    cases h
  | c :: cs, b, h, g => by
    rw [wrongCols_cons] at h
    cases q : wrongName b c with
    | none =>
      rw [q] at h
      exact wrongCols_fit hn h fun x hx => g x (List.mem_cons_of_mem _ hx)
    | some z =>
      rw [q] at h
      cases h
      exact wrongName_fit q (g c List.mem_cons_self) hn
theorem wrongTabs_fit {n mc : Nat} (hn : n ≤ 100) {y : Str} {e : PyData} : ∀ {ts : List Tab} {b : List Str}, wrongTabs b ts = some (y, e) → (∀ t ∈ ts, TabB n mc t) → ErrFit e
  | [], b, h, _ => by
    rw [wrongTabs] at h
    cases h
  | t :: ts, b, h, g => by
    have bt := g t List.mem_cons_self
    rw [wrongTabs_cons] at h
    cases q : wrongName b t.1 with
    | some z =>
      rw [q] at h
      cases h
      exact wrongName_fit q bt.name hn
    | none =>
      rw [q] at h
      dsimp only at h
      cases q2 : wrongCols [] t.2 with
      | some z =>
        rw [q2] at h
        cases h
        exact wrongCols_fit hn q2 bt.good
      | none =>
        rw [q2] at h
        exact wrongTabs_fit hn h fun x hx => g x (List.mem_cons_of_mem _ hx)
theorem rb_fit {N M : Nat} {r : RB} (ok : RbOk N M r) (hN : N ≤ 100) (hM : M ≤ 8) : ErrFit (rbD r) := by
  refine ⟨fit_wide (.cons (Nat.le_refl _) (.cons hM .nil)) ((fit_rb ok).mono hN), ?_⟩
  unfold rbD
  simp only [noInt]
  exact noInt_rb r
theorem wrong1_fit {N M : Nat} {ts : List Tab} {r : RB} {y : Str} {e : PyData} (h : wrong1 ts r = some (y, e)) (ok : RbOk N M r) (hN : N ≤ 100) (hM : M ≤ 8) : ErrFit e := by
  cases hf : formed r with
  | false =>
    rw [wrong1_formed hf] at h
    cases h
    exact rb_fit ok hN hM
  | true =>
    obtain ⟨k, x, cs, tl, rfl, fm⟩ := formed_ok hf
    obtain ⟨lc, gc, lt, gt⟩ := ok.cs cs tl rfl
    rw [wrong1_yes fm] at h
    cases q : tabOf ts x with
    | none =>
      rw [q] at h
      cases h
      exact errFit_str (ok.hg x (by simp)) hN
    | some t =>
      rw [q] at h
      dsimp only at h
      cases q2 : (cs ++ tl).find? fun c => !decide (c ∈ t.2) with
      | none =>
        rw [q2] at h
        cases h
      | some c =>
        rw [q2] at h
        cases h
        rcases List.mem_append.mp (List.mem_of_find?_eq_some q2) with z | z
        · exact errFit_str (gc c z) hN
        · exact errFit_str (gt c z) hN
theorem wrongs_fit {N M : Nat} (hN : N ≤ 100) (hM : M ≤ 8) {ts : List Tab} {y : Str} {e : PyData} : ∀ {rs : List RB}, wrongs ts rs = some (y, e) → (∀ r ∈ rs, RbOk N M r) → ErrFit e
  | [], h, _ => by
    rw [wrongs] at h
    cases h
  | r :: rs, h, g => by
    rw [wrongs] at h
    cases q : wrong1 ts r with
    | some z =>
      rw [q] at h
      cases h
      exact wrong1_fit q (g r List.mem_cons_self) hN hM
    | none =>
      rw [q] at h
      exact wrongs_fit hN hM h fun x hx => g x (List.mem_cons_of_mem _ hx)
theorem wrongBook_fit {n mc mt N M L : Nat} {ts : List Tab} {rs : List RB} (bb : BkB n mc mt N M L ts rs) (hn : n ≤ 100) (hN : N ≤ 100) (hM : M ≤ 8) {y : Str} {e : PyData} (h : wrongBook ts rs = some (y, e)) : ErrFit e := by
  unfold wrongBook at h
  cases q : wrongTabs [] ts with
  | some z =>
    rw [q] at h
    cases h
    exact wrongTabs_fit hn q bb.tb.each
  | none =>
    rw [q] at h
    exact wrongs_fit hN hM h bb.rb
theorem sz_err {e : PyData} (h : ErrFit e) : Sz 100 [5, 8] e := ⟨h.1, by decide, by decide, by decide, by decide⟩
theorem sz_tabs {n mc mt : Nat} {ts : List Tab} (h : TabsW n mc mt ts) (hn : n ≤ 100) (hc : mc ≤ 8) (ht : mt ≤ 6) : Sz 100 [6, 2, 8] (tabsD ts) :=
  ⟨fit_wide (.cons ht (.cons (Nat.le_refl _) (.cons hc .nil))) ((fit_tabsW h).mono hn), by decide, by decide, by decide, by decide⟩
theorem sz_rbs {N M L : Nat} {rs : List RB} (l : rs.length ≤ L) (h : ∀ r ∈ rs, RbOk N M r) (hN : N ≤ 100) (hM : M ≤ 8) (hL : L ≤ 19) : Sz 100 [19, 5, 8] (rbsD rs) :=
  ⟨fit_wide (.cons hL (.cons (Nat.le_refl _) (.cons hM .nil))) ((fit_rbs l h).mono hN), by decide, by decide, by decide, by decide⟩
theorem sz_both {ts : List Tab} {rs : List RB} (h1 : Sz 100 [6, 2, 8] (tabsD ts)) (h2 : Sz 100 [19, 5, 8] (rbsD rs)) : Sz 100 [2, 19, 5, 8] (.tuple [tabsD ts, rbsD rs]) := by
  refine ⟨⟨by show 2 ≤ 2; decide, fun d hd => ?_⟩, by decide, by decide, by decide, by decide⟩
  rcases List.mem_cons.mp hd with rfl | hd
  · exact fit_wide (.cons (by decide) (.cons (by decide) (.cons (by decide) .nil))) h1.fit
  · rw [List.mem_singleton.mp hd]
    exact h2.fit
end LW
set_option Elab.async false
set_option linter.all false
set_option maxRecDepth 100000
set_option maxHeartbeats 0
/-! books.py: len, with_rules, without -/
namespace LW
open PySem PySem.Spec PyProof.Rows L2 KV
/-- how the making of a book ends -/
def bookR (K : PySem.W.Frag) (H : Hp) (Q : VK) (E : XK) (ts : List Tab) (rs : List RB) : Option (Str × PyData) → Prop
  | none => ∀ x H' F, BookOw K H' x ts rs F → (∀ a, F a → H a = none) → H x = none → Off (fun _ => False) H H' → Q (.ref x) H'
  | some (y, e) => Raised K H E y e
theorem bookR.off {K : PySem.W.Frag} {H H1 : Hp} {Q : VK} {E : XK} {ts : List Tab} {rs : List RB} {o : Option (Str × PyData)} (h : bookR K H Q E ts rs o) (k : Off (fun _ => False) H H1) : bookR K H1 Q E ts rs o := by
  cases o with
  | none => exact fun x H' F h1 h2 h3 k' => h x H' F h1 (fun a z => k.none (h2 a z) id) (k.none h3 id) (k.trans k')
  | some z => exact Raised.off h k
/-- Book(v, w) -/
theorem made_of {K : PySem.W.Frag} {H : Hp} {v w : V} {Q : VK} {E : XK} {ts : List Tab} {rs : List RB} {n mc mt N M L : Nat} (dv : Dp K H v (tabsD ts)) (dw : Dp K H w (rbsD rs)) (bb : BkB n mc mt N M L ts rs) (q : bookR K H Q E ts rs (wrongBook ts rs)) :
    ∀ x dx, H x = none → H dx = none → dx ≠ x → spBook K [.ref x, v, w] (upd (upd H dx (.own x)) x (.ins (He.ga K "Book") dx [])) (fun v H2 => v = .non ∧ Q (.ref x) H2) E := by
  intro x dx nx ndx nex
  have no : ¬ False := id
  have kM : Off (fun _ => False) H (upd (upd H dx (.own x)) x (.ins (He.ga K "Book") dx [])) := (Off.new ndx).trans (Off.new (by rw [upd_ne (Ne.symm nex)]; exact nx))
  have nM : ∀ a, upd (upd H dx (.own x)) x (.ins (He.ga K "Book") dx []) a = none → H a = none := fun a z => kM.none z no
  refine ⟨x, dx, v, w, ts, rs, n, mc, mt, N, M, L, rfl, upd_same, dp_off kM dv, dp_off kM dw, bb, ?_⟩
  generalize upd (upd H dx (.own x)) x (.ins (He.ga K "Book") dx []) = HM at kM nM ⊢
  have conv : ∀ H', Off (fun a => a = x) HM H' → Off (fun _ => False) H H' := fun H' k b o eb nb => k _ _ (kM b o eb nb) fun z => by
    rw [z, nx] at eb
    cases eb
  cases e1 : wrongBook ts rs with
  | none =>
    rw [e1] at q
    exact fun H' F bo fr k => ⟨rfl, q x H' F bo (fun a z => nM a (fr a z)) nx (conv H' k)⟩
  | some z =>
    obtain ⟨y, e⟩ := z
    rw [e1] at q
    exact fun u Fo d H' k nd ed ow fr => q u Fo d H' (conv H' k) (nM d nd) ed ow fun a z => nM a (fr a z)
def spLen (K : PySem.W.Frag) : Sp := fun vs H Q _ => ∃ (b : Addr) (ts : List Tab) (rs : List RB), vs = [.ref b] ∧ BookOf K H b ts rs ∧ ∀ H', Off (fun _ => False) H H' → Q (.int (ts.length : Nat)) H'
def spWith (K : PySem.W.Frag) : Sp := fun vs H Q E => ∃ (b : Addr) (w : V) (ts : List Tab) (rs more : List RB) (n mc mt N M L : Nat), vs = [.ref b, w] ∧ BookOf K H b ts rs ∧ Dp K H w (rbsD more) ∧ BkB n mc mt N M L ts (rs ++ more) ∧ bookR K H Q E ts (rs ++ more) (wrongBook ts (rs ++ more))
def spWithout (K : PySem.W.Frag) : Sp := fun vs H Q E => ∃ (b : Addr) (i : Int) (ts : List Tab) (rs : List RB) (n mc mt N M L : Nat), vs = [.ref b, .int i] ∧ BookOf K H b ts rs ∧ BkB n mc mt N M L ts rs ∧
  (if 0 ≤ i ∧ i < (rs.length : Int) then bookR K H Q E ts (rs.take i.toNat ++ rs.drop (i.toNat + 1)) (wrongBook ts (rs.take i.toNat ++ rs.drop (i.toNat + 1))) else Raised K H E "InvalidRule" (.int i))
theorem dp_rbs {K : PySem.W.Frag} {H : Hp} {v : V} {rs : List RB} (h : Dp K H v (rbsD rs)) : ∃ a xs, v = .ref a ∧ SqL K H a xs ∧ DpAll K H xs (rs.map rbD) := by
  cases h with
  | lst h r => exact ⟨_, _, rfl, h, r⟩
theorem look_rules (v1 v2 : V) : List.lookup ("_rules" : Str) [(("_tables" : Str), v1), (("_rules" : Str), v2)] = some v2 := by
  have ne : (("_rules" : Str) == ("_tables" : Str)) = false := by decide +kernel
  simp [List.lookup, ne]
theorem look_tables (v1 v2 : V) : List.lookup ("_tables" : Str) [(("_tables" : Str), v1), (("_rules" : Str), v2)] = some v1 := by
  simp [List.lookup]
section
variable {P : Program} {w : World} {K : PySem.W.Frag} {mg : Str → Option Value} {base : Heap}
theorem scLen : FnScope ["self"] ["self"] (defScope pBook_len) := ⟨rfl, rfl, rfl, by decide +kernel, rfl, by decide +kernel, by decide +kernel⟩
theorem ok_len {f : Addr} {fd : FuncData} (F : FunD K "__len__" "Book.__len__" (defArgs pBook_len) (defBody pBook_len) (defScope pBook_len) [] [] f fd) (B : BookT K mg) (ml : mg "len" = none) :
    FnOk P w K mg base CX0 1 f fd ["self"] (spLen K) := by
  refine F.ok scLen (fun vs H Q E h => ?_) (fun cdv A outer s H vs Q E hr h => ?_)
  · obtain ⟨b, ts, rs, rfl, _⟩ := h
    rfl
  obtain ⟨b, ts, rs, rfl, hb, q⟩ := h
  refine ⟨_, pss_one (ps_ret (pe_callB call_len_seq rfl ml boot_len (pa_cons (pe_fld (pv 0) rfl) pa_nil))), ?_⟩
  obtain ⟨dx, v1, v2, h1, h2, h3⟩ := hb
  obtain ⟨aw, xw, rfl, qw, rw'⟩ := dp_tabs h2
  have lw : xw.length = ts.length := by rw [dpAll_length rw', List.length_map]
  refine ⟨_, rfl, b, _, dx, _, _, rfl, h1, B.cl, B.n1, by simp [List.lookup], aw, xw, rfl, .inl qw, ?_⟩
  rw [lw]
  exact q H (Off.refl _ _)
theorem scWith : FnScope ["self", "more"] ["self", "more"] (defScope pBook_with_rules) := ⟨rfl, rfl, rfl, by decide +kernel, rfl, by decide +kernel, by decide +kernel⟩
theorem ok_with {f : Addr} {fd dB : FuncData} (F : FunD K "with_rules" "Book.with_rules" (defArgs pBook_with_rules) (defBody pBook_with_rules) (defScope pBook_with_rules) [] [] f fd) (B : BookT K mg)
    (GB : FnOk P w K mg base (L2.CX P w) 8 (He.ma K (He.ga K "Book") "__init__") dB ["self", "tables", "rules"] (spBook K)) (bB : Binds K dB ["self", "tables", "rules"] []) (mL : mg "list" = none) :
    FnOk P w K mg base (L2.CX P w) 10 f fd ["self", "more"] (spWith K) := by
  refine F.ok scWith (fun vs H Q E h => ?_) (fun cdv A outer s H vs Q E hr h => ?_)
  · obtain ⟨b, w, ts, rs, more, n, mc, mt, N, M, L, rfl, _⟩ := h
    rfl
  obtain ⟨b, w, ts, rs, more, n, mc, mt, N, M, L, rfl, hb, hw, bb, q⟩ := h
  refine ⟨_, pss_one (ps_ret (pe_makeS B.mkr GB hr rfl B.g bB (fun σ => passAt (takes_of rfl rfl rfl rfl) σ) (pa_cons (pe_fld (pv 0) rfl) (pa_cons (pe_op op_catS (pe_fld (pv 0) rfl) (pe_callTy call_list_of rfl mL boot_list (pa_cons (pv 1) pa_nil))) pa_nil)))), ?_⟩
  obtain ⟨dx, v1, v2, h1, h2, h3⟩ := hb
  obtain ⟨ar, xr, rfl, qr, rr⟩ := dp_rbs h3
  obtain ⟨am, xm, rfl, qm, rm⟩ := dp_rbs hw
  have lr : xr.length + xm.length ≤ 1000 := by
    have z := Nat.le_trans bb.lr bb.hL
    rw [List.length_append] at z
    rw [dpAll_length rr, dpAll_length rm, List.length_map, List.length_map]
    exact z
  refine ⟨_, rfl, b, _, dx, _, v1, rfl, h1, B.cl, B.n1, look_tables _ _, _, rfl, b, _, dx, _, _, rfl, h1, B.cl, B.n2, look_rules _ _, _, rfl, am, _, rfl, .inl qm, fun l hl => ?_⟩
  have k1 : Off (fun _ => False) H (upd H l (.lst xm)) := Off.new hl
  refine ⟨ar, l, _, _, rfl, rfl, sqL_off k1 qr, SqL.of upd_same, Nat.le_trans lr (by decide), fun m hm => ?_⟩
  have k2 := k1.trans (Off.new (o := .lst (xr ++ xm)) hm)
  have d2 : Dp K (upd (upd H l (.lst xm)) m (.lst (xr ++ xm))) (.ref m) (rbsD (rs ++ more)) := by
    unfold rbsD
    rw [List.map_append]
    exact .lst (SqL.of upd_same) (dpAll_append (dpAll_off k2 rr) (dpAll_off k2 rm))
  exact made_of (dp_off k2 h2) d2 bb (q.off k2)
theorem scWithout : FnScope ["self", "index"] ["self", "index"] (defScope pBook_without) := ⟨rfl, rfl, rfl, by decide +kernel, rfl, by decide +kernel, by decide +kernel⟩
theorem ok_without {f : Addr} {fd dB dE : FuncData} (F : FunD K "without" "Book.without" (defArgs pBook_without) (defBody pBook_without) (defScope pBook_without) [] [] f fd) (B : BookT K mg) (T : ErrT P w K mg base dE)
    (GB : FnOk P w K mg base (L2.CX P w) 8 (He.ma K (He.ga K "Book") "__init__") dB ["self", "tables", "rules"] (spBook K)) (bB : Binds K dB ["self", "tables", "rules"] []) (ml : mg "len" = none) :
    FnOk P w K mg base (L2.CX P w) 10 f fd ["self", "index"] (spWithout K) := by
  have t1 := T.es.ok "InvalidRule" (by decide)
  have g1 := T.g "InvalidRule" (by decide)
  refine F.ok scWithout (fun vs H Q E h => ?_) (fun cdv A outer s H vs Q E hr h => ?_)
  · obtain ⟨b, i, ts, rs, n, mc, mt, N, M, L, rfl, _⟩ := h
    rfl
  obtain ⟨b, i, ts, rs, n, mc, mt, N, M, L, rfl, hb, bb, q⟩ := h
  refine ⟨_, pss_cons (ps_if (pt_not (pt_chain op_le op_lt pe_int (pv 1) (pe_callB call_len_seq rfl ml boot_len (pa_cons (pe_fld (pv 0) rfl) pa_nil))))
      (pss_one (ps_raise rfl (takes_of rfl rfl rfl rfl) (pmk_oex t1.oex t1.ini t1.fn T.ini (hr.mono (by decide)) T.b .nil pass0 rfl g1 (pa_cons (pv 1) pa_nil)))) pss_nil)
    (pss_one (ps_ret (pe_makeS B.mkr GB hr rfl B.g bB (fun σ => passAt (takes_of rfl rfl rfl rfl) σ) (pa_cons (pe_fld (pv 0) rfl) (pa_cons (pe_op op_catS (pe_slice sl_list (pe_fld (pv 0) rfl) po_none (po_some (pv 1))) (pe_slice sl_list (pe_fld (pv 0) rfl) (po_some (pe_op op_add (pv 1) pe_int)) po_none)) pa_nil))))), ?_⟩
  obtain ⟨dx, v1, v2, h1, h2, h3⟩ := hb
  obtain ⟨ar, xr, rfl, qr, rr⟩ := dp_rbs h3
  have lr : xr.length = rs.length := by rw [dpAll_length rr, List.length_map]
  have lr2 := Nat.le_trans bb.lr bb.hL
  have no : ¬ False := id
  have out : ¬ (0 ≤ i ∧ i < (rs.length : Int)) → [V.int i].length ≤ 1000 ∧ ∀ a, H a = none → spInit K "value" (.ref a :: ([V.int i] ++ [])) (upd H a (exo a (He.ga K "InvalidRule") none))
      (fun v H2 => v = .non ∧ ∃ (d : Addr) (fs : List (Str × V)), H2 a = some (exo a (He.ga K "InvalidRule") (some d)) ∧ H2 d = some (exd d fs) ∧ H d = none ∧ E (.ref (He.ga K "InvalidRule")) (some d) (upd (del H2 a) d (.xd fs))) (fun _ _ _ => False) := fun c => by
    rw [if_neg c] at q
    exact raise_of t1 fun d hd => q (.int i) (fun _ => False) d _ (Off.new hd) hd upd_same (.int i fun _ z => z) fun _ z => z.elim
  refine ⟨_, rfl, _, _, rfl, rfl, _, rfl, ite2 (fun c1 => ⟨_, rfl, b, _, dx, _, _, rfl, h1, B.cl, B.n2, look_rules _ _, ar, xr, rfl, .inl qr, _, _, rfl, rfl, _, rfl, ?_⟩) (fun c1 => ⟨_, rfl, iteT ⟨_, rfl, out fun z => c1 (decide_eq_true z.1)⟩⟩)⟩
  have p1 : 0 ≤ i := of_decide_eq_true c1
  rw [lr]
  by_cases c2 : i < (rs.length : Int)
  rotate_left
  · rw [decide_eq_false c2]
    exact iteT ⟨_, rfl, out fun z => c2 z.2⟩
  rw [decide_eq_true c2]
  rw [if_pos ⟨p1, c2⟩] at q
  refine iteF ⟨_, rfl, b, _, dx, _, v1, rfl, h1, B.cl, B.n1, look_tables _ _, _, rfl, b, _, dx, _, _, rfl, h1, B.cl, B.n2, look_rules _ _, _, rfl, _, rfl, ar, xr, rfl, qr, fun m1 n1 => ?_⟩
  have k1 : Off (fun _ => False) H (upd H m1 (.lst (cutV xr none (some i)))) := Off.new n1
  have e1 := upd_same (H := H) (a := m1) (o := .lst (cutV xr none (some i)))
  generalize upd H m1 (.lst (cutV xr none (some i))) = G1 at k1 e1 ⊢
  refine ⟨_, rfl, b, _, dx, _, _, rfl, k1 _ _ h1 no, B.cl, B.n2, look_rules _ _, _, rfl, _, _, rfl, rfl, _, rfl, ar, xr, rfl, sqL_off k1 qr, fun m2 n2 => ?_⟩
  have k2 : Off (fun _ => False) G1 (upd G1 m2 (.lst (cutV xr (some (i + 1)) none))) := Off.new n2
  have e2 := upd_same (H := G1) (a := m2) (o := .lst (cutV xr (some (i + 1)) none))
  generalize upd G1 m2 (.lst (cutV xr (some (i + 1)) none)) = G2 at k2 e2 ⊢
  have c1' : cutV xr none (some i) = xr.take i.toNat := cutV_head p1
  have c2' : cutV xr (some (i + 1)) none = xr.drop (i.toNat + 1) := by
    rw [cutV_tail (by omega)]
    congr 1
    omega
  rw [c1'] at e1
  rw [c2'] at e2
  refine ⟨m1, m2, _, _, rfl, rfl, SqL.of (k2 _ _ e1 no), SqL.of e2, ?_, fun m3 n3 => ?_⟩
  · rw [List.length_take, List.length_drop]
    exact Nat.le_trans (m := 2000) (by omega) (by decide)
  have k3 := (k1.trans k2).trans (Off.new (o := .lst (xr.take i.toNat ++ xr.drop (i.toNat + 1))) n3)
  have d3 : Dp K (upd G2 m3 (.lst (xr.take i.toNat ++ xr.drop (i.toNat + 1)))) (.ref m3) (rbsD (rs.take i.toNat ++ rs.drop (i.toNat + 1))) := by
    unfold rbsD
    rw [List.map_append, List.map_take, List.map_drop]
    exact .lst (SqL.of upd_same) (dpAll_append (dpAll_take _ (dpAll_off k3 rr)) (dpAll_drop _ (dpAll_off k3 rr)))
  have bb2 : BkB n mc mt N M L ts (rs.take i.toNat ++ rs.drop (i.toNat + 1)) := { bb with
    rb := fun r hr => bb.rb r ((List.mem_append.mp hr).elim (fun z => List.mem_of_mem_take z) fun z => List.mem_of_mem_drop z)
    lr := by
      have := bb.lr
      rw [List.length_append, List.length_take, List.length_drop]
      omega }
  exact made_of (dp_off k3 h2) d3 bb2 (q.off k3)
end
end LW
set_option Elab.async false
set_option linter.all false
set_option maxRecDepth 100000
set_option maxHeartbeats 0
/-! texts.py: show_book -/
namespace LW
open PySem PySem.Spec PyProof.Rows L2 KV
def ruleW : RB → List Str
  | ([k, x], some (cs, tl)) => if k = "settles" then (k :: x :: cs) ++ ((">" : Str) :: tl) else k :: x :: cs
  | _ => []
theorem ruleW_eq (k x : Str) (cs tl : List Str) : ruleW ([k, x], some (cs, tl)) = if k = "settles" then (k :: x :: cs) ++ ((">" : Str) :: tl) else k :: x :: cs := rfl
def tabW (t : Tab) : List Str := "table" :: t.1 :: t.2
def tabT (t : Tab) : Str := Txt.join " " (tabW t)
def ruleT (r : RB) : Str := Txt.join " " (ruleW r)
def bookT (ts : List Tab) (rs : List RB) : Str := Txt.join "; " (ts.map tabT ++ rs.map ruleT)
theorem sum_le {ys : List Str} {n : Nat} (h : ∀ y ∈ ys, y.length ≤ n) : (ys.map (·.length)).sum ≤ ys.length * n := by
  induction ys with
  | nil => simp
  | cons y ys ih =>
    have h1 := h y List.mem_cons_self
    have h2 := ih fun z hz => h z (List.mem_cons_of_mem _ hz)
    rw [List.map_cons, List.sum_cons, List.length_cons, Nat.add_mul]
    omega
theorem join_le {ys : List Str} {n : Nat} (sep : Str) (h : ∀ y ∈ ys, y.length ≤ n) : (Txt.join sep ys).length ≤ ys.length * (n + sep.length) := by
  rw [show Txt.join sep ys = Str.join sep ys from StrLaws.glued_eq_join sep ys]
  have h1 := StrLaws.join_length_le sep ys
  have h2 := sum_le h
  rw [Nat.mul_add]
  omega
theorem sp1 : (" " : Str).length = 1 := by decide +kernel
theorem sp2 : ("; " : Str).length = 2 := by decide +kernel
theorem tabW_le {n mc : Nat} {t : Tab} (h : TabB n mc t) (h8 : 8 ≤ n) : ∀ y ∈ tabW t, y.length ≤ n := by
  intro y hy
  unfold tabW at hy
  rcases List.mem_cons.mp hy with rfl | hy
  · have : ("table" : Str).length = 5 := by decide +kernel
    omega
  · rcases List.mem_cons.mp hy with rfl | hy
    · exact h.name.2
    · exact (h.good y hy).2
theorem ruleW_le {n M : Nat} {r : RB} (h : RbOk n M r) (f : formed r = true) (h8 : 8 ≤ n) : (∀ y ∈ ruleW r, y.length ≤ n) ∧ (ruleW r).length ≤ M + 5 := by
  obtain ⟨k, x, cs, tl, rfl, _⟩ := formed_ok f
  obtain ⟨a, b, c, d⟩ := h.cs cs tl rfl
  have gk := (h.hg k (by simp)).2
  have gx := (h.hg x (by simp)).2
  have g1 : (">" : Str).length = 1 := by decide +kernel
  rw [ruleW_eq]
  split
  · refine ⟨fun y hy => ?_, ?_⟩
    · rcases List.mem_append.mp hy with hy | hy
      · rcases List.mem_cons.mp hy with rfl | hy
        · exact gk
        · rcases List.mem_cons.mp hy with rfl | hy
          · exact gx
          · exact (b y hy).2
      · rcases List.mem_cons.mp hy with rfl | hy
        · omega
        · exact (d y hy).2
    · simp
      omega
  · refine ⟨fun y hy => ?_, by simp; omega⟩
    rcases List.mem_cons.mp hy with rfl | hy
    · exact gk
    · rcases List.mem_cons.mp hy with rfl | hy
      · exact gx
      · exact (b y hy).2
def spRuleT (K : PySem.W.Frag) : Sp := fun vs H Q _ => ∃ (v : V) (r : RB) (n M : Nat), vs = [v] ∧ Dp K H v (rbD r) ∧ RbOk n M r ∧ formed r = true ∧ 8 ≤ n ∧ n ≤ 100 ∧ M ≤ 100 ∧ ∀ H', Off (fun _ => False) H H' → Q (.str (ruleT r)) H'
def spShow (K : PySem.W.Frag) : Sp := fun vs H Q _ => ∃ (b : Addr) (ts : List Tab) (rs : List RB), vs = [.ref b] ∧ BookOf K H b ts rs ∧ BkB 8 10 10 8 12 30 ts rs ∧ (∀ r ∈ rs, formed r = true) ∧ ∀ H', Off (fun _ => False) H H' → Q (.str (bookT ts rs)) H'
section
variable {P : Program} {w : World} {K : PySem.W.Frag} {mg : Str → Option Value} {base : Heap}
theorem scRuleT : FnScope ["rule", "words"] ["rule"] (defScope pRuleText) := ⟨rfl, rfl, rfl, by decide +kernel, rfl, by decide +kernel, by decide +kernel⟩
theorem ok_ruleT {f : Addr} {fd : FuncData} (F : FnP K "rule_text" pRuleText f fd) : FnOk P w K mg base CX0 1 f fd ["rule"] (spRuleT K) := by
  refine F.ok scRuleT (fun vs H Q E h => ?_) (fun cdv A outer s H vs Q E hr h => ?_)
  · obtain ⟨v, r, n, M, rfl, _⟩ := h
    rfl
  obtain ⟨v, r, n, M, rfl, hv, ok, fm, h8, hn, hM, q⟩ := h
  refine ⟨_, pss_cons (ps_set (i := 1) scRuleT.nd rfl (Or.inl rfl) (pe_lst (pa_cons (pe_ix ix_tup (pv 0) pe_int (fun _ _ => rfl)) (pa_cons (pe_ix ix_tup (pv 0) pe_int (fun _ _ => rfl)) (StX.pa_star (pe_ix ix_tup (pv 0) pe_int (fun _ _ => rfl)) pa_nil)))))
    (pss_cons (ps_if (pt_cmpR op_eq (pe_ix ix_tup (pv 0) pe_int (fun _ _ => rfl)) pe_str (nomark _))
        (pss_one (ps_set (i := 1) scRuleT.nd rfl (Or.inl rfl) (pe_lst (StX.pa_star (pv 1) (pa_cons pe_str (pa_cons (pe_ix ix_tup (pv 0) pe_int (fun _ _ => rfl)) pa_nil)))))) pss_nil)
    (pss_one (ps_ret (pe_join pe_str (pv 1))))), ?_⟩
  have no : ¬ False := id
  obtain ⟨wl, wc⟩ := ruleW_le ok fm h8
  obtain ⟨k, x, cs, tl, rfl, form⟩ := formed_ok fm
  obtain ⟨lc, gc, lt, gt⟩ := ok.cs cs tl rfl
  obtain ⟨ra, vs, rfl, sq, da⟩ : ∃ a vs, v = .ref a ∧ SqT K H a vs ∧ DpAll K H vs (rbL ([k, x], some (cs, tl))) := by
    cases hv with
    | tup h r => exact ⟨_, _, rfl, h, r⟩
  obtain ⟨ca, rfl, dc⟩ : ∃ ca, vs = .str k :: .str x :: .ref ca :: tl.map V.str ∧ Dp K H (.ref ca) (colsD cs) := by
    cases da with
    | cons h r =>
      cases h
      cases r with
      | cons h r =>
        cases h
        cases r with
        | cons h r =>
          obtain ⟨ca, rfl, _⟩ := dp_cols h
          exact ⟨ca, by rw [dpAll_strs r], h⟩
  have at0 : atI (V.str k :: V.str x :: V.ref ca :: tl.map V.str) 0 = some (V.str k) := atI_nat (j := 0) rfl
  have at1 : atI (V.str k :: V.str x :: V.ref ca :: tl.map V.str) 1 = some (V.str x) := atI_nat (j := 1) rfl
  have at2 : atI (V.str k :: V.str x :: V.ref ca :: tl.map V.str) 2 = some (V.ref ca) := atI_nat (j := 2) rfl
  have joined : ∀ {G : Hp} {l : Addr} {ys : List Str}, ys = ruleW ([k, x], some (cs, tl)) → SqL K G l (ys.map V.str) → KV.Off (fun _ => False) H G → ∃ a p, ∃ ys : List Str, V.str " " = .str a ∧ [V.ref l] = [.ref p] ∧ (SqL K G p (ys.map V.str) ∨ SqT K G p (ys.map V.str)) ∧
      (ys.map (·.length)).sum + ys.length * a.length ≤ 16777216 ∧ Q (.str (Txt.join a ys)) G := by
    intro G l ys e h kG
    refine ⟨_, l, ys, rfl, rfl, .inl h, ?_, ?_⟩
    · rw [e, sp1]
      have z1 := sum_le wl
      have z2 : (ruleW ([k, x], some (cs, tl))).length * n ≤ 105 * 100 := Nat.mul_le_mul (by omega) hn
      omega
    · rw [e]
      exact q G kG
  refine ⟨_, rfl, ra, _, 0, _, rfl, rfl, sq, at0, _, rfl, ra, _, 1, _, rfl, rfl, sq, at1, _, rfl, ra, _, 2, _, rfl, rfl, sq, at2, ca, _, rfl, .inr (dp_cols_ref dc), ?_, fun l hl => ?_⟩
  · rw [List.append_nil, List.length_cons, List.length_cons, List.length_map]
    exact Nat.le_trans (m := 1000) (by omega) (by decide)
  have k1 : Off (fun _ => False) H (upd H l (.lst (V.str k :: V.str x :: (cs.map V.str ++ [])))) := Off.new hl
  have e1 := upd_same (H := H) (a := l) (o := .lst (V.str k :: V.str x :: (cs.map V.str ++ [])))
  generalize upd H l (.lst (V.str k :: V.str x :: (cs.map V.str ++ []))) = G1 at k1 e1 ⊢
  rw [List.append_nil] at e1
  refine ⟨_, rfl, ra, _, 0, _, rfl, rfl, sqT_off k1 sq, at0, rfl, _, rfl, ite2 (fun c => ?_) (fun c => ?_)⟩
  · have ek : k = "settles" := V.str.inj (of_decide_eq_true c)
    have l1 : tl.length = 1 := by
      rcases form with ⟨z, _⟩ | ⟨_, z⟩
      · rw [z] at ek
        exact absurd ek (by decide +kernel)
      · exact z
    obtain ⟨y, rfl⟩ : ∃ y, tl = [y] := by
      match tl, l1 with
      | [y], _ => exact ⟨y, rfl⟩
    have at3 : atI (V.str k :: V.str x :: V.ref ca :: [y].map V.str) 3 = some (V.str y) := atI_nat (j := 3) rfl
    refine ⟨_, rfl, l, _, rfl, .inr (SqL.of e1), _, rfl, ra, _, 3, _, rfl, rfl, sqT_off k1 sq, at3, ?_, fun m hm => ?_⟩
    · rw [List.length_append, List.length_cons, List.length_cons, List.length_map]
      exact Nat.le_trans (m := 1000) (by simp; omega) (by decide)
    have k2 := k1.trans (Off.new (o := .lst ((V.str k :: V.str x :: cs.map V.str) ++ [V.str ">", V.str y])) hm)
    refine ⟨⟨_, rfl⟩, _, rfl, joined (ys := (k :: x :: cs) ++ [(">" : Str), y]) ?_ ?_ k2⟩
    · rw [ruleW_eq, if_pos ek]
    · rw [List.map_append]
      exact SqL.of upd_same
  · have ek : ¬ k = "settles" := fun z => c (decide_eq_true (by rw [z]))
    refine ⟨⟨_, rfl⟩, _, rfl, joined (ys := k :: x :: cs) ?_ (SqL.of e1) k1⟩
    rw [ruleW_eq, if_neg ek]
end
end LW
set_option Elab.async false
set_option linter.all false
set_option maxRecDepth 100000
set_option maxHeartbeats 0
namespace LW
open PySem PySem.Spec PyProof.Rows L2 KV
def rJoinK (K : PySem.W.Frag) : V → List V → Hp → VK → Prop := fun x xs H Q => ∃ a p, ∃ ys : List Str, x = .str a ∧ xs = [.ref p] ∧ (SqL K H p (ys.map V.str) ∨ SqT K H p (ys.map V.str)) ∧ (ys.map (·.length)).sum + ys.length * a.length ≤ 16777216 ∧ Q (.str (Txt.join a ys)) H
theorem tabT_le {t : Tab} (h : TabB 8 10 t) : (tabT t).length ≤ 200 := by
  have l := h.most
  have z := join_le " " (tabW_le h (by decide))
  have l2 : (tabW t).length ≤ 12 := by
    unfold tabW
    rw [List.length_cons, List.length_cons]
    omega
  rw [sp1] at z
  unfold tabT
  have : (tabW t).length * (8 + 1) ≤ 12 * 9 := Nat.mul_le_mul l2 (by decide)
  omega
theorem ruleT_le {r : RB} (h : RbOk 8 12 r) (f : formed r = true) : (ruleT r).length ≤ 200 := by
  obtain ⟨z1, z2⟩ := ruleW_le h f (by decide)
  have z := join_le " " z1
  rw [sp1] at z
  unfold ruleT
  have : (ruleW r).length * (8 + 1) ≤ 17 * 9 := Nat.mul_le_mul (by omega) (by decide)
  omega
theorem pieces_le {ts : List Tab} {rs : List RB} (bb : BkB 8 10 10 8 12 30 ts rs) (fm : ∀ r ∈ rs, formed r = true) : (∀ y ∈ ts.map tabT ++ rs.map ruleT, y.length ≤ 200) ∧ (ts.map tabT ++ rs.map ruleT).length ≤ 40 := by
  refine ⟨fun y hy => ?_, ?_⟩
  · rcases List.mem_append.mp hy with hy | hy
    · obtain ⟨t, ht, rfl⟩ := List.mem_map.mp hy
      exact tabT_le (bb.tb.each t ht)
    · obtain ⟨r, hr, rfl⟩ := List.mem_map.mp hy
      exact ruleT_le (bb.rb r hr) (fm r hr)
  · have := bb.tb.most
    have := bb.lr
    rw [List.length_append, List.length_map, List.length_map]
    omega
section
variable {P : Program} {w : World} {K : PySem.W.Frag} {mg : Str → Option Value} {base : Heap}
theorem scShow : FnScope ["book", "tables", "name", "columns", "rules", "rule"] ["book"] (defScope pShowBook) := ⟨rfl, rfl, rfl, by decide +kernel, rfl, by decide +kernel, by decide +kernel⟩
theorem ok_show {f fR pT gT pR gR : Addr} {fd dR dgT dgR : FuncData} (F : FnP K "show_book" pShowBook f fd) (B : BookT K mg) (GRt : FnOk P w K mg base CX0 1 fR dR ["rule"] (spRuleT K)) (bRt : Binds K dR ["rule"] []) (mRt : mg "rule_text" = some (.ref fR)) (kRt : PySem.W.keepIn K (.ref fR) = true)
    (pt : PropOf K (He.ga K "Book") "tables" pT gT) (GT : FnOk P w K mg base CX0 7 gT dgT ["self"] (spGetT K)) (bT : Binds K dgT ["self"] [])
    (pr : PropOf K (He.ga K "Book") "rules" pR gR) (GR : FnOk P w K mg base CX0 7 gR dgR ["self"] (spGetR K)) (bR : Binds K dgR ["self"] []) : FnOk P w K mg base CX0 9 f fd ["book"] (spShow K) := by
  refine F.ok scShow (fun vs H Q E h => ?_) (fun cdv A outer s H vs Q E hr h => ?_)
  · obtain ⟨b, ts, rs, rfl, _⟩ := h
    rfl
  obtain ⟨b, ts, rs, rfl, hb, bb, fm, q⟩ := h
  refine ⟨_, pss_cons (ps_setLc (i := 1) (own := [("name", 2), ("columns", 3)]) (g := gTup K 2 (gCons (gName 2) (gCons (gName 3) gNil))) (tt := tYes) (te := tM1 (rJoinK K) (tC (.str " ")) (tLst (tCons (tC (.str "table")) (tCons (tVar 2) (StX.tStar K (tVar 3) tNil))))) rfl scShow.nd rfl rfl rfl (pi_list (pe_prop (pv 0) B.cl pt GT (hr.mono (by decide)) bT .nil pass0 rfl))
        (blkOk_by (own := [("name", 2), ("columns", 3)]) (N := ["book", "tables", "name", "columns", "rules", "rule"]) (sc := defScope pShowBook) (by decide +kernel))
        (fun _ _ _ _ _ => pg_tup rfl (pgs_cons (pg_name (i := 2) scShow.nd rfl (Or.inl rfl)) (pgs_cons (pg_name (i := 3) scShow.nd rfl (Or.inl rfl)) pgs_nil))) (fun _ _ _ _ _ => pts_nil)
        (fun _ _ _ _ _ => pe_join pe_str (pe_lst (pa_cons pe_str (pa_cons (pv 2) (StX.pa_star (pv 3) pa_nil))))))
    (pss_cons (ps_setLc (i := 4) (own := [("rule", 5)]) (g := gName 5) (tt := tYes) rfl scShow.nd rfl rfl rfl (pi_list (pe_prop (pv 0) B.cl pr GR (hr.mono (by decide)) bR .nil pass0 rfl))
        (blkOk_by (own := [("rule", 5)]) (N := ["book", "tables", "name", "columns", "rules", "rule"]) (sc := defScope pShowBook) (by decide +kernel))
        (fun _ _ _ _ _ => pg_name (i := 5) scShow.nd rfl (Or.inl rfl)) (fun _ _ _ _ _ => pts_nil)
        (fun _ _ _ _ _ => pe_call GRt (hr.mono (by decide)) rfl mRt kRt bRt .nil pass0 (pa_cons (pv 5) pa_nil)))
    (pss_one (ps_ret (pe_join pe_str (pe_op op_cat (pv 1) (pv 4)))))), ?_⟩
  have no : ¬ False := id
  obtain ⟨dx, x1, x2, hx, _, _⟩ := id hb
  refine ⟨_, rfl, b, dx, _, rfl, hx, b, ts, rs, 8, 10, 10, 8, 12, 30, rfl, hb, bb, fun v1 F1 H1 o1 f1 k1 => ?_⟩
  obtain ⟨a1, w1, rfl, q1, r1⟩ := dp_tabs (o1.dp (K := K))
  have lw1 : w1.length = ts.length := by rw [dpAll_length r1, List.length_map]
  have lt := bb.tb.most
  refine ⟨a1, rfl, ⟨_, q1⟩, fun D hD => lc_list (K := K) (a := a1) (xs := w1) (fun i H' => H' D = some (.lst (((ts.take i).map tabT).map V.str)) ∧ Off (fun _ => False) H1 H') ⟨upd_same, Off.new hD⟩ (fun i H' _ g => sqL_off g.2 q1) (fun i x H' hx g => ?_) fun H' g => ?_⟩
  · obtain ⟨g1, g2⟩ := g
    obtain ⟨dt, edt, hdt⟩ := dpAll_at r1 hx
    rw [List.getElem?_map] at edt
    obtain ⟨t, et, rfl⟩ := Option.map_eq_some_iff.mp edt
    have bt := bb.tb.each t (List.mem_of_getElem? et)
    obtain ⟨ta, wc, rfl, st, dc⟩ := dp_tab hdt
    obtain ⟨ca, rfl, _⟩ := dp_cols dc
    have lc := bt.most
    refine ⟨ta, [.str t.1, .ref ca], rfl, sqT_off g2 st, rfl, .str t.1, [.ref ca], rfl, .ref ca, [], rfl, rfl, rfl, ?_⟩
    show (∃ a, V.str " " = V.str a) ∧ _
    refine ⟨⟨_, rfl⟩, ?_⟩
    refine ⟨_, rfl, _, rfl, ca, _, rfl, .inr (dp_cols_ref (dp_off g2 dc)), ?_, fun l hl => ?_⟩
    · rw [List.append_nil, List.length_cons, List.length_cons, List.length_map]
      exact Nat.le_trans (m := 1000) (by omega) (by decide)
    have k2 := g2.trans (Off.new (o := .lst (V.str "table" :: V.str t.1 :: (t.2.map V.str ++ []))) hl)
    refine ⟨_, l, tabW t, rfl, rfl, .inl ?_, ?_, ?_⟩
    · rw [List.append_nil]
      exact SqL.of upd_same
    · have z := sum_le (tabW_le bt (by decide))
      have l2 : (tabW t).length ≤ 12 := by
        unfold tabW
        rw [List.length_cons, List.length_cons]
        omega
      rw [sp1]
      omega
    · refine ⟨_, (Off.new (G := fun _ => False) hl) _ _ g1 no, ?_, ?_, fun b o eb nb => ?_⟩
      · rw [List.length_map, List.length_map, List.length_take]
        exact small1000 (by omega)
      · rw [upd_same, take_snoc et, List.map_append, List.map_append]
        rfl
      · rw [upd_ne (fun z => by rw [z, hD] at eb; cases eb)]
        exact k2 b o eb nb
  obtain ⟨g1, g2⟩ := g
  rw [lw1, List.take_length] at g1
  have kH := k1.trans g2
  -- the rules
  refine ⟨_, rfl, b, dx, _, rfl, kH _ _ hx no, b, ts, rs, 8, 10, 10, 8, 12, 30, rfl, hb.off kH, bb, fun v2 F2 H2 o2 f2 k2 => ?_⟩
  obtain ⟨a2, w2, rfl, q2, r2⟩ := dp_rbs (o2.dp (K := K))
  have lw2 : w2.length = rs.length := by rw [dpAll_length r2, List.length_map]
  have lr := bb.lr
  refine ⟨a2, rfl, ⟨_, q2⟩, fun D2 hD2 => lc_list (K := K) (a := a2) (xs := w2) (fun i H' => H' D2 = some (.lst (((rs.take i).map ruleT).map V.str)) ∧ Off (fun _ => False) H2 H') ⟨upd_same, Off.new hD2⟩ (fun i H' _ g => sqL_off g.2 q2) (fun i x H' hx2 g => ?_) fun H' g => ?_⟩
  · obtain ⟨u1, u2⟩ := g
    obtain ⟨dr, edr, hdr⟩ := dpAll_at r2 hx2
    rw [List.getElem?_map] at edr
    obtain ⟨r, er, rfl⟩ := Option.map_eq_some_iff.mp edr
    have mem := List.mem_of_getElem? er
    refine ⟨rfl, ?_⟩
    refine Exists.intro x ⟨rfl, x, r, 8, 12, rfl, dp_off u2 hdr, bb.rb r mem, fm r mem, by decide, by decide, by decide, fun H5 k5 => ?_⟩
    refine ⟨_, k5 _ _ u1 no, ?_, ?_, fun b o eb nb => ?_⟩
    · rw [List.length_map, List.length_map, List.length_take]
      exact small1000 (by omega)
    · rw [upd_same, take_snoc er, List.map_append, List.map_append]
      rfl
    · rw [upd_ne (fun z => by rw [z, hD2] at eb; cases eb)]
      exact k5 _ _ (u2 b o eb nb) nb
  · obtain ⟨u1, u2⟩ := g
    rw [lw2, List.take_length] at u1
    have kk := k2.trans u2
    have e1 := kk _ _ g1 no
    obtain ⟨pl, pc⟩ := pieces_le bb fm
    refine ⟨⟨_, rfl⟩, _, rfl, _, rfl, D, D2, _, _, rfl, rfl, e1, u1, ?_, fun m hm => ?_⟩
    · rw [List.length_map, List.length_map, List.length_map, List.length_map]
      exact Nat.le_trans (m := 1000) (by omega) (by decide)
    have km := (kH.trans kk).trans (Off.new (o := .lst (((ts.map tabT).map V.str) ++ ((rs.map ruleT).map V.str))) hm)
    refine ⟨_, m, ts.map tabT ++ rs.map ruleT, rfl, rfl, .inl ?_, ?_, ?_⟩
    · rw [List.map_append]
      exact SqL.of upd_same
    · have z := sum_le pl
      have z2 : (ts.map tabT ++ rs.map ruleT).length * 200 ≤ 40 * 200 := Nat.mul_le_mul pc (by decide)
      rw [sp2]
      omega
    · exact q _ km
end
end LW
set_option Elab.async false
set_option linter.all false
set_option maxRecDepth 100000
set_option maxHeartbeats 0
/-! readings.py: rule_of -/
namespace LW
open PySem PySem.Spec PyProof.Rows L2 KV
theorem atI_back {α : Type} (xs : List α) (u v : α) : atI (xs ++ [u, v]) (-2) = some u := by
  have hl : (xs ++ [u, v]).length = xs.length + 2 := by simp
  have e : ixN (xs ++ [u, v]).length (-2) = some xs.length := by
    unfold ixN
    rw [hl, if_neg (by decide), if_pos (by omega)]
    congr 1
    omega
  unfold atI
  rw [e]
  simp
theorem cutV_mid (a b : V) (xs : List V) (u v : V) : cutV (a :: b :: (xs ++ [u, v])) (some 2) (some (-2)) = xs := by
  unfold cutV
  have l : (a :: b :: (xs ++ [u, v])).length = xs.length + 4 := by simp
  have h1 : HT.sIx (a :: b :: (xs ++ [u, v])).length 0 (some 2) = 2 := by
    rw [l]
    simp [HT.sIx]
  have h2 : HT.sIx (a :: b :: (xs ++ [u, v])).length (a :: b :: (xs ++ [u, v])).length (some (-2)) = xs.length + 2 := by
    rw [l]
    simp [HT.sIx]
    omega
  rw [h1, h2]
  simp
def spRuleOf (K : PySem.W.Frag) : Sp := fun vs H Q _ => ∃ (l : Addr) (r : RB), vs = [.ref l] ∧ SqL K H l ((ruleW r).map V.str) ∧ RbOk 8 12 r ∧ formed r = true ∧
  ∀ t F H', Ow H' (.ref t) (rbD r) F → (∀ a, F a → H a = none) → Off (fun _ => False) H H' → Q (.ref t) H'
section
variable {P : Program} {w : World} {K : PySem.W.Frag} {mg : Str → Option Value} {base : Heap}
theorem scRuleOf : FnScope ["words"] ["words"] (defScope pRuleOf) := ⟨rfl, rfl, rfl, by decide +kernel, rfl, by decide +kernel, by decide +kernel⟩
theorem ok_ruleOf {f : Addr} {fd dE : FuncData} (F : FnP K "rule_of" pRuleOf f fd) (T : ErrT P w K mg base dE) (ml : mg "len" = none) : FnOk P w K mg base (L2.CX P w) 3 f fd ["words"] (spRuleOf K) := by
  have t1 := T.es.ok "Unreadable" (by decide)
  have g1 := T.g "Unreadable" (by decide)
  refine F.ok scRuleOf (fun vs H Q E h => ?_) (fun cdv A outer s H vs Q E hr h => ?_)
  · obtain ⟨l, r, rfl, _⟩ := h
    rfl
  obtain ⟨l, r, rfl, sl, ok, fm, q⟩ := h
  refine ⟨_, pss_cons (ps_if (PW.pt (pw_and (pt_cmpR op_eq (pe_ix ix_list (pv 0) pe_int (fun _ _ => rfl)) pe_str (nomark _)) (pw_and1 (pt_cmpR op_ge (pe_callB call_len_seq rfl ml boot_len (pa_cons (pv 0) pa_nil)) pe_int (nomark _)))))
      (pss_one (ps_ret (pe_tup (pa_cons pe_str (pa_cons (pe_ix ix_list (pv 0) pe_int (fun _ _ => rfl)) (pa_cons (pe_slice sl_list (pv 0) (po_some pe_int) po_none) pa_nil)))))) pss_nil)
    (pss_cons (ps_if (PW.pt (pw_and (pt_cmpR op_eq (pe_ix ix_list (pv 0) pe_int (fun _ _ => rfl)) pe_str (nomark _)) (pw_and (pt_cmpR op_ge (pe_callB call_len_seq rfl ml boot_len (pa_cons (pv 0) pa_nil)) pe_int (nomark _))
        (pw_and1 (pt_cmpR op_eq (pe_ix ix_list (pv 0) (pe_un un_neg pe_int) (fun _ _ => rfl)) pe_str (nomark _))))))
      (pss_one (ps_ret (pe_tup (pa_cons pe_str (pa_cons (pe_ix ix_list (pv 0) pe_int (fun _ _ => rfl)) (pa_cons (pe_slice sl_list (pv 0) (po_some pe_int) (po_some (pe_un un_neg pe_int))) (pa_cons (pe_ix ix_list (pv 0) (pe_un un_neg pe_int) (fun _ _ => rfl)) pa_nil))))))) pss_nil)
    (pss_one (ps_raise rfl (takes_of rfl rfl rfl rfl) (pmk_oex t1.oex t1.ini t1.fn T.ini hr T.b .nil pass0 rfl g1 (pa_cons (pe_join pe_str (pv 0)) pa_nil))))), ?_⟩
  have no : ¬ False := id
  obtain ⟨k, x, cs, tl, rfl, form⟩ := formed_ok fm
  obtain ⟨lc, gc, lt, gt⟩ := ok.cs cs tl rfl
  have ow : ∀ {G : Hp} {m t : Addr}, G m = none → upd G m (.lst (cs.map V.str)) t = none → ∀ {zs : List V} {ds : List PyData}, OwAll (upd (upd G m (.lst (cs.map V.str))) t (.tup (V.str k :: V.str x :: V.ref m :: zs))) zs ds (fun _ => False) →
      Ow (upd (upd G m (.lst (cs.map V.str))) t (.tup (V.str k :: V.str x :: V.ref m :: zs))) (.ref t) (.tuple (.str k :: .str x :: colsD cs :: ds)) (fun a => a = m) := by
    intro G m t nm nt zs ds hz
    have em : upd (upd G m (.lst (cs.map V.str))) t (.tup (V.str k :: V.str x :: V.ref m :: zs)) m = some (.lst (cs.map V.str)) := (upd_ne (ne_of_none upd_same nt)).trans upd_same
    refine .tup upd_same (owc_str (owc_str (owc (.lst em (owAll_strs (fun _ z => z) cs) (fun z => z) fun b => ⟨.inl, fun z => z.elim id False.elim⟩) hz)))
  rcases form with ⟨ek, el⟩ | ⟨ek, el⟩
  · have et : tl = [] := List.length_eq_zero_iff.mp el
    subst et
    have ns : ¬ k = "settles" := by
      rw [ek]
      decide +kernel
    rw [ruleW_eq, if_neg ns] at sl
    have sl : SqL K H l (V.str k :: V.str x :: cs.map V.str) := sl
    have a0 : atI (V.str k :: V.str x :: cs.map V.str) 0 = some (V.str k) := atI_nat (j := 0) rfl
    have a1 : atI (V.str k :: V.str x :: cs.map V.str) 1 = some (V.str x) := atI_nat (j := 1) rfl
    refine ⟨_, rfl, l, _, 0, _, rfl, rfl, sl, a0, rfl, _, rfl, ?_⟩
    rw [decide_eq_true (show V.str k = V.str "key" by rw [ek])]
    refine iteT ⟨_, rfl, l, _, rfl, .inl sl, _, _, rfl, rfl, _, rfl, ?_⟩
    have l2 : (((V.str k :: V.str x :: cs.map V.str).length : Nat) : Int) ≥ 2 := by
      simp
      omega
    rw [decide_eq_true l2]
    refine iteT ⟨_, rfl, l, _, 1, _, rfl, rfl, sl, a1, _, rfl, _, rfl, l, _, rfl, sl, fun m nm => ⟨(by show 3 ≤ sizeLine; decide), fun t nt => ?_⟩⟩
    have ec : cutV (V.str k :: V.str x :: cs.map V.str) (some 2) none = cs.map V.str := by
      rw [cutV_tail (by decide)]
      rfl
    rw [ec] at nt ⊢
    have k1 : Off (fun _ => False) H (upd H m (.lst (cs.map V.str))) := Off.new nm
    rw [← ek]
    refine q t _ _ (ow nm nt ow0) (fun a z => ?_) (k1.trans (Off.new nt))
    rw [z]
    exact nm
  · obtain ⟨y, rfl⟩ : ∃ y, tl = [y] := by
      match tl, el with
      | [y], _ => exact ⟨y, rfl⟩
    rw [ruleW_eq, if_pos ek] at sl
    have sl : SqL K H l (V.str k :: V.str x :: (cs.map V.str ++ [V.str ">", V.str y])) := by
      have e : ((k :: x :: cs) ++ [(">" : Str), y]).map V.str = V.str k :: V.str x :: (cs.map V.str ++ [V.str ">", V.str y]) := by simp
      rw [← e]
      exact sl
    have a0 : atI (V.str k :: V.str x :: (cs.map V.str ++ [V.str ">", V.str y])) 0 = some (V.str k) := atI_nat (j := 0) rfl
    have a1 : atI (V.str k :: V.str x :: (cs.map V.str ++ [V.str ">", V.str y])) 1 = some (V.str x) := atI_nat (j := 1) rfl
    have b2 : atI (V.str k :: V.str x :: (cs.map V.str ++ [V.str ">", V.str y])) (-2) = some (V.str ">") := atI_back (V.str k :: V.str x :: cs.map V.str) _ _
    have b1 : atI (V.str k :: V.str x :: (cs.map V.str ++ [V.str ">", V.str y])) (-1) = some (V.str y) := by
      have := atI_last (V.str k :: V.str x :: (cs.map V.str ++ [V.str ">"])) (V.str y)
      simpa using this
    have nk : ¬ k = "key" := by
      rw [ek]
      decide +kernel
    refine ⟨_, rfl, l, _, 0, _, rfl, rfl, sl, a0, rfl, _, rfl, ?_⟩
    rw [decide_eq_false (show ¬ V.str k = V.str "key" from fun z => nk (V.str.inj z))]
    refine iteF ?_
    refine ⟨_, rfl, l, _, 0, _, rfl, rfl, sl, a0, rfl, _, rfl, ?_⟩
    rw [decide_eq_true (show V.str k = V.str "settles" by rw [ek])]
    refine iteT ⟨_, rfl, l, _, rfl, .inl sl, _, _, rfl, rfl, _, rfl, ?_⟩
    have l4 : (((V.str k :: V.str x :: (cs.map V.str ++ [V.str ">", V.str y])).length : Nat) : Int) ≥ 4 := by
      simp
      omega
    rw [decide_eq_true l4]
    refine iteT ⟨_, rfl, _, rfl, l, _, -2, _, rfl, rfl, sl, b2, rfl, _, rfl, ?_⟩
    rw [decide_eq_true rfl]
    refine iteT ⟨_, rfl, l, _, 1, _, rfl, rfl, sl, a1, _, rfl, _, rfl, _, rfl, _, rfl, l, _, rfl, sl, fun m nm => ?_⟩
    have ec : cutV (V.str k :: V.str x :: (cs.map V.str ++ [V.str ">", V.str y])) (some 2) (some (-2)) = cs.map V.str := cutV_mid _ _ _ _ _
    rw [show (-2 : Int) = -2 from rfl, ec] at *
    have k1 : Off (fun _ => False) H (upd H m (.lst (cs.map V.str))) := Off.new nm
    refine ⟨_, rfl, _, rfl, l, _, -1, _, rfl, rfl, sqL_off k1 sl, b1, (by show 4 ≤ sizeLine; decide), fun t nt => ?_⟩
    rw [← ek]
    refine q t _ _ (ow nm nt (owc_str ow0)) (fun a z => ?_) (k1.trans (Off.new nt))
    rw [z]
    exact nm
end
end LW
set_option Elab.async false
set_option linter.all false
set_option maxRecDepth 100000
set_option maxHeartbeats 0
/-! readings.py: tables_and_rules -/
namespace LW
open PySem PySem.Spec PyProof.Rows L2 KV
/-- no blank, no semicolon -/
def NoSep (x : Str) : Prop := ∀ c ∈ x.cps.toList, c ≠ 32 ∧ c ≠ 59
theorem Title.noSep {x : Str} (h : Title x) : NoSep x := fun c hc => by
  have := h.2.2 c hc
  omega
def noSepB (x : Str) : Bool := x.cps.toList.all fun c => decide (c ≠ 32 ∧ c ≠ 59)
theorem noSepB_ok {x : Str} (h : noSepB x = true) : NoSep x := fun c hc => of_decide_eq_true (List.all_eq_true.mp h c hc)
theorem mem_joinL {S : List Nat} {c : Nat} : ∀ {ps : List (List Nat)}, c ∈ TL.joinL S ps → c ∈ S ∨ ∃ p ∈ ps, c ∈ p
  | [], h => by simp [TL.joinL] at h
  | [p], h => .inr ⟨p, by simp, h⟩
  | p :: q :: r, h => by
    rcases List.mem_append.mp (show c ∈ p ++ (S ++ TL.joinL S (q :: r)) from h) with h | h
    · exact .inr ⟨p, by simp, h⟩
    · rcases List.mem_append.mp h with h | h
      · exact .inl h
      · rcases mem_joinL h with h | ⟨p', hp, hc⟩
        · exact .inl h
        · exact .inr ⟨p', List.mem_cons_of_mem _ hp, hc⟩
theorem join_no59 {ws : List Str} (h : ∀ w ∈ ws, NoSep w) : 59 ∉ TL.tl (Txt.join " " ws) := by
  intro z
  rw [TL.join_eq, TL.tl_join] at z
  rcases mem_joinL z with z | ⟨p, hp, hc⟩
  · have e : TL.tl (" " : Str) = [32] := by decide +kernel
    rw [e] at z
    simp at z
  · obtain ⟨w, hw, rfl⟩ := List.mem_map.mp hp
    exact (h w hw 59 hc).2 rfl
theorem split_words {ws : List Str} (ne : ws ≠ []) (h : ∀ w ∈ ws, NoSep w) : Txt.split (Txt.join " " ws) " " = ws :=
  TL.split_join (s := 32) (S := []) (by decide +kernel) (by decide +kernel) ne fun p hp z => (h p hp 32 z).1 rfl
theorem split_pieces {ps : List Str} (ne : ps ≠ []) (h : ∀ p ∈ ps, 59 ∉ TL.tl p) : Txt.split (Txt.join "; " ps) "; " = ps :=
  TL.split_join (s := 59) (S := [32]) (by decide +kernel) (by decide +kernel) ne h
/-- the words have no separators -/
structure WordsOk (ts : List Tab) (rs : List RB) : Prop where
  t : ∀ t ∈ ts, ∀ y ∈ tabW t, NoSep y
  r : ∀ r ∈ rs, ∀ y ∈ ruleW r, NoSep y
  f : ∀ r ∈ rs, formed r = true
def spTR (K : PySem.W.Frag) : Sp := fun vs H Q _ => ∃ (ts : List Tab) (rs : List RB), vs = [.str (bookT ts rs)] ∧ BkB 8 10 10 8 12 30 ts rs ∧ WordsOk ts rs ∧ 1 ≤ ts.length ∧
  ∀ a b t H', Dp K H' (.ref a) (tabsD ts) → Dp K H' (.ref b) (rbsD rs) → SqT K H' t [.ref a, .ref b] → Off (fun _ => False) H H' → Q (.ref t) H'
theorem ruleW_ne {r : RB} (f : formed r = true) : ∃ k w, ruleW r = k :: w ∧ k ≠ "table" := by
  obtain ⟨k, x, cs, tl, rfl, form⟩ := formed_ok f
  have hk : k ≠ "table" := by
    rcases form with ⟨z, _⟩ | ⟨z, _⟩ <;>
    · rw [z]
      decide +kernel
  rw [ruleW_eq]
  split
  · exact ⟨k, _, rfl, hk⟩
  · exact ⟨k, _, rfl, hk⟩
section
variable {P : Program} {w : World} {K : PySem.W.Frag} {mg : Str → Option Value} {base : Heap}
theorem scTR : FnScope ["text", "tables", "rules", "piece", "words"] ["text"] (defScope pTablesAndRules) := ⟨rfl, rfl, rfl, by decide +kernel, rfl, by decide +kernel, by decide +kernel⟩
theorem ok_TR {f fO : Addr} {fd dE dO : FuncData} (F : FnP K "tables_and_rules" pTablesAndRules f fd) (T : ErrT P w K mg base dE) (GO : FnOk P w K mg base (L2.CX P w) 3 fO dO ["words"] (spRuleOf K)) (bO : Binds K dO ["words"] []) (mO : mg "rule_of" = some (.ref fO)) (kO : PySem.W.keepIn K (.ref fO) = true)
    (ml : mg "len" = none) : FnOk P w K mg base (L2.CX P w) 4 f fd ["text"] (spTR K) := by
  have t1 := T.es.ok "Unreadable" (by decide)
  have g1 := T.g "Unreadable" (by decide)
  refine F.ok scTR (fun vs H Q E h => ?_) (fun cdv A outer s H vs Q E hr h => ?_)
  · obtain ⟨ts, rs, rfl, _⟩ := h
    rfl
  obtain ⟨ts, rs, rfl, bb, wo, one, q⟩ := h
  refine ⟨_, pss_cons (ps_set (i := 1) scTR.nd rfl (Or.inl rfl) (pe_lst pa_nil))
    (pss_cons (ps_set (i := 2) scTR.nd rfl (Or.inl rfl) (pe_lst pa_nil))
    (pss_cons (ps_for (passes_of rfl) rfl (pi_list (pe_ifExp (pt_truth (pv 0) (by intro _; rfl)) (pe_split (pv 0) pe_str) (pe_lst pa_nil))) (pg_name (i := 3) scTR.nd rfl (Or.inl rfl))
      (pss_cons (ps_set (i := 4) scTR.nd rfl (Or.inl rfl) (pe_split (pv 3) pe_str))
      (pss_one (ps_if (pt_cmpR op_ne (pe_ix ix_list (pv 4) pe_int (fun _ _ => rfl)) pe_str (nomark _))
        (pss_one (ps_expr (pe_bm PySem.F.plainAttrs_list PySem.F.slot_list_append PySem.F.type_list_append mt_append (pv 2) (pa_cons (pe_callS GO hr rfl mO kO bO (fun σ => passAt (takes_of rfl rfl rfl rfl) σ) (pa_cons (pv 4) pa_nil)) pa_nil))))
        (pss_one (ps_if (PW.pt (pw_or (pt_truth (pv 2) (by intro _; rfl)) (pw_or1 (pt_cmpR op_lt (pe_callB call_len_seq rfl ml boot_len (pa_cons (pv 4) pa_nil)) pe_int (nomark _)))))
          (pss_one (ps_raise rfl (takes_of rfl rfl rfl rfl) (pmk_oex t1.oex t1.ini t1.fn T.ini (hr.mono (by decide)) T.b .nil pass0 rfl g1 (pa_cons (pv 3) pa_nil))))
          (pss_one (ps_expr (pe_bm PySem.F.plainAttrs_list PySem.F.slot_list_append PySem.F.type_list_append mt_append (pv 1) (pa_cons (pe_tup (pa_cons (pe_ix ix_list (pv 4) pe_int (fun _ _ => rfl)) (pa_cons (pe_slice sl_list (pv 4) (po_some pe_int) po_none) pa_nil))) pa_nil))))))))))
    (pss_one (ps_ret (pe_tup (pa_cons (pv 1) (pa_cons (pv 2) pa_nil))))))), ?_⟩
  have no : ¬ False := id
  obtain ⟨pl, pc⟩ := pieces_le bb wo.f
  obtain ⟨PS, hPS⟩ : ∃ PS, PS = ts.map tabT ++ rs.map ruleT := ⟨_, rfl⟩
  have lP : PS.length = ts.length + rs.length := by
    rw [hPS, List.length_append, List.length_map, List.length_map]
  have neP : PS ≠ [] := by
    intro z
    rw [z] at lP
    have := one
    simp at lP
    omega
  have spl : Txt.split (bookT ts rs) "; " = PS := by
    unfold bookT
    rw [← hPS]
    refine split_pieces neP fun p hp => ?_
    rw [hPS] at hp
    rcases List.mem_append.mp hp with hp | hp
    · obtain ⟨t, ht, rfl⟩ := List.mem_map.mp hp
      exact join_no59 (wo.t t ht)
    · obtain ⟨r, hr, rfl⟩ := List.mem_map.mp hp
      exact join_no59 (wo.r r hr)
  have lB : (bookT ts rs).length ≤ 8080 := by
    have z := join_le "; " pl
    rw [sp2] at z
    have : (ts.map tabT ++ rs.map ruleT).length * (200 + 2) ≤ 40 * 202 := Nat.mul_le_mul pc (by decide)
    unfold bookT
    omega
  have posB : (((bookT ts rs).length : Int) != 0) = true := by
    rw [bne_iff_ne]
    intro z
    have e : bookT ts rs = Str.empty := by
      have : (bookT ts rs).length = 0 := by omega
      exact TL.ext_tl (by
        have h0 : (TL.tl (bookT ts rs)).length = 0 := by
          show (bookT ts rs).cps.toList.length = 0
          rw [Array.length_toList]
          exact this
        rw [List.length_eq_zero_iff.mp h0]
        rfl)
    have s0 : Txt.split Str.empty "; " = [Str.empty] := by decide +kernel
    rw [e, s0] at spl
    have h0 : PS.length = 1 := by rw [← spl]; rfl
    have mem : Str.empty ∈ PS := by rw [← spl]; simp
    rw [hPS] at mem
    have bad : ∀ ws : List Str, 2 ≤ ws.length → (∀ w ∈ ws, NoSep w) → Txt.join " " ws ≠ Str.empty := by
      intro ws l h e
      have z := split_words (ws := ws) (by intro z; rw [z] at l; simp at l) h
      have s1 : Txt.split Str.empty " " = [Str.empty] := by decide +kernel
      rw [e, s1] at z
      rw [← z] at l
      simp at l
    rcases List.mem_append.mp mem with hp | hp
    · obtain ⟨t, ht, e⟩ := List.mem_map.mp hp
      exact bad _ (by unfold tabW; simp) (wo.t t ht) e
    · obtain ⟨r, hr, e⟩ := List.mem_map.mp hp
      refine bad _ ?_ (wo.r r hr) e
      obtain ⟨k, x, cs, tl, rfl, _⟩ := formed_ok (wo.f r hr)
      rw [ruleW_eq]
      split <;> simp
  refine ⟨(by show 0 ≤ sizeLine; decide), fun l1 n1 => ⟨(by show 0 ≤ sizeLine; decide), fun l2 n2 => ?_⟩⟩
  refine ⟨_, rfl, true, ⟨Nat.le_trans lB (by decide), posB.symm⟩, iteT ⟨_, rfl, ⟨_, rfl⟩, _, _, rfl, rfl, (by decide +kernel), Nat.le_trans (m := 8082) (Nat.add_le_add_right lB 2) (by decide), fun sp nsp => ?_⟩⟩
  rw [spl]
  have k1 : Off (fun _ => False) H (upd H l1 (.lst [])) := Off.new n1
  have k2 : Off (fun _ => False) (upd H l1 (.lst [])) (upd (upd H l1 (.lst [])) l2 (.lst [])) := Off.new n2
  have k3 : Off (fun _ => False) (upd (upd H l1 (.lst [])) l2 (.lst [])) (upd (upd (upd H l1 (.lst [])) l2 (.lst [])) sp (.lst (PS.map V.str))) := Off.new nsp
  have b1 := k3 _ _ (k2 _ _ upd_same no) no
  have b2 := k3 _ _ (upd_same (H := upd H l1 (.lst [])) (a := l2) (o := .lst [])) no
  have b3 := upd_same (H := upd (upd H l1 (.lst [])) l2 (.lst [])) (a := sp) (o := .lst (PS.map V.str))
  have kB := (k1.trans k2).trans k3
  have ne12 : l1 ≠ l2 := ne_of_none (upd_same (H := H) (a := l1) (o := .lst [])) n2
  have ne1s : l1 ≠ sp := ne_of_none (k2 _ _ upd_same no) nsp
  have ne2s : l2 ≠ sp := ne_of_none (upd_same (H := upd H l1 (.lst [])) (a := l2) (o := .lst [])) nsp
  have nH1 : H l1 = none := n1
  have nH2 : H l2 = none := k1.none n2 no
  generalize upd (upd (upd H l1 (.lst [])) l2 (.lst [])) sp (.lst (PS.map V.str)) = B at b1 b2 b3 kB ⊢
  have lt := bb.tb.most
  have lr := bb.lr
  refine ⟨sp, rfl, ⟨_, SqL.of b3⟩, for_list (K := K) (a := sp) (xs := PS.map V.str) (fun i σ G => ∃ w3 w4 xs ys Ft Fr, σ = [some (.str (bookT ts rs)), some (.ref l1), some (.ref l2), w3, w4] ∧ G l1 = some (.lst xs) ∧ OwAll G xs ((ts.take i).map tabD) Ft ∧ (∀ a, Ft a → B a = none) ∧
      G l2 = some (.lst ys) ∧ OwAll G ys ((rs.take (i - ts.length)).map rbD) Fr ∧ (∀ a, Fr a → B a = none) ∧ Off (fun a => a = l1 ∨ a = l2) B G)
    ⟨none, none, [], [], fun _ => False, fun _ => False, rfl, b1, by simpa using OwAll.nil fun _ z => z, fun _ z => z.elim, b2, by simpa using OwAll.nil fun _ z => z, fun _ z => z.elim, Off.refl _ _⟩ (fun i σ G _ g => ?_) (fun i x σ G hx g => ?_) fun σ G g => ?_⟩
  · obtain ⟨_, _, _, _, _, _, _, _, _, _, _, _, _, k⟩ := g
    exact SqL.of (k _ _ b3 fun z => z.elim (fun z => ne1s z.symm) fun z => ne2s z.symm)
  · obtain ⟨w3, w4, xs, ys, Ft, Fr, rfl, e1, o1, f1, e2, o2, f2, k⟩ := g
    have lx := o1.length
    have ly := o2.length
    rw [List.length_map] at lx ly
    rw [List.getElem?_map] at hx
    obtain ⟨piece, hp, rfl⟩ := Option.map_eq_some_iff.mp hx
    have pm := List.mem_of_getElem? hp
    have hi : i < PS.length := (List.getElem?_eq_some_iff.mp hp).1
    have lpiece : piece.length ≤ 200 := pl piece (hPS ▸ pm)
    have fresh : ∀ {G' : Hp}, Off (fun _ => False) G G' → ∀ a, G' a = none → B a = none := fun k' a z => by
      have z1 := k'.none z no
      cases q0 : B a with
      | none => rfl
      | some o =>
        by_cases c : a = l1 ∨ a = l2
        · rcases c with rfl | rfl
          · rw [e1] at z1; cases z1
          · rw [e2] at z1; cases z1
        · rw [k a o q0 c] at z1
          cases z1
    refine ⟨_, rfl, ⟨_, rfl⟩, _, _, rfl, rfl, (by decide +kernel), Nat.le_trans (m := 202) (Nat.add_le_add_right lpiece 2) (by decide), fun m nm => ?_⟩
    rcases Nat.lt_or_ge i ts.length with lti | gei
    · -- a table
      obtain ⟨t, et⟩ : ∃ t, ts[i]? = some t := ⟨ts[i], by simp [lti]⟩
      have epc : piece = tabT t := by
        rw [hPS, List.getElem?_append_left (by rw [List.length_map]; exact lti), List.getElem?_map, et] at hp
        exact (Option.some.inj hp).symm
      have mt := List.mem_of_getElem? et
      have bt := bb.tb.each t mt
      subst epc
      have ew : Txt.split (tabT t) " " = tabW t := split_words (by unfold tabW; simp) (wo.t t mt)
      rw [ew]
      have km : Off (fun _ => False) G (upd G m (.lst ((tabW t).map V.str))) := Off.new nm
      have em := upd_same (H := G) (a := m) (o := .lst ((tabW t).map V.str))
      generalize upd G m (.lst ((tabW t).map V.str)) = G1 at km em ⊢
      have em : G1 m = some (.lst (V.str "table" :: V.str t.1 :: t.2.map V.str)) := em
      have z0 : i - ts.length = 0 := by omega
      rw [z0] at o2 ly
      have ey : ys = [] := List.length_eq_zero_iff.mp (by simpa using ly)
      subst ey
      have e1m := km _ _ e1 no
      have e2m := km _ _ e2 no
      refine ⟨_, rfl, m, _, 0, _, rfl, rfl, SqL.of em, atI_nat (j := 0) rfl, rfl, _, rfl, ?_⟩
      rw [decide_eq_true rfl]
      refine iteF ⟨_, rfl, false, .inl ⟨[], SqL.of e2m, rfl⟩, iteF ⟨_, rfl, m, _, rfl, .inl (SqL.of em), _, _, rfl, rfl, _, rfl, ?_⟩⟩
      have l3 : ¬ (((V.str "table" :: V.str t.1 :: t.2.map V.str).length : Nat) : Int) < 3 := by
        have := bt.one
        simp
        omega
      rw [decide_eq_false l3]
      refine iteF ⟨_, rfl, .inl ⟨rfl, _, SqL.of e1m⟩, _, rfl, m, _, 1, _, rfl, rfl, SqL.of em, atI_nat (j := 1) rfl, _, rfl, _, rfl, m, _, rfl, SqL.of em, fun m2 nm2 => ⟨(by show 2 ≤ sizeLine; decide), fun p np => ?_⟩⟩
      have ec : cutV (V.str "table" :: V.str t.1 :: t.2.map V.str) (some 2) none = t.2.map V.str := by
        rw [cutV_tail (by decide)]
        rfl
      rw [ec] at np
      rw [ec]
      have k5 : Off (fun _ => False) G1 (upd G1 m2 (.lst (t.2.map V.str))) := Off.new nm2
      have k6 : Off (fun _ => False) (upd G1 m2 (.lst (t.2.map V.str))) (upd (upd G1 m2 (.lst (t.2.map V.str))) p (.tup [V.str t.1, V.ref m2])) := Off.new np
      have em2 := k6 _ _ (upd_same (H := G1) (a := m2) (o := .lst (t.2.map V.str))) no
      have fm2 : B m2 = none := fresh km m2 nm2
      have op : Ow (upd (upd G1 m2 (.lst (t.2.map V.str))) p (.tup [V.str t.1, V.ref m2])) (.ref p) (tabD t) (fun a => a = m2) :=
        .tup upd_same (owc_str (owc (.lst em2 (owAll_strs (fun _ z => z) t.2) (fun z => z) fun b => ⟨.inl, fun z => z.elim id False.elim⟩) ow0))
      have kG := (km.trans k5).trans k6
      generalize upd (upd G1 m2 (.lst (t.2.map V.str))) p (.tup [V.str t.1, V.ref m2]) = G2 at op kG ⊢
      have e1' := kG _ _ e1 no
      refine ⟨l1, _, _, rfl, rfl, e1', by rw [lx, List.length_take]; exact small1000 (by omega), ?_⟩
      have kl : Off (fun a => a = l1) G2 (upd G2 l1 (.lst (xs ++ [.ref p]))) := Off.upd rfl
      have hgl : ∀ a, a = l1 → ∃ xs, G2 a = some (.lst xs) := fun a z => ⟨xs, by rw [z]; exact e1'⟩
      have b1' : ∀ a, Ft a → ¬ a = l1 := fun a z y => by have q0 := f1 a z; rw [y, b1] at q0; cases q0
      have o1' := (o1.keep kG (fun _ z => z.elim) fun _ _ z => z)
      refine ⟨_, _, xs ++ [.ref p], [], fun a => Ft a ∨ a = m2, fun _ => False, rfl, upd_same, ?_, fun a z => z.elim (f1 a) fun y => y ▸ fm2, ?_, ?_, fun _ z => z.elim, fun a o ea na => ?_⟩
      · rw [take_snoc et, List.map_append]
        refine OwAll.snoc (o1'.keep kl hgl b1') (op.keep kl hgl fun a z y => ?_) (fun a z y => ?_) fun a => Iff.rfl
        · rw [z] at y
          rw [y, b1] at fm2
          cases fm2
        · have z1 := o1.dom a z
          obtain ⟨xs', z1⟩ := z1
          rw [y] at z1
          have := km.none nm2 no
          rw [z1] at this
          cases this
      · rw [upd_ne (fun z => ne12 z.symm)]
        exact kG _ _ e2 no
      · have z1 : i + 1 - ts.length = 0 := by omega
        rw [z1]
        simpa using OwAll.nil fun _ z => z
      · rw [upd_ne (fun z => na (.inl z))]
        exact kG _ _ (k a o ea na) no
    · -- a rule
      obtain ⟨r, er⟩ : ∃ r, rs[i - ts.length]? = some r := ⟨rs[i - ts.length]'(by omega), by rw [List.getElem?_eq_getElem]⟩
      have epc : piece = ruleT r := by
        rw [hPS, List.getElem?_append_right (by rw [List.length_map]; exact gei), List.length_map, List.getElem?_map, er] at hp
        exact (Option.some.inj hp).symm
      have mr := List.mem_of_getElem? er
      have fr := wo.f r mr
      subst epc
      obtain ⟨k0, w0, ek0, nk0⟩ := ruleW_ne fr
      have ew : Txt.split (ruleT r) " " = ruleW r := split_words (by rw [ek0]; simp) (wo.r r mr)
      rw [ew]
      have km : Off (fun _ => False) G (upd G m (.lst ((ruleW r).map V.str))) := Off.new nm
      have em := upd_same (H := G) (a := m) (o := .lst ((ruleW r).map V.str))
      generalize upd G m (.lst ((ruleW r).map V.str)) = G1 at km em ⊢
      have a0 : atI ((ruleW r).map V.str) 0 = some (V.str k0) := by
        rw [ek0]
        exact atI_nat (j := 0) rfl
      refine ⟨_, rfl, m, _, 0, _, rfl, rfl, SqL.of em, a0, rfl, _, rfl, ?_⟩
      rw [decide_eq_false (fun z => nk0 (V.str.inj z))]
      refine iteT ⟨_, rfl, .inl ⟨rfl, _, SqL.of (km _ _ e2 no)⟩, _, rfl, m, r, rfl, SqL.of em, bb.rb r mr, fr, fun p Fp G2 op fp k5 => ?_⟩
      have kG := km.trans k5
      have e2' := kG _ _ e2 no
      refine ⟨l2, _, _, rfl, rfl, e2', by rw [ly, List.length_take]; exact small1000 (by omega), ?_⟩
      have kl : Off (fun a => a = l2) G2 (upd G2 l2 (.lst (ys ++ [.ref p]))) := Off.upd rfl
      have hgl : ∀ a, a = l2 → ∃ xs, G2 a = some (.lst xs) := fun a z => ⟨ys, by rw [z]; exact e2'⟩
      have b1' : ∀ a, Ft a → ¬ a = l2 := fun a z y => by have q0 := f1 a z; rw [y, b2] at q0; cases q0
      have b2' : ∀ a, Fr a → ¬ a = l2 := fun a z y => by have q0 := f2 a z; rw [y, b2] at q0; cases q0
      have o1' := (o1.keep kG (fun _ z => z.elim) fun _ _ z => z)
      have o2' := (o2.keep kG (fun _ z => z.elim) fun _ _ z => z)
      refine ⟨_, _, xs, ys ++ [.ref p], Ft, fun a => Fr a ∨ Fp a, rfl, ?_, ?_, f1, upd_same, ?_, fun a z => z.elim (f2 a) fun y => fresh km a (fp a y), fun a o ea na => ?_⟩
      · rw [upd_ne ne12]
        exact kG _ _ e1 no
      · have z1 : ts.take (i + 1) = ts.take i := by rw [List.take_of_length_le (by omega), List.take_of_length_le (by omega)]
        rw [z1]
        exact o1'.keep kl hgl b1'
      · have z1 : i + 1 - ts.length = (i - ts.length) + 1 := by omega
        rw [z1, take_snoc er, List.map_append]
        refine OwAll.snoc (o2'.keep kl hgl b2') (op.keep kl hgl fun a z y => ?_) (fun a z y => ?_) fun a => Iff.rfl
        · have := fp a z
          rw [y, km _ _ e2 no] at this
          cases this
        · obtain ⟨xs', z1⟩ := o2.dom a z
          have := fp a y
          rw [km _ _ z1 no] at this
          cases this
      · rw [upd_ne (fun z => na (.inr z))]
        exact kG _ _ (k a o ea na) no
  · obtain ⟨w3, w4, xs, ys, Ft, Fr, rfl, e1, o1, f1, e2, o2, f2, k⟩ := g
    have l0 : (PS.map V.str).length = ts.length + rs.length := by rw [List.length_map, lP]
    rw [l0, List.take_of_length_le (by omega)] at o1
    rw [l0, List.take_of_length_le (by omega)] at o2
    refine ⟨_, rfl, _, rfl, (by show 2 ≤ sizeLine; decide), fun t nt => ?_⟩
    have kt : Off (fun _ => False) G (upd G t (.tup [.ref l1, .ref l2])) := Off.new nt
    refine q l1 l2 t _ (.lst (SqL.of (kt _ _ e1 no)) (dpAll_off kt o1.dp)) (.lst (SqL.of (kt _ _ e2 no)) (dpAll_off kt o2.dp)) (SqT.of upd_same) fun a o ea _ => ?_
    refine kt a o (k a o (kB a o ea no) fun z => ?_) no
    rcases z with rfl | rfl
    · rw [nH1] at ea
      cases ea
    · rw [nH2] at ea
      cases ea
end
end LW
set_option Elab.async false
set_option linter.all false
set_option maxRecDepth 100000
set_option maxHeartbeats 0
/-! readings.py: read_book, of the text of a book -/
namespace LW
open PySem PySem.Spec PyProof.Rows L2 KV
def spRead (K : PySem.W.Frag) : Sp := fun vs H Q _ => ∃ (ts : List Tab) (rs : List RB), vs = [.str (bookT ts rs)] ∧ BkB 8 10 10 8 12 30 ts rs ∧ WordsOk ts rs ∧ 1 ≤ ts.length ∧ wrongBook ts rs = none ∧
  ∀ x H' F, BookOw K H' x ts rs F → (∀ a, F a → H a = none) → H x = none → Off (fun _ => False) H H' → Q (.ref x) H'
section
variable {P : Program} {w : World} {K : PySem.W.Frag} {mg : Str → Option Value} {base : Heap}
theorem scRead : FnScope ["text", "tables", "rules"] ["text"] (defScope pReadBook) := ⟨rfl, rfl, rfl, by decide +kernel, rfl, by decide +kernel, by decide +kernel⟩
theorem ok_read {f fT : Addr} {fd dT dB : FuncData} (F : FnP K "read_book" pReadBook f fd) (B : BookT K mg) (GT : FnOk P w K mg base (L2.CX P w) 4 fT dT ["text"] (spTR K)) (bT : Binds K dT ["text"] []) (mT : mg "tables_and_rules" = some (.ref fT)) (kT : PySem.W.keepIn K (.ref fT) = true)
    (GB : FnOk P w K mg base (L2.CX P w) 8 (He.ma K (He.ga K "Book") "__init__") dB ["self", "tables", "rules"] (spBook K)) (bB : Binds K dB ["self", "tables", "rules"] []) (gE : mg "KeyTellError" = some (.ref (He.ga K "KeyTellError"))) :
    FnOk P w K mg base CX0 10 f fd ["text"] (spRead K) := by
  refine F.ok scRead (fun vs H Q E h => ?_) (fun cdv A outer s H vs Q E hr h => ?_)
  · obtain ⟨ts, rs, rfl, _⟩ := h
    rfl
  obtain ⟨ts, rs, rfl, bb, wo, one, nw, q⟩ := h
  refine ⟨_, PSs.nox (pss_one (ps_try_only rfl rfl ⟨rfl, by decide, .inl gE⟩ takes0 (fun W pn xe tk _ =>
      pss_cons (ps_asg (pe_callS GT (hr.mono (by decide)) rfl mT kT bT (fun σ => passAt tk σ) (pa_cons (pv 0) pa_nil)) (show PG _ _ (gTup K 2 (gCons (gName 1) (gCons (gName 2) gNil))) from pg_tup rfl (pgs_cons (pg_name (i := 1) scRead.nd rfl (Or.inl rfl)) (pgs_cons (pg_name (i := 2) scRead.nd rfl (Or.inl rfl)) pgs_nil))))
      (pss_one (ps_ret (pe_makeS B.mkr GB hr rfl B.g bB (fun σ => passAt tk σ) (pa_cons (pv 1) (pa_cons (pv 2) pa_nil))))))
    (fun a oe cls d pn _ _ => pss_one ps_never))), ?_⟩
  have no : ¬ False := id
  refine ⟨_, rfl, ts, rs, rfl, bb, wo, one, fun a b t H1 da db sq k1 => ?_⟩
  refine ⟨t, [.ref a, .ref b], rfl, sq, rfl, .ref a, [.ref b], rfl, .ref b, [], rfl, rfl, ?_⟩
  refine ⟨_, rfl, _, rfl, made_of da db bb ?_⟩
  rw [nw]
  exact fun x H' F' bo fr nx k => q x H' F' bo (fun a z => k1.none (fr a z) no) (k1.none nx no) (k1.trans k)
end
end LW
set_option Elab.async false
set_option linter.all false
set_option maxRecDepth 100000
set_option maxHeartbeats 0
/-! _law_road -/
namespace LW
open PySem PySem.Spec PyProof.Rows L2 KV
/-- a def that stands and may raise -/
structure DnX (P : Program) (w : World) (K : PySem.W.Frag) (mg : Str → Option Value) (base : Heap) (k : Nat) (ps : List Str) (sp : Sp) (f : Addr) (fd : FuncData) : Prop where
  g : FnOk P w K mg base (L2.CX P w) k f fd ps sp
  b : Binds K fd ps []
def EN : XK := fun _ _ _ => False
theorem passN {X : Cx} : Passes (L2.CX X.prog X.w) X EN := fun _ _ _ _ _ _ _ c => by
  obtain ⟨_, _, _, _, _, _, _, _, _, _, _, _, z⟩ := c
  exact z.elim
/-- rules that hold for the tables: with a form, of known columns -/
def RbS (ts : List Tab) (r : RB) : Prop := ∃ k x cs tl t, r = ([k, x], some (cs, tl)) ∧ ((k = "key" ∧ tl.length = 0) ∨ (k = "settles" ∧ tl.length = 1)) ∧ tabOf ts x = some t ∧ ∀ c ∈ cs ++ tl, c ∈ t.2
theorem RbS.form {ts : List Tab} {r : RB} (h : RbS ts r) : formed r = true := by
  obtain ⟨k, x, cs, tl, t, rfl, f, _⟩ := h
  exact decide_eq_true f
theorem RbS.right {ts : List Tab} {r : RB} (h : RbS ts r) : wrong1 ts r = none := by
  obtain ⟨k, x, cs, tl, t, rfl, f, e, hc⟩ := h
  rw [wrong1_yes f, e]
  dsimp only
  have z : (cs ++ tl).find? (fun c => !decide (c ∈ t.2)) = none := by
    rw [List.find?_eq_none]
    intro c h
    simp [hc c h]
  rw [z]
theorem wrongs_none {ts : List Tab} : ∀ {rs : List RB}, (∀ r ∈ rs, RbS ts r) → wrongs ts rs = none
  | [], _ => by rw [wrongs]
  | r :: rs, h => by
    rw [wrongs, (h r List.mem_cons_self).right]
    exact wrongs_none fun x hx => h x (List.mem_cons_of_mem _ hx)
theorem isT_of {x : Str} (h : Title x) : isT x = true := isT_title.mpr h
theorem wrongCols_none : ∀ {cs b : List Str}, (∀ x ∈ cs, Title x) → cs.Nodup → (∀ x ∈ cs, x ∉ b) → wrongCols b cs = none
  | [], b, _, _, _ => by rw [wrongCols]
  | c :: cs, b, h, nd, n => by
    obtain ⟨n1, n2⟩ := List.nodup_cons.mp nd
    rw [wrongCols_next (isT_of (h c List.mem_cons_self)) (n c List.mem_cons_self)]
    refine wrongCols_none (fun x hx => h x (List.mem_cons_of_mem _ hx)) n2 fun x hx z => ?_
    rcases List.mem_append.mp z with z | z
    · exact n x (List.mem_cons_of_mem _ hx) z
    · rw [List.mem_singleton.mp z] at hx
      exact n1 hx
theorem wrongTabs_none {mc : Nat} : ∀ {ts : List Tab} {b : List Str}, (∀ t ∈ ts, TabOk mc t) → (ts.map Prod.fst).Nodup → (∀ t ∈ ts, t.1 ∉ b) → wrongTabs b ts = none
  | [], b, _, _, _ => by rw [wrongTabs]
  | t :: ts, b, h, nd, n => by
    obtain ⟨n1, n2⟩ := List.nodup_cons.mp (show (t.1 :: ts.map Prod.fst).Nodup from nd)
    have ht := h t List.mem_cons_self
    rw [wrongTabs_next (isT_of ht.name) (n t List.mem_cons_self) (wrongCols_none ht.good ht.nd fun _ _ z => by simp at z)]
    refine wrongTabs_none (fun x hx => h x (List.mem_cons_of_mem _ hx)) n2 fun x hx z => ?_
    rcases List.mem_append.mp z with z | z
    · exact n x (List.mem_cons_of_mem _ hx) z
    · exact n1 (List.mem_map.mpr ⟨x, hx, List.mem_singleton.mp z⟩)
theorem wrongBook_none {mt mc : Nat} {ts : List Tab} {rs : List RB} (h : TabsOk mt mc ts) (hr : ∀ r ∈ rs, RbS ts r) : wrongBook ts rs = none := by
  unfold wrongBook
  rw [wrongTabs_none h.each h.nd fun _ _ z => by simp at z]
  exact wrongs_none hr
theorem wordsOk_of {mt mc : Nat} {ts : List Tab} {rs : List RB} (h : TabsOk mt mc ts) (hr : ∀ r ∈ rs, RbS ts r) : WordsOk ts rs := by
  have n1 : NoSep "table" := noSepB_ok (by decide +kernel)
  have n2 : NoSep ">" := noSepB_ok (by decide +kernel)
  have n3 : NoSep "key" := noSepB_ok (by decide +kernel)
  have n4 : NoSep "settles" := noSepB_ok (by decide +kernel)
  refine ⟨fun t ht y hy => ?_, fun r h0 y hy => ?_, fun r h0 => (hr r h0).form⟩
  · have tb := h.each t ht
    unfold tabW at hy
    rcases List.mem_cons.mp hy with rfl | hy
    · exact n1
    · rcases List.mem_cons.mp hy with rfl | hy
      · exact tb.name.noSep
      · exact (tb.good y hy).noSep
  · obtain ⟨k, x, cs, tl, t, rfl, f, e, hc⟩ := hr r h0
    have mt := List.mem_of_find?_eq_some e
    have tb := h.each t mt
    have ex : t.1 = x := by
      unfold tabOf at e
      have e0 := List.find?_some e
      exact of_decide_eq_true e0
    have gk : NoSep k := by
      rcases f with ⟨z, _⟩ | ⟨z, _⟩ <;> rw [z] <;> assumption
    have gx : NoSep x := ex ▸ tb.name.noSep
    have gc : ∀ c ∈ cs ++ tl, NoSep c := fun c h => (tb.good c (hc c h)).noSep
    rw [ruleW_eq] at hy
    split at hy
    · rcases List.mem_append.mp hy with hy | hy
      · rcases List.mem_cons.mp hy with rfl | hy
        · exact gk
        · rcases List.mem_cons.mp hy with rfl | hy
          · exact gx
          · exact gc y (List.mem_append_left _ hy)
      · rcases List.mem_cons.mp hy with rfl | hy
        · exact n2
        · exact gc y (List.mem_append_right _ hy)
    · rcases List.mem_cons.mp hy with rfl | hy
      · exact gk
      · rcases List.mem_cons.mp hy with rfl | hy
        · exact gx
        · exact gc y (List.mem_append_left _ hy)
theorem owAll_cut {H : Hp} : ∀ {xs : List V} {ds : List PyData} {F : Fp} (n : Nat), OwAll H xs ds F → ∃ F1 F2, OwAll H (xs.take n) (ds.take n) F1 ∧ OwAll H (xs.drop n) (ds.drop n) F2 ∧ (∀ a, F a ↔ F1 a ∨ F2 a) ∧ ∀ a, F1 a → ¬ F2 a
  | _, _, F, n, .nil e => ⟨fun _ => False, fun _ => False, by simpa using OwAll.nil fun _ z => z, by simpa using OwAll.nil fun _ z => z, fun a => ⟨fun z => (e a z).elim, fun z => z.elim False.elim False.elim⟩, fun _ z => z.elim⟩
  | _, _, F, 0, .cons h r d e => ⟨fun _ => False, F, by simpa using OwAll.nil fun _ z => z, .cons h r d e, fun a => ⟨.inr, fun z => z.elim False.elim id⟩, fun _ z => z.elim⟩
  | _, _, F, n + 1, .cons (F := F1) (G := G1) h r d e => by
    obtain ⟨A, B, h1, h2, h3, h4⟩ := owAll_cut n r
    refine ⟨fun a => F1 a ∨ A a, B, .cons h h1 (fun a z y => d a z ((h3 a).mpr (.inl y))) fun _ => Iff.rfl, h2, fun a => ?_, fun a z y => ?_⟩
    · rw [e a, h3 a]
      exact ⟨fun z => z.elim (fun z => .inl (.inl z)) fun z => z.elim (fun z => .inl (.inr z)) .inr, fun z => z.elim (fun z => z.elim .inl fun z => .inr (.inl z)) fun z => .inr (.inr z)⟩
    · rcases z with z | z
      · exact d a z ((h3 a).mpr (.inr y))
      · exact h4 a z y
theorem owAll_app {H : Hp} : ∀ {xs ys : List V} {ds es : List PyData} {F G : Fp}, OwAll H xs ds F → OwAll H ys es G → (∀ a, F a → ¬ G a) → OwAll H (xs ++ ys) (ds ++ es) (fun a => F a ∨ G a)
  | _, _, _, _, F, G, .nil e, h, d => h.congr fun a => ⟨fun z => z.elim (fun z => (e a z).elim) id, .inr⟩
  | _, _, _, _, F, G, .cons (F := F1) (G := G1) h r d0 e, h2, d => by
    refine .cons (G := fun a => G1 a ∨ G a) h (owAll_app r h2 fun a z => d a ((e a).mpr (.inr z))) (fun a z y => ?_) fun a => ?_
    · rcases y with y | y
      · exact d0 a z y
      · exact d a ((e a).mpr (.inl z)) y
    · constructor
      · rintro (z | z)
        · exact ((e a).mp z).elim .inl fun z => .inr (.inl z)
        · exact .inr (.inr z)
      · rintro (z | z | z)
        · exact .inl ((e a).mpr (.inl z))
        · exact .inl ((e a).mpr (.inr z))
        · exact .inr z
theorem tabOf_nd {ts : List Tab} {t : Tab} (nd : (ts.map Prod.fst).Nodup) (h : t ∈ ts) : tabOf ts t.1 = some t := by
  induction ts with
  | nil => simp at h
  | cons u us ih =>
    obtain ⟨n1, n2⟩ := List.nodup_cons.mp (show (u.1 :: us.map Prod.fst).Nodup from nd)
    rcases List.mem_cons.mp h with rfl | h
    · exact tabOf_cons_yes rfl
    · rw [tabOf_cons_no fun z => n1 (List.mem_map.mpr ⟨t, h, z.symm⟩)]
      exact ih n2 h
theorem look_none {f : Str} (v1 v2 : V) (h1 : (f == ("_tables" : Str)) = false) (h2 : (f == ("_rules" : Str)) = false) : List.lookup f [(("_tables" : Str), v1), (("_rules" : Str), v2)] = none := by
  simp [List.lookup, h1, h2]
/-- Book(v, w) of sound tables and rules, at a known place -/
theorem made_at {K : PySem.W.Frag} {H : Hp} {v w : V} {C : V → Hp → Prop} {E : XK} {ts : List Tab} {rs : List RB} {n mc mt N M L : Nat} {x dx : Addr} (dv : Dp K H v (tabsD ts)) (dw : Dp K H w (rbsD rs)) (bb : BkB n mc mt N M L ts rs) (nw : wrongBook ts rs = none)
    (nx : H x = none) (ndx : H dx = none) (nex : dx ≠ x) (q : ∀ H' F, BookOw K H' x ts rs F → (∀ a, F a → H a = none) → Off (fun _ => False) H H' → C .non H') :
    spBook K [.ref x, v, w] (upd (upd H dx (.own x)) x (.ins (He.ga K "Book") dx [])) C E := by
  have no : ¬ False := id
  have kM : Off (fun _ => False) H (upd (upd H dx (.own x)) x (.ins (He.ga K "Book") dx [])) := (Off.new ndx).trans (Off.new (by rw [upd_ne (Ne.symm nex)]; exact nx))
  have nM : ∀ a, upd (upd H dx (.own x)) x (.ins (He.ga K "Book") dx []) a = none → H a = none := fun a z => kM.none z no
  refine ⟨x, dx, v, w, ts, rs, n, mc, mt, N, M, L, rfl, upd_same, dp_off kM dv, dp_off kM dw, bb, ?_⟩
  generalize upd (upd H dx (.own x)) x (.ins (He.ga K "Book") dx []) = HM at kM nM ⊢
  rw [nw]
  exact fun H' F bo fr k => q H' F bo (fun a z => nM a (fr a z)) fun b o eb nb => k _ _ (kM b o eb nb) fun z => by
    rw [z, nx] at eb
    cases eb
/-- what stands where a book was made -/
def RoadEnd (K : PySem.W.Frag) (H : Hp) (p : Addr) (c : Nat) (ts : List Tab) (rs : List RB) (G : Hp) (x : Addr) (vg vk : V) : Prop := ∃ (Fg Fk Fb : Fp) (dk : PyData) (c' : Nat), Ow G vg (tabsD ts) Fg ∧ Ow G vk dk Fk ∧ Fit 8 [22, 5, 12] dk ∧ BookOw K G x ts rs Fb ∧
  (∀ a, Fb a → ¬ Fg a) ∧ (∀ a, Fb a → ¬ Fk a) ∧ (∀ a, Fg a → ¬ Fk a) ∧ (∀ a, Fg a → H a = none) ∧ (∀ a, Fk a → H a = none) ∧ (∀ a, Fb a → H a = none) ∧ H x = none ∧ Pu G p c' ∧ c' ≤ c + 3 ∧ Off (fun a => a = p) H G
theorem offN {H G G' : Hp} {p : Addr} {F : Fp} (k : Off (fun a => a = p) H G) (k' : Off F G G') (f : ∀ a, F a → H a = none) : Off (fun a => a = p) H G' := fun a o e n => k' a o (k a o e n) fun z => by
  rw [f a z] at e
  cases e
theorem road_end {K : PySem.W.Frag} {H G : Hp} {p x : Addr} {c : Nat} {ts : List Tab} {rs : List RB} {v w vg vk a3 a6 : V} {w7 w8 : Option V} {Q : VK} (re : RoadEnd K H p c ts rs G x vg vk) (fitT : Fit 8 [6, 2, 8] (tabsD ts)) (pl : ∃ xs, H p = some (.lst xs))
    (q : ∀ x H' F c', BookOw K H' x ts rs F → (∀ a, F a → H a = none) → H x = none → Pu H' p c' → c' ≤ c + 10 → Off (fun a => a = p) H H' → Q (.ref x) H') :
    tSeq (tDrop (tCall (spMuddle 6) [] E0 (tCons (tVar 4) tNil))) (tSeq (tDrop (tCall (spMuddle 6) [] E0 (tCons (tVar 5) tNil))) (tRet (tVar 9))) { nx := fun _ H' => Q .non H', rt := Q }
      [some (.ref p), some v, some w, some a3, some vg, some vk, some a6, w7, w8, some (.ref x)] G := by
  obtain ⟨Fg, Fk, Fb, dk, c', og, ok, fk, bo, d1, d2, d3, gH, kH, bH, nx, hp, hc, k⟩ := re
  have np : ∀ {F : Fp}, (∀ a, F a → H a = none) → ¬ F p := fun f z => by
    obtain ⟨xs, e⟩ := pl
    rw [f p z] at e
    cases e
  refine ⟨_, rfl, vg, tabsD ts, Fg, 8, [6, 2, 8], rfl, og, fitT, by decide, by decide, fun G1 _ k1 => ?_⟩
  have ok1 := ok.keep k1 og.dom fun a z y => d3 a y z
  have bo1 := bo.keep k1 og.dom d1
  have hp1 := hp.off k1 (np gH)
  refine ⟨_, rfl, vk, dk, Fk, 8, [22, 5, 12], rfl, ok1, fk, by decide, by decide, fun G2 _ k2 => ?_⟩
  exact ⟨_, rfl, q x G2 Fb c' (bo1.keep k2 ok1.dom d2) bH nx (hp1.off k2 (np kH)) (by omega) (offN (offN k k1 gH) k2 kH)⟩
theorem road_tail {K : PySem.W.Frag} {H G : Hp} {p x : Addr} {c n mc mt N M L : Nat} {ts : List Tab} {rs : List RB} {v w vg vk a6 : V} {way : Int} {w7 w8 : Option V} {Q : VK} (re : RoadEnd K H p c ts rs G x vg vk) (bb : BkB n mc mt N M L ts rs) (fitT : Fit 8 [6, 2, 8] (tabsD ts)) (fitR : Fit 8 [21, 5, 12] (rbsD rs)) (pl : ∃ xs, H p = some (.lst xs))
    (q : ∀ x H' F c', BookOw K H' x ts rs F → (∀ a, F a → H a = none) → H x = none → Pu H' p c' → c' ≤ c + 10 → Off (fun a => a = p) H H' → Q (.ref x) H') :
    tSeq (tIfS (tTest (tOp rEq (tVar 3) (tC (.int 4)))) (tSeq (tDrop (tCall (spMuddle 6) [] E0 (tCons (tProp (He.ga K "Book") (spGetT K) [] E0 (tVar 9)) tNil))) (tDrop (tCall (spMuddle 6) [] E0 (tCons (tProp (He.ga K "Book") (spGetR K) [] E0 (tVar 9)) tNil)))) tNext)
      (tSeq (tDrop (tCall (spMuddle 6) [] E0 (tCons (tVar 4) tNil))) (tSeq (tDrop (tCall (spMuddle 6) [] E0 (tCons (tVar 5) tNil))) (tRet (tVar 9)))) { nx := fun _ H' => Q .non H', rt := Q }
      [some (.ref p), some v, some w, some (.int way), some vg, some vk, some a6, w7, w8, some (.ref x)] G := by
  refine ⟨_, rfl, rfl, _, rfl, ite2 (fun _ => ?_) (fun _ => road_end re fitT pl q)⟩
  obtain ⟨Fg, Fk, Fb, dk, c', og, ok, fk, bo, d1, d2, d3, gH, kH, bH, nx, hp, hc, k⟩ := id re
  have np : ∀ {F : Fp}, (∀ a, F a → G a = none) → ¬ F p := fun f z => by
    obtain ⟨xs, e⟩ := hp.lst
    rw [f p z] at e
    cases e
  have gH' : ∀ a, G a = none → H a = none := fun a z => by
    cases q0 : H a with
    | none => rfl
    | some o =>
      by_cases y : a = p
      · obtain ⟨xs, e⟩ := hp.lst
        rw [y, e] at z
        cases z
      · rw [k a o q0 y] at z
        cases z
  obtain ⟨dx, y1, y2, hx, _, _⟩ := id bo.of
  refine ⟨_, rfl, x, dx, _, rfl, hx, x, ts, rs, n, mc, mt, N, M, L, rfl, bo.of, bb, fun v1 F1 G1 o1 f1 k1 => ?_⟩
  refine ⟨v1, tabsD ts, F1, 8, [6, 2, 8], rfl, o1, fitT, by decide, by decide, fun G2 _ k2 => ?_⟩
  have k12 : Off (fun _ => False) G G2 := fun a o e _ => k2 a o (k1 a o e id) fun z => by
    rw [f1 a z] at e
    cases e
  have bo2 := bo.off k12
  refine ⟨_, rfl, x, dx, _, rfl, k12 _ _ hx id, x, ts, rs, n, mc, mt, N, M, L, rfl, bo2.of, bb, fun v3 F3 G3 o3 f3 k3 => ?_⟩
  refine ⟨v3, rbsD rs, F3, 8, [21, 5, 12], rfl, o3, fitR, by decide, by decide, fun G4 _ k4 => ?_⟩
  have k34 : Off (fun _ => False) G2 G4 := fun a o e _ => k4 a o (k3 a o e id) fun z => by
    rw [f3 a z] at e
    cases e
  have k14 := k12.trans k34
  exact road_end ⟨Fg, Fk, Fb, dk, c', og.keep k14 (fun _ z => z.elim) fun _ _ z => z, ok.keep k14 (fun _ z => z.elim) fun _ _ z => z, fk, bo.off k14, d1, d2, d3, gH, kH, bH, nx, hp.off k14 id, hc, k.trans (k14.mono fun _ z => z.elim)⟩ fitT pl q
def spRoad (K : PySem.W.Frag) : Sp := fun vs H Q _ => ∃ (p : Addr) (v w : V) (ts : List Tab) (rs : List RB) (mt mc c : Nat), vs = [.ref p, v, w] ∧ Dp K H v (tabsD ts) ∧ TabsOk mt mc ts ∧ mt ≤ 6 ∧ mc ≤ 8 ∧ Dp K H w (rbsD rs) ∧ (∀ r ∈ rs, RbS ts r) ∧ (∀ r ∈ rs, RbOk 8 12 r) ∧ rs.length ≤ 20 ∧
  Pu H p c ∧ c + 10 ≤ 1000000000 ∧ ∀ x H' F c', BookOw K H' x ts rs F → (∀ a, F a → H a = none) → H x = none → Pu H' p c' → c' ≤ c + 10 → Off (fun a => a = p) H H' → Q (.ref x) H'
section
variable {P : Program} {w : World} {K : PySem.W.Frag} {mg : Str → Option Value} {base : Heap}
theorem scRoad : FnScope ["purse", "tables_here", "rules_here", "way", "given", "kept", "spot", "title", "known", "made"] ["purse", "tables_here", "rules_here"] (defScope sRoad) := ⟨rfl, rfl, rfl, by decide +kernel, rfl, by decide +kernel, by decide +kernel⟩
theorem ok_road {f fC fD fM fSh fRe fWi fWo pT gT pR gR : Addr} {fd dC dD dM dSh dRe dWi dWo dB dgT dgR : FuncData} {g : List Value → List Value → List Value} (F : FnP K "_law_road" sRoad f fd) (B : BookT K mg)
    (C : Dn P w K mg base 1 "_law_coin" ["purse", "many"] spCoin fC dC) (D : Dn P w K mg base 6 "_law_copied" ["thing"] (spCopied K 6) fD dD) (M : Dn P w K mg base 6 "_law_muddle" ["thing"] (spMuddle 6) fM dM)
    (S : Dn P w K mg base 9 "show_book" ["book"] (spShow K) fSh dSh) (R : Dn P w K mg base 10 "read_book" ["text"] (spRead K) fRe dRe)
    (GB : DnX P w K mg base 8 ["self", "tables", "rules"] (spBook K) (He.ma K (He.ga K "Book") "__init__") dB) (kB : KBn K dB ["self", "tables", "rules"] 1 ["tables", "rules"] g (fun us zs => us ++ zs))
    (mWi : Meth K (He.ga K "Book") "with_rules" fWi) (GWi : DnX P w K mg base 10 ["self", "more"] (spWith K) fWi dWi) (mWo : Meth K (He.ga K "Book") "without" fWo) (GWo : DnX P w K mg base 10 ["self", "index"] (spWithout K) fWo dWo)
    (pt : PropOf K (He.ga K "Book") "tables" pT gT) (GT : FnOk P w K mg base CX0 7 gT dgT ["self"] (spGetT K)) (bT : Binds K dgT ["self"] [])
    (pr : PropOf K (He.ga K "Book") "rules" pR gR) (GR : FnOk P w K mg base CX0 7 gR dgR ["self"] (spGetR K)) (bR : Binds K dgR ["self"] []) (ml : mg "len" = none) (mL : mg "list" = none) :
    FnOk P w K mg base CX0 11 f fd ["purse", "tables_here", "rules_here"] (spRoad K) := by
  refine F.ok scRoad (fun vs H Q E h => ?_) (fun cdv A outer s H vs Q E hr h => ?_)
  · obtain ⟨p, v, w, ts, rs, mt, mc, c, rfl, _⟩ := h
    rfl
  obtain ⟨p, v, w, ts, rs, mt, mc, c, rfl, hv, tk, hmt, hmc, hw, hrs, hrb, lr, hp, hc, q⟩ := h
  refine ⟨_, PSs.nox (pss_cons (ps_par3 (i := 3) (j := 4) (l := 5) rfl scRoad.nd rfl rfl rfl (by decide) (by decide) (by decide) rfl rfl rfl (pa_cons (pe_call C.g (hr.mono (by decide)) rfl C.m C.kp C.b .nil pass0 (pa_cons (pv 0) (pa_cons pe_int pa_nil)))
        (pa_cons (pe_call D.g (hr.mono (by decide)) rfl D.m D.kp D.b .nil pass0 (pa_cons (pv 1) pa_nil)) (pa_cons (pe_call D.g (hr.mono (by decide)) rfl D.m D.kp D.b .nil pass0 (pa_cons (pv 2) pa_nil)) pa_nil))) rfl)
    (pss_cons (ps_set (i := 6) scRoad.nd rfl (Or.inl rfl) (pe_call C.g (hr.mono (by decide)) rfl C.m C.kp C.b .nil pass0 (pa_cons (pv 0) (pa_cons (pe_op op_add (pe_callB call_len_seq rfl ml boot_len (pa_cons (pv 5) pa_nil)) pe_int) pa_nil))))
    (pss_cons (ps_if (PW.pt (pw_and (pt_cmpR op_eq (pv 3) pe_int (nomark _)) (pw_and1 (pt_cmpR op_lt (pe_callB call_len_seq rfl ml boot_len (pa_cons (pv 5) pa_nil)) pe_int (nomark _)))))
        (pss_cons (ps_asg (pe_ix ix_list (pv 1) (pe_call C.g (hr.mono (by decide)) rfl C.m C.kp C.b .nil pass0 (pa_cons (pv 0) (pa_cons (pe_callB call_len_seq rfl ml boot_len (pa_cons (pv 1) pa_nil)) pa_nil))) (fun _ _ => rfl))
            (pg_tup rfl (pgs_cons (pg_name (i := 7) scRoad.nd rfl (Or.inl rfl)) (pgs_cons (pg_name (i := 8) scRoad.nd rfl (Or.inl rfl)) pgs_nil))))
        (pss_cons (ps_set (i := 5) scRoad.nd rfl (Or.inl rfl) (pe_op op_catS (pe_op op_catS (pe_slice sl_list (pv 5) po_none (po_some (pv 6))) (pe_lst (pa_cons (pe_tup (pa_cons pe_str (pa_cons (pv 7) (pa_cons (pe_callTy call_list_of rfl mL boot_list (pa_cons (pv 8) pa_nil)) pa_nil)))) pa_nil))) (pe_slice sl_list (pv 5) (po_some (pv 6)) po_none)))
        (pss_one (ps_set (i := 9) scRoad.nd rfl (Or.inl rfl) (pe_meth (pe_make B.mkr GB.g (hr.mono (by decide)) rfl B.g GB.b .nil passN (pa_cons (pv 4) (pa_cons (pv 5) pa_nil))) B.cl mWo GWo.g hr GWo.b .nil passN (pa_cons (pv 6) pa_nil))))))
        (pss_one (ps_if (pt_cmpR op_eq (pv 3) pe_int (nomark _))
          (pss_one (ps_set (i := 9) scRoad.nd rfl (Or.inl rfl) (pe_meth (pe_make B.mkr GB.g (hr.mono (by decide)) rfl B.g GB.b .nil passN (pa_cons (pv 4) (pa_cons (pe_slice sl_list (pv 5) po_none (po_some (pv 6))) pa_nil))) B.cl mWi GWi.g hr GWi.b .nil passN (pa_cons (pe_slice sl_list (pv 5) (po_some (pv 6)) po_none) pa_nil))))
          (pss_one (ps_if (pt_cmpR op_eq (pv 3) pe_int (nomark _))
            (pss_one (ps_set (i := 9) scRoad.nd rfl (Or.inl rfl) (pe_call R.g hr rfl R.m R.kp R.b .nil pass0 (pa_cons (pe_call S.g (hr.mono (by decide)) rfl S.m S.kp S.b .nil pass0 (pa_cons (pe_make B.mkr GB.g (hr.mono (by decide)) rfl B.g GB.b .nil passN (pa_cons (pv 4) (pa_cons (pv 5) pa_nil))) pa_nil)) pa_nil))))
            (pss_one (ps_set (i := 9) scRoad.nd rfl (Or.inl rfl) (pe_makeK0 B.mkr GB.g (hr.mono (by decide)) rfl B.g kB passN (pk_cons (pv 4) (pk_cons (pv 5) pk_nil))))))))))
    (pss_cons (ps_if (pt_cmpR op_eq (pv 3) pe_int (nomark _))
        (pss_cons (ps_expr (pe_call M.g (hr.mono (by decide)) rfl M.m M.kp M.b .nil pass0 (pa_cons (pe_prop (pv 9) B.cl pt GT (hr.mono (by decide)) bT .nil pass0 rfl) pa_nil)))
        (pss_one (ps_expr (pe_call M.g (hr.mono (by decide)) rfl M.m M.kp M.b .nil pass0 (pa_cons (pe_prop (pv 9) B.cl pr GR (hr.mono (by decide)) bR .nil pass0 rfl) pa_nil))))) pss_nil)
    (pss_cons (ps_expr (pe_call M.g (hr.mono (by decide)) rfl M.m M.kp M.b .nil pass0 (pa_cons (pv 4) pa_nil)))
    (pss_cons (ps_expr (pe_call M.g (hr.mono (by decide)) rfl M.m M.kp M.b .nil pass0 (pa_cons (pv 5) pa_nil)))
    (pss_one (ps_ret (pv 9))))))))), ?_⟩
  have no : ¬ False := id
  have tb : TabsB 8 8 6 ts := by
    have b := tk.b
    exact ⟨b.one, Nat.le_trans b.most hmt, fun t ht => (b.each t ht).mono (Nat.le_refl _) hmc⟩
  have bb : BkB 8 8 6 8 12 21 ts rs := ⟨tb.w, hrb, by decide, by decide, by decide, by decide, by omega, by decide⟩
  have nw := wrongBook_none tk hrs
  have fitT : Fit 8 [6, 2, 8] (tabsD ts) := fit_tabs tb
  have fitR : Fit 8 [21, 5, 12] (rbsD rs) := fit_rbs (Nat.le_trans lr (by decide)) hrb
  refine ⟨_, rfl, p, 6, c, rfl, hp, by omega, by decide, by decide, fun way H1 w0 w1 hp1 b1 => ?_⟩
  have k1 := b1.off
  have dv1 := dp_but k1 hp hv (noInt_tabs ts)
  have dw1 := dp_but k1 hp hw (noInt_rbs rs)
  refine ⟨_, rfl, v, tabsD ts, 8, [6, 2, 8], rfl, dv1, fitT, by decide, by decide, fun vg Fg H2 og fg k2 => ?_⟩
  refine ⟨_, rfl, w, rbsD rs, 8, [21, 5, 12], rfl, dp_off k2 dw1, fitR, by decide, by decide, fun vk Fk H3 ok fk k3 => ⟨_, _, _, rfl, ?_⟩⟩
  obtain ⟨ak, xk, F0, rfl, hk3, rk3, n0, e0⟩ : ∃ ak xk F0, vk = .ref ak ∧ H3 ak = some (.lst xk) ∧ OwAll H3 xk (rs.map rbD) F0 ∧ ¬ F0 ak ∧ ∀ b, Fk b ↔ b = ak ∨ F0 b := by
    cases ok with
    | lst h r n e => exact ⟨_, _, _, rfl, h, r, n, e⟩
  have qk : SqL K H3 ak xk := SqL.of hk3
  have rk : DpAll K H3 xk (rs.map rbD) := rk3.dp
  have lk : xk.length = rs.length := by rw [dpAll_length rk, List.length_map]
  have og3 := og.keep k3 (fun _ z => z.elim) fun _ _ z => z
  have hp3 := hp1.off (k2.trans k3) no
  have pnone : ∀ {a : Addr}, H1 a = none → a ≠ p := fun h z => by
    obtain ⟨xs, e⟩ := hp1.lst
    rw [z, e] at h
    cases h
  have fk1 : ∀ a, Fk a → H1 a = none := fun a z => k2.none (fk a z) no
  have djk : ∀ a, Fg a → ¬ Fk a := fun a z y => by
    obtain ⟨xs, e⟩ := og.dom a z
    rw [fk a y] at e
    cases e
  refine ⟨_, rfl, _, rfl, ak, xk, rfl, .inl qk, _, _, rfl, rfl, p, (xk.length : Int) + 1, c + 1, rfl, hp3, by omega, by omega, by omega, fun spot H4 s0 s1 hp4 b4 => ?_⟩
  have k4 := b4.off
  have hgp : ∀ a, a = p → ∃ xs, H3 a = some (.lst xs) := fun a z => by
    obtain ⟨xs, e⟩ := hp3.lst
    exact ⟨xs, z ▸ e⟩
  have og4 := og3.keep k4 hgp fun a z => pnone (fg a z)
  have ok4 := ok.keep k4 hgp fun a z => pnone (fk1 a z)
  have rk4 := rk3.keep k4 hgp fun a z => pnone (fk1 a ((e0 a).mpr (.inr z)))
  have hk4 : H4 ak = some (.lst xk) := k4 _ _ hk3 (pnone (fk1 ak ((e0 ak).mpr (.inl rfl))))
  have kH4 : Off (fun a => a = p) H H4 := (k1.trans ((k2.trans k3).mono fun _ z => z.elim)).trans k4
  have k14 : Off (fun a => a = p) H1 H4 := ((k2.trans k3).mono fun _ z => z.elim).trans k4
  have dv4 := dp_but k14 hp1 dv1 (noInt_tabs ts)
  have f1H : ∀ a, H1 a = none → H a = none := fun a z => by
    cases q0 : H a with
    | none => rfl
    | some o =>
      by_cases y : a = p
      · exact absurd y (pnone z)
      · rw [k1 a o q0 y] at z
        cases z
  -- what follows the making
  have hs0 : 0 ≤ spot := s0
  have hs1 : spot.toNat ≤ rs.length := by omega
  have fgH : ∀ a, Fg a → H a = none := fun a z => f1H a (fg a z)
  have fkH : ∀ a, Fk a → H a = none := fun a z => f1H a (fk1 a z)
  have hpn : ∀ {a : Addr}, H a = none → ¬ a = p := fun h z => by
    obtain ⟨xs, e⟩ := hp.lst
    rw [z, e] at h
    cases h
  have ex4 : ∀ {F : Fp} {v : V} {d : PyData}, Ow H4 v d F → ∀ a, F a → H4 a ≠ none := fun o a z y => by
    obtain ⟨xs, e⟩ := o.dom a z
    rw [y] at e
    cases e
  have h4H : ∀ a, H4 a = none → H a = none := fun a z => by
    cases q0 : H a with
    | none => rfl
    | some o =>
      by_cases y : a = p
      · obtain ⟨xs, e⟩ := hp4.lst
        rw [y, e] at z
        cases z
      · rw [kH4 a o q0 y] at z
        cases z
  have bbS : BkB 8 10 10 8 12 30 ts rs := ⟨⟨Nat.le_trans tb.most (by decide), fun t ht => (tb.each t ht).mono (Nat.le_refl _) (by decide)⟩,
    fun r hr => ⟨(hrb r hr).head, (hrb r hr).hg, (hrb r hr).two, fun cs tl e => ⟨Nat.le_trans ((hrb r hr).cs cs tl e).1 (by decide), ((hrb r hr).cs cs tl e).2⟩⟩, by decide, by decide, by decide, by decide, by omega, by decide⟩
  have wo := wordsOk_of tk hrs
  have reOf : ∀ {G : Hp} {x : Addr} {Fb : Fp}, Off (fun _ => False) H4 G → BookOw K G x ts rs Fb → (∀ a, Fb a → H4 a = none) → H4 x = none → RoadEnd K H p c ts rs G x vg (.ref ak) := fun k bo fb nx =>
    ⟨Fg, Fk, _, rbsD rs, c + 2, og4.keep k (fun _ z => z.elim) fun _ _ z => z, ok4.keep k (fun _ z => z.elim) fun _ _ z => z, fit_wide (.cons (by decide) (.cons (by decide) (.cons (by decide) .nil))) fitR, bo,
      fun a z y => ex4 og4 a y (fb a z), fun a z y => ex4 ok4 a y (fb a z), djk, fgH, fkH, fun a z => h4H a (fb a z), h4H _ nx, hp4.off k no, by omega, kH4.trans (k.mono fun _ z => z.elim)⟩
  refine ⟨_, rfl, rfl, _, rfl, ?_⟩
  by_cases c1 : way = 1
  · subst c1
    rw [decide_eq_true rfl]
    refine iteT ⟨_, rfl, ak, xk, rfl, .inl (SqL.of hk4), _, _, rfl, rfl, _, rfl, ite2 (fun c2 => ?_) (fun _ => ?_)⟩
    rotate_left
    · refine ⟨_, rfl, rfl, _, rfl, ?_⟩
      rw [decide_eq_false (show ¬ V.int 1 = V.int 2 from fun z => by cases z)]
      refine iteF ⟨_, rfl, rfl, _, rfl, ?_⟩
      rw [decide_eq_false (show ¬ V.int 1 = V.int 3 from fun z => by cases z)]
      refine iteF ⟨_, rfl, _, rfl, rfl, rfl, fun x dx nx ndx nex => ?_⟩
      refine made_at (K := K) (og4.dp) (ok4.dp) bb nw nx ndx nex fun G Fb bo fb k => ⟨rfl, ?_⟩
      exact road_tail (reOf k bo fb nx) bb fitT fitR hp.lst q
    have l20 : rs.length < 20 := by
      have := of_decide_eq_true c2
      rw [lk] at this
      omega
    obtain ⟨av, xv, rfl, qv, rv⟩ := dp_tabs dv4
    have lv : xv.length = ts.length := by rw [dpAll_length rv, List.length_map]
    have one := tk.one
    have most := tk.most
    refine ⟨_, rfl, _, rfl, _, rfl, av, xv, rfl, .inl qv, p, (xv.length : Int), c + 2, rfl, hp4, by omega, by omega, by omega, fun kx H5 x0 x1 hp5 b5 => ?_⟩
    have k5 := b5.off
    have hgp4 : ∀ a, a = p → ∃ xs, H4 a = some (.lst xs) := fun a z => by
      obtain ⟨xs, e⟩ := hp4.lst
      exact ⟨xs, z ▸ e⟩
    have og5 := og4.keep k5 hgp4 fun a z => pnone (fg a z)
    have rk5 := rk4.keep k5 hgp4 fun a z => pnone (fk1 a ((e0 a).mpr (.inr z)))
    have hk5 : H5 ak = some (.lst xk) := k5 _ _ hk4 (pnone (fk1 ak ((e0 ak).mpr (.inl rfl))))
    have dv5 := dp_but k5 hp4 dv4 (noInt_tabs ts)
    have kH5 := kH4.trans k5
    obtain ⟨xs5, t, ta, ca, h51, h52, tm, h53, h54, h55⟩ := tab_at dv5 x0 (by omega)
    refine ⟨av, _, kx, _, rfl, rfl, h51, h52, ta, [.str t.1, .ref ca], rfl, h54, rfl, .str t.1, [.ref ca], rfl, .ref ca, [], rfl, rfl, ?_⟩
    have lx := tb.each t tm
    have lcol := lx.most
    refine ⟨_, rfl, _, rfl, _, rfl, ak, _, rfl, SqL.of hk5, fun m1 nm1 => ?_⟩
    have j1 : Off (fun _ => False) H5 (upd H5 m1 (.lst (cutV xk none (some spot)))) := Off.new nm1
    have em1 := upd_same (H := H5) (a := m1) (o := .lst (cutV xk none (some spot)))
    generalize upd H5 m1 (.lst (cutV xk none (some spot))) = G1 at j1 em1 ⊢
    rw [cutV_head hs0] at em1
    refine ⟨_, rfl, _, rfl, ca, _, rfl, .inl (dp_cols_ref (dp_off j1 h55)), fun l nl => ?_⟩
    have j2 : Off (fun _ => False) G1 (upd G1 l (.lst (t.2.map V.str))) := Off.new nl
    have el := upd_same (H := G1) (a := l) (o := .lst (t.2.map V.str))
    generalize upd G1 l (.lst (t.2.map V.str)) = G2 at j2 el ⊢
    refine ⟨(by show 3 ≤ sizeLine; decide), fun tt ntt => ⟨(by show 1 ≤ sizeLine; decide), fun m2 nm2 => ?_⟩⟩
    have j3 : Off (fun _ => False) G2 (upd G2 tt (.tup [.str "key", .str t.1, .ref l])) := Off.new ntt
    have ett := upd_same (H := G2) (a := tt) (o := .tup [.str "key", .str t.1, .ref l])
    generalize upd G2 tt (.tup [.str "key", .str t.1, .ref l]) = G3 at j3 ett nm2 ⊢
    have j4 : Off (fun _ => False) G3 (upd G3 m2 (.lst [.ref tt])) := Off.new nm2
    have em2 := upd_same (H := G3) (a := m2) (o := .lst [.ref tt])
    generalize upd G3 m2 (.lst [.ref tt]) = G4 at j4 em2 ⊢
    have j14 := j2.trans (j3.trans j4)
    refine ⟨m1, m2, _, _, rfl, rfl, SqL.of (j14 _ _ em1 no), SqL.of em2, ?_, fun m3 nm3 => ?_⟩
    · rw [List.length_take]
      exact Nat.le_trans (m := 100) (by simp; omega) (by decide)
    have j5 : Off (fun _ => False) G4 (upd G4 m3 (.lst (xk.take spot.toNat ++ [.ref tt]))) := Off.new nm3
    have em3 := upd_same (H := G4) (a := m3) (o := .lst (xk.take spot.toNat ++ [.ref tt]))
    generalize upd G4 m3 (.lst (xk.take spot.toNat ++ [.ref tt])) = G5 at j5 em3 ⊢
    have j05 := j1.trans (j14.trans j5)
    refine ⟨_, rfl, _, rfl, _, rfl, ak, _, rfl, SqL.of (j05 _ _ hk5 no), fun m4 nm4 => ?_⟩
    have j6 : Off (fun _ => False) G5 (upd G5 m4 (.lst (cutV xk (some spot) none))) := Off.new nm4
    have em4 := upd_same (H := G5) (a := m4) (o := .lst (cutV xk (some spot) none))
    generalize upd G5 m4 (.lst (cutV xk (some spot) none)) = G6 at j6 em4 ⊢
    rw [cutV_tail hs0] at em4
    refine ⟨m3, m4, _, _, rfl, rfl, SqL.of (j6 _ _ em3 no), SqL.of em4, ?_, fun m5 nm5 => ?_⟩
    · rw [List.length_append, List.length_take, List.length_drop]
      exact Nat.le_trans (m := 100) (by simp; omega) (by decide)
    have j7 : Off (fun _ => False) G6 (upd G6 m5 (.lst ((xk.take spot.toNat ++ [.ref tt]) ++ xk.drop spot.toNat))) := Off.new nm5
    have em5 := upd_same (H := G6) (a := m5) (o := .lst ((xk.take spot.toNat ++ [.ref tt]) ++ xk.drop spot.toNat))
    generalize upd G6 m5 (.lst ((xk.take spot.toNat ++ [.ref tt]) ++ xk.drop spot.toNat)) = G7 at j7 em5 ⊢
    have j67 := j6.trans j7
    have j07 := j05.trans j67
    have j27 : Off (fun _ => False) G2 G7 := (j3.trans j4).trans (j5.trans j67)
    have j37 : Off (fun _ => False) G3 G7 := j4.trans (j5.trans j67)
    -- what the longer list of rules is
    obtain ⟨nr, enr⟩ : ∃ nr : RB, nr = ([("key" : Str), t.1], some (t.2, [])) := ⟨_, rfl⟩
    obtain ⟨F1, F2, c1, c2', c3, c4⟩ := owAll_cut spot.toNat rk5
    have kp : ∀ {xs : List V} {ds : List PyData} {F : Fp}, OwAll H5 xs ds F → OwAll G7 xs ds F := fun h => h.keep j07 (fun _ z => z.elim) fun _ _ z => z
    have lH5 : H5 l = none := j1.none nl no
    have ott : Ow G7 (.ref tt) (rbD nr) (fun a => a = l) := by
      rw [enr]
      exact .tup (j37 _ _ ett no) (owc_str (owc_str (owc (.lst (j27 _ _ el no) (owAll_strs (fun _ z => z) t.2) (fun z => z) fun b => ⟨.inl, fun z => z.elim id False.elim⟩) ow0)))
    have ex5 : ∀ a, F0 a → H5 a ≠ none := fun a z y => by
      obtain ⟨xs, e⟩ := rk5.dom a z
      rw [y] at e
      cases e
    have oA := owAll_app (owAll_app (kp c1) (owc ott ow0) fun a z y => ex5 a ((c3 a).mpr (.inl z)) (by rw [y]; exact lH5)) (kp c2') fun a z y => by
      rcases z with z | z
      · exact c4 a z y
      · exact ex5 a ((c3 a).mpr (.inr y)) (by rw [z]; exact lH5)
    obtain ⟨rs', ers⟩ : ∃ rs' : List RB, rs' = rs.take spot.toNat ++ [nr] ++ rs.drop spot.toNat := ⟨_, rfl⟩
    have emap : (List.map rbD rs).take spot.toNat ++ [rbD nr] ++ (List.map rbD rs).drop spot.toNat = rs'.map rbD := by
      rw [ers, List.map_append, List.map_append, List.map_take, List.map_drop]
      rfl
    rw [emap] at oA
    have h5n : ∀ a, H5 a = none → H a = none := fun a z => by
      refine h4H a ?_
      cases q0 : H4 a with
      | none => rfl
      | some o =>
        by_cases y : a = p
        · obtain ⟨xs, e⟩ := hp5.lst
          rw [y, e] at z
          cases z
        · rw [k5 a o q0 y] at z
          cases z
    have m5H5 : H5 m5 = none := (j05.trans j6).none nm5 no
    have nF5 : ¬ ((F1 m5 ∨ m5 = l) ∨ F2 m5) := fun z => by
      rcases z with (z | z) | z
      · exact ex5 m5 ((c3 m5).mpr (.inl z)) m5H5
      · rw [z, (j3.trans (j4.trans (j5.trans j6))) _ _ el no] at nm5
        cases nm5
      · exact ex5 m5 ((c3 m5).mpr (.inr z)) m5H5
    have oK : Ow G7 (.ref m5) (rbsD rs') (fun a => a = m5 ∨ ((F1 a ∨ a = l) ∨ F2 a)) := .lst em5 oA nF5 fun _ => Iff.rfl
    have hnr : RbS ts nr := ⟨"key", t.1, t.2, [], t, enr, .inl ⟨rfl, rfl⟩, tabOf_nd tk.nd tm, fun c h => by simpa using h⟩
    have onr : RbOk 8 12 nr := by
      rw [enr]
      refine ⟨by show 2 ≤ 2; decide, fun y hy => ?_, fun _ => rfl, fun cs tl e => ?_⟩
      · have hy : y ∈ ([("key" : Str), t.1] : List Str) := hy
        rcases List.mem_cons.mp hy with rfl | hy
        · exact gdB_ok (by decide +kernel)
        · rw [List.mem_singleton.mp hy]
          exact lx.name
      · have e : some (t.2, ([] : List Str)) = some (cs, tl) := e
        cases e
        exact ⟨by omega, lx.good, by decide, fun y hy => absurd hy (by simp)⟩
    have mem' : ∀ r ∈ rs', r ∈ rs ∨ r = nr := fun r h => by
      rw [ers] at h
      rcases List.mem_append.mp h with h | h
      · rcases List.mem_append.mp h with h | h
        · exact .inl (List.mem_of_mem_take h)
        · exact .inr (List.mem_singleton.mp h)
      · exact .inl (List.mem_of_mem_drop h)
    have lr' : rs'.length = rs.length + 1 := by
      rw [ers]
      simp
      omega
    have bb' : BkB 8 8 6 8 12 21 ts rs' := { bb with rb := fun r h => (mem' r h).elim (hrb r) fun z => z ▸ onr, lr := by omega }
    have nw' : wrongBook ts rs' = none := wrongBook_none tk fun r h => (mem' r h).elim (hrs r) fun z => z ▸ hnr
    refine ⟨_, rfl, _, rfl, fun x dx nx ndx nex => ?_⟩
    have og7 := og5.keep j07 (fun _ z => z.elim) fun _ _ z => z
    refine made_at (K := K) og7.dp oK.dp bb' nw' nx ndx nex fun G Fb bo fb k => ⟨rfl, ?_⟩
    obtain ⟨dx2, y1, y2, hx2, _, _⟩ := id bo.of
    refine ⟨x, dx2, _, rfl, hx2, look_none _ _ (by decide +kernel) (by decide +kernel), _, rfl, x, spot, ts, rs', 8, 8, 6, 8, 12, 21, rfl, bo.of, bb', ?_⟩
    have back : rs'.take spot.toNat ++ rs'.drop (spot.toNat + 1) = rs := by
      have la : (rs.take spot.toNat).length = spot.toNat := by rw [List.length_take]; omega
      have e1 : rs'.take spot.toNat = rs.take spot.toNat := by
        rw [ers, List.append_assoc, List.take_append_of_le_length (by omega), List.take_of_length_le (by omega)]
      have e2 : rs'.drop (spot.toNat + 1) = rs.drop spot.toNat := by
        rw [ers, List.drop_append]
        have e3 : (rs.take spot.toNat ++ [nr]).length = spot.toNat + 1 := by rw [List.length_append, la]; rfl
        rw [e3, List.drop_of_length_le (by omega)]
        simp
      rw [e1, e2, List.take_append_drop]
    rw [if_pos ⟨hs0, by omega⟩, back, nw]
    intro x2 G8 Fb2 bo2 fb2 nx2 k8
    have kk := k.trans k8
    have g7n : ∀ a, G7 a = none → H5 a = none := fun a z => j07.none z no
    have gn : ∀ a, G a = none → G7 a = none := fun a z => k.none z no
    refine road_tail ⟨Fg, _, Fb2, rbsD rs', c + 3, og7.keep kk (fun _ z => z.elim) fun _ _ z => z, oK.keep kk (fun _ z => z.elim) fun _ _ z => z, fit_rbs (by omega) bb'.rb, bo2, fun a z y => ?_, fun a z y => ?_, fun a z y => ?_, fgH, fun a z => ?_, fun a z => ?_, ?_, (hp5.off j07 no).off kk no, by omega, (kH5.trans (j07.mono fun _ z => z.elim)).trans (kk.mono fun _ z => z.elim)⟩ bb fitT fitR hp.lst q
    · obtain ⟨xs, e⟩ := og7.dom a y
      rw [gn a (fb2 a z)] at e
      cases e
    · obtain ⟨xs, e⟩ := oK.dom a y
      rw [gn a (fb2 a z)] at e
      cases e
    · rcases y with y | (y | y) | y
      · obtain ⟨xs, e⟩ := og5.dom a z
        rw [y, m5H5] at e
        cases e
      · exact djk a z ((e0 a).mpr (.inr ((c3 a).mpr (.inl y))))
      · obtain ⟨xs, e⟩ := og5.dom a z
        rw [y, lH5] at e
        cases e
      · exact djk a z ((e0 a).mpr (.inr ((c3 a).mpr (.inr y))))
    · rcases z with z | (z | z) | z
      · rw [z]
        exact h5n _ m5H5
      · exact fkH a ((e0 a).mpr (.inr ((c3 a).mpr (.inl z))))
      · rw [z]
        exact h5n _ lH5
      · exact fkH a ((e0 a).mpr (.inr ((c3 a).mpr (.inr z))))
    · exact h5n a (g7n a (gn a (fb2 a z)))
    · exact h5n _ (g7n _ (gn _ nx2))
  rw [decide_eq_false (show ¬ V.int way = V.int 1 from fun z => c1 (V.int.inj z))]
  refine iteF ⟨_, rfl, rfl, _, rfl, ite2 (fun c2 => ?_) (fun c2 => ⟨_, rfl, rfl, _, rfl, ite2 (fun c3 => ?_) (fun c3 => ?_)⟩)⟩
  · -- a book with the rules from a place on
    refine ⟨_, rfl, _, rfl, _, rfl, _, rfl, ak, _, rfl, SqL.of hk4, fun m1 nm1 => fun x dx nx ndx nex => ?_⟩
    have k5 : Off (fun _ => False) H4 (upd H4 m1 (.lst (cutV xk none (some spot)))) := Off.new nm1
    have em1 := upd_same (H := H4) (a := m1) (o := .lst (cutV xk none (some spot)))
    generalize upd H4 m1 (.lst (cutV xk none (some spot))) = H5 at k5 em1 nx ndx ⊢
    rw [cutV_head hs0] at em1
    have d5 : Dp K H5 (.ref m1) (rbsD (rs.take spot.toNat)) := by
      unfold rbsD
      rw [List.map_take]
      exact .lst (SqL.of em1) (dpAll_take _ (dpAll_off k5 rk4.dp))
    have sub : ∀ r ∈ rs.take spot.toNat, r ∈ rs := fun r h => List.mem_of_mem_take h
    have bb1 : BkB 8 8 6 8 12 21 ts (rs.take spot.toNat) := { bb with rb := fun r h => hrb r (sub r h), lr := by rw [List.length_take]; omega }
    refine made_at (K := K) (dp_off k5 og4.dp) d5 bb1 (wrongBook_none tk fun r h => hrs r (sub r h)) nx ndx nex fun G Fb bo fb k6 => ⟨rfl, ?_⟩
    obtain ⟨dx2, y1, y2, hx2, _, _⟩ := id bo.of
    have k56 := k5.trans k6
    refine ⟨x, dx2, _, rfl, hx2, look_none _ _ (by decide +kernel) (by decide +kernel), _, rfl, _, rfl, _, rfl, ak, _, rfl, SqL.of (k56 _ _ hk4 no), fun m2 nm2 => ?_⟩
    have k7 : Off (fun _ => False) G (upd G m2 (.lst (cutV xk (some spot) none))) := Off.new nm2
    have em2 := upd_same (H := G) (a := m2) (o := .lst (cutV xk (some spot) none))
    generalize upd G m2 (.lst (cutV xk (some spot) none)) = G2 at k7 em2 ⊢
    rw [cutV_tail hs0] at em2
    have k57 := k56.trans k7
    have d7 : Dp K G2 (.ref m2) (rbsD (rs.drop spot.toNat)) := by
      unfold rbsD
      rw [List.map_drop]
      exact .lst (SqL.of em2) (dpAll_drop _ (dpAll_off k57 rk4.dp))
    have ea : rs.take spot.toNat ++ rs.drop spot.toNat = rs := List.take_append_drop _ _
    refine ⟨x, .ref m2, ts, rs.take spot.toNat, rs.drop spot.toNat, 8, 8, 6, 8, 12, 21, rfl, bo.of.off k7, d7, by rw [ea]; exact bb, ?_⟩
    rw [ea, nw]
    intro x2 G3 Fb2 bo2 fb2 nx2 k8
    exact road_tail (reOf (k57.trans k8) bo2 (fun a z => k57.none (fb2 a z) no) (k57.none nx2 no)) bb fitT fitR hp.lst q
  · -- a book that is read
    refine ⟨_, rfl, _, rfl, fun x dx nx ndx nex => ?_⟩
    refine made_at (K := K) (og4.dp) (ok4.dp) bb nw nx ndx nex fun G Fb bo fb k => ⟨rfl, ?_⟩
    refine ⟨x, ts, rs, rfl, bo.of, bbS, wo.f, fun G2 k2' => ?_⟩
    refine ⟨ts, rs, rfl, bbS, wo, tk.one, nw, fun x2 G3 Fb2 bo2 fb2 nx2 k3' => ?_⟩
    have kk := k.trans k2'
    exact road_tail (reOf (kk.trans k3') bo2 (fun a z => kk.none (fb2 a z) no) (kk.none nx2 no)) bb fitT fitR hp.lst q
  · refine ⟨_, rfl, _, rfl, rfl, rfl, fun x dx nx ndx nex => ?_⟩
    refine made_at (K := K) (og4.dp) (ok4.dp) bb nw nx ndx nex fun G Fb bo fb k => ⟨rfl, ?_⟩
    exact road_tail (reOf k bo fb nx) bb fitT fitR hp.lst q
end
end LW
set_option Elab.async false
set_option linter.all false
set_option maxRecDepth 100000
set_option maxHeartbeats 4000000
/-! A head that knows defs at any address, own words of the class, tuples of tuples. -/
namespace KV
open PySem PySem.Spec PyProof.Rows L2
open He (Fa)
abbrev Df := He5.DefA
def obsB (fa : List Fa) (fn : List Df) (ex : PySem.W.Frag → Bool) (K : PySem.W.Frag) : He.AlD := (((fa.all fun f => f.ok K) && fn.all fun d => d.ok K) && ex K, fn.map fun d => He5.fnA K (d.at_ K))
def valB (fn : List Df) : He.AlD := (true, fn.map He5.DefA.val)
def SaysB (fa : List Fa) (fn : List Df) (ex : PySem.W.Frag → Bool) (K : PySem.W.Frag) : Prop := obsB fa fn ex K = valB fn
def obsBG (n : Nat) (fa : List Fa) (fn : List Df) (ex : PySem.W.Frag → Bool) (g : Addr → Option Obj) : He.AlD := obsB fa fn ex (He.frT g (He.asD g n))
def hookB (n : Nat) (fa : List Fa) (fn : List Df) (ex : PySem.W.Frag → Bool) : PySem.W.Hook where
  α := He.AlD
  obs := fun s => obsBG n fa fn ex s.heap.get?
  val := fun _ => valB fn
  says := fun _ h => ∃ K : PySem.W.Frag, K.In h ∧ SaysB fa fn ex K
  of := fun _ _ e => ⟨_, He.frT_in, e⟩
  keeps := fun _ _ _ ⟨K, hK, c⟩ k => ⟨K, PySem.W.Frag.In.keeps hK k, c⟩
theorem obsBG_eq {n : Nat} {fa : List Fa} {fn : List Df} {ex : PySem.W.Frag → Bool} {g : Addr → Option Obj} {s : Shared} (h : ∀ a, g a = s.heap.get? a) : obsBG n fa fn ex g = (hookB n fa fn ex).obs s := by
  have e : g = s.heap.get? := funext h
  rw [e] <;> rfl
section
variable {fa : List Fa} {fn : List Df} {ex : PySem.W.Frag → Bool} {K : PySem.W.Frag}
theorem SaysB.parts (c : SaysB fa fn ex K) : (fa.all fun f => f.ok K) = true ∧ (fn.all fun d => d.ok K) = true ∧ ex K = true := by
  have c1 : (((fa.all fun f => f.ok K) && fn.all fun d => d.ok K) && ex K) = true := congrArg (fun z : He.AlD => z.1) c
  obtain ⟨c2, c3⟩ := He.ba c1
  obtain ⟨c4, c5⟩ := He.ba c2
  exact ⟨c4, c5, c3⟩
theorem SaysB.facts (c : SaysB fa fn ex K) {f : Fa} (h : f ∈ fa) : f.ok K = true := List.all_eq_true.mp c.parts.1 f h
theorem SaysB.def_ (c : SaysB fa fn ex K) (i : Nat) {d : Df} (h : fn[i]? = some d := by rfl) : ∃ fd, FunD K d.name d.qual d.params d.body d.scope (d.dvs K) (d.kws K) (d.at_ K) fd := by
  have e : fn.map (fun d => He5.fnA K (d.at_ K)) = fn.map He5.DefA.val := congrArg (fun z : He.AlD => z.2) c
  have e2 : (fn.map fun d => He5.fnA K (d.at_ K))[i]? = (fn.map He5.DefA.val)[i]? := by rw [e]
  rw [List.getElem?_map, List.getElem?_map, h] at e2
  exact He5.DefA.funD (Option.some.inj e2) (List.all_eq_true.mp c.parts.2.1 d (List.mem_of_getElem? h))
end
/-! ### own words of a class -/
def pgB (K : PySem.W.Frag) (C : Addr) (f : Str) : Addr := match PySem.W.recIn K (He.ma K C f) "property" with
  | some (.ref g :: _) => g
  | _ => 0
def propB (K : PySem.W.Frag) (C : Addr) (f : Str) : Bool := He.eqO (PySem.W.findIn K (.ref C) f) (some (some (.ref (He.ma K C f)))) && (He.eqO (PySem.W.specialIn K (.ref (He.ma K C f)) "__get__") (some (some (.builtin "property.__get__"))) &&
  (decide (PySem.W.takesIn K (.ref (He.ma K C f)) = some true) && (match PySem.W.recIn K (He.ma K C f) "property" with
    | some (.ref _ :: _) => true
    | _ => false)))
theorem propB_ok {K : PySem.W.Frag} {C : Addr} {f : Str} (h : propB K C f = true) : PropOf K C f (He.ma K C f) (pgB K C f) := by
  obtain ⟨h1, h⟩ := He.ba h
  obtain ⟨h2, h⟩ := He.ba h
  obtain ⟨h3, h4⟩ := He.ba h
  refine ⟨He.eqO_ok h1, He.eqO_ok h2, of_decide_eq_true h3, ?_⟩
  unfold pgB
  cases q : PySem.W.recIn K (He.ma K C f) "property" with
  | none =>
    rw [q] at h4
    cases h4
  | some l =>
    rw [q] at h4
    match l, h4 with
    | .ref g :: r, _ => exact ⟨r, rfl⟩
def itemB (K : PySem.W.Frag) (C : Addr) : Bool := He.eqO (PySem.W.findIn K (.ref C) "__getitem__") (some (some (.ref (He.ma K C "__getitem__")))) && (PySem.W.fnIn K (He.ma K C "__getitem__") && PySem.W.isFn K (.ref (He.ma K C "__getitem__")))
theorem itemB_ok {K : PySem.W.Frag} {C : Addr} (h : itemB K C = true) : ItemF K C (He.ma K C "__getitem__") := by
  obtain ⟨h1, h⟩ := He.ba h
  obtain ⟨h2, h3⟩ := He.ba h
  exact ⟨He.eqO_ok h1, h2, h3⟩
/-! ### tuples of the written part -/
def tupAt (K : PySem.W.Frag) (a : Addr) : Option (List Value) := match K.lookup a with
  | some ⟨.type t, _, .seq its _, _⟩ => if t = "tuple" ∧ its.size ≤ sizeLine then some its.toList else none
  | _ => none
theorem tupAt_ok {K : PySem.W.Frag} {a : Addr} {vs : List Value} (h : tupAt K a = some vs) {xs : List V} (r : Vals xs vs) (H : Hp) : SqT K H a xs := by
  unfold tupAt at h
  cases q : K.lookup a with
  | none =>
    rw [q] at h
    cases h
  | some o =>
    obtain ⟨oc, od, dt, osl⟩ := o
    rw [q] at h
    cases oc with
    | type t =>
      cases dt with
      | seq its n =>
        have h : (if t = "tuple" ∧ its.size ≤ sizeLine then some its.toList else none) = some vs := h
        by_cases c : t = "tuple" ∧ its.size ≤ sizeLine
        · rw [if_pos c] at h
          cases h
          exact .inr ⟨_, its, n, q, congrArg Value.type c.1, rfl, c.2, r⟩
        · rw [if_neg c] at h
          cases h
      | _ => cases h
    | _ => cases dt <;> cases h
/-- a tuple of a text and a number -/
def pairB (K : PySem.W.Frag) (a : Addr) (x : Str) (i : Int) : Bool := match tupAt K a with
  | some [.str y _, .int j _] => decide (y = x) && decide (j = i)
  | _ => false
theorem pairB_ok {K : PySem.W.Frag} {a : Addr} {x : Str} {i : Int} (h : pairB K a x i = true) (H : Hp) : Dp K H (.ref a) (.tuple [.str x, .int i]) := by
  unfold pairB at h
  split at h
  · rename_i y t j u q
    obtain ⟨h1, h2⟩ := He.ba h
    have h1 := of_decide_eq_true h1
    have h2 := of_decide_eq_true h2
    subst h1 h2
    exact .tup (tupAt_ok (xs := [.str y, .int j]) q (.cons ⟨t, rfl⟩ (.cons ⟨u, rfl⟩ .nil)) H) (.cons (.str _) (.cons (.int _) .nil))
  · cases h
/-- a tuple of such pairs -/
def pairsB (K : PySem.W.Frag) (a : Addr) (x y : Str) (i j : Int) : Bool := match tupAt K a with
  | some [.ref b, .ref c] => pairB K b x i && pairB K c y j
  | _ => false
theorem pairsB_ok {K : PySem.W.Frag} {a : Addr} {x y : Str} {i j : Int} (h : pairsB K a x y i j = true) (H : Hp) : Dp K H (.ref a) (.tuple [.tuple [.str x, .int i], .tuple [.str y, .int j]]) := by
  unfold pairsB at h
  split at h
  · rename_i b c q
    obtain ⟨h1, h2⟩ := He.ba h
    exact .tup (tupAt_ok (xs := [.ref b, .ref c]) q (.cons rfl (.cons rfl .nil)) H) (.cons (pairB_ok h1 H) (.cons (pairB_ok h2 H) .nil))
  · cases h
end KV
set_option Elab.async false
set_option linter.all false
set_option maxRecDepth 100000
set_option maxHeartbeats 4000000
/-! len of an own instance. -/
namespace KV
open PySem PySem.Spec PyProof.Rows L2
section
variable {X : Cx} {k : Nat} {f C : Addr} {fd : FuncData} {ps : List Str} {sp : Sp}
def rLenO (C : Addr) (sp : Sp) : List V → Hp → VK → Prop := fun xs H Q => ∃ a dx fs, xs = [.ref a] ∧ H a = some (.ins C dx fs) ∧ sp [.ref a] H (fun v H' => ∃ n : Int, v = .int n ∧ 0 ≤ n ∧ n < 2 ^ 63 ∧ Q (.int n) H') fun _ _ _ => False
theorem call_lenO (hs : PySem.W.findIn X.K (.ref C) "__len__" = some (some (.ref f))) (hf : PySem.W.isFn X.K (.ref f) = true) (F : FnOk X.prog X.w X.K X.mg X.base CX0 k f fd ps sp) (hr : Room (k + 1) X.A) (hb : Binds X.K fd ps []) : CallR X (.builtin "len") (rLenO C sp) := by
  intro pins s σ H xs us Q I r h
  obtain ⟨a, dx, fs, rfl, ha, q⟩ := h
  obtain rfl := Vals.ref1 r
  obtain ⟨mA, J, _⟩ := ins_get I.hok ha
  obtain ⟨od, J, _⟩ := J.look
  obtain ⟨m, hF⟩ := I.fr
  refine PySem.W.len_K hF I.ok.mod.kin J hs hf ?_
  have r2 : Vals [V.ref a] [Value.ref a] := .cons rfl .nil
  have hl := F.len _ _ _ _ q
  have bt := hb s [Value.ref a] I.kIn (by simpa using hl)
  rw [List.append_nil] at bt
  refine wpAny_call (codeAny_mono (F.run X.A.in1 X.stack s H ⟨[Value.ref a], []⟩ [Value.ref a] [V.ref a] _ (fun _ _ _ => False) hr.in1 I.env0.in1 bt r2 q) fun r s' hq => ?_)
  cases r with
  | error e => exact hq.elim
  | ok fl =>
    cases fl with
    | ret w =>
      obtain ⟨v, H', I3, rv, n, ev, n0, n1, q3⟩ := I.after hq
      subst ev
      obtain ⟨t, rfl⟩ := rv
      exact ⟨⟨n0, n1⟩, .int n, H', I3.tok _, ⟨_, rfl⟩, q3⟩
    | next => exact False.elim hq
    | brk => exact False.elim hq
    | cont => exact False.elim hq
end
end KV
set_option Elab.async false
set_option linter.all false
set_option maxRecDepth 100000
set_option maxHeartbeats 0
/-! _law_strays -/
namespace LW
open PySem PySem.Spec PyProof.Rows L2 KV
def spStrays (K : PySem.W.Frag) : Sp := fun vs H Q _ => ∃ (d l : Addr) (kvs : List (Key × V)) (ts : List Tab) (ws : List Str), vs = [.ref d, .ref l] ∧ H d = some (.dK kvs) ∧ TitK K H kvs ts ∧ tabOf ts "" = none ∧ SqL K H l (ws.map V.str) ∧ (∀ x ∈ ws, Gd 8 x) ∧ ws.length ≤ 20 ∧
  ∀ (ss : List Str) D H', ss ≠ [] → ss.length ≤ 200 → (∀ s ∈ ss, Gd 10 s ∧ tabOf ts s = none) → H' D = some (.lst (ss.map V.str)) → Off (fun _ => False) H H' → Q (.ref D) H'
section
variable {P : Program} {w : World} {K : PySem.W.Frag} {mg : Str → Option Value} {base : Heap}
end
end LW
set_option Elab.async false
set_option linter.all false
set_option maxRecDepth 100000
set_option maxHeartbeats 0
/-! _law_stray_right -/
namespace LW
open PySem PySem.Spec PyProof.Rows L2 KV
def spSR (K : PySem.W.Frag) : Sp := fun vs H Q _ => ∃ (b : Addr) (x : Str) (ts : List Tab) (rs : List RB), vs = [.ref b, .str x] ∧ BookOf K H b ts rs ∧ tabOf ts x = none ∧ Gd 10 x ∧ ∀ H', Off (fun _ => False) H H' → Q (.bl true) H'
theorem BookOf.at_ {K : PySem.W.Frag} {H : Hp} {b : Addr} {ts : List Tab} {rs : List RB} (h : BookOf K H b ts rs) : BookAt K H b ts := by
  obtain ⟨dx, v1, v2, h1, h2, h3⟩ := h
  exact ⟨dx, _, v1, h1, look_tables _ _, h2⟩
section
variable {P : Program} {w : World} {K : PySem.W.Frag} {mg : Str → Option Value} {base : Heap}
end
end LW
set_option Elab.async false
set_option linter.all false
set_option maxRecDepth 100000
set_option maxHeartbeats 0
/-! _law_titles_right -/
namespace LW
open PySem PySem.Spec PyProof.Rows L2 KV
theorem passNS {X : Cx} (σ : L2.St) : PassesAt (L2.CX X.prog X.w) X σ EN := fun _ _ _ _ _ _ c => by
  obtain ⟨_, _, _, _, _, _, _, _, _, _, _, _, z⟩ := c
  exact z.elim
theorem valV_not {kvs : List (Key × V)} {k : Key} (h : k ∉ kvs.map Prod.fst) : valV kvs k = none := by
  unfold valV
  have : kvs.find? (fun p => decide (p.1 = k)) = none := by
    rw [List.find?_eq_none]
    intro p hp z
    exact h (List.mem_map.mpr ⟨p, hp, of_decide_eq_true z⟩)
  simp [this]
theorem merge_nd : ∀ {kvs acc : List (Key × V)}, (kvs.map Prod.fst).Nodup → (∀ k ∈ kvs.map Prod.fst, k ∉ acc.map Prod.fst) → mergeK acc kvs = acc ++ kvs
  | [], acc, _, _ => by simp [mergeK]
  | p :: r, acc, nd, dj => by
    obtain ⟨n1, n2⟩ := List.nodup_cons.mp (show (p.1 :: r.map Prod.fst).Nodup from nd)
    have e : putK acc p.1 p.2 = acc ++ [p] := putK_new _ (valV_not (dj p.1 (by simp)))
    have ih := merge_nd (kvs := r) (acc := acc ++ [p]) n2 fun k hk z => by
      rw [List.map_append] at z
      rcases List.mem_append.mp z with z | z
      · exact dj k (by rw [List.map_cons]; exact List.mem_cons_of_mem _ hk) z
      · simp at z
        exact n1 (z ▸ hk)
    show mergeK (putK acc p.1 p.2) r = _
    rw [e, ih, List.append_assoc]
    rfl
theorem tabs_pairs {K : PySem.W.Frag} {H : Hp} : ∀ {xs : List V} {ts : List Tab}, DpAll K H xs (ts.map tabD) → ∃ (ps : List Addr) (kvs : List (Key × V)), xs = ps.map V.ref ∧ Paired (fun p kv => SqT K H p [kV kv.1, kv.2]) ps kvs ∧ TitK K H kvs ts ∧ kvs.map Prod.fst = ts.map fun t => (.inr t.1 : Key)
  | _, [], .nil => ⟨[], [], rfl, .nil, .nil, rfl⟩
  | _, t :: ts, .cons h r => by
    obtain ⟨ps, kvs, e1, e2, e3, e4⟩ := tabs_pairs r
    obtain ⟨a, w, rfl, sq, dc⟩ := dp_tab h
    exact ⟨a :: ps, (.inr t.1, w) :: kvs, by rw [e1]; rfl, .cons sq e2, .cons dc e3, by rw [List.map_cons, e4]; rfl⟩
def spTi (K : PySem.W.Frag) : Sp := fun vs H Q _ => ∃ (p b : Addr) (w : V) (ts : List Tab) (rs : List RB) (c : Nat), vs = [.ref p, .ref b, w] ∧ BookOf K H b ts rs ∧ TabsW 8 8 6 ts ∧ (ts.map Prod.fst).Nodup ∧ tabOf ts "" = none ∧ Dp K H w (tabsD ts) ∧ Pu H p c ∧ c + 10 ≤ 1000000000 ∧
  ∀ H' c', Pu H' p c' → c' ≤ c + 2 → Off (fun a => a = p) H H' → Q (.bl true) H'
theorem BookOf.but {K : PySem.W.Frag} {H H' : Hp} {p b : Addr} {c : Nat} {ts : List Tab} {rs : List RB} (h : BookOf K H b ts rs) (k : Off (fun a => a = p) H H') (hp : Pu H p c) : BookOf K H' b ts rs := by
  obtain ⟨dx, v1, v2, h1, h2, h3⟩ := h
  refine ⟨dx, v1, v2, k _ _ h1 fun z => ?_, dp_but k hp h2 (noInt_tabs _), dp_but k hp h3 (noInt_rbs _)⟩
  obtain ⟨xs, e⟩ := hp.lst
  rw [← z, h1] at e
  cases e
theorem titK_but {K : PySem.W.Frag} {H H' : Hp} {p : Addr} {c : Nat} (k : Off (fun a => a = p) H H') (hp : Pu H p c) : ∀ {kvs : List (Key × V)} {ts : List Tab}, TitK K H kvs ts → TitK K H' kvs ts
  | _, _, .nil => .nil
  | _, _, .cons h r => .cons (dp_but k hp h (noInt_cols _)) (titK_but k hp r)
theorem atI_end {cs : List Str} (h : 1 ≤ cs.length) : ∃ x ∈ cs, atI (cs.map V.str) (-1) = some (.str x) := by
  have ne : cs ≠ [] := fun z => by
    rw [z] at h
    exact absurd h (by decide)
  refine ⟨cs.getLast ne, List.getLast_mem ne, ?_⟩
  have e : cs.map V.str = cs.dropLast.map V.str ++ [V.str (cs.getLast ne)] := by
    conv => lhs; rw [← List.dropLast_concat_getLast ne]
    rw [List.map_append]
    rfl
  rw [e]
  exact atI_last _ _
theorem mem_cutV {xs : List V} {lo hi : Option Int} {v : V} (h : v ∈ cutV xs lo hi) : v ∈ xs := List.mem_of_mem_drop (List.mem_of_mem_take h)
theorem lasts_of {n mc : Nat} : ∀ {ts : List Tab}, (∀ t ∈ ts, TabB n mc t) → ∃ zs : List Str, zs.length = ts.length ∧ (∀ z ∈ zs, Gd n z) ∧ ∀ (i : Nat) (t : Tab), ts[i]? = some t → ∃ z : Str, zs[i]? = some z ∧ atI (t.2.map V.str) (-1) = some (V.str z)
  | [], _ => ⟨[], rfl, fun z h => by simp at h, fun i t h => by simp at h⟩
  | t :: ts, h => by
    obtain ⟨zs, e1, e2, e3⟩ := lasts_of (ts := ts) fun u hu => h u (List.mem_cons_of_mem _ hu)
    have tb := h t List.mem_cons_self
    obtain ⟨x, hx, ex⟩ := atI_end tb.one
    refine ⟨x :: zs, by rw [List.length_cons, List.length_cons, e1], fun z hz => ?_, fun i u hu => ?_⟩
    · rcases List.mem_cons.mp hz with rfl | hz
      · exact tb.good _ hx
      · exact e2 z hz
    · cases i with
      | zero =>
        cases hu
        exact ⟨x, rfl, ex⟩
      | succ i => exact e3 i u hu
theorem dpAll_get {K : PySem.W.Frag} {H : Hp} : ∀ {xs : List V} {ds : List PyData} {i : Nat} {d : PyData}, DpAll K H xs ds → ds[i]? = some d → ∃ v, xs[i]? = some v ∧ Dp K H v d
  | _, _, 0, _, .cons h r, e => by
    cases e
    exact ⟨_, rfl, h⟩
  | _, _, i + 1, _, .cons h r, e => dpAll_get (i := i) r e
  | _, _, i, _, .nil, e => by simp at e
theorem dpAll_len {K : PySem.W.Frag} {H : Hp} : ∀ {xs : List V} {ds : List PyData}, DpAll K H xs ds → xs.length = ds.length
  | _, _, .nil => rfl
  | _, _, .cons h r => by rw [List.length_cons, List.length_cons, dpAll_len r]
theorem ti_tail {K : PySem.W.Frag} {H : Hp} {p b d wl : Addr} {w : V} {c : Nat} {ts : List Tab} {rs : List RB} {kvs : List (Key × V)} {us : List Str} {Q : VK} (hb : BookOf K H b ts rs) (ed : H d = some (.dK kvs)) (tk : TitK K H kvs ts) (sw : H wl = some (.lst (us.map V.str)))
    (hu : ∀ x ∈ us, ∃ t ∈ ts, t.1 = x) (lu : us.length ≤ 6) (tb : TabsW 8 8 6 ts) (nd : (ts.map Prod.fst).Nodup) (n0 : tabOf ts "" = none) (hw : Dp K H w (tabsD ts)) (hp : Pu H p c) (hc : c + 5 ≤ 1000000000) (q : ∀ H' c', Pu H' p c' → c' ≤ c + 1 → Off (fun a => a = p) H H' → Q (.bl true) H') :
    tSeq (tFor (iList K (tVar 4)) (gName 5) (tIfS (tNot (tB (tCall (spOwn K) [] E0 (tCons (tItemS (He.ga K "Book") (spItem K) (fun _ => EN) (tVar 1) (tVar 5)) (tCons (tDGet (tVar 3) (tVar 5)) tNil))))) (tRet (tC (.bl false))) tNext))
      (tSeq (tAsg (tCall (spStrays K) [] E0 (tCons (tVar 3) (tCons (tOp rCat (tVar 4) (tLc (iList K (tVar 2)) (gTup K 2 (gCons (gName 5) (gCons (gName 6) gNil))) tYes (tOp (rIxL K) (tVar 6) (tUn (rU fun i => .int (-i)) (tC (.int 1)))) [5, 6])) tNil))) (gName 7))
      (tSeq (tAsg (tCall spCoin [] E0 (tCons (tVar 0) (tCons (tCB (fun xs H Q => ∃ p ys, xs = [V.ref p] ∧ (SqL K H p ys ∨ SqT K H p ys) ∧ Q (.int ys.length) H) (tCons (tVar 7) tNil)) tNil))) (gName 8))
        (tRet (tOp (rEqD K) (tLc (iList K (tSl (rSlL K) (tOp rCat (tVar 7) (tVar 7)) (tPart (tVar 8)) (tPart (tOp (rI0 fun i j => .int (i + j)) (tVar 8) (tC (.int 4)))))) (gName 9) (tNot (tB (tCall (spSR K) [] E0 (tCons (tVar 1) (tCons (tVar 9) tNil))))) (tC (.int 1)) [9]) (tLst tNil)))))
      { nx := fun _ H' => Q .non H', rt := Q } [some (.ref p), some (.ref b), some w, some (.ref d), some (.ref wl), none, none, none, none, none] H := by
  have no : ¬ False := id
  refine ⟨_, rfl, wl, rfl, ⟨_, SqL.of sw⟩, for_list (K := K) (a := wl) (xs := us.map V.str) (fun i σ H' => ∃ w5, σ = [some (.ref p), some (.ref b), some w, some (.ref d), some (.ref wl), w5, none, none, none, none] ∧ Off (fun _ => False) H H') ⟨_, rfl, fun _ _ h _ => h⟩ (fun i σ H' _ g => ?_) (fun i x σ H' hx g => ?_) fun σ H' g => ?_⟩
  · obtain ⟨_, _, k⟩ := g
    exact SqL.of (k _ _ sw no)
  · obtain ⟨w5, rfl, k⟩ := g
    rw [List.getElem?_map] at hx
    obtain ⟨x, hx2, rfl⟩ := Option.map_eq_some_iff.mp hx
    obtain ⟨t, ht, et⟩ := hu x (List.mem_of_getElem? hx2)
    subst et
    have kt := titK_off k tk
    rcases titK_at (x := t.1) kt with ⟨_, u2⟩ | ⟨v', t', u1, u2, u3⟩
    · rw [tabOf_nd nd ht] at u2
      cases u2
    have e : t = t' := by
      rw [tabOf_nd nd ht] at u2
      exact Option.some.inj u2
    subst e
    have tB := tb.each t ht
    obtain ⟨dx, fs, v1, h1, h2, h3⟩ := id (hb.off k).at_
    refine ⟨_, rfl, _, rfl, b, dx, fs, rfl, h1, b, t.1, ts, rfl, (hb.off k).at_, ?_⟩
    rw [tabOf_nd nd ht]
    intro l G nl el kl
    refine ⟨_, rfl, _, rfl, d, v', rfl, ?_, ?_⟩
    · have := DGet.k (k := .inr t.1) ((k.trans kl) _ _ ed no)
      rw [u1] at this
      exact this
    refine ⟨_, _, colsD t.2, _, 100, [8], rfl, ow_strs el, dp_off kl u3, ⟨fit_wide (.cons (Nat.le_refl _) .nil) ((fit_cols tB.most tB.good).mono (by decide)), by decide, by decide, by decide, by decide⟩, fun G2 k2 => ?_⟩
    refine ⟨true, rfl, iteF ⟨_, rfl, k.trans fun a o e n => k2 a o (kl a o e n) fun z => ?_⟩⟩
    rw [z, nl] at e
    cases e
  · obtain ⟨w5, rfl, k⟩ := g
    obtain ⟨wa, rfl, sqw⟩ : ∃ wa, w = .ref wa ∧ ∃ xs, SqL K H' wa xs ∧ DpAll K H' xs (ts.map tabD) := by
      cases dp_off k hw with
      | lst h r => exact ⟨_, rfl, _, h, r⟩
    obtain ⟨xs, sq, da⟩ := sqw
    obtain ⟨zs, z1, z2, z3⟩ := lasts_of tb.each
    have lx : xs.length = ts.length := by rw [dpAll_len da, List.length_map]
    refine ⟨_, rfl, _, rfl, _, rfl, wa, rfl, ⟨_, sq⟩, fun D hD => lc_list (K := K) (a := wa) (xs := xs) (fun i G => G D = some (.lst ((zs.take i).map V.str)) ∧ Off (fun _ => False) H' G) ⟨upd_same, Off.new hD⟩ (fun i G _ g => sqL_off g.2 sq) (fun i x G hx g => ?_) fun G g => ?_⟩
    · obtain ⟨g1, g2⟩ := g
      have hi : i < ts.length := by
        have := (List.getElem?_eq_some_iff.mp hx).1
        omega
      have ht : ts[i]? = some ts[i] := List.getElem?_eq_getElem hi
      obtain ⟨v, ev, dv⟩ := dpAll_get (i := i) (d := tabD ts[i]) (dpAll_off g2 da) (by rw [List.getElem?_map, ht]; rfl)
      rw [hx] at ev
      cases ev
      obtain ⟨ta, v2, rfl, st, dc⟩ := dp_tab dv
      obtain ⟨ca, rfl, sc⟩ := dp_cols dc
      obtain ⟨z, hz, ez⟩ := z3 i _ ht
      refine ⟨ta, [.str ts[i].1, .ref ca], rfl, st, rfl, .str ts[i].1, [.ref ca], rfl, .ref ca, [], rfl, rfl, rfl, ?_⟩
      refine iteT (B := True) ?_
      refine iteT ?_
      refine ⟨_, rfl, _, rfl, ca, _, -1, .str z, rfl, rfl, sc, ez, _, g1, ?_, ?_, fun a o ea na => ?_⟩
      · rw [List.length_map, List.length_take, z1]
        exact Nat.lt_of_le_of_lt (Nat.min_le_right _ _) (Nat.lt_of_le_of_lt tb.most (by decide))
      · rw [upd_same, take_snoc hz, List.map_append]
        rfl
      · rw [upd_ne (fun z => by rw [z, hD] at ea; cases ea)]
        exact g2 a o ea na
    · obtain ⟨g1, g2⟩ := g
      rw [lx, ← z1, List.take_length] at g1
      have kg := k.trans g2
      refine ⟨wl, D, us.map V.str, zs.map V.str, rfl, rfl, kg _ _ sw no, g1, ?_, fun m nm => ?_⟩
      · rw [List.length_map, List.length_map, z1]
        exact Nat.le_trans (Nat.add_le_add lu tb.most) (by decide)
      have km := kg.trans (Off.new (o := .lst (us.map V.str ++ zs.map V.str)) nm)
      refine ⟨d, m, kvs, ts, us ++ zs, rfl, km _ _ ed no, titK_off km tk, n0, ?_, fun y hy => ?_, ?_, ?_⟩
      · rw [List.map_append]
        exact SqL.of upd_same
      · rcases List.mem_append.mp hy with hy | hy
        · obtain ⟨t, ht, rfl⟩ := hu y hy
          exact (tb.each t ht).name
        · exact z2 y hy
      · rw [List.length_append, z1]
        exact Nat.le_trans (Nat.add_le_add lu tb.most) (by decide)
      intro ss S G2 sne sl sg es k2
      have kk := km.trans k2
      have hp2 := hp.off kk no
      have hb2 := hb.off kk
      refine ⟨_, rfl, _, rfl, S, ss.map V.str, rfl, .inl (SqL.of es), p, ((ss.map V.str).length : Nat), c, rfl, hp2, by omega, ?_, ?_, fun i G3 i0 i1 hp3 b3 => ?_⟩
      · rw [List.length_map]
        have := List.length_pos_iff.mpr sne
        omega
      · rw [List.length_map]
        omega
      have Sp : S ≠ p := fun z => by
        obtain ⟨a1, a2, a3, e, _⟩ := id hp2
        rw [← z, es] at e
        obtain ⟨s0, sr⟩ := List.exists_cons_of_ne_nil sne
        obtain ⟨sr, rfl⟩ := sr
        cases e
      have es3 := b3.off _ _ es Sp
      have hb3 := hb2.but b3.off hp2
      have k03 : Off (fun a => a = p) H G3 := (Off.in kk).trans b3.off
      refine ⟨_, rfl, _, rfl, S, S, _, _, rfl, rfl, es3, es3, ?_, fun m3 n3 => ?_⟩
      · rw [List.length_map]
        exact Nat.le_trans (Nat.add_le_add sl sl) (by decide)
      have k3 : Off (fun _ => False) G3 (upd G3 m3 (.lst (ss.map V.str ++ ss.map V.str))) := Off.new n3
      refine ⟨_, rfl, _, rfl, _, rfl, _, _, rfl, rfl, _, rfl, m3, _, rfl, SqL.of upd_same, fun m4 n4 => ?_⟩
      have k4 := k3.trans (Off.new (o := .lst (cutV (ss.map V.str ++ ss.map V.str) (some i) (some (i + 4)))) n4)
      have e4 := upd_same (H := upd G3 m3 (.lst (ss.map V.str ++ ss.map V.str))) (a := m4) (o := .lst (cutV (ss.map V.str ++ ss.map V.str) (some i) (some (i + 4))))
      generalize upd (upd G3 m3 (.lst (ss.map V.str ++ ss.map V.str))) m4 (.lst (cutV (ss.map V.str ++ ss.map V.str) (some i) (some (i + 4)))) = G4 at k4 e4 ⊢
      refine ⟨m4, rfl, ⟨_, SqL.of e4⟩, fun D2 hD2 => lc_list (K := K) (a := m4) (xs := cutV (ss.map V.str ++ ss.map V.str) (some i) (some (i + 4))) (fun _ G => G D2 = some (.lst []) ∧ Off (fun _ => False) G4 G) ⟨upd_same, Off.new hD2⟩ (fun i G _ g => SqL.of (g.2 _ _ e4 no)) (fun i x G hx g => ?_) fun G g => ?_⟩
      · obtain ⟨g1, g2⟩ := g
        have mx := mem_cutV (List.mem_of_getElem? hx)
        rw [← List.map_append] at mx
        obtain ⟨y, hy, rfl⟩ := List.mem_map.mp mx
        have hy : y ∈ ss := (List.mem_append.mp hy).elim id id
        refine ⟨rfl, _, rfl, _, rfl, b, y, ts, rs, rfl, hb3.off (k4.trans g2), (sg y hy).2, (sg y hy).1, fun G5 k5 => ⟨true, rfl, iteF ⟨k5 _ _ g1 no, g2.trans k5⟩⟩⟩
      · obtain ⟨g1, g2⟩ := g
        refine ⟨by decide, fun m6 n6 => ?_⟩
        have k6 := g2.trans (Off.new (o := .lst []) n6)
        refine ⟨.list [], .list [], ?_, ?_, rfl, rfl, ?_⟩
        · exact .lst (SqL.of ((Off.new (G := fun _ => False) n6) _ _ g1 no)) .nil
        · exact .lst (SqL.of upd_same) .nil
        · exact q _ (c + 1) (hp3.off (k4.trans k6) no) (Nat.le_refl _) (k03.trans (Off.in (k4.trans k6)))
section
variable {P : Program} {w : World} {K : PySem.W.Frag} {mg : Str → Option Value} {base : Heap}
end
end LW
set_option Elab.async false
set_option linter.all false
set_option maxRecDepth 100000
set_option maxHeartbeats 0
/-! _law_shape, _law_turned_rules -/
namespace LW
open PySem PySem.Spec PyProof.Rows L2 KV
/-- the heap without what stands at f -/
def hide (f : Addr) (G : Hp) : Hp := fun a => if a = f then none else G a
theorem hide_ne {f a : Addr} {G : Hp} (h : a ≠ f) : hide f G a = G a := if_neg h
theorem hide_upd {f : Addr} {G : Hp} {o : HO} : hide f (upd G f o) = hide f G := by
  funext a
  unfold hide
  by_cases h : a = f
  · rw [if_pos h, if_pos h]
  · rw [if_neg h, if_neg h, upd_ne h]
theorem hide_off {f : Addr} {F : Fp} {G G' : Hp} (k : Off F G G') : Off F (hide f G) (hide f G') := fun a o e n => by
  unfold hide at e ⊢
  by_cases h : a = f
  · rw [if_pos h] at e
    cases e
  · rw [if_neg h] at e ⊢
    exact k a o e n
theorem hide_in {f : Addr} {G : Hp} : Off (fun _ => False) (hide f G) G := fun a o e _ => by
  unfold hide at e
  by_cases h : a = f
  · rw [if_pos h] at e
    cases e
  · rwa [if_neg h] at e
theorem hide_of {f : Addr} {F : Fp} {H G : Hp} (n : H f = none) (k : Off F H G) : Off F H (hide f G) := fun a o e z => by
  rw [hide_ne fun y => by rw [y, n] at e; cases e]
  exact k a o e z
theorem TabsOk.mono {mt mc mt' mc' : Nat} {ts : List Tab} (h : TabsOk mt mc ts) (a : mt ≤ mt') (b : mc ≤ mc') : TabsOk mt' mc' ts :=
  ⟨h.one, Nat.le_trans h.most a, h.nd, fun t ht => ⟨(h.each t ht).one, Nat.le_trans (h.each t ht).most b, (h.each t ht).good, (h.each t ht).nd, (h.each t ht).name⟩⟩
theorem dpAll_noInt {K : PySem.W.Frag} {H : Hp} {xs : List V} {ds : List PyData} (h : DpAll K H xs ds) (n : noIntAll ds = true) (x y z : Int) : xs ≠ [.int x, .int y, .int z] := fun e => by
  rw [e] at h
  cases h with
  | cons h0 _ =>
    cases h0
    simp [noIntAll, noInt] at n
theorem sqL_but {K : PySem.W.Frag} {H H' : Hp} {p a : Addr} {c : Nat} {xs : List V} (k : Off (fun a => a = p) H H') (hp : Pu H p c) (h : SqL K H a xs) (ne : ∀ x y z : Int, xs ≠ [.int x, .int y, .int z]) : SqL K H' a xs := by
  rcases h with (h | ⟨o, h⟩) | h
  · refine .inl (.inl (k _ _ h fun z => ?_))
    obtain ⟨x, y, z2, e, _⟩ := hp
    rw [z, e] at h
    cases h
    exact ne _ _ _ rfl
  · refine .inl (.inr ⟨o, k _ _ h fun z => ?_⟩)
    obtain ⟨x, y, z2, e, _⟩ := hp
    rw [z, e] at h
    cases h
  · exact .inr h
theorem sqT_but {K : PySem.W.Frag} {H H' : Hp} {p a : Addr} {c : Nat} {xs : List V} (k : Off (fun a => a = p) H H') (hp : Pu H p c) (h : SqT K H a xs) : SqT K H' a xs := by
  rcases h with (h | ⟨o, h⟩) | h
  · refine .inl (.inl (k _ _ h fun z => ?_))
    obtain ⟨x, y, z2, e, _⟩ := hp
    rw [z, e] at h
    cases h
  · refine .inl (.inr ⟨o, k _ _ h fun z => ?_⟩)
    obtain ⟨x, y, z2, e, _⟩ := hp
    rw [z, e] at h
    cases h
  · exact .inr h
theorem strs_noInt {cs : List Str} (x y z : Int) : cs.map V.str ≠ [.int x, .int y, .int z] := fun e => by
  cases cs with
  | nil => cases e
  | cons c cs => cases e
theorem pu_hide {H : Hp} {f p : Addr} {c : Nat} (h : Pu H p c) (n : p ≠ f) : Pu (hide f H) p c := h.at (hide_ne n)
theorem noInt_ruls (rs : List Rul) : noInt (rulsD rs) = true := by
  rw [rbsD_of]
  exact noInt_rbs _
theorem noInt_rul (r : Rul) : noInt (rulD r) = true := by
  rw [rbD_of]
  simp only [rbD, noInt]
  exact noInt_rb _
theorem rbS_of {mt mc : Nat} {ts : List Tab} {r : Rul} (h : RulOk ts r) (tk : TabsOk mt mc ts) : RbS ts (rbOf r) := by
  obtain ⟨t, ht, e1, e2, e3⟩ := h
  obtain ⟨x, cs, o⟩ := r
  have e1 : x = t.1 := e1
  have e2 : cs.Sublist t.2 := e2
  subst e1
  cases o with
  | none => exact ⟨"key", t.1, cs, [], t, rfl, .inl ⟨rfl, rfl⟩, tabOf_nd tk.nd ht, fun c hc => e2.subset (by simpa using hc)⟩
  | some y =>
    refine ⟨"settles", t.1, cs, [y], t, rfl, .inr ⟨rfl, rfl⟩, tabOf_nd tk.nd ht, fun c hc => ?_⟩
    rcases List.mem_append.mp hc with hc | hc
    · exact e2.subset hc
    · rw [List.mem_singleton.mp hc]
      exact e3 y rfl
theorem RbOk.turn {n m m' : Nat} {hd cs cs' tl : List Str} (h : RbOk n m (hd, some (cs, tl))) (l : cs'.length ≤ m') (s : ∀ x ∈ cs', x ∈ cs) : RbOk n m' (hd, some (cs', tl)) := by
  obtain ⟨_, g, t1, t2⟩ := h.cs cs tl rfl
  refine ⟨h.head, h.hg, fun _ => h.two (by simp), fun a b e => ?_⟩
  cases e
  exact ⟨l, fun x hx => g x (s x hx), t1, t2⟩
/-- the parts of a rule with a form -/
theorem dp_rb {K : PySem.W.Frag} {H : Hp} {v : V} {k x : Str} {cs tl : List Str} (h : Dp K H v (rbD ([k, x], some (cs, tl)))) : ∃ a c, v = .ref a ∧ SqT K H a (.str k :: .str x :: .ref c :: tl.map V.str) ∧ SqL K H c (cs.map V.str) := by
  cases h with
  | tup h r =>
    cases r with
    | cons h1 r =>
      cases h1
      cases r with
      | cons h2 r =>
        cases h2
        cases r with
        | cons h3 r =>
          obtain ⟨c, rfl, sc⟩ := dp_cols h3
          rw [dpAll_strs r] at h
          exact ⟨_, c, rfl, h, sc⟩
theorem dp_rb_mk {K : PySem.W.Frag} {H : Hp} {a c : Addr} {k x : Str} {cs tl : List Str} (h : SqT K H a (.str k :: .str x :: .ref c :: tl.map V.str)) (sc : SqL K H c (cs.map V.str)) : Dp K H (.ref a) (rbD ([k, x], some (cs, tl))) :=
  .tup h (.cons (.str k) (.cons (.str x) (.cons (.lst sc (dp_strs cs)) (dp_strs tl))))
theorem tu_tail {K : PySem.W.Frag} {G : Hp} {p wa fo a c e : Addr} {acc : List V} {k x : Str} {tl : List Str} {D : Ends} (sa : SqT K G a (.str k :: .str x :: .ref c :: tl.map V.str)) (ea : G fo = some (.lst acc)) (la : acc.length ≤ 1000) (lt : tl.length = 0 ∨ tl.length = 1)
    (q : ∀ m Gm, Off (fun _ => False) G Gm → G m = none → Gm m = some (.tup (.str k :: .str x :: .ref e :: tl.map V.str)) → D.nx [some (.ref p), some (.ref wa), some (.ref fo), some (.ref a), some (.ref e)] (upd Gm fo (.lst (acc ++ [.ref m])))) :
    tDrop (tBM K "list" rAppend (tVar 2) (tCons (tOp (rCatT K) (tOp (rCatT K) (tSl (rSlT K) (tVar 3) tNoPart (tPart (tC (.int 2)))) (tTup (tCons (tVar 4) tNil))) (tSl (rSlT K) (tVar 3) (tPart (tC (.int 3))) tNoPart)) tNil)) D
      [some (.ref p), some (.ref wa), some (.ref fo), some (.ref a), some (.ref e)] G := by
  have no : ¬ False := id
  have fin : acc.length < sizeLine := Nat.lt_of_le_of_lt la (by decide)
  have ecut2 : cutV (V.str k :: V.str x :: V.ref c :: tl.map V.str) none (some 2) = [.str k, .str x] := by
    rw [cutV_head (by decide)]
    rfl
  have ecut3 : cutV (V.str k :: V.str x :: V.ref c :: tl.map V.str) (some 3) none = tl.map V.str := by
    rw [cutV_tail (by decide)]
    rfl
  have len : (V.str k :: V.str x :: V.ref c :: tl.map V.str).length = tl.length + 3 := by simp
  refine ⟨_, rfl, .inl ⟨rfl, _, SqL.of ea⟩, _, rfl, _, rfl, a, _, rfl, sa, ?_, fun m1 n1 => ?_⟩
  · rw [len]
    rintro ⟨_, z⟩
    have : HT.sIx (tl.length + 3) (tl.length + 3) (some ((2 : Nat) : Int)) = tl.length + 3 := z
    rw [HT.sIx_nat] at this
    omega
  rw [ecut2]
  have k1 : Off (fun _ => False) G (upd G m1 (.tup [.str k, .str x])) := Off.new n1
  have e1 := upd_same (H := G) (a := m1) (o := .tup [.str k, .str x])
  generalize upd G m1 (.tup [.str k, .str x]) = G1 at k1 e1 ⊢
  refine ⟨_, rfl, (by show 1 ≤ sizeLine; decide), fun m2 n2 => ?_⟩
  have k2 : Off (fun _ => False) G1 (upd G1 m2 (.tup [.ref e])) := Off.new n2
  have e2 := upd_same (H := G1) (a := m2) (o := .tup [.ref e])
  generalize upd G1 m2 (.tup [.ref e]) = G2 at k2 e2 ⊢
  refine ⟨m1, m2, _, _, rfl, rfl, SqT.of (k2 _ _ e1 no), SqT.of e2, by simp, (by show 3 ≤ sizeLine; decide), (fun z => by cases z), fun _ m3 n3 => ?_⟩
  have k3 : Off (fun _ => False) G2 (upd G2 m3 (.tup ([.str k, .str x] ++ [.ref e]))) := Off.new n3
  have e3 := upd_same (H := G2) (a := m3) (o := .tup ([.str k, .str x] ++ [.ref e]))
  generalize upd G2 m3 (.tup ([.str k, .str x] ++ [.ref e])) = G3 at k3 e3 ⊢
  have k13 := (k1.trans k2).trans k3
  refine ⟨_, rfl, _, rfl, a, _, rfl, sqT_off k13 sa, ?_, fun m4 n4 => ?_⟩
  · rw [len]
    rintro ⟨z, _⟩
    have : HT.sIx (tl.length + 3) 0 (some ((3 : Nat) : Int)) = 0 := z
    rw [HT.sIx_nat] at this
    omega
  rw [ecut3]
  have k4 : Off (fun _ => False) G3 (upd G3 m4 (.tup (tl.map V.str))) := Off.new n4
  have e4 := upd_same (H := G3) (a := m4) (o := .tup (tl.map V.str))
  generalize upd G3 m4 (.tup (tl.map V.str)) = G4 at k4 e4 ⊢
  have k14 := k13.trans k4
  refine ⟨m3, m4, _, _, rfl, rfl, SqT.of (k4 _ _ e3 no), SqT.of e4, by simp, ?_, fun z => ?_, fun _ m5 n5 => ?_⟩
  · rw [List.length_map]
    exact Nat.le_trans (m := 10) (by show 3 + tl.length ≤ 10; omega) (by decide)
  · have z : tl = [] := List.map_eq_nil_iff.mp z
    subst z
    refine ⟨fo, acc, _, rfl, rfl, k14 _ _ ea no, fin, q m3 G4 k14 ?_ (k4 _ _ e3 no)⟩
    exact (k1.trans k2).none n3 no
  · have k5 : Off (fun _ => False) G4 (upd G4 m5 (.tup ([.str k, .str x] ++ [.ref e] ++ tl.map V.str))) := Off.new n5
    exact ⟨fo, acc, _, rfl, rfl, (k14.trans k5) _ _ ea no, fin, q m5 _ (k14.trans k5) (k14.none n5 no) upd_same⟩
def spShape (K : PySem.W.Frag) : Sp := fun vs H Q _ => ∃ (p : Addr) (c : Nat), vs = [.ref p] ∧ Pu H p c ∧ c + 2000 ≤ 1000000000 ∧
  ∀ (a : Addr) (v w : V) (ts : List Tab) (rs : List Rul) (H' : Hp) (c' : Nat), H a = none → H' a = some (.tup [v, w]) → Dp K H' v (tabsD ts) → TabsOk 6 8 ts → Dp K H' w (rulsD rs) → Dp K (hide a H') w (rulsD rs) → (∀ r ∈ rs, RulOk ts r) → rs.length ≤ 20 → Pu H' p c' → c' ≤ c + 1600 → Off (fun a => a = p) H H' → Q (.ref a) H'
def spTurned (K : PySem.W.Frag) : Sp := fun vs H Q _ => ∃ (p f : Addr) (w : V) (ts : List Tab) (rs : List Rul) (c : Nat), vs = [.ref p, w] ∧ Pu H p c ∧ c + 30 ≤ 1000000000 ∧ TabsOk 6 8 ts ∧ p ≠ f ∧ (∃ o, H f = some o) ∧ Dp K (hide f H) w (rulsD rs) ∧ (∀ r ∈ rs, RulOk ts r) ∧ rs.length ≤ 20 ∧
  ∀ (v : V) (rb : List RB) (H' : Hp) (c' : Nat), Dp K (hide f H') v (rbsD rb) → (∀ r ∈ rb, RbS ts r) → (∀ r ∈ rb, RbOk 8 9 r) → rb.length ≤ 20 → Pu H' p c' → c' ≤ c + 20 → Off (fun a => a = p) H H' → Q v H'
section
variable {P : Program} {w : World} {K : PySem.W.Frag} {mg : Str → Option Value} {base : Heap}
theorem scShape : FnScope ["purse", "is_small", "tables_here"] ["purse"] (defScope sShape) := ⟨rfl, rfl, rfl, by decide +kernel, rfl, by decide +kernel, by decide +kernel⟩
theorem ok_shape {f fC fT fR : Addr} {fd dC dT dR : FuncData} (F : FnP K "_law_shape" sShape f fd) (C : Dn P w K mg base 1 "_law_coin" ["purse", "many"] spCoin fC dC)
    (T : Dn P w K mg base 3 "_law_drawn_tables" ["purse", "most_tables", "most_columns"] spDrawnTables fT dT) (R : Dn P w K mg base 2 "_law_drawn_rules" ["purse", "tables_here", "most"] (spDrawnRules K) fR dR) :
    FnOk P w K mg base CX0 4 f fd ["purse"] (spShape K) := by
  refine F.ok scShape (fun vs H Q E h => ?_) (fun cdv A outer s H vs Q E hr h => ?_)
  · obtain ⟨p, c, rfl, _⟩ := h
    rfl
  obtain ⟨p, c, rfl, hp, hc, q⟩ := h
  refine ⟨_, PSs.nox (pss_cons (ps_set (i := 1) scShape.nd rfl (Or.inl rfl) (pe_cmpR op_gt (pe_call C.g (hr.mono (by decide)) rfl C.m C.kp C.b .nil pass0 (pa_cons (pv 0) (pa_cons pe_int pa_nil))) pe_int (nomark _)))
    (pss_cons (ps_set (i := 2) scShape.nd rfl (Or.inl rfl) (pe_call T.g hr rfl T.m T.kp T.b .nil pass0 (pa_cons (pv 0) (pa_cons (pe_ifExp (pt_val (pv 1)) pe_int pe_int) (pa_cons (pe_ifExp (pt_val (pv 1)) pe_int pe_int) pa_nil)))))
    (pss_one (ps_ret (pe_tup (pa_cons (pv 2) (pa_cons (pe_call R.g (hr.mono (by decide)) rfl R.m R.kp R.b .nil pass0 (pa_cons (pv 0) (pa_cons (pv 2) (pa_cons (pe_ifExp (pt_val (pv 1)) pe_int pe_int) pa_nil)))) pa_nil))))))), ?_⟩
  refine ⟨_, rfl, p, 3, c, rfl, hp, by omega, by decide, by decide, fun i H1 i0 i1 hp1 b1 => ⟨_, _, rfl, rfl, ?_⟩⟩
  dsimp only
  generalize decide ((0 : Int) < i) = sm
  have k1 := b1.off
  have fin : ∀ (ts : List Tab) (rs : List Rul) (D D2 : Addr) (H2 H3 : Hp) (c2 c3 : Nat), TabsOk 6 8 ts → Dp K H2 (.ref D) (tabsD ts) → Pu H2 p c2 → c2 ≤ c + 1 + 300 → Off (fun a => a = p) H1 H2 → rs.length ≤ 20 → (∀ r ∈ rs, RulOk ts r) → Dp K H3 (.ref D2) (rulsD rs) → Pu H3 p c3 → c3 ≤ c2 + 1200 → Off (fun a => a = p) H2 H3 →
      2 ≤ sizeLine ∧ ∀ t, H3 t = none → Q (.ref t) (upd H3 t (.tup [.ref D, .ref D2])) := by
    intro ts rs D D2 H2 H3 c2 c3 tk dv hp2 hc2 k2 lr hr2 dw hp3 hc3 k3
    refine ⟨by decide, fun t nt => ?_⟩
    have kn : Off (fun _ => False) H3 (upd H3 t (.tup [.ref D, .ref D2])) := Off.new nt
    have k13 := (k1.trans k2).trans k3
    refine q t (.ref D) (.ref D2) ts rs _ c3 (k13.none nt fun z => ?_) upd_same (dp_off kn (dp_but k3 hp2 dv (noInt_tabs ts))) tk (dp_off kn dw) (dp_off (hide_of nt kn) dw) hr2 lr (hp3.off kn id) (by omega) (k13.trans (Off.in kn))
    obtain ⟨xs, e⟩ := hp3.lst
    rw [← z, nt] at e
    cases e
  cases sm
  · refine ⟨_, rfl, _, rfl, false, rfl, iteF ⟨_, rfl, false, rfl, iteF ⟨p, 6, 8, c + 1, rfl, by decide, by decide, by decide, by decide, hp1, by omega, fun ts D F H2 c2 tk ow fr hp2 hc2 k2 => ?_⟩⟩⟩
    refine ⟨_, rfl, _, rfl, _, rfl, _, rfl, false, rfl, iteF ⟨p, .ref D, ts, 6, 8, 20, c2, rfl, ow.dp, tk, by decide, by decide, by decide, hp2, by omega, fun rs D2 F2 H3 c3 lr hr2 ow2 fr2 hp3 hc3 k3 => ?_⟩⟩
    exact fin ts rs D D2 H2 H3 c2 c3 (tk.mono (by decide) (by decide)) ow.dp hp2 hc2 k2 (Nat.le_trans lr (by decide)) hr2 ow2.dp hp3 hc3 k3
  · refine ⟨_, rfl, _, rfl, true, rfl, iteT ⟨_, rfl, true, rfl, iteT ⟨p, 3, 4, c + 1, rfl, by decide, by decide, by decide, by decide, hp1, by omega, fun ts D F H2 c2 tk ow fr hp2 hc2 k2 => ?_⟩⟩⟩
    refine ⟨_, rfl, _, rfl, _, rfl, _, rfl, true, rfl, iteT ⟨p, .ref D, ts, 3, 4, 5, c2, rfl, ow.dp, tk, by decide, by decide, by decide, hp2, by omega, fun rs D2 F2 H3 c3 lr hr2 ow2 fr2 hp3 hc3 k3 => ?_⟩⟩
    exact fin ts rs D D2 H2 H3 c2 c3 (tk.mono (by decide) (by decide)) ow.dp hp2 hc2 k2 (Nat.le_trans lr (by decide)) hr2 ow2.dp hp3 hc3 k3
end
end LW
set_option Elab.async false
set_option linter.all false
set_option maxRecDepth 100000
set_option maxHeartbeats 0
/-! _law_looked -/
namespace LW
open PySem PySem.Spec PyProof.Rows L2 KV
def spLooked (K : PySem.W.Frag) : Sp := fun vs H Q _ => ∃ (p b : Addr) (v w : V) (ts : List Tab) (rs : List RB) (c : Nat), vs = [.ref p, .ref b, v, w] ∧ BookOf K H b ts rs ∧ TabsW 8 8 6 ts ∧ (ts.map Prod.fst).Nodup ∧ tabOf ts "" = none ∧ (∀ r ∈ rs, RbOk 8 9 r) ∧ rs.length ≤ 20 ∧ Dp K H v (tabsD ts) ∧ Dp K H w (rbsD rs) ∧ Pu H p c ∧ c + 30 ≤ 1000000000 ∧
  ∀ H' c', Pu H' p c' → c' ≤ c + 10 → Off (fun a => a = p) H H' → Q (.bl true) H'
theorem sz_tab8 {ts : List Tab} (h : TabsW 8 8 6 ts) : Sz 8 [6, 2, 8] (tabsD ts) := ⟨fit_tabsW h, by decide, by decide, by decide, by decide⟩
theorem sz_rb8 {rs : List RB} (l : rs.length ≤ 20) (h : ∀ r ∈ rs, RbOk 8 9 r) : Sz 8 [20, 5, 9] (rbsD rs) := ⟨fit_rbs l h, by decide, by decide, by decide, by decide⟩
section
variable {P : Program} {w : World} {K : PySem.W.Frag} {mg : Str → Option Value} {base : Heap}
end
end LW
set_option Elab.async false
set_option linter.all false
set_option maxRecDepth 100000
set_option maxHeartbeats 0
/-! _law_right of k02 -/
namespace LW
open PySem PySem.Spec PyProof.Rows L2 KV
open C8 (InsC call_isC)
abbrev Shp := List Tab × List RB
def shD (o : Shp) : PyData := .tuple [tabsD o.1, rbsD o.2]
structure ShOk (o : Shp) : Prop where
  tk : TabsOk 6 8 o.1
  rs : ∀ r ∈ o.2, RbS o.1 r
  ok : ∀ r ∈ o.2, RbOk 8 9 r
  len : o.2.length ≤ 20
theorem noInt_sh (o : Shp) : noInt (shD o) = true := by simp [shD, noInt, noIntAll, noInt_tabs, noInt_rbs]
theorem noInt_shs (os : List Shp) : noIntAll (os.map shD) = true := noIntAll_of fun d hd => by
  obtain ⟨o, _, rfl⟩ := List.mem_map.mp hd
  exact noInt_sh o
theorem dp_pair {K : PySem.W.Frag} {H : Hp} {v : V} {d e : PyData} (h : Dp K H v (.tuple [d, e])) : ∃ a x y, v = .ref a ∧ SqT K H a [x, y] ∧ Dp K H x d ∧ Dp K H y e := by
  cases h with
  | tup h r =>
    cases r with
    | cons h1 r =>
      cases r with
      | cons h2 r =>
        cases r
        exact ⟨_, _, _, rfl, h, h1, h2⟩
theorem dp_two {K : PySem.W.Frag} {H : Hp} {v : V} {d e : PyData} (h : Dp K H v (.list [d, e])) : ∃ a x y, v = .ref a ∧ SqL K H a [x, y] ∧ Dp K H x d ∧ Dp K H y e := by
  cases h with
  | lst h r =>
    cases r with
    | cons h1 r =>
      cases r with
      | cons h2 r =>
        cases r
        exact ⟨_, _, _, rfl, h, h1, h2⟩
/-- the parts of the two shapes -/
structure ShAt (K : PySem.W.Frag) (H : Hp) (D t1 t2 : Addr) (v1 w1 v2 w2 : V) (o1 o2 : Shp) : Prop where
  sq : SqL K H D [.ref t1, .ref t2]
  s1 : SqT K H t1 [v1, w1]
  s2 : SqT K H t2 [v2, w2]
  a1 : Dp K H v1 (tabsD o1.1)
  b1 : Dp K H w1 (rbsD o1.2)
  a2 : Dp K H v2 (tabsD o2.1)
  b2 : Dp K H w2 (rbsD o2.2)
theorem sh_at {K : PySem.W.Frag} {H : Hp} {D : Addr} {o1 o2 : Shp} (h : Dp K H (.ref D) (.list [shD o1, shD o2])) : ∃ t1 t2 v1 w1 v2 w2, ShAt K H D t1 t2 v1 w1 v2 w2 o1 o2 := by
  obtain ⟨a, x, y, e, sq, h1, h2⟩ := dp_two h
  cases e
  obtain ⟨t1, v1, w1, rfl, s1, a1, b1⟩ := dp_pair h1
  obtain ⟨t2, v2, w2, rfl, s2, a2, b2⟩ := dp_pair h2
  exact ⟨t1, t2, v1, w1, v2, w2, sq, s1, s2, a1, b1, a2, b2⟩
theorem ShAt.off {K : PySem.W.Frag} {H H' : Hp} {D t1 t2 : Addr} {v1 w1 v2 w2 : V} {o1 o2 : Shp} (h : ShAt K H D t1 t2 v1 w1 v2 w2 o1 o2) (k : Off (fun _ => False) H H') : ShAt K H' D t1 t2 v1 w1 v2 w2 o1 o2 :=
  ⟨sqL_off k h.sq, sqT_off k h.s1, sqT_off k h.s2, dp_off k h.a1, dp_off k h.b1, dp_off k h.a2, dp_off k h.b2⟩
theorem ShAt.but {K : PySem.W.Frag} {H H' : Hp} {p D t1 t2 : Addr} {c : Nat} {v1 w1 v2 w2 : V} {o1 o2 : Shp} (h : ShAt K H D t1 t2 v1 w1 v2 w2 o1 o2) (k : Off (fun a => a = p) H H') (hp : Pu H p c) : ShAt K H' D t1 t2 v1 w1 v2 w2 o1 o2 :=
  ⟨sqL_but k hp h.sq fun _ _ _ e => (by cases e), sqT_but k hp h.s1, sqT_but k hp h.s2, dp_but k hp h.a1 (noInt_tabs _), dp_but k hp h.b1 (noInt_rbs _), dp_but k hp h.a2 (noInt_tabs _), dp_but k hp h.b2 (noInt_rbs _)⟩
theorem tabOf_empty {mt mc : Nat} {ts : List Tab} (tk : TabsOk mt mc ts) : tabOf ts "" = none := by
  unfold tabOf
  rw [List.find?_eq_none]
  intro t ht z
  have h := (tk.each t ht).name.1
  rw [of_decide_eq_true z] at h
  exact absurd h (by decide)
def shR (o : List Tab × List Rul) : PyData := .tuple [tabsD o.1, rulsD o.2]
theorem noInt_shR (o : List Tab × List Rul) : noInt (shR o) = true := by simp [shR, noInt, noIntAll, noInt_tabs, noInt_ruls]
end LW
set_option Elab.async false
set_option linter.all false
set_option maxRecDepth 100000
set_option maxHeartbeats 4000000
/-! != of own instances with an own __eq__ and no own __ne__. -/
namespace KV
open PySem PySem.Spec PyProof.Rows L2
section
variable {prog : Program} {w : World} {A : Around} {E : Value → Shared → Prop} {s : Shared} {K : PySem.W.Frag} {x y C f : Addr} {ox oy : Obj} {od od' : Option Obj}
theorem entry_neO (hu : A.units < cLine) (X : K.In s.heap) (I : PySem.W.InstAt s.heap x ox C od) (hs : PySem.W.findIn K (.ref C) "__eq__" = some (some (.ref f))) (hf : PySem.W.isFn K (.ref f) = true) {Q : Fin → Shared → Prop}
    (h : wpAny (model prog w) A (call (.ref f) [.ref x, .ref y]) (fun v s' => ∃ b, v = .bool b ∧ Q (.done (.ret (.bool (!b)))) s') E s) : wpAny (model prog w) A (Builtin.«object.__ne__» ⟨[.ref x, .ref y], []⟩) Q E s := by
  unfold Builtin.«object.__ne__»
  repeat (first
    | with_reducible refine wpAny_cRoomFor hu ?_
    | (refine wpAny_bind (m := callSpecialIfBound? (.ref x) (Str.ofString "__eq__") [.ref y]) (PySem.W.ifBound_K X I hs hf (wpAny_mono h (fun r s' hr => by
          obtain ⟨b, rfl, hq⟩ := hr
          repeat (first | exact hq | exact wpAny_pure hq | exact wpAny_truthy_bool hq | (refine wpAny_bind (m := truthy (.bool _)) (wpAny_truthy_bool ?_)) | wp_step)) fun _ _ e => e)))
    | wp_step)
theorem call_objNe {Q : Value → Shared → Prop} (hu : A.in1.units < cLine) (X : K.In s.heap) (I : PySem.W.InstAt s.heap x ox C od) (hm : PySem.W.mroIn K C (.type "object") = some true)
    (hs : PySem.W.findIn K (.ref C) "__eq__" = some (some (.ref f))) (hf : PySem.W.isFn K (.ref f) = true) (h : wpAny (model prog w) A.in1 (call (.ref f) [.ref x, .ref y]) (fun v s' => ∃ b, v = .bool b ∧ Q (.bool (!b)) s') E s) :
    wpAny (model prog w) A (call (.builtin "object.__ne__") [.ref x, .ref y]) Q E s :=
  wpAny_call (codeAny_call_builtin F.cmp_object.ne.plain F.cmpEntry_ne (PySem.W.check_slot F.cmpKind_ne F.cmpSplit_ne (I.type.andThen (PySem.W.looks_mroIn X hm)) (F.cmpArgs_ne _ _) (entry_neO hu X I hs hf h)))
theorem ifBound_objNe {M : Model} {args : List Value} {Q : Option Value → Shared → Prop} (X : K.In s.heap) (I : PySem.W.InstAt s.heap x ox C od) (hn : PySem.W.findIn K (.ref C) "__ne__" = some (some (.builtin "object.__ne__")))
    (h : wpAny M A (call (.builtin "object.__ne__") (.ref x :: args)) (fun v => Q (some v)) E s) : wpAny M A (callSpecialIfBound? (.ref x) "__ne__" args) Q E s := by
  unfold callSpecialIfBound? bindSpecialIfBound?
  refine wpAny_holding (wpAny_bind (wpAny_bind (wpAny_bind (I.type.here ((PySem.W.looks_findIn X hn).here ?_)))))
  have fin : wpAny M A (do
      let v ← call (.builtin "object.__ne__") ([.ref x] ++ args)
      pure (some v)) Q E s := wpAny_bind (wpAny_mono h (fun v s' h' => wpAny_pure h') fun _ _ h' => h')
  refine wpAny_bind (wpAny_askSetting (wpAny_ite ?_))
  split
  · exact wpAny_bind (wpAny_of_eq (F.cmp_object.ne.bind _) (wpAny_pure fin))
  · exact wpAny_tryCatch (wpAny_bind (wpAny_of_eq (F.cmp_object.ne.bind _) (wpAny_pure fin)))
theorem rc_neO {Q : Value → Shared → Prop} (hu : A.units < cLine) (hu1 : A.in1.units < cLine) (X : K.In s.heap) (I : PySem.W.InstAt s.heap x ox C od) (J : PySem.W.InstAt s.heap y oy C od') (hm : PySem.W.mroIn K C (.type "object") = some true)
    (hn : PySem.W.findIn K (.ref C) "__ne__" = some (some (.builtin "object.__ne__"))) (hs : PySem.W.findIn K (.ref C) "__eq__" = some (some (.ref f))) (hf : PySem.W.isFn K (.ref f) = true)
    (h : wpAny (model prog w) A.in1 (call (.ref f) [.ref x, .ref y]) (fun v s' => ∃ b, v = .bool b ∧ Q (.bool (!b)) s') E s) : wpAny (model prog w) A (richCompare .NotEq (.ref x) (.ref y)) Q E s := by
  have one : wpAny (model prog w) A (tryCompare (.ref x) "__ne__" (.ref y)) (fun r s' => ∃ b, r = some (.bool b) ∧ Q (.bool b) s') E s := by
    unfold tryCompare
    refine wpAny_bind (ifBound_objNe X I hn (call_objNe hu1 X I hm hs hf (wpAny_mono h (fun v s' hv => ?_) fun _ _ e => e)))
    obtain ⟨b, rfl, hq⟩ := hv
    exact ⟨b, rfl, wpAny_pure ⟨!b, rfl, hq⟩⟩
  unfold richCompare
  simp only [oneThing_ref, cmpInfo_NotEq]
  refine wpAny_holding (wpAny_bind (wpAny_cRoomFor hu ?_))
  refine wpAny_bind (I.type.here (wpAny_bind (J.type.here ?_)))
  split
  · rename_i q
    simp at q
  · refine wpAny_bind (wpAny_pure ?_)
    rw [if_neg (by decide)]
    refine wpAny_bind (m := tryCompare (.ref x) _ (.ref y)) (wpAny_mono one (fun r s' z => ?_) fun _ _ e => e)
    obtain ⟨b, rfl, hq⟩ := z
    exact wpAny_pure hq
end
/-- x == y, x != y of two instances of the class at C, whose own == is the def that promises sp -/
def rEqO (C : Addr) (sp : Sp) (g : Bool → Bool) : R2 := fun x y H Q => ∃ a b dx dy fs gs, x = .ref a ∧ y = .ref b ∧ H a = some (.ins C dx fs) ∧ H b = some (.ins C dy gs) ∧ sp [.ref a, .ref b] H (fun v H' => ∃ r : Bool, v = .bl r ∧ Q (.bl (g r)) H') fun _ _ _ => False
section
variable {X : Cx} {n : Nat} {C f : Addr} {fd : FuncData} {ps : List Str} {sp : Sp}
theorem run_eqO {A : Around} {pins : List (Addr × Obj)} {s : Shared} {σ : L2.St} {H : Hp} {a b : Addr} {G : V → Hp → Prop} {Qv : Value → Shared → Prop} (F : FnOk X.prog X.w X.K X.mg X.base CX0 n f fd ps sp) (hb : Binds X.K fd ps []) (I : Inv X pins σ H s) (hr : Room n A) (e0 : Env0 X.prog X.w X.K X.mg X.base A X.stack s H)
    (h : sp [.ref a, .ref b] H (fun v H' => ∃ r : Bool, v = .bl r ∧ G (.bl r) H') fun _ _ _ => False) (q : ∀ r H' s', Inv X pins σ H' s' → G (.bl r) H' → Qv (.bool r) s') :
    wpAny (model X.prog X.w) A (call (.ref f) [.ref a, .ref b]) Qv X.xe s := by
  have hl := F.len _ _ _ _ h
  have r2 : Vals [V.ref a, V.ref b] [Value.ref a, Value.ref b] := .cons rfl (.cons rfl .nil)
  refine wpAny_call (codeAny_mono (F.run A X.stack s H ⟨[.ref a, .ref b], []⟩ [.ref a, .ref b] [.ref a, .ref b] _ (fun _ _ _ => False) hr e0 (by
    have := hb s [.ref a, .ref b] I.kIn (by simpa using hl)
    simpa using this) r2 h) fun r s' hq => ?_)
  cases r with
  | error e => exact hq.elim
  | ok fl =>
    cases fl with
    | ret w =>
      obtain ⟨z, H', I', rz, r, ez, qz⟩ := I.after hq
      subst ez
      cases rz
      exact q r H' s' I' qz
    | next => exact False.elim hq
    | brk => exact False.elim hq
    | cont => exact False.elim hq
theorem op_neO (F : FnOk X.prog X.w X.K X.mg X.base CX0 n f fd ps sp) (hn : PySem.W.findIn X.K (.ref C) "__ne__" = some (some (.builtin "object.__ne__"))) (hm : PySem.W.mroIn X.K C (.type "object") = some true)
    (hs : PySem.W.findIn X.K (.ref C) "__eq__" = some (some (.ref f))) (hf : PySem.W.isFn X.K (.ref f) = true) (hb : Binds X.K fd ps []) (hr : Room (n + 1) X.A) : OpR X (compareOp .NotEq) (rEqO C sp fun r => !r) := by
  intro pins s σ H x y v u Q I rx ry hq
  obtain ⟨a, b, dx, dy, fs, gs, rfl, rfl, ha, hb', q⟩ := hq
  cases rx
  cases ry
  obtain ⟨mA, J, _⟩ := ins_get I.hok ha
  obtain ⟨mB, J', _⟩ := ins_get I.hok hb'
  obtain ⟨od, J, _⟩ := J.look
  obtain ⟨od', J', _⟩ := J'.look
  show wpAny (model X.prog X.w) X.A (richCompare .NotEq (.ref a) (.ref b)) (EP X pins σ Q) X.xe s
  exact rc_neO hr.units0 hr.in1.units0 I.kIn J J' hm hn hs hf (run_eqO (G := fun v H' => ∃ r : Bool, v = .bl r ∧ Q (.bl (!r)) H') F hb I hr.in1 I.env0.in1 (by
    refine (show sp [.ref a, .ref b] H _ _ = sp [.ref a, .ref b] H _ _ from ?_).mp q
    congr 1
    funext v H'
    exact propext ⟨fun ⟨r, e, h⟩ => ⟨r, e, r, rfl, h⟩, fun ⟨r, e, r', e', h⟩ => ⟨r, e, by cases e'; exact h⟩⟩) fun r H' s' I' ⟨r', e, h⟩ => by
      cases e
      exact ⟨r, rfl, .bl (!r), H', I', rfl, h⟩)
theorem op_eqO (F : FnOk X.prog X.w X.K X.mg X.base CX0 n f fd ps sp) (hs : PySem.W.findIn X.K (.ref C) "__eq__" = some (some (.ref f))) (hf : PySem.W.isFn X.K (.ref f) = true) (hb : Binds X.K fd ps []) (hr : Room (n + 1) X.A) : OpR X (compareOp .Eq) (rEqO C sp fun r => r) := by
  intro pins s σ H x y v u Q I rx ry hq
  obtain ⟨a, b, dx, dy, fs, gs, rfl, rfl, ha, hb', q⟩ := hq
  cases rx
  cases ry
  obtain ⟨mA, J, _⟩ := ins_get I.hok ha
  obtain ⟨mB, J', _⟩ := ins_get I.hok hb'
  obtain ⟨od, J, _⟩ := J.look
  obtain ⟨od', J', _⟩ := J'.look
  obtain ⟨m, hF⟩ := I.fr
  show wpAny (model X.prog X.w) X.A (richCompare .Eq (.ref a) (.ref b)) (EP X pins σ Q) X.xe s
  refine PySem.W.cmp_K (op := .Eq) (tb := .ref C) hr.units0 hF I.ok.mod.kin J J'.type (by simp [PySem.W.notFirst]) hs hf ?_
  exact run_eqO (G := Q) F hb I (hr.mono (Nat.le_succ n)) I.env0 q fun r H' s' I' h => ⟨.bl r, H', I', rfl, h⟩
end
end KV
set_option Elab.async false
set_option linter.all false
set_option maxRecDepth 100000
set_option maxHeartbeats 0
/-! Book.__eq__ -/
namespace LW
open PySem PySem.Spec PyProof.Rows L2 KV
open C8 (InsC call_isC)
theorem layAll_of : ∀ {ds : List PyData}, (∀ d ∈ ds, d.canLay0 = true) → PyData.canLayAll0 ds = true
  | [], _ => by simp [PyData.canLayAll0]
  | d :: ds, h => by
    simp only [PyData.canLayAll0, Bool.and_eq_true]
    exact ⟨h d List.mem_cons_self, layAll_of fun e he => h e (List.mem_cons_of_mem _ he)⟩
theorem lay_cols {cs : List Str} (h : ∀ x ∈ cs, Asc x) : (colsD cs).canLay0 = true := by
  simp only [colsD, PyData.canLay0]
  exact lay_strs h
theorem lay_tabs {n mc mt : Nat} {ts : List Tab} (h : TabsW n mc mt ts) : (tabsD ts).canLay0 = true := by
  simp only [tabsD, PyData.canLay0]
  refine layAll_of fun d hd => ?_
  obtain ⟨t, ht, rfl⟩ := List.mem_map.mp hd
  have tb := h.each t ht
  simp only [tabD, PyData.canLay0, PyData.canLayAll0, Bool.and_eq_true, Bool.and_true]
  exact ⟨strOk_asc tb.name.1, lay_cols fun x hx => (tb.good x hx).1⟩
theorem lay_rb {n m : Nat} {r : RB} (h : RbOk n m r) : (rbD r).canLay0 = true := by
  obtain ⟨hd, o⟩ := r
  simp only [rbD, PyData.canLay0]
  have hh : ∀ x ∈ hd, (PyData.str x).canLay0 = true := fun x hx => by
    simp only [PyData.canLay0]
    exact strOk_asc (h.hg x hx).1
  refine layAll_of fun d hd' => ?_
  cases o with
  | none =>
    obtain ⟨x, hx, rfl⟩ := List.mem_map.mp (show d ∈ hd.map PyData.str from hd')
    exact hh x hx
  | some z =>
    obtain ⟨cs, tl⟩ := z
    obtain ⟨_, g, _, g2⟩ := h.cs cs tl rfl
    rcases List.mem_append.mp (show d ∈ hd.map PyData.str ++ colsD cs :: tl.map PyData.str from hd') with hd' | hd'
    · obtain ⟨x, hx, rfl⟩ := List.mem_map.mp hd'
      exact hh x hx
    · rcases List.mem_cons.mp hd' with rfl | hd'
      · exact lay_cols fun x hx => (g x hx).1
      · obtain ⟨x, hx, rfl⟩ := List.mem_map.mp hd'
        simp only [PyData.canLay0]
        exact strOk_asc (g2 x hx).1
theorem lay_rbs {n m : Nat} {rs : List RB} (h : ∀ r ∈ rs, RbOk n m r) : (rbsD rs).canLay0 = true := by
  simp only [rbsD, PyData.canLay0]
  refine layAll_of fun d hd => ?_
  obtain ⟨r, hr, rfl⟩ := List.mem_map.mp hd
  exact lay_rb (h r hr)
theorem shaped_of {b : Nat} {ms : List Nat} {d : PyData} (l : d.canLay0 = true) (f : KV.Fit b ms d) (m : ms.length ≤ 64) : SeqAt.shaped d = true := by
  unfold SeqAt.shaped
  rw [Bool.and_eq_true]
  exact ⟨l, decide_eq_true (Nat.le_trans f.ok.dp m)⟩
/-- books compare as their tables and rules do -/
def sameB (ts us : List Tab) (rs ws : List RB) : Bool := PyData.eqv (tabsD ts) (tabsD us) && PyData.eqv (rbsD rs) (rbsD ws)
def spEqBk (K : PySem.W.Frag) : Sp := fun vs H Q _ => ∃ (a b : Addr) (ts us : List Tab) (rs ws : List RB) (n mc mt N M L n' mc' mt' N' M' L' : Nat), vs = [.ref a, .ref b] ∧ BookOf K H a ts rs ∧ BookOf K H b us ws ∧ BkB n mc mt N M L ts rs ∧ BkB n' mc' mt' N' M' L' us ws ∧ Q (.bl (sameB ts us rs ws)) H
theorem sameB_refl {n mc mt N M L : Nat} {ts : List Tab} {rs : List RB} (h : BkB n mc mt N M L ts rs) : sameB ts ts rs rs = true := by
  unfold sameB
  rw [SeqAt.eqv_refl _ (lay_tabs h.tb), SeqAt.eqv_refl _ (lay_rbs h.rb)]
  rfl
section
variable {P : Program} {w : World} {K : PySem.W.Frag} {mg : Str → Option Value} {base : Heap}
theorem scEqBk : FnScope ["self", "other"] ["self", "other"] (defScope pBook_eq) := ⟨rfl, rfl, rfl, by decide +kernel, rfl, by decide +kernel, by decide +kernel⟩
theorem ok_eqBk {f : Addr} {fd : FuncData} (F : FunD K "__eq__" "Book.__eq__" (defArgs pBook_eq) (defBody pBook_eq) (defScope pBook_eq) [] [] f fd) (B : BookT K mg) (IC : InsC K (He.ga K "Book")) (mi : mg "isinstance" = none) :
    FnOk P w K mg base CX0 1 f fd ["self", "other"] (spEqBk K) := by
  refine F.ok scEqBk (fun vs H Q E h => ?_) (fun cdv A outer s H vs Q E hr h => ?_)
  · obtain ⟨a, b, _, _, _, _, _, _, _, _, _, _, _, _, _, _, _, _, rfl, _⟩ := h
    rfl
  obtain ⟨a, b, ts, us, rs, ws, n, mc, mt, N, M, L, n', mc', mt', N', M', L', rfl, ha, hb, ba, bb, q⟩ := h
  have hu : (A.deeper (envOfC "Book.__eq__" (defScope pBook_eq) s.heap.objs.size f cdv)).units + 64 < cLine := hr.units
  refine ⟨_, pss_one (ps_ret (pe_and (pe_callB (call_isC IC) rfl mi boot_isinstance (pa_cons (pv 1) (pa_cons (pe_glob (v := .ref (He.ga K "Book")) rfl B.g rfl) pa_nil)))
    (pe_and (pe_cmpR (op_eqD hu) (pe_fld (pv 0) rfl) (pe_fld (pv 1) rfl) (nomark _)) (pe_one (pe_cmpR (op_eqD hu) (pe_fld (pv 0) rfl) (pe_fld (pv 1) rfl) (nomark _)))))), ?_⟩
  obtain ⟨dx, v1, v2, h1, h2, h3⟩ := ha
  obtain ⟨dy, u1, u2, g1, g2, g3⟩ := hb
  have s1 := shaped_of (lay_tabs ba.tb) (fit_tabsW ba.tb) (by show 3 ≤ 64; decide)
  have s2 := shaped_of (lay_tabs bb.tb) (fit_tabsW bb.tb) (by show 3 ≤ 64; decide)
  have s3 := shaped_of (lay_rbs ba.rb) (fit_rbs ba.lr ba.rb) (by show 3 ≤ 64; decide)
  have s4 := shaped_of (lay_rbs bb.rb) (fit_rbs bb.lr bb.rb) (by show 3 ≤ 64; decide)
  refine ⟨_, rfl, b, dy, _, rfl, g1, true, rfl, iteT ?_⟩
  refine ⟨_, rfl, a, _, dx, _, _, rfl, h1, B.cl, B.n1, look_tables _ _, _, rfl, b, _, dy, _, _, rfl, g1, B.cl, B.n1, look_tables _ _, tabsD ts, tabsD us, h2, g2, s1, s2, _, rfl, ?_⟩
  unfold sameB at q
  cases e : PyData.eqv (tabsD ts) (tabsD us) with
  | false =>
    rw [e] at q
    exact iteF q
  | true =>
    rw [e, Bool.true_and] at q
    exact iteT ⟨_, rfl, a, _, dx, _, _, rfl, h1, B.cl, B.n2, look_rules _ _, _, rfl, b, _, dy, _, _, rfl, g1, B.cl, B.n2, look_rules _ _, rbsD rs, rbsD ws, h3, g3, s3, s4, q⟩
end
end LW
set_option Elab.async false
set_option linter.all false
set_option maxRecDepth 100000
set_option maxHeartbeats 4000000
/-! Methods that may raise, within a try; the same with keywords. -/
namespace KV
open PySem PySem.Spec PyProof.Rows L2
section
variable {X : Cx} {CX : CXT} {k : Nat} {f C : Addr} {fd : FuncData} {ps ks : List Str} {sp : Sp} {E : L2.St → XK} {m : Str} {apos pos : Pos} {o e : Expr} {es : List Expr} {kws : List Keyword} {t tk : TA} {ta : TE} {g : List Value → List Value → List Value} {gV : List V → List V → List V}
def tMethA (C : Addr) (m : Str) (sp : Sp) (E : L2.St → XK) (ta : TE) (t : TA) : TE := fun σ H Q => ta σ H fun x H1 => ∃ a dx fs, x = .ref a ∧ H1 a = some (.ins C dx fs) ∧ fs.lookup m = none ∧ t σ H1 fun vs H2 => sp (.ref a :: vs) H2 Q (E σ)
theorem pe_methA {pl : Sem Bool} (he : PE X o ta) (c : Cls X.K C) (hm : Meth X.K C m f) (F : FnOk X.prog X.w X.K X.mg X.base CX k f fd ps sp) (hr : Room k X.A) (hb : Binds X.K fd ps []) (hx : ∀ σ, PassesAt CX X σ (E σ)) (ha : PA X (e :: es) t)
    (hst : starEach (e :: es) X.env = (false, eval e X.env) :: starEach es X.env := by rfl) (hpl : (backTo pos (starEach es X.env)).any (·.1) = false := by rfl)
    (ht : eval (.Call (.Attribute o m apos) (e :: es) [] pos) X.env = (eval o X.env >>= fun z => standAt apos.atName >>= fun _ => holding [z] (getMethod z m pl) >>= fun zz => callWith pos zz.1 zz.2 (backTo pos (starEach (e :: es) X.env)) (backToKw pos (keywordEach [] X.env))) := by rfl) :
    PE X (.Call (.Attribute o m apos) (e :: es) [] pos) (tMethA C m sp E ta t) := by
  refine ⟨fun pins s σ H Q I h => ?_⟩
  refine PySem.W.methodCall_KW (pl := pl) (thn (he.run pins s σ H _ I h) fun u s1 ⟨x, H1, I1, rx, a, dx, fs, ex, ea, l, q⟩ => ?_) ht
  subst ex
  obtain rfl : u = Value.ref a := rx
  refine getmeth_ok I1 ea c hm l (PySem.W.callWith_K (first := [.ref a]) (h₀ := X.base) I.ok.mod.kin hm.kp (thn (ha.run pos pins s1 σ H1 _ I1 q) fun us s2 ⟨vs, H2, I2, r, q2⟩ => ⟨I2.kIn, ?_⟩) hst hpl)
  exact run_fnSD (us := .ref a :: us) (vs := .ref a :: vs) (ds := []) (dvs := []) F hr hb .nil (hx σ) I2 (.cons rfl r) (by rw [List.append_nil]; exact q2)
def tMethKA (C : Addr) (m : Str) (n : Nat) (sp : Sp) (gV : List V → List V → List V) (E : L2.St → XK) (ta : TE) (tk : TA) : TE := fun σ H Q => ta σ H fun x H1 => ∃ a dx fs, x = .ref a ∧ H1 a = some (.ins C dx fs) ∧ fs.lookup m = none ∧ tk σ H1 fun zs H2 => zs.length = n ∧ sp (gV [.ref a] zs) H2 Q (E σ)
theorem pe_methKA {pl : Sem Bool} (he : PE X o ta) (c : Cls X.K C) (hm : Meth X.K C m f) (F : FnOk X.prog X.w X.K X.mg X.base CX k f fd ps sp) (hr : Room k X.A) (hb : KBn X.K fd ps 1 ks g gV) (hx : ∀ σ, PassesAt CX X σ (E σ)) (hkw : PK X kws tk)
    (hall : (backToKw pos (keywordEach kws X.env)).all (·.1.isSome) = true := by rfl) (hks : (backToKw pos (keywordEach kws X.env)).filterMap (·.1) = ks := by rfl)
    (hpl : ((backTo pos (starEach [] X.env)).any (·.1) || (backToKw pos (keywordEach kws X.env)).any (·.1.isNone)) = false := by rfl)
    (ht : eval (.Call (.Attribute o m apos) [] kws pos) X.env = (eval o X.env >>= fun z => standAt apos.atName >>= fun _ => holding [z] (getMethod z m pl) >>= fun zz => callWith pos zz.1 zz.2 (backTo pos (starEach [] X.env)) (backToKw pos (keywordEach kws X.env))) := by rfl) :
    PE X (.Call (.Attribute o m apos) [] kws pos) (tMethKA C m ks.length sp gV E ta tk) := by
  refine ⟨fun pins s σ H Q I h => ?_⟩
  refine PySem.W.methodCall_KW (pl := pl) (thn (he.run pins s σ H _ I h) fun u s1 ⟨x, H1, I1, rx, a, dx, fs, ex, ea, l, q⟩ => ?_) ht
  subst ex
  obtain rfl : u = Value.ref a := rx
  refine getmeth_ok I1 ea c hm l (PySem.W.callWith_KW0 (first := [.ref a]) (h₀ := X.base) I.ok.mod.kin hm.kp hall (thn (hkw.run pos pins s1 σ H1 _ I1 q) fun ws s2 ⟨zs, H2, I2, rz, l2, q2⟩ => ⟨I2.kIn, ?_⟩) hpl)
  rw [hks]
  have r1 : Vals [V.ref a] [Value.ref a] := .cons rfl .nil
  have r2 := hb.rel r1 rz
  have hl : (g [Value.ref a] ws).length = ps.length := by
    rw [← r2.length]
    exact F.len _ _ _ _ q2
  refine wpAny_call (codeAny_mono (F.run X.A X.stack s2 H2 ⟨[Value.ref a], ks.zip ws⟩ (g [Value.ref a] ws) (gV [.ref a] zs) Q (E σ) hr I2.env0 (hb.to s2 [Value.ref a] ws I2.kIn rfl (by rw [← rz.length]; exact l2)) r2 q2) fun r s' hq => ?_)
  cases r with
  | error e => exact hx σ pins _ _ e s' I2 hq
  | ok fl =>
    cases fl with
    | ret u => exact I2.after hq
    | next => exact False.elim hq
    | brk => exact False.elim hq
    | cont => exact False.elim hq
end
end KV
set_option Elab.async false
set_option linter.all false
set_option maxRecDepth 100000
set_option maxHeartbeats 4000000
/-! Methods without arguments that may raise; own instances called, within a try. -/
namespace KV
open PySem PySem.Spec PyProof.Rows L2
section
variable {X : Cx} {CX : CXT} {k : Nat} {f C : Addr} {fd : FuncData} {ps ks : List Str} {sp : Sp} {E : L2.St → XK} {m : Str} {apos pos : Pos} {o e fe : Expr} {es : List Expr} {t : TA} {ta tf : TE}
theorem pe_methA0 {pl : Sem Bool} (he : PE X o ta) (c : Cls X.K C) (hm : Meth X.K C m f) (F : FnOk X.prog X.w X.K X.mg X.base CX k f fd ps sp) (hr : Room k X.A) (hb : Binds X.K fd ps []) (hx : ∀ σ, PassesAt CX X σ (E σ))
    (ht : eval (.Call (.Attribute o m apos) [] [] pos) X.env = (eval o X.env >>= fun z => standAt apos.atName >>= fun _ => holding [z] (getMethod z m pl) >>= fun zz => callWith pos zz.1 zz.2 (backTo pos (starEach [] X.env)) (backToKw pos (keywordEach [] X.env))) := by rfl) :
    PE X (.Call (.Attribute o m apos) [] [] pos) (tMethA C m sp E ta tNil) := by
  refine ⟨fun pins s σ H Q I h => ?_⟩
  refine PySem.W.methodCall_KW (pl := pl) (thn (he.run pins s σ H _ I h) fun u s1 ⟨x, H1, I1, rx, a, dx, fs, ex, ea, l, q⟩ => ?_) ht
  subst ex
  obtain rfl : u = Value.ref a := rx
  refine getmeth_ok I1 ea c hm l (PySem.W.callWith_K0 (first := [.ref a]) I1.kIn hm.kp ?_)
  exact run_fnSD (us := [.ref a]) (vs := [.ref a]) (ds := []) (dvs := []) F hr hb .nil (hx σ) I1 (.cons rfl .nil) q
def tCallA (C : Addr) (sp : Sp) (E : L2.St → XK) (tf : TE) (t : TA) : TE := fun σ H Q => tf σ H fun y H1 => ∃ a, y = V.ref a ∧ t σ H1 fun vs H2 => ∃ dx fs, H2 a = some (.ins C dx fs) ∧ sp (V.ref a :: vs) H2 Q (E σ)
theorem pe_callA (hf : PE X fe tf) (c : StX.CallO X.K C f) (F : FnOk X.prog X.w X.K X.mg X.base CX k f fd ps sp) (hr : Room k X.A) (hb : Binds X.K fd ps []) (hx : ∀ σ, PassesAt CX X σ (E σ)) (ha : PA X (e :: es) t)
    (ht : eval (.Call fe (e :: es) [] pos) X.env = (do callWith pos (← eval fe X.env) [] (backTo pos (starEach (e :: es) X.env)) (backToKw pos (keywordEach [] X.env))) := by rfl)
    (he : starEach (e :: es) X.env = (false, eval e X.env) :: starEach es X.env := by rfl) (hpl : (backTo pos (starEach es X.env)).any (·.1) = false := by rfl) : PE X (.Call fe (e :: es) [] pos) (tCallA C sp E tf t) := by
  refine ⟨fun pins s σ H Q I h => ?_⟩
  refine Call_ (thn (hf.run pins s σ H _ I h) fun u s1 ⟨y, H1, I1, ry, a, ey, q⟩ => ?_) ht
  subst ey
  obtain rfl : u = Value.ref a := ry
  refine StX.callO_with (thn (ha.run pos pins s1 σ H1 _ I1 q) fun us s2 ⟨vs, H2, I2, r, dx, fs, hi, q2⟩ => ?_) he hpl
  obtain ⟨mA, O, _⟩ := ins_get I2.hok hi
  obtain ⟨od, J, _⟩ := O.look
  refine ⟨⟨C, _, _, J, rfl⟩, ?_⟩
  have hl := F.len _ _ _ _ q2
  have r2 : Vals (V.ref a :: vs) (Value.ref a :: us) := .cons rfl r
  refine wpAny_call (PySem.W.kco_code I2.kIn J rfl c.at_ c.fn c.fi (codeAny_mono (F.run X.A X.stack s2 H2 ⟨Value.ref a :: us, []⟩ (Value.ref a :: us) (V.ref a :: vs) Q (E σ) hr I2.env0 (by
    have := hb s2 (Value.ref a :: us) I2.kIn (by rw [List.append_nil, ← r2.length]; exact hl)
    simpa using this) r2 q2) fun r s' hq => ?_))
  cases r with
  | error e => exact hx σ pins _ _ e s' I2 hq
  | ok fl =>
    cases fl with
    | ret u => exact I2.after hq
    | next => exact False.elim hq
    | brk => exact False.elim hq
    | cont => exact False.elim hq
end
end KV
set_option Elab.async false
set_option linter.all false
set_option maxRecDepth 100000
set_option maxHeartbeats 4000000
/-! ==, != between data and own instances. -/
namespace KV
open PySem PySem.Spec PyProof.Rows L2 PySem.SeqAt PySem.MeetsSeq
open AutoSeq1 (wpAny_loadPart')
section
/-- x is an instance of an own class, under none of the built-in sequences -/
structure Foreign (K : PySem.W.Frag) (C : Addr) (T : String) : Prop where
  sub : PySem.W.subIn K (.ref C) (.type T) = some false
theorem str_eq_inst (b : Str) (u : Tok) (x : Addr) (ox : Obj) (hp : ox.data = .plain) :
    Meets (Builtin.«str.__eq__» ⟨[.str b u, .ref x], []⟩) (fun _ R s => s.heap.get? x = some ox ∧ R (.ok (.ret .notImplemented)) s) :=
  .of_wp fun prog w A R s h => by
    obtain ⟨hp', g, d, tk, os⟩ := s; obtain ⟨hl, h⟩ := h
    obtain ⟨c, dd, dt, sl⟩ := ox
    simp only at hp
    subst hp
    wp_walk using wpAny_loadPart' hl, wpAny_load hl; exact ⟨_, rfl, h⟩
theorem str_ne_inst (b : Str) (u : Tok) (x : Addr) (ox : Obj) (hp : ox.data = .plain) :
    Meets (Builtin.«str.__ne__» ⟨[.str b u, .ref x], []⟩) (fun _ R s => s.heap.get? x = some ox ∧ R (.ok (.ret .notImplemented)) s) :=
  .of_wp fun prog w A R s h => by
    obtain ⟨hp', g, d, tk, os⟩ := s; obtain ⟨hl, h⟩ := h
    obtain ⟨c, dd, dt, sl⟩ := ox
    simp only at hp
    subst hp
    wp_walk using wpAny_loadPart' hl, wpAny_load hl; exact ⟨_, rfl, h⟩
theorem int_eq_inst (b : Int) (u : Tok) (x : Addr) (ox : Obj) (hp : ox.data = .plain) :
    Meets (Builtin.«int.__eq__» ⟨[.int b u, .ref x], []⟩) (fun _ R s => s.heap.get? x = some ox ∧ R (.ok (.ret .notImplemented)) s) :=
  .of_wp fun prog w A R s h => by
    obtain ⟨hp', g, d, tk, os⟩ := s; obtain ⟨hl, h⟩ := h
    obtain ⟨c, dd, dt, sl⟩ := ox
    simp only at hp
    subst hp
    wp_walk using wpAny_loadPart' hl, wpAny_load hl; exact ⟨_, rfl, h⟩
theorem int_ne_inst (b : Int) (u : Tok) (x : Addr) (ox : Obj) (hp : ox.data = .plain) :
    Meets (Builtin.«int.__ne__» ⟨[.int b u, .ref x], []⟩) (fun _ R s => s.heap.get? x = some ox ∧ R (.ok (.ret .notImplemented)) s) :=
  .of_wp fun prog w A R s h => by
    obtain ⟨hp', g, d, tk, os⟩ := s; obtain ⟨hl, h⟩ := h
    obtain ⟨c, dd, dt, sl⟩ := ox
    simp only at hp
    subst hp
    wp_walk using wpAny_loadPart' hl, wpAny_load hl; exact ⟨_, rfl, h⟩
theorem list_eq_inst (l x : Addr) (items : Array Value) (n : Nat) (dd : Option Addr) (sl : Array (Option Value)) (K : PySem.W.Frag) (C : Addr) (ox : Obj) (od : Option Obj) (hs : PySem.W.subIn K (.ref C) (.type "list") = some false) :
    Meets (Builtin.«list.__eq__» ⟨[.ref l, .ref x], []⟩) (fun _ R s => s.heap.get? l = some { cls := .type "list", dict := dd, data := .seq items n, slots := sl } ∧ K.In s.heap ∧ PySem.W.InstAt s.heap x ox C od ∧ R (.ok (.ret .notImplemented)) s) :=
  .of_wp fun prog w A R s h => by
    obtain ⟨hp, g, d, tk, os⟩ := s; obtain ⟨hl, X, I, h⟩ := h
    have ty : ∀ {A : Around} {E : Value → Shared → Prop} {Q : Value → Shared → Prop}, Q (.ref C) ⟨hp, g, d, tk, os⟩ → wpAny (model prog w) A (typeOf (.ref x)) Q E ⟨hp, g, d, tk, os⟩ := fun h => I.type.here h
    have su : ∀ {A : Around} {E : Value → Shared → Prop} {Q : Bool → Shared → Prop}, Q false ⟨hp, g, d, tk, os⟩ → wpAny (model prog w) A (isSubtype (.ref C) (.type "list")) Q E ⟨hp, g, d, tk, os⟩ := fun h => (PySem.W.looks_subIn X hs).here h
    wp_walk using wpAny_loadPart' hl, ty, su
    exact ⟨_, rfl, h⟩
theorem list_ne_inst (l x : Addr) (items : Array Value) (n : Nat) (dd : Option Addr) (sl : Array (Option Value)) (K : PySem.W.Frag) (C : Addr) (ox : Obj) (od : Option Obj) (hs : PySem.W.subIn K (.ref C) (.type "list") = some false) :
    Meets (Builtin.«list.__ne__» ⟨[.ref l, .ref x], []⟩) (fun _ R s => s.heap.get? l = some { cls := .type "list", dict := dd, data := .seq items n, slots := sl } ∧ K.In s.heap ∧ PySem.W.InstAt s.heap x ox C od ∧ R (.ok (.ret .notImplemented)) s) :=
  .of_wp fun prog w A R s h => by
    obtain ⟨hp, g, d, tk, os⟩ := s; obtain ⟨hl, X, I, h⟩ := h
    have ty : ∀ {A : Around} {E : Value → Shared → Prop} {Q : Value → Shared → Prop}, Q (.ref C) ⟨hp, g, d, tk, os⟩ → wpAny (model prog w) A (typeOf (.ref x)) Q E ⟨hp, g, d, tk, os⟩ := fun h => I.type.here h
    have su : ∀ {A : Around} {E : Value → Shared → Prop} {Q : Bool → Shared → Prop}, Q false ⟨hp, g, d, tk, os⟩ → wpAny (model prog w) A (isSubtype (.ref C) (.type "list")) Q E ⟨hp, g, d, tk, os⟩ := fun h => (PySem.W.looks_subIn X hs).here h
    wp_walk using wpAny_loadPart' hl, ty, su
    exact ⟨_, rfl, h⟩
theorem tuple_eq_inst (l x : Addr) (items : Array Value) (n : Nat) (dd : Option Addr) (sl : Array (Option Value)) (K : PySem.W.Frag) (C : Addr) (ox : Obj) (od : Option Obj) (hs : PySem.W.subIn K (.ref C) (.type "tuple") = some false) :
    Meets (Builtin.«tuple.__eq__» ⟨[.ref l, .ref x], []⟩) (fun _ R s => s.heap.get? l = some { cls := .type "tuple", dict := dd, data := .seq items n, slots := sl } ∧ K.In s.heap ∧ PySem.W.InstAt s.heap x ox C od ∧ R (.ok (.ret .notImplemented)) s) :=
  .of_wp fun prog w A R s h => by
    obtain ⟨hp, g, d, tk, os⟩ := s; obtain ⟨hl, X, I, h⟩ := h
    have ty : ∀ {A : Around} {E : Value → Shared → Prop} {Q : Value → Shared → Prop}, Q (.ref C) ⟨hp, g, d, tk, os⟩ → wpAny (model prog w) A (typeOf (.ref x)) Q E ⟨hp, g, d, tk, os⟩ := fun h => I.type.here h
    have su : ∀ {A : Around} {E : Value → Shared → Prop} {Q : Bool → Shared → Prop}, Q false ⟨hp, g, d, tk, os⟩ → wpAny (model prog w) A (isSubtype (.ref C) (.type "tuple")) Q E ⟨hp, g, d, tk, os⟩ := fun h => (PySem.W.looks_subIn X hs).here h
    wp_walk using wpAny_loadPart' hl, ty, su
    exact ⟨_, rfl, h⟩
theorem tuple_ne_inst (l x : Addr) (items : Array Value) (n : Nat) (dd : Option Addr) (sl : Array (Option Value)) (K : PySem.W.Frag) (C : Addr) (ox : Obj) (od : Option Obj) (hs : PySem.W.subIn K (.ref C) (.type "tuple") = some false) :
    Meets (Builtin.«tuple.__ne__» ⟨[.ref l, .ref x], []⟩) (fun _ R s => s.heap.get? l = some { cls := .type "tuple", dict := dd, data := .seq items n, slots := sl } ∧ K.In s.heap ∧ PySem.W.InstAt s.heap x ox C od ∧ R (.ok (.ret .notImplemented)) s) :=
  .of_wp fun prog w A R s h => by
    obtain ⟨hp, g, d, tk, os⟩ := s; obtain ⟨hl, X, I, h⟩ := h
    have ty : ∀ {A : Around} {E : Value → Shared → Prop} {Q : Value → Shared → Prop}, Q (.ref C) ⟨hp, g, d, tk, os⟩ → wpAny (model prog w) A (typeOf (.ref x)) Q E ⟨hp, g, d, tk, os⟩ := fun h => I.type.here h
    have su : ∀ {A : Around} {E : Value → Shared → Prop} {Q : Bool → Shared → Prop}, Q false ⟨hp, g, d, tk, os⟩ → wpAny (model prog w) A (isSubtype (.ref C) (.type "tuple")) Q E ⟨hp, g, d, tk, os⟩ := fun h => (PySem.W.looks_subIn X hs).here h
    wp_walk using wpAny_loadPart' hl, ty, su
    exact ⟨_, rfl, h⟩
/-- the left value says nothing of == and != -/
structure Decl (prog : Program) (w : World) (A : Around) (E : Value → Shared → Prop) (s : Shared) (u tu : Value) (x : Addr) : Prop where
  ty : PySem.W.Looks (model prog w) s.heap (typeOf u) tu
  eq : ∀ Q : Option Value → Shared → Prop, Q none s → wpAny (model prog w) A (tryCompare u "__eq__" (.ref x)) Q E s
  ne : ∀ Q : Option Value → Shared → Prop, Q none s → wpAny (model prog w) A (tryCompare u "__ne__" (.ref x)) Q E s
  one : ∀ op b, oneThing? op u b = none
variable {prog : Program} {w : World} {A : Around} {E : Value → Shared → Prop} {s : Shared} {K : PySem.W.Frag} {x C f : Addr} {ox : Obj} {od : Option Obj} {b tb : Value}
theorem entry_neV (hu : A.units < cLine) (X : K.In s.heap) (I : PySem.W.InstAt s.heap x ox C od) (hs : PySem.W.findIn K (.ref C) "__eq__" = some (some (.ref f))) (hf : PySem.W.isFn K (.ref f) = true) {Q : Fin → Shared → Prop}
    (h : wpAny (model prog w) A (call (.ref f) [.ref x, b]) (fun v s' => ∃ r, v = .bool r ∧ Q (.done (.ret (.bool (!r)))) s') E s) : wpAny (model prog w) A (Builtin.«object.__ne__» ⟨[.ref x, b], []⟩) Q E s := by
  unfold Builtin.«object.__ne__»
  repeat (first
    | with_reducible refine wpAny_cRoomFor hu ?_
    | (refine wpAny_bind (m := callSpecialIfBound? (.ref x) (Str.ofString "__eq__") [b]) (PySem.W.ifBound_K X I hs hf (wpAny_mono h (fun r s' hr => by
          obtain ⟨b, rfl, hq⟩ := hr
          repeat (first | exact hq | exact wpAny_pure hq | exact wpAny_truthy_bool hq | (refine wpAny_bind (m := truthy (.bool _)) (wpAny_truthy_bool ?_)) | wp_step)) fun _ _ e => e)))
    | wp_step)
theorem call_neV {Q : Value → Shared → Prop} (hu : A.in1.units < cLine) (X : K.In s.heap) (I : PySem.W.InstAt s.heap x ox C od) (hm : PySem.W.mroIn K C (.type "object") = some true)
    (hs : PySem.W.findIn K (.ref C) "__eq__" = some (some (.ref f))) (hf : PySem.W.isFn K (.ref f) = true) (h : wpAny (model prog w) A.in1 (call (.ref f) [.ref x, b]) (fun v s' => ∃ r, v = .bool r ∧ Q (.bool (!r)) s') E s) :
    wpAny (model prog w) A (call (.builtin "object.__ne__") [.ref x, b]) Q E s :=
  wpAny_call (codeAny_call_builtin F.cmp_object.ne.plain F.cmpEntry_ne (PySem.W.check_slot F.cmpKind_ne F.cmpSplit_ne (I.type.andThen (PySem.W.looks_mroIn X hm)) (F.cmpArgs_ne _ _) (entry_neV hu X I hs hf h)))
theorem try_eqV {Q : Value → Shared → Prop} (X : K.In s.heap) (I : PySem.W.InstAt s.heap x ox C od) (hs : PySem.W.findIn K (.ref C) "__eq__" = some (some (.ref f))) (hf : PySem.W.isFn K (.ref f) = true)
    (h : wpAny (model prog w) A (call (.ref f) [.ref x, b]) (fun v s' => ∃ r, v = .bool r ∧ Q (.bool r) s') E s) : wpAny (model prog w) A (tryCompare (.ref x) "__eq__" b) (fun r s' => ∃ c, r = some (.bool c) ∧ Q (.bool c) s') E s := by
  unfold tryCompare
  refine wpAny_bind (PySem.W.ifBound_K X I hs hf (wpAny_mono h (fun v s' hv => ?_) fun _ _ e => e))
  obtain ⟨r, rfl, hq⟩ := hv
  exact wpAny_pure ⟨r, rfl, hq⟩
theorem try_neV {Q : Value → Shared → Prop} (hu1 : A.in1.units < cLine) (X : K.In s.heap) (I : PySem.W.InstAt s.heap x ox C od) (hm : PySem.W.mroIn K C (.type "object") = some true) (hn : PySem.W.findIn K (.ref C) "__ne__" = some (some (.builtin "object.__ne__")))
    (hs : PySem.W.findIn K (.ref C) "__eq__" = some (some (.ref f))) (hf : PySem.W.isFn K (.ref f) = true)
    (h : wpAny (model prog w) A.in1 (call (.ref f) [.ref x, b]) (fun v s' => ∃ r, v = .bool r ∧ Q (.bool (!r)) s') E s) : wpAny (model prog w) A (tryCompare (.ref x) "__ne__" b) (fun r s' => ∃ c, r = some (.bool c) ∧ Q (.bool c) s') E s := by
  unfold tryCompare
  refine wpAny_bind (ifBound_objNe X I hn (call_neV hu1 X I hm hs hf (wpAny_mono h (fun v s' hv => ?_) fun _ _ e => e)))
  obtain ⟨r, rfl, hq⟩ := hv
  exact ⟨r, rfl, wpAny_pure ⟨!r, rfl, hq⟩⟩
/-- an own instance on the left, any value on the right -/
theorem rc_eqL {Q : Value → Shared → Prop} (hu : A.units < cLine) (X : K.In s.heap) (I : PySem.W.InstAt s.heap x ox C od) (hb : PySem.W.Looks (model prog w) s.heap (typeOf b) tb) (hn : tb = .ref C ∨ PySem.W.subIn K tb (.ref C) = some false)
    (h : wpAny (model prog w) A (tryCompare (.ref x) "__eq__" b) (fun r s' => ∃ c, r = some (.bool c) ∧ Q (.bool c) s') E s) : wpAny (model prog w) A (richCompare .Eq (.ref x) b) Q E s := by
  unfold richCompare
  simp only [oneThing_ref]
  refine wpAny_holding (wpAny_bind (wpAny_cRoomFor hu ?_))
  refine wpAny_bind (I.type.here (wpAny_bind (hb.here ?_)))
  split
  · rename_i q
    have e : PySem.W.subIn K tb (.ref C) = some false := by
      rcases hn with e | e
      · rw [e] at q; simp at q
      · exact e
    refine wpAny_bind ((PySem.W.looks_subIn X e).here ?_)
    simp only [Bool.false_eq_true, if_false]
    refine wpAny_bind (wpAny_mono h (fun r s' z => ?_) fun _ _ e => e)
    obtain ⟨v, rfl, hq⟩ := z
    exact wpAny_pure hq
  · refine wpAny_bind (wpAny_pure ?_)
    simp only [Bool.false_eq_true, if_false]
    refine wpAny_bind (wpAny_mono h (fun r s' z => ?_) fun _ _ e => e)
    obtain ⟨v, rfl, hq⟩ := z
    exact wpAny_pure hq
theorem rc_neL {Q : Value → Shared → Prop} (hu : A.units < cLine) (X : K.In s.heap) (I : PySem.W.InstAt s.heap x ox C od) (hb : PySem.W.Looks (model prog w) s.heap (typeOf b) tb) (hn : tb = .ref C ∨ PySem.W.subIn K tb (.ref C) = some false)
    (h : wpAny (model prog w) A (tryCompare (.ref x) "__ne__" b) (fun r s' => ∃ c, r = some (.bool c) ∧ Q (.bool c) s') E s) : wpAny (model prog w) A (richCompare .NotEq (.ref x) b) Q E s := by
  unfold richCompare
  simp only [oneThing_ref]
  refine wpAny_holding (wpAny_bind (wpAny_cRoomFor hu ?_))
  refine wpAny_bind (I.type.here (wpAny_bind (hb.here ?_)))
  split
  · rename_i q
    have e : PySem.W.subIn K tb (.ref C) = some false := by
      rcases hn with e | e
      · rw [e] at q; simp at q
      · exact e
    refine wpAny_bind ((PySem.W.looks_subIn X e).here ?_)
    simp only [Bool.false_eq_true, if_false]
    refine wpAny_bind (wpAny_mono h (fun r s' z => ?_) fun _ _ e => e)
    obtain ⟨v, rfl, hq⟩ := z
    exact wpAny_pure hq
  · refine wpAny_bind (wpAny_pure ?_)
    simp only [Bool.false_eq_true, if_false]
    refine wpAny_bind (wpAny_mono h (fun r s' z => ?_) fun _ _ e => e)
    obtain ⟨v, rfl, hq⟩ := z
    exact wpAny_pure hq
/-- .. and on the right of a value that says nothing -/
theorem rc_eqR {Q : Value → Shared → Prop} {u tu : Value} (hu : A.units < cLine) (X : K.In s.heap) (I : PySem.W.InstAt s.heap x ox C od) (D : Decl prog w A E s u tu x) (hn : PySem.W.subIn K (.ref C) tu = some false)
    (h : wpAny (model prog w) A (tryCompare (.ref x) "__eq__" u) (fun r s' => ∃ c, r = some (.bool c) ∧ Q (.bool c) s') E s) : wpAny (model prog w) A (richCompare .Eq u (.ref x)) Q E s := by
  unfold richCompare
  simp only [D.one]
  refine wpAny_holding (wpAny_bind (wpAny_cRoomFor hu ?_))
  refine wpAny_bind (D.ty.here (wpAny_bind (I.type.here ?_)))
  split
  · refine wpAny_bind ((PySem.W.looks_subIn X hn).here ?_)
    simp only [Bool.false_eq_true, if_false, Bool.not_false, if_true]
    refine wpAny_bind (m := tryCompare u _ (.ref x)) (D.eq _ ?_)
    refine wpAny_bind (m := tryCompare (.ref x) _ u) (wpAny_mono h (fun r s' z => ?_) fun _ _ e => e)
    obtain ⟨v, rfl, hq⟩ := z
    exact wpAny_pure hq
  · refine wpAny_bind (wpAny_pure ?_)
    simp only [Bool.false_eq_true, if_false, Bool.not_false, if_true]
    refine wpAny_bind (m := tryCompare u _ (.ref x)) (D.eq _ ?_)
    refine wpAny_bind (m := tryCompare (.ref x) _ u) (wpAny_mono h (fun r s' z => ?_) fun _ _ e => e)
    obtain ⟨v, rfl, hq⟩ := z
    exact wpAny_pure hq
theorem rc_neR {Q : Value → Shared → Prop} {u tu : Value} (hu : A.units < cLine) (X : K.In s.heap) (I : PySem.W.InstAt s.heap x ox C od) (D : Decl prog w A E s u tu x) (hn : PySem.W.subIn K (.ref C) tu = some false)
    (h : wpAny (model prog w) A (tryCompare (.ref x) "__ne__" u) (fun r s' => ∃ c, r = some (.bool c) ∧ Q (.bool c) s') E s) : wpAny (model prog w) A (richCompare .NotEq u (.ref x)) Q E s := by
  unfold richCompare
  simp only [D.one]
  refine wpAny_holding (wpAny_bind (wpAny_cRoomFor hu ?_))
  refine wpAny_bind (D.ty.here (wpAny_bind (I.type.here ?_)))
  split
  · refine wpAny_bind ((PySem.W.looks_subIn X hn).here ?_)
    simp only [Bool.false_eq_true, if_false, Bool.not_false, if_true]
    refine wpAny_bind (m := tryCompare u _ (.ref x)) (D.ne _ ?_)
    refine wpAny_bind (m := tryCompare (.ref x) _ u) (wpAny_mono h (fun r s' z => ?_) fun _ _ e => e)
    obtain ⟨v, rfl, hq⟩ := z
    exact wpAny_pure hq
  · refine wpAny_bind (wpAny_pure ?_)
    simp only [Bool.false_eq_true, if_false, Bool.not_false, if_true]
    refine wpAny_bind (m := tryCompare u _ (.ref x)) (D.ne _ ?_)
    refine wpAny_bind (m := tryCompare (.ref x) _ u) (wpAny_mono h (fun r s' z => ?_) fun _ _ e => e)
    obtain ⟨v, rfl, hq⟩ := z
    exact wpAny_pure hq
end
end KV
set_option Elab.async false
set_option linter.all false
set_option maxRecDepth 100000
set_option maxHeartbeats 0
/-! stores.py: Store(..) -/
namespace LW
open PySem PySem.Spec PyProof.Rows L2 KV
theorem dc_list {K : PySem.W.Frag} {a : Addr} {xs : List V} {g : TG} {tt : TT} {tk tv : TE} {vs : List Nat} {σ : L2.St} {H1 : Hp} {D : Addr} {Qd : Hp → Prop} (Pv : Nat → Hp → Prop) (h0 : Pv 0 (upd H1 D (.dK []))) (hl : ∀ i H, i ≤ xs.length → Pv i H → SqL K H a xs)
    (hs : ∀ i x H, xs[i]? = some x → Pv i H → g x (wipe σ vs) H fun σ2 H2 => wipe σ2 vs = wipe σ vs ∧ tt σ2 H2 fun b H3 =>
      if b = true then tk σ2 H3 fun y H4 => tv σ2 H4 fun z H5 => ∃ kvs k, y = kV k ∧ H5 D = some (.dK kvs) ∧ kvs.length < sizeLine ∧ Pv (i + 1) (upd H5 D (.dK (putK kvs k z))) else Pv (i + 1) H3) (hd : ∀ H, Pv xs.length H → Qd H) :
    ∃ W : Nat → Nat → Hp → Prop, (∃ m, W 0 m (upd H1 D (.dK []))) ∧ ∀ i m H, W i m H →
      ((Itl K a).stop i H ∧ Qd H) ∨ ((Itl K a).go i H ∧ ∃ Nx : Hp → Prop, (∀ H', Nx H' → ∃ m', m' < m ∧ W (i + 1) m' H') ∧ ∀ x H', (Itl K a).yld i H x H' → g x (wipe σ vs) H' fun σ2 H2 => wipe σ2 vs = wipe σ vs ∧ tt σ2 H2 fun b H3 =>
        if b = true then tk σ2 H3 fun y H4 => tv σ2 H4 fun z H5 => ∃ kvs k, y = kV k ∧ H5 D = some (.dK kvs) ∧ kvs.length < sizeLine ∧ Nx (upd H5 D (.dK (putK kvs k z))) else Nx H3) := by
  refine ⟨fun i m H => m = xs.length - i ∧ i ≤ xs.length ∧ Pv i H, ⟨xs.length, by simp, Nat.zero_le _, h0⟩, ?_⟩
  rintro i m H ⟨rfl, hi, p⟩
  have q := hl i H hi p
  by_cases hlt : i < xs.length
  · refine .inr ⟨⟨xs, xs[i], q, by simp [hlt]⟩, Pv (i + 1), fun H' p' => ⟨xs.length - (i + 1), by omega, rfl, hlt, p'⟩, fun x H' y => ?_⟩
    obtain ⟨e, y⟩ := y
    subst e
    exact hs i x _ (y xs q) p
  · have e : i = xs.length := by omega
    subst e
    exact .inl ⟨⟨xs, q, Nat.le_refl _⟩, hd H p⟩
/-- what the text says of the class -/
structure StoreT (K : PySem.W.Frag) (mg : Str → Option Value) : Prop where
  cl : L2.Cls K (He.ga K "Store")
  n1 : NoAttr K (He.ga K "Store") "_book"
  n2 : NoAttr K (He.ga K "Store") "_rows"
  n3 : NoAttr K (He.ga K "Store") "_steps"
  mkr : Mk K (He.ga K "Store") (He.ma K (He.ga K "Store") "__init__")
  g : mg "Store" = some (.ref (He.ga K "Store"))
def spStoreI (K : PySem.W.Frag) : Sp := fun vs H Q _ => ∃ (x b dx : Addr) (ts : List Tab) (rs : List RB) (n mc mt N M L : Nat), vs = [.ref x, .ref b] ∧ H x = some (.ins (He.ga K "Store") dx []) ∧ BookOf K H b ts rs ∧ x ≠ b ∧ BkB n mc mt N M L ts rs ∧
  ∀ H' fs, H' x = some (.ins (He.ga K "Store") dx fs) → Off (fun a => a = x) H H' → Q .non H'
section
variable {P : Program} {w : World} {K : PySem.W.Frag} {mg : Str → Option Value} {base : Heap}
theorem scStoreI : FnScope ["self", "book", "name", "_"] ["self", "book"] (defScope pStore_init) := ⟨rfl, rfl, rfl, by decide +kernel, rfl, by decide +kernel, by decide +kernel⟩
theorem ok_storeI {f pT gT : Addr} {fd dgT : FuncData} (F : FunD K "__init__" "Store.__init__" (defArgs pStore_init) (defBody pStore_init) (defScope pStore_init) [] [] f fd) (B : BookT K mg) (S : StoreT K mg)
    (pt : PropOf K (He.ga K "Book") "tables" pT gT) (GT : FnOk P w K mg base CX0 7 gT dgT ["self"] (spGetT K)) (bT : Binds K dgT ["self"] []) : FnOk P w K mg base CX0 9 f fd ["self", "book"] (spStoreI K) := by
  refine F.ok scStoreI (fun vs H Q E h => ?_) (fun cdv A outer s H vs Q E hr h => ?_)
  · obtain ⟨x, b, dx, ts, rs, n, mc, mt, N, M, L, rfl, _⟩ := h
    rfl
  obtain ⟨x, b, dx, ts, rs, n, mc, mt, N, M, L, rfl, hx, hb, xb, bb, q⟩ := h
  refine ⟨_, PSs.nox (pss_cons (ps_fld (pv 0) (pv 1) rfl)
    (pss_cons (ps_fld (pv 0) (pe_dc (own := [("name", 2), ("_", 3)]) (g := gTup K 2 (gCons (gName 2) (gCons (gName 3) gNil))) (tt := tYes) (tk := tVar 2) (tv := tLst tNil) rfl scStoreI.nd (pi_list (pe_prop (pv 1) B.cl pt GT (hr.mono (by decide)) bT .nil pass0 rfl))
        (blkOk_by (own := [("name", 2), ("_", 3)]) (N := ["self", "book", "name", "_"]) (sc := defScope pStore_init) (by decide +kernel))
        (fun _ _ _ _ _ => pg_tup rfl (pgs_cons (pg_name (i := 2) scStoreI.nd rfl (Or.inl rfl)) (pgs_cons (pg_name (i := 3) scStoreI.nd rfl (Or.inl rfl)) pgs_nil))) (fun _ _ _ _ _ => pts_nil)
        (fun _ _ _ _ _ => pv 2) (fun _ _ _ _ _ => pe_lst pa_nil)) rfl)
    (pss_one (ps_fld (pv 0) (pe_lst pa_nil) rfl)))), ?_⟩
  have no : ¬ False := id
  have s0 : 0 ≤ sizeLine := by decide
  refine ⟨_, rfl, _, rfl, x, _, dx, [], rfl, hx, S.cl, S.n1, (by decide), ?_⟩
  have k1 : Off (fun a => a = x) H (upd H x (.ins (He.ga K "Store") dx (putF "_book" (.ref b) []))) := Off.upd rfl
  have e1 := upd_same (H := H) (a := x) (o := .ins (He.ga K "Store") dx (putF "_book" (.ref b) []))
  have hb1 : BookOf K (upd H x (.ins (He.ga K "Store") dx (putF "_book" (.ref b) []))) b ts rs := by
    obtain ⟨db, v1, v2, h1, h2, h3⟩ := hb
    exact ⟨db, v1, v2, by rw [upd_ne (Ne.symm xb)]; exact h1, dp_in k1 (NoSq.ins hx) h2, dp_in k1 (NoSq.ins hx) h3⟩
  generalize upd H x (.ins (He.ga K "Store") dx (putF "_book" (.ref b) [])) = H1 at k1 e1 hb1 ⊢
  obtain ⟨db, v1, v2, h1, h2, h3⟩ := id hb1
  refine ⟨_, rfl, b, db, _, rfl, h1, b, ts, rs, n, mc, mt, N, M, L, rfl, hb1, bb, fun vT FT H2 oT fT k2 => ?_⟩
  obtain ⟨aT, xT, rfl, sT, dT⟩ := dp_tabs (K := K) oT.dp
  have lT : xT.length = ts.length := by rw [dpAll_len dT, List.length_map]
  have lt := bb.tb.most
  have lm := bb.hmt
  refine ⟨aT, rfl, ⟨_, sT⟩, fun D hD => dc_list (K := K) (a := aT) (xs := xT) (fun i G => (∃ kvs, G D = some (.dK kvs) ∧ kvs.length ≤ i) ∧ Off (fun _ => False) H2 G) ⟨⟨[], upd_same, Nat.le_refl _⟩, Off.new hD⟩ (fun i G _ g => sqL_off g.2 sT) (fun i v G hx' g => ?_) fun G g => ?_⟩
  · obtain ⟨⟨kvs, eD, lk⟩, k3⟩ := g
    have hi : i < ts.length := by
      have := (List.getElem?_eq_some_iff.mp hx').1
      omega
    have ht : ts[i]? = some ts[i] := List.getElem?_eq_getElem hi
    obtain ⟨v', ev, dv⟩ := dpAll_get (i := i) (d := tabD ts[i]) (dpAll_off k3 dT) (by rw [List.getElem?_map, ht]; rfl)
    rw [hx'] at ev
    cases ev
    obtain ⟨ta, wc, rfl, st, dc⟩ := dp_tab dv
    refine ⟨ta, [.str ts[i].1, wc], rfl, st, rfl, .str ts[i].1, [wc], rfl, wc, [], rfl, rfl, rfl, ?_⟩
    refine iteT (B := True) ?_
    refine iteT ?_
    refine ⟨_, rfl, s0, fun m nm => ?_⟩
    have k4 : Off (fun _ => False) G (upd G m (.lst [])) := Off.new nm
    refine ⟨kvs, .inr ts[i].1, rfl, k4 _ _ eD no, Nat.lt_of_le_of_lt (m := 1000) (by omega) (by decide), ⟨_, upd_same, ?_⟩, fun a o ea _ => ?_⟩
    · have := length_putK kvs (.inr ts[i].1) (V.ref m)
      omega
    · rw [upd_ne fun z => by rw [z, hD] at ea; cases ea]
      exact k4 _ _ (k3 _ _ ea no) no
  · obtain ⟨⟨kvs, eD, lk⟩, k3⟩ := g
    have eG := k3 _ _ (k2 _ _ e1 no) no
    refine ⟨_, rfl, x, _, dx, _, rfl, eG, S.cl, S.n2, (by show 1 < 1000; decide), ?_⟩
    have k4 : Off (fun a => a = x) G (upd G x (.ins (He.ga K "Store") dx (putF "_rows" (.ref D) (putF "_book" (.ref b) [])))) := Off.upd rfl
    refine ⟨s0, fun m nm => ?_⟩
    have e4 := upd_same (H := G) (a := x) (o := .ins (He.ga K "Store") dx (putF "_rows" (.ref D) (putF "_book" (.ref b) [])))
    generalize upd G x (.ins (He.ga K "Store") dx (putF "_rows" (.ref D) (putF "_book" (.ref b) []))) = G4 at k4 e4 nm ⊢
    have k5 : Off (fun _ => False) G4 (upd G4 m (.lst [])) := Off.new nm
    refine ⟨_, rfl, x, _, dx, _, rfl, k5 _ _ e4 no, S.cl, S.n3, (by simp [putF]; split <;> simp), ?_⟩
    refine q _ _ upd_same ?_
    exact ((k1.trans (Off.in (k2.trans k3))).trans k4).trans ((Off.in k5).trans (Off.upd rfl))
end
end LW
set_option Elab.async false
set_option linter.all false
set_option maxRecDepth 100000
set_option maxHeartbeats 4000000
/-! ==, != of own instances with an own __eq__ and other things, as rules. -/
namespace KV
open PySem PySem.Spec PyProof.Rows L2 PySem.SeqAt PySem.MeetsSeq
/-- what == and != ask of an own class -/
structure OwnE (K : PySem.W.Frag) (C f : Addr) : Prop where
  eq : PySem.W.findIn K (.ref C) "__eq__" = some (some (.ref f))
  fn : PySem.W.isFn K (.ref f) = true
  ne : PySem.W.findIn K (.ref C) "__ne__" = some (some (.builtin "object.__ne__"))
  mro : PySem.W.mroIn K C (.type "object") = some true
/-- .. of an error class without them -/
structure ErrE (K : PySem.W.Frag) (C : Addr) : Prop where
  eq : PySem.W.findIn K (.ref C) "__eq__" = some (some (.builtin "object.__eq__"))
  ne : PySem.W.findIn K (.ref C) "__ne__" = some (some (.builtin "object.__ne__"))
  mro : PySem.W.mroIn K C (.type "object") = some true
/-- a thing of another kind, and its type -/
inductive Oth (H : Hp) (CE : Addr) : V → Value → Prop where
  | non : Oth H CE .non (.type "NoneType")
  | int (i : Int) : Oth H CE (.int i) (.type "int")
  | str (x : Str) : Oth H CE (.str x) (.type "str")
  | lst {a : Addr} {xs : List V} (h : H a = some (.lst xs)) : Oth H CE (.ref a) (.type "list")
  | tup {a : Addr} {xs : List V} (h : H a = some (.tup xs)) : Oth H CE (.ref a) (.type "tuple")
  | err {a dx : Addr} {fs : List (Str × V)} (h : H a = some (exo a CE (some dx))) (d : H dx = some (exd dx fs)) : Oth H CE (.ref a) (.ref CE)
section
variable {prog : Program} {w : World} {A : Around} {E : Value → Shared → Prop} {s : Shared} {K : PySem.W.Frag} {x y C CE : Addr} {ox oy : Obj} {od oe : Option Obj}
theorem ifBound_bltEq {M : Model} {args : List Value} {Q : Option Value → Shared → Prop} (X : K.In s.heap) (I : PySem.W.InstAt s.heap x ox C od) (hn : PySem.W.findIn K (.ref C) "__eq__" = some (some (.builtin "object.__eq__")))
    (h : wpAny M A (call (.builtin "object.__eq__") (.ref x :: args)) (fun v => Q (some v)) E s) : wpAny M A (callSpecialIfBound? (.ref x) "__eq__" args) Q E s := by
  unfold callSpecialIfBound? bindSpecialIfBound?
  refine wpAny_holding (wpAny_bind (wpAny_bind (wpAny_bind (I.type.here ((PySem.W.looks_findIn X hn).here ?_)))))
  have fin : wpAny M A (do
      let v ← call (.builtin "object.__eq__") ([.ref x] ++ args)
      pure (some v)) Q E s := wpAny_bind (wpAny_mono h (fun v s' h' => wpAny_pure h') fun _ _ h' => h')
  refine wpAny_bind (wpAny_askSetting (wpAny_ite ?_))
  split
  · exact wpAny_bind (wpAny_of_eq (F.cmp_object.eq.bind _) (wpAny_pure fin))
  · exact wpAny_tryCatch (wpAny_bind (wpAny_of_eq (F.cmp_object.eq.bind _) (wpAny_pure fin)))
theorem call_eqErr {Q : Value → Shared → Prop} (X : K.In s.heap) (I : PySem.W.InstAt s.heap x ox C od) (c : ErrE K C) (hy : s.heap.get? y = some oy) (hxy : x ≠ y) (hq : Q .notImplemented s) :
    wpAny (model prog w) A (call (.builtin "object.__eq__") [.ref x, .ref y]) Q E s :=
  wpAny_call (codeAny_call_builtin F.cmp_object.eq.plain F.cmpEntry_eq (PySem.W.check_slot F.cmpKind_eq F.cmpSplit_eq (I.type.andThen (PySem.W.looks_mroIn X c.mro)) (F.cmpArgs_eq _ _)
    (objEq_entry_other hxy I.at_ hy (by rw [I.cls]; intro e; cases e) hq)))
theorem entry_neErr (hu : A.units < cLine) (X : K.In s.heap) (I : PySem.W.InstAt s.heap x ox C od) (c : ErrE K C) (hy : s.heap.get? y = some oy) (hxy : x ≠ y) {Q : Fin → Shared → Prop} (hq : Q (.done (.ret .notImplemented)) s) :
    wpAny (model prog w) A (Builtin.«object.__ne__» ⟨[.ref x, .ref y], []⟩) Q E s := by
  unfold Builtin.«object.__ne__»
  repeat (first | with_reducible refine wpAny_cRoomFor hu ?_ | (refine wpAny_bind (m := callSpecialIfBound? (.ref x) (Str.ofString "__eq__") [.ref y]) (ifBound_bltEq X I c.eq (call_eqErr X I c hy hxy ?_))) | wp_step)
  exact hq
theorem decl_err (hu : A.units + 1 < cLine) (X : K.In s.heap) (I : PySem.W.InstAt s.heap x ox C od) (c : ErrE K C) (hy : s.heap.get? y = some oy) (hxy : x ≠ y) : Decl prog w A E s (.ref x) (.ref C) y where
  ty := I.type
  eq := fun Q q => by
    unfold tryCompare
    exact wpAny_bind (ifBound_bltEq X I c.eq (call_eqErr X I c hy hxy (wpAny_pure q)))
  ne := fun Q q => by
    unfold tryCompare
    exact wpAny_bind (ifBound_objNe X I c.ne (wpAny_call (codeAny_call_builtin F.cmp_object.ne.plain F.cmpEntry_ne (PySem.W.check_slot F.cmpKind_ne F.cmpSplit_ne (I.type.andThen (PySem.W.looks_mroIn X c.mro)) (F.cmpArgs_ne _ _)
      (entry_neErr (A := A.in1) hu X I c hy hxy (wpAny_pure q))))))
  one := fun op b => by simp [oneThing_ref]
theorem looks_ty {M : Model} {u : Value} {T : String} (h : ∀ s' : Shared, (∀ b o, s.heap.get? b = some o → s'.heap.get? b = some o) → s'.TypeIs u T) : PySem.W.Looks M s.heap (typeOf u) (.type T) :=
  fun A Q E s' k q => wpAny_typeOf (h s' k) q
end
section
variable {X : Cx} {pins : List (Addr × Obj)} {σ : L2.St} {H : Hp} {s : Shared} {A : Around} {E : Value → Shared → Prop} {C CE y : Addr} {oy : Obj} {oe : Option Obj}
theorem oth_inst {a dx : Addr} {fs : List (Str × V)} (I : L2.Inv X pins σ H s) (h : H a = some (exo a CE (some dx))) (d : H dx = some (exd dx fs)) : ∃ ox od, PySem.W.InstAt s.heap a ox CE od ∧ ox.cls = .ref CE := by
  obtain ⟨t1, ho⟩ := exo_at I.hok h
  obtain ⟨mA, hns, hr⟩ := exd_at I.hok d
  obtain ⟨od, hod, hl⟩ := lookIn_ns hns
  exact ⟨{ cls := .ref CE, dict := some dx, data := .fields #[.ref t1, .none, .none, .none, .bool false, .none] }, some od, ⟨ho, rfl, rfl, hod⟩, rfl⟩
theorem oth_type {x : V} {u tx : Value} (I : L2.Inv X pins σ H s) (rx : RelV x u) (o : Oth H CE x tx) : PySem.W.Looks (model X.prog X.w) s.heap (typeOf u) tx := by
  cases o with
  | non => cases (show u = Value.none from rx); exact looks_ty fun _ _ => rfl
  | int i => obtain ⟨t, rfl⟩ := (show ∃ t, u = Value.int i t from rx); exact looks_ty fun _ _ => rfl
  | str x => obtain ⟨t, rfl⟩ := (show ∃ t, u = Value.str x t from rx); exact looks_ty fun _ _ => rfl
  | lst h =>
    cases (show u = Value.ref _ from rx)
    obtain ⟨its, rv, pl, hz⟩ := I.list (SqL.of h)
    exact looks_ty fun s' k => (pl.isList.at fun o e => k _ _ e).typeIs
  | tup h =>
    cases (show u = Value.ref _ from rx)
    obtain ⟨its, rv, ⟨o, h1, h2, _⟩, hz⟩ := I.tuple (SqT.of h)
    exact looks_ty fun s' k => ⟨o, k _ _ h1, h2⟩
  | err h d =>
    cases (show u = Value.ref _ from rx)
    obtain ⟨ox, od, J, _⟩ := oth_inst I h d
    exact J.type
theorem oth_decl {x : V} {u tx : Value} (I : L2.Inv X pins σ H s) (rx : RelV x u) (o : Oth H CE x tx) (hu : A.units + 1 < cLine) (c : ErrE X.K CE) (J : PySem.W.InstAt s.heap y oy C oe) (hp : oy.data = .plain) (hc : C ≠ CE)
    (hl : PySem.W.subIn X.K (.ref C) (.type "list") = some false) (ht : PySem.W.subIn X.K (.ref C) (.type "tuple") = some false) : Decl X.prog X.w A E s u tx y := by
  have ty := oth_type I rx o
  have hk := I.kIn
  cases o with
  | non =>
    cases (show u = Value.none from rx)
    have hT : s.TypeIs Value.none "NoneType" := rfl
    exact ⟨ty, fun Q q => wpAny_tryCompare_declines (T := "NoneType") rfl F.slot_NoneType_eq (call_gives F.slot_NoneType_eq (rfl : s.TypeIs Value.none "NoneType") F.entry_NoneType_eq (F.args_NoneType_eq_2 _ _) (NoneType___eq___none_ref_0 y) ⟨rfl, q⟩),
      fun Q q => wpAny_tryCompare_declines (T := "NoneType") rfl F.slot_NoneType_ne (call_gives F.slot_NoneType_ne (rfl : s.TypeIs Value.none "NoneType") F.entry_NoneType_ne (F.args_NoneType_ne_2 _ _) (NoneType___ne___none_ref_0 y) ⟨rfl, q⟩),
      fun op b => hT.oneThing_none op b⟩
  | int i =>
    obtain ⟨t, rfl⟩ := (show ∃ t, u = Value.int i t from rx)
    have hT : s.TypeIs (Value.int i t) "int" := rfl
    exact ⟨ty, fun Q q => wpAny_tryCompare_declines hT F.slot_int_eq (call_meets F.slot_int_eq hT F.entry_int_eq (F.args_int_eq_2 _ _) (int_eq_inst i t y oy hp) ⟨J.at_, rfl, q⟩),
      fun Q q => wpAny_tryCompare_declines hT F.slot_int_ne (call_meets F.slot_int_ne hT F.entry_int_ne (F.args_int_ne_2 _ _) (int_ne_inst i t y oy hp) ⟨J.at_, rfl, q⟩), fun op b => hT.oneThing_none op b⟩
  | str z =>
    obtain ⟨t, rfl⟩ := (show ∃ t, u = Value.str z t from rx)
    have hT : s.TypeIs (Value.str z t) "str" := rfl
    exact ⟨ty, fun Q q => wpAny_tryCompare_declines hT F.slot_str_eq (call_meets F.slot_str_eq hT F.entry_str_eq (F.args_str_eq_2 _ _) (str_eq_inst z t y oy hp) ⟨J.at_, rfl, q⟩),
      fun Q q => wpAny_tryCompare_declines hT F.slot_str_ne (call_meets F.slot_str_ne hT F.entry_str_ne (F.args_str_ne_2 _ _) (str_ne_inst z t y oy hp) ⟨J.at_, rfl, q⟩), fun op b => hT.oneThing_none op b⟩
  | @lst a xs h =>
    cases (show u = Value.ref a from rx)
    obtain ⟨its, rv, ⟨⟨cls, dd, dt, sl⟩, n, ho, hc1, hd, hdt⟩, hz⟩ := I.list (SqL.of h)
    simp only at hc1 hd hdt
    subst hc1 hd hdt
    have hT : s.TypeIs (Value.ref a) "list" := ⟨_, ho, rfl⟩
    exact ⟨ty, fun Q q => wpAny_tryCompare_declines hT F.slot_list_eq (call_meets F.slot_list_eq hT F.entry_list_eq (F.args_list_eq_2 _ _) (list_eq_inst a y _ n _ _ X.K C oy oe hl) ⟨ho, hk, J, rfl, q⟩),
      fun Q q => wpAny_tryCompare_declines hT F.slot_list_ne (call_meets F.slot_list_ne hT F.entry_list_ne (F.args_list_ne_2 _ _) (list_ne_inst a y _ n _ _ X.K C oy oe hl) ⟨ho, hk, J, rfl, q⟩), fun op b => hT.oneThing_none op b⟩
  | @tup a xs h =>
    cases (show u = Value.ref a from rx)
    obtain ⟨its, rv, pl, hz⟩ := I.tuple (SqT.of h)
    obtain ⟨⟨cls, dd, dt, sl⟩, ho, hc1, n, hdt⟩ := pl
    simp only at hc1 hdt
    subst hc1 hdt
    have hT : s.TypeIs (Value.ref a) "tuple" := ⟨_, ho, rfl⟩
    exact ⟨ty, fun Q q => wpAny_tryCompare_declines hT F.slot_tuple_eq (call_meets F.slot_tuple_eq hT F.entry_tuple_eq (F.args_tuple_eq_2 _ _) (tuple_eq_inst a y _ n _ _ X.K C oy oe ht) ⟨ho, hk, J, rfl, q⟩),
      fun Q q => wpAny_tryCompare_declines hT F.slot_tuple_ne (call_meets F.slot_tuple_ne hT F.entry_tuple_ne (F.args_tuple_ne_2 _ _) (tuple_ne_inst a y _ n _ _ X.K C oy oe ht) ⟨ho, hk, J, rfl, q⟩), fun op b => hT.oneThing_none op b⟩
  | @err a dx fs h d =>
    cases (show u = Value.ref a from rx)
    obtain ⟨ox, od, J2, _⟩ := oth_inst I h d
    refine decl_err hu hk J2 c J.at_ fun z => ?_
    subst z
    have e1 := J.at_.symm.trans J2.at_
    cases e1
    have e2 := J.cls.symm.trans J2.cls
    cases e2
    exact hc rfl
end
end KV
set_option Elab.async false
set_option linter.all false
set_option maxRecDepth 100000
set_option maxHeartbeats 4000000
/-! The rules for == and != among two own classes, data and an error. -/
namespace KV
open PySem PySem.Spec PyProof.Rows L2
def kinds5 : List String := ["NoneType", "int", "str", "list", "tuple"]
structure EqF (K : PySem.W.Frag) (CB CS CE fB fS : Addr) : Prop where
  oB : OwnE K CB fB
  oS : OwnE K CS fS
  eE : ErrE K CE
  sSB : PySem.W.subIn K (.ref CS) (.ref CB) = some false
  sBS : PySem.W.subIn K (.ref CB) (.ref CS) = some false
  sEB : PySem.W.subIn K (.ref CE) (.ref CB) = some false
  sBE : PySem.W.subIn K (.ref CB) (.ref CE) = some false
  sTB : ∀ T ∈ kinds5, PySem.W.subIn K (.type T) (.ref CB) = some false
  sBT : ∀ T ∈ kinds5, PySem.W.subIn K (.ref CB) (.type T) = some false
  ne : CB ≠ CE
theorem EqF.left {K : PySem.W.Frag} {CB CS CE fB fS : Addr} (F : EqF K CB CS CE fB fS) {H : Hp} {x : V} {t : Value} (o : Oth H CE x t) : PySem.W.subIn K t (.ref CB) = some false := by
  cases o with
  | non => exact F.sTB _ (by decide)
  | int => exact F.sTB _ (by decide)
  | str => exact F.sTB _ (by decide)
  | lst => exact F.sTB _ (by decide)
  | tup => exact F.sTB _ (by decide)
  | err => exact F.sEB
theorem EqF.right {K : PySem.W.Frag} {CB CS CE fB fS : Addr} (F : EqF K CB CS CE fB fS) {H : Hp} {x : V} {t : Value} (o : Oth H CE x t) : PySem.W.subIn K (.ref CB) t = some false := by
  cases o with
  | non => exact F.sBT _ (by decide)
  | int => exact F.sBT _ (by decide)
  | str => exact F.sBT _ (by decide)
  | lst => exact F.sBT _ (by decide)
  | tup => exact F.sBT _ (by decide)
  | err => exact F.sBE
/-- how the own == answers -/
abbrev ansE (g : Bool → Bool) (Q : VK) : VK := fun v H' => ∃ r : Bool, v = .bl r ∧ Q (.bl (g r)) H'
def rU (CB CS CE : Addr) (spB spS : Sp) (g : Bool → Bool) : R2 := fun x y H Q =>
  (∃ a dx fs, x = .ref a ∧ H a = some (.ins CB dx fs) ∧ ((∃ b dy gs, y = .ref b ∧ (H b = some (.ins CB dy gs) ∨ H b = some (.ins CS dy gs))) ∨ ∃ t, Oth H CE y t) ∧ spB [.ref a, y] H (ansE g Q) fun _ _ _ => False) ∨
  (∃ a dx fs b dy gs, x = .ref a ∧ H a = some (.ins CS dx fs) ∧ y = .ref b ∧ H b = some (.ins CB dy gs) ∧ spS [.ref a, y] H (ansE g Q) fun _ _ _ => False) ∨
  ∃ b dy gs t, y = .ref b ∧ H b = some (.ins CB dy gs) ∧ Oth H CE x t ∧ spB [.ref b, x] H (ansE g Q) fun _ _ _ => False
section
variable {X : Cx} {n m : Nat} {CB CS CE fB fS : Addr} {dB dS : FuncData} {psB psS : List Str} {spB spS : Sp}
theorem run_eqV {A : Around} {pins : List (Addr × Obj)} {s : Shared} {σ : L2.St} {H : Hp} {a f : Addr} {y : V} {u : Value} {fd : FuncData} {ps : List Str} {sp : Sp} {g : Bool → Bool} {Q : VK} {Qv : Value → Shared → Prop} (F : FnOk X.prog X.w X.K X.mg X.base CX0 n f fd ps sp) (hb : Binds X.K fd ps []) (I : L2.Inv X pins σ H s) (hr : Room n A) (e0 : Env0 X.prog X.w X.K X.mg X.base A X.stack s H)
    (ry : RelV y u) (h : sp [.ref a, y] H (ansE g Q) fun _ _ _ => False) (q : ∀ r H' s', L2.Inv X pins σ H' s' → Q (.bl (g r)) H' → Qv (.bool r) s') :
    wpAny (model X.prog X.w) A (call (.ref f) [.ref a, u]) Qv X.xe s := by
  have hl := F.len _ _ _ _ h
  have r2 : Vals [V.ref a, y] [Value.ref a, u] := .cons rfl (.cons ry .nil)
  refine wpAny_call (codeAny_mono (F.run A X.stack s H ⟨[.ref a, u], []⟩ [.ref a, u] [.ref a, y] _ (fun _ _ _ => False) hr e0 (by
    have := hb s [.ref a, u] I.kIn (by simpa using hl)
    simpa using this) r2 h) fun r s' hq => ?_)
  cases r with
  | error e => exact hq.elim
  | ok fl =>
    cases fl with
    | ret w =>
      obtain ⟨z, H', I', rz, r, ez, qz⟩ := I.after hq
      subst ez
      cases rz
      exact q r H' s' I' qz
    | next => exact False.elim hq
    | brk => exact False.elim hq
    | cont => exact False.elim hq
theorem inst_of {pins : List (Addr × Obj)} {s : Shared} {σ : L2.St} {H : Hp} {a C dx : Addr} {fs : List (Str × V)} (I : L2.Inv X pins σ H s) (h : H a = some (.ins C dx fs)) : ∃ ox od, PySem.W.InstAt s.heap a ox C od ∧ ox.data = .plain := by
  obtain ⟨mA, O, _⟩ := ins_get I.hok h
  obtain ⟨od, J, _⟩ := O.look
  exact ⟨_, _, J, rfl⟩
theorem op_eqU (T : EqF X.K CB CS CE fB fS) (FB : FnOk X.prog X.w X.K X.mg X.base CX0 n fB dB psB spB) (bB : Binds X.K dB psB []) (FS : FnOk X.prog X.w X.K X.mg X.base CX0 m fS dS psS spS) (bS : Binds X.K dS psS []) (hr : Room (n + m + 1) X.A) :
    OpR X (compareOp .Eq) (rU CB CS CE spB spS fun r => r) := by
  intro pins s σ H x y v u Q I rx ry hq
  have hrn : Room n X.A := hr.mono (by omega)
  have hrm : Room m X.A := hr.mono (by omega)
  have hu1 : X.A.units + 1 < cLine := by
    have := hr.un
    omega
  show wpAny (model X.prog X.w) X.A (richCompare .Eq v u) (EP X pins σ Q) X.xe s
  rcases hq with ⟨a, dx, fs, rfl, ha, hy, q⟩ | ⟨a, dx, fs, b, dy, gs, rfl, ha, rfl, hb, q⟩ | ⟨b, dy, gs, t, rfl, hb, ho, q⟩
  · cases (show v = Value.ref a from rx)
    obtain ⟨ox, od, J, _⟩ := inst_of I ha
    have ty : ∃ tb, PySem.W.Looks (model X.prog X.w) s.heap (typeOf u) tb ∧ (tb = .ref CB ∨ PySem.W.subIn X.K tb (.ref CB) = some false) := by
      rcases hy with ⟨b, dy, gs, rfl, hb | hb⟩ | ⟨t, o⟩
      · cases (show u = Value.ref b from ry)
        obtain ⟨oy, oe, J2, _⟩ := inst_of I hb
        exact ⟨_, J2.type, .inl rfl⟩
      · cases (show u = Value.ref b from ry)
        obtain ⟨oy, oe, J2, _⟩ := inst_of I hb
        exact ⟨_, J2.type, .inr T.sSB⟩
      · exact ⟨t, oth_type I ry o, .inr (T.left o)⟩
    obtain ⟨tb, l, hn⟩ := ty
    exact rc_eqL hr.units0 I.kIn J l hn (try_eqV I.kIn J T.oB.eq T.oB.fn (run_eqV FB bB I hrn I.env0 ry q fun r H' s' I' h => ⟨r, rfl, .bl r, H', I', rfl, h⟩))
  · cases (show v = Value.ref a from rx)
    cases (show u = Value.ref b from ry)
    obtain ⟨ox, od, J, _⟩ := inst_of I ha
    obtain ⟨oy, oe, J2, _⟩ := inst_of I hb
    exact rc_eqL hr.units0 I.kIn J J2.type (.inr T.sBS) (try_eqV I.kIn J T.oS.eq T.oS.fn (run_eqV FS bS I hrm I.env0 (show L2.RelV (V.ref b) (Value.ref b) from rfl) q fun r H' s' I' h => ⟨r, rfl, .bl r, H', I', rfl, h⟩))
  · cases (show u = Value.ref b from ry)
    obtain ⟨oy, oe, J2, hp⟩ := inst_of I hb
    have D := oth_decl (A := X.A) (E := X.xe) I rx ho hu1 T.eE J2 hp T.ne (T.sBT _ (by decide)) (T.sBT _ (by decide))
    exact rc_eqR hr.units0 I.kIn J2 D (T.right ho) (try_eqV I.kIn J2 T.oB.eq T.oB.fn (run_eqV FB bB I hrn I.env0 rx q fun r H' s' I' h => ⟨r, rfl, .bl r, H', I', rfl, h⟩))
theorem op_neU (T : EqF X.K CB CS CE fB fS) (FB : FnOk X.prog X.w X.K X.mg X.base CX0 n fB dB psB spB) (bB : Binds X.K dB psB []) (FS : FnOk X.prog X.w X.K X.mg X.base CX0 m fS dS psS spS) (bS : Binds X.K dS psS []) (hr : Room (n + m + 1) X.A) :
    OpR X (compareOp .NotEq) (rU CB CS CE spB spS fun r => !r) := by
  intro pins s σ H x y v u Q I rx ry hq
  have hrn : Room (n + 1) X.A := hr.mono (by omega)
  have hrm : Room (m + 1) X.A := hr.mono (by omega)
  have hu1 : X.A.units + 1 < cLine := by
    have := hr.un
    omega
  show wpAny (model X.prog X.w) X.A (richCompare .NotEq v u) (EP X pins σ Q) X.xe s
  rcases hq with ⟨a, dx, fs, rfl, ha, hy, q⟩ | ⟨a, dx, fs, b, dy, gs, rfl, ha, rfl, hb, q⟩ | ⟨b, dy, gs, t, rfl, hb, ho, q⟩
  · cases (show v = Value.ref a from rx)
    obtain ⟨ox, od, J, _⟩ := inst_of I ha
    have ty : ∃ tb, PySem.W.Looks (model X.prog X.w) s.heap (typeOf u) tb ∧ (tb = .ref CB ∨ PySem.W.subIn X.K tb (.ref CB) = some false) := by
      rcases hy with ⟨b, dy, gs, rfl, hb | hb⟩ | ⟨t, o⟩
      · cases (show u = Value.ref b from ry)
        obtain ⟨oy, oe, J2, _⟩ := inst_of I hb
        exact ⟨_, J2.type, .inl rfl⟩
      · cases (show u = Value.ref b from ry)
        obtain ⟨oy, oe, J2, _⟩ := inst_of I hb
        exact ⟨_, J2.type, .inr T.sSB⟩
      · exact ⟨t, oth_type I ry o, .inr (T.left o)⟩
    obtain ⟨tb, l, hn⟩ := ty
    exact rc_neL hr.units0 I.kIn J l hn (try_neV hr.in1.units0 I.kIn J T.oB.mro T.oB.ne T.oB.eq T.oB.fn (run_eqV FB bB I hrn.in1 I.env0.in1 ry q fun r H' s' I' h => ⟨r, rfl, .bl (!r), H', I', rfl, h⟩))
  · cases (show v = Value.ref a from rx)
    cases (show u = Value.ref b from ry)
    obtain ⟨ox, od, J, _⟩ := inst_of I ha
    obtain ⟨oy, oe, J2, _⟩ := inst_of I hb
    exact rc_neL hr.units0 I.kIn J J2.type (.inr T.sBS) (try_neV hr.in1.units0 I.kIn J T.oS.mro T.oS.ne T.oS.eq T.oS.fn (run_eqV FS bS I hrm.in1 I.env0.in1 (show L2.RelV (V.ref b) (Value.ref b) from rfl) q fun r H' s' I' h => ⟨r, rfl, .bl (!r), H', I', rfl, h⟩))
  · cases (show u = Value.ref b from ry)
    obtain ⟨oy, oe, J2, hp⟩ := inst_of I hb
    have D := oth_decl (A := X.A) (E := X.xe) I rx ho hu1 T.eE J2 hp T.ne (T.sBT _ (by decide)) (T.sBT _ (by decide))
    exact rc_neR hr.units0 I.kIn J2 D (T.right ho) (try_neV hr.in1.units0 I.kIn J2 T.oB.mro T.oB.ne T.oB.eq T.oB.fn (run_eqV FB bB I hrn.in1 I.env0.in1 rx q fun r H' s' I' h => ⟨r, rfl, .bl (!r), H', I', rfl, h⟩))
end
end KV
set_option Elab.async false
set_option linter.all false
set_option maxRecDepth 100000
set_option maxHeartbeats 0
/-! Book.__eq__ and Store.__eq__, of things of all kinds; _law_books_alike -/
namespace LW
open PySem PySem.Spec PyProof.Rows L2 KV
theorem call_isU {X : Cx} : CallR X (.builtin "isinstance") (fun xs H Q => rIsi X.K xs H Q ∨ rIsX X.K xs H Q) := by
  intro pins s σ H xs us Q I r h
  exact h.elim (call_isi pins s σ H xs us Q I r) (call_isX pins s σ H xs us Q I r)
abbrev gaB (K : PySem.W.Frag) : Addr := He.ga K "Book"
abbrev gaS (K : PySem.W.Frag) : Addr := He.ga K "Store"
abbrev gaU (K : PySem.W.Frag) : Addr := He.ga K "UnknownTable"
/-- what isinstance asks -/
structure IsF (K : PySem.W.Frag) : Prop where
  iB : C8.InsC K (gaB K)
  iS : C8.InsC K (gaS K)
  eE : PySem.W.ErrC K (gaU K)
  kT : ∀ T ∈ kinds5, PySem.W.kitOne K (.type T) (.ref (gaB K)) = some false
  kS : PySem.W.kitOne K (.ref (gaS K)) (.ref (gaB K)) = some false
  kE : PySem.W.kitOne K (.ref (gaU K)) (.ref (gaB K)) = some false
  kB : PySem.W.kitOne K (.ref (gaB K)) (.ref (gaS K)) = some false
theorem ty_ins {K : PySem.W.Frag} {H : Hp} {a C dx : Addr} {fs : List (Str × V)} (c : C8.InsC K C) (h : H a = some (.ins C dx fs)) : TyX K H (.ref a) (.ref C) := .base (.ins h c.cl c.ha c.hn c.htk c.hm)
theorem is_oth {K : PySem.W.Frag} {H : Hp} {y : V} {t : Value} {Q : VK} (F : IsF K) (o : Oth H (gaU K) y t) (q : Q (.bl false) H) : rIsi K [y, .ref (gaB K)] H Q ∨ rIsX K [y, .ref (gaB K)] H Q := by
  cases o with
  | non => exact .inl ⟨_, _, _, _, false, rfl, .own _, .base .non, F.kT _ (by decide), q⟩
  | int i => exact .inl ⟨_, _, _, _, false, rfl, .own _, .base (.int i), F.kT _ (by decide), q⟩
  | str x => exact .inl ⟨_, _, _, _, false, rfl, .own _, .base (.str x), F.kT _ (by decide), q⟩
  | lst h => exact .inl ⟨_, _, _, _, false, rfl, .own _, .base (.lst h), F.kT _ (by decide), q⟩
  | tup h => exact .inl ⟨_, _, _, _, false, rfl, .own _, .base (.tup h), F.kT _ (by decide), q⟩
  | err h d => exact .inr ⟨_, gaU K, _, _, _, _, false, rfl, .own _, F.eE, h, d, F.kE, q⟩
/-- neither a book -/
def Other (K : PySem.W.Frag) (H : Hp) (y : V) : Prop := (∃ b dy gs, y = .ref b ∧ H b = some (.ins (gaS K) dy gs)) ∨ ∃ t, Oth H (gaU K) y t
def spEqU (K : PySem.W.Frag) : Sp := fun vs H Q _ => ∃ (a : Addr) (y : V) (ts : List Tab) (rs : List RB) (n mc mt N M L : Nat), vs = [.ref a, y] ∧ BookOf K H a ts rs ∧ BkB n mc mt N M L ts rs ∧
  ((∃ (b : Addr) (us : List Tab) (ws : List RB) (n' mc' mt' N' M' L' : Nat), y = .ref b ∧ BookOf K H b us ws ∧ BkB n' mc' mt' N' M' L' us ws ∧ Q (.bl (sameB ts us rs ws)) H) ∨ (Other K H y ∧ Q (.bl false) H))
def spEqS (K : PySem.W.Frag) : Sp := fun vs H Q _ => ∃ (a b dx dy : Addr) (fs gs : List (Str × V)), vs = [.ref a, .ref b] ∧ H a = some (.ins (gaS K) dx fs) ∧ H b = some (.ins (gaB K) dy gs) ∧ Q (.bl false) H
section
variable {P : Program} {w : World} {K : PySem.W.Frag} {mg : Str → Option Value} {base : Heap}
theorem ok_eqU {f : Addr} {fd : FuncData} (F : FunD K "__eq__" "Book.__eq__" (defArgs pBook_eq) (defBody pBook_eq) (defScope pBook_eq) [] [] f fd) (B : BookT K mg) (T : IsF K) (mi : mg "isinstance" = none) :
    FnOk P w K mg base CX0 1 f fd ["self", "other"] (spEqU K) := by
  refine F.ok scEqBk (fun vs H Q E h => ?_) (fun cdv A outer s H vs Q E hr h => ?_)
  · obtain ⟨a, y, _, _, _, _, _, _, _, _, rfl, _⟩ := h
    rfl
  obtain ⟨a, y, ts, rs, n, mc, mt, N, M, L, rfl, ha, ba, hq⟩ := h
  have hu : (A.deeper (envOfC "Book.__eq__" (defScope pBook_eq) s.heap.objs.size f cdv)).units + 64 < cLine := hr.units
  refine ⟨_, pss_one (ps_ret (pe_and (pe_callB call_isU rfl mi boot_isinstance (pa_cons (pv 1) (pa_cons (pe_glob (v := .ref (He.ga K "Book")) rfl B.g rfl) pa_nil)))
    (pe_and (pe_cmpR (op_eqD hu) (pe_fld (pv 0) rfl) (pe_fld (pv 1) rfl) (nomark _)) (pe_one (pe_cmpR (op_eqD hu) (pe_fld (pv 0) rfl) (pe_fld (pv 1) rfl) (nomark _)))))), ?_⟩
  rcases hq with ⟨b, us, ws, n', mc', mt', N', M', L', rfl, hb, bb, q⟩ | ⟨⟨b, dy, gs, rfl, hb⟩ | ⟨t, o⟩, q⟩
  · obtain ⟨dx, v1, v2, h1, h2, h3⟩ := ha
    obtain ⟨dy, u1, u2, g1, g2, g3⟩ := hb
    have s1 := shaped_of (lay_tabs ba.tb) (fit_tabsW ba.tb) (by show 3 ≤ 64; decide)
    have s2 := shaped_of (lay_tabs bb.tb) (fit_tabsW bb.tb) (by show 3 ≤ 64; decide)
    have s3 := shaped_of (lay_rbs ba.rb) (fit_rbs ba.lr ba.rb) (by show 3 ≤ 64; decide)
    have s4 := shaped_of (lay_rbs bb.rb) (fit_rbs bb.lr bb.rb) (by show 3 ≤ 64; decide)
    refine ⟨_, rfl, .inl ⟨.ref b, _, _, _, true, rfl, .own _, ty_ins T.iB g1, T.iB.me, true, rfl, iteT ?_⟩⟩
    refine ⟨_, rfl, a, _, dx, _, _, rfl, h1, B.cl, B.n1, look_tables _ _, _, rfl, b, _, dy, _, _, rfl, g1, B.cl, B.n1, look_tables _ _, tabsD ts, tabsD us, h2, g2, s1, s2, _, rfl, ?_⟩
    unfold sameB at q
    cases e : PyData.eqv (tabsD ts) (tabsD us) with
    | false =>
      rw [e] at q
      exact iteF q
    | true =>
      rw [e, Bool.true_and] at q
      exact iteT ⟨_, rfl, a, _, dx, _, _, rfl, h1, B.cl, B.n2, look_rules _ _, _, rfl, b, _, dy, _, _, rfl, g1, B.cl, B.n2, look_rules _ _, rbsD rs, rbsD ws, h3, g3, s3, s4, q⟩
  · exact ⟨_, rfl, .inl ⟨.ref b, _, _, _, false, rfl, .own _, ty_ins T.iS hb, T.kS, false, rfl, iteF q⟩⟩
  · exact ⟨_, rfl, is_oth T o ⟨false, rfl, iteF q⟩⟩
theorem scEqS : FnScope ["self", "other"] ["self", "other"] (defScope pStore_eq) := ⟨rfl, rfl, rfl, by decide +kernel, rfl, by decide +kernel, by decide +kernel⟩
theorem ok_eqS {f : Addr} {fd : FuncData} (F : FunD K "__eq__" "Store.__eq__" (defArgs pStore_eq) (defBody pStore_eq) (defScope pStore_eq) [] [] f fd) (S : StoreT K mg) (T : IsF K) (mi : mg "isinstance" = none) :
    FnOk P w K mg base CX0 1 f fd ["self", "other"] (spEqS K) := by
  refine F.ok scEqS (fun vs H Q E h => ?_) (fun cdv A outer s H vs Q E hr h => ?_)
  · obtain ⟨a, b, _, _, _, _, rfl, _⟩ := h
    rfl
  obtain ⟨a, b, dx, dy, fs, gs, rfl, ha, hb, q⟩ := h
  have hu : (A.deeper (envOfC "Store.__eq__" (defScope pStore_eq) s.heap.objs.size f cdv)).units + 64 < cLine := hr.units
  refine ⟨_, pss_one (ps_ret (pe_and (pe_callB call_isU rfl mi boot_isinstance (pa_cons (pv 1) (pa_cons (pe_glob (v := .ref (He.ga K "Store")) rfl S.g rfl) pa_nil)))
    (pe_and (pe_cmpR (op_eqD hu) (pe_fld (pv 0) rfl) (pe_fld (pv 1) rfl) (nomark _)) (pe_one (pe_cmpR (op_eqD hu) (pe_fld (pv 0) rfl) (pe_fld (pv 1) rfl) (nomark _)))))), ?_⟩
  exact ⟨_, rfl, .inl ⟨.ref b, _, _, _, false, rfl, .own _, ty_ins T.iB hb, T.kB, false, rfl, iteF q⟩⟩
end
end LW
set_option Elab.async false
set_option linter.all false
set_option maxRecDepth 100000
set_option maxHeartbeats 0
/-! _law_books_alike -/
namespace LW
open PySem PySem.Spec PyProof.Rows L2 KV
theorem sameB_comm (ts us : List Tab) (rs ws : List RB) : sameB us ts ws rs = sameB ts us rs ws := by
  unfold sameB
  rw [PySem.W.eqv_comm (tabsD us), PySem.W.eqv_comm (rbsD ws)]
/-- a book beside a thing, and whether they are equal -/
def Alike (K : PySem.W.Frag) (H : Hp) (x y : V) (d : Bool) : Prop := ∃ (a : Addr) (ts : List Tab) (rs : List RB) (n mc mt N M L : Nat), x = .ref a ∧ BookOf K H a ts rs ∧ BkB n mc mt N M L ts rs ∧
  ((∃ (b : Addr) (us : List Tab) (ws : List RB) (n' mc' mt' N' M' L' : Nat), y = .ref b ∧ BookOf K H b us ws ∧ BkB n' mc' mt' N' M' L' us ws ∧ d = sameB ts us rs ws) ∨ (Other K H y ∧ d = false))
theorem alike_l {K : PySem.W.Frag} {H : Hp} {x y : V} {d : Bool} {g : Bool → Bool} {Q : VK} (h : Alike K H x y d) (q : Q (.bl (g d)) H) : rU (gaB K) (gaS K) (gaU K) (spEqU K) (spEqS K) g x y H Q := by
  obtain ⟨a, ts, rs, n, mc, mt, N, M, L, rfl, ha, ba, hq⟩ := h
  obtain ⟨dx, v1, v2, h1, _, _⟩ := id ha
  rcases hq with ⟨b, us, ws, n', mc', mt', N', M', L', rfl, hb, bb, rfl⟩ | ⟨o, rfl⟩
  · obtain ⟨dy, u1, u2, g1, _, _⟩ := id hb
    exact .inl ⟨a, dx, _, rfl, h1, .inl ⟨b, dy, _, rfl, .inl g1⟩, a, .ref b, ts, rs, n, mc, mt, N, M, L, rfl, ha, ba, .inl ⟨b, us, ws, n', mc', mt', N', M', L', rfl, hb, bb, _, rfl, q⟩⟩
  · refine .inl ⟨a, dx, _, rfl, h1, ?_, a, y, ts, rs, n, mc, mt, N, M, L, rfl, ha, ba, .inr ⟨o, _, rfl, q⟩⟩
    rcases o with ⟨b, dy, gs, rfl, hb⟩ | o
    · exact .inl ⟨b, dy, gs, rfl, .inr hb⟩
    · exact .inr o
theorem alike_r {K : PySem.W.Frag} {H : Hp} {x y : V} {d : Bool} {g : Bool → Bool} {Q : VK} (h : Alike K H x y d) (q : Q (.bl (g d)) H) : rU (gaB K) (gaS K) (gaU K) (spEqU K) (spEqS K) g y x H Q := by
  obtain ⟨a, ts, rs, n, mc, mt, N, M, L, rfl, ha, ba, hq⟩ := h
  obtain ⟨dx, v1, v2, h1, _, _⟩ := id ha
  rcases hq with ⟨b, us, ws, n', mc', mt', N', M', L', rfl, hb, bb, rfl⟩ | ⟨o, rfl⟩
  · obtain ⟨dy, u1, u2, g1, _, _⟩ := id hb
    refine .inl ⟨b, dy, _, rfl, g1, .inl ⟨a, dx, _, rfl, .inl h1⟩, b, .ref a, us, ws, n', mc', mt', N', M', L', rfl, hb, bb, .inl ⟨a, ts, rs, n, mc, mt, N, M, L, rfl, ha, ba, _, rfl, ?_⟩⟩
    rw [sameB_comm]
    exact q
  · rcases o with ⟨b, dy, gs, rfl, hb⟩ | ⟨t, o⟩
    · exact .inr (.inl ⟨b, dy, gs, a, dx, _, rfl, hb, rfl, h1, b, a, dy, dx, gs, _, rfl, hb, h1, _, rfl, q⟩)
    · exact .inr (.inr ⟨a, dx, _, t, rfl, h1, o, a, y, ts, rs, n, mc, mt, N, M, L, rfl, ha, ba, .inr ⟨.inr ⟨t, o⟩, _, rfl, q⟩⟩)
def spAlike (K : PySem.W.Frag) : Sp := fun vs H Q _ => ∃ (x y : V) (d : Bool), vs = [x, y, .bl d] ∧ Alike K H x y d ∧ ∀ H', Off (fun _ => False) H H' → Q (.bl true) H'
section
variable {P : Program} {w : World} {K : PySem.W.Frag} {mg : Str → Option Value} {base : Heap}
theorem scAlike : FnScope ["one_book", "two_book", "is_due", "told"] ["one_book", "two_book", "is_due"] (defScope sBooksAlike) := ⟨rfl, rfl, rfl, by decide +kernel, rfl, by decide +kernel, by decide +kernel⟩
theorem ok_alike {f fB fS : Addr} {fd dB dS : FuncData} (F : FnP K "_law_books_alike" sBooksAlike f fd) (T : EqF K (gaB K) (gaS K) (gaU K) fB fS) (FB : FnOk P w K mg base CX0 1 fB dB ["self", "other"] (spEqU K)) (bB : Binds K dB ["self", "other"] [])
    (FS : FnOk P w K mg base CX0 1 fS dS ["self", "other"] (spEqS K)) (bS : Binds K dS ["self", "other"] []) (mp : mg "repr" = none) : FnC P w K mg base CX0 4 f fd ["one_book", "two_book", "is_due"] (spAlike K) := by
  refine Fun.okC F scAlike (fun vs H Q E h => ?_) (fun cdv A outer s H vs Q E hG hr h => ?_)
  · obtain ⟨x, y, d, rfl, _⟩ := h
    rfl
  obtain ⟨x, y, d, rfl, al, q⟩ := h
  have hu : (A.deeper (envOfC "_law_books_alike" (defScope sBooksAlike) s.heap.objs.size f cdv)).units + 64 < cLine := hr.units
  refine ⟨_, pss_cons (ps_set (i := 3) scAlike.nd rfl (Or.inl rfl) (pe_lst (pa_cons (pe_cmpR (op_eqU T FB bB FS bS (hr.mono (by decide))) (pv 0) (pv 1) (nomark _)) (pa_cons (pe_cmpR (op_eqU T FB bB FS bS (hr.mono (by decide))) (pv 1) (pv 0) (nomark _))
      (pa_cons (pe_not (pe_cmpR (op_neU T FB bB FS bS (hr.mono (by decide))) (pv 0) (pv 1) (nomark _))) (pa_cons (pe_not (pe_cmpR (op_neU T FB bB FS bS (hr.mono (by decide))) (pv 1) (pv 0) (nomark _))) pa_nil))))))
    (pss_one (ps_ret (pe_cmpR op_eq (pe_callB (call_repD hG hu) rfl mp boot_repr (pa_cons (pv 3) pa_nil)) (pe_callB (call_repD hG hu) rfl mp boot_repr (pa_cons (pe_op op_rep (pe_lst (pa_cons (pv 2) pa_nil)) pe_int) pa_nil)) (nomark _)))), ?_⟩
  refine ⟨_, rfl, _, rfl, alike_l al ?_⟩
  refine ⟨_, rfl, _, rfl, alike_r al ?_⟩
  refine ⟨_, rfl, _, rfl, alike_l al ⟨_, rfl, ?_⟩⟩
  refine ⟨_, rfl, _, rfl, alike_r al ⟨_, rfl, ?_⟩⟩
  refine ⟨(by show 4 ≤ sizeLine; decide), fun l nl => ?_⟩
  have e1 : (!(!d)) = d := Bool.not_not d
  have k1 : Off (fun _ => False) H (upd H l (.lst [.bl d, .bl d, .bl (!(!d)), .bl (!(!d))])) := Off.new nl
  have el := upd_same (H := H) (a := l) (o := .lst [.bl d, .bl d, .bl (!(!d)), .bl (!(!d))])
  rw [e1] at k1 el ⊢
  have d1 : ∀ {G : Hp} {a : Addr}, G a = some (.lst [.bl d, .bl d, .bl d, .bl d]) → Dp K G (.ref a) (.list [.bool d, .bool d, .bool d, .bool d]) := fun e => .lst (SqL.of e) (.cons (.bl d) (.cons (.bl d) (.cons (.bl d) (.cons (.bl d) .nil))))
  have zz : (PyData.list [.bool d, .bool d, .bool d, .bool d]).showable = true ∧ (PyData.list [.bool d, .bool d, .bool d, .bool d]).hasDict = false ∧ (PyData.list [.bool d, .bool d, .bool d, .bool d]).depth ≤ 60 ∧ (PyData.list [.bool d, .bool d, .bool d, .bool d]).shown.length ≤ sizeLine := by
    cases d <;> decide +kernel
  obtain ⟨z1, z2, z3, z4⟩ := zz
  generalize upd H l (.lst [.bl d, .bl d, .bl d, .bl d]) = H1 at k1 el ⊢
  refine ⟨_, rfl, .ref l, _, rfl, d1 el, z1, z2, z3, z4, _, rfl, (by show 1 ≤ sizeLine; decide), fun m nm => ?_⟩
  have k2 : Off (fun _ => False) H1 (upd H1 m (.lst [.bl d])) := Off.new nm
  refine ⟨m, 4, [.bl d], rfl, rfl, upd_same, by decide, by decide, (by show 1 * 4 ≤ sizeLine; decide), fun p np => ?_⟩
  have k3 : Off (fun _ => False) (upd H1 m (.lst [.bl d])) (upd (upd H1 m (.lst [.bl d])) p (.lst (List.replicate (4 : Int).toNat [V.bl d]).flatten)) := Off.new np
  refine ⟨.ref p, _, rfl, d1 upd_same, z1, z2, z3, z4, rfl, ?_⟩
  rw [decide_eq_true rfl]
  exact q _ ((k1.trans k2).trans k3)
end
end LW
set_option Elab.async false
set_option linter.all false
set_option maxRecDepth 100000
set_option maxHeartbeats 0
/-! _law_moved -/
namespace LW
open PySem PySem.Spec PyProof.Rows L2 KV
/-- a list with the item at one place put at another -/
def movedL {α : Type} (xs : List α) (i j : Nat) (y : α) : List α := (xs.eraseIdx i).take j ++ [y] ++ (xs.eraseIdx i).drop j
def spMoved (K : PySem.W.Frag) : Sp := fun vs H Q _ => ∃ (a : Addr) (xs : List V) (i j : Nat) (y : V), vs = [.ref a, .int (i : Nat), .int (j : Nat)] ∧ SqL K H a xs ∧ xs[i]? = some y ∧ xs.length ≤ 1000 ∧ j ≤ 1000 ∧
  ∀ m H', H m = none → H' m = some (.lst (movedL xs i j y)) → Off (fun _ => False) H H' → Q (.ref m) H'
section
variable {P : Program} {w : World} {K : PySem.W.Frag} {mg : Str → Option Value} {base : Heap}
theorem scMoved : FnScope ["things", "spot", "place", "found", "thing"] ["things", "spot", "place"] (defScope sMoved) := ⟨rfl, rfl, rfl, by decide +kernel, rfl, by decide +kernel, by decide +kernel⟩
theorem ok_moved {f : Addr} {fd : FuncData} (F : FnP K "_law_moved" sMoved f fd) (ml : mg "list" = none) : FnOk P w K mg base CX0 1 f fd ["things", "spot", "place"] (spMoved K) := by
  refine F.ok scMoved (fun vs H Q E h => ?_) (fun cdv A outer s H vs Q E hr h => ?_)
  · obtain ⟨a, xs, i, j, y, rfl, _⟩ := h
    rfl
  obtain ⟨a, xs, i, j, y, rfl, sx, hy, lx, lj, q⟩ := h
  refine ⟨_, pss_cons (ps_set (i := 3) scMoved.nd rfl (Or.inl rfl) (pe_callTy call_list_of rfl ml boot_list (pa_cons (pv 0) pa_nil)))
    (pss_cons (ps_set (i := 4) scMoved.nd rfl (Or.inl rfl) (pe_bm PySem.F.plainAttrs_list PySem.F.slot_list_pop PySem.F.type_list_pop mt_popAt (pv 3) (pa_cons (pv 1) pa_nil)))
    (pss_one (ps_ret (pe_op op_cat (pe_op op_cat (pe_slice sl_list (pv 3) po_none (po_some (pv 2))) (pe_lst (pa_cons (pv 4) pa_nil))) (pe_slice sl_list (pv 3) (po_some (pv 2)) po_none))))), ?_⟩
  have no : ¬ False := id
  have hi : i < xs.length := (List.getElem?_eq_some_iff.mp hy).1
  refine ⟨_, rfl, a, xs, rfl, .inl sx, fun l nl => ?_⟩
  have k1 : Off (fun _ => False) H (upd H l (.lst xs)) := Off.new nl
  have e1 := upd_same (H := H) (a := l) (o := .lst xs)
  refine ⟨_, rfl, .inl ⟨rfl, _, SqL.of e1⟩, _, rfl, l, xs, (i : Int), i, y, rfl, rfl, e1, by omega, by omega, ?_, hy, ?_⟩
  · have n0 : ¬ ((i : Int) < 0) := by omega
    simp [seqIndex?, hi, n0]
  have k2 : Off (fun b => b = l) (upd H l (.lst xs)) (upd (upd H l (.lst xs)) l (.lst (xs.eraseIdx i))) := Off.upd rfl
  have e2 := upd_same (H := upd H l (.lst xs)) (a := l) (o := .lst (xs.eraseIdx i))
  have k12 : Off (fun _ => False) H (upd (upd H l (.lst xs)) l (.lst (xs.eraseIdx i))) := fun b o eb _ => k2 _ _ (k1 _ _ eb no) fun z => by
    rw [z, nl] at eb
    cases eb
  generalize upd (upd H l (.lst xs)) l (.lst (xs.eraseIdx i)) = H2 at k12 e2 ⊢
  have le : (xs.eraseIdx i).length ≤ 1000 := Nat.le_trans (List.length_eraseIdx_le ..) lx
  refine ⟨_, rfl, _, rfl, _, rfl, l, _, rfl, SqL.of e2, fun m1 n1 => ?_⟩
  have j1 : Off (fun _ => False) H2 (upd H2 m1 (.lst (cutV (xs.eraseIdx i) none (some (j : Int))))) := Off.new n1
  have f1 := upd_same (H := H2) (a := m1) (o := .lst (cutV (xs.eraseIdx i) none (some (j : Int))))
  have c1 : cutV (xs.eraseIdx i) none (some (j : Int)) = (xs.eraseIdx i).take j := by rw [cutV_head (by omega)]; rfl
  have c2 : cutV (xs.eraseIdx i) (some (j : Int)) none = (xs.eraseIdx i).drop j := by rw [cutV_tail (by omega)]; rfl
  rw [c1] at j1 f1 ⊢
  generalize upd H2 m1 (.lst ((xs.eraseIdx i).take j)) = H3 at j1 f1 ⊢
  refine ⟨_, rfl, (by show 1 ≤ sizeLine; decide), fun m2 n2 => ?_⟩
  have j2 : Off (fun _ => False) H3 (upd H3 m2 (.lst [y])) := Off.new n2
  refine ⟨m1, m2, _, _, rfl, rfl, j2 _ _ f1 no, upd_same, ?_, fun m3 n3 => ?_⟩
  · have := List.length_take_le j (xs.eraseIdx i)
    exact Nat.le_trans (m := 1001) (by show _ + 1 ≤ 1001; omega) (by decide)
  have j3 : Off (fun _ => False) (upd H3 m2 (.lst [y])) (upd (upd H3 m2 (.lst [y])) m3 (.lst ((xs.eraseIdx i).take j ++ [y]))) := Off.new n3
  have f3 := upd_same (H := upd H3 m2 (.lst [y])) (a := m3) (o := .lst ((xs.eraseIdx i).take j ++ [y]))
  have j23 := j2.trans j3
  generalize upd (upd H3 m2 (.lst [y])) m3 (.lst ((xs.eraseIdx i).take j ++ [y])) = H4 at j23 f3 ⊢
  refine ⟨_, rfl, _, rfl, _, rfl, l, _, rfl, SqL.of (j23 _ _ (j1 _ _ e2 no) no), fun m4 n4 => ?_⟩
  rw [c2]
  have j4 : Off (fun _ => False) H4 (upd H4 m4 (.lst ((xs.eraseIdx i).drop j))) := Off.new n4
  refine ⟨m3, m4, _, _, rfl, rfl, j4 _ _ f3 no, upd_same, ?_, fun m5 n5 => ?_⟩
  · have h1 := List.length_take_le j (xs.eraseIdx i)
    have h2 : ((xs.eraseIdx i).drop j).length ≤ 1000 := by rw [List.length_drop]; omega
    rw [List.length_append]
    exact Nat.le_trans (m := 2001) (by show _ + 1 + _ ≤ 2001; omega) (by decide)
  have kE := k12.trans ((j1.trans j23).trans (j4.trans (Off.new (o := .lst ((xs.eraseIdx i).take j ++ [y] ++ (xs.eraseIdx i).drop j)) n5)))
  exact q m5 _ ((k12.trans ((j1.trans j23).trans j4)).none n5 no) upd_same kE
end
end LW
set_option Elab.async false
set_option linter.all false
set_option maxRecDepth 100000
set_option maxHeartbeats 0
/-! what _law_next_right stands on -/
namespace LW
open PySem PySem.Spec PyProof.Rows L2 KV
open C8 (InsC call_isC)
/-- a statement, and what follows it, apart -/
theorem seq_cut {A B : TS} {D : Ends} {σ : L2.St} {H : Hp} (W : L2.St → Hp → Prop) (hB : ∀ σ' H', W σ' H' → B D σ' H') (hA : (∀ σ' H', W σ' H' → B D σ' H') → tSeq A B D σ H) : tSeq A B D σ H := hA hB
theorem asg_cut {r1 : VK} {r2 r3 : L2.St → Hp → Prop} {te : TE} {g : TG} {B : TS} {D : Ends} {σ : L2.St} {H : Hp} (W : L2.St → Hp → Prop) (hB : ∀ σ' H', W σ' H' → B D σ' H') (hA : (∀ σ' H', W σ' H' → B D σ' H') → tSeq (tAsg te g) B D σ H) : Ends.nx (Ends.mk (tSeq (tAsg te g) B D) r1 r2 r3) σ H := hA hB
theorem if_cut {r1 : VK} {r2 r3 : L2.St → Hp → Prop} {tc : TT} {A1 A2 B : TS} {D : Ends} {σ : L2.St} {H : Hp} (W : L2.St → Hp → Prop) (hB : ∀ σ' H', W σ' H' → B D σ' H') (hA : (∀ σ' H', W σ' H' → B D σ' H') → tSeq (tIfS tc A1 A2) B D σ H) : Ends.nx (Ends.mk (tSeq (tIfS tc A1 A2) B D) r1 r2 r3) σ H := hA hB
theorem if_cut0 {tc : TT} {A1 A2 B : TS} {D : Ends} {σ : L2.St} {H : Hp} (W : L2.St → Hp → Prop) (hB : ∀ σ' H', W σ' H' → B D σ' H') (hA : (∀ σ' H', W σ' H' → B D σ' H') → tSeq (tIfS tc A1 A2) B D σ H) : tSeq (tIfS tc A1 A2) B D σ H := hA hB
theorem name_cut {r1 : VK} {r2 r3 : L2.St → Hp → Prop} {i : Nat} {v : V} {tc : TT} {A1 A2 B : TS} {D : Ends} {σ σ' : L2.St} {H : Hp} (W : L2.St → Hp → Prop) (e : σ.set i (some v) = σ') (hB : ∀ σ' H', W σ' H' → B D σ' H') (hA : (∀ σ' H', W σ' H' → B D σ' H') → tSeq (tIfS tc A1 A2) B D σ' H) : gName i v σ H (Ends.nx (Ends.mk (tSeq (tIfS tc A1 A2) B D) r1 r2 r3)) := by
  unfold gName
  rw [e]
  exact hA hB
theorem sqT_lst {K : PySem.W.Frag} {F : Fp} {H H' : Hp} {t : Addr} {xs : List V} (k : Off F H H') (f : ∀ a, F a → ∃ xs, H a = some (.lst xs)) (h : SqT K H t xs) : SqT K H' t xs := by
  rcases h with (h | ⟨o, h⟩) | h
  · refine .inl (.inl (k _ _ h fun z => ?_))
    obtain ⟨ys, e⟩ := f _ z
    rw [h] at e
    cases e
  · refine .inl (.inr ⟨o, k _ _ h fun z => ?_⟩)
    obtain ⟨ys, e⟩ := f _ z
    rw [h] at e
    cases e
  · exact .inr h
theorem hide_k (f : Addr) (H : Hp) : Off (fun a => a = f) H (hide f H) := fun a o e n => by rwa [hide_ne n]
theorem ow_hide {H : Hp} {f : Addr} {v : V} {d : PyData} {F : Fp} (h : Ow H v d F) (l : ∃ xs, H f = some (.lst xs)) (n : ¬ F f) : Ow (hide f H) v d F :=
  h.keep (hide_k f H) (fun a z => by rw [z]; exact l) fun a z y => n (y ▸ z)
theorem lc_enum {K : PySem.W.Frag} {a : Addr} {xs : List V} {g : TG} {tt : TT} {te : TE} {vs : List Nat} {σ : L2.St} {H1 : Hp} {D : Addr} {Qd : Hp → Prop} (Pv : Nat → Hp → Prop)
    (h0 : Pv 0 (upd H1 D (.lst []))) (hl : ∀ i H, i ≤ xs.length → Pv i H → SqL K H a xs)
    (hs : ∀ i x H T, xs[i]? = some x → Pv i H → H T = none → g (.ref T) (wipe σ vs) (upd H T (.tup [.int (i : Nat), x])) fun σ2 H2 => wipe σ2 vs = wipe σ vs ∧ tt σ2 H2 fun c H3 =>
      if c = true then te σ2 H3 fun y H4 => ∃ acc, H4 D = some (.lst acc) ∧ acc.length < sizeLine ∧ Pv (i + 1) (upd H4 D (.lst (acc ++ [y]))) else Pv (i + 1) H3)
    (hd : ∀ H, Pv xs.length H → Qd H) :
    ∃ W : Nat → Nat → Hp → Prop, (∃ m, W 0 m (upd H1 D (.lst []))) ∧ ∀ i m H, W i m H →
      ((Ite K a).stop i H ∧ Qd H) ∨ ((Ite K a).go i H ∧ ∃ Nx : Hp → Prop, (∀ H', Nx H' → ∃ m', m' < m ∧ W (i + 1) m' H') ∧ ∀ x H', (Ite K a).yld i H x H' → g x (wipe σ vs) H' fun σ2 H2 => wipe σ2 vs = wipe σ vs ∧ tt σ2 H2 fun c H3 =>
        if c = true then te σ2 H3 fun y H4 => ∃ acc, H4 D = some (.lst acc) ∧ acc.length < sizeLine ∧ Nx (upd H4 D (.lst (acc ++ [y]))) else Nx H3) := by
  refine ⟨fun i m H => m = xs.length - i ∧ i ≤ xs.length ∧ Pv i H, ⟨_, rfl, Nat.zero_le _, h0⟩, ?_⟩
  rintro i m H ⟨rfl, hi, pv⟩
  have q1 := hl i H hi pv
  rcases Nat.lt_or_ge i xs.length with lt | ge
  · refine .inr ⟨⟨xs, xs[i], q1, by simp [lt]⟩, Pv (i + 1), fun H' z => ⟨xs.length - (i + 1), by omega, rfl, lt, z⟩, ?_⟩
    rintro v H' ⟨T, x, rfl, hT, rfl, e1⟩
    exact hs i x H T (e1 xs q1) pv hT
  · have e : i = xs.length := by omega
    rw [e] at pv
    exact .inl ⟨⟨xs, q1, ge⟩, hd H pv⟩
end LW
set_option Elab.async false
set_option linter.all false
set_option maxRecDepth 100000
set_option maxHeartbeats 0
/-! _law_near_rule -/
namespace LW
open PySem PySem.Spec PyProof.Rows L2 KV
/-- rule[:2] + (e,) + rule[3:] -/
theorem near_mid {K : PySem.W.Frag} {G : Hp} {σ : L2.St} {te : TE} {a c p : Addr} {cn : Nat} {k x : Str} {tl : List Str} {Q : VK} {R : Addr → Hp → Prop} (hσ : σ[1]? = some (some (.ref a))) (sa : SqT K G a (.str k :: .str x :: .ref c :: tl.map V.str)) (lt : tl.length = 0 ∨ tl.length = 1) (hp : Pu G p cn)
    (h : ∀ (G1 : Hp) (Q' : VK), Off (fun _ => False) G G1 → (∀ e G2, Off (fun b => b = p) G1 G2 → R e G2 → Q' (.ref e) G2) → te σ G1 Q')
    (q : ∀ m e G2 Gm, Off (fun b => b = p) G G2 → R e G2 → Off (fun _ => False) G2 Gm → Gm m = some (.tup (.str k :: .str x :: .ref e :: tl.map V.str)) → Q (.ref m) Gm) :
    tOp (rCatT K) (tOp (rCatT K) (tSl (rSlT K) (tVar 1) tNoPart (tPart (tC (.int 2)))) (tTup (tCons te tNil))) (tSl (rSlT K) (tVar 1) (tPart (tC (.int 3))) tNoPart) σ G Q := by
  have no : ¬ False := id
  have ecut2 : cutV (V.str k :: V.str x :: V.ref c :: tl.map V.str) none (some 2) = [.str k, .str x] := by
    rw [cutV_head (by decide)]
    rfl
  have ecut3 : cutV (V.str k :: V.str x :: V.ref c :: tl.map V.str) (some 3) none = tl.map V.str := by
    rw [cutV_tail (by decide)]
    rfl
  have len : (V.str k :: V.str x :: V.ref c :: tl.map V.str).length = tl.length + 3 := by simp
  refine ⟨_, hσ, _, rfl, a, _, rfl, sa, ?_, fun m1 n1 => ?_⟩
  · rw [len]
    rintro ⟨_, z⟩
    have : HT.sIx (tl.length + 3) (tl.length + 3) (some ((2 : Nat) : Int)) = tl.length + 3 := z
    rw [HT.sIx_nat] at this
    omega
  rw [ecut2]
  have k1 : Off (fun _ => False) G (upd G m1 (.tup [.str k, .str x])) := Off.new n1
  have e1 := upd_same (H := G) (a := m1) (o := .tup [.str k, .str x])
  generalize upd G m1 (.tup [.str k, .str x]) = G1 at k1 e1 ⊢
  refine h G1 _ k1 fun e G2 k2 r2 => ⟨(by show 1 ≤ sizeLine; decide), fun m2 n2 => ?_⟩
  have e12 : G2 m1 = some (.tup [.str k, .str x]) := k2 _ _ e1 fun z => by
    obtain ⟨ys, e⟩ := (hp.off k1 no).lst
    rw [← z, e1] at e
    cases e
  have k3 : Off (fun _ => False) G2 (upd G2 m2 (.tup [.ref e])) := Off.new n2
  have e3 := upd_same (H := G2) (a := m2) (o := .tup [.ref e])
  have kp : Off (fun b => b = p) G G2 := (Off.in k1).trans k2
  show rCatT K (.ref m1) (.ref m2) (upd G2 m2 (.tup [.ref e])) _
  generalize upd G2 m2 (.tup [.ref e]) = G3 at k3 e3 ⊢
  refine ⟨m1, m2, _, _, rfl, rfl, SqT.of (k3 _ _ e12 no), SqT.of e3, by simp, (by show 3 ≤ sizeLine; decide), (fun z => by cases z), fun _ m3 n3 => ?_⟩
  have k4 : Off (fun _ => False) G3 (upd G3 m3 (.tup ([.str k, .str x] ++ [.ref e]))) := Off.new n3
  have e4 := upd_same (H := G3) (a := m3) (o := .tup ([.str k, .str x] ++ [.ref e]))
  generalize upd G3 m3 (.tup ([.str k, .str x] ++ [.ref e])) = G4 at k4 e4 ⊢
  have k24 := k3.trans k4
  refine ⟨_, hσ, _, rfl, a, _, rfl, sqT_off k24 (sqT_but kp hp sa), ?_, fun m4 n4 => ?_⟩
  · rw [len]
    rintro ⟨z, _⟩
    have : HT.sIx (tl.length + 3) 0 (some ((3 : Nat) : Int)) = 0 := z
    rw [HT.sIx_nat] at this
    omega
  rw [ecut3]
  have k5 : Off (fun _ => False) G4 (upd G4 m4 (.tup (tl.map V.str))) := Off.new n4
  have e5 := upd_same (H := G4) (a := m4) (o := .tup (tl.map V.str))
  generalize upd G4 m4 (.tup (tl.map V.str)) = G5 at k5 e5 ⊢
  refine ⟨m3, m4, _, _, rfl, rfl, SqT.of (k5 _ _ e4 no), SqT.of e5, by simp, ?_, fun z => ?_, fun _ m6 n6 => ?_⟩
  · rw [List.length_map]
    exact Nat.le_trans (m := 10) (by show 3 + tl.length ≤ 10; omega) (by decide)
  · have tz : tl = [] := by simpa using z
    subst tz
    exact q m3 e G2 _ kp r2 (k24.trans k5) (k5 _ _ e4 no)
  · exact q m6 e G2 _ kp r2 ((k24.trans k5).trans (Off.new n6)) upd_same
/-- rule[:3] + (y,) -/
theorem near_end {K : PySem.W.Frag} {G : Hp} {σ : L2.St} {te : TE} {a c p : Addr} {cn : Nat} {k x z : Str} {Q : VK} {R : Str → Hp → Prop} (hσ : σ[1]? = some (some (.ref a))) (sa : SqT K G a [.str k, .str x, .ref c, .str z]) (hp : Pu G p cn)
    (h : ∀ (G1 : Hp) (Q' : VK), Off (fun _ => False) G G1 → (∀ y G2, Off (fun b => b = p) G1 G2 → R y G2 → Q' (.str y) G2) → te σ G1 Q')
    (q : ∀ m y G2 Gm, Off (fun b => b = p) G G2 → R y G2 → Off (fun _ => False) G2 Gm → Gm m = some (.tup [.str k, .str x, .ref c, .str y]) → Q (.ref m) Gm) :
    tOp (rCatT K) (tSl (rSlT K) (tVar 1) tNoPart (tPart (tC (.int 3)))) (tTup (tCons te tNil)) σ G Q := by
  have no : ¬ False := id
  have ecut : cutV [V.str k, V.str x, V.ref c, V.str z] none (some 3) = [.str k, .str x, .ref c] := by
    rw [cutV_head (by decide)]
    rfl
  refine ⟨_, hσ, _, rfl, a, _, rfl, sa, ?_, fun m1 n1 => ?_⟩
  · rintro ⟨_, y⟩
    have : HT.sIx 4 4 (some ((3 : Nat) : Int)) = 4 := y
    rw [HT.sIx_nat] at this
    omega
  rw [ecut]
  have k1 : Off (fun _ => False) G (upd G m1 (.tup [.str k, .str x, .ref c])) := Off.new n1
  have e1 := upd_same (H := G) (a := m1) (o := .tup [.str k, .str x, .ref c])
  generalize upd G m1 (.tup [.str k, .str x, .ref c]) = G1 at k1 e1 ⊢
  refine h G1 _ k1 fun y G2 k2 r2 => ⟨(by show 1 ≤ sizeLine; decide), fun m2 n2 => ?_⟩
  have e12 : G2 m1 = some (.tup [.str k, .str x, .ref c]) := k2 _ _ e1 fun z => by
    obtain ⟨ys, e⟩ := (hp.off k1 no).lst
    rw [← z, e1] at e
    cases e
  have k3 : Off (fun _ => False) G2 (upd G2 m2 (.tup [.str y])) := Off.new n2
  have e3 := upd_same (H := G2) (a := m2) (o := .tup [.str y])
  have kp : Off (fun b => b = p) G G2 := (Off.in k1).trans k2
  show rCatT K (.ref m1) (.ref m2) (upd G2 m2 (.tup [.str y])) _
  generalize upd G2 m2 (.tup [.str y]) = G3 at k3 e3 ⊢
  exact ⟨m1, m2, _, _, rfl, rfl, SqT.of (k3 _ _ e12 no), SqT.of e3, by simp, (by show 4 ≤ sizeLine; decide), (fun z => by cases z), fun _ m3 n3 => q m3 y G2 _ kp r2 (k3.trans (Off.new n3)) upd_same⟩
end LW
set_option Elab.async false
set_option linter.all false
set_option maxRecDepth 100000
set_option maxHeartbeats 0
/-! _law_near_rule -/
namespace LW
open PySem PySem.Spec PyProof.Rows L2 KV
def spNearR (K : PySem.W.Frag) : Sp := fun vs H Q _ => ∃ (p : Addr) (v kv : V) (ts : List Tab) (k x : Str) (cs tl : List Str) (t : Tab) (M cn : Nat), vs = [.ref p, v, kv] ∧ Dp K H v (rbD ([k, x], some (cs, tl))) ∧ ((k = "key" ∧ tl.length = 0) ∨ (k = "settles" ∧ tl.length = 1)) ∧ tabOf ts x = some t ∧ (∀ c ∈ cs ++ tl, c ∈ t.2) ∧
  cs.length ≤ M ∧ M ≤ 100 ∧ TabB 8 8 t ∧ Gd 8 x ∧ Dp K H kv (colsD t.2) ∧ Pu H p cn ∧ cn + 10 ≤ 1000000000 ∧
  ∀ (v' : V) (r' : RB) (H' : Hp) (c' : Nat), Dp K H' v' (rbD r') → RbS ts r' → RbOk 8 (M + 1) r' → Pu H' p c' → c' ≤ cn + 4 → Off (fun a => a = p) H H' → Q v' H'
theorem eraseIdx_map' {α β : Type} (f : α → β) : ∀ (xs : List α) (i : Nat), (xs.map f).eraseIdx i = (xs.eraseIdx i).map f
  | [], _ => by simp
  | x :: xs, 0 => rfl
  | x :: xs, i + 1 => by simp [eraseIdx_map' f xs i]
theorem movedL_map {α β : Type} (f : α → β) (xs : List α) (i j : Nat) (y : α) : movedL (xs.map f) i j (f y) = (movedL xs i j y).map f := by
  have e : (xs.map f).eraseIdx i = (xs.eraseIdx i).map f := eraseIdx_map' f xs i
  unfold movedL
  rw [e, List.map_append, List.map_append, List.map_take, List.map_drop]
  rfl
theorem movedL_mem {α : Type} {xs : List α} {i j : Nat} {y z : α} (hy : xs[i]? = some y) (h : z ∈ movedL xs i j y) : z ∈ xs := by
  unfold movedL at h
  rcases List.mem_append.mp h with h | h
  · rcases List.mem_append.mp h with h | h
    · exact List.mem_of_mem_eraseIdx (List.mem_of_mem_take h)
    · rw [List.mem_singleton.mp h]
      exact List.mem_of_getElem? hy
  · exact List.mem_of_mem_eraseIdx (List.mem_of_mem_drop h)
theorem movedL_len {α : Type} {xs : List α} {i j : Nat} {y : α} (hy : xs[i]? = some y) : (movedL xs i j y).length = xs.length := by
  have hi : i < xs.length := (List.getElem?_eq_some_iff.mp hy).1
  unfold movedL
  rw [List.length_append, List.length_append, List.length_take, List.length_drop, List.length_eraseIdx, if_pos hi]
  show _ + 1 + _ = _
  omega
theorem rbOk_mk {M : Nat} {k x : Str} {cs tl : List Str} {t : Tab} (hk : k = "key" ∨ k = "settles") (hx : Gd 8 x) (hc : ∀ c ∈ cs, c ∈ t.2) (lc : cs.length ≤ M) (ht : ∀ c ∈ tl, c ∈ t.2) (lt : tl.length ≤ 2) (tb : TabB 8 8 t) : RbOk 8 M ([k, x], some (cs, tl)) := by
  refine ⟨Nat.le_refl _, fun y hy => ?_, fun _ => rfl, fun a b e => ?_⟩
  · rcases List.mem_cons.mp hy with rfl | hy
    · rcases hk with rfl | rfl <;> exact gdB_ok (by decide +kernel)
    · rw [List.mem_singleton.mp hy]
      exact hx
  · cases e
    exact ⟨lc, fun c h => tb.good c (hc c h), lt, fun c h => tb.good c (ht c h)⟩
section
variable {P : Program} {w : World} {K : PySem.W.Frag} {mg : Str → Option Value} {base : Heap}
theorem scNearR : FnScope ["purse", "rule", "known", "way", "some", "spot"] ["purse", "rule", "known"] (defScope sNearRule) := ⟨rfl, rfl, rfl, by decide +kernel, rfl, by decide +kernel, by decide +kernel⟩
theorem ok_nearR {f fC fM : Addr} {fd dC dM : FuncData} (F : FnP K "_law_near_rule" sNearRule f fd) (C : Dn P w K mg base 1 "_law_coin" ["purse", "many"] spCoin fC dC) (M' : Dn P w K mg base 1 "_law_moved" ["things", "spot", "place"] (spMoved K) fM dM)
    (ml : mg "len" = none) (mL : mg "list" = none) : FnOk P w K mg base CX0 2 f fd ["purse", "rule", "known"] (spNearR K) := by
  refine F.ok scNearR (fun vs H Q E h => ?_) (fun cdv A outer s H vs Q E hr h => ?_)
  · obtain ⟨p, v, kv, ts, k, x, cs, tl, t, M, cn, rfl, _⟩ := h
    rfl
  obtain ⟨p, v, kv, ts, k, x, cs, tl, t, M, cn, rfl, hv, fm, et, mem, lM, hM, tb, gx, hk, hp, hc, q⟩ := h
  have hu : (A.deeper (envOfC "_law_near_rule" (defScope sNearRule) s.heap.objs.size f cdv)).units + 64 < cLine := hr.units
  refine ⟨_, PSs.nox (pss_cons (ps_par (i := 3) (j := 4) rfl scNearR.nd rfl rfl (by decide) rfl rfl (pa_cons (pe_call C.g hr rfl C.m C.kp C.b .nil pass0 (pa_cons (pv 0) (pa_cons pe_int pa_nil)))
        (pa_cons (pe_callTy call_list_of rfl mL boot_list (pa_cons (pe_ix ix_tup (pv 1) pe_int (fun _ _ => rfl)) pa_nil)) pa_nil)) rfl)
    (pss_cons (ps_set (i := 5) scNearR.nd rfl (Or.inl rfl) (pe_ifExp (pt_cmpR (op_neD hu) (pv 4) (pe_lst pa_nil) (nomark _)) (pe_call C.g hr rfl C.m C.kp C.b .nil pass0 (pa_cons (pv 0) (pa_cons (pe_callB call_len_seq rfl ml boot_len (pa_cons (pv 4) pa_nil)) pa_nil))) pe_int))
    (pss_cons (ps_if (pt_cmpR op_eq (pv 3) pe_int (nomark _)) (pss_one (ps_ret (pe_ifExp (pt_cmpR op_eq (pe_ix ix_tup (pv 1) pe_int (fun _ _ => rfl)) pe_str (nomark _))
        (pe_tup (pa_cons pe_str (pa_cons (pe_ix ix_tup (pv 1) pe_int (fun _ _ => rfl)) (pa_cons (pv 4) pa_nil))))
        (pe_tup (pa_cons pe_str (pa_cons (pe_ix ix_tup (pv 1) pe_int (fun _ _ => rfl)) (pa_cons (pv 4) (pa_cons (pe_ix ix_list (pv 2) pe_int (fun _ _ => rfl)) pa_nil)))))))) pss_nil)
    (pss_cons (ps_if (PW.pt (pw_and (pt_cmpR op_eq (pv 3) pe_int (nomark _)) (pw_and1 (pt_cmpR (op_neD hu) (pv 4) (pe_lst pa_nil) (nomark _)))))
      (pss_one (ps_ret (pe_op op_catT (pe_op op_catT (pe_slice sl_tup (pv 1) po_none (po_some pe_int)) (pe_tup (pa_cons (pe_op op_cat (pe_slice sl_list (pv 4) po_none (po_some (pv 5))) (pe_slice sl_list (pv 4) (po_some (pe_op op_add (pv 5) pe_int)) po_none)) pa_nil))) (pe_slice sl_tup (pv 1) (po_some pe_int) po_none)))) pss_nil)
    (pss_cons (ps_if (PW.pt (pw_and (pt_cmpR op_eq (pv 3) pe_int (nomark _)) (pw_and1 (pt_cmpR (op_neD hu) (pv 4) (pe_lst pa_nil) (nomark _)))))
      (pss_one (ps_ret (pe_op op_catT (pe_op op_catT (pe_slice sl_tup (pv 1) po_none (po_some pe_int)) (pe_tup (pa_cons (pe_call M'.g hr rfl M'.m M'.kp M'.b .nil pass0 (pa_cons (pv 4) (pa_cons (pv 5) (pa_cons pe_int pa_nil)))) pa_nil))) (pe_slice sl_tup (pv 1) (po_some pe_int) po_none)))) pss_nil)
    (pss_cons (ps_if (PW.pt (pw_and (pt_cmpR op_eq (pv 3) pe_int (nomark _)) (pw_and1 (pt_cmpR op_eq (pe_ix ix_tup (pv 1) pe_int (fun _ _ => rfl)) pe_str (nomark _)))))
      (pss_one (ps_ret (pe_op op_catT (pe_slice sl_tup (pv 1) po_none (po_some pe_int)) (pe_tup (pa_cons (pe_ix ix_list (pv 2) (pe_call C.g hr rfl C.m C.kp C.b .nil pass0 (pa_cons (pv 0) (pa_cons (pe_callB call_len_seq rfl ml boot_len (pa_cons (pv 2) pa_nil)) pa_nil))) (fun _ _ => rfl)) pa_nil))))) pss_nil)
    (pss_one (ps_ret (pe_op op_catT (pe_op op_catT (pe_slice sl_tup (pv 1) po_none (po_some pe_int)) (pe_tup (pa_cons (pe_op op_cat (pv 4) (pe_lst (pa_cons (pe_ix ix_list (pv 2) (pe_call C.g hr rfl C.m C.kp C.b .nil pass0 (pa_cons (pv 0) (pa_cons (pe_callB call_len_seq rfl ml boot_len (pa_cons (pv 2) pa_nil)) pa_nil))) (fun _ _ => rfl)) pa_nil))) pa_nil))) (pe_slice sl_tup (pv 1) (po_some pe_int) po_none)))))))))), ?_⟩
  have no : ¬ False := id
  have lt : tl.length = 0 ∨ tl.length = 1 := fm.elim (fun z => .inl z.2) fun z => .inr z.2
  have hkk : k = "key" ∨ k = "settles" := fm.elim (fun z => .inl z.1) fun z => .inr z.1
  have mc : ∀ c ∈ cs, c ∈ t.2 := fun c h => mem c (List.mem_append_left _ h)
  have mt : ∀ c ∈ tl, c ∈ t.2 := fun c h => mem c (List.mem_append_right _ h)
  obtain ⟨a, c, rfl, sa, sc⟩ := dp_rb hv
  obtain ⟨ka, rfl, sk⟩ := dp_cols hk
  have hn : noInt (rbD ([k, x], some (cs, tl))) = true := by unfold rbD; simp only [noInt]; exact noInt_rb _
  refine ⟨_, rfl, p, 5, cn, rfl, hp, by omega, by decide, by decide, fun way H1 w0 w1 hp1 b1 => ?_⟩
  have sa1 := sqT_but b1.off hp sa
  have sc1 := sqL_but b1.off hp sc strs_noInt
  refine ⟨_, rfl, a, _, 2, .ref c, rfl, rfl, sa1, atI_nat (j := 2) rfl, c, _, rfl, .inl sc1, fun l nl => ⟨_, _, rfl, ?_⟩⟩
  have k2 : Off (fun _ => False) H1 (upd H1 l (.lst (cs.map V.str))) := Off.new nl
  have e2 := upd_same (H := H1) (a := l) (o := .lst (cs.map V.str))
  have hp2 := hp1.off k2 no
  have lp : l ≠ p := fun z => by
    obtain ⟨ys, e⟩ := hp1.lst
    rw [← z, nl] at e
    cases e
  have k02 : Off (fun b => b = p) H (upd H1 l (.lst (cs.map V.str))) := b1.off.trans (Off.in k2)
  generalize upd H1 l (.lst (cs.map V.str)) = H2 at k2 e2 hp2 k02 ⊢
  have shc : SeqAt.shaped (colsD cs) = true := shaped_of (lay_cols fun y hy => (tb.good y (mc y hy)).1) (fit_cols lM fun y hy => tb.good y (mc y hy) : Fit 8 [M] (colsD cs)) (by show 1 ≤ 64; decide)
  have sh0 : SeqAt.shaped (.list []) = true := by decide +kernel
  have eqv0 : PyData.eqv (colsD cs) (.list []) = cs.isEmpty := by
    cases cs with
    | nil => rfl
    | cons y r => rfl
  have s0 : 0 ≤ sizeLine := by decide
  have lcs : cs.length ≤ 100 := Nat.le_trans lM hM
  have lt2 : t.2.length ≤ 8 := tb.most
  have dcs : ∀ {G : Hp} {a : Addr}, G a = some (.lst (cs.map V.str)) → Dp K G (.ref a) (colsD cs) := fun e => .lst (SqL.of e) (dp_strs cs)
  -- what is answered
  have fin : ∀ (m : Addr) (G : Hp) (c' : Nat) (k' : Str) (cs' tl' : List Str), Dp K G (.ref m) (rbD ([k', x], some (cs', tl'))) → ((k' = "key" ∧ tl'.length = 0) ∨ (k' = "settles" ∧ tl'.length = 1)) → (∀ c ∈ cs', c ∈ t.2) → (∀ c ∈ tl', c ∈ t.2) → cs'.length ≤ M + 1 → Pu G p c' → c' ≤ cn + 4 → Off (fun b => b = p) H G → Q (.ref m) G :=
    fun m G c' k' cs' tl' d fm' m1 m2 l1 hp' hc' kk => q (.ref m) _ G c' d ⟨k', x, cs', tl', t, rfl, fm', et, fun c h => (List.mem_append.mp h).elim (m1 c) (m2 c)⟩ (rbOk_mk (fm'.elim (fun z => .inl z.1) fun z => .inr z.1) gx m1 l1 m2 (by rcases fm' with z | z <;> omega) tb) hp' hc' kk
  refine asg_cut (fun σ G => ∃ (sp cc : Nat), σ = [some (.ref p), some (.ref a), some (.ref ka), some (.int way), some (.ref l), some (.int (sp : Nat))] ∧ (cs ≠ [] → sp < cs.length) ∧ sp ≤ 100 ∧ G l = some (.lst (cs.map V.str)) ∧ Pu G p cc ∧ cc ≤ cn + 2 ∧ Off (fun b => b = p) H2 G) (fun σ G g => ?_) (fun rest => ?_)
  rotate_left
  · refine ⟨_, rfl, s0, fun m nm => ⟨colsD cs, .list [], dcs ((upd_ne (ne_of_none e2 nm)).trans e2), .lst (SqL.of upd_same) .nil, shc, sh0, _, rfl, ?_⟩⟩
    have k3 : Off (fun _ => False) H2 (upd H2 m (.lst [])) := Off.new nm
    have e3 := k3 _ _ e2 no
    have hp3 := hp2.off k3 no
    rw [eqv0]
    cases hcs : cs.isEmpty with
    | true => exact ite2 (fun z => by cases z) fun _ => rest _ _ ⟨0, cn + 1, rfl, fun z => (z (List.isEmpty_iff.mp hcs)).elim, by decide, e3, hp3, by omega, Off.in k3⟩
    | false =>
      have pos : 0 < cs.length := List.length_pos_iff.mpr fun z => by rw [z] at hcs; cases hcs
      refine ite2 (fun _ => ?_) fun z => (z rfl).elim
      refine ⟨_, rfl, _, rfl, l, _, rfl, .inl (SqL.of e3), p, ((cs.map V.str).length : Int), cn + 1, rfl, hp3, by omega, by rw [List.length_map]; omega, by rw [List.length_map]; omega, fun i H4 i0 i1 hp4 b4 => ?_⟩
      rw [List.length_map] at i1
      obtain ⟨sp, rfl⟩ : ∃ sp : Nat, i = (sp : Int) := ⟨i.toNat, by omega⟩
      exact rest _ _ ⟨sp, cn + 2, rfl, fun _ => by omega, by omega, b4.off _ _ e3 lp, hp4, by omega, (Off.in k3).trans b4.off⟩
  obtain ⟨sp, cc, rfl, hsp, lsp, el, hpG, hcG, kG⟩ := g
  have kHG := k02.trans kG
  have saG := sqT_but kHG hp sa
  have scG := sqL_but kHG hp sc strs_noInt
  have skG := sqL_but kHG hp sk strs_noInt
  have at0 : atI (V.str k :: V.str x :: V.ref c :: tl.map V.str) 0 = some (V.str k) := atI_nat (j := 0) rfl
  have at1 : atI (V.str k :: V.str x :: V.ref c :: tl.map V.str) 1 = some (V.str x) := atI_nat (j := 1) rfl
  have ne : ∀ {a b : Int}, a ≠ b → ¬ decide (V.int a = V.int b) = true := fun h z => h (V.int.inj (of_decide_eq_true z))
  -- a column of the table, drawn
  have col : ∀ {σ : L2.St} {G1 : Hp} {Q' : VK} {c1 : Nat}, σ[0]? = some (some (.ref p)) → σ[2]? = some (some (.ref ka)) → SqL K G1 ka (t.2.map V.str) → Pu G1 p c1 → c1 ≤ 1000000000 → (∀ y G2, y ∈ t.2 → Pu G2 p (c1 + 1) → Off (fun b => b = p) G1 G2 → Q' (.str y) G2) →
      tOp (rIxL K) (tVar 2) (tCall spCoin [] E0 (tCons (tVar 0) (tCons (tCB (fun xs H Q => ∃ p ys, xs = [V.ref p] ∧ (SqL K H p ys ∨ SqT K H p ys) ∧ Q (.int ys.length) H) (tCons (tVar 2) tNil)) tNil))) σ G1 Q' := fun {σ G1 Q' c1} h0 h2 sG hp1 hc1 qq => by
    have t1 := tb.one
    refine ⟨_, h2, _, h0, _, h2, ka, _, rfl, .inl sG, p, ((t.2.map V.str).length : Int), c1, rfl, hp1, by omega, by rw [List.length_map]; omega, by rw [List.length_map]; omega, fun i G2 i0 i1 hp2 b2 => ?_⟩
    rw [List.length_map] at i1
    obtain ⟨j, rfl⟩ : ∃ j : Nat, i = (j : Int) := ⟨i.toNat, by omega⟩
    have hj : j < t.2.length := by omega
    refine ⟨ka, _, (j : Int), .str t.2[j], rfl, rfl, sqL_but b2.off hp1 sG strs_noInt, atI_nat (by rw [List.getElem?_map, List.getElem?_eq_getElem hj]; rfl), ?_⟩
    exact qq _ G2 (List.getElem_mem hj) hp2 b2.off
  refine ⟨_, rfl, rfl, _, rfl, ite2 (fun _ => ?_) (fun z0 => ?_)⟩
  · refine ⟨_, rfl, a, _, 0, _, rfl, rfl, saG, at0, rfl, _, rfl, ite2 (fun _ => ?_) (fun _ => ?_)⟩
    · refine ⟨_, rfl, a, _, 1, _, rfl, rfl, saG, at1, _, rfl, (by show 3 ≤ sizeLine; decide), fun m nm => ?_⟩
      have kn : Off (fun _ => False) G (upd G m (.tup [.str "key", .str x, .ref l])) := Off.new nm
      exact fin m _ cc "key" cs [] (dp_rb_mk (tl := []) (SqT.of upd_same) (SqL.of (kn _ _ el no))) (.inl ⟨rfl, rfl⟩) mc (fun c h => absurd h (by simp)) (by omega) (hpG.off kn no) (by omega) (kHG.trans (Off.in kn))
    · have t1 := tb.one
      obtain ⟨y0, hy0⟩ : ∃ y0, t.2[0]? = some y0 := ⟨_, List.getElem?_eq_getElem t1⟩
      refine ⟨_, rfl, a, _, 1, _, rfl, rfl, saG, at1, _, rfl, _, rfl, ka, _, 0, .str y0, rfl, rfl, skG, atI_nat (j := 0) (by rw [List.getElem?_map, hy0]; rfl), (by show 4 ≤ sizeLine; decide), fun m nm => ?_⟩
      have kn : Off (fun _ => False) G (upd G m (.tup [.str "settles", .str x, .ref l, .str y0])) := Off.new nm
      exact fin m _ cc "settles" cs [y0] (dp_rb_mk (tl := [y0]) (SqT.of upd_same) (SqL.of (kn _ _ el no))) (.inr ⟨rfl, rfl⟩) mc (fun c h => by rw [List.mem_singleton.mp h]; exact List.mem_of_getElem? hy0) (by omega) (hpG.off kn no) (by omega) (kHG.trans (Off.in kn))
  -- some columns
  have ending : ∀ {G3 : Hp} {cs' : List Str} {c1 : Nat}, (∀ c ∈ cs', c ∈ t.2) → cs'.length ≤ M + 1 → c1 ≤ cn + 4 → Off (fun b => b = p) H G3 → ∀ (m e : Addr) (G2 Gm : Hp), Off (fun b => b = p) G3 G2 → (G2 e = some (.lst (cs'.map V.str)) ∧ Pu G2 p c1) → Off (fun _ => False) G2 Gm → Gm m = some (.tup (.str k :: .str x :: .ref e :: tl.map V.str)) → Q (.ref m) Gm :=
    fun m1 l1 h1 k3 m e G2 Gm kp r2 kk em => fin m Gm _ k _ tl (dp_rb_mk (SqT.of em) (SqL.of (kk _ _ r2.1 no))) fm m1 mt l1 (r2.2.off kk no) h1 ((k3.trans kp).trans (Off.in kk))
  refine if_cut (fun σ G' => σ = [some (.ref p), some (.ref a), some (.ref ka), some (.int way), some (.ref l), some (.int (sp : Nat))] ∧ Off (fun _ => False) G G') (fun σ G' g => ?_) (fun rest => ?_)
  rotate_left
  · refine ⟨_, rfl, rfl, _, rfl, ite2 (fun _ => ?_) (fun _ => rest _ _ ⟨rfl, Off.refl _ _⟩)⟩
    refine ⟨_, rfl, s0, fun m nm => ⟨colsD cs, .list [], dcs ((upd_ne (ne_of_none el nm)).trans el), .lst (SqL.of upd_same) .nil, shc, sh0, _, rfl, ?_⟩⟩
    have k3 : Off (fun _ => False) G (upd G m (.lst [])) := Off.new nm
    have e3 := k3 _ _ el no
    have hp3 := hpG.off k3 no
    generalize upd G m (.lst []) = G3 at k3 e3 hp3 ⊢
    rw [eqv0]
    cases hcs : cs.isEmpty with
    | true => exact ite2 (fun z => by cases z) fun _ => rest _ _ ⟨rfl, k3⟩
    | false =>
      have hne : cs ≠ [] := fun z => by rw [z] at hcs; cases hcs
      refine ite2 (fun _ => ?_) fun z => (z rfl).elim
      have k03 := kHG.trans (Off.in k3)
      refine near_mid (K := K) (p := p) (cn := cc) (R := fun e G2 => G2 e = some (.lst ((cs.take sp ++ cs.drop (sp + 1)).map V.str)) ∧ Pu G2 p cc) rfl (sqT_off k3 saG) lt hp3 (fun G1 Q' k4 qq => ?_) (ending (fun c h => (List.mem_append.mp h).elim (fun h => mc c (List.mem_of_mem_take h)) fun h => mc c (List.mem_of_mem_drop h)) (by rw [List.length_append, List.length_take, List.length_drop]; omega) (by omega) k03)
      have e4 := k4 _ _ e3 no
      have c1 : cutV (cs.map V.str) none (some (sp : Int)) = (cs.take sp).map V.str := by rw [cutV_head (by omega), List.map_take]; rfl
      have c2 : cutV (cs.map V.str) (some ((sp : Int) + 1)) none = (cs.drop (sp + 1)).map V.str := by
        rw [cutV_tail (by omega), List.map_drop]
        congr 1
      refine ⟨_, rfl, _, rfl, _, rfl, l, _, rfl, SqL.of e4, fun m1 n1 => ?_⟩
      rw [c1]
      have j1 : Off (fun _ => False) G1 (upd G1 m1 (.lst ((cs.take sp).map V.str))) := Off.new n1
      have f1 := upd_same (H := G1) (a := m1) (o := .lst ((cs.take sp).map V.str))
      generalize upd G1 m1 (.lst ((cs.take sp).map V.str)) = G5 at j1 f1 ⊢
      refine ⟨_, rfl, _, rfl, _, _, rfl, rfl, _, rfl, l, _, rfl, SqL.of (j1 _ _ e4 no), fun m2 n2 => ?_⟩
      rw [c2]
      have j2 : Off (fun _ => False) G5 (upd G5 m2 (.lst ((cs.drop (sp + 1)).map V.str))) := Off.new n2
      refine ⟨m1, m2, _, _, rfl, rfl, j2 _ _ f1 no, upd_same, ?_, fun m3 n3 => ?_⟩
      · rw [List.length_map, List.length_map, List.length_take, List.length_drop]
        exact Nat.le_trans (m := 200) (by omega) (by decide)
      have j3 := (j1.trans j2).trans (Off.new (o := .lst ((cs.take sp).map V.str ++ (cs.drop (sp + 1)).map V.str)) n3)
      exact qq m3 _ (Off.in j3) ⟨by rw [upd_same, List.map_append], hp3.off (k4.trans j3) no⟩
  obtain ⟨rfl, kW⟩ := g
  refine if_cut0 (fun σ G'' => σ = [some (.ref p), some (.ref a), some (.ref ka), some (.int way), some (.ref l), some (.int (sp : Nat))] ∧ Off (fun _ => False) G G'') (fun σ G'' g => ?_) (fun rest => ?_)
  rotate_left
  · refine ⟨_, rfl, rfl, _, rfl, ite2 (fun _ => ?_) (fun _ => rest _ _ ⟨rfl, kW⟩)⟩
    have elW := kW _ _ el no
    refine ⟨_, rfl, s0, fun m nm => ⟨colsD cs, .list [], dcs ((upd_ne (ne_of_none elW nm)).trans elW), .lst (SqL.of upd_same) .nil, shc, sh0, _, rfl, ?_⟩⟩
    have k3 : Off (fun _ => False) G (upd G' m (.lst [])) := kW.trans (Off.new nm)
    have e3 := k3 _ _ el no
    have hp3 := hpG.off k3 no
    generalize upd G' m (.lst []) = G3 at k3 e3 hp3 ⊢
    rw [eqv0]
    cases hcs : cs.isEmpty with
    | true => exact ite2 (fun z => by cases z) fun _ => rest _ _ ⟨rfl, k3⟩
    | false =>
      have hne : cs ≠ [] := fun z => by rw [z] at hcs; cases hcs
      refine ite2 (fun _ => ?_) fun z => (z rfl).elim
      have k03 := kHG.trans (Off.in k3)
      have hsl := hsp hne
      obtain ⟨y, hy⟩ : ∃ y, cs[sp]? = some y := ⟨_, List.getElem?_eq_getElem hsl⟩
      refine near_mid (K := K) (p := p) (cn := cc) (R := fun e G2 => G2 e = some (.lst ((movedL cs sp 0 y).map V.str)) ∧ Pu G2 p cc) rfl (sqT_off k3 saG) lt hp3 (fun G1 Q' k4 qq => ?_) (ending (fun c h => mc c (movedL_mem hy h)) (by rw [movedL_len hy]; omega) (by omega) k03)
      have e4 := k4 _ _ e3 no
      refine ⟨_, rfl, _, rfl, l, cs.map V.str, sp, 0, .str y, rfl, SqL.of e4, by rw [List.getElem?_map, hy]; rfl, by rw [List.length_map]; omega, by decide, fun m3 H' n3 e5 j3 => ?_⟩
      exact qq m3 _ (Off.in j3) ⟨by rw [e5, movedL_map], hp3.off (k4.trans j3) no⟩
  obtain ⟨rfl, kW2⟩ := g
  have hpW := hpG.off kW2 no
  have saW := sqT_off kW2 saG
  have skW := sqL_off kW2 skG
  have elW := kW2 _ _ el no
  have kHW := kHG.trans (Off.in kW2)
  have last : ∀ {G3 : Hp}, Off (fun _ => False) G'' G3 → tOp (rCatT K) (tOp (rCatT K) (tSl (rSlT K) (tVar 1) tNoPart (tPart (tC (.int 2)))) (tTup (tCons (tOp rCat (tVar 4) (tLst (tCons (tOp (rIxL K) (tVar 2) (tCall spCoin [] E0 (tCons (tVar 0) (tCons (tCB (fun xs H Q => ∃ p ys, xs = [V.ref p] ∧ (SqL K H p ys ∨ SqT K H p ys) ∧ Q (.int ys.length) H) (tCons (tVar 2) tNil)) tNil)))) tNil))) tNil))) (tSl (rSlT K) (tVar 1) (tPart (tC (.int 3))) tNoPart)
      [some (.ref p), some (.ref a), some (.ref ka), some (.int way), some (.ref l), some (.int (sp : Nat))] G3 Q := fun {G3} k3 => by
    have hp3 := hpW.off k3 no
    refine near_mid (K := K) (p := p) (cn := cc) (R := fun e G2 => ∃ y ∈ t.2, G2 e = some (.lst ((cs ++ [y]).map V.str)) ∧ Pu G2 p (cc + 1)) rfl (sqT_off k3 saW) lt hp3 (fun G1 Q' k4 qq => ?_) (fun m e G2 Gm kp r2 kk em => ?_)
    · have e4 := k4 _ _ (k3 _ _ elW no) no
      have hp4 := hp3.off k4 no
      refine ⟨_, rfl, col (c1 := cc) rfl rfl (sqL_off (k3.trans k4) skW) hp4 (by omega) fun y G2 hy hp5 k5 => ⟨(by show 1 ≤ sizeLine; decide), fun m nm => ?_⟩⟩
      have k6 : Off (fun _ => False) G2 (upd G2 m (.lst [.str y])) := Off.new nm
      have e5 := k6 _ _ (k5 _ _ e4 lp) no
      refine ⟨l, m, _, _, rfl, rfl, e5, upd_same, ?_, fun m3 n3 => ?_⟩
      · rw [List.length_map]
        exact Nat.le_trans (m := 200) (by show cs.length + 1 ≤ 200; omega) (by decide)
      have j3 := k6.trans (Off.new (o := .lst (cs.map V.str ++ [V.str y])) n3)
      exact qq m3 _ (k5.trans (Off.in j3)) ⟨y, hy, by rw [upd_same, List.map_append]; rfl, hp5.off j3 no⟩
    · obtain ⟨y, hy, e5, hp5⟩ := r2
      exact ending (cs' := cs ++ [y]) (c1 := cc + 1) (fun c h => (List.mem_append.mp h).elim (mc c) fun h => by rw [List.mem_singleton.mp h]; exact hy) (by rw [List.length_append]; show cs.length + 1 ≤ _; omega) (by omega) (kHW.trans (Off.in k3)) m e G2 Gm kp ⟨e5, hp5⟩ kk em
  refine ⟨_, rfl, rfl, _, rfl, ite2 (fun _ => ?_) (fun _ => last (Off.refl _ _))⟩
  refine ⟨_, rfl, a, _, 0, _, rfl, rfl, saW, at0, rfl, _, rfl, ite2 (fun z => ?_) (fun _ => last (Off.refl _ _))⟩
  have ks : k = "settles" := V.str.inj (of_decide_eq_true z)
  obtain ⟨y0, ety⟩ : ∃ y0, tl = [y0] := by
    rcases fm with ⟨z1, _⟩ | ⟨_, z2⟩
    · rw [ks] at z1
      exact absurd z1 (by decide)
    · match tl, z2 with
      | [y0], _ => exact ⟨y0, rfl⟩
  subst ety
  refine near_end (K := K) (p := p) (cn := cc) (R := fun y G2 => y ∈ t.2 ∧ Pu G2 p (cc + 1)) rfl saW hpW (fun G1 Q' k4 qq => ?_) (fun m y G2 Gm kp r2 kk em => ?_)
  · exact col (c1 := cc) rfl rfl (sqL_off k4 skW) (hpW.off k4 no) (by omega) fun y G2 hy hp5 k5 => qq y G2 k5 ⟨hy, hp5⟩
  · have scE := sqL_off kk (sqL_but (kHW.trans kp) hp sc strs_noInt)
    exact fin m Gm _ k cs [y] (dp_rb_mk (tl := [y]) (SqT.of em) scE) (.inr ⟨ks, rfl⟩) mc (fun c h => by rw [List.mem_singleton.mp h]; exact r2.1) (by omega) (r2.2.off kk no) (by omega) ((kHW.trans kp).trans (Off.in kk))
end
end LW
set_option Elab.async false
set_option linter.all false
set_option maxRecDepth 100000
set_option maxHeartbeats 0
/-! what _law_near_book stands on -/
namespace LW
open PySem PySem.Spec PyProof.Rows L2 KV
/-- tables as they stand in a near book: perhaps none -/
structure Gv (ts : List Tab) : Prop where
  most : ts.length ≤ 6
  nd : (ts.map Prod.fst).Nodup
  each : ∀ t ∈ ts, TabOk 8 t
structure Rl (M : Nat) (ts : List Tab) (rs : List RB) : Prop where
  s : ∀ r ∈ rs, RbS ts r
  ok : ∀ r ∈ rs, RbOk 8 M r
  len : rs.length ≤ 20
theorem tabB_ok {t : Tab} (h : TabOk 8 t) : TabB 8 8 t := ⟨h.one, h.most, fun x hx => (h.good x hx).gd, h.name.gd⟩
theorem Gv.w {ts : List Tab} (h : Gv ts) : TabsW 8 8 6 ts := ⟨h.most, fun t ht => tabB_ok (h.each t ht)⟩
theorem RbOk.up {n m m' : Nat} {r : RB} (h : RbOk n m r) (l : m ≤ m') : RbOk n m' r :=
  ⟨h.head, h.hg, h.two, fun a b e => ⟨Nat.le_trans (h.cs a b e).1 l, (h.cs a b e).2⟩⟩
theorem Rl.up {M M' : Nat} {ts : List Tab} {rs : List RB} (h : Rl M ts rs) (l : M ≤ M') : Rl M' ts rs := ⟨h.s, fun r hr => (h.ok r hr).up l, h.len⟩
/-- a rule with a form keeps it where its table is still there with its columns -/
theorem rbS_to {ts ts' : List Tab} {r : RB} (h : RbS ts r) (nd : (ts'.map Prod.fst).Nodup) (g : ∀ t, tabOf ts (r.1.getD 1 "") = some t → ∃ t' ∈ ts', t'.1 = t.1 ∧ ∀ c ∈ t.2, c ∈ t'.2) : RbS ts' r := by
  obtain ⟨k, x, cs, tl, t, rfl, fm, e, hc⟩ := h
  obtain ⟨t', m, e1, e2⟩ := g t e
  have ex : t.1 = x := by
    have := List.find?_some (show ts.find? (fun t => decide (t.1 = x)) = some t from e)
    exact of_decide_eq_true this
  have e3 := tabOf_nd nd m
  rw [e1, ex] at e3
  exact ⟨k, x, cs, tl, t', rfl, fm, e3, fun c h => e2 c (hc c h)⟩
theorem tabOf_mem {ts : List Tab} {x : Str} {t : Tab} (h : tabOf ts x = some t) : t ∈ ts ∧ t.1 = x :=
  by
  have := List.find?_some (show ts.find? (fun t => decide (t.1 = x)) = some t from h)
  exact ⟨List.mem_of_find?_eq_some h, of_decide_eq_true this⟩
/-- rules over tables that hold all the old ones -/
theorem Rl.grow {M : Nat} {ts ts' : List Tab} {rs : List RB} (h : Rl M ts rs) (nd : (ts'.map Prod.fst).Nodup) (g : ∀ t ∈ ts, ∃ t' ∈ ts', t'.1 = t.1 ∧ ∀ c ∈ t.2, c ∈ t'.2) : Rl M ts' rs :=
  ⟨fun r hr => rbS_to (h.s r hr) nd fun t e => g t (tabOf_mem e).1, h.ok, h.len⟩
theorem Rl.sub {M : Nat} {ts : List Tab} {rs rs' : List RB} (h : Rl M ts rs) (m : ∀ r ∈ rs', r ∈ rs) (l : rs'.length ≤ 20) : Rl M ts rs' := ⟨fun r hr => h.s r (m r hr), fun r hr => h.ok r (m r hr), l⟩
theorem erase_perm {α : Type} : ∀ {xs : List α} {i : Nat} {y : α}, xs[i]? = some y → (y :: xs.eraseIdx i).Perm xs
  | [], i, y, h => by simp at h
  | x :: xs, 0, y, h => by
    cases h
    exact List.Perm.refl _
  | x :: xs, i + 1, y, h => by
    have h : xs[i]? = some y := h
    exact (List.Perm.swap x y _).trans ((erase_perm h).cons x)
theorem movedL_perm {α : Type} {xs : List α} {i j : Nat} {y : α} (hy : xs[i]? = some y) : (movedL xs i j y).Perm xs := by
  have p1 := erase_perm hy
  refine List.Perm.trans ?_ p1
  unfold movedL
  rw [List.append_assoc]
  refine List.Perm.trans (List.perm_middle (l₁ := (xs.eraseIdx i).take j) (l₂ := (xs.eraseIdx i).drop j) (a := y)) ?_
  rw [List.take_append_drop]
theorem dpAll_erase {K : PySem.W.Frag} {H : Hp} : ∀ {xs : List V} {ds : List PyData} (i : Nat), DpAll K H xs ds → DpAll K H (xs.eraseIdx i) (ds.eraseIdx i)
  | _, _, _, .nil => .nil
  | _, _, 0, .cons h r => r
  | _, _, i + 1, .cons h r => .cons h (dpAll_erase i r)
theorem dpAll_moved {K : PySem.W.Frag} {H : Hp} {xs : List V} {ds : List PyData} {i j : Nat} {y : V} {d : PyData} (h : DpAll K H xs ds) (hd : Dp K H y d) : DpAll K H (movedL xs i j y) (movedL ds i j d) :=
  dpAll_append (dpAll_append (dpAll_take _ (dpAll_erase _ h)) (.cons hd .nil)) (dpAll_drop _ (dpAll_erase _ h))
theorem noIntAll_tabs (ts : List Tab) : noIntAll (ts.map tabD) = true := noInt_tabs ts
theorem noIntAll_rbs (rs : List RB) : noIntAll (rs.map rbD) = true := noInt_rbs rs
/-- the two lists of a near book, each at its own place, their items apart from them -/
structure NB (K : PySem.W.Frag) (H G : Hp) (p g kk : Addr) (c : Nat) (gs ks : List V) (ts : List Tab) (rs : List RB) : Prop where
  eg : G g = some (.lst gs)
  ek : G kk = some (.lst ks)
  dt : DpAll K (hide kk (hide g G)) gs (ts.map tabD)
  dr : DpAll K (hide kk (hide g G)) ks (rs.map rbD)
  pg : p ≠ g
  pk : p ≠ kk
  gk : g ≠ kk
  ng : H g = none
  nk : H kk = none
  pu : Pu G p c
  off : Off (fun a => a = p) H G
section
variable {K : PySem.W.Frag} {H G G' : Hp} {p g kk : Addr} {c c' : Nat} {gs ks : List V} {ts : List Tab} {rs : List RB}
theorem NB.to (h : NB K H G p g kk c gs ks ts rs) (k : Off (fun a => a = p) G G') (pu : Pu G' p c') : NB K H G' p g kk c' gs ks ts rs := by
  have k2 : Off (fun a => a = p) (hide kk (hide g G)) (hide kk (hide g G')) := hide_off (hide_off k)
  have p2 : Pu (hide kk (hide g G)) p c := pu_hide (pu_hide h.pu h.pg) h.pk
  exact ⟨k _ _ h.eg (Ne.symm h.pg), k _ _ h.ek (Ne.symm h.pk), dpAll_but k2 p2 h.dt (noIntAll_tabs _), dpAll_but k2 p2 h.dr (noIntAll_rbs _), h.pg, h.pk, h.gk, h.ng, h.nk, pu, h.off.trans k⟩
theorem NB.keep (h : NB K H G p g kk c gs ks ts rs) (k : Off (fun _ => False) G G') : NB K H G' p g kk c gs ks ts rs := h.to (Off.in k) (h.pu.off k id)
theorem hh_in {kk g : Addr} {G : Hp} : Off (fun _ => False) (hide kk (hide g G)) G := hide_in.trans hide_in
theorem NB.dpt (h : NB K H G p g kk c gs ks ts rs) : Dp K G (.ref g) (tabsD ts) := .lst (SqL.of h.eg) (dpAll_off hh_in h.dt)
theorem NB.dpr (h : NB K H G p g kk c gs ks ts rs) : Dp K G (.ref kk) (rbsD rs) := .lst (SqL.of h.ek) (dpAll_off hh_in h.dr)
theorem NB.lt (h : NB K H G p g kk c gs ks ts rs) : gs.length = ts.length := by rw [dpAll_len h.dt, List.length_map]
theorem NB.lk (h : NB K H G p g kk c gs ks ts rs) : ks.length = rs.length := by rw [dpAll_len h.dr, List.length_map]
theorem NB.set_t {gs' : List V} {ts' : List Tab} (h : NB K H G p g kk c gs ks ts rs) (d : DpAll K (hide kk (hide g G)) gs' (ts'.map tabD)) : NB K H (upd G g (.lst gs')) p g kk c gs' ks ts' rs := by
  have e : hide kk (hide g (upd G g (.lst gs'))) = hide kk (hide g G) := by rw [hide_upd]
  refine ⟨upd_same, (upd_ne (Ne.symm h.gk)).trans h.ek, by rw [e]; exact d, by rw [e]; exact h.dr, h.pg, h.pk, h.gk, h.ng, h.nk, h.pu.at (upd_ne h.pg), fun a o ea n => ?_⟩
  rw [upd_ne fun z => by rw [z, h.ng] at ea; cases ea]
  exact h.off a o ea n
theorem hide_swap {a b : Addr} {G : Hp} : hide a (hide b G) = hide b (hide a G) := by
  funext x
  unfold hide
  by_cases h1 : x = a <;> by_cases h2 : x = b <;> simp [h1, h2]
theorem NB.set_r {ks' : List V} {rs' : List RB} (h : NB K H G p g kk c gs ks ts rs) (d : DpAll K (hide kk (hide g G)) ks' (rs'.map rbD)) : NB K H (upd G kk (.lst ks')) p g kk c gs ks' ts rs' := by
  have e : hide kk (hide g (upd G kk (.lst ks'))) = hide kk (hide g G) := by rw [hide_swap, hide_upd, hide_swap]
  refine ⟨(upd_ne h.gk).trans h.eg, upd_same, by rw [e]; exact h.dt, by rw [e]; exact d, h.pg, h.pk, h.gk, h.ng, h.nk, h.pu.at (upd_ne h.pk), fun a o ea n => ?_⟩
  rw [upd_ne fun z => by rw [z, h.nk] at ea; cases ea]
  exact h.off a o ea n
theorem dpAll_ref_t {K : PySem.W.Frag} {H : Hp} {xs : List V} {ts : List Tab} (h : DpAll K H xs (ts.map tabD)) : ∀ v ∈ xs, ∃ a, v = .ref a := by
  intro v hv
  obtain ⟨i, hi⟩ := List.mem_iff_getElem?.mp hv
  obtain ⟨d, hd, dv⟩ := dpAll_at h hi
  rw [List.getElem?_map] at hd
  obtain ⟨t, _, rfl⟩ := Option.map_eq_some_iff.mp hd
  obtain ⟨a, w, rfl, _⟩ := dp_tab dv
  exact ⟨a, rfl⟩
/-- a rule stands apart from a list of references -/
theorem rb_apart {K : PySem.W.Frag} {G : Hp} {f a : Addr} {xs : List V} {v : V} {k x : Str} {cs tl : List Str} (ef : G f = some (.lst xs)) (hx : .ref a ∈ xs) (d : Dp K G v (rbD ([k, x], some (cs, tl)))) : Dp K (hide f G) v (rbD ([k, x], some (cs, tl))) := by
  obtain ⟨b, e, rfl, sb, se⟩ := dp_rb d
  refine dp_rb_mk (sqT_lst (hide_k f G) (fun y z => by rw [z]; exact ⟨_, ef⟩) sb) ?_
  rcases se with (h | ⟨o, h⟩) | h
  · refine .inl (.inl ?_)
    rw [hide_ne fun z => by
      rw [z, ef] at h
      cases h
      obtain ⟨y, _, e⟩ := List.mem_map.mp hx
      cases e]
    exact h
  · refine .inl (.inr ⟨o, ?_⟩)
    rw [hide_ne fun z => by rw [z, ef] at h; cases h]
    exact h
  · exact .inr h
theorem sqT_hide2 {K : PySem.W.Frag} {G : Hp} {g kk m : Addr} {gs ks xs : List V} (eg : G g = some (.lst gs)) (ek : G kk = some (.lst ks)) (h : SqT K G m xs) : SqT K (hide kk (hide g G)) m xs := by
  rcases h with (h | ⟨o, h⟩) | h
  · have n1 : m ≠ kk := fun z => by
      rw [z, ek] at h
      cases h
    have n2 : m ≠ g := fun z => by
      rw [z, eg] at h
      cases h
    refine .inl (.inl ?_)
    rw [hide_ne n1, hide_ne n2]
    exact h
  · have n1 : m ≠ kk := fun z => by
      rw [z, ek] at h
      cases h
    have n2 : m ≠ g := fun z => by
      rw [z, eg] at h
      cases h
    refine .inl (.inr ⟨o, ?_⟩)
    rw [hide_ne n1, hide_ne n2]
    exact h
  · exact .inr h
end
theorem owAll_hide {H : Hp} {f : Addr} {vs : List V} {ds : List PyData} {F : Fp} (h : OwAll H vs ds F) (l : ∃ xs, H f = some (.lst xs)) (n : ¬ F f) : OwAll (hide f H) vs ds F :=
  h.keep (hide_k f H) (fun a z => by rw [z]; exact l) fun a z y => n (y ▸ z)
theorem nb_make {K : PySem.W.Frag} {H H1 H2 H3 : Hp} {p : Addr} {c : Nat} {v1 v2 : V} {ts : List Tab} {rs : List RB} {F1 F2 : Fp} (k1 : Off (fun a => a = p) H H1) (hp1 : Pu H1 p c) (o1 : Ow H2 v1 (tabsD ts) F1) (f1 : ∀ a, F1 a → H1 a = none) (k2 : Off (fun _ => False) H1 H2)
    (o2 : Ow H3 v2 (rbsD rs) F2) (f2 : ∀ a, F2 a → H2 a = none) (k3 : Off (fun _ => False) H2 H3) : ∃ g kk gs ks, v1 = .ref g ∧ v2 = .ref kk ∧ NB K H H3 p g kk c gs ks ts rs := by
  have no : ¬ False := id
  have o1' := o1.keep k3 (fun _ z => z.elim) fun _ _ z => z
  have dj : ∀ a, F1 a → ¬ F2 a := fun a h1 h2 => by
    obtain ⟨xs, e⟩ := o1.dom a h1
    rw [f2 a h2] at e
    cases e
  have hp3 := (hp1.off k2 no).off k3 no
  have np : ∀ {a : Addr}, H1 a = none → p ≠ a := fun h z => by
    obtain ⟨xs, e⟩ := hp1.lst
    rw [z, h] at e
    cases e
  have nH : ∀ {a : Addr}, H1 a = none → H a = none := fun {a} h => by
    cases e : H a with
    | none => rfl
    | some o =>
      have := k1 a o e fun z => np h z.symm
      rw [h] at this
      cases this
  have f2' : ∀ a, F2 a → H1 a = none := fun a h => by
    cases e : H1 a with
    | none => rfl
    | some o =>
      have := k2 a o e no
      rw [f2 a h] at this
      cases this
  cases o1' with
  | lst h1 r1 n1 e1 =>
    rename_i FA g gs
    cases o2 with
    | lst h2 r2 n2 e2 =>
      rename_i FB kk ks
      have gF : F1 g := (e1 g).mpr (.inl rfl)
      have kF : F2 kk := (e2 kk).mpr (.inl rfl)
      have gk : g ≠ kk := fun z => dj g gF (z ▸ kF)
      have l2 : ∃ xs, hide g H3 kk = some (.lst xs) := ⟨ks, by rw [hide_ne (Ne.symm gk)]; exact h2⟩
      have t1 := owAll_hide (owAll_hide r1 ⟨gs, h1⟩ n1) l2 fun z => dj kk ((e1 kk).mpr (.inr z)) kF
      have t2 := owAll_hide (owAll_hide r2 ⟨gs, h1⟩ fun z => dj g gF ((e2 g).mpr (.inr z))) l2 n2
      exact ⟨g, kk, gs, ks, rfl, rfl, h1, h2, t1.dp, t2.dp, np (f1 g gF), np (f2' kk kF), gk, nH (f1 g gF), nH (f2' kk kF), hp3, (k1.trans (Off.in k2)).trans (Off.in k3)⟩
theorem NB.dict {K : PySem.W.Frag} {H G : Hp} {p g kk : Addr} {c : Nat} {gs ks : List V} {ts : List Tab} {rs : List RB} (h : NB K H G p g kk c gs ks ts rs) (nd : (ts.map Prod.fst).Nodup) :
    ∃ (ps : List Addr) (kvs : List (Key × V)), gs = ps.map V.ref ∧ Paired (fun p kv => SqT K G p [kV kv.1, kv.2]) ps kvs ∧ TitK K G kvs ts ∧ mergeK [] kvs = kvs ∧ ∀ x, (valV kvs (.inr x)).isSome = decide (x ∈ ts.map Prod.fst) := by
  obtain ⟨ps, kvs, e1, e2, e3, e4⟩ := tabs_pairs (dpAll_off hh_in h.dt)
  have nd2 : (kvs.map Prod.fst).Nodup := by
    rw [e4]
    have : (ts.map fun t => (.inr t.1 : Key)) = (ts.map Prod.fst).map fun x => (.inr x : Key) := by rw [List.map_map]; rfl
    rw [this]
    exact List.Pairwise.map _ (fun a b n e => n (Sum.inr.inj e)) nd
  refine ⟨ps, kvs, e1, e2, e3, ?_, fun x => ?_⟩
  · rw [merge_nd nd2 fun k _ z => by simp at z]
    rfl
  · rcases titK_at (x := x) e3 with ⟨a, b⟩ | ⟨v, t, a, b, _⟩
    · rw [a]
      have := tabOf_none b
      simp [this]
    · rw [a]
      have := tabOf_some b
      simp [this]
theorem asg_cut0 {te : TE} {g : TG} {B : TS} {D : Ends} {σ : L2.St} {H : Hp} (W : L2.St → Hp → Prop) (hB : ∀ σ' H', W σ' H' → B D σ' H') (hA : (∀ σ' H', W σ' H' → B D σ' H') → tSeq (tAsg te g) B D σ H) : tSeq (tAsg te g) B D σ H := hA hB
theorem set_map {α β : Type} (f : α → β) (xs : List α) (i : Nat) (y : α) : (xs.map f).set i (f y) = (xs.set i y).map f := by
  rw [List.map_set]
/-- the letters a .. j -/
def abc : Str := "abcdefghij"
def sg (c : Nat) : Str := ⟨#[c]⟩
theorem sg_title : ∀ c ∈ abc.cps.toList, Title (sg c) := by
  intro c hc
  have : ∀ c ∈ abc.cps.toList, 97 ≤ c ∧ c ≤ 122 := by decide +kernel
  refine ⟨Nat.le_refl _, (by decide : 1 ≤ 8), fun x hx => ?_⟩
  have hx : x ∈ [c] := hx
  rw [List.mem_singleton.mp hx]
  exact this c hc
/-- ten letters are not all among fewer than ten texts -/
theorem sg_free {xs : List Str} (h : xs.length < 10) : ∃ c r, abc.cps.toList.filter (fun c => !decide (sg c ∈ xs)) = c :: r := by
  cases e : abc.cps.toList.filter (fun c => !decide (sg c ∈ xs)) with
  | cons c r => exact ⟨c, r, rfl⟩
  | nil =>
    exfalso
    have all : ∀ c ∈ abc.cps.toList, sg c ∈ xs := fun c hc => by
      have := List.filter_eq_nil_iff.mp e c hc
      simpa using this
    have nd : (abc.cps.toList.map sg).Nodup := by decide +kernel
    have l := List.Nodup.length_le_of_subset nd (l₂ := xs) fun y hy => by
      obtain ⟨c, hc, rfl⟩ := List.mem_map.mp hy
      exact all c hc
    rw [List.length_map] at l
    have : abc.cps.toList.length = 10 := by decide +kernel
    omega
/-- the letters that no table has for a title -/
def free (ts : List Tab) : List Nat := abc.cps.toList.filter fun c => !decide (sg c ∈ ts.map Prod.fst)
theorem filter_step {c : Nat} {p : Nat → Bool} {l : List Nat} {i : Nat} (h : l[i]? = some c) : (l.take (i + 1)).filter p = (l.take i).filter p ++ if p c = true then [c] else [] := by
  rw [take_snoc h, List.filter_append, List.filter_cons]
  rfl
/-- a list with one item more -/
def insL {α : Type} (xs : List α) (i : Nat) (y : α) : List α := xs.take i ++ [y] ++ xs.drop i
theorem insL_perm {α : Type} (xs : List α) (i : Nat) (y : α) : (insL xs i y).Perm (y :: xs) := by
  unfold insL
  rw [List.append_assoc]
  refine List.Perm.trans (List.perm_middle (l₁ := xs.take i) (l₂ := xs.drop i) (a := y)) ?_
  rw [List.take_append_drop]
theorem insL_map {α β : Type} (f : α → β) (xs : List α) (i : Nat) (y : α) : insL (xs.map f) i (f y) = (insL xs i y).map f := by
  unfold insL
  rw [List.map_append, List.map_append, List.map_take, List.map_drop]
  rfl
theorem dpAll_ins {K : PySem.W.Frag} {H : Hp} {xs : List V} {ds : List PyData} {i : Nat} {y : V} {d : PyData} (h : DpAll K H xs ds) (hd : Dp K H y d) : DpAll K H (insL xs i y) (insL ds i d) :=
  dpAll_append (dpAll_append (dpAll_take _ h) (.cons hd .nil)) (dpAll_drop _ h)
/-- xs[:i] + [e] + xs[i:] -/
theorem ins_read {K : PySem.W.Frag} {G : Hp} {σ : L2.St} {te : TE} {a : Addr} {iv ix i : Nat} {xs : List V} {Q : VK} {R : V → Hp → Prop} (h1 : σ[iv]? = some (some (.ref a))) (h2 : σ[ix]? = some (some (.int (i : Nat)))) (sa : SqL K G a xs) (lx : xs.length ≤ 1000)
    (h : ∀ (G1 : Hp) (Q' : VK), Off (fun _ => False) G G1 → (∀ y G2, Off (fun _ => False) G1 G2 → R y G2 → Q' y G2) → te σ G1 Q')
    (q : ∀ m y G2 Gm, Off (fun _ => False) G G2 → R y G2 → Off (fun _ => False) G2 Gm → G m = none → Gm m = some (.lst (insL xs i y)) → Q (.ref m) Gm) :
    tOp rCat (tOp rCat (tSl (rSlL K) (tVar iv) tNoPart (tPart (tVar ix))) (tLst (tCons te tNil))) (tSl (rSlL K) (tVar iv) (tPart (tVar ix)) tNoPart) σ G Q := by
  have no : ¬ False := id
  have c1 : cutV xs none (some (i : Int)) = xs.take i := by rw [cutV_head (by omega)]; rfl
  have c2 : cutV xs (some (i : Int)) none = xs.drop i := by rw [cutV_tail (by omega)]; rfl
  have lt := List.length_take_le' i xs
  refine ⟨_, h1, _, h2, _, rfl, a, _, rfl, sa, fun m1 n1 => ?_⟩
  rw [c1]
  have k1 : Off (fun _ => False) G (upd G m1 (.lst (xs.take i))) := Off.new n1
  have e1 := upd_same (H := G) (a := m1) (o := .lst (xs.take i))
  generalize upd G m1 (.lst (xs.take i)) = G1 at k1 e1 ⊢
  refine h G1 _ k1 fun y G2 k2 r2 => ⟨(by show 1 ≤ sizeLine; decide), fun m2 n2 => ?_⟩
  have k3 : Off (fun _ => False) G2 (upd G2 m2 (.lst [y])) := Off.new n2
  have e3 := upd_same (H := G2) (a := m2) (o := .lst [y])
  show rCat (.ref m1) (.ref m2) (upd G2 m2 (.lst [y])) _
  generalize upd G2 m2 (.lst [y]) = G3 at k3 e3 ⊢
  refine ⟨m1, m2, _, _, rfl, rfl, k3 _ _ (k2 _ _ e1 no) no, e3, ?_, fun m3 n3 => ?_⟩
  · exact Nat.le_trans (m := 1001) (by show _ + 1 ≤ 1001; omega) (by decide)
  have k4 : Off (fun _ => False) G3 (upd G3 m3 (.lst (xs.take i ++ [y]))) := Off.new n3
  have e4 := upd_same (H := G3) (a := m3) (o := .lst (xs.take i ++ [y]))
  generalize upd G3 m3 (.lst (xs.take i ++ [y])) = G4 at k4 e4 ⊢
  refine ⟨_, h1, _, h2, _, rfl, a, _, rfl, sqL_off ((k1.trans k2).trans (k3.trans k4)) sa, fun m5 n5 => ?_⟩
  rw [c2]
  have k5 : Off (fun _ => False) G4 (upd G4 m5 (.lst (xs.drop i))) := Off.new n5
  have e5 := upd_same (H := G4) (a := m5) (o := .lst (xs.drop i))
  generalize upd G4 m5 (.lst (xs.drop i)) = G5 at k5 e5 ⊢
  refine ⟨m3, m5, _, _, rfl, rfl, k5 _ _ e4 no, e5, ?_, fun m6 n6 => ?_⟩
  · have : (xs.drop i).length ≤ 1000 := by rw [List.length_drop]; omega
    exact Nat.le_trans (m := 2001) (by rw [List.length_append]; show _ + 1 + _ ≤ 2001; omega) (by decide)
  have k35 := (k3.trans k4).trans k5
  refine q m6 y G2 _ (k1.trans k2) r2 (k35.trans (Off.new n6)) ?_ upd_same
  cases e : G m6 with
  | none => rfl
  | some o =>
    have := (((k1.trans k2).trans k35) _ _ e no)
    rw [n6] at this
    cases this
theorem free_new {ts : List Tab} {c : Nat} (h : c ∈ free ts) : Title (sg c) ∧ sg c ∉ ts.map Prod.fst := by
  obtain ⟨h1, h2⟩ := List.mem_filter.mp h
  exact ⟨sg_title c h1, by simpa using h2⟩
theorem gv_ins {ts : List Tab} {t : Tab} {i : Nat} (h : Gv ts) (l : ts.length < 6) (ok : TabOk 8 t) (n : t.1 ∉ ts.map Prod.fst) : Gv (insL ts i t) := by
  have p := insL_perm ts i t
  refine ⟨?_, ?_, fun u hu => ?_⟩
  · rw [p.length_eq]
    exact l
  · have p2 := p.map Prod.fst
    rw [p2.nodup_iff]
    exact List.nodup_cons.mpr ⟨n, h.nd⟩
  · rcases List.mem_cons.mp (p.mem_iff.mp hu) with rfl | hu
    · exact ok
    · exact h.each u hu
theorem gv_perm {ts ts' : List Tab} (h : Gv ts) (p : ts'.Perm ts) : Gv ts' :=
  ⟨by rw [p.length_eq]; exact h.most, (p.map Prod.fst).nodup_iff.mpr h.nd, fun t ht => h.each t (p.mem_iff.mp ht)⟩
theorem gv_erase {ts : List Tab} (i : Nat) (h : Gv ts) : Gv (ts.eraseIdx i) := by
  refine ⟨Nat.le_trans (List.length_eraseIdx_le ..) h.most, ?_, fun t ht => h.each t (List.mem_of_mem_eraseIdx ht)⟩
  rw [← eraseIdx_map']
  exact h.nd.sublist (List.eraseIdx_sublist ..)
/-- the same titles, and each table's columns -/
theorem gv_set {ts : List Tab} {t t' : Tab} {i : Nat} (h : Gv ts) (e : ts[i]? = some t) (et : t'.1 = t.1) (ok : TabOk 8 t') : Gv (ts.set i t') := by
  obtain ⟨hi, rfl⟩ := List.getElem?_eq_some_iff.mp e
  refine ⟨by rw [List.length_set]; exact h.most, ?_, fun u hu => ?_⟩
  · have : (ts.set i t').map Prod.fst = ts.map Prod.fst := by
      rw [List.map_set, et]
      have := List.set_getElem_self (as := ts.map Prod.fst) (i := i) (by rw [List.length_map]; exact hi)
      rw [List.getElem_map] at this
      exact this
    rw [this]
    exact h.nd
  · rcases List.mem_or_eq_of_mem_set hu with hu | rfl
    · exact h.each u hu
    · exact ok
theorem rl_set {M : Nat} {ts : List Tab} {rs : List RB} {t t' : Tab} {i : Nat} (h : Rl M ts rs) (g : Gv (ts.set i t')) (e : ts[i]? = some t) (et : t'.1 = t.1) (sub : ∀ c ∈ t.2, c ∈ t'.2) : Rl M (ts.set i t') rs := by
  refine h.grow g.nd fun u hu => ?_
  obtain ⟨j, hj⟩ := List.mem_iff_getElem?.mp hu
  by_cases ij : i = j
  · subst ij
    rw [e] at hj
    cases hj
    exact ⟨t', List.mem_of_getElem? (i := i) (by rw [List.getElem?_set_self (List.getElem?_eq_some_iff.mp e).1]), et, sub⟩
  · exact ⟨u, List.mem_of_getElem? (i := j) (by rw [List.getElem?_set_ne ij]; exact hj), rfl, fun _ h => h⟩
/-- xs[:i] + xs[i + 1:] -/
theorem era_read {K : PySem.W.Frag} {G : Hp} {σ : L2.St} {a : Addr} {iv ix i : Nat} {xs : List V} {Q : VK} (h1 : σ[iv]? = some (some (.ref a))) (h2 : σ[ix]? = some (some (.int (i : Nat)))) (sa : SqL K G a xs) (lx : xs.length ≤ 1000)
    (q : ∀ m Gm, Off (fun _ => False) G Gm → Gm m = some (.lst (xs.eraseIdx i)) → Q (.ref m) Gm) :
    tOp rCat (tSl (rSlL K) (tVar iv) tNoPart (tPart (tVar ix))) (tSl (rSlL K) (tVar iv) (tPart (tOp (rI0 fun i j => .int (i + j)) (tVar ix) (tC (.int 1)))) tNoPart) σ G Q := by
  have no : ¬ False := id
  have c1 : cutV xs none (some (i : Int)) = xs.take i := by rw [cutV_head (by omega)]; rfl
  have c2 : cutV xs (some ((i : Int) + 1)) none = xs.drop (i + 1) := by
    rw [cutV_tail (by omega)]
    congr 1
  have lt := List.length_take_le' i xs
  refine ⟨_, h1, _, h2, _, rfl, a, _, rfl, sa, fun m1 n1 => ?_⟩
  rw [c1]
  have k1 : Off (fun _ => False) G (upd G m1 (.lst (xs.take i))) := Off.new n1
  have e1 := upd_same (H := G) (a := m1) (o := .lst (xs.take i))
  generalize upd G m1 (.lst (xs.take i)) = G1 at k1 e1 ⊢
  refine ⟨_, h1, _, h2, _, _, rfl, rfl, _, rfl, a, _, rfl, sqL_off k1 sa, fun m2 n2 => ?_⟩
  rw [c2]
  have k2 : Off (fun _ => False) G1 (upd G1 m2 (.lst (xs.drop (i + 1)))) := Off.new n2
  have e2 := upd_same (H := G1) (a := m2) (o := .lst (xs.drop (i + 1)))
  generalize upd G1 m2 (.lst (xs.drop (i + 1))) = G2 at k2 e2 ⊢
  refine ⟨m1, m2, _, _, rfl, rfl, k2 _ _ e1 no, e2, ?_, fun m3 n3 => ?_⟩
  · have : (xs.drop (i + 1)).length ≤ 1000 := by rw [List.length_drop]; omega
    exact Nat.le_trans (m := 2000) (by omega) (by decide)
  refine q m3 _ ((k1.trans k2).trans (Off.new n3)) ?_
  rw [List.eraseIdx_eq_take_drop_succ]
  exact upd_same
/-- the title that a rule names -/
def nmR (r : RB) : Str := r.1.getD 1 ""
/-- an item of a list of rules -/
theorem rb_item {K : PySem.W.Frag} {G : Hp} {M : Nat} {ks : List V} {ts : List Tab} {rs : List RB} {i : Nat} {v : V} (d : DpAll K G ks (rs.map rbD)) (rl : Rl M ts rs) (h : ks[i]? = some v) :
    ∃ k x cs tl a e, rs[i]? = some ([k, x], some (cs, tl)) ∧ v = .ref a ∧ SqT K G a (.str k :: .str x :: .ref e :: tl.map V.str) ∧ Dp K G v (rbD ([k, x], some (cs, tl))) ∧ ((k = "key" ∧ tl.length = 0) ∨ (k = "settles" ∧ tl.length = 1)) ∧ ∃ t, tabOf ts x = some t ∧ ∀ c ∈ cs ++ tl, c ∈ t.2 := by
  obtain ⟨d', hd, dv⟩ := dpAll_at d h
  rw [List.getElem?_map] at hd
  obtain ⟨r, hr, rfl⟩ := Option.map_eq_some_iff.mp hd
  obtain ⟨k, x, cs, tl, t, rfl, fm, et, mem⟩ := rl.s r (List.mem_of_getElem? hr)
  obtain ⟨a, e, rfl, sa, _⟩ := dp_rb dv
  exact ⟨k, x, cs, tl, a, e, hr, rfl, sa, dv, fm, t, et, mem⟩
theorem tab_item {K : PySem.W.Frag} {G : Hp} {gs : List V} {ts : List Tab} {i : Nat} {t : Tab} (d : DpAll K G gs (ts.map tabD)) (h : ts[i]? = some t) : ∃ a ca, gs[i]? = some (.ref a) ∧ SqT K G a [.str t.1, .ref ca] ∧ SqL K G ca (t.2.map V.str) ∧ Dp K G (.ref a) (tabD t) := by
  obtain ⟨v, hv, dv⟩ := dpAll_get (i := i) (d := tabD t) d (by rw [List.getElem?_map, h]; rfl)
  obtain ⟨a, w, rfl, sa, dc⟩ := dp_tab dv
  obtain ⟨ca, rfl, sc⟩ := dp_cols dc
  exact ⟨a, ca, hv, sa, sc, dv⟩
/-- without a table that no rule names -/
theorem rl_erase {M : Nat} {ts : List Tab} {rs : List RB} {t : Tab} {i : Nat} (h : Rl M ts rs) (gv : Gv ts) (e : ts[i]? = some t) (n : t.1 ∉ rs.map nmR) : Rl M (ts.eraseIdx i) rs := by
  refine ⟨fun r hr => rbS_to (h.s r hr) (gv_erase i gv).nd fun u hu => ?_, h.ok, h.len⟩
  obtain ⟨h1, h2⟩ := tabOf_mem hu
  have un : u ≠ t := fun z => n (by rw [← z, h2]; exact List.mem_map.mpr ⟨r, hr, rfl⟩)
  refine ⟨u, ?_, rfl, fun _ h => h⟩
  rcases List.mem_cons.mp ((erase_perm e).mem_iff.mpr h1) with z | z
  · exact (un z).elim
  · exact z
theorem apart_of {G : Hp} {a m : Addr} {o : HO} (e : G a = some o) (n : G m = none) : m ≠ a := fun z => by
  rw [z, e] at n
  cases n
theorem NB.tab_new {K : PySem.W.Frag} {H G : Hp} {p g kk m m2 : Addr} {c : Nat} {gs ks : List V} {ts : List Tab} {rs : List RB} {x : Str} {cs : List Str} (nb : NB K H G p g kk c gs ks ts rs) (n1 : m ≠ g) (n2 : m ≠ kk)
    (em : G m = some (.lst (cs.map V.str))) (et : G m2 = some (.tup [.str x, .ref m])) : Dp K (hide kk (hide g G)) (.ref m2) (tabD (x, cs)) :=
  .tup (sqT_hide2 nb.eg nb.ek (SqT.of et)) (.cons (.str _) (.cons (.lst (SqL.of (by rw [hide_ne n2, hide_ne n1]; exact em)) (dp_strs cs)) .nil))
/-- letters that no column bears -/
theorem freeC {cs : List Str} {c : Nat} (h : c ∈ abc.cps.toList.filter fun c => !decide (sg c ∈ cs)) : Title (sg c) ∧ sg c ∉ cs := by
  obtain ⟨h1, h2⟩ := List.mem_filter.mp h
  exact ⟨sg_title c h1, by simpa using h2⟩
theorem tab_moved {t : Tab} {i j : Nat} {y : Str} (h : TabOk 8 t) (hy : t.2[i]? = some y) : TabOk 8 (t.1, movedL t.2 i j y) := by
  have p := movedL_perm (j := j) hy
  exact ⟨by rw [p.length_eq]; exact h.one, by rw [p.length_eq]; exact h.most, fun x hx => h.good x (p.mem_iff.mp hx), p.nodup_iff.mpr h.nd, h.name⟩
theorem tab_ins {t : Tab} {i : Nat} {y : Str} (h : TabOk 8 t) (l : t.2.length < 8) (ty : Title y) (ny : y ∉ t.2) : TabOk 8 (t.1, insL t.2 i y) := by
  have p := insL_perm t.2 i y
  refine ⟨by rw [p.length_eq]; exact Nat.succ_le_succ (Nat.zero_le _), by rw [p.length_eq]; exact l, fun x hx => ?_, p.nodup_iff.mpr (List.nodup_cons.mpr ⟨ny, h.nd⟩), h.name⟩
  rcases List.mem_cons.mp (p.mem_iff.mp hx) with rfl | hx
  · exact ty
  · exact h.good x hx
theorem rl_put {M : Nat} {ts : List Tab} {rs : List RB} {r : RB} {i : Nat} (h : Rl M ts rs) (s : RbS ts r) (o : RbOk 8 M r) : Rl M ts (rs.set i r) := by
  refine ⟨fun u hu => ?_, fun u hu => ?_, by rw [List.length_set]; exact h.len⟩
  · rcases List.mem_or_eq_of_mem_set hu with hu | rfl
    · exact h.s u hu
    · exact s
  · rcases List.mem_or_eq_of_mem_set hu with hu | rfl
    · exact h.ok u hu
    · exact o
theorem nilD {α : Type} (f : α → PyData) (xs : List α) : PyData.eqv (.list (xs.map f)) (.list []) = xs.isEmpty := by
  cases xs with
  | nil => rfl
  | cons x r => rfl
/-- the two lists, ready to be answered -/
def NbEnd (K : PySem.W.Frag) (H : Hp) (p g : Addr) (c M : Nat) (σ' : L2.St) (G' : Hp) : Prop := ∃ v5 ts' rs', σ'[4]? = some (some (.ref g)) ∧ σ'[5]? = some (some v5) ∧ Dp K G' (.ref g) (tabsD ts') ∧ Dp K G' v5 (rbsD rs') ∧ Gv ts' ∧ Rl (M + 1) ts' rs' ∧ (∃ c', Pu G' p c' ∧ c' ≤ c + 20) ∧ Off (fun a => a = p) H G'
section
variable {K : PySem.W.Frag} {H G : Hp} {p g kk : Addr} {c c' M : Nat} {gs ks : List V} {ts : List Tab} {rs rs' : List RB} {σ' : L2.St}
theorem nb_same (h4 : σ'[4]? = some (some (.ref g))) (h5 : σ'[5]? = some (some (.ref kk))) (nb : NB K H G p g kk c' gs ks ts rs') (gv : Gv ts) (rl : Rl (M + 1) ts rs') (lc : c' ≤ c + 20) : NbEnd K H p g c M σ' G :=
  ⟨_, _, _, h4, h5, nb.dpt, nb.dpr, gv, rl, ⟨_, nb.pu, lc⟩, nb.off⟩
theorem nb_put {m m2 : Addr} {cs : List Str} {j : Nat} {t : Tab} (h4 : σ'[4]? = some (some (.ref g))) (h5 : σ'[5]? = some (some (.ref kk))) (nb : NB K H G p g kk c' gs ks ts rs) (gv : Gv ts) (rl : Rl (M + 1) ts rs) (lc : c' ≤ c + 20) (ht : ts[j]? = some t)
    (n1 : m ≠ g) (n2 : m ≠ kk) (em : G m = some (.lst (cs.map V.str))) (et : G m2 = some (.tup [.str t.1, .ref m])) (ok : TabOk 8 (t.1, cs)) (sub : ∀ y ∈ t.2, y ∈ cs) : NbEnd K H p g c M σ' (upd G g (.lst (gs.set j (.ref m2)))) := by
  have g' := gv_set (t' := (t.1, cs)) gv ht rfl ok
  have d := dpAll_set j nb.dt (nb.tab_new n1 n2 em et)
  rw [set_map] at d
  exact nb_same h4 h5 (nb.set_t d) g' (rl_set rl g' ht rfl sub) lc
end
theorem ixN_at {n j : Nat} (hj : j < n) : ixN n (j : Int) = some j := by
  unfold ixN
  rw [if_pos (by omega), if_pos (by omega)]
  simp
theorem els_cut {tc : TT} {A1 A2 B : TS} {D : Ends} {σ : L2.St} {H : Hp} (h2 : A2 { D with nx := B D } σ H) (hA : A2 { D with nx := B D } σ H → tSeq (tIfS tc A1 A2) B D σ H) : tSeq (tIfS tc A1 A2) B D σ H := hA h2
theorem els_cut1 {tc : TT} {A1 A2 : TS} {D : Ends} {σ : L2.St} {H : Hp} (h2 : A2 D σ H) (hA : A2 D σ H → tIfS tc A1 A2 D σ H) : tIfS tc A1 A2 D σ H := hA h2
theorem ow_hide2 {K : PySem.W.Frag} {H G G' : Hp} {p g kk : Addr} {c : Nat} {gs ks : List V} {ts : List Tab} {rs : List RB} {v : V} {d : PyData} {F : Fp} (nb : NB K H G p g kk c gs ks ts rs) (nb' : NB K H G' p g kk c gs ks ts rs) (o : Ow G' v d F) (f : ∀ a, F a → G a = none) : Dp K (hide kk (hide g G')) v d := by
  have n1 : ¬ F g := fun z => by
    have := f _ z
    rw [nb.eg] at this
    cases this
  have n2 : ¬ F kk := fun z => by
    have := f _ z
    rw [nb.ek] at this
    cases this
  exact (ow_hide (ow_hide o ⟨_, nb'.eg⟩ n1) ⟨ks, by rw [hide_ne (Ne.symm nb.gk)]; exact nb'.ek⟩ n2).dp
theorem rb_hide2 {K : PySem.W.Frag} {H G : Hp} {p g kk a b : Addr} {c : Nat} {gs ks : List V} {ts : List Tab} {rs : List RB} {v : V} {r : RB} (nb : NB K H G p g kk c gs ks ts rs) (d : Dp K G v (rbD r)) (s : RbS ts r) (ha : .ref a ∈ gs) (hb : .ref b ∈ ks) : Dp K (hide kk (hide g G)) v (rbD r) := by
  obtain ⟨k, x, cs, tl, t, rfl, _⟩ := s
  have d1 := rb_apart nb.eg ha d
  exact rb_apart (f := kk) (by rw [hide_ne (Ne.symm nb.gk)]; exact nb.ek) hb d1
end LW
set_option Elab.async false
set_option linter.all false
set_option maxRecDepth 100000
set_option maxHeartbeats 0
/-! _law_near_book -/
namespace LW
open PySem PySem.Spec PyProof.Rows L2 KV
def spNearB (K : PySem.W.Frag) : Sp := fun vs H Q _ => ∃ (p : Addr) (v w : V) (ts : List Tab) (rs : List RB) (M c : Nat), vs = [.ref p, v, w] ∧ Dp K H v (tabsD ts) ∧ Dp K H w (rbsD rs) ∧ Gv ts ∧ Rl M ts rs ∧ M ≤ 50 ∧ Pu H p c ∧ c + 100 ≤ 1000000000 ∧
  ∀ (tp : Addr) (v' w' : V) (ts' : List Tab) (rs' : List RB) (H' : Hp) (c' : Nat), H' tp = some (.tup [v', w']) → Dp K H' v' (tabsD ts') → Dp K H' w' (rbsD rs') → Gv ts' → Rl (M + 1) ts' rs' → Pu H' p c' → c' ≤ c + 20 → Off (fun a => a = p) H H' → Q (.ref tp) H'
section
variable {P : Program} {w : World} {K : PySem.W.Frag} {mg : Str → Option Value} {base : Heap}
theorem scNearB : FnScope ["purse", "tables_here", "rules_here", "way", "given", "kept", "spot", "letters", "letter", "named", "rule", "title", "known", "end", "head", "fresh_one", "place"] ["purse", "tables_here", "rules_here"] (defScope sNearBook) := ⟨rfl, rfl, rfl, by decide +kernel, rfl, by decide +kernel, by decide +kernel⟩
/-- its slots -/
abbrev nbS (p : Addr) (v w : V) (way : Int) (x4 x5 x6 x7 x8 x9 x10 x11 x12 x13 x14 x15 x16 : Option V) : L2.St := [some (.ref p), some v, some w, some (.int way), x4, x5, x6, x7, x8, x9, x10, x11, x12, x13, x14, x15, x16]
abbrev nbN : List Str := ["purse", "tables_here", "rules_here", "way", "given", "kept", "spot", "letters", "letter", "named", "rule", "title", "known", "end", "head", "fresh_one", "place"]
theorem ok_nearB {f fC fD fM fR : Addr} {fd dC dD dM dR : FuncData} (F : FnP K "_law_near_book" sNearBook f fd) (C : Dn P w K mg base 1 "_law_coin" ["purse", "many"] spCoin fC dC) (D : Dn P w K mg base 6 "_law_copied" ["thing"] (spCopied K 6) fD dD)
    (M' : Dn P w K mg base 1 "_law_moved" ["things", "spot", "place"] (spMoved K) fM dM) (R' : Dn P w K mg base 2 "_law_near_rule" ["purse", "rule", "known"] (spNearR K) fR dR)
    (ml : mg "len" = none) (mi : mg "int" = none) (md : mg "dict" = none) : FnOk P w K mg base CX0 7 f fd ["purse", "tables_here", "rules_here"] (spNearB K) := by
  refine F.ok scNearB (fun vs H Q E h => ?_) (fun cdv A outer s H vs Q E hr h => ?_)
  · obtain ⟨p, v, w, ts, rs, M, c, rfl, _⟩ := h
    rfl
  obtain ⟨p, v, w, ts, rs, M, c, rfl, hv, hw, gv, rl, hM, hp, hc, q⟩ := h
  have hu : (A.deeper (envOfC "_law_near_book" (defScope sNearBook) s.heap.objs.size f cdv)).units + 64 < cLine := hr.units
  have hu1 : (A.deeper (envOfC "_law_near_book" (defScope sNearBook) s.heap.objs.size f cdv)).units + 1 < cLine := by
    have := hr.un
    omega
  refine ⟨_, PSs.nox (pss_cons (ps_asg (pe_tup (pa_cons (pe_call C.g (hr.mono (by decide)) rfl C.m C.kp C.b .nil pass0 (pa_cons (pv 0) (pa_cons pe_int pa_nil)))
        (pa_cons (pe_call D.g hr rfl D.m D.kp D.b .nil pass0 (pa_cons (pv 1) pa_nil)) (pa_cons (pe_call D.g hr rfl D.m D.kp D.b .nil pass0 (pa_cons (pv 2) pa_nil)) pa_nil))))
        (pg_tup rfl (pgs_cons (pg_name (i := 3) scNearB.nd rfl (Or.inl rfl)) (pgs_cons (pg_name (i := 4) scNearB.nd rfl (Or.inr rfl)) (pgs_cons (pg_name (i := 5) scNearB.nd rfl (Or.inl rfl)) pgs_nil)))))
    (pss_cons (ps_set (i := 6) scNearB.nd rfl (Or.inl rfl) (pe_call C.g (hr.mono (by decide)) rfl C.m C.kp C.b .nil pass0 (pa_cons (pv 0) (pa_cons (pe_op op_add (pe_callB call_len_seq rfl ml boot_len (pa_cons (pv 4) pa_nil)) pe_int) pa_nil))))
    (pss_cons (ps_setLc (i := 7) (own := [("letter", 8)]) (g := gName 8) (tt := tTest (tDNotIn (tVar 8) (tCB (fun xs H Q => ∃ (a : Addr) (ps : List Addr) (kvs : List (Key × V)), xs = [.ref a] ∧ SqL K H a (ps.map V.ref) ∧ Paired (fun p kv => SqT K H p [kV kv.1, kv.2]) ps kvs ∧ ∀ p, H p = none → Q (.ref p) (upd H p (.dK (mergeK [] kvs)))) (tCons (tVar 4) tNil)))) (te := tVar 8) rfl scNearB.nd rfl rfl (sw_true rfl rfl rfl (by decide +kernel)) (pi_str pe_str) (blkOk_by (own := [("letter", 8)]) (N := nbN) (sc := defScope sNearBook) (by decide +kernel))
        (fun _ _ _ _ _ => pg_name (i := 8) scNearB.nd rfl (Or.inl rfl)) (fun _ _ _ _ _ => pts_one (pt_cmp (pc_dnotin hu1 (pv 8) (pe_callTy (call_dictP rfl) rfl md (by decide +kernel) (pa_cons (pv 4) pa_nil))))) (fun _ _ _ _ _ => pv 8))
    (pss_cons (ps_if (PW.pt (pw_and (pt_cmpR op_eq (pv 3) pe_int (nomark _)) (pw_and1 (pt_cmpR op_lt (pe_callB call_len_seq rfl ml boot_len (pa_cons (pv 4) pa_nil)) pe_int (nomark _)))))
      (pss_one (ps_ret (pe_tup (pa_cons (pe_op op_cat (pe_op op_cat (pe_slice sl_list (pv 4) po_none (po_some (pv 6))) (pe_lst (pa_cons (pe_tup (pa_cons (pe_ix ix_list (pv 7) pe_int (fun _ _ => rfl)) (pa_cons (pe_lst (pa_cons pe_str pa_nil)) pa_nil))) pa_nil))) (pe_slice sl_list (pv 4) (po_some (pv 6)) po_none)) (pa_cons (pv 5) pa_nil))))) pss_nil)
    (pss_cons (ps_setLc (i := 9) (own := [("rule", 10)]) (g := gName 10) (tt := tYes) (te := tOp (rIxT K) (tVar 10) (tC (.int 1))) rfl scNearB.nd rfl rfl (sw_true rfl rfl rfl (by decide +kernel)) (pi_list (pv 5)) (blkOk_by (own := [("rule", 10)]) (N := nbN) (sc := defScope sNearBook) (by decide +kernel))
        (fun _ _ _ _ _ => pg_name (i := 10) scNearB.nd rfl (Or.inl rfl)) (fun _ _ _ _ _ => pts_nil) (fun _ _ _ _ _ => pe_ix ix_tup (pv 10) pe_int (fun _ _ => rfl)))
    (pss_cons (ps_if (PW.pt (pw_and (pt_cmpR op_eq (pv 3) pe_int (nomark _)) (pw_and (pt_cmpR op_lt (pv 6) (pe_callB call_len_seq rfl ml boot_len (pa_cons (pv 4) pa_nil)) (nomark _)) (pw_and1 (pt_cmpR op_notIn_seq (pe_ix ix_tup (pe_ix ix_list (pv 4) (pv 6) (fun _ _ => rfl)) pe_int (fun _ _ => rfl)) (pv 9) rfl)))))
      (pss_one (ps_ret (pe_tup (pa_cons (pe_op op_cat (pe_slice sl_list (pv 4) po_none (po_some (pv 6))) (pe_slice sl_list (pv 4) (po_some (pe_op op_add (pv 6) pe_int)) po_none)) (pa_cons (pv 5) pa_nil))))) pss_nil)
    (pss_cons (ps_set (i := 6) scNearB.nd rfl (Or.inl rfl) (pe_op op_sub (pv 6) (pe_callTy call_int1 rfl mi (by decide +kernel) (pa_cons (pe_cmpR op_eq (pv 6) (pe_callB call_len_seq rfl ml boot_len (pa_cons (pv 4) pa_nil)) (nomark _)) pa_nil))))
    (pss_cons (ps_if (PW.pt (pw_or (pt_cmpR (op_eqD hu) (pv 4) (pe_lst pa_nil) (nomark _)) (pw_or1 (pt_cmpR op_eq (pv 3) pe_int (nomark _)))))
      (pss_one (ps_ret (pe_tup (pa_cons (pe_ifExp (pt_cmpR (op_eqD hu) (pv 4) (pe_lst pa_nil) (nomark _)) (pv 4) (pe_call M'.g (hr.mono (by decide)) rfl M'.m M'.kp M'.b .nil pass0 (pa_cons (pv 4) (pa_cons (pv 6) (pa_cons (pe_call C.g (hr.mono (by decide)) rfl C.m C.kp C.b .nil pass0 (pa_cons (pv 0) (pa_cons (pe_callB call_len_seq rfl ml boot_len (pa_cons (pv 4) pa_nil)) pa_nil))) pa_nil))))) (pa_cons (pv 5) pa_nil))))) pss_nil)
    (pss_cons (ps_asg (pe_ix ix_list (pv 4) (pv 6) (fun _ _ => rfl)) (pg_tup rfl (pgs_cons (pg_name (i := 11) scNearB.nd rfl (Or.inl rfl)) (pgs_cons (pg_name (i := 12) scNearB.nd rfl (Or.inr rfl)) pgs_nil))))
    (pss_cons (ps_par (i := 13) (j := 14) rfl scNearB.nd rfl rfl (by decide) rfl rfl (pa_cons (pe_call C.g (hr.mono (by decide)) rfl C.m C.kp C.b .nil pass0 (pa_cons (pv 0) (pa_cons (pe_op op_add (pe_callB call_len_seq rfl ml boot_len (pa_cons (pv 12) pa_nil)) pe_int) pa_nil)))
        (pa_cons (pe_call C.g (hr.mono (by decide)) rfl C.m C.kp C.b .nil pass0 (pa_cons (pv 0) (pa_cons (pe_callB call_len_seq rfl ml boot_len (pa_cons (pv 12) pa_nil)) pa_nil))) pa_nil)) rfl)
    (pss_cons (ps_if (PW.pt (pw_and (pt_cmpR op_eq (pv 3) pe_int (nomark _)) (pw_and1 (pt_cmpR op_lt (pv 13) (pe_callB call_len_seq rfl ml boot_len (pa_cons (pv 12) pa_nil)) (nomark _)))))
      (pss_one (ps_asg (pe_tup (pa_cons (pv 11) (pa_cons (pe_call M'.g (hr.mono (by decide)) rfl M'.m M'.kp M'.b .nil pass0 (pa_cons (pv 12) (pa_cons (pv 13) (pa_cons (pv 14) pa_nil)))) pa_nil))) (pg_sub (pv 4) (pv 6) set_list)))
      (pss_one (ps_if (PW.pt (pw_and (pt_cmpR op_eq (pv 3) pe_int (nomark _)) (pw_and1 (pt_cmpR op_lt (pe_callB call_len_seq rfl ml boot_len (pa_cons (pv 12) pa_nil)) pe_int (nomark _)))))
        (pss_cons (ps_set (i := 15) scNearB.nd rfl (Or.inl rfl) (pe_ix ix_list (pe_lc (own := [("letter", 8)]) (g := gName 8) (tt := tTest (tOp (rIn K true) (tVar 8) (tVar 12))) (te := tVar 8) rfl scNearB.nd (pi_str pe_str) (blkOk_by (own := [("letter", 8)]) (N := nbN) (sc := defScope sNearBook) (by decide +kernel))
            (fun _ _ _ _ _ => pg_name (i := 8) scNearB.nd rfl (Or.inl rfl)) (fun _ _ _ _ _ => pts_one (pt_cmpR op_notIn_seq (pv 8) (pv 12) rfl)) (fun _ _ _ _ _ => pv 8)) pe_int (fun _ _ => rfl)))
        (pss_one (ps_asg (pe_tup (pa_cons (pv 11) (pa_cons (pe_op op_cat (pe_op op_cat (pe_slice sl_list (pv 12) po_none (po_some (pv 13))) (pe_lst (pa_cons (pv 15) pa_nil))) (pe_slice sl_list (pv 12) (po_some (pv 13)) po_none)) pa_nil))) (pg_sub (pv 4) (pv 6) set_list))))
        (pss_one (ps_if (PW.pt (pw_and (pt_cmpR op_gt (pv 3) pe_int (nomark _)) (pw_and1 (pt_cmpR (op_neD hu) (pv 5) (pe_lst pa_nil) (nomark _)))))
          (pss_cons (ps_par (i := 6) (j := 16) rfl scNearB.nd rfl rfl (by decide) rfl rfl (pa_cons (pe_call C.g (hr.mono (by decide)) rfl C.m C.kp C.b .nil pass0 (pa_cons (pv 0) (pa_cons (pe_callB call_len_seq rfl ml boot_len (pa_cons (pv 5) pa_nil)) pa_nil)))
              (pa_cons (pe_call C.g (hr.mono (by decide)) rfl C.m C.kp C.b .nil pass0 (pa_cons (pv 0) (pa_cons (pe_callB call_len_seq rfl ml boot_len (pa_cons (pv 5) pa_nil)) pa_nil))) pa_nil)) rfl)
          (pss_one (ps_if (pt_cmpR op_eq (pv 3) pe_int (nomark _)) (pss_one (ps_expr (pe_bm PySem.F.plainAttrs_list PySem.F.slot_list_pop PySem.F.type_list_pop mt_popAt (pv 5) (pa_cons (pv 6) pa_nil))))
            (pss_one (ps_if (pt_cmpR op_eq (pv 3) pe_int (nomark _)) (pss_one (ps_set (i := 5) scNearB.nd rfl (Or.inl rfl) (pe_call M'.g (hr.mono (by decide)) rfl M'.m M'.kp M'.b .nil pass0 (pa_cons (pv 5) (pa_cons (pv 6) (pa_cons (pv 16) pa_nil))))))
              (pss_one (ps_if (pt_cmpR op_eq (pv 3) pe_int (nomark _)) (pss_one (ps_asg (pe_call D.g hr rfl D.m D.kp D.b .nil pass0 (pa_cons (pe_ix ix_list (pv 5) (pv 16) (fun _ _ => rfl)) pa_nil)) (pg_sub (pv 5) (pv 6) set_list)))
                (pss_one (ps_asg (pe_call R'.g (hr.mono (by decide)) rfl R'.m R'.kp R'.b .nil pass0 (pa_cons (pv 0) (pa_cons (pe_ix ix_list (pv 5) (pv 6) (fun _ _ => rfl)) (pa_cons (pe_dget hu1 (pe_callTy (call_dictP rfl) rfl md (by decide +kernel) (pa_cons (pv 4) pa_nil)) (pe_ix ix_tup (pe_ix ix_list (pv 5) (pv 6) (fun _ _ => rfl)) pe_int (fun _ _ => rfl)) (fun _ _ => rfl)) pa_nil)))) (pg_sub (pv 5) (pv 6) set_list))))))))))
          pss_nil)))))
    (pss_one (ps_ret (pe_tup (pa_cons (pv 4) (pa_cons (pv 5) pa_nil)))))))))))))))), ?_⟩
  have no : ¬ False := id
  have fT : Fit 8 [6, 2, 8] (tabsD ts) := fit_tabsW gv.w
  have fR : Fit 8 [20, 5, M] (rbsD rs) := fit_rbs rl.len rl.ok
  refine ⟨_, rfl, p, 10, c, rfl, hp, by omega, by decide, by decide, fun way H1 w0 w1 hp1 b1 => ⟨_, rfl, v, _, 8, [6, 2, 8], rfl, dp_but b1.off hp hv (noInt_tabs _), fT, by decide, by decide, fun v1 F1 H2 o1 f1 k2 => ?_⟩⟩
  refine ⟨_, rfl, w, _, 8, [20, 5, M], rfl, dp_off k2 (dp_but b1.off hp hw (noInt_rbs _)), fR, ?_, by show 3 < 6; decide, fun v2 F2 H3 o2 f2 k3 => ?_⟩
  · intro m hm
    rcases List.mem_cons.mp hm with rfl | hm
    · decide
    rcases List.mem_cons.mp hm with rfl | hm
    · decide
    rw [List.mem_singleton.mp hm]
    omega
  obtain ⟨g, kk, gs, ks, rfl, rfl, nb⟩ := nb_make (K := K) b1.off hp1 o1 f1 k2 o2 f2 k3
  refine ⟨by show 3 ≤ sizeLine; decide, fun m nm => ⟨m, _, rfl, SqT.of upd_same, rfl, _, _, rfl, _, _, rfl, _, _, rfl, rfl, ?_⟩⟩
  replace nb := nb.keep (Off.new (o := .tup [.int way, .ref g, .ref kk]) nm)
  dsimp only
  generalize upd H3 m (.tup [.int way, .ref g, .ref kk]) = G0 at nb ⊢
  clear o1 o2 f1 f2 k2 k3
  have gT : gs.length = ts.length := nb.lt
  have lT : ts.length ≤ 6 := gv.most
  refine ⟨_, rfl, _, rfl, g, gs, rfl, .inl (SqL.of nb.eg), _, _, rfl, rfl, p, (gs.length : Int) + 1, c + 1, rfl, nb.pu, by omega, by omega, by omega, fun i G1 i0 i1 hp2 b2 => ?_⟩
  obtain ⟨sp, rfl⟩ : ∃ sp : Nat, i = (sp : Int) := ⟨i.toNat, by omega⟩
  have lsp : sp ≤ ts.length := by omega
  replace nb := nb.to b2.off hp2
  clear b2 hp2 i0 i1
  dsimp only [gName]
  refine asg_cut0 (fun σ G => ∃ L x8, σ = nbS p v w way (some (.ref g)) (some (.ref kk)) (some (.int (sp : Nat))) (some (.ref L)) x8 none none none none none none none none ∧ G L = some (.lst ((free ts).map fun c => .str (sg c))) ∧ NB K H G p g kk (c + 2) gs ks ts rs) (fun σ G gg => ?_) (fun rest => ?_)
  rotate_left
  · obtain ⟨ps, kvs, e1, e2, e3, e4, e5⟩ := nb.dict gv.nd
    refine ⟨abc, rfl, fun D hD => lc_str (fun i G => G D = some (.lst (((abc.cps.toList.take i).filter fun c => !decide (sg c ∈ ts.map Prod.fst)).map fun c => .str (sg c))) ∧ Off (fun _ => False) G1 G) ⟨upd_same, Off.new hD⟩ (fun i x G hx g2 => ?_) fun G g2 => ?_⟩
    · obtain ⟨f1, f2⟩ := g2
      have nbx := nb.keep f2
      refine ⟨rfl, _, rfl, _, rfl, g, ps, kvs, rfl, SqL.of (by rw [nbx.eg, e1]), Paired.mapP e2 fun _ _ h => sqT_off f2 h, fun d hd => ?_⟩
      rw [e4]
      refine ⟨d, _, rfl, DGet.k (k := .inr (sg x)) upd_same, _, rfl, ?_⟩
      rw [e5]
      have kd : Off (fun _ => False) G (upd G d (.dK kvs)) := Off.new hd
      have f1d := kd _ _ f1 no
      have fs := filter_step (p := fun c => !decide (sg c ∈ ts.map Prod.fst)) hx
      have kk2 := f2.trans kd
      generalize upd G d (.dK kvs) = Gd at kd f1d kk2 ⊢
      refine ite2 (fun y => ?_) (fun y => ?_)
      · rw [if_pos y] at fs
        refine ⟨_, rfl, _, f1d, ?_, ?_, ?_⟩
        · rw [List.length_map]
          exact Nat.lt_of_le_of_lt (Nat.le_trans (List.length_filter_le _ _) (List.length_take_le' _ _)) (by decide +kernel)
        · rw [fs, List.map_append]
          exact upd_same
        · exact fun a o e n => (upd_ne fun z => by rw [z, hD] at e; cases e).trans (kk2 a o e n)
      · rw [if_neg y, List.append_nil] at fs
        rw [fs]
        exact ⟨f1d, kk2⟩
    · obtain ⟨f1, f2⟩ := g2
      rw [List.take_length] at f1
      exact rest _ _ ⟨D, _, rfl, f1, nb.keep f2⟩
  obtain ⟨L, x8, rfl, eL, nb⟩ := gg
  -- what is answered
  have fin : ∀ {G' : Hp} {v' w' : V} {ts' : List Tab} {rs' : List RB} {c' : Nat} (m : Addr), G' m = none → Dp K G' v' (tabsD ts') → Dp K G' w' (rbsD rs') → Gv ts' → Rl (M + 1) ts' rs' → Pu G' p c' → c' ≤ c + 20 → Off (fun a => a = p) H G' → Q (.ref m) (upd G' m (.tup [v', w'])) :=
    fun {G' v' w' ts' rs' c'} m nm d1 d2 g' r' p' l' k' => q m v' w' ts' rs' _ c' upd_same (dp_off (Off.new nm) d1) (dp_off (Off.new nm) d2) g' r' (p'.off (Off.new (G := fun _ => False) nm) no) l' (k'.trans (Off.in (Off.new nm)))
  have rl1 : Rl (M + 1) ts rs := rl.up (Nat.le_succ M)
  have l2 : 2 ≤ sizeLine := by decide
  refine if_cut0 (fun σ' G' => σ' = nbS p v w way (some (.ref g)) (some (.ref kk)) (some (.int (sp : Nat))) (some (.ref L)) x8 none none none none none none none none ∧ G' = G) (fun σ' G' gg => ?_) (fun rest => ?_)
  rotate_left
  · refine ⟨_, rfl, rfl, _, rfl, ite2 (fun _ => ?_) (fun _ => rest _ _ ⟨rfl, rfl⟩)⟩
    refine ⟨_, rfl, g, gs, rfl, .inl (SqL.of nb.eg), _, _, rfl, rfl, _, rfl, ite2 (fun l6 => ?_) (fun _ => rest _ _ ⟨rfl, rfl⟩)⟩
    have l6 : ts.length < 6 := by
      have := of_decide_eq_true l6
      omega
    obtain ⟨c0, fr, ef⟩ : ∃ c0 fr, free ts = c0 :: fr := sg_free (by rw [List.length_map]; omega)
    obtain ⟨tc, nc⟩ := free_new (ts := ts) (c := c0) (by rw [ef]; exact List.mem_cons_self)
    rw [ef] at eL
    have g' := gv_ins (t := (sg c0, ["a"])) (i := sp) gv l6 ⟨Nat.le_refl _, (by decide : 1 ≤ 8), fun x hx => by rw [List.mem_singleton.mp hx]; exact sg_title 97 (by decide +kernel), List.nodup_cons.mpr ⟨by simp, List.nodup_nil⟩, tc⟩ nc
    have pm := insL_perm ts sp (sg c0, ["a"])
    refine ins_read (K := K) (a := g) (i := sp) (xs := gs) (R := fun y G2 => ∃ m3 m2, y = .ref m3 ∧ G2 m3 = some (.tup [.str (sg c0), .ref m2]) ∧ G2 m2 = some (.lst [.str "a"])) rfl rfl (SqL.of nb.eg) (by omega) (fun G1 Q' k1 qq => ?_) (fun m y G2 Gm k2 r2 k3 _ em => ?_)
    · refine ⟨_, rfl, L, _, 0, .str (sg c0), rfl, rfl, SqL.of (k1 _ _ eL no), atI_nat (j := 0) rfl, (by show 1 ≤ sizeLine; decide), fun m2 n2 => ⟨l2, fun m3 n3 => ?_⟩⟩
      exact qq _ _ ((Off.new n2).trans (Off.new n3)) ⟨m3, m2, rfl, upd_same, Off.new (G := fun _ => False) n3 _ _ upd_same no⟩
    · obtain ⟨m3, m2, rfl, e3, e2⟩ := r2
      have kG := k2.trans k3
      refine ⟨_, rfl, l2, fun mm nm => fin mm nm (ts' := insL ts sp (sg c0, ["a"])) (rs' := rs) (.lst (SqL.of em) ?_) (dp_off kG nb.dpr) g' (rl1.grow g'.nd fun t ht => ⟨t, pm.mem_iff.mpr (List.mem_cons_of_mem _ ht), rfl, fun _ h => h⟩) (nb.pu.off kG no) (by omega) (nb.off.trans (Off.in kG))⟩
      rw [← insL_map]
      exact dpAll_ins (dpAll_off (hh_in.trans kG) nb.dt) (.tup (SqT.of (k3 _ _ e3 no)) (.cons (.str _) (.cons (.lst (SqL.of (k3 _ _ e2 no)) (.cons (.str _) .nil)) .nil)))
  obtain ⟨rfl, rfl⟩ := gg
  refine asg_cut0 (fun σ G => ∃ N x10, σ = nbS p v w way (some (.ref g)) (some (.ref kk)) (some (.int (sp : Nat))) (some (.ref L)) x8 (some (.ref N)) x10 none none none none none none ∧ G N = some (.lst ((rs.map nmR).map V.str)) ∧ NB K H G p g kk (c + 2) gs ks ts rs) (fun σ G gg => ?_) (fun rest => ?_)
  rotate_left
  · refine ⟨_, rfl, kk, rfl, ⟨_, SqL.of nb.ek⟩, fun D hD => lc_list (K := K) (a := kk) (xs := ks) (fun i G => G D = some (.lst (((rs.map nmR).take i).map V.str)) ∧ Off (fun _ => False) G' G) ⟨upd_same, Off.new hD⟩ (fun i G _ g2 => SqL.of (g2.2 _ _ nb.ek no)) (fun i x G hx g2 => ?_) fun G g2 => ?_⟩
    · obtain ⟨f1, f2⟩ := g2
      obtain ⟨k, x0, cs, tl, a, e, hr, rfl, sa, _, _⟩ := rb_item (dpAll_off (hh_in.trans f2) nb.dr) rl hx
      have hn : (rs.map nmR)[i]? = some x0 := by rw [List.getElem?_map, hr]; rfl
      refine ⟨rfl, ?_⟩
      refine iteT (B := True) ?_
      refine iteT ?_
      refine ⟨_, rfl, a, _, 1, .str x0, rfl, rfl, sa, atI_nat (j := 1) rfl, _, f1, ?_, ?_, fun b o eb nb' => (upd_ne fun z => by rw [z, hD] at eb; cases eb).trans (f2 b o eb nb')⟩
      · rw [List.length_map]
        exact Nat.lt_of_le_of_lt (Nat.le_trans (List.length_take_le' _ _) (by rw [List.length_map]; exact rl.len)) (by decide)
      · rw [take_snoc hn, List.map_append]
        exact upd_same
    · obtain ⟨f1, f2⟩ := g2
      rw [nb.lk, ← List.length_map (f := nmR), List.take_length] at f1
      exact rest _ _ ⟨D, _, rfl, f1, nb.keep f2⟩
  obtain ⟨N, x10, rfl, eN, nb⟩ := gg
  refine if_cut0 (fun σ' G' => σ' = nbS p v w way (some (.ref g)) (some (.ref kk)) (some (.int (sp : Nat))) (some (.ref L)) x8 (some (.ref N)) x10 none none none none none none ∧ G' = G) (fun σ' G' gg => ?_) (fun rest => ?_)
  rotate_left
  · refine ⟨_, rfl, rfl, _, rfl, ite2 (fun _ => ?_) (fun _ => rest _ _ ⟨rfl, rfl⟩)⟩
    refine ⟨_, rfl, _, rfl, g, gs, rfl, .inl (SqL.of nb.eg), _, _, rfl, rfl, _, rfl, ite2 (fun l6 => ?_) (fun _ => rest _ _ ⟨rfl, rfl⟩)⟩
    have l6 : sp < ts.length := by
      have := of_decide_eq_true l6
      omega
    have ht : ts[sp]? = some ts[sp] := List.getElem?_eq_getElem l6
    obtain ⟨ta, ca, hg, st, _⟩ := tab_item (dpAll_off hh_in nb.dt) ht
    refine ⟨_, rfl, _, rfl, g, gs, (sp : Int), .ref ta, rfl, rfl, SqL.of nb.eg, atI_nat hg, ta, _, 0, _, rfl, rfl, st, atI_nat (j := 0) rfl, _, rfl, N, _, rfl, .inl (SqL.of eN), rfl, flat_strs _, _, rfl, ?_⟩
    rw [if_pos rfl, inV_strs]
    refine ite2 (fun z => ?_) (fun _ => rest _ _ ⟨rfl, rfl⟩)
    have z : ts[sp].1 ∉ rs.map nmR := by simpa using z
    have g' := gv_erase sp gv
    refine era_read (K := K) (a := g) (i := sp) (xs := gs) rfl rfl (SqL.of nb.eg) (by omega) (fun m Gm kG em => ?_)
    refine ⟨_, rfl, l2, fun mm nm => fin mm nm (ts' := ts.eraseIdx sp) (rs' := rs) (.lst (SqL.of em) ?_) (dp_off kG nb.dpr) g' (rl_erase rl1 gv ht z) (nb.pu.off kG no) (by omega) (nb.off.trans (Off.in kG))⟩
    rw [← eraseIdx_map']
    exact dpAll_erase _ (dpAll_off (hh_in.trans kG) nb.dt)
  obtain ⟨rfl, rfl⟩ := gg
  have shT : SeqAt.shaped (tabsD ts) = true := shaped_of (lay_tabs gv.w) fT (by show 3 ≤ 64; decide)
  have shR : SeqAt.shaped (rbsD rs) = true := shaped_of (lay_rbs rl.ok) fR (by show 3 ≤ 64; decide)
  have sh0 : SeqAt.shaped (.list []) = true := by decide +kernel
  have eT : PyData.eqv (tabsD ts) (.list []) = ts.isEmpty := nilD tabD ts
  have eR : PyData.eqv (rbsD rs) (.list []) = rs.isEmpty := nilD rbD rs
  have s0 : 0 ≤ sizeLine := by decide
  refine asg_cut0 (fun σ' G => (∃ z, σ' = nbS p v w way (some (.ref g)) (some (.ref kk)) (some (.int z)) (some (.ref L)) x8 (some (.ref N)) x10 none none none none none none ∧ (ts ≠ [] → ∃ j : Nat, z = (j : Int) ∧ j < ts.length)) ∧ G = G') (fun σ' G gg => ?_) (fun rest => ?_)
  rotate_left
  · refine ⟨_, rfl, _, rfl, _, rfl, g, gs, rfl, .inl (SqL.of nb.eg), rfl, .inr ⟨_, rfl, _, _, rfl, rfl, rest _ _ ⟨⟨_, rfl, fun hne => ?_⟩, rfl⟩⟩⟩
    have pos : 0 < ts.length := List.length_pos_iff.mpr hne
    rw [dec_int, gT]
    by_cases e : sp = ts.length
    · refine ⟨sp - 1, ?_, by omega⟩
      rw [e]
      simp
      omega
    · refine ⟨sp, ?_, by omega⟩
      have : ((sp : Int) == (ts.length : Int)) = false := by
        rw [beq_eq_false_iff_ne]
        omega
      rw [this]
      simp
  obtain ⟨⟨z, rfl, hz⟩, rfl⟩ := gg
  refine if_cut0 (fun σ' G' => σ' = nbS p v w way (some (.ref g)) (some (.ref kk)) (some (.int z)) (some (.ref L)) x8 (some (.ref N)) x10 none none none none none none ∧ ts ≠ [] ∧ Off (fun _ => False) G G') (fun σ' G' gg => ?_) (fun rest => ?_)
  rotate_left
  · refine ⟨_, rfl, s0, fun m nm => ⟨tabsD ts, .list [], dp_off (Off.new nm) nb.dpt, .lst (SqL.of upd_same) .nil, shT, sh0, _, rfl, ?_⟩⟩
    have k3 : Off (fun _ => False) G (upd G m (.lst [])) := Off.new nm
    generalize upd G m (.lst []) = G3 at k3 ⊢
    have nb3 := nb.keep k3
    rw [eT]
    cases hts : ts.isEmpty with
    | true =>
      refine ⟨_, rfl, s0, fun m2 nm2 => ⟨tabsD ts, .list [], dp_off (Off.new nm2) nb3.dpt, .lst (SqL.of upd_same) .nil, shT, sh0, _, rfl, ?_⟩⟩
      have nb4 := nb3.keep (Off.new (o := .lst []) nm2)
      rw [eT, hts]
      exact ⟨_, rfl, _, rfl, l2, fun mm nm => fin mm nm nb4.dpt nb4.dpr gv rl1 nb4.pu (by omega) nb4.off⟩
    | false =>
      have hne : ts ≠ [] := fun z => by rw [z] at hts; cases hts
      refine ⟨_, rfl, rfl, _, rfl, ite2 (fun _ => ?_) (fun _ => rest _ _ ⟨rfl, hne, k3⟩)⟩
      refine ⟨_, rfl, s0, fun m2 nm2 => ⟨tabsD ts, .list [], dp_off (Off.new nm2) nb3.dpt, .lst (SqL.of upd_same) .nil, shT, sh0, _, rfl, ?_⟩⟩
      have nb4 := nb3.keep (Off.new (o := .lst []) nm2)
      generalize upd G3 m2 (.lst []) = G4 at nb4 ⊢
      rw [eT, hts]
      obtain ⟨j, rfl, lj⟩ := hz hne
      have ht : ts[j]? = some ts[j] := List.getElem?_eq_getElem lj
      refine ⟨_, rfl, _, rfl, _, rfl, _, rfl, g, gs, rfl, .inl (SqL.of nb4.eg), p, (gs.length : Int), c + 2, rfl, nb4.pu, by omega, by omega, by omega, fun i G5 i0 i1 hp5 b5 => ?_⟩
      obtain ⟨i, rfl⟩ : ∃ i' : Nat, i = (i' : Int) := ⟨i.toNat, by omega⟩
      have nb5 := nb4.to b5.off hp5
      obtain ⟨ta, ca, hg, st, _, dt⟩ := tab_item nb5.dt ht
      refine ⟨g, gs, j, i, .ref ta, rfl, SqL.of nb5.eg, hg, by omega, by omega, fun m6 G6 n6 e6 k6 => ?_⟩
      have nb6 := nb5.keep k6
      refine ⟨_, rfl, l2, fun mm nm => fin mm nm (ts' := movedL ts j i ts[j]) (rs' := rs) (.lst (SqL.of e6) ?_) nb6.dpr (gv_perm gv (movedL_perm ht)) (rl1.grow (gv_perm gv (movedL_perm ht)).nd fun t hm => ⟨t, (movedL_perm ht).mem_iff.mpr hm, rfl, fun _ h => h⟩) nb6.pu (by omega) nb6.off⟩
      rw [← movedL_map]
      exact dpAll_moved (dpAll_off (hh_in.trans k6) nb5.dt) (dp_off (hh_in.trans k6) dt)
  obtain ⟨rfl, hne, kG⟩ := gg
  obtain ⟨j, rfl, lj⟩ := hz hne
  replace nb := nb.keep kG
  have ht : ts[j]? = some ts[j] := List.getElem?_eq_getElem lj
  generalize ts[j] = t at ht
  have tok := gv.each t (List.mem_of_getElem? ht)
  obtain ⟨ta, ca, hg, st, sc, dt⟩ := tab_item (dpAll_off hh_in nb.dt) ht
  refine ⟨_, rfl, _, rfl, g, gs, (j : Int), .ref ta, rfl, rfl, SqL.of nb.eg, atI_nat hg, ta, _, rfl, st, rfl, _, _, rfl, _, _, rfl, rfl, ?_⟩
  have c1 := tok.one
  have c8 := tok.most
  refine ⟨_, rfl, _, rfl, ca, _, rfl, .inl sc, _, _, rfl, rfl, p, ((t.2.map V.str).length : Int) + 1, c + 2, rfl, nb.pu, by omega, by omega, by rw [List.length_map]; omega, fun en G1 i0 i1 hp1 b1 => ?_⟩
  rw [List.length_map] at i1
  obtain ⟨en, rfl⟩ : ∃ i' : Nat, en = (i' : Int) := ⟨en.toNat, by omega⟩
  have len : en ≤ t.2.length := by omega
  have sc1 := sqL_but b1.off nb.pu sc strs_noInt
  replace nb := nb.to b1.off hp1
  refine ⟨_, rfl, _, rfl, ca, _, rfl, .inl sc1, p, ((t.2.map V.str).length : Int), c + 3, rfl, nb.pu, by omega, by rw [List.length_map]; omega, by rw [List.length_map]; omega, fun hd G2 h0 h1 hp2 b2 => ?_⟩
  rw [List.length_map] at h1
  obtain ⟨hd, rfl⟩ : ∃ i' : Nat, hd = (i' : Int) := ⟨hd.toNat, by omega⟩
  have lhd : hd < t.2.length := by omega
  have sc2 := sqL_but b2.off nb.pu sc1 strs_noInt
  replace nb := nb.to b2.off hp2
  refine ⟨_, _, rfl, ?_⟩
  clear b1 b2 hp1 hp2 sc sc1 st dt i0 i1 h0 h1
  refine if_cut (NbEnd K H p g c M) (fun σ' G' gg => ?_) (fun rest => ?_)
  · obtain ⟨v5, ts', rs', h4, h5, d1, d2, g', r', ⟨c', p', lc⟩, k'⟩ := gg
    exact ⟨_, h4, _, h5, l2, fun mm nm => fin mm nm d1 d2 g' r' p' lc k'⟩
  have lg : gs.length = ts.length := nb.lt
  refine els_cut ?_ (fun els => ?_)
  rotate_left
  · refine ⟨_, rfl, rfl, _, rfl, ite2 (fun _ => ?_) (fun _ => els)⟩
    refine ⟨_, rfl, _, rfl, ca, _, rfl, .inl sc2, _, _, rfl, rfl, _, rfl, ite2 (fun l6 => ?_) (fun _ => els)⟩
    rw [List.length_map] at l6
    have l6 : en < t.2.length := by
      have := of_decide_eq_true l6
      omega
    have hy : t.2[en]? = some t.2[en] := List.getElem?_eq_getElem l6
    refine ⟨_, rfl, _, rfl, _, rfl, _, rfl, ca, _, en, hd, .str t.2[en], rfl, sc2, by rw [List.getElem?_map, hy]; rfl, by rw [List.length_map]; omega, by omega, fun m G3 n3 e3 k3 => ⟨l2, fun m2 n2 => ?_⟩⟩
    rw [movedL_map] at e3
    have k4 : Off (fun _ => False) G3 (upd G3 m2 (.tup [.str t.1, .ref m])) := Off.new n2
    have nb4 := (nb.keep k3).keep k4
    refine ⟨_, rfl, _, rfl, g, gs, _, j, rfl, rfl, nb4.eg, ixN_at (by omega), rest _ _ ?_⟩
    exact nb_put rfl rfl nb4 gv rl1 (by omega) ht (apart_of nb.eg n3) (apart_of nb.ek n3) (k4 _ _ e3 no) upd_same (tab_moved tok hy) fun y h => (movedL_perm hy).mem_iff.mpr h
  refine els_cut1 ?_ (fun els => ?_)
  rotate_left
  · refine ⟨_, rfl, rfl, _, rfl, ite2 (fun _ => ?_) (fun _ => els)⟩
    refine ⟨_, rfl, ca, _, rfl, .inl sc2, _, _, rfl, rfl, _, rfl, ite2 (fun l6 => ?_) (fun _ => els)⟩
    rw [List.length_map] at l6
    have l6 : t.2.length < 8 := by
      have := of_decide_eq_true l6
      omega
    refine ⟨abc, rfl, fun D hD => lc_str (fun i G => G D = some (.lst (((abc.cps.toList.take i).filter fun c => !decide (sg c ∈ t.2)).map fun c => .str (sg c))) ∧ Off (fun _ => False) G2 G) ⟨upd_same, Off.new hD⟩ (fun i x G hx g2 => ?_) fun G g2 => ?_⟩
    · obtain ⟨f1, f2⟩ := g2
      have fs := filter_step (p := fun c => !decide (sg c ∈ t.2)) hx
      refine ⟨rfl, _, rfl, _, rfl, ca, _, rfl, .inl (sqL_off f2 sc2), rfl, flat_strs _, _, rfl, ?_⟩
      rw [if_pos rfl, inV_strs]
      refine ite2 (fun y => ?_) (fun y => ?_)
      · rw [if_pos (show (!decide (sg x ∈ t.2)) = true from y)] at fs
        refine ⟨_, rfl, _, f1, ?_, ?_, ?_⟩
        · rw [List.length_map]
          exact Nat.lt_of_le_of_lt (Nat.le_trans (List.length_filter_le _ _) (List.length_take_le' _ _)) (by decide +kernel)
        · rw [fs, List.map_append]
          exact upd_same
        · exact fun a o e n => (upd_ne fun z => by rw [z, hD] at e; cases e).trans (f2 a o e n)
      · rw [if_neg (show ¬ (!decide (sg x ∈ t.2)) = true from y), List.append_nil] at fs
        rw [fs]
        exact ⟨f1, f2⟩
    · obtain ⟨f1, f2⟩ := g2
      rw [List.take_length] at f1
      obtain ⟨c0, fr, ef⟩ := sg_free (xs := t.2) (by omega)
      obtain ⟨tc, nc⟩ := freeC (cs := t.2) (c := c0) (by rw [ef]; exact List.mem_cons_self)
      rw [ef] at f1
      replace nb := nb.keep f2
      refine ⟨D, _, 0, .str (sg c0), rfl, rfl, SqL.of f1, atI_nat (j := 0) rfl, _, rfl, ?_⟩
      refine ins_read (K := K) (a := ca) (i := en) (xs := t.2.map V.str) (R := fun y _ => y = .str (sg c0)) rfl rfl (sqL_off f2 sc2) (by rw [List.length_map]; omega) (fun G1 Q' k1 qq => ⟨_, rfl, qq _ _ (Off.refl _ _) rfl⟩) (fun m y G3 Gm k3 r3 k4 n4 e4 => ⟨l2, fun m2 n2 => ?_⟩)
      subst r3
      rw [insL_map] at e4
      have k5 : Off (fun _ => False) Gm (upd Gm m2 (.tup [.str t.1, .ref m])) := Off.new n2
      have nb4 := (nb.keep (k3.trans k4)).keep k5
      refine ⟨_, rfl, _, rfl, g, gs, _, j, rfl, rfl, nb4.eg, ixN_at (by omega), rest _ _ ?_⟩
      exact nb_put rfl rfl nb4 gv rl1 (by omega) ht (apart_of nb.eg n4) (apart_of nb.ek n4) (k5 _ _ e4 no) upd_same (tab_ins tok l6 tc nc) fun y h => (insL_perm _ _ _).mem_iff.mpr (List.mem_cons_of_mem _ h)
  refine ⟨_, rfl, _, _, rfl, rfl, _, rfl, ite2 (fun _ => ?_) (fun _ => rest _ _ (nb_same rfl rfl nb gv rl1 (by omega)))⟩
  refine ⟨_, rfl, s0, fun m nm => ⟨rbsD rs, .list [], dp_off (Off.new nm) nb.dpr, .lst (SqL.of upd_same) .nil, shR, sh0, _, rfl, ?_⟩⟩
  replace nb := nb.keep (Off.new (o := .lst []) nm)
  generalize upd G2 m (.lst []) = G3 at nb ⊢
  rw [eR]
  cases hrs : rs.isEmpty with
  | true => exact rest _ _ (nb_same rfl rfl nb gv rl1 (by omega))
  | false =>
    have hne : rs ≠ [] := fun z => by rw [z] at hrs; cases hrs
    have pos : 0 < rs.length := List.length_pos_iff.mpr hne
    have lk : ks.length = rs.length := nb.lk
    have l20 := rl.len
    refine ⟨_, rfl, _, rfl, kk, ks, rfl, .inl (SqL.of nb.ek), p, (ks.length : Int), c + 4, rfl, nb.pu, by omega, by omega, by omega, fun i G4 i0 i1 hp4 b4 => ?_⟩
    obtain ⟨i, rfl⟩ : ∃ i' : Nat, i = (i' : Int) := ⟨i.toNat, by omega⟩
    replace nb := nb.to b4.off hp4
    refine ⟨_, rfl, _, rfl, kk, ks, rfl, .inl (SqL.of nb.ek), p, (ks.length : Int), c + 5, rfl, nb.pu, by omega, by omega, by omega, fun pl G5 p0 p1 hp5 b5 => ?_⟩
    obtain ⟨pl, rfl⟩ : ∃ i' : Nat, pl = (i' : Int) := ⟨pl.toNat, by omega⟩
    replace nb := nb.to b5.off hp5
    refine ⟨_, _, rfl, ?_⟩
    have li : i < rs.length := by omega
    have lp : pl < rs.length := by omega
    obtain ⟨y, hy⟩ : ∃ y, ks[i]? = some y := ⟨_, List.getElem?_eq_getElem (by omega)⟩
    obtain ⟨k, x0, cs, tl, a, e, hr1, rfl, sa, dy, fm, t0, et0, mem0⟩ := rb_item nb.dr rl hy
    clear b4 b5 hp4 hp5
    have mv := movedL_perm (j := pl) hr1
    refine ⟨_, rfl, rfl, _, rfl, ite2 (fun _ => ?_) (fun _ => ?_)⟩
    · refine ⟨_, rfl, .inl ⟨rfl, _, SqL.of nb.ek⟩, _, rfl, kk, ks, (i : Int), i, _, rfl, rfl, nb.ek, by omega, by omega, ?_, hy, rest _ _ (nb_same rfl rfl (nb.set_r (rs' := rs.eraseIdx i) ?_) gv (rl1.sub (fun r h => List.mem_of_mem_eraseIdx h) (Nat.le_trans (List.length_eraseIdx_le ..) l20)) (by omega))⟩
      · have n0 : ¬ ((i : Int) < 0) := by omega
        have : i < ks.length := by omega
        simp [seqIndex?, this, n0]
      · rw [← eraseIdx_map']
        exact dpAll_erase _ nb.dr
    refine ⟨_, rfl, rfl, _, rfl, ite2 (fun _ => ?_) (fun _ => ?_)⟩
    · refine ⟨_, rfl, _, rfl, _, rfl, kk, ks, i, pl, _, rfl, SqL.of nb.ek, hy, by omega, by omega, fun m6 G6 n6 e6 k6 => ?_⟩
      have nb6 := nb.keep k6
      refine rest _ _ ⟨.ref m6, ts, movedL rs i pl _, rfl, rfl, nb6.dpt, .lst (SqL.of e6) ?_, gv, rl1.sub (fun r h => mv.mem_iff.mp h) (by rw [mv.length_eq]; exact l20), ⟨_, nb6.pu, by omega⟩, nb6.off⟩
      rw [← movedL_map]
      exact dpAll_moved (dpAll_off (hh_in.trans k6) nb.dr) (dp_off (hh_in.trans k6) dy)
    refine ⟨_, rfl, rfl, _, rfl, ite2 (fun _ => ?_) (fun _ => ?_)⟩
    · obtain ⟨y2, hy2⟩ : ∃ y, ks[pl]? = some y := ⟨_, List.getElem?_eq_getElem (by omega)⟩
      obtain ⟨k', x', cs', tl', a', e', hr2, rfl, sa', dy', _⟩ := rb_item nb.dr rl hy2
      have m2 := List.mem_of_getElem? hr2
      refine ⟨_, rfl, _, rfl, kk, ks, (pl : Int), _, rfl, rfl, SqL.of nb.ek, atI_nat hy2, _, _, 8, [5, M], rfl, dp_off hh_in dy', fit_rb (rl.ok _ m2), ?_, by show 2 < 6; decide, fun v6 F6 G6 o6 f6 k6 => ?_⟩
      · intro m hm
        rcases List.mem_cons.mp hm with rfl | hm
        · decide
        rw [List.mem_singleton.mp hm]
        omega
      have nb6 := nb.keep k6
      refine ⟨_, rfl, _, rfl, kk, ks, _, i, rfl, rfl, nb6.ek, ixN_at (by omega), rest _ _ (nb_same rfl rfl (nb6.set_r (rs' := rs.set i _) ?_) gv (rl_put rl1 (rl1.s _ m2) (rl1.ok _ m2)) (by omega))⟩
      rw [← set_map]
      exact dpAll_set i nb6.dr (ow_hide2 nb nb6 o6 f6)
    obtain ⟨ps, kvs, e1, e2, e3, e4, e5⟩ := nb.dict gv.nd
    refine ⟨_, rfl, _, rfl, _, rfl, kk, ks, (i : Int), _, rfl, rfl, SqL.of nb.ek, atI_nat hy, _, rfl, g, ps, kvs, rfl, SqL.of (by rw [nb.eg, e1]), e2, fun d hd => ?_⟩
    rw [e4]
    have kd : Off (fun _ => False) G5 (upd G5 d (.dK kvs)) := Off.new hd
    have ed := upd_same (H := G5) (a := d) (o := .dK kvs)
    generalize upd G5 d (.dK kvs) = Gd at kd ed ⊢
    have nbd := nb.keep kd
    rcases titK_at (x := x0) (titK_off kd e3) with ⟨_, u2⟩ | ⟨v', t', u1, u2, u3⟩
    · rw [et0] at u2
      cases u2
    rw [et0] at u2
    cases u2
    obtain ⟨mt0, ex0⟩ := tabOf_mem et0
    have m1 := List.mem_of_getElem? hr1
    have ok1 := rl.ok _ m1
    refine ⟨_, rfl, _, rfl, kk, ks, (i : Int), _, rfl, rfl, SqL.of nbd.ek, atI_nat hy, a, _, 1, .str x0, rfl, rfl, sqT_off (hh_in.trans kd) sa, atI_nat (j := 1) rfl, d, v', rfl, ?_, ?_⟩
    · have := DGet.k (k := .inr x0) ed
      rw [u1] at this
      exact this
    refine ⟨p, _, _, ts, k, x0, cs, tl, t0, M, c + 6, rfl, dp_off (hh_in.trans kd) dy, fm, et0, mem0, (ok1.cs _ _ rfl).1, by omega, tabB_ok (gv.each _ mt0), ok1.hg x0 (by simp), u3, nbd.pu, by omega, fun v7 r7 G7 c7 d7 s7 o7 p7 l7 k7 => ?_⟩
    have nb7 := nbd.to k7 p7
    refine ⟨_, rfl, _, rfl, kk, ks, _, i, rfl, rfl, nb7.ek, ixN_at (by omega), rest _ _ (nb_same rfl rfl (nb7.set_r (rs' := rs.set i r7) ?_) gv (rl_put rl1 s7 o7) (by omega))⟩
    rw [← set_map]
    exact dpAll_set i nb7.dr (rb_hide2 nb7 d7 s7 (List.mem_of_getElem? hg) (List.mem_of_getElem? hy))
end
end LW
set_option Elab.async false
set_option linter.all false
set_option maxRecDepth 100000
set_option maxHeartbeats 0
/-! what _law_right of k05 stands on -/
namespace LW
open PySem PySem.Spec PyProof.Rows L2 KV
theorem Gv.tk {ts : List Tab} (h : Gv ts) (ne : ts ≠ []) : TabsOk 6 8 ts := ⟨List.length_pos_iff.mpr ne, h.most, h.nd, h.each⟩
theorem gv_of {ts : List Tab} (h : TabsOk 6 8 ts) : Gv ts := ⟨h.most, h.nd, h.each⟩
theorem Rl.none {M : Nat} {rs : List RB} (h : Rl M [] rs) : rs = [] := by
  cases rs with
  | nil => rfl
  | cons r t =>
    obtain ⟨k, x, cs, tl, t, _, _, e, _⟩ := h.s r List.mem_cons_self
    cases e
theorem bkB_near {M : Nat} {ts : List Tab} {rs : List RB} (g : Gv ts) (r : Rl M ts rs) (l : M ≤ 12) : BkB 8 8 6 8 12 20 ts rs := ⟨g.w, fun x hx => (r.ok x hx).up l, by decide, by decide, by decide, by decide, r.len, by decide⟩
theorem wrong_near {M : Nat} {ts : List Tab} {rs : List RB} (g : Gv ts) (r : Rl M ts rs) : wrongBook ts rs = none := by
  by_cases e : ts = []
  · subst e
    rw [r.none]
    rfl
  · exact wrongBook_none (g.tk e) r.s
section
variable {K : PySem.W.Frag} {H H' : Hp} {p : Addr} {c c' : Nat}
theorem _root_.KV.Oth.but {CE : Addr} {y : V} {t : Value} (h : Oth H CE y t) (k : Off (fun a => a = p) H H') (hp : Pu H p c) (hp' : Pu H' p c') : Oth H' CE y t := by
  obtain ⟨xs, ep⟩ := hp.lst
  obtain ⟨xs', ep'⟩ := hp'.lst
  cases h with
  | non => exact .non
  | int i => exact .int i
  | str x => exact .str x
  | @lst a ys h =>
    by_cases z : a = p
    · rw [z]
      exact .lst ep'
    · exact .lst (k _ _ h z)
  | tup h => exact .tup (k _ _ h fun z => by rw [z, ep] at h; cases h)
  | err h d =>
    refine .err (k _ _ h fun z => ?_) (k _ _ d fun z => ?_)
    · rw [z, ep] at h
      cases h
    · rw [z, ep] at d
      cases d
theorem _root_.KV.Oth.off {CE : Addr} {y : V} {t : Value} (h : Oth H CE y t) (k : Off (fun _ => False) H H') : Oth H' CE y t := by
  have no : ¬ False := id
  cases h with
  | non => exact .non
  | int i => exact .int i
  | str x => exact .str x
  | lst h => exact .lst (k _ _ h no)
  | tup h => exact .tup (k _ _ h no)
  | err h d => exact .err (k _ _ h no) (k _ _ d no)
theorem Other.but {y : V} (h : Other K H y) (k : Off (fun a => a = p) H H') (hp : Pu H p c) (hp' : Pu H' p c') : Other K H' y := by
  rcases h with ⟨b, dy, gs, rfl, hb⟩ | ⟨t, o⟩
  · obtain ⟨xs, ep⟩ := hp.lst
    exact .inl ⟨b, dy, gs, rfl, k _ _ hb fun z => by rw [z, ep] at hb; cases hb⟩
  · exact .inr ⟨t, o.but k hp hp'⟩
theorem Other.off {y : V} (h : Other K H y) (k : Off (fun _ => False) H H') : Other K H' y := by
  rcases h with ⟨b, dy, gs, rfl, hb⟩ | ⟨t, o⟩
  · exact .inl ⟨b, dy, gs, rfl, k _ _ hb id⟩
  · exact .inr ⟨t, o.off k⟩
theorem Alike.but {x y : V} {d : Bool} (h : Alike K H x y d) (k : Off (fun a => a = p) H H') (hp : Pu H p c) (hp' : Pu H' p c') : Alike K H' x y d := by
  obtain ⟨a, ts, rs, n, mc, mt, N, M, L, rfl, ha, ba, hq⟩ := h
  refine ⟨a, ts, rs, n, mc, mt, N, M, L, rfl, ha.but k hp, ba, ?_⟩
  rcases hq with ⟨b, us, ws, n', mc', mt', N', M', L', rfl, hb, bb, rfl⟩ | ⟨o, rfl⟩
  · exact .inl ⟨b, us, ws, n', mc', mt', N', M', L', rfl, hb.but k hp, bb, rfl⟩
  · exact .inr ⟨o.but k hp hp', rfl⟩
theorem Alike.off {x y : V} {d : Bool} (h : Alike K H x y d) (k : Off (fun _ => False) H H') : Alike K H' x y d := by
  obtain ⟨a, ts, rs, n, mc, mt, N, M, L, rfl, ha, ba, hq⟩ := h
  refine ⟨a, ts, rs, n, mc, mt, N, M, L, rfl, ha.off k, ba, ?_⟩
  rcases hq with ⟨b, us, ws, n', mc', mt', N', M', L', rfl, hb, bb, rfl⟩ | ⟨o, rfl⟩
  · exact .inl ⟨b, us, ws, n', mc', mt', N', M', L', rfl, hb.off k, bb, rfl⟩
  · exact .inr ⟨o.off k, rfl⟩
theorem alike_other {x : Addr} {y : V} {ts : List Tab} {rs : List RB} (b : BookOf K H x ts rs) (bb : BkB 8 8 6 8 12 20 ts rs) (o : Other K H y) : Alike K H (.ref x) y false := ⟨x, ts, rs, _, _, _, _, _, _, rfl, b, bb, .inr ⟨o, rfl⟩⟩
theorem alike_book {x y : Addr} {ts us : List Tab} {rs ws : List RB} (b : BookOf K H x ts rs) (bb : BkB 8 8 6 8 12 20 ts rs) (o : BookOf K H y us ws) (ob : BkB 8 8 6 8 12 20 us ws) : Alike K H (.ref x) (.ref y) (sameB ts us rs ws) :=
  ⟨x, ts, rs, _, _, _, _, _, _, rfl, b, bb, .inl ⟨y, us, ws, _, _, _, _, _, _, rfl, o, ob, rfl⟩⟩
end
/-- tables and rules as one tuple -/
def pairD (ts : List Tab) (rs : List RB) : PyData := .tuple [tabsD ts, rbsD rs]
theorem shaped_pair {ts : List Tab} {rs : List RB} (b : BkB 8 8 6 8 12 20 ts rs) : SeqAt.shaped (pairD ts rs) = true := by
  have l : (pairD ts rs).canLay0 = true := by
    simp only [pairD, PyData.canLay0, PyData.canLayAll0, Bool.and_eq_true, Bool.and_true]
    exact ⟨lay_tabs b.tb, lay_rbs b.rb⟩
  have f1 : Fit 8 [20, 5, 12] (tabsD ts) := fit_wide (.cons (by decide) (.cons (by decide) (.cons (by decide) .nil))) (fit_tabsW b.tb)
  have f2 : Fit 8 [20, 5, 12] (rbsD rs) := fit_rbs b.lr b.rb
  refine shaped_of (ms := [2, 20, 5, 12]) (b := 8) l ?_ (by decide)
  refine ⟨Nat.le_refl _, fun d hd => ?_⟩
  rcases List.mem_cons.mp hd with rfl | hd
  · exact f1
  · rw [List.mem_singleton.mp hd]
    exact f2
theorem eqv_pair (ts us : List Tab) (rs ws : List RB) : PyData.eqv (pairD us ws) (pairD ts rs) = sameB ts us rs ws := by
  rw [← sameB_comm]
  unfold sameB
  show (PyData.eqv (tabsD us) (tabsD ts) && (PyData.eqv (rbsD ws) (rbsD rs) && true)) = _
  rw [Bool.and_true]
theorem same_none {ts : List Tab} {rs : List RB} (h : ts ≠ []) : sameB ts [] rs [] = false := by
  unfold sameB
  have : PyData.eqv (tabsD ts) (tabsD []) = false := by
    show PyData.eqv (.list (ts.map tabD)) (.list []) = false
    rw [nilD]
    cases ts with
    | nil => exact absurd rfl h
    | cons t r => rfl
  rw [this]
  rfl
end LW
set_option Elab.async false
set_option linter.all false
set_option maxRecDepth 100000
set_option maxHeartbeats 0
/-! _law_right of k05 -/
namespace LW
open PySem PySem.Spec PyProof.Rows L2 KV
def spRight (K : PySem.W.Frag) : Sp := fun vs H Q _ => ∃ (p : Addr) (c : Nat), vs = [.ref p] ∧ Pu H p c ∧ c + 6000 ≤ 1000000000 ∧ ∀ H' c', Pu H' p c' → c' ≤ c + 4000 → Off (fun a => a = p) H H' → Q (.bl true) H'
section
variable {P : Program} {w : World} {K : PySem.W.Frag} {mg : Str → Option Value} {base : Heap}
abbrev riN : List Str := ["purse", "tables_here", "rules_here", "made", "others", "given", "kept", "turn", "beside", "strange", "thing"]
theorem scRight : FnScope riN ["purse"] (defScope sRight) := ⟨rfl, rfl, rfl, by decide +kernel, rfl, by decide +kernel, by decide +kernel⟩
theorem ok_right {f fS fR fN fL fD fW pT gT : Addr} {fd dS dR dN dL dB dI dT dE dD dW : FuncData} (F : FnP K "_law_right" sRight f fd) (B : BookT K mg) (ST : StoreT K mg) (ER : ErrT P w K mg base dE)
    (S : Dn P w K mg base 4 "_law_shape" ["purse"] (spShape K) fS dS) (R : Dn P w K mg base 11 "_law_road" ["purse", "tables_here", "rules_here"] (spRoad K) fR dR) (D : Dn P w K mg base 6 "_law_copied" ["thing"] (spCopied K 6) fD dD)
    (N : Dn P w K mg base 7 "_law_near_book" ["purse", "tables_here", "rules_here"] (spNearB K) fN dN) (L : DnC P w K mg base 4 "_law_books_alike" ["one_book", "two_book", "is_due"] (spAlike K) fL dL)
    (W : Dn P w K mg base 9 "show_book" ["book"] (spShow K) fW dW)
    (GB : DnX P w K mg base 8 ["self", "tables", "rules"] (spBook K) (He.ma K (He.ga K "Book") "__init__") dB) (GS : FnOk P w K mg base CX0 9 (He.ma K (He.ga K "Store") "__init__") dI ["self", "book"] (spStoreI K)) (bS : Binds K dI ["self", "book"] [])
    (pt : PropOf K (He.ga K "Book") "tables" pT gT) (GT : FnOk P w K mg base CX0 7 gT dT ["self"] (spGetT K)) (bT : Binds K dT ["self"] [])
    (mr : mg "range" = none) : FnC P w K mg base CX0 12 f fd ["purse"] (spRight K) := by
  refine Fun.okC F scRight (fun vs H Q E h => ?_) (fun cdv A outer s H vs Q E hG hr h => ?_)
  · obtain ⟨p, c, rfl, _⟩ := h
    rfl
  obtain ⟨p, c, rfl, hp, hc, q⟩ := h
  have hu : (A.deeper (envOfC "_law_right" (defScope sRight) s.heap.objs.size f cdv)).units + 64 < cLine := hr.units
  have t2 := ER.es.ok "UnknownTable" (by decide)
  refine ⟨_, PSs.nox (pss_cons (ps_asg (pe_call S.g (hr.mono (by decide)) rfl S.m S.kp S.b .nil pass0 (pa_cons (pv 0) pa_nil)) (pg_tup rfl (pgs_cons (pg_name (i := 1) scRight.nd rfl (Or.inl rfl)) (pgs_cons (pg_name (i := 2) scRight.nd rfl (Or.inl rfl)) pgs_nil))))
    (pss_cons (ps_set (i := 3) scRight.nd rfl (Or.inr rfl) (pe_call R.g hr rfl R.m R.kp R.b .nil pass0 (pa_cons (pv 0) (pa_cons (pv 1) (pa_cons (pv 2) pa_nil)))))
    (pss_cons (ps_set (i := 4) scRight.nd rfl (Or.inl rfl) (pe_lst (pa_cons pe_non (pa_cons pe_int (pa_cons pe_str (pa_cons (pe_lst pa_nil) (pa_cons (pe_tup pa_nil) (pa_cons (pe_call D.g (hr.mono (by decide)) rfl D.m D.kp D.b .nil pass0 (pa_cons (pv 1) pa_nil)) (pa_cons (pe_tup (pa_cons (pv 1) (pa_cons (pv 2) pa_nil))) (pa_cons (pe_lst (pa_cons (pv 1) (pa_cons (pv 2) pa_nil))) pa_nil))))))))))
    (pss_cons (ps_set (i := 4) scRight.nd rfl (Or.inl rfl) (pe_op op_cat (pv 4) (pe_lst (pa_cons (pe_make ST.mkr GS (hr.mono (by decide)) rfl ST.g bS .nil pass0 (pa_cons (pv 3) pa_nil))
        (pa_cons (pe_exP t2.oex t2.no t2.ini t2.fn ER.ini (hr.mono (by decide)) ER.b rfl (ER.g "UnknownTable" (by decide)) pe_str) (pa_cons (pe_prop (pv 3) B.cl pt GT (hr.mono (by decide)) bT .nil pass0 rfl)
        (pa_cons (pe_call W.g (hr.mono (by decide)) rfl W.m W.kp W.b .nil pass0 (pa_cons (pv 3) pa_nil)) pa_nil)))))))
    (pss_cons (ps_expr (pe_bm PySem.F.plainAttrs_list PySem.F.slot_list_append PySem.F.type_list_append mt_append (pv 4) (pa_cons (pe_make B.mkr GB.g (hr.mono (by decide)) rfl B.g GB.b .nil passN (pa_cons (pe_lst pa_nil) (pa_cons (pe_lst pa_nil) pa_nil))) pa_nil)))
    (pss_cons (ps_par (i := 5) (j := 6) rfl scRight.nd rfl rfl (by decide) rfl rfl (pa_cons (pv 1) (pa_cons (pv 2) pa_nil)) rfl)
    (pss_cons (ps_for PassesOwn.never rfl (pi_range1 rfl mr (pa_cons pe_int pa_nil)) (pg_name (i := 7) scRight.nd rfl (Or.inl rfl))
      (pss_cons (ps_if (pt_cmpR op_eq (pv 7) pe_int (nomark _)) (pss_one (ps_par (i := 5) (j := 6) rfl scRight.nd rfl rfl (by decide) rfl rfl (pa_cons (pv 1) (pa_cons (pv 2) pa_nil)) rfl)) pss_nil)
      (pss_cons (ps_asg (pe_call N.g (hr.mono (by decide)) rfl N.m N.kp N.b .nil pass0 (pa_cons (pv 0) (pa_cons (pv 5) (pa_cons (pv 6) pa_nil)))) (pg_tup rfl (pgs_cons (pg_name (i := 5) scRight.nd rfl (Or.inl rfl)) (pgs_cons (pg_name (i := 6) scRight.nd rfl (Or.inl rfl)) pgs_nil))))
      (pss_cons (ps_set (i := 8) scRight.nd rfl (Or.inl rfl) (pe_ifExp (pt_cmpR (op_eqD hu) (pv 5) (pe_lst pa_nil) (nomark _)) (pe_make B.mkr GB.g (hr.mono (by decide)) rfl B.g GB.b .nil passN (pa_cons (pe_lst pa_nil) (pa_cons (pe_lst pa_nil) pa_nil)))
          (pe_call R.g hr rfl R.m R.kp R.b .nil pass0 (pa_cons (pv 0) (pa_cons (pv 5) (pa_cons (pv 6) pa_nil))))))
      (pss_cons (ps_if (pt_not (pt_val (pe_callC hG L.g (hr.mono (by decide)) rfl L.m L.kp L.b pass0 (pa_cons (pv 3) (pa_cons (pv 8) (pa_cons (pe_cmpR (op_eqD hu) (pe_tup (pa_cons (pv 5) (pa_cons (pv 6) pa_nil))) (pe_tup (pa_cons (pv 1) (pa_cons (pv 2) pa_nil))) (nomark _)) pa_nil)))))) (pss_one (ps_ret pe_bl)) pss_nil)
      (pss_one (ps_if (pt_not (pt_val (pe_callC hG L.g (hr.mono (by decide)) rfl L.m L.kp L.b pass0 (pa_cons (pv 8) (pa_cons (pe_make B.mkr GB.g (hr.mono (by decide)) rfl B.g GB.b .nil passN
          (pa_cons (pe_call D.g (hr.mono (by decide)) rfl D.m D.kp D.b .nil pass0 (pa_cons (pv 5) pa_nil)) (pa_cons (pe_call D.g (hr.mono (by decide)) rfl D.m D.kp D.b .nil pass0 (pa_cons (pv 6) pa_nil)) pa_nil))) (pa_cons pe_bl pa_nil)))))) (pss_one (ps_ret pe_bl)) pss_nil)))))))
    (pss_cons (ps_setLc (i := 9) (own := [("thing", 10)]) (g := gName 10) (tt := tNot (tB (tCall (spAlike K) [] E0 (tCons (tVar 3) (tCons (tVar 10) (tCons (tC (.bl false)) tNil)))))) (te := tC (.int 1)) rfl scRight.nd rfl rfl (sw_true rfl rfl rfl (by decide +kernel)) (pi_list (pv 4)) (blkOk_by (own := [("thing", 10)]) (N := riN) (sc := defScope sRight) (by decide +kernel))
        (fun _ _ _ _ _ => pg_name (i := 10) scRight.nd rfl (Or.inl rfl)) (fun _ _ _ _ _ => pts_one (pt_not (pt_val (pe_callC hG L.g (hr.mono (by decide)) rfl L.m L.kp L.b pass0 (pa_cons (pv 3) (pa_cons (pv 10) (pa_cons pe_bl pa_nil))))))) (fun _ _ _ _ _ => pe_int))
    (pss_one (ps_ret (pe_and (pe_cmpR (op_eqD hu) (pv 9) (pe_lst pa_nil) (nomark _)) (pe_one (pe_callC hG L.g (hr.mono (by decide)) rfl L.m L.kp L.b pass0 (pa_cons (pv 3) (pa_cons (pv 3) (pa_cons pe_bl pa_nil)))))))))))))))), ?_⟩
  have no : ¬ False := id
  have s0 : 0 ≤ sizeLine := by decide
  have s2 : 2 ≤ sizeLine := by decide
  have big : 40 ≤ sizeLine := by decide
  refine ⟨_, rfl, p, c, rfl, hp, by omega, fun a v w ts qs H1 c1 na ea dv tk dw _ ro lr hp1 hc1 k1 => ?_⟩
  rw [rbsD_of] at dw
  have hrs : ∀ r ∈ qs.map rbOf, RbS ts r := fun r hr => by
    obtain ⟨q0, hq, rfl⟩ := List.mem_map.mp hr
    exact rbS_of (ro q0 hq) tk
  have hro : ∀ r ∈ qs.map rbOf, RbOk 8 8 r := fun r hr => by
    obtain ⟨q0, hq, rfl⟩ := List.mem_map.mp hr
    exact rbOk_of (ro q0 hq) tk (by decide) (by decide)
  have lrs : (qs.map rbOf).length ≤ 20 := by rw [List.length_map]; exact lr
  generalize qs.map rbOf = rs at dw hrs hro lrs
  have gv := gv_of tk
  have rl : Rl 8 ts rs := ⟨hrs, hro, lrs⟩
  have ne : ts ≠ [] := List.length_pos_iff.mp tk.one
  have bb := bkB_near gv rl (by decide)
  refine ⟨a, _, rfl, SqT.of ea, rfl, _, _, rfl, _, _, rfl, rfl, ?_⟩
  refine ⟨_, rfl, _, rfl, _, rfl, p, v, w, ts, rs, 6, 8, c1, rfl, dv, tk, by decide, by decide, dw, hrs, fun r hr => (hro r hr).up (by decide), lrs, hp1, by omega, fun x H2 Fx c2 bo fx nx hp2 hc2 k2 => ?_⟩
  have dv2 := dp_but k2 hp1 dv (noInt_tabs _)
  have dw2 := dp_but k2 hp1 dw (noInt_rbs _)
  have kH2 := k1.trans k2
  have bk2 := bo.of
  clear bo fx nx k1 k2 dv dw ea na hp1
  -- the first others
  have fT : Fit 8 [6, 2, 8] (tabsD ts) := fit_tabsW gv.w
  refine ⟨s0, fun m1 n1 => ⟨s0, fun m2 n2 => ?_⟩⟩
  have j2 : Off (fun _ => False) H2 (upd (upd H2 m1 (.lst [])) m2 (.tup [])) := (Off.new n1).trans (Off.new n2)
  have e1 := (Off.new (G := fun _ => False) (o := .tup []) n2) _ _ (upd_same (H := H2) (a := m1) (o := .lst [])) no
  have e2 := upd_same (H := upd H2 m1 (.lst [])) (a := m2) (o := .tup [])
  dsimp only
  generalize upd (upd H2 m1 (.lst [])) m2 (.tup []) = H3 at j2 e1 e2 ⊢
  refine ⟨_, rfl, v, _, 8, [6, 2, 8], rfl, dp_off j2 dv2, fT, by decide, by decide, fun v5 F5 H5 o5 _ k5 => ⟨_, rfl, _, rfl, s2, fun m6 n6 => ⟨_, rfl, _, rfl, s2, fun m7 n7 => ⟨Nat.le_trans (m := 8) (Nat.le_refl _) (by decide), fun m8 n8 => ?_⟩⟩⟩⟩
  obtain ⟨a5, y5, rfl, e5⟩ : ∃ a5 y5, v5 = .ref a5 ∧ H5 a5 = some (.lst y5) := by
    cases o5 with
    | lst h _ _ _ => exact ⟨_, _, rfl, h⟩
  have k6 : Off (fun _ => False) H5 (upd H5 m6 (.tup [v, w])) := Off.new n6
  have e6 := upd_same (H := H5) (a := m6) (o := .tup [v, w])

  generalize upd H5 m6 (.tup [v, w]) = H6 at k6 e6 n7 n8 ⊢
  have k7 : Off (fun _ => False) H6 (upd H6 m7 (.lst [v, w])) := Off.new n7
  have e7 := upd_same (H := H6) (a := m7) (o := .lst [v, w])
  generalize upd H6 m7 (.lst [v, w]) = H7 at k7 e7 n8 ⊢
  have k27 := ((j2.trans k5).trans k6).trans k7
  have ot : ∀ y ∈ [V.non, .int 0, .str "", .ref m1, .ref m2, .ref a5, .ref m6, .ref m7], Other K H7 y := by
    have k37 := (k5.trans k6).trans k7
    intro y hy
    simp only [List.mem_cons, List.mem_nil_iff, or_false] at hy
    rcases hy with rfl | rfl | rfl | rfl | rfl | rfl | rfl | rfl
    · exact .inr ⟨_, .non⟩
    · exact .inr ⟨_, .int 0⟩
    · exact .inr ⟨_, .str ""⟩
    · exact .inr ⟨_, .lst (k37 _ _ e1 no)⟩
    · exact .inr ⟨_, .tup (k37 _ _ e2 no)⟩
    · exact .inr ⟨_, .lst (k7 _ _ (k6 _ _ e5 no) no)⟩
    · exact .inr ⟨_, .tup (k7 _ _ e6 no)⟩
    · exact .inr ⟨_, .lst e7⟩
  have k8 : Off (fun _ => False) H7 (upd H7 m8 (.lst [.non, .int 0, .str "", .ref m1, .ref m2, .ref a5, .ref m6, .ref m7])) := Off.new n8
  have e8 := upd_same (H := H7) (a := m8) (o := .lst [.non, .int 0, .str "", .ref m1, .ref m2, .ref a5, .ref m6, .ref m7])
  generalize hxs : [V.non, .int 0, .str "", .ref m1, .ref m2, .ref a5, .ref m6, .ref m7] = xs8 at ot k8 e8 ⊢
  have l8 : xs8.length = 8 := by rw [← hxs]; rfl
  generalize upd H7 m8 (.lst xs8) = H8 at k8 e8 ⊢
  have ot8 : ∀ y ∈ xs8, Other K H8 y := fun y hy => (ot y hy).off k8
  have k28 := k27.trans k8
  have bk8 := bk2.off k28
  have dv8 := dp_off k28 dv2
  have dw8 := dp_off k28 dw2
  have hp8 := hp2.off k28 no
  have kH8 := kH2.trans (Off.in k28)
  clear ot k27 k8 k28 k7 k6 e7 e6 e5 e1 e2 k5 o5 j2 n1 n2 n6 n7 n8 hxs kH2 dv2 dw2 bk2 hp2
  dsimp only [gName]
  have xst : ∀ {b : Addr}, H8 b = none → b ≠ x := fun {b} h z => by
    obtain ⟨_, _, _, e, _⟩ := bk8
    rw [← z, h] at e
    cases e
  refine ⟨_, rfl, _, rfl, fun st dx nst ndx nex => ?_⟩
  have kM : Off (fun _ => False) H8 (upd (upd H8 dx (.own st)) st (.ins (He.ga K "Store") dx [])) := (Off.new ndx).trans (Off.new (by rw [upd_ne (Ne.symm nex)]; exact nst))
  refine ⟨st, x, dx, ts, rs, 8, 8, 6, 8, 12, 20, rfl, upd_same, bk8.off kM, xst nst, bb, fun H9 fs e9 k9 => ⟨rfl, ?_⟩⟩
  have k89 : Off (fun _ => False) H8 H9 := fun b o eb _ => k9 _ _ (kM b o eb no) fun z => by
    rw [z, nst] at eb
    cases eb
  refine fun er dxe ner ndxe nexe => ?_
  have kE : Off (fun _ => False) H9 (exH H9 er dxe (He.ga K "UnknownTable") "value" (.str "")) := (Off.new ndxe).trans (Off.new (by rw [upd_ne (Ne.symm nexe)]; exact ner))
  have eE1 : exH H9 er dxe (He.ga K "UnknownTable") "value" (.str "") er = some (exo er (He.ga K "UnknownTable") (some dxe)) := upd_same
  have eE2 : exH H9 er dxe (He.ga K "UnknownTable") "value" (.str "") dxe = some (exd dxe [("value", .str "")]) := (upd_ne nexe).trans upd_same
  generalize exH H9 er dxe (He.ga K "UnknownTable") "value" (.str "") = HE at kE eE1 eE2 ⊢
  have k8E := k89.trans kE
  obtain ⟨db, v1, v2, h1, _, _⟩ := id (bk8.off k8E)
  refine ⟨_, rfl, x, db, _, rfl, h1, x, ts, rs, 8, 8, 6, 8, 12, 20, rfl, bk8.off k8E, bb, fun vT FT HT oT _ kT => ?_⟩
  have bw : BkB 8 10 10 8 12 30 ts rs := ⟨⟨Nat.le_trans gv.most (by decide), fun t ht => ⟨(gv.w.each t ht).one, Nat.le_trans (gv.w.each t ht).most (by decide), (gv.w.each t ht).good, (gv.w.each t ht).name⟩⟩, bb.rb, by decide, by decide, by decide, by decide, Nat.le_trans lrs (by decide), by decide⟩
  refine ⟨_, rfl, x, ts, rs, rfl, (bk8.off k8E).off kT, bw, fun r hr => (hrs r hr).form, fun HW kW => ⟨Nat.le_trans (m := 4) (Nat.le_refl _) (by decide), fun m nm => ?_⟩⟩
  obtain ⟨aT, yT, rfl, eT⟩ : ∃ aT yT, vT = .ref aT ∧ HT aT = some (.lst yT) := by
    cases oT with
    | lst h _ _ _ => exact ⟨_, _, rfl, h⟩
  have kF : Off (fun _ => False) HW (upd HW m (.lst [.ref st, .ref er, .ref aT, .str (bookT ts rs)])) := Off.new nm
  have eF := upd_same (H := HW) (a := m) (o := .lst [.ref st, .ref er, .ref aT, .str (bookT ts rs)])
  have kEF := (kT.trans kW).trans kF
  have ot4 : ∀ y ∈ [V.ref st, .ref er, .ref aT, .str (bookT ts rs)], Other K (upd HW m (.lst [.ref st, .ref er, .ref aT, .str (bookT ts rs)])) y := by
    intro y hy
    simp only [List.mem_cons, List.mem_nil_iff, or_false] at hy
    rcases hy with rfl | rfl | rfl | rfl
    · exact .inl ⟨st, dx, fs, rfl, kEF _ _ (kE _ _ e9 no) no⟩
    · exact .inr ⟨_, .err (kEF _ _ eE1 no) (kEF _ _ eE2 no)⟩
    · exact .inr ⟨_, .lst (kF _ _ (kW _ _ eT no) no)⟩
    · exact .inr ⟨_, .str _⟩
  generalize hxs : [V.ref st, .ref er, .ref aT, .str (bookT ts rs)] = xs4 at ot4 kF eF kEF ⊢
  have l4 : xs4.length = 4 := by rw [← hxs]; rfl
  show rCat _ _ (upd HW m (.lst xs4)) _
  generalize upd HW m (.lst xs4) = HF at ot4 kF eF kEF ⊢
  have k8F := k8E.trans kEF
  refine ⟨m8, m, _, _, rfl, rfl, k8F _ _ e8 no, eF, by omega, fun mo nmo => ?_⟩
  have otF : ∀ y ∈ xs8 ++ xs4, Other K HF y := fun y hy => (List.mem_append.mp hy).elim (fun h => (ot8 y h).off k8F) (ot4 y)
  have l12 : (xs8 ++ xs4).length = 12 := by rw [List.length_append, l8, l4]
  generalize xs8 ++ xs4 = xs12 at otF l12 ⊢
  have bkF := bk8.off k8F
  have dvF := dp_off k8F dv8
  have dwF := dp_off k8F dw8
  have hpF := hp8.off k8F no
  have kHF := kH8.trans (Off.in k8F)
  clear k8F k8E kEF kF eF ot4 hxs kW kT oT eT h1 k89 kE eE1 eE2 e9 k9 kM ot8 e8 bk8 dv8 dw8 hp8 kH8 nm ner ndxe nst ndx nex nexe
  dsimp only [gName]
  have kG : Off (fun _ => False) HF (upd HF mo (.lst xs12)) := Off.new nmo
  have eG := upd_same (H := HF) (a := mo) (o := .lst xs12)
  generalize upd HF mo (.lst xs12) = HG at kG eG ⊢
  refine ⟨_, rfl, .inl ⟨rfl, _, SqL.of eG⟩, s0, fun m1 n1 => ⟨s0, fun m2 n2 => fun bk dxb nbk ndxb nexb => ?_⟩⟩
  have j1 : Off (fun _ => False) HG (upd HG m1 (.lst [])) := Off.new n1
  have l1 := upd_same (H := HG) (a := m1) (o := .lst [])
  generalize upd HG m1 (.lst []) = Ga at j1 l1 n2 nbk ndxb ⊢
  have j2 : Off (fun _ => False) Ga (upd Ga m2 (.lst [])) := Off.new n2
  have l2 := upd_same (H := Ga) (a := m2) (o := .lst [])
  generalize upd Ga m2 (.lst []) = Gb at j2 l2 nbk ndxb ⊢
  have rl0 : Rl 8 [] [] := ⟨fun r h => absurd h (by simp), fun r h => absurd h (by simp), Nat.zero_le _⟩
  have gv0 : Gv [] := ⟨Nat.zero_le _, List.nodup_nil, fun t h => absurd h (by simp)⟩
  have bb0 := bkB_near gv0 rl0 (by decide)
  refine made_at (K := K) (ts := []) (rs := []) (.lst (SqL.of (j2 _ _ l1 no)) .nil) (.lst (SqL.of l2) .nil) bb0 rfl nbk ndxb nexb fun GC Fb bo fb k => ⟨rfl, mo, xs12, _, rfl, rfl, k _ _ (j2 _ _ (j1 _ _ eG no) no) no, Nat.lt_of_le_of_lt (m := 12) (by omega) (by decide), ?_⟩
  have eC := k _ _ (j2 _ _ (j1 _ _ eG no) no) no
  have kL : Off (fun a => a = mo) GC (upd GC mo (.lst (xs12 ++ [.ref bk]))) := Off.upd rfl
  have eL := upd_same (H := GC) (a := mo) (o := .lst (xs12 ++ [.ref bk]))
  have boL := (bo.keep kL (fun a z => by rw [z]; exact ⟨_, eC⟩) fun a z y => by
    have := fb a z
    rw [y, j2 _ _ (j1 _ _ eG no) no] at this
    cases this).of
  generalize upd GC mo (.lst (xs12 ++ [.ref bk])) = HL at kL eL boL ⊢
  have kFL : Off (fun _ => False) HF HL := fun b o eb _ => kL _ _ (k _ _ (j2 _ _ (j1 _ _ (kG _ _ eb no) no) no) no) fun z => by
    rw [z, nmo] at eb
    cases eb
  have bkL := bkF.off kFL
  have al : ∀ y ∈ xs12 ++ [V.ref bk], Alike K HL (.ref x) y false := fun y hy => by
    rcases List.mem_append.mp hy with hy | hy
    · exact alike_other bkL bb ((otF y hy).off kFL)
    · rw [List.mem_singleton.mp hy, ← same_none (rs := rs) ne]
      exact alike_book bkL bb boL bb0
  generalize xs12 ++ [V.ref bk] = xs at al eL ⊢
  have dvL := dp_off kFL dvF
  have dwL := dp_off kFL dwF
  have hpL := hpF.off kFL no
  have kHL := kHF.trans (Off.in kFL)
  have pmo : mo ≠ p := fun z => by
    obtain ⟨ys, e⟩ := hpF.lst
    rw [← z, nmo] at e
    cases e
  clear kFL kL boL bo fb k eC eG kG j1 j2 l1 l2 n1 n2 nbk ndxb nexb otF bkF dvF dwF hpF kHF nmo
  refine ⟨_, rfl, _, rfl, _, _, rfl, ?_⟩
  refine ⟨4, rfl, by decide, by decide, for_range (lo := 0) (fun t σ G => ∃ (g' k' : V) (w7 w8 : Option V) (ts' : List Tab) (rs' : List RB) (c' : Nat), σ = [some (.ref p), some v, some w, some (.ref x), some (.ref mo), some g', some k', w7, w8, none, none] ∧ Dp K G g' (tabsD ts') ∧ Dp K G k' (rbsD rs') ∧ Gv ts' ∧ Rl (8 + t) ts' rs' ∧ Pu G p c' ∧ c' ≤ c2 + 40 * t ∧ Off (fun a => a = p) HL G)
    ⟨v, w, none, none, ts, rs, c2, rfl, dvL, dwL, gv, rl, hpL, by omega, Off.refl _ _⟩ (fun t σ G ht g => ?_) fun σ G g => ?_⟩
  · obtain ⟨g', k', w7, w8, ts', rs', c', rfl, dg, dk, g1, r1, hpt, hct, kt⟩ := g
    have ht4 : t < 4 := by omega
    have no : ¬ False := id
    dsimp only [gName]
    refine if_cut0 (fun σ' G' => ∃ (g' k' : V) (ts' : List Tab) (rs' : List RB), σ' = [some (.ref p), some v, some w, some (.ref x), some (.ref mo), some g', some k', some (.int (0 + (t : Nat))), w8, none, none] ∧ Dp K G g' (tabsD ts') ∧ Dp K G k' (rbsD rs') ∧ Gv ts' ∧ Rl (8 + t) ts' rs' ∧ G' = G) (fun σ' G' gg => ?_) (fun rest => ?_)
    rotate_left
    · refine ⟨_, rfl, rfl, _, rfl, ite2 (fun _ => ?_) (fun _ => rest _ _ ⟨g', k', ts', rs', rfl, dg, dk, g1, r1, rfl⟩)⟩
      exact ⟨_, rfl, _, rfl, _, _, rfl, rest _ _ ⟨v, w, ts, rs, rfl, dp_but kt hpL dvL (noInt_tabs _), dp_but kt hpL dwL (noInt_rbs _), gv, rl.up (by omega), rfl⟩⟩
    clear dg dk g1 r1 g' k' ts' rs'
    obtain ⟨g', k', ts', rs', rfl, dg, dk, g1, r1, rfl⟩ := gg
    refine ⟨_, rfl, _, rfl, _, rfl, p, g', k', ts', rs', 8 + t, c', rfl, dg, dk, g1, r1, by omega, hpt, by omega, fun tp v2 w2 ts2 rs2 H2 c3 etp d1 d2 g2 r2 p2 l2 k2 => ⟨tp, _, rfl, SqT.of etp, rfl, _, _, rfl, _, _, rfl, rfl, ?_⟩⟩
    have kL2 := kt.trans k2
    have bb2 := bkB_near g2 r2 (by omega)
    have shT : SeqAt.shaped (tabsD ts2) = true := shaped_of (lay_tabs g2.w) (fit_tabsW g2.w) (by show 3 ≤ 64; decide)
    have sh0 : SeqAt.shaped (.list []) = true := by decide +kernel
    have eT : PyData.eqv (tabsD ts2) (.list []) = ts2.isEmpty := nilD tabD ts2
    refine asg_cut (fun σ' G' => ∃ (b : Addr) (c4 : Nat), σ' = [some (.ref p), some v, some w, some (.ref x), some (.ref mo), some v2, some w2, some (.int (0 + (t : Nat))), some (.ref b), none, none] ∧ BookOf K G' b ts2 rs2 ∧ Off (fun a => a = p) H2 G' ∧ Pu G' p c4 ∧ c4 ≤ c3 + 10) (fun σ' G' gg => ?_) (fun rest => ?_)
    rotate_left
    · refine ⟨_, rfl, s0, fun m nm => ⟨tabsD ts2, .list [], dp_off (Off.new nm) d1, .lst (SqL.of upd_same) .nil, shT, sh0, _, rfl, ?_⟩⟩
      have k3 : Off (fun _ => False) H2 (upd H2 m (.lst [])) := Off.new nm
      generalize upd H2 m (.lst []) = G3 at k3 ⊢
      have p3 := p2.off k3 no
      rw [eT]
      cases hts : ts2.isEmpty with
      | true =>
        have hts := List.isEmpty_iff.mp hts
        subst hts
        have hrs2 := r2.none
        subst hrs2
        refine ⟨s0, fun m1 n1 => ⟨s0, fun m2 n2 => fun b dxb nbk ndxb nexb => ?_⟩⟩
        have j1 : Off (fun _ => False) G3 (upd G3 m1 (.lst [])) := Off.new n1
        have l1 := upd_same (H := G3) (a := m1) (o := .lst [])
        generalize upd G3 m1 (.lst []) = Ga at j1 l1 n2 nbk ndxb ⊢
        have j2 : Off (fun _ => False) Ga (upd Ga m2 (.lst [])) := Off.new n2
        have l2 := upd_same (H := Ga) (a := m2) (o := .lst [])
        generalize upd Ga m2 (.lst []) = Gb at j2 l2 nbk ndxb ⊢
        refine made_at (K := K) (ts := []) (rs := []) (.lst (SqL.of (j2 _ _ l1 no)) .nil) (.lst (SqL.of l2) .nil) bb2 rfl nbk ndxb nexb fun GC Fb bo fb k => ⟨rfl, rest _ _ ⟨b, c3, rfl, bo.of, ?_, ?_, by omega⟩⟩
        · exact Off.in (((k3.trans j1).trans j2).trans k)
        · exact p3.off ((j1.trans j2).trans k) no
      | false =>
        have hne : ts2 ≠ [] := fun z => by rw [z] at hts; cases hts
        exact ⟨_, rfl, _, rfl, _, rfl, p, v2, w2, ts2, rs2, 6, 8, c3, rfl, dp_off k3 d1, g2.tk hne, by decide, by decide, dp_off k3 d2, r2.s, fun r hr => (r2.ok r hr).up (by omega), r2.len, p3, by omega, fun b H4 Fb c4 bo fb nb p4 l4 k4 => rest _ _ ⟨b, c4, rfl, bo.of, (Off.in k3).trans k4, p4, l4⟩⟩
    obtain ⟨b, c4, rfl, bb4, k4, p4, l4⟩ := gg
    have kL4 := kL2.trans k4
    have bk4 := bkL.but kL4 hpL
    have dv4 := dp_but kL4 hpL dvL (noInt_tabs _)
    have dw4 := dp_but kL4 hpL dwL (noInt_rbs _)
    have d14 := dp_but k4 p2 d1 (noInt_tabs _)
    have d24 := dp_but k4 p2 d2 (noInt_rbs _)
    refine ⟨_, rfl, _, rfl, _, rfl, _, rfl, s2, fun m1 n1 => ⟨_, rfl, _, rfl, s2, fun m2 n2 => ?_⟩⟩
    have j1 : Off (fun _ => False) G' (upd G' m1 (.tup [v2, w2])) := Off.new n1
    have f1 := upd_same (H := G') (a := m1) (o := .tup [v2, w2])
    dsimp only
    generalize upd G' m1 (.tup [v2, w2]) = Ga at j1 f1 n2 ⊢
    have j2 : Off (fun _ => False) Ga (upd Ga m2 (.tup [v, w])) := Off.new n2
    have f2 := upd_same (H := Ga) (a := m2) (o := .tup [v, w])
    generalize upd Ga m2 (.tup [v, w]) = Gb at j2 f2 ⊢
    have j12 := j1.trans j2
    refine ⟨pairD ts2 rs2, pairD ts rs, .tup (SqT.of (j2 _ _ f1 no)) (.cons (dp_off j12 d14) (.cons (dp_off j12 d24) .nil)), .tup (SqT.of f2) (.cons (dp_off j12 dv4) (.cons (dp_off j12 dw4) .nil)), shaped_pair bb2, shaped_pair bb, ?_⟩
    rw [eqv_pair]
    refine ⟨_, _, _, rfl, alike_book (bk4.off j12) bb (bb4.off j12) bb2, fun H5 k5 => ⟨true, rfl, iteF ?_⟩⟩
    have k45 := j12.trans k5
    refine ⟨_, rfl, _, rfl, v2, _, 8, [6, 2, 8], rfl, dp_off k45 d14, fit_tabsW g2.w, by decide, by decide, fun v6 F6 H6 o6 f6 k6 => ⟨_, rfl, w2, _, 8, [20, 5, 12], rfl, dp_off (k45.trans k6) d24, fit_rbs r2.len bb2.rb, by decide, by decide, fun v7 F7 H7 o7 f7 k7 => ?_⟩⟩
    refine fun x3 dx3 nx3 ndx3 nex3 => made_at (K := K) (ts := ts2) (rs := rs2) (dp_off k7 o6.dp) o7.dp bb2 (wrong_near g2 r2) nx3 ndx3 nex3 fun H8 F8 bo f8 k8 => ⟨rfl, ?_⟩
    have k48 := ((k45.trans k6).trans k7).trans k8
    refine ⟨_, _, _, rfl, ?_, fun H9 k9 => ⟨true, rfl, iteF ?_⟩⟩
    · rw [← sameB_refl bb2]
      exact alike_book (bb4.off k48) bb2 bo.of bb2
    have k49 := k48.trans k9
    exact ⟨v2, w2, _, _, ts2, rs2, c4, rfl, dp_off k49 d14, dp_off k49 d24, g2, r2, p4.off k49 no, by omega, kL4.trans (Off.in k49)⟩
  · obtain ⟨g', k', w7, w8, ts', rs', c', rfl, _, _, _, _, hpE, hcE, kE⟩ := g
    have eE : G mo = some (.lst xs) := kE _ _ eL pmo
    have sh0 : SeqAt.shaped (.list []) = true := by decide +kernel
    refine ⟨_, rfl, mo, rfl, ⟨_, SqL.of eE⟩, fun D hD => lc_list (K := K) (a := mo) (xs := xs) (fun _ G1 => G1 D = some (.lst []) ∧ Off (fun _ => False) G G1) ⟨upd_same, Off.new hD⟩ (fun i G1 _ g => SqL.of (g.2 _ _ eE no)) (fun i y G1 hy g => ?_) fun G1 g => ?_⟩
    · obtain ⟨f1, f2⟩ := g
      have aly := ((al y (List.mem_of_getElem? hy)).but kE hpL hpE).off f2
      exact ⟨rfl, _, rfl, _, rfl, _, _, _, rfl, aly, fun G5 k5 => ⟨true, rfl, iteF ⟨k5 _ _ f1 no, f2.trans k5⟩⟩⟩
    · obtain ⟨f1, f2⟩ := g
      refine ⟨_, rfl, s0, fun m nm => ⟨.list [], .list [], .lst (SqL.of ((Off.new (G := fun _ => False) nm) _ _ f1 no)) .nil, .lst (SqL.of upd_same) .nil, sh0, sh0, true, rfl, iteT ?_⟩⟩
      have f3 := f2.trans (Off.new (o := .lst []) nm)
      have bkE := (bkL.but kE hpL).off f3
      have aly := alike_book bkE bb bkE bb
      rw [sameB_refl bb] at aly
      exact ⟨_, rfl, _, rfl, _, _, _, rfl, aly, fun H' k => q H' c' (hpE.off (f3.trans k) no) (by omega) ((kHL.trans kE).trans (Off.in (f3.trans k)))⟩
end
end LW
set_option Elab.async false
set_option linter.all false
set_option maxRecDepth 100000
set_option maxHeartbeats 0
/-! law of k05 -/
namespace LW
open PySem PySem.Spec PyProof.Rows L2 KV
def spLaw (K : PySem.W.Frag) : Sp := fun vs H Q _ => ∃ (a : Addr) (ns : List Int), vs = [.ref a] ∧ SqL K H a (ns.map V.int) ∧ ∀ H', Q (.bl true) H'
section
variable {P : Program} {w : World} {K : PySem.W.Frag} {mg : Str → Option Value} {base : Heap}
theorem scLaw : FnScope ["script", "spot", "purse", "turn"] ["script"] (defScope sLaw) := ⟨rfl, rfl, rfl, by decide +kernel, rfl, by decide +kernel, by decide +kernel⟩
theorem ok_law {f fP fR : Addr} {fd dP dR : FuncData} (F : FnP K "law" sLaw f fd) (GP : Dn P w K mg base 1 "_law_purse" ["script", "place"] (spPurse K) fP dP) (GR : DnC P w K mg base 12 "_law_right" ["purse"] (spRight K) fR dR)
    (mr : mg "range" = none) (mM : mg "max" = none) (mm : mg "min" = none) (ml : mg "len" = none) : FnC P w K mg base CX0 13 f fd ["script"] (spLaw K) := by
  refine Fun.okC F scLaw (fun vs H Q E h => ?_) (fun cdv A outer s H vs Q E hG hr h => ?_)
  · obtain ⟨a, ns, rfl, _⟩ := h
    rfl
  obtain ⟨a, ns, rfl, hS, q⟩ := h
  have hr1 : Room 1 _ := hr.mono (by decide)
  refine ⟨_, PSs.nox (pss_cons (ps_for PassesOwn.never rfl (pi_range1 rfl mr (pa_cons (pe_callB (call_max2 rfl) rfl mM boot_max (pa_cons pe_int (pa_cons (pe_callB (call_min2 rfl) rfl mm (by decide +kernel) (pa_cons pe_int (pa_cons (pe_callB call_len_seq rfl ml boot_len (pa_cons (pv 0) pa_nil)) pa_nil))) pa_nil))) pa_nil))
      (pg_name (i := 1) scLaw.nd rfl (Or.inl rfl))
      (pss_cons (ps_set (i := 2) scLaw.nd rfl (Or.inl rfl) (pe_call GP.g hr1 rfl GP.m GP.kp GP.b .nil pass0 (pa_cons (pv 0) (pa_cons (pv 1) pa_nil))))
      (pss_one (ps_for PassesOwn.never rfl (pi_range1 rfl mr (pa_cons pe_int pa_nil)) (pg_name (i := 3) scLaw.nd rfl (Or.inl rfl))
        (pss_one (ps_if (pt_not (pt_val (pe_callC hG GR.g hr rfl GR.m GR.kp GR.b pass0 (pa_cons (pv 2) pa_nil)))) (pss_one (ps_ret pe_bl)) pss_nil))))))
    (pss_one (ps_ret pe_bl))), ?_⟩
  have no : ¬ False := fun z => z
  have hl : (ns.map V.int).length = ns.length := List.length_map _
  have hb : ∀ L : Nat, (-(2 ^ 62) ≤ (if (if (L : Int) < 6 then (L : Int) else 6) > 1 then (if (L : Int) < 6 then (L : Int) else 6) else 1)) ∧ (if (if (L : Int) < 6 then (L : Int) else 6) > 1 then (if (L : Int) < 6 then (L : Int) else 6) else 1) ≤ 6 := by
    intro L
    split <;> split <;> omega
  obtain ⟨h1, h2⟩ := hb (ns.map V.int).length
  refine ⟨_, rfl, a, _, rfl, .inl hS, _, _, rfl, _, _, rfl, _, rfl, h1, by omega, for_range (lo := 0) (fun i σ H' => (∃ x y z, σ = [some (.ref a), x, y, z]) ∧ Off (fun _ => False) H H') ⟨⟨_, _, _, rfl⟩, Off.refl _ _⟩ (fun i σ H' hi g => ?_) fun σ H' g => ?_⟩
  · obtain ⟨⟨x, y, z, rfl⟩, k⟩ := g
    refine ⟨_, rfl, _, rfl, a, ns, 0 + (i : Int), rfl, sqL_off k hS, by omega, by omega, fun p np H1 hp1 k1 => ?_⟩
    have k01 : Off (fun _ => False) H H1 := fun b o e n => by
      have e' := k b o e n
      rw [k1 b (ne_of_none e' np)]
      exact e'
    have np0 : H p = none := k.none np no
    refine ⟨2, rfl, by decide, by decide, for_range (lo := 0) (n := 2) (fun t σ H2 => (∃ y w, σ = [some (.ref a), y, some (.ref p), w]) ∧ (∃ c, Pu H2 p c ∧ c ≤ t * 4000) ∧ Off (fun _ => False) H H2) ⟨⟨_, _, rfl⟩, ⟨0, hp1, by omega⟩, k01⟩ (fun t σ H2 ht g => ?_) fun σ H2 g => ?_⟩
    · obtain ⟨⟨y, w', rfl⟩, ⟨c, hp2, hc⟩, k2⟩ := g
      refine ⟨_, rfl, p, c, rfl, hp2, by omega, fun H3 c3 hp3 hc3 k3 => ⟨_, rfl, iteF ⟨⟨_, _, rfl⟩, ⟨c3, hp3, ?_⟩, ?_⟩⟩⟩
      · rw [Nat.add_mul]
        omega
      · intro b o e n
        exact k3 _ _ (k2 _ _ e n) fun y => by
          rw [y, np0] at e
          cases e
    · obtain ⟨⟨y, w', rfl⟩, _, k2⟩ := g
      exact ⟨⟨_, _, _, rfl⟩, k2⟩
  · exact q H'
end
end LW
set_option Elab.async false
set_option linter.all false
set_option maxRecDepth 100000
set_option maxHeartbeats 0
/-! the head -/
namespace LW
open PySem PySem.Spec PyProof.Rows L2 KV
def dD (x : Str) (st : Stmt) : Df := { at_ := fun K => He.ga K x, name := x, qual := x, params := defArgs st, body := defBody st, scope := defScope st }
def dM (C m q : Str) (st : Stmt) : Df := { at_ := fun K => He.ma K (He.ga K C) m, name := m, qual := q, params := defArgs st, body := defBody st, scope := defScope st }
def dG (C m q : Str) (st : Stmt) : Df := { at_ := fun K => pgB K (He.ga K C) m, name := m, qual := q, params := defArgs st, body := defBody st, scope := defScope st }
def fn : List Df := [dM "KeyTellError" "__init__" "KeyTellError.__init__" pKeyTellError_init, dM "Book" "__init__" "Book.__init__" pBook_init, dM "Book" "__getitem__" "Book.__getitem__" pBook_getitem, dG "Book" "tables" "Book.tables" pBook_tables, dG "Book" "rules" "Book.rules" pBook_rules, dM "Book" "__eq__" "Book.__eq__" pBook_eq, dM "Book" "with_rules" "Book.with_rules" pBook_with_rules, dM "Book" "without" "Book.without" pBook_without, dD "check_tables" pCheckTables, dD "check_columns" pCheckColumns, dD "check_name" pCheckName, dD "check_rule" pCheckRule, dD "is_name" pIsName, dD "has_form" pHasForm, dD "copied" pCopied, dD "read_book" pReadBook, dD "tables_and_rules" pTablesAndRules, dD "rule_of" pRuleOf, dD "show_book" pShowBook, dD "rule_text" pRuleText, dM "Store" "__init__" "Store.__init__" pStore_init, dM "Store" "__eq__" "Store.__eq__" pStore_eq, dD "_law_purse" sPurse, dD "_law_coin" sCoin, dD "_law_words" sWords, dD "_law_drawn_tables" sDrawnTables, dD "_law_drawn_rules" sDrawnRules, dD "_law_copied" sCopied, dD "_law_muddle" sMuddle, dD "_law_road" sRoad, dD "_law_shape" sShape, dD "_law_moved" sMoved, dD "_law_near_rule" sNearRule, dD "_law_near_book" sNearBook, dD "_law_books_alike" sBooksAlike, dD "_law_right" sRight, dD "law" sLaw]
def fnN0 : List Str := ["check_tables", "check_columns", "check_name", "check_rule", "is_name", "has_form", "copied", "read_book", "tables_and_rules", "rule_of", "show_book", "rule_text", "_law_purse", "_law_coin", "_law_words", "_law_drawn_tables", "_law_drawn_rules", "_law_copied", "_law_muddle", "_law_road", "_law_shape", "_law_moved", "_law_near_rule", "_law_near_book", "_law_books_alike", "_law_right", "law"]
def fnNames : List Str := fnN0
def bltNames : List Str := ["len", "max", "min", "abs", "int", "isinstance", "list", "tuple", "range", "repr", "all", "bool", "dict", "str"]
def own : List He.Fa := [.cls "Book", .noat "Book" "_tables", .noat "Book" "_rules", .mkr "Book", .cls "Store", .noat "Store" "_book", .noat "Store" "_rows", .noat "Store" "_steps", .mkr "Store", .int "LONGEST_NAME" 8, .meth "Book" "with_rules", .meth "Book" "without", .meth "Book" "__eq__", .meth "Store" "__eq__"]
def fa : List He.Fa := names.map He.Fa.glo ++ (fnNames.map He.Fa.glo ++ (bltNames.map He.Fa.free ++ (names.tail.map (fun y => He.Fa.exm y "KeyTellError" true) ++ ((["Book", "RULE_FORMS", "Store"] : List Str).map He.Fa.glo ++ own))))
def isCB (K : PySem.W.Frag) (C : Addr) : Bool := He.eqO (PySem.W.findIn K (.ref C) "__class__") (some (some (.builtin "object.__class__"))) && (He.eqO (PySem.W.specialIn K (.builtin "object.__class__") "__get__") (some (some (.builtin "getset_descriptor.__get__"))) &&
  (decide (PySem.W.takesIn K (.builtin "object.__class__") = some true) && (decide (PySem.W.mroIn K C (.type "object") = some true) && decide (PySem.W.kitOne K (.ref C) (.ref C) = some true))))
theorem isCB_ok {K : PySem.W.Frag} {C : Addr} (c : L2.Cls K C) (h : isCB K C = true) : C8.InsC K C := by
  obtain ⟨h1, h⟩ := He.ba h
  obtain ⟨h2, h⟩ := He.ba h
  obtain ⟨h3, h⟩ := He.ba h
  obtain ⟨h4, h5⟩ := He.ba h
  exact ⟨c, He.eqO_ok h1, He.eqO_ok h2, of_decide_eq_true h3, of_decide_eq_true h4, of_decide_eq_true h5⟩
def neB (K : PySem.W.Frag) (C : Addr) : Bool := He.eqO (PySem.W.findIn K (.ref C) "__ne__") (some (some (.builtin "object.__ne__"))) && decide (PySem.W.mroIn K C (.type "object") = some true)
theorem neB_ok {K : PySem.W.Frag} {C : Addr} (h : neB K C = true) : PySem.W.findIn K (.ref C) "__ne__" = some (some (.builtin "object.__ne__")) ∧ PySem.W.mroIn K C (.type "object") = some true := by
  obtain ⟨h1, h2⟩ := He.ba h
  exact ⟨He.eqO_ok h1, of_decide_eq_true h2⟩
def eqFB (K : PySem.W.Frag) : Bool := decide (PySem.W.subIn K (.ref (gaS K)) (.ref (gaB K)) = some false) && (decide (PySem.W.subIn K (.ref (gaB K)) (.ref (gaS K)) = some false) && (decide (PySem.W.subIn K (.ref (gaU K)) (.ref (gaB K)) = some false) && (decide (PySem.W.subIn K (.ref (gaB K)) (.ref (gaU K)) = some false) && (decide (gaB K ≠ gaU K) && (decide (PySem.W.kitOne K (.ref (gaS K)) (.ref (gaB K)) = some false) && (decide (PySem.W.kitOne K (.ref (gaU K)) (.ref (gaB K)) = some false) && (decide (PySem.W.kitOne K (.ref (gaB K)) (.ref (gaS K)) = some false) && (decide (PySem.W.mroIn K (gaU K) (.type "object") = some true) && (kinds5.all (fun T => decide (PySem.W.subIn K (.type T) (.ref (gaB K)) = some false)) && (kinds5.all (fun T => decide (PySem.W.subIn K (.ref (gaB K)) (.type T) = some false)) && (kinds5.all (fun T => decide (PySem.W.kitOne K (.type T) (.ref (gaB K)) = some false)) && (He.eqO (PySem.W.findIn K (.ref (gaU K)) "__eq__") (some (some (.builtin "object.__eq__"))) && (He.eqO (PySem.W.findIn K (.ref (gaU K)) "__ne__") (some (some (.builtin "object.__ne__"))))))))))))))))
theorem eqFB_ok {K : PySem.W.Frag} {fB fS : Addr} (h : eqFB K = true) (oB : OwnE K (gaB K) fB) (oS : OwnE K (gaS K) fS) (iB : C8.InsC K (gaB K)) (iS : C8.InsC K (gaS K)) (eE : PySem.W.ErrC K (gaU K)) : EqF K (gaB K) (gaS K) (gaU K) fB fS ∧ IsF K := by
  obtain ⟨q0, h⟩ := He.ba h
  obtain ⟨q1, h⟩ := He.ba h
  obtain ⟨q2, h⟩ := He.ba h
  obtain ⟨q3, h⟩ := He.ba h
  obtain ⟨q4, h⟩ := He.ba h
  obtain ⟨q5, h⟩ := He.ba h
  obtain ⟨q6, h⟩ := He.ba h
  obtain ⟨q7, h⟩ := He.ba h
  obtain ⟨q8, h⟩ := He.ba h
  obtain ⟨q9, h⟩ := He.ba h
  obtain ⟨q10, h⟩ := He.ba h
  obtain ⟨q11, h⟩ := He.ba h
  obtain ⟨q12, h⟩ := He.ba h
  have all : ∀ {p : String → Prop} [DecidablePred p], kinds5.all (fun T => decide (p T)) = true → ∀ T ∈ kinds5, p T := fun h T hT => of_decide_eq_true (List.all_eq_true.mp h T hT)
  exact ⟨⟨oB, oS, ⟨He.eqO_ok q12, He.eqO_ok h, of_decide_eq_true q8⟩, of_decide_eq_true q0, of_decide_eq_true q1, of_decide_eq_true q2, of_decide_eq_true q3, all q9, all q10, of_decide_eq_true q4⟩,
    ⟨iB, iS, eE, all q11, of_decide_eq_true q5, of_decide_eq_true q6, of_decide_eq_true q7⟩⟩
def ex (K : PySem.W.Frag) : Bool := errsB K "value" "KeyTellError" names && (itemB K (He.ga K "Book") && (propB K (He.ga K "Book") "tables" && (propB K (He.ga K "Book") "rules" && (isCB K (He.ga K "Book") && (pairsB K (He.ga K "RULE_FORMS") "key" "settles" 3 4 && (neB K (He.ga K "Book") && (neB K (He.ga K "Store") && (isCB K (He.ga K "Store") && (eqFB K)))))))))
abbrev R : PySem.W.OpenRow := PySem.W.OpenLaw.row PySem.Challenge.rw_keysthrough_k05_equal_books
abbrev hk : PySem.W.Hook := hookB 5 fa fn ex
def ob (s : PySem.W.SharedT) : He.AlD := obsBG 5 fa fn ex (HandSHeadRun.getT s)
theorem ob_eq (s : PySem.W.SharedT) : ob s = hk.obs s.abs := obsBG_eq (HandSHeadRun.getT_eq s)
def looseA : List Str := ["_wall", "Book", "Store", "RULE_FORMS", "LONGEST_NAME", "QUESTION_FORMS", "PART_COUNTS", "shown", "shown_by_all", "parts_of", "named_columns", "columns_of_condition", "columns_over", "is_sound", "holds", "check_unlike", "answered", "rows_over", "joined", "chosen", "rows_that_meet", "places_of", "values_at"]
def looseB0 : List Str := ["check_tables", "check_columns", "check_name", "check_rule", "is_name", "has_form", "copied", "read_book", "tables_and_rules", "rule_of", "show_book", "rule_text", "_law_purse", "_law_coin", "_law_words", "_law_drawn_tables", "_law_drawn_rules", "_law_copied", "_law_muddle", "_law_road", "_law_shape", "_law_moved", "_law_near_rule", "_law_near_book", "_law_books_alike", "_law_right"]
def loose : List Str := names ++ (looseA ++ (looseB0))
/-- a row whose top builds a dict with keys asks one setting: both cases are run -/
def pick (w : World) (b : Bool) : World := { w with params := { w.params with followText := fun s => if s = "special-get-raises" then b else w.params.followText s } }
theorem pick_eq (w : World) : pick w (w.params.followText "special-get-raises") = w := by
  have e : (fun s => if s = "special-get-raises" then w.params.followText "special-get-raises" else w.params.followText s) = w.params.followText := by
    funext s
    split
    · rename_i h
      rw [h]
    · rfl
  unfold pick
  rw [e]
theorem run_f (w : World) : HandSHeadRun.RunEq R (PySem.W.view R.prog [63]) hk ob 20000 loose (pick w false) := by
  intro os
  kernel_rfl
theorem run_t (w : World) : HandSHeadRun.RunEq R (PySem.W.view R.prog [63]) hk ob 20000 loose (pick w true) := by
  intro os
  kernel_rfl
theorem run_b (w : World) (b : Bool) : HandSHeadRun.RunEq R (PySem.W.view R.prog [63]) hk ob 20000 loose (pick w b) := by
  cases b with
  | false => exact run_f w
  | true => exact run_t w
theorem run (w : World) : HandSHeadRun.RunEq R (PySem.W.view R.prog [63]) hk ob 20000 loose w := by
  have h := run_b w (w.params.followText "special-get-raises")
  rw [pick_eq] at h
  exact h
end LW
set_option Elab.async false
set_option linter.all false
set_option maxRecDepth 100000
set_option maxHeartbeats 0
/-! the end -/
namespace LW
open PySem PySem.Spec PyProof.Rows L2 KV
section
variable {P : Program} {w : World} {K : PySem.W.Frag} {h : Heap} {mg : Str → Option Value}
theorem facts {f : Addr} (X : K.In h) (G : h.Ns mainGlobals mg) (hfa : mg ("law" : Str) = some (.ref f)) (c : SaysB fa fn ex K) :
    ∃ fd : FuncData, (∀ (s : Shared) (v : Value), BindsTo s fd ⟨[v], []⟩ [("script", v)]) ∧ ∀ base : Heap, K.In base → base.Ns mainGlobals mg → FnC P w K mg base CX0 13 f fd ["script"] (spLaw K) := by
  obtain ⟨_, _, cx⟩ := c.parts
  obtain ⟨cE, cx⟩ := He.ba cx
  obtain ⟨cI, cx⟩ := He.ba cx
  obtain ⟨cT, cx⟩ := He.ba cx
  obtain ⟨cR, cx⟩ := He.ba cx
  obtain ⟨cC, cx⟩ := He.ba cx
  obtain ⟨cF, cx⟩ := He.ba cx
  obtain ⟨cN, cx⟩ := He.ba cx
  obtain ⟨cM, cx⟩ := He.ba cx
  obtain ⟨cS, cx⟩ := He.ba cx
  have cQ := cx
  have es := errsB_ok cE
  have gl : ∀ x ∈ names, mg x = some (.ref (He.ga K x)) := fun x hx => He.glo_ok X G (c.facts (List.mem_append_left _ (List.mem_map_of_mem hx)))
  have gf : ∀ x ∈ fnNames, mg x = some (.ref (He.ga K x)) := fun x hx => He.glo_ok X G (c.facts (List.mem_append_right _ (List.mem_append_left _ (List.mem_map_of_mem hx))))
  have gb : ∀ x ∈ bltNames, mg x = none := fun x hx => He.free_ok X G (c.facts (List.mem_append_right _ (List.mem_append_right _ (List.mem_append_left _ (List.mem_map_of_mem hx)))))
  have gx : ∀ y ∈ names.tail, PySem.W.exmOne K (.ref (He.ga K y)) (.ref (He.ga K "KeyTellError")) = some true := fun y hy =>
    He.exm_ok (c.facts (List.mem_append_right _ (List.mem_append_right _ (List.mem_append_right _ (List.mem_append_left _ (List.mem_map_of_mem (f := fun y => He.Fa.exm y "KeyTellError" true) hy))))))
  have gg : ∀ x ∈ (["Book", "RULE_FORMS", "Store"] : List Str), mg x = some (.ref (He.ga K x)) := fun x hx =>
    He.glo_ok X G (c.facts (List.mem_append_right _ (List.mem_append_right _ (List.mem_append_right _ (List.mem_append_right _ (List.mem_append_left _ (List.mem_map_of_mem hx)))))))
  have go : ∀ q ∈ own, q.ok K = true := fun q hq => c.facts (List.mem_append_right _ (List.mem_append_right _ (List.mem_append_right _ (List.mem_append_right _ (List.mem_append_right _ hq)))))
  have B : BookT K mg := ⟨He.cls_ok (go (.cls "Book") (by simp [own])), He.noat_ok (go (.noat "Book" "_tables") (by simp [own])), He.noat_ok (go (.noat "Book" "_rules") (by simp [own])), He.mkr_ok (go (.mkr "Book") (by simp [own])), gg "Book" (by decide), itemB_ok cI⟩
  have IC : C8.InsC K (He.ga K "Book") := isCB_ok B.cl cC
  have mWi : L2.Meth K (He.ga K "Book") "with_rules" (He.ma K (He.ga K "Book") "with_rules") := He.meth_ok (go (.meth "Book" "with_rules") (by simp [own]))
  have mWt : L2.Meth K (He.ga K "Book") "without" (He.ma K (He.ga K "Book") "without") := He.meth_ok (go (.meth "Book" "without") (by simp [own]))
  have mEq : L2.Meth K (He.ga K "Book") "__eq__" (He.ma K (He.ga K "Book") "__eq__") := He.meth_ok (go (.meth "Book" "__eq__") (by simp [own]))
  have mSE : L2.Meth K (He.ga K "Store") "__eq__" (He.ma K (He.ga K "Store") "__eq__") := He.meth_ok (go (.meth "Store" "__eq__") (by simp [own]))
  obtain ⟨t8, m8⟩ := He.int_ok X G (go (.int "LONGEST_NAME" 8) (by simp [own]))
  obtain ⟨dI, FI⟩ := c.def_ 0 (d := dM "KeyTellError" "__init__" "KeyTellError.__init__" pKeyTellError_init) rfl
  obtain ⟨dB, FB⟩ := c.def_ 1 (d := dM "Book" "__init__" "Book.__init__" pBook_init) rfl
  obtain ⟨dIt, FIt⟩ := c.def_ 2 (d := dM "Book" "__getitem__" "Book.__getitem__" pBook_getitem) rfl
  obtain ⟨dGT, FGT⟩ := c.def_ 3 (d := dG "Book" "tables" "Book.tables" pBook_tables) rfl
  obtain ⟨dGR, FGR⟩ := c.def_ 4 (d := dG "Book" "rules" "Book.rules" pBook_rules) rfl
  obtain ⟨dEq, FEq⟩ := c.def_ 5 (d := dM "Book" "__eq__" "Book.__eq__" pBook_eq) rfl
  obtain ⟨dWi, FWi⟩ := c.def_ 6 (d := dM "Book" "with_rules" "Book.with_rules" pBook_with_rules) rfl
  obtain ⟨dWt, FWt⟩ := c.def_ 7 (d := dM "Book" "without" "Book.without" pBook_without) rfl
  obtain ⟨dCT, FCT⟩ := c.def_ 8 (d := dD "check_tables" pCheckTables) rfl
  obtain ⟨dCC, FCC⟩ := c.def_ 9 (d := dD "check_columns" pCheckColumns) rfl
  obtain ⟨dCN, FCN⟩ := c.def_ 10 (d := dD "check_name" pCheckName) rfl
  obtain ⟨dCR, FCR⟩ := c.def_ 11 (d := dD "check_rule" pCheckRule) rfl
  obtain ⟨dIN, FIN⟩ := c.def_ 12 (d := dD "is_name" pIsName) rfl
  obtain ⟨dHF, FHF⟩ := c.def_ 13 (d := dD "has_form" pHasForm) rfl
  obtain ⟨dCp, FCp⟩ := c.def_ 14 (d := dD "copied" pCopied) rfl
  obtain ⟨dRd, FRd⟩ := c.def_ 15 (d := dD "read_book" pReadBook) rfl
  obtain ⟨dTR, FTR⟩ := c.def_ 16 (d := dD "tables_and_rules" pTablesAndRules) rfl
  obtain ⟨dRO, FRO⟩ := c.def_ 17 (d := dD "rule_of" pRuleOf) rfl
  obtain ⟨dSh, FSh⟩ := c.def_ 18 (d := dD "show_book" pShowBook) rfl
  obtain ⟨dRT, FRT⟩ := c.def_ 19 (d := dD "rule_text" pRuleText) rfl
  obtain ⟨dSI, FSI⟩ := c.def_ 20 (d := dM "Store" "__init__" "Store.__init__" pStore_init) rfl
  obtain ⟨dSE, FSE⟩ := c.def_ 21 (d := dM "Store" "__eq__" "Store.__eq__" pStore_eq) rfl
  obtain ⟨dPu, FPu⟩ := c.def_ 22 (d := dD "_law_purse" sPurse) rfl
  obtain ⟨dCo, FCo⟩ := c.def_ 23 (d := dD "_law_coin" sCoin) rfl
  obtain ⟨dWo, FWo⟩ := c.def_ 24 (d := dD "_law_words" sWords) rfl
  obtain ⟨dDT, FDT⟩ := c.def_ 25 (d := dD "_law_drawn_tables" sDrawnTables) rfl
  obtain ⟨dDR, FDR⟩ := c.def_ 26 (d := dD "_law_drawn_rules" sDrawnRules) rfl
  obtain ⟨dLC, FLC⟩ := c.def_ 27 (d := dD "_law_copied" sCopied) rfl
  obtain ⟨dMu, FMu⟩ := c.def_ 28 (d := dD "_law_muddle" sMuddle) rfl
  obtain ⟨dRo, FRo⟩ := c.def_ 29 (d := dD "_law_road" sRoad) rfl
  obtain ⟨dSp, FSp⟩ := c.def_ 30 (d := dD "_law_shape" sShape) rfl
  obtain ⟨dMv, FMv⟩ := c.def_ 31 (d := dD "_law_moved" sMoved) rfl
  obtain ⟨dNR, FNR⟩ := c.def_ 32 (d := dD "_law_near_rule" sNearRule) rfl
  obtain ⟨dNB, FNB⟩ := c.def_ 33 (d := dD "_law_near_book" sNearBook) rfl
  obtain ⟨dAl, FAl⟩ := c.def_ 34 (d := dD "_law_books_alike" sBooksAlike) rfl
  obtain ⟨dRi, FRi⟩ := c.def_ 35 (d := dD "_law_right" sRight) rfl
  obtain ⟨dLa, FLa⟩ := c.def_ 36 (d := dD "law" sLaw) rfl
  have e := hfa.symm.trans (gf "law" (by decide))
  cases e
  have bI : Binds K dI ["self", "value"] [] := FI.bindsN fun _ _ _ _ _ _ us hl => match us, hl with | [_, _], _ => rfl
  have bB : Binds K dB ["self", "tables", "rules"] [] := FB.bindsN fun _ _ _ _ _ _ us hl => match us, hl with | [_, _, _], _ => rfl
  have bIt : Binds K dIt ["self", "name"] [] := FIt.bindsN fun _ _ _ _ _ _ us hl => match us, hl with | [_, _], _ => rfl
  have bGT : Binds K dGT ["self"] [] := FGT.bindsN fun _ _ _ _ _ _ us hl => match us, hl with | [_], _ => rfl
  have bGR : Binds K dGR ["self"] [] := FGR.bindsN fun _ _ _ _ _ _ us hl => match us, hl with | [_], _ => rfl
  have bEq : Binds K dEq ["self", "other"] [] := FEq.bindsN fun _ _ _ _ _ _ us hl => match us, hl with | [_, _], _ => rfl
  have bWi : Binds K dWi ["self", "more"] [] := FWi.bindsN fun _ _ _ _ _ _ us hl => match us, hl with | [_, _], _ => rfl
  have bWt : Binds K dWt ["self", "index"] [] := FWt.bindsN fun _ _ _ _ _ _ us hl => match us, hl with | [_, _], _ => rfl
  have bCT : Binds K dCT ["tables"] [] := FCT.bindsN fun _ _ _ _ _ _ us hl => match us, hl with | [_], _ => rfl
  have bCC : Binds K dCC ["columns"] [] := FCC.bindsN fun _ _ _ _ _ _ us hl => match us, hl with | [_], _ => rfl
  have bCN : Binds K dCN ["name", "before"] [] := FCN.bindsN fun _ _ _ _ _ _ us hl => match us, hl with | [_, _], _ => rfl
  have bCR : Binds K dCR ["book", "rule"] [] := FCR.bindsN fun _ _ _ _ _ _ us hl => match us, hl with | [_, _], _ => rfl
  have bIN : Binds K dIN ["text"] [] := FIN.bindsN fun _ _ _ _ _ _ us hl => match us, hl with | [_], _ => rfl
  have bHF : Binds K dHF ["thing", "forms"] [] := FHF.bindsN fun _ _ _ _ _ _ us hl => match us, hl with | [_, _], _ => rfl
  have bCp : Binds K dCp ["thing"] [] := FCp.bindsN fun _ _ _ _ _ _ us hl => match us, hl with | [_], _ => rfl
  have bRd : Binds K dRd ["text"] [] := FRd.bindsN fun _ _ _ _ _ _ us hl => match us, hl with | [_], _ => rfl
  have bTR : Binds K dTR ["text"] [] := FTR.bindsN fun _ _ _ _ _ _ us hl => match us, hl with | [_], _ => rfl
  have bRO : Binds K dRO ["words"] [] := FRO.bindsN fun _ _ _ _ _ _ us hl => match us, hl with | [_], _ => rfl
  have bSh : Binds K dSh ["book"] [] := FSh.bindsN fun _ _ _ _ _ _ us hl => match us, hl with | [_], _ => rfl
  have bRT : Binds K dRT ["rule"] [] := FRT.bindsN fun _ _ _ _ _ _ us hl => match us, hl with | [_], _ => rfl
  have bSI : Binds K dSI ["self", "book"] [] := FSI.bindsN fun _ _ _ _ _ _ us hl => match us, hl with | [_, _], _ => rfl
  have bSE : Binds K dSE ["self", "other"] [] := FSE.bindsN fun _ _ _ _ _ _ us hl => match us, hl with | [_, _], _ => rfl
  have bPu : Binds K dPu ["script", "place"] [] := FPu.bindsN fun _ _ _ _ _ _ us hl => match us, hl with | [_, _], _ => rfl
  have bCo : Binds K dCo ["purse", "many"] [] := FCo.bindsN fun _ _ _ _ _ _ us hl => match us, hl with | [_, _], _ => rfl
  have bWo : Binds K dWo ["purse", "many"] [] := FWo.bindsN fun _ _ _ _ _ _ us hl => match us, hl with | [_, _], _ => rfl
  have bDT : Binds K dDT ["purse", "most_tables", "most_columns"] [] := FDT.bindsN fun _ _ _ _ _ _ us hl => match us, hl with | [_, _, _], _ => rfl
  have bDR : Binds K dDR ["purse", "tables_here", "most"] [] := FDR.bindsN fun _ _ _ _ _ _ us hl => match us, hl with | [_, _, _], _ => rfl
  have bLC : Binds K dLC ["thing"] [] := FLC.bindsN fun _ _ _ _ _ _ us hl => match us, hl with | [_], _ => rfl
  have bMu : Binds K dMu ["thing"] [] := FMu.bindsN fun _ _ _ _ _ _ us hl => match us, hl with | [_], _ => rfl
  have bRo : Binds K dRo ["purse", "tables_here", "rules_here"] [] := FRo.bindsN fun _ _ _ _ _ _ us hl => match us, hl with | [_, _, _], _ => rfl
  have bSp : Binds K dSp ["purse"] [] := FSp.bindsN fun _ _ _ _ _ _ us hl => match us, hl with | [_], _ => rfl
  have bMv : Binds K dMv ["things", "spot", "place"] [] := FMv.bindsN fun _ _ _ _ _ _ us hl => match us, hl with | [_, _, _], _ => rfl
  have bNR : Binds K dNR ["purse", "rule", "known"] [] := FNR.bindsN fun _ _ _ _ _ _ us hl => match us, hl with | [_, _, _], _ => rfl
  have bNB : Binds K dNB ["purse", "tables_here", "rules_here"] [] := FNB.bindsN fun _ _ _ _ _ _ us hl => match us, hl with | [_, _, _], _ => rfl
  have bAl : Binds K dAl ["one_book", "two_book", "is_due"] [] := FAl.bindsN fun _ _ _ _ _ _ us hl => match us, hl with | [_, _, _], _ => rfl
  have bRi : Binds K dRi ["purse"] [] := FRi.bindsN fun _ _ _ _ _ _ us hl => match us, hl with | [_], _ => rfl
  have bL := FunD.bindsA (ps := ["script"]) FLa fun _ _ _ _ _ _ us hl => match us, hl with | [_], _ => rfl
  have bk : ∀ (s : Shared) (a u : Value), BindsTo s dI ⟨[a], [("value", u)]⟩ [("self", a), ("value", u)] := by
    obtain ⟨oc, od, dV, kV, doc, pm, an, cdv, ct, osl, rfl, lk, hcd, hD, hK⟩ := FI.ex
    rcases hD with ⟨_, rfl⟩ | ⟨e, _⟩
    · intro s a u
      exact .of_eq (by rfl)
    · exact absurd rfl e
  have kB : KBn K dB ["self", "tables", "rules"] 1 ["tables", "rules"] (fun us ws => us ++ ws) (fun us zs => us ++ zs) := by
    obtain ⟨oc, od, dV, kV, doc, pm, an, cdv, ct, osl, rfl, lk, hcd, hD, hK⟩ := FB.ex
    rcases hD with ⟨_, rfl⟩ | ⟨e, _⟩
    · refine ⟨fun s us ws _ h1 h2 => ?_, fun r1 r2 => r1.append r2⟩
      match us, ws, h1, h2 with
      | [a], [x, y], _, _ => exact .of_eq (by rfl)
    · exact absurd rfl e
  refine ⟨dLa, fun s v => bL s [v] rfl, fun base _ _ => ?_⟩
  have T : ErrT P w K mg base dI := ⟨es, gl, ok_init FI, bI, bk⟩
  have mi := gb "int" (by decide)
  have mis := gb "isinstance" (by decide)
  have ml := gb "list" (by decide)
  have mt := gb "tuple" (by decide)
  have mr := gb "range" (by decide)
  have mn := gb "len" (by decide)
  have mp := gb "repr" (by decide)
  have mC := gf "_law_coin" (by decide)
  have gIN := ok_isN (P := P) (w := w) (base := base) FIN mn (gb "all" (by decide)) m8
  have gCN := ok_chkN FCN T gIN bIN (gf "is_name" (by decide)) FIN.kp
  have gCC := ok_chkC FCC gCN bCN (gf "check_name" (by decide)) FCN.kp
  have gCT := ok_chkT FCT gCN bCN (gf "check_name" (by decide)) FCN.kp gCC bCC (gf "check_columns" (by decide)) FCC.kp
  have gHF := ok_form (P := P) (w := w) (base := base) FHF mn (gb "bool" (by decide))
  have gCp := ok_copiedP (P := P) (w := w) (base := base) FCp bCp (gf "copied" (by decide)) mis ml mt 6
  have gIt := ok_item FIt T B ml
  have gCR := ok_chkR FCR T B gHF bHF (gf "has_form" (by decide)) FHF.kp gCp bCp (gf "copied" (by decide)) FCp.kp gIt bIt (gg "RULE_FORMS" (by decide)) (pairsB_ok cF)
  have gBk := ok_book FB B gCT bCT (gf "check_tables" (by decide)) FCT.kp gCp bCp (gf "copied" (by decide)) FCp.kp gCR bCR (gf "check_rule" (by decide)) FCR.kp
  have gGT := ok_getT FGT B gCp bCp (gf "copied" (by decide)) FCp.kp
  have gGR := ok_getR FGR B gCp bCp (gf "copied" (by decide)) FCp.kp
  have gWi := ok_with FWi B gBk bB ml
  have gWt := ok_without FWt B T gBk bB mn
  have gRT := ok_ruleT (P := P) (w := w) (mg := mg) (base := base) FRT
  have gSh := ok_show FSh B gRT bRT (gf "rule_text" (by decide)) FRT.kp (propB_ok cT) gGT bGT (propB_ok cR) gGR bGR
  have gRO := ok_ruleOf FRO T mn
  have gTR := ok_TR FTR T gRO bRO (gf "rule_of" (by decide)) FRO.kp mn
  have gRd := ok_read FRd B gTR bTR (gf "tables_and_rules" (by decide)) FTR.kp gBk bB (gl "KeyTellError" (by decide))
  have gLC := ok_copied (P := P) (w := w) (base := base) FLC bLC (gf "_law_copied" (by decide)) mis ml mt 6
  have gMu := ok_muddle (P := P) (w := w) (base := base) FMu bMu (gf "_law_muddle" (by decide)) mis ml mt 6
  have gDT := ok_drawnTables (P := P) (w := w) (base := base) FDT FCo bCo mC FWo bWo (gf "_law_words" (by decide)) mi mr
  have gDR := ok_drawnRules (P := P) (w := w) (base := base) FDR FCo bCo mC mi mr mn
  have gCo := ok_coin (P := P) (w := w) (base := base) FCo mi
  have gSp := ok_shape FSp ⟨gCo, bCo, gf "_law_coin" (by decide), FCo.kp⟩ ⟨gDT, bDT, gf "_law_drawn_tables" (by decide), FDT.kp⟩ ⟨gDR, bDR, gf "_law_drawn_rules" (by decide), FDR.kp⟩
  have gRo := ok_road FRo B ⟨gCo, bCo, gf "_law_coin" (by decide), FCo.kp⟩ ⟨gLC, bLC, gf "_law_copied" (by decide), FLC.kp⟩ ⟨gMu, bMu, gf "_law_muddle" (by decide), FMu.kp⟩ ⟨gSh, bSh, gf "show_book" (by decide), FSh.kp⟩ ⟨gRd, bRd, gf "read_book" (by decide), FRd.kp⟩ ⟨gBk, bB⟩ kB mWi ⟨gWi, bWi⟩ mWt ⟨gWt, bWt⟩ (propB_ok cT) gGT bGT (propB_ok cR) gGR bGR mn ml
  have ST : StoreT K mg := ⟨He.cls_ok (go (.cls "Store") (by simp [own])), He.noat_ok (go (.noat "Store" "_book") (by simp [own])), He.noat_ok (go (.noat "Store" "_rows") (by simp [own])), He.noat_ok (go (.noat "Store" "_steps") (by simp [own])), He.mkr_ok (go (.mkr "Store") (by simp [own])), gg "Store" (by decide)⟩
  have IS := isCB_ok ST.cl cS
  obtain ⟨EF, IF⟩ := eqFB_ok cQ ⟨mEq.at_, mEq.fn, (neB_ok cN).1, (neB_ok cN).2⟩ ⟨mSE.at_, mSE.fn, (neB_ok cM).1, (neB_ok cM).2⟩ IC IS (es.ok "UnknownTable" (by decide)).err
  have gEq := ok_eqU (P := P) (w := w) (base := base) FEq B IF mis
  have gSE := ok_eqS (P := P) (w := w) (base := base) FSE ST IF mis
  have gSI := ok_storeI FSI B ST (propB_ok cT) gGT bGT
  have gAl := ok_alike FAl EF gEq bEq gSE bSE mp
  have gMv := ok_moved (P := P) (w := w) (base := base) FMv ml
  have gNR := ok_nearR FNR ⟨gCo, bCo, gf "_law_coin" (by decide), FCo.kp⟩ ⟨gMv, bMv, gf "_law_moved" (by decide), FMv.kp⟩ mn ml
  have gNB := ok_nearB FNB ⟨gCo, bCo, gf "_law_coin" (by decide), FCo.kp⟩ ⟨gLC, bLC, gf "_law_copied" (by decide), FLC.kp⟩ ⟨gMv, bMv, gf "_law_moved" (by decide), FMv.kp⟩ ⟨gNR, bNR, gf "_law_near_rule" (by decide), FNR.kp⟩ mn mi (gb "dict" (by decide))
  have gRi := ok_right FRi B ST T ⟨gSp, bSp, gf "_law_shape" (by decide), FSp.kp⟩ ⟨gRo, bRo, gf "_law_road" (by decide), FRo.kp⟩ ⟨gLC, bLC, gf "_law_copied" (by decide), FLC.kp⟩ ⟨gNB, bNB, gf "_law_near_book" (by decide), FNB.kp⟩ ⟨gAl, bAl, gf "_law_books_alike" (by decide), FAl.kp⟩ ⟨gSh, bSh, gf "show_book" (by decide), FSh.kp⟩ ⟨gBk, bB⟩ gSI bSI (propB_ok cT) gGT bGT mr
  exact ok_law FLa ⟨ok_purse FPu mn (gb "max" (by decide)) (gb "abs" (by decide)) mi, bPu, gf "_law_purse" (by decide), FPu.kp⟩ ⟨gRi, bRi, gf "_law_right" (by decide), FRi.kp⟩ mr (gb "max" (by decide)) (gb "min" (by decide)) mn
end
end LW
open PySem PySem.W PySem.Calls PyProof.Rows
set_option maxRecDepth 100000 in
set_option maxHeartbeats 0 in
theorem PySem.Challenge.cw_keysthrough_k05_equal_books_holds : PySem.Challenge.rw_keysthrough_k05_equal_books.Holds := by
  w_on; o_law
  refine HandSHeadRun.head_any (r := OpenLaw.row PySem.Challenge.rw_keysthrough_k05_equal_books) (q := view (OpenLaw.row PySem.Challenge.rw_keysthrough_k05_equal_books).prog [63]) (H := LW.hk) (ob := LW.ob) (M := 20000) (loose := LW.loose)
    (d := HandSHeadRun.topDef (OpenLaw.row PySem.Challenge.rw_keysthrough_k05_equal_books).prog 63) (kwd := []) LW.ob_eq
    (by kernel_rfl) (fun s => by kernel_rfl) LW.run (by kernel_rfl) (by kernel_rfl) (by kernel_rfl) (by rfl) (by first | assumption | decide +kernel) (by decide +kernel) ⟨rfl, rfl, rfl, rfl, rfl, by decide +kernel⟩ ?hw ?hc
  case hw => w_witness2
  case hc =>
    refine KV.walk_ofC (l := PySem.Challenge.rw_keysthrough_k05_equal_books) (n := 63) (k := 13) (x := "script") (CX := L2.CX0) rfl (by decide) (by kernel_rfl) ⟨rfl, by decide, by decide⟩ ?F (fun _ _ _ _ z => z)
    intro w mg fa h Y G hmg0
    obtain ⟨K, KX, c⟩ := Y
    have hmg : mg ("law" : PySem.Str) = some (.ref fa) := by
      have e : (HandSHeadRun.topDef (OpenLaw.row PySem.Challenge.rw_keysthrough_k05_equal_books).prog 63).name = ("law" : PySem.Str) := by kernel_rfl
      rw [← e]
      exact hmg0
    obtain ⟨fd, hb, hF⟩ := LW.facts (P := (PySem.Challenge.rw_keysthrough_k05_equal_books).prog) (w := w) KX G hmg c
    exact ⟨K, fd, LW.spLaw K, KX, hb, fun H a ns hl _ hS => ⟨a, ns, rfl, hS, fun _ => rfl⟩, hF⟩
