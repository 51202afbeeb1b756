import PyProof.Rows.All
import Wide.All
import OpenK.AllK
import Wide.FinOn
import PyProof.ReprRoads
import PyProof.CallFns
import HandS.ForMost
import HandS.Wide
import HandS.IsInst
import HandS.ExcInit
import HandS.Defaults
import HandS.ExcIs
import HandS.ExcField
import HandS.MakeKw
import HandS.HeadHook1
import HandS.HeadHook2
import HandS.HeadHook3
import HandS.HeadHook4
import HandS.HeadEnd
import HandS.Head0
import HandS.Head1
import HandS.Head2
import HandS.ForExc
import HandS.MakeKwOnly
import HandS.Property
import HandS.Small
import HandS.HeadNt
import HandS.Codes
import HandS.Star
import HandS.Style
import HandS.CallRecv
import HandS.RaiseMore
import HandS.OwnEq
import PyProof.P3Eq
import HandS.CallSlots
import HandS.DictComp
import PyProof.EqKinds
import PyProof.NeKinds
import HandS.FStr
import HandS.Dict
import KE.KDictZip
import KE.GoesEnum
import KE.GoesMore
import HandS.Walk
import PySem.Challenge.RW_keysthrough_k50_refused_rows_let_in
set_option Elab.async false
set_option linter.all false
set_option maxRecDepth 100000
set_option maxHeartbeats 2000000
/-! Calls from where no repr is under way; repr of data; powers of great ints. -/
namespace KV
open PySem PySem.Spec PyProof.Rows L2

/-- what a def promises to a caller above which no repr is under way -/
structure FnC (P : Program) (w : World) (K : PySem.W.Frag) (mg : Str → Option Value) (base : Heap) (CX : CXT) (k : Nat)
    (f : Addr) (fd : FuncData) (ps : List Str) (sp : Sp) : Prop where
  len : ∀ vs H Q E, sp vs H Q E → vs.length = ps.length
  run : ∀ (A : Around) (outer : List Env) (s : Shared) (H : Hp) (args : Args) (us : List Value) (vs : List V) (Q : VK) (E : XK),
    A.guards = some [] → Room k A → Env0 P w K mg base A outer s H → BindsTo s fd args (ps.zip us) → Vals vs us → sp vs H Q E →
      codeAny (model P w) A (.call (.ref f) args) (CR CX outer P w H s Q E) s

theorem FnC.of {P : Program} {w : World} {K : PySem.W.Frag} {mg : Str → Option Value} {base : Heap} {CX : CXT} {k : Nat} {f : Addr}
    {fd : FuncData} {ps : List Str} {sp : Sp} (F : FnOk P w K mg base CX k f fd ps sp) : FnC P w K mg base CX k f fd ps sp :=
  ⟨F.len, fun A outer s H args us vs Q E _ hr e0 hb r h => F.run A outer s H args us vs Q E hr e0 hb r h⟩

section
variable {X : Cx} {CX : CXT} {k : Nat} {f : Addr} {fd : FuncData} {ps : List Str} {sp : Sp} {E : XK} {x : Str} {p pos : Pos}
  {e : Expr} {es : List Expr} {t : TA}
/-- f(e, ..) from such a place, every parameter given -/
theorem pe_callC (hG : X.A.guards = some []) (F : FnC X.prog X.w X.K X.mg X.base CX k f fd ps sp) (hr : Room k X.A) (hg : Gl X x)
    (hm : X.mg x = some (.ref f)) (hk : PySem.W.keepIn X.K (.ref f) = true) (hb : Binds X.K fd ps []) (hx : Passes CX X E)
    (ha : PA X (e :: es) t) (hdb : (x == ("__debug__" : Str)) = false := by decide)
    (he : starEach (e :: es) X.env = (false, eval e X.env) :: starEach es X.env := by rfl)
    (hpl : (backTo pos (starEach es X.env)).any (·.1) = false := by rfl) :
    PE X (.Call (.Name x p) (e :: es) [] pos) (tCall sp [] E t) := by
  constructor
  intro pins s σ H Q I h
  apply wpAny_Call_Name_kw
  refine ld_glob I hg hm ?_ hdb
  refine PySem.W.callWith_K (h₀ := X.base) I.ok.mod.kin hk (thn (ha.run pos pins s σ H _ I h) ?_) he hpl
  rintro us s1 ⟨vs, H1, I1, r, q⟩
  refine ⟨I1.kIn, ?_⟩
  rw [List.append_nil] at q
  have hl : (us ++ []).length = ps.length := by rw [List.append_nil, ← r.length]; exact F.len _ _ _ _ q
  have hb1 := hb s1 us I1.kIn hl
  rw [List.append_nil] at hb1
  refine wpAny_call (codeAny_mono (F.run X.A X.stack s1 H1 ⟨us, []⟩ us vs Q E hG hr I1.env0 hb1 r q) ?_)
  intro res s' hq
  match res, hq with
  | .error er, hq => exact hx pins σ H1 s1 er s' I1 hq
  | .ok (.ret u), hq => exact I1.after hq
end

/-- the rule of a def for such callers -/
theorem Fun.okC {P : Program} {w : World} {K : PySem.W.Frag} {mg : Str → Option Value} {base : Heap} {x qual : Str} {params : Arguments}
    {body : List Stmt} {scope : Scope} {dvs : List V} {kws : List (Str × V)} {f : Addr} {fd : FuncData} {CX : CXT} {N ps : List Str} {k : Nat} {sp : Sp}
    (F : FunD K x qual params body scope dvs kws f fd) (S : FnScope N ps scope) (len : ∀ vs H Q E, sp vs H Q E → vs.length = ps.length)
    (hbody : ∀ (cdv : Value) (A : Around) (outer : List Env) (s : Shared) (H : Hp) (vs : List V) (Q : VK) (E : XK), A.guards = some [] →
      Room k (A.deeper (envOfC qual scope s.heap.objs.size f cdv)) → sp vs H Q E →
      ∃ t, PSs (cxOf CX P w K mg base N qual scope f cdv A outer s H E) body t ∧ t { nx := fun _ H' => Q .non H', rt := Q } (start N vs) H) :
    FnC P w K mg base CX (k + 1) f fd ps sp := by
  obtain ⟨oc, od, dV, kV, doc, pm, an, cdv, ct, osl, rfl, lk, hcd, _, _⟩ := F.ex
  refine ⟨len, ?_⟩
  intro A outer s H args us vs Q E hG hr e0 hb r hsp
  have keepB : ∀ b o, base.get? b = some o → s.heap.get? b = some o := fun b o q => (e0.bs b o q).1
  have KX : K.In s.heap := e0.mod.kin.keeps keepB
  have hkind : ∀ y ∈ ps.zip us, scope.names.lookup y.1 = some .local ∨
      (scope.names.lookup y.1 = some .cell ∧ ((cellsFrom (s.heap.objs.size + 1) scope.names []).lookup y.1).isSome = true) := by
    rintro ⟨n, v⟩ hy
    exact (S.par n (List.of_mem_zip hy).1).imp id fun q => ⟨q, PySem.W.cellsFrom_some _ _ _ (.inl q)⟩
  apply codeAny_call_function hr.depth (KX _ _ lk) rfl S.co S.gen rfl (PySem.W.codeRec_of KX hcd)
  apply hb
  apply wpAny_newFunctionEnv_cells S.kind hkind
  intro env he s1 x
  subst he
  refine ⟨(e0.mod.nolimit.keeps keepB).keeps x.toInCall.keep, codeAny_func ?_⟩
  obtain ⟨t, ht, hq⟩ := hbody cdv A outer s H vs Q E hG (hr.deeper _) hsp
  have I : Inv (cxOf CX P w K mg base N qual scope f cdv A outer s H E) [] (start N vs) H s1 := inv_start S hr.hd e0 (len _ _ _ _ hsp) r x
  refine wpAny_mono (ht.run [] s1 (start N vs) H _ I hq) ?_ (fun er s' hs => hs)
  intro fl s' hs
  match fl, hs with
  | .ret u, ⟨v, σ', H', J, rv, q⟩ => exact ⟨v, H', J.os, J.bare, J.base, J.hok, rv, q⟩
  | .next, ⟨σ', H', J, q⟩ => exact ⟨V.non, H', J.os, J.bare, J.base, J.hok, rfl, q⟩
  | .brk, ⟨_, _, _, q⟩ => exact False.elim q
  | .cont, ⟨_, _, _, q⟩ => exact False.elim q

/-! ### ints -/
def CPowB (i j : Int) : Prop := 0 ≤ j ∧ (Builtin.Int.intBits i : Int) * j ≤ 2 ^ 27
theorem op_powB {X : Cx} : OpR X (binaryOp .Pow) (rI CPowB fun i j => .int (i ^ j.toNat)) :=
  opI fun _ _ _ _ _ _ _ hc q => pow_int hc.1 hc.2 q

/-! ### repr -/
/-- repr(x), x data of any depth -/
def rRep (K : PySem.W.Frag) : List V → Hp → VK → Prop := fun xs H Q => ∃ x d, xs = [x] ∧ Dp K H x d ∧ d.showable = true ∧ d.hasDict = false ∧
  d.depth ≤ 60 ∧ d.shown.length ≤ sizeLine ∧ Q (.str d.shown) H
theorem call_repD {X : Cx} (hG : X.A.guards = some []) (hu : X.A.units + 64 < cLine) : CallR X (.builtin "repr") (rRep X.K) := by
  intro pins s σ H xs us Q I r h
  obtain ⟨x, d, rfl, hd, hs, hh, hdp, hz, q⟩ := h
  obtain ⟨u, rfl, ru⟩ := vals1 r
  have leaf : ∀ z tk, d.shown = z → EP X pins σ Q (.str z s.toks) { s with toks := tk } := fun z tk e => ⟨.str z, H, I.tok tk, ⟨_, rfl⟩, e ▸ q⟩
  cases hd with
  | non => cases ru; exact PySem.P.repr_of_none (leaf _ _ (by simp only [PyData.shown]))
  | bl b => cases ru; exact PySem.P.repr_of_bool (leaf _ _ (by simp only [PyData.shown]))
  | int i =>
    obtain ⟨t, rfl⟩ := ru
    exact PySem.P.repr_of_int (by simpa [PyData.showable] using hs) (leaf _ _ (by simp only [PyData.shown]))
  | str z =>
    obtain ⟨t, rfl⟩ := ru
    simp only [PyData.shown] at hz
    exact PySem.P.repr_of_str (leaf _ _ (by simp only [PyData.shown])) hz
  | @lst a ys ds h1 h2 =>
    cases ru
    obtain ⟨as, rr⟩ := Dp.reads I (.list ds) (.ref a) (.ref a) (.lst h1 h2) rfl
    exact repr_of_reads' rr hs (PyData.noDict_hsm hh) hG (by omega) (fun _ _ e => e) (fun h' u tk k => ⟨.str _, H, I.kept (t' := tk) k, ⟨_, rfl⟩, q⟩) hz
  | @tup a ys ds h1 h2 =>
    cases ru
    obtain ⟨as, rr⟩ := Dp.reads I (.tuple ds) (.ref a) (.ref a) (.tup h1 h2) rfl
    exact repr_of_reads' rr hs (PyData.noDict_hsm hh) hG (by omega) (fun _ _ e => e) (fun h' u tk k => ⟨.str _, H, I.kept (t' := tk) k, ⟨_, rfl⟩, q⟩) hz
/-! ### the law's call -/
section
variable {P : Program} {w : World} {K : PySem.W.Frag} {mg mb : Str → Option Value} {CX : CXT} {k : Nat} {fa a : Addr} {fd : FuncData}
  {x : Str} {sp : Sp} {s₁ : Shared} {vs : List Value} {ns : List Int}
/-- the end, from an abstract heap that tracks nothing but perhaps the script -/
theorem law_coreC (KX : K.In s₁.heap) (hns : s₁.heap.Ns mainGlobals mg) (hb : s₁.heap.Ns builtinsNs mb)
    (hbb : ∀ x : Str, x ≠ "__name__" → mb x = bootBuiltins x) (hlim : s₁.heap.NoLimit) (hg : s₁.gens = #[])
    (ha : s₁.heap.get? a = some { cls := .type "list", data := .seq vs.toArray }) (hr : Room k callerA)
    (F : ∀ base : Heap, K.In base → base.Ns mainGlobals mg → FnC P w K mg base CX k fa fd [x] sp)
    (hbind : ∀ (s : Shared) (u : Value), BindsTo s fd ⟨[u], []⟩ [(x, u)])
    (hCX : ∀ H e s', CX [] H s₁ (fun _ _ _ => False) e s' → False) (H : Hp) (hO : Only H)
    (hsp : sp [.ref a] H (fun v _ => v = .bl true) fun _ _ _ => False) (ok : HOk P w H s₁.heap) (hA : ∀ b u, H b = some u → b = a)
    (hK : ∀ u, H a = some u → K.lookup a = none) :
    codeAny (model P w) callerA (.call (.ref fa) ⟨[.ref a], []⟩)
      (fun r s' => r = .ok (.ret (.bool true)) ∧ OldK s₁.heap s'.heap ∧ s'.os = s₁.os ∧ AllBare s'.gens) s₁ := by
  have off : ∀ {b : Addr} {o : Obj}, s₁.heap.get? b = some o → (∀ es ep, o.data = .dict es ep → H b = none) := by
    intro b o e es ep d
    cases q : H b with
    | none => rfl
    | some u =>
      have z := hA b u q
      rw [z, ha] at e
      have z2 := Option.some.inj e
      rw [← z2] at d
      exact absurd d (by simp)
  have nsB : ∀ {b : Addr} {m : Str → Option Value}, s₁.heap.Ns b m → (hidT s₁.heap H).Ns b m := by
    rintro b m ⟨o, es, ep, e, d, r⟩
    exact ⟨o, es, ep, hidT_get e (off e es ep d), d, r⟩
  have inB : K.In (hidT s₁.heap H) := by
    intro b o e
    refine hidT_get (KX b o e) ?_
    cases q : H b with
    | none => rfl
    | some u =>
      have z := hA b u q
      subst z
      rw [hK u q] at e
      cases e
  obtain ⟨mc, hm1, hm2⟩ := hlim
  have M : Mod K mg (hidT s₁.heap H) := ⟨inB, nsB hns, ⟨mb, nsB hb, hbb⟩, ⟨mc, nsB hm1, hm2⟩⟩
  have E : Env0 P w K mg (hidT s₁.heap H) callerA [] s₁ H :=
    { frames := rfl, mod := M, bs := fun b o e => of_hidT e, bsz := Nat.le_of_eq (hidT_size _ _), funs := trivial,
      frf := fun b z => absurd (show b ∈ ([] : List Addr) from z) (by simp), hok := ok, bare := .of_eq hg }
  have R := (F _ inB (nsB hns)).run callerA [] s₁ H ⟨[.ref a], []⟩ [.ref a] [.ref a] _ _ rfl hr E (hbind s₁ (.ref a)) (.cons rfl .nil) hsp
  refine codeAny_mono R ?_
  intro r s' h
  match r, h with
  | .error e, h => exact (hCX H e s' h).elim
  | .ok (.ret u), ⟨v, H', os, bare, un, hok', rv, q⟩ =>
    have q1 : v = .bl true := q
    rw [q1] at rv
    have e1 : u = Value.bool true := rv
    refine ⟨by rw [e1], OldK.of_keep ?_, os, bare⟩
    intro b o e
    rcases hO b with z | ⟨ob, xs, z⟩
    · exact un.keep b o e z (fun z => absurd (show b ∈ ([] : List Addr) from z) (by simp)) (by simp)
    · have e2 := (ok b _ z).1
      have e3 := (hok' b _ (un.frzs b ob _ z)).1
      rw [e] at e2
      rw [Option.some.inj e2]
      exact e3

theorem law_callC (KX : K.In s₁.heap) (hns : s₁.heap.Ns mainGlobals mg) (hb : s₁.heap.Ns builtinsNs mb)
    (hbb : ∀ x : Str, x ≠ "__name__" → mb x = bootBuiltins x) (hlim : s₁.heap.NoLimit) (hg : s₁.gens = #[])
    (ha : s₁.heap.get? a = some { cls := .type "list", data := .seq vs.toArray }) (hi : IntsAre vs ns) (hl : ns.length ≤ sizeLine) (hr : Room k callerA)
    (F : ∀ base : Heap, K.In base → base.Ns mainGlobals mg → FnC P w K mg base CX k fa fd [x] sp)
    (hbind : ∀ (s : Shared) (u : Value), BindsTo s fd ⟨[u], []⟩ [(x, u)])
    (hsp : ∀ H : Hp, Only H → SqL K H a (ns.map V.int) → sp [.ref a] H (fun v _ => v = .bl true) fun _ _ _ => False)
    (hCX : ∀ H e s', CX [] H s₁ (fun _ _ _ => False) e s' → False) :
    codeAny (model P w) callerA (.call (.ref fa) ⟨[.ref a], []⟩)
      (fun r s' => r = .ok (.ret (.bool true)) ∧ OldK s₁.heap s'.heap ∧ s'.os = s₁.os ∧ AllBare s'.gens) s₁ := by
  have rv := vals_ints hi
  have core := law_coreC KX hns hb hbb hlim hg ha hr F hbind hCX
  by_cases hk : (K.lookup a).isSome = true
  · obtain ⟨o, ho⟩ := Option.isSome_iff_exists.mp hk
    have e := (KX a o ho).symm.trans ha
    have e2 := Option.some.inj e
    subst e2
    have hS : SqL K (fun _ => none) a (ns.map V.int) := .inr ⟨_, vs.toArray, _, ho, rfl, rfl, rfl, by rw [List.size_toArray, hi.length]; exact hl, rv⟩
    exact core _ (fun _ => .inl rfl) (hsp _ (fun _ => .inl rfl) hS) (fun b u z => by cases z) (fun b u z => by cases z) fun u z => by cases z
  · have hn : K.lookup a = none := by
      cases q : K.lookup a with
      | none => rfl
      | some o => rw [q] at hk; exact absurd rfl hk
    let O : HO := .frz { cls := .type "list", data := .seq vs.toArray } (.lst (ns.map V.int))
    have at_ : ∀ b u, upd (fun _ => none) a O b = some u → b = a ∧ u = O := by
      intro b u z
      by_cases hba : b = a
      · rw [hba, upd_same] at z
        exact ⟨hba, (Option.some.inj z).symm⟩
      · rw [upd_ne hba] at z
        cases z
    have hO : Only (upd (fun _ => none) a O) := by
      intro b
      by_cases hba : b = a
      · exact .inr ⟨_, _, by rw [hba, upd_same]⟩
      · exact .inl (by rw [upd_ne hba])
    refine core _ hO (hsp _ hO (.inl (.inr ⟨_, upd_same⟩))) ?_ (fun b u z => (at_ b u z).1) fun _ _ => hn
    intro b u z
    obtain ⟨rfl, rfl⟩ := at_ b u z
    exact ⟨ha, by rw [List.length_map]; exact hl, vs, _, rv, ha⟩

/-- the law's walk, its def's promise given to callers above which no repr is under way -/
theorem walk_ofC {l : PySem.W.OpenLaw} {n k : Nat} {q : Program} {loose : List Str} {XP : (Str → Option Value) → Heap → Prop} {YP : World → Heap → Prop} {d : DefRec} {CX : CXT} {x : Str}
    (hn : l.most = some n) (hn2 : n ≤ sizeLine) (hdf : d.params.defaults = []) (hr : Room k callerA)
    (F : ∀ (w : World) (mg : Str → Option Value) (fa : Addr) (h : Heap), YP w h → h.Ns mainGlobals mg → mg d.name = some (.ref fa) →
      ∃ (K : PySem.W.Frag) (fd : FuncData) (sp : Sp), K.In h ∧ (∀ (s : Shared) (u : Value), BindsTo s fd ⟨[u], []⟩ [(x, u)]) ∧
        (∀ (H : Hp) (a : Addr) (ns : List Int), ns.length ≤ n → Only H → SqL K H a (ns.map V.int) → sp [.ref a] H (fun v _ => v = .bl true) fun _ _ _ => False) ∧
        ∀ base : Heap, K.In base → base.Ns mainGlobals mg → FnC l.prog w K mg base CX k fa fd [x] sp)
    (hCX : ∀ (H : Hp) (s : Shared) (e : Value) (s' : Shared), CX [] H s (fun _ _ _ => False) e s' → False) :
    PySem.W.WalkO q loose XP YP l.row.toRowW d [] (fun f vs => PySem.call f vs) := by
  apply Att.attach_call hn hdf
  intro w s₀ s₁ mg mb fa o pm cd doc a vs ns G Y ho hd hcd hmg hobj hints hlen hg
  obtain ⟨K, fd, sp, KX, hb, hsp, hF⟩ := F w mg fa _ Y G.T.g hmg
  exact law_callC KX G.T.g G.T.b G.T.builtins G.T.nolimit hg hobj hints (Nat.le_trans hlen hn2) hr hF hb (fun H hO hS => hsp H a ns hlen hO hS)
    fun H e s' => hCX H s₁ e s'
end
end KV
set_option Elab.async false
set_option linter.all false
set_option maxRecDepth 100000
set_option maxHeartbeats 4000000
/-! Own errors over ValueError as values: made by position and by keyword, a field read, isinstance. -/
namespace PySem
namespace KVX
open PySem.W PySem.Calls PyProof.Rows PySem.HandSPX
section
variable {prog : Program} {w : World} {A : Around} {E : Value → Shared → Prop} {R : Result → Shared → Prop} {h : Heap} {g : Array GenState} {d : Drawn} {t : Nat} {os : OsState}
variable {nm q : Str} {C N : Addr} {bs bm bmB : List Value} {hdct : Bool} {sn : List Str} {sub : List Value} {ab : Bool} {col : Option Bool} {dd : Option Addr} {k0 k1 k2 k3 k5 : Option Value} {B newId initId : String}
  {kw : List (Str × Value)}

theorem checkK {M : Model} (F : ExcBaseFacts B newId initId bmB) (hT : ∀ X : String, bm.contains (.type X) = bmB.contains (.type X))
    {Q : Unit → Shared → Prop} (hC : h.get? C = some (excClassObj nm q C N bs bm hdct sn sub ab col dd k0 k1 k2 k3 k5 newId))
    (hq : Q () ⟨h, g, d, t, os⟩) : wpAny M A (checkBuiltinCall newId ⟨[.ref C], kw⟩) Q E ⟨h, g, d, t, os⟩ := by
  have inB : (Value.ref C :: bm).contains (.type B) = true := by
    rw [List.contains_cons, hT, F.hasB, Bool.or_true]
  have star := F.noStar
  simp only [checkBuiltinCall, F.newSplit, F.newKind, F.newRow]
  repeat (first
    | refine wpAny_loadPart_at hC ?_
    | (refine wpAny_isSubtype_exc hC ?_; rw [inB])
    | refine wpAny_staticBase_exc hC ?_
    | refine wpAny_madeBy_exc hC ?_
    | simp only [bne_self_eq_false, Bool.false_eq_true, if_false]
    | wp_step)
  exact hq

theorem newK (F : ExcBaseFacts B newId initId bmB) (hT : ∀ X : String, bm.contains (.type X) = bmB.contains (.type X))
    (hC : h.get? C = some (excClassObj nm q C N bs bm hdct sn sub ab col dd k0 k1 k2 k3 k5 newId))
    (hq : R (.ok (.ret (.ref (h.objs.size + 1)))) ⟨(h.push (kdv_tup [])).push (excO C h.objs.size), g, d, t, os⟩) :
    codeAny (model prog w) A (.builtin newId ⟨[.ref C], kw⟩) R ⟨h, g, d, t, os⟩ := by
  have ends := F.ends
  have inB : (Value.ref C :: bm).contains (.type B) = true := by
    rw [List.contains_cons, hT, F.hasB, Bool.or_true]
  have noA : (Value.ref C :: bm).contains (.type "AttributeError") = false := by
    rw [List.contains_cons, hT, F.noAttr]; rfl
  have noN : (Value.ref C :: bm).contains (.type "NameError") = false := by
    rw [List.contains_cons, hT, F.noName]; rfl
  have hz : ([] : List Value).length ≤ sizeLine := Nat.zero_le _
  apply codeAny_builtinAt F.entry
  unfold Builtin.«BaseException.__new__»
  apply wpAt_bind
  show wpAt _ _ _ (stack >>= _) _ _ _
  apply wpAt_bind
  refine wpAt_stack fun p below => wpAt_of_wpAny ?_
  wp_walk
  apply wpAt_of_wpAny
  rw [F.owner]
  repeat (first
    | with_reducible refine wpAny_madeHere_exc F.canon hC ?_
    | with_reducible refine wpAny_loadPart_at hC ?_
    | (with_reducible refine wpAny_isSubtype_exc hC ?_; first | rw [inB] | rw [noA] | rw [noN])
    | wp_step)
  show R _ _
  rw [Heap.size_push]
  exact hq

theorem typeCallK (F : ExcBaseFacts B newId initId bmB) (hT : ∀ X : String, bm.contains (.type X) = bmB.contains (.type X)) {fI : Addr} {Q : Fin → Shared → Prop}
    (hC : h.get? C = some (excClassObj nm q C N bs bm hdct sn sub ab col dd k0 k1 k2 k3 k5 newId))
    (hi : W.Looks (model prog w) h (typeLookup (.ref C) "__init__") (some (.ref fI)))
    (hb : ∀ self, W.Looks (model prog w) h (bindSpecial (.ref fI) self) (.ref fI, [self]))
    (hq : codeAny (model prog w) A (.call (.ref fI) ⟨[.ref (h.objs.size + 1)], kw⟩)
      (fun r s' => match r with | .ok (.ret v) => v = .none ∧ Q (.done (.ret (.ref (h.objs.size + 1)))) s' | .ok _ => False | .error e => E e s')
      ⟨(h.push (kdv_tup [])).push (excO C h.objs.size), g, d, t, os⟩) :
    wpAny (model prog w) A (Builtin.«type.__call__» ⟨[.ref C], kw⟩) Q E ⟨h, g, d, t, os⟩ := by
  repeat (first
    | with_reducible refine wpAny_loadPart_at hC ?_
    | with_reducible refine wpAny_madeBy_exc hC ?_
    | wp_step)
  apply codeAny_call_builtin_code (Code.quiet_builtin _ F.quiet) (checkK F hT hC ?_)
  apply newK F hT hC
  show wpAny _ _ _ _ _ _
  have keep : ∀ b o, h.get? b = some o → ((h.push (kdv_tup [])).push (excO C h.objs.size)).get? b = some o := fun b o e =>
    Heap.get?_push_of_some _ (Heap.get?_push_of_some _ e)
  have hget : ((h.push (kdv_tup [])).push (excO C h.objs.size)).get? (h.objs.size + 1) = some (excO C h.objs.size) := by heap_get
  have inC : (Value.ref C :: bm).contains (.ref C) = true := by simp
  have i1 := hi.keeps keep
  have b1 := (hb (.ref (h.objs.size + 1))).keeps keep
  unfold isInstance
  repeat (first
    | with_reducible refine wpAny_loadPart_at hget ?_
    | (with_reducible refine wpAny_isSubtype_exc (keep _ _ hC) ?_; rw [inC])
    | wp_step)
  show wpAny _ _ (typeLookup (.ref C) _) _ _ _
  apply i1.at
  apply wpAny_holding
  apply wpAny_bind
  apply b1.at
  apply wpAny_bind
  refine wpAny_call (codeAny_mono hq fun r s' z => ?_)
  rcases r with e | (v | _ | _ | _) <;> first | exact z | exact z.elim | skip
  obtain ⟨rfl, z⟩ := z
  first
    | exact wpAny_pure (wpAny_pure z)
    | (wp_walk; exact z)

theorem callK (F : ExcBaseFacts B newId initId bmB) (hT : ∀ X : String, bm.contains (.type X) = bmB.contains (.type X)) {fI : Addr}
    (hC : h.get? C = some (excClassObj nm q C N bs bm hdct sn sub ab col dd k0 k1 k2 k3 k5 newId))
    (hi : W.Looks (model prog w) h (typeLookup (.ref C) "__init__") (some (.ref fI)))
    (hb : ∀ self, W.Looks (model prog w) h (bindSpecial (.ref fI) self) (.ref fI, [self]))
    (hq : codeAny (model prog w) (A.under (.builtin "type.__call__" ⟨[.ref C], kw⟩)) (.call (.ref fI) ⟨[.ref (h.objs.size + 1)], kw⟩) (W.InitBack (h.objs.size + 1) R)
      ⟨(h.push (kdv_tup [])).push (excO C h.objs.size), g, d, t, os⟩) :
    codeAny (model prog w) A (.call (.ref C) ⟨[], kw⟩) R ⟨h, g, d, t, os⟩ := by
  have look := tc_lookup
  have bind := tc_bind (.ref C)
  have hTy : (⟨h, g, d, t, os⟩ : Shared).TypeIs (.ref C) "type" := ⟨_, hC, rfl⟩
  apply codeAny_of_tree
  show wpAny _ _ (callAny (.ref C) _) _ _ _
  repeat (any_goals (first
    | assumption
    | with_reducible refine wpAny_loadPart_at hC ?_
    | wp_step))
  refine ⟨rfl, ?_⟩
  apply codeAny_call_builtin_at (Code.quiet_builtin _ (by decide +kernel)) entry_typeCall
  refine wpAny_check_type_call_sub hC (typeCallK F hT hC hi hb ?_)
  refine codeAny_mono hq fun r s' z => ?_
  rcases r with e | (v | _ | _ | _) <;> exact z
end
end KVX
end PySem
set_option Elab.async false
set_option linter.all false
set_option maxRecDepth 100000
set_option maxHeartbeats 4000000
namespace PySem.W
open PySem PySem.Spec PySem.Calls PyProof.Rows
section
variable {prog : Program} {w : World} {A : Around} {E : Value → Shared → Prop} {s : Shared} {K : Frag} {x D : Addr} {ox : Obj} {od : Option Obj}
/-- what the class of an error says of its objects' __class__ -/
structure ErrC (K : Frag) (D : Addr) : Prop where
  hga : findIn K (.ref D) "__getattribute__" = some (some (.builtin "BaseException.__getattribute__"))
  hgt : findIn K (.ref D) "__getattr__" = some none
  hsub : subIn K (.ref D) (.type "BaseException") = some true
  hdct : hasDictIn K D = true
  ha : findIn K (.ref D) "__class__" = some (some (.builtin "object.__class__"))
  hn : specialIn K (.builtin "object.__class__") "__get__" = some (some (.builtin "getset_descriptor.__get__"))
  htk : takesIn K (.builtin "object.__class__") = some true
  hm : mroIn K D (.type "object") = some true

theorem err_find (c : ErrC K D) : findObj K D od "__class__" = some (.bind (.builtin "getset_descriptor.__get__") (.builtin "object.__class__")) := by
  obtain ⟨cd, hc, _⟩ := any_some c.hdct
  unfold findObj
  rw [hc, Option.bind_some, c.ha, Option.bind_some]
  simp [c.hn, c.htk]

theorem err_class {Q : Option Value → Shared → Prop} (c : ErrC K D) (X : K.In s.heap) (I : InstAt s.heap x ox D od)
    (h : Q (some (.ref D)) { s with toks := s.toks + 1 }) : wpAny (model prog w) A (getAttr? (.ref x) "__class__") Q E s := by
  obtain ⟨hp, g, d, t, os⟩ := s
  have T := I.type (M := model prog w)
  have G := looks_findIn (M := model prog w) X c.hga
  have N := looks_findIn (M := model prog w) X c.hgt
  have Fd := looks_find (M := model prog w) X I (err_find c)
  have sub : Looks (model prog w) hp (isInstance (.ref x) (.type "BaseException")) true := T.andThen (looks_subIn X c.hsub)
  have n0 : (false && onTheHeap (Value.builtin "BaseException.__getattribute__")) = false := rfl
  have n2 : (Value.builtin "BaseException.__getattribute__" == Value.builtin "object.__getattribute__") = false := by decide +kernel
  have n1 : (onTheHeap (Value.ref D) && Value.builtin "BaseException.__getattribute__" == Value.builtin "object.__getattribute__") = false := by
    rw [n2]; rfl
  unfold getAttr? getAttrBy? getAttrBy
  apply wpAny_bind
  apply wpAny_mkText
  apply wpAny_bind
  apply wpAny_attempt
  apply wpAny_holding
  refine wpAny_bind (T.at (wpAny_bind (G.at ?_)))
  show wpAny _ _ (if (onTheHeap (Value.ref D) && Value.builtin "BaseException.__getattribute__" == Value.builtin "object.__getattribute__") = true then _ else _) _ _ _
  rw [n1, if_neg Bool.false_ne_true]
  unfold getAttrByItsOwn hookBefore
  apply wpAny_bind
  rw [if_pos (show onTheHeap (Value.ref D) = true from rfl)]
  apply N.at
  refine wpAny_bind (wpAny_attempt (wpAny_holding ?_))
  unfold callGetattribute
  rw [n0, if_neg Bool.false_ne_true]
  unfold boundAndCalled
  rw [PySem.F.excAttr_ValueError.ga.bind (.ref x)]
  apply wpAny_bind
  apply wpAny_pure
  show wpAny _ _ (call (.builtin "BaseException.__getattribute__") [.ref x, .str "__class__" t]) _ _ _
  apply wpAny_call
  apply codeAny_call_builtin PySem.F.excAttr_ValueError.ga.plain PySem.F.entry_bexc_ga
  refine @check_slot (model prog w) _ _ ⟨hp, g, d, t + 1, os⟩ "BaseException.__getattribute__" "BaseException" "__getattribute__" (.ref x) [.str "__class__" t] [] _
    (by decide +kernel) (by decide +kernel) sub (PySem.F.args_bexc_ga (.ref x) (.str "__class__" t)) ?_
  unfold Builtin.«object.__getattribute__»
  apply wpAny_bind
  refine wpAny_of_eq (a := ((Value.ref x : Value), [Value.str "__class__" t])) (by first | rfl | (simp only [slotArgs]; rfl)) ?_
  apply wpAny_bind
  apply wpAny_pure
  refine wpAny_bind (T.at (wpAny_bind (Fd.at ?_)))
  show wpAny _ _ (holding [Value.builtin "object.__class__"] (call (.builtin "getset_descriptor.__get__") [.builtin "object.__class__", .ref x, .ref D]) >>= ret) _ _ _
  apply wpAny_bind
  apply wpAny_holding
  apply wpAny_call
  refine class_get (s := ⟨hp, g, d, t + 1, os⟩) (ox := ox) (od := od) X I c.hm ?_
  apply wpAny_pure
  show wpAny _ _ (handedOut (.ref D)) _ _ _
  rw [handedOut_of (v := .ref D) rfl]
  first
    | exact wpAny_pure (wpAny_pure h)
    | exact wpAny_pure h
    | exact wpAny_pure (wpAny_bind (wpAny_pure (wpAny_pure h)))

theorem err_obj (c : ErrC K D) : ∃ c' d' cd' sl', K.lookup D = some ⟨c', d', .cls cd', sl'⟩ := by
  obtain ⟨cdD, hcD, _⟩ := any_some c.hdct
  unfold clsIn at hcD
  split at hcD
  · rename_i c' d' cd' sl' ho
    exact ⟨_, _, _, _, ho⟩
  · cases hcD

theorem err_kit (c : ErrC K D) : KitX K (.ref x) (.ref D) (fun h => InstAt h x ox D od) where
  ty := fun _ _ _ I => I.type
  it := fun _ _ X _ => by
    obtain ⟨c', d', cd', sl', ho⟩ := err_obj c
    intro A' Q' E' s' k q
    unfold isType loadHead
    exact wpAny_bind (wpAny_loadPart (k _ _ (X _ _ ho)) (wpAny_pure q))
  ne := fun h tp dd its n sl X htp => by
    obtain ⟨c', d', cd', sl', ho⟩ := err_obj c
    refine Bool.eq_false_iff.mpr fun q => ?_
    have e : D = tp := Value.ref.inj (beq_iff_eq.mp q)
    subst e
    have z := (X _ _ ho).symm.trans htp
    cases z
  ca := fun X I k => err_class c X I k
end
end PySem.W

namespace KV
open PySem PySem.Spec PyProof.Rows L2
/-- a new error at a, its dict at dx -/
def exH (H : Hp) (a dx C : Addr) (f : Str) (v : V) : Hp := upd (upd H dx (exd dx [(f, v)])) a (exo a C (some dx))
theorem exH_upd {H : Hp} {a dx C : Addr} {f : Str} {v : V} (hne : dx ≠ a) : exH (upd H a (exo a C none)) a dx C f v = exH H a dx C f v := by
  funext b
  unfold exH
  by_cases h1 : b = a
  · rw [h1, upd_same, upd_same]
  · rw [upd_ne h1, upd_ne h1]
    by_cases h2 : b = dx
    · rw [h2, upd_same, upd_same]
    · rw [upd_ne h2, upd_ne h2, upd_ne h1]
/-- what __init__(self, f) with self.f = f promises -/
def spInit (K : PySem.W.Frag) (f : Str) : Sp := fun vs H Q _ => ∃ (a C : Addr) (v : V), vs = [.ref a, v] ∧ OexC K C ∧
  PySem.W.findIn K (.ref C) f = some none ∧ H a = some (exo a C none) ∧ ∀ dx, H dx = none → dx ≠ a → Q .non (exH H a dx C f v)
/-- C(e), C(f = e): a new error that holds the value -/
def tNewEx (C : Addr) (f : Str) (te : TE) : TE := fun σ H Q => te σ H fun v H1 => ∀ a dx, H1 a = none → H1 dx = none → dx ≠ a → Q (.ref a) (exH H1 a dx C f v)

section
variable {X : Cx} {k : Nat} {fI C : Addr} {fd : FuncData} {f x : Str} {p pos kp : Pos} {e : Expr} {te : TE}
/-- the head of such a call: the object is laid, __init__ runs -/
theorem run_init {pins : List (Addr × Obj)} {σ : L2.St} {H : Hp} {hp : Heap} {g : Array GenState} {dr : Drawn} {tk : Nat} {os : OsState} {Q : VK} {v : V} {u : Value} {args : Args} {rest : List Value} {A : Around}
    (T : OexC X.K C) (hf : PySem.W.findIn X.K (.ref C) f = some none) (F1 : FnOk X.prog X.w X.K X.mg X.base CX0 k fI fd ["self", f] (spInit X.K f))
    (hr : Room k A) (he : ∀ {s : Shared} {H : Hp}, Env0 X.prog X.w X.K X.mg X.base X.A X.stack s H → Env0 X.prog X.w X.K X.mg X.base A X.stack s H)
    (hb : ∀ s : Shared, X.K.In s.heap → BindsTo s fd args [("self", .ref (hp.objs.size + 1)), (f, u)])
    (I : Inv X pins σ H ⟨hp, g, dr, tk, os⟩) (r : RelV v u) (q : ∀ a dx, H a = none → H dx = none → dx ≠ a → Q (.ref a) (exH H a dx C f v)) :
    codeAny (model X.prog X.w) A (.call (.ref fI) args) (PySem.W.InitBack (hp.objs.size + 1) (callEnd (EP X pins σ Q) X.xe))
      ⟨(hp.push (PySem.W.kdv_tup rest)).push (PySem.HandSPX.excO C hp.objs.size), g, dr, tk, os⟩ := by
  have hsz : hp.objs.size ≤ hp.objs.size + 1 := Nat.le_succ _
  have hn : H (hp.objs.size + 1) = none := I.hok.fresh hsz
  have keep : ∀ b o, hp.get? b = some o → ((hp.push (PySem.W.kdv_tup rest)).push (PySem.HandSPX.excO C hp.objs.size)).get? b = some o :=
    fun b o e => Heap.get?_push_of_some _ (Heap.get?_push_of_some _ e)
  have hget : ((hp.push (PySem.W.kdv_tup rest)).push (PySem.HandSPX.excO C hp.objs.size)).get? (hp.objs.size + 1) = some (PySem.HandSPX.excO C hp.objs.size) := by heap_get
  have J := I.laid (t' := tk) (a := hp.objs.size + 1) (o := exo (hp.objs.size + 1) C none) keep hsz (exo_ok hget)
  have hs : spInit X.K f [.ref (hp.objs.size + 1), v] (upd H (hp.objs.size + 1) (exo (hp.objs.size + 1) C none))
      (fun v' H3 => v' = .non ∧ Q (.ref (hp.objs.size + 1)) H3) (fun _ _ _ => False) := by
    refine ⟨_, C, v, rfl, T, hf, upd_same, fun dx hd hne => ⟨rfl, ?_⟩⟩
    rw [upd_ne hne] at hd
    rw [exH_upd hne]
    exact q _ dx hn hd hne
  refine codeAny_mono (F1.run A X.stack _ _ args [.ref (hp.objs.size + 1), u] [.ref (hp.objs.size + 1), v] _ _ hr (he J.env0) (hb _ J.kIn) (.cons rfl (.cons r .nil)) hs) ?_
  intro res s' hq
  match res, hq with
  | .ok (.ret z), hq =>
    obtain ⟨v', H3, I3, rv, ev, q3⟩ := J.after hq
    subst ev
    exact ⟨rv, .ref (hp.objs.size + 1), H3, I3, rfl, q3⟩

/-- C(e) -/
theorem pe_exP (T : OexC X.K C) (hf : PySem.W.findIn X.K (.ref C) f = some none) (iC : PySem.W.findIn X.K (.ref C) "__init__" = some (some (.ref fI)))
    (tI : PySem.W.typeIn X.K (.ref fI) = some (.type "function")) (F1 : FnOk X.prog X.w X.K X.mg X.base CX0 k fI fd ["self", f] (spInit X.K f)) (hr : Room (k + 1) X.A)
    (hb : Binds X.K fd ["self", f] []) (hg : Gl X x) (hm : X.mg x = some (.ref C)) (ha : PE X e te)
    (hdb : (x == ("__debug__" : Str)) = false := by decide) (hst : starEach (e :: []) X.env = (false, eval e X.env) :: starEach [] X.env := by rfl)
    (hpl : (backTo pos (starEach [] X.env)).any (·.1) = false := by rfl) : PE X (.Call (.Name x p) [e] [] pos) (tNewEx C f te) := by
  constructor
  intro pins s σ H Q I h
  obtain ⟨nm, q, N, bs, bm, sn, sub, ab, col, dd, k0, k1, k2, k3, k5, hC, hbm⟩ := T.cls
  apply wpAny_Call_Name_kw
  refine ld_glob I hg hm ?_ hdb
  refine PySem.W.callWith_K (h₀ := X.base) I.ok.mod.kin T.kC (thn ((pa_cons ha pa_nil hst).run pos pins s σ H _ I (show tCons te tNil σ H (fun vs H1 => ∃ v, vs = [v] ∧ ∀ a dx, H1 a = none → H1 dx = none → dx ≠ a → Q (.ref a) (exH H1 a dx C f v)) from ?_)) ?_) hst hpl
  · refine Eq.mp ?_ h
    unfold tNewEx tCons tNil
    congr 1
    funext v H1
    apply propext
    constructor
    · intro z; exact ⟨v, rfl, z⟩
    · rintro ⟨v', e1, z⟩
      cases e1
      exact z
  · rintro us s1 ⟨vs, H1, I1, r1, v, rfl, q1⟩
    refine ⟨I1.kIn, ?_⟩
    obtain ⟨u, rfl, ru⟩ := vals1 r1
    show wpAny _ _ (call (.ref C) [u]) _ _ _
    obtain ⟨hp, g, dr, tk, os⟩ := s1
    refine wpAny_call (PySem.HandSPX.call_own F.excBase_ValueError (fun Y => PySem.HandSPX.refsVE_contains Y bm hbm) (I1.kIn _ _ hC) (PySem.W.looks_findIn I1.kIn iC)
      (fun self => PySem.W.bind_fn I1.kIn self tI) (by rw [sizeLine_eq]; exact (by decide : 1 ≤ 16777216)) ?_)
    exact run_init T hf F1 (hr.make C _ _) (fun z => z.make C _ _) (fun s k => hb s [.ref (hp.objs.size + 1), u] k rfl) I1 ru q1

/-- C(f = e) -/
theorem pe_exK (T : OexC X.K C) (hf : PySem.W.findIn X.K (.ref C) f = some none) (iC : PySem.W.findIn X.K (.ref C) "__init__" = some (some (.ref fI)))
    (tI : PySem.W.typeIn X.K (.ref fI) = some (.type "function")) (F1 : FnOk X.prog X.w X.K X.mg X.base CX0 k fI fd ["self", f] (spInit X.K f)) (hr : Room (k + 1) X.A)
    (hb : ∀ (s : Shared) (a u : Value), BindsTo s fd ⟨[a], [(f, u)]⟩ [("self", a), (f, u)]) (hg : Gl X x) (hm : X.mg x = some (.ref C)) (ha : PE X e te)
    (hall : (backToKw pos (keywordEach [⟨some f, e, kp⟩] X.env)).all (·.1.isSome) = true := by rfl)
    (hks : (backToKw pos (keywordEach [⟨some f, e, kp⟩] X.env)).filterMap (·.1) = [f] := by rfl) (hdb : (x == ("__debug__" : Str)) = false := by decide)
    (hpl : ((backTo pos (starEach [] X.env)).any (·.1) || (backToKw pos (keywordEach [⟨some f, e, kp⟩] X.env)).any (·.1.isNone)) = false := by rfl) :
    PE X (.Call (.Name x p) [] [⟨some f, e, kp⟩] pos) (tNewEx C f te) := by
  constructor
  intro pins s σ H Q I h
  obtain ⟨nm, q, N, bs, bm, sn, sub, ab, col, dd, k0, k1, k2, k3, k5, hC, hbm⟩ := T.cls
  apply wpAny_Call_Name_kw
  refine ld_glob I hg hm ?_ hdb
  refine PySem.W.callWith_KW0 (h₀ := X.base) I.ok.mod.kin T.kC hall ?_ hpl
  refine thn ((pk_cons ha pk_nil).run pos pins s σ H _ I (show tCons te tNil σ H (fun vs H1 => ∃ v, vs = [v] ∧ ∀ a dx, H1 a = none → H1 dx = none → dx ≠ a → Q (.ref a) (exH H1 a dx C f v)) from ?_)) ?_
  · refine Eq.mp ?_ h
    unfold tNewEx tCons tNil
    congr 1
    funext v H1
    apply propext
    constructor
    · intro z; exact ⟨v, rfl, z⟩
    · rintro ⟨v', e1, z⟩
      cases e1
      exact z
  · rintro us s1 ⟨vs, H1, I1, r1, v, rfl, q1⟩
    refine ⟨I1.kIn, ?_⟩
    obtain ⟨u, rfl, ru⟩ := vals1 r1
    rw [hks]
    show wpAny _ _ (call (.ref C) [] [(f, u)]) _ _ _
    obtain ⟨hp, g, dr, tk, os⟩ := s1
    refine wpAny_call (PySem.KVX.callK F.excBase_ValueError (fun Y => PySem.HandSPX.refsVE_contains Y bm hbm) (I1.kIn _ _ hC) (PySem.W.looks_findIn I1.kIn iC)
      (fun self => PySem.W.bind_fn I1.kIn self tI) ?_)
    exact run_init T hf F1 (hr.make C [] [(f, u)]) (fun z => z.make C [] [(f, u)]) (fun s _ => hb s _ u) I1 ru q1

/-- the field of such an error -/
def tGetEx (K : PySem.W.Frag) (f : Str) (te : TE) : TE := fun σ H Q => te σ H fun x H1 => ∃ (a C dx : Addr) (fs : List (Str × V)) (v : V), x = .ref a ∧ XfC K C ∧ PySem.W.findIn K (.ref C) f = some none ∧
  H1 a = some (exo a C (some dx)) ∧ H1 dx = some (exd dx fs) ∧ fs.lookup f = some v ∧ Q v H1
theorem pe_getEx (he : PE X e te) (hb : attributeBase e f X.env (eval e X.env) = eval e X.env := by rfl) : PE X (.Attribute e f pos) (tGetEx X.K f te) := by
  constructor
  intro pins s σ H Q I h
  refine attr_of hb (thn (he.run pins s σ H _ I h) ?_)
  rintro u s1 ⟨x, H1, I1, rx, a, C, dx, fs, v, rfl, T, hno, ea, ed, l, q⟩
  cases rx
  obtain ⟨t1, ho⟩ := exo_at I1.hok ea
  obtain ⟨mA, hns, hr⟩ := exd_at I1.hok ed
  obtain ⟨od, hod, hl⟩ := lookIn_ns hns
  obtain ⟨u, hu, ru⟩ := RelO.some_of (v := v) (o := mA f) (by rw [← l]; exact hr f)
  have J : PySem.W.InstAt s1.heap a { cls := .ref C, dict := some dx, data := .fields #[.ref t1, .none, .none, .none, .bool false, .none] } C (some od) := ⟨ho, rfl, rfl, hod⟩
  exact HandSPX.exc_get I1.kIn J T.ga T.gg T.exC (PySem.W.findObj_own T.hdC hno rfl (by rw [hl, hu])) (handed_of ru) ⟨v, H1, I1.tok _, ru, q⟩

/-- isinstance(x, C), x such an error -/
def rIsX (K : PySem.W.Frag) : List V → Hp → VK → Prop := fun xs H Q => ∃ (a D dx : Addr) (fs : List (Str × V)) (c : V) (u : Value) (b : Bool), xs = [.ref a, c] ∧ ClsV c u ∧ PySem.W.ErrC K D ∧
  H a = some (exo a D (some dx)) ∧ H dx = some (exd dx fs) ∧ PySem.W.kitOne K (.ref D) u = some b ∧ Q (.bl b) H
theorem call_isX : CallR X (.builtin "isinstance") (rIsX X.K) := by
  intro pins s σ H xs us Q I r h
  obtain ⟨a, D, dx, fs, c, u, b, rfl, k, cls, ea, ed, e, q⟩ := h
  obtain ⟨u1, u2, rfl, r1, r2⟩ := vals2 r
  have e2 := k.eq r2
  subst e2
  cases r1
  obtain ⟨t1, ho⟩ := exo_at I.hok ea
  obtain ⟨mA, hns, hr⟩ := exd_at I.hok ed
  obtain ⟨od, hod, hl⟩ := lookIn_ns hns
  have J : PySem.W.InstAt s.heap a { cls := .ref D, dict := some dx, data := .fields #[.ref t1, .none, .none, .none, .bool false, .none] } D (some od) := ⟨ho, rfl, rfl, hod⟩
  exact PySem.W.kia_one (PySem.W.err_kit cls) I.kIn J e (fun z => nomatch z) fun tk => ⟨.bl b, H, I.tok tk, rfl, q⟩
end
end KV
set_option Elab.async false
set_option linter.all false
set_option maxRecDepth 100000
set_option maxHeartbeats 1000000
/-! Data in the heap whose lists stand each in one place: what may be changed in place. -/
namespace KV
open PySem PySem.Spec PyProof.Rows L2
abbrev Fp := Addr → Prop
mutual
/-- v stands for d; F: the addresses of the lists in it, each in one place -/
inductive Ow (H : Hp) : V → PyData → Fp → Prop where
  | non {F : Fp} (e : ∀ a, ¬ F a) : Ow H .non .none F
  | bl {F : Fp} (b : Bool) (e : ∀ a, ¬ F a) : Ow H (.bl b) (.bool b) F
  | int {F : Fp} (i : Int) (e : ∀ a, ¬ F a) : Ow H (.int i) (.int i) F
  | str {F : Fp} (x : Str) (e : ∀ a, ¬ F a) : Ow H (.str x) (.str x) F
  | lst {F G : Fp} {a : Addr} {xs : List V} {ds : List PyData} (h : H a = some (.lst xs)) (r : OwAll H xs ds F) (n : ¬ F a) (e : ∀ b, G b ↔ b = a ∨ F b) : Ow H (.ref a) (.list ds) G
  | tup {F : Fp} {a : Addr} {xs : List V} {ds : List PyData} (h : H a = some (.tup xs)) (r : OwAll H xs ds F) : Ow H (.ref a) (.tuple ds) F
inductive OwAll (H : Hp) : List V → List PyData → Fp → Prop where
  | nil {F : Fp} (e : ∀ a, ¬ F a) : OwAll H [] [] F
  | cons {F G L : Fp} {v : V} {vs : List V} {d : PyData} {ds : List PyData} (h : Ow H v d F) (r : OwAll H vs ds G) (n : ∀ a, F a → ¬ G a) (e : ∀ a, L a ↔ F a ∨ G a) : OwAll H (v :: vs) (d :: ds) L
end
/-- all that stands outside G is as it was -/
def Off (G : Fp) (H H' : Hp) : Prop := ∀ a o, H a = some o → ¬ G a → H' a = some o
theorem Off.refl (G : Fp) (H : Hp) : Off G H H := fun _ _ h _ => h
theorem Off.mono {F G : Fp} {H H' : Hp} (h : Off F H H') (s : ∀ a, F a → G a) : Off G H H' := fun a o e n => h a o e fun z => n (s a z)
theorem Off.trans {G : Fp} {H H1 H2 : Hp} (a : Off G H H1) (b : Off G H1 H2) : Off G H H2 := fun c o e n => b c o (a c o e n) n
theorem Off.new {G : Fp} {H : Hp} {p : Addr} {o : HO} (n : H p = none) : Off G H (upd H p o) := fun a u e _ => by
  rw [upd_ne (ne_of_none e n)]
  exact e
theorem Off.upd {G : Fp} {H : Hp} {p : Addr} {o : HO} (g : G p) : Off G H (upd H p o) := fun a u e n => by
  rw [upd_ne fun z => n (by rw [z]; exact g)]
  exact e
section
variable {H H' : Hp} {K : PySem.W.Frag}
mutual
theorem Ow.dom : ∀ {v : V} {d : PyData} {F : Fp}, Ow H v d F → ∀ a, F a → ∃ xs, H a = some (.lst xs)
  | _, _, _, .non e, a, h => (e a h).elim
  | _, _, _, .bl _ e, a, h => (e a h).elim
  | _, _, _, .int _ e, a, h => (e a h).elim
  | _, _, _, .str _ e, a, h => (e a h).elim
  | _, _, _, .lst h0 r _ e, a, h => by
    rcases (e a).mp h with rfl | h
    · exact ⟨_, h0⟩
    · exact r.dom a h
  | _, _, _, .tup _ r, a, h => r.dom a h
theorem OwAll.dom : ∀ {vs : List V} {ds : List PyData} {F : Fp}, OwAll H vs ds F → ∀ a, F a → ∃ xs, H a = some (.lst xs)
  | _, _, _, .nil e, a, h => (e a h).elim
  | _, _, _, .cons h0 r _ e, a, h => by
    rcases (e a).mp h with h | h
    · exact h0.dom a h
    · exact r.dom a h
end
mutual
theorem Ow.keep {G : Fp} (k : Off G H H') (hG : ∀ a, G a → ∃ xs, H a = some (.lst xs)) : ∀ {v : V} {d : PyData} {F : Fp}, Ow H v d F → (∀ a, F a → ¬ G a) → Ow H' v d F
  | _, _, _, .non e, _ => .non e
  | _, _, _, .bl b e, _ => .bl b e
  | _, _, _, .int i e, _ => .int i e
  | _, _, _, .str x e, _ => .str x e
  | _, _, _, .lst h0 r n e, s => .lst (k _ _ h0 (s _ ((e _).mpr (.inl rfl)))) (r.keep k hG fun a z => s a ((e a).mpr (.inr z))) n e
  | _, _, _, .tup h0 r, s => .tup (k _ _ h0 fun z => by
      obtain ⟨xs, q⟩ := hG _ z
      rw [h0] at q
      cases q) (r.keep k hG s)
theorem OwAll.keep {G : Fp} (k : Off G H H') (hG : ∀ a, G a → ∃ xs, H a = some (.lst xs)) : ∀ {vs : List V} {ds : List PyData} {F : Fp}, OwAll H vs ds F → (∀ a, F a → ¬ G a) → OwAll H' vs ds F
  | _, _, _, .nil e, _ => .nil e
  | _, _, _, .cons h0 r n e, s => .cons (h0.keep k hG fun a z => s a ((e a).mpr (.inl z))) (r.keep k hG fun a z => s a ((e a).mpr (.inr z))) n e
end
mutual
theorem Ow.dp : ∀ {v : V} {d : PyData} {F : Fp}, Ow H v d F → Dp K H v d
  | _, _, _, .non _ => .non
  | _, _, _, .bl b _ => .bl b
  | _, _, _, .int i _ => .int i
  | _, _, _, .str x _ => .str x
  | _, _, _, .lst h0 r _ _ => .lst (SqL.of h0) r.dp
  | _, _, _, .tup h0 r => .tup (SqT.of h0) r.dp
theorem OwAll.dp : ∀ {vs : List V} {ds : List PyData} {F : Fp}, OwAll H vs ds F → DpAll K H vs ds
  | _, _, _, .nil _ => .nil
  | _, _, _, .cons h0 r _ _ => .cons h0.dp r.dp
end
theorem OwAll.length : ∀ {vs : List V} {ds : List PyData} {F : Fp}, OwAll H vs ds F → vs.length = ds.length
  | _, _, _, .nil _ => rfl
  | _, _, _, .cons _ r _ _ => congrArg Nat.succ r.length
theorem OwAll.congr : ∀ {vs : List V} {ds : List PyData} {F G : Fp}, OwAll H vs ds F → (∀ a, G a ↔ F a) → OwAll H vs ds G
  | _, _, _, _, .nil e, h => .nil fun a z => e a ((h a).mp z)
  | _, _, _, _, .cons h0 r n e, h => .cons h0 r n fun a => (h a).trans (e a)
theorem Ow.congr : ∀ {v : V} {d : PyData} {F G : Fp}, Ow H v d F → (∀ a, G a ↔ F a) → Ow H v d G
  | _, _, _, _, .non e, h => .non fun a z => e a ((h a).mp z)
  | _, _, _, _, .bl b e, h => .bl b fun a z => e a ((h a).mp z)
  | _, _, _, _, .int i e, h => .int i fun a z => e a ((h a).mp z)
  | _, _, _, _, .str x e, h => .str x fun a z => e a ((h a).mp z)
  | _, _, _, _, .lst h0 r n e, h => .lst h0 r n fun a => (h a).trans (e a)
  | _, _, _, _, .tup h0 r, h => .tup h0 (r.congr h)
theorem OwAll.snoc : ∀ {vs : List V} {ds : List PyData} {v : V} {d : PyData} {F G L : Fp}, OwAll H vs ds F → Ow H v d G → (∀ a, F a → ¬ G a) → (∀ a, L a ↔ F a ∨ G a) → OwAll H (vs ++ [v]) (ds ++ [d]) L
  | _, _, _, _, _, _, _, .nil e, h, n, l => .cons (h.congr fun a => (l a).trans ⟨fun z => z.elim (fun y => (e a y).elim) id, .inr⟩) (.nil (F := fun _ => False) fun _ z => z) (fun _ _ z => z) fun a => ⟨.inl, fun z => z.elim id False.elim⟩
  | _, _, _, _, F, G, L, .cons (F := F1) (G := G1) h0 r n0 e, h, n, l =>
    .cons (G := fun a => G1 a ∨ G a) h0 (r.snoc h (fun a z => n a ((e a).mpr (.inr z))) fun a => Iff.rfl)
      (fun a z y => y.elim (n0 a z) (n a ((e a).mpr (.inl z)))) fun a => (l a).trans ((or_congr (e a) Iff.rfl).trans or_assoc)
theorem OwAll.reverse : ∀ {vs : List V} {ds : List PyData} {F : Fp}, OwAll H vs ds F → OwAll H vs.reverse ds.reverse F
  | _, _, _, .nil e => .nil e
  | _, _, _, .cons h0 r n e => by
    rw [List.reverse_cons, List.reverse_cons]
    exact r.reverse.snoc h0 (fun a z y => n a y z) fun a => (e a).trans or_comm
/-- one item of it, and what changes when it is changed in place -/
theorem OwAll.at_ : ∀ {vs : List V} {ds : List PyData} {F : Fp} {i : Nat} {v : V}, OwAll H vs ds F → vs[i]? = some v →
    ∃ (d : PyData) (E : Fp), ds[i]? = some d ∧ Ow H v d E ∧ (∀ a, E a → F a) ∧ ∀ (H' : Hp) (d' : PyData), Ow H' v d' E → Off E H H' → OwAll H' vs (ds.set i d') F
  | _, _, _, i, v, .nil e, h => by simp at h
  | _, _, _, 0, v, .cons (F := F1) h0 r n e, h => by
    have hv := Option.some.inj h
    subst hv
    exact ⟨_, F1, rfl, h0, fun a z => (e a).mpr (.inl z), fun H' d' o k => .cons o (r.keep k (fun a z => h0.dom a z) fun a z y => n a y z) n e⟩
  | _, _, _, i + 1, v, .cons h0 r n e, h => by
    obtain ⟨d, E, e1, o, s, f⟩ := r.at_ (i := i) (v := v) (by simpa using h)
    exact ⟨d, E, by simpa using e1, o, fun a z => (e a).mpr (.inr (s a z)), fun H' d' o' k =>
      .cons (h0.keep k (fun a z => o.dom a z) fun a z y => n a z (s a y)) (f H' d' o' k) n e⟩
end

/-! ### sizes -/
/-- data whose texts have at most b signs; ms: how many items there are at most, level by level -/
def Fit (b : Nat) : List Nat → PyData → Prop
  | _, .none => True
  | _, .bool _ => True
  | _, .int i => i.natAbs < 2 ^ 110
  | _, .str x => x.length ≤ b ∧ ∀ c ∈ x.cps.toList, c < 16 ^ 8
  | [], _ => False
  | m :: ms, .list ds => ds.length ≤ m ∧ ∀ d ∈ ds, Fit b ms d
  | m :: ms, .tuple ds => ds.length ≤ m ∧ ∀ d ∈ ds, Fit b ms d
  | _ :: _, .dict _ => False
def big (b : Nat) : List Nat → Nat
  | [] => 10 * b + 200
  | m :: ms => 10 * b + 200 + m * (big b ms + 2)
theorem textFrom_most : ∀ (ts : List Str) (k b : Nat) (acc : Str), (∀ t ∈ ts, t.length ≤ b) → (textFrom k acc ts).length ≤ acc.length + ts.length * (b + 2)
  | [], _, b, acc, _ => by show acc.length ≤ _; omega
  | t :: ts, k, b, acc, h => by
    have ih := textFrom_most ts (k + 1) b (acc ++ (if k > 0 then ", " else "" : String) ++ t) fun x hx => h x (List.mem_cons_of_mem _ hx)
    have ht := h t List.mem_cons_self
    have e : (acc ++ (if k > 0 then ", " else "" : String) ++ t).length ≤ acc.length + 2 + t.length := by
      rw [strLen_append, strLen_append]
      split
      · have : ((", " : String) : Str).length = 2 := rfl
        omega
      · have : (("" : String) : Str).length = 0 := rfl
        omega
    show (textFrom (k + 1) (acc ++ (if k > 0 then ", " else "" : String) ++ t) ts).length ≤ _
    rw [List.length_cons, Nat.add_mul]
    omega
theorem listText_most {ts : List Str} {b : Nat} (h : ∀ t ∈ ts, t.length ≤ b) : (listText ts).length ≤ 2 + ts.length * (b + 2) := by
  have := textFrom_most ts 0 b "[" h
  have e1 : (("[" : String) : Str).length = 1 := rfl
  have e2 : (("]" : String) : Str).length = 1 := rfl
  show (textFrom 0 "[" ts ++ "]").length ≤ _
  rw [strLen_append]
  omega
theorem piled_most : ∀ (ts : List Str) (b : Nat), (∀ t ∈ ts, t.length ≤ b) → piled ts ≤ ts.length * (b + 2)
  | [], b, _ => Nat.zero_le _
  | t :: ts, b, h => by
    have ih := piled_most ts b fun x hx => h x (List.mem_cons_of_mem _ hx)
    have ht := h t List.mem_cons_self
    rw [List.length_cons, Nat.add_mul]
    show (t.length + 2) + piled ts ≤ _
    omega
theorem tupleText_most {ts : List Str} {b : Nat} (h : ∀ t ∈ ts, t.length ≤ b) : (tupleText ts).length ≤ 3 + ts.length * (b + 2) := by
  have p := piled_most ts b h
  have e1 : (("(" : String) : Str).length = 1 := rfl
  have e2 : ((",)" : String) : Str).length = 2 := rfl
  have e3 : ((")" : String) : Str).length = 1 := rfl
  have j : (Str.join ", " ts).length ≤ piled ts := by
    by_cases z : ts = []
    · subst z
      exact Nat.zero_le _
    · have := join_length_add ts z
      omega
  show (("(" : Str) ++ Str.join ", " ts ++ (if ts.length == 1 then ",)" else ")" : String)).length ≤ _
  rw [strLen_append, strLen_append]
  split <;> omega
theorem shownAll_mem : ∀ {ds : List PyData} {t : Str}, t ∈ PyData.shownAll ds → ∃ d ∈ ds, t = d.shown
  | [], t, h => by simp [PyData.shownAll] at h
  | d :: ds, t, h => by
    simp only [PyData.shownAll, List.mem_cons] at h
    rcases h with h | h
    · exact ⟨d, List.mem_cons_self, h⟩
    · obtain ⟨e, he, q⟩ := shownAll_mem h
      exact ⟨e, List.mem_cons_of_mem _ he, q⟩
theorem shownAll_length : ∀ ds : List PyData, (PyData.shownAll ds).length = ds.length
  | [] => by simp [PyData.shownAll]
  | d :: ds => by simp [PyData.shownAll, shownAll_length ds]
theorem showableAll_of : ∀ {ds : List PyData}, (∀ d ∈ ds, d.showable = true) → PyData.showableAll ds = true
  | [], _ => by simp [PyData.showableAll]
  | d :: ds, h => by
    simp only [PyData.showableAll, Bool.and_eq_true]
    exact ⟨h d List.mem_cons_self, showableAll_of fun e he => h e (List.mem_cons_of_mem _ he)⟩
theorem hasDictAll_of : ∀ {ds : List PyData}, (∀ d ∈ ds, d.hasDict = false) → PyData.hasDictAll ds = false
  | [], _ => by simp [PyData.hasDictAll]
  | d :: ds, h => by
    simp only [PyData.hasDictAll, Bool.or_eq_false_iff]
    exact ⟨h d List.mem_cons_self, hasDictAll_of fun e he => h e (List.mem_cons_of_mem _ he)⟩
theorem depthAll_of {n : Nat} : ∀ {ds : List PyData}, (∀ d ∈ ds, d.depth ≤ n) → PyData.depthAll ds ≤ n
  | [], _ => by simp [PyData.depthAll]
  | d :: ds, h => by
    have h1 := h d List.mem_cons_self
    have h2 := depthAll_of fun e he => h e (List.mem_cons_of_mem _ he)
    simp only [PyData.depthAll]
    omega
/-- what repr asks of such data -/
structure ReprOk (n b : Nat) (d : PyData) : Prop where
  sh : d.showable = true
  nd : d.hasDict = false
  dp : d.depth ≤ n
  sz : d.shown.length ≤ b
theorem big_le (b : Nat) : ∀ ms, 10 * b + 200 ≤ big b ms
  | [] => Nat.le_refl _
  | _ :: _ => Nat.le_add_right _ _
theorem Fit.ok {b : Nat} : ∀ {ms : List Nat} {d : PyData}, Fit b ms d → ReprOk ms.length (big b ms) d
  | ms, .none, _ => ⟨by simp [PyData.showable], by simp [PyData.hasDict], by simp [PyData.depth], by
      simp only [PyData.shown]
      exact Nat.le_trans (Nat.le_trans (by decide : _ ≤ 200) (Nat.le_add_left _ _)) (big_le b ms)⟩
  | ms, .bool c, _ => ⟨by simp [PyData.showable], by simp [PyData.hasDict], by simp [PyData.depth], by
      simp only [PyData.shown]
      exact Nat.le_trans (Nat.le_trans (by cases c <;> decide : _ ≤ 200) (Nat.le_add_left _ _)) (big_le b ms)⟩
  | ms, .int i, h => by
    have h : i.natAbs < 2 ^ 110 := by cases ms <;> exact h
    have l := PySem.Flt.log2_lt_of (n := i.natAbs) (k := 110) (by decide) h
    refine ⟨?_, by simp [PyData.hasDict], by simp [PyData.depth], ?_⟩
    · simp only [PyData.showable]
      exact decide_eq_true (by omega)
    · simp only [PyData.shown]
      have q : (Str.ofString (toString i)).length ≤ 110 + 1 := by
        rw [PySem.ofString_length]
        exact int_text_length_le (a := i) (k := 110) (by decide) l
      exact Nat.le_trans q (Nat.le_trans (Nat.le_trans (by decide : 110 + 1 ≤ 200) (Nat.le_add_left _ _)) (big_le b ms))
  | ms, .str x, h => by
    have h : x.length ≤ b ∧ ∀ c ∈ x.cps.toList, c < 16 ^ 8 := by cases ms <;> exact h
    refine ⟨by simp [PyData.showable], by simp [PyData.hasDict], by simp [PyData.depth], ?_⟩
    simp only [PyData.shown]
    have q := StrLaws.reprText_len x h.2
    exact Nat.le_trans q (Nat.le_trans (by omega : _ ≤ 10 * b + 200) (big_le b ms))
  | [], .list _, h => h.elim
  | [], .tuple _, h => h.elim
  | [], .dict _, h => h.elim
  | _ :: _, .dict _, h => h.elim
  | m :: ms, .list ds, ⟨h1, h2⟩ => by
    have all : ∀ d ∈ ds, ReprOk ms.length (big b ms) d := fun d hd => (h2 d hd).ok
    refine ⟨?_, ?_, ?_, ?_⟩
    · simp only [PyData.showable]
      exact showableAll_of fun d hd => (all d hd).sh
    · simp only [PyData.hasDict]
      exact hasDictAll_of fun d hd => (all d hd).nd
    · have := depthAll_of fun d hd => (all d hd).dp
      simp only [PyData.depth, List.length_cons]
      omega
    · simp only [PyData.shown]
      have q := listText_most (ts := PyData.shownAll ds) (b := big b ms) fun t ht => by
        obtain ⟨d, hd, rfl⟩ := shownAll_mem ht
        exact (all d hd).sz
      rw [shownAll_length] at q
      have z := Nat.mul_le_mul_right (big b ms + 2) h1
      show _ ≤ 10 * b + 200 + m * (big b ms + 2)
      omega
  | m :: ms, .tuple ds, ⟨h1, h2⟩ => by
    have all : ∀ d ∈ ds, ReprOk ms.length (big b ms) d := fun d hd => (h2 d hd).ok
    refine ⟨?_, ?_, ?_, ?_⟩
    · simp only [PyData.showable]
      exact showableAll_of fun d hd => (all d hd).sh
    · simp only [PyData.hasDict]
      exact hasDictAll_of fun d hd => (all d hd).nd
    · have := depthAll_of fun d hd => (all d hd).dp
      simp only [PyData.depth, List.length_cons]
      omega
    · simp only [PyData.shown]
      have q := tupleText_most (ts := PyData.shownAll ds) (b := big b ms) fun t ht => by
        obtain ⟨d, hd, rfl⟩ := shownAll_mem ht
        exact (all d hd).sz
      rw [shownAll_length] at q
      have z := Nat.mul_le_mul_right (big b ms + 2) h1
      show _ ≤ 10 * b + 200 + m * (big b ms + 2)
      omega
/-! ### what _law_muddle makes of data -/
mutual
def mud : PyData → PyData
  | .list ds => .list ((mudAll ds ++ [PyData.str "muddled"]).reverse)
  | .tuple ds => .tuple (mudAll ds)
  | d => d
def mudAll : List PyData → List PyData
  | [] => []
  | d :: ds => mud d :: mudAll ds
end
theorem mudAll_map : ∀ ds : List PyData, mudAll ds = ds.map mud
  | [] => by simp [mudAll]
  | d :: ds => by simp [mudAll, mudAll_map ds]
theorem Fit.mono {b b' : Nat} (hb : b ≤ b') : ∀ {ms : List Nat} {d : PyData}, Fit b ms d → Fit b' ms d
  | ms, .none, _ => by cases ms <;> trivial
  | ms, .bool _, _ => by cases ms <;> trivial
  | ms, .int i, h => by cases ms <;> exact h
  | ms, .str x, h => by cases ms <;> exact ⟨Nat.le_trans h.1 hb, h.2⟩
  | [], .list _, h => h.elim
  | [], .tuple _, h => h.elim
  | [], .dict _, h => h.elim
  | _ :: _, .dict _, h => h.elim
  | m :: ms, .list ds, ⟨h1, h2⟩ => ⟨h1, fun d hd => (h2 d hd).mono hb⟩
  | m :: ms, .tuple ds, ⟨h1, h2⟩ => ⟨h1, fun d hd => (h2 d hd).mono hb⟩
/-- one more in each list -/
def more (ms : List Nat) : List Nat := ms.map (· + 1)
theorem Fit.mud {b : Nat} (hb : 7 ≤ b) : ∀ {ms : List Nat} {d : PyData}, Fit b ms d → Fit b (more ms) (KV.mud d)
  | ms, .none, _ => by cases ms <;> simp [KV.mud, Fit, more]
  | ms, .bool _, _ => by cases ms <;> simp [KV.mud, Fit, more]
  | ms, .int i, h => by cases ms <;> (simp only [KV.mud, more, List.map_cons, List.map_nil]; exact h)
  | ms, .str x, h => by cases ms <;> (simp only [KV.mud, more, List.map_cons, List.map_nil]; exact h)
  | [], .list _, h => h.elim
  | [], .tuple _, h => h.elim
  | [], .dict _, h => h.elim
  | _ :: _, .dict _, h => h.elim
  | m :: ms, .list ds, ⟨h1, h2⟩ => by
    simp only [KV.mud]
    refine ⟨by simp [mudAll_map]; omega, fun d hd => ?_⟩
    rw [List.mem_reverse, List.mem_append, mudAll_map, List.mem_map] at hd
    rcases hd with ⟨e, he, rfl⟩ | hd
    · exact (h2 e he).mud hb
    · have hd := List.mem_singleton.mp hd
      subst hd
      have e7 : ("muddled" : Str).length = 7 := by decide +kernel
      have z : ("muddled" : Str).length ≤ b ∧ ∀ c ∈ ("muddled" : Str).cps.toList, c < 16 ^ 8 := ⟨by omega, by decide +kernel⟩
      cases ms <;> exact z
  | m :: ms, .tuple ds, ⟨h1, h2⟩ => by
    simp only [KV.mud]
    refine ⟨by simp [mudAll_map]; omega, fun d hd => ?_⟩
    rw [mudAll_map, List.mem_map] at hd
    obtain ⟨e, he, rfl⟩ := hd
    exact (h2 e he).mud hb

/-! ### a list that grows by new data -/
/-- at D: a new list of the data ds, its lists new; nothing else of H but G has changed -/
def Grow (G : Fp) (H : Hp) (D : Addr) (ds : List PyData) (H' : Hp) : Prop := ∃ acc FA, H' D = some (.lst acc) ∧ OwAll H' acc ds FA ∧ ¬ FA D ∧ (∀ b, FA b → H b = none) ∧ Off G H H'
theorem Grow.start {G : Fp} {H : Hp} {D : Addr} (h : H D = none) : Grow G H D [] (upd H D (.lst [])) :=
  ⟨[], fun _ => False, upd_same, .nil fun _ z => z, fun z => z, fun _ z => z.elim, Off.new h⟩
theorem Grow.len {G : Fp} {H H' : Hp} {D : Addr} {ds : List PyData} (g : Grow G H D ds H') : ∃ acc, H' D = some (.lst acc) ∧ acc.length = ds.length := by
  obtain ⟨acc, FA, h1, h2, _⟩ := g
  exact ⟨acc, h1, h2.length⟩
theorem Off.none {G : Fp} {H H' : Hp} (k : Off G H H') {a : Addr} (h : H' a = none) (n : ¬ G a) : H a = none := by
  cases q : H a with
  | none => rfl
  | some o =>
    have z := k a o q n
    rw [h] at z
    cases z
theorem Grow.step {G : Fp} {H H' H4 : Hp} {D : Addr} {ds : List PyData} {v : V} {d : PyData} {F : Fp} (g : Grow G H D ds H') (hD : H D = none) (hG0 : ∀ a, G a → H a ≠ none) (hG1 : ∀ a, G a → ∃ xs, H' a = some (.lst xs))
    (o : Ow H4 v d F) (hF : ∀ a, F a → H' a = none) (k : Off G H' H4) : ∃ acc, H4 D = some (.lst acc) ∧ acc.length = ds.length ∧ Grow G H D (ds ++ [d]) (upd H4 D (.lst (acc ++ [v]))) := by
  obtain ⟨acc, FA, h1, h2, h3, h4, h5⟩ := g
  have nD : ¬ G D := fun z => hG0 D z hD
  have e4 := k _ _ h1 nD
  refine ⟨acc, e4, h2.length, acc ++ [v], fun b => FA b ∨ F b, upd_same, ?_, ?_, ?_, ?_⟩
  · have b1 : OwAll H4 acc ds FA := h2.keep k hG1 fun a z y => hG0 a y (h4 a z)
    have kD : Off (fun a => a = D) H4 (upd H4 D (.lst (acc ++ [v]))) := Off.upd rfl
    have hgD : ∀ a, a = D → ∃ xs, H4 a = some (.lst xs) := fun a z => ⟨acc, by rw [z]; exact e4⟩
    refine OwAll.snoc (b1.keep kD hgD fun a z y => h3 (y ▸ z)) (o.keep kD hgD fun a z y => ?_) (fun a z y => ?_) fun a => Iff.rfl
    · have q := hF a z
      rw [y, h1] at q
      cases q
    · obtain ⟨xs, q⟩ := h2.dom a z
      rw [hF a y] at q
      cases q
  · rintro (z | z)
    · exact h3 z
    · have q := hF D z
      rw [h1] at q
      cases q
  · rintro b (z | z)
    · exact h4 b z
    · have q := hF b z
      exact h5.none q fun y => by
        obtain ⟨xs, q2⟩ := hG1 b y
        rw [q] at q2
        cases q2
  · intro a u e n
    rw [upd_ne fun z => by rw [z, hD] at e; cases e]
    exact k _ _ (h5 a u e n) n
theorem Grow.list {G : Fp} {H H' : Hp} {D : Addr} {ds : List PyData} (g : Grow G H D ds H') (hD : H D = Option.none) : ∃ F, Ow H' (.ref D) (.list ds) F ∧ (∀ a, F a → H a = Option.none) ∧ Off G H H' := by
  obtain ⟨acc, FA, h1, h2, h3, h4, h5⟩ := g
  exact ⟨fun b => b = D ∨ FA b, .lst h1 h2 h3 fun _ => Iff.rfl, fun a z => z.elim (fun y => y ▸ hD) (h4 a), h5⟩
theorem Grow.tuple {G : Fp} {H H' : Hp} {D p : Addr} {ds : List PyData} {acc : List V} (g : Grow G H D ds H') (e : H' D = some (.lst acc)) (hp : H' p = Option.none) :
    ∃ F, Ow (upd H' p (.tup acc)) (.ref p) (.tuple ds) F ∧ (∀ a, F a → H a = Option.none) ∧ Off G H (upd H' p (.tup acc)) := by
  obtain ⟨acc', FA, h1, h2, h3, h4, h5⟩ := g
  rw [e] at h1
  have e1 : acc = acc' := HO.lst.inj (Option.some.inj h1)
  subst e1
  exact ⟨FA, .tup upd_same (h2.keep (G := fun _ => False) (Off.new hp) (fun _ z => z.elim) fun _ _ z => z), h4, h5.trans (Off.new hp)⟩

/-! ### data that is read -/
section
variable {K : PySem.W.Frag} {H H' : Hp}
theorem sqL_off {a : Addr} {xs : List V} (k : Off (fun _ => False) H H') (h : SqL K H a xs) : SqL K H' a xs := by
  rcases h with (h | ⟨o, h⟩) | h
  · exact .inl (.inl (k _ _ h fun z => z))
  · exact .inl (.inr ⟨o, k _ _ h fun z => z⟩)
  · exact .inr h
theorem sqT_off {a : Addr} {xs : List V} (k : Off (fun _ => False) H H') (h : SqT K H a xs) : SqT K H' a xs := by
  rcases h with (h | ⟨o, h⟩) | h
  · exact .inl (.inl (k _ _ h fun z => z))
  · exact .inl (.inr ⟨o, k _ _ h fun z => z⟩)
  · exact .inr h
mutual
theorem dp_off (k : Off (fun _ => False) H H') : ∀ {v : V} {d : PyData}, Dp K H v d → Dp K H' v d
  | _, _, .non => .non
  | _, _, .bl b => .bl b
  | _, _, .int i => .int i
  | _, _, .str x => .str x
  | _, _, .lst h r => .lst (sqL_off k h) (dpAll_off k r)
  | _, _, .tup h r => .tup (sqT_off k h) (dpAll_off k r)
theorem dpAll_off (k : Off (fun _ => False) H H') : ∀ {vs : List V} {ds : List PyData}, DpAll K H vs ds → DpAll K H' vs ds
  | _, _, .nil => .nil
  | _, _, .cons h r => .cons (dp_off k h) (dpAll_off k r)
end
theorem dpAll_length : ∀ {vs : List V} {ds : List PyData}, DpAll K H vs ds → vs.length = ds.length
  | _, _, .nil => rfl
  | _, _, .cons _ r => congrArg Nat.succ (dpAll_length r)
theorem dpAll_at : ∀ {vs : List V} {ds : List PyData} {i : Nat} {v : V}, DpAll K H vs ds → vs[i]? = some v → ∃ d, ds[i]? = some d ∧ Dp K H v d
  | _, _, _, _, .nil, h => by simp at h
  | _, _, 0, _, .cons h0 r, h => by
    have hv := Option.some.inj h
    subst hv
    exact ⟨_, rfl, h0⟩
  | _, _, i + 1, v, .cons h0 r, h => by
    obtain ⟨d, e, q⟩ := dpAll_at (i := i) (v := v) r (by simpa using h)
    exact ⟨d, by simpa using e, q⟩
/-- .. by the data -/
theorem dpAll_at' : ∀ {vs : List V} {ds : List PyData} {i : Nat} {d : PyData}, DpAll K H vs ds → ds[i]? = some d → ∃ v, vs[i]? = some v ∧ Dp K H v d
  | _, _, _, _, .nil, h => by simp at h
  | _, _, 0, _, .cons h0 r, h => by
    have hv := Option.some.inj h
    subst hv
    exact ⟨_, rfl, h0⟩
  | _, _, i + 1, d, .cons h0 r, h => by
    obtain ⟨v, e, q⟩ := dpAll_at' (i := i) (d := d) r (by simpa using h)
    exact ⟨v, by simpa using e, q⟩
end
end KV
set_option Elab.async false
set_option linter.all false
set_option maxRecDepth 100000
set_option maxHeartbeats 4000000
/-! What the written part says of the classes of errors. -/
namespace KV
open PySem PySem.Spec PyProof.Rows L2 He
/-- an error class over ValueError, its field f stored by the __init__ at fI -/
structure ErrOk (K : PySem.W.Frag) (f : Str) (fI C : Addr) : Prop where
  oex : OexC K C
  xf : XfC K C
  err : PySem.W.ErrC K C
  no : PySem.W.findIn K (.ref C) f = some none
  ini : PySem.W.findIn K (.ref C) "__init__" = some (some (.ref fI))
  fn : PySem.W.typeIn K (.ref fI) = some (.type "function")
def clsB (K : PySem.W.Frag) (C : Addr) : Bool := match K.lookup C with
  | some ⟨.type t, _, .cls cd, sl⟩ => decide (t = "type") && (match cd.mro, sl.toList with
    | .ref C' :: bm, [_, _, _, _, some (.builtin n), _] => decide (C' = C) && (decide (n = "ValueError.__new__") && (!cd.hasDel && (cd.hasDict && PySem.HandSPX.refsVE bm)))
    | _, _ => false)
  | _ => false
theorem clsB_ok {K : PySem.W.Frag} {C : Addr} (h : clsB K C = true) : ∃ nm q N bs bm sn sub ab col dd k0 k1 k2 k3 k5,
    K.lookup C = some (excClassObj nm q C N bs bm true sn sub ab col dd k0 k1 k2 k3 k5 "ValueError.__new__") ∧ PySem.HandSPX.refsVE bm = true := by
  unfold clsB at h
  split at h
  · rename_i t dd cd sl ho
    obtain ⟨h1, h2⟩ := ba h
    have ht := of_decide_eq_true h1
    subst ht
    split at h2
    · rename_i C' bm k0 k1 k2 k3 n k5 hm hs
      obtain ⟨g1, h2⟩ := ba h2
      obtain ⟨g2, h2⟩ := ba h2
      obtain ⟨g3, h2⟩ := ba h2
      obtain ⟨g4, g5⟩ := ba h2
      have e1 := of_decide_eq_true g1
      have e2 := of_decide_eq_true g2
      subst e1 e2
      obtain ⟨nm, bs, mro, ns, qn, hd, sn, sub, ab, col, del⟩ := cd
      dsimp only at hm g3 g4
      subst hm g4
      have hdel : del = false := by simpa using g3
      subst hdel
      have hsl : sl = #[k0, k1, k2, k3, some (.builtin "ValueError.__new__"), k5] := by
        obtain ⟨l⟩ := sl
        simp only at hs
        rw [hs]
      subst hsl
      exact ⟨nm, qn, ns, bs, bm, sn, sub, ab, col, dd, k0, k1, k2, k3, k5, ho, g5⟩
    · cases h2
  · cases h
def errB (K : PySem.W.Frag) (f : Str) (fI C : Addr) : Bool :=
  clsB K C && (eqO (PySem.W.findIn K (.ref C) "__setattr__") (some (some (.builtin "object.__setattr__"))) && (decide (PySem.W.subIn K (.ref C) (.type "BaseException") = some true) &&
  (decide (PySem.W.typeIn K (.ref C) = some (.type "type")) && (PySem.W.keepIn K (.ref C) && (eqO (PySem.W.findIn K (.ref C) "__getattribute__") (some (some (.builtin "BaseException.__getattribute__"))) &&
  (eqO (PySem.W.findIn K (.ref C) "__getattr__") (some none) && (PySem.W.hasDictIn K C && (eqO (PySem.W.findIn K (.ref C) "__class__") (some (some (.builtin "object.__class__"))) &&
  (eqO (PySem.W.specialIn K (.builtin "object.__class__") "__get__") (some (some (.builtin "getset_descriptor.__get__"))) && (decide (PySem.W.takesIn K (.builtin "object.__class__") = some true) &&
  (decide (PySem.W.mroIn K C (.type "object") = some true) && (eqO (PySem.W.findIn K (.ref C) f) (some none) && (eqO (PySem.W.findIn K (.ref C) "__init__") (some (some (.ref fI))) &&
  decide (PySem.W.typeIn K (.ref fI) = some (.type "function")))))))))))))))
theorem errB_ok {K : PySem.W.Frag} {f : Str} {fI C : Addr} (h : errB K f fI C = true) : ErrOk K f fI C := by
  obtain ⟨a1, h⟩ := ba h
  obtain ⟨a2, h⟩ := ba h
  obtain ⟨a3, h⟩ := ba h
  obtain ⟨a4, h⟩ := ba h
  obtain ⟨a5, h⟩ := ba h
  obtain ⟨a6, h⟩ := ba h
  obtain ⟨a7, h⟩ := ba h
  obtain ⟨a8, h⟩ := ba h
  obtain ⟨a9, h⟩ := ba h
  obtain ⟨b1, h⟩ := ba h
  obtain ⟨b2, h⟩ := ba h
  obtain ⟨b3, h⟩ := ba h
  obtain ⟨b4, h⟩ := ba h
  obtain ⟨b5, b6⟩ := ba h
  exact ⟨⟨clsB_ok a1, eqO_ok a2, of_decide_eq_true a3, of_decide_eq_true a4, a5⟩, ⟨eqO_ok a6, eqO_ok a7, of_decide_eq_true a3, a8⟩,
    ⟨eqO_ok a6, eqO_ok a7, of_decide_eq_true a3, a8, eqO_ok a9, eqO_ok b1, of_decide_eq_true b2, of_decide_eq_true b3⟩, eqO_ok b4, eqO_ok b5, of_decide_eq_true b6⟩
/-- all classes of errors: the first is the others' base -/
def errsB (K : PySem.W.Frag) (f : Str) (base : Str) (names : List Str) : Bool :=
  (names.all fun x => errB K f (ma K (ga K base) "__init__") (ga K x)) &&
  ((names.all fun x => names.all fun y => decide (PySem.W.kitOne K (.ref (ga K x)) (.ref (ga K y)) = some (decide (x = y) || decide (y = base)))) &&
  (names.all fun x => decide (PySem.W.kitOne K (.ref (ga K x)) (.type "ValueError") = some true)))
structure Errs (K : PySem.W.Frag) (f base : Str) (names : List Str) : Prop where
  ok : ∀ x ∈ names, ErrOk K f (ma K (ga K base) "__init__") (ga K x)
  kit : ∀ x ∈ names, ∀ y ∈ names, PySem.W.kitOne K (.ref (ga K x)) (.ref (ga K y)) = some (decide (x = y) || decide (y = base))
  ve : ∀ x ∈ names, PySem.W.kitOne K (.ref (ga K x)) (.type "ValueError") = some true
theorem errsB_ok {K : PySem.W.Frag} {f base : Str} {names : List Str} (h : errsB K f base names = true) : Errs K f base names := by
  obtain ⟨h1, h⟩ := ba h
  obtain ⟨h2, h3⟩ := ba h
  exact ⟨fun x hx => errB_ok (List.all_eq_true.mp h1 x hx), fun x hx y hy => of_decide_eq_true (List.all_eq_true.mp (List.all_eq_true.mp h2 x hx) y hy), fun x hx => of_decide_eq_true (List.all_eq_true.mp h3 x hx)⟩
end KV
set_option Elab.async false
set_option linter.all false
set_option maxRecDepth 100000
namespace LW
open PySem PySem.Spec PyProof.Rows L2 KV
def top (i : Nat) : Stmt := PySem.Challenge.pw_keysthrough_k50_refused_rows_let_in.main.body.getD i (.Pass ⟨0, 0, 0, 0⟩)
abbrev cKeyTellError : Stmt := top 1
abbrev pKeyTellError_init : Stmt := inClass (top 1) 0
abbrev cInvalidName : Stmt := top 2
abbrev cDoubleName : Stmt := top 3
abbrev cUnknownTable : Stmt := top 4
abbrev cUnknownColumn : Stmt := top 5
abbrev cInvalidRule : Stmt := top 6
abbrev cInvalidRow : Stmt := top 7
abbrev cInvalidQuestion : Stmt := top 8
abbrev cBrokenRule : Stmt := top 9
abbrev cNoSuchRow : Stmt := top 10
abbrev cNothingToUndo : Stmt := top 11
abbrev cUnreadable : Stmt := top 12
abbrev cBook : Stmt := top 18
abbrev pBook_init : Stmt := inClass (top 18) 0
abbrev pBook_tables : Stmt := inClass (top 18) 1
abbrev pBook_rules : Stmt := inClass (top 18) 2
abbrev pBook_len : Stmt := inClass (top 18) 3
abbrev pBook_getitem : Stmt := inClass (top 18) 4
abbrev pBook_iter : Stmt := inClass (top 18) 5
abbrev pBook_eq : Stmt := inClass (top 18) 6
abbrev pBook_with_rules : Stmt := inClass (top 18) 7
abbrev pBook_without : Stmt := inClass (top 18) 8
abbrev pShown : Stmt := top 19
abbrev pShownByAll : Stmt := top 20
abbrev pPartsOf : Stmt := top 21
abbrev pNamedColumns : Stmt := top 22
abbrev pColumnsOfCondition : Stmt := top 23
abbrev pColumnsOver : Stmt := top 24
abbrev pIsSound : Stmt := top 25
abbrev pHolds : Stmt := top 26
abbrev pCheckTables : Stmt := top 27
abbrev pCheckColumns : Stmt := top 28
abbrev pCheckName : Stmt := top 29
abbrev pCheckRule : Stmt := top 30
abbrev pCheckUnlike : Stmt := top 31
abbrev pIsName : Stmt := top 32
abbrev pHasForm : Stmt := top 33
abbrev pCopied : Stmt := top 34
abbrev cStore : Stmt := top 36
abbrev pStore_init : Stmt := inClass (top 36) 0
abbrev pStore_len : Stmt := inClass (top 36) 1
abbrev pStore_eq : Stmt := inClass (top 36) 2
abbrev pStore_call : Stmt := inClass (top 36) 3
abbrev pStore_rows : Stmt := inClass (top 36) 4
abbrev pStore_put : Stmt := inClass (top 36) 5
abbrev pStore_take : Stmt := inClass (top 36) 6
abbrev pStore_undo : Stmt := inClass (top 36) 7
abbrev pFilled : Stmt := top 37
abbrev pBreaks : Stmt := top 38
abbrev pAnswered : Stmt := top 39
abbrev pRowsOver : Stmt := top 40
abbrev pJoined : Stmt := top 41
abbrev pChosen : Stmt := top 42
abbrev pRowsThatMeet : Stmt := top 43
abbrev pPlacesOf : Stmt := top 44
abbrev pValuesAt : Stmt := top 45
abbrev pReadBook : Stmt := top 47
abbrev pTablesAndRules : Stmt := top 48
abbrev pRuleOf : Stmt := top 49
abbrev pShowBook : Stmt := top 51
abbrev pRuleText : Stmt := top 52
abbrev sPurse : Stmt := top 54
abbrev sCoin : Stmt := top 55
abbrev sWords : Stmt := top 56
abbrev sDrawnTables : Stmt := top 57
abbrev sDrawnRules : Stmt := top 58
abbrev sCopied : Stmt := top 59
abbrev sMuddle : Stmt := top 60
abbrev sOwn : Stmt := top 61
abbrev sRoad : Stmt := top 62
abbrev sWorth : Stmt := top 63
abbrev sBroken : Stmt := top 64
abbrev sPuts : Stmt := top 65
abbrev sLines : Stmt := top 66
abbrev sStore : Stmt := top 67
abbrev sKinds : Stmt := top 68
abbrev sErrorRight : Stmt := top 69
abbrev sShape : Stmt := top 70
abbrev sNewLine : Stmt := top 71
abbrev sPutDue : Stmt := top 72
abbrev sUndoRight : Stmt := top 73
abbrev sAllRight : Stmt := top 74
abbrev sTurnedRules : Stmt := top 75
abbrev sPutCaught : Stmt := top 76
abbrev sClashes : Stmt := top 77
abbrev sLetIn : Stmt := top 78
abbrev sLaw : Stmt := top 79
abbrev FnP (K : PySem.W.Frag) (x : Str) (st : Stmt) (f : Addr) (fd : FuncData) : Prop := FunD K x x (defArgs st) (defBody st) (defScope st) [] [] f fd
end LW
set_option Elab.async false
set_option linter.all false
set_option maxRecDepth 100000
set_option maxHeartbeats 4000000
namespace LW
open PySem PySem.Spec PyProof.Rows L2 KV
/-- at p: a purse, from which at most c numbers were stirred -/
def Pu (H : Hp) (p : Addr) (c : Nat) : Prop := ∃ a b n : Int, H p = some (.lst [.int a, .int b, .int n]) ∧ 0 ≤ a ∧ 0 ≤ b ∧ b < 1000000000000000000000007 ∧ 0 ≤ n ∧ n ≤ (c : Int)
/-- all but p is as it was -/
def But (p : Addr) (H H' : Hp) : Prop := ∀ b, b ≠ p → H' b = H b
theorem Pu.mono {H : Hp} {p : Addr} {c d : Nat} (h : Pu H p c) (e : c ≤ d) : Pu H p d := by
  obtain ⟨a, b, n, h1, h2, h3, h4, h5, h6⟩ := h
  exact ⟨a, b, n, h1, h2, h3, h4, h5, by omega⟩
theorem Pu.at {H H' : Hp} {p : Addr} {c : Nat} (h : Pu H p c) (e : H' p = H p) : Pu H' p c := by
  obtain ⟨a, b, n, h1, h2⟩ := h
  exact ⟨a, b, n, e.trans h1, h2⟩

def spPurse (K : PySem.W.Frag) : Sp := fun vs H Q _ => ∃ (a : Addr) (ns : List Int) (i : Int), vs = [.ref a, .int i] ∧ SqL K H a (ns.map V.int) ∧ 0 ≤ i ∧ i ≤ 100 ∧
  ∀ p, H p = none → ∀ H', Pu H' p 0 → But p H H' → Q (.ref p) H'
def spCoin : Sp := fun vs H Q _ => ∃ (p : Addr) (m : Int) (c : Nat), vs = [.ref p, .int m] ∧ Pu H p c ∧ c ≤ 1000000000 ∧ 0 < m ∧ m ≤ 1000000000000000000000000000000 ∧
  ∀ i H', 0 ≤ i → i < m → Pu H' p (c + 1) → But p H H' → Q (.int i) H'

section
variable {P : Program} {w : World} {K : PySem.W.Frag} {mg : Str → Option Value} {base : Heap}
theorem scPurse : FnScope ["script", "place", "cell"] ["script", "place"] (defScope sPurse) := ⟨rfl, rfl, rfl, by decide +kernel, rfl, by decide +kernel, by decide +kernel⟩
theorem ok_purse {f : Addr} {fd : FuncData} (F : FnP K "_law_purse" sPurse f fd) (ml : mg "len" = none) (mm : mg "max" = none) (ma : mg "abs" = none) (mi : mg "int" = none) :
    FnOk P w K mg base CX0 1 f fd ["script", "place"] (spPurse K) := by
  refine F.ok scPurse (fun vs H Q E h => ?_) (fun cdv A outer s H vs Q E hr h => ?_)
  · obtain ⟨a, ns, i, rfl, _⟩ := h
    rfl
  obtain ⟨a, ns, i, rfl, hS, h0, h1, q⟩ := h
  refine ⟨_, pss_cons (ps_set (i := 2) scPurse.nd rfl (Or.inl rfl) (pe_ifExp (pt_cmpR op_lt (pv 1) (pe_callB call_len_seq rfl ml boot_len (pa_cons (pv 0) pa_nil)) (nomark _))
      (pe_ix ix_list (pv 0) (pv 1) (fun _ _ => rfl)) pe_int))
    (pss_one (ps_ret (pe_lst (pa_cons (pe_callB (call_max2 rfl) rfl mm boot_max (pa_cons pe_int (pa_cons (pe_op op_sub (pe_callB call_abs rfl ma boot_abs (pa_cons (pv 2) pa_nil)) (pe_op op_pow pe_int pe_int)) pa_nil)))
      (pa_cons (pe_op op_mod (pe_callTy call_int1 rfl mi (by decide +kernel) (pa_cons (pe_op op_add (pe_op op_add (pe_op op_mul (pv 2) pe_int) (pe_op op_mul (pv 1) pe_int)) pe_int) pa_nil)) (pe_op op_add (pe_op op_pow pe_int pe_int) pe_int))
      (pa_cons pe_int pa_nil)))))), ?_⟩
  have hl : (ns.map V.int).length = ns.length := List.length_map _
  have fin : ∀ z : Int, ∀ p, H p = none → Q (.ref p) (upd H p (.lst [.int (if (if z < 0 then -z else z) - (10 : Int) ^ (18 : Int).toNat > 0 then (if z < 0 then -z else z) - (10 : Int) ^ (18 : Int).toNat else 0),
      .int ((z * 30011 + i * 7368787 + 104729) % ((10 : Int) ^ (24 : Int).toNat + 7)), .int 0])) := by
    intro z p hp
    have e : (10 : Int) ^ (24 : Int).toNat + 7 = 1000000000000000000000007 := by decide
    rw [e]
    refine q p hp _ ⟨_, _, _, upd_same, ?_, Int.emod_nonneg _ (by decide), Int.emod_lt_of_pos _ (by decide), Int.le_refl _, Int.le_refl _⟩ fun b hb => upd_ne hb
    split <;> omega
  refine ⟨_, rfl, _, rfl, a, _, rfl, .inl hS, _, _, rfl, rfl, _, rfl, ite2 (fun c => ?_) (fun c => ?_)⟩
  · have c' : i < (((ns.map V.int).length : Nat) : Int) := of_decide_eq_true c
    rw [hl] at c'
    have hk : i.toNat < ns.length := by omega
    have ek : i = ((i.toNat : Nat) : Int) := by omega
    have v : atI (ns.map V.int) ((i.toNat : Nat) : Int) = some (.int ns[i.toNat]) := atI_nat (by rw [List.getElem?_map, List.getElem?_eq_getElem hk] <;> rfl)
    rw [← ek] at v
    refine ⟨_, rfl, _, rfl, a, _, _, _, rfl, rfl, hS, v, ?_⟩
    exact ⟨_, rfl, _, rfl, _, _, rfl, rfl, ⟨by decide, by decide, by decide⟩, _, _, rfl, rfl, _, _, rfl, _, rfl, _, _, rfl, rfl, .inr ⟨by decide, by decide⟩, _, rfl, _, _, rfl, rfl, .inr ⟨by decide, by decide⟩, _, _, rfl, rfl, _, _, rfl, rfl,
      .inl ⟨_, rfl, _, _, rfl, rfl, ⟨by decide, by decide, by decide⟩, _, _, rfl, rfl, _, _, rfl, rfl, (by show (0 : Int) < 10 ^ Int.toNat 24 + 7; decide), by show 3 ≤ sizeLine; decide, fin _⟩⟩
  · exact ⟨_, rfl, _, rfl, _, _, rfl, rfl, ⟨by decide, by decide, by decide⟩, _, _, rfl, rfl, _, _, rfl, _, rfl, _, _, rfl, rfl, .inr ⟨by decide, by decide⟩, _, rfl, _, _, rfl, rfl, .inr ⟨by decide, by decide⟩, _, _, rfl, rfl, _, _, rfl, rfl,
      .inl ⟨_, rfl, _, _, rfl, rfl, ⟨by decide, by decide, by decide⟩, _, _, rfl, rfl, _, _, rfl, rfl, (by show (0 : Int) < 10 ^ Int.toNat 24 + 7; decide), by show 3 ≤ sizeLine; decide, fin _⟩⟩
theorem scCoin : FnScope ["purse", "many", "drawn", "stirred"] ["purse", "many"] (defScope sCoin) := ⟨rfl, rfl, rfl, by decide +kernel, rfl, by decide +kernel, by decide +kernel⟩
/-- the bits of a number below 2 ^ 100 -/
theorem bits100 {z : Int} (h0 : 0 ≤ z) (h : z < 2 ^ 100) : (Builtin.Int.intBits z : Int) ≤ 100 := by
  unfold Builtin.Int.intBits
  split
  · omega
  · rename_i hz
    have h1 : z.natAbs < 2 ^ 100 := by
      have e : ((2 ^ 100 : Nat) : Int) = 2 ^ 100 := by decide
      omega
    have := PySem.Flt.log2_lt_of (by decide : 0 < 100) h1
    omega
theorem ok_coin {f : Addr} {fd : FuncData} (F : FnP K "_law_coin" sCoin f fd) (mi : mg "int" = none) :
    FnOk P w K mg base CX0 1 f fd ["purse", "many"] spCoin := by
  refine F.ok scCoin (fun vs H Q E h => ?_) (fun cdv A outer s H vs Q E hr h => ?_)
  · obtain ⟨p, m, c, rfl, _⟩ := h
    rfl
  obtain ⟨p, m, c, rfl, ⟨a, b, n, hp, ha, hb, hb2, hn, hn2⟩, hc, hm, hm2, q⟩ := h
  have ix : ∀ {X : Cx} (i : Int) {p1 p2 p3 : Pos} {j : Nat}, X.N[0]? = some ("purse" : Str) → Vis X.env.scope ("purse" : Str) →
      PE X (.Subscript (.Name "purse" p1) (.Constant (.int i) j p2) p3) (tOp (rIxL X.K) (tVar 0) (tC (.int i))) :=
    fun i _ _ _ _ hN hv => pe_ix ix_list (pv 0 hN hv) pe_int (fun _ _ => rfl)
  refine ⟨_, pss_cons (ps_if (pt_cmpR op_gt (ix 0 rfl (Or.inl rfl)) pe_int (nomark _))
      (pss_cons (ps_set (i := 2) scCoin.nd rfl (Or.inl rfl) (pe_op op_mod (pe_callTy call_int1 rfl mi (by decide +kernel) (pa_cons (ix 0 rfl (Or.inl rfl)) pa_nil)) (pv 1)))
      (pss_cons (ps_asg (pe_op op_fdivW (ix 0 rfl (Or.inl rfl)) (pv 1)) (pg_sub (pv 0) pe_int set_list))
      (pss_one (ps_ret (pv 2))))) pss_nil)
    (pss_cons (ps_asg (pe_op op_add (ix 2 rfl (Or.inl rfl)) pe_int) (pg_sub (pv 0) pe_int set_list))
    (pss_cons (ps_set (i := 3) scCoin.nd rfl (Or.inl rfl) (pe_op op_mod (pe_op op_powB (pe_callTy call_int1 rfl mi (by decide +kernel) (pa_cons (pe_op op_add (ix 1 rfl (Or.inl rfl)) (pe_op op_mul pe_int (ix 2 rfl (Or.inl rfl)))) pa_nil)) pe_int) (pe_op op_add (pe_op op_pow pe_int pe_int) pe_int)))
    (pss_cons (ps_set (i := 3) scCoin.nd rfl (Or.inl rfl) (pe_op op_mod (pe_op op_powB (pe_callTy call_int1 rfl mi (by decide +kernel) (pa_cons (pe_op op_add (pv 3) (pe_op op_mul pe_int (ix 2 rfl (Or.inl rfl)))) pa_nil)) pe_int) (pe_op op_add (pe_op op_pow pe_int pe_int) pe_int)))
    (pss_one (ps_ret (pe_op op_mod (pe_callTy call_int1 rfl mi (by decide +kernel) (pa_cons (pe_op op_fdiv (pv 3) pe_int) pa_nil)) (pv 1))))))), ?_⟩
  refine ⟨_, rfl, p, _, _, _, rfl, rfl, SqL.of hp, rfl, _, _, rfl, rfl, _, rfl, ite2 (fun d => ?_) (fun d => ?_)⟩
  · have cd : CDivW a m := ⟨hm, Nat.lt_trans (PySem.Flt.log2_lt_of (n := m.natAbs) (k := 100) (by decide) (by
      have e : ((2 ^ 100 : Nat) : Int) = 1267650600228229401496703205376 := by decide
      omega)) (by decide)⟩
    refine ⟨_, rfl, p, _, _, _, rfl, rfl, SqL.of hp, rfl, .inl ⟨_, rfl, _, rfl, _, _, rfl, rfl, hm, ?_⟩⟩
    refine ⟨_, rfl, p, _, _, _, rfl, rfl, SqL.of hp, rfl, _, rfl, _, _, rfl, rfl, cd, _, rfl, p, _, _, _, rfl, rfl, hp, rfl, _, rfl, ?_⟩
    exact q _ _ (Int.emod_nonneg _ (by omega)) (Int.emod_lt_of_pos _ hm) ⟨_, _, _, upd_same, Int.ediv_nonneg ha (by omega), hb, hb2, hn, by omega⟩ fun b hb => upd_ne hb
  · have e1 : (10 : Int) ^ Int.toNat 25 + 13 = 10000000000000000000000013 := by decide
    have e2 : (10 : Int) ^ Int.toNat 24 + 7 = 1000000000000000000000007 := by decide
    have hu := @upd_same H p (.lst ([V.int a, V.int b, V.int n].set 2 (.int (n + 1))))
    have g1 : CPowB (b + 2038074743 * (n + 1)) 3 := ⟨by decide, by have := bits100 (z := b + 2038074743 * (n + 1)) (by omega) (by omega); omega⟩
    have z1 := Int.emod_nonneg ((b + 2038074743 * (n + 1)) ^ Int.toNat 3) (by decide : (10 : Int) ^ Int.toNat 25 + 13 ≠ 0)
    have z2 := Int.emod_lt_of_pos ((b + 2038074743 * (n + 1)) ^ Int.toNat 3) (by decide : (0 : Int) < (10 : Int) ^ Int.toNat 25 + 13)
    have g2 : ∀ y : Int, 0 ≤ y → y < (10 : Int) ^ Int.toNat 25 + 13 → CPowB (y + 982451653 * (n + 1)) 2 := fun y h1 h2 =>
      ⟨by decide, by have := bits100 (z := y + 982451653 * (n + 1)) (by omega) (by omega); omega⟩
    refine ⟨_, rfl, p, _, _, _, rfl, rfl, SqL.of hp, rfl, _, _, rfl, rfl, _, rfl, p, _, _, _, rfl, rfl, hp, rfl, ?_⟩
    refine ⟨_, rfl, p, _, _, _, rfl, rfl, SqL.of hu, rfl, _, rfl, p, _, _, _, rfl, rfl, SqL.of hu, rfl, _, _, rfl, rfl, .inl ⟨by decide, by decide⟩, _, _, rfl, rfl, .inl ⟨_, rfl, _, _, rfl, rfl, g1,
      _, _, rfl, rfl, ⟨by decide, by decide, by decide⟩, _, _, rfl, rfl, _, _, rfl, rfl, (by show (0 : Int) < 10 ^ Int.toNat 25 + 13; decide), ?_⟩⟩
    refine ⟨_, rfl, _, rfl, p, _, _, _, rfl, rfl, SqL.of hu, rfl, _, _, rfl, rfl, .inl ⟨by decide, by decide⟩, _, _, rfl, rfl, .inl ⟨_, rfl, _, _, rfl, rfl, g2 _ z1 z2,
      _, _, rfl, rfl, ⟨by decide, by decide, by decide⟩, _, _, rfl, rfl, _, _, rfl, rfl, (by show (0 : Int) < 10 ^ Int.toNat 24 + 7; decide), ?_⟩⟩
    refine ⟨_, rfl, _, _, rfl, rfl, ⟨by decide, by decide⟩, .inl ⟨_, rfl, _, rfl, _, _, rfl, rfl, hm, ?_⟩⟩
    exact q _ _ (Int.emod_nonneg _ (by omega)) (Int.emod_lt_of_pos _ hm) ⟨_, _, _, hu, ha, hb, hb2, by omega, by omega⟩ fun b hb => upd_ne hb
end
end LW
set_option Elab.async false
set_option linter.all false
set_option maxRecDepth 100000
set_option maxHeartbeats 4000000
namespace LW
open PySem PySem.Spec PyProof.Rows L2 KV
/-! ### isinstance of data -/
def tyName : PyData → String
  | .none => "NoneType"
  | .bool _ => "bool"
  | .int _ => "int"
  | .str _ => "str"
  | .list _ => "list"
  | .tuple _ => "tuple"
  | .dict _ => "dict"
theorem dp_ty {K : PySem.W.Frag} {H : Hp} {v : V} {d : PyData} (o : Dp K H v d) : TyX K H v (.type (tyName d)) := by
  cases o with
  | non => exact .base .non
  | bl b => exact .base (.bl b)
  | int i => exact .base (.int i)
  | str x => exact .base (.str x)
  | lst h _ =>
    rcases h with (h | ⟨o, h⟩) | ⟨o, its, n, hk, hc, _⟩
    · exact .base (.lst h)
    · exact .base (.frz h)
    · exact .kList hk hc
  | tup h _ =>
    rcases h with (h | ⟨o, h⟩) | ⟨o, its, n, hk, hc, _⟩
    · exact .base (.tup h)
    · exact .fTuple h
    · exact .kTuple hk hc
theorem ow_ty {K : PySem.W.Frag} {H : Hp} {v : V} {d : PyData} {F : Fp} (o : Ow H v d F) : TyX K H v (.type (tyName d)) := dp_ty o.dp
def isList : PyData → Bool
  | .list _ => true
  | _ => false
def isTuple : PyData → Bool
  | .tuple _ => true
  | _ => false
theorem kit_list {K : PySem.W.Frag} : ∀ d : PyData, PySem.W.kitOne K (.type (tyName d)) (.type "list") = some (isList d)
  | .none => kit_ty (show kitB "NoneType" "list" = some false by decide +kernel)
  | .bool _ => kit_ty (show kitB "bool" "list" = some false by decide +kernel)
  | .int _ => kit_ty (show kitB "int" "list" = some false by decide +kernel)
  | .str _ => kit_ty (show kitB "str" "list" = some false by decide +kernel)
  | .list _ => kit_ty (show kitB "list" "list" = some true by decide +kernel)
  | .tuple _ => kit_ty (show kitB "tuple" "list" = some false by decide +kernel)
  | .dict _ => kit_ty (show kitB "dict" "list" = some false by decide +kernel)
theorem kit_tuple {K : PySem.W.Frag} : ∀ d : PyData, PySem.W.kitOne K (.type (tyName d)) (.type "tuple") = some (isTuple d)
  | .none => kit_ty (show kitB "NoneType" "tuple" = some false by decide +kernel)
  | .bool _ => kit_ty (show kitB "bool" "tuple" = some false by decide +kernel)
  | .int _ => kit_ty (show kitB "int" "tuple" = some false by decide +kernel)
  | .str _ => kit_ty (show kitB "str" "tuple" = some false by decide +kernel)
  | .list _ => kit_ty (show kitB "list" "tuple" = some false by decide +kernel)
  | .tuple _ => kit_ty (show kitB "tuple" "tuple" = some true by decide +kernel)
  | .dict _ => kit_ty (show kitB "dict" "tuple" = some false by decide +kernel)
theorem kit_seq {K : PySem.W.Frag} (d : PyData) : PySem.W.kitAny K (.type (tyName d)) [.type "list", .type "tuple"] = some (isList d || isTuple d) := by
  refine kitAny_cons (kit_list d) (fun e => ?_) fun e => by rw [e]; rfl
  refine kitAny_cons (kit_tuple d) (fun e2 => ?_) fun e2 => by rw [e2, Bool.or_true]
  rw [e, e2]
  exact kitAny_nil

end LW
set_option Elab.async false
set_option linter.all false
set_option maxRecDepth 100000
set_option maxHeartbeats 4000000
namespace LW
open PySem PySem.Spec PyProof.Rows L2 KV
theorem But.off {p : Addr} {H H' : Hp} (h : But p H H') : Off (fun a => a = p) H H' := fun a o e n => (h a n).trans e
theorem Pu.lst {H : Hp} {p : Addr} {c : Nat} (h : Pu H p c) : ∃ xs, H p = some (.lst xs) := by
  obtain ⟨a, b, n, e, _⟩ := h
  exact ⟨_, e⟩
theorem Pu.off {H H' : Hp} {p : Addr} {c : Nat} {G : Fp} (h : Pu H p c) (k : Off G H H') (n : ¬ G p) : Pu H' p c := by
  obtain ⟨a, b, m, h1, h2⟩ := h
  exact ⟨a, b, m, k _ _ h1 n, h2⟩
/-! ### copies: new lists all through -/
def spCopied (K : PySem.W.Frag) (n : Nat) : Sp := fun vs H Q _ => ∃ (v : V) (d : PyData) (b : Nat) (ms : List Nat), vs = [v] ∧ Dp K H v d ∧ Fit b ms d ∧ (∀ m ∈ ms, m ≤ 1000) ∧ ms.length < n ∧
  ∀ v' F' H', Ow H' v' d F' → (∀ a, F' a → H a = none) → Off (fun _ => False) H H' → Q v' H'
theorem copy_leaf {K : PySem.W.Frag} {H : Hp} {v : V} {d : PyData} (o : Dp K H v d) (h : isList d = false) (h2 : isTuple d = false) : Ow H v d fun _ => False := by
  cases o with
  | non => exact .non fun _ z => z
  | bl b => exact .bl b fun _ z => z
  | int i => exact .int i fun _ z => z
  | str x => exact .str x fun _ z => z
  | lst _ _ => cases h
  | tup _ _ => cases h2
theorem dp_list {K : PySem.W.Frag} {H : Hp} {v : V} {d : PyData} (o : Dp K H v d) (h : isList d = true) : ∃ a xs ds, v = .ref a ∧ d = .list ds ∧ SqL K H a xs ∧ DpAll K H xs ds := by
  cases o with
  | lst h0 r => exact ⟨_, _, _, rfl, rfl, h0, r⟩
  | _ => cases h
theorem dp_tuple {K : PySem.W.Frag} {H : Hp} {v : V} {d : PyData} (o : Dp K H v d) (h : isTuple d = true) : ∃ a xs ds, v = .ref a ∧ d = .tuple ds ∧ SqT K H a xs ∧ DpAll K H xs ds := by
  cases o with
  | tup h0 r => exact ⟨_, _, _, rfl, rfl, h0, r⟩
  | _ => cases h
/-- one turn of the loop over the items -/
theorem copy_turn {K : PySem.W.Frag} {H H' : Hp} {n b i D : Nat} {ds : List PyData} {xs : List V} {ms : List Nat} {m : Nat} {x : V} (r : DpAll K H xs ds) (hfs : ∀ e ∈ ds, Fit b ms e) (hm : ∀ k ∈ m :: ms, k ≤ 1000) (hk : ms.length < n) (hl : ds.length ≤ m)
    (hD : H D = none) (hx : xs[i]? = some x) (g : Grow (fun _ => False) H D (ds.take i) H') :
    spCopied K n [x] H' (fun y H4 => ∃ acc, H4 D = some (.lst acc) ∧ acc.length < sizeLine ∧ Grow (fun _ => False) H D (ds.take (i + 1)) (upd H4 D (.lst (acc ++ [y])))) E0 := by
  obtain ⟨d1, e1, o1⟩ := dpAll_at r hx
  obtain ⟨_, _, _, _, _, _, off⟩ := id g
  have hm1 := hm m List.mem_cons_self
  refine ⟨x, d1, b, ms, rfl, dp_off off o1, hfs d1 (List.mem_of_getElem? e1), fun k hk => hm k (List.mem_cons_of_mem _ hk), hk, ?_⟩
  intro v' F' H4 o4 f4 k4
  obtain ⟨acc, a1, a2, a3⟩ := g.step hD (fun _ z => z.elim) (fun _ z => z.elim) o4 f4 k4
  refine ⟨acc, a1, by rw [a2, List.length_take]; exact small1000 (by omega), ?_⟩
  rw [List.take_add_one, e1]
  exact a3
section
variable {P : Program} {w : World} {K : PySem.W.Frag} {mg : Str → Option Value} {base : Heap}
theorem none_leftN {f : Addr} {fd : FuncData} {ps : List Str} {sp : Sp} (h : ∀ vs H Q E, ¬ sp vs H Q E) : FnOk P w K mg base CX0 0 f fd ps sp :=
  ⟨fun vs H Q E z => absurd z (h vs H Q E), fun A outer s H args us vs Q E _ _ _ _ z => absurd z (h vs H Q E)⟩
theorem copied_none {vs : List V} {H : Hp} {Q : VK} {E : XK} : ¬ spCopied K 0 vs H Q E := fun h => by
  obtain ⟨_, _, _, _, _, _, _, _, h, _⟩ := h
  exact absurd h (Nat.not_lt_zero _)
theorem scCopied : FnScope ["thing", "part"] ["thing"] (defScope sCopied) := ⟨rfl, rfl, rfl, by decide +kernel, rfl, by decide +kernel, by decide +kernel⟩
theorem ok_copied_step {n : Nat} {f : Addr} {fd : FuncData} (F : FnP K "_law_copied" sCopied f fd) (hb : Binds K fd ["thing"] []) (mf : mg "_law_copied" = some (.ref f)) (mi : mg "isinstance" = none) (ml : mg "list" = none) (mt : mg "tuple" = none)
    (G : FnOk P w K mg base CX0 n f fd ["thing"] (spCopied K n)) : FnOk P w K mg base CX0 (n + 1) f fd ["thing"] (spCopied K (n + 1)) := by
  refine F.ok scCopied (fun vs H Q E h => ?_) (fun cdv A outer s H vs Q E hr h => ?_)
  · obtain ⟨v, d, b, ms, rfl, _⟩ := h
    rfl
  obtain ⟨v, d, b, ms, rfl, o, hf, hm, hk, q⟩ := h
  refine ⟨_, pss_cons (ps_if (pt_val (pe_callB call_isi rfl mi boot_isinstance (pa_cons (pv 0) (pa_cons (pe_bltn (v := .ty "list") rfl ml boot_list rfl) pa_nil))))
      (pss_one (ps_ret (pe_lc (own := [("part", 1)]) (g := gName 1) (tt := tYes) rfl scCopied.nd (pi_list (pv 0)) (blkOk_by (own := [("part", 1)]) (N := ["thing", "part"]) (sc := defScope sCopied) (by decide +kernel))
        (fun _ _ _ _ _ => pg_name (i := 1) scCopied.nd rfl (Or.inl rfl)) (fun _ _ _ _ _ => pts_nil)
        (fun _ _ _ _ _ => pe_call G hr rfl mf F.kp hb .nil pass0 (pa_cons (pv 1) pa_nil))))) pss_nil)
    (pss_one (ps_ret (pe_ifExp (pt_val (pe_callB call_isi rfl mi boot_isinstance (pa_cons (pv 0) (pa_cons (pe_bltn (v := .ty "tuple") rfl mt boot_tuple rfl) pa_nil))))
      (pe_callTy call_tuple_of rfl mt boot_tuple (pa_cons (pe_lc (own := [("part", 1)]) (g := gName 1) (tt := tYes) rfl scCopied.nd (pi_tup (pv 0)) (blkOk_by (own := [("part", 1)]) (N := ["thing", "part"]) (sc := defScope sCopied) (by decide +kernel))
        (fun _ _ _ _ _ => pg_name (i := 1) scCopied.nd rfl (Or.inl rfl)) (fun _ _ _ _ _ => pts_nil)
        (fun _ _ _ _ _ => pe_call G hr rfl mf F.kp hb .nil pass0 (pa_cons (pv 1) pa_nil))) pa_nil))
      (pv 0)))), ?_⟩
  refine ⟨_, rfl, v, .ty "list", .type (tyName d), .type "list", isList d, rfl, .ty _, dp_ty o, kit_list d, _, rfl, ?_⟩
  by_cases hL : isList d = true
  · rw [hL]
    obtain ⟨a, xs, ds, rfl, rfl, h0, r⟩ := dp_list o hL
    cases ms with
    | nil => exact hf.elim
    | cons m ms =>
    obtain ⟨hl, hfs⟩ := hf
    refine iteT ⟨_, rfl, a, rfl, ⟨xs, h0⟩, fun D hD => lc_list (K := K) (a := a) (xs := xs) (fun i H' => Grow (fun _ => False) H D (ds.take i) H') (Grow.start hD) (fun i H' _ g => ?_) (fun i x H' hx g => ?_) fun H' g => ?_⟩
    · obtain ⟨_, _, _, _, _, _, off⟩ := g
      exact sqL_off off h0
    · exact ⟨rfl, Exists.intro x ⟨rfl, copy_turn r hfs hm (Nat.lt_of_succ_lt_succ hk) hl hD hx g⟩⟩
    · rw [dpAll_length r, List.take_length] at g
      obtain ⟨F', o', f', k'⟩ := g.list hD
      exact q _ F' H' o' f' k'
  · have hL : isList d = false := by simpa using hL
    rw [hL]
    refine iteF ⟨_, rfl, v, .ty "tuple", .type (tyName d), .type "tuple", isTuple d, rfl, .ty _, dp_ty o, kit_tuple d, _, rfl, ?_⟩
    by_cases hT : isTuple d = true
    · rw [hT]
      obtain ⟨a, xs, ds, rfl, rfl, h0, r⟩ := dp_tuple o hT
      cases ms with
      | nil => exact hf.elim
      | cons m ms =>
      obtain ⟨hl, hfs⟩ := hf
      refine iteT ⟨_, rfl, a, rfl, ⟨xs, h0⟩, fun D hD => lc_tup (K := K) (a := a) (xs := xs) (fun i H' => Grow (fun _ => False) H D (ds.take i) H') (Grow.start hD) (fun i H' _ g => ?_) (fun i x H' hx g => ?_) fun H' g => ?_⟩
      · obtain ⟨_, _, _, _, _, _, off⟩ := g
        exact sqT_off off h0
      · exact ⟨rfl, Exists.intro x ⟨rfl, copy_turn r hfs hm (Nat.lt_of_succ_lt_succ hk) hl hD hx g⟩⟩
      · rw [dpAll_length r, List.take_length] at g
        obtain ⟨acc, _, e1, _⟩ := id g
        refine ⟨D, acc, rfl, .inl ⟨SqL.of e1, fun p hp => ?_⟩⟩
        obtain ⟨F', o', f', k'⟩ := g.tuple e1 hp
        exact q _ F' _ o' f' k'
    · have hT : isTuple d = false := by simpa using hT
      rw [hT]
      exact iteF ⟨_, rfl, q v _ H (copy_leaf o hL hT) (fun _ z => z.elim) (Off.refl _ _)⟩
theorem ok_copied {f : Addr} {fd : FuncData} (F : FnP K "_law_copied" sCopied f fd) (hb : Binds K fd ["thing"] []) (mf : mg "_law_copied" = some (.ref f)) (mi : mg "isinstance" = none) (ml : mg "list" = none) (mt : mg "tuple" = none) :
    ∀ n : Nat, FnOk P w K mg base CX0 n f fd ["thing"] (spCopied K n)
  | 0 => none_leftN fun vs H Q E => copied_none
  | n + 1 => ok_copied_step F hb mf mi ml mt (ok_copied F hb mf mi ml mt n)
end
end LW
set_option Elab.async false
set_option linter.all false
set_option maxRecDepth 100000
set_option maxHeartbeats 4000000
namespace LW
open PySem PySem.Spec PyProof.Rows L2 KV
/-! ### _law_muddle -/
def spMuddle (n : Nat) : Sp := fun vs H Q _ => ∃ (v : V) (d : PyData) (F : Fp) (b : Nat) (ms : List Nat), vs = [v] ∧ Ow H v d F ∧ Fit b ms d ∧ (∀ m ∈ ms, m ≤ 1000) ∧ ms.length < n ∧
  ∀ H', Ow H' v (mud d) F → Off F H H' → Q .non H'
/-- the first i items are muddled -/
def mixed (ds : List PyData) (i : Nat) : List PyData := mudAll (ds.take i) ++ ds.drop i
theorem mixed_at {ds : List PyData} {i : Nat} : (mixed ds i)[i]? = ds[i]? := by
  unfold mixed
  rw [mudAll_map]
  by_cases h : i < ds.length
  · rw [List.getElem?_append_right (by simp; omega)]
    simp [Nat.min_eq_left (Nat.le_of_lt h)]
  · rw [List.getElem?_eq_none (by simp; omega), List.getElem?_eq_none (by omega)]
theorem mixed_set {ds : List PyData} {i : Nat} {d : PyData} (h : ds[i]? = some d) : (mixed ds i).set i (mud d) = mixed ds (i + 1) := by
  obtain ⟨hi, e⟩ := List.getElem?_eq_some_iff.mp h
  unfold mixed
  rw [mudAll_map, mudAll_map, List.set_append_right _ _ (by simp; omega), List.take_add_one, h, List.map_append]
  have e2 : i - (List.map mud (List.take i ds)).length = 0 := by simp; omega
  rw [e2, List.drop_eq_getElem_cons hi, List.append_assoc]
  rfl
theorem mixed_end (ds : List PyData) : mixed ds ds.length = mudAll ds := by simp [mixed]
theorem mixed_start (ds : List PyData) : mixed ds 0 = ds := by simp [mixed, mudAll]
section
variable {P : Program} {w : World} {K : PySem.W.Frag} {mg : Str → Option Value} {base : Heap}
theorem scMuddle : FnScope ["thing", "part"] ["thing"] (defScope sMuddle) := ⟨rfl, rfl, rfl, by decide +kernel, rfl, by decide +kernel, by decide +kernel⟩
theorem ok_muddle_step {n : Nat} {f : Addr} {fd : FuncData} (F : FnP K "_law_muddle" sMuddle f fd) (hb : Binds K fd ["thing"] []) (mf : mg "_law_muddle" = some (.ref f)) (mi : mg "isinstance" = none) (ml : mg "list" = none) (mt : mg "tuple" = none)
    (G : FnOk P w K mg base CX0 n f fd ["thing"] (spMuddle n)) : FnOk P w K mg base CX0 (n + 1) f fd ["thing"] (spMuddle (n + 1)) := by
  refine F.ok scMuddle (fun vs H Q E h => ?_) (fun cdv A outer s H vs Q E hr h => ?_)
  · obtain ⟨v, d, F, b, ms, rfl, _⟩ := h
    rfl
  obtain ⟨v, d, Fv, b, ms, rfl, o, hf, hm, hk, q⟩ := h
  refine ⟨_, PSs.nox (pss_cons (ps_if (pt_val (pe_callB call_isiT rfl mi boot_isinstance (pa_cons (pv 0) (pa_cons (pe_tup (pa_cons (pe_bltn (v := .ty "list") rfl ml boot_list rfl) (pa_cons (pe_bltn (v := .ty "tuple") rfl mt boot_tuple rfl) pa_nil))) pa_nil))))
      (pss_one (ps_for PassesOwn.never rfl (pi_list (pe_callTy call_list_of rfl ml boot_list (pa_cons (pv 0) pa_nil))) (pg_name (i := 1) scMuddle.nd rfl (Or.inl rfl))
        (pss_one (ps_expr (pe_call G hr rfl mf F.kp hb .nil pass0 (pa_cons (pv 1) pa_nil)))))) pss_nil)
    (pss_one (ps_if (pt_val (pe_callB call_isi rfl mi boot_isinstance (pa_cons (pv 0) (pa_cons (pe_bltn (v := .ty "list") rfl ml boot_list rfl) pa_nil))))
      (pss_cons (ps_expr (pe_bm PySem.F.plainAttrs_list PySem.F.slot_list_append PySem.F.type_list_append mt_append (pv 0) (pa_cons pe_str pa_nil)))
        (pss_one (ps_expr (pe_bm0 PySem.F.plainAttrs_list PySem.F.slot_list_reverse PySem.F.type_list_reverse mt_reverse (pv 0))))) pss_nil))), ?_⟩
  refine ⟨_, rfl, (by show 2 ≤ sizeLine; decide), fun tp htp => ?_⟩
  have off1 : ∀ G : Fp, Off G H (upd H tp (.tup [.ty "list", .ty "tuple"])) := fun G => Off.new htp
  have o1 := o.keep (G := fun _ => False) (off1 _) (fun _ z => z.elim) fun _ _ z => z
  refine ⟨v, tp, _, .type (tyName d), _, _, rfl, upd_same, .cons (.ty "list") (.cons (.ty "tuple") .nil), ow_ty o1, kit_seq d, _, rfl, ?_⟩
  generalize upd H tp (.tup [.ty "list", .ty "tuple"]) = H1 at off1 o1
  -- one turn
  have turn : ∀ {ds : List PyData} {xs : List V} {F1 : Fp} {ks : List Nat} {i : Nat} {x : V} {H2 H' : Hp}, OwAll H' xs (mixed ds i) F1 → (∀ e ∈ ds, Fit b ks e) → (∀ k ∈ ks, k ≤ 1000) → ks.length < n → xs[i]? = some x → Off F1 H2 H' →
      spMuddle n [x] H' (fun _ H4 => OwAll H4 xs (mixed ds (i + 1)) F1 ∧ Off F1 H2 H4) E0 := by
    intro ds xs F1 ks i x H2 H' r hfs hks hk' hx k0
    obtain ⟨d1, E1, e1, oo, s1, fin⟩ := r.at_ hx
    rw [mixed_at] at e1
    refine ⟨x, d1, E1, b, ks, rfl, oo, hfs d1 (List.mem_of_getElem? e1), hks, hk', fun H4 o4 k4 => ?_⟩
    have z := fin H4 (mud d1) o4 k4
    rw [mixed_set e1] at z
    exact ⟨z, k0.trans (k4.mono s1)⟩
  cases d with
  | list ds =>
    cases o1 with
    | @lst F1 _ a xs _ h0 r n0 e0 =>
    cases ms with
    | nil => exact hf.elim
    | cons m ms =>
    obtain ⟨hl, hfs⟩ := hf
    have hm1 := hm m List.mem_cons_self
    have hms : ∀ k ∈ ms, k ≤ 1000 := fun k z => hm k (List.mem_cons_of_mem _ z)
    have hk1 := Nat.lt_of_succ_lt_succ hk
    refine iteT ⟨_, rfl, a, xs, rfl, .inl (SqL.of h0), fun l hl0 => ⟨l, rfl, ⟨xs, SqL.of upd_same⟩, for_list (K := K) (a := l) (xs := xs)
      (fun i σ H' => ∃ w, σ = [some (.ref a), w] ∧ OwAll H' xs (mixed ds i) F1 ∧ Off F1 (upd H1 l (.lst xs)) H') ⟨none, rfl, ?_, Off.refl _ _⟩ (fun i σ H' _ g => ?_) (fun i x σ H' hx g => ?_) fun σ H' g => ?_⟩⟩
    · rw [mixed_start]
      exact r.keep (G := fun _ => False) (Off.new hl0) (fun _ z => z.elim) fun _ _ z => z
    · obtain ⟨_, _, _, off⟩ := g
      refine SqL.of (off _ _ upd_same fun z => ?_)
      obtain ⟨ys, y⟩ := r.dom _ z
      rw [hl0] at y
      cases y
    · obtain ⟨w1, rfl, r1, off⟩ := g
      have tn := turn r1 hfs hms hk1 hx off
      obtain ⟨v5, d5, F5, m5, k5, e5, o5, f5, m5', k5', q5⟩ := tn
      exact ⟨_, rfl, v5, d5, F5, m5, k5, e5, o5, f5, m5', k5', fun H4 a1 a2 => ⟨_, rfl, q5 H4 a1 a2⟩⟩
    · obtain ⟨w1, rfl, r1, off⟩ := g
      rw [r.length, mixed_end] at r1
      have na : a ≠ l := fun z => by
        rw [z, hl0] at h0
        cases h0
      have ea : H' a = some (.lst xs) := off _ _ (by rw [upd_ne na]; exact h0) n0
      refine ⟨_, rfl, .ref a, .ty "list", .type "list", .type "list", true, rfl, .ty _, .base (.lst ea), kit_list (.list ds), _, rfl, iteT ?_⟩
      refine ⟨_, rfl, .inl ⟨rfl, xs, SqL.of ea⟩, a, xs, _, rfl, rfl, ea, small1000 (by have := r.length; omega), ?_⟩
      refine ⟨_, rfl, .inl ⟨rfl, _, SqL.of upd_same⟩, ?_⟩
      refine ⟨a, xs ++ [V.str "muddled"], rfl, rfl, upd_same, ?_⟩
      have kA : Off (fun b => b = a) H' (upd (upd H' a (.lst (xs ++ [V.str "muddled"]))) a (.lst (xs ++ [V.str "muddled"]).reverse)) := by
        rw [upd_upd]
        exact Off.upd rfl
      refine q _ ?_ ?_
      · simp only [mud]
        refine .lst upd_same ?_ n0 e0
        exact ((r1.snoc (Ow.str "muddled" (F := fun _ => False) fun _ z => z) (fun _ _ z => z) fun b => (or_iff_left id).symm).reverse).keep kA (fun b z => ⟨xs, by rw [z]; exact ea⟩) fun b z y => n0 (y ▸ z)
      · refine (off1 _).trans ((Off.new hl0).trans ((off.mono fun b z => (e0 b).mpr (.inr z)).trans (kA.mono fun b z => (e0 b).mpr (.inl z))))
  | tuple ds =>
    cases o1 with
    | @tup F1 a xs _ h0 r =>
    cases ms with
    | nil => exact hf.elim
    | cons m ms =>
    obtain ⟨hl, hfs⟩ := hf
    have hm1 := hm m List.mem_cons_self
    have hms : ∀ k ∈ ms, k ≤ 1000 := fun k z => hm k (List.mem_cons_of_mem _ z)
    have hk1 := Nat.lt_of_succ_lt_succ hk
    refine iteT ⟨_, rfl, a, xs, rfl, .inr (SqT.of h0), fun l hl0 => ⟨l, rfl, ⟨xs, SqL.of upd_same⟩, for_list (K := K) (a := l) (xs := xs)
      (fun i σ H' => ∃ w, σ = [some (.ref a), w] ∧ OwAll H' xs (mixed ds i) Fv ∧ Off Fv (upd H1 l (.lst xs)) H') ⟨none, rfl, ?_, Off.refl _ _⟩ (fun i σ H' _ g => ?_) (fun i x σ H' hx g => ?_) fun σ H' g => ?_⟩⟩
    · rw [mixed_start]
      exact r.keep (G := fun _ => False) (Off.new hl0) (fun _ z => z.elim) fun _ _ z => z
    · obtain ⟨_, _, _, off⟩ := g
      refine SqL.of (off _ _ upd_same fun z => ?_)
      obtain ⟨ys, y⟩ := r.dom _ z
      rw [hl0] at y
      cases y
    · obtain ⟨w1, rfl, r1, off⟩ := g
      have tn := turn r1 hfs hms hk1 hx off
      obtain ⟨v5, d5, F5, m5, k5, e5, o5, f5, m5', k5', q5⟩ := tn
      exact ⟨_, rfl, v5, d5, F5, m5, k5, e5, o5, f5, m5', k5', fun H4 a1 a2 => ⟨_, rfl, q5 H4 a1 a2⟩⟩
    · obtain ⟨w1, rfl, r1, off⟩ := g
      rw [r.length, mixed_end] at r1
      have na : a ≠ l := fun z => by
        rw [z, hl0] at h0
        cases h0
      have nF : ¬ Fv a := fun z => by
        obtain ⟨ys, y⟩ := r.dom _ z
        rw [h0] at y
        cases y
      have ea : H' a = some (.tup xs) := off _ _ (by rw [upd_ne na]; exact h0) nF
      refine ⟨_, rfl, .ref a, .ty "list", .type "tuple", .type "list", false, rfl, .ty _, .base (.tup ea), kit_list (.tuple ds), _, rfl, iteF ?_⟩
      refine q _ ?_ ((off1 _).trans ((Off.new hl0).trans off))
      simp only [mud]
      exact .tup ea r1
  | none => exact iteF ⟨_, rfl, v, .ty "list", .type (tyName .none), .type "list", false, rfl, .ty _, ow_ty o1, kit_list _, _, rfl, iteF (q _ (by simpa only [mud] using o1) (off1 _))⟩
  | bool b => exact iteF ⟨_, rfl, v, .ty "list", .type (tyName (.bool b)), .type "list", false, rfl, .ty _, ow_ty o1, kit_list _, _, rfl, iteF (q _ (by simpa only [mud] using o1) (off1 _))⟩
  | int i => exact iteF ⟨_, rfl, v, .ty "list", .type (tyName (.int i)), .type "list", false, rfl, .ty _, ow_ty o1, kit_list _, _, rfl, iteF (q _ (by simpa only [mud] using o1) (off1 _))⟩
  | str x => exact iteF ⟨_, rfl, v, .ty "list", .type (tyName (.str x)), .type "list", false, rfl, .ty _, ow_ty o1, kit_list _, _, rfl, iteF (q _ (by simpa only [mud] using o1) (off1 _))⟩
  | dict kvs => cases o1
theorem ok_muddle {f : Addr} {fd : FuncData} (F : FnP K "_law_muddle" sMuddle f fd) (hb : Binds K fd ["thing"] []) (mf : mg "_law_muddle" = some (.ref f)) (mi : mg "isinstance" = none) (ml : mg "list" = none) (mt : mg "tuple" = none) :
    ∀ n : Nat, FnOk P w K mg base CX0 n f fd ["thing"] (spMuddle n)
  | 0 => none_leftN fun vs H Q E h => by
    obtain ⟨_, _, _, _, _, _, _, _, _, h, _⟩ := h
    exact absurd h (Nat.not_lt_zero _)
  | n + 1 => ok_muddle_step F hb mf mi ml mt (ok_muddle F hb mf mi ml mt n)
end
end LW
set_option Elab.async false
set_option linter.all false
set_option maxRecDepth 100000
set_option maxHeartbeats 4000000
namespace LW
open PySem PySem.Spec PyProof.Rows L2 KV
/-! ### _law_own -/
/-- sizes that repr takes, also once muddled -/
structure Sz (b : Nat) (ms : List Nat) (d : PyData) : Prop where
  fit : Fit b ms d
  b7 : 7 ≤ b
  dp : ms.length ≤ 5
  w : ∀ m ∈ ms, m ≤ 999
  big : big b (more ms) ≤ sizeLine
theorem big_more (b : Nat) : ∀ ms : List Nat, KV.big b ms ≤ KV.big b (more ms)
  | [] => Nat.le_refl _
  | m :: ms => by
    have ih := big_more b ms
    show 10 * b + 200 + m * (KV.big b ms + 2) ≤ 10 * b + 200 + (m + 1) * (KV.big b (more ms) + 2)
    have h : m * (KV.big b ms + 2) ≤ (m + 1) * (KV.big b (more ms) + 2) := Nat.mul_le_mul (Nat.le_succ _) (by omega)
    omega
theorem Sz.rep {b : Nat} {ms : List Nat} {d : PyData} (s : Sz b ms d) : d.showable = true ∧ d.hasDict = false ∧ d.depth ≤ 60 ∧ d.shown.length ≤ sizeLine :=
  ⟨s.fit.ok.sh, s.fit.ok.nd, Nat.le_trans s.fit.ok.dp (Nat.le_trans s.dp (by decide)), Nat.le_trans s.fit.ok.sz (Nat.le_trans (big_more b ms) s.big)⟩
theorem Sz.mud {b : Nat} {ms : List Nat} {d : PyData} (s : Sz b ms d) : (KV.mud d).showable = true ∧ (KV.mud d).hasDict = false ∧ (KV.mud d).depth ≤ 60 ∧ (KV.mud d).shown.length ≤ sizeLine := by
  have f := (s.fit.mud s.b7).ok
  have l : (more ms).length = ms.length := List.length_map _
  refine ⟨f.sh, f.nd, Nat.le_trans f.dp ?_, Nat.le_trans f.sz s.big⟩
  rw [l]
  exact Nat.le_trans s.dp (by decide)
def spOwn (K : PySem.W.Frag) : Sp := fun vs H Q _ => ∃ (told due : V) (d : PyData) (F : Fp) (b : Nat) (ms : List Nat), vs = [told, due] ∧ Ow H told d F ∧ Dp K H due d ∧ Sz b ms d ∧
  ∀ H', Off F H H' → Q (.bl true) H'
section
variable {P : Program} {w : World} {K : PySem.W.Frag} {mg : Str → Option Value} {base : Heap}
theorem scOwn : FnScope ["told", "due", "mirror"] ["told", "due"] (defScope sOwn) := ⟨rfl, rfl, rfl, by decide +kernel, rfl, by decide +kernel, by decide +kernel⟩
theorem ok_own {f fC fM : Addr} {fd dC dM : FuncData} (F : FnP K "_law_own" sOwn f fd) (GC : FnOk P w K mg base CX0 6 fC dC ["thing"] (spCopied K 6)) (bC : Binds K dC ["thing"] []) (mC : mg "_law_copied" = some (.ref fC)) (kC : PySem.W.keepIn K (.ref fC) = true)
    (GM : FnOk P w K mg base CX0 6 fM dM ["thing"] (spMuddle 6)) (bM : Binds K dM ["thing"] []) (mM : mg "_law_muddle" = some (.ref fM)) (kM : PySem.W.keepIn K (.ref fM) = true) (mp : mg "repr" = none) :
    FnC P w K mg base CX0 7 f fd ["told", "due"] (spOwn K) := by
  refine Fun.okC F scOwn (fun vs H Q E h => ?_) (fun cdv A outer s H vs Q E hG hr h => ?_)
  · obtain ⟨t, u, d, F, b, ms, rfl, _⟩ := h
    rfl
  obtain ⟨told, due, d, Fo, b, ms, rfl, o, u, sz, q⟩ := h
  have hu : (A.deeper (envOfC "_law_own" (defScope sOwn) s.heap.objs.size f cdv)).units + 64 < cLine := hr.units
  have cmp : ∀ {X : Cx} (i j : Nat) {n1 n2 x1 x2 : Str} {p1 p2 p3 p4 p5 p6 : Pos}, True := fun _ _ => trivial
  refine ⟨_, pss_cons (ps_if (pt_cmpR op_ne (pe_callB (call_repD hG hu) rfl mp boot_repr (pa_cons (pv 0) pa_nil)) (pe_callB (call_repD hG hu) rfl mp boot_repr (pa_cons (pv 1) pa_nil)) (nomark _)) (pss_one (ps_ret pe_bl)) pss_nil)
    (pss_cons (ps_set (i := 2) scOwn.nd rfl (Or.inl rfl) (pe_call GC hr rfl mC kC bC .nil pass0 (pa_cons (pv 1) pa_nil)))
    (pss_cons (ps_expr (pe_call GM hr rfl mM kM bM .nil pass0 (pa_cons (pv 0) pa_nil)))
    (pss_cons (ps_expr (pe_call GM hr rfl mM kM bM .nil pass0 (pa_cons (pv 2) pa_nil)))
    (pss_one (ps_ret (pe_cmpR op_eq (pe_callB (call_repD hG hu) rfl mp boot_repr (pa_cons (pv 0) pa_nil)) (pe_callB (call_repD hG hu) rfl mp boot_repr (pa_cons (pv 2) pa_nil)) (nomark _))))))), ?_⟩
  obtain ⟨z1, z2, z3, z4⟩ := sz.rep
  obtain ⟨y1, y2, y3, y4⟩ := sz.mud
  have hm : ∀ m ∈ ms, m ≤ 1000 := fun m h => Nat.le_succ_of_le (sz.w m h)
  have hk : ms.length < 6 := Nat.lt_succ_of_le sz.dp
  refine ⟨_, rfl, told, d, rfl, o.dp, z1, z2, z3, z4, _, rfl, due, d, rfl, u, z1, z2, z3, z4, rfl, _, rfl, ?_⟩
  rw [decide_eq_true rfl]
  refine iteF ?_
  refine ⟨_, rfl, due, d, b, ms, rfl, u, sz.fit, hm, hk, fun mi Fm H1 om fr k1 => ?_⟩
  have o1 := o.keep k1 (fun _ z => z.elim) fun _ _ z => z
  refine ⟨_, rfl, told, d, Fo, b, ms, rfl, o1, sz.fit, hm, hk, fun H2 o2 k2 => ?_⟩
  have dis : ∀ a, Fm a → ¬ Fo a := fun a z y => by
    obtain ⟨xs, e⟩ := o.dom a y
    rw [fr a z] at e
    cases e
  have om2 := om.keep k2 (fun a z => o1.dom a z) dis
  refine ⟨_, rfl, mi, d, Fm, b, ms, rfl, om2, sz.fit, hm, hk, fun H3 o3 k3 => ?_⟩
  have o3' := o2.keep k3 (fun a z => om2.dom a z) fun a z y => dis a y z
  refine ⟨_, rfl, told, mud d, rfl, o3'.dp, y1, y2, y3, y4, _, rfl, mi, mud d, rfl, o3.dp, y1, y2, y3, y4, rfl, ?_⟩
  rw [decide_eq_true rfl]
  refine q H3 fun a e ea na => ?_
  have e1 := k1 a e ea fun z => z
  have e2 := k2 a e e1 na
  refine k3 a e e2 fun z => ?_
  rw [fr a z] at ea
  cases ea
end
end LW
set_option Elab.async false
set_option linter.all false
set_option maxRecDepth 100000
set_option maxHeartbeats 4000000
namespace LW
open PySem PySem.Spec PyProof.Rows L2 KV
/-! ### _law_words -/
/-- one to eight letters from a to z -/
def Title (x : Str) : Prop := 1 ≤ x.length ∧ x.length ≤ 8 ∧ ∀ c ∈ x.cps.toList, 97 ≤ c ∧ c ≤ 122
/-- the text of these signs -/
def tx (l : List Nat) : Str := ⟨l.toArray⟩
theorem tx_len (l : List Nat) : (tx l).length = l.length := by simp [tx, Str.length]
theorem tx_cps (l : List Nat) : (tx l).cps.toList = l := by simp [tx]
theorem tx_inj {a b : List Nat} (h : tx a = tx b) : a = b := by rw [← tx_cps a, h, tx_cps]
theorem str_ext {x y : Str} (h : x.cps.toList = y.cps.toList) : x = y := by
  cases x; cases y
  simpa using h
theorem tx_add (a b : List Nat) : tx a ++ tx b = tx (a ++ b) := str_ext (by
  show (⟨(tx a).cps ++ (tx b).cps⟩ : Str).cps.toList = _
  simp [tx])
theorem tx_join : ∀ l : List Nat, Txt.join "" (l.map fun c => tx [c]) = tx l := by
  intro l
  unfold Txt.join
  rw [StrLaws.glued_eq_join]
  have emp : ("" : Str) = tx [] := by decide +kernel
  induction l with
  | nil => exact emp ▸ rfl
  | cons c r ih =>
    cases r with
    | nil => rfl
    | cons d r =>
      have e : Str.join "" (tx [c] :: tx [d] :: r.map fun c => tx [c]) = tx [c] ++ "" ++ Str.join "" (tx [d] :: r.map fun c => tx [c]) := rfl
      show Str.join "" (tx [c] :: tx [d] :: r.map fun c => tx [c]) = _
      have ih' : Str.join "" (tx [d] :: r.map fun c => tx [c]) = tx (d :: r) := ih
      rw [e, ih', emp, tx_add, tx_add]
      rfl
theorem tx_cut {l : List Nat} {k : Int} (h : 0 ≤ k) : cutS (tx l) none (some k) = tx (l.take k.toNat) := by
  refine str_ext ?_
  have hk : ¬ k < 0 := by omega
  unfold cutS
  simp [HT.sIx, hk, tx, Str.length]
theorem title_tx {l : List Nat} : Title (tx l) ↔ 1 ≤ l.length ∧ l.length ≤ 8 ∧ ∀ c ∈ l, 97 ≤ c ∧ c ≤ 122 := by
  unfold Title
  rw [tx_len, tx_cps]
/-- the letters -/
theorem abc_at {i : Int} (h0 : 0 ≤ i) (h1 : i < 26) : atI ("abcdefghijklmnopqrstuvwxyz" : Str).cps.toList i = some (97 + i.toNat) := by
  have all : ∀ k : Fin 26, ("abcdefghijklmnopqrstuvwxyz" : Str).cps.toList[k.val]? = some (97 + k.val) := by decide +kernel
  have e : ((i.toNat : Nat) : Int) = i := by omega
  have q : ("abcdefghijklmnopqrstuvwxyz" : Str).cps.toList[i.toNat]? = some (97 + i.toNat) := all ⟨i.toNat, by omega⟩
  generalize i.toNat = k at e q
  rw [← e]
  exact atI_nat q
def menuL : List Str := ["all", "as", "key", "id", "town", "table", "is", "same", "missing", "settles", "pair", "left", "a", "b"]
def menuF (k : Nat) : Str := menuL.getD (k % 14) ""
theorem menu_at (k : Nat) : menuL[k % 14]? = some (menuF k) := by
  have h : k % 14 < menuL.length := Nat.mod_lt _ (by decide)
  unfold menuF
  rw [List.getD_eq_getElem?_getD, List.getElem?_eq_getElem h]
  rfl
theorem menu_title (k : Nat) : Title (menuF k) := by
  have all : ∀ j : Fin 14, 1 ≤ (menuL.getD j.val "").length ∧ (menuL.getD j.val "").length ≤ 8 ∧ (menuL.getD j.val "").cps.toList.all (fun c => decide (97 ≤ c ∧ c ≤ 122)) = true := by decide +kernel
  have q := all ⟨k % 14, Nat.mod_lt _ (by decide)⟩
  exact ⟨q.1, q.2.1, fun c hc => of_decide_eq_true (List.all_eq_true.mp q.2.2 c hc)⟩
theorem menu_inj {a b : Nat} (h : menuF a = menuF b) : a % 14 = b % 14 := by
  have all : ∀ i j : Fin 14, menuL.getD i.val "" = menuL.getD j.val "" → i.val = j.val := by decide +kernel
  exact all ⟨a % 14, Nat.mod_lt _ (by decide)⟩ ⟨b % 14, Nat.mod_lt _ (by decide)⟩ h
/-- a range of texts -/
def rgS (f : Nat → Str) (i : Nat) : List V := ((List.range i).map f).map V.str
theorem rgS_len (f : Nat → Str) (i : Nat) : (rgS f i).length = i := by simp [rgS]
theorem rgS_succ (f : Nat → Str) (i : Nat) : rgS f i ++ [V.str (f i)] = rgS f (i + 1) := by simp [rgS, List.range_succ]
theorem nd_range {f : Nat → Str} {n : Nat} (h : ∀ i j, i < j → j < n → f i ≠ f j) : ((List.range n).map f).Nodup := by
  rw [List.Nodup, List.pairwise_map]
  refine List.Pairwise.imp_of_mem ?_ List.nodup_range |>.imp fun h => h
  intro a b ha hb ne
  rw [List.mem_range] at ha hb
  rcases Nat.lt_or_gt_of_ne ne with c | c
  · exact h a b c hb
  · exact fun e => h b a c ha e.symm
def spWords : Sp := fun vs H Q _ => ∃ (p : Addr) (m c : Nat), vs = [.ref p, .int (m : Int)] ∧ m ≤ 100 ∧ Pu H p c ∧ c + 10 ≤ 1000000000 ∧
  ∀ (ws : List Str) (D : Addr) (H' : Hp) (c' : Nat), ws.length = m → (∀ x ∈ ws, Title x) → ws.Nodup → H D = none → H' D = some (.lst (ws.map V.str)) → Pu H' p c' → c' ≤ c + 10 → Off (fun a => a = p) H H' → Q (.ref D) H'
section
variable {P : Program} {w : World} {K : PySem.W.Frag} {mg : Str → Option Value} {base : Heap}
theorem scWords : FnScope ["purse", "many", "letters", "way", "menu", "stem", "start", "turn", "rank"] ["purse", "many"] (defScope sWords) := ⟨rfl, rfl, rfl, by decide +kernel, rfl, by decide +kernel, by decide +kernel⟩
theorem ok_words {f fC : Addr} {fd dC : FuncData} (F : FnP K "_law_words" sWords f fd) (FC : FnP K "_law_coin" sCoin fC dC) (bC : Binds K dC ["purse", "many"] []) (mC : mg "_law_coin" = some (.ref fC)) (mi : mg "int" = none) (mr : mg "range" = none) :
    FnOk P w K mg base CX0 2 f fd ["purse", "many"] spWords := by
  have GC : FnOk P w K mg base CX0 1 fC dC ["purse", "many"] spCoin := ok_coin FC mi
  refine F.ok scWords (fun vs H Q E h => ?_) (fun cdv A outer s H vs Q E hr h => ?_)
  · obtain ⟨p, m, c, rfl, _⟩ := h
    rfl
  obtain ⟨p, m, c, rfl, hm, hp, hc, q⟩ := h
  refine ⟨_, pss_cons (ps_asg (pe_tup (pa_cons pe_str (pa_cons (pe_call GC hr rfl mC FC.kp bC .nil pass0 (pa_cons (pv 0) (pa_cons pe_int pa_nil))) pa_nil)))
      (pg_tup rfl (pgs_cons (pg_name (i := 2) scWords.nd rfl (Or.inr rfl)) (pgs_cons (pg_name (i := 3) scWords.nd rfl (Or.inl rfl)) pgs_nil))))
    (pss_cons (ps_set (i := 4) scWords.nd rfl (Or.inr rfl) (pe_lst (pa_cons pe_str (pa_cons pe_str (pa_cons pe_str (pa_cons pe_str (pa_cons pe_str (pa_cons pe_str (pa_cons pe_str (pa_cons pe_str (pa_cons pe_str (pa_cons pe_str (pa_cons pe_str (pa_cons pe_str (pa_cons pe_str (pa_cons pe_str pa_nil))))))))))))))))
    (pss_cons (ps_set (i := 5) scWords.nd rfl (Or.inr rfl) (pe_join pe_str (pe_lc (own := [("turn", 7)]) (g := gName 7) (tt := tYes) rfl scWords.nd (pi_range1 rfl mr (pa_cons pe_int pa_nil))
        (blkOk_by (own := [("turn", 7)]) (N := ["purse", "many", "letters", "way", "menu", "stem", "start", "turn", "rank"]) (sc := defScope sWords) (by decide +kernel))
        (fun _ _ _ _ _ => pg_name (i := 7) scWords.nd rfl (Or.inl rfl)) (fun _ _ _ _ _ => pts_nil)
        (fun _ _ _ _ _ => pe_ix ix_str (pv 2) (pe_call GC hr rfl mC FC.kp bC .nil pass0 (pa_cons (pv 0) (pa_cons pe_int pa_nil))) (fun _ _ => rfl)))))
    (pss_cons (ps_if (PW.pt (pw_and (pt_cmpR op_eq (pv 3) pe_int (nomark _)) (pw_and1 (pt_cmpR op_lt (pv 1) pe_int (nomark _)))))
      (pss_cons (ps_set (i := 6) scWords.nd rfl (Or.inr rfl) (pe_call GC hr rfl mC FC.kp bC .nil pass0 (pa_cons (pv 0) (pa_cons pe_int pa_nil))))
        (pss_one (ps_ret (pe_lc (own := [("rank", 8)]) (g := gName 8) (tt := tYes) (te := tOp (rIxL K) (tVar 4) (tOp (rI (fun _ j => 0 < j) fun i j => .int (i % j)) (tCB (fun xs H Q => (∃ i, xs = [.int i] ∧ Q (.int i) H) ∨ ∃ k, xs = [.bl k] ∧ Q (.int (if k then 1 else 0)) H) (tCons (tOp (rI0 fun i j => .int (i + j)) (tVar 6) (tOp (rI CMul fun i j => .int (i * j)) (tC (.int 3)) (tVar 8))) tNil)) (tC (.int 14)))) rfl scWords.nd (pi_range1 rfl mr (pa_cons (pv 1) pa_nil))
          (blkOk_by (own := [("rank", 8)]) (N := ["purse", "many", "letters", "way", "menu", "stem", "start", "turn", "rank"]) (sc := defScope sWords) (by decide +kernel))
          (fun _ _ _ _ _ => pg_name (i := 8) scWords.nd rfl (Or.inl rfl)) (fun _ _ _ _ _ => pts_nil)
          (fun _ _ _ _ _ => pe_ix ix_list (pv 4) (pe_op op_mod (pe_callTy call_int1 rfl mi (by decide +kernel) (pa_cons (pe_op op_add (pv 6) (pe_op op_mul pe_int (pv 8))) pa_nil)) pe_int) (fun _ _ => rfl)))))) pss_nil)
    (pss_cons (ps_if (PW.pt (pw_and (pt_cmpR op_eq (pv 3) pe_int (nomark _)) (pw_and1 (pt_cmpR op_lt (pv 1) pe_int (nomark _)))))
      (pss_one (ps_ret (pe_lc (own := [("rank", 8)]) (g := gName 8) (tt := tYes) rfl scWords.nd (pi_range1 rfl mr (pa_cons (pv 1) pa_nil))
          (blkOk_by (own := [("rank", 8)]) (N := ["purse", "many", "letters", "way", "menu", "stem", "start", "turn", "rank"]) (sc := defScope sWords) (by decide +kernel))
          (fun _ _ _ _ _ => pg_name (i := 8) scWords.nd rfl (Or.inl rfl)) (fun _ _ _ _ _ => pts_nil)
          (fun _ _ _ _ _ => pe_slice sl_str (pv 5) po_none (po_some (pe_op op_add (pv 8) pe_int)))))) pss_nil)
    (pss_cons (ps_set (i := 6) scWords.nd rfl (Or.inr rfl) (pe_call GC hr rfl mC FC.kp bC .nil pass0 (pa_cons (pv 0) (pa_cons pe_int pa_nil))))
    (pss_one (ps_ret (pe_lc (own := [("rank", 8)]) (g := gName 8) (tt := tYes) rfl scWords.nd (pi_range1 rfl mr (pa_cons (pv 1) pa_nil))
          (blkOk_by (own := [("rank", 8)]) (N := ["purse", "many", "letters", "way", "menu", "stem", "start", "turn", "rank"]) (sc := defScope sWords) (by decide +kernel))
          (fun _ _ _ _ _ => pg_name (i := 8) scWords.nd rfl (Or.inl rfl)) (fun _ _ _ _ _ => pts_nil)
          (fun _ _ _ _ _ => pe_op op_add_str (pe_ix ix_str (pv 2) (pe_op op_mod (pe_callTy call_int1 rfl mi (by decide +kernel) (pa_cons (pe_op op_add (pv 6) (pv 8)) pa_nil)) pe_int) (fun _ _ => rfl))
            (pe_slice sl_str (pv 5) po_none (po_some (pe_op op_fdiv (pv 8) pe_int)))))))))))), ?_⟩
  refine ⟨_, rfl, p, 3, c, rfl, hp, by omega, by decide, by decide, fun way H1 w0 w3 hp1 b1 => ⟨by show 2 ≤ sizeLine; decide, fun tp htp => ⟨tp, _, rfl, SqT.of upd_same, rfl, _, _, rfl, _, _, rfl, ?_⟩⟩⟩
  have pt : p ≠ tp := by
    obtain ⟨xs, ep⟩ := hp1.lst
    exact ne_of_none ep htp
  have hp2 := hp1.at (H' := upd H1 tp (.tup [.str "abcdefghijklmnopqrstuvwxyz", .int way])) (upd_ne pt)
  have off2 : Off (fun a => a = p) H (upd H1 tp (.tup [.str "abcdefghijklmnopqrstuvwxyz", .int way])) := b1.off.trans (Off.new htp)
  refine ⟨rfl, (by show 14 ≤ sizeLine; decide), fun mn hmn => ?_⟩
  generalize upd H1 tp (.tup [.str "abcdefghijklmnopqrstuvwxyz", .int way]) = H2 at hp2 off2 hmn
  have pm : p ≠ mn := by
    obtain ⟨xs, ep⟩ := hp2.lst
    exact ne_of_none ep hmn
  have hm0 : (upd H2 mn (.lst (menuL.map V.str))) mn = some (.lst (menuL.map V.str)) := upd_same
  have hp3 : Pu (upd H2 mn (.lst (menuL.map V.str))) p (c + 1) := hp2.at (upd_ne pm)
  have off3 : Off (fun a => a = p) H (upd H2 mn (.lst (menuL.map V.str))) := off2.trans (Off.new hmn)
  show gName 4 _ _ (upd H2 mn (.lst (menuL.map V.str))) _
  generalize upd H2 mn (.lst (menuL.map V.str)) = H3 at hm0 hp3 off3
  refine ⟨⟨_, rfl⟩, 8, rfl, by decide, by decide, fun D hD => lc_range (lo := 0) (n := 8)
    (fun i H' => ∃ cs : List Nat, H' D = some (.lst (cs.map fun c => V.str (tx [c]))) ∧ cs.length = i ∧ (∀ c ∈ cs, 97 ≤ c ∧ c ≤ 122) ∧ Pu H' p (c + 1 + i) ∧ Off (fun a => a = p) H3 H') ?_ (fun i H' hi g => ?_) fun H' g => ?_⟩
  · obtain ⟨xs, ep⟩ := hp3.lst
    exact ⟨[], upd_same, rfl, fun c hc => absurd hc (by simp), hp3.at (upd_ne (ne_of_none ep hD)), Off.new hD⟩
  · obtain ⟨cs, e1, hl, hs, hp', k'⟩ := g
    obtain ⟨xs, ep⟩ := hp3.lst
    have pD : p ≠ D := ne_of_none ep hD
    refine ⟨rfl, Exists.intro _ ⟨rfl, Exists.intro _ ⟨rfl, p, 26, c + 1 + i, rfl, hp', by omega, by decide, by decide, fun j H4 j0 j7 hp4 b4 => ?_⟩⟩⟩
    refine ⟨_, j, _, rfl, rfl, by decide +kernel, abc_at j0 j7, _, (b4 D (Ne.symm pD)).trans e1, by rw [List.length_map, hl]; exact small1000 (by omega), cs ++ [97 + j.toNat], ?_, by simp [hl], fun z hz => ?_, hp4.at (upd_ne pD), fun a u ea na => ?_⟩
    · rw [upd_same, List.map_append]
      rfl
    · rcases List.mem_append.mp hz with hz | hz
      · exact hs z hz
      · rw [List.mem_singleton.mp hz]
        omega
    · rw [upd_ne (fun z => by rw [z, hD] at ea; cases ea)]
      exact (b4 a na).trans (k' a u ea na)
  obtain ⟨cs, e1, hl, hs, hp4, k4⟩ := g
  have ej : Txt.join "" (cs.map fun c => tx [c]) = tx cs := tx_join cs
  have em : cs.map (fun c => V.str (tx [c])) = (cs.map fun c => tx [c]).map V.str := by rw [List.map_map]; rfl
  rw [em] at e1
  have off4 : Off (fun a => a = p) H H' := off3.trans k4
  have hm4 : H' mn = some (.lst (menuL.map V.str)) := k4 _ _ hm0 (Ne.symm pm)
  refine ⟨_, D, cs.map (fun c => tx [c]), rfl, rfl, .inl (SqL.of e1), ?_, ?_⟩
  · rw [List.map_map, List.length_map, hl]
    have : List.map ((fun x : Str => x.length) ∘ fun c => tx [c]) cs = List.map (fun _ => 1) cs := rfl
    have e0 : ("" : Str).length = 0 := by decide +kernel
    have s1 : ∀ l : List Nat, (l.map fun _ => 1).sum = l.length := fun l => by induction l <;> simp_all <;> omega
    rw [this, e0, s1, hl]
    decide
  rw [ej]
  have fin : ∀ (f : Nat → Str) (H5 : Hp) (c5 : Nat) (D5 : Addr) (H6 : Hp), Pu H5 p c5 → c5 ≤ c + 10 → Off (fun a => a = p) H H5 → H5 D5 = none → H6 D5 = some (.lst (rgS f m)) → Off (fun _ => False) H5 H6 →
      (∀ r, r < m → Title (f r)) → (∀ i j, i < j → j < m → f i ≠ f j) → Q (.ref D5) H6 := by
    intro f H5 c5 D5 H6 h1 h2 h3 h4 h5 h6 h7 h8
    obtain ⟨xs, ep⟩ := id h1.lst
    have nD : D5 ≠ p := fun z => by
      rw [z, ep] at h4
      cases h4
    refine q ((List.range m).map f) D5 H6 c5 (by simp) (fun x hx => ?_) (nd_range h8) (h3.none h4 nD) h5 (h1.at ((h6 p _ ep id).trans ep.symm)) h2 (h3.trans (h6.mono fun a z => z.elim))
    obtain ⟨r, hr, rfl⟩ := List.mem_map.mp hx
    exact h7 r (List.mem_range.mp hr)
  have len8 : (tx cs).length ≤ sizeLine := by
    rw [tx_len, hl]
    decide
  have cA : way = 0 → m < 15 → ∀ {σ : L2.St} {R : VK} {E : XK}, True := fun _ _ _ _ _ => trivial
  refine ⟨_, rfl, rfl, _, rfl, ?_⟩
  by_cases w1 : way = 0
  rw [decide_eq_true (p := V.int way = V.int 0) (by rw [w1])]
  refine iteT ⟨_, rfl, _, _, rfl, rfl, _, rfl, ite2 (fun m1 => ?_) (fun m1 => ?_)⟩
  · have m2 : m < 15 := by
      have := of_decide_eq_true m1
      omega
    refine ⟨_, rfl, p, 14, c + 1 + 8, rfl, hp4, by omega, by decide, by decide, fun st H5 s0 s14 hp5 b5 => ⟨_, rfl, m, rfl, by omega, by omega, fun D5 hD5 => ?_⟩⟩
    have off5 := off4.trans b5.off
    refine lc_range (lo := 0) (n := m) (fun i H6 => H6 D5 = some (.lst (rgS (fun r => menuF (st.toNat + 3 * r)) i)) ∧ Off (fun _ => False) H5 H6) ⟨upd_same, Off.new hD5⟩ (fun i H6 hi g => ?_) fun H6 g => ?_
    · obtain ⟨g1, g2⟩ := g
      refine ⟨rfl, Exists.intro _ ⟨rfl, Exists.intro _ ⟨rfl, Exists.intro _ ⟨rfl, _, _, rfl, rfl, .inl ⟨by decide, by decide⟩, _, _, rfl, rfl, .inl ⟨_, rfl, _, _, rfl, rfl, (by show (0 : Int) < 14; decide), ?_⟩⟩⟩⟩⟩
      have ek : (st + 3 * (0 + (i : Int))) % 14 = (((st.toNat + 3 * i) % 14 : Nat) : Int) := by omega
      refine ⟨mn, _, (st + 3 * (0 + (i : Int))) % 14, V.str (menuF (st.toNat + 3 * i)), rfl, rfl, SqL.of (g2 _ _ ((b5 mn (Ne.symm pm)).trans hm4) id), ?_, _, g1, by rw [rgS_len]; exact small1000 (by omega), ?_⟩
      · rw [ek]
        exact atI_nat (by rw [List.getElem?_map, menu_at]; rfl)
      exact ⟨by rw [upd_same, rgS_succ], fun a u ea na => by rw [upd_ne (fun z => by rw [z, hD5] at ea; cases ea)]; exact g2 a u ea na⟩
    · obtain ⟨g1, g2⟩ := g
      refine fin _ H5 _ D5 H6 hp5 (by omega) off5 hD5 g1 g2 (fun r hr => ?_) (fun a b h1 h2 z => ?_)
      · exact menu_title _
      · have := menu_inj z
        omega
  rotate_left
  rw [decide_eq_false (p := V.int way = V.int 0) fun z => w1 (by cases z; rfl)]
  refine iteF (iteF ?_)
  all_goals
    refine ⟨_, rfl, rfl, _, rfl, ?_⟩
    by_cases w2 : way = 1
    rw [decide_eq_true (p := V.int way = V.int 1) (by rw [w2])]
    refine iteT ⟨_, rfl, _, _, rfl, rfl, _, rfl, ite2 (fun m2 => ?_) (fun m2 => ?_)⟩
    · have m3 : m < 9 := by
        have := of_decide_eq_true m2
        omega
      refine ⟨_, rfl, m, rfl, by omega, by omega, fun D5 hD5 => ?_⟩
      refine lc_range (lo := 0) (n := m) (fun i H6 => H6 D5 = some (.lst (rgS (fun r => tx (cs.take (r + 1))) i)) ∧ Off (fun _ => False) H' H6) ⟨upd_same, Off.new hD5⟩ (fun i H6 hi g => ?_) fun H6 g => ?_
      · obtain ⟨g1, g2⟩ := g
        have ek : (0 + (i : Int) + 1).toNat = i + 1 := by omega
        have ec := tx_cut (l := cs) (k := 0 + (i : Int) + 1) (by omega)
        rw [ek] at ec
        refine ⟨rfl, Exists.intro _ ⟨rfl, Exists.intro _ ⟨rfl, _, _, rfl, rfl, _, rfl, _, rfl, len8, _, g1, by rw [rgS_len]; exact small1000 (by omega), ?_⟩⟩⟩
        rw [ec]
        exact ⟨by rw [upd_same, rgS_succ (fun r => tx (cs.take (r + 1)))], fun a u ea na => by rw [upd_ne (fun z => by rw [z, hD5] at ea; cases ea)]; exact g2 a u ea na⟩
      · obtain ⟨g1, g2⟩ := g
        refine fin _ H' _ D5 H6 hp4 (by omega) off4 hD5 g1 g2 (fun r hr => ?_) (fun a b h1 h2 z => ?_)
        · refine title_tx.mpr ⟨by rw [List.length_take]; omega, by rw [List.length_take]; omega, fun c hc => hs c (List.mem_of_mem_take hc)⟩
        · have := congrArg List.length (tx_inj z)
          rw [List.length_take, List.length_take] at this
          omega
    rotate_left
    rw [decide_eq_false (p := V.int way = V.int 1) fun z => w2 (by cases z; rfl)]
    refine iteF (iteF ?_)
    all_goals
      refine ⟨_, rfl, p, 26, c + 1 + 8, rfl, hp4, by omega, by decide, by decide, fun st H5 s0 s26 hp5 b5 => ⟨_, rfl, m, rfl, by omega, by omega, fun D5 hD5 => ?_⟩⟩
      have off5 := off4.trans b5.off
      refine lc_range (lo := 0) (n := m) (fun i H6 => H6 D5 = some (.lst (rgS (fun r => tx ((97 + (st.toNat + r) % 26) :: cs.take (r / 26))) i)) ∧ Off (fun _ => False) H5 H6) ⟨upd_same, Off.new hD5⟩ (fun i H6 hi g => ?_) fun H6 g => ?_
      · obtain ⟨g1, g2⟩ := g
        have ek : ((st + (0 + (i : Int))) % 26).toNat = (st.toNat + i) % 26 := by omega
        have e2 : ((0 + (i : Int)) / 26).toNat = i / 26 := by omega
        have ea := abc_at (i := (st + (0 + (i : Int))) % 26) (by omega) (by omega)
        rw [ek] at ea
        have ec := tx_cut (l := cs) (k := (0 + (i : Int)) / 26) (by omega)
        rw [e2] at ec
        refine ⟨rfl, Exists.intro _ ⟨rfl, Exists.intro _ ⟨rfl, Exists.intro _ ⟨rfl, _, _, rfl, rfl, .inl ⟨_, rfl, _, _, rfl, rfl, (by show (0 : Int) < 26; decide), _, _, _, rfl, rfl, by decide +kernel, ea, Exists.intro _ ⟨rfl, Exists.intro _ ⟨rfl, _, _, rfl, rfl, ⟨by decide, by decide⟩, _, rfl, _, rfl, len8, _, _, rfl, rfl, ?_, _, g1, by rw [rgS_len]; exact small1000 (by omega), ?_⟩⟩⟩⟩⟩⟩⟩
        · rw [ec]
          show (tx [97 + (st.toNat + i) % 26]).length + _ ≤ _
          rw [tx_len, tx_len, List.length_take]
          show 1 + _ ≤ 16777216
          omega
        · rw [ec]
          have ej2 : (⟨#[97 + (st.toNat + i) % 26]⟩ : Str) ++ tx (cs.take (i / 26)) = tx ((97 + (st.toNat + i) % 26) :: cs.take (i / 26)) := tx_add [97 + (st.toNat + i) % 26] (cs.take (i / 26))
          rw [ej2]
          exact ⟨by rw [upd_same, rgS_succ (fun r => tx ((97 + (st.toNat + r) % 26) :: cs.take (r / 26)))], fun a u ea na => by rw [upd_ne (fun z => by rw [z, hD5] at ea; cases ea)]; exact g2 a u ea na⟩
      · obtain ⟨g1, g2⟩ := g
        refine fin _ H5 _ D5 H6 hp5 (by omega) off5 hD5 g1 g2 (fun r hr => ?_) (fun a b h1 h2 z => ?_)
        · refine title_tx.mpr ⟨by simp, by rw [List.length_cons, List.length_take]; omega, fun c hc => ?_⟩
          rcases List.mem_cons.mp hc with hc | hc
          · omega
          · exact hs c (List.mem_of_mem_take hc)
        · have z1 := tx_inj z
          have z2 := (List.cons.inj z1).1
          have z3 := congrArg List.length (List.cons.inj z1).2
          rw [List.length_take, List.length_take] at z3
          omega
end
end LW
set_option Elab.async false
set_option linter.all false
set_option maxRecDepth 100000
set_option maxHeartbeats 4000000
namespace LW
open PySem PySem.Spec PyProof.Rows L2 KV
/-! ### _law_drawn_tables -/
abbrev Tab := Str × List Str
def colsD (cs : List Str) : PyData := .list (cs.map PyData.str)
def tabD (t : Tab) : PyData := .tuple [.str t.1, colsD t.2]
def tabsD (ts : List Tab) : PyData := .list (ts.map tabD)
structure TabOk (mc : Nat) (t : Tab) : Prop where
  one : 1 ≤ t.2.length
  most : t.2.length ≤ mc
  good : ∀ x ∈ t.2, Title x
  nd : t.2.Nodup
  name : Title t.1
structure TabsOk (mt mc : Nat) (ts : List Tab) : Prop where
  one : 1 ≤ ts.length
  most : ts.length ≤ mt
  nd : (ts.map Prod.fst).Nodup
  each : ∀ t ∈ ts, TabOk mc t
/-- texts have no lists -/
theorem owAll_strs {H : Hp} {F : Fp} (e : ∀ a, ¬ F a) : ∀ xs : List Str, OwAll H (xs.map V.str) (xs.map PyData.str) F
  | [] => .nil e
  | x :: xs => .cons (.str x e) (owAll_strs e xs) (fun a z _ => e a z) fun a => ⟨.inl, fun z => z.elim id id⟩
/-- a list of texts -/
theorem ow_strs {H : Hp} {D : Addr} {xs : List Str} (h : H D = some (.lst (xs.map V.str))) : Ow H (.ref D) (colsD xs) fun a => a = D :=
  .lst h (owAll_strs (F := fun _ => False) (fun _ z => z) xs) (fun z => z) fun a => ⟨.inl, fun z => z.elim id False.elim⟩
def spDrawnTables : Sp := fun vs H Q _ => ∃ (p : Addr) (mt mc c : Nat), vs = [.ref p, .int (mt : Int), .int (mc : Int)] ∧ 1 ≤ mt ∧ mt ≤ 20 ∧ 1 ≤ mc ∧ mc ≤ 20 ∧ Pu H p c ∧ c + 300 ≤ 1000000000 ∧
  ∀ (ts : List Tab) (D : Addr) (F : Fp) (H' : Hp) (c' : Nat), TabsOk mt mc ts → Ow H' (.ref D) (tabsD ts) F → (∀ a, F a → H a = none) → Pu H' p c' → c' ≤ c + 300 → Off (fun a => a = p) H H' → Q (.ref D) H'
section
variable {P : Program} {w : World} {K : PySem.W.Frag} {mg : Str → Option Value} {base : Heap}
theorem scDrawnTables : FnScope ["purse", "most_tables", "most_columns", "found", "title"] ["purse", "most_tables", "most_columns"] (defScope sDrawnTables) := ⟨rfl, rfl, rfl, by decide +kernel, rfl, by decide +kernel, by decide +kernel⟩
theorem ok_drawnTables {f fC fW : Addr} {fd dC dW : FuncData} (F : FnP K "_law_drawn_tables" sDrawnTables f fd) (FC : FnP K "_law_coin" sCoin fC dC) (bC : Binds K dC ["purse", "many"] []) (mC : mg "_law_coin" = some (.ref fC))
    (FW : FnP K "_law_words" sWords fW dW) (bW : Binds K dW ["purse", "many"] []) (mW : mg "_law_words" = some (.ref fW)) (mi : mg "int" = none) (mr : mg "range" = none) :
    FnOk P w K mg base CX0 3 f fd ["purse", "most_tables", "most_columns"] spDrawnTables := by
  have GC : FnOk P w K mg base CX0 2 fC dC ["purse", "many"] spCoin := (ok_coin FC mi).mono (by decide)
  have GW : FnOk P w K mg base CX0 2 fW dW ["purse", "many"] spWords := ok_words FW FC bC mC mi mr
  refine F.ok scDrawnTables (fun vs H Q E h => ?_) (fun cdv A outer s H vs Q E hr h => ?_)
  · obtain ⟨p, mt, mc, c, rfl, _⟩ := h
    rfl
  obtain ⟨p, mt, mc, c, rfl, t1, t2, c1, c2, hp, hc, q⟩ := h
  refine ⟨_, PSs.nox (pss_cons (ps_set (i := 3) scDrawnTables.nd rfl (Or.inl rfl) (pe_lst pa_nil))
    (pss_cons (ps_for PassesOwn.never rfl (pi_list (pe_call GW hr rfl mW FW.kp bW .nil pass0 (pa_cons (pv 0) (pa_cons (pe_op op_add pe_int (pe_call GC hr rfl mC FC.kp bC .nil pass0 (pa_cons (pv 0) (pa_cons (pv 1) pa_nil)))) pa_nil)))) (pg_name (i := 4) scDrawnTables.nd rfl (Or.inl rfl))
      (pss_one (ps_expr (pe_bm PySem.F.plainAttrs_list PySem.F.slot_list_append PySem.F.type_list_append mt_append (pv 3)
        (pa_cons (pe_tup (pa_cons (pv 4) (pa_cons (pe_call GW hr rfl mW FW.kp bW .nil pass0 (pa_cons (pv 0) (pa_cons (pe_op op_add pe_int (pe_call GC hr rfl mC FC.kp bC .nil pass0 (pa_cons (pv 0) (pa_cons (pv 2) pa_nil)))) pa_nil))) pa_nil))) pa_nil)))))
    (pss_one (ps_ret (pv 3))))), ?_⟩
  refine ⟨by decide, fun fo hfo => ?_⟩
  obtain ⟨xs0, ep0⟩ := id hp.lst
  have pf : p ≠ fo := ne_of_none ep0 hfo
  have hp1 : Pu (upd H fo (.lst [])) p c := hp.at (upd_ne pf)
  have g1 : Grow (fun a => a = p) H fo [] (upd H fo (.lst [])) := Grow.start hfo
  generalize upd H fo (.lst []) = H1 at hp1 g1 ⊢
  refine ⟨_, rfl, _, rfl, _, rfl, p, mt, c, rfl, hp1, by omega, by omega, by omega, fun k H2 k0 k1 hp2 b2 => ?_⟩
  refine ⟨_, _, rfl, rfl, p, (1 + k).toNat, c + 1, ?_, by omega, hp2, by omega, fun ws W H3 c3 wl wt wn wf wd hp3 hc3 off3 => ?_⟩
  · rw [show (((1 + k).toNat : Nat) : Int) = 1 + k by omega]
    rfl
  have g3 : Grow (fun a => a = p) H fo [] H3 := by
    obtain ⟨acc, FA, a1, a2, a3, a4, a5⟩ := g1
    cases a2 with
    | nil e => exact ⟨[], FA, off3 _ _ (b2.off _ _ a1 (Ne.symm pf)) (Ne.symm pf), .nil e, a3, a4, a5.trans (b2.off.trans off3)⟩
  have kn : (1 + k).toNat ≤ mt := by omega
  have pW : p ≠ W := fun z => by
    obtain ⟨xs, ep⟩ := hp2.lst
    rw [← z, ep] at wf
    cases wf
  have fW : fo ≠ W := fun z => by
    obtain ⟨acc, FA, a1, a2, a3, a4, a5⟩ := g1
    rw [← z, b2 fo (Ne.symm pf), a1] at wf
    cases wf
  refine ⟨W, rfl, ⟨_, SqL.of wd⟩, for_list (K := K) (a := W) (xs := ws.map V.str)
    (fun i σ H' => ∃ (w : Option V) (ts : List Tab) (c' : Nat), σ = [some (.ref p), some (.int mt), some (.int mc), some (.ref fo), w] ∧ Grow (fun a => a = p) H fo (ts.map tabD) H' ∧ ts.map Prod.fst = ws.take i ∧ (∀ t ∈ ts, TabOk mc t) ∧
      Pu H' p c' ∧ c' ≤ c3 + 11 * i ∧ H' W = some (.lst (ws.map V.str))) ⟨none, [], c3, rfl, g3, rfl, fun t h => absurd h (by simp), hp3, by omega, wd⟩ (fun i σ H' _ g => ?_) (fun i x σ H' hx g => ?_) fun σ H' g => ?_⟩
  · obtain ⟨_, _, _, _, _, _, _, _, _, e⟩ := g
    exact SqL.of e
  · obtain ⟨w1, ts, c', rfl, g, hn, ht, hp', hc', hW⟩ := g
    rw [List.getElem?_map] at hx
    cases hy : ws[i]? with
    | none => rw [hy] at hx; cases hx
    | some y =>
    rw [hy] at hx
    cases hx
    have hi : i < ws.length := (List.getElem?_eq_some_iff.mp hy).1
    have hi2 : i < 20 := by omega
    obtain ⟨acc, ga1, ga2⟩ := g.len
    have gl : ts.length = i := by
      have := congrArg List.length hn
      rw [List.length_map, List.length_take] at this
      omega
    obtain ⟨xs1, ep1⟩ := hp'.lst
    refine ⟨_, rfl, .inl ⟨rfl, _, SqL.of ga1⟩, _, rfl, _, rfl, _, rfl, _, rfl, p, mc, c', rfl, hp', by omega, by omega, by omega, fun k H4 k0 k1 hp4 b4 => ?_⟩
    refine ⟨_, _, rfl, rfl, p, (1 + k).toNat, c' + 1, ?_, by omega, hp4, by omega, fun cs C H5 c5 cl ct cn cf cd hp5 hc5 off5 => ?_⟩
    · rw [show (((1 + k).toNat : Nat) : Int) = 1 + k by omega]
      rfl
    refine ⟨(by show 2 ≤ sizeLine; decide), fun tp htp => ?_⟩
    have o45 : Off (fun a => a = p) H' (upd H5 tp (.tup [.str y, .ref C])) := (b4.off.trans off5).trans (Off.new htp)
    have pt : p ≠ tp := fun z => by
      obtain ⟨xs, ep⟩ := hp5.lst
      rw [z, htp] at ep
      cases ep
    have Ct : C ≠ tp := fun z => by
      rw [z, htp] at cd
      cases cd
    have nC : H' C = none := b4.off.none cf fun z => by
      obtain ⟨xs, ep⟩ := hp4.lst
      rw [z, ep] at cf
      cases cf
    have ow : Ow (upd H5 tp (.tup [.str y, .ref C])) (.ref tp) (tabD (y, cs)) (fun a => a = C) :=
      .tup upd_same (.cons (F := fun _ => False) (.str y fun _ z => z) (.cons (G := fun _ => False) (ow_strs ((upd_ne Ct).trans cd)) (.nil fun _ z => z) (fun _ _ z => z) fun a => ⟨.inl, fun z => z.elim id False.elim⟩) (fun _ z => z.elim) fun a => ⟨.inr, fun z => z.elim False.elim id⟩)
    obtain ⟨acc2, a1, a2, a3⟩ := g.step hfo (fun a z => by rw [z, ep0]; simp) (fun a z => by rw [z]; exact ⟨_, ep1⟩) ow (fun a z => by rw [z]; exact nC) o45
    refine ⟨fo, acc2, _, rfl, rfl, a1, small1000 (by rw [a2, List.length_map]; omega), some (.str y), ts ++ [(y, cs)], c5, rfl, ?_, ?_, ?_, ?_, by omega, ?_⟩
    · rw [List.map_append]
      exact a3
    · rw [List.map_append, hn, List.take_add_one, hy]
      rfl
    · intro t h
      rcases List.mem_append.mp h with h | h
      · exact ht t h
      · rw [List.mem_singleton.mp h]
        exact ⟨by show 1 ≤ cs.length; omega, by show cs.length ≤ mc; omega, ct, cn, wt y (List.mem_of_getElem? hy)⟩
    · exact (hp5.at (upd_ne pt)).at (upd_ne pf)
    · rw [upd_ne (Ne.symm fW)]
      exact o45 _ _ hW (Ne.symm pW)
  · obtain ⟨w1, ts, c', rfl, g, hn, ht, hp', hc', hW⟩ := g
    rw [List.length_map, List.take_length] at hn
    have tl : ts.length = ws.length := by
      have := congrArg List.length hn
      rwa [List.length_map] at this
    obtain ⟨F', o', f', k'⟩ := g.list hfo
    rw [List.length_map] at hc'
    exact ⟨_, rfl, q ts fo F' H' c' ⟨by omega, by omega, hn ▸ wn, ht⟩ o' f' hp' (by omega) k'⟩
end
end LW
set_option Elab.async false
set_option linter.all false
set_option maxRecDepth 100000
set_option maxHeartbeats 4000000
namespace LW
open PySem PySem.Spec PyProof.Rows L2 KV
/-! ### data without a number: no purse is in it -/
mutual
def noInt : PyData → Bool
  | .int _ => false
  | .dict _ => false
  | .list ds => noIntAll ds
  | .tuple ds => noIntAll ds
  | _ => true
def noIntAll : List PyData → Bool
  | [] => true
  | d :: ds => noInt d && noIntAll ds
end
theorem noIntAll_of : ∀ {ds : List PyData}, (∀ d ∈ ds, noInt d = true) → noIntAll ds = true
  | [], _ => by simp [noIntAll]
  | d :: ds, h => by
    simp only [noIntAll, Bool.and_eq_true]
    exact ⟨h d List.mem_cons_self, noIntAll_of fun e he => h e (List.mem_cons_of_mem _ he)⟩
theorem noIntAll_mem : ∀ {ds : List PyData}, noIntAll ds = true → ∀ d ∈ ds, noInt d = true
  | d :: ds, h, e, he => by
    simp only [noIntAll, Bool.and_eq_true] at h
    rcases List.mem_cons.mp he with z | z
    · exact z ▸ h.1
    · exact noIntAll_mem h.2 e z
theorem noInt_cols (cs : List Str) : noInt (colsD cs) = true := by
  simp only [colsD, noInt]
  refine noIntAll_of fun d h => ?_
  obtain ⟨x, _, rfl⟩ := List.mem_map.mp h
  simp [noInt]
theorem noInt_tab (t : Tab) : noInt (tabD t) = true := by simp [tabD, noInt, noIntAll, noInt_cols]
theorem noInt_tabs (ts : List Tab) : noInt (tabsD ts) = true := by
  simp only [tabsD, noInt]
  refine noIntAll_of fun d h => ?_
  obtain ⟨x, _, rfl⟩ := List.mem_map.mp h
  exact noInt_tab x
section
variable {K : PySem.W.Frag} {H H' : Hp} {p : Addr} {c : Nat}
mutual
theorem dp_but (k : Off (fun a => a = p) H H') (hp : Pu H p c) : ∀ {v : V} {d : PyData}, Dp K H v d → noInt d = true → Dp K H' v d
  | _, _, .non, _ => .non
  | _, _, .bl b, _ => .bl b
  | _, _, .int i, _ => .int i
  | _, _, .str x, _ => .str x
  | _, _, .lst (a := a) (xs := xs) h r, n => by
    simp only [noInt] at n
    refine .lst ?_ (dpAll_but k hp r n)
    rcases h with (h | ⟨o, h⟩) | h
    · refine .inl (.inl (k _ _ h fun z => ?_))
      obtain ⟨x, y, z2, e, _⟩ := hp
      rw [z, e] at h
      cases h
      cases r with
      | cons h0 _ =>
        cases h0
        simp [noIntAll, noInt] at n
    · refine .inl (.inr ⟨o, k _ _ h fun z => ?_⟩)
      obtain ⟨x, y, z2, e, _⟩ := hp
      rw [z, e] at h
      cases h
    · exact .inr h
  | _, _, .tup (a := a) (xs := xs) h r, n => by
    simp only [noInt] at n
    refine .tup ?_ (dpAll_but k hp r n)
    rcases h with (h | ⟨o, h⟩) | h
    · refine .inl (.inl (k _ _ h fun z => ?_))
      obtain ⟨x, y, z2, e, _⟩ := hp
      rw [z, e] at h
      cases h
    · refine .inl (.inr ⟨o, k _ _ h fun z => ?_⟩)
      obtain ⟨x, y, z2, e, _⟩ := hp
      rw [z, e] at h
      cases h
    · exact .inr h
theorem dpAll_but (k : Off (fun a => a = p) H H') (hp : Pu H p c) : ∀ {vs : List V} {ds : List PyData}, DpAll K H vs ds → noIntAll ds = true → DpAll K H' vs ds
  | _, _, .nil, _ => .nil
  | _, _, .cons h r, n => by
    simp only [noIntAll, Bool.and_eq_true] at n
    exact .cons (dp_but k hp h n.1) (dpAll_but k hp r n.2)
end
/-- the parts of tables -/
theorem dp_tabs {v : V} {ts : List Tab} (h : Dp K H v (tabsD ts)) : ∃ a xs, v = .ref a ∧ SqL K H a xs ∧ DpAll K H xs (ts.map tabD) := by
  cases h with
  | lst h r => exact ⟨_, _, rfl, h, r⟩
theorem dp_tab {v : V} {t : Tab} (h : Dp K H v (tabD t)) : ∃ a w, v = .ref a ∧ SqT K H a [.str t.1, w] ∧ Dp K H w (colsD t.2) := by
  cases h with
  | tup h r =>
    cases r with
    | cons h1 r1 =>
      cases r1 with
      | cons h2 r2 =>
        cases r2
        cases h1
        exact ⟨_, _, rfl, h, h2⟩
theorem dpAll_strs : ∀ {xs : List V} {cs : List Str}, DpAll K H xs (cs.map PyData.str) → xs = cs.map V.str
  | _, [], .nil => rfl
  | _, c :: cs, .cons h r => by
    cases h
    rw [dpAll_strs r]
    rfl
theorem dp_cols {v : V} {cs : List Str} (h : Dp K H v (colsD cs)) : ∃ a, v = .ref a ∧ SqL K H a (cs.map V.str) := by
  cases h with
  | lst h r => exact ⟨_, rfl, dpAll_strs r ▸ h⟩
end
/-- the same, at a known place -/
theorem dp_tabs_ref {K : PySem.W.Frag} {H : Hp} {a : Addr} {ts : List Tab} (h : Dp K H (.ref a) (tabsD ts)) : ∃ xs, SqL K H a xs ∧ DpAll K H xs (ts.map tabD) ∧ xs.length = ts.length := by
  obtain ⟨b, xs, e, h1, h2⟩ := dp_tabs h
  cases e
  exact ⟨xs, h1, h2, by rw [dpAll_length h2, List.length_map]⟩
theorem dp_cols_ref {K : PySem.W.Frag} {H : Hp} {a : Addr} {cs : List Str} (h : Dp K H (.ref a) (colsD cs)) : SqL K H a (cs.map V.str) := by
  obtain ⟨b, e, h1⟩ := dp_cols h
  cases e
  exact h1
/-- the table at a place -/
theorem tab_at {K : PySem.W.Frag} {H : Hp} {a : Addr} {ts : List Tab} {k : Int} (h : Dp K H (.ref a) (tabsD ts)) (k0 : 0 ≤ k) (k1 : k < (ts.length : Int)) :
    ∃ xs t ta ca, SqL K H a xs ∧ atI xs k = some (.ref ta) ∧ t ∈ ts ∧ ts[k.toNat]? = some t ∧ SqT K H ta [.str t.1, .ref ca] ∧ Dp K H (.ref ca) (colsD t.2) := by
  obtain ⟨xs, h1, h2, h3⟩ := dp_tabs_ref h
  have hk : k.toNat < ts.length := by omega
  have e1 : (ts.map tabD)[k.toNat]? = some (tabD (ts[k.toNat])) := by rw [List.getElem?_map, List.getElem?_eq_getElem hk]; rfl
  obtain ⟨v, e2, e3⟩ := dpAll_at' h2 e1
  obtain ⟨ta, w, rfl, e4, e5⟩ := dp_tab e3
  obtain ⟨ca, rfl, _⟩ := dp_cols e5
  have ek : ((k.toNat : Nat) : Int) = k := by omega
  exact ⟨xs, ts[k.toNat], ta, ca, h1, by rw [← ek]; exact atI_nat e2, List.getElem_mem hk, List.getElem?_eq_getElem hk, e4, e5⟩
theorem col_at {cs : List Str} {k : Int} (k0 : 0 ≤ k) (k1 : k < (cs.length : Int)) : ∃ c, atI (cs.map V.str) k = some (.str c) ∧ c ∈ cs ∧ cs[k.toNat]? = some c := by
  have hk : k.toNat < cs.length := by omega
  have ek : ((k.toNat : Nat) : Int) = k := by omega
  have e : atI (cs.map V.str) ((k.toNat : Nat) : Int) = some (.str cs[k.toNat]) := atI_nat (by rw [List.getElem?_map, List.getElem?_eq_getElem hk]; rfl)
  rw [ek] at e
  exact ⟨cs[k.toNat], e, List.getElem_mem hk, List.getElem?_eq_getElem hk⟩
/-- items of owned tuples -/
theorem owc_str {H : Hp} {x : Str} {vs : List V} {ds : List PyData} {G : Fp} (r : OwAll H vs ds G) : OwAll H (.str x :: vs) (.str x :: ds) G :=
  .cons (F := fun _ => False) (.str x fun _ z => z) r (fun _ z => z.elim) fun a => ⟨.inr, fun z => z.elim False.elim id⟩
theorem owc {H : Hp} {v : V} {d : PyData} {vs : List V} {ds : List PyData} {F : Fp} (h : Ow H v d F) (r : OwAll H vs ds fun _ => False) : OwAll H (v :: vs) (d :: ds) F :=
  .cons h r (fun _ _ z => z) fun a => ⟨.inl, fun z => z.elim id False.elim⟩
theorem ow0 {H : Hp} : OwAll H [] [] fun _ => False := .nil fun _ z => z
/-! ### _law_drawn_rules -/
/-- the table, the columns, the settled one -/
abbrev Rul := Str × List Str × Option Str
def rulD : Rul → PyData
  | (t, cs, none) => .tuple [.str "key", .str t, colsD cs]
  | (t, cs, some c) => .tuple [.str "settles", .str t, colsD cs, .str c]
def rulsD (rs : List Rul) : PyData := .list (rs.map rulD)
def RulOk (ts : List Tab) (r : Rul) : Prop := ∃ t ∈ ts, r.1 = t.1 ∧ r.2.1.Sublist t.2 ∧ ∀ c, r.2.2 = some c → c ∈ t.2
def spDrawnRules (K : PySem.W.Frag) : Sp := fun vs H Q _ => ∃ (p : Addr) (v : V) (ts : List Tab) (mt mc m c : Nat), vs = [.ref p, v, .int (m : Int)] ∧ Dp K H v (tabsD ts) ∧ TabsOk mt mc ts ∧ mt ≤ 20 ∧ mc ≤ 20 ∧ m ≤ 40 ∧ Pu H p c ∧ c + 1200 ≤ 1000000000 ∧
  ∀ (rs : List Rul) (D : Addr) (F : Fp) (H' : Hp) (c' : Nat), rs.length ≤ m → (∀ r ∈ rs, RulOk ts r) → Ow H' (.ref D) (rulsD rs) F → (∀ a, F a → H a = none) → Pu H' p c' → c' ≤ c + 1200 → Off (fun a => a = p) H H' → Q (.ref D) H'
section
variable {P : Program} {w : World} {K : PySem.W.Frag} {mg : Str → Option Value} {base : Heap}
theorem scDrawnRules : FnScope ["purse", "tables_here", "most", "found", "turn", "title", "known", "some", "column"] ["purse", "tables_here", "most"] (defScope sDrawnRules) := ⟨rfl, rfl, rfl, by decide +kernel, rfl, by decide +kernel, by decide +kernel⟩
theorem ok_drawnRules {f fC : Addr} {fd dC : FuncData} (F : FnP K "_law_drawn_rules" sDrawnRules f fd) (FC : FnP K "_law_coin" sCoin fC dC) (bC : Binds K dC ["purse", "many"] []) (mC : mg "_law_coin" = some (.ref fC))
    (mi : mg "int" = none) (mr : mg "range" = none) (ml : mg "len" = none) :
    FnOk P w K mg base CX0 2 f fd ["purse", "tables_here", "most"] (spDrawnRules K) := by
  have GC : FnOk P w K mg base CX0 1 fC dC ["purse", "many"] spCoin := ok_coin FC mi
  refine F.ok scDrawnRules (fun vs H Q E h => ?_) (fun cdv A outer s H vs Q E hr h => ?_)
  · obtain ⟨p, v, ts, mt, mc, m, c, rfl, _⟩ := h
    rfl
  obtain ⟨p, v, ts, mt, mc, m, c, rfl, hv, tok, t2, c2, m2, hp, hc, q⟩ := h
  refine ⟨_, PSs.nox (pss_cons (ps_set (i := 3) scDrawnRules.nd rfl (Or.inl rfl) (pe_lst pa_nil))
    (pss_cons (ps_for PassesOwn.never rfl (pi_range1 rfl mr (pa_cons (pe_call GC hr rfl mC FC.kp bC .nil pass0 (pa_cons (pv 0) (pa_cons (pe_op op_add (pv 2) pe_int) pa_nil))) pa_nil)) (pg_name (i := 4) scDrawnRules.nd rfl (Or.inl rfl))
      (pss_cons (ps_asg (pe_ix ix_list (pv 1) (pe_call GC hr rfl mC FC.kp bC .nil pass0 (pa_cons (pv 0) (pa_cons (pe_callB call_len_seq rfl ml boot_len (pa_cons (pv 1) pa_nil)) pa_nil))) (fun _ _ => rfl))
          (pg_tup rfl (pgs_cons (pg_name (i := 5) scDrawnRules.nd rfl (Or.inl rfl)) (pgs_cons (pg_name (i := 6) scDrawnRules.nd rfl (Or.inl rfl)) pgs_nil))))
      (pss_cons (ps_setLc (i := 7) (own := [("column", 8)]) (g := gName 8) rfl scDrawnRules.nd rfl rfl rfl (pi_list (pv 6))
          (blkOk_by (own := [("column", 8)]) (N := ["purse", "tables_here", "most", "found", "turn", "title", "known", "some", "column"]) (sc := defScope sDrawnRules) (by decide +kernel))
          (fun _ _ _ _ _ => pg_name (i := 8) scDrawnRules.nd rfl (Or.inl rfl)) (fun _ _ _ _ _ => pts_one (pt_cmpR op_eq (pe_call GC hr rfl mC FC.kp bC .nil pass0 (pa_cons (pv 0) (pa_cons pe_int pa_nil))) pe_int (nomark _)))
          (fun _ _ _ _ _ => pv 8))
      (pss_one (ps_if (pt_cmpR op_eq (pe_call GC hr rfl mC FC.kp bC .nil pass0 (pa_cons (pv 0) (pa_cons pe_int pa_nil))) pe_int (nomark _))
        (pss_one (ps_expr (pe_bm PySem.F.plainAttrs_list PySem.F.slot_list_append PySem.F.type_list_append mt_append (pv 3)
          (pa_cons (pe_tup (pa_cons pe_str (pa_cons (pv 5) (pa_cons (pv 7) pa_nil)))) pa_nil))))
        (pss_cons (ps_set (i := 8) scDrawnRules.nd rfl (Or.inl rfl) (pe_ix ix_list (pv 6) (pe_call GC hr rfl mC FC.kp bC .nil pass0 (pa_cons (pv 0) (pa_cons (pe_callB call_len_seq rfl ml boot_len (pa_cons (pv 6) pa_nil)) pa_nil))) (fun _ _ => rfl)))
        (pss_one (ps_expr (pe_bm PySem.F.plainAttrs_list PySem.F.slot_list_append PySem.F.type_list_append mt_append (pv 3)
          (pa_cons (pe_tup (pa_cons pe_str (pa_cons (pv 5) (pa_cons (pv 7) (pa_cons (pv 8) pa_nil))))) pa_nil))))))))))
    (pss_one (ps_ret (pv 3))))), ?_⟩
  obtain ⟨a, xs, rfl, _⟩ := dp_tabs hv
  refine ⟨by decide, fun fo hfo => ?_⟩
  obtain ⟨xs0, ep0⟩ := id hp.lst
  have pf : p ≠ fo := ne_of_none ep0 hfo
  have hp1 : Pu (upd H fo (.lst [])) p c := hp.at (upd_ne pf)
  have g1 : Grow (fun a => a = p) H fo [] (upd H fo (.lst [])) := Grow.start hfo
  generalize upd H fo (.lst []) = H1 at hp1 g1 ⊢
  refine ⟨_, rfl, _, rfl, _, _, rfl, rfl, p, (m : Int) + 1, c, rfl, hp1, by omega, by omega, by omega, fun n H2 n0 n1 hp2 b2 => ⟨n, rfl, by omega, by omega, ?_⟩⟩
  have g2 : Grow (fun a => a = p) H fo [] H2 := by
    obtain ⟨acc, FA, a1, a2, a3, a4, a5⟩ := g1
    cases a2 with
    | nil e => exact ⟨[], FA, b2.off _ _ a1 (Ne.symm pf), .nil e, a3, a4, a5.trans b2.off⟩
  refine for_range (lo := 0) (n := n.toNat) (fun i σ H' => ∃ (w4 w5 w6 w7 w8 : Option V) (rs : List Rul) (c' : Nat), σ = [some (.ref p), some (.ref a), some (.int m), some (.ref fo), w4, w5, w6, w7, w8] ∧ Grow (fun a => a = p) H fo (rs.map rulD) H' ∧
    rs.length ≤ i ∧ (∀ r ∈ rs, RulOk ts r) ∧ Pu H' p c' ∧ c' ≤ c + 1 + 29 * i) ⟨none, none, none, none, none, [], c + 1, rfl, g2, by simp, fun r h => absurd h (by simp), hp2, by omega⟩ (fun i σ H' hi g => ?_) fun σ H' g => ?_
  · obtain ⟨w4, w5, w6, w7, w8, rs, c', rfl, g, hl, hr', hp', hc'⟩ := g
    have hi2 : i < 41 := by omega
    have offH : Off (fun a => a = p) H H' := by
      obtain ⟨_, _, _, _, _, _, h⟩ := g
      exact h
    have hv' := dp_but offH hp hv (noInt_tabs ts)
    obtain ⟨xs', sq', _, len'⟩ := dp_tabs_ref hv'
    have tl := tok.one
    have tm := tok.most
    refine ⟨_, rfl, _, rfl, _, rfl, a, xs', rfl, .inl sq', p, (xs'.length : Int), c', rfl, hp', by omega, by omega, by omega, fun k H4 k0 k1 hp4 b4 => ?_⟩
    have hv4 := dp_but b4.off hp' hv' (noInt_tabs ts)
    obtain ⟨xs4, t, ta, ca, s1, s2, s3, _, s4, s5⟩ := tab_at hv4 k0 (by omega)
    have cm := (tok.each t s3).most
    have co := (tok.each t s3).one
    refine ⟨a, xs4, k, _, rfl, rfl, s1, s2, ta, _, rfl, s4, rfl, _, _, rfl, _, _, rfl, rfl, ?_⟩
    obtain ⟨xs4p, ep4⟩ := id hp4.lst
    refine ⟨_, rfl, ca, rfl, ⟨_, dp_cols_ref s5⟩, fun D hD => lc_list (K := K) (a := ca) (xs := t.2.map V.str)
      (fun j H5 => ∃ (cs : List Str) (c5 : Nat), H5 D = some (.lst (cs.map V.str)) ∧ cs.Sublist (t.2.take j) ∧ Pu H5 p c5 ∧ c5 ≤ c' + 1 + j ∧ Off (fun a => a = p) H4 H5)
      ⟨[], c' + 1, upd_same, List.nil_sublist _, hp4.at (upd_ne (ne_of_none ep4 hD)), by omega, Off.new hD⟩ (fun j H5 _ g5 => ?_) (fun j x H5 hx g5 => ?_) fun H5 g5 => ?_⟩
    · obtain ⟨_, _, _, _, _, _, o5⟩ := g5
      exact dp_cols_ref (dp_but o5 hp4 s5 (noInt_cols _))
    · obtain ⟨cs, c5, e5, sub, hp5, hc5, o5⟩ := g5
      rw [List.getElem?_map] at hx
      cases hy : t.2[j]? with
      | none => rw [hy] at hx; cases hx
      | some y =>
      rw [hy] at hx
      cases hx
      have hj : j < t.2.length := (List.getElem?_eq_some_iff.mp hy).1
      have pD : D ≠ p := fun z => ne_of_none ep4 hD z.symm
      refine ⟨rfl, _, rfl, p, 2, c5, rfl, hp5, by omega, by decide, by decide, fun z H6 _ _ hp6 b6 => ⟨rfl, _, rfl, ite2 (fun _ => ?_) (fun _ => ?_)⟩⟩
      · have sl := sub.length_le
        rw [List.length_take] at sl
        refine ⟨_, rfl, cs.map V.str, b6.off _ _ e5 pD, by rw [List.length_map]; exact small1000 (by omega), cs ++ [y], c5 + 1, by rw [upd_same, List.map_append]; rfl, ?_, hp6.at (upd_ne (Ne.symm pD)), by omega, fun b u eb nb => ?_⟩
        · rw [List.take_add_one, hy]
          exact sub.append (List.Sublist.refl _)
        · rw [upd_ne (fun z => by rw [z, hD] at eb; cases eb)]
          exact b6.off _ _ (o5 _ _ eb nb) nb
      · refine ⟨cs, c5 + 1, b6.off _ _ e5 pD, ?_, hp6, by omega, o5.trans b6.off⟩
        rw [List.take_add_one]
        exact sub.trans (List.sublist_append_left _ _)
    · obtain ⟨cs, c5, e5, sub, hp5, hc5, o5⟩ := g5
      rw [List.length_map] at hc5 sub
      rw [List.take_length] at sub
      have pD : D ≠ p := fun z => ne_of_none ep4 hD z.symm
      have nD : H' D = none := b4.off.none hD pD
      obtain ⟨xs1, ep1⟩ := hp'.lst
      refine ⟨_, rfl, p, 2, c5, rfl, hp5, by omega, by decide, by decide, fun z H6 _ _ hp6 b6 => ⟨rfl, _, rfl, ite2 (fun _ => ?_) (fun _ => ?_)⟩⟩
      · have o6 : Off (fun a => a = p) H' H6 := b4.off.trans (o5.trans b6.off)
        obtain ⟨acc, ga1, ga2⟩ := g.len
        have e6 := b6.off _ _ e5 pD
        refine ⟨_, rfl, .inl ⟨rfl, _, SqL.of (o6 _ _ ga1 (Ne.symm pf))⟩, _, rfl, _, rfl, (by show 3 ≤ sizeLine; decide), fun tp htp => ?_⟩
        have Dt : D ≠ tp := fun z => by rw [z, htp] at e6; cases e6
        have pt : p ≠ tp := fun z => by
          obtain ⟨xs, ep⟩ := hp6.lst
          rw [z, htp] at ep
          cases ep
        have o7 : Off (fun a => a = p) H' (upd H6 tp (.tup [.str "key", .str t.1, .ref D])) := o6.trans (Off.new htp)
        have ow : Ow (upd H6 tp (.tup [.str "key", .str t.1, .ref D])) (.ref tp) (rulD (t.1, cs, none)) (fun a => a = D) :=
          .tup upd_same (owc_str (owc_str (owc (ow_strs ((upd_ne Dt).trans e6)) ow0)))
        obtain ⟨acc2, a1, a2, a3⟩ := g.step hfo (fun a z => by rw [z, ep0]; simp) (fun a z => by rw [z]; exact ⟨_, ep1⟩) ow (fun a z => by rw [z]; exact nD) o7
        refine ⟨fo, acc2, _, rfl, rfl, a1, small1000 (by rw [a2, List.length_map]; omega), _, _, _, _, _, rs ++ [(t.1, cs, none)], c5 + 1, rfl, ?_, ?_, ?_, ?_, ?_⟩
        · rw [List.map_append]
          exact a3
        · rw [List.length_append]
          exact Nat.succ_le_succ hl
        · intro r h
          rcases List.mem_append.mp h with h | h
          · exact hr' r h
          · rw [List.mem_singleton.mp h]
            exact ⟨t, s3, rfl, sub, fun c h => by cases h⟩
        · exact (hp6.at (upd_ne pt)).at (upd_ne pf)
        · omega
      · have sq6 := dp_cols_ref (dp_but (o5.trans b6.off) hp4 s5 (noInt_cols _))
        refine ⟨_, rfl, _, rfl, _, rfl, ca, _, rfl, .inl sq6, p, ((t.2.map V.str).length : Int), c5 + 1, rfl, hp6, by omega, by rw [List.length_map]; omega, by rw [List.length_map]; omega, fun e H7 e0 e1 hp7 b7 => ?_⟩
        rw [List.length_map] at e1
        have sq7 := dp_cols_ref (dp_but (o5.trans (b6.off.trans b7.off)) hp4 s5 (noInt_cols _))
        obtain ⟨y, y1, y2, _⟩ := col_at e0 e1
        refine ⟨ca, _, e, _, rfl, rfl, sq7, y1, ?_⟩
        have o6 : Off (fun a => a = p) H' H7 := b4.off.trans (o5.trans (b6.off.trans b7.off))
        obtain ⟨acc, ga1, ga2⟩ := g.len
        have e7 := b7.off _ _ (b6.off _ _ e5 pD) pD
        refine ⟨_, rfl, .inl ⟨rfl, _, SqL.of (o6 _ _ ga1 (Ne.symm pf))⟩, _, rfl, _, rfl, _, rfl, (by show 4 ≤ sizeLine; decide), fun tp htp => ?_⟩
        have Dt : D ≠ tp := fun z => by rw [z, htp] at e7; cases e7
        have pt : p ≠ tp := fun z => by
          obtain ⟨xs, ep⟩ := hp7.lst
          rw [z, htp] at ep
          cases ep
        have o7 : Off (fun a => a = p) H' (upd H7 tp (.tup [.str "settles", .str t.1, .ref D, .str y])) := o6.trans (Off.new htp)
        have ow : Ow (upd H7 tp (.tup [.str "settles", .str t.1, .ref D, .str y])) (.ref tp) (rulD (t.1, cs, some y)) (fun a => a = D) :=
          .tup upd_same (owc_str (owc_str (owc (ow_strs ((upd_ne Dt).trans e7)) (owc_str ow0))))
        obtain ⟨acc2, a1, a2, a3⟩ := g.step hfo (fun a z => by rw [z, ep0]; simp) (fun a z => by rw [z]; exact ⟨_, ep1⟩) ow (fun a z => by rw [z]; exact nD) o7
        refine ⟨fo, acc2, _, rfl, rfl, a1, small1000 (by rw [a2, List.length_map]; omega), _, _, _, _, _, rs ++ [(t.1, cs, some y)], c5 + 2, rfl, ?_, ?_, ?_, ?_, ?_⟩
        · rw [List.map_append]
          exact a3
        · rw [List.length_append]
          exact Nat.succ_le_succ hl
        · intro r h
          rcases List.mem_append.mp h with h | h
          · exact hr' r h
          · rw [List.mem_singleton.mp h]
            exact ⟨t, s3, rfl, sub, fun c h => by cases h; exact y2⟩
        · exact (hp7.at (upd_ne pt)).at (upd_ne pf)
        · omega
  · obtain ⟨w4, w5, w6, w7, w8, rs, c', rfl, g, hl, hr', hp', hc'⟩ := g
    obtain ⟨F', o', f', k'⟩ := g.list hfo
    exact ⟨_, rfl, q rs fo F' H' c' (by omega) hr' o' f' hp' (by omega) k'⟩
end
end LW
set_option Elab.async false
set_option linter.all false
set_option maxRecDepth 100000
set_option maxHeartbeats 4000000
/-! A caught error that is kept behind its clause. -/
namespace KV
open PySem PySem.Spec PyProof.Rows L2
/-- at a: a caught error of this class, its dict at d -/
def exk (a : Addr) (cls : Value) (d : Option Addr) : HO := .ext fun h => ∃ oe vs, h.get? a = some oe ∧ oe.cls = cls ∧ oe.dict = d ∧ oe.data = .fields vs
theorem exk_ok {P : Program} {w : World} {H : Hp} {h : Heap} {a : Addr} {cls : Value} {d : Option Addr} {oe : Obj} {vs : Array Value} (he : h.get? a = some oe) (hz : Zc cls d oe) (hd : oe.data = .fields vs) :
    ObjOk P w H h a (exk a cls d) :=
  ⟨⟨oe, vs, he, hz.1, hz.2, hd⟩, ⟨oe, he⟩, fun h1 h2 z k => by
    obtain ⟨o1, v1, e1, e2, e3, e4⟩ := z
    exact ⟨o1, v1, k _ e1, e2, e3, e4⟩⟩
theorem keepX {X : Cx} {pins : List (Addr × Obj)} {σ : L2.St} {H : Hp} {s : Shared} {a : Addr} {oe : Obj} {vs : Array Value} {cls : Value} {d : Option Addr} (I : L2.Inv X pins σ H s) (he : s.heap.get? a = some oe) (hz : Zc cls d oe)
    (hd : oe.data = .fields vs) (na : H a = none) (nL : a ≠ X.env.locals) (n0 : X.s_0.heap.get? a = none) (np : ∀ p ∈ X.pn ++ pins, p.1 ≠ a) : L2.Inv X pins σ (upd H a (exk a cls d)) s where
  ok := I.ok
  os := I.os
  bare := I.bare
  base := {
    keep := I.base.keep
    slot := I.base.slot
    free := fun b o h1 h2 h3 => by
      rw [upd_ne fun z => by rw [z, n0] at h1; cases h1]
      exact I.base.free b o h1 h2 h3
    there := I.base.there
    tups := fun b xs h => by
      have q := I.base.tups b xs h
      rw [upd_ne fun z => by rw [z, na] at q; cases q]
      exact q
    frzs := fun b o u h => by
      have q := I.base.frzs b o u h
      rw [upd_ne fun z => by rw [z, na] at q; cases q]
      exact q
    tbls := fun b ps h => by
      obtain ⟨m, q⟩ := I.base.tbls b ps h
      refine ⟨m, ?_⟩
      rw [upd_ne fun z => by rw [z, na] at q; cases q]
      exact q }
  loc := I.loc
  cell := I.cell
  free := by
    rw [upd_ne (Ne.symm nL)]
    exact I.free
  freeC := fun x c h => by
    obtain ⟨v, q⟩ := I.cell x c h
    rw [upd_ne fun z => by
      rw [z] at q
      obtain ⟨o, q1, q2⟩ := q
      rw [he] at q1
      cases q1
      rw [hd] at q2
      cases q2]
    exact I.freeC x c h
  pin := fun p hp => by
    obtain ⟨h1, h2, h3⟩ := I.pin p hp
    refine ⟨h1, ?_, h3⟩
    rw [upd_ne (np p hp)]
    exact h2
  hok := fun b o h => by
    by_cases e : b = a
    · subst e
      rw [upd_same] at h
      cases h
      exact exk_ok he hz hd
    · rw [upd_ne e] at h
      refine (I.hok b o h).stay (fun c u _ q => q) (fun c q => ?_) fun c xs q => ?_
      · rw [upd_ne fun z => by rw [z, na] at q; cases q]
        exact q
      · rw [upd_ne fun z => by rw [z, na] at q; cases q]
        exact q
  len := I.len
/-- what follows, with the error kept -/
def kEnds (i : Nat) (a : Addr) (cls : Value) (d : Option Addr) (D : Ends) : Ends where
  nx := fun σ' H' => H' a = none ∧ D.nx (σ'.set i none) (upd H' a (exk a cls d))
  rt := fun v H' => H' a = none ∧ D.rt v (upd H' a (exk a cls d))
  bk := fun σ' H' => H' a = none ∧ D.bk (σ'.set i none) (upd H' a (exk a cls d))
  ct := fun σ' H' => H' a = none ∧ D.ct (σ'.set i none) (upd H' a (exk a cls d))
/-- the wish of a try whose clause keeps the error -/
def wKeep (K : PySem.W.Frag) (c : Value) (i : Nat) (ts : Addr → Value → Option Addr → TS) (Wout : WX) (D : Ends) : WX := fun cls d σ H => ∃ b, PySem.W.exmOne K cls c = some b ∧
  (b = true → ∀ a, H a = none → ts a cls d (kEnds i a cls d D) (σ.set i (some (.ref a))) H) ∧ (b = false → Wout cls d σ H)
theorem ps_try_keep {X : Cx} {x n : Str} {c : Value} {i : Nat} {body suite : List Stmt} {b₀ : Stmt} {np pos pos' : Pos} {tb : WX → TS} {ts : Addr → Value → Option Addr → TS} {Wout : WX}
    (hs : X.stack = X.env :: X.outer) (hf : X.env.frame = some X.env.locals) (hN : X.N.Nodup) (hi : X.N[i]? = some n) (hln : X.env.kindOf n = some NameKind.local) (hx : X.ex = []) (hc : Names X x c) (tk : Takes X Wout)
    (hb : ∀ (W : WX) (pn : List (Addr × Obj)) (xe : Value → Shared → Prop), Takes (X.tr pn xe) W → PassesOwn (model X.prog X.w) X.A X.env xe → PSs (X.tr pn xe) body (tb W))
    (hsu : ∀ (a : Addr) (oe : Obj) (cls : Value) (d : Option Addr) (pn : List (Addr × Obj)), Zc cls d oe → (∃ vs, oe.data = Data.fields vs) → PSs (X.suite a ((a, oe) :: pn)) (b₀ :: suite) (ts a cls d)) :
    PS X (Stmt.Try body [ExceptHandler.ExceptHandler (some (Expr.Name x np)) (some n) (b₀ :: suite) pos'] [] [] pos) fun D σ H => tb (wKeep X.K c i ts Wout D) D σ H := by
  constructor
  intro pins s σ H D I h
  have ok := I.ok
  have hfr : X.A.frames = some (X.env :: X.outer) := by rw [ok.frames, hs]
  have hloc : L2.Loc X.env.scope n := Or.inl hln
  let xe' : Value → Shared → Prop := fun e s₁ => wpAny (model X.prog X.w) X.A (noteFrame e X.env) (fun _ s₂ => wpAny (model X.prog X.w) X.A (setFlight e none)
    (fun _ s₃ => wpAny (model X.prog X.w) X.A (handleBy e X.env [ExceptHandler.ExceptHandler (some (Expr.Name x np)) (some n) (b₀ :: suite) pos']) (SP X pins D) X.xe s₃) X.xe s₂) X.xe s₁
  have tk' : Takes (X.tr (X.pn ++ pins) xe') (wKeep X.K c i ts Wout D) := ?_
  refine wpAny_Try_except (wpAny_mono ((hb (wKeep X.K c i ts Wout D) (X.pn ++ pins) xe' tk' PassesOwn.looking).run [] s σ H D (Inv.toTry I xe') h) ?_ (fun _ _ z => z))
  rotate_left
  · intro u s' xx
    obtain ⟨a, B, sI, pins', σ', H', cls, d, rfl, J', nb, up, sky, na, os, ag, b, hb1, hyes, hno⟩ := xx
    have J := Inv.ofTry J' ok
    have sky' : Sky B (X.env :: X.outer) a (Zc cls d) X.env.locals s'.heap := by rw [← hs]; exact sky
    refine Sky.land Zc.steady hfr hf sky' fun h3 fl3 up3 => ?_
    have J3 := Inv.landed (X := X) (s' := ⟨h3, s'.gens, s'.drawn, s'.toks, s'.os⟩) J nb fl3.1 (up.trans up3) os ag
    obtain ⟨oe3, vs3, he3, hz3, hd3⟩ := HandSPX.FlyingZ.there fl3
    have nfr : a ∉ List.filterMap (fun e : Env => e.frame) (X.env :: X.outer) := fun hm => by
      obtain ⟨_, o', e', hnf⟩ := fl3.2.2.1.mem hm
      rw [he3] at e'
      cases e'
      exact hnf _ hd3
    have nL : a ≠ X.env.locals := fun z => nfr (List.mem_filterMap.mpr ⟨X.env, List.mem_cons_self, by rw [hf, z]⟩)
    have nF : a ∉ X.fs := fun hm => by
      obtain ⟨e, he, q⟩ := List.mem_filterMap.mp hm
      exact nfr (List.mem_filterMap.mpr ⟨e, List.mem_cons_of_mem _ he, q⟩)
    have nB : B.get? a = none := fl3.2.1
    have nfs : a ∉ frs X.stack := by
      rw [hs]
      exact nfr
    have nI : ∀ o, sI.heap.get? a ≠ some o := fun o z => by
      have q := nb a o z nfs
      rw [nB] at q
      cases q
    have n0 : X.s_0.heap.get? a = none := by
      cases q : X.s_0.heap.get? a with
      | none => rfl
      | some o =>
        obtain ⟨o', q'⟩ := J.base.there a o q (by rw [hx]; simp)
        exact absurd q' (nI o')
    have npn : ∀ p ∈ X.pn ++ pins, p.1 ≠ a := fun p hp z => by
      have q := (J.pin p hp).1
      rw [z] at q
      exact nI _ q
    have S3 := Inv.suite J3 he3 hd3 na nL nF
    refine wpAny_handleBy_cons (codeAny_handlers_test ?_) (fun q => by cases q)
    have LT : PySem.W.Looks (model X.prog X.w) h3 (typeOf (.ref a)) cls := fun A Q E s k q => wpAny_typeOf_ref (k a oe3 he3) (by rw [hz3.1]; exact q)
    have LM := PySem.W.exm_one (J3.kIn) LT hb1
    have test : ∀ {Q : Value → Shared → Prop} {E : Value → Shared → Prop}, Q c ⟨h3, s'.gens, s'.drawn, s'.toks, s'.os⟩ →
        wpAny (model X.prog X.w) (X.suite a ((a, oe3) :: (X.pn ++ pins))).A (eval (.Name x np) X.env) Q E ⟨h3, s'.gens, s'.drawn, s'.toks, s'.os⟩ := by
      intro Q E q
      obtain ⟨hg, hdbg, hm | ⟨hm, hv, hnn⟩⟩ := hc
      · exact ld_glob S3 hg hm q hdbg
      · exact ld_blt S3 hg hm hv q hnn hdbg
    refine test (PySem.W.Looks.here LM ?_)
    cases b with
    | false =>
      show wpAny _ _ (handleBy _ _ []) _ _ _
      refine wpAny_handleBy_nil ?_
      obtain ⟨k1, k2, k3, oe, vs, T, oT, ts', he, hz, hd, h1, hr⟩ := id fl3
      refine wpAny_bind (wpAny_field he hd h1 ?_)
      have nn : ¬ ((Value.ref T == Value.none) = true) := fun z => by cases (beq_iff_eq.mp z)
      rw [if_neg nn]
      refine wpAny_bind ?_
      rw [hf]
      refine HandSPX.setFlight_upZ fl3 fun h4 hh4 up4 => ?_
      refine wpAny_throw (tk (.ref a) _ ⟨a, B, sI, pins, σ', H', cls, d, rfl, J, nb, (up.trans up3).trans up4, ?_, na, os, ag, hno rfl⟩)
      rw [hs]
      exact Or.inr (Or.inr hh4)
    | true =>
      show codeAny _ _ _ _ _
      refine codeAny_handlers_suite_as (HandSPX.lands_againZ fl3 fun h4 fl4 up4 => ?_)
      have J4 := Inv.landed (X := X) (s' := ⟨h4, s'.gens, s'.drawn, s'.toks, s'.os⟩) J nb fl4.1 ((up.trans up3).trans up4) os ag
      obtain ⟨oe4, vs4, he4, hz4, hd4⟩ := HandSPX.FlyingZ.there fl4
      have S4 := Inv.suite J4 he4 hd4 na nL nF
      refine store_ok (X := X.suite a ((a, oe4) :: (X.pn ++ pins))) (v := V.ref a) S4 hN hi hloc rfl (fun s5 S5 => ?_) (Or.inr hln)
      refine wpAny_mono ((hsu a oe4 cls d (X.pn ++ pins) hz4 ⟨vs4, hd4⟩).run [] s5 (List.set σ' i (some (V.ref a))) H' (kEnds i a cls d D) S5 (hyes rfl a na)) (fun f s6 hsp => ?_) (fun _ _ z => False.elim z)
      have end_ : ∀ {σ6 : L2.St} {H6 : Hp} {Q : Unit → Shared → Prop}, L2.Inv (X.suite a ((a, oe4) :: (X.pn ++ pins))) [] σ6 H6 s6 → H6 a = none → (∀ s7, L2.Inv X pins (List.set σ6 i none) (upd H6 a (exk a cls d)) s7 → Q () s7) →
          wpAny (model X.prog X.w) X.A (do
            bindName X.env n Value.none
            unbindBehindTheSuite X.env n pos') Q X.xe s6 := by
        intro σ6 H6 Q S6 n6 hq
        have he6 : s6.heap.get? a = some oe4 := (S6.pin (a, oe4) (by simp)).1
        exact gone_ok (keepX (Inv.unsuite S6 ok) he6 hz4 hd4 n6 nL n0 npn) hN hi hln hq
      cases f with
      | next =>
        obtain ⟨σ6, H6, S6, n6, q6⟩ := hsp
        exact end_ S6 n6 fun s7 J7 => ⟨_, _, J7, q6⟩
      | brk =>
        obtain ⟨σ6, H6, S6, n6, q6⟩ := hsp
        exact end_ S6 n6 fun s7 J7 => ⟨_, _, J7, q6⟩
      | cont =>
        obtain ⟨σ6, H6, S6, n6, q6⟩ := hsp
        exact end_ S6 n6 fun s7 J7 => ⟨_, _, J7, q6⟩
      | ret u =>
        obtain ⟨v6, σ6, H6, S6, r6, n6, q6⟩ := hsp
        exact end_ S6 n6 fun s7 J7 => ⟨v6, _, _, J7, r6, q6⟩
  · intro f s1 hsp
    cases f with
    | next =>
      obtain ⟨σ', H', J', q⟩ := hsp
      exact wpAny_execs_nil ⟨σ', H', Inv.ofTry J' ok, q⟩
    | brk =>
      obtain ⟨σ', H', J', q⟩ := hsp
      exact ⟨σ', H', Inv.ofTry J' ok, q⟩
    | cont =>
      obtain ⟨σ', H', J', q⟩ := hsp
      exact ⟨σ', H', Inv.ofTry J' ok, q⟩
    | ret u =>
      obtain ⟨v, σ', H', J', r, q⟩ := hsp
      exact ⟨v, σ', H', Inv.ofTry J' ok, r, q⟩
end KV
set_option Elab.async false
set_option linter.all false
set_option maxRecDepth 100000
set_option maxHeartbeats 4000000
/-! What a kept error tells: its class, its field. -/
namespace KV
open PySem PySem.Spec PyProof.Rows L2
/-- at a: a kept error of class C with these fields -/
def Cau (H : Hp) (a C dx : Addr) (fs : List (Str × V)) : Prop := H a = some (exk a (.ref C) (some dx)) ∧ H dx = some (.xd fs)
theorem cau_at {P : Program} {w : World} {H : Hp} {h : Heap} {a C dx : Addr} {fs : List (Str × V)} (hok : HOk P w H h) (e : Cau H a C dx fs) :
    ∃ oe mA od, PySem.W.InstAt h a oe C (some od) ∧ oe.dict = some dx ∧ h.Ns1 dx mA ∧ h.get? dx = some od ∧ (∀ f, PySem.W.lookIn f od = some (mA f)) ∧ ∀ f : Str, RelO (List.lookup f fs) (mA f) := by
  have h1 := hok _ _ e.1
  have h2 := hok _ _ e.2
  unfold ObjOk at h2
  obtain ⟨⟨oe, vs, he, hc, hd, hf⟩, _⟩ := h1
  obtain ⟨mA, hns, hr⟩ := h2
  obtain ⟨od, hod, hl⟩ := lookIn_ns hns
  obtain ⟨c, d, dat, sl⟩ := oe
  dsimp only at hc hd hf
  subst hc hd hf
  exact ⟨_, mA, od, ⟨he, rfl, rfl, hod⟩, rfl, hns, hod, hl, hr⟩
section
variable {X : Cx} {f : Str} {pos : Pos} {e : Expr} {te : TE}
/-- the field of a kept error -/
def tGetK (K : PySem.W.Frag) (f : Str) (te : TE) : TE := fun σ H Q => te σ H fun x H1 => ∃ (a C dx : Addr) (fs : List (Str × V)) (v : V), x = .ref a ∧ XfC K C ∧ PySem.W.findIn K (.ref C) f = some none ∧
  Cau H1 a C dx fs ∧ fs.lookup f = some v ∧ Q v H1
theorem pe_getK (he : PE X e te) (hb : attributeBase e f X.env (eval e X.env) = eval e X.env := by rfl) : PE X (.Attribute e f pos) (tGetK X.K f te) := by
  constructor
  intro pins s σ H Q I h
  refine attr_of hb (thn (he.run pins s σ H _ I h) ?_)
  rintro u s1 ⟨x, H1, I1, rx, a, C, dx, fs, v, rfl, T, hno, ea, l, q⟩
  cases rx
  obtain ⟨oe, mA, od, J, hdx, hns, hod, hl, hr⟩ := cau_at I1.hok ea
  obtain ⟨u, hu, ru⟩ := RelO.some_of (v := v) (o := mA f) (by rw [← l]; exact hr f)
  exact HandSPX.exc_get I1.kIn J T.ga T.gg T.exC (PySem.W.findObj_own T.hdC hno rfl (by rw [hl, hu])) (handed_of ru) ⟨v, H1, I1.tok _, ru, q⟩
/-- isinstance(x, C), x a kept error -/
def rIsK (K : PySem.W.Frag) : List V → Hp → VK → Prop := fun xs H Q => ∃ (a D dx : Addr) (fs : List (Str × V)) (c : V) (u : Value) (b : Bool), xs = [.ref a, c] ∧ ClsV c u ∧ PySem.W.ErrC K D ∧
  Cau H a D dx fs ∧ PySem.W.kitOne K (.ref D) u = some b ∧ Q (.bl b) H
theorem call_isK : CallR X (.builtin "isinstance") (rIsK X.K) := by
  intro pins s σ H xs us Q I r h
  obtain ⟨a, D, dx, fs, c, u, b, rfl, k, cls, ea, e, q⟩ := h
  obtain ⟨u1, u2, rfl, r1, r2⟩ := vals2 r
  have e2 := k.eq r2
  subst e2
  cases r1
  obtain ⟨oe, mA, od, J, _⟩ := cau_at I.hok ea
  exact PySem.W.kia_one (PySem.W.err_kit cls) I.kIn J e (fun z => nomatch z) fun tk => ⟨.bl b, H, I.tok tk, rfl, q⟩
end
end KV
set_option Elab.async false
set_option linter.all false
set_option maxRecDepth 100000
set_option maxHeartbeats 4000000
namespace LW
open PySem PySem.Spec PyProof.Rows L2 KV
/-- a comprehension over zip of two lists of one length -/
theorem lc_zip {K : PySem.W.Frag} {a b : Addr} {xs ys : List V} {g : TG} {tt : TT} {te : TE} {vs : List Nat} {σ : L2.St} {H1 : Hp} {D : Addr} {Qd : Hp → Prop} (Pv : Nat → Hp → Prop) (hxy : xs.length = ys.length)
    (h0 : Pv 0 (upd H1 D (.lst []))) (hl : ∀ i H, i ≤ xs.length → Pv i H → SqL K H a xs ∧ SqL K H b ys)
    (hs : ∀ i x y H T, xs[i]? = some x → ys[i]? = some y → Pv i H → H T = none → g (.ref T) (wipe σ vs) (upd H T (.tup [x, y])) fun σ2 H2 => wipe σ2 vs = wipe σ vs ∧ tt σ2 H2 fun c H3 =>
      if c = true then te σ2 H3 fun y H4 => ∃ acc, H4 D = some (.lst acc) ∧ acc.length < sizeLine ∧ Pv (i + 1) (upd H4 D (.lst (acc ++ [y]))) else Pv (i + 1) H3)
    (hd : ∀ H, Pv xs.length H → Qd H) :
    ∃ W : Nat → Nat → Hp → Prop, (∃ m, W 0 m (upd H1 D (.lst []))) ∧ ∀ i m H, W i m H →
      ((Itz K a b).stop i H ∧ Qd H) ∨ ((Itz K a b).go i H ∧ ∃ Nx : Hp → Prop, (∀ H', Nx H' → ∃ m', m' < m ∧ W (i + 1) m' H') ∧ ∀ x H', (Itz K a b).yld i H x H' → g x (wipe σ vs) H' fun σ2 H2 => wipe σ2 vs = wipe σ vs ∧ tt σ2 H2 fun c H3 =>
        if c = true then te σ2 H3 fun y H4 => ∃ acc, H4 D = some (.lst acc) ∧ acc.length < sizeLine ∧ Nx (upd H4 D (.lst (acc ++ [y]))) else Nx H3) := by
  refine ⟨fun i m H => m = xs.length - i ∧ i ≤ xs.length ∧ Pv i H, ⟨_, rfl, Nat.zero_le _, h0⟩, ?_⟩
  rintro i m H ⟨rfl, hi, pv⟩
  obtain ⟨q1, q2⟩ := hl i H hi pv
  rcases Nat.lt_or_ge i xs.length with lt | ge
  · have ly : i < ys.length := by omega
    refine .inr ⟨⟨xs, ys, xs[i], ys[i], q1, q2, by simp [lt], by simp [ly]⟩, Pv (i + 1), fun H' z => ⟨xs.length - (i + 1), by omega, rfl, lt, z⟩, ?_⟩
    rintro v H' ⟨T, x, y, rfl, hT, rfl, e1, e2⟩
    exact hs i x y H T (e1 xs q1) (e2 ys q2) pv hT
  · have e : i = xs.length := by omega
    rw [e] at pv
    exact .inl ⟨⟨xs, ys, q1, q2, .inl ge⟩, hd H pv⟩
theorem cau_off {H H' : Hp} {a C dx : Addr} {fs : List (Str × V)} (h : Cau H a C dx fs) (k : Off (fun _ => False) H H') : Cau H' a C dx fs := ⟨k _ _ h.1 id, k _ _ h.2 id⟩
def names : List Str := ["KeyTellError", "BrokenRule", "DoubleName", "InvalidName", "InvalidQuestion", "InvalidRow", "InvalidRule", "NoSuchRow", "NothingToUndo", "UnknownColumn", "UnknownTable", "Unreadable"]
section
variable {P : Program} {w : World} {K : PySem.W.Frag} {mg : Str → Option Value} {base : Heap}
/-! ### KeyTellError.__init__ -/
theorem scInit : FnScope ["self", "value"] ["self", "value"] (defScope pKeyTellError_init) := ⟨rfl, rfl, rfl, by decide +kernel, rfl, by decide +kernel, by decide +kernel⟩
theorem ok_init {f : Addr} {fd : FuncData} (F : FunD K "__init__" "KeyTellError.__init__" (defArgs pKeyTellError_init) (defBody pKeyTellError_init) (defScope pKeyTellError_init) [] [] f fd) :
    FnOk P w K mg base CX0 1 f fd ["self", "value"] (spInit K "value") := by
  refine F.ok scInit (fun vs H Q E h => ?_) (fun cdv A outer s H vs Q E hr h => ?_)
  · obtain ⟨a, C, v, rfl, _⟩ := h
    rfl
  obtain ⟨a, C, v, rfl, T, no, e, q⟩ := h
  refine ⟨_, pss_one (ps_ost (pv 0) (pv 1)), ?_⟩
  exact ⟨_, rfl, _, rfl, a, C, rfl, T, no, .inl ⟨e, fun dx h1 h2 => q dx h1 h2⟩⟩
/-- what both lean on -/
structure ErrT (P : Program) (w : World) (K : PySem.W.Frag) (mg : Str → Option Value) (base : Heap) (fdI : FuncData) : Prop where
  es : Errs K "value" "KeyTellError" names
  g : ∀ x ∈ names, mg x = some (.ref (He.ga K x))
  ini : FnOk P w K mg base CX0 1 (He.ma K (He.ga K "KeyTellError") "__init__") fdI ["self", "value"] (spInit K "value")
  b : Binds K fdI ["self", "value"] []
  bk : ∀ (s : Shared) (a u : Value), BindsTo s fdI ⟨[a], [("value", u)]⟩ [("self", a), ("value", u)]
/-! ### _law_kinds -/
def kinds (x : Str) : List Str := names.tail.filter fun y => decide (x = y)
def spKinds (K : PySem.W.Frag) : Sp := fun vs H Q _ => ∃ (a dx : Addr) (x : Str) (fs : List (Str × V)), vs = [.ref a] ∧ x ∈ names ∧ Cau H a (He.ga K x) dx fs ∧
  ∀ D H', H D = none → H' D = some (.lst ((kinds x).map V.str)) → Off (fun _ => False) H H' → Q (.ref D) H'
theorem scKinds : FnScope ["caught", "words", "told", "word", "is_so"] ["caught"] (defScope sKinds) := ⟨rfl, rfl, rfl, by decide +kernel, rfl, by decide +kernel, by decide +kernel⟩
theorem ok_kinds {f : Addr} {fd fdI : FuncData} (F : FnP K "_law_kinds" sKinds f fd) (T : ErrT P w K mg base fdI) (mi : mg "isinstance" = none) (mz : mg "zip" = none) : FnOk P w K mg base CX0 1 f fd ["caught"] (spKinds K) := by
  refine F.ok scKinds (fun vs H Q E h => ?_) (fun cdv A outer s H vs Q E hr h => ?_)
  · obtain ⟨a, dx, x, fs, rfl, _⟩ := h
    rfl
  obtain ⟨a, dx, x, fs, rfl, hx, ec, q⟩ := h
  have is : ∀ {X : Cx} (hX : X.K = K ∧ X.mg = mg) (y : Str) {p p1 p2 pos : Pos} (hy : y ∈ names), Gl X "isinstance" → Gl X y → (y == ("__debug__" : Str)) = false → PE X (.Name "caught" p1) (tVar 0) →
      PE X (.Call (.Name "isinstance" p) [.Name "caught" p1, .Name y p2] [] pos) (tCB (rIsK K) (tCons (tVar 0) (tCons (tC (.ref (He.ga K y))) tNil))) := by
    rintro X ⟨rfl, rfl⟩ y p p1 p2 pos hy hg1 hg2 hd he
    exact pe_callB call_isK hg1 mi boot_isinstance (pa_cons he (pa_cons (pe_glob hg2 (T.g y hy) rfl hd) pa_nil))
  refine ⟨_, pss_cons (ps_set (i := 1) scKinds.nd rfl (Or.inl rfl) (pe_lst (pa_cons pe_str (pa_cons pe_str (pa_cons pe_str (pa_cons pe_str (pa_cons pe_str (pa_cons pe_str (pa_cons pe_str pa_nil)))))))))
    (pss_cons (ps_set (i := 1) scKinds.nd rfl (Or.inl rfl) (pe_op op_cat (pv 1) (pe_lst (pa_cons pe_str (pa_cons pe_str (pa_cons pe_str (pa_cons pe_str pa_nil)))))))
    (pss_cons (ps_set (i := 2) scKinds.nd rfl (Or.inl rfl) (pe_lst (pa_cons (is ⟨rfl, rfl⟩ "BrokenRule" (by decide) rfl rfl rfl (pv 0)) (pa_cons (is ⟨rfl, rfl⟩ "DoubleName" (by decide) rfl rfl rfl (pv 0)) (pa_cons (is ⟨rfl, rfl⟩ "InvalidName" (by decide) rfl rfl rfl (pv 0)) pa_nil)))))
    (pss_cons (ps_set (i := 2) scKinds.nd rfl (Or.inl rfl) (pe_op op_cat (pv 2) (pe_lst (pa_cons (is ⟨rfl, rfl⟩ "InvalidQuestion" (by decide) rfl rfl rfl (pv 0)) (pa_cons (is ⟨rfl, rfl⟩ "InvalidRow" (by decide) rfl rfl rfl (pv 0)) pa_nil)))))
    (pss_cons (ps_set (i := 2) scKinds.nd rfl (Or.inl rfl) (pe_op op_cat (pv 2) (pe_lst (pa_cons (is ⟨rfl, rfl⟩ "InvalidRule" (by decide) rfl rfl rfl (pv 0)) (pa_cons (is ⟨rfl, rfl⟩ "NoSuchRow" (by decide) rfl rfl rfl (pv 0)) (pa_cons (is ⟨rfl, rfl⟩ "NothingToUndo" (by decide) rfl rfl rfl (pv 0)) pa_nil))))))
    (pss_cons (ps_set (i := 2) scKinds.nd rfl (Or.inl rfl) (pe_op op_cat (pv 2) (pe_lst (pa_cons (is ⟨rfl, rfl⟩ "UnknownColumn" (by decide) rfl rfl rfl (pv 0)) (pa_cons (is ⟨rfl, rfl⟩ "UnknownTable" (by decide) rfl rfl rfl (pv 0)) (pa_cons (is ⟨rfl, rfl⟩ "Unreadable" (by decide) rfl rfl rfl (pv 0)) pa_nil))))))
    (pss_one (ps_ret (pe_lc (own := [("word", 3), ("is_so", 4)]) (g := gTup K 2 (gCons (gName 3) (gCons (gName 4) gNil))) rfl scKinds.nd (pi_zip rfl mz (pa_cons (pv 1) (pa_cons (pv 2) pa_nil)))
        (blkOk_by (own := [("word", 3), ("is_so", 4)]) (N := ["caught", "words", "told", "word", "is_so"]) (sc := defScope sKinds) (by decide +kernel))
        (fun _ _ _ _ _ => pg_tup rfl (pgs_cons (pg_name (i := 3) scKinds.nd rfl (Or.inl rfl)) (pgs_cons (pg_name (i := 4) scKinds.nd rfl (Or.inl rfl)) pgs_nil)))
        (fun _ _ _ _ _ => pts_one (pt_val (pv 4))) (fun _ _ _ _ _ => pv 3))))))))), ?_⟩
  have kt : ∀ y, y ∈ names → PySem.W.kitOne K (.ref (He.ga K x)) (.ref (He.ga K y)) = some (decide (x = y) || decide (y = "KeyTellError")) := fun y hy => T.es.kit x hx y hy
  have er := (T.es.ok x hx).err
  have no : ¬ False := fun z => z
  have k0 : Off (fun _ => False) H H := Off.refl _ _
  refine ⟨by show 7 ≤ sizeLine; decide, fun p1 n1 => ?_⟩
  have k1 : ∀ o, Off (fun _ => False) H (upd _ p1 o) := fun o => k0.trans (Off.new n1)
  refine ⟨_, rfl, by show 4 ≤ sizeLine; decide, fun p2 n2 => ?_⟩
  have k2 : ∀ o, Off (fun _ => False) H (upd _ p2 o) := fun o => (k1 _).trans (Off.new n2)
  refine ⟨p1, p2, _, _, rfl, rfl, by rw [upd_ne (ne_of_none upd_same n2)]; exact upd_same, upd_same, by show 11 ≤ sizeLine; decide, fun p3 n3 => ?_⟩
  have k3 : ∀ o, Off (fun _ => False) H (upd _ p3 o) := fun o => (k2 _).trans (Off.new n3)
  refine ⟨_, rfl, a, _, dx, fs, _, _, _, rfl, .own _, er, cau_off ec (k3 _), kt "BrokenRule" (by decide), _, rfl, a, _, dx, fs, _, _, _, rfl, .own _, er, cau_off ec (k3 _), kt "DoubleName" (by decide), _, rfl, a, _, dx, fs, _, _, _, rfl, .own _, er, cau_off ec (k3 _), kt "InvalidName" (by decide), by show 3 ≤ sizeLine; decide, fun p4 n4 => ?_⟩
  have k4 : ∀ o, Off (fun _ => False) H (upd _ p4 o) := fun o => (k3 _).trans (Off.new n4)
  have j4 : ∀ o, Off (fun _ => False) _ (upd _ p4 o) := fun o => Off.new n4
  refine ⟨_, rfl, _, rfl, a, _, dx, fs, _, _, _, rfl, .own _, er, cau_off ec (k4 _), kt "InvalidQuestion" (by decide), _, rfl, a, _, dx, fs, _, _, _, rfl, .own _, er, cau_off ec (k4 _), kt "InvalidRow" (by decide), by show 2 ≤ sizeLine; decide, fun p5 n5 => ?_⟩
  have k5 : ∀ o, Off (fun _ => False) H (upd _ p5 o) := fun o => (k4 _).trans (Off.new n5)
  have j5 : ∀ o, Off (fun _ => False) _ (upd _ p5 o) := fun o => (j4 _).trans (Off.new n5)
  refine ⟨p4, p5, _, _, rfl, rfl, by rw [upd_ne (ne_of_none upd_same n5)]; exact upd_same, upd_same, by show 5 ≤ sizeLine; decide, fun p6 n6 => ?_⟩
  have k6 : ∀ o, Off (fun _ => False) H (upd _ p6 o) := fun o => (k5 _).trans (Off.new n6)
  have j6 : ∀ o, Off (fun _ => False) _ (upd _ p6 o) := fun o => (j5 _).trans (Off.new n6)
  refine ⟨_, rfl, _, rfl, a, _, dx, fs, _, _, _, rfl, .own _, er, cau_off ec (k6 _), kt "InvalidRule" (by decide), _, rfl, a, _, dx, fs, _, _, _, rfl, .own _, er, cau_off ec (k6 _), kt "NoSuchRow" (by decide), _, rfl, a, _, dx, fs, _, _, _, rfl, .own _, er, cau_off ec (k6 _), kt "NothingToUndo" (by decide), by show 3 ≤ sizeLine; decide, fun p7 n7 => ?_⟩
  have k7 : ∀ o, Off (fun _ => False) H (upd _ p7 o) := fun o => (k6 _).trans (Off.new n7)
  have j7 : ∀ o, Off (fun _ => False) _ (upd _ p7 o) := fun o => (j6 _).trans (Off.new n7)
  refine ⟨p6, p7, _, _, rfl, rfl, by rw [upd_ne (ne_of_none upd_same n7)]; exact upd_same, upd_same, by show 8 ≤ sizeLine; decide, fun p8 n8 => ?_⟩
  have k8 : ∀ o, Off (fun _ => False) H (upd _ p8 o) := fun o => (k7 _).trans (Off.new n8)
  have j8 : ∀ o, Off (fun _ => False) _ (upd _ p8 o) := fun o => (j7 _).trans (Off.new n8)
  refine ⟨_, rfl, _, rfl, a, _, dx, fs, _, _, _, rfl, .own _, er, cau_off ec (k8 _), kt "UnknownColumn" (by decide), _, rfl, a, _, dx, fs, _, _, _, rfl, .own _, er, cau_off ec (k8 _), kt "UnknownTable" (by decide), _, rfl, a, _, dx, fs, _, _, _, rfl, .own _, er, cau_off ec (k8 _), kt "Unreadable" (by decide), by show 3 ≤ sizeLine; decide, fun p9 n9 => ?_⟩
  have k9 : ∀ o, Off (fun _ => False) H (upd _ p9 o) := fun o => (k8 _).trans (Off.new n9)
  have j9 : ∀ o, Off (fun _ => False) _ (upd _ p9 o) := fun o => (j8 _).trans (Off.new n9)
  refine ⟨p8, p9, _, _, rfl, rfl, by rw [upd_ne (ne_of_none upd_same n9)]; exact upd_same, upd_same, by show 11 ≤ sizeLine; decide, fun p10 n10 => ?_⟩
  have k10 : ∀ o, Off (fun _ => False) H (upd _ p10 o) := fun o => (k9 _).trans (Off.new n10)
  have j10 : ∀ o, Off (fun _ => False) _ (upd _ p10 o) := fun o => (j9 _).trans (Off.new n10)
  refine ⟨_, rfl, _, rfl, p3, p10, names.tail.map V.str, names.tail.map (fun y => V.bl (decide (x = y) || decide (y = "KeyTellError"))), rfl, SqL.of (j10 _ _ _ upd_same no), SqL.of upd_same, fun D hD => ?_⟩
  have e3 := j10 (.lst (names.tail.map (fun y => V.bl (decide (x = y) || decide (y = "KeyTellError"))))) p3 _ upd_same no
  refine lc_zip (K := K) (a := p3) (b := p10) (xs := names.tail.map V.str) (ys := names.tail.map (fun y => V.bl (decide (x = y) || decide (y = "KeyTellError"))))
    (fun i H' => H' D = some (.lst (((names.tail.take i).filter fun y => decide (x = y)).map V.str)) ∧ Off (fun _ => False) _ H') (by rw [List.length_map, List.length_map]) ⟨upd_same, Off.new hD⟩
    (fun i H' _ g => ⟨SqL.of (g.2 _ _ e3 no), SqL.of (g.2 p10 _ upd_same no)⟩) (fun i x1 y1 H' Tp h1 h2 g hT => ?_) fun H' g => ?_
  · obtain ⟨g1, g2⟩ := g
    rw [List.getElem?_map] at h1 h2
    cases e : names.tail[i]? with
    | none =>
      rw [e] at h1
      cases h1
    | some y =>
    rw [e] at h1 h2
    have x1e := (Option.some.inj h1).symm
    subst x1e
    have hy : decide (y = "KeyTellError") = false := by
      have all : ∀ z ∈ names.tail, decide (z = "KeyTellError") = false := by decide
      exact all y (List.mem_of_getElem? e)
    have y1e : V.bl (decide (x = y) || decide (y = "KeyTellError")) = y1 := Option.some.inj h2
    rw [hy, Bool.or_false] at y1e
    subst y1e
    have tD : D ≠ Tp := ne_of_none g1 hT
    have l11 : ((names.tail.take i).filter fun y => decide (x = y)).length ≤ 11 := Nat.le_trans (List.length_filter_le _ _) (by rw [List.length_take]; exact Nat.le_trans (Nat.min_le_right _ _) (by decide))
    refine ⟨Tp, _, rfl, SqT.of upd_same, rfl, _, _, rfl, _, _, rfl, rfl, rfl, _, rfl, _, rfl, ?_⟩
    rw [List.take_add_one, e, List.filter_append]
    by_cases xy : x = y
    · rw [decide_eq_true xy]
      refine iteT ⟨_, rfl, _, by rw [upd_ne tD]; exact g1, by rw [List.length_map]; exact small1000 (by omega), ?_, ?_⟩
      · rw [upd_same]
        simp [xy]
      · intro c o ec nc
        have nD : c ≠ D := ne_of_none ec hD
        have ec' := g2 _ _ ec nc
        rw [upd_ne nD, upd_ne (ne_of_none ec' hT)]
        exact ec'
    · rw [decide_eq_false xy]
      refine iteF ⟨?_, g2.trans (Off.new hT)⟩
      rw [upd_ne tD]
      simpa [xy] using g1
  · obtain ⟨g1, g2⟩ := g
    rw [List.length_map, List.take_length] at g1
    refine q D H' ?_ g1 ((k10 _).trans g2)
    exact (k10 _).none hD no
end
end LW
set_option Elab.async false
set_option linter.all false
set_option maxRecDepth 100000
set_option maxHeartbeats 4000000
/-! x in xs, x not in xs: items of any data. -/
namespace KV
open PySem PySem.Spec PyProof.Rows L2
open Classical in
/-- whether the value reads as data that equals d -/
noncomputable def eD (h : Heap) (d : PyData) (y : Value) : Bool := decide (∃ e as, Reads h y e as ∧ e.eqv d = true)
open Classical in
theorem eD_of {h : Heap} {d e : PyData} {y : Value} {as : List Addr} (r : Reads h y e as) : eD h d y = e.eqv d := by
  unfold eD
  cases q : e.eqv d with
  | true => exact decide_eq_true ⟨e, as, r, q⟩
  | false =>
    refine decide_eq_false ?_
    rintro ⟨e', as', r', q'⟩
    have z := reads_det (h := h) (h' := h) (fun b o k _ => k) r r'
    rw [z.1, q] at q'
    cases q'
section
variable {X : Cx} {pins : List (Addr × Obj)} {σ : L2.St} {H : Hp} {s : Shared}
theorem any_data (I : L2.Inv X pins σ H s) {d : PyData} : ∀ {xs : List V} {us : List Value} {ds : List PyData}, Vals xs us → DpAll X.K H xs ds → us.any (eD s.heap d) = ds.any fun e => e.eqv d
  | _, _, _, .nil, .nil => rfl
  | _, _, _, .cons h r, .cons k q => by
    obtain ⟨as, rd⟩ := Dp.reads I _ _ _ k h
    rw [List.any_cons, List.any_cons, eD_of rd, any_data I r q]
theorem at_data (I : L2.Inv X pins σ H s) {d : PyData} {v : Value} {bs : List Addr} (rd : Reads s.heap v d bs) (sd : SeqAt.shaped d = true) (hu : X.A.units + 65 < cLine) :
    ∀ {xs : List V} {us : List Value} {ds : List PyData}, Vals xs us → DpAll X.K H xs ds → (∀ e ∈ ds, SeqAt.shaped e = true) → ∀ y ∈ us, SeqAt.EqAt X.A.in1 s y v (eD s.heap d y)
  | _, _, _, .nil, .nil, _, y, hy => absurd hy (by simp)
  | _, _, _, .cons h r, .cons k q, hs, y, hy => by
    rcases List.mem_cons.mp hy with rfl | hy
    · obtain ⟨as, r1⟩ := Dp.reads I _ _ _ k h
      rw [eD_of r1]
      exact PySem.W.keq_at r1 rd (hs _ List.mem_cons_self) sd (by show X.A.units + 1 + 64 < cLine; omega)
    · exact at_data I rd sd hu r q (fun e he => hs e (List.mem_cons_of_mem _ he)) y hy
end
def rInD (K : PySem.W.Frag) (neg : Bool) : R2 := fun x y H Q => ∃ (p : Addr) (xs : List V) (ds : List PyData) (d : PyData), y = .ref p ∧ (SqL K H p xs ∨ SqT K H p xs) ∧ DpAll K H xs ds ∧ Dp K H x d ∧ (∀ e ∈ ds, SeqAt.shaped e = true) ∧ SeqAt.shaped d = true ∧
  Q (.bl (if neg = true then !ds.any (fun e => e.eqv d) else ds.any fun e => e.eqv d)) H
theorem op_notInD {X : Cx} (hu : X.A.units + 65 < cLine) : OpR X (compareOp .NotIn) (rInD X.K true) := by
  intro pins s σ H x y v u Q I rx ry h
  obtain ⟨p, xs, ds, d, rfl, hq, hd, hx, hs, sd, q⟩ := h
  cases ry
  obtain ⟨bs, rd⟩ := Dp.reads I d x v hx rx
  rcases hq with hq | hq
  · obtain ⟨its, r, pl, _⟩ := Inv.list I hq
    refine SeqAt.notIn_listAt (eD s.heap d) (PlainL.isList pl) (fun y hy => at_data I rd sd hu r hd hs y (by simpa using hy)) ⟨.bl _, H, I, rfl, ?_⟩
    have e : its.toArray.any (eD s.heap d) = its.any (eD s.heap d) := by simp
    rw [e, any_data I r hd]
    exact q
  · obtain ⟨its, r, pl, _⟩ := Inv.tuple I hq
    refine SeqAt.notIn_tupleAt (eD s.heap d) pl (fun y hy => at_data I rd sd hu r hd hs y (by simpa using hy)) ⟨.bl _, H, I, rfl, ?_⟩
    have e : its.toArray.any (eD s.heap d) = its.any (eD s.heap d) := by simp
    rw [e, any_data I r hd]
    exact q
theorem op_inD {X : Cx} (hu : X.A.units + 65 < cLine) : OpR X (compareOp .In) (rInD X.K false) := by
  intro pins s σ H x y v u Q I rx ry h
  obtain ⟨p, xs, ds, d, rfl, hq, hd, hx, hs, sd, q⟩ := h
  cases ry
  obtain ⟨bs, rd⟩ := Dp.reads I d x v hx rx
  rcases hq with hq | hq
  · obtain ⟨its, r, pl, _⟩ := Inv.list I hq
    refine SeqAt.in_listAt (eD s.heap d) (PlainL.isList pl) (fun y hy => at_data I rd sd hu r hd hs y (by simpa using hy)) ⟨.bl _, H, I, rfl, ?_⟩
    have e : its.toArray.any (eD s.heap d) = its.any (eD s.heap d) := by simp
    rw [e, any_data I r hd]
    exact q
  · obtain ⟨its, r, pl, _⟩ := Inv.tuple I hq
    refine SeqAt.in_tupleAt (eD s.heap d) pl (fun y hy => at_data I rd sd hu r hd hs y (by simpa using hy)) ⟨.bl _, H, I, rfl, ?_⟩
    have e : its.toArray.any (eD s.heap d) = its.any (eD s.heap d) := by simp
    rw [e, any_data I r hd]
    exact q
end KV
set_option Elab.async false
set_option linter.all false
set_option maxRecDepth 100000
set_option maxHeartbeats 4000000
/-! A slice that is the whole tuple: the tuple itself. -/
namespace KV
open PySem PySem.Spec PyProof.Rows L2
theorem getItem_tuple_whole {prog : Program} {w : World} {A : Around} {E : Value → Shared → Prop} {s : Shared} {t sl : Addr} {items : Array Value} {vl vu : Value} {lo hi : Option Int} {Q : Value → Shared → Prop}
    (ht : IsTup s.heap t items) (hs : s.heap.IsSliceOf sl vl vu .none) (pl : IsPart vl lo) (pu : IsPart vu hi) (hw : HT.sIx items.size 0 lo = 0 ∧ HT.sIx items.size items.size hi = items.size) (h : Q (.ref t) s) :
    wpAny (model prog w) A (getItem (.ref t) (.ref sl)) Q E s := by
  obtain ⟨os, hos, hcs, hds⟩ := id hs
  refine wpAny_holding (wpAny_bind (wpAny_sequenceKey (IsTup.typeIs ht) (by decide) (wpAny_bind (wpAny_callSpecial?_slot (IsTup.typeIs ht) slot_tuple_getitem (wpAny_call_entry slot_tuple_getitem (IsTup.typeIs ht) entry_tuple_getitem ?_)))))
  refine wpAny_bind (show wpAny _ _ (pure (Value.ref t, [Value.ref sl])) _ _ _ from wpAny_pure ?_)
  refine wpAny_bind (tupleItemsOf_ ht (wpAny_bind (wpAny_typeOf (T := "slice") (show s.TypeIs (.ref sl) "slice" from ⟨os, hos, hcs⟩) ?_)))
  rw [if_pos (by decide)]
  refine wpAny_bind (HT.sliceApplied_gen hs pl pu ?_)
  rw [hw.1, hw.2]
  have e : ((((0 : Nat) : Int) == 0 && (1 : Int) == 1) && (items.size - 0 == items.size)) = true := by simp
  dsimp only
  rw [if_pos e]
  refine wpAny_bind (show wpAny _ _ (do
    let c ← typeOf (Value.ref t)
    pure (c == Value.type "tuple")) _ _ _ from wpAny_bind (wpAny_typeOf (IsTup.typeIs ht) (wpAny_pure ?_)))
  rw [if_pos (by decide)]
  refine wpAny_bind (wpAny_rule ?_)
  exact wpAny_pure ⟨.ref t, rfl, wpAny_pure h⟩
/-- t[lo:hi], all of t or less -/
def rSlTW (K : PySem.W.Frag) : V → Option Int → Option Int → Hp → VK → Prop := fun x lo hi H Q => ∃ (a : Addr) (xs : List V), x = .ref a ∧ SqT K H a xs ∧
  (¬ (HT.sIx xs.length 0 lo = 0 ∧ HT.sIx xs.length xs.length hi = xs.length) → ∀ p, H p = none → Q (.ref p) (upd H p (.tup (cutV xs lo hi)))) ∧
  ((HT.sIx xs.length 0 lo = 0 ∧ HT.sIx xs.length xs.length hi = xs.length) → Q (.ref a) H)
theorem sl_tupW {X : Cx} : SlR X (rSlTW X.K) := by
  intro pins s σ H x v vl vu lo hi sl Q I rx hs pl pu h
  obtain ⟨a, xs, rfl, hx, h1, h2⟩ := h
  by_cases c : HT.sIx xs.length 0 lo = 0 ∧ HT.sIx xs.length xs.length hi = xs.length
  · cases rx
    obtain ⟨its, r, ht, hz⟩ := Inv.tuple I hx
    have hl : its.toArray.size = xs.length := by rw [List.size_toArray]; exact r.length.symm
    exact ⟨"tuple", "tuple.__getitem__", slot_tuple_getitem.lookup, IsTup.typeIs ht, getItem_tuple_whole ht hs pl pu (by rw [hl]; exact c) ⟨.ref a, H, I, rfl, h2 c⟩⟩
  · exact sl_tup pins s σ H _ v vl vu lo hi sl Q I rx hs pl pu ⟨a, xs, rfl, hx, c, h1 c⟩
/-- xs + ys: lists of any standing -/
def rCatS (K : PySem.W.Frag) : R2 := fun x y H Q => ∃ (l b : Addr) (xs zs : List V), x = .ref l ∧ y = .ref b ∧ SqL K H l xs ∧ SqL K H b zs ∧ xs.length + zs.length ≤ sizeLine ∧
  ∀ p, H p = none → Q (.ref p) (upd H p (.lst (xs ++ zs)))
theorem op_catS {X : Cx} : OpR X (binaryOp .Add) (rCatS X.K) := by
  intro pins s σ H x y v u Q I rx ry h
  obtain ⟨l, b, xs, zs, rfl, rfl, h1, h2, hz, q⟩ := h
  cases rx
  cases ry
  obtain ⟨its, r, pl, _⟩ := Inv.list I h1
  obtain ⟨its2, r2, pl2, _⟩ := Inv.list I h2
  obtain ⟨⟨c, d, dat, sl⟩, n, e, e1, e2, e3⟩ := pl
  obtain ⟨⟨c2, d2, dat2, sl2⟩, n2, f, f1, f2, f3⟩ := pl2
  dsimp only at e1 e2 e3 f1 f2 f3
  subst e1 e2 e3 f1 f2 f3
  have hsz : its.toArray.size + its2.toArray.size ≤ sizeLine := by
    have a := r.length
    have a2 := r2.length
    rw [List.size_toArray, List.size_toArray]
    omega
  refine concat_meets ⟨_, e, rfl⟩ ⟨_, f, rfl⟩ noFill_list_add seq_list_add F.slot_list_add F.entry_list_add (F.args_list_add_2 (.ref l) (.ref b))
    (PyProof.Rows.list_addW l b its.toArray its2.toArray n n2 none none sl sl2 hsz) ⟨e, f, ?_⟩
  rw [List.append_toArray]
  exact ⟨.ref _, upd H _ (.lst (xs ++ zs)), Inv.lnew I (r.append r2) (by rw [List.length_append]; exact hz), rfl, q _ (Inv.fresh I)⟩
end KV
set_option Elab.async false
set_option linter.all false
set_option maxRecDepth 100000
set_option maxHeartbeats 4000000
/-! Own classes made by an __init__ that may raise; own __getitem__ that may raise. -/
namespace KV
open PySem PySem.Spec PyProof.Rows L2
section
variable {X : Cx} {CX : CXT} {k : Nat} {f C : Addr} {fd : FuncData} {ps ks : List Str} {sp : Sp} {E : L2.St → XK} {x : Str} {p pos : Pos} {e a b : Expr} {es : List Expr} {kws : List Keyword} {t tk : TA} {ta tb : TE} {g : List Value → List Value → List Value} {gV : List V → List V → List V}
def tMakeS (C : Addr) (sp : Sp) (E : L2.St → XK) (t : TA) : TE := fun σ H Q => t σ H fun vs H1 => ∀ x dx, H1 x = none → H1 dx = none → dx ≠ x →
  sp (.ref x :: vs) (upd (upd H1 dx (.own x)) x (.ins C dx [])) (fun v H2 => v = .non ∧ Q (.ref x) H2) (E σ)
theorem run_makeS {pins : List (Addr × Obj)} {σ : L2.St} {H : Hp} {s : Shared} {Q : VK} {us : List Value} {vs : List V} (M : Mk X.K C f) (F : FnOk X.prog X.w X.K X.mg X.base CX k f fd ps sp) (hr : Room (k + 1) X.A) (hb : Binds X.K fd ps [])
    (hx : PassesAt CX X σ (E σ)) (I : L2.Inv X pins σ H s) (r : Vals vs us)
    (h : ∀ x dx, H x = none → H dx = none → dx ≠ x → sp (.ref x :: vs) (upd (upd H dx (.own x)) x (.ins C dx [])) (fun v H2 => v = .non ∧ Q (.ref x) H2) (E σ)) :
    wpAny (model X.prog X.w) X.A (call (.ref C) us) (EP X pins σ Q) X.xe s := by
  have hq := h (s.heap.objs.size + 1) s.heap.objs.size (I.hok.fresh (Nat.le_succ _)) (I.hok.fresh (Nat.le_refl _)) (Nat.ne_of_lt (Nat.lt_succ_self _))
  have I2 := Inv.made (C := C) I
  have r2 : Vals (V.ref (s.heap.objs.size + 1) :: vs) (Value.ref (s.heap.objs.size + 1) :: us) := .cons rfl r
  have hl : (Value.ref (s.heap.objs.size + 1) :: us).length = ps.length := by
    have e := r2.length
    rw [F.len _ _ _ _ hq] at e
    exact e.symm
  have b := hb _ (Value.ref (s.heap.objs.size + 1) :: us) I2.kIn (by rw [List.append_nil]; exact hl)
  rw [List.append_nil] at b
  refine wpAny_call (make_map (f := f) I.kIn M.makes M.init (beq_iff_eq.mp M.fn) (codeAny_mono (F.run _ X.stack _ _ ⟨Value.ref (s.heap.objs.size + 1) :: us, []⟩ (Value.ref (s.heap.objs.size + 1) :: us) _ _ (E σ) (hr.make C us [])
    (I2.env0.make C us []) b r2 hq) fun r s' hq' => ?_))
  cases r with
  | error e => exact hx pins _ _ e s' I2 hq'
  | ok fl =>
    cases fl with
    | ret u =>
      obtain ⟨v, H', I3, rv, ev, q3⟩ := I2.after hq'
      subst ev
      exact ⟨rv, ⟨V.ref (s.heap.objs.size + 1), H', I3, rfl, q3⟩⟩
    | next => exact False.elim hq'
    | brk => exact False.elim hq'
    | cont => exact False.elim hq'
theorem pe_makeS (M : Mk X.K C f) (F : FnOk X.prog X.w X.K X.mg X.base CX k f fd ps sp) (hr : Room (k + 1) X.A) (hg : Gl X x) (hm : X.mg x = some (.ref C)) (hb : Binds X.K fd ps []) (hx : ∀ σ, PassesAt CX X σ (E σ))
    (ha : PA X (e :: es) t) (hdb : (x == ("__debug__" : Str)) = false := by decide) (he : starEach (e :: es) X.env = (false, eval e X.env) :: starEach es X.env := by rfl) (hpl : (backTo pos (starEach es X.env)).any (·.1) = false := by rfl) :
    PE X (.Call (.Name x p) (e :: es) [] pos) (tMakeS C sp E t) := by
  refine ⟨fun pins s σ H Q I h => ?_⟩
  refine wpAny_Call_Name_kw (ld_glob I hg hm ?_ hdb)
  refine PySem.W.callWith_K (h₀ := X.base) I.ok.mod.kin M.kp (thn (ha.run pos pins s σ H _ I h) fun us s1 ⟨vs, H1, I1, r, q⟩ => ⟨I1.kIn, ?_⟩) he hpl
  exact run_makeS M F hr hb (hx σ) I1 r q
/-- .. with keywords alone -/
def tMakeKS (C : Addr) (m : Nat) (sp : Sp) (gV : List V → List V → List V) (E : L2.St → XK) (tk : TA) : TE := fun σ H Q => tk σ H fun zs H2 => zs.length = m ∧ ∀ x dx, H2 x = none → H2 dx = none → dx ≠ x →
  sp (gV [.ref x] zs) (upd (upd H2 dx (.own x)) x (.ins C dx [])) (fun v H3 => v = .non ∧ Q (.ref x) H3) (E σ)
theorem run_makeKS {pins : List (Addr × Obj)} {σ : L2.St} {H : Hp} {s : Shared} {Q : VK} {ws : List Value} {zs : List V} (M : Mk X.K C f) (F : FnOk X.prog X.w X.K X.mg X.base CX k f fd ps sp) (hr : Room (k + 1) X.A) (hb : KBn X.K fd ps 1 ks g gV) (hx : PassesAt CX X σ (E σ))
    (I : L2.Inv X pins σ H s) (rz : Vals zs ws) (l2 : zs.length = ks.length)
    (h : ∀ x dx, H x = none → H dx = none → dx ≠ x → sp (gV [.ref x] zs) (upd (upd H dx (.own x)) x (.ins C dx [])) (fun v H2 => v = .non ∧ Q (.ref x) H2) (E σ)) :
    wpAny (model X.prog X.w) X.A (call (.ref C) [] (ks.zip ws)) (EP X pins σ Q) X.xe s := by
  have hq := h (s.heap.objs.size + 1) s.heap.objs.size (I.hok.fresh (Nat.le_succ _)) (I.hok.fresh (Nat.le_refl _)) (Nat.ne_of_lt (Nat.lt_succ_self _))
  have I2 := Inv.made (C := C) I
  have r1 : Vals [V.ref (s.heap.objs.size + 1)] [Value.ref (s.heap.objs.size + 1)] := .cons rfl .nil
  have r2 := hb.rel r1 rz
  refine wpAny_call (make_map (f := f) I.kIn M.makes M.init (beq_iff_eq.mp M.fn) (codeAny_mono (F.run _ X.stack _ _ ⟨[Value.ref (s.heap.objs.size + 1)], ks.zip ws⟩ (g [Value.ref (s.heap.objs.size + 1)] ws) _ _ (E σ) (hr.make C [] (ks.zip ws))
    (I2.env0.make C [] (ks.zip ws)) (hb.to _ [Value.ref (s.heap.objs.size + 1)] ws I2.kIn rfl (rz.length.symm.trans l2)) r2 hq) fun r s' hq' => ?_))
  cases r with
  | error e => exact hx pins _ _ e s' I2 hq'
  | ok fl =>
    cases fl with
    | ret u =>
      obtain ⟨v, H', I3, rv, ev, q3⟩ := I2.after hq'
      subst ev
      exact ⟨rv, ⟨V.ref (s.heap.objs.size + 1), H', I3, rfl, q3⟩⟩
    | next => exact False.elim hq'
    | brk => exact False.elim hq'
    | cont => exact False.elim hq'
theorem pe_makeKS (M : Mk X.K C f) (F : FnOk X.prog X.w X.K X.mg X.base CX k f fd ps sp) (hr : Room (k + 1) X.A) (hg : Gl X x) (hm : X.mg x = some (.ref C)) (hb : KBn X.K fd ps 1 ks g gV) (hx : ∀ σ, PassesAt CX X σ (E σ)) (hkw : PK X kws tk)
    (hall : (backToKw pos (keywordEach kws X.env)).all (·.1.isSome) = true := by rfl) (hks : (backToKw pos (keywordEach kws X.env)).filterMap (·.1) = ks := by rfl) (hdb : (x == ("__debug__" : Str)) = false := by decide)
    (hpl : ((backTo pos (starEach [] X.env)).any (·.1) || (backToKw pos (keywordEach kws X.env)).any (·.1.isNone)) = false := by rfl) :
    PE X (.Call (.Name x p) [] kws pos) (tMakeKS C ks.length sp gV E tk) := by
  refine ⟨fun pins s σ H Q I h => ?_⟩
  refine wpAny_Call_Name_kw (ld_glob I hg hm ?_ hdb)
  refine PySem.W.callWith_KW0 (h₀ := X.base) I.ok.mod.kin M.kp hall ?_ hpl
  refine thn (hkw.run pos pins s σ H _ I h) fun ws s2 ⟨zs, H2, I2, rz, l2, q2⟩ => ⟨I2.kIn, ?_⟩
  rw [hks]
  exact run_makeKS M F hr hb (hx σ) I2 rz l2 q2
/-! ### o[y], by an own __getitem__ -/
def tItemS (C : Addr) (sp : Sp) (E : L2.St → XK) (ta tb : TE) : TE := fun σ H Q => ta σ H fun x H1 => tb σ H1 fun y H2 => ∃ a dx fs, x = .ref a ∧ H2 a = some (.ins C dx fs) ∧ sp [.ref a, y] H2 Q (E σ)
/-- K's words for it -/
structure ItemF (K : PySem.W.Frag) (C f : Addr) : Prop where
  at_ : PySem.W.findIn K (.ref C) "__getitem__" = some (some (.ref f))
  fn : PySem.W.fnIn K f = true
  isf : PySem.W.isFn K (.ref f) = true
theorem pe_itemS (T : ItemF X.K C f) (F : FnOk X.prog X.w X.K X.mg X.base CX k f fd ps sp) (hr : Room (k + 1) X.A) (hb : Binds X.K fd ps []) (hx : ∀ σ, PassesAt CX X σ (E σ)) (ha : PE X a ta) (hb' : PE X b tb)
    (hsl : ∀ x i, subscripted b true x i = runValue (.builtin "lifetime.subscript" ⟨[x, i], []⟩) := by intro _ _; rfl) : PE X (.Subscript a b pos) (tItemS C sp E ta tb) := by
  refine ⟨fun pins s σ H Q I h => ?_⟩
  refine Subscript_ (binT ha hb' I h fun v u s2 x y H2 I2 rx ry q => ?_)
  obtain ⟨z, dx, fs, rfl, hz, q⟩ := q
  cases rx
  obtain ⟨mA, J, _⟩ := ins_get I2.hok hz
  obtain ⟨od, J, _⟩ := J.look
  obtain ⟨m, hF⟩ := I2.fr
  refine PySem.W.sub_K hF I2.ok.mod.kin J T.at_ T.fn T.isf ?_ (hsl _ _)
  have r2 : Vals [V.ref z, y] [Value.ref z, u] := .cons rfl (.cons ry .nil)
  have hl := F.len _ _ _ _ q
  have bt := hb s2 [Value.ref z, u] I2.kIn (by simpa using hl)
  rw [List.append_nil] at bt
  refine wpAny_call (codeAny_mono (F.run X.A.in1 X.stack s2 H2 ⟨[Value.ref z, u], []⟩ [Value.ref z, u] [V.ref z, y] Q (E σ) hr.in1 I2.env0.in1 bt r2 q) fun r s' hq => ?_)
  cases r with
  | error e => exact hx σ pins H2 s2 e s' I2 hq
  | ok fl =>
    cases fl with
    | ret w => exact I2.after hq
    | next => exact False.elim hq
    | brk => exact False.elim hq
    | cont => exact False.elim hq
end
end KV
set_option Elab.async false
set_option linter.all false
set_option maxRecDepth 100000
set_option maxHeartbeats 4000000
/-! bool of a tuple. -/
namespace KV
open PySem
theorem meets_bool_tup (l : Addr) (items : Array Value) (hfit : (items.size : Int) < 2 ^ 63) :
    Meets (Builtin.«bool.__new__» ⟨[.type "bool", .ref l], []⟩) (fun _ R s => PyProof.Rows.IsTup s.heap l items ∧ R (.ok (.ret (.bool (!items.isEmpty)))) { s with toks := s.toks + 1 + 1 }) :=
  Meets.of_wp fun prog w A R s hs => by
    obtain ⟨hl, hs⟩ := hs
    obtain ⟨hp, g, d, tk, os⟩ := s
    have f1 := F.conv_sub_bool
    repeat (any_goals (first | assumption | (with_reducible refine PyProof.Rows.truthy_tuple hl hfit ?_) | wp_step))
    all_goals first | exact ⟨_, rfl, hs⟩ | exact hs | skip
theorem call_bool_tup {prog : Program} {w : World} {A : Around} {E : Value → Shared → Prop} {s : Shared} {l : Addr} {items : Array Value} {Q : Value → Shared → Prop} (hfit : (items.size : Int) < 2 ^ 63) (hl : PyProof.Rows.IsTup s.heap l items)
    (h : Q (.bool (!items.isEmpty)) { s with toks := s.toks + 1 + 1 }) : wpAny (model prog w) A (call (.type "bool") [.ref l]) Q E s :=
  call_bool_1 (meets_bool_tup l items hfit) ⟨hl, rfl, h⟩
section
open PySem.Spec PyProof.Rows L2
variable {X : Cx}
theorem call_boolT : CallR X (.type "bool") (fun xs H Q => ∃ (a : Addr) (zs : List V), xs = [.ref a] ∧ SqT X.K H a zs ∧ Q (.bl (!zs.isEmpty)) H) := by
  intro pins s σ H xs us Q I r h
  obtain ⟨a, zs, rfl, hq, q⟩ := h
  obtain rfl := Vals.ref1 r
  obtain ⟨its, rv, pl, hz⟩ := I.tuple hq
  have hl := line63
  have hlen := rv.length
  refine call_bool_tup (by simp only [List.size_toArray]; omega) pl ?_
  exact ⟨.bl (!zs.isEmpty), H, I.tok _, by rw [isEmpty_of rv]; rfl, q⟩
end
end KV
set_option Elab.async false
set_option linter.all false
set_option maxRecDepth 100000
set_option maxHeartbeats 4000000
/-! A head that knows defs at any address, own words of the class, tuples of tuples. -/
namespace KV
open PySem PySem.Spec PyProof.Rows L2
open He (Fa)
abbrev Df := He5.DefA
def obsB (fa : List Fa) (fn : List Df) (ex : PySem.W.Frag → Bool) (K : PySem.W.Frag) : He.AlD := (((fa.all fun f => f.ok K) && fn.all fun d => d.ok K) && ex K, fn.map fun d => He5.fnA K (d.at_ K))
def valB (fn : List Df) : He.AlD := (true, fn.map He5.DefA.val)
def SaysB (fa : List Fa) (fn : List Df) (ex : PySem.W.Frag → Bool) (K : PySem.W.Frag) : Prop := obsB fa fn ex K = valB fn
def obsBG (n : Nat) (fa : List Fa) (fn : List Df) (ex : PySem.W.Frag → Bool) (g : Addr → Option Obj) : He.AlD := obsB fa fn ex (He.frT g (He.asD g n))
def hookB (n : Nat) (fa : List Fa) (fn : List Df) (ex : PySem.W.Frag → Bool) : PySem.W.Hook where
  α := He.AlD
  obs := fun s => obsBG n fa fn ex s.heap.get?
  val := fun _ => valB fn
  says := fun _ h => ∃ K : PySem.W.Frag, K.In h ∧ SaysB fa fn ex K
  of := fun _ _ e => ⟨_, He.frT_in, e⟩
  keeps := fun _ _ _ ⟨K, hK, c⟩ k => ⟨K, PySem.W.Frag.In.keeps hK k, c⟩
theorem obsBG_eq {n : Nat} {fa : List Fa} {fn : List Df} {ex : PySem.W.Frag → Bool} {g : Addr → Option Obj} {s : Shared} (h : ∀ a, g a = s.heap.get? a) : obsBG n fa fn ex g = (hookB n fa fn ex).obs s := by
  have e : g = s.heap.get? := funext h
  rw [e] <;> rfl
section
variable {fa : List Fa} {fn : List Df} {ex : PySem.W.Frag → Bool} {K : PySem.W.Frag}
theorem SaysB.parts (c : SaysB fa fn ex K) : (fa.all fun f => f.ok K) = true ∧ (fn.all fun d => d.ok K) = true ∧ ex K = true := by
  have c1 : (((fa.all fun f => f.ok K) && fn.all fun d => d.ok K) && ex K) = true := congrArg (fun z : He.AlD => z.1) c
  obtain ⟨c2, c3⟩ := He.ba c1
  obtain ⟨c4, c5⟩ := He.ba c2
  exact ⟨c4, c5, c3⟩
theorem SaysB.facts (c : SaysB fa fn ex K) {f : Fa} (h : f ∈ fa) : f.ok K = true := List.all_eq_true.mp c.parts.1 f h
theorem SaysB.def_ (c : SaysB fa fn ex K) (i : Nat) {d : Df} (h : fn[i]? = some d := by rfl) : ∃ fd, FunD K d.name d.qual d.params d.body d.scope (d.dvs K) (d.kws K) (d.at_ K) fd := by
  have e : fn.map (fun d => He5.fnA K (d.at_ K)) = fn.map He5.DefA.val := congrArg (fun z : He.AlD => z.2) c
  have e2 : (fn.map fun d => He5.fnA K (d.at_ K))[i]? = (fn.map He5.DefA.val)[i]? := by rw [e]
  rw [List.getElem?_map, List.getElem?_map, h] at e2
  exact He5.DefA.funD (Option.some.inj e2) (List.all_eq_true.mp c.parts.2.1 d (List.mem_of_getElem? h))
end
/-! ### own words of a class -/
def pgB (K : PySem.W.Frag) (C : Addr) (f : Str) : Addr := match PySem.W.recIn K (He.ma K C f) "property" with
  | some (.ref g :: _) => g
  | _ => 0
def propB (K : PySem.W.Frag) (C : Addr) (f : Str) : Bool := He.eqO (PySem.W.findIn K (.ref C) f) (some (some (.ref (He.ma K C f)))) && (He.eqO (PySem.W.specialIn K (.ref (He.ma K C f)) "__get__") (some (some (.builtin "property.__get__"))) &&
  (decide (PySem.W.takesIn K (.ref (He.ma K C f)) = some true) && (match PySem.W.recIn K (He.ma K C f) "property" with
    | some (.ref _ :: _) => true
    | _ => false)))
theorem propB_ok {K : PySem.W.Frag} {C : Addr} {f : Str} (h : propB K C f = true) : PropOf K C f (He.ma K C f) (pgB K C f) := by
  obtain ⟨h1, h⟩ := He.ba h
  obtain ⟨h2, h⟩ := He.ba h
  obtain ⟨h3, h4⟩ := He.ba h
  refine ⟨He.eqO_ok h1, He.eqO_ok h2, of_decide_eq_true h3, ?_⟩
  unfold pgB
  cases q : PySem.W.recIn K (He.ma K C f) "property" with
  | none =>
    rw [q] at h4
    cases h4
  | some l =>
    rw [q] at h4
    match l, h4 with
    | .ref g :: r, _ => exact ⟨r, rfl⟩
def itemB (K : PySem.W.Frag) (C : Addr) : Bool := He.eqO (PySem.W.findIn K (.ref C) "__getitem__") (some (some (.ref (He.ma K C "__getitem__")))) && (PySem.W.fnIn K (He.ma K C "__getitem__") && PySem.W.isFn K (.ref (He.ma K C "__getitem__")))
theorem itemB_ok {K : PySem.W.Frag} {C : Addr} (h : itemB K C = true) : ItemF K C (He.ma K C "__getitem__") := by
  obtain ⟨h1, h⟩ := He.ba h
  obtain ⟨h2, h3⟩ := He.ba h
  exact ⟨He.eqO_ok h1, h2, h3⟩
/-! ### tuples of the written part -/
def tupAt (K : PySem.W.Frag) (a : Addr) : Option (List Value) := match K.lookup a with
  | some ⟨.type t, _, .seq its _, _⟩ => if t = "tuple" ∧ its.size ≤ sizeLine then some its.toList else none
  | _ => none
theorem tupAt_ok {K : PySem.W.Frag} {a : Addr} {vs : List Value} (h : tupAt K a = some vs) {xs : List V} (r : Vals xs vs) (H : Hp) : SqT K H a xs := by
  unfold tupAt at h
  cases q : K.lookup a with
  | none =>
    rw [q] at h
    cases h
  | some o =>
    obtain ⟨oc, od, dt, osl⟩ := o
    rw [q] at h
    cases oc with
    | type t =>
      cases dt with
      | seq its n =>
        have h : (if t = "tuple" ∧ its.size ≤ sizeLine then some its.toList else none) = some vs := h
        by_cases c : t = "tuple" ∧ its.size ≤ sizeLine
        · rw [if_pos c] at h
          cases h
          exact .inr ⟨_, its, n, q, congrArg Value.type c.1, rfl, c.2, r⟩
        · rw [if_neg c] at h
          cases h
      | _ => cases h
    | _ => cases dt <;> cases h
/-- a tuple of a text and a number -/
def pairB (K : PySem.W.Frag) (a : Addr) (x : Str) (i : Int) : Bool := match tupAt K a with
  | some [.str y _, .int j _] => decide (y = x) && decide (j = i)
  | _ => false
theorem pairB_ok {K : PySem.W.Frag} {a : Addr} {x : Str} {i : Int} (h : pairB K a x i = true) (H : Hp) : Dp K H (.ref a) (.tuple [.str x, .int i]) := by
  unfold pairB at h
  split at h
  · rename_i y t j u q
    obtain ⟨h1, h2⟩ := He.ba h
    have h1 := of_decide_eq_true h1
    have h2 := of_decide_eq_true h2
    subst h1 h2
    exact .tup (tupAt_ok (xs := [.str y, .int j]) q (.cons ⟨t, rfl⟩ (.cons ⟨u, rfl⟩ .nil)) H) (.cons (.str _) (.cons (.int _) .nil))
  · cases h
/-- a tuple of such pairs -/
def pairsB (K : PySem.W.Frag) (a : Addr) (x y : Str) (i j : Int) : Bool := match tupAt K a with
  | some [.ref b, .ref c] => pairB K b x i && pairB K c y j
  | _ => false
theorem pairsB_ok {K : PySem.W.Frag} {a : Addr} {x y : Str} {i j : Int} (h : pairsB K a x y i j = true) (H : Hp) : Dp K H (.ref a) (.tuple [.tuple [.str x, .int i], .tuple [.str y, .int j]]) := by
  unfold pairsB at h
  split at h
  · rename_i b c q
    obtain ⟨h1, h2⟩ := He.ba h
    exact .tup (tupAt_ok (xs := [.ref b, .ref c]) q (.cons rfl (.cons rfl .nil)) H) (.cons (pairB_ok h1 H) (.cons (pairB_ok h2 H) .nil))
  · cases h
end KV
set_option Elab.async false
set_option linter.all false
set_option maxRecDepth 100000
set_option maxHeartbeats 4000000
/-! a head that looks at fewer places: what a def names is left out -/
namespace KV
open PySem PySem.Spec PyProof.Rows L2
open He (Fa)
def refsS (o : Obj) : List Addr := match o.data with
  | .func _ => []
  | _ => He.refsD o
def growS (g : Addr → Option Obj) (as : List Addr) : List Addr := (as ++ as.flatMap fun a => match g a with
  | some o => refsS o
  | none => []).eraseDups
def asS0 (g : Addr → Option Obj) : Nat → List Addr
  | 0 => [mainGlobals]
  | n + 1 => growS g (asS0 g n)
/-- of a def itself: its code and its defaults, no further -/
def refsF (o : Obj) : List Addr := match o.data with
  | .func fd => He.refV fd.code ++ (He.refV fd.defaults ++ He.refV fd.kwdefaults)
  | _ => []
def lastS (g : Addr → Option Obj) (as : List Addr) : List Addr := as ++ as.flatMap fun a => match g a with
  | some o => refsF o
  | none => []
def asS (g : Addr → Option Obj) (n : Nat) : List Addr := lastS g (asS0 g n)
def obsSG (n : Nat) (fa : List Fa) (fn : List Df) (ex : PySem.W.Frag → Bool) (g : Addr → Option Obj) : He.AlD := obsB fa fn ex (He.frT g (asS g n))
def hookS (n : Nat) (fa : List Fa) (fn : List Df) (ex : PySem.W.Frag → Bool) : PySem.W.Hook where
  α := He.AlD
  obs := fun s => obsSG n fa fn ex s.heap.get?
  val := fun _ => valB fn
  says := fun _ h => ∃ K : PySem.W.Frag, K.In h ∧ SaysB fa fn ex K
  of := fun _ _ e => ⟨_, He.frT_in, e⟩
  keeps := fun _ _ _ ⟨K, hK, c⟩ k => ⟨K, PySem.W.Frag.In.keeps hK k, c⟩
theorem obsSG_eq {n : Nat} {fa : List Fa} {fn : List Df} {ex : PySem.W.Frag → Bool} {g : Addr → Option Obj} {s : Shared} (h : ∀ a, g a = s.heap.get? a) : obsSG n fa fn ex g = (hookS n fa fn ex).obs s := by
  have e : g = s.heap.get? := funext h
  rw [e] <;> rfl
end KV
set_option Elab.async false
set_option linter.all false
set_option maxRecDepth 100000
set_option maxHeartbeats 0
/-! the head -/
namespace LW
open PySem PySem.Spec PyProof.Rows L2 KV
def dD (x : Str) (st : Stmt) : Df := { at_ := fun K => He.ga K x, name := x, qual := x, params := defArgs st, body := defBody st, scope := defScope st }
def dM (C m q : Str) (st : Stmt) : Df := { at_ := fun K => He.ma K (He.ga K C) m, name := m, qual := q, params := defArgs st, body := defBody st, scope := defScope st }
def dG (C m q : Str) (st : Stmt) : Df := { at_ := fun K => pgB K (He.ga K C) m, name := m, qual := q, params := defArgs st, body := defBody st, scope := defScope st }
def fn : List Df := [dM "KeyTellError" "__init__" "KeyTellError.__init__" pKeyTellError_init, dM "Book" "__init__" "Book.__init__" pBook_init, dM "Book" "__getitem__" "Book.__getitem__" pBook_getitem, dG "Book" "tables" "Book.tables" pBook_tables, dG "Book" "rules" "Book.rules" pBook_rules, dD "check_tables" pCheckTables, dD "check_columns" pCheckColumns, dD "check_name" pCheckName, dD "check_rule" pCheckRule, dD "is_name" pIsName, dD "has_form" pHasForm, dD "copied" pCopied, dM "Book" "with_rules" "Book.with_rules" pBook_with_rules, dM "Book" "without" "Book.without" pBook_without, dD "read_book" pReadBook, dD "tables_and_rules" pTablesAndRules, dD "rule_of" pRuleOf, dD "show_book" pShowBook, dD "rule_text" pRuleText, dM "Store" "__init__" "Store.__init__" pStore_init, dM "Store" "__len__" "Store.__len__" pStore_len, dM "Store" "__call__" "Store.__call__" pStore_call, dM "Store" "rows" "Store.rows" pStore_rows, dM "Store" "put" "Store.put" pStore_put, dM "Store" "take" "Store.take" pStore_take, dM "Store" "undo" "Store.undo" pStore_undo, dD "filled" pFilled, dD "breaks" pBreaks, dD "places_of" pPlacesOf, dD "values_at" pValuesAt, dD "shown" pShown, dD "shown_by_all" pShownByAll, dD "answered" pAnswered, dD "_law_purse" sPurse, dD "_law_coin" sCoin, dD "_law_words" sWords, dD "_law_drawn_tables" sDrawnTables, dD "_law_drawn_rules" sDrawnRules, dD "_law_copied" sCopied, dD "_law_muddle" sMuddle, dD "_law_own" sOwn, dD "_law_road" sRoad, dD "_law_worth" sWorth, dD "_law_broken" sBroken, dD "_law_puts" sPuts, dD "_law_lines" sLines, dD "_law_store" sStore, dD "_law_kinds" sKinds, dD "_law_error_right" sErrorRight, dD "_law_shape" sShape, dD "_law_new_line" sNewLine, dD "_law_put_due" sPutDue, dD "_law_undo_right" sUndoRight, dD "_law_all_right" sAllRight, dD "_law_turned_rules" sTurnedRules, dD "_law_put_caught" sPutCaught, dD "_law_clashes" sClashes, dD "_law_let_in" sLetIn, dD "law" sLaw]
def fnN0 : List Str := ["check_tables", "check_columns", "check_name", "check_rule", "is_name", "has_form", "copied", "read_book", "tables_and_rules", "rule_of", "show_book", "rule_text", "filled", "breaks", "places_of", "values_at", "shown", "shown_by_all", "answered", "_law_purse", "_law_coin", "_law_words", "_law_drawn_tables", "_law_drawn_rules", "_law_copied", "_law_muddle", "_law_own", "_law_road"]
def fnN1 : List Str := ["_law_worth", "_law_broken", "_law_puts", "_law_lines", "_law_store", "_law_kinds", "_law_error_right", "_law_shape", "_law_new_line", "_law_put_due", "_law_undo_right", "_law_all_right", "_law_turned_rules", "_law_put_caught", "_law_clashes", "_law_let_in", "law"]
def fnNames : List Str := fnN0 ++ fnN1
def bltNames : List Str := ["len", "max", "min", "abs", "int", "isinstance", "list", "tuple", "range", "zip", "repr", "ValueError", "all", "any", "sum", "bool", "dict", "str", "enumerate"]
def own : List He.Fa := [.cls "Book", .noat "Book" "_tables", .noat "Book" "_rules", .mkr "Book", .cls "Store", .noat "Store" "_book", .noat "Store" "_rows", .noat "Store" "_steps", .mkr "Store", .int "LONGEST_NAME" 8, .meth "Store" "rows", .meth "Store" "put", .meth "Store" "take", .meth "Store" "undo", .meth "Store" "__len__", .meth "Store" "__call__", .meth "Book" "with_rules", .meth "Book" "without"]
def fa : List He.Fa := names.map He.Fa.glo ++ (fnNames.map He.Fa.glo ++ (bltNames.map He.Fa.free ++ (names.tail.map (fun y => He.Fa.exm y "KeyTellError" true) ++ ((["Book", "RULE_FORMS", "Store", "QUESTION_FORMS"] : List Str).map He.Fa.glo ++ own))))
def isCB (K : PySem.W.Frag) (C : Addr) : Bool := He.eqO (PySem.W.findIn K (.ref C) "__class__") (some (some (.builtin "object.__class__"))) && (He.eqO (PySem.W.specialIn K (.builtin "object.__class__") "__get__") (some (some (.builtin "getset_descriptor.__get__"))) &&
  (decide (PySem.W.takesIn K (.builtin "object.__class__") = some true) && (decide (PySem.W.mroIn K C (.type "object") = some true) && decide (PySem.W.kitOne K (.ref C) (.ref C) = some true))))
theorem isCB_ok {K : PySem.W.Frag} {C : Addr} (c : L2.Cls K C) (h : isCB K C = true) : C8.InsC K C := by
  obtain ⟨h1, h⟩ := He.ba h
  obtain ⟨h2, h⟩ := He.ba h
  obtain ⟨h3, h⟩ := He.ba h
  obtain ⟨h4, h5⟩ := He.ba h
  exact ⟨c, He.eqO_ok h1, He.eqO_ok h2, of_decide_eq_true h3, of_decide_eq_true h4, of_decide_eq_true h5⟩
def neB (K : PySem.W.Frag) (C : Addr) : Bool := He.eqO (PySem.W.findIn K (.ref C) "__ne__") (some (some (.builtin "object.__ne__"))) && decide (PySem.W.mroIn K C (.type "object") = some true)
theorem neB_ok {K : PySem.W.Frag} {C : Addr} (h : neB K C = true) : PySem.W.findIn K (.ref C) "__ne__" = some (some (.builtin "object.__ne__")) ∧ PySem.W.mroIn K C (.type "object") = some true := by
  obtain ⟨h1, h2⟩ := He.ba h
  exact ⟨He.eqO_ok h1, of_decide_eq_true h2⟩
def formsL : List (Str × Int) := [("all", 3), ("pair", 4), ("left", 4), ("where", 3), ("show", 3), ("both", 3), ("once", 2)]
def pairL (K : PySem.W.Frag) : List Value → List (Str × Int) → Bool
  | [], [] => true
  | .ref b :: vs, p :: ps => pairB K b p.1 p.2 && pairL K vs ps
  | _, _ => false
def pairsL (K : PySem.W.Frag) (a : Addr) (ps : List (Str × Int)) : Bool := match tupAt K a with
  | some vs => pairL K vs ps
  | none => false
theorem pairL_ok {K : PySem.W.Frag} (H : Hp) : ∀ {vs : List Value} {ps : List (Str × Int)}, pairL K vs ps = true → ∃ xs : List V, Vals xs vs ∧ DpAll K H xs (ps.map fun p => .tuple [.str p.1, .int p.2])
  | [], [], _ => ⟨[], .nil, .nil⟩
  | .ref b :: vs, p :: ps, h => by
    obtain ⟨h1, h2⟩ := He.ba h
    obtain ⟨xs, r, d⟩ := pairL_ok H h2
    exact ⟨.ref b :: xs, .cons rfl r, .cons (pairB_ok h1 H) d⟩
  | .ref _ :: _, [], h => by cases h
theorem pairsL_ok {K : PySem.W.Frag} {a : Addr} {ps : List (Str × Int)} (h : pairsL K a ps = true) (H : Hp) : Dp K H (.ref a) (.tuple (ps.map fun p => .tuple [.str p.1, .int p.2])) := by
  unfold pairsL at h
  split at h
  · rename_i vs e
    obtain ⟨xs, r, d⟩ := pairL_ok H h
    exact .tup (tupAt_ok e r H) d
  · cases h
def ex (K : PySem.W.Frag) : Bool := errsB K "value" "KeyTellError" names && (itemB K (He.ga K "Book") && (propB K (He.ga K "Book") "tables" && (propB K (He.ga K "Book") "rules" && (isCB K (He.ga K "Book") && (pairsB K (He.ga K "RULE_FORMS") "key" "settles" 3 4 && (pairsL K (He.ga K "QUESTION_FORMS") formsL && (PySem.W.fnIn K (He.ma K (He.ga K "Store") "__call__"))))))))
abbrev R : PySem.W.OpenRow := PySem.W.OpenLaw.row PySem.Challenge.rw_keysthrough_k50_refused_rows_let_in
abbrev hk : PySem.W.Hook := hookS 4 fa fn ex
def ob (s : PySem.W.SharedT) : He.AlD := obsSG 4 fa fn ex (HandSHeadRun.getT s)
theorem ob_eq (s : PySem.W.SharedT) : ob s = hk.obs s.abs := obsSG_eq (HandSHeadRun.getT_eq s)
def looseA : List Str := ["_wall", "Book", "Store", "RULE_FORMS", "LONGEST_NAME", "QUESTION_FORMS", "PART_COUNTS", "parts_of", "named_columns", "columns_of_condition", "columns_over", "is_sound", "holds", "check_unlike", "rows_over", "joined", "chosen", "rows_that_meet"]
def looseB0 : List Str := ["check_tables", "check_columns", "check_name", "check_rule", "is_name", "has_form", "copied", "read_book", "tables_and_rules", "rule_of", "show_book", "rule_text", "filled", "breaks", "places_of", "values_at", "shown", "shown_by_all", "answered", "_law_purse", "_law_coin", "_law_words", "_law_drawn_tables", "_law_drawn_rules", "_law_copied", "_law_muddle", "_law_own", "_law_road"]
def looseB1 : List Str := ["_law_worth", "_law_broken", "_law_puts", "_law_lines", "_law_store", "_law_kinds", "_law_error_right", "_law_shape", "_law_new_line", "_law_put_due", "_law_undo_right", "_law_all_right", "_law_turned_rules", "_law_put_caught", "_law_clashes", "_law_let_in"]
def loose : List Str := names ++ (looseA ++ (looseB0 ++ (looseB1)))
/-- a row whose top builds a dict with keys asks one setting: both cases are run -/
def pick (w : World) (b : Bool) : World := { w with params := { w.params with followText := fun s => if s = "special-get-raises" then b else w.params.followText s } }
theorem pick_eq (w : World) : pick w (w.params.followText "special-get-raises") = w := by
  have e : (fun s => if s = "special-get-raises" then w.params.followText "special-get-raises" else w.params.followText s) = w.params.followText := by
    funext s
    split
    · rename_i h
      rw [h]
    · rfl
  unfold pick
  rw [e]
theorem run_f (w : World) : HandSHeadRun.RunEq R (PySem.W.view R.prog [79]) hk ob 20000 loose (pick w false) := by
  intro os
  kernel_rfl
theorem run_t (w : World) : HandSHeadRun.RunEq R (PySem.W.view R.prog [79]) hk ob 20000 loose (pick w true) := by
  intro os
  kernel_rfl
theorem run_b (w : World) (b : Bool) : HandSHeadRun.RunEq R (PySem.W.view R.prog [79]) hk ob 20000 loose (pick w b) := by
  cases b with
  | false => exact run_f w
  | true => exact run_t w
theorem run (w : World) : HandSHeadRun.RunEq R (PySem.W.view R.prog [79]) hk ob 20000 loose w := by
  have h := run_b w (w.params.followText "special-get-raises")
  rw [pick_eq] at h
  exact h
end LW
set_option Elab.async false
set_option linter.all false
set_option maxRecDepth 100000
set_option maxHeartbeats 4000000
namespace LW
open PySem PySem.Spec PyProof.Rows L2 KV
/-! ### _law_error_right -/
def spErrR (K : PySem.W.Frag) : Sp := fun vs H Q _ => (vs = [.non, .non] ∧ ∀ H', Off (fun _ => False) H H' → Q (.bl true) H') ∨
  ∃ (a dx t : Addr) (x : Str) (u v : V) (d : PyData) (F : Fp) (b : Nat) (ms : List Nat), vs = [.ref a, .ref t] ∧ x ∈ names.tail ∧ Cau H a (He.ga K x) dx [("value", v)] ∧ SqT K H t [.str x, u] ∧ Ow H v d F ∧ Dp K H u d ∧ Sz b ms d ∧
    ∀ H', Off F H H' → Q (.bl true) H'
theorem kinds_one {x : Str} (h : x ∈ names.tail) : kinds x = [x] := by
  have all : ∀ y ∈ names.tail, kinds y = [y] := by decide
  exact all x h
section
variable {P : Program} {w : World} {K : PySem.W.Frag} {mg : Str → Option Value} {base : Heap}
theorem scErrR : FnScope ["caught", "due"] ["caught", "due"] (defScope sErrorRight) := ⟨rfl, rfl, rfl, by decide +kernel, rfl, by decide +kernel, by decide +kernel⟩
theorem ok_errR {f fK fO : Addr} {fd dK dO dI : FuncData} (F : FnP K "_law_error_right" sErrorRight f fd) (T : ErrT P w K mg base dI) (GK : FnOk P w K mg base CX0 1 fK dK ["caught"] (spKinds K)) (bK : Binds K dK ["caught"] []) (mK : mg "_law_kinds" = some (.ref fK)) (kK : PySem.W.keepIn K (.ref fK) = true)
    (GO : FnC P w K mg base CX0 7 fO dO ["told", "due"] (spOwn K)) (bO : Binds K dO ["told", "due"] []) (mO : mg "_law_own" = some (.ref fO)) (kO : PySem.W.keepIn K (.ref fO) = true) (mi : mg "isinstance" = none) (mv : mg "ValueError" = none) :
    FnC P w K mg base CX0 8 f fd ["caught", "due"] (spErrR K) := by
  refine Fun.okC F scErrR (fun vs H Q E h => ?_) (fun cdv A outer s H vs Q E hG hr h => ?_)
  · rcases h with ⟨rfl, _⟩ | ⟨a, dx, t, x, u, v, d, F, b, ms, rfl, _⟩
    · rfl
    · rfl
  have hr1 : Room 1 _ := hr.mono (by decide)
  have hu : (A.deeper (envOfC "_law_error_right" (defScope sErrorRight) s.heap.objs.size f cdv)).units + 64 < cLine := hr.units
  refine ⟨_, pss_cons (ps_if (PW.pt (pw_or (pt_cmpR op_isN (pv 1) pe_non (nomark _)) (pw_or1 (pt_cmpR op_isN (pv 0) pe_non (nomark _)))))
      (pss_one (ps_ret (pe_and (pe_cmpR op_isN (pv 1) pe_non (nomark _)) (pe_one (pe_cmpR op_isN (pv 0) pe_non (nomark _)))))) pss_nil)
    (pss_cons (ps_if (PW.pt (pw_or (pt_not (pt_val (pe_callB call_isK rfl mi boot_isinstance (pa_cons (pv 0) (pa_cons (pe_bltn (v := .ty "ValueError") rfl mv PyProof.Rows.Boot.«ValueError» rfl) pa_nil)))))
      (pw_or1 (pt_cmpR (op_neD hu) (pe_call GK hr1 rfl mK kK bK .nil pass0 (pa_cons (pv 0) pa_nil)) (pe_lst (pa_cons (pe_ix ix_tup (pv 1) pe_int (fun _ _ => rfl)) pa_nil)) (nomark _))))) (pss_one (ps_ret pe_bl)) pss_nil)
    (pss_one (ps_ret (pe_callC hG GO hr rfl mO kO bO pass0 (pa_cons (pe_getK (pv 0)) (pa_cons (pe_ix ix_tup (pv 1) pe_int (fun _ _ => rfl)) pa_nil)))))), ?_⟩
  rcases h with ⟨rfl, q⟩ | ⟨a, dx, t, x, u, v, d, Fo, b, ms, rfl, hx, ec, et, o, du, sz, q⟩
  · have e : decide (V.non = V.non) = true := decide_eq_true rfl
    refine ⟨_, rfl, rfl, _, rfl, ite2 (fun _ => iteT ⟨_, rfl, rfl, _, rfl, ite2 (fun _ => ⟨_, rfl, rfl, ?_⟩) (fun c => (c e).elim)⟩) (fun c => (c e).elim)⟩
    rw [e]
    exact q H (Off.refl _ _)
  · have hx' : x ∈ names := List.mem_of_mem_tail hx
    have er := (T.es.ok x hx').err
    have no : ∀ {y : Addr}, ¬ decide (V.ref y = V.non) = true := fun c => by cases of_decide_eq_true c
    refine ⟨_, rfl, rfl, _, rfl, ite2 (fun c => (no c).elim) (fun _ => ⟨_, rfl, rfl, _, rfl, ite2 (fun c => (no c).elim) (fun _ => ?_)⟩)⟩
    refine ⟨_, rfl, a, _, dx, _, _, _, true, rfl, .ty _, er, ec, T.es.ve x hx', _, rfl, iteF ?_⟩
    refine ⟨_, rfl, a, dx, x, _, rfl, hx', ec, fun D H1 hD eD k1 => ?_⟩
    have et1 := sqT_off k1 et
    refine ⟨_, rfl, t, _, 0, _, rfl, rfl, et1, rfl, (by show 1 ≤ sizeLine; decide), fun D2 hD2 => ?_⟩
    rw [kinds_one hx] at eD
    have sh : SeqAt.shaped (.list [.str x]) = true := by
      have all : ∀ y ∈ names.tail, SeqAt.shaped (.list [.str y]) = true := by decide +kernel
      exact all x hx
    have k2 : Off (fun _ => False) H1 (upd H1 D2 (.lst [.str x])) := Off.new hD2
    refine ⟨.list [.str x], .list [.str x], .lst (SqL.of (k2 _ _ eD id)) (.cons (.str x) .nil), .lst (SqL.of upd_same) (.cons (.str x) .nil), sh, sh, _, rfl, ?_⟩
    rw [SeqAt.eqv_refl _ (SeqAt.canLay_of_shaped sh)]
    have k12 := k1.trans k2
    refine iteF ⟨_, rfl, a, _, dx, _, v, rfl, (T.es.ok x hx').xf, (T.es.ok x hx').no, cau_off ec k12, rfl, _, rfl, t, _, 1, _, rfl, rfl, sqT_off k12 et, rfl, ?_⟩
    refine ⟨v, u, d, Fo, b, ms, rfl, o.keep k12 (fun _ z => z.elim) (fun _ _ z => z), dp_off k12 du, sz, fun H' k => q H' ?_⟩
    exact (k12.mono fun _ z => z.elim).trans k
end
end LW
set_option Elab.async false
set_option linter.all false
set_option maxRecDepth 100000
set_option maxHeartbeats 4000000
namespace LW
open PySem PySem.Spec PyProof.Rows L2 KV
/-- a comprehension over the signs of a text -/
theorem lc_str {x : Str} {g : TG} {tt : TT} {te : TE} {vs : List Nat} {σ : L2.St} {H1 : Hp} {D : Addr} {Qd : Hp → Prop} (Pv : Nat → Hp → Prop) (h0 : Pv 0 (upd H1 D (.lst [])))
    (hs : ∀ i c H, x.cps.toList[i]? = some c → Pv i H → g (.str ⟨#[c]⟩) (wipe σ vs) H fun σ2 H2 => wipe σ2 vs = wipe σ vs ∧ tt σ2 H2 fun b H3 =>
      if b = true then te σ2 H3 fun y H4 => ∃ acc, H4 D = some (.lst acc) ∧ acc.length < sizeLine ∧ Pv (i + 1) (upd H4 D (.lst (acc ++ [y]))) else Pv (i + 1) H3)
    (hd : ∀ H, Pv x.cps.toList.length H → Qd H) :
    ∃ W : Nat → Nat → Hp → Prop, (∃ m, W 0 m (upd H1 D (.lst []))) ∧ ∀ i m H, W i m H →
      ((Its x).stop i H ∧ Qd H) ∨ ((Its x).go i H ∧ ∃ Nx : Hp → Prop, (∀ H', Nx H' → ∃ m', m' < m ∧ W (i + 1) m' H') ∧ ∀ y H', (Its x).yld i H y H' → g y (wipe σ vs) H' fun σ2 H2 => wipe σ2 vs = wipe σ vs ∧ tt σ2 H2 fun c H3 =>
        if c = true then te σ2 H3 fun y H4 => ∃ acc, H4 D = some (.lst acc) ∧ acc.length < sizeLine ∧ Nx (upd H4 D (.lst (acc ++ [y]))) else Nx H3) := by
  refine ⟨fun i m H => m = x.cps.toList.length - i ∧ i ≤ x.cps.toList.length ∧ Pv i H, ⟨_, rfl, Nat.zero_le _, h0⟩, ?_⟩
  rintro i m H ⟨rfl, hi, pv⟩
  have sz : x.cps.toList.length = x.cps.size := by simp
  rcases Nat.lt_or_ge i x.cps.toList.length with lt | ge
  · refine .inr ⟨by show i < x.cps.size; omega, Pv (i + 1), fun H' z => ⟨x.cps.toList.length - (i + 1), by omega, rfl, lt, z⟩, ?_⟩
    rintro v H' ⟨rfl, c, hc, rfl⟩
    exact hs i c _ (by rw [← hc]; simp) pv
  · have e : i = x.cps.toList.length := by omega
    rw [e] at pv
    exact .inl ⟨by show x.cps.size ≤ i; omega, hd H pv⟩
/-! ### _law_is_title -/
def Asc (x : Str) : Prop := ∀ c ∈ x.cps.toList, c < 128
def small (c : Nat) : Bool := decide (97 ≤ c ∧ c ≤ 122)
def isT (x : Str) : Bool := decide (0 < x.length) && (decide (x.length < 9) && x.cps.toList.all small)
theorem isT_title {x : Str} : isT x = true ↔ Title x := by
  unfold isT Title
  simp only [Bool.and_eq_true, decide_eq_true_eq, List.all_eq_true, small]
  constructor
  · rintro ⟨h1, h2, h3⟩
    exact ⟨h1, by omega, h3⟩
  · rintro ⟨h1, h2, h3⟩
    exact ⟨h1, by omega, h3⟩
theorem Title.asc {x : Str} (h : Title x) : Asc x := fun c hc => by have := h.2.2 c hc; omega
theorem abc_mem (c : Nat) : decide (c ∈ ("abcdefghijklmnopqrstuvwxyz" : Str).cps.toList) = small c := by
  have e : ("abcdefghijklmnopqrstuvwxyz" : Str).cps.toList = (List.range 26).map (97 + ·) := by decide +kernel
  rw [e]
  unfold small
  rw [decide_eq_decide]
  simp only [List.mem_map, List.mem_range]
  constructor
  · rintro ⟨a, h, rfl⟩
    omega
  · rintro ⟨h1, h2⟩
    exact ⟨c - 97, by omega, by omega⟩
theorem strOk_asc {x : Str} (h : Asc x) : PyData.strOk x = true := by
  unfold PyData.strOk
  rw [Array.all_eq_true']
  intro c hc
  exact decide_eq_true (Nat.lt_trans (h c (by simpa using hc)) (by decide))
theorem lay_strs : ∀ {xs : List Str}, (∀ x ∈ xs, Asc x) → PyData.canLayAll0 (xs.map PyData.str) = true
  | [], _ => by simp [PyData.canLayAll0]
  | x :: xs, h => by
    simp only [List.map_cons, PyData.canLayAll0, PyData.canLay0, Bool.and_eq_true]
    exact ⟨strOk_asc (h x List.mem_cons_self), lay_strs fun y hy => h y (List.mem_cons_of_mem _ hy)⟩
theorem depth_strs : ∀ xs : List Str, PyData.depthAll (xs.map PyData.str) ≤ 0
  | [] => by simp [PyData.depthAll]
  | x :: xs => by
    have ih := depth_strs xs
    simp only [List.map_cons, PyData.depthAll, PyData.depth]
    omega
theorem shaped_strs {xs : List Str} (h : ∀ x ∈ xs, Asc x) : SeqAt.shaped (.list (xs.map PyData.str)) = true := by
  unfold SeqAt.shaped
  rw [Bool.and_eq_true]
  refine ⟨by simp only [PyData.canLay0]; exact lay_strs h, decide_eq_true ?_⟩
  have := depth_strs xs
  simp only [PyData.depth]
  omega
theorem eqv_nil (ds : List PyData) : PyData.eqv (.list ds) (.list []) = ds.isEmpty := by
  cases ds <;> simp [PyData.eqv, PyData.eqvAll]
theorem dp_strs {K : PySem.W.Frag} {H : Hp} : ∀ xs : List Str, DpAll K H (xs.map V.str) (xs.map PyData.str)
  | [] => .nil
  | x :: xs => .cons (.str x) (dp_strs xs)
theorem filt_small (l : List Nat) : (l.filter fun c => !small c).isEmpty = l.all small := by
  induction l with
  | nil => rfl
  | cons c l ih =>
    cases h : small c <;> simp [h, ih]
def spIsT : Sp := fun vs H Q _ => ∃ x : Str, vs = [.str x] ∧ Asc x ∧ x.length ≤ 1000 ∧ ∀ H', Off (fun _ => False) H H' → Q (.bl (isT x)) H'
section
variable {P : Program} {w : World} {K : PySem.W.Frag} {mg : Str → Option Value} {base : Heap}
end
end LW
set_option Elab.async false
set_option linter.all false
set_option maxRecDepth 100000
set_option maxHeartbeats 4000000
namespace LW
open PySem PySem.Spec PyProof.Rows L2 KV
/-! ### _law_bad_title -/
/-- plain signs, at most n of them -/
def Gd (n : Nat) (x : Str) : Prop := Asc x ∧ x.length ≤ n
theorem Gd.mono {n m : Nat} {x : Str} (h : Gd n x) (e : n ≤ m) : Gd m x := ⟨h.1, Nat.le_trans h.2 e⟩
theorem Gd.add {n m : Nat} {x y : Str} (h : Gd n x) (k : Gd m y) : Gd (n + m) (x ++ y) := by
  refine ⟨fun c hc => ?_, ?_⟩
  · have hc : c ∈ (x.cps ++ y.cps).toList := hc
    rw [Array.toList_append] at hc
    rcases List.mem_append.mp hc with z | z
    · exact h.1 c z
    · exact k.1 c z
  · have e : (x ++ y).length = x.length + y.length := by
      show (x.cps ++ y.cps).size = _
      rw [Array.size_append]
      rfl
    rw [e]
    exact Nat.add_le_add h.2 k.2
theorem Gd.cut {n : Nat} {x : Str} (h : Gd n x) (lo hi : Option Int) : Gd n (cutS x lo hi) := by
  unfold cutS
  refine ⟨fun c hc => h.1 c ?_, ?_⟩
  · have hc : c ∈ (List.take (HT.sIx x.length x.length hi - HT.sIx x.length 0 lo) (List.drop (HT.sIx x.length 0 lo) x.cps.toList)).toArray.toList := hc
    exact List.mem_of_mem_drop (List.mem_of_mem_take (by simpa using hc))
  · have l : x.cps.toList.length = x.length := by simp [Str.length]
    show (List.take (HT.sIx x.length x.length hi - HT.sIx x.length 0 lo) (List.drop (HT.sIx x.length 0 lo) x.cps.toList)).toArray.size ≤ n
    rw [List.size_toArray, List.length_take, List.length_drop, l]
    have := h.2
    omega
def gdB (n : Nat) (x : Str) : Bool := x.cps.toList.all (fun c => decide (c < 128)) && decide (x.length ≤ n)
theorem gdB_ok {n : Nat} {x : Str} (h : gdB n x = true) : Gd n x := by
  unfold gdB at h
  rw [Bool.and_eq_true] at h
  exact ⟨fun c hc => of_decide_eq_true (List.all_eq_true.mp h.1 c hc), of_decide_eq_true h.2⟩
theorem tx_of (x : Str) : tx x.cps.toList = x := str_ext (tx_cps _)
theorem upper_tx : ∀ l : List Nat, (∀ c ∈ l, c < 128) → ∃ l', Txt.upper (tx l) = tx l' ∧ l'.length = l.length ∧ ∀ c ∈ l', c < 128
  | [], _ => ⟨[], by decide +kernel, rfl, fun c h => absurd h (by simp)⟩
  | c :: l, h => by
    obtain ⟨l', e, e1, e2⟩ := upper_tx l fun d hd => h d (List.mem_cons_of_mem _ hd)
    have hc := h c List.mem_cons_self
    refine ⟨(if 97 ≤ c ∧ c ≤ 122 then c - 32 else c) :: l', ?_, by simp [e1], fun d hd => ?_⟩
    · have z : tx (c :: l) = tx [c] ++ tx l := (tx_add [c] l).symm
      rw [z, PySem.W.KOpn.upper_app, e]
      have z2 : Txt.upper (tx [c]) = tx [if 97 ≤ c ∧ c ≤ 122 then c - 32 else c] := PySem.W.KOpn.upper_one hc
      rw [z2, tx_add]
      rfl
    · rcases List.mem_cons.mp hd with z | z
      · rw [z]
        split <;> omega
      · exact e2 d z
theorem Gd.upper {n : Nat} {x : Str} (h : Gd n x) : Gd n (Txt.upper x) := by
  obtain ⟨l', e, e1, e2⟩ := upper_tx x.cps.toList h.1
  rw [tx_of] at e
  rw [e]
  refine ⟨fun c hc => e2 c (by rwa [tx_cps] at hc), ?_⟩
  rw [tx_len, e1]
  exact Nat.le_trans (by simp [Str.length]) h.2
theorem Title.gd {x : Str} (h : Title x) : Gd 8 x := ⟨h.asc, h.2.1⟩
/-- what is new is not what was there -/
theorem off_ne {H H' : Hp} {a b : Addr} {o : HO} (k : Off (fun _ => False) H H') (h : H a = some o) (n : H' b = none) : b ≠ a := fun z => by
  rw [z, k _ _ h id] at n
  cases n
def spBad : Sp := fun vs H Q _ => ∃ (p : Addr) (x : Str) (n c : Nat), vs = [.ref p, .str x] ∧ Gd n x ∧ n ≤ 1000 ∧ Pu H p c ∧ c + 1 ≤ 1000000000 ∧
  ∀ (y : Str) (H' : Hp), Gd (2 * n + 9) y → Pu H' p (c + 1) → Off (fun a => a = p) H H' → Q (.str y) H'
section
variable {P : Program} {w : World} {K : PySem.W.Frag} {mg : Str → Option Value} {base : Heap}
end
end LW
set_option Elab.async false
set_option linter.all false
set_option maxRecDepth 100000
set_option maxHeartbeats 4000000
namespace LW
open PySem PySem.Spec PyProof.Rows L2 KV
theorem cutV_head {xs : List V} {k : Int} (h : 0 ≤ k) : cutV xs none (some k) = xs.take k.toNat := by
  have hk : ¬ k < 0 := by omega
  unfold cutV
  simp [HT.sIx, hk]
theorem cutV_tail {xs : List V} {k : Int} (h : 0 ≤ k) : cutV xs (some k) none = xs.drop k.toNat := by
  have hk : ¬ k < 0 := by omega
  unfold cutV
  simp [HT.sIx, hk]
  by_cases c : k.toNat ≤ xs.length
  · rw [Nat.min_eq_left c, List.take_of_length_le (by simp)]
  · rw [Nat.min_eq_right (by omega)]
    simp
    omega
/-! ### _law_bent_tables -/
/-- tables that may be wrong: plain texts, so many at most -/
structure TabB (n mc : Nat) (t : Tab) : Prop where
  one : 1 ≤ t.2.length
  most : t.2.length ≤ mc
  good : ∀ x ∈ t.2, Gd n x
  name : Gd n t.1
structure TabsB (n mc mt : Nat) (ts : List Tab) : Prop where
  one : 1 ≤ ts.length
  most : ts.length ≤ mt
  each : ∀ t ∈ ts, TabB n mc t
/-- .. perhaps none at all -/
structure TabsW (n mc mt : Nat) (ts : List Tab) : Prop where
  most : ts.length ≤ mt
  each : ∀ t ∈ ts, TabB n mc t
theorem TabsB.w {n mc mt : Nat} {ts : List Tab} (h : TabsB n mc mt ts) : TabsW n mc mt ts := ⟨h.most, h.each⟩
theorem TabsOk.b {mt mc : Nat} {ts : List Tab} (h : TabsOk mt mc ts) : TabsB 8 mc mt ts :=
  ⟨h.one, h.most, fun t ht => ⟨(h.each t ht).one, (h.each t ht).most, fun x hx => ((h.each t ht).good x hx).gd, (h.each t ht).name.gd⟩⟩
theorem TabB.mono {n n' mc mc' : Nat} {t : Tab} (h : TabB n mc t) (e : n ≤ n') (f : mc ≤ mc') : TabB n' mc' t := ⟨h.one, Nat.le_trans h.most f, fun x hx => (h.good x hx).mono e, h.name.mono e⟩
theorem fit_str {n : Nat} {ms : List Nat} {x : Str} (h : Gd n x) : Fit n ms (.str x) := by
  have q : x.length ≤ n ∧ ∀ c ∈ x.cps.toList, c < 16 ^ 8 := ⟨h.2, fun c hc => Nat.lt_trans (h.1 c hc) (by decide)⟩
  cases ms <;> exact q
theorem fit_cols {n mc : Nat} {ms : List Nat} {cs : List Str} (h : cs.length ≤ mc) (g : ∀ x ∈ cs, Gd n x) : Fit n (mc :: ms) (colsD cs) := by
  refine ⟨by rw [List.length_map]; exact h, fun d hd => ?_⟩
  obtain ⟨x, hx, rfl⟩ := List.mem_map.mp hd
  exact fit_str (g x hx)
theorem fit_tab {n mc : Nat} {t : Tab} (h : TabB n mc t) : Fit n [2, mc] (tabD t) := by
  refine ⟨by show 2 ≤ 2; decide, fun d hd => ?_⟩
  rcases List.mem_cons.mp hd with rfl | hd
  · exact fit_str h.name
  · rw [List.mem_singleton.mp hd]
    exact fit_cols h.most h.good
theorem fit_tabs {n mc mt : Nat} {ts : List Tab} (h : TabsB n mc mt ts) : Fit n [mt, 2, mc] (tabsD ts) := by
  refine ⟨by rw [List.length_map]; exact h.most, fun d hd => ?_⟩
  obtain ⟨t, ht, rfl⟩ := List.mem_map.mp hd
  exact fit_tab (h.each t ht)
theorem fit_tabsW {n mc mt : Nat} {ts : List Tab} (h : TabsW n mc mt ts) : Fit n [mt, 2, mc] (tabsD ts) := by
  refine ⟨by rw [List.length_map]; exact h.most, fun d hd => ?_⟩
  obtain ⟨t, ht, rfl⟩ := List.mem_map.mp hd
  exact fit_tab (h.each t ht)
theorem dpAll_set {K : PySem.W.Frag} {H : Hp} : ∀ {xs : List V} {ds : List PyData} {v : V} {d : PyData} (i : Nat), DpAll K H xs ds → Dp K H v d → DpAll K H (xs.set i v) (ds.set i d)
  | _, _, _, _, _, .nil, _ => .nil
  | _, _, _, _, 0, .cons h r, k => .cons k r
  | _, _, _, _, i + 1, .cons h r, k => .cons h (dpAll_set i r k)
def spBentT (K : PySem.W.Frag) : Sp := fun vs H Q _ => ∃ (p : Addr) (v : V) (ts : List Tab) (n mc mt c : Nat), vs = [.ref p, v] ∧ Dp K H v (tabsD ts) ∧ TabsB n mc mt ts ∧ n ≤ 300 ∧ mc ≤ 100 ∧ mt ≤ 100 ∧ Pu H p c ∧ c + 10 ≤ 1000000000 ∧
  ∀ (v' : V) (ts' : List Tab) (H' : Hp) (c' : Nat), Dp K H' v' (tabsD ts') → TabsB (2 * n + 9) (mc + 1) mt ts' → Pu H' p c' → c' ≤ c + 10 → Off (fun a => a = p) H H' → Q v' H'
section
variable {P : Program} {w : World} {K : PySem.W.Frag} {mg : Str → Option Value} {base : Heap}
end
end LW
set_option Elab.async false
set_option linter.all false
set_option maxRecDepth 100000
set_option maxHeartbeats 0
namespace LW
open PySem PySem.Spec PyProof.Rows L2 KV
/-! ### _law_bent_rule -/
/-- a tuple of texts, with a list of texts at the third place or not -/
abbrev RB := List Str × Option (List Str × List Str)
def rbL : RB → List PyData
  | (h, none) => h.map PyData.str
  | (h, some (cs, tl)) => h.map PyData.str ++ colsD cs :: tl.map PyData.str
def rbD (r : RB) : PyData := .tuple (rbL r)
structure RbOk (n mc : Nat) (r : RB) : Prop where
  head : r.1.length ≤ 2
  hg : ∀ x ∈ r.1, Gd n x
  two : r.2 ≠ none → r.1.length = 2
  cs : ∀ cs tl, r.2 = some (cs, tl) → cs.length ≤ mc ∧ (∀ x ∈ cs, Gd n x) ∧ tl.length ≤ 2 ∧ ∀ x ∈ tl, Gd n x
theorem noInt_rb (r : RB) : noIntAll (rbL r) = true := by
  refine noIntAll_of fun d hd => ?_
  have st : ∀ {l : List Str}, d ∈ l.map PyData.str → noInt d = true := fun h => by
    obtain ⟨x, _, rfl⟩ := List.mem_map.mp h
    simp [noInt]
  obtain ⟨h, o⟩ := r
  cases o with
  | none => exact st hd
  | some q =>
    obtain ⟨cs, tl⟩ := q
    rcases List.mem_append.mp hd with hd | hd
    · exact st hd
    · rcases List.mem_cons.mp hd with rfl | hd
      · exact noInt_cols cs
      · exact st hd
/-- texts alone -/
inductive Flat : List V → List PyData → Prop where
  | nil : Flat [] []
  | str {x : Str} {vs : List V} {ds : List PyData} (r : Flat vs ds) : Flat (.str x :: vs) (.str x :: ds)
/-- texts, and one list -/
inductive One (a : Addr) (d : PyData) : List V → List PyData → Prop where
  | str {x : Str} {vs : List V} {ds : List PyData} (r : One a d vs ds) : One a d (.str x :: vs) (.str x :: ds)
  | at_ {vs : List V} {ds : List PyData} (r : Flat vs ds) : One a d (.ref a :: vs) (d :: ds)
inductive Item (sm be : Addr) (cs bs : List Str) (vs : List V) (ds : List PyData) : Prop where
  | flat (h : Flat vs ds)
  | so (h : One sm (colsD cs) vs ds)
  | be (h : One be (colsD bs) vs ds)
theorem Flat.dp {K : PySem.W.Frag} {H : Hp} : ∀ {vs : List V} {ds : List PyData}, Flat vs ds → DpAll K H vs ds
  | _, _, .nil => .nil
  | _, _, .str r => .cons (.str _) r.dp
theorem One.dp {K : PySem.W.Frag} {H : Hp} {a : Addr} {d : PyData} (h : Dp K H (.ref a) d) : ∀ {vs : List V} {ds : List PyData}, One a d vs ds → DpAll K H vs ds
  | _, _, .str r => .cons (.str _) (r.dp h)
  | _, _, .at_ r => .cons h r.dp
theorem Flat.ow {H : Hp} {F : Fp} (e : ∀ a, ¬ F a) : ∀ {vs : List V} {ds : List PyData}, Flat vs ds → OwAll H vs ds F
  | _, _, .nil => .nil e
  | _, _, .str r => .cons (.str _ e) (r.ow e) (fun a z _ => e a z) fun a => ⟨.inl, fun z => z.elim id id⟩
theorem One.ow {H : Hp} {a : Addr} {d : PyData} {F : Fp} (h : Ow H (.ref a) d F) : ∀ {vs : List V} {ds : List PyData}, One a d vs ds → OwAll H vs ds F
  | _, _, .str r => .cons (F := fun _ => False) (.str _ fun _ z => z) (r.ow h) (fun _ z => z.elim) fun a => ⟨.inr, fun z => z.elim False.elim id⟩
  | _, _, .at_ r => .cons (G := fun _ => False) h (r.ow fun _ z => z) (fun _ _ z => z) fun a => ⟨.inl, fun z => z.elim id False.elim⟩
/-- a tuple of the menu -/
def ItemAt (sm be : Addr) (cs bs : List Str) (H : Hp) (u : V) (r : RB) : Prop := ∃ a vs, u = .ref a ∧ H a = some (.tup vs) ∧ Item sm be cs bs vs (rbL r)
theorem paired_snoc {D : V → RB → Prop} : ∀ {us : List V} {rs : List RB} {u : V} {r : RB}, Paired D us rs → D u r → Paired D (us ++ [u]) (rs ++ [r])
  | _, _, _, _, .nil, h => .cons h .nil
  | _, _, _, _, .cons h0 k, h => .cons h0 (paired_snoc k h)
theorem paired_imp {D E : V → RB → Prop} (f : ∀ u r, D u r → E u r) : ∀ {us : List V} {rs : List RB}, Paired D us rs → Paired E us rs
  | _, _, .nil => .nil
  | _, _, .cons h k => .cons (f _ _ h) (paired_imp f k)
theorem paired_at {D : V → RB → Prop} : ∀ {us : List V} {rs : List RB} {i : Nat} {u : V}, Paired D us rs → us[i]? = some u → ∃ r, rs[i]? = some r ∧ D u r
  | _, _, 0, _, .cons h k, e => by
    cases e
    exact ⟨_, rfl, h⟩
  | _, _, i + 1, _, .cons h k, e => paired_at (i := i) k e
  | _, _, i, _, .nil, e => by simp at e
/-- what the menu stands on -/
structure BR (K : PySem.W.Frag) (p : Addr) (c : Nat) (H0 : Hp) (sm be : Addr) (cs bs : List Str) (keep : List (Addr × HO)) (us : List V) (rs : List RB) (H : Hp) : Prop where
  es : H sm = some (.lst (cs.map V.str))
  eb : H be = some (.lst (bs.map V.str))
  ps : sm ≠ p
  pb : be ≠ p
  it : Paired (ItemAt sm be cs bs H) us rs
  pu : Pu H p c
  off : Off (fun a => a = p) H0 H
  kp : ∀ x ∈ keep, H x.1 = some x.2
section
variable {K : PySem.W.Frag} {p sm be : Addr} {c : Nat} {H0 H H' : Hp} {cs bs : List Str} {keep : List (Addr × HO)} {us : List V} {rs : List RB}
theorem BR.cum (B : BR K p c H0 sm be cs bs keep us rs H) : DpAll K H us (rs.map rbD) := by
  have so : Dp K H (.ref sm) (colsD cs) := .lst (SqL.of B.es) (dp_strs _)
  have b : Dp K H (.ref be) (colsD bs) := .lst (SqL.of B.eb) (dp_strs _)
  have key : ∀ {us : List V} {rs : List RB}, Paired (ItemAt sm be cs bs H) us rs → DpAll K H us (rs.map rbD) := by
    intro us rs h
    induction h with
    | nil => exact .nil
    | cons h k ih =>
      obtain ⟨a, vs, rfl, e, i⟩ := h
      refine .cons (.tup (SqT.of e) ?_) ih
      cases i with
      | flat h => exact h.dp
      | so h => exact h.dp so
      | be h => exact h.dp b
  exact key B.it
theorem BR.step (B : BR K p c H0 sm be cs bs keep us rs H) (k : Off (fun _ => False) H H') : BR K p c H0 sm be cs bs keep us rs H' :=
  ⟨k _ _ B.es id, k _ _ B.eb id, B.ps, B.pb, paired_imp (fun u r ⟨a, vs, e, h, i⟩ => ⟨a, vs, e, k _ _ h id, i⟩) B.it, B.pu.off k id, B.off.trans (k.mono fun _ z => z.elim), fun x hx => k _ _ (B.kp x hx) id⟩
/-- one more tuple -/
theorem BR.tup {a : Addr} (B : BR K p c H0 sm be cs bs keep us rs H) (ha : H a = none) (vs : List V) (r : RB) (hd : Item sm be cs bs vs (rbL r)) :
    BR K p c H0 sm be cs bs keep (us ++ [.ref a]) (rs ++ [r]) (upd H a (.tup vs)) := by
  have B1 := B.step (H' := upd H a (.tup vs)) (Off.new ha)
  exact ⟨B1.es, B1.eb, B1.ps, B1.pb, paired_snoc B1.it ⟨a, vs, rfl, upd_same, hd⟩, B1.pu, B1.off, B1.kp⟩
/-- a new list of those -/
theorem BR.menu {a : Addr} (B : BR K p c H0 sm be cs bs keep us rs H) (ha : H a = none) (xs : List V) : BR K p c H0 sm be cs bs [(a, .lst xs)] us rs (upd H a (.lst xs)) := by
  have B1 := B.step (H' := upd H a (.lst xs)) (Off.new ha)
  refine ⟨B1.es, B1.eb, B1.ps, B1.pb, B1.it, B1.pu, B1.off, fun x hx => ?_⟩
  rw [List.mem_singleton.mp hx]
  exact upd_same
theorem BR.more {a : Addr} {o : HO} (B : BR K p c H0 sm be cs bs keep us rs H) (ha : H a = none) : BR K p c H0 sm be cs bs ((a, o) :: keep) us rs (upd H a o) := by
  have B1 := B.step (H' := upd H a o) (Off.new ha)
  refine ⟨B1.es, B1.eb, B1.ps, B1.pb, B1.it, B1.pu, B1.off, fun x hx => ?_⟩
  rcases List.mem_cons.mp hx with rfl | hx
  · exact upd_same
  · exact B1.kp x hx
theorem BR.bad {d : Nat} (B : BR K p c H0 sm be cs bs keep us rs H) (k : Off (fun a => a = p) H H') (hp : Pu H' p d) (hk : ∀ x ∈ keep, x.1 ≠ p) : BR K p d H0 sm be cs bs keep us rs H' := by
  refine ⟨k _ _ B.es B.ps, k _ _ B.eb B.pb, B.ps, B.pb, paired_imp (fun u r ⟨a, vs, e, h, i⟩ => ⟨a, vs, e, k _ _ h fun z => ?_, i⟩) B.it, hp, B.off.trans k, fun x hx => k _ _ (B.kp x hx) (hk x hx)⟩
  obtain ⟨ys, ey⟩ := B.pu.lst
  rw [← z, h] at ey
  cases ey
/-- what a tuple of the menu owns -/
theorem BR.own (B : BR K p c H0 sm be cs bs keep us rs H) {u : V} {r : RB} (h : ItemAt sm be cs bs H u r) : ∃ F, Ow H u (rbD r) F ∧ ∀ a, F a → a = sm ∨ a = be := by
  obtain ⟨a, vs, rfl, e, i⟩ := h
  cases i with
  | flat h => exact ⟨fun _ => False, .tup e (h.ow fun _ z => z), fun _ z => z.elim⟩
  | so h => exact ⟨_, .tup e (h.ow (ow_strs B.es)), fun _ z => .inl z⟩
  | be h => exact ⟨_, .tup e (h.ow (ow_strs B.eb)), fun _ z => .inr z⟩
theorem mem2 {Pr : Str → Prop} {x y : Str} (h : Pr x) (k : Pr y) : ∀ z ∈ [x, y], Pr z := by
  intro z hz
  rcases List.mem_cons.mp hz with e | hz
  · rw [e]
    exact h
  · rw [List.mem_singleton.mp hz]
    exact k
theorem rb1 {n mc : Nat} {x : Str} (h : Gd n x) : RbOk n mc ([x], none) := ⟨by show 1 ≤ 2; decide, fun y hy => by rw [List.mem_singleton.mp hy]; exact h, fun z => (z rfl).elim, fun _ _ z => by cases z⟩
theorem rb2 {n mc : Nat} {x y : Str} (h : Gd n x) (k : Gd n y) : RbOk n mc ([x, y], none) :=
  ⟨by show 2 ≤ 2; decide, mem2 h k, fun z => rfl, fun _ _ z => by cases z⟩
theorem rb3 {n mc : Nat} {x y : Str} {cs tl : List Str} (h : Gd n x) (k : Gd n y) (c1 : cs.length ≤ mc) (c2 : ∀ x ∈ cs, Gd n x) (t1 : tl.length ≤ 2) (t2 : ∀ x ∈ tl, Gd n x) : RbOk n mc ([x, y], some (cs, tl)) :=
  ⟨by show 2 ≤ 2; decide, mem2 h k, fun z => rfl, fun _ _ z => by cases z; exact ⟨c1, c2, t1, t2⟩⟩
end
def spBentR (K : PySem.W.Frag) : Sp := fun vs H Q _ => ∃ (p : Addr) (v : V) (ts : List Tab) (n mc mt c : Nat), vs = [.ref p, v] ∧ Dp K H v (tabsD ts) ∧ TabsB n mc mt ts ∧ 7 ≤ n ∧ n ≤ 300 ∧ mc ≤ 100 ∧ mt ≤ 100 ∧ Pu H p c ∧ c + 10 ≤ 1000000000 ∧
  ∀ (v' : V) (r : RB) (F : Fp) (H' : Hp) (c' : Nat), Ow H' v' (rbD r) F → (∀ a, F a → H a = none) → RbOk (2 * n + 9) (mc + 1) r → Pu H' p c' → c' ≤ c + 10 → Off (fun a => a = p) H H' → Q v' H'
section
variable {P : Program} {w : World} {K : PySem.W.Frag} {mg : Str → Option Value} {base : Heap}
end
end LW
set_option Elab.async false
set_option linter.all false
set_option maxRecDepth 100000
set_option maxHeartbeats 0
namespace LW
open PySem PySem.Spec PyProof.Rows L2 KV
/-! ### _law_bent_rules -/
def rbsD (rs : List RB) : PyData := .list (rs.map rbD)
theorem dpAll_take {K : PySem.W.Frag} {H : Hp} : ∀ {xs : List V} {ds : List PyData} (k : Nat), DpAll K H xs ds → DpAll K H (xs.take k) (ds.take k)
  | _, _, 0, _ => by simp only [List.take_zero]; exact .nil
  | _, _, k + 1, .nil => by simp only [List.take_nil]; exact .nil
  | _, _, k + 1, .cons h r => .cons h (dpAll_take k r)
theorem dpAll_drop {K : PySem.W.Frag} {H : Hp} : ∀ {xs : List V} {ds : List PyData} (k : Nat), DpAll K H xs ds → DpAll K H (xs.drop k) (ds.drop k)
  | _, _, 0, h => h
  | _, _, k + 1, .nil => .nil
  | _, _, k + 1, .cons h r => dpAll_drop k r
theorem dpAll_append {K : PySem.W.Frag} {H : Hp} : ∀ {xs ys : List V} {ds es : List PyData}, DpAll K H xs ds → DpAll K H ys es → DpAll K H (xs ++ ys) (ds ++ es)
  | _, _, _, _, .nil, k => k
  | _, _, _, _, .cons h r, k => .cons h (dpAll_append r k)
theorem RbOk.mono {n n' m m' : Nat} {r : RB} (h : RbOk n m r) (e : n ≤ n') (f : m ≤ m') : RbOk n' m' r :=
  ⟨h.head, fun x hx => (h.hg x hx).mono e, h.two, fun cs tl z => by
    obtain ⟨a, b, c, d⟩ := h.cs cs tl z
    exact ⟨Nat.le_trans a f, fun x hx => (b x hx).mono e, c, fun x hx => (d x hx).mono e⟩⟩
theorem fit_rb {n m : Nat} {r : RB} (h : RbOk n m r) : Fit n [5, m] (rbD r) := by
  have str : ∀ {l : List Str} {d : PyData}, (∀ x ∈ l, Gd n x) → d ∈ l.map PyData.str → Fit n [m] d := fun g hd => by
    obtain ⟨x, hx, rfl⟩ := List.mem_map.mp hd
    exact fit_str (g x hx)
  obtain ⟨hd, o⟩ := r
  cases o with
  | none => exact ⟨by rw [rbL, List.length_map]; exact Nat.le_trans h.head (by decide), fun d hd => str h.hg hd⟩
  | some q =>
    obtain ⟨cs, tl⟩ := q
    obtain ⟨a, b, c, d⟩ := h.cs cs tl rfl
    have hh := h.head
    refine ⟨?_, fun e he => ?_⟩
    · rw [rbL, List.length_append, List.length_cons, List.length_map, List.length_map]
      show hd.length + _ ≤ 5
      have hh : hd.length ≤ 2 := hh
      omega
    · rcases List.mem_append.mp he with he | he
      · exact str h.hg he
      · rcases List.mem_cons.mp he with rfl | he
        · exact fit_cols a b
        · exact str d he
theorem fit_rbs {n m M : Nat} {rs : List RB} (l : rs.length ≤ M) (h : ∀ r ∈ rs, RbOk n m r) : Fit n [M, 5, m] (rbsD rs) := by
  refine ⟨by rw [List.length_map]; exact l, fun d hd => ?_⟩
  obtain ⟨r, hr, rfl⟩ := List.mem_map.mp hd
  exact fit_rb (h r hr)
theorem noInt_rbs (rs : List RB) : noInt (rbsD rs) = true := by
  simp only [rbsD, noInt]
  refine noIntAll_of fun d hd => ?_
  obtain ⟨r, _, rfl⟩ := List.mem_map.mp hd
  unfold rbD
  simp only [noInt]
  exact noInt_rb r
theorem owAll_cutF {H : Hp} : ∀ {xs : List V} {ds : List PyData} {F : Fp} (n : Nat), OwAll H xs ds F → ∃ F1 F2, OwAll H (xs.take n) (ds.take n) F1 ∧ OwAll H (xs.drop n) (ds.drop n) F2 ∧ (∀ a, F a ↔ F1 a ∨ F2 a) ∧ ∀ a, F1 a → ¬ F2 a
  | _, _, F, n, .nil e => ⟨fun _ => False, fun _ => False, by simpa using OwAll.nil fun _ z => z, by simpa using OwAll.nil fun _ z => z, fun a => ⟨fun z => (e a z).elim, fun z => z.elim False.elim False.elim⟩, fun _ z => z.elim⟩
  | _, _, F, 0, .cons h r d e => ⟨fun _ => False, F, by simpa using OwAll.nil fun _ z => z, .cons h r d e, fun a => ⟨.inr, fun z => z.elim False.elim id⟩, fun _ z => z.elim⟩
  | _, _, F, n + 1, .cons (F := F1) (G := G1) h r d e => by
    obtain ⟨A, B, h1, h2, h3, h4⟩ := owAll_cutF n r
    refine ⟨fun a => F1 a ∨ A a, B, .cons h h1 (fun a z y => d a z ((h3 a).mpr (.inl y))) fun _ => Iff.rfl, h2, fun a => ?_, fun a z y => ?_⟩
    · rw [e a, h3 a]
      exact ⟨fun z => z.elim (fun z => .inl (.inl z)) fun z => z.elim (fun z => .inl (.inr z)) .inr, fun z => z.elim (fun z => z.elim .inl fun z => .inr (.inl z)) fun z => .inr (.inr z)⟩
    · rcases z with z | z
      · exact d a z ((h3 a).mpr (.inr y))
      · exact h4 a z y
theorem owAll_appF {H : Hp} : ∀ {xs ys : List V} {ds es : List PyData} {F G : Fp}, OwAll H xs ds F → OwAll H ys es G → (∀ a, F a → ¬ G a) → OwAll H (xs ++ ys) (ds ++ es) (fun a => F a ∨ G a)
  | _, _, _, _, F, G, .nil e, h, d => h.congr fun a => ⟨fun z => z.elim (fun z => (e a z).elim) id, .inr⟩
  | _, _, _, _, F, G, .cons (F := F1) (G := G1) h r d0 e, h2, d => by
    refine .cons (G := fun a => G1 a ∨ G a) h (owAll_appF r h2 fun a z => d a ((e a).mpr (.inr z))) (fun a z y => ?_) fun a => ?_
    · rcases y with y | y
      · exact d0 a z y
      · exact d a ((e a).mpr (.inl z)) y
    · constructor
      · rintro (z | z)
        · exact ((e a).mp z).elim .inl fun z => .inr (.inl z)
        · exact .inr (.inr z)
      · rintro (z | z | z)
        · exact .inl ((e a).mpr (.inl z))
        · exact .inl ((e a).mpr (.inr z))
        · exact .inr z
def spBentRs (K : PySem.W.Frag) : Sp := fun vs H Q _ => ∃ (p : Addr) (v w : V) (ts : List Tab) (rs : List RB) (n mc mt N M L c : Nat), vs = [.ref p, v, w] ∧ Dp K H v (tabsD ts) ∧ TabsB n mc mt ts ∧ 7 ≤ n ∧ n ≤ 300 ∧ mc ≤ 100 ∧ mt ≤ 100 ∧
  Dp K H w (rbsD rs) ∧ (∀ r ∈ rs, RbOk N M r) ∧ 2 * n + 9 ≤ N ∧ mc + 1 ≤ M ∧ M ≤ 1000 ∧ rs.length ≤ L ∧ L ≤ 1000 ∧ Pu H p c ∧ c + 20 ≤ 1000000000 ∧
  ∀ (v' : V) (rs' : List RB) (F : Fp) (H' : Hp) (c' : Nat), Ow H' v' (rbsD rs') F → (∀ a, F a → H a = none) → (∀ r ∈ rs', RbOk N M r) → rs'.length ≤ L + 1 → Pu H' p c' → c' ≤ c + 20 → Off (fun a => a = p) H H' → Q v' H'
section
variable {P : Program} {w : World} {K : PySem.W.Frag} {mg : Str → Option Value} {base : Heap}
end
end LW
set_option Elab.async false
set_option linter.all false
set_option maxRecDepth 100000
set_option maxHeartbeats 0
namespace LW
open PySem PySem.Spec PyProof.Rows L2 KV
/-! ### _law_wrong_rule -/
def tabOf (ts : List Tab) (x : Str) : Option Tab := ts.find? fun t => decide (t.1 = x)
/-- the first error of a rule -/
def wrong1 (ts : List Tab) : RB → Option (Str × PyData)
  | ([k, x], some (cs, tl)) =>
    if (k = "key" ∧ tl.length = 0) ∨ (k = "settles" ∧ tl.length = 1) then
      match tabOf ts x with
      | none => some ("UnknownTable", .str x)
      | some t => match (cs ++ tl).find? fun c => !decide (c ∈ t.2) with
        | none => none
        | some c => some ("UnknownColumn", .str c)
    else some ("InvalidRule", rbD ([k, x], some (cs, tl)))
  | r => some ("InvalidRule", rbD r)
def wrongs (ts : List Tab) : List RB → Option (Str × PyData)
  | [] => none
  | r :: rs => match wrong1 ts r with
    | some e => some e
    | none => wrongs ts rs
/-- a dict of the tables -/
inductive TitK (K : PySem.W.Frag) (H : Hp) : List (Key × V) → List Tab → Prop where
  | nil : TitK K H [] []
  | cons {kvs : List (Key × V)} {ts : List Tab} {t : Tab} {v : V} (h : Dp K H v (colsD t.2)) (r : TitK K H kvs ts) : TitK K H ((.inr t.1, v) :: kvs) (t :: ts)
theorem titK_off {K : PySem.W.Frag} {H H' : Hp} (k : Off (fun _ => False) H H') : ∀ {kvs : List (Key × V)} {ts : List Tab}, TitK K H kvs ts → TitK K H' kvs ts
  | _, _, .nil => .nil
  | _, _, .cons h r => .cons (dp_off k h) (titK_off k r)
theorem titK_at {K : PySem.W.Frag} {H : Hp} {x : Str} : ∀ {kvs : List (Key × V)} {ts : List Tab}, TitK K H kvs ts →
    (valV kvs (.inr x) = none ∧ tabOf ts x = none) ∨ ∃ v t, valV kvs (.inr x) = some v ∧ tabOf ts x = some t ∧ Dp K H v (colsD t.2)
  | _, _, .nil => .inl ⟨rfl, rfl⟩
  | _, _, .cons (t := t) (v := v) (kvs := kvs) (ts := ts) h r => by
    by_cases e : t.1 = x
    · refine .inr ⟨v, t, ?_, ?_, h⟩
      · simp [valV, List.find?_cons, e]
      · simp [tabOf, List.find?_cons, e]
    · have e1 : valV (((.inr t.1 : Key), v) :: kvs) (.inr x) = valV kvs (.inr x) := by simp [valV, List.find?_cons, e]
      have e2 : tabOf (t :: ts) x = tabOf ts x := by simp [tabOf, List.find?_cons, e]
      rw [e1, e2]
      exact titK_at r
def endR (K : PySem.W.Frag) (H : Hp) (Q : VK) : Option (Str × PyData) → Prop
  | none => ∀ H', Off (fun _ => False) H H' → Q .non H'
  | some (x, e) => ∀ t u H', SqT K H' t [.str x, u] → Dp K H' u e → Off (fun _ => False) H H' → Q (.ref t) H'
/-- what is told is a text, or one of the rules that were handed in -/
def PartW (xw : List V) (rs : List RB) (u : V) (e : PyData) : Prop := (∃ x, u = .str x ∧ e = .str x) ∨ ∃ (i : Nat) (r : RB), xw[i]? = some u ∧ rs[i]? = some r ∧ e = rbD r
def endRW (K : PySem.W.Frag) (H : Hp) (xw : List V) (rs : List RB) (Q : VK) : Option (Str × PyData) → Prop
  | none => ∀ H', Off (fun _ => False) H H' → Q .non H'
  | some (x, e) => ∀ t u H', SqT K H' t [.str x, u] → Dp K H' u e → PartW xw rs u e → Off (fun _ => False) H H' → Q (.ref t) H'
def spWrongR (K : PySem.W.Frag) : Sp := fun vs H Q _ => ∃ (d aw : Addr) (xw : List V) (kvs : List (Key × V)) (ts : List Tab) (rs : List RB) (N M : Nat), vs = [.ref d, .ref aw] ∧ H d = some (.dK kvs) ∧ TitK K H kvs ts ∧ (∀ t ∈ ts, t.2.length ≤ 1000) ∧
  SqL K H aw xw ∧ DpAll K H xw (rs.map rbD) ∧ (∀ r ∈ rs, RbOk N M r) ∧ M ≤ 1000 ∧ rs.length ≤ 1000 ∧ endRW K H xw rs Q (wrongs ts rs)
theorem eqv_one (a b : Str) : PyData.eqv (.tuple [.str a]) (.tuple [.str b]) = (a == b) := by
  simp [PyData.eqv, PyData.eqvAll]
theorem shaped_one {x : Str} (h : Asc x) : SeqAt.shaped (.tuple [.str x]) = true := by
  have q := shaped_strs (xs := [x]) fun y hy => by rw [List.mem_singleton.mp hy]; exact h
  unfold SeqAt.shaped at q ⊢
  simpa [PyData.canLay0, PyData.depth] using q
theorem wrong1_not {ts : List Tab} {k x : Str} {cs tl : List Str} (h : ¬ ((k = "key" ∧ tl.length = 0) ∨ (k = "settles" ∧ tl.length = 1))) : wrong1 ts ([k, x], some (cs, tl)) = some (("InvalidRule" : Str), rbD ([k, x], some (cs, tl))) := by
  simp only [wrong1]
  rw [if_neg h]
theorem wrong1_yes {ts : List Tab} {k x : Str} {cs tl : List Str} (h : (k = "key" ∧ tl.length = 0) ∨ (k = "settles" ∧ tl.length = 1)) : wrong1 ts ([k, x], some (cs, tl)) =
    match tabOf ts x with
    | none => some (("UnknownTable" : Str), .str x)
    | some t => match (cs ++ tl).find? fun c => !decide (c ∈ t.2) with
      | none => none
      | some c => some (("UnknownColumn" : Str), .str c) := by
  simp only [wrong1]
  rw [if_pos h]
theorem inV_strs (c : Str) (l : List Str) : inV (.str c) (l.map V.str) = decide (c ∈ l) := by
  induction l with
  | nil => rfl
  | cons a l ih =>
    have e : inV (.str c) ((a :: l).map V.str) = ((a == c) || inV (.str c) (l.map V.str)) := rfl
    rw [e, ih]
    by_cases z : a = c
    · simp [z]
    · have z2 : ¬ c = a := fun y => z y.symm
      simp [z, z2]
theorem flat_strs (l : List Str) : (l.map V.str).all flatV = true := by
  induction l with
  | nil => rfl
  | cons a l ih => exact ih
theorem forms_tail {K : PySem.W.Frag} {σ : L2.St} {G : Hp} {sl : Addr} {ds : List PyData} {Q' : VK} (h : Dp K G (.ref sl) (.tuple ds)) (sh : SeqAt.shaped (.tuple ds) = true)
    (q : ∀ G', Off (fun _ => False) G G' → Q' (.bl (!(PyData.eqv (.tuple [.str "key"]) (.tuple ds) || PyData.eqv (.tuple [.str "settles"]) (.tuple ds)))) G') :
    tTup (tCons (tTup (tCons (tC (.str "key")) tNil)) (tCons (tTup (tCons (tC (.str "settles")) tNil)) tNil)) σ G fun y H2 => rInD K true (.ref sl) y H2 Q' := by
  refine ⟨by show 1 ≤ sizeLine; decide, fun t1 n1 => ⟨by show 1 ≤ sizeLine; decide, fun t2 n2 => ⟨by show 2 ≤ sizeLine; decide, fun t3 n3 => ?_⟩⟩⟩
  have k1 : Off (fun _ => False) G (upd G t1 (.tup [.str "key"])) := Off.new n1
  have k2 := k1.trans (Off.new (o := .tup [.str "settles"]) n2)
  have k3 := k2.trans (Off.new (o := .tup [.ref t1, .ref t2]) n3)
  have e2 : (upd (upd G t1 (.tup [.str "key"])) t2 (.tup [.str "settles"])) t1 = some (.tup [.str "key"]) := (upd_ne (ne_of_none upd_same n2)).trans upd_same
  have e3 := (upd_ne (o := .tup [.ref t1, .ref t2]) (ne_of_none e2 n3)).trans e2
  have f2 : (upd (upd G t1 (.tup [.str "key"])) t2 (.tup [.str "settles"])) t2 = some (.tup [.str "settles"]) := upd_same
  have f3 := (upd_ne (o := .tup [.ref t1, .ref t2]) (ne_of_none f2 n3)).trans f2
  refine ⟨t3, [.ref t1, .ref t2], [.tuple [.str "key"], .tuple [.str "settles"]], .tuple ds, rfl, .inr (SqT.of upd_same), .cons (.tup (SqT.of e3) (.cons (.str _) .nil)) (.cons (.tup (SqT.of f3) (.cons (.str _) .nil)) .nil),
    dp_off k3 h, ?_, sh, ?_⟩
  · have all : ∀ e ∈ ([.tuple [.str "key"], .tuple [.str "settles"]] : List PyData), SeqAt.shaped e = true := by decide +kernel
    exact all
  · have z := q _ k3
    simpa using z
section
variable {P : Program} {w : World} {K : PySem.W.Frag} {mg : Str → Option Value} {base : Heap}
end
end LW
set_option Elab.async false
set_option linter.all false
set_option maxRecDepth 100000
set_option maxHeartbeats 0
namespace LW
open PySem PySem.Spec PyProof.Rows L2 KV
/-- a loop over enumerate of a list -/
theorem for_enum {K : PySem.W.Frag} {a : Addr} {xs : List V} {g : TG} {tb : TS} {D : Ends} {σ : L2.St} {H : Hp} (Pv : Nat → L2.St → Hp → Prop) (h0 : Pv 0 σ H) (hl : ∀ i σ H, i ≤ xs.length → Pv i σ H → SqL K H a xs)
    (hs : ∀ i x σ H T, xs[i]? = some x → Pv i σ H → H T = none → g (.ref T) σ (upd H T (.tup [.int (i : Nat), x])) fun σ2 H2 => tb { D with nx := Pv (i + 1), ct := Pv (i + 1), bk := D.nx } σ2 H2) (hd : ∀ σ H, Pv xs.length σ H → D.nx σ H) :
    ∃ W : Nat → Nat → L2.St → Hp → Prop, (∃ m, W 0 m σ H) ∧ ∀ i m σ H, W i m σ H →
      ((Ite K a).stop i H ∧ D.nx σ H) ∨ ((Ite K a).go i H ∧ ∃ N : L2.St → Hp → Prop, (∀ σ' H', N σ' H' → ∃ m', m' < m ∧ W (i + 1) m' σ' H') ∧ ∀ x H', (Ite K a).yld i H x H' → g x σ H' fun σ2 H2 => tb { D with nx := N, ct := N, bk := D.nx } σ2 H2) := by
  refine ⟨fun i m σ H => m = xs.length - i ∧ i ≤ xs.length ∧ Pv i σ H, ⟨xs.length, by simp, Nat.zero_le _, h0⟩, ?_⟩
  rintro i m σ H ⟨rfl, hi, p⟩
  have q := hl i σ H hi p
  by_cases hlt : i < xs.length
  · refine .inr ⟨⟨xs, xs[i], q, by simp [hlt]⟩, Pv (i + 1), fun σ' H' p' => ⟨xs.length - (i + 1), by omega, rfl, hlt, p'⟩, fun x H' y => ?_⟩
    obtain ⟨T, x', rfl, hT, rfl, y⟩ := y
    exact hs i x' σ _ T (y xs q) p hT
  · have e : i = xs.length := by omega
    subst e
    exact .inl ⟨⟨xs, q, Nat.le_refl _⟩, hd σ H p⟩
/-- at p: neither a list nor a tuple -/
def NoSq (H : Hp) (p : Addr) : Prop := (∀ xs, ¬ Rd H p (.lst xs)) ∧ ∀ xs, ¬ Rd H p (.tup xs)
theorem NoSq.dK {H : Hp} {p : Addr} {kvs : List (Key × V)} (h : H p = some (.dK kvs)) : NoSq H p := by
  refine ⟨fun xs z => ?_, fun xs z => ?_⟩ <;>
  · rcases z with z | ⟨o, z⟩ <;> rw [h] at z <;> cases z
section
variable {K : PySem.W.Frag} {H H' : Hp} {p : Addr}
theorem sqL_in {a : Addr} {xs : List V} (k : Off (fun a => a = p) H H') (n : NoSq H p) (h : SqL K H a xs) : SqL K H' a xs := by
  rcases h with h | h
  · have z : a ≠ p := fun z => n.1 xs (z ▸ h)
    rcases h with h | ⟨o, h⟩
    · exact .inl (.inl (k _ _ h z))
    · exact .inl (.inr ⟨o, k _ _ h z⟩)
  · exact .inr h
theorem sqT_in {a : Addr} {xs : List V} (k : Off (fun a => a = p) H H') (n : NoSq H p) (h : SqT K H a xs) : SqT K H' a xs := by
  rcases h with h | h
  · have z : a ≠ p := fun z => n.2 xs (z ▸ h)
    rcases h with h | ⟨o, h⟩
    · exact .inl (.inl (k _ _ h z))
    · exact .inl (.inr ⟨o, k _ _ h z⟩)
  · exact .inr h
mutual
theorem dp_in (k : Off (fun a => a = p) H H') (n : NoSq H p) : ∀ {v : V} {d : PyData}, Dp K H v d → Dp K H' v d
  | _, _, .non => .non
  | _, _, .bl b => .bl b
  | _, _, .int i => .int i
  | _, _, .str x => .str x
  | _, _, .lst h r => .lst (sqL_in k n h) (dpAll_in k n r)
  | _, _, .tup h r => .tup (sqT_in k n h) (dpAll_in k n r)
theorem dpAll_in (k : Off (fun a => a = p) H H') (n : NoSq H p) : ∀ {vs : List V} {ds : List PyData}, DpAll K H vs ds → DpAll K H' vs ds
  | _, _, .nil => .nil
  | _, _, .cons h r => .cons (dp_in k n h) (dpAll_in k n r)
end
theorem titK_in (k : Off (fun a => a = p) H H') (n : NoSq H p) : ∀ {kvs : List (Key × V)} {ts : List Tab}, TitK K H kvs ts → TitK K H' kvs ts
  | _, _, .nil => .nil
  | _, _, .cons h r => .cons (dp_in k n h) (titK_in k n r)
theorem titK_snoc {t : Tab} {v : V} (h : Dp K H v (colsD t.2)) : ∀ {kvs : List (Key × V)} {ts : List Tab}, TitK K H kvs ts → TitK K H (kvs ++ [(.inr t.1, v)]) (ts ++ [t])
  | _, _, .nil => .cons h .nil
  | _, _, .cons h0 r => .cons h0 (titK_snoc h r)
theorem titK_len : ∀ {kvs : List (Key × V)} {ts : List Tab}, TitK K H kvs ts → kvs.length = ts.length
  | _, _, .nil => rfl
  | _, _, .cons _ r => congrArg Nat.succ (titK_len r)
end
theorem tabOf_none {ts : List Tab} {x : Str} (h : tabOf ts x = none) : x ∉ ts.map Prod.fst := by
  unfold tabOf at h
  intro z
  obtain ⟨t, ht, e⟩ := List.mem_map.mp z
  have q := List.find?_eq_none.mp h t ht
  exact q (decide_eq_true e)
theorem tabOf_some {ts : List Tab} {x : Str} {t : Tab} (h : tabOf ts x = some t) : x ∈ ts.map Prod.fst := by
  unfold tabOf at h
  have m := List.mem_of_find?_eq_some h
  have e := List.find?_some h
  exact List.mem_map.mpr ⟨t, m, of_decide_eq_true e⟩
/-! ### _law_wrong_book -/
def wrongCols : List Str → List Str → Option (Str × PyData)
  | _, [] => none
  | b, c :: cs => if isT c = false then some ("InvalidName", .str c) else if c ∈ b then some ("DoubleName", .str c) else wrongCols (b ++ [c]) cs
def wrongTabs : List Str → List Tab → Option (Str × PyData)
  | _, [] => none
  | b, t :: ts => if isT t.1 = false then some ("InvalidName", .str t.1) else if t.1 ∈ b then some ("DoubleName", .str t.1) else match wrongCols [] t.2 with
    | some e => some e
    | none => wrongTabs (b ++ [t.1]) ts
def wrongBook (ts : List Tab) (rs : List RB) : Option (Str × PyData) := match wrongTabs [] ts with
  | some e => some e
  | none => wrongs ts rs
theorem wrongCols_bad {b cs : List Str} {c : Str} (h : isT c = false) : wrongCols b (c :: cs) = some (("InvalidName" : Str), PyData.str c) := by
  unfold wrongCols
  rw [if_pos h]
theorem wrongCols_two {b cs : List Str} {c : Str} (h : isT c = true) (m : c ∈ b) : wrongCols b (c :: cs) = some (("DoubleName" : Str), PyData.str c) := by
  unfold wrongCols
  rw [if_neg (by rw [h]; decide), if_pos m]
theorem wrongCols_next {b cs : List Str} {c : Str} (h : isT c = true) (m : c ∉ b) : wrongCols b (c :: cs) = wrongCols (b ++ [c]) cs := by
  rw [wrongCols, if_neg (by rw [h]; decide), if_neg m]
theorem wrongTabs_bad {b : List Str} {t : Tab} {ts : List Tab} (h : isT t.1 = false) : wrongTabs b (t :: ts) = some (("InvalidName" : Str), PyData.str t.1) := by
  unfold wrongTabs
  rw [if_pos h]
theorem wrongTabs_two {b : List Str} {t : Tab} {ts : List Tab} (h : isT t.1 = true) (m : t.1 ∈ b) : wrongTabs b (t :: ts) = some (("DoubleName" : Str), PyData.str t.1) := by
  unfold wrongTabs
  rw [if_neg (by rw [h]; decide), if_pos m]
theorem wrongTabs_cols {b : List Str} {t : Tab} {ts : List Tab} {e : Str × PyData} (h : isT t.1 = true) (m : t.1 ∉ b) (c : wrongCols [] t.2 = some e) : wrongTabs b (t :: ts) = some e := by
  rw [wrongTabs, if_neg (by rw [h]; decide), if_neg m, c]
theorem wrongTabs_next {b : List Str} {t : Tab} {ts : List Tab} (h : isT t.1 = true) (m : t.1 ∉ b) (c : wrongCols [] t.2 = none) : wrongTabs b (t :: ts) = wrongTabs (b ++ [t.1]) ts := by
  rw [wrongTabs, if_neg (by rw [h]; decide), if_neg m, c]
theorem drop_cons {α : Type} {l : List α} {i : Nat} {x : α} (h : l[i]? = some x) : l.drop i = x :: l.drop (i + 1) := by
  obtain ⟨hi, e⟩ := List.getElem?_eq_some_iff.mp h
  rw [List.drop_eq_getElem_cons hi, e]
theorem take_snoc {α : Type} {l : List α} {i : Nat} {x : α} (h : l[i]? = some x) : l.take (i + 1) = l.take i ++ [x] := by
  rw [List.take_add_one, h]
  rfl
def spWrongB (K : PySem.W.Frag) : Sp := fun vs H Q _ => ∃ (v w : V) (ts : List Tab) (rs : List RB) (n mc mt N M : Nat), vs = [v, w] ∧ Dp K H v (tabsD ts) ∧ TabsB n mc mt ts ∧ n ≤ 1000 ∧ mc ≤ 1000 ∧ mt ≤ 1000 ∧
  Dp K H w (rbsD rs) ∧ (∀ r ∈ rs, RbOk N M r) ∧ M ≤ 1000 ∧ rs.length ≤ 1000 ∧ endR K H Q (wrongBook ts rs)
section
variable {P : Program} {w : World} {K : PySem.W.Frag} {mg : Str → Option Value} {base : Heap}
end
end LW
set_option Elab.async false
set_option linter.all false
set_option maxRecDepth 100000
set_option maxHeartbeats 0
/-! books.py: names. -/
namespace LW
open PySem PySem.Spec PyProof.Rows L2 KV
/-- a raised error: its class, its value in new lists -/
def Raised (K : PySem.W.Frag) (H : Hp) (E : XK) (x : Str) (e : PyData) : Prop := ∀ (u : V) (Fo : Fp) (d : Addr) (H' : Hp), Off (fun _ => False) H H' → H d = none → H' d = some (.xd [("value", u)]) → Ow H' u e Fo → (∀ a, Fo a → H a = none) → E (.ref (He.ga K x)) (some d) H'
theorem Raised.off {K : PySem.W.Frag} {H H1 : Hp} {E : XK} {x : Str} {e : PyData} (h : Raised K H E x e) (k : Off (fun _ => False) H H1) : Raised K H1 E x e :=
  fun u Fo d H' k1 nd ed o f => h u Fo d H' (k.trans k1) (k.none nd fun z => z) ed o fun a z => k.none (f a z) fun z => z
/-- how a check ends -/
def endX (K : PySem.W.Frag) (H : Hp) (Q : VK) (E : XK) : Option (Str × PyData) → Prop
  | none => ∀ H', Off (fun _ => False) H H' → Q .non H'
  | some (x, e) => Raised K H E x e
theorem endX.off {K : PySem.W.Frag} {H H1 : Hp} {Q : VK} {E : XK} {o : Option (Str × PyData)} (h : endX K H Q E o) (k : Off (fun _ => False) H H1) : endX K H1 Q E o := by
  cases o with
  | none => exact fun H' k' => h H' (k.trans k')
  | some z => exact Raised.off h k
/-- raise X(v) -/
theorem raise_of {K : PySem.W.Frag} {C fI : Addr} {v : V} {H1 : Hp} {E' : XK} (T : ErrOk K "value" fI C) (q : ∀ d, H1 d = none → E' (.ref C) (some d) (upd H1 d (.xd [("value", v)]))) :
    [v].length ≤ 1000 ∧ ∀ a, H1 a = none → spInit K "value" (.ref a :: ([v] ++ [])) (upd H1 a (exo a C none))
      (fun v H2 => v = .non ∧ ∃ (d : Addr) (fs : List (Str × V)), H2 a = some (exo a C (some d)) ∧ H2 d = some (exd d fs) ∧ H1 d = none ∧ E' (.ref C) (some d) (upd (del H2 a) d (.xd fs))) (fun _ _ _ => False) := by
  refine ⟨by show 1 ≤ 1000; decide, fun a ha => ⟨a, C, v, rfl, T.oex, T.no, upd_same, fun dx hd hne => ⟨rfl, dx, [("value", v)], ?_, ?_, ?_, ?_⟩⟩⟩
  · unfold exH
    exact upd_same
  · unfold exH
    rw [upd_ne hne]
    exact upd_same
  · rw [upd_ne hne] at hd
    exact hd
  · have hd1 : H1 dx = none := by
      rw [upd_ne hne] at hd
      exact hd
    have e : upd (del (exH (upd H1 a (exo a C none)) a dx C "value" v) a) dx (.xd [("value", v)]) = upd H1 dx (.xd [("value", v)]) := by
      funext b
      by_cases z : b = dx
      · rw [z, upd_same, upd_same]
      · rw [upd_ne z, upd_ne z]
        by_cases y : b = a
        · rw [y, del_same, ha]
        · rw [del_ne y]
          unfold exH
          rw [upd_ne y, upd_ne z, upd_ne y]
    rw [e]
    exact q dx hd1
/-- .. of a text -/
theorem raise_str {K : PySem.W.Frag} {fI : Addr} {x y : Str} {H H1 : Hp} {E : XK} (T : ErrOk K "value" fI (He.ga K x)) (k : Off (fun _ => False) H H1) (q : Raised K H E x (.str y)) :
    [V.str y].length ≤ 1000 ∧ ∀ a, H1 a = none → spInit K "value" (.ref a :: ([V.str y] ++ [])) (upd H1 a (exo a (He.ga K x) none))
      (fun v H2 => v = .non ∧ ∃ (d : Addr) (fs : List (Str × V)), H2 a = some (exo a (He.ga K x) (some d)) ∧ H2 d = some (exd d fs) ∧ H1 d = none ∧ E (.ref (He.ga K x)) (some d) (upd (del H2 a) d (.xd fs))) (fun _ _ _ => False) :=
  raise_of T fun d hd => (q.off k) (.str y) (fun _ => False) d _ (Off.new hd) hd upd_same (.str y fun _ z => z) fun _ z => z.elim
/-- the first error in a name -/
def wrongName (b : List Str) (x : Str) : Option (Str × PyData) := if isT x = false then some ("InvalidName", .str x) else if x ∈ b then some ("DoubleName", .str x) else none
theorem wrongCols_cons (b cs : List Str) (c : Str) : wrongCols b (c :: cs) = match wrongName b c with
    | some e => some e
    | none => wrongCols (b ++ [c]) cs := by
  rw [wrongCols]
  unfold wrongName
  split
  · rfl
  · split
    · rfl
    · rfl
theorem wrongTabs_cons (b : List Str) (t : Tab) (ts : List Tab) : wrongTabs b (t :: ts) = match wrongName b t.1 with
    | some e => some e
    | none => match wrongCols [] t.2 with
      | some e => some e
      | none => wrongTabs (b ++ [t.1]) ts := by
  rw [wrongTabs]
  unfold wrongName
  split
  · rfl
  · split
    · rfl
    · rfl
theorem small_le (c : Nat) : ((!decide (({ cps := #[c] } : Str).cps.toList < ("a" : Str).cps.toList)) && (!decide (("z" : Str).cps.toList < ({ cps := #[c] } : Str).cps.toList))) = small c := by
  have ea : ("a" : Str).cps.toList = [97] := by decide +kernel
  have ez : ("z" : Str).cps.toList = [122] := by decide +kernel
  have ec : ({ cps := #[c] } : Str).cps.toList = [c] := rfl
  rw [ec, ea, ez]
  unfold small
  have h1 : ([c] < [97]) ↔ c < 97 := by simp [List.cons_lt_cons_iff]
  have h2 : ([122] < [c]) ↔ 122 < c := by simp [List.cons_lt_cons_iff]
  rw [decide_eq_decide.mpr h1, decide_eq_decide.mpr h2]
  by_cases x : c < 97
  · have y : ¬ (97 ≤ c ∧ c ≤ 122) := by omega
    rw [decide_eq_true x, decide_eq_false y]
    rfl
  · by_cases z : 122 < c
    · have y : ¬ (97 ≤ c ∧ c ≤ 122) := by omega
      rw [decide_eq_false x, decide_eq_true z, decide_eq_false y]
      rfl
    · have y : (97 ≤ c ∧ c ≤ 122) := by omega
      rw [decide_eq_false x, decide_eq_false z, decide_eq_true y]
      rfl
section
variable {P : Program} {w : World} {K : PySem.W.Frag} {mg : Str → Option Value} {base : Heap}
/-! ### is_name -/
theorem scIsN : FnScope ["text", "letter"] ["text"] (defScope pIsName) := ⟨rfl, rfl, rfl, by decide +kernel, rfl, by decide +kernel, by decide +kernel⟩
theorem ok_isN {f : Addr} {fd : FuncData} {t8 : Nat} (F : FnP K "is_name" pIsName f fd) (ml : mg "len" = none) (ma : mg "all" = none) (m8 : mg "LONGEST_NAME" = some (.int 8 t8)) :
    FnOk P w K mg base CX0 1 f fd ["text"] spIsT := by
  refine F.ok scIsN (fun vs H Q E h => ?_) (fun cdv A outer s H vs Q E hr h => ?_)
  · obtain ⟨x, rfl, _⟩ := h
    rfl
  obtain ⟨x, rfl, ha, hx, q⟩ := h
  refine ⟨_, pss_one (ps_ret (pe_and (pe_chain op_le op_le pe_int (pe_callB call_len_str rfl ml boot_len (pa_cons (pv 0) pa_nil)) (pe_glob (v := .int 8) rfl m8 ⟨_, rfl⟩))
      (pe_one (pe_callB (cr_all rfl) rfl ma (by decide +kernel) (pa_cons (pe_lc (own := [("letter", 1)]) (g := gName 1) (tt := tYes) rfl scIsN.nd (pi_str (pv 0))
          (blkOk_by (own := [("letter", 1)]) (N := ["text", "letter"]) (sc := defScope pIsName) (by decide +kernel))
          (fun _ _ _ _ _ => pg_name (i := 1) scIsN.nd rfl (Or.inl rfl)) (fun _ _ _ _ _ => pts_nil)
          (fun _ _ _ _ _ => pe_chain op_le_str op_le_str pe_str (pv 1) pe_str)) pa_nil))))), ?_⟩
  have no : ¬ False := fun z => z
  have xl : x.length ≤ sizeLine := Nat.le_trans hx (by decide)
  refine ⟨_, rfl, x, rfl, xl, _, _, rfl, rfl, _, rfl, ite2 (fun c1 => ⟨_, _, rfl, rfl, _, rfl, ite2 (fun c2 => ?_) (fun c2 => ?_)⟩) (fun c1 => ⟨_, rfl, iteF ?_⟩)⟩
  rotate_left
  · have e : isT x = false := by
      have : ¬ x.length < 9 := fun z => c2 (decide_eq_true (by omega))
      simp [isT, this]
    rw [← e]
    exact q H (Off.refl _ _)
  · have e : isT x = false := by
      have : ¬ 0 < x.length := fun z => c1 (decide_eq_true (by omega))
      simp [isT, this]
    rw [← e]
    exact q H (Off.refl _ _)
  have l1 : 0 < x.length := by
    have := of_decide_eq_true c1
    omega
  have l2 : x.length < 9 := by
    have := of_decide_eq_true c2
    omega
  have lt : x.cps.toList.length = x.length := by simp [Str.length]
  refine ⟨_, rfl, x, rfl, fun D hD => lc_str (x := x) (fun i H' => H' D = some (.lst ((((x.cps.toList.take i).map small).map V.bl))) ∧ Off (fun _ => False) H H') ⟨upd_same, Off.new hD⟩
    (fun i c H' hc g => ?_) fun H' g => ?_⟩
  · obtain ⟨g1, g2⟩ := g
    have sm := small_le c
    have step : ∀ b : Bool, b = small c → ∃ acc, H' D = some (.lst acc) ∧ acc.length < sizeLine ∧ (upd H' D (.lst (acc ++ [V.bl b]))) D = some (.lst ((((x.cps.toList.take (i + 1)).map small).map V.bl))) ∧ Off (fun _ => False) H (upd H' D (.lst (acc ++ [V.bl b]))) := by
      intro b eb
      refine ⟨_, g1, by rw [List.length_map, List.length_map, List.length_take]; exact small1000 (by omega), ?_, fun a u ea na => ?_⟩
      · rw [upd_same, List.take_add_one, hc, eb, List.map_append, List.map_append]
        rfl
      · rw [upd_ne (fun z => by rw [z, hD] at ea; cases ea)]
        exact g2 a u ea na
    refine ⟨rfl, ?_⟩
    refine Exists.intro _ ⟨rfl, _, _, rfl, rfl, _, rfl, ?_⟩
    refine ite2 (fun b => ⟨_, _, rfl, rfl, ?_⟩) (fun b => ?_)
    · rw [b, Bool.true_and] at sm
      exact step _ sm
    · have b' := Bool.eq_false_iff.mpr b
      rw [b', Bool.false_and] at sm
      exact step _ sm
  · obtain ⟨g1, g2⟩ := g
    rw [List.take_length] at g1
    refine ⟨D, _, rfl, SqL.of g1, ?_⟩
    have e : isT x = (x.cps.toList.map small).all id := by
      have z1 : decide (0 < x.length) = true := decide_eq_true l1
      have z2 : decide (x.length < 9) = true := decide_eq_true l2
      unfold isT
      rw [z1, z2, List.all_map]
      rfl
    rw [← e]
    exact q H' g2
end
end LW
set_option Elab.async false
set_option linter.all false
set_option maxRecDepth 100000
set_option maxHeartbeats 0
/-! books.py: check_name, check_columns, check_tables. -/
namespace LW
open PySem PySem.Spec PyProof.Rows L2 KV
def spChkN (K : PySem.W.Frag) : Sp := fun vs H Q E => ∃ (x : Str) (b : Addr) (bs : List Str), vs = [.str x, .ref b] ∧ Asc x ∧ x.length ≤ 1000 ∧ SqL K H b (bs.map V.str) ∧ endX K H Q E (wrongName bs x)
def spChkC (K : PySem.W.Frag) : Sp := fun vs H Q E => ∃ (c : Addr) (cs : List Str), vs = [.ref c] ∧ (∀ x ∈ cs, Asc x ∧ x.length ≤ 1000) ∧ cs.length ≤ 1000 ∧ SqL K H c (cs.map V.str) ∧ endX K H Q E (wrongCols [] cs)
def spChkT (K : PySem.W.Frag) : Sp := fun vs H Q E => ∃ (v : V) (ts : List Tab) (n mc mt : Nat), vs = [v] ∧ Dp K H v (tabsD ts) ∧ TabsW n mc mt ts ∧ n ≤ 1000 ∧ mc ≤ 1000 ∧ mt ≤ 1000 ∧ endX K H Q E (wrongTabs [] ts)
section
variable {P : Program} {w : World} {K : PySem.W.Frag} {mg : Str → Option Value} {base : Heap}
theorem scChkN : FnScope ["name", "before"] ["name", "before"] (defScope pCheckName) := ⟨rfl, rfl, rfl, by decide +kernel, rfl, by decide +kernel, by decide +kernel⟩
theorem ok_chkN {f fI : Addr} {fd dI dE : FuncData} (F : FnP K "check_name" pCheckName f fd) (T : ErrT P w K mg base dE) (GI : FnOk P w K mg base CX0 1 fI dI ["text"] spIsT) (bI : Binds K dI ["text"] []) (mI : mg "is_name" = some (.ref fI)) (kI : PySem.W.keepIn K (.ref fI) = true) :
    FnOk P w K mg base (L2.CX P w) 3 f fd ["name", "before"] (spChkN K) := by
  have GI2 : FnOk P w K mg base CX0 2 fI dI ["text"] spIsT := GI.mono (by decide)
  have t1 := T.es.ok "InvalidName" (by decide)
  have t2 := T.es.ok "DoubleName" (by decide)
  have g1 := T.g "InvalidName" (by decide)
  have g2 := T.g "DoubleName" (by decide)
  refine F.ok scChkN (fun vs H Q E h => ?_) (fun cdv A outer s H vs Q E hr h => ?_)
  · obtain ⟨x, b, bs, rfl, _⟩ := h
    rfl
  obtain ⟨x, b, bs, rfl, ax, lx, sb, q⟩ := h
  refine ⟨_, (pss_cons (ps_if (pt_not (pt_val (pe_call GI2 hr rfl mI kI bI .nil pass0 (pa_cons (pv 0) pa_nil))))
      (pss_one (ps_raise rfl (takes_of rfl rfl rfl rfl) (pmk_oex t1.oex t1.ini t1.fn T.ini hr T.b .nil pass0 rfl g1 (pa_cons (pv 0) pa_nil)))) pss_nil)
    (pss_one (ps_if (pt_cmpR op_in_seq (pv 0) (pv 1) rfl)
      (pss_one (ps_raise rfl (takes_of rfl rfl rfl rfl) (pmk_oex t2.oex t2.ini t2.fn T.ini hr T.b .nil pass0 rfl g2 (pa_cons (pv 0) pa_nil)))) pss_nil))), ?_⟩
  refine ⟨_, rfl, x, rfl, ax, lx, fun H1 k1 => ⟨_, rfl, ?_⟩⟩
  unfold wrongName at q
  cases hT : isT x with
  | false =>
    rw [if_pos hT] at q
    exact iteT ⟨_, rfl, raise_str t1 k1 q⟩
  | true =>
    rw [if_neg (by rw [hT]; decide)] at q
    refine iteF ⟨_, rfl, _, rfl, b, _, rfl, .inl (sqL_off k1 sb), rfl, flat_strs _, _, rfl, ?_⟩
    rw [inV_strs]
    refine ite2 (fun c => ?_) (fun c => ?_)
    · rw [if_pos (of_decide_eq_true c)] at q
      exact ⟨_, rfl, raise_str t2 k1 q⟩
    · rw [if_neg fun z => c (decide_eq_true z)] at q
      exact q H1 k1
theorem scChkC : FnScope ["columns", "before", "column"] ["columns"] (defScope pCheckColumns) := ⟨rfl, rfl, rfl, by decide +kernel, rfl, by decide +kernel, by decide +kernel⟩
theorem ok_chkC {f fN : Addr} {fd dN : FuncData} (F : FnP K "check_columns" pCheckColumns f fd) (GN : FnOk P w K mg base (L2.CX P w) 3 fN dN ["name", "before"] (spChkN K)) (bN : Binds K dN ["name", "before"] []) (mN : mg "check_name" = some (.ref fN)) (kN : PySem.W.keepIn K (.ref fN) = true) :
    FnOk P w K mg base (L2.CX P w) 4 f fd ["columns"] (spChkC K) := by
  refine F.ok scChkC (fun vs H Q E h => ?_) (fun cdv A outer s H vs Q E hr h => ?_)
  · obtain ⟨c, cs, rfl, _⟩ := h
    rfl
  obtain ⟨ca, cs, rfl, gs, lc, sc, q⟩ := h
  refine ⟨_, (pss_cons (ps_set (i := 1) scChkC.nd rfl (Or.inl rfl) (pe_lst pa_nil))
    (pss_one (ps_for (passes_of rfl) rfl (pi_list (pv 0)) (pg_name (i := 2) scChkC.nd rfl (Or.inl rfl))
      (pss_cons (ps_expr (pe_callS GN hr rfl mN kN bN (fun σ => passAt (takes_of rfl rfl rfl rfl) σ) (pa_cons (pv 2) (pa_cons (pv 1) pa_nil))))
      (pss_one (ps_expr (pe_bm PySem.F.plainAttrs_list PySem.F.slot_list_append PySem.F.type_list_append mt_append (pv 1) (pa_cons (pv 2) pa_nil)))))))), ?_⟩
  have no : ¬ False := fun z => z
  refine ⟨(by show 0 ≤ sizeLine; decide), fun l hl => ?_⟩
  have k0 : Off (fun _ => False) H (upd H l (.lst [])) := Off.new hl
  refine ⟨_, rfl, ca, rfl, ⟨_, sqL_off k0 sc⟩, for_list (K := K) (a := ca) (xs := cs.map V.str) (fun i σ H' => ∃ w2, σ = [some (.ref ca), some (.ref l), w2] ∧ H' l = some (.lst ((cs.take i).map V.str)) ∧ Off (fun _ => False) H H' ∧
      wrongCols [] cs = wrongCols (cs.take i) (cs.drop i))
    ⟨none, rfl, upd_same, k0, rfl⟩ (fun i σ H' _ g => ?_) (fun i x σ H' hx g => ?_) fun σ H' g => ?_⟩
  · obtain ⟨_, _, _, k, _⟩ := g
    exact sqL_off k sc
  · obtain ⟨w2, rfl, el, k, eq⟩ := g
    rw [List.getElem?_map] at hx
    obtain ⟨c, hc, rfl⟩ := Option.map_eq_some_iff.mp hx
    have gc := gs c (List.mem_of_getElem? hc)
    rw [drop_cons hc, wrongCols_cons] at eq
    refine ⟨_, rfl, _, rfl, c, l, cs.take i, rfl, gc.1, gc.2, SqL.of el, ?_⟩
    cases e1 : wrongName (cs.take i) c with
    | some e =>
      rw [e1] at eq
      rw [eq] at q
      exact Raised.off q k
    | none =>
      rw [e1] at eq
      intro G kG
      have elG := kG _ _ el no
      refine ⟨_, rfl, .inl ⟨rfl, _, SqL.of elG⟩, _, rfl, l, _, _, rfl, rfl, elG, ?_, ?_⟩
      · rw [List.length_map, List.length_take]
        exact small1000 (by omega)
      · refine ⟨_, rfl, ?_, fun b o eb nb => ?_, ?_⟩
        · rw [upd_same, take_snoc hc, List.map_append]
          rfl
        · rw [upd_ne (fun z => by rw [z, hl] at eb; cases eb)]
          exact kG _ _ (k b o eb nb) no
        · rw [take_snoc hc]
          exact eq
  · obtain ⟨w2, rfl, el, k, eq⟩ := g
    rw [List.length_map, List.drop_length] at eq
    rw [eq] at q
    exact q H' k
theorem scChkT : FnScope ["tables", "names", "name", "columns"] ["tables"] (defScope pCheckTables) := ⟨rfl, rfl, rfl, by decide +kernel, rfl, by decide +kernel, by decide +kernel⟩
theorem ok_chkT {f fN fC : Addr} {fd dN dC : FuncData} (F : FnP K "check_tables" pCheckTables f fd) (GN : FnOk P w K mg base (L2.CX P w) 3 fN dN ["name", "before"] (spChkN K)) (bN : Binds K dN ["name", "before"] []) (mN : mg "check_name" = some (.ref fN)) (kN : PySem.W.keepIn K (.ref fN) = true)
    (GC : FnOk P w K mg base (L2.CX P w) 4 fC dC ["columns"] (spChkC K)) (bC : Binds K dC ["columns"] []) (mC : mg "check_columns" = some (.ref fC)) (kC : PySem.W.keepIn K (.ref fC) = true) :
    FnOk P w K mg base (L2.CX P w) 5 f fd ["tables"] (spChkT K) := by
  have GN4 : FnOk P w K mg base (L2.CX P w) 4 fN dN ["name", "before"] (spChkN K) := GN.mono (by decide)
  refine F.ok scChkT (fun vs H Q E h => ?_) (fun cdv A outer s H vs Q E hr h => ?_)
  · obtain ⟨v, ts, n, mc, mt, rfl, _⟩ := h
    rfl
  obtain ⟨v, ts, n, mc, mt, rfl, hv, tb, hn, hmc, hmt, q⟩ := h
  refine ⟨_, (pss_cons (ps_set (i := 1) scChkT.nd rfl (Or.inl rfl) (pe_lst pa_nil))
    (pss_one (ps_for (passes_of rfl) rfl (pi_list (pv 0)) (pg_tup rfl (pgs_cons (pg_name (i := 2) scChkT.nd rfl (Or.inl rfl)) (pgs_cons (pg_name (i := 3) scChkT.nd rfl (Or.inl rfl)) pgs_nil)))
      (pss_cons (ps_expr (pe_callS GN4 hr rfl mN kN bN (fun σ => passAt (takes_of rfl rfl rfl rfl) σ) (pa_cons (pv 2) (pa_cons (pv 1) pa_nil))))
      (pss_cons (ps_expr (pe_bm PySem.F.plainAttrs_list PySem.F.slot_list_append PySem.F.type_list_append mt_append (pv 1) (pa_cons (pv 2) pa_nil)))
      (pss_one (ps_expr (pe_callS GC hr rfl mC kC bC (fun σ => passAt (takes_of rfl rfl rfl rfl) σ) (pa_cons (pv 3) pa_nil))))))))), ?_⟩
  have no : ¬ False := fun z => z
  obtain ⟨aw, xw, rfl, qw, rw'⟩ := dp_tabs hv
  have lw : xw.length = ts.length := by rw [dpAll_length rw', List.length_map]
  refine ⟨(by show 0 ≤ sizeLine; decide), fun l hl => ?_⟩
  have k0 : Off (fun _ => False) H (upd H l (.lst [])) := Off.new hl
  refine ⟨_, rfl, aw, rfl, ⟨_, sqL_off k0 qw⟩, for_list (K := K) (a := aw) (xs := xw) (fun i σ H' => ∃ w2 w3, σ = [some (.ref aw), some (.ref l), w2, w3] ∧ H' l = some (.lst (((ts.take i).map Prod.fst).map V.str)) ∧ Off (fun _ => False) H H' ∧
      wrongTabs [] ts = wrongTabs ((ts.take i).map Prod.fst) (ts.drop i))
    ⟨none, none, rfl, upd_same, k0, rfl⟩ (fun i σ H' _ g => ?_) (fun i x σ H' hx g => ?_) fun σ H' g => ?_⟩
  · obtain ⟨_, _, _, _, k, _⟩ := g
    exact sqL_off k qw
  · obtain ⟨w2, w3, rfl, el, k, eq⟩ := g
    obtain ⟨dt, edt, hdt⟩ := dpAll_at rw' hx
    rw [List.getElem?_map] at edt
    obtain ⟨t, et, rfl⟩ := Option.map_eq_some_iff.mp edt
    have bt := tb.each t (List.mem_of_getElem? et)
    obtain ⟨ta, wc, rfl, st, dc⟩ := dp_tab hdt
    obtain ⟨ca, rfl, _⟩ := dp_cols dc
    rw [drop_cons et, wrongTabs_cons] at eq
    refine ⟨ta, [.str t.1, .ref ca], rfl, sqT_off k st, rfl, .str t.1, [.ref ca], rfl, .ref ca, [], rfl, rfl, ?_⟩
    refine ⟨_, rfl, _, rfl, t.1, l, (ts.take i).map Prod.fst, rfl, bt.name.1, Nat.le_trans bt.name.2 hn, SqL.of el, ?_⟩
    cases e1 : wrongName ((ts.take i).map Prod.fst) t.1 with
    | some e =>
      rw [e1] at eq
      rw [eq] at q
      exact Raised.off q k
    | none =>
      rw [e1] at eq
      dsimp only at eq
      intro G kG
      have elG := kG _ _ el no
      have kHG := k.trans kG
      refine ⟨_, rfl, .inl ⟨rfl, _, SqL.of elG⟩, _, rfl, l, _, _, rfl, rfl, elG, ?_, ?_⟩
      · rw [List.length_map, List.length_map, List.length_take]
        have := tb.most
        exact small1000 (by omega)
      · have k2 : Off (fun _ => False) H (upd G l (.lst (((ts.take i).map Prod.fst).map V.str ++ [.str t.1]))) := fun b o eb nb => by
          rw [upd_ne (fun z => by rw [z, hl] at eb; cases eb)]
          exact kHG b o eb nb
        have el2 := upd_same (H := G) (a := l) (o := .lst (((ts.take i).map Prod.fst).map V.str ++ [.str t.1]))
        refine ⟨_, rfl, ca, t.2, rfl, fun x hx => ⟨(bt.good x hx).1, Nat.le_trans (bt.good x hx).2 hn⟩, Nat.le_trans bt.most hmc, dp_cols_ref (dp_off k2 dc), ?_⟩
        cases e2 : wrongCols [] t.2 with
        | some e =>
          rw [e2] at eq
          rw [eq] at q
          exact Raised.off q k2
        | none =>
          rw [e2] at eq
          intro G2 kG2
          refine ⟨_, _, rfl, ?_, k2.trans kG2, ?_⟩
          · rw [take_snoc et, kG2 _ _ el2 no, List.map_append, List.map_append]
            rfl
          · rw [take_snoc et, List.map_append]
            exact eq
  · obtain ⟨w2, w3, rfl, el, k, eq⟩ := g
    rw [lw, List.drop_length] at eq
    rw [eq] at q
    exact q H' k
end
end LW
set_option Elab.async false
set_option linter.all false
set_option maxRecDepth 100000
set_option maxHeartbeats 0
/-! books.py: copied, has_form. -/
namespace LW
open PySem PySem.Spec PyProof.Rows L2 KV
/-- the first thing and the length are as told -/
def formed : RB → Bool
  | ([k, x], some (cs, tl)) => decide ((k = "key" ∧ tl.length = 0) ∨ (k = "settles" ∧ tl.length = 1))
  | _ => false
theorem wrong1_formed {ts : List Tab} {r : RB} (h : formed r = false) : wrong1 ts r = some (("InvalidRule" : Str), rbD r) := by
  obtain ⟨hd, o⟩ := r
  rcases hd with _ | ⟨k, _ | ⟨x, _ | ⟨y, hd⟩⟩⟩
  · rfl
  · rfl
  · rcases o with _ | ⟨cs, tl⟩
    · rfl
    · exact wrong1_not (of_decide_eq_false h)
  · rfl
/-- the forms of rules -/
def formsD : PyData := .tuple [.tuple [.str "key", .int 3], .tuple [.str "settles", .int 4]]
theorem eqv_form (a b : Str) (i j : Int) : PyData.eqv (.tuple [.str a, .int i]) (.tuple [.str b, .int j]) = ((a == b) && (i == j)) := by
  simp [PyData.eqv, PyData.eqvAll]
theorem shaped_form {x : Str} {i : Int} (h : Asc x) : SeqAt.shaped (.tuple [.str x, .int i]) = true := by
  unfold SeqAt.shaped
  simp [PyData.canLay0, PyData.canLayAll0, PyData.depth, PyData.depthAll, strOk_asc h]
theorem form_eq {r : RB} {N M : Nat} (ok : RbOk N M r) {x : Str} {hd : List Str} (h : r.1 = x :: hd) :
    [PyData.tuple [.str "key", .int 3], .tuple [.str "settles", .int 4]].any (fun e => e.eqv (.tuple [.str x, .int (((rbL r).length : Nat) : Int)])) = formed r := by
  obtain ⟨hdl, o⟩ := r
  have h : hdl = x :: hd := h
  subst h
  have no : ∀ n : Nat, n < 3 → [PyData.tuple [.str "key", .int 3], .tuple [.str "settles", .int 4]].any (fun e => e.eqv (.tuple [.str x, .int ((n : Nat) : Int)])) = false := by
    intro n hn
    have e1 : ((3 : Int) == (n : Int)) = false := by
      rw [beq_eq_false_iff_ne]
      omega
    have e2 : ((4 : Int) == (n : Int)) = false := by
      rw [beq_eq_false_iff_ne]
      omega
    simp only [List.any_cons, List.any_nil, eqv_form, e1, e2, Bool.and_false, Bool.or_false]
  have h2 : (x :: hd).length ≤ 2 := ok.head
  rcases hd with _ | ⟨y, _ | ⟨z, hd⟩⟩
  · rcases o with _ | q
    · exact no 1 (by decide)
    · have := ok.two (by simp)
      simp at this
  · rcases o with _ | ⟨cs, tl⟩
    · exact no 2 (by decide)
    · have l : (rbL ([x, y], some (cs, tl))).length = 3 + tl.length := by
        simp [rbL]
        omega
      rw [l]
      simp only [List.any_cons, List.any_nil, eqv_form, Bool.or_false]
      have e1 : ((3 : Int) == ((3 + tl.length : Nat) : Int)) = decide (tl.length = 0) := by
        rw [Bool.eq_iff_iff, beq_iff_eq, decide_eq_true_iff]
        omega
      have e2 : ((4 : Int) == ((3 + tl.length : Nat) : Int)) = decide (tl.length = 1) := by
        rw [Bool.eq_iff_iff, beq_iff_eq, decide_eq_true_iff]
        omega
      have e3 : ∀ s : Str, (s == x) = decide (x = s) := by
        intro s
        rw [Bool.eq_iff_iff, beq_iff_eq, decide_eq_true_iff]
        exact eq_comm
      rw [e1, e2, e3, e3]
      unfold formed
      rw [Bool.eq_iff_iff, decide_eq_true_iff]
      simp only [Bool.or_eq_true, Bool.and_eq_true, decide_eq_true_iff]
  · simp at h2
def spForm (K : PySem.W.Frag) : Sp := fun vs H Q _ => ∃ (v w : V) (r : RB) (N M : Nat), vs = [v, w] ∧ Dp K H v (rbD r) ∧ RbOk N M r ∧ Dp K H w formsD ∧ ∀ H', Off (fun _ => False) H H' → Q (.bl (formed r)) H'
section
variable {P : Program} {w : World} {K : PySem.W.Frag} {mg : Str → Option Value} {base : Heap}
theorem scCopiedP : FnScope ["thing", "part"] ["thing"] (defScope pCopied) := ⟨rfl, rfl, rfl, by decide +kernel, rfl, by decide +kernel, by decide +kernel⟩
theorem ok_copiedP_step {n : Nat} {f : Addr} {fd : FuncData} (F : FnP K "copied" pCopied f fd) (hb : Binds K fd ["thing"] []) (mf : mg "copied" = some (.ref f)) (mi : mg "isinstance" = none) (ml : mg "list" = none) (mt : mg "tuple" = none)
    (G : FnOk P w K mg base CX0 n f fd ["thing"] (spCopied K n)) : FnOk P w K mg base CX0 (n + 1) f fd ["thing"] (spCopied K (n + 1)) := by
  refine F.ok scCopiedP (fun vs H Q E h => ?_) (fun cdv A outer s H vs Q E hr h => ?_)
  · obtain ⟨v, d, b, ms, rfl, _⟩ := h
    rfl
  obtain ⟨v, d, b, ms, rfl, o, hf, hm, hk, q⟩ := h
  refine ⟨_, pss_cons (ps_if (pt_val (pe_callB call_isi rfl mi boot_isinstance (pa_cons (pv 0) (pa_cons (pe_bltn (v := .ty "list") rfl ml boot_list rfl) pa_nil))))
      (pss_one (ps_ret (pe_lc (own := [("part", 1)]) (g := gName 1) (tt := tYes) rfl scCopiedP.nd (pi_list (pv 0)) (blkOk_by (own := [("part", 1)]) (N := ["thing", "part"]) (sc := defScope pCopied) (by decide +kernel))
        (fun _ _ _ _ _ => pg_name (i := 1) scCopiedP.nd rfl (Or.inl rfl)) (fun _ _ _ _ _ => pts_nil)
        (fun _ _ _ _ _ => pe_call G hr rfl mf F.kp hb .nil pass0 (pa_cons (pv 1) pa_nil))))) pss_nil)
    (pss_cons (ps_if (pt_val (pe_callB call_isi rfl mi boot_isinstance (pa_cons (pv 0) (pa_cons (pe_bltn (v := .ty "tuple") rfl mt boot_tuple rfl) pa_nil))))
      (pss_one (ps_ret (pe_callTy call_tuple_of rfl mt boot_tuple (pa_cons (pe_lc (own := [("part", 1)]) (g := gName 1) (tt := tYes) rfl scCopiedP.nd (pi_tup (pv 0)) (blkOk_by (own := [("part", 1)]) (N := ["thing", "part"]) (sc := defScope pCopied) (by decide +kernel))
        (fun _ _ _ _ _ => pg_name (i := 1) scCopiedP.nd rfl (Or.inl rfl)) (fun _ _ _ _ _ => pts_nil)
        (fun _ _ _ _ _ => pe_call G hr rfl mf F.kp hb .nil pass0 (pa_cons (pv 1) pa_nil))) pa_nil)))) pss_nil)
    (pss_one (ps_ret (pv 0)))), ?_⟩
  refine ⟨_, rfl, v, .ty "list", .type (tyName d), .type "list", isList d, rfl, .ty _, dp_ty o, kit_list d, _, rfl, ?_⟩
  by_cases hL : isList d = true
  · rw [hL]
    obtain ⟨a, xs, ds, rfl, rfl, h0, r⟩ := dp_list o hL
    cases ms with
    | nil => exact hf.elim
    | cons m ms =>
    obtain ⟨hl, hfs⟩ := hf
    refine iteT ⟨_, rfl, a, rfl, ⟨xs, h0⟩, fun D hD => lc_list (K := K) (a := a) (xs := xs) (fun i H' => Grow (fun _ => False) H D (ds.take i) H') (Grow.start hD) (fun i H' _ g => ?_) (fun i x H' hx g => ?_) fun H' g => ?_⟩
    · obtain ⟨_, _, _, _, _, _, off⟩ := g
      exact sqL_off off h0
    · exact ⟨rfl, Exists.intro x ⟨rfl, copy_turn r hfs hm (Nat.lt_of_succ_lt_succ hk) hl hD hx g⟩⟩
    · rw [dpAll_length r, List.take_length] at g
      obtain ⟨F', o', f', k'⟩ := g.list hD
      exact q _ F' H' o' f' k'
  · have hL : isList d = false := by simpa using hL
    rw [hL]
    refine iteF ⟨_, rfl, v, .ty "tuple", .type (tyName d), .type "tuple", isTuple d, rfl, .ty _, dp_ty o, kit_tuple d, _, rfl, ?_⟩
    by_cases hT : isTuple d = true
    · rw [hT]
      obtain ⟨a, xs, ds, rfl, rfl, h0, r⟩ := dp_tuple o hT
      cases ms with
      | nil => exact hf.elim
      | cons m ms =>
      obtain ⟨hl, hfs⟩ := hf
      refine iteT ⟨_, rfl, a, rfl, ⟨xs, h0⟩, fun D hD => lc_tup (K := K) (a := a) (xs := xs) (fun i H' => Grow (fun _ => False) H D (ds.take i) H') (Grow.start hD) (fun i H' _ g => ?_) (fun i x H' hx g => ?_) fun H' g => ?_⟩
      · obtain ⟨_, _, _, _, _, _, off⟩ := g
        exact sqT_off off h0
      · exact ⟨rfl, Exists.intro x ⟨rfl, copy_turn r hfs hm (Nat.lt_of_succ_lt_succ hk) hl hD hx g⟩⟩
      · rw [dpAll_length r, List.take_length] at g
        obtain ⟨acc, _, e1, _⟩ := id g
        refine ⟨D, acc, rfl, .inl ⟨SqL.of e1, fun p hp => ?_⟩⟩
        obtain ⟨F', o', f', k'⟩ := g.tuple e1 hp
        exact q _ F' _ o' f' k'
    · have hT : isTuple d = false := by simpa using hT
      rw [hT]
      exact iteF ⟨_, rfl, q v _ H (copy_leaf o hL hT) (fun _ z => z.elim) (Off.refl _ _)⟩
theorem ok_copiedP {f : Addr} {fd : FuncData} (F : FnP K "copied" pCopied f fd) (hb : Binds K fd ["thing"] []) (mf : mg "copied" = some (.ref f)) (mi : mg "isinstance" = none) (ml : mg "list" = none) (mt : mg "tuple" = none) :
    ∀ n : Nat, FnOk P w K mg base CX0 n f fd ["thing"] (spCopied K n)
  | 0 => none_leftN fun vs H Q E => copied_none
  | n + 1 => ok_copiedP_step F hb mf mi ml mt (ok_copiedP F hb mf mi ml mt n)
theorem scForm : FnScope ["thing", "forms"] ["thing", "forms"] (defScope pHasForm) := ⟨rfl, rfl, rfl, by decide +kernel, rfl, by decide +kernel, by decide +kernel⟩
theorem ok_form {f : Addr} {fd : FuncData} (F : FnP K "has_form" pHasForm f fd) (ml : mg "len" = none) (mb : mg "bool" = none) : FnOk P w K mg base CX0 2 f fd ["thing", "forms"] (spForm K) := by
  refine F.ok scForm (fun vs H Q E h => ?_) (fun cdv A outer s H vs Q E hr h => ?_)
  · obtain ⟨v, w, r, N, M, rfl, _⟩ := h
    rfl
  obtain ⟨v, w, r, N, M, rfl, hv, ok, hw, q⟩ := h
  have hu65 : (A.deeper (envOfC "has_form" (defScope pHasForm) s.heap.objs.size f cdv)).units + 65 < cLine := by
    have := hr.un
    omega
  refine ⟨_, pss_one (ps_ret (pe_and (pe_callTy call_boolT rfl mb (by decide +kernel) (pa_cons (pv 0) pa_nil))
    (pe_one (pe_cmpR (op_inD hu65) (pe_tup (pa_cons (pe_ix ix_tup (pv 0) pe_int (fun _ _ => rfl)) (pa_cons (pe_callB call_len_seq rfl ml boot_len (pa_cons (pv 0) pa_nil)) pa_nil))) (pv 1) rfl)))), ?_⟩
  obtain ⟨ra, vs, rfl, sq, da⟩ : ∃ a vs, v = .ref a ∧ SqT K H a vs ∧ DpAll K H vs (rbL r) := by
    cases hv with
    | tup h r => exact ⟨_, _, rfl, h, r⟩
  have lv : vs.length = (rbL r).length := dpAll_length da
  refine ⟨_, rfl, ra, vs, rfl, sq, _, rfl, ?_⟩
  cases hh : r.1 with
  | nil =>
    have ho : r.2 = none := by
      cases h2 : r.2 with
      | none => rfl
      | some z =>
        have := ok.two (by rw [h2]; simp)
        rw [hh] at this
        simp at this
    have er : r = ([], none) := Prod.ext hh ho
    subst er
    have ev : vs = [] := by cases da; rfl
    subst ev
    refine iteF ?_
    exact q H (Off.refl _ _)
  | cons x hd =>
    have e0 : ∃ tl, vs = .str x :: tl := by
      obtain ⟨hdl, o⟩ := r
      have hh : hdl = x :: hd := hh
      subst hh
      rcases o with _ | ⟨cs, tl⟩ <;>
      · cases da with
        | cons h r =>
          cases h
          exact ⟨_, rfl⟩
    obtain ⟨tl, rfl⟩ := e0
    refine iteT ?_
    obtain ⟨fa, xs, rfl, sf, df⟩ : ∃ a xs, w = .ref a ∧ SqT K H a xs ∧ DpAll K H xs [.tuple [.str "key", .int 3], .tuple [.str "settles", .int 4]] := by
      cases hw with
      | tup h r => exact ⟨_, _, rfl, h, r⟩
    have gx : Asc x := (ok.hg x (by rw [hh]; simp)).1
    refine ⟨_, rfl, ra, _, 0, _, rfl, rfl, sq, atI_nat (j := 0) rfl, _, rfl, ra, _, rfl, .inr sq, (by show 2 ≤ sizeLine; decide), fun t nt => ?_⟩
    have k1 : Off (fun _ => False) H (upd H t (.tup [.str x, .int ((V.str x :: tl).length : Nat)])) := Off.new nt
    refine ⟨_, rfl, fa, xs, _, .tuple [.str x, .int ((V.str x :: tl).length : Nat)], rfl, .inr (sqT_off k1 sf), dpAll_off k1 df, .tup (SqT.of upd_same) (.cons (.str _) (.cons (.int _) .nil)), ?_, shaped_form gx, ?_⟩
    · have all : ∀ e ∈ ([.tuple [.str "key", .int 3], .tuple [.str "settles", .int 4]] : List PyData), SeqAt.shaped e = true := by decide +kernel
      exact all
    · have fe := form_eq ok hh
      rw [← lv] at fe
      rw [if_neg (by decide), fe]
      exact q _ k1
end
end LW
set_option Elab.async false
set_option linter.all false
set_option maxRecDepth 100000
set_option maxHeartbeats 0
/-! books.py: book[name], check_rule. -/
namespace LW
open PySem PySem.Spec PyProof.Rows L2 KV
/-- what the text says of the class -/
structure BookT (K : PySem.W.Frag) (mg : Str → Option Value) : Prop where
  cl : L2.Cls K (He.ga K "Book")
  n1 : NoAttr K (He.ga K "Book") "_tables"
  n2 : NoAttr K (He.ga K "Book") "_rules"
  mkr : Mk K (He.ga K "Book") (He.ma K (He.ga K "Book") "__init__")
  g : mg "Book" = some (.ref (He.ga K "Book"))
  it : ItemF K (He.ga K "Book") (He.ma K (He.ga K "Book") "__getitem__")
/-- at b: a book of these tables -/
def BookAt (K : PySem.W.Frag) (H : Hp) (b : Addr) (ts : List Tab) : Prop := ∃ dx fs v, H b = some (.ins (He.ga K "Book") dx fs) ∧ fs.lookup ("_tables" : Str) = some v ∧ Dp K H v (tabsD ts)
theorem BookAt.off {K : PySem.W.Frag} {H H' : Hp} {b : Addr} {ts : List Tab} (h : BookAt K H b ts) (k : Off (fun _ => False) H H') : BookAt K H' b ts := by
  obtain ⟨dx, fs, v, h1, h2, h3⟩ := h
  exact ⟨dx, fs, v, k _ _ h1 fun z => z, h2, dp_off k h3⟩
def itemX (K : PySem.W.Frag) (H : Hp) (Q : VK) (E : XK) (x : Str) : Option Tab → Prop
  | some t => ∀ l H', H l = none → H' l = some (.lst (t.2.map V.str)) → Off (fun _ => False) H H' → Q (.ref l) H'
  | none => Raised K H E "UnknownTable" (.str x)
def spItem (K : PySem.W.Frag) : Sp := fun vs H Q E => ∃ (b : Addr) (x : Str) (ts : List Tab), vs = [.ref b, .str x] ∧ BookAt K H b ts ∧ itemX K H Q E x (tabOf ts x)
def spChkR (K : PySem.W.Frag) : Sp := fun vs H Q E => ∃ (b : Addr) (v : V) (ts : List Tab) (r : RB) (N M : Nat), vs = [.ref b, v] ∧ BookAt K H b ts ∧ Dp K H v (rbD r) ∧ RbOk N M r ∧ M ≤ 1000 ∧ endX K H Q E (wrong1 ts r)
theorem formed_ok {r : RB} (h : formed r = true) : ∃ k x cs tl, r = ([k, x], some (cs, tl)) ∧ ((k = "key" ∧ tl.length = 0) ∨ (k = "settles" ∧ tl.length = 1)) := by
  obtain ⟨hd, o⟩ := r
  rcases hd with _ | ⟨k, _ | ⟨x, _ | ⟨y, hd⟩⟩⟩
  · cases h
  · cases h
  · rcases o with _ | ⟨cs, tl⟩
    · cases h
    · exact ⟨k, x, cs, tl, rfl, of_decide_eq_true h⟩
  · cases h
theorem tabOf_cons_yes {t : Tab} {ts : List Tab} {x : Str} (h : t.1 = x) : tabOf (t :: ts) x = some t := by simp [tabOf, List.find?_cons, h]
theorem tabOf_cons_no {t : Tab} {ts : List Tab} {x : Str} (h : ¬ t.1 = x) : tabOf (t :: ts) x = tabOf ts x := by simp [tabOf, List.find?_cons, h]
section
variable {P : Program} {w : World} {K : PySem.W.Frag} {mg : Str → Option Value} {base : Heap}
theorem scItem : FnScope ["self", "name", "table", "columns"] ["self", "name"] (defScope pBook_getitem) := ⟨rfl, rfl, rfl, by decide +kernel, rfl, by decide +kernel, by decide +kernel⟩
theorem ok_item {f : Addr} {fd dE : FuncData} (F : FunD K "__getitem__" "Book.__getitem__" (defArgs pBook_getitem) (defBody pBook_getitem) (defScope pBook_getitem) [] [] f fd) (T : ErrT P w K mg base dE) (B : BookT K mg) (mL : mg "list" = none) :
    FnOk P w K mg base (L2.CX P w) 3 f fd ["self", "name"] (spItem K) := by
  have t1 := T.es.ok "UnknownTable" (by decide)
  have g1 := T.g "UnknownTable" (by decide)
  refine F.ok scItem (fun vs H Q E h => ?_) (fun cdv A outer s H vs Q E hr h => ?_)
  · obtain ⟨b, x, ts, rfl, _⟩ := h
    rfl
  obtain ⟨b, x, ts, rfl, hb, q⟩ := h
  refine ⟨_, (pss_cons (ps_for (passes_of rfl) rfl (pi_list (pe_fld (pv 0) rfl)) (pg_tup rfl (pgs_cons (pg_name (i := 2) scItem.nd rfl (Or.inl rfl)) (pgs_cons (pg_name (i := 3) scItem.nd rfl (Or.inl rfl)) pgs_nil)))
      (pss_one (ps_if (pt_cmpR op_eq (pv 2) (pv 1) (nomark _)) (pss_one (ps_ret (pe_callTy call_list_of rfl mL boot_list (pa_cons (pv 3) pa_nil)))) pss_nil)))
    (pss_one (ps_raise rfl (takes_of rfl rfl rfl rfl) (pmk_oex t1.oex t1.ini t1.fn T.ini hr T.b .nil pass0 rfl g1 (pa_cons (pv 1) pa_nil))))), ?_⟩
  have no : ¬ False := fun z => z
  obtain ⟨dx, fs, v, h1, h2, h3⟩ := hb
  obtain ⟨aw, xw, rfl, qw, rw'⟩ := dp_tabs h3
  have lw : xw.length = ts.length := by rw [dpAll_length rw', List.length_map]
  refine ⟨_, rfl, b, _, dx, fs, _, rfl, h1, B.cl, B.n1, h2, aw, rfl, ⟨_, qw⟩, for_list (K := K) (a := aw) (xs := xw) (fun i σ H' => ∃ w2 w3, σ = [some (.ref b), some (.str x), w2, w3] ∧ Off (fun _ => False) H H' ∧ tabOf ts x = tabOf (ts.drop i) x)
    ⟨none, none, rfl, Off.refl _ _, rfl⟩ (fun i σ H' _ g => ?_) (fun i y σ H' hy g => ?_) fun σ H' g => ?_⟩
  · obtain ⟨_, _, _, k, _⟩ := g
    exact sqL_off k qw
  · obtain ⟨w2, w3, rfl, k, eq⟩ := g
    obtain ⟨dt, edt, hdt⟩ := dpAll_at rw' hy
    rw [List.getElem?_map] at edt
    obtain ⟨t, et, rfl⟩ := Option.map_eq_some_iff.mp edt
    obtain ⟨ta, wc, rfl, st, dc⟩ := dp_tab hdt
    obtain ⟨ca, rfl, _⟩ := dp_cols dc
    rw [drop_cons et] at eq
    refine ⟨ta, [.str t.1, .ref ca], rfl, sqT_off k st, rfl, .str t.1, [.ref ca], rfl, .ref ca, [], rfl, rfl, ?_⟩
    refine ⟨_, rfl, _, rfl, rfl, _, rfl, ite2 (fun c => ?_) (fun c => ?_)⟩
    · have ex : t.1 = x := V.str.inj (of_decide_eq_true c)
      rw [tabOf_cons_yes ex] at eq
      rw [eq] at q
      refine ⟨_, rfl, ca, _, rfl, .inl (dp_cols_ref (dp_off k dc)), fun l hl => ?_⟩
      exact q l _ (k.none hl no) upd_same (k.trans (Off.new hl))
    · have ex : ¬ t.1 = x := fun z => c (decide_eq_true (by rw [z]))
      rw [tabOf_cons_no ex] at eq
      exact ⟨_, _, rfl, k, eq⟩
  · obtain ⟨w2, w3, rfl, k, eq⟩ := g
    rw [lw, List.drop_length] at eq
    rw [eq] at q
    exact ⟨_, rfl, raise_str t1 k q⟩
theorem scChkR : FnScope ["book", "rule", "known", "column"] ["book", "rule"] (defScope pCheckRule) := ⟨rfl, rfl, rfl, by decide +kernel, rfl, by decide +kernel, by decide +kernel⟩
theorem ok_chkR {f fF fC : Addr} {fd dE dF dC dI : FuncData} {RF : Addr} (F : FnP K "check_rule" pCheckRule f fd) (T : ErrT P w K mg base dE) (B : BookT K mg)
    (GF : FnOk P w K mg base CX0 2 fF dF ["thing", "forms"] (spForm K)) (bF : Binds K dF ["thing", "forms"] []) (mF : mg "has_form" = some (.ref fF)) (kF : PySem.W.keepIn K (.ref fF) = true)
    (GC : FnOk P w K mg base CX0 6 fC dC ["thing"] (spCopied K 6)) (bC : Binds K dC ["thing"] []) (mC : mg "copied" = some (.ref fC)) (kC : PySem.W.keepIn K (.ref fC) = true)
    (GI : FnOk P w K mg base (L2.CX P w) 3 (He.ma K (He.ga K "Book") "__getitem__") dI ["self", "name"] (spItem K)) (bI : Binds K dI ["self", "name"] [])
    (mR : mg "RULE_FORMS" = some (.ref RF)) (hR : ∀ H, Dp K H (.ref RF) formsD) :
    FnOk P w K mg base (L2.CX P w) 7 f fd ["book", "rule"] (spChkR K) := by
  have GF6 : FnOk P w K mg base CX0 6 fF dF ["thing", "forms"] (spForm K) := GF.mono (by decide)
  have t1 := T.es.ok "InvalidRule" (by decide)
  have g1 := T.g "InvalidRule" (by decide)
  have t2 := T.es.ok "UnknownColumn" (by decide)
  have g2 := T.g "UnknownColumn" (by decide)
  refine F.ok scChkR (fun vs H Q E h => ?_) (fun cdv A outer s H vs Q E hr h => ?_)
  · obtain ⟨b, v, ts, r, N, M, rfl, _⟩ := h
    rfl
  obtain ⟨b, v, ts, r, N, M, rfl, hb, hv, ok, hM, q⟩ := h
  refine ⟨_, (pss_cons (ps_if (pt_not (pt_val (pe_call GF6 hr rfl mF kF bF .nil pass0 (pa_cons (pv 1) (pa_cons (pe_glob (v := .ref RF) rfl mR rfl) pa_nil)))))
      (pss_one (ps_raise rfl (takes_of rfl rfl rfl rfl) (pmk_oex t1.oex t1.ini t1.fn T.ini (hr.mono (by decide)) T.b .nil pass0 rfl g1 (pa_cons (pe_call GC hr rfl mC kC bC .nil pass0 (pa_cons (pv 1) pa_nil)) pa_nil)))) pss_nil)
    (pss_cons (ps_set (i := 2) scChkR.nd rfl (Or.inl rfl) (pe_itemS (C := He.ga K "Book") B.it GI (hr.mono (by decide)) bI (fun σ => passAt (takes_of rfl rfl rfl rfl) σ) (pv 0) (pe_ix ix_tup (pv 1) pe_int (fun _ _ => rfl))))
    (pss_one (ps_for (passes_of rfl) rfl (pi_list (pe_lst (StX.pa_star (pe_ix ix_tup (pv 1) pe_int (fun _ _ => rfl)) (StX.pa_star (pe_slice sl_tupW (pv 1) (po_some pe_int) po_none) pa_nil)))) (pg_name (i := 3) scChkR.nd rfl (Or.inl rfl))
      (pss_one (ps_if (pt_cmpR op_notIn_seq (pv 3) (pv 2) rfl)
        (pss_one (ps_raise rfl (takes_of rfl rfl rfl rfl) (pmk_oex t2.oex t2.ini t2.fn T.ini (hr.mono (by decide)) T.b .nil pass0 rfl g2 (pa_cons (pv 3) pa_nil)))) pss_nil)))))), ?_⟩
  have no : ¬ False := fun z => z
  refine ⟨_, rfl, v, .ref RF, r, N, M, rfl, hv, ok, hR _, fun H1 k1 => ⟨_, rfl, ?_⟩⟩
  cases hf : formed r with
  | false =>
    rw [wrong1_formed hf] at q
    refine iteT ⟨_, rfl, v, rbD r, N, [5, M], rfl, dp_off k1 hv, fit_rb ok, by simp; omega, (by show 2 < 6; decide), fun v' Fo H2 o2 fr2 k2 => raise_of t1 fun d hd => ?_⟩
    have k3 := k2.trans (Off.new (o := .xd [("value", v')]) hd)
    refine (Raised.off q k1) v' Fo d _ k3 (k2.none hd no) upd_same (o2.keep (Off.new hd) (fun _ z => z.elim) fun _ _ z => z) fr2
  | true =>
    obtain ⟨k0, x0, cs, tl, rfl, fm⟩ := formed_ok hf
    have w1 := wrong1_yes (ts := ts) (x := x0) (cs := cs) fm
    rw [w1] at q
    obtain ⟨lc, gc, lt, gt⟩ := ok.cs cs tl rfl
    obtain ⟨ra, vs, rfl, sq, da⟩ : ∃ a vs, v = .ref a ∧ SqT K H a vs ∧ DpAll K H vs (rbL ([k0, x0], some (cs, tl))) := by
      cases hv with
      | tup h r => exact ⟨_, _, rfl, h, r⟩
    obtain ⟨ca, rfl, dc⟩ : ∃ ca, vs = .str k0 :: .str x0 :: .ref ca :: tl.map V.str ∧ Dp K H (.ref ca) (colsD cs) := by
      cases da with
      | cons h r =>
        cases h
        cases r with
        | cons h r =>
          cases h
          cases r with
          | cons h r =>
            obtain ⟨ca, rfl, _⟩ := dp_cols h
            exact ⟨ca, by rw [dpAll_strs r], h⟩
    have lv : (V.str k0 :: V.str x0 :: V.ref ca :: tl.map V.str).length = 3 + tl.length := by
      simp
      omega
    have at1 : atI (V.str k0 :: V.str x0 :: V.ref ca :: tl.map V.str) 1 = some (V.str x0) := atI_nat (j := 1) rfl
    have at2 : atI (V.str k0 :: V.str x0 :: V.ref ca :: tl.map V.str) 2 = some (V.ref ca) := atI_nat (j := 2) rfl
    have hb1 := hb.off k1
    obtain ⟨dx, fs, v1, h1, h2, h3⟩ := id hb1
    refine iteF ⟨_, rfl, _, rfl, ra, _, 1, _, rfl, rfl, sqT_off k1 sq, at1, b, dx, fs, rfl, h1, b, x0, ts, rfl, hb1, ?_⟩
    cases e1 : tabOf ts x0 with
    | none =>
      rw [e1] at q
      exact Raised.off q k1
    | some t =>
      rw [e1] at q
      dsimp only at q
      intro l H2 _ el k2
      have k12 := k1.trans k2
      refine ⟨_, rfl, ra, _, 2, _, rfl, rfl, sqT_off k12 sq, at2, ca, _, rfl, .inr (dp_cols_ref (dp_off k12 dc)), _, rfl, _, rfl, ra, _, rfl, sqT_off k12 sq, fun _ p3 hp3 => ?_, fun c => by rw [lv] at c; simp [HT.sIx] at c⟩
      have ecut3 : cutV (V.str k0 :: V.str x0 :: V.ref ca :: tl.map V.str) (some 3) none = tl.map V.str := by
        rw [cutV_tail (by decide)]
        rfl
      rw [ecut3]
      have k3 := k12.trans (Off.new (o := .tup (tl.map V.str)) hp3)
      have k23 := k2.trans (Off.new (o := .tup (tl.map V.str)) hp3)
      have e3 : cs.map V.str ++ (tl.map V.str ++ []) = (cs ++ tl).map V.str := by simp
      refine ⟨p3, _, rfl, .inl (SqT.of upd_same), ?_, fun m hm => ?_⟩
      · rw [e3, List.length_map, List.length_append]
        exact Nat.le_trans (m := 1002) (by omega) (by decide)
      rw [e3]
      have em := upd_same (H := upd H2 p3 (.tup (tl.map V.str))) (a := m) (o := .lst ((cs ++ tl).map V.str))
      have k4 := k3.trans (Off.new (o := .lst ((cs ++ tl).map V.str)) hm)
      have el4 := (Off.new (G := fun _ => False) (o := .lst ((cs ++ tl).map V.str)) hm) _ _ ((Off.new (G := fun _ => False) (o := .tup (tl.map V.str)) hp3) _ _ el no) no
      generalize upd (upd H2 p3 (.tup (tl.map V.str))) m (.lst ((cs ++ tl).map V.str)) = G at em k4 el4 ⊢
      refine ⟨m, rfl, ⟨_, SqL.of em⟩, for_list (K := K) (a := m) (xs := (cs ++ tl).map V.str) (fun i σ H' => ∃ w3, σ = [some (.ref b), some (.ref ra), some (.ref l), w3] ∧ Off (fun _ => False) G H' ∧
          (cs ++ tl).find? (fun c => !decide (c ∈ t.2)) = ((cs ++ tl).drop i).find? fun c => !decide (c ∈ t.2))
        ⟨none, rfl, Off.refl _ _, rfl⟩ (fun i σ H' _ g => ?_) (fun i y σ H' hy g => ?_) fun σ H' g => ?_⟩
      · obtain ⟨_, _, k, _⟩ := g
        exact SqL.of (k _ _ em no)
      · obtain ⟨w3, rfl, k, eq⟩ := g
        rw [List.getElem?_map] at hy
        obtain ⟨c, hc, rfl⟩ := Option.map_eq_some_iff.mp hy
        rw [drop_cons hc, List.find?_cons] at eq
        refine ⟨_, rfl, _, rfl, l, _, rfl, .inl (SqL.of (k _ _ el4 no)), rfl, flat_strs _, _, rfl, ?_⟩
        rw [if_pos rfl, inV_strs]
        refine ite2 (fun z => ?_) (fun z => ?_)
        · rw [z] at eq
          rw [eq] at q
          exact ⟨_, rfl, raise_str t2 (k4.trans k) q⟩
        · rw [Bool.eq_false_iff.mpr z] at eq
          exact ⟨_, rfl, k, eq⟩
      · obtain ⟨w3, rfl, k, eq⟩ := g
        rw [List.length_map, List.drop_length] at eq
        rw [eq] at q
        exact q H' (k4.trans k)
end
end LW
set_option Elab.async false
set_option linter.all false
set_option maxRecDepth 100000
set_option maxHeartbeats 0
/-! books.py: Book(..), tables, rules. -/
namespace LW
open PySem PySem.Spec PyProof.Rows L2 KV
/-- a def that stands: its promise, its binding, its name -/
structure Dn (P : Program) (w : World) (K : PySem.W.Frag) (mg : Str → Option Value) (base : Heap) (k : Nat) (x : Str) (ps : List Str) (sp : Sp) (f : Addr) (fd : FuncData) : Prop where
  g : FnOk P w K mg base CX0 k f fd ps sp
  b : Binds K fd ps []
  m : mg x = some (.ref f)
  kp : PySem.W.keepIn K (.ref f) = true
structure DnC (P : Program) (w : World) (K : PySem.W.Frag) (mg : Str → Option Value) (base : Heap) (k : Nat) (x : Str) (ps : List Str) (sp : Sp) (f : Addr) (fd : FuncData) : Prop where
  g : FnC P w K mg base CX0 k f fd ps sp
  b : Binds K fd ps []
  m : mg x = some (.ref f)
  kp : PySem.W.keepIn K (.ref f) = true
theorem NoSq.ins {H : Hp} {p C dx : Addr} {fs : List (Str × V)} (h : H p = some (.ins C dx fs)) : NoSq H p := by
  refine ⟨fun xs z => ?_, fun xs z => ?_⟩ <;>
  · rcases z with z | ⟨o, z⟩ <;> rw [h] at z <;> cases z
theorem Off.in {H H' : Hp} {p : Addr} (k : Off (fun _ => False) H H') : Off (fun a => a = p) H H' := k.mono fun _ z => z.elim
theorem lookup_one (f : Str) (v : V) : List.lookup f (putF f v []) = some v := by simp [putF, List.lookup]
theorem put_two (v1 v2 : V) : putF "_rules" v2 (putF "_tables" v1 []) = [(("_tables" : Str), v1), (("_rules" : Str), v2)] := by
  have h : ¬ ("_tables" : Str) = "_rules" := by decide +kernel
  simp [putF, h]
/-- at b: the book of these tables and rules -/
def BookOf (K : PySem.W.Frag) (H : Hp) (b : Addr) (ts : List Tab) (rs : List RB) : Prop := ∃ dx v1 v2, H b = some (.ins (He.ga K "Book") dx [("_tables", v1), ("_rules", v2)]) ∧ Dp K H v1 (tabsD ts) ∧ Dp K H v2 (rbsD rs)
theorem BookOf.off {K : PySem.W.Frag} {H H' : Hp} {b : Addr} {ts : List Tab} {rs : List RB} (h : BookOf K H b ts rs) (k : Off (fun _ => False) H H') : BookOf K H' b ts rs := by
  obtain ⟨dx, v1, v2, h1, h2, h3⟩ := h
  exact ⟨dx, v1, v2, k _ _ h1 fun z => z, dp_off k h2, dp_off k h3⟩
/-- the same, its lists its own -/
def BookOw (K : PySem.W.Frag) (H : Hp) (b : Addr) (ts : List Tab) (rs : List RB) (F : Fp) : Prop := ∃ dx v1 v2 F1 F2, H b = some (.ins (He.ga K "Book") dx [("_tables", v1), ("_rules", v2)]) ∧ Ow H v1 (tabsD ts) F1 ∧ Ow H v2 (rbsD rs) F2 ∧ (∀ a, F1 a → F a) ∧ ∀ a, F2 a → F a
theorem BookOw.of {K : PySem.W.Frag} {H : Hp} {b : Addr} {ts : List Tab} {rs : List RB} {F : Fp} (h : BookOw K H b ts rs F) : BookOf K H b ts rs := by
  obtain ⟨dx, v1, v2, F1, F2, h1, h2, h3, _⟩ := h
  exact ⟨dx, v1, v2, h1, h2.dp, h3.dp⟩
theorem BookOw.keep {K : PySem.W.Frag} {H H' : Hp} {b : Addr} {ts : List Tab} {rs : List RB} {F G : Fp} (h : BookOw K H b ts rs F) (k : Off G H H') (hG : ∀ a, G a → ∃ xs, H a = some (.lst xs)) (n : ∀ a, F a → ¬ G a) : BookOw K H' b ts rs F := by
  obtain ⟨dx, v1, v2, F1, F2, h1, h2, h3, s1, s2⟩ := h
  refine ⟨dx, v1, v2, F1, F2, k _ _ h1 fun z => ?_, h2.keep k hG fun a z => n a (s1 a z), h3.keep k hG fun a z => n a (s2 a z), s1, s2⟩
  obtain ⟨xs, e⟩ := hG b z
  rw [h1] at e
  cases e
theorem BookOw.off {K : PySem.W.Frag} {H H' : Hp} {b : Addr} {ts : List Tab} {rs : List RB} {F : Fp} (h : BookOw K H b ts rs F) (k : Off (fun _ => False) H H') : BookOw K H' b ts rs F := h.keep k (fun _ z => z.elim) fun _ _ z => z
theorem BookOw.dom {K : PySem.W.Frag} {H : Hp} {b : Addr} {ts : List Tab} {rs : List RB} {F : Fp} (h : BookOw K H b ts rs F) : ∃ F', BookOw K H b ts rs F' ∧ (∀ a, F' a → F a) ∧ ∀ a, F' a → ∃ xs, H a = some (.lst xs) := by
  obtain ⟨dx, v1, v2, F1, F2, h1, h2, h3, s1, s2⟩ := h
  exact ⟨fun a => F1 a ∨ F2 a, ⟨dx, v1, v2, F1, F2, h1, h2, h3, fun a => .inl, fun a => .inr⟩, fun a z => z.elim (s1 a) (s2 a), fun a z => z.elim (h2.dom a) (h3.dom a)⟩
/-- owned data over the change of a thing that is neither a list nor a tuple -/
theorem ow_ins {H : Hp} {p : Addr} {o : HO} (n : NoSq H p) {v : V} {d : PyData} {F : Fp} (h : Ow H v d F) : Ow (upd H p o) v d F := by
  have k : Off (fun a => a = p) H (upd H p o) := Off.upd rfl
  have key : (∀ {v : V} {d : PyData} {F : Fp}, Ow H v d F → Ow (upd H p o) v d F) := by
    intro v d F h
    refine Ow.rec (motive_1 := fun v d F _ => Ow (upd H p o) v d F) (motive_2 := fun vs ds F _ => OwAll (upd H p o) vs ds F) ?_ ?_ ?_ ?_ ?_ ?_ ?_ ?_ h
    · exact fun e => .non e
    · exact fun b e => .bl b e
    · exact fun i e => .int i e
    · exact fun x e => .str x e
    · intro F G a xs ds h0 _ ne e r
      exact .lst (k _ _ h0 fun z => n.1 xs (by
        have z : a = p := z
        rw [← z]
        exact .inl h0)) r ne e
    · intro F a xs ds h0 _ r
      exact .tup (k _ _ h0 fun z => n.2 xs (by
        have z : a = p := z
        rw [← z]
        exact .inl h0)) r
    · exact fun e => .nil e
    · exact fun _ _ ne e h r => .cons h r ne e
  exact key h
def bookX (K : PySem.W.Frag) (H : Hp) (x : Addr) (ts : List Tab) (rs : List RB) (Q : VK) (E : XK) : Option (Str × PyData) → Prop
  | none => ∀ H' F, BookOw K H' x ts rs F → (∀ a, F a → H a = none) → Off (fun a => a = x) H H' → Q .non H'
  | some (y, e) => ∀ (u : V) (Fo : Fp) (d : Addr) (H' : Hp), Off (fun a => a = x) H H' → H d = none → H' d = some (.xd [("value", u)]) → Ow H' u e Fo → (∀ a, Fo a → H a = none) → E (.ref (He.ga K y)) (some d) H'
theorem bookX_raised {K : PySem.W.Frag} {H H1 : Hp} {x : Addr} {ts : List Tab} {rs : List RB} {Q : VK} {E : XK} {y : Str} {e : PyData} (q : bookX K H x ts rs Q E (some (y, e))) (k : Off (fun a => a = x) H H1) (nx : H x ≠ none) (hx : H1 x ≠ none) : Raised K H1 E y e := by
  intro u Fo d H' k1 nd ed o f
  have non : ∀ a, H1 a = none → H a = none := fun a z => by
    by_cases y : a = x
    · exact absurd (y ▸ z) hx
    · exact k.none z y
  exact q u Fo d H' (k.trans (Off.in k1)) (non d nd) ed o fun a z => non a (f a z)
structure BkB (n mc mt N M L : Nat) (ts : List Tab) (rs : List RB) : Prop where
  tb : TabsW n mc mt ts
  rb : ∀ r ∈ rs, RbOk N M r
  hn : n ≤ 1000
  hmc : mc ≤ 1000
  hmt : mt ≤ 1000
  hM : M ≤ 1000
  lr : rs.length ≤ L
  hL : L ≤ 1000
def spBook (K : PySem.W.Frag) : Sp := fun vs H Q E => ∃ (x dx : Addr) (v w : V) (ts : List Tab) (rs : List RB) (n mc mt N M L : Nat), vs = [.ref x, v, w] ∧ H x = some (.ins (He.ga K "Book") dx []) ∧ Dp K H v (tabsD ts) ∧ Dp K H w (rbsD rs) ∧ BkB n mc mt N M L ts rs ∧
  bookX K H x ts rs Q E (wrongBook ts rs)
section
variable {P : Program} {w : World} {K : PySem.W.Frag} {mg : Str → Option Value} {base : Heap}
theorem scBook : FnScope ["self", "tables", "rules", "rule"] ["self", "tables", "rules"] (defScope pBook_init) := ⟨rfl, rfl, rfl, by decide +kernel, rfl, by decide +kernel, by decide +kernel⟩
theorem ok_book {f fT fC fR : Addr} {fd dT dC dR : FuncData} (F : FunD K "__init__" "Book.__init__" (defArgs pBook_init) (defBody pBook_init) (defScope pBook_init) [] [] f fd) (B : BookT K mg)
    (GT : FnOk P w K mg base (L2.CX P w) 5 fT dT ["tables"] (spChkT K)) (bT : Binds K dT ["tables"] []) (mT : mg "check_tables" = some (.ref fT)) (kT : PySem.W.keepIn K (.ref fT) = true)
    (GC : FnOk P w K mg base CX0 6 fC dC ["thing"] (spCopied K 6)) (bC : Binds K dC ["thing"] []) (mC : mg "copied" = some (.ref fC)) (kC : PySem.W.keepIn K (.ref fC) = true)
    (GR : FnOk P w K mg base (L2.CX P w) 7 fR dR ["book", "rule"] (spChkR K)) (bR : Binds K dR ["book", "rule"] []) (mR : mg "check_rule" = some (.ref fR)) (kR : PySem.W.keepIn K (.ref fR) = true) :
    FnOk P w K mg base (L2.CX P w) 8 f fd ["self", "tables", "rules"] (spBook K) := by
  have GT7 : FnOk P w K mg base (L2.CX P w) 7 fT dT ["tables"] (spChkT K) := GT.mono (by decide)
  have GC7 : FnOk P w K mg base CX0 7 fC dC ["thing"] (spCopied K 6) := GC.mono (by decide)
  refine F.ok scBook (fun vs H Q E h => ?_) (fun cdv A outer s H vs Q E hr h => ?_)
  · obtain ⟨x, dx, v, w, ts, rs, n, mc, mt, N, M, L, rfl, _⟩ := h
    rfl
  obtain ⟨x, dx, v, w, ts, rs, n, mc, mt, N, M, L, rfl, hx, hv, hw, bb, q⟩ := h
  refine ⟨_, (pss_cons (ps_expr (pe_callS GT7 hr rfl mT kT bT (fun σ => passAt (takes_of rfl rfl rfl rfl) σ) (pa_cons (pv 1) pa_nil)))
    (pss_cons (ps_fld (pv 0) (pe_call GC7 hr rfl mC kC bC .nil pass0 (pa_cons (pv 1) pa_nil)) rfl)
    (pss_cons (ps_for (passes_of rfl) rfl (pi_list (pv 2)) (pg_name (i := 3) scBook.nd rfl (Or.inl rfl))
      (pss_one (ps_expr (pe_callS GR hr rfl mR kR bR (fun σ => passAt (takes_of rfl rfl rfl rfl) σ) (pa_cons (pv 0) (pa_cons (pv 3) pa_nil))))))
    (pss_one (ps_fld (pv 0) (pe_call GC7 hr rfl mC kC bC .nil pass0 (pa_cons (pv 2) pa_nil)) rfl))))), ?_⟩
  have no : ¬ False := fun z => z
  have nx : H x ≠ none := by rw [hx]; simp
  refine ⟨_, rfl, v, ts, n, mc, mt, rfl, hv, bb.tb, bb.hn, bb.hmc, bb.hmt, ?_⟩
  unfold wrongBook at q
  cases e1 : wrongTabs [] ts with
  | some z =>
    rw [e1] at q
    exact bookX_raised q (Off.refl _ _) nx nx
  | none =>
    rw [e1] at q
    dsimp only at q
    intro H1 k1
    have hx1 := k1 _ _ hx no
    refine ⟨_, rfl, v, tabsD ts, n, [mt, 2, mc], rfl, dp_off k1 hv, fit_tabsW bb.tb, ?_, (by show 3 < 6; decide), fun v1 F1 H2 o1 fr1 k2 => ?_⟩
    · have h1 := bb.hmt
      have h2 := bb.hmc
      simp
      omega
    have hx2 := k2 _ _ hx1 no
    refine ⟨_, rfl, x, _, dx, [], rfl, hx2, B.cl, B.n1, (by decide), ?_⟩
    have kx : Off (fun a => a = x) H2 (upd H2 x (.ins (He.ga K "Book") dx (putF "_tables" v1 []))) := Off.upd rfl
    have hx3 := upd_same (H := H2) (a := x) (o := .ins (He.ga K "Book") dx (putF "_tables" v1 []))
    have w1 := ow_ins (p := x) (o := .ins (He.ga K "Book") dx (putF "_tables" v1 [])) (NoSq.ins hx2) o1
    have d1 := w1.dp (K := K)
    have w3 := dp_in kx (NoSq.ins hx2) (dp_off k2 (dp_off k1 hw))
    have k3 : Off (fun a => a = x) H (upd H2 x (.ins (He.ga K "Book") dx (putF "_tables" v1 []))) := (Off.in (k1.trans k2)).trans kx
    have gn : ∀ a, upd H2 x (.ins (He.ga K "Book") dx (putF "_tables" v1 [])) a = none → H1 a = none := fun a z => k2.none (by rw [← z, upd_ne (fun y => by rw [y, upd_same] at z; cases z)]) no
    generalize upd H2 x (.ins (He.ga K "Book") dx (putF "_tables" v1 [])) = G at hx3 d1 w1 gn w3 k3 ⊢
    have ba : BookAt K G x ts := ⟨dx, _, v1, hx3, lookup_one _ _, d1⟩
    obtain ⟨aw, xw, rfl, qw, rw'⟩ : ∃ a xs, w = .ref a ∧ SqL K G a xs ∧ DpAll K G xs (rs.map rbD) := by
      cases w3 with
      | lst h r => exact ⟨_, _, rfl, h, r⟩
    have lw : xw.length = rs.length := by rw [dpAll_length rw', List.length_map]
    refine ⟨_, rfl, aw, rfl, ⟨_, qw⟩, for_list (K := K) (a := aw) (xs := xw) (fun i σ H' => ∃ w3, σ = [some (.ref x), some v, some (.ref aw), w3] ∧ Off (fun _ => False) G H' ∧ wrongs ts rs = wrongs ts (rs.drop i))
      ⟨none, rfl, Off.refl _ _, rfl⟩ (fun i σ H' _ g => ?_) (fun i y σ H' hy g => ?_) fun σ H' g => ?_⟩
    · obtain ⟨_, _, k, _⟩ := g
      exact sqL_off k qw
    · obtain ⟨w3, rfl, k, eq⟩ := g
      obtain ⟨dr, edr, hdr⟩ := dpAll_at rw' hy
      rw [List.getElem?_map] at edr
      obtain ⟨r, er, rfl⟩ := Option.map_eq_some_iff.mp edr
      rw [drop_cons er, wrongs] at eq
      refine ⟨_, rfl, _, rfl, x, y, ts, r, N, M, rfl, ba.off k, dp_off k hdr, bb.rb r (List.mem_of_getElem? er), bb.hM, ?_⟩
      cases e2 : wrong1 ts r with
      | some z =>
        rw [e2] at eq
        rw [eq] at q
        exact (bookX_raised q k3 nx (by rw [hx3]; simp)).off k
      | none =>
        rw [e2] at eq
        intro H5 k5
        exact ⟨_, rfl, k.trans k5, eq⟩
    · obtain ⟨w3, rfl, k, eq⟩ := g
      rw [lw, List.drop_length] at eq
      rw [eq] at q
      refine ⟨_, rfl, .ref aw, rbsD rs, N, [L, 5, M], rfl, .lst (sqL_off k qw) (dpAll_off k rw'), fit_rbs bb.lr bb.rb, ?_, (by show 3 < 6; decide), fun v2 F2 H6 o2 fr2 k6 => ?_⟩
      · have h1 := bb.hL
        have h2 := bb.hM
        simp
        omega
      have kk := k.trans k6
      have hx6 := kk _ _ hx3 no
      refine ⟨_, rfl, x, _, dx, _, rfl, hx6, B.cl, B.n2, (by show 1 < 1000; decide), ?_⟩
      have kz : Off (fun a => a = x) H6 (upd H6 x (.ins (He.ga K "Book") dx (putF "_rules" v2 (putF "_tables" v1 [])))) := Off.upd rfl
      have u1 := ow_ins (p := x) (o := .ins (He.ga K "Book") dx (putF "_rules" v2 (putF "_tables" v1 []))) (NoSq.ins hx6) (w1.keep kk (fun _ z => z.elim) fun _ _ z => z)
      have u2 := ow_ins (p := x) (o := .ins (He.ga K "Book") dx (putF "_rules" v2 (putF "_tables" v1 []))) (NoSq.ins hx6) o2
      refine q _ (fun a => F1 a ∨ F2 a) ⟨dx, v1, v2, F1, F2, ?_, u1, u2, fun _ => .inl, fun _ => .inr⟩ (fun a z => ?_) ((k3.trans (Off.in kk)).trans kz)
      · rw [upd_same, put_two]
      · rcases z with z | z
        · exact k1.none (fr1 a z) no
        · exact k1.none (gn a (k.none (fr2 a z) no)) no
end
end LW
set_option Elab.async false
set_option linter.all false
set_option maxRecDepth 100000
set_option maxHeartbeats 0
/-! book.tables, book.rules; _law_caught_of -/
namespace LW
open PySem PySem.Spec PyProof.Rows L2 KV
def spGetT (K : PySem.W.Frag) : Sp := fun vs H Q _ => ∃ (b : Addr) (ts : List Tab) (rs : List RB) (n mc mt N M L : Nat), vs = [.ref b] ∧ BookOf K H b ts rs ∧ BkB n mc mt N M L ts rs ∧
  ∀ v' F' H', Ow H' v' (tabsD ts) F' → (∀ a, F' a → H a = none) → Off (fun _ => False) H H' → Q v' H'
def spGetR (K : PySem.W.Frag) : Sp := fun vs H Q _ => ∃ (b : Addr) (ts : List Tab) (rs : List RB) (n mc mt N M L : Nat), vs = [.ref b] ∧ BookOf K H b ts rs ∧ BkB n mc mt N M L ts rs ∧
  ∀ v' F' H', Ow H' v' (rbsD rs) F' → (∀ a, F' a → H a = none) → Off (fun _ => False) H H' → Q v' H'
/-- how the catch of a book's making ends -/
def caughtX (K : PySem.W.Frag) (H : Hp) (ts : List Tab) (rs : List RB) (Q : VK) : Option (Str × PyData) → Prop
  | none => ∀ b t H', BookOf K H' b ts rs → SqT K H' t [.ref b, .non] → Off (fun _ => False) H H' → Q (.ref t) H'
  | some (y, e) => ∀ a dx t u Fo H', Cau H' a (He.ga K y) dx [("value", u)] → Ow H' u e Fo → (∀ b, Fo b → H b = none) → SqT K H' t [.non, .ref a] → Off (fun _ => False) H H' → Q (.ref t) H'
def spCaught (K : PySem.W.Frag) : Sp := fun vs H Q _ => ∃ (v w : V) (way : Int) (ts : List Tab) (rs : List RB) (n mc mt N M L : Nat), vs = [v, w, .int way] ∧ Dp K H v (tabsD ts) ∧ Dp K H w (rbsD rs) ∧ BkB n mc mt N M L ts rs ∧
  caughtX K H ts rs Q (wrongBook ts rs)
theorem wrongName_mem {b : List Str} {x y : Str} {e : PyData} (h : wrongName b x = some (y, e)) : y ∈ names.tail := by
  unfold wrongName at h
  split at h
  · cases h
    decide
  · split at h
    · cases h
      decide
    · cases h
theorem wrongCols_mem {y : Str} {e : PyData} : ∀ {cs b : List Str}, wrongCols b cs = some (y, e) → y ∈ names.tail
  | [], b, h => by
    rw [wrongCols] at h
    cases h
  | c :: cs, b, h => by
    rw [wrongCols_cons] at h
    cases q : wrongName b c with
    | none =>
      rw [q] at h
      exact wrongCols_mem h
    | some z =>
      rw [q] at h
      cases h
      exact wrongName_mem q
theorem wrongTabs_mem {y : Str} {e : PyData} : ∀ {ts : List Tab} {b : List Str}, wrongTabs b ts = some (y, e) → y ∈ names.tail
  | [], b, h => by
    rw [wrongTabs] at h
    cases h
  | t :: ts, b, h => by
    rw [wrongTabs_cons] at h
    cases q : wrongName b t.1 with
    | some z =>
      rw [q] at h
      cases h
      exact wrongName_mem q
    | none =>
      rw [q] at h
      dsimp only at h
      cases q2 : wrongCols [] t.2 with
      | some z =>
        rw [q2] at h
        cases h
        exact wrongCols_mem q2
      | none =>
        rw [q2] at h
        exact wrongTabs_mem h
theorem wrong1_mem {ts : List Tab} {r : RB} {y : Str} {e : PyData} (h : wrong1 ts r = some (y, e)) : y ∈ names.tail := by
  cases hf : formed r with
  | false =>
    rw [wrong1_formed hf] at h
    cases h
    decide
  | true =>
    obtain ⟨k, x, cs, tl, rfl, fm⟩ := formed_ok hf
    rw [wrong1_yes fm] at h
    cases q : tabOf ts x with
    | none =>
      rw [q] at h
      cases h
      decide
    | some t =>
      rw [q] at h
      dsimp only at h
      cases q2 : (cs ++ tl).find? fun c => !decide (c ∈ t.2) with
      | none =>
        rw [q2] at h
        cases h
      | some c =>
        rw [q2] at h
        cases h
        decide
theorem wrongs_mem {ts : List Tab} {y : Str} {e : PyData} : ∀ {rs : List RB}, wrongs ts rs = some (y, e) → y ∈ names.tail
  | [], h => by
    rw [wrongs] at h
    cases h
  | r :: rs, h => by
    rw [wrongs] at h
    cases q : wrong1 ts r with
    | some z =>
      rw [q] at h
      cases h
      exact wrong1_mem q
    | none =>
      rw [q] at h
      exact wrongs_mem h
theorem wrongBook_mem {ts : List Tab} {rs : List RB} {y : Str} {e : PyData} (h : wrongBook ts rs = some (y, e)) : y ∈ names.tail := by
  unfold wrongBook at h
  cases q : wrongTabs [] ts with
  | some z =>
    rw [q] at h
    cases h
    exact wrongTabs_mem q
  | none =>
    rw [q] at h
    exact wrongs_mem h
section
variable {P : Program} {w : World} {K : PySem.W.Frag} {mg : Str → Option Value} {base : Heap}
theorem scGetT : FnScope ["self"] ["self"] (defScope pBook_tables) := ⟨rfl, rfl, rfl, by decide +kernel, rfl, by decide +kernel, by decide +kernel⟩
theorem ok_getT {f fC : Addr} {fd dC : FuncData} (F : FunD K "tables" "Book.tables" (defArgs pBook_tables) (defBody pBook_tables) (defScope pBook_tables) [] [] f fd) (B : BookT K mg)
    (GC : FnOk P w K mg base CX0 6 fC dC ["thing"] (spCopied K 6)) (bC : Binds K dC ["thing"] []) (mC : mg "copied" = some (.ref fC)) (kC : PySem.W.keepIn K (.ref fC) = true) :
    FnOk P w K mg base CX0 7 f fd ["self"] (spGetT K) := by
  refine F.ok scGetT (fun vs H Q E h => ?_) (fun cdv A outer s H vs Q E hr h => ?_)
  · obtain ⟨b, ts, rs, n, mc, mt, N, M, L, rfl, _⟩ := h
    rfl
  obtain ⟨b, ts, rs, n, mc, mt, N, M, L, rfl, hb, bb, q⟩ := h
  refine ⟨_, pss_one (ps_ret (pe_call GC hr rfl mC kC bC .nil pass0 (pa_cons (pe_fld (pv 0) rfl) pa_nil))), ?_⟩
  obtain ⟨dx, v1, v2, h1, h2, h3⟩ := hb
  refine ⟨_, rfl, b, _, dx, _, v1, rfl, h1, B.cl, B.n1, by simp [List.lookup], v1, tabsD ts, n, [mt, 2, mc], rfl, h2, fit_tabsW bb.tb, ?_, (by show 3 < 6; decide), q⟩
  have h1 := bb.hmt
  have h2 := bb.hmc
  simp
  omega
theorem scGetR : FnScope ["self"] ["self"] (defScope pBook_rules) := ⟨rfl, rfl, rfl, by decide +kernel, rfl, by decide +kernel, by decide +kernel⟩
theorem ok_getR {f fC : Addr} {fd dC : FuncData} (F : FunD K "rules" "Book.rules" (defArgs pBook_rules) (defBody pBook_rules) (defScope pBook_rules) [] [] f fd) (B : BookT K mg)
    (GC : FnOk P w K mg base CX0 6 fC dC ["thing"] (spCopied K 6)) (bC : Binds K dC ["thing"] []) (mC : mg "copied" = some (.ref fC)) (kC : PySem.W.keepIn K (.ref fC) = true) :
    FnOk P w K mg base CX0 7 f fd ["self"] (spGetR K) := by
  refine F.ok scGetR (fun vs H Q E h => ?_) (fun cdv A outer s H vs Q E hr h => ?_)
  · obtain ⟨b, ts, rs, n, mc, mt, N, M, L, rfl, _⟩ := h
    rfl
  obtain ⟨b, ts, rs, n, mc, mt, N, M, L, rfl, hb, bb, q⟩ := h
  refine ⟨_, pss_one (ps_ret (pe_call GC hr rfl mC kC bC .nil pass0 (pa_cons (pe_fld (pv 0) rfl) pa_nil))), ?_⟩
  obtain ⟨dx, v1, v2, h1, h2, h3⟩ := hb
  have ne : (("_rules" : Str) == ("_tables" : Str)) = false := by decide +kernel
  refine ⟨_, rfl, b, _, dx, _, v2, rfl, h1, B.cl, B.n2, by simp [List.lookup, ne], v2, rbsD rs, N, [L, 5, M], rfl, h3, fit_rbs bb.lr bb.rb, ?_, (by show 3 < 6; decide), q⟩
  have h1 := bb.hL
  have h2 := bb.hM
  simp
  omega
end
end LW
set_option Elab.async false
set_option linter.all false
set_option maxRecDepth 100000
set_option maxHeartbeats 0
/-! sizes for _law_right -/
namespace LW
open PySem PySem.Spec PyProof.Rows L2 KV
/-- a drawn rule, as any rule -/
def rbOf : Rul → RB
  | (t, cs, none) => (["key", t], some (cs, []))
  | (t, cs, some c) => (["settles", t], some (cs, [c]))
theorem rbD_of (r : Rul) : rulD r = rbD (rbOf r) := by
  obtain ⟨t, cs, o⟩ := r
  cases o <;> rfl
theorem rbsD_of (rs : List Rul) : rulsD rs = rbsD (rs.map rbOf) := by
  unfold rulsD rbsD
  congr 1
  rw [List.map_map]
  exact List.map_congr_left fun r _ => rbD_of r
theorem rbOk_of {mt mc N M : Nat} {ts : List Tab} {r : Rul} (h : RulOk ts r) (tk : TabsOk mt mc ts) (hN : 8 ≤ N) (hM : mc ≤ M) : RbOk N M (rbOf r) := by
  obtain ⟨t, ht, e1, e2, e3⟩ := h
  have tb := tk.each t ht
  obtain ⟨x, cs, o⟩ := r
  have e1 : x = t.1 := e1
  have e2 : cs.Sublist t.2 := e2
  subst e1
  have gn : Gd N t.1 := tb.name.gd.mono hN
  have gk : Gd N "key" := (gdB_ok (n := 8) (by decide +kernel)).mono hN
  have gs : Gd N "settles" := (gdB_ok (n := 8) (by decide +kernel)).mono hN
  have lc : cs.length ≤ M := Nat.le_trans e2.length_le (Nat.le_trans tb.most hM)
  have gc : ∀ y ∈ cs, Gd N y := fun y hy => (tb.good y (e2.subset hy)).gd.mono hN
  cases o with
  | none =>
    refine ⟨by show 2 ≤ 2; decide, fun y hy => ?_, fun _ => rfl, fun cs' tl e => ?_⟩
    · have hy : y ∈ ([("key" : Str), t.1] : List Str) := hy
      rcases List.mem_cons.mp hy with rfl | hy
      · exact gk
      · rw [List.mem_singleton.mp hy]
        exact gn
    · have e : some (cs, ([] : List Str)) = some (cs', tl) := e
      cases e
      exact ⟨lc, gc, by decide, fun y hy => absurd hy (by simp)⟩
  | some c =>
    refine ⟨by show 2 ≤ 2; decide, fun y hy => ?_, fun _ => rfl, fun cs' tl e => ?_⟩
    · have hy : y ∈ ([("settles" : Str), t.1] : List Str) := hy
      rcases List.mem_cons.mp hy with rfl | hy
      · exact gs
      · rw [List.mem_singleton.mp hy]
        exact gn
    · have e : some (cs, [c]) = some (cs', tl) := e
      cases e
      refine ⟨lc, gc, by show 1 ≤ 2; decide, fun y hy => ?_⟩
      rw [List.mem_singleton.mp hy]
      exact (tb.good c (e3 c rfl)).gd.mono hN
inductive Les : List Nat → List Nat → Prop
  | nil : Les [] []
  | cons {m m' : Nat} {ms ms' : List Nat} (h : m ≤ m') (r : Les ms ms') : Les (m :: ms) (m' :: ms')
theorem fit_wide {b : Nat} : ∀ {ms ms' : List Nat} {d : PyData}, Les ms ms' → Fit b ms d → Fit b ms' d
  | ms, ms', .none, _, _ => by cases ms' <;> trivial
  | ms, ms', .bool _, _, _ => by cases ms' <;> trivial
  | ms, ms', .int i, _, h => by cases ms <;> cases ms' <;> exact h
  | ms, ms', .str x, _, h => by cases ms <;> cases ms' <;> exact h
  | [], _, .list _, _, h => h.elim
  | [], _, .tuple _, _, h => h.elim
  | [], _, .dict _, _, h => h.elim
  | _ :: _, _, .dict _, _, h => h.elim
  | m :: ms, m' :: ms', .list ds, .cons h1 h2, ⟨h3, h4⟩ => ⟨Nat.le_trans h3 h1, fun d hd => fit_wide h2 (h4 d hd)⟩
  | m :: ms, m' :: ms', .tuple ds, .cons h1 h2, ⟨h3, h4⟩ => ⟨Nat.le_trans h3 h1, fun d hd => fit_wide h2 (h4 d hd)⟩
/-- what an error holds -/
def ErrFit (e : PyData) : Prop := Fit 100 [5, 8] e ∧ noInt e = true
theorem errFit_str {n : Nat} {x : Str} (h : Gd n x) (hn : n ≤ 100) : ErrFit (.str x) := ⟨fit_str (h.mono hn), by simp [noInt]⟩
theorem wrongName_fit {n : Nat} {b : List Str} {x y : Str} {e : PyData} (h : wrongName b x = some (y, e)) (g : Gd n x) (hn : n ≤ 100) : ErrFit e := by
  unfold wrongName at h
  split at h
  · cases h
    exact errFit_str g hn
  · split at h
    · cases h
      exact errFit_str g hn
    · cases h
theorem wrongCols_fit {n : Nat} (hn : n ≤ 100) {y : Str} {e : PyData} : ∀ {cs b : List Str}, wrongCols b cs = some (y, e) → (∀ x ∈ cs, Gd n x) → ErrFit e
  | [], b, h, _ => by
    rw [wrongCols] at h
    cases h
  | c :: cs, b, h, g => by
    rw [wrongCols_cons] at h
    cases q : wrongName b c with
    | none =>
      rw [q] at h
      exact wrongCols_fit hn h fun x hx => g x (List.mem_cons_of_mem _ hx)
    | some z =>
      rw [q] at h
      cases h
      exact wrongName_fit q (g c List.mem_cons_self) hn
theorem wrongTabs_fit {n mc : Nat} (hn : n ≤ 100) {y : Str} {e : PyData} : ∀ {ts : List Tab} {b : List Str}, wrongTabs b ts = some (y, e) → (∀ t ∈ ts, TabB n mc t) → ErrFit e
  | [], b, h, _ => by
    rw [wrongTabs] at h
    cases h
  | t :: ts, b, h, g => by
    have bt := g t List.mem_cons_self
    rw [wrongTabs_cons] at h
    cases q : wrongName b t.1 with
    | some z =>
      rw [q] at h
      cases h
      exact wrongName_fit q bt.name hn
    | none =>
      rw [q] at h
      dsimp only at h
      cases q2 : wrongCols [] t.2 with
      | some z =>
        rw [q2] at h
        cases h
        exact wrongCols_fit hn q2 bt.good
      | none =>
        rw [q2] at h
        exact wrongTabs_fit hn h fun x hx => g x (List.mem_cons_of_mem _ hx)
theorem rb_fit {N M : Nat} {r : RB} (ok : RbOk N M r) (hN : N ≤ 100) (hM : M ≤ 8) : ErrFit (rbD r) := by
  refine ⟨fit_wide (.cons (Nat.le_refl _) (.cons hM .nil)) ((fit_rb ok).mono hN), ?_⟩
  unfold rbD
  simp only [noInt]
  exact noInt_rb r
theorem wrong1_fit {N M : Nat} {ts : List Tab} {r : RB} {y : Str} {e : PyData} (h : wrong1 ts r = some (y, e)) (ok : RbOk N M r) (hN : N ≤ 100) (hM : M ≤ 8) : ErrFit e := by
  cases hf : formed r with
  | false =>
    rw [wrong1_formed hf] at h
    cases h
    exact rb_fit ok hN hM
  | true =>
    obtain ⟨k, x, cs, tl, rfl, fm⟩ := formed_ok hf
    obtain ⟨lc, gc, lt, gt⟩ := ok.cs cs tl rfl
    rw [wrong1_yes fm] at h
    cases q : tabOf ts x with
    | none =>
      rw [q] at h
      cases h
      exact errFit_str (ok.hg x (by simp)) hN
    | some t =>
      rw [q] at h
      dsimp only at h
      cases q2 : (cs ++ tl).find? fun c => !decide (c ∈ t.2) with
      | none =>
        rw [q2] at h
        cases h
      | some c =>
        rw [q2] at h
        cases h
        rcases List.mem_append.mp (List.mem_of_find?_eq_some q2) with z | z
        · exact errFit_str (gc c z) hN
        · exact errFit_str (gt c z) hN
theorem wrongs_fit {N M : Nat} (hN : N ≤ 100) (hM : M ≤ 8) {ts : List Tab} {y : Str} {e : PyData} : ∀ {rs : List RB}, wrongs ts rs = some (y, e) → (∀ r ∈ rs, RbOk N M r) → ErrFit e
  | [], h, _ => by
    rw [wrongs] at h
    cases h
  | r :: rs, h, g => by
    rw [wrongs] at h
    cases q : wrong1 ts r with
    | some z =>
      rw [q] at h
      cases h
      exact wrong1_fit q (g r List.mem_cons_self) hN hM
    | none =>
      rw [q] at h
      exact wrongs_fit hN hM h fun x hx => g x (List.mem_cons_of_mem _ hx)
theorem wrongBook_fit {n mc mt N M L : Nat} {ts : List Tab} {rs : List RB} (bb : BkB n mc mt N M L ts rs) (hn : n ≤ 100) (hN : N ≤ 100) (hM : M ≤ 8) {y : Str} {e : PyData} (h : wrongBook ts rs = some (y, e)) : ErrFit e := by
  unfold wrongBook at h
  cases q : wrongTabs [] ts with
  | some z =>
    rw [q] at h
    cases h
    exact wrongTabs_fit hn q bb.tb.each
  | none =>
    rw [q] at h
    exact wrongs_fit hN hM h bb.rb
theorem sz_err {e : PyData} (h : ErrFit e) : Sz 100 [5, 8] e := ⟨h.1, by decide, by decide, by decide, by decide⟩
theorem sz_tabs {n mc mt : Nat} {ts : List Tab} (h : TabsW n mc mt ts) (hn : n ≤ 100) (hc : mc ≤ 8) (ht : mt ≤ 6) : Sz 100 [6, 2, 8] (tabsD ts) :=
  ⟨fit_wide (.cons ht (.cons (Nat.le_refl _) (.cons hc .nil))) ((fit_tabsW h).mono hn), by decide, by decide, by decide, by decide⟩
theorem sz_rbs {N M L : Nat} {rs : List RB} (l : rs.length ≤ L) (h : ∀ r ∈ rs, RbOk N M r) (hN : N ≤ 100) (hM : M ≤ 8) (hL : L ≤ 19) : Sz 100 [19, 5, 8] (rbsD rs) :=
  ⟨fit_wide (.cons hL (.cons (Nat.le_refl _) (.cons hM .nil))) ((fit_rbs l h).mono hN), by decide, by decide, by decide, by decide⟩
theorem sz_both {ts : List Tab} {rs : List RB} (h1 : Sz 100 [6, 2, 8] (tabsD ts)) (h2 : Sz 100 [19, 5, 8] (rbsD rs)) : Sz 100 [2, 19, 5, 8] (.tuple [tabsD ts, rbsD rs]) := by
  refine ⟨⟨by show 2 ≤ 2; decide, fun d hd => ?_⟩, by decide, by decide, by decide, by decide⟩
  rcases List.mem_cons.mp hd with rfl | hd
  · exact fit_wide (.cons (by decide) (.cons (by decide) (.cons (by decide) .nil))) h1.fit
  · rw [List.mem_singleton.mp hd]
    exact h2.fit
end LW
set_option Elab.async false
set_option linter.all false
set_option maxRecDepth 100000
set_option maxHeartbeats 0
/-! books.py: len, with_rules, without -/
namespace LW
open PySem PySem.Spec PyProof.Rows L2 KV
/-- how the making of a book ends -/
def bookR (K : PySem.W.Frag) (H : Hp) (Q : VK) (E : XK) (ts : List Tab) (rs : List RB) : Option (Str × PyData) → Prop
  | none => ∀ x H' F, BookOw K H' x ts rs F → (∀ a, F a → H a = none) → H x = none → Off (fun _ => False) H H' → Q (.ref x) H'
  | some (y, e) => Raised K H E y e
theorem bookR.off {K : PySem.W.Frag} {H H1 : Hp} {Q : VK} {E : XK} {ts : List Tab} {rs : List RB} {o : Option (Str × PyData)} (h : bookR K H Q E ts rs o) (k : Off (fun _ => False) H H1) : bookR K H1 Q E ts rs o := by
  cases o with
  | none => exact fun x H' F h1 h2 h3 k' => h x H' F h1 (fun a z => k.none (h2 a z) id) (k.none h3 id) (k.trans k')
  | some z => exact Raised.off h k
/-- Book(v, w) -/
theorem made_of {K : PySem.W.Frag} {H : Hp} {v w : V} {Q : VK} {E : XK} {ts : List Tab} {rs : List RB} {n mc mt N M L : Nat} (dv : Dp K H v (tabsD ts)) (dw : Dp K H w (rbsD rs)) (bb : BkB n mc mt N M L ts rs) (q : bookR K H Q E ts rs (wrongBook ts rs)) :
    ∀ x dx, H x = none → H dx = none → dx ≠ x → spBook K [.ref x, v, w] (upd (upd H dx (.own x)) x (.ins (He.ga K "Book") dx [])) (fun v H2 => v = .non ∧ Q (.ref x) H2) E := by
  intro x dx nx ndx nex
  have no : ¬ False := id
  have kM : Off (fun _ => False) H (upd (upd H dx (.own x)) x (.ins (He.ga K "Book") dx [])) := (Off.new ndx).trans (Off.new (by rw [upd_ne (Ne.symm nex)]; exact nx))
  have nM : ∀ a, upd (upd H dx (.own x)) x (.ins (He.ga K "Book") dx []) a = none → H a = none := fun a z => kM.none z no
  refine ⟨x, dx, v, w, ts, rs, n, mc, mt, N, M, L, rfl, upd_same, dp_off kM dv, dp_off kM dw, bb, ?_⟩
  generalize upd (upd H dx (.own x)) x (.ins (He.ga K "Book") dx []) = HM at kM nM ⊢
  have conv : ∀ H', Off (fun a => a = x) HM H' → Off (fun _ => False) H H' := fun H' k b o eb nb => k _ _ (kM b o eb nb) fun z => by
    rw [z, nx] at eb
    cases eb
  cases e1 : wrongBook ts rs with
  | none =>
    rw [e1] at q
    exact fun H' F bo fr k => ⟨rfl, q x H' F bo (fun a z => nM a (fr a z)) nx (conv H' k)⟩
  | some z =>
    obtain ⟨y, e⟩ := z
    rw [e1] at q
    exact fun u Fo d H' k nd ed ow fr => q u Fo d H' (conv H' k) (nM d nd) ed ow fun a z => nM a (fr a z)
def spLen (K : PySem.W.Frag) : Sp := fun vs H Q _ => ∃ (b : Addr) (ts : List Tab) (rs : List RB), vs = [.ref b] ∧ BookOf K H b ts rs ∧ ∀ H', Off (fun _ => False) H H' → Q (.int (ts.length : Nat)) H'
def spWith (K : PySem.W.Frag) : Sp := fun vs H Q E => ∃ (b : Addr) (w : V) (ts : List Tab) (rs more : List RB) (n mc mt N M L : Nat), vs = [.ref b, w] ∧ BookOf K H b ts rs ∧ Dp K H w (rbsD more) ∧ BkB n mc mt N M L ts (rs ++ more) ∧ bookR K H Q E ts (rs ++ more) (wrongBook ts (rs ++ more))
def spWithout (K : PySem.W.Frag) : Sp := fun vs H Q E => ∃ (b : Addr) (i : Int) (ts : List Tab) (rs : List RB) (n mc mt N M L : Nat), vs = [.ref b, .int i] ∧ BookOf K H b ts rs ∧ BkB n mc mt N M L ts rs ∧
  (if 0 ≤ i ∧ i < (rs.length : Int) then bookR K H Q E ts (rs.take i.toNat ++ rs.drop (i.toNat + 1)) (wrongBook ts (rs.take i.toNat ++ rs.drop (i.toNat + 1))) else Raised K H E "InvalidRule" (.int i))
theorem dp_rbs {K : PySem.W.Frag} {H : Hp} {v : V} {rs : List RB} (h : Dp K H v (rbsD rs)) : ∃ a xs, v = .ref a ∧ SqL K H a xs ∧ DpAll K H xs (rs.map rbD) := by
  cases h with
  | lst h r => exact ⟨_, _, rfl, h, r⟩
theorem look_rules (v1 v2 : V) : List.lookup ("_rules" : Str) [(("_tables" : Str), v1), (("_rules" : Str), v2)] = some v2 := by
  have ne : (("_rules" : Str) == ("_tables" : Str)) = false := by decide +kernel
  simp [List.lookup, ne]
theorem look_tables (v1 v2 : V) : List.lookup ("_tables" : Str) [(("_tables" : Str), v1), (("_rules" : Str), v2)] = some v1 := by
  simp [List.lookup]
section
variable {P : Program} {w : World} {K : PySem.W.Frag} {mg : Str → Option Value} {base : Heap}
theorem scLen : FnScope ["self"] ["self"] (defScope pBook_len) := ⟨rfl, rfl, rfl, by decide +kernel, rfl, by decide +kernel, by decide +kernel⟩
theorem ok_len {f : Addr} {fd : FuncData} (F : FunD K "__len__" "Book.__len__" (defArgs pBook_len) (defBody pBook_len) (defScope pBook_len) [] [] f fd) (B : BookT K mg) (ml : mg "len" = none) :
    FnOk P w K mg base CX0 1 f fd ["self"] (spLen K) := by
  refine F.ok scLen (fun vs H Q E h => ?_) (fun cdv A outer s H vs Q E hr h => ?_)
  · obtain ⟨b, ts, rs, rfl, _⟩ := h
    rfl
  obtain ⟨b, ts, rs, rfl, hb, q⟩ := h
  refine ⟨_, pss_one (ps_ret (pe_callB call_len_seq rfl ml boot_len (pa_cons (pe_fld (pv 0) rfl) pa_nil))), ?_⟩
  obtain ⟨dx, v1, v2, h1, h2, h3⟩ := hb
  obtain ⟨aw, xw, rfl, qw, rw'⟩ := dp_tabs h2
  have lw : xw.length = ts.length := by rw [dpAll_length rw', List.length_map]
  refine ⟨_, rfl, b, _, dx, _, _, rfl, h1, B.cl, B.n1, by simp [List.lookup], aw, xw, rfl, .inl qw, ?_⟩
  rw [lw]
  exact q H (Off.refl _ _)
theorem scWith : FnScope ["self", "more"] ["self", "more"] (defScope pBook_with_rules) := ⟨rfl, rfl, rfl, by decide +kernel, rfl, by decide +kernel, by decide +kernel⟩
theorem ok_with {f : Addr} {fd dB : FuncData} (F : FunD K "with_rules" "Book.with_rules" (defArgs pBook_with_rules) (defBody pBook_with_rules) (defScope pBook_with_rules) [] [] f fd) (B : BookT K mg)
    (GB : FnOk P w K mg base (L2.CX P w) 8 (He.ma K (He.ga K "Book") "__init__") dB ["self", "tables", "rules"] (spBook K)) (bB : Binds K dB ["self", "tables", "rules"] []) (mL : mg "list" = none) :
    FnOk P w K mg base (L2.CX P w) 10 f fd ["self", "more"] (spWith K) := by
  refine F.ok scWith (fun vs H Q E h => ?_) (fun cdv A outer s H vs Q E hr h => ?_)
  · obtain ⟨b, w, ts, rs, more, n, mc, mt, N, M, L, rfl, _⟩ := h
    rfl
  obtain ⟨b, w, ts, rs, more, n, mc, mt, N, M, L, rfl, hb, hw, bb, q⟩ := h
  refine ⟨_, pss_one (ps_ret (pe_makeS B.mkr GB hr rfl B.g bB (fun σ => passAt (takes_of rfl rfl rfl rfl) σ) (pa_cons (pe_fld (pv 0) rfl) (pa_cons (pe_op op_catS (pe_fld (pv 0) rfl) (pe_callTy call_list_of rfl mL boot_list (pa_cons (pv 1) pa_nil))) pa_nil)))), ?_⟩
  obtain ⟨dx, v1, v2, h1, h2, h3⟩ := hb
  obtain ⟨ar, xr, rfl, qr, rr⟩ := dp_rbs h3
  obtain ⟨am, xm, rfl, qm, rm⟩ := dp_rbs hw
  have lr : xr.length + xm.length ≤ 1000 := by
    have z := Nat.le_trans bb.lr bb.hL
    rw [List.length_append] at z
    rw [dpAll_length rr, dpAll_length rm, List.length_map, List.length_map]
    exact z
  refine ⟨_, rfl, b, _, dx, _, v1, rfl, h1, B.cl, B.n1, look_tables _ _, _, rfl, b, _, dx, _, _, rfl, h1, B.cl, B.n2, look_rules _ _, _, rfl, am, _, rfl, .inl qm, fun l hl => ?_⟩
  have k1 : Off (fun _ => False) H (upd H l (.lst xm)) := Off.new hl
  refine ⟨ar, l, _, _, rfl, rfl, sqL_off k1 qr, SqL.of upd_same, Nat.le_trans lr (by decide), fun m hm => ?_⟩
  have k2 := k1.trans (Off.new (o := .lst (xr ++ xm)) hm)
  have d2 : Dp K (upd (upd H l (.lst xm)) m (.lst (xr ++ xm))) (.ref m) (rbsD (rs ++ more)) := by
    unfold rbsD
    rw [List.map_append]
    exact .lst (SqL.of upd_same) (dpAll_append (dpAll_off k2 rr) (dpAll_off k2 rm))
  exact made_of (dp_off k2 h2) d2 bb (q.off k2)
theorem scWithout : FnScope ["self", "index"] ["self", "index"] (defScope pBook_without) := ⟨rfl, rfl, rfl, by decide +kernel, rfl, by decide +kernel, by decide +kernel⟩
theorem ok_without {f : Addr} {fd dB dE : FuncData} (F : FunD K "without" "Book.without" (defArgs pBook_without) (defBody pBook_without) (defScope pBook_without) [] [] f fd) (B : BookT K mg) (T : ErrT P w K mg base dE)
    (GB : FnOk P w K mg base (L2.CX P w) 8 (He.ma K (He.ga K "Book") "__init__") dB ["self", "tables", "rules"] (spBook K)) (bB : Binds K dB ["self", "tables", "rules"] []) (ml : mg "len" = none) :
    FnOk P w K mg base (L2.CX P w) 10 f fd ["self", "index"] (spWithout K) := by
  have t1 := T.es.ok "InvalidRule" (by decide)
  have g1 := T.g "InvalidRule" (by decide)
  refine F.ok scWithout (fun vs H Q E h => ?_) (fun cdv A outer s H vs Q E hr h => ?_)
  · obtain ⟨b, i, ts, rs, n, mc, mt, N, M, L, rfl, _⟩ := h
    rfl
  obtain ⟨b, i, ts, rs, n, mc, mt, N, M, L, rfl, hb, bb, q⟩ := h
  refine ⟨_, pss_cons (ps_if (pt_not (pt_chain op_le op_lt pe_int (pv 1) (pe_callB call_len_seq rfl ml boot_len (pa_cons (pe_fld (pv 0) rfl) pa_nil))))
      (pss_one (ps_raise rfl (takes_of rfl rfl rfl rfl) (pmk_oex t1.oex t1.ini t1.fn T.ini (hr.mono (by decide)) T.b .nil pass0 rfl g1 (pa_cons (pv 1) pa_nil)))) pss_nil)
    (pss_one (ps_ret (pe_makeS B.mkr GB hr rfl B.g bB (fun σ => passAt (takes_of rfl rfl rfl rfl) σ) (pa_cons (pe_fld (pv 0) rfl) (pa_cons (pe_op op_catS (pe_slice sl_list (pe_fld (pv 0) rfl) po_none (po_some (pv 1))) (pe_slice sl_list (pe_fld (pv 0) rfl) (po_some (pe_op op_add (pv 1) pe_int)) po_none)) pa_nil))))), ?_⟩
  obtain ⟨dx, v1, v2, h1, h2, h3⟩ := hb
  obtain ⟨ar, xr, rfl, qr, rr⟩ := dp_rbs h3
  have lr : xr.length = rs.length := by rw [dpAll_length rr, List.length_map]
  have lr2 := Nat.le_trans bb.lr bb.hL
  have no : ¬ False := id
  have out : ¬ (0 ≤ i ∧ i < (rs.length : Int)) → [V.int i].length ≤ 1000 ∧ ∀ a, H a = none → spInit K "value" (.ref a :: ([V.int i] ++ [])) (upd H a (exo a (He.ga K "InvalidRule") none))
      (fun v H2 => v = .non ∧ ∃ (d : Addr) (fs : List (Str × V)), H2 a = some (exo a (He.ga K "InvalidRule") (some d)) ∧ H2 d = some (exd d fs) ∧ H d = none ∧ E (.ref (He.ga K "InvalidRule")) (some d) (upd (del H2 a) d (.xd fs))) (fun _ _ _ => False) := fun c => by
    rw [if_neg c] at q
    exact raise_of t1 fun d hd => q (.int i) (fun _ => False) d _ (Off.new hd) hd upd_same (.int i fun _ z => z) fun _ z => z.elim
  refine ⟨_, rfl, _, _, rfl, rfl, _, rfl, ite2 (fun c1 => ⟨_, rfl, b, _, dx, _, _, rfl, h1, B.cl, B.n2, look_rules _ _, ar, xr, rfl, .inl qr, _, _, rfl, rfl, _, rfl, ?_⟩) (fun c1 => ⟨_, rfl, iteT ⟨_, rfl, out fun z => c1 (decide_eq_true z.1)⟩⟩)⟩
  have p1 : 0 ≤ i := of_decide_eq_true c1
  rw [lr]
  by_cases c2 : i < (rs.length : Int)
  rotate_left
  · rw [decide_eq_false c2]
    exact iteT ⟨_, rfl, out fun z => c2 z.2⟩
  rw [decide_eq_true c2]
  rw [if_pos ⟨p1, c2⟩] at q
  refine iteF ⟨_, rfl, b, _, dx, _, v1, rfl, h1, B.cl, B.n1, look_tables _ _, _, rfl, b, _, dx, _, _, rfl, h1, B.cl, B.n2, look_rules _ _, _, rfl, _, rfl, ar, xr, rfl, qr, fun m1 n1 => ?_⟩
  have k1 : Off (fun _ => False) H (upd H m1 (.lst (cutV xr none (some i)))) := Off.new n1
  have e1 := upd_same (H := H) (a := m1) (o := .lst (cutV xr none (some i)))
  generalize upd H m1 (.lst (cutV xr none (some i))) = G1 at k1 e1 ⊢
  refine ⟨_, rfl, b, _, dx, _, _, rfl, k1 _ _ h1 no, B.cl, B.n2, look_rules _ _, _, rfl, _, _, rfl, rfl, _, rfl, ar, xr, rfl, sqL_off k1 qr, fun m2 n2 => ?_⟩
  have k2 : Off (fun _ => False) G1 (upd G1 m2 (.lst (cutV xr (some (i + 1)) none))) := Off.new n2
  have e2 := upd_same (H := G1) (a := m2) (o := .lst (cutV xr (some (i + 1)) none))
  generalize upd G1 m2 (.lst (cutV xr (some (i + 1)) none)) = G2 at k2 e2 ⊢
  have c1' : cutV xr none (some i) = xr.take i.toNat := cutV_head p1
  have c2' : cutV xr (some (i + 1)) none = xr.drop (i.toNat + 1) := by
    rw [cutV_tail (by omega)]
    congr 1
    omega
  rw [c1'] at e1
  rw [c2'] at e2
  refine ⟨m1, m2, _, _, rfl, rfl, SqL.of (k2 _ _ e1 no), SqL.of e2, ?_, fun m3 n3 => ?_⟩
  · rw [List.length_take, List.length_drop]
    exact Nat.le_trans (m := 2000) (by omega) (by decide)
  have k3 := (k1.trans k2).trans (Off.new (o := .lst (xr.take i.toNat ++ xr.drop (i.toNat + 1))) n3)
  have d3 : Dp K (upd G2 m3 (.lst (xr.take i.toNat ++ xr.drop (i.toNat + 1)))) (.ref m3) (rbsD (rs.take i.toNat ++ rs.drop (i.toNat + 1))) := by
    unfold rbsD
    rw [List.map_append, List.map_take, List.map_drop]
    exact .lst (SqL.of upd_same) (dpAll_append (dpAll_take _ (dpAll_off k3 rr)) (dpAll_drop _ (dpAll_off k3 rr)))
  have bb2 : BkB n mc mt N M L ts (rs.take i.toNat ++ rs.drop (i.toNat + 1)) := { bb with
    rb := fun r hr => bb.rb r ((List.mem_append.mp hr).elim (fun z => List.mem_of_mem_take z) fun z => List.mem_of_mem_drop z)
    lr := by
      have := bb.lr
      rw [List.length_append, List.length_take, List.length_drop]
      omega }
  exact made_of (dp_off k3 h2) d3 bb2 (q.off k3)
end
end LW
set_option Elab.async false
set_option linter.all false
set_option maxRecDepth 100000
set_option maxHeartbeats 0
/-! texts.py: show_book -/
namespace LW
open PySem PySem.Spec PyProof.Rows L2 KV
def ruleW : RB → List Str
  | ([k, x], some (cs, tl)) => if k = "settles" then (k :: x :: cs) ++ ((">" : Str) :: tl) else k :: x :: cs
  | _ => []
theorem ruleW_eq (k x : Str) (cs tl : List Str) : ruleW ([k, x], some (cs, tl)) = if k = "settles" then (k :: x :: cs) ++ ((">" : Str) :: tl) else k :: x :: cs := rfl
def tabW (t : Tab) : List Str := "table" :: t.1 :: t.2
def tabT (t : Tab) : Str := Txt.join " " (tabW t)
def ruleT (r : RB) : Str := Txt.join " " (ruleW r)
def bookT (ts : List Tab) (rs : List RB) : Str := Txt.join "; " (ts.map tabT ++ rs.map ruleT)
theorem sum_le {ys : List Str} {n : Nat} (h : ∀ y ∈ ys, y.length ≤ n) : (ys.map (·.length)).sum ≤ ys.length * n := by
  induction ys with
  | nil => simp
  | cons y ys ih =>
    have h1 := h y List.mem_cons_self
    have h2 := ih fun z hz => h z (List.mem_cons_of_mem _ hz)
    rw [List.map_cons, List.sum_cons, List.length_cons, Nat.add_mul]
    omega
theorem join_le {ys : List Str} {n : Nat} (sep : Str) (h : ∀ y ∈ ys, y.length ≤ n) : (Txt.join sep ys).length ≤ ys.length * (n + sep.length) := by
  rw [show Txt.join sep ys = Str.join sep ys from StrLaws.glued_eq_join sep ys]
  have h1 := StrLaws.join_length_le sep ys
  have h2 := sum_le h
  rw [Nat.mul_add]
  omega
theorem sp1 : (" " : Str).length = 1 := by decide +kernel
theorem sp2 : ("; " : Str).length = 2 := by decide +kernel
theorem tabW_le {n mc : Nat} {t : Tab} (h : TabB n mc t) (h8 : 8 ≤ n) : ∀ y ∈ tabW t, y.length ≤ n := by
  intro y hy
  unfold tabW at hy
  rcases List.mem_cons.mp hy with rfl | hy
  · have : ("table" : Str).length = 5 := by decide +kernel
    omega
  · rcases List.mem_cons.mp hy with rfl | hy
    · exact h.name.2
    · exact (h.good y hy).2
theorem ruleW_le {n M : Nat} {r : RB} (h : RbOk n M r) (f : formed r = true) (h8 : 8 ≤ n) : (∀ y ∈ ruleW r, y.length ≤ n) ∧ (ruleW r).length ≤ M + 5 := by
  obtain ⟨k, x, cs, tl, rfl, _⟩ := formed_ok f
  obtain ⟨a, b, c, d⟩ := h.cs cs tl rfl
  have gk := (h.hg k (by simp)).2
  have gx := (h.hg x (by simp)).2
  have g1 : (">" : Str).length = 1 := by decide +kernel
  rw [ruleW_eq]
  split
  · refine ⟨fun y hy => ?_, ?_⟩
    · rcases List.mem_append.mp hy with hy | hy
      · rcases List.mem_cons.mp hy with rfl | hy
        · exact gk
        · rcases List.mem_cons.mp hy with rfl | hy
          · exact gx
          · exact (b y hy).2
      · rcases List.mem_cons.mp hy with rfl | hy
        · omega
        · exact (d y hy).2
    · simp
      omega
  · refine ⟨fun y hy => ?_, by simp; omega⟩
    rcases List.mem_cons.mp hy with rfl | hy
    · exact gk
    · rcases List.mem_cons.mp hy with rfl | hy
      · exact gx
      · exact (b y hy).2
def spRuleT (K : PySem.W.Frag) : Sp := fun vs H Q _ => ∃ (v : V) (r : RB) (n M : Nat), vs = [v] ∧ Dp K H v (rbD r) ∧ RbOk n M r ∧ formed r = true ∧ 8 ≤ n ∧ n ≤ 100 ∧ M ≤ 100 ∧ ∀ H', Off (fun _ => False) H H' → Q (.str (ruleT r)) H'
def spShow (K : PySem.W.Frag) : Sp := fun vs H Q _ => ∃ (b : Addr) (ts : List Tab) (rs : List RB), vs = [.ref b] ∧ BookOf K H b ts rs ∧ BkB 8 10 10 8 12 30 ts rs ∧ (∀ r ∈ rs, formed r = true) ∧ ∀ H', Off (fun _ => False) H H' → Q (.str (bookT ts rs)) H'
section
variable {P : Program} {w : World} {K : PySem.W.Frag} {mg : Str → Option Value} {base : Heap}
theorem scRuleT : FnScope ["rule", "words"] ["rule"] (defScope pRuleText) := ⟨rfl, rfl, rfl, by decide +kernel, rfl, by decide +kernel, by decide +kernel⟩
theorem ok_ruleT {f : Addr} {fd : FuncData} (F : FnP K "rule_text" pRuleText f fd) : FnOk P w K mg base CX0 1 f fd ["rule"] (spRuleT K) := by
  refine F.ok scRuleT (fun vs H Q E h => ?_) (fun cdv A outer s H vs Q E hr h => ?_)
  · obtain ⟨v, r, n, M, rfl, _⟩ := h
    rfl
  obtain ⟨v, r, n, M, rfl, hv, ok, fm, h8, hn, hM, q⟩ := h
  refine ⟨_, pss_cons (ps_set (i := 1) scRuleT.nd rfl (Or.inl rfl) (pe_lst (pa_cons (pe_ix ix_tup (pv 0) pe_int (fun _ _ => rfl)) (pa_cons (pe_ix ix_tup (pv 0) pe_int (fun _ _ => rfl)) (StX.pa_star (pe_ix ix_tup (pv 0) pe_int (fun _ _ => rfl)) pa_nil)))))
    (pss_cons (ps_if (pt_cmpR op_eq (pe_ix ix_tup (pv 0) pe_int (fun _ _ => rfl)) pe_str (nomark _))
        (pss_one (ps_set (i := 1) scRuleT.nd rfl (Or.inl rfl) (pe_lst (StX.pa_star (pv 1) (pa_cons pe_str (pa_cons (pe_ix ix_tup (pv 0) pe_int (fun _ _ => rfl)) pa_nil)))))) pss_nil)
    (pss_one (ps_ret (pe_join pe_str (pv 1))))), ?_⟩
  have no : ¬ False := id
  obtain ⟨wl, wc⟩ := ruleW_le ok fm h8
  obtain ⟨k, x, cs, tl, rfl, form⟩ := formed_ok fm
  obtain ⟨lc, gc, lt, gt⟩ := ok.cs cs tl rfl
  obtain ⟨ra, vs, rfl, sq, da⟩ : ∃ a vs, v = .ref a ∧ SqT K H a vs ∧ DpAll K H vs (rbL ([k, x], some (cs, tl))) := by
    cases hv with
    | tup h r => exact ⟨_, _, rfl, h, r⟩
  obtain ⟨ca, rfl, dc⟩ : ∃ ca, vs = .str k :: .str x :: .ref ca :: tl.map V.str ∧ Dp K H (.ref ca) (colsD cs) := by
    cases da with
    | cons h r =>
      cases h
      cases r with
      | cons h r =>
        cases h
        cases r with
        | cons h r =>
          obtain ⟨ca, rfl, _⟩ := dp_cols h
          exact ⟨ca, by rw [dpAll_strs r], h⟩
  have at0 : atI (V.str k :: V.str x :: V.ref ca :: tl.map V.str) 0 = some (V.str k) := atI_nat (j := 0) rfl
  have at1 : atI (V.str k :: V.str x :: V.ref ca :: tl.map V.str) 1 = some (V.str x) := atI_nat (j := 1) rfl
  have at2 : atI (V.str k :: V.str x :: V.ref ca :: tl.map V.str) 2 = some (V.ref ca) := atI_nat (j := 2) rfl
  have joined : ∀ {G : Hp} {l : Addr} {ys : List Str}, ys = ruleW ([k, x], some (cs, tl)) → SqL K G l (ys.map V.str) → KV.Off (fun _ => False) H G → ∃ a p, ∃ ys : List Str, V.str " " = .str a ∧ [V.ref l] = [.ref p] ∧ (SqL K G p (ys.map V.str) ∨ SqT K G p (ys.map V.str)) ∧
      (ys.map (·.length)).sum + ys.length * a.length ≤ 16777216 ∧ Q (.str (Txt.join a ys)) G := by
    intro G l ys e h kG
    refine ⟨_, l, ys, rfl, rfl, .inl h, ?_, ?_⟩
    · rw [e, sp1]
      have z1 := sum_le wl
      have z2 : (ruleW ([k, x], some (cs, tl))).length * n ≤ 105 * 100 := Nat.mul_le_mul (by omega) hn
      omega
    · rw [e]
      exact q G kG
  refine ⟨_, rfl, ra, _, 0, _, rfl, rfl, sq, at0, _, rfl, ra, _, 1, _, rfl, rfl, sq, at1, _, rfl, ra, _, 2, _, rfl, rfl, sq, at2, ca, _, rfl, .inr (dp_cols_ref dc), ?_, fun l hl => ?_⟩
  · rw [List.append_nil, List.length_cons, List.length_cons, List.length_map]
    exact Nat.le_trans (m := 1000) (by omega) (by decide)
  have k1 : Off (fun _ => False) H (upd H l (.lst (V.str k :: V.str x :: (cs.map V.str ++ [])))) := Off.new hl
  have e1 := upd_same (H := H) (a := l) (o := .lst (V.str k :: V.str x :: (cs.map V.str ++ [])))
  generalize upd H l (.lst (V.str k :: V.str x :: (cs.map V.str ++ []))) = G1 at k1 e1 ⊢
  rw [List.append_nil] at e1
  refine ⟨_, rfl, ra, _, 0, _, rfl, rfl, sqT_off k1 sq, at0, rfl, _, rfl, ite2 (fun c => ?_) (fun c => ?_)⟩
  · have ek : k = "settles" := V.str.inj (of_decide_eq_true c)
    have l1 : tl.length = 1 := by
      rcases form with ⟨z, _⟩ | ⟨_, z⟩
      · rw [z] at ek
        exact absurd ek (by decide +kernel)
      · exact z
    obtain ⟨y, rfl⟩ : ∃ y, tl = [y] := by
      match tl, l1 with
      | [y], _ => exact ⟨y, rfl⟩
    have at3 : atI (V.str k :: V.str x :: V.ref ca :: [y].map V.str) 3 = some (V.str y) := atI_nat (j := 3) rfl
    refine ⟨_, rfl, l, _, rfl, .inr (SqL.of e1), _, rfl, ra, _, 3, _, rfl, rfl, sqT_off k1 sq, at3, ?_, fun m hm => ?_⟩
    · rw [List.length_append, List.length_cons, List.length_cons, List.length_map]
      exact Nat.le_trans (m := 1000) (by simp; omega) (by decide)
    have k2 := k1.trans (Off.new (o := .lst ((V.str k :: V.str x :: cs.map V.str) ++ [V.str ">", V.str y])) hm)
    refine ⟨⟨_, rfl⟩, _, rfl, joined (ys := (k :: x :: cs) ++ [(">" : Str), y]) ?_ ?_ k2⟩
    · rw [ruleW_eq, if_pos ek]
    · rw [List.map_append]
      exact SqL.of upd_same
  · have ek : ¬ k = "settles" := fun z => c (decide_eq_true (by rw [z]))
    refine ⟨⟨_, rfl⟩, _, rfl, joined (ys := k :: x :: cs) ?_ (SqL.of e1) k1⟩
    rw [ruleW_eq, if_neg ek]
end
end LW
set_option Elab.async false
set_option linter.all false
set_option maxRecDepth 100000
set_option maxHeartbeats 0
namespace LW
open PySem PySem.Spec PyProof.Rows L2 KV
def rJoinK (K : PySem.W.Frag) : V → List V → Hp → VK → Prop := fun x xs H Q => ∃ a p, ∃ ys : List Str, x = .str a ∧ xs = [.ref p] ∧ (SqL K H p (ys.map V.str) ∨ SqT K H p (ys.map V.str)) ∧ (ys.map (·.length)).sum + ys.length * a.length ≤ 16777216 ∧ Q (.str (Txt.join a ys)) H
theorem tabT_le {t : Tab} (h : TabB 8 10 t) : (tabT t).length ≤ 200 := by
  have l := h.most
  have z := join_le " " (tabW_le h (by decide))
  have l2 : (tabW t).length ≤ 12 := by
    unfold tabW
    rw [List.length_cons, List.length_cons]
    omega
  rw [sp1] at z
  unfold tabT
  have : (tabW t).length * (8 + 1) ≤ 12 * 9 := Nat.mul_le_mul l2 (by decide)
  omega
theorem ruleT_le {r : RB} (h : RbOk 8 12 r) (f : formed r = true) : (ruleT r).length ≤ 200 := by
  obtain ⟨z1, z2⟩ := ruleW_le h f (by decide)
  have z := join_le " " z1
  rw [sp1] at z
  unfold ruleT
  have : (ruleW r).length * (8 + 1) ≤ 17 * 9 := Nat.mul_le_mul (by omega) (by decide)
  omega
theorem pieces_le {ts : List Tab} {rs : List RB} (bb : BkB 8 10 10 8 12 30 ts rs) (fm : ∀ r ∈ rs, formed r = true) : (∀ y ∈ ts.map tabT ++ rs.map ruleT, y.length ≤ 200) ∧ (ts.map tabT ++ rs.map ruleT).length ≤ 40 := by
  refine ⟨fun y hy => ?_, ?_⟩
  · rcases List.mem_append.mp hy with hy | hy
    · obtain ⟨t, ht, rfl⟩ := List.mem_map.mp hy
      exact tabT_le (bb.tb.each t ht)
    · obtain ⟨r, hr, rfl⟩ := List.mem_map.mp hy
      exact ruleT_le (bb.rb r hr) (fm r hr)
  · have := bb.tb.most
    have := bb.lr
    rw [List.length_append, List.length_map, List.length_map]
    omega
section
variable {P : Program} {w : World} {K : PySem.W.Frag} {mg : Str → Option Value} {base : Heap}
theorem scShow : FnScope ["book", "tables", "name", "columns", "rules", "rule"] ["book"] (defScope pShowBook) := ⟨rfl, rfl, rfl, by decide +kernel, rfl, by decide +kernel, by decide +kernel⟩
theorem ok_show {f fR pT gT pR gR : Addr} {fd dR dgT dgR : FuncData} (F : FnP K "show_book" pShowBook f fd) (B : BookT K mg) (GRt : FnOk P w K mg base CX0 1 fR dR ["rule"] (spRuleT K)) (bRt : Binds K dR ["rule"] []) (mRt : mg "rule_text" = some (.ref fR)) (kRt : PySem.W.keepIn K (.ref fR) = true)
    (pt : PropOf K (He.ga K "Book") "tables" pT gT) (GT : FnOk P w K mg base CX0 7 gT dgT ["self"] (spGetT K)) (bT : Binds K dgT ["self"] [])
    (pr : PropOf K (He.ga K "Book") "rules" pR gR) (GR : FnOk P w K mg base CX0 7 gR dgR ["self"] (spGetR K)) (bR : Binds K dgR ["self"] []) : FnOk P w K mg base CX0 9 f fd ["book"] (spShow K) := by
  refine F.ok scShow (fun vs H Q E h => ?_) (fun cdv A outer s H vs Q E hr h => ?_)
  · obtain ⟨b, ts, rs, rfl, _⟩ := h
    rfl
  obtain ⟨b, ts, rs, rfl, hb, bb, fm, q⟩ := h
  refine ⟨_, pss_cons (ps_setLc (i := 1) (own := [("name", 2), ("columns", 3)]) (g := gTup K 2 (gCons (gName 2) (gCons (gName 3) gNil))) (tt := tYes) (te := tM1 (rJoinK K) (tC (.str " ")) (tLst (tCons (tC (.str "table")) (tCons (tVar 2) (StX.tStar K (tVar 3) tNil))))) rfl scShow.nd rfl rfl rfl (pi_list (pe_prop (pv 0) B.cl pt GT (hr.mono (by decide)) bT .nil pass0 rfl))
        (blkOk_by (own := [("name", 2), ("columns", 3)]) (N := ["book", "tables", "name", "columns", "rules", "rule"]) (sc := defScope pShowBook) (by decide +kernel))
        (fun _ _ _ _ _ => pg_tup rfl (pgs_cons (pg_name (i := 2) scShow.nd rfl (Or.inl rfl)) (pgs_cons (pg_name (i := 3) scShow.nd rfl (Or.inl rfl)) pgs_nil))) (fun _ _ _ _ _ => pts_nil)
        (fun _ _ _ _ _ => pe_join pe_str (pe_lst (pa_cons pe_str (pa_cons (pv 2) (StX.pa_star (pv 3) pa_nil))))))
    (pss_cons (ps_setLc (i := 4) (own := [("rule", 5)]) (g := gName 5) (tt := tYes) rfl scShow.nd rfl rfl rfl (pi_list (pe_prop (pv 0) B.cl pr GR (hr.mono (by decide)) bR .nil pass0 rfl))
        (blkOk_by (own := [("rule", 5)]) (N := ["book", "tables", "name", "columns", "rules", "rule"]) (sc := defScope pShowBook) (by decide +kernel))
        (fun _ _ _ _ _ => pg_name (i := 5) scShow.nd rfl (Or.inl rfl)) (fun _ _ _ _ _ => pts_nil)
        (fun _ _ _ _ _ => pe_call GRt (hr.mono (by decide)) rfl mRt kRt bRt .nil pass0 (pa_cons (pv 5) pa_nil)))
    (pss_one (ps_ret (pe_join pe_str (pe_op op_cat (pv 1) (pv 4)))))), ?_⟩
  have no : ¬ False := id
  obtain ⟨dx, x1, x2, hx, _, _⟩ := id hb
  refine ⟨_, rfl, b, dx, _, rfl, hx, b, ts, rs, 8, 10, 10, 8, 12, 30, rfl, hb, bb, fun v1 F1 H1 o1 f1 k1 => ?_⟩
  obtain ⟨a1, w1, rfl, q1, r1⟩ := dp_tabs (o1.dp (K := K))
  have lw1 : w1.length = ts.length := by rw [dpAll_length r1, List.length_map]
  have lt := bb.tb.most
  refine ⟨a1, rfl, ⟨_, q1⟩, fun D hD => lc_list (K := K) (a := a1) (xs := w1) (fun i H' => H' D = some (.lst (((ts.take i).map tabT).map V.str)) ∧ Off (fun _ => False) H1 H') ⟨upd_same, Off.new hD⟩ (fun i H' _ g => sqL_off g.2 q1) (fun i x H' hx g => ?_) fun H' g => ?_⟩
  · obtain ⟨g1, g2⟩ := g
    obtain ⟨dt, edt, hdt⟩ := dpAll_at r1 hx
    rw [List.getElem?_map] at edt
    obtain ⟨t, et, rfl⟩ := Option.map_eq_some_iff.mp edt
    have bt := bb.tb.each t (List.mem_of_getElem? et)
    obtain ⟨ta, wc, rfl, st, dc⟩ := dp_tab hdt
    obtain ⟨ca, rfl, _⟩ := dp_cols dc
    have lc := bt.most
    refine ⟨ta, [.str t.1, .ref ca], rfl, sqT_off g2 st, rfl, .str t.1, [.ref ca], rfl, .ref ca, [], rfl, rfl, rfl, ?_⟩
    show (∃ a, V.str " " = V.str a) ∧ _
    refine ⟨⟨_, rfl⟩, ?_⟩
    refine ⟨_, rfl, _, rfl, ca, _, rfl, .inr (dp_cols_ref (dp_off g2 dc)), ?_, fun l hl => ?_⟩
    · rw [List.append_nil, List.length_cons, List.length_cons, List.length_map]
      exact Nat.le_trans (m := 1000) (by omega) (by decide)
    have k2 := g2.trans (Off.new (o := .lst (V.str "table" :: V.str t.1 :: (t.2.map V.str ++ []))) hl)
    refine ⟨_, l, tabW t, rfl, rfl, .inl ?_, ?_, ?_⟩
    · rw [List.append_nil]
      exact SqL.of upd_same
    · have z := sum_le (tabW_le bt (by decide))
      have l2 : (tabW t).length ≤ 12 := by
        unfold tabW
        rw [List.length_cons, List.length_cons]
        omega
      rw [sp1]
      omega
    · refine ⟨_, (Off.new (G := fun _ => False) hl) _ _ g1 no, ?_, ?_, fun b o eb nb => ?_⟩
      · rw [List.length_map, List.length_map, List.length_take]
        exact small1000 (by omega)
      · rw [upd_same, take_snoc et, List.map_append, List.map_append]
        rfl
      · rw [upd_ne (fun z => by rw [z, hD] at eb; cases eb)]
        exact k2 b o eb nb
  obtain ⟨g1, g2⟩ := g
  rw [lw1, List.take_length] at g1
  have kH := k1.trans g2
  -- the rules
  refine ⟨_, rfl, b, dx, _, rfl, kH _ _ hx no, b, ts, rs, 8, 10, 10, 8, 12, 30, rfl, hb.off kH, bb, fun v2 F2 H2 o2 f2 k2 => ?_⟩
  obtain ⟨a2, w2, rfl, q2, r2⟩ := dp_rbs (o2.dp (K := K))
  have lw2 : w2.length = rs.length := by rw [dpAll_length r2, List.length_map]
  have lr := bb.lr
  refine ⟨a2, rfl, ⟨_, q2⟩, fun D2 hD2 => lc_list (K := K) (a := a2) (xs := w2) (fun i H' => H' D2 = some (.lst (((rs.take i).map ruleT).map V.str)) ∧ Off (fun _ => False) H2 H') ⟨upd_same, Off.new hD2⟩ (fun i H' _ g => sqL_off g.2 q2) (fun i x H' hx2 g => ?_) fun H' g => ?_⟩
  · obtain ⟨u1, u2⟩ := g
    obtain ⟨dr, edr, hdr⟩ := dpAll_at r2 hx2
    rw [List.getElem?_map] at edr
    obtain ⟨r, er, rfl⟩ := Option.map_eq_some_iff.mp edr
    have mem := List.mem_of_getElem? er
    refine ⟨rfl, ?_⟩
    refine Exists.intro x ⟨rfl, x, r, 8, 12, rfl, dp_off u2 hdr, bb.rb r mem, fm r mem, by decide, by decide, by decide, fun H5 k5 => ?_⟩
    refine ⟨_, k5 _ _ u1 no, ?_, ?_, fun b o eb nb => ?_⟩
    · rw [List.length_map, List.length_map, List.length_take]
      exact small1000 (by omega)
    · rw [upd_same, take_snoc er, List.map_append, List.map_append]
      rfl
    · rw [upd_ne (fun z => by rw [z, hD2] at eb; cases eb)]
      exact k5 _ _ (u2 b o eb nb) nb
  · obtain ⟨u1, u2⟩ := g
    rw [lw2, List.take_length] at u1
    have kk := k2.trans u2
    have e1 := kk _ _ g1 no
    obtain ⟨pl, pc⟩ := pieces_le bb fm
    refine ⟨⟨_, rfl⟩, _, rfl, _, rfl, D, D2, _, _, rfl, rfl, e1, u1, ?_, fun m hm => ?_⟩
    · rw [List.length_map, List.length_map, List.length_map, List.length_map]
      exact Nat.le_trans (m := 1000) (by omega) (by decide)
    have km := (kH.trans kk).trans (Off.new (o := .lst (((ts.map tabT).map V.str) ++ ((rs.map ruleT).map V.str))) hm)
    refine ⟨_, m, ts.map tabT ++ rs.map ruleT, rfl, rfl, .inl ?_, ?_, ?_⟩
    · rw [List.map_append]
      exact SqL.of upd_same
    · have z := sum_le pl
      have z2 : (ts.map tabT ++ rs.map ruleT).length * 200 ≤ 40 * 200 := Nat.mul_le_mul pc (by decide)
      rw [sp2]
      omega
    · exact q _ km
end
end LW
set_option Elab.async false
set_option linter.all false
set_option maxRecDepth 100000
set_option maxHeartbeats 0
/-! readings.py: rule_of -/
namespace LW
open PySem PySem.Spec PyProof.Rows L2 KV
theorem atI_back {α : Type} (xs : List α) (u v : α) : atI (xs ++ [u, v]) (-2) = some u := by
  have hl : (xs ++ [u, v]).length = xs.length + 2 := by simp
  have e : ixN (xs ++ [u, v]).length (-2) = some xs.length := by
    unfold ixN
    rw [hl, if_neg (by decide), if_pos (by omega)]
    congr 1
    omega
  unfold atI
  rw [e]
  simp
theorem cutV_mid (a b : V) (xs : List V) (u v : V) : cutV (a :: b :: (xs ++ [u, v])) (some 2) (some (-2)) = xs := by
  unfold cutV
  have l : (a :: b :: (xs ++ [u, v])).length = xs.length + 4 := by simp
  have h1 : HT.sIx (a :: b :: (xs ++ [u, v])).length 0 (some 2) = 2 := by
    rw [l]
    simp [HT.sIx]
  have h2 : HT.sIx (a :: b :: (xs ++ [u, v])).length (a :: b :: (xs ++ [u, v])).length (some (-2)) = xs.length + 2 := by
    rw [l]
    simp [HT.sIx]
    omega
  rw [h1, h2]
  simp
def spRuleOf (K : PySem.W.Frag) : Sp := fun vs H Q _ => ∃ (l : Addr) (r : RB), vs = [.ref l] ∧ SqL K H l ((ruleW r).map V.str) ∧ RbOk 8 12 r ∧ formed r = true ∧
  ∀ t F H', Ow H' (.ref t) (rbD r) F → (∀ a, F a → H a = none) → Off (fun _ => False) H H' → Q (.ref t) H'
section
variable {P : Program} {w : World} {K : PySem.W.Frag} {mg : Str → Option Value} {base : Heap}
theorem scRuleOf : FnScope ["words"] ["words"] (defScope pRuleOf) := ⟨rfl, rfl, rfl, by decide +kernel, rfl, by decide +kernel, by decide +kernel⟩
theorem ok_ruleOf {f : Addr} {fd dE : FuncData} (F : FnP K "rule_of" pRuleOf f fd) (T : ErrT P w K mg base dE) (ml : mg "len" = none) : FnOk P w K mg base (L2.CX P w) 3 f fd ["words"] (spRuleOf K) := by
  have t1 := T.es.ok "Unreadable" (by decide)
  have g1 := T.g "Unreadable" (by decide)
  refine F.ok scRuleOf (fun vs H Q E h => ?_) (fun cdv A outer s H vs Q E hr h => ?_)
  · obtain ⟨l, r, rfl, _⟩ := h
    rfl
  obtain ⟨l, r, rfl, sl, ok, fm, q⟩ := h
  refine ⟨_, pss_cons (ps_if (PW.pt (pw_and (pt_cmpR op_eq (pe_ix ix_list (pv 0) pe_int (fun _ _ => rfl)) pe_str (nomark _)) (pw_and1 (pt_cmpR op_ge (pe_callB call_len_seq rfl ml boot_len (pa_cons (pv 0) pa_nil)) pe_int (nomark _)))))
      (pss_one (ps_ret (pe_tup (pa_cons pe_str (pa_cons (pe_ix ix_list (pv 0) pe_int (fun _ _ => rfl)) (pa_cons (pe_slice sl_list (pv 0) (po_some pe_int) po_none) pa_nil)))))) pss_nil)
    (pss_cons (ps_if (PW.pt (pw_and (pt_cmpR op_eq (pe_ix ix_list (pv 0) pe_int (fun _ _ => rfl)) pe_str (nomark _)) (pw_and (pt_cmpR op_ge (pe_callB call_len_seq rfl ml boot_len (pa_cons (pv 0) pa_nil)) pe_int (nomark _))
        (pw_and1 (pt_cmpR op_eq (pe_ix ix_list (pv 0) (pe_un un_neg pe_int) (fun _ _ => rfl)) pe_str (nomark _))))))
      (pss_one (ps_ret (pe_tup (pa_cons pe_str (pa_cons (pe_ix ix_list (pv 0) pe_int (fun _ _ => rfl)) (pa_cons (pe_slice sl_list (pv 0) (po_some pe_int) (po_some (pe_un un_neg pe_int))) (pa_cons (pe_ix ix_list (pv 0) (pe_un un_neg pe_int) (fun _ _ => rfl)) pa_nil))))))) pss_nil)
    (pss_one (ps_raise rfl (takes_of rfl rfl rfl rfl) (pmk_oex t1.oex t1.ini t1.fn T.ini hr T.b .nil pass0 rfl g1 (pa_cons (pe_join pe_str (pv 0)) pa_nil))))), ?_⟩
  have no : ¬ False := id
  obtain ⟨k, x, cs, tl, rfl, form⟩ := formed_ok fm
  obtain ⟨lc, gc, lt, gt⟩ := ok.cs cs tl rfl
  have ow : ∀ {G : Hp} {m t : Addr}, G m = none → upd G m (.lst (cs.map V.str)) t = none → ∀ {zs : List V} {ds : List PyData}, OwAll (upd (upd G m (.lst (cs.map V.str))) t (.tup (V.str k :: V.str x :: V.ref m :: zs))) zs ds (fun _ => False) →
      Ow (upd (upd G m (.lst (cs.map V.str))) t (.tup (V.str k :: V.str x :: V.ref m :: zs))) (.ref t) (.tuple (.str k :: .str x :: colsD cs :: ds)) (fun a => a = m) := by
    intro G m t nm nt zs ds hz
    have em : upd (upd G m (.lst (cs.map V.str))) t (.tup (V.str k :: V.str x :: V.ref m :: zs)) m = some (.lst (cs.map V.str)) := (upd_ne (ne_of_none upd_same nt)).trans upd_same
    refine .tup upd_same (owc_str (owc_str (owc (.lst em (owAll_strs (fun _ z => z) cs) (fun z => z) fun b => ⟨.inl, fun z => z.elim id False.elim⟩) hz)))
  rcases form with ⟨ek, el⟩ | ⟨ek, el⟩
  · have et : tl = [] := List.length_eq_zero_iff.mp el
    subst et
    have ns : ¬ k = "settles" := by
      rw [ek]
      decide +kernel
    rw [ruleW_eq, if_neg ns] at sl
    have sl : SqL K H l (V.str k :: V.str x :: cs.map V.str) := sl
    have a0 : atI (V.str k :: V.str x :: cs.map V.str) 0 = some (V.str k) := atI_nat (j := 0) rfl
    have a1 : atI (V.str k :: V.str x :: cs.map V.str) 1 = some (V.str x) := atI_nat (j := 1) rfl
    refine ⟨_, rfl, l, _, 0, _, rfl, rfl, sl, a0, rfl, _, rfl, ?_⟩
    rw [decide_eq_true (show V.str k = V.str "key" by rw [ek])]
    refine iteT ⟨_, rfl, l, _, rfl, .inl sl, _, _, rfl, rfl, _, rfl, ?_⟩
    have l2 : (((V.str k :: V.str x :: cs.map V.str).length : Nat) : Int) ≥ 2 := by
      simp
      omega
    rw [decide_eq_true l2]
    refine iteT ⟨_, rfl, l, _, 1, _, rfl, rfl, sl, a1, _, rfl, _, rfl, l, _, rfl, sl, fun m nm => ⟨(by show 3 ≤ sizeLine; decide), fun t nt => ?_⟩⟩
    have ec : cutV (V.str k :: V.str x :: cs.map V.str) (some 2) none = cs.map V.str := by
      rw [cutV_tail (by decide)]
      rfl
    rw [ec] at nt ⊢
    have k1 : Off (fun _ => False) H (upd H m (.lst (cs.map V.str))) := Off.new nm
    rw [← ek]
    refine q t _ _ (ow nm nt ow0) (fun a z => ?_) (k1.trans (Off.new nt))
    rw [z]
    exact nm
  · obtain ⟨y, rfl⟩ : ∃ y, tl = [y] := by
      match tl, el with
      | [y], _ => exact ⟨y, rfl⟩
    rw [ruleW_eq, if_pos ek] at sl
    have sl : SqL K H l (V.str k :: V.str x :: (cs.map V.str ++ [V.str ">", V.str y])) := by
      have e : ((k :: x :: cs) ++ [(">" : Str), y]).map V.str = V.str k :: V.str x :: (cs.map V.str ++ [V.str ">", V.str y]) := by simp
      rw [← e]
      exact sl
    have a0 : atI (V.str k :: V.str x :: (cs.map V.str ++ [V.str ">", V.str y])) 0 = some (V.str k) := atI_nat (j := 0) rfl
    have a1 : atI (V.str k :: V.str x :: (cs.map V.str ++ [V.str ">", V.str y])) 1 = some (V.str x) := atI_nat (j := 1) rfl
    have b2 : atI (V.str k :: V.str x :: (cs.map V.str ++ [V.str ">", V.str y])) (-2) = some (V.str ">") := atI_back (V.str k :: V.str x :: cs.map V.str) _ _
    have b1 : atI (V.str k :: V.str x :: (cs.map V.str ++ [V.str ">", V.str y])) (-1) = some (V.str y) := by
      have := atI_last (V.str k :: V.str x :: (cs.map V.str ++ [V.str ">"])) (V.str y)
      simpa using this
    have nk : ¬ k = "key" := by
      rw [ek]
      decide +kernel
    refine ⟨_, rfl, l, _, 0, _, rfl, rfl, sl, a0, rfl, _, rfl, ?_⟩
    rw [decide_eq_false (show ¬ V.str k = V.str "key" from fun z => nk (V.str.inj z))]
    refine iteF ?_
    refine ⟨_, rfl, l, _, 0, _, rfl, rfl, sl, a0, rfl, _, rfl, ?_⟩
    rw [decide_eq_true (show V.str k = V.str "settles" by rw [ek])]
    refine iteT ⟨_, rfl, l, _, rfl, .inl sl, _, _, rfl, rfl, _, rfl, ?_⟩
    have l4 : (((V.str k :: V.str x :: (cs.map V.str ++ [V.str ">", V.str y])).length : Nat) : Int) ≥ 4 := by
      simp
      omega
    rw [decide_eq_true l4]
    refine iteT ⟨_, rfl, _, rfl, l, _, -2, _, rfl, rfl, sl, b2, rfl, _, rfl, ?_⟩
    rw [decide_eq_true rfl]
    refine iteT ⟨_, rfl, l, _, 1, _, rfl, rfl, sl, a1, _, rfl, _, rfl, _, rfl, _, rfl, l, _, rfl, sl, fun m nm => ?_⟩
    have ec : cutV (V.str k :: V.str x :: (cs.map V.str ++ [V.str ">", V.str y])) (some 2) (some (-2)) = cs.map V.str := cutV_mid _ _ _ _ _
    rw [show (-2 : Int) = -2 from rfl, ec] at *
    have k1 : Off (fun _ => False) H (upd H m (.lst (cs.map V.str))) := Off.new nm
    refine ⟨_, rfl, _, rfl, l, _, -1, _, rfl, rfl, sqL_off k1 sl, b1, (by show 4 ≤ sizeLine; decide), fun t nt => ?_⟩
    rw [← ek]
    refine q t _ _ (ow nm nt (owc_str ow0)) (fun a z => ?_) (k1.trans (Off.new nt))
    rw [z]
    exact nm
end
end LW
set_option Elab.async false
set_option linter.all false
set_option maxRecDepth 100000
set_option maxHeartbeats 0
/-! readings.py: tables_and_rules -/
namespace LW
open PySem PySem.Spec PyProof.Rows L2 KV
/-- no blank, no semicolon -/
def NoSep (x : Str) : Prop := ∀ c ∈ x.cps.toList, c ≠ 32 ∧ c ≠ 59
theorem Title.noSep {x : Str} (h : Title x) : NoSep x := fun c hc => by
  have := h.2.2 c hc
  omega
def noSepB (x : Str) : Bool := x.cps.toList.all fun c => decide (c ≠ 32 ∧ c ≠ 59)
theorem noSepB_ok {x : Str} (h : noSepB x = true) : NoSep x := fun c hc => of_decide_eq_true (List.all_eq_true.mp h c hc)
theorem mem_joinL {S : List Nat} {c : Nat} : ∀ {ps : List (List Nat)}, c ∈ TL.joinL S ps → c ∈ S ∨ ∃ p ∈ ps, c ∈ p
  | [], h => by simp [TL.joinL] at h
  | [p], h => .inr ⟨p, by simp, h⟩
  | p :: q :: r, h => by
    rcases List.mem_append.mp (show c ∈ p ++ (S ++ TL.joinL S (q :: r)) from h) with h | h
    · exact .inr ⟨p, by simp, h⟩
    · rcases List.mem_append.mp h with h | h
      · exact .inl h
      · rcases mem_joinL h with h | ⟨p', hp, hc⟩
        · exact .inl h
        · exact .inr ⟨p', List.mem_cons_of_mem _ hp, hc⟩
theorem join_no59 {ws : List Str} (h : ∀ w ∈ ws, NoSep w) : 59 ∉ TL.tl (Txt.join " " ws) := by
  intro z
  rw [TL.join_eq, TL.tl_join] at z
  rcases mem_joinL z with z | ⟨p, hp, hc⟩
  · have e : TL.tl (" " : Str) = [32] := by decide +kernel
    rw [e] at z
    simp at z
  · obtain ⟨w, hw, rfl⟩ := List.mem_map.mp hp
    exact (h w hw 59 hc).2 rfl
theorem split_words {ws : List Str} (ne : ws ≠ []) (h : ∀ w ∈ ws, NoSep w) : Txt.split (Txt.join " " ws) " " = ws :=
  TL.split_join (s := 32) (S := []) (by decide +kernel) (by decide +kernel) ne fun p hp z => (h p hp 32 z).1 rfl
theorem split_pieces {ps : List Str} (ne : ps ≠ []) (h : ∀ p ∈ ps, 59 ∉ TL.tl p) : Txt.split (Txt.join "; " ps) "; " = ps :=
  TL.split_join (s := 59) (S := [32]) (by decide +kernel) (by decide +kernel) ne h
/-- the words have no separators -/
structure WordsOk (ts : List Tab) (rs : List RB) : Prop where
  t : ∀ t ∈ ts, ∀ y ∈ tabW t, NoSep y
  r : ∀ r ∈ rs, ∀ y ∈ ruleW r, NoSep y
  f : ∀ r ∈ rs, formed r = true
def spTR (K : PySem.W.Frag) : Sp := fun vs H Q _ => ∃ (ts : List Tab) (rs : List RB), vs = [.str (bookT ts rs)] ∧ BkB 8 10 10 8 12 30 ts rs ∧ WordsOk ts rs ∧ 1 ≤ ts.length ∧
  ∀ a b t H', Dp K H' (.ref a) (tabsD ts) → Dp K H' (.ref b) (rbsD rs) → SqT K H' t [.ref a, .ref b] → Off (fun _ => False) H H' → Q (.ref t) H'
theorem ruleW_ne {r : RB} (f : formed r = true) : ∃ k w, ruleW r = k :: w ∧ k ≠ "table" := by
  obtain ⟨k, x, cs, tl, rfl, form⟩ := formed_ok f
  have hk : k ≠ "table" := by
    rcases form with ⟨z, _⟩ | ⟨z, _⟩ <;>
    · rw [z]
      decide +kernel
  rw [ruleW_eq]
  split
  · exact ⟨k, _, rfl, hk⟩
  · exact ⟨k, _, rfl, hk⟩
section
variable {P : Program} {w : World} {K : PySem.W.Frag} {mg : Str → Option Value} {base : Heap}
theorem scTR : FnScope ["text", "tables", "rules", "piece", "words"] ["text"] (defScope pTablesAndRules) := ⟨rfl, rfl, rfl, by decide +kernel, rfl, by decide +kernel, by decide +kernel⟩
theorem ok_TR {f fO : Addr} {fd dE dO : FuncData} (F : FnP K "tables_and_rules" pTablesAndRules f fd) (T : ErrT P w K mg base dE) (GO : FnOk P w K mg base (L2.CX P w) 3 fO dO ["words"] (spRuleOf K)) (bO : Binds K dO ["words"] []) (mO : mg "rule_of" = some (.ref fO)) (kO : PySem.W.keepIn K (.ref fO) = true)
    (ml : mg "len" = none) : FnOk P w K mg base (L2.CX P w) 4 f fd ["text"] (spTR K) := by
  have t1 := T.es.ok "Unreadable" (by decide)
  have g1 := T.g "Unreadable" (by decide)
  refine F.ok scTR (fun vs H Q E h => ?_) (fun cdv A outer s H vs Q E hr h => ?_)
  · obtain ⟨ts, rs, rfl, _⟩ := h
    rfl
  obtain ⟨ts, rs, rfl, bb, wo, one, q⟩ := h
  refine ⟨_, pss_cons (ps_set (i := 1) scTR.nd rfl (Or.inl rfl) (pe_lst pa_nil))
    (pss_cons (ps_set (i := 2) scTR.nd rfl (Or.inl rfl) (pe_lst pa_nil))
    (pss_cons (ps_for (passes_of rfl) rfl (pi_list (pe_ifExp (pt_truth (pv 0) (by intro _; rfl)) (pe_split (pv 0) pe_str) (pe_lst pa_nil))) (pg_name (i := 3) scTR.nd rfl (Or.inl rfl))
      (pss_cons (ps_set (i := 4) scTR.nd rfl (Or.inl rfl) (pe_split (pv 3) pe_str))
      (pss_one (ps_if (pt_cmpR op_ne (pe_ix ix_list (pv 4) pe_int (fun _ _ => rfl)) pe_str (nomark _))
        (pss_one (ps_expr (pe_bm PySem.F.plainAttrs_list PySem.F.slot_list_append PySem.F.type_list_append mt_append (pv 2) (pa_cons (pe_callS GO hr rfl mO kO bO (fun σ => passAt (takes_of rfl rfl rfl rfl) σ) (pa_cons (pv 4) pa_nil)) pa_nil))))
        (pss_one (ps_if (PW.pt (pw_or (pt_truth (pv 2) (by intro _; rfl)) (pw_or1 (pt_cmpR op_lt (pe_callB call_len_seq rfl ml boot_len (pa_cons (pv 4) pa_nil)) pe_int (nomark _)))))
          (pss_one (ps_raise rfl (takes_of rfl rfl rfl rfl) (pmk_oex t1.oex t1.ini t1.fn T.ini (hr.mono (by decide)) T.b .nil pass0 rfl g1 (pa_cons (pv 3) pa_nil))))
          (pss_one (ps_expr (pe_bm PySem.F.plainAttrs_list PySem.F.slot_list_append PySem.F.type_list_append mt_append (pv 1) (pa_cons (pe_tup (pa_cons (pe_ix ix_list (pv 4) pe_int (fun _ _ => rfl)) (pa_cons (pe_slice sl_list (pv 4) (po_some pe_int) po_none) pa_nil))) pa_nil))))))))))
    (pss_one (ps_ret (pe_tup (pa_cons (pv 1) (pa_cons (pv 2) pa_nil))))))), ?_⟩
  have no : ¬ False := id
  obtain ⟨pl, pc⟩ := pieces_le bb wo.f
  obtain ⟨PS, hPS⟩ : ∃ PS, PS = ts.map tabT ++ rs.map ruleT := ⟨_, rfl⟩
  have lP : PS.length = ts.length + rs.length := by
    rw [hPS, List.length_append, List.length_map, List.length_map]
  have neP : PS ≠ [] := by
    intro z
    rw [z] at lP
    have := one
    simp at lP
    omega
  have spl : Txt.split (bookT ts rs) "; " = PS := by
    unfold bookT
    rw [← hPS]
    refine split_pieces neP fun p hp => ?_
    rw [hPS] at hp
    rcases List.mem_append.mp hp with hp | hp
    · obtain ⟨t, ht, rfl⟩ := List.mem_map.mp hp
      exact join_no59 (wo.t t ht)
    · obtain ⟨r, hr, rfl⟩ := List.mem_map.mp hp
      exact join_no59 (wo.r r hr)
  have lB : (bookT ts rs).length ≤ 8080 := by
    have z := join_le "; " pl
    rw [sp2] at z
    have : (ts.map tabT ++ rs.map ruleT).length * (200 + 2) ≤ 40 * 202 := Nat.mul_le_mul pc (by decide)
    unfold bookT
    omega
  have posB : (((bookT ts rs).length : Int) != 0) = true := by
    rw [bne_iff_ne]
    intro z
    have e : bookT ts rs = Str.empty := by
      have : (bookT ts rs).length = 0 := by omega
      exact TL.ext_tl (by
        have h0 : (TL.tl (bookT ts rs)).length = 0 := by
          show (bookT ts rs).cps.toList.length = 0
          rw [Array.length_toList]
          exact this
        rw [List.length_eq_zero_iff.mp h0]
        rfl)
    have s0 : Txt.split Str.empty "; " = [Str.empty] := by decide +kernel
    rw [e, s0] at spl
    have h0 : PS.length = 1 := by rw [← spl]; rfl
    have mem : Str.empty ∈ PS := by rw [← spl]; simp
    rw [hPS] at mem
    have bad : ∀ ws : List Str, 2 ≤ ws.length → (∀ w ∈ ws, NoSep w) → Txt.join " " ws ≠ Str.empty := by
      intro ws l h e
      have z := split_words (ws := ws) (by intro z; rw [z] at l; simp at l) h
      have s1 : Txt.split Str.empty " " = [Str.empty] := by decide +kernel
      rw [e, s1] at z
      rw [← z] at l
      simp at l
    rcases List.mem_append.mp mem with hp | hp
    · obtain ⟨t, ht, e⟩ := List.mem_map.mp hp
      exact bad _ (by unfold tabW; simp) (wo.t t ht) e
    · obtain ⟨r, hr, e⟩ := List.mem_map.mp hp
      refine bad _ ?_ (wo.r r hr) e
      obtain ⟨k, x, cs, tl, rfl, _⟩ := formed_ok (wo.f r hr)
      rw [ruleW_eq]
      split <;> simp
  refine ⟨(by show 0 ≤ sizeLine; decide), fun l1 n1 => ⟨(by show 0 ≤ sizeLine; decide), fun l2 n2 => ?_⟩⟩
  refine ⟨_, rfl, true, ⟨Nat.le_trans lB (by decide), posB.symm⟩, iteT ⟨_, rfl, ⟨_, rfl⟩, _, _, rfl, rfl, (by decide +kernel), Nat.le_trans (m := 8082) (Nat.add_le_add_right lB 2) (by decide), fun sp nsp => ?_⟩⟩
  rw [spl]
  have k1 : Off (fun _ => False) H (upd H l1 (.lst [])) := Off.new n1
  have k2 : Off (fun _ => False) (upd H l1 (.lst [])) (upd (upd H l1 (.lst [])) l2 (.lst [])) := Off.new n2
  have k3 : Off (fun _ => False) (upd (upd H l1 (.lst [])) l2 (.lst [])) (upd (upd (upd H l1 (.lst [])) l2 (.lst [])) sp (.lst (PS.map V.str))) := Off.new nsp
  have b1 := k3 _ _ (k2 _ _ upd_same no) no
  have b2 := k3 _ _ (upd_same (H := upd H l1 (.lst [])) (a := l2) (o := .lst [])) no
  have b3 := upd_same (H := upd (upd H l1 (.lst [])) l2 (.lst [])) (a := sp) (o := .lst (PS.map V.str))
  have kB := (k1.trans k2).trans k3
  have ne12 : l1 ≠ l2 := ne_of_none (upd_same (H := H) (a := l1) (o := .lst [])) n2
  have ne1s : l1 ≠ sp := ne_of_none (k2 _ _ upd_same no) nsp
  have ne2s : l2 ≠ sp := ne_of_none (upd_same (H := upd H l1 (.lst [])) (a := l2) (o := .lst [])) nsp
  have nH1 : H l1 = none := n1
  have nH2 : H l2 = none := k1.none n2 no
  generalize upd (upd (upd H l1 (.lst [])) l2 (.lst [])) sp (.lst (PS.map V.str)) = B at b1 b2 b3 kB ⊢
  have lt := bb.tb.most
  have lr := bb.lr
  refine ⟨sp, rfl, ⟨_, SqL.of b3⟩, for_list (K := K) (a := sp) (xs := PS.map V.str) (fun i σ G => ∃ w3 w4 xs ys Ft Fr, σ = [some (.str (bookT ts rs)), some (.ref l1), some (.ref l2), w3, w4] ∧ G l1 = some (.lst xs) ∧ OwAll G xs ((ts.take i).map tabD) Ft ∧ (∀ a, Ft a → B a = none) ∧
      G l2 = some (.lst ys) ∧ OwAll G ys ((rs.take (i - ts.length)).map rbD) Fr ∧ (∀ a, Fr a → B a = none) ∧ Off (fun a => a = l1 ∨ a = l2) B G)
    ⟨none, none, [], [], fun _ => False, fun _ => False, rfl, b1, by simpa using OwAll.nil fun _ z => z, fun _ z => z.elim, b2, by simpa using OwAll.nil fun _ z => z, fun _ z => z.elim, Off.refl _ _⟩ (fun i σ G _ g => ?_) (fun i x σ G hx g => ?_) fun σ G g => ?_⟩
  · obtain ⟨_, _, _, _, _, _, _, _, _, _, _, _, _, k⟩ := g
    exact SqL.of (k _ _ b3 fun z => z.elim (fun z => ne1s z.symm) fun z => ne2s z.symm)
  · obtain ⟨w3, w4, xs, ys, Ft, Fr, rfl, e1, o1, f1, e2, o2, f2, k⟩ := g
    have lx := o1.length
    have ly := o2.length
    rw [List.length_map] at lx ly
    rw [List.getElem?_map] at hx
    obtain ⟨piece, hp, rfl⟩ := Option.map_eq_some_iff.mp hx
    have pm := List.mem_of_getElem? hp
    have hi : i < PS.length := (List.getElem?_eq_some_iff.mp hp).1
    have lpiece : piece.length ≤ 200 := pl piece (hPS ▸ pm)
    have fresh : ∀ {G' : Hp}, Off (fun _ => False) G G' → ∀ a, G' a = none → B a = none := fun k' a z => by
      have z1 := k'.none z no
      cases q0 : B a with
      | none => rfl
      | some o =>
        by_cases c : a = l1 ∨ a = l2
        · rcases c with rfl | rfl
          · rw [e1] at z1; cases z1
          · rw [e2] at z1; cases z1
        · rw [k a o q0 c] at z1
          cases z1
    refine ⟨_, rfl, ⟨_, rfl⟩, _, _, rfl, rfl, (by decide +kernel), Nat.le_trans (m := 202) (Nat.add_le_add_right lpiece 2) (by decide), fun m nm => ?_⟩
    rcases Nat.lt_or_ge i ts.length with lti | gei
    · -- a table
      obtain ⟨t, et⟩ : ∃ t, ts[i]? = some t := ⟨ts[i], by simp [lti]⟩
      have epc : piece = tabT t := by
        rw [hPS, List.getElem?_append_left (by rw [List.length_map]; exact lti), List.getElem?_map, et] at hp
        exact (Option.some.inj hp).symm
      have mt := List.mem_of_getElem? et
      have bt := bb.tb.each t mt
      subst epc
      have ew : Txt.split (tabT t) " " = tabW t := split_words (by unfold tabW; simp) (wo.t t mt)
      rw [ew]
      have km : Off (fun _ => False) G (upd G m (.lst ((tabW t).map V.str))) := Off.new nm
      have em := upd_same (H := G) (a := m) (o := .lst ((tabW t).map V.str))
      generalize upd G m (.lst ((tabW t).map V.str)) = G1 at km em ⊢
      have em : G1 m = some (.lst (V.str "table" :: V.str t.1 :: t.2.map V.str)) := em
      have z0 : i - ts.length = 0 := by omega
      rw [z0] at o2 ly
      have ey : ys = [] := List.length_eq_zero_iff.mp (by simpa using ly)
      subst ey
      have e1m := km _ _ e1 no
      have e2m := km _ _ e2 no
      refine ⟨_, rfl, m, _, 0, _, rfl, rfl, SqL.of em, atI_nat (j := 0) rfl, rfl, _, rfl, ?_⟩
      rw [decide_eq_true rfl]
      refine iteF ⟨_, rfl, false, .inl ⟨[], SqL.of e2m, rfl⟩, iteF ⟨_, rfl, m, _, rfl, .inl (SqL.of em), _, _, rfl, rfl, _, rfl, ?_⟩⟩
      have l3 : ¬ (((V.str "table" :: V.str t.1 :: t.2.map V.str).length : Nat) : Int) < 3 := by
        have := bt.one
        simp
        omega
      rw [decide_eq_false l3]
      refine iteF ⟨_, rfl, .inl ⟨rfl, _, SqL.of e1m⟩, _, rfl, m, _, 1, _, rfl, rfl, SqL.of em, atI_nat (j := 1) rfl, _, rfl, _, rfl, m, _, rfl, SqL.of em, fun m2 nm2 => ⟨(by show 2 ≤ sizeLine; decide), fun p np => ?_⟩⟩
      have ec : cutV (V.str "table" :: V.str t.1 :: t.2.map V.str) (some 2) none = t.2.map V.str := by
        rw [cutV_tail (by decide)]
        rfl
      rw [ec] at np
      rw [ec]
      have k5 : Off (fun _ => False) G1 (upd G1 m2 (.lst (t.2.map V.str))) := Off.new nm2
      have k6 : Off (fun _ => False) (upd G1 m2 (.lst (t.2.map V.str))) (upd (upd G1 m2 (.lst (t.2.map V.str))) p (.tup [V.str t.1, V.ref m2])) := Off.new np
      have em2 := k6 _ _ (upd_same (H := G1) (a := m2) (o := .lst (t.2.map V.str))) no
      have fm2 : B m2 = none := fresh km m2 nm2
      have op : Ow (upd (upd G1 m2 (.lst (t.2.map V.str))) p (.tup [V.str t.1, V.ref m2])) (.ref p) (tabD t) (fun a => a = m2) :=
        .tup upd_same (owc_str (owc (.lst em2 (owAll_strs (fun _ z => z) t.2) (fun z => z) fun b => ⟨.inl, fun z => z.elim id False.elim⟩) ow0))
      have kG := (km.trans k5).trans k6
      generalize upd (upd G1 m2 (.lst (t.2.map V.str))) p (.tup [V.str t.1, V.ref m2]) = G2 at op kG ⊢
      have e1' := kG _ _ e1 no
      refine ⟨l1, _, _, rfl, rfl, e1', by rw [lx, List.length_take]; exact small1000 (by omega), ?_⟩
      have kl : Off (fun a => a = l1) G2 (upd G2 l1 (.lst (xs ++ [.ref p]))) := Off.upd rfl
      have hgl : ∀ a, a = l1 → ∃ xs, G2 a = some (.lst xs) := fun a z => ⟨xs, by rw [z]; exact e1'⟩
      have b1' : ∀ a, Ft a → ¬ a = l1 := fun a z y => by have q0 := f1 a z; rw [y, b1] at q0; cases q0
      have o1' := (o1.keep kG (fun _ z => z.elim) fun _ _ z => z)
      refine ⟨_, _, xs ++ [.ref p], [], fun a => Ft a ∨ a = m2, fun _ => False, rfl, upd_same, ?_, fun a z => z.elim (f1 a) fun y => y ▸ fm2, ?_, ?_, fun _ z => z.elim, fun a o ea na => ?_⟩
      · rw [take_snoc et, List.map_append]
        refine OwAll.snoc (o1'.keep kl hgl b1') (op.keep kl hgl fun a z y => ?_) (fun a z y => ?_) fun a => Iff.rfl
        · rw [z] at y
          rw [y, b1] at fm2
          cases fm2
        · have z1 := o1.dom a z
          obtain ⟨xs', z1⟩ := z1
          rw [y] at z1
          have := km.none nm2 no
          rw [z1] at this
          cases this
      · rw [upd_ne (fun z => ne12 z.symm)]
        exact kG _ _ e2 no
      · have z1 : i + 1 - ts.length = 0 := by omega
        rw [z1]
        simpa using OwAll.nil fun _ z => z
      · rw [upd_ne (fun z => na (.inl z))]
        exact kG _ _ (k a o ea na) no
    · -- a rule
      obtain ⟨r, er⟩ : ∃ r, rs[i - ts.length]? = some r := ⟨rs[i - ts.length]'(by omega), by rw [List.getElem?_eq_getElem]⟩
      have epc : piece = ruleT r := by
        rw [hPS, List.getElem?_append_right (by rw [List.length_map]; exact gei), List.length_map, List.getElem?_map, er] at hp
        exact (Option.some.inj hp).symm
      have mr := List.mem_of_getElem? er
      have fr := wo.f r mr
      subst epc
      obtain ⟨k0, w0, ek0, nk0⟩ := ruleW_ne fr
      have ew : Txt.split (ruleT r) " " = ruleW r := split_words (by rw [ek0]; simp) (wo.r r mr)
      rw [ew]
      have km : Off (fun _ => False) G (upd G m (.lst ((ruleW r).map V.str))) := Off.new nm
      have em := upd_same (H := G) (a := m) (o := .lst ((ruleW r).map V.str))
      generalize upd G m (.lst ((ruleW r).map V.str)) = G1 at km em ⊢
      have a0 : atI ((ruleW r).map V.str) 0 = some (V.str k0) := by
        rw [ek0]
        exact atI_nat (j := 0) rfl
      refine ⟨_, rfl, m, _, 0, _, rfl, rfl, SqL.of em, a0, rfl, _, rfl, ?_⟩
      rw [decide_eq_false (fun z => nk0 (V.str.inj z))]
      refine iteT ⟨_, rfl, .inl ⟨rfl, _, SqL.of (km _ _ e2 no)⟩, _, rfl, m, r, rfl, SqL.of em, bb.rb r mr, fr, fun p Fp G2 op fp k5 => ?_⟩
      have kG := km.trans k5
      have e2' := kG _ _ e2 no
      refine ⟨l2, _, _, rfl, rfl, e2', by rw [ly, List.length_take]; exact small1000 (by omega), ?_⟩
      have kl : Off (fun a => a = l2) G2 (upd G2 l2 (.lst (ys ++ [.ref p]))) := Off.upd rfl
      have hgl : ∀ a, a = l2 → ∃ xs, G2 a = some (.lst xs) := fun a z => ⟨ys, by rw [z]; exact e2'⟩
      have b1' : ∀ a, Ft a → ¬ a = l2 := fun a z y => by have q0 := f1 a z; rw [y, b2] at q0; cases q0
      have b2' : ∀ a, Fr a → ¬ a = l2 := fun a z y => by have q0 := f2 a z; rw [y, b2] at q0; cases q0
      have o1' := (o1.keep kG (fun _ z => z.elim) fun _ _ z => z)
      have o2' := (o2.keep kG (fun _ z => z.elim) fun _ _ z => z)
      refine ⟨_, _, xs, ys ++ [.ref p], Ft, fun a => Fr a ∨ Fp a, rfl, ?_, ?_, f1, upd_same, ?_, fun a z => z.elim (f2 a) fun y => fresh km a (fp a y), fun a o ea na => ?_⟩
      · rw [upd_ne ne12]
        exact kG _ _ e1 no
      · have z1 : ts.take (i + 1) = ts.take i := by rw [List.take_of_length_le (by omega), List.take_of_length_le (by omega)]
        rw [z1]
        exact o1'.keep kl hgl b1'
      · have z1 : i + 1 - ts.length = (i - ts.length) + 1 := by omega
        rw [z1, take_snoc er, List.map_append]
        refine OwAll.snoc (o2'.keep kl hgl b2') (op.keep kl hgl fun a z y => ?_) (fun a z y => ?_) fun a => Iff.rfl
        · have := fp a z
          rw [y, km _ _ e2 no] at this
          cases this
        · obtain ⟨xs', z1⟩ := o2.dom a z
          have := fp a y
          rw [km _ _ z1 no] at this
          cases this
      · rw [upd_ne (fun z => na (.inr z))]
        exact kG _ _ (k a o ea na) no
  · obtain ⟨w3, w4, xs, ys, Ft, Fr, rfl, e1, o1, f1, e2, o2, f2, k⟩ := g
    have l0 : (PS.map V.str).length = ts.length + rs.length := by rw [List.length_map, lP]
    rw [l0, List.take_of_length_le (by omega)] at o1
    rw [l0, List.take_of_length_le (by omega)] at o2
    refine ⟨_, rfl, _, rfl, (by show 2 ≤ sizeLine; decide), fun t nt => ?_⟩
    have kt : Off (fun _ => False) G (upd G t (.tup [.ref l1, .ref l2])) := Off.new nt
    refine q l1 l2 t _ (.lst (SqL.of (kt _ _ e1 no)) (dpAll_off kt o1.dp)) (.lst (SqL.of (kt _ _ e2 no)) (dpAll_off kt o2.dp)) (SqT.of upd_same) fun a o ea _ => ?_
    refine kt a o (k a o (kB a o ea no) fun z => ?_) no
    rcases z with rfl | rfl
    · rw [nH1] at ea
      cases ea
    · rw [nH2] at ea
      cases ea
end
end LW
set_option Elab.async false
set_option linter.all false
set_option maxRecDepth 100000
set_option maxHeartbeats 0
/-! readings.py: read_book, of the text of a book -/
namespace LW
open PySem PySem.Spec PyProof.Rows L2 KV
def spRead (K : PySem.W.Frag) : Sp := fun vs H Q _ => ∃ (ts : List Tab) (rs : List RB), vs = [.str (bookT ts rs)] ∧ BkB 8 10 10 8 12 30 ts rs ∧ WordsOk ts rs ∧ 1 ≤ ts.length ∧ wrongBook ts rs = none ∧
  ∀ x H' F, BookOw K H' x ts rs F → (∀ a, F a → H a = none) → H x = none → Off (fun _ => False) H H' → Q (.ref x) H'
section
variable {P : Program} {w : World} {K : PySem.W.Frag} {mg : Str → Option Value} {base : Heap}
theorem scRead : FnScope ["text", "tables", "rules"] ["text"] (defScope pReadBook) := ⟨rfl, rfl, rfl, by decide +kernel, rfl, by decide +kernel, by decide +kernel⟩
theorem ok_read {f fT : Addr} {fd dT dB : FuncData} (F : FnP K "read_book" pReadBook f fd) (B : BookT K mg) (GT : FnOk P w K mg base (L2.CX P w) 4 fT dT ["text"] (spTR K)) (bT : Binds K dT ["text"] []) (mT : mg "tables_and_rules" = some (.ref fT)) (kT : PySem.W.keepIn K (.ref fT) = true)
    (GB : FnOk P w K mg base (L2.CX P w) 8 (He.ma K (He.ga K "Book") "__init__") dB ["self", "tables", "rules"] (spBook K)) (bB : Binds K dB ["self", "tables", "rules"] []) (gE : mg "KeyTellError" = some (.ref (He.ga K "KeyTellError"))) :
    FnOk P w K mg base CX0 10 f fd ["text"] (spRead K) := by
  refine F.ok scRead (fun vs H Q E h => ?_) (fun cdv A outer s H vs Q E hr h => ?_)
  · obtain ⟨ts, rs, rfl, _⟩ := h
    rfl
  obtain ⟨ts, rs, rfl, bb, wo, one, nw, q⟩ := h
  refine ⟨_, PSs.nox (pss_one (ps_try_only rfl rfl ⟨rfl, by decide, .inl gE⟩ takes0 (fun W pn xe tk _ =>
      pss_cons (ps_asg (pe_callS GT (hr.mono (by decide)) rfl mT kT bT (fun σ => passAt tk σ) (pa_cons (pv 0) pa_nil)) (show PG _ _ (gTup K 2 (gCons (gName 1) (gCons (gName 2) gNil))) from pg_tup rfl (pgs_cons (pg_name (i := 1) scRead.nd rfl (Or.inl rfl)) (pgs_cons (pg_name (i := 2) scRead.nd rfl (Or.inl rfl)) pgs_nil))))
      (pss_one (ps_ret (pe_makeS B.mkr GB hr rfl B.g bB (fun σ => passAt tk σ) (pa_cons (pv 1) (pa_cons (pv 2) pa_nil))))))
    (fun a oe cls d pn _ _ => pss_one ps_never))), ?_⟩
  have no : ¬ False := id
  refine ⟨_, rfl, ts, rs, rfl, bb, wo, one, fun a b t H1 da db sq k1 => ?_⟩
  refine ⟨t, [.ref a, .ref b], rfl, sq, rfl, .ref a, [.ref b], rfl, .ref b, [], rfl, rfl, ?_⟩
  refine ⟨_, rfl, _, rfl, made_of da db bb ?_⟩
  rw [nw]
  exact fun x H' F' bo fr nx k => q x H' F' bo (fun a z => k1.none (fr a z) no) (k1.none nx no) (k1.trans k)
end
end LW
set_option Elab.async false
set_option linter.all false
set_option maxRecDepth 100000
set_option maxHeartbeats 0
/-! _law_road -/
namespace LW
open PySem PySem.Spec PyProof.Rows L2 KV
/-- a def that stands and may raise -/
structure DnX (P : Program) (w : World) (K : PySem.W.Frag) (mg : Str → Option Value) (base : Heap) (k : Nat) (ps : List Str) (sp : Sp) (f : Addr) (fd : FuncData) : Prop where
  g : FnOk P w K mg base (L2.CX P w) k f fd ps sp
  b : Binds K fd ps []
def EN : XK := fun _ _ _ => False
theorem passN {X : Cx} : Passes (L2.CX X.prog X.w) X EN := fun _ _ _ _ _ _ _ c => by
  obtain ⟨_, _, _, _, _, _, _, _, _, _, _, _, z⟩ := c
  exact z.elim
/-- rules that hold for the tables: with a form, of known columns -/
def RbS (ts : List Tab) (r : RB) : Prop := ∃ k x cs tl t, r = ([k, x], some (cs, tl)) ∧ ((k = "key" ∧ tl.length = 0) ∨ (k = "settles" ∧ tl.length = 1)) ∧ tabOf ts x = some t ∧ ∀ c ∈ cs ++ tl, c ∈ t.2
theorem RbS.form {ts : List Tab} {r : RB} (h : RbS ts r) : formed r = true := by
  obtain ⟨k, x, cs, tl, t, rfl, f, _⟩ := h
  exact decide_eq_true f
theorem RbS.right {ts : List Tab} {r : RB} (h : RbS ts r) : wrong1 ts r = none := by
  obtain ⟨k, x, cs, tl, t, rfl, f, e, hc⟩ := h
  rw [wrong1_yes f, e]
  dsimp only
  have z : (cs ++ tl).find? (fun c => !decide (c ∈ t.2)) = none := by
    rw [List.find?_eq_none]
    intro c h
    simp [hc c h]
  rw [z]
theorem wrongs_none {ts : List Tab} : ∀ {rs : List RB}, (∀ r ∈ rs, RbS ts r) → wrongs ts rs = none
  | [], _ => by rw [wrongs]
  | r :: rs, h => by
    rw [wrongs, (h r List.mem_cons_self).right]
    exact wrongs_none fun x hx => h x (List.mem_cons_of_mem _ hx)
theorem isT_of {x : Str} (h : Title x) : isT x = true := isT_title.mpr h
theorem wrongCols_none : ∀ {cs b : List Str}, (∀ x ∈ cs, Title x) → cs.Nodup → (∀ x ∈ cs, x ∉ b) → wrongCols b cs = none
  | [], b, _, _, _ => by rw [wrongCols]
  | c :: cs, b, h, nd, n => by
    obtain ⟨n1, n2⟩ := List.nodup_cons.mp nd
    rw [wrongCols_next (isT_of (h c List.mem_cons_self)) (n c List.mem_cons_self)]
    refine wrongCols_none (fun x hx => h x (List.mem_cons_of_mem _ hx)) n2 fun x hx z => ?_
    rcases List.mem_append.mp z with z | z
    · exact n x (List.mem_cons_of_mem _ hx) z
    · rw [List.mem_singleton.mp z] at hx
      exact n1 hx
theorem wrongTabs_none {mc : Nat} : ∀ {ts : List Tab} {b : List Str}, (∀ t ∈ ts, TabOk mc t) → (ts.map Prod.fst).Nodup → (∀ t ∈ ts, t.1 ∉ b) → wrongTabs b ts = none
  | [], b, _, _, _ => by rw [wrongTabs]
  | t :: ts, b, h, nd, n => by
    obtain ⟨n1, n2⟩ := List.nodup_cons.mp (show (t.1 :: ts.map Prod.fst).Nodup from nd)
    have ht := h t List.mem_cons_self
    rw [wrongTabs_next (isT_of ht.name) (n t List.mem_cons_self) (wrongCols_none ht.good ht.nd fun _ _ z => by simp at z)]
    refine wrongTabs_none (fun x hx => h x (List.mem_cons_of_mem _ hx)) n2 fun x hx z => ?_
    rcases List.mem_append.mp z with z | z
    · exact n x (List.mem_cons_of_mem _ hx) z
    · exact n1 (List.mem_map.mpr ⟨x, hx, List.mem_singleton.mp z⟩)
theorem wrongBook_none {mt mc : Nat} {ts : List Tab} {rs : List RB} (h : TabsOk mt mc ts) (hr : ∀ r ∈ rs, RbS ts r) : wrongBook ts rs = none := by
  unfold wrongBook
  rw [wrongTabs_none h.each h.nd fun _ _ z => by simp at z]
  exact wrongs_none hr
theorem wordsOk_of {mt mc : Nat} {ts : List Tab} {rs : List RB} (h : TabsOk mt mc ts) (hr : ∀ r ∈ rs, RbS ts r) : WordsOk ts rs := by
  have n1 : NoSep "table" := noSepB_ok (by decide +kernel)
  have n2 : NoSep ">" := noSepB_ok (by decide +kernel)
  have n3 : NoSep "key" := noSepB_ok (by decide +kernel)
  have n4 : NoSep "settles" := noSepB_ok (by decide +kernel)
  refine ⟨fun t ht y hy => ?_, fun r h0 y hy => ?_, fun r h0 => (hr r h0).form⟩
  · have tb := h.each t ht
    unfold tabW at hy
    rcases List.mem_cons.mp hy with rfl | hy
    · exact n1
    · rcases List.mem_cons.mp hy with rfl | hy
      · exact tb.name.noSep
      · exact (tb.good y hy).noSep
  · obtain ⟨k, x, cs, tl, t, rfl, f, e, hc⟩ := hr r h0
    have mt := List.mem_of_find?_eq_some e
    have tb := h.each t mt
    have ex : t.1 = x := by
      unfold tabOf at e
      have e0 := List.find?_some e
      exact of_decide_eq_true e0
    have gk : NoSep k := by
      rcases f with ⟨z, _⟩ | ⟨z, _⟩ <;> rw [z] <;> assumption
    have gx : NoSep x := ex ▸ tb.name.noSep
    have gc : ∀ c ∈ cs ++ tl, NoSep c := fun c h => (tb.good c (hc c h)).noSep
    rw [ruleW_eq] at hy
    split at hy
    · rcases List.mem_append.mp hy with hy | hy
      · rcases List.mem_cons.mp hy with rfl | hy
        · exact gk
        · rcases List.mem_cons.mp hy with rfl | hy
          · exact gx
          · exact gc y (List.mem_append_left _ hy)
      · rcases List.mem_cons.mp hy with rfl | hy
        · exact n2
        · exact gc y (List.mem_append_right _ hy)
    · rcases List.mem_cons.mp hy with rfl | hy
      · exact gk
      · rcases List.mem_cons.mp hy with rfl | hy
        · exact gx
        · exact gc y (List.mem_append_left _ hy)
theorem owAll_cut {H : Hp} : ∀ {xs : List V} {ds : List PyData} {F : Fp} (n : Nat), OwAll H xs ds F → ∃ F1 F2, OwAll H (xs.take n) (ds.take n) F1 ∧ OwAll H (xs.drop n) (ds.drop n) F2 ∧ (∀ a, F a ↔ F1 a ∨ F2 a) ∧ ∀ a, F1 a → ¬ F2 a
  | _, _, F, n, .nil e => ⟨fun _ => False, fun _ => False, by simpa using OwAll.nil fun _ z => z, by simpa using OwAll.nil fun _ z => z, fun a => ⟨fun z => (e a z).elim, fun z => z.elim False.elim False.elim⟩, fun _ z => z.elim⟩
  | _, _, F, 0, .cons h r d e => ⟨fun _ => False, F, by simpa using OwAll.nil fun _ z => z, .cons h r d e, fun a => ⟨.inr, fun z => z.elim False.elim id⟩, fun _ z => z.elim⟩
  | _, _, F, n + 1, .cons (F := F1) (G := G1) h r d e => by
    obtain ⟨A, B, h1, h2, h3, h4⟩ := owAll_cut n r
    refine ⟨fun a => F1 a ∨ A a, B, .cons h h1 (fun a z y => d a z ((h3 a).mpr (.inl y))) fun _ => Iff.rfl, h2, fun a => ?_, fun a z y => ?_⟩
    · rw [e a, h3 a]
      exact ⟨fun z => z.elim (fun z => .inl (.inl z)) fun z => z.elim (fun z => .inl (.inr z)) .inr, fun z => z.elim (fun z => z.elim .inl fun z => .inr (.inl z)) fun z => .inr (.inr z)⟩
    · rcases z with z | z
      · exact d a z ((h3 a).mpr (.inr y))
      · exact h4 a z y
theorem owAll_app {H : Hp} : ∀ {xs ys : List V} {ds es : List PyData} {F G : Fp}, OwAll H xs ds F → OwAll H ys es G → (∀ a, F a → ¬ G a) → OwAll H (xs ++ ys) (ds ++ es) (fun a => F a ∨ G a)
  | _, _, _, _, F, G, .nil e, h, d => h.congr fun a => ⟨fun z => z.elim (fun z => (e a z).elim) id, .inr⟩
  | _, _, _, _, F, G, .cons (F := F1) (G := G1) h r d0 e, h2, d => by
    refine .cons (G := fun a => G1 a ∨ G a) h (owAll_app r h2 fun a z => d a ((e a).mpr (.inr z))) (fun a z y => ?_) fun a => ?_
    · rcases y with y | y
      · exact d0 a z y
      · exact d a ((e a).mpr (.inl z)) y
    · constructor
      · rintro (z | z)
        · exact ((e a).mp z).elim .inl fun z => .inr (.inl z)
        · exact .inr (.inr z)
      · rintro (z | z | z)
        · exact .inl ((e a).mpr (.inl z))
        · exact .inl ((e a).mpr (.inr z))
        · exact .inr z
theorem tabOf_nd {ts : List Tab} {t : Tab} (nd : (ts.map Prod.fst).Nodup) (h : t ∈ ts) : tabOf ts t.1 = some t := by
  induction ts with
  | nil => simp at h
  | cons u us ih =>
    obtain ⟨n1, n2⟩ := List.nodup_cons.mp (show (u.1 :: us.map Prod.fst).Nodup from nd)
    rcases List.mem_cons.mp h with rfl | h
    · exact tabOf_cons_yes rfl
    · rw [tabOf_cons_no fun z => n1 (List.mem_map.mpr ⟨t, h, z.symm⟩)]
      exact ih n2 h
theorem look_none {f : Str} (v1 v2 : V) (h1 : (f == ("_tables" : Str)) = false) (h2 : (f == ("_rules" : Str)) = false) : List.lookup f [(("_tables" : Str), v1), (("_rules" : Str), v2)] = none := by
  simp [List.lookup, h1, h2]
/-- Book(v, w) of sound tables and rules, at a known place -/
theorem made_at {K : PySem.W.Frag} {H : Hp} {v w : V} {C : V → Hp → Prop} {E : XK} {ts : List Tab} {rs : List RB} {n mc mt N M L : Nat} {x dx : Addr} (dv : Dp K H v (tabsD ts)) (dw : Dp K H w (rbsD rs)) (bb : BkB n mc mt N M L ts rs) (nw : wrongBook ts rs = none)
    (nx : H x = none) (ndx : H dx = none) (nex : dx ≠ x) (q : ∀ H' F, BookOw K H' x ts rs F → (∀ a, F a → H a = none) → Off (fun _ => False) H H' → C .non H') :
    spBook K [.ref x, v, w] (upd (upd H dx (.own x)) x (.ins (He.ga K "Book") dx [])) C E := by
  have no : ¬ False := id
  have kM : Off (fun _ => False) H (upd (upd H dx (.own x)) x (.ins (He.ga K "Book") dx [])) := (Off.new ndx).trans (Off.new (by rw [upd_ne (Ne.symm nex)]; exact nx))
  have nM : ∀ a, upd (upd H dx (.own x)) x (.ins (He.ga K "Book") dx []) a = none → H a = none := fun a z => kM.none z no
  refine ⟨x, dx, v, w, ts, rs, n, mc, mt, N, M, L, rfl, upd_same, dp_off kM dv, dp_off kM dw, bb, ?_⟩
  generalize upd (upd H dx (.own x)) x (.ins (He.ga K "Book") dx []) = HM at kM nM ⊢
  rw [nw]
  exact fun H' F bo fr k => q H' F bo (fun a z => nM a (fr a z)) fun b o eb nb => k _ _ (kM b o eb nb) fun z => by
    rw [z, nx] at eb
    cases eb
/-- what stands where a book was made -/
def RoadEnd (K : PySem.W.Frag) (H : Hp) (p : Addr) (c : Nat) (ts : List Tab) (rs : List RB) (G : Hp) (x : Addr) (vg vk : V) : Prop := ∃ (Fg Fk Fb : Fp) (dk : PyData) (c' : Nat), Ow G vg (tabsD ts) Fg ∧ Ow G vk dk Fk ∧ Fit 8 [22, 5, 12] dk ∧ BookOw K G x ts rs Fb ∧
  (∀ a, Fb a → ¬ Fg a) ∧ (∀ a, Fb a → ¬ Fk a) ∧ (∀ a, Fg a → ¬ Fk a) ∧ (∀ a, Fg a → H a = none) ∧ (∀ a, Fk a → H a = none) ∧ (∀ a, Fb a → H a = none) ∧ H x = none ∧ Pu G p c' ∧ c' ≤ c + 3 ∧ Off (fun a => a = p) H G
theorem offN {H G G' : Hp} {p : Addr} {F : Fp} (k : Off (fun a => a = p) H G) (k' : Off F G G') (f : ∀ a, F a → H a = none) : Off (fun a => a = p) H G' := fun a o e n => k' a o (k a o e n) fun z => by
  rw [f a z] at e
  cases e
theorem road_end {K : PySem.W.Frag} {H G : Hp} {p x : Addr} {c : Nat} {ts : List Tab} {rs : List RB} {v w vg vk a3 a6 : V} {w7 w8 : Option V} {Q : VK} (re : RoadEnd K H p c ts rs G x vg vk) (fitT : Fit 8 [6, 2, 8] (tabsD ts)) (pl : ∃ xs, H p = some (.lst xs))
    (q : ∀ x H' F c', BookOw K H' x ts rs F → (∀ a, F a → H a = none) → H x = none → Pu H' p c' → c' ≤ c + 10 → Off (fun a => a = p) H H' → Q (.ref x) H') :
    tSeq (tDrop (tCall (spMuddle 6) [] E0 (tCons (tVar 4) tNil))) (tSeq (tDrop (tCall (spMuddle 6) [] E0 (tCons (tVar 5) tNil))) (tRet (tVar 9))) { nx := fun _ H' => Q .non H', rt := Q }
      [some (.ref p), some v, some w, some a3, some vg, some vk, some a6, w7, w8, some (.ref x)] G := by
  obtain ⟨Fg, Fk, Fb, dk, c', og, ok, fk, bo, d1, d2, d3, gH, kH, bH, nx, hp, hc, k⟩ := re
  have np : ∀ {F : Fp}, (∀ a, F a → H a = none) → ¬ F p := fun f z => by
    obtain ⟨xs, e⟩ := pl
    rw [f p z] at e
    cases e
  refine ⟨_, rfl, vg, tabsD ts, Fg, 8, [6, 2, 8], rfl, og, fitT, by decide, by decide, fun G1 _ k1 => ?_⟩
  have ok1 := ok.keep k1 og.dom fun a z y => d3 a y z
  have bo1 := bo.keep k1 og.dom d1
  have hp1 := hp.off k1 (np gH)
  refine ⟨_, rfl, vk, dk, Fk, 8, [22, 5, 12], rfl, ok1, fk, by decide, by decide, fun G2 _ k2 => ?_⟩
  exact ⟨_, rfl, q x G2 Fb c' (bo1.keep k2 ok1.dom d2) bH nx (hp1.off k2 (np kH)) (by omega) (offN (offN k k1 gH) k2 kH)⟩
theorem road_tail {K : PySem.W.Frag} {H G : Hp} {p x : Addr} {c n mc mt N M L : Nat} {ts : List Tab} {rs : List RB} {v w vg vk a6 : V} {way : Int} {w7 w8 : Option V} {Q : VK} (re : RoadEnd K H p c ts rs G x vg vk) (bb : BkB n mc mt N M L ts rs) (fitT : Fit 8 [6, 2, 8] (tabsD ts)) (fitR : Fit 8 [21, 5, 12] (rbsD rs)) (pl : ∃ xs, H p = some (.lst xs))
    (q : ∀ x H' F c', BookOw K H' x ts rs F → (∀ a, F a → H a = none) → H x = none → Pu H' p c' → c' ≤ c + 10 → Off (fun a => a = p) H H' → Q (.ref x) H') :
    tSeq (tIfS (tTest (tOp rEq (tVar 3) (tC (.int 4)))) (tSeq (tDrop (tCall (spMuddle 6) [] E0 (tCons (tProp (He.ga K "Book") (spGetT K) [] E0 (tVar 9)) tNil))) (tDrop (tCall (spMuddle 6) [] E0 (tCons (tProp (He.ga K "Book") (spGetR K) [] E0 (tVar 9)) tNil)))) tNext)
      (tSeq (tDrop (tCall (spMuddle 6) [] E0 (tCons (tVar 4) tNil))) (tSeq (tDrop (tCall (spMuddle 6) [] E0 (tCons (tVar 5) tNil))) (tRet (tVar 9)))) { nx := fun _ H' => Q .non H', rt := Q }
      [some (.ref p), some v, some w, some (.int way), some vg, some vk, some a6, w7, w8, some (.ref x)] G := by
  refine ⟨_, rfl, rfl, _, rfl, ite2 (fun _ => ?_) (fun _ => road_end re fitT pl q)⟩
  obtain ⟨Fg, Fk, Fb, dk, c', og, ok, fk, bo, d1, d2, d3, gH, kH, bH, nx, hp, hc, k⟩ := id re
  have np : ∀ {F : Fp}, (∀ a, F a → G a = none) → ¬ F p := fun f z => by
    obtain ⟨xs, e⟩ := hp.lst
    rw [f p z] at e
    cases e
  have gH' : ∀ a, G a = none → H a = none := fun a z => by
    cases q0 : H a with
    | none => rfl
    | some o =>
      by_cases y : a = p
      · obtain ⟨xs, e⟩ := hp.lst
        rw [y, e] at z
        cases z
      · rw [k a o q0 y] at z
        cases z
  obtain ⟨dx, y1, y2, hx, _, _⟩ := id bo.of
  refine ⟨_, rfl, x, dx, _, rfl, hx, x, ts, rs, n, mc, mt, N, M, L, rfl, bo.of, bb, fun v1 F1 G1 o1 f1 k1 => ?_⟩
  refine ⟨v1, tabsD ts, F1, 8, [6, 2, 8], rfl, o1, fitT, by decide, by decide, fun G2 _ k2 => ?_⟩
  have k12 : Off (fun _ => False) G G2 := fun a o e _ => k2 a o (k1 a o e id) fun z => by
    rw [f1 a z] at e
    cases e
  have bo2 := bo.off k12
  refine ⟨_, rfl, x, dx, _, rfl, k12 _ _ hx id, x, ts, rs, n, mc, mt, N, M, L, rfl, bo2.of, bb, fun v3 F3 G3 o3 f3 k3 => ?_⟩
  refine ⟨v3, rbsD rs, F3, 8, [21, 5, 12], rfl, o3, fitR, by decide, by decide, fun G4 _ k4 => ?_⟩
  have k34 : Off (fun _ => False) G2 G4 := fun a o e _ => k4 a o (k3 a o e id) fun z => by
    rw [f3 a z] at e
    cases e
  have k14 := k12.trans k34
  exact road_end ⟨Fg, Fk, Fb, dk, c', og.keep k14 (fun _ z => z.elim) fun _ _ z => z, ok.keep k14 (fun _ z => z.elim) fun _ _ z => z, fk, bo.off k14, d1, d2, d3, gH, kH, bH, nx, hp.off k14 id, hc, k.trans (k14.mono fun _ z => z.elim)⟩ fitT pl q
def spRoad (K : PySem.W.Frag) : Sp := fun vs H Q _ => ∃ (p : Addr) (v w : V) (ts : List Tab) (rs : List RB) (mt mc c : Nat), vs = [.ref p, v, w] ∧ Dp K H v (tabsD ts) ∧ TabsOk mt mc ts ∧ mt ≤ 6 ∧ mc ≤ 8 ∧ Dp K H w (rbsD rs) ∧ (∀ r ∈ rs, RbS ts r) ∧ (∀ r ∈ rs, RbOk 8 12 r) ∧ rs.length ≤ 20 ∧
  Pu H p c ∧ c + 10 ≤ 1000000000 ∧ ∀ x H' F c', BookOw K H' x ts rs F → (∀ a, F a → H a = none) → H x = none → Pu H' p c' → c' ≤ c + 10 → Off (fun a => a = p) H H' → Q (.ref x) H'
section
variable {P : Program} {w : World} {K : PySem.W.Frag} {mg : Str → Option Value} {base : Heap}
theorem scRoad : FnScope ["purse", "tables_here", "rules_here", "way", "given", "kept", "spot", "title", "known", "made"] ["purse", "tables_here", "rules_here"] (defScope sRoad) := ⟨rfl, rfl, rfl, by decide +kernel, rfl, by decide +kernel, by decide +kernel⟩
theorem ok_road {f fC fD fM fSh fRe fWi fWo pT gT pR gR : Addr} {fd dC dD dM dSh dRe dWi dWo dB dgT dgR : FuncData} {g : List Value → List Value → List Value} (F : FnP K "_law_road" sRoad f fd) (B : BookT K mg)
    (C : Dn P w K mg base 1 "_law_coin" ["purse", "many"] spCoin fC dC) (D : Dn P w K mg base 6 "_law_copied" ["thing"] (spCopied K 6) fD dD) (M : Dn P w K mg base 6 "_law_muddle" ["thing"] (spMuddle 6) fM dM)
    (S : Dn P w K mg base 9 "show_book" ["book"] (spShow K) fSh dSh) (R : Dn P w K mg base 10 "read_book" ["text"] (spRead K) fRe dRe)
    (GB : DnX P w K mg base 8 ["self", "tables", "rules"] (spBook K) (He.ma K (He.ga K "Book") "__init__") dB) (kB : KBn K dB ["self", "tables", "rules"] 1 ["tables", "rules"] g (fun us zs => us ++ zs))
    (mWi : Meth K (He.ga K "Book") "with_rules" fWi) (GWi : DnX P w K mg base 10 ["self", "more"] (spWith K) fWi dWi) (mWo : Meth K (He.ga K "Book") "without" fWo) (GWo : DnX P w K mg base 10 ["self", "index"] (spWithout K) fWo dWo)
    (pt : PropOf K (He.ga K "Book") "tables" pT gT) (GT : FnOk P w K mg base CX0 7 gT dgT ["self"] (spGetT K)) (bT : Binds K dgT ["self"] [])
    (pr : PropOf K (He.ga K "Book") "rules" pR gR) (GR : FnOk P w K mg base CX0 7 gR dgR ["self"] (spGetR K)) (bR : Binds K dgR ["self"] []) (ml : mg "len" = none) (mL : mg "list" = none) :
    FnOk P w K mg base CX0 11 f fd ["purse", "tables_here", "rules_here"] (spRoad K) := by
  refine F.ok scRoad (fun vs H Q E h => ?_) (fun cdv A outer s H vs Q E hr h => ?_)
  · obtain ⟨p, v, w, ts, rs, mt, mc, c, rfl, _⟩ := h
    rfl
  obtain ⟨p, v, w, ts, rs, mt, mc, c, rfl, hv, tk, hmt, hmc, hw, hrs, hrb, lr, hp, hc, q⟩ := h
  refine ⟨_, PSs.nox (pss_cons (ps_par3 (i := 3) (j := 4) (l := 5) rfl scRoad.nd rfl rfl rfl (by decide) (by decide) (by decide) rfl rfl rfl (pa_cons (pe_call C.g (hr.mono (by decide)) rfl C.m C.kp C.b .nil pass0 (pa_cons (pv 0) (pa_cons pe_int pa_nil)))
        (pa_cons (pe_call D.g (hr.mono (by decide)) rfl D.m D.kp D.b .nil pass0 (pa_cons (pv 1) pa_nil)) (pa_cons (pe_call D.g (hr.mono (by decide)) rfl D.m D.kp D.b .nil pass0 (pa_cons (pv 2) pa_nil)) pa_nil))) rfl)
    (pss_cons (ps_set (i := 6) scRoad.nd rfl (Or.inl rfl) (pe_call C.g (hr.mono (by decide)) rfl C.m C.kp C.b .nil pass0 (pa_cons (pv 0) (pa_cons (pe_op op_add (pe_callB call_len_seq rfl ml boot_len (pa_cons (pv 5) pa_nil)) pe_int) pa_nil))))
    (pss_cons (ps_if (PW.pt (pw_and (pt_cmpR op_eq (pv 3) pe_int (nomark _)) (pw_and1 (pt_cmpR op_lt (pe_callB call_len_seq rfl ml boot_len (pa_cons (pv 5) pa_nil)) pe_int (nomark _)))))
        (pss_cons (ps_asg (pe_ix ix_list (pv 1) (pe_call C.g (hr.mono (by decide)) rfl C.m C.kp C.b .nil pass0 (pa_cons (pv 0) (pa_cons (pe_callB call_len_seq rfl ml boot_len (pa_cons (pv 1) pa_nil)) pa_nil))) (fun _ _ => rfl))
            (pg_tup rfl (pgs_cons (pg_name (i := 7) scRoad.nd rfl (Or.inl rfl)) (pgs_cons (pg_name (i := 8) scRoad.nd rfl (Or.inl rfl)) pgs_nil))))
        (pss_cons (ps_set (i := 5) scRoad.nd rfl (Or.inl rfl) (pe_op op_catS (pe_op op_catS (pe_slice sl_list (pv 5) po_none (po_some (pv 6))) (pe_lst (pa_cons (pe_tup (pa_cons pe_str (pa_cons (pv 7) (pa_cons (pe_callTy call_list_of rfl mL boot_list (pa_cons (pv 8) pa_nil)) pa_nil)))) pa_nil))) (pe_slice sl_list (pv 5) (po_some (pv 6)) po_none)))
        (pss_one (ps_set (i := 9) scRoad.nd rfl (Or.inl rfl) (pe_meth (pe_make B.mkr GB.g (hr.mono (by decide)) rfl B.g GB.b .nil passN (pa_cons (pv 4) (pa_cons (pv 5) pa_nil))) B.cl mWo GWo.g hr GWo.b .nil passN (pa_cons (pv 6) pa_nil))))))
        (pss_one (ps_if (pt_cmpR op_eq (pv 3) pe_int (nomark _))
          (pss_one (ps_set (i := 9) scRoad.nd rfl (Or.inl rfl) (pe_meth (pe_make B.mkr GB.g (hr.mono (by decide)) rfl B.g GB.b .nil passN (pa_cons (pv 4) (pa_cons (pe_slice sl_list (pv 5) po_none (po_some (pv 6))) pa_nil))) B.cl mWi GWi.g hr GWi.b .nil passN (pa_cons (pe_slice sl_list (pv 5) (po_some (pv 6)) po_none) pa_nil))))
          (pss_one (ps_if (pt_cmpR op_eq (pv 3) pe_int (nomark _))
            (pss_one (ps_set (i := 9) scRoad.nd rfl (Or.inl rfl) (pe_call R.g hr rfl R.m R.kp R.b .nil pass0 (pa_cons (pe_call S.g (hr.mono (by decide)) rfl S.m S.kp S.b .nil pass0 (pa_cons (pe_make B.mkr GB.g (hr.mono (by decide)) rfl B.g GB.b .nil passN (pa_cons (pv 4) (pa_cons (pv 5) pa_nil))) pa_nil)) pa_nil))))
            (pss_one (ps_set (i := 9) scRoad.nd rfl (Or.inl rfl) (pe_makeK0 B.mkr GB.g (hr.mono (by decide)) rfl B.g kB passN (pk_cons (pv 4) (pk_cons (pv 5) pk_nil))))))))))
    (pss_cons (ps_if (pt_cmpR op_eq (pv 3) pe_int (nomark _))
        (pss_cons (ps_expr (pe_call M.g (hr.mono (by decide)) rfl M.m M.kp M.b .nil pass0 (pa_cons (pe_prop (pv 9) B.cl pt GT (hr.mono (by decide)) bT .nil pass0 rfl) pa_nil)))
        (pss_one (ps_expr (pe_call M.g (hr.mono (by decide)) rfl M.m M.kp M.b .nil pass0 (pa_cons (pe_prop (pv 9) B.cl pr GR (hr.mono (by decide)) bR .nil pass0 rfl) pa_nil))))) pss_nil)
    (pss_cons (ps_expr (pe_call M.g (hr.mono (by decide)) rfl M.m M.kp M.b .nil pass0 (pa_cons (pv 4) pa_nil)))
    (pss_cons (ps_expr (pe_call M.g (hr.mono (by decide)) rfl M.m M.kp M.b .nil pass0 (pa_cons (pv 5) pa_nil)))
    (pss_one (ps_ret (pv 9))))))))), ?_⟩
  have no : ¬ False := id
  have tb : TabsB 8 8 6 ts := by
    have b := tk.b
    exact ⟨b.one, Nat.le_trans b.most hmt, fun t ht => (b.each t ht).mono (Nat.le_refl _) hmc⟩
  have bb : BkB 8 8 6 8 12 21 ts rs := ⟨tb.w, hrb, by decide, by decide, by decide, by decide, by omega, by decide⟩
  have nw := wrongBook_none tk hrs
  have fitT : Fit 8 [6, 2, 8] (tabsD ts) := fit_tabs tb
  have fitR : Fit 8 [21, 5, 12] (rbsD rs) := fit_rbs (Nat.le_trans lr (by decide)) hrb
  refine ⟨_, rfl, p, 6, c, rfl, hp, by omega, by decide, by decide, fun way H1 w0 w1 hp1 b1 => ?_⟩
  have k1 := b1.off
  have dv1 := dp_but k1 hp hv (noInt_tabs ts)
  have dw1 := dp_but k1 hp hw (noInt_rbs rs)
  refine ⟨_, rfl, v, tabsD ts, 8, [6, 2, 8], rfl, dv1, fitT, by decide, by decide, fun vg Fg H2 og fg k2 => ?_⟩
  refine ⟨_, rfl, w, rbsD rs, 8, [21, 5, 12], rfl, dp_off k2 dw1, fitR, by decide, by decide, fun vk Fk H3 ok fk k3 => ⟨_, _, _, rfl, ?_⟩⟩
  obtain ⟨ak, xk, F0, rfl, hk3, rk3, n0, e0⟩ : ∃ ak xk F0, vk = .ref ak ∧ H3 ak = some (.lst xk) ∧ OwAll H3 xk (rs.map rbD) F0 ∧ ¬ F0 ak ∧ ∀ b, Fk b ↔ b = ak ∨ F0 b := by
    cases ok with
    | lst h r n e => exact ⟨_, _, _, rfl, h, r, n, e⟩
  have qk : SqL K H3 ak xk := SqL.of hk3
  have rk : DpAll K H3 xk (rs.map rbD) := rk3.dp
  have lk : xk.length = rs.length := by rw [dpAll_length rk, List.length_map]
  have og3 := og.keep k3 (fun _ z => z.elim) fun _ _ z => z
  have hp3 := hp1.off (k2.trans k3) no
  have pnone : ∀ {a : Addr}, H1 a = none → a ≠ p := fun h z => by
    obtain ⟨xs, e⟩ := hp1.lst
    rw [z, e] at h
    cases h
  have fk1 : ∀ a, Fk a → H1 a = none := fun a z => k2.none (fk a z) no
  have djk : ∀ a, Fg a → ¬ Fk a := fun a z y => by
    obtain ⟨xs, e⟩ := og.dom a z
    rw [fk a y] at e
    cases e
  refine ⟨_, rfl, _, rfl, ak, xk, rfl, .inl qk, _, _, rfl, rfl, p, (xk.length : Int) + 1, c + 1, rfl, hp3, by omega, by omega, by omega, fun spot H4 s0 s1 hp4 b4 => ?_⟩
  have k4 := b4.off
  have hgp : ∀ a, a = p → ∃ xs, H3 a = some (.lst xs) := fun a z => by
    obtain ⟨xs, e⟩ := hp3.lst
    exact ⟨xs, z ▸ e⟩
  have og4 := og3.keep k4 hgp fun a z => pnone (fg a z)
  have ok4 := ok.keep k4 hgp fun a z => pnone (fk1 a z)
  have rk4 := rk3.keep k4 hgp fun a z => pnone (fk1 a ((e0 a).mpr (.inr z)))
  have hk4 : H4 ak = some (.lst xk) := k4 _ _ hk3 (pnone (fk1 ak ((e0 ak).mpr (.inl rfl))))
  have kH4 : Off (fun a => a = p) H H4 := (k1.trans ((k2.trans k3).mono fun _ z => z.elim)).trans k4
  have k14 : Off (fun a => a = p) H1 H4 := ((k2.trans k3).mono fun _ z => z.elim).trans k4
  have dv4 := dp_but k14 hp1 dv1 (noInt_tabs ts)
  have f1H : ∀ a, H1 a = none → H a = none := fun a z => by
    cases q0 : H a with
    | none => rfl
    | some o =>
      by_cases y : a = p
      · exact absurd y (pnone z)
      · rw [k1 a o q0 y] at z
        cases z
  -- what follows the making
  have hs0 : 0 ≤ spot := s0
  have hs1 : spot.toNat ≤ rs.length := by omega
  have fgH : ∀ a, Fg a → H a = none := fun a z => f1H a (fg a z)
  have fkH : ∀ a, Fk a → H a = none := fun a z => f1H a (fk1 a z)
  have hpn : ∀ {a : Addr}, H a = none → ¬ a = p := fun h z => by
    obtain ⟨xs, e⟩ := hp.lst
    rw [z, e] at h
    cases h
  have ex4 : ∀ {F : Fp} {v : V} {d : PyData}, Ow H4 v d F → ∀ a, F a → H4 a ≠ none := fun o a z y => by
    obtain ⟨xs, e⟩ := o.dom a z
    rw [y] at e
    cases e
  have h4H : ∀ a, H4 a = none → H a = none := fun a z => by
    cases q0 : H a with
    | none => rfl
    | some o =>
      by_cases y : a = p
      · obtain ⟨xs, e⟩ := hp4.lst
        rw [y, e] at z
        cases z
      · rw [kH4 a o q0 y] at z
        cases z
  have bbS : BkB 8 10 10 8 12 30 ts rs := ⟨⟨Nat.le_trans tb.most (by decide), fun t ht => (tb.each t ht).mono (Nat.le_refl _) (by decide)⟩,
    fun r hr => ⟨(hrb r hr).head, (hrb r hr).hg, (hrb r hr).two, fun cs tl e => ⟨Nat.le_trans ((hrb r hr).cs cs tl e).1 (by decide), ((hrb r hr).cs cs tl e).2⟩⟩, by decide, by decide, by decide, by decide, by omega, by decide⟩
  have wo := wordsOk_of tk hrs
  have reOf : ∀ {G : Hp} {x : Addr} {Fb : Fp}, Off (fun _ => False) H4 G → BookOw K G x ts rs Fb → (∀ a, Fb a → H4 a = none) → H4 x = none → RoadEnd K H p c ts rs G x vg (.ref ak) := fun k bo fb nx =>
    ⟨Fg, Fk, _, rbsD rs, c + 2, og4.keep k (fun _ z => z.elim) fun _ _ z => z, ok4.keep k (fun _ z => z.elim) fun _ _ z => z, fit_wide (.cons (by decide) (.cons (by decide) (.cons (by decide) .nil))) fitR, bo,
      fun a z y => ex4 og4 a y (fb a z), fun a z y => ex4 ok4 a y (fb a z), djk, fgH, fkH, fun a z => h4H a (fb a z), h4H _ nx, hp4.off k no, by omega, kH4.trans (k.mono fun _ z => z.elim)⟩
  refine ⟨_, rfl, rfl, _, rfl, ?_⟩
  by_cases c1 : way = 1
  · subst c1
    rw [decide_eq_true rfl]
    refine iteT ⟨_, rfl, ak, xk, rfl, .inl (SqL.of hk4), _, _, rfl, rfl, _, rfl, ite2 (fun c2 => ?_) (fun _ => ?_)⟩
    rotate_left
    · refine ⟨_, rfl, rfl, _, rfl, ?_⟩
      rw [decide_eq_false (show ¬ V.int 1 = V.int 2 from fun z => by cases z)]
      refine iteF ⟨_, rfl, rfl, _, rfl, ?_⟩
      rw [decide_eq_false (show ¬ V.int 1 = V.int 3 from fun z => by cases z)]
      refine iteF ⟨_, rfl, _, rfl, rfl, rfl, fun x dx nx ndx nex => ?_⟩
      refine made_at (K := K) (og4.dp) (ok4.dp) bb nw nx ndx nex fun G Fb bo fb k => ⟨rfl, ?_⟩
      exact road_tail (reOf k bo fb nx) bb fitT fitR hp.lst q
    have l20 : rs.length < 20 := by
      have := of_decide_eq_true c2
      rw [lk] at this
      omega
    obtain ⟨av, xv, rfl, qv, rv⟩ := dp_tabs dv4
    have lv : xv.length = ts.length := by rw [dpAll_length rv, List.length_map]
    have one := tk.one
    have most := tk.most
    refine ⟨_, rfl, _, rfl, _, rfl, av, xv, rfl, .inl qv, p, (xv.length : Int), c + 2, rfl, hp4, by omega, by omega, by omega, fun kx H5 x0 x1 hp5 b5 => ?_⟩
    have k5 := b5.off
    have hgp4 : ∀ a, a = p → ∃ xs, H4 a = some (.lst xs) := fun a z => by
      obtain ⟨xs, e⟩ := hp4.lst
      exact ⟨xs, z ▸ e⟩
    have og5 := og4.keep k5 hgp4 fun a z => pnone (fg a z)
    have rk5 := rk4.keep k5 hgp4 fun a z => pnone (fk1 a ((e0 a).mpr (.inr z)))
    have hk5 : H5 ak = some (.lst xk) := k5 _ _ hk4 (pnone (fk1 ak ((e0 ak).mpr (.inl rfl))))
    have dv5 := dp_but k5 hp4 dv4 (noInt_tabs ts)
    have kH5 := kH4.trans k5
    obtain ⟨xs5, t, ta, ca, h51, h52, tm, h53, h54, h55⟩ := tab_at dv5 x0 (by omega)
    refine ⟨av, _, kx, _, rfl, rfl, h51, h52, ta, [.str t.1, .ref ca], rfl, h54, rfl, .str t.1, [.ref ca], rfl, .ref ca, [], rfl, rfl, ?_⟩
    have lx := tb.each t tm
    have lcol := lx.most
    refine ⟨_, rfl, _, rfl, _, rfl, ak, _, rfl, SqL.of hk5, fun m1 nm1 => ?_⟩
    have j1 : Off (fun _ => False) H5 (upd H5 m1 (.lst (cutV xk none (some spot)))) := Off.new nm1
    have em1 := upd_same (H := H5) (a := m1) (o := .lst (cutV xk none (some spot)))
    generalize upd H5 m1 (.lst (cutV xk none (some spot))) = G1 at j1 em1 ⊢
    rw [cutV_head hs0] at em1
    refine ⟨_, rfl, _, rfl, ca, _, rfl, .inl (dp_cols_ref (dp_off j1 h55)), fun l nl => ?_⟩
    have j2 : Off (fun _ => False) G1 (upd G1 l (.lst (t.2.map V.str))) := Off.new nl
    have el := upd_same (H := G1) (a := l) (o := .lst (t.2.map V.str))
    generalize upd G1 l (.lst (t.2.map V.str)) = G2 at j2 el ⊢
    refine ⟨(by show 3 ≤ sizeLine; decide), fun tt ntt => ⟨(by show 1 ≤ sizeLine; decide), fun m2 nm2 => ?_⟩⟩
    have j3 : Off (fun _ => False) G2 (upd G2 tt (.tup [.str "key", .str t.1, .ref l])) := Off.new ntt
    have ett := upd_same (H := G2) (a := tt) (o := .tup [.str "key", .str t.1, .ref l])
    generalize upd G2 tt (.tup [.str "key", .str t.1, .ref l]) = G3 at j3 ett nm2 ⊢
    have j4 : Off (fun _ => False) G3 (upd G3 m2 (.lst [.ref tt])) := Off.new nm2
    have em2 := upd_same (H := G3) (a := m2) (o := .lst [.ref tt])
    generalize upd G3 m2 (.lst [.ref tt]) = G4 at j4 em2 ⊢
    have j14 := j2.trans (j3.trans j4)
    refine ⟨m1, m2, _, _, rfl, rfl, SqL.of (j14 _ _ em1 no), SqL.of em2, ?_, fun m3 nm3 => ?_⟩
    · rw [List.length_take]
      exact Nat.le_trans (m := 100) (by simp; omega) (by decide)
    have j5 : Off (fun _ => False) G4 (upd G4 m3 (.lst (xk.take spot.toNat ++ [.ref tt]))) := Off.new nm3
    have em3 := upd_same (H := G4) (a := m3) (o := .lst (xk.take spot.toNat ++ [.ref tt]))
    generalize upd G4 m3 (.lst (xk.take spot.toNat ++ [.ref tt])) = G5 at j5 em3 ⊢
    have j05 := j1.trans (j14.trans j5)
    refine ⟨_, rfl, _, rfl, _, rfl, ak, _, rfl, SqL.of (j05 _ _ hk5 no), fun m4 nm4 => ?_⟩
    have j6 : Off (fun _ => False) G5 (upd G5 m4 (.lst (cutV xk (some spot) none))) := Off.new nm4
    have em4 := upd_same (H := G5) (a := m4) (o := .lst (cutV xk (some spot) none))
    generalize upd G5 m4 (.lst (cutV xk (some spot) none)) = G6 at j6 em4 ⊢
    rw [cutV_tail hs0] at em4
    refine ⟨m3, m4, _, _, rfl, rfl, SqL.of (j6 _ _ em3 no), SqL.of em4, ?_, fun m5 nm5 => ?_⟩
    · rw [List.length_append, List.length_take, List.length_drop]
      exact Nat.le_trans (m := 100) (by simp; omega) (by decide)
    have j7 : Off (fun _ => False) G6 (upd G6 m5 (.lst ((xk.take spot.toNat ++ [.ref tt]) ++ xk.drop spot.toNat))) := Off.new nm5
    have em5 := upd_same (H := G6) (a := m5) (o := .lst ((xk.take spot.toNat ++ [.ref tt]) ++ xk.drop spot.toNat))
    generalize upd G6 m5 (.lst ((xk.take spot.toNat ++ [.ref tt]) ++ xk.drop spot.toNat)) = G7 at j7 em5 ⊢
    have j67 := j6.trans j7
    have j07 := j05.trans j67
    have j27 : Off (fun _ => False) G2 G7 := (j3.trans j4).trans (j5.trans j67)
    have j37 : Off (fun _ => False) G3 G7 := j4.trans (j5.trans j67)
    -- what the longer list of rules is
    obtain ⟨nr, enr⟩ : ∃ nr : RB, nr = ([("key" : Str), t.1], some (t.2, [])) := ⟨_, rfl⟩
    obtain ⟨F1, F2, c1, c2', c3, c4⟩ := owAll_cut spot.toNat rk5
    have kp : ∀ {xs : List V} {ds : List PyData} {F : Fp}, OwAll H5 xs ds F → OwAll G7 xs ds F := fun h => h.keep j07 (fun _ z => z.elim) fun _ _ z => z
    have lH5 : H5 l = none := j1.none nl no
    have ott : Ow G7 (.ref tt) (rbD nr) (fun a => a = l) := by
      rw [enr]
      exact .tup (j37 _ _ ett no) (owc_str (owc_str (owc (.lst (j27 _ _ el no) (owAll_strs (fun _ z => z) t.2) (fun z => z) fun b => ⟨.inl, fun z => z.elim id False.elim⟩) ow0)))
    have ex5 : ∀ a, F0 a → H5 a ≠ none := fun a z y => by
      obtain ⟨xs, e⟩ := rk5.dom a z
      rw [y] at e
      cases e
    have oA := owAll_app (owAll_app (kp c1) (owc ott ow0) fun a z y => ex5 a ((c3 a).mpr (.inl z)) (by rw [y]; exact lH5)) (kp c2') fun a z y => by
      rcases z with z | z
      · exact c4 a z y
      · exact ex5 a ((c3 a).mpr (.inr y)) (by rw [z]; exact lH5)
    obtain ⟨rs', ers⟩ : ∃ rs' : List RB, rs' = rs.take spot.toNat ++ [nr] ++ rs.drop spot.toNat := ⟨_, rfl⟩
    have emap : (List.map rbD rs).take spot.toNat ++ [rbD nr] ++ (List.map rbD rs).drop spot.toNat = rs'.map rbD := by
      rw [ers, List.map_append, List.map_append, List.map_take, List.map_drop]
      rfl
    rw [emap] at oA
    have h5n : ∀ a, H5 a = none → H a = none := fun a z => by
      refine h4H a ?_
      cases q0 : H4 a with
      | none => rfl
      | some o =>
        by_cases y : a = p
        · obtain ⟨xs, e⟩ := hp5.lst
          rw [y, e] at z
          cases z
        · rw [k5 a o q0 y] at z
          cases z
    have m5H5 : H5 m5 = none := (j05.trans j6).none nm5 no
    have nF5 : ¬ ((F1 m5 ∨ m5 = l) ∨ F2 m5) := fun z => by
      rcases z with (z | z) | z
      · exact ex5 m5 ((c3 m5).mpr (.inl z)) m5H5
      · rw [z, (j3.trans (j4.trans (j5.trans j6))) _ _ el no] at nm5
        cases nm5
      · exact ex5 m5 ((c3 m5).mpr (.inr z)) m5H5
    have oK : Ow G7 (.ref m5) (rbsD rs') (fun a => a = m5 ∨ ((F1 a ∨ a = l) ∨ F2 a)) := .lst em5 oA nF5 fun _ => Iff.rfl
    have hnr : RbS ts nr := ⟨"key", t.1, t.2, [], t, enr, .inl ⟨rfl, rfl⟩, tabOf_nd tk.nd tm, fun c h => by simpa using h⟩
    have onr : RbOk 8 12 nr := by
      rw [enr]
      refine ⟨by show 2 ≤ 2; decide, fun y hy => ?_, fun _ => rfl, fun cs tl e => ?_⟩
      · have hy : y ∈ ([("key" : Str), t.1] : List Str) := hy
        rcases List.mem_cons.mp hy with rfl | hy
        · exact gdB_ok (by decide +kernel)
        · rw [List.mem_singleton.mp hy]
          exact lx.name
      · have e : some (t.2, ([] : List Str)) = some (cs, tl) := e
        cases e
        exact ⟨by omega, lx.good, by decide, fun y hy => absurd hy (by simp)⟩
    have mem' : ∀ r ∈ rs', r ∈ rs ∨ r = nr := fun r h => by
      rw [ers] at h
      rcases List.mem_append.mp h with h | h
      · rcases List.mem_append.mp h with h | h
        · exact .inl (List.mem_of_mem_take h)
        · exact .inr (List.mem_singleton.mp h)
      · exact .inl (List.mem_of_mem_drop h)
    have lr' : rs'.length = rs.length + 1 := by
      rw [ers]
      simp
      omega
    have bb' : BkB 8 8 6 8 12 21 ts rs' := { bb with rb := fun r h => (mem' r h).elim (hrb r) fun z => z ▸ onr, lr := by omega }
    have nw' : wrongBook ts rs' = none := wrongBook_none tk fun r h => (mem' r h).elim (hrs r) fun z => z ▸ hnr
    refine ⟨_, rfl, _, rfl, fun x dx nx ndx nex => ?_⟩
    have og7 := og5.keep j07 (fun _ z => z.elim) fun _ _ z => z
    refine made_at (K := K) og7.dp oK.dp bb' nw' nx ndx nex fun G Fb bo fb k => ⟨rfl, ?_⟩
    obtain ⟨dx2, y1, y2, hx2, _, _⟩ := id bo.of
    refine ⟨x, dx2, _, rfl, hx2, look_none _ _ (by decide +kernel) (by decide +kernel), _, rfl, x, spot, ts, rs', 8, 8, 6, 8, 12, 21, rfl, bo.of, bb', ?_⟩
    have back : rs'.take spot.toNat ++ rs'.drop (spot.toNat + 1) = rs := by
      have la : (rs.take spot.toNat).length = spot.toNat := by rw [List.length_take]; omega
      have e1 : rs'.take spot.toNat = rs.take spot.toNat := by
        rw [ers, List.append_assoc, List.take_append_of_le_length (by omega), List.take_of_length_le (by omega)]
      have e2 : rs'.drop (spot.toNat + 1) = rs.drop spot.toNat := by
        rw [ers, List.drop_append]
        have e3 : (rs.take spot.toNat ++ [nr]).length = spot.toNat + 1 := by rw [List.length_append, la]; rfl
        rw [e3, List.drop_of_length_le (by omega)]
        simp
      rw [e1, e2, List.take_append_drop]
    rw [if_pos ⟨hs0, by omega⟩, back, nw]
    intro x2 G8 Fb2 bo2 fb2 nx2 k8
    have kk := k.trans k8
    have g7n : ∀ a, G7 a = none → H5 a = none := fun a z => j07.none z no
    have gn : ∀ a, G a = none → G7 a = none := fun a z => k.none z no
    refine road_tail ⟨Fg, _, Fb2, rbsD rs', c + 3, og7.keep kk (fun _ z => z.elim) fun _ _ z => z, oK.keep kk (fun _ z => z.elim) fun _ _ z => z, fit_rbs (by omega) bb'.rb, bo2, fun a z y => ?_, fun a z y => ?_, fun a z y => ?_, fgH, fun a z => ?_, fun a z => ?_, ?_, (hp5.off j07 no).off kk no, by omega, (kH5.trans (j07.mono fun _ z => z.elim)).trans (kk.mono fun _ z => z.elim)⟩ bb fitT fitR hp.lst q
    · obtain ⟨xs, e⟩ := og7.dom a y
      rw [gn a (fb2 a z)] at e
      cases e
    · obtain ⟨xs, e⟩ := oK.dom a y
      rw [gn a (fb2 a z)] at e
      cases e
    · rcases y with y | (y | y) | y
      · obtain ⟨xs, e⟩ := og5.dom a z
        rw [y, m5H5] at e
        cases e
      · exact djk a z ((e0 a).mpr (.inr ((c3 a).mpr (.inl y))))
      · obtain ⟨xs, e⟩ := og5.dom a z
        rw [y, lH5] at e
        cases e
      · exact djk a z ((e0 a).mpr (.inr ((c3 a).mpr (.inr y))))
    · rcases z with z | (z | z) | z
      · rw [z]
        exact h5n _ m5H5
      · exact fkH a ((e0 a).mpr (.inr ((c3 a).mpr (.inl z))))
      · rw [z]
        exact h5n _ lH5
      · exact fkH a ((e0 a).mpr (.inr ((c3 a).mpr (.inr z))))
    · exact h5n a (g7n a (gn a (fb2 a z)))
    · exact h5n _ (g7n _ (gn _ nx2))
  rw [decide_eq_false (show ¬ V.int way = V.int 1 from fun z => c1 (V.int.inj z))]
  refine iteF ⟨_, rfl, rfl, _, rfl, ite2 (fun c2 => ?_) (fun c2 => ⟨_, rfl, rfl, _, rfl, ite2 (fun c3 => ?_) (fun c3 => ?_)⟩)⟩
  · -- a book with the rules from a place on
    refine ⟨_, rfl, _, rfl, _, rfl, _, rfl, ak, _, rfl, SqL.of hk4, fun m1 nm1 => fun x dx nx ndx nex => ?_⟩
    have k5 : Off (fun _ => False) H4 (upd H4 m1 (.lst (cutV xk none (some spot)))) := Off.new nm1
    have em1 := upd_same (H := H4) (a := m1) (o := .lst (cutV xk none (some spot)))
    generalize upd H4 m1 (.lst (cutV xk none (some spot))) = H5 at k5 em1 nx ndx ⊢
    rw [cutV_head hs0] at em1
    have d5 : Dp K H5 (.ref m1) (rbsD (rs.take spot.toNat)) := by
      unfold rbsD
      rw [List.map_take]
      exact .lst (SqL.of em1) (dpAll_take _ (dpAll_off k5 rk4.dp))
    have sub : ∀ r ∈ rs.take spot.toNat, r ∈ rs := fun r h => List.mem_of_mem_take h
    have bb1 : BkB 8 8 6 8 12 21 ts (rs.take spot.toNat) := { bb with rb := fun r h => hrb r (sub r h), lr := by rw [List.length_take]; omega }
    refine made_at (K := K) (dp_off k5 og4.dp) d5 bb1 (wrongBook_none tk fun r h => hrs r (sub r h)) nx ndx nex fun G Fb bo fb k6 => ⟨rfl, ?_⟩
    obtain ⟨dx2, y1, y2, hx2, _, _⟩ := id bo.of
    have k56 := k5.trans k6
    refine ⟨x, dx2, _, rfl, hx2, look_none _ _ (by decide +kernel) (by decide +kernel), _, rfl, _, rfl, _, rfl, ak, _, rfl, SqL.of (k56 _ _ hk4 no), fun m2 nm2 => ?_⟩
    have k7 : Off (fun _ => False) G (upd G m2 (.lst (cutV xk (some spot) none))) := Off.new nm2
    have em2 := upd_same (H := G) (a := m2) (o := .lst (cutV xk (some spot) none))
    generalize upd G m2 (.lst (cutV xk (some spot) none)) = G2 at k7 em2 ⊢
    rw [cutV_tail hs0] at em2
    have k57 := k56.trans k7
    have d7 : Dp K G2 (.ref m2) (rbsD (rs.drop spot.toNat)) := by
      unfold rbsD
      rw [List.map_drop]
      exact .lst (SqL.of em2) (dpAll_drop _ (dpAll_off k57 rk4.dp))
    have ea : rs.take spot.toNat ++ rs.drop spot.toNat = rs := List.take_append_drop _ _
    refine ⟨x, .ref m2, ts, rs.take spot.toNat, rs.drop spot.toNat, 8, 8, 6, 8, 12, 21, rfl, bo.of.off k7, d7, by rw [ea]; exact bb, ?_⟩
    rw [ea, nw]
    intro x2 G3 Fb2 bo2 fb2 nx2 k8
    exact road_tail (reOf (k57.trans k8) bo2 (fun a z => k57.none (fb2 a z) no) (k57.none nx2 no)) bb fitT fitR hp.lst q
  · -- a book that is read
    refine ⟨_, rfl, _, rfl, fun x dx nx ndx nex => ?_⟩
    refine made_at (K := K) (og4.dp) (ok4.dp) bb nw nx ndx nex fun G Fb bo fb k => ⟨rfl, ?_⟩
    refine ⟨x, ts, rs, rfl, bo.of, bbS, wo.f, fun G2 k2' => ?_⟩
    refine ⟨ts, rs, rfl, bbS, wo, tk.one, nw, fun x2 G3 Fb2 bo2 fb2 nx2 k3' => ?_⟩
    have kk := k.trans k2'
    exact road_tail (reOf (kk.trans k3') bo2 (fun a z => kk.none (fb2 a z) no) (kk.none nx2 no)) bb fitT fitR hp.lst q
  · refine ⟨_, rfl, _, rfl, rfl, rfl, fun x dx nx ndx nex => ?_⟩
    refine made_at (K := K) (og4.dp) (ok4.dp) bb nw nx ndx nex fun G Fb bo fb k => ⟨rfl, ?_⟩
    exact road_tail (reOf k bo fb nx) bb fitT fitR hp.lst q
end
end LW
set_option Elab.async false
set_option linter.all false
set_option maxRecDepth 100000
set_option maxHeartbeats 4000000
/-! len of an own instance. -/
namespace KV
open PySem PySem.Spec PyProof.Rows L2
section
variable {X : Cx} {k : Nat} {f C : Addr} {fd : FuncData} {ps : List Str} {sp : Sp}
def rLenO (C : Addr) (sp : Sp) : List V → Hp → VK → Prop := fun xs H Q => ∃ a dx fs, xs = [.ref a] ∧ H a = some (.ins C dx fs) ∧ sp [.ref a] H (fun v H' => ∃ n : Int, v = .int n ∧ 0 ≤ n ∧ n < 2 ^ 63 ∧ Q (.int n) H') fun _ _ _ => False
theorem call_lenO (hs : PySem.W.findIn X.K (.ref C) "__len__" = some (some (.ref f))) (hf : PySem.W.isFn X.K (.ref f) = true) (F : FnOk X.prog X.w X.K X.mg X.base CX0 k f fd ps sp) (hr : Room (k + 1) X.A) (hb : Binds X.K fd ps []) : CallR X (.builtin "len") (rLenO C sp) := by
  intro pins s σ H xs us Q I r h
  obtain ⟨a, dx, fs, rfl, ha, q⟩ := h
  obtain rfl := Vals.ref1 r
  obtain ⟨mA, J, _⟩ := ins_get I.hok ha
  obtain ⟨od, J, _⟩ := J.look
  obtain ⟨m, hF⟩ := I.fr
  refine PySem.W.len_K hF I.ok.mod.kin J hs hf ?_
  have r2 : Vals [V.ref a] [Value.ref a] := .cons rfl .nil
  have hl := F.len _ _ _ _ q
  have bt := hb s [Value.ref a] I.kIn (by simpa using hl)
  rw [List.append_nil] at bt
  refine wpAny_call (codeAny_mono (F.run X.A.in1 X.stack s H ⟨[Value.ref a], []⟩ [Value.ref a] [V.ref a] _ (fun _ _ _ => False) hr.in1 I.env0.in1 bt r2 q) fun r s' hq => ?_)
  cases r with
  | error e => exact hq.elim
  | ok fl =>
    cases fl with
    | ret w =>
      obtain ⟨v, H', I3, rv, n, ev, n0, n1, q3⟩ := I.after hq
      subst ev
      obtain ⟨t, rfl⟩ := rv
      exact ⟨⟨n0, n1⟩, .int n, H', I3.tok _, ⟨_, rfl⟩, q3⟩
    | next => exact False.elim hq
    | brk => exact False.elim hq
    | cont => exact False.elim hq
end
end KV
set_option Elab.async false
set_option linter.all false
set_option maxRecDepth 100000
set_option maxHeartbeats 0
/-! _law_strays -/
namespace LW
open PySem PySem.Spec PyProof.Rows L2 KV
def spStrays (K : PySem.W.Frag) : Sp := fun vs H Q _ => ∃ (d l : Addr) (kvs : List (Key × V)) (ts : List Tab) (ws : List Str), vs = [.ref d, .ref l] ∧ H d = some (.dK kvs) ∧ TitK K H kvs ts ∧ tabOf ts "" = none ∧ SqL K H l (ws.map V.str) ∧ (∀ x ∈ ws, Gd 8 x) ∧ ws.length ≤ 20 ∧
  ∀ (ss : List Str) D H', ss ≠ [] → ss.length ≤ 200 → (∀ s ∈ ss, Gd 10 s ∧ tabOf ts s = none) → H' D = some (.lst (ss.map V.str)) → Off (fun _ => False) H H' → Q (.ref D) H'
section
variable {P : Program} {w : World} {K : PySem.W.Frag} {mg : Str → Option Value} {base : Heap}
end
end LW
set_option Elab.async false
set_option linter.all false
set_option maxRecDepth 100000
set_option maxHeartbeats 0
/-! _law_stray_right -/
namespace LW
open PySem PySem.Spec PyProof.Rows L2 KV
def spSR (K : PySem.W.Frag) : Sp := fun vs H Q _ => ∃ (b : Addr) (x : Str) (ts : List Tab) (rs : List RB), vs = [.ref b, .str x] ∧ BookOf K H b ts rs ∧ tabOf ts x = none ∧ Gd 10 x ∧ ∀ H', Off (fun _ => False) H H' → Q (.bl true) H'
theorem BookOf.at_ {K : PySem.W.Frag} {H : Hp} {b : Addr} {ts : List Tab} {rs : List RB} (h : BookOf K H b ts rs) : BookAt K H b ts := by
  obtain ⟨dx, v1, v2, h1, h2, h3⟩ := h
  exact ⟨dx, _, v1, h1, look_tables _ _, h2⟩
section
variable {P : Program} {w : World} {K : PySem.W.Frag} {mg : Str → Option Value} {base : Heap}
end
end LW
set_option Elab.async false
set_option linter.all false
set_option maxRecDepth 100000
set_option maxHeartbeats 0
/-! _law_titles_right -/
namespace LW
open PySem PySem.Spec PyProof.Rows L2 KV
theorem passNS {X : Cx} (σ : L2.St) : PassesAt (L2.CX X.prog X.w) X σ EN := fun _ _ _ _ _ _ c => by
  obtain ⟨_, _, _, _, _, _, _, _, _, _, _, _, z⟩ := c
  exact z.elim
theorem valV_not {kvs : List (Key × V)} {k : Key} (h : k ∉ kvs.map Prod.fst) : valV kvs k = none := by
  unfold valV
  have : kvs.find? (fun p => decide (p.1 = k)) = none := by
    rw [List.find?_eq_none]
    intro p hp z
    exact h (List.mem_map.mpr ⟨p, hp, of_decide_eq_true z⟩)
  simp [this]
theorem merge_nd : ∀ {kvs acc : List (Key × V)}, (kvs.map Prod.fst).Nodup → (∀ k ∈ kvs.map Prod.fst, k ∉ acc.map Prod.fst) → mergeK acc kvs = acc ++ kvs
  | [], acc, _, _ => by simp [mergeK]
  | p :: r, acc, nd, dj => by
    obtain ⟨n1, n2⟩ := List.nodup_cons.mp (show (p.1 :: r.map Prod.fst).Nodup from nd)
    have e : putK acc p.1 p.2 = acc ++ [p] := putK_new _ (valV_not (dj p.1 (by simp)))
    have ih := merge_nd (kvs := r) (acc := acc ++ [p]) n2 fun k hk z => by
      rw [List.map_append] at z
      rcases List.mem_append.mp z with z | z
      · exact dj k (by rw [List.map_cons]; exact List.mem_cons_of_mem _ hk) z
      · simp at z
        exact n1 (z ▸ hk)
    show mergeK (putK acc p.1 p.2) r = _
    rw [e, ih, List.append_assoc]
    rfl
theorem tabs_pairs {K : PySem.W.Frag} {H : Hp} : ∀ {xs : List V} {ts : List Tab}, DpAll K H xs (ts.map tabD) → ∃ (ps : List Addr) (kvs : List (Key × V)), xs = ps.map V.ref ∧ Paired (fun p kv => SqT K H p [kV kv.1, kv.2]) ps kvs ∧ TitK K H kvs ts ∧ kvs.map Prod.fst = ts.map fun t => (.inr t.1 : Key)
  | _, [], .nil => ⟨[], [], rfl, .nil, .nil, rfl⟩
  | _, t :: ts, .cons h r => by
    obtain ⟨ps, kvs, e1, e2, e3, e4⟩ := tabs_pairs r
    obtain ⟨a, w, rfl, sq, dc⟩ := dp_tab h
    exact ⟨a :: ps, (.inr t.1, w) :: kvs, by rw [e1]; rfl, .cons sq e2, .cons dc e3, by rw [List.map_cons, e4]; rfl⟩
def spTi (K : PySem.W.Frag) : Sp := fun vs H Q _ => ∃ (p b : Addr) (w : V) (ts : List Tab) (rs : List RB) (c : Nat), vs = [.ref p, .ref b, w] ∧ BookOf K H b ts rs ∧ TabsW 8 8 6 ts ∧ (ts.map Prod.fst).Nodup ∧ tabOf ts "" = none ∧ Dp K H w (tabsD ts) ∧ Pu H p c ∧ c + 10 ≤ 1000000000 ∧
  ∀ H' c', Pu H' p c' → c' ≤ c + 2 → Off (fun a => a = p) H H' → Q (.bl true) H'
theorem BookOf.but {K : PySem.W.Frag} {H H' : Hp} {p b : Addr} {c : Nat} {ts : List Tab} {rs : List RB} (h : BookOf K H b ts rs) (k : Off (fun a => a = p) H H') (hp : Pu H p c) : BookOf K H' b ts rs := by
  obtain ⟨dx, v1, v2, h1, h2, h3⟩ := h
  refine ⟨dx, v1, v2, k _ _ h1 fun z => ?_, dp_but k hp h2 (noInt_tabs _), dp_but k hp h3 (noInt_rbs _)⟩
  obtain ⟨xs, e⟩ := hp.lst
  rw [← z, h1] at e
  cases e
theorem titK_but {K : PySem.W.Frag} {H H' : Hp} {p : Addr} {c : Nat} (k : Off (fun a => a = p) H H') (hp : Pu H p c) : ∀ {kvs : List (Key × V)} {ts : List Tab}, TitK K H kvs ts → TitK K H' kvs ts
  | _, _, .nil => .nil
  | _, _, .cons h r => .cons (dp_but k hp h (noInt_cols _)) (titK_but k hp r)
theorem atI_end {cs : List Str} (h : 1 ≤ cs.length) : ∃ x ∈ cs, atI (cs.map V.str) (-1) = some (.str x) := by
  have ne : cs ≠ [] := fun z => by
    rw [z] at h
    exact absurd h (by decide)
  refine ⟨cs.getLast ne, List.getLast_mem ne, ?_⟩
  have e : cs.map V.str = cs.dropLast.map V.str ++ [V.str (cs.getLast ne)] := by
    conv => lhs; rw [← List.dropLast_concat_getLast ne]
    rw [List.map_append]
    rfl
  rw [e]
  exact atI_last _ _
theorem mem_cutV {xs : List V} {lo hi : Option Int} {v : V} (h : v ∈ cutV xs lo hi) : v ∈ xs := List.mem_of_mem_drop (List.mem_of_mem_take h)
theorem lasts_of {n mc : Nat} : ∀ {ts : List Tab}, (∀ t ∈ ts, TabB n mc t) → ∃ zs : List Str, zs.length = ts.length ∧ (∀ z ∈ zs, Gd n z) ∧ ∀ (i : Nat) (t : Tab), ts[i]? = some t → ∃ z : Str, zs[i]? = some z ∧ atI (t.2.map V.str) (-1) = some (V.str z)
  | [], _ => ⟨[], rfl, fun z h => by simp at h, fun i t h => by simp at h⟩
  | t :: ts, h => by
    obtain ⟨zs, e1, e2, e3⟩ := lasts_of (ts := ts) fun u hu => h u (List.mem_cons_of_mem _ hu)
    have tb := h t List.mem_cons_self
    obtain ⟨x, hx, ex⟩ := atI_end tb.one
    refine ⟨x :: zs, by rw [List.length_cons, List.length_cons, e1], fun z hz => ?_, fun i u hu => ?_⟩
    · rcases List.mem_cons.mp hz with rfl | hz
      · exact tb.good _ hx
      · exact e2 z hz
    · cases i with
      | zero =>
        cases hu
        exact ⟨x, rfl, ex⟩
      | succ i => exact e3 i u hu
theorem dpAll_get {K : PySem.W.Frag} {H : Hp} : ∀ {xs : List V} {ds : List PyData} {i : Nat} {d : PyData}, DpAll K H xs ds → ds[i]? = some d → ∃ v, xs[i]? = some v ∧ Dp K H v d
  | _, _, 0, _, .cons h r, e => by
    cases e
    exact ⟨_, rfl, h⟩
  | _, _, i + 1, _, .cons h r, e => dpAll_get (i := i) r e
  | _, _, i, _, .nil, e => by simp at e
theorem dpAll_len {K : PySem.W.Frag} {H : Hp} : ∀ {xs : List V} {ds : List PyData}, DpAll K H xs ds → xs.length = ds.length
  | _, _, .nil => rfl
  | _, _, .cons h r => by rw [List.length_cons, List.length_cons, dpAll_len r]
theorem ti_tail {K : PySem.W.Frag} {H : Hp} {p b d wl : Addr} {w : V} {c : Nat} {ts : List Tab} {rs : List RB} {kvs : List (Key × V)} {us : List Str} {Q : VK} (hb : BookOf K H b ts rs) (ed : H d = some (.dK kvs)) (tk : TitK K H kvs ts) (sw : H wl = some (.lst (us.map V.str)))
    (hu : ∀ x ∈ us, ∃ t ∈ ts, t.1 = x) (lu : us.length ≤ 6) (tb : TabsW 8 8 6 ts) (nd : (ts.map Prod.fst).Nodup) (n0 : tabOf ts "" = none) (hw : Dp K H w (tabsD ts)) (hp : Pu H p c) (hc : c + 5 ≤ 1000000000) (q : ∀ H' c', Pu H' p c' → c' ≤ c + 1 → Off (fun a => a = p) H H' → Q (.bl true) H') :
    tSeq (tFor (iList K (tVar 4)) (gName 5) (tIfS (tNot (tB (tCall (spOwn K) [] E0 (tCons (tItemS (He.ga K "Book") (spItem K) (fun _ => EN) (tVar 1) (tVar 5)) (tCons (tDGet (tVar 3) (tVar 5)) tNil))))) (tRet (tC (.bl false))) tNext))
      (tSeq (tAsg (tCall (spStrays K) [] E0 (tCons (tVar 3) (tCons (tOp rCat (tVar 4) (tLc (iList K (tVar 2)) (gTup K 2 (gCons (gName 5) (gCons (gName 6) gNil))) tYes (tOp (rIxL K) (tVar 6) (tUn (rU fun i => .int (-i)) (tC (.int 1)))) [5, 6])) tNil))) (gName 7))
      (tSeq (tAsg (tCall spCoin [] E0 (tCons (tVar 0) (tCons (tCB (fun xs H Q => ∃ p ys, xs = [V.ref p] ∧ (SqL K H p ys ∨ SqT K H p ys) ∧ Q (.int ys.length) H) (tCons (tVar 7) tNil)) tNil))) (gName 8))
        (tRet (tOp (rEqD K) (tLc (iList K (tSl (rSlL K) (tOp rCat (tVar 7) (tVar 7)) (tPart (tVar 8)) (tPart (tOp (rI0 fun i j => .int (i + j)) (tVar 8) (tC (.int 4)))))) (gName 9) (tNot (tB (tCall (spSR K) [] E0 (tCons (tVar 1) (tCons (tVar 9) tNil))))) (tC (.int 1)) [9]) (tLst tNil)))))
      { nx := fun _ H' => Q .non H', rt := Q } [some (.ref p), some (.ref b), some w, some (.ref d), some (.ref wl), none, none, none, none, none] H := by
  have no : ¬ False := id
  refine ⟨_, rfl, wl, rfl, ⟨_, SqL.of sw⟩, for_list (K := K) (a := wl) (xs := us.map V.str) (fun i σ H' => ∃ w5, σ = [some (.ref p), some (.ref b), some w, some (.ref d), some (.ref wl), w5, none, none, none, none] ∧ Off (fun _ => False) H H') ⟨_, rfl, fun _ _ h _ => h⟩ (fun i σ H' _ g => ?_) (fun i x σ H' hx g => ?_) fun σ H' g => ?_⟩
  · obtain ⟨_, _, k⟩ := g
    exact SqL.of (k _ _ sw no)
  · obtain ⟨w5, rfl, k⟩ := g
    rw [List.getElem?_map] at hx
    obtain ⟨x, hx2, rfl⟩ := Option.map_eq_some_iff.mp hx
    obtain ⟨t, ht, et⟩ := hu x (List.mem_of_getElem? hx2)
    subst et
    have kt := titK_off k tk
    rcases titK_at (x := t.1) kt with ⟨_, u2⟩ | ⟨v', t', u1, u2, u3⟩
    · rw [tabOf_nd nd ht] at u2
      cases u2
    have e : t = t' := by
      rw [tabOf_nd nd ht] at u2
      exact Option.some.inj u2
    subst e
    have tB := tb.each t ht
    obtain ⟨dx, fs, v1, h1, h2, h3⟩ := id (hb.off k).at_
    refine ⟨_, rfl, _, rfl, b, dx, fs, rfl, h1, b, t.1, ts, rfl, (hb.off k).at_, ?_⟩
    rw [tabOf_nd nd ht]
    intro l G nl el kl
    refine ⟨_, rfl, _, rfl, d, v', rfl, ?_, ?_⟩
    · have := DGet.k (k := .inr t.1) ((k.trans kl) _ _ ed no)
      rw [u1] at this
      exact this
    refine ⟨_, _, colsD t.2, _, 100, [8], rfl, ow_strs el, dp_off kl u3, ⟨fit_wide (.cons (Nat.le_refl _) .nil) ((fit_cols tB.most tB.good).mono (by decide)), by decide, by decide, by decide, by decide⟩, fun G2 k2 => ?_⟩
    refine ⟨true, rfl, iteF ⟨_, rfl, k.trans fun a o e n => k2 a o (kl a o e n) fun z => ?_⟩⟩
    rw [z, nl] at e
    cases e
  · obtain ⟨w5, rfl, k⟩ := g
    obtain ⟨wa, rfl, sqw⟩ : ∃ wa, w = .ref wa ∧ ∃ xs, SqL K H' wa xs ∧ DpAll K H' xs (ts.map tabD) := by
      cases dp_off k hw with
      | lst h r => exact ⟨_, rfl, _, h, r⟩
    obtain ⟨xs, sq, da⟩ := sqw
    obtain ⟨zs, z1, z2, z3⟩ := lasts_of tb.each
    have lx : xs.length = ts.length := by rw [dpAll_len da, List.length_map]
    refine ⟨_, rfl, _, rfl, _, rfl, wa, rfl, ⟨_, sq⟩, fun D hD => lc_list (K := K) (a := wa) (xs := xs) (fun i G => G D = some (.lst ((zs.take i).map V.str)) ∧ Off (fun _ => False) H' G) ⟨upd_same, Off.new hD⟩ (fun i G _ g => sqL_off g.2 sq) (fun i x G hx g => ?_) fun G g => ?_⟩
    · obtain ⟨g1, g2⟩ := g
      have hi : i < ts.length := by
        have := (List.getElem?_eq_some_iff.mp hx).1
        omega
      have ht : ts[i]? = some ts[i] := List.getElem?_eq_getElem hi
      obtain ⟨v, ev, dv⟩ := dpAll_get (i := i) (d := tabD ts[i]) (dpAll_off g2 da) (by rw [List.getElem?_map, ht]; rfl)
      rw [hx] at ev
      cases ev
      obtain ⟨ta, v2, rfl, st, dc⟩ := dp_tab dv
      obtain ⟨ca, rfl, sc⟩ := dp_cols dc
      obtain ⟨z, hz, ez⟩ := z3 i _ ht
      refine ⟨ta, [.str ts[i].1, .ref ca], rfl, st, rfl, .str ts[i].1, [.ref ca], rfl, .ref ca, [], rfl, rfl, rfl, ?_⟩
      refine iteT (B := True) ?_
      refine iteT ?_
      refine ⟨_, rfl, _, rfl, ca, _, -1, .str z, rfl, rfl, sc, ez, _, g1, ?_, ?_, fun a o ea na => ?_⟩
      · rw [List.length_map, List.length_take, z1]
        exact Nat.lt_of_le_of_lt (Nat.min_le_right _ _) (Nat.lt_of_le_of_lt tb.most (by decide))
      · rw [upd_same, take_snoc hz, List.map_append]
        rfl
      · rw [upd_ne (fun z => by rw [z, hD] at ea; cases ea)]
        exact g2 a o ea na
    · obtain ⟨g1, g2⟩ := g
      rw [lx, ← z1, List.take_length] at g1
      have kg := k.trans g2
      refine ⟨wl, D, us.map V.str, zs.map V.str, rfl, rfl, kg _ _ sw no, g1, ?_, fun m nm => ?_⟩
      · rw [List.length_map, List.length_map, z1]
        exact Nat.le_trans (Nat.add_le_add lu tb.most) (by decide)
      have km := kg.trans (Off.new (o := .lst (us.map V.str ++ zs.map V.str)) nm)
      refine ⟨d, m, kvs, ts, us ++ zs, rfl, km _ _ ed no, titK_off km tk, n0, ?_, fun y hy => ?_, ?_, ?_⟩
      · rw [List.map_append]
        exact SqL.of upd_same
      · rcases List.mem_append.mp hy with hy | hy
        · obtain ⟨t, ht, rfl⟩ := hu y hy
          exact (tb.each t ht).name
        · exact z2 y hy
      · rw [List.length_append, z1]
        exact Nat.le_trans (Nat.add_le_add lu tb.most) (by decide)
      intro ss S G2 sne sl sg es k2
      have kk := km.trans k2
      have hp2 := hp.off kk no
      have hb2 := hb.off kk
      refine ⟨_, rfl, _, rfl, S, ss.map V.str, rfl, .inl (SqL.of es), p, ((ss.map V.str).length : Nat), c, rfl, hp2, by omega, ?_, ?_, fun i G3 i0 i1 hp3 b3 => ?_⟩
      · rw [List.length_map]
        have := List.length_pos_iff.mpr sne
        omega
      · rw [List.length_map]
        omega
      have Sp : S ≠ p := fun z => by
        obtain ⟨a1, a2, a3, e, _⟩ := id hp2
        rw [← z, es] at e
        obtain ⟨s0, sr⟩ := List.exists_cons_of_ne_nil sne
        obtain ⟨sr, rfl⟩ := sr
        cases e
      have es3 := b3.off _ _ es Sp
      have hb3 := hb2.but b3.off hp2
      have k03 : Off (fun a => a = p) H G3 := (Off.in kk).trans b3.off
      refine ⟨_, rfl, _, rfl, S, S, _, _, rfl, rfl, es3, es3, ?_, fun m3 n3 => ?_⟩
      · rw [List.length_map]
        exact Nat.le_trans (Nat.add_le_add sl sl) (by decide)
      have k3 : Off (fun _ => False) G3 (upd G3 m3 (.lst (ss.map V.str ++ ss.map V.str))) := Off.new n3
      refine ⟨_, rfl, _, rfl, _, rfl, _, _, rfl, rfl, _, rfl, m3, _, rfl, SqL.of upd_same, fun m4 n4 => ?_⟩
      have k4 := k3.trans (Off.new (o := .lst (cutV (ss.map V.str ++ ss.map V.str) (some i) (some (i + 4)))) n4)
      have e4 := upd_same (H := upd G3 m3 (.lst (ss.map V.str ++ ss.map V.str))) (a := m4) (o := .lst (cutV (ss.map V.str ++ ss.map V.str) (some i) (some (i + 4))))
      generalize upd (upd G3 m3 (.lst (ss.map V.str ++ ss.map V.str))) m4 (.lst (cutV (ss.map V.str ++ ss.map V.str) (some i) (some (i + 4)))) = G4 at k4 e4 ⊢
      refine ⟨m4, rfl, ⟨_, SqL.of e4⟩, fun D2 hD2 => lc_list (K := K) (a := m4) (xs := cutV (ss.map V.str ++ ss.map V.str) (some i) (some (i + 4))) (fun _ G => G D2 = some (.lst []) ∧ Off (fun _ => False) G4 G) ⟨upd_same, Off.new hD2⟩ (fun i G _ g => SqL.of (g.2 _ _ e4 no)) (fun i x G hx g => ?_) fun G g => ?_⟩
      · obtain ⟨g1, g2⟩ := g
        have mx := mem_cutV (List.mem_of_getElem? hx)
        rw [← List.map_append] at mx
        obtain ⟨y, hy, rfl⟩ := List.mem_map.mp mx
        have hy : y ∈ ss := (List.mem_append.mp hy).elim id id
        refine ⟨rfl, _, rfl, _, rfl, b, y, ts, rs, rfl, hb3.off (k4.trans g2), (sg y hy).2, (sg y hy).1, fun G5 k5 => ⟨true, rfl, iteF ⟨k5 _ _ g1 no, g2.trans k5⟩⟩⟩
      · obtain ⟨g1, g2⟩ := g
        refine ⟨by decide, fun m6 n6 => ?_⟩
        have k6 := g2.trans (Off.new (o := .lst []) n6)
        refine ⟨.list [], .list [], ?_, ?_, rfl, rfl, ?_⟩
        · exact .lst (SqL.of ((Off.new (G := fun _ => False) n6) _ _ g1 no)) .nil
        · exact .lst (SqL.of upd_same) .nil
        · exact q _ (c + 1) (hp3.off (k4.trans k6) no) (Nat.le_refl _) (k03.trans (Off.in (k4.trans k6)))
section
variable {P : Program} {w : World} {K : PySem.W.Frag} {mg : Str → Option Value} {base : Heap}
end
end LW
set_option Elab.async false
set_option linter.all false
set_option maxRecDepth 100000
set_option maxHeartbeats 0
/-! _law_shape, _law_turned_rules -/
namespace LW
open PySem PySem.Spec PyProof.Rows L2 KV
/-- the heap without what stands at f -/
def hide (f : Addr) (G : Hp) : Hp := fun a => if a = f then none else G a
theorem hide_ne {f a : Addr} {G : Hp} (h : a ≠ f) : hide f G a = G a := if_neg h
theorem hide_upd {f : Addr} {G : Hp} {o : HO} : hide f (upd G f o) = hide f G := by
  funext a
  unfold hide
  by_cases h : a = f
  · rw [if_pos h, if_pos h]
  · rw [if_neg h, if_neg h, upd_ne h]
theorem hide_off {f : Addr} {F : Fp} {G G' : Hp} (k : Off F G G') : Off F (hide f G) (hide f G') := fun a o e n => by
  unfold hide at e ⊢
  by_cases h : a = f
  · rw [if_pos h] at e
    cases e
  · rw [if_neg h] at e ⊢
    exact k a o e n
theorem hide_in {f : Addr} {G : Hp} : Off (fun _ => False) (hide f G) G := fun a o e _ => by
  unfold hide at e
  by_cases h : a = f
  · rw [if_pos h] at e
    cases e
  · rwa [if_neg h] at e
theorem hide_of {f : Addr} {F : Fp} {H G : Hp} (n : H f = none) (k : Off F H G) : Off F H (hide f G) := fun a o e z => by
  rw [hide_ne fun y => by rw [y, n] at e; cases e]
  exact k a o e z
theorem TabsOk.mono {mt mc mt' mc' : Nat} {ts : List Tab} (h : TabsOk mt mc ts) (a : mt ≤ mt') (b : mc ≤ mc') : TabsOk mt' mc' ts :=
  ⟨h.one, Nat.le_trans h.most a, h.nd, fun t ht => ⟨(h.each t ht).one, Nat.le_trans (h.each t ht).most b, (h.each t ht).good, (h.each t ht).nd, (h.each t ht).name⟩⟩
theorem dpAll_noInt {K : PySem.W.Frag} {H : Hp} {xs : List V} {ds : List PyData} (h : DpAll K H xs ds) (n : noIntAll ds = true) (x y z : Int) : xs ≠ [.int x, .int y, .int z] := fun e => by
  rw [e] at h
  cases h with
  | cons h0 _ =>
    cases h0
    simp [noIntAll, noInt] at n
theorem sqL_but {K : PySem.W.Frag} {H H' : Hp} {p a : Addr} {c : Nat} {xs : List V} (k : Off (fun a => a = p) H H') (hp : Pu H p c) (h : SqL K H a xs) (ne : ∀ x y z : Int, xs ≠ [.int x, .int y, .int z]) : SqL K H' a xs := by
  rcases h with (h | ⟨o, h⟩) | h
  · refine .inl (.inl (k _ _ h fun z => ?_))
    obtain ⟨x, y, z2, e, _⟩ := hp
    rw [z, e] at h
    cases h
    exact ne _ _ _ rfl
  · refine .inl (.inr ⟨o, k _ _ h fun z => ?_⟩)
    obtain ⟨x, y, z2, e, _⟩ := hp
    rw [z, e] at h
    cases h
  · exact .inr h
theorem sqT_but {K : PySem.W.Frag} {H H' : Hp} {p a : Addr} {c : Nat} {xs : List V} (k : Off (fun a => a = p) H H') (hp : Pu H p c) (h : SqT K H a xs) : SqT K H' a xs := by
  rcases h with (h | ⟨o, h⟩) | h
  · refine .inl (.inl (k _ _ h fun z => ?_))
    obtain ⟨x, y, z2, e, _⟩ := hp
    rw [z, e] at h
    cases h
  · refine .inl (.inr ⟨o, k _ _ h fun z => ?_⟩)
    obtain ⟨x, y, z2, e, _⟩ := hp
    rw [z, e] at h
    cases h
  · exact .inr h
theorem strs_noInt {cs : List Str} (x y z : Int) : cs.map V.str ≠ [.int x, .int y, .int z] := fun e => by
  cases cs with
  | nil => cases e
  | cons c cs => cases e
theorem pu_hide {H : Hp} {f p : Addr} {c : Nat} (h : Pu H p c) (n : p ≠ f) : Pu (hide f H) p c := h.at (hide_ne n)
theorem noInt_ruls (rs : List Rul) : noInt (rulsD rs) = true := by
  rw [rbsD_of]
  exact noInt_rbs _
theorem noInt_rul (r : Rul) : noInt (rulD r) = true := by
  rw [rbD_of]
  simp only [rbD, noInt]
  exact noInt_rb _
theorem rbS_of {mt mc : Nat} {ts : List Tab} {r : Rul} (h : RulOk ts r) (tk : TabsOk mt mc ts) : RbS ts (rbOf r) := by
  obtain ⟨t, ht, e1, e2, e3⟩ := h
  obtain ⟨x, cs, o⟩ := r
  have e1 : x = t.1 := e1
  have e2 : cs.Sublist t.2 := e2
  subst e1
  cases o with
  | none => exact ⟨"key", t.1, cs, [], t, rfl, .inl ⟨rfl, rfl⟩, tabOf_nd tk.nd ht, fun c hc => e2.subset (by simpa using hc)⟩
  | some y =>
    refine ⟨"settles", t.1, cs, [y], t, rfl, .inr ⟨rfl, rfl⟩, tabOf_nd tk.nd ht, fun c hc => ?_⟩
    rcases List.mem_append.mp hc with hc | hc
    · exact e2.subset hc
    · rw [List.mem_singleton.mp hc]
      exact e3 y rfl
theorem RbOk.turn {n m m' : Nat} {hd cs cs' tl : List Str} (h : RbOk n m (hd, some (cs, tl))) (l : cs'.length ≤ m') (s : ∀ x ∈ cs', x ∈ cs) : RbOk n m' (hd, some (cs', tl)) := by
  obtain ⟨_, g, t1, t2⟩ := h.cs cs tl rfl
  refine ⟨h.head, h.hg, fun _ => h.two (by simp), fun a b e => ?_⟩
  cases e
  exact ⟨l, fun x hx => g x (s x hx), t1, t2⟩
/-- the parts of a rule with a form -/
theorem dp_rb {K : PySem.W.Frag} {H : Hp} {v : V} {k x : Str} {cs tl : List Str} (h : Dp K H v (rbD ([k, x], some (cs, tl)))) : ∃ a c, v = .ref a ∧ SqT K H a (.str k :: .str x :: .ref c :: tl.map V.str) ∧ SqL K H c (cs.map V.str) := by
  cases h with
  | tup h r =>
    cases r with
    | cons h1 r =>
      cases h1
      cases r with
      | cons h2 r =>
        cases h2
        cases r with
        | cons h3 r =>
          obtain ⟨c, rfl, sc⟩ := dp_cols h3
          rw [dpAll_strs r] at h
          exact ⟨_, c, rfl, h, sc⟩
theorem dp_rb_mk {K : PySem.W.Frag} {H : Hp} {a c : Addr} {k x : Str} {cs tl : List Str} (h : SqT K H a (.str k :: .str x :: .ref c :: tl.map V.str)) (sc : SqL K H c (cs.map V.str)) : Dp K H (.ref a) (rbD ([k, x], some (cs, tl))) :=
  .tup h (.cons (.str k) (.cons (.str x) (.cons (.lst sc (dp_strs cs)) (dp_strs tl))))
theorem tu_tail {K : PySem.W.Frag} {G : Hp} {p wa fo a c e : Addr} {acc : List V} {k x : Str} {tl : List Str} {D : Ends} (sa : SqT K G a (.str k :: .str x :: .ref c :: tl.map V.str)) (ea : G fo = some (.lst acc)) (la : acc.length ≤ 1000) (lt : tl.length = 0 ∨ tl.length = 1)
    (q : ∀ m Gm, Off (fun _ => False) G Gm → G m = none → Gm m = some (.tup (.str k :: .str x :: .ref e :: tl.map V.str)) → D.nx [some (.ref p), some (.ref wa), some (.ref fo), some (.ref a), some (.ref e)] (upd Gm fo (.lst (acc ++ [.ref m])))) :
    tDrop (tBM K "list" rAppend (tVar 2) (tCons (tOp (rCatT K) (tOp (rCatT K) (tSl (rSlT K) (tVar 3) tNoPart (tPart (tC (.int 2)))) (tTup (tCons (tVar 4) tNil))) (tSl (rSlT K) (tVar 3) (tPart (tC (.int 3))) tNoPart)) tNil)) D
      [some (.ref p), some (.ref wa), some (.ref fo), some (.ref a), some (.ref e)] G := by
  have no : ¬ False := id
  have fin : acc.length < sizeLine := Nat.lt_of_le_of_lt la (by decide)
  have ecut2 : cutV (V.str k :: V.str x :: V.ref c :: tl.map V.str) none (some 2) = [.str k, .str x] := by
    rw [cutV_head (by decide)]
    rfl
  have ecut3 : cutV (V.str k :: V.str x :: V.ref c :: tl.map V.str) (some 3) none = tl.map V.str := by
    rw [cutV_tail (by decide)]
    rfl
  have len : (V.str k :: V.str x :: V.ref c :: tl.map V.str).length = tl.length + 3 := by simp
  refine ⟨_, rfl, .inl ⟨rfl, _, SqL.of ea⟩, _, rfl, _, rfl, a, _, rfl, sa, ?_, fun m1 n1 => ?_⟩
  · rw [len]
    rintro ⟨_, z⟩
    have : HT.sIx (tl.length + 3) (tl.length + 3) (some ((2 : Nat) : Int)) = tl.length + 3 := z
    rw [HT.sIx_nat] at this
    omega
  rw [ecut2]
  have k1 : Off (fun _ => False) G (upd G m1 (.tup [.str k, .str x])) := Off.new n1
  have e1 := upd_same (H := G) (a := m1) (o := .tup [.str k, .str x])
  generalize upd G m1 (.tup [.str k, .str x]) = G1 at k1 e1 ⊢
  refine ⟨_, rfl, (by show 1 ≤ sizeLine; decide), fun m2 n2 => ?_⟩
  have k2 : Off (fun _ => False) G1 (upd G1 m2 (.tup [.ref e])) := Off.new n2
  have e2 := upd_same (H := G1) (a := m2) (o := .tup [.ref e])
  generalize upd G1 m2 (.tup [.ref e]) = G2 at k2 e2 ⊢
  refine ⟨m1, m2, _, _, rfl, rfl, SqT.of (k2 _ _ e1 no), SqT.of e2, by simp, (by show 3 ≤ sizeLine; decide), (fun z => by cases z), fun _ m3 n3 => ?_⟩
  have k3 : Off (fun _ => False) G2 (upd G2 m3 (.tup ([.str k, .str x] ++ [.ref e]))) := Off.new n3
  have e3 := upd_same (H := G2) (a := m3) (o := .tup ([.str k, .str x] ++ [.ref e]))
  generalize upd G2 m3 (.tup ([.str k, .str x] ++ [.ref e])) = G3 at k3 e3 ⊢
  have k13 := (k1.trans k2).trans k3
  refine ⟨_, rfl, _, rfl, a, _, rfl, sqT_off k13 sa, ?_, fun m4 n4 => ?_⟩
  · rw [len]
    rintro ⟨z, _⟩
    have : HT.sIx (tl.length + 3) 0 (some ((3 : Nat) : Int)) = 0 := z
    rw [HT.sIx_nat] at this
    omega
  rw [ecut3]
  have k4 : Off (fun _ => False) G3 (upd G3 m4 (.tup (tl.map V.str))) := Off.new n4
  have e4 := upd_same (H := G3) (a := m4) (o := .tup (tl.map V.str))
  generalize upd G3 m4 (.tup (tl.map V.str)) = G4 at k4 e4 ⊢
  have k14 := k13.trans k4
  refine ⟨m3, m4, _, _, rfl, rfl, SqT.of (k4 _ _ e3 no), SqT.of e4, by simp, ?_, fun z => ?_, fun _ m5 n5 => ?_⟩
  · rw [List.length_map]
    exact Nat.le_trans (m := 10) (by show 3 + tl.length ≤ 10; omega) (by decide)
  · have z : tl = [] := List.map_eq_nil_iff.mp z
    subst z
    refine ⟨fo, acc, _, rfl, rfl, k14 _ _ ea no, fin, q m3 G4 k14 ?_ (k4 _ _ e3 no)⟩
    exact (k1.trans k2).none n3 no
  · have k5 : Off (fun _ => False) G4 (upd G4 m5 (.tup ([.str k, .str x] ++ [.ref e] ++ tl.map V.str))) := Off.new n5
    exact ⟨fo, acc, _, rfl, rfl, (k14.trans k5) _ _ ea no, fin, q m5 _ (k14.trans k5) (k14.none n5 no) upd_same⟩
def spShape (K : PySem.W.Frag) : Sp := fun vs H Q _ => ∃ (p : Addr) (c : Nat), vs = [.ref p] ∧ Pu H p c ∧ c + 2000 ≤ 1000000000 ∧
  ∀ (a : Addr) (v w : V) (ts : List Tab) (rs : List Rul) (H' : Hp) (c' : Nat), H a = none → H' a = some (.tup [v, w]) → Dp K H' v (tabsD ts) → TabsOk 6 8 ts → Dp K H' w (rulsD rs) → Dp K (hide a H') w (rulsD rs) → (∀ r ∈ rs, RulOk ts r) → rs.length ≤ 20 → Pu H' p c' → c' ≤ c + 1600 → Off (fun a => a = p) H H' → Q (.ref a) H'
def spTurned (K : PySem.W.Frag) : Sp := fun vs H Q _ => ∃ (p f : Addr) (w : V) (ts : List Tab) (rs : List Rul) (c : Nat), vs = [.ref p, w] ∧ Pu H p c ∧ c + 30 ≤ 1000000000 ∧ TabsOk 6 8 ts ∧ p ≠ f ∧ (∃ o, H f = some o) ∧ Dp K (hide f H) w (rulsD rs) ∧ (∀ r ∈ rs, RulOk ts r) ∧ rs.length ≤ 20 ∧
  ∀ (v : V) (rb : List RB) (H' : Hp) (c' : Nat), Dp K (hide f H') v (rbsD rb) → (∀ r ∈ rb, RbS ts r) → (∀ r ∈ rb, RbOk 8 9 r) → rb.length ≤ 20 → Pu H' p c' → c' ≤ c + 20 → Off (fun a => a = p) H H' → Q v H'
section
variable {P : Program} {w : World} {K : PySem.W.Frag} {mg : Str → Option Value} {base : Heap}
theorem scShape : FnScope ["purse", "is_small", "tables_here"] ["purse"] (defScope sShape) := ⟨rfl, rfl, rfl, by decide +kernel, rfl, by decide +kernel, by decide +kernel⟩
theorem ok_shape {f fC fT fR : Addr} {fd dC dT dR : FuncData} (F : FnP K "_law_shape" sShape f fd) (C : Dn P w K mg base 1 "_law_coin" ["purse", "many"] spCoin fC dC)
    (T : Dn P w K mg base 3 "_law_drawn_tables" ["purse", "most_tables", "most_columns"] spDrawnTables fT dT) (R : Dn P w K mg base 2 "_law_drawn_rules" ["purse", "tables_here", "most"] (spDrawnRules K) fR dR) :
    FnOk P w K mg base CX0 4 f fd ["purse"] (spShape K) := by
  refine F.ok scShape (fun vs H Q E h => ?_) (fun cdv A outer s H vs Q E hr h => ?_)
  · obtain ⟨p, c, rfl, _⟩ := h
    rfl
  obtain ⟨p, c, rfl, hp, hc, q⟩ := h
  refine ⟨_, PSs.nox (pss_cons (ps_set (i := 1) scShape.nd rfl (Or.inl rfl) (pe_cmpR op_gt (pe_call C.g (hr.mono (by decide)) rfl C.m C.kp C.b .nil pass0 (pa_cons (pv 0) (pa_cons pe_int pa_nil))) pe_int (nomark _)))
    (pss_cons (ps_set (i := 2) scShape.nd rfl (Or.inl rfl) (pe_call T.g hr rfl T.m T.kp T.b .nil pass0 (pa_cons (pv 0) (pa_cons (pe_ifExp (pt_val (pv 1)) pe_int pe_int) (pa_cons (pe_ifExp (pt_val (pv 1)) pe_int pe_int) pa_nil)))))
    (pss_one (ps_ret (pe_tup (pa_cons (pv 2) (pa_cons (pe_call R.g (hr.mono (by decide)) rfl R.m R.kp R.b .nil pass0 (pa_cons (pv 0) (pa_cons (pv 2) (pa_cons (pe_ifExp (pt_val (pv 1)) pe_int pe_int) pa_nil)))) pa_nil))))))), ?_⟩
  refine ⟨_, rfl, p, 3, c, rfl, hp, by omega, by decide, by decide, fun i H1 i0 i1 hp1 b1 => ⟨_, _, rfl, rfl, ?_⟩⟩
  dsimp only
  generalize decide ((0 : Int) < i) = sm
  have k1 := b1.off
  have fin : ∀ (ts : List Tab) (rs : List Rul) (D D2 : Addr) (H2 H3 : Hp) (c2 c3 : Nat), TabsOk 6 8 ts → Dp K H2 (.ref D) (tabsD ts) → Pu H2 p c2 → c2 ≤ c + 1 + 300 → Off (fun a => a = p) H1 H2 → rs.length ≤ 20 → (∀ r ∈ rs, RulOk ts r) → Dp K H3 (.ref D2) (rulsD rs) → Pu H3 p c3 → c3 ≤ c2 + 1200 → Off (fun a => a = p) H2 H3 →
      2 ≤ sizeLine ∧ ∀ t, H3 t = none → Q (.ref t) (upd H3 t (.tup [.ref D, .ref D2])) := by
    intro ts rs D D2 H2 H3 c2 c3 tk dv hp2 hc2 k2 lr hr2 dw hp3 hc3 k3
    refine ⟨by decide, fun t nt => ?_⟩
    have kn : Off (fun _ => False) H3 (upd H3 t (.tup [.ref D, .ref D2])) := Off.new nt
    have k13 := (k1.trans k2).trans k3
    refine q t (.ref D) (.ref D2) ts rs _ c3 (k13.none nt fun z => ?_) upd_same (dp_off kn (dp_but k3 hp2 dv (noInt_tabs ts))) tk (dp_off kn dw) (dp_off (hide_of nt kn) dw) hr2 lr (hp3.off kn id) (by omega) (k13.trans (Off.in kn))
    obtain ⟨xs, e⟩ := hp3.lst
    rw [← z, nt] at e
    cases e
  cases sm
  · refine ⟨_, rfl, _, rfl, false, rfl, iteF ⟨_, rfl, false, rfl, iteF ⟨p, 6, 8, c + 1, rfl, by decide, by decide, by decide, by decide, hp1, by omega, fun ts D F H2 c2 tk ow fr hp2 hc2 k2 => ?_⟩⟩⟩
    refine ⟨_, rfl, _, rfl, _, rfl, _, rfl, false, rfl, iteF ⟨p, .ref D, ts, 6, 8, 20, c2, rfl, ow.dp, tk, by decide, by decide, by decide, hp2, by omega, fun rs D2 F2 H3 c3 lr hr2 ow2 fr2 hp3 hc3 k3 => ?_⟩⟩
    exact fin ts rs D D2 H2 H3 c2 c3 (tk.mono (by decide) (by decide)) ow.dp hp2 hc2 k2 (Nat.le_trans lr (by decide)) hr2 ow2.dp hp3 hc3 k3
  · refine ⟨_, rfl, _, rfl, true, rfl, iteT ⟨_, rfl, true, rfl, iteT ⟨p, 3, 4, c + 1, rfl, by decide, by decide, by decide, by decide, hp1, by omega, fun ts D F H2 c2 tk ow fr hp2 hc2 k2 => ?_⟩⟩⟩
    refine ⟨_, rfl, _, rfl, _, rfl, _, rfl, true, rfl, iteT ⟨p, .ref D, ts, 3, 4, 5, c2, rfl, ow.dp, tk, by decide, by decide, by decide, hp2, by omega, fun rs D2 F2 H3 c3 lr hr2 ow2 fr2 hp3 hc3 k3 => ?_⟩⟩
    exact fin ts rs D D2 H2 H3 c2 c3 (tk.mono (by decide) (by decide)) ow.dp hp2 hc2 k2 (Nat.le_trans lr (by decide)) hr2 ow2.dp hp3 hc3 k3
end
end LW
set_option Elab.async false
set_option linter.all false
set_option maxRecDepth 100000
set_option maxHeartbeats 0
/-! _law_looked -/
namespace LW
open PySem PySem.Spec PyProof.Rows L2 KV
def spLooked (K : PySem.W.Frag) : Sp := fun vs H Q _ => ∃ (p b : Addr) (v w : V) (ts : List Tab) (rs : List RB) (c : Nat), vs = [.ref p, .ref b, v, w] ∧ BookOf K H b ts rs ∧ TabsW 8 8 6 ts ∧ (ts.map Prod.fst).Nodup ∧ tabOf ts "" = none ∧ (∀ r ∈ rs, RbOk 8 9 r) ∧ rs.length ≤ 20 ∧ Dp K H v (tabsD ts) ∧ Dp K H w (rbsD rs) ∧ Pu H p c ∧ c + 30 ≤ 1000000000 ∧
  ∀ H' c', Pu H' p c' → c' ≤ c + 10 → Off (fun a => a = p) H H' → Q (.bl true) H'
theorem sz_tab8 {ts : List Tab} (h : TabsW 8 8 6 ts) : Sz 8 [6, 2, 8] (tabsD ts) := ⟨fit_tabsW h, by decide, by decide, by decide, by decide⟩
theorem sz_rb8 {rs : List RB} (l : rs.length ≤ 20) (h : ∀ r ∈ rs, RbOk 8 9 r) : Sz 8 [20, 5, 9] (rbsD rs) := ⟨fit_rbs l h, by decide, by decide, by decide, by decide⟩
section
variable {P : Program} {w : World} {K : PySem.W.Frag} {mg : Str → Option Value} {base : Heap}
end
end LW
set_option Elab.async false
set_option linter.all false
set_option maxRecDepth 100000
set_option maxHeartbeats 0
/-! _law_right of k02 -/
namespace LW
open PySem PySem.Spec PyProof.Rows L2 KV
open C8 (InsC call_isC)
abbrev Shp := List Tab × List RB
def shD (o : Shp) : PyData := .tuple [tabsD o.1, rbsD o.2]
structure ShOk (o : Shp) : Prop where
  tk : TabsOk 6 8 o.1
  rs : ∀ r ∈ o.2, RbS o.1 r
  ok : ∀ r ∈ o.2, RbOk 8 9 r
  len : o.2.length ≤ 20
theorem noInt_sh (o : Shp) : noInt (shD o) = true := by simp [shD, noInt, noIntAll, noInt_tabs, noInt_rbs]
theorem noInt_shs (os : List Shp) : noIntAll (os.map shD) = true := noIntAll_of fun d hd => by
  obtain ⟨o, _, rfl⟩ := List.mem_map.mp hd
  exact noInt_sh o
theorem dp_pair {K : PySem.W.Frag} {H : Hp} {v : V} {d e : PyData} (h : Dp K H v (.tuple [d, e])) : ∃ a x y, v = .ref a ∧ SqT K H a [x, y] ∧ Dp K H x d ∧ Dp K H y e := by
  cases h with
  | tup h r =>
    cases r with
    | cons h1 r =>
      cases r with
      | cons h2 r =>
        cases r
        exact ⟨_, _, _, rfl, h, h1, h2⟩
theorem dp_two {K : PySem.W.Frag} {H : Hp} {v : V} {d e : PyData} (h : Dp K H v (.list [d, e])) : ∃ a x y, v = .ref a ∧ SqL K H a [x, y] ∧ Dp K H x d ∧ Dp K H y e := by
  cases h with
  | lst h r =>
    cases r with
    | cons h1 r =>
      cases r with
      | cons h2 r =>
        cases r
        exact ⟨_, _, _, rfl, h, h1, h2⟩
/-- the parts of the two shapes -/
structure ShAt (K : PySem.W.Frag) (H : Hp) (D t1 t2 : Addr) (v1 w1 v2 w2 : V) (o1 o2 : Shp) : Prop where
  sq : SqL K H D [.ref t1, .ref t2]
  s1 : SqT K H t1 [v1, w1]
  s2 : SqT K H t2 [v2, w2]
  a1 : Dp K H v1 (tabsD o1.1)
  b1 : Dp K H w1 (rbsD o1.2)
  a2 : Dp K H v2 (tabsD o2.1)
  b2 : Dp K H w2 (rbsD o2.2)
theorem sh_at {K : PySem.W.Frag} {H : Hp} {D : Addr} {o1 o2 : Shp} (h : Dp K H (.ref D) (.list [shD o1, shD o2])) : ∃ t1 t2 v1 w1 v2 w2, ShAt K H D t1 t2 v1 w1 v2 w2 o1 o2 := by
  obtain ⟨a, x, y, e, sq, h1, h2⟩ := dp_two h
  cases e
  obtain ⟨t1, v1, w1, rfl, s1, a1, b1⟩ := dp_pair h1
  obtain ⟨t2, v2, w2, rfl, s2, a2, b2⟩ := dp_pair h2
  exact ⟨t1, t2, v1, w1, v2, w2, sq, s1, s2, a1, b1, a2, b2⟩
theorem ShAt.off {K : PySem.W.Frag} {H H' : Hp} {D t1 t2 : Addr} {v1 w1 v2 w2 : V} {o1 o2 : Shp} (h : ShAt K H D t1 t2 v1 w1 v2 w2 o1 o2) (k : Off (fun _ => False) H H') : ShAt K H' D t1 t2 v1 w1 v2 w2 o1 o2 :=
  ⟨sqL_off k h.sq, sqT_off k h.s1, sqT_off k h.s2, dp_off k h.a1, dp_off k h.b1, dp_off k h.a2, dp_off k h.b2⟩
theorem ShAt.but {K : PySem.W.Frag} {H H' : Hp} {p D t1 t2 : Addr} {c : Nat} {v1 w1 v2 w2 : V} {o1 o2 : Shp} (h : ShAt K H D t1 t2 v1 w1 v2 w2 o1 o2) (k : Off (fun a => a = p) H H') (hp : Pu H p c) : ShAt K H' D t1 t2 v1 w1 v2 w2 o1 o2 :=
  ⟨sqL_but k hp h.sq fun _ _ _ e => (by cases e), sqT_but k hp h.s1, sqT_but k hp h.s2, dp_but k hp h.a1 (noInt_tabs _), dp_but k hp h.b1 (noInt_rbs _), dp_but k hp h.a2 (noInt_tabs _), dp_but k hp h.b2 (noInt_rbs _)⟩
theorem tabOf_empty {mt mc : Nat} {ts : List Tab} (tk : TabsOk mt mc ts) : tabOf ts "" = none := by
  unfold tabOf
  rw [List.find?_eq_none]
  intro t ht z
  have h := (tk.each t ht).name.1
  rw [of_decide_eq_true z] at h
  exact absurd h (by decide)
def shR (o : List Tab × List Rul) : PyData := .tuple [tabsD o.1, rulsD o.2]
theorem noInt_shR (o : List Tab × List Rul) : noInt (shR o) = true := by simp [shR, noInt, noIntAll, noInt_tabs, noInt_ruls]
section
variable {P : Program} {w : World} {K : PySem.W.Frag} {mg : Str → Option Value} {base : Heap}
end
end LW
set_option Elab.async false
set_option linter.all false
set_option maxRecDepth 100000
set_option maxHeartbeats 4000000
/-! != of own instances with an own __eq__ and no own __ne__. -/
namespace KV
open PySem PySem.Spec PyProof.Rows L2
section
variable {prog : Program} {w : World} {A : Around} {E : Value → Shared → Prop} {s : Shared} {K : PySem.W.Frag} {x y C f : Addr} {ox oy : Obj} {od od' : Option Obj}
theorem entry_neO (hu : A.units < cLine) (X : K.In s.heap) (I : PySem.W.InstAt s.heap x ox C od) (hs : PySem.W.findIn K (.ref C) "__eq__" = some (some (.ref f))) (hf : PySem.W.isFn K (.ref f) = true) {Q : Fin → Shared → Prop}
    (h : wpAny (model prog w) A (call (.ref f) [.ref x, .ref y]) (fun v s' => ∃ b, v = .bool b ∧ Q (.done (.ret (.bool (!b)))) s') E s) : wpAny (model prog w) A (Builtin.«object.__ne__» ⟨[.ref x, .ref y], []⟩) Q E s := by
  unfold Builtin.«object.__ne__»
  repeat (first
    | with_reducible refine wpAny_cRoomFor hu ?_
    | (refine wpAny_bind (m := callSpecialIfBound? (.ref x) (Str.ofString "__eq__") [.ref y]) (PySem.W.ifBound_K X I hs hf (wpAny_mono h (fun r s' hr => by
          obtain ⟨b, rfl, hq⟩ := hr
          repeat (first | exact hq | exact wpAny_pure hq | exact wpAny_truthy_bool hq | (refine wpAny_bind (m := truthy (.bool _)) (wpAny_truthy_bool ?_)) | wp_step)) fun _ _ e => e)))
    | wp_step)
theorem call_objNe {Q : Value → Shared → Prop} (hu : A.in1.units < cLine) (X : K.In s.heap) (I : PySem.W.InstAt s.heap x ox C od) (hm : PySem.W.mroIn K C (.type "object") = some true)
    (hs : PySem.W.findIn K (.ref C) "__eq__" = some (some (.ref f))) (hf : PySem.W.isFn K (.ref f) = true) (h : wpAny (model prog w) A.in1 (call (.ref f) [.ref x, .ref y]) (fun v s' => ∃ b, v = .bool b ∧ Q (.bool (!b)) s') E s) :
    wpAny (model prog w) A (call (.builtin "object.__ne__") [.ref x, .ref y]) Q E s :=
  wpAny_call (codeAny_call_builtin F.cmp_object.ne.plain F.cmpEntry_ne (PySem.W.check_slot F.cmpKind_ne F.cmpSplit_ne (I.type.andThen (PySem.W.looks_mroIn X hm)) (F.cmpArgs_ne _ _) (entry_neO hu X I hs hf h)))
theorem ifBound_objNe {M : Model} {args : List Value} {Q : Option Value → Shared → Prop} (X : K.In s.heap) (I : PySem.W.InstAt s.heap x ox C od) (hn : PySem.W.findIn K (.ref C) "__ne__" = some (some (.builtin "object.__ne__")))
    (h : wpAny M A (call (.builtin "object.__ne__") (.ref x :: args)) (fun v => Q (some v)) E s) : wpAny M A (callSpecialIfBound? (.ref x) "__ne__" args) Q E s := by
  unfold callSpecialIfBound? bindSpecialIfBound?
  refine wpAny_holding (wpAny_bind (wpAny_bind (wpAny_bind (I.type.here ((PySem.W.looks_findIn X hn).here ?_)))))
  have fin : wpAny M A (do
      let v ← call (.builtin "object.__ne__") ([.ref x] ++ args)
      pure (some v)) Q E s := wpAny_bind (wpAny_mono h (fun v s' h' => wpAny_pure h') fun _ _ h' => h')
  refine wpAny_bind (wpAny_askSetting (wpAny_ite ?_))
  split
  · exact wpAny_bind (wpAny_of_eq (F.cmp_object.ne.bind _) (wpAny_pure fin))
  · exact wpAny_tryCatch (wpAny_bind (wpAny_of_eq (F.cmp_object.ne.bind _) (wpAny_pure fin)))
theorem rc_neO {Q : Value → Shared → Prop} (hu : A.units < cLine) (hu1 : A.in1.units < cLine) (X : K.In s.heap) (I : PySem.W.InstAt s.heap x ox C od) (J : PySem.W.InstAt s.heap y oy C od') (hm : PySem.W.mroIn K C (.type "object") = some true)
    (hn : PySem.W.findIn K (.ref C) "__ne__" = some (some (.builtin "object.__ne__"))) (hs : PySem.W.findIn K (.ref C) "__eq__" = some (some (.ref f))) (hf : PySem.W.isFn K (.ref f) = true)
    (h : wpAny (model prog w) A.in1 (call (.ref f) [.ref x, .ref y]) (fun v s' => ∃ b, v = .bool b ∧ Q (.bool (!b)) s') E s) : wpAny (model prog w) A (richCompare .NotEq (.ref x) (.ref y)) Q E s := by
  have one : wpAny (model prog w) A (tryCompare (.ref x) "__ne__" (.ref y)) (fun r s' => ∃ b, r = some (.bool b) ∧ Q (.bool b) s') E s := by
    unfold tryCompare
    refine wpAny_bind (ifBound_objNe X I hn (call_objNe hu1 X I hm hs hf (wpAny_mono h (fun v s' hv => ?_) fun _ _ e => e)))
    obtain ⟨b, rfl, hq⟩ := hv
    exact ⟨b, rfl, wpAny_pure ⟨!b, rfl, hq⟩⟩
  unfold richCompare
  simp only [oneThing_ref, cmpInfo_NotEq]
  refine wpAny_holding (wpAny_bind (wpAny_cRoomFor hu ?_))
  refine wpAny_bind (I.type.here (wpAny_bind (J.type.here ?_)))
  split
  · rename_i q
    simp at q
  · refine wpAny_bind (wpAny_pure ?_)
    rw [if_neg (by decide)]
    refine wpAny_bind (m := tryCompare (.ref x) _ (.ref y)) (wpAny_mono one (fun r s' z => ?_) fun _ _ e => e)
    obtain ⟨b, rfl, hq⟩ := z
    exact wpAny_pure hq
end
/-- x == y, x != y of two instances of the class at C, whose own == is the def that promises sp -/
def rEqO (C : Addr) (sp : Sp) (g : Bool → Bool) : R2 := fun x y H Q => ∃ a b dx dy fs gs, x = .ref a ∧ y = .ref b ∧ H a = some (.ins C dx fs) ∧ H b = some (.ins C dy gs) ∧ sp [.ref a, .ref b] H (fun v H' => ∃ r : Bool, v = .bl r ∧ Q (.bl (g r)) H') fun _ _ _ => False
section
variable {X : Cx} {n : Nat} {C f : Addr} {fd : FuncData} {ps : List Str} {sp : Sp}
theorem run_eqO {A : Around} {pins : List (Addr × Obj)} {s : Shared} {σ : L2.St} {H : Hp} {a b : Addr} {G : V → Hp → Prop} {Qv : Value → Shared → Prop} (F : FnOk X.prog X.w X.K X.mg X.base CX0 n f fd ps sp) (hb : Binds X.K fd ps []) (I : Inv X pins σ H s) (hr : Room n A) (e0 : Env0 X.prog X.w X.K X.mg X.base A X.stack s H)
    (h : sp [.ref a, .ref b] H (fun v H' => ∃ r : Bool, v = .bl r ∧ G (.bl r) H') fun _ _ _ => False) (q : ∀ r H' s', Inv X pins σ H' s' → G (.bl r) H' → Qv (.bool r) s') :
    wpAny (model X.prog X.w) A (call (.ref f) [.ref a, .ref b]) Qv X.xe s := by
  have hl := F.len _ _ _ _ h
  have r2 : Vals [V.ref a, V.ref b] [Value.ref a, Value.ref b] := .cons rfl (.cons rfl .nil)
  refine wpAny_call (codeAny_mono (F.run A X.stack s H ⟨[.ref a, .ref b], []⟩ [.ref a, .ref b] [.ref a, .ref b] _ (fun _ _ _ => False) hr e0 (by
    have := hb s [.ref a, .ref b] I.kIn (by simpa using hl)
    simpa using this) r2 h) fun r s' hq => ?_)
  cases r with
  | error e => exact hq.elim
  | ok fl =>
    cases fl with
    | ret w =>
      obtain ⟨z, H', I', rz, r, ez, qz⟩ := I.after hq
      subst ez
      cases rz
      exact q r H' s' I' qz
    | next => exact False.elim hq
    | brk => exact False.elim hq
    | cont => exact False.elim hq
theorem op_neO (F : FnOk X.prog X.w X.K X.mg X.base CX0 n f fd ps sp) (hn : PySem.W.findIn X.K (.ref C) "__ne__" = some (some (.builtin "object.__ne__"))) (hm : PySem.W.mroIn X.K C (.type "object") = some true)
    (hs : PySem.W.findIn X.K (.ref C) "__eq__" = some (some (.ref f))) (hf : PySem.W.isFn X.K (.ref f) = true) (hb : Binds X.K fd ps []) (hr : Room (n + 1) X.A) : OpR X (compareOp .NotEq) (rEqO C sp fun r => !r) := by
  intro pins s σ H x y v u Q I rx ry hq
  obtain ⟨a, b, dx, dy, fs, gs, rfl, rfl, ha, hb', q⟩ := hq
  cases rx
  cases ry
  obtain ⟨mA, J, _⟩ := ins_get I.hok ha
  obtain ⟨mB, J', _⟩ := ins_get I.hok hb'
  obtain ⟨od, J, _⟩ := J.look
  obtain ⟨od', J', _⟩ := J'.look
  show wpAny (model X.prog X.w) X.A (richCompare .NotEq (.ref a) (.ref b)) (EP X pins σ Q) X.xe s
  exact rc_neO hr.units0 hr.in1.units0 I.kIn J J' hm hn hs hf (run_eqO (G := fun v H' => ∃ r : Bool, v = .bl r ∧ Q (.bl (!r)) H') F hb I hr.in1 I.env0.in1 (by
    refine (show sp [.ref a, .ref b] H _ _ = sp [.ref a, .ref b] H _ _ from ?_).mp q
    congr 1
    funext v H'
    exact propext ⟨fun ⟨r, e, h⟩ => ⟨r, e, r, rfl, h⟩, fun ⟨r, e, r', e', h⟩ => ⟨r, e, by cases e'; exact h⟩⟩) fun r H' s' I' ⟨r', e, h⟩ => by
      cases e
      exact ⟨r, rfl, .bl (!r), H', I', rfl, h⟩)
theorem op_eqO (F : FnOk X.prog X.w X.K X.mg X.base CX0 n f fd ps sp) (hs : PySem.W.findIn X.K (.ref C) "__eq__" = some (some (.ref f))) (hf : PySem.W.isFn X.K (.ref f) = true) (hb : Binds X.K fd ps []) (hr : Room (n + 1) X.A) : OpR X (compareOp .Eq) (rEqO C sp fun r => r) := by
  intro pins s σ H x y v u Q I rx ry hq
  obtain ⟨a, b, dx, dy, fs, gs, rfl, rfl, ha, hb', q⟩ := hq
  cases rx
  cases ry
  obtain ⟨mA, J, _⟩ := ins_get I.hok ha
  obtain ⟨mB, J', _⟩ := ins_get I.hok hb'
  obtain ⟨od, J, _⟩ := J.look
  obtain ⟨od', J', _⟩ := J'.look
  obtain ⟨m, hF⟩ := I.fr
  show wpAny (model X.prog X.w) X.A (richCompare .Eq (.ref a) (.ref b)) (EP X pins σ Q) X.xe s
  refine PySem.W.cmp_K (op := .Eq) (tb := .ref C) hr.units0 hF I.ok.mod.kin J J'.type (by simp [PySem.W.notFirst]) hs hf ?_
  exact run_eqO (G := Q) F hb I (hr.mono (Nat.le_succ n)) I.env0 q fun r H' s' I' h => ⟨.bl r, H', I', rfl, h⟩
end
end KV
set_option Elab.async false
set_option linter.all false
set_option maxRecDepth 100000
set_option maxHeartbeats 0
/-! Book.__eq__ -/
namespace LW
open PySem PySem.Spec PyProof.Rows L2 KV
open C8 (InsC call_isC)
theorem layAll_of : ∀ {ds : List PyData}, (∀ d ∈ ds, d.canLay0 = true) → PyData.canLayAll0 ds = true
  | [], _ => by simp [PyData.canLayAll0]
  | d :: ds, h => by
    simp only [PyData.canLayAll0, Bool.and_eq_true]
    exact ⟨h d List.mem_cons_self, layAll_of fun e he => h e (List.mem_cons_of_mem _ he)⟩
theorem lay_cols {cs : List Str} (h : ∀ x ∈ cs, Asc x) : (colsD cs).canLay0 = true := by
  simp only [colsD, PyData.canLay0]
  exact lay_strs h
theorem lay_tabs {n mc mt : Nat} {ts : List Tab} (h : TabsW n mc mt ts) : (tabsD ts).canLay0 = true := by
  simp only [tabsD, PyData.canLay0]
  refine layAll_of fun d hd => ?_
  obtain ⟨t, ht, rfl⟩ := List.mem_map.mp hd
  have tb := h.each t ht
  simp only [tabD, PyData.canLay0, PyData.canLayAll0, Bool.and_eq_true, Bool.and_true]
  exact ⟨strOk_asc tb.name.1, lay_cols fun x hx => (tb.good x hx).1⟩
theorem lay_rb {n m : Nat} {r : RB} (h : RbOk n m r) : (rbD r).canLay0 = true := by
  obtain ⟨hd, o⟩ := r
  simp only [rbD, PyData.canLay0]
  have hh : ∀ x ∈ hd, (PyData.str x).canLay0 = true := fun x hx => by
    simp only [PyData.canLay0]
    exact strOk_asc (h.hg x hx).1
  refine layAll_of fun d hd' => ?_
  cases o with
  | none =>
    obtain ⟨x, hx, rfl⟩ := List.mem_map.mp (show d ∈ hd.map PyData.str from hd')
    exact hh x hx
  | some z =>
    obtain ⟨cs, tl⟩ := z
    obtain ⟨_, g, _, g2⟩ := h.cs cs tl rfl
    rcases List.mem_append.mp (show d ∈ hd.map PyData.str ++ colsD cs :: tl.map PyData.str from hd') with hd' | hd'
    · obtain ⟨x, hx, rfl⟩ := List.mem_map.mp hd'
      exact hh x hx
    · rcases List.mem_cons.mp hd' with rfl | hd'
      · exact lay_cols fun x hx => (g x hx).1
      · obtain ⟨x, hx, rfl⟩ := List.mem_map.mp hd'
        simp only [PyData.canLay0]
        exact strOk_asc (g2 x hx).1
theorem lay_rbs {n m : Nat} {rs : List RB} (h : ∀ r ∈ rs, RbOk n m r) : (rbsD rs).canLay0 = true := by
  simp only [rbsD, PyData.canLay0]
  refine layAll_of fun d hd => ?_
  obtain ⟨r, hr, rfl⟩ := List.mem_map.mp hd
  exact lay_rb (h r hr)
theorem shaped_of {b : Nat} {ms : List Nat} {d : PyData} (l : d.canLay0 = true) (f : KV.Fit b ms d) (m : ms.length ≤ 64) : SeqAt.shaped d = true := by
  unfold SeqAt.shaped
  rw [Bool.and_eq_true]
  exact ⟨l, decide_eq_true (Nat.le_trans f.ok.dp m)⟩
/-- books compare as their tables and rules do -/
def sameB (ts us : List Tab) (rs ws : List RB) : Bool := PyData.eqv (tabsD ts) (tabsD us) && PyData.eqv (rbsD rs) (rbsD ws)
def spEqBk (K : PySem.W.Frag) : Sp := fun vs H Q _ => ∃ (a b : Addr) (ts us : List Tab) (rs ws : List RB) (n mc mt N M L n' mc' mt' N' M' L' : Nat), vs = [.ref a, .ref b] ∧ BookOf K H a ts rs ∧ BookOf K H b us ws ∧ BkB n mc mt N M L ts rs ∧ BkB n' mc' mt' N' M' L' us ws ∧ Q (.bl (sameB ts us rs ws)) H
theorem sameB_refl {n mc mt N M L : Nat} {ts : List Tab} {rs : List RB} (h : BkB n mc mt N M L ts rs) : sameB ts ts rs rs = true := by
  unfold sameB
  rw [SeqAt.eqv_refl _ (lay_tabs h.tb), SeqAt.eqv_refl _ (lay_rbs h.rb)]
  rfl
section
variable {P : Program} {w : World} {K : PySem.W.Frag} {mg : Str → Option Value} {base : Heap}
theorem scEqBk : FnScope ["self", "other"] ["self", "other"] (defScope pBook_eq) := ⟨rfl, rfl, rfl, by decide +kernel, rfl, by decide +kernel, by decide +kernel⟩
theorem ok_eqBk {f : Addr} {fd : FuncData} (F : FunD K "__eq__" "Book.__eq__" (defArgs pBook_eq) (defBody pBook_eq) (defScope pBook_eq) [] [] f fd) (B : BookT K mg) (IC : InsC K (He.ga K "Book")) (mi : mg "isinstance" = none) :
    FnOk P w K mg base CX0 1 f fd ["self", "other"] (spEqBk K) := by
  refine F.ok scEqBk (fun vs H Q E h => ?_) (fun cdv A outer s H vs Q E hr h => ?_)
  · obtain ⟨a, b, _, _, _, _, _, _, _, _, _, _, _, _, _, _, _, _, rfl, _⟩ := h
    rfl
  obtain ⟨a, b, ts, us, rs, ws, n, mc, mt, N, M, L, n', mc', mt', N', M', L', rfl, ha, hb, ba, bb, q⟩ := h
  have hu : (A.deeper (envOfC "Book.__eq__" (defScope pBook_eq) s.heap.objs.size f cdv)).units + 64 < cLine := hr.units
  refine ⟨_, pss_one (ps_ret (pe_and (pe_callB (call_isC IC) rfl mi boot_isinstance (pa_cons (pv 1) (pa_cons (pe_glob (v := .ref (He.ga K "Book")) rfl B.g rfl) pa_nil)))
    (pe_and (pe_cmpR (op_eqD hu) (pe_fld (pv 0) rfl) (pe_fld (pv 1) rfl) (nomark _)) (pe_one (pe_cmpR (op_eqD hu) (pe_fld (pv 0) rfl) (pe_fld (pv 1) rfl) (nomark _)))))), ?_⟩
  obtain ⟨dx, v1, v2, h1, h2, h3⟩ := ha
  obtain ⟨dy, u1, u2, g1, g2, g3⟩ := hb
  have s1 := shaped_of (lay_tabs ba.tb) (fit_tabsW ba.tb) (by show 3 ≤ 64; decide)
  have s2 := shaped_of (lay_tabs bb.tb) (fit_tabsW bb.tb) (by show 3 ≤ 64; decide)
  have s3 := shaped_of (lay_rbs ba.rb) (fit_rbs ba.lr ba.rb) (by show 3 ≤ 64; decide)
  have s4 := shaped_of (lay_rbs bb.rb) (fit_rbs bb.lr bb.rb) (by show 3 ≤ 64; decide)
  refine ⟨_, rfl, b, dy, _, rfl, g1, true, rfl, iteT ?_⟩
  refine ⟨_, rfl, a, _, dx, _, _, rfl, h1, B.cl, B.n1, look_tables _ _, _, rfl, b, _, dy, _, _, rfl, g1, B.cl, B.n1, look_tables _ _, tabsD ts, tabsD us, h2, g2, s1, s2, _, rfl, ?_⟩
  unfold sameB at q
  cases e : PyData.eqv (tabsD ts) (tabsD us) with
  | false =>
    rw [e] at q
    exact iteF q
  | true =>
    rw [e, Bool.true_and] at q
    exact iteT ⟨_, rfl, a, _, dx, _, _, rfl, h1, B.cl, B.n2, look_rules _ _, _, rfl, b, _, dy, _, _, rfl, g1, B.cl, B.n2, look_rules _ _, rbsD rs, rbsD ws, h3, g3, s3, s4, q⟩
end
end LW
set_option Elab.async false
set_option linter.all false
set_option maxRecDepth 100000
set_option maxHeartbeats 4000000
/-! Methods that may raise, within a try; the same with keywords. -/
namespace KV
open PySem PySem.Spec PyProof.Rows L2
section
variable {X : Cx} {CX : CXT} {k : Nat} {f C : Addr} {fd : FuncData} {ps ks : List Str} {sp : Sp} {E : L2.St → XK} {m : Str} {apos pos : Pos} {o e : Expr} {es : List Expr} {kws : List Keyword} {t tk : TA} {ta : TE} {g : List Value → List Value → List Value} {gV : List V → List V → List V}
def tMethA (C : Addr) (m : Str) (sp : Sp) (E : L2.St → XK) (ta : TE) (t : TA) : TE := fun σ H Q => ta σ H fun x H1 => ∃ a dx fs, x = .ref a ∧ H1 a = some (.ins C dx fs) ∧ fs.lookup m = none ∧ t σ H1 fun vs H2 => sp (.ref a :: vs) H2 Q (E σ)
theorem pe_methA {pl : Sem Bool} (he : PE X o ta) (c : Cls X.K C) (hm : Meth X.K C m f) (F : FnOk X.prog X.w X.K X.mg X.base CX k f fd ps sp) (hr : Room k X.A) (hb : Binds X.K fd ps []) (hx : ∀ σ, PassesAt CX X σ (E σ)) (ha : PA X (e :: es) t)
    (hst : starEach (e :: es) X.env = (false, eval e X.env) :: starEach es X.env := by rfl) (hpl : (backTo pos (starEach es X.env)).any (·.1) = false := by rfl)
    (ht : eval (.Call (.Attribute o m apos) (e :: es) [] pos) X.env = (eval o X.env >>= fun z => standAt apos.atName >>= fun _ => holding [z] (getMethod z m pl) >>= fun zz => callWith pos zz.1 zz.2 (backTo pos (starEach (e :: es) X.env)) (backToKw pos (keywordEach [] X.env))) := by rfl) :
    PE X (.Call (.Attribute o m apos) (e :: es) [] pos) (tMethA C m sp E ta t) := by
  refine ⟨fun pins s σ H Q I h => ?_⟩
  refine PySem.W.methodCall_KW (pl := pl) (thn (he.run pins s σ H _ I h) fun u s1 ⟨x, H1, I1, rx, a, dx, fs, ex, ea, l, q⟩ => ?_) ht
  subst ex
  obtain rfl : u = Value.ref a := rx
  refine getmeth_ok I1 ea c hm l (PySem.W.callWith_K (first := [.ref a]) (h₀ := X.base) I.ok.mod.kin hm.kp (thn (ha.run pos pins s1 σ H1 _ I1 q) fun us s2 ⟨vs, H2, I2, r, q2⟩ => ⟨I2.kIn, ?_⟩) hst hpl)
  exact run_fnSD (us := .ref a :: us) (vs := .ref a :: vs) (ds := []) (dvs := []) F hr hb .nil (hx σ) I2 (.cons rfl r) (by rw [List.append_nil]; exact q2)
def tMethKA (C : Addr) (m : Str) (n : Nat) (sp : Sp) (gV : List V → List V → List V) (E : L2.St → XK) (ta : TE) (tk : TA) : TE := fun σ H Q => ta σ H fun x H1 => ∃ a dx fs, x = .ref a ∧ H1 a = some (.ins C dx fs) ∧ fs.lookup m = none ∧ tk σ H1 fun zs H2 => zs.length = n ∧ sp (gV [.ref a] zs) H2 Q (E σ)
theorem pe_methKA {pl : Sem Bool} (he : PE X o ta) (c : Cls X.K C) (hm : Meth X.K C m f) (F : FnOk X.prog X.w X.K X.mg X.base CX k f fd ps sp) (hr : Room k X.A) (hb : KBn X.K fd ps 1 ks g gV) (hx : ∀ σ, PassesAt CX X σ (E σ)) (hkw : PK X kws tk)
    (hall : (backToKw pos (keywordEach kws X.env)).all (·.1.isSome) = true := by rfl) (hks : (backToKw pos (keywordEach kws X.env)).filterMap (·.1) = ks := by rfl)
    (hpl : ((backTo pos (starEach [] X.env)).any (·.1) || (backToKw pos (keywordEach kws X.env)).any (·.1.isNone)) = false := by rfl)
    (ht : eval (.Call (.Attribute o m apos) [] kws pos) X.env = (eval o X.env >>= fun z => standAt apos.atName >>= fun _ => holding [z] (getMethod z m pl) >>= fun zz => callWith pos zz.1 zz.2 (backTo pos (starEach [] X.env)) (backToKw pos (keywordEach kws X.env))) := by rfl) :
    PE X (.Call (.Attribute o m apos) [] kws pos) (tMethKA C m ks.length sp gV E ta tk) := by
  refine ⟨fun pins s σ H Q I h => ?_⟩
  refine PySem.W.methodCall_KW (pl := pl) (thn (he.run pins s σ H _ I h) fun u s1 ⟨x, H1, I1, rx, a, dx, fs, ex, ea, l, q⟩ => ?_) ht
  subst ex
  obtain rfl : u = Value.ref a := rx
  refine getmeth_ok I1 ea c hm l (PySem.W.callWith_KW0 (first := [.ref a]) (h₀ := X.base) I.ok.mod.kin hm.kp hall (thn (hkw.run pos pins s1 σ H1 _ I1 q) fun ws s2 ⟨zs, H2, I2, rz, l2, q2⟩ => ⟨I2.kIn, ?_⟩) hpl)
  rw [hks]
  have r1 : Vals [V.ref a] [Value.ref a] := .cons rfl .nil
  have r2 := hb.rel r1 rz
  have hl : (g [Value.ref a] ws).length = ps.length := by
    rw [← r2.length]
    exact F.len _ _ _ _ q2
  refine wpAny_call (codeAny_mono (F.run X.A X.stack s2 H2 ⟨[Value.ref a], ks.zip ws⟩ (g [Value.ref a] ws) (gV [.ref a] zs) Q (E σ) hr I2.env0 (hb.to s2 [Value.ref a] ws I2.kIn rfl (by rw [← rz.length]; exact l2)) r2 q2) fun r s' hq => ?_)
  cases r with
  | error e => exact hx σ pins _ _ e s' I2 hq
  | ok fl =>
    cases fl with
    | ret u => exact I2.after hq
    | next => exact False.elim hq
    | brk => exact False.elim hq
    | cont => exact False.elim hq
end
end KV
set_option Elab.async false
set_option linter.all false
set_option maxRecDepth 100000
set_option maxHeartbeats 4000000
/-! Methods without arguments that may raise; own instances called, within a try. -/
namespace KV
open PySem PySem.Spec PyProof.Rows L2
section
variable {X : Cx} {CX : CXT} {k : Nat} {f C : Addr} {fd : FuncData} {ps ks : List Str} {sp : Sp} {E : L2.St → XK} {m : Str} {apos pos : Pos} {o e fe : Expr} {es : List Expr} {t : TA} {ta tf : TE}
theorem pe_methA0 {pl : Sem Bool} (he : PE X o ta) (c : Cls X.K C) (hm : Meth X.K C m f) (F : FnOk X.prog X.w X.K X.mg X.base CX k f fd ps sp) (hr : Room k X.A) (hb : Binds X.K fd ps []) (hx : ∀ σ, PassesAt CX X σ (E σ))
    (ht : eval (.Call (.Attribute o m apos) [] [] pos) X.env = (eval o X.env >>= fun z => standAt apos.atName >>= fun _ => holding [z] (getMethod z m pl) >>= fun zz => callWith pos zz.1 zz.2 (backTo pos (starEach [] X.env)) (backToKw pos (keywordEach [] X.env))) := by rfl) :
    PE X (.Call (.Attribute o m apos) [] [] pos) (tMethA C m sp E ta tNil) := by
  refine ⟨fun pins s σ H Q I h => ?_⟩
  refine PySem.W.methodCall_KW (pl := pl) (thn (he.run pins s σ H _ I h) fun u s1 ⟨x, H1, I1, rx, a, dx, fs, ex, ea, l, q⟩ => ?_) ht
  subst ex
  obtain rfl : u = Value.ref a := rx
  refine getmeth_ok I1 ea c hm l (PySem.W.callWith_K0 (first := [.ref a]) I1.kIn hm.kp ?_)
  exact run_fnSD (us := [.ref a]) (vs := [.ref a]) (ds := []) (dvs := []) F hr hb .nil (hx σ) I1 (.cons rfl .nil) q
def tCallA (C : Addr) (sp : Sp) (E : L2.St → XK) (tf : TE) (t : TA) : TE := fun σ H Q => tf σ H fun y H1 => ∃ a, y = V.ref a ∧ t σ H1 fun vs H2 => ∃ dx fs, H2 a = some (.ins C dx fs) ∧ sp (V.ref a :: vs) H2 Q (E σ)
theorem pe_callA (hf : PE X fe tf) (c : StX.CallO X.K C f) (F : FnOk X.prog X.w X.K X.mg X.base CX k f fd ps sp) (hr : Room k X.A) (hb : Binds X.K fd ps []) (hx : ∀ σ, PassesAt CX X σ (E σ)) (ha : PA X (e :: es) t)
    (ht : eval (.Call fe (e :: es) [] pos) X.env = (do callWith pos (← eval fe X.env) [] (backTo pos (starEach (e :: es) X.env)) (backToKw pos (keywordEach [] X.env))) := by rfl)
    (he : starEach (e :: es) X.env = (false, eval e X.env) :: starEach es X.env := by rfl) (hpl : (backTo pos (starEach es X.env)).any (·.1) = false := by rfl) : PE X (.Call fe (e :: es) [] pos) (tCallA C sp E tf t) := by
  refine ⟨fun pins s σ H Q I h => ?_⟩
  refine Call_ (thn (hf.run pins s σ H _ I h) fun u s1 ⟨y, H1, I1, ry, a, ey, q⟩ => ?_) ht
  subst ey
  obtain rfl : u = Value.ref a := ry
  refine StX.callO_with (thn (ha.run pos pins s1 σ H1 _ I1 q) fun us s2 ⟨vs, H2, I2, r, dx, fs, hi, q2⟩ => ?_) he hpl
  obtain ⟨mA, O, _⟩ := ins_get I2.hok hi
  obtain ⟨od, J, _⟩ := O.look
  refine ⟨⟨C, _, _, J, rfl⟩, ?_⟩
  have hl := F.len _ _ _ _ q2
  have r2 : Vals (V.ref a :: vs) (Value.ref a :: us) := .cons rfl r
  refine wpAny_call (PySem.W.kco_code I2.kIn J rfl c.at_ c.fn c.fi (codeAny_mono (F.run X.A X.stack s2 H2 ⟨Value.ref a :: us, []⟩ (Value.ref a :: us) (V.ref a :: vs) Q (E σ) hr I2.env0 (by
    have := hb s2 (Value.ref a :: us) I2.kIn (by rw [List.append_nil, ← r2.length]; exact hl)
    simpa using this) r2 q2) fun r s' hq => ?_))
  cases r with
  | error e => exact hx σ pins _ _ e s' I2 hq
  | ok fl =>
    cases fl with
    | ret u => exact I2.after hq
    | next => exact False.elim hq
    | brk => exact False.elim hq
    | cont => exact False.elim hq
end
end KV
set_option Elab.async false
set_option linter.all false
set_option maxRecDepth 100000
set_option maxHeartbeats 4000000
/-! ==, != between data and own instances. -/
namespace KV
open PySem PySem.Spec PyProof.Rows L2 PySem.SeqAt PySem.MeetsSeq
open AutoSeq1 (wpAny_loadPart')
section
/-- x is an instance of an own class, under none of the built-in sequences -/
structure Foreign (K : PySem.W.Frag) (C : Addr) (T : String) : Prop where
  sub : PySem.W.subIn K (.ref C) (.type T) = some false
theorem str_eq_inst (b : Str) (u : Tok) (x : Addr) (ox : Obj) (hp : ox.data = .plain) :
    Meets (Builtin.«str.__eq__» ⟨[.str b u, .ref x], []⟩) (fun _ R s => s.heap.get? x = some ox ∧ R (.ok (.ret .notImplemented)) s) :=
  .of_wp fun prog w A R s h => by
    obtain ⟨hp', g, d, tk, os⟩ := s; obtain ⟨hl, h⟩ := h
    obtain ⟨c, dd, dt, sl⟩ := ox
    simp only at hp
    subst hp
    wp_walk using wpAny_loadPart' hl, wpAny_load hl; exact ⟨_, rfl, h⟩
theorem str_ne_inst (b : Str) (u : Tok) (x : Addr) (ox : Obj) (hp : ox.data = .plain) :
    Meets (Builtin.«str.__ne__» ⟨[.str b u, .ref x], []⟩) (fun _ R s => s.heap.get? x = some ox ∧ R (.ok (.ret .notImplemented)) s) :=
  .of_wp fun prog w A R s h => by
    obtain ⟨hp', g, d, tk, os⟩ := s; obtain ⟨hl, h⟩ := h
    obtain ⟨c, dd, dt, sl⟩ := ox
    simp only at hp
    subst hp
    wp_walk using wpAny_loadPart' hl, wpAny_load hl; exact ⟨_, rfl, h⟩
theorem int_eq_inst (b : Int) (u : Tok) (x : Addr) (ox : Obj) (hp : ox.data = .plain) :
    Meets (Builtin.«int.__eq__» ⟨[.int b u, .ref x], []⟩) (fun _ R s => s.heap.get? x = some ox ∧ R (.ok (.ret .notImplemented)) s) :=
  .of_wp fun prog w A R s h => by
    obtain ⟨hp', g, d, tk, os⟩ := s; obtain ⟨hl, h⟩ := h
    obtain ⟨c, dd, dt, sl⟩ := ox
    simp only at hp
    subst hp
    wp_walk using wpAny_loadPart' hl, wpAny_load hl; exact ⟨_, rfl, h⟩
theorem int_ne_inst (b : Int) (u : Tok) (x : Addr) (ox : Obj) (hp : ox.data = .plain) :
    Meets (Builtin.«int.__ne__» ⟨[.int b u, .ref x], []⟩) (fun _ R s => s.heap.get? x = some ox ∧ R (.ok (.ret .notImplemented)) s) :=
  .of_wp fun prog w A R s h => by
    obtain ⟨hp', g, d, tk, os⟩ := s; obtain ⟨hl, h⟩ := h
    obtain ⟨c, dd, dt, sl⟩ := ox
    simp only at hp
    subst hp
    wp_walk using wpAny_loadPart' hl, wpAny_load hl; exact ⟨_, rfl, h⟩
theorem list_eq_inst (l x : Addr) (items : Array Value) (n : Nat) (dd : Option Addr) (sl : Array (Option Value)) (K : PySem.W.Frag) (C : Addr) (ox : Obj) (od : Option Obj) (hs : PySem.W.subIn K (.ref C) (.type "list") = some false) :
    Meets (Builtin.«list.__eq__» ⟨[.ref l, .ref x], []⟩) (fun _ R s => s.heap.get? l = some { cls := .type "list", dict := dd, data := .seq items n, slots := sl } ∧ K.In s.heap ∧ PySem.W.InstAt s.heap x ox C od ∧ R (.ok (.ret .notImplemented)) s) :=
  .of_wp fun prog w A R s h => by
    obtain ⟨hp, g, d, tk, os⟩ := s; obtain ⟨hl, X, I, h⟩ := h
    have ty : ∀ {A : Around} {E : Value → Shared → Prop} {Q : Value → Shared → Prop}, Q (.ref C) ⟨hp, g, d, tk, os⟩ → wpAny (model prog w) A (typeOf (.ref x)) Q E ⟨hp, g, d, tk, os⟩ := fun h => I.type.here h
    have su : ∀ {A : Around} {E : Value → Shared → Prop} {Q : Bool → Shared → Prop}, Q false ⟨hp, g, d, tk, os⟩ → wpAny (model prog w) A (isSubtype (.ref C) (.type "list")) Q E ⟨hp, g, d, tk, os⟩ := fun h => (PySem.W.looks_subIn X hs).here h
    wp_walk using wpAny_loadPart' hl, ty, su
    exact ⟨_, rfl, h⟩
theorem list_ne_inst (l x : Addr) (items : Array Value) (n : Nat) (dd : Option Addr) (sl : Array (Option Value)) (K : PySem.W.Frag) (C : Addr) (ox : Obj) (od : Option Obj) (hs : PySem.W.subIn K (.ref C) (.type "list") = some false) :
    Meets (Builtin.«list.__ne__» ⟨[.ref l, .ref x], []⟩) (fun _ R s => s.heap.get? l = some { cls := .type "list", dict := dd, data := .seq items n, slots := sl } ∧ K.In s.heap ∧ PySem.W.InstAt s.heap x ox C od ∧ R (.ok (.ret .notImplemented)) s) :=
  .of_wp fun prog w A R s h => by
    obtain ⟨hp, g, d, tk, os⟩ := s; obtain ⟨hl, X, I, h⟩ := h
    have ty : ∀ {A : Around} {E : Value → Shared → Prop} {Q : Value → Shared → Prop}, Q (.ref C) ⟨hp, g, d, tk, os⟩ → wpAny (model prog w) A (typeOf (.ref x)) Q E ⟨hp, g, d, tk, os⟩ := fun h => I.type.here h
    have su : ∀ {A : Around} {E : Value → Shared → Prop} {Q : Bool → Shared → Prop}, Q false ⟨hp, g, d, tk, os⟩ → wpAny (model prog w) A (isSubtype (.ref C) (.type "list")) Q E ⟨hp, g, d, tk, os⟩ := fun h => (PySem.W.looks_subIn X hs).here h
    wp_walk using wpAny_loadPart' hl, ty, su
    exact ⟨_, rfl, h⟩
theorem tuple_eq_inst (l x : Addr) (items : Array Value) (n : Nat) (dd : Option Addr) (sl : Array (Option Value)) (K : PySem.W.Frag) (C : Addr) (ox : Obj) (od : Option Obj) (hs : PySem.W.subIn K (.ref C) (.type "tuple") = some false) :
    Meets (Builtin.«tuple.__eq__» ⟨[.ref l, .ref x], []⟩) (fun _ R s => s.heap.get? l = some { cls := .type "tuple", dict := dd, data := .seq items n, slots := sl } ∧ K.In s.heap ∧ PySem.W.InstAt s.heap x ox C od ∧ R (.ok (.ret .notImplemented)) s) :=
  .of_wp fun prog w A R s h => by
    obtain ⟨hp, g, d, tk, os⟩ := s; obtain ⟨hl, X, I, h⟩ := h
    have ty : ∀ {A : Around} {E : Value → Shared → Prop} {Q : Value → Shared → Prop}, Q (.ref C) ⟨hp, g, d, tk, os⟩ → wpAny (model prog w) A (typeOf (.ref x)) Q E ⟨hp, g, d, tk, os⟩ := fun h => I.type.here h
    have su : ∀ {A : Around} {E : Value → Shared → Prop} {Q : Bool → Shared → Prop}, Q false ⟨hp, g, d, tk, os⟩ → wpAny (model prog w) A (isSubtype (.ref C) (.type "tuple")) Q E ⟨hp, g, d, tk, os⟩ := fun h => (PySem.W.looks_subIn X hs).here h
    wp_walk using wpAny_loadPart' hl, ty, su
    exact ⟨_, rfl, h⟩
theorem tuple_ne_inst (l x : Addr) (items : Array Value) (n : Nat) (dd : Option Addr) (sl : Array (Option Value)) (K : PySem.W.Frag) (C : Addr) (ox : Obj) (od : Option Obj) (hs : PySem.W.subIn K (.ref C) (.type "tuple") = some false) :
    Meets (Builtin.«tuple.__ne__» ⟨[.ref l, .ref x], []⟩) (fun _ R s => s.heap.get? l = some { cls := .type "tuple", dict := dd, data := .seq items n, slots := sl } ∧ K.In s.heap ∧ PySem.W.InstAt s.heap x ox C od ∧ R (.ok (.ret .notImplemented)) s) :=
  .of_wp fun prog w A R s h => by
    obtain ⟨hp, g, d, tk, os⟩ := s; obtain ⟨hl, X, I, h⟩ := h
    have ty : ∀ {A : Around} {E : Value → Shared → Prop} {Q : Value → Shared → Prop}, Q (.ref C) ⟨hp, g, d, tk, os⟩ → wpAny (model prog w) A (typeOf (.ref x)) Q E ⟨hp, g, d, tk, os⟩ := fun h => I.type.here h
    have su : ∀ {A : Around} {E : Value → Shared → Prop} {Q : Bool → Shared → Prop}, Q false ⟨hp, g, d, tk, os⟩ → wpAny (model prog w) A (isSubtype (.ref C) (.type "tuple")) Q E ⟨hp, g, d, tk, os⟩ := fun h => (PySem.W.looks_subIn X hs).here h
    wp_walk using wpAny_loadPart' hl, ty, su
    exact ⟨_, rfl, h⟩
/-- the left value says nothing of == and != -/
structure Decl (prog : Program) (w : World) (A : Around) (E : Value → Shared → Prop) (s : Shared) (u tu : Value) (x : Addr) : Prop where
  ty : PySem.W.Looks (model prog w) s.heap (typeOf u) tu
  eq : ∀ Q : Option Value → Shared → Prop, Q none s → wpAny (model prog w) A (tryCompare u "__eq__" (.ref x)) Q E s
  ne : ∀ Q : Option Value → Shared → Prop, Q none s → wpAny (model prog w) A (tryCompare u "__ne__" (.ref x)) Q E s
  one : ∀ op b, oneThing? op u b = none
variable {prog : Program} {w : World} {A : Around} {E : Value → Shared → Prop} {s : Shared} {K : PySem.W.Frag} {x C f : Addr} {ox : Obj} {od : Option Obj} {b tb : Value}
theorem entry_neV (hu : A.units < cLine) (X : K.In s.heap) (I : PySem.W.InstAt s.heap x ox C od) (hs : PySem.W.findIn K (.ref C) "__eq__" = some (some (.ref f))) (hf : PySem.W.isFn K (.ref f) = true) {Q : Fin → Shared → Prop}
    (h : wpAny (model prog w) A (call (.ref f) [.ref x, b]) (fun v s' => ∃ r, v = .bool r ∧ Q (.done (.ret (.bool (!r)))) s') E s) : wpAny (model prog w) A (Builtin.«object.__ne__» ⟨[.ref x, b], []⟩) Q E s := by
  unfold Builtin.«object.__ne__»
  repeat (first
    | with_reducible refine wpAny_cRoomFor hu ?_
    | (refine wpAny_bind (m := callSpecialIfBound? (.ref x) (Str.ofString "__eq__") [b]) (PySem.W.ifBound_K X I hs hf (wpAny_mono h (fun r s' hr => by
          obtain ⟨b, rfl, hq⟩ := hr
          repeat (first | exact hq | exact wpAny_pure hq | exact wpAny_truthy_bool hq | (refine wpAny_bind (m := truthy (.bool _)) (wpAny_truthy_bool ?_)) | wp_step)) fun _ _ e => e)))
    | wp_step)
theorem call_neV {Q : Value → Shared → Prop} (hu : A.in1.units < cLine) (X : K.In s.heap) (I : PySem.W.InstAt s.heap x ox C od) (hm : PySem.W.mroIn K C (.type "object") = some true)
    (hs : PySem.W.findIn K (.ref C) "__eq__" = some (some (.ref f))) (hf : PySem.W.isFn K (.ref f) = true) (h : wpAny (model prog w) A.in1 (call (.ref f) [.ref x, b]) (fun v s' => ∃ r, v = .bool r ∧ Q (.bool (!r)) s') E s) :
    wpAny (model prog w) A (call (.builtin "object.__ne__") [.ref x, b]) Q E s :=
  wpAny_call (codeAny_call_builtin F.cmp_object.ne.plain F.cmpEntry_ne (PySem.W.check_slot F.cmpKind_ne F.cmpSplit_ne (I.type.andThen (PySem.W.looks_mroIn X hm)) (F.cmpArgs_ne _ _) (entry_neV hu X I hs hf h)))
theorem try_eqV {Q : Value → Shared → Prop} (X : K.In s.heap) (I : PySem.W.InstAt s.heap x ox C od) (hs : PySem.W.findIn K (.ref C) "__eq__" = some (some (.ref f))) (hf : PySem.W.isFn K (.ref f) = true)
    (h : wpAny (model prog w) A (call (.ref f) [.ref x, b]) (fun v s' => ∃ r, v = .bool r ∧ Q (.bool r) s') E s) : wpAny (model prog w) A (tryCompare (.ref x) "__eq__" b) (fun r s' => ∃ c, r = some (.bool c) ∧ Q (.bool c) s') E s := by
  unfold tryCompare
  refine wpAny_bind (PySem.W.ifBound_K X I hs hf (wpAny_mono h (fun v s' hv => ?_) fun _ _ e => e))
  obtain ⟨r, rfl, hq⟩ := hv
  exact wpAny_pure ⟨r, rfl, hq⟩
theorem try_neV {Q : Value → Shared → Prop} (hu1 : A.in1.units < cLine) (X : K.In s.heap) (I : PySem.W.InstAt s.heap x ox C od) (hm : PySem.W.mroIn K C (.type "object") = some true) (hn : PySem.W.findIn K (.ref C) "__ne__" = some (some (.builtin "object.__ne__")))
    (hs : PySem.W.findIn K (.ref C) "__eq__" = some (some (.ref f))) (hf : PySem.W.isFn K (.ref f) = true)
    (h : wpAny (model prog w) A.in1 (call (.ref f) [.ref x, b]) (fun v s' => ∃ r, v = .bool r ∧ Q (.bool (!r)) s') E s) : wpAny (model prog w) A (tryCompare (.ref x) "__ne__" b) (fun r s' => ∃ c, r = some (.bool c) ∧ Q (.bool c) s') E s := by
  unfold tryCompare
  refine wpAny_bind (ifBound_objNe X I hn (call_neV hu1 X I hm hs hf (wpAny_mono h (fun v s' hv => ?_) fun _ _ e => e)))
  obtain ⟨r, rfl, hq⟩ := hv
  exact ⟨r, rfl, wpAny_pure ⟨!r, rfl, hq⟩⟩
/-- an own instance on the left, any value on the right -/
theorem rc_eqL {Q : Value → Shared → Prop} (hu : A.units < cLine) (X : K.In s.heap) (I : PySem.W.InstAt s.heap x ox C od) (hb : PySem.W.Looks (model prog w) s.heap (typeOf b) tb) (hn : tb = .ref C ∨ PySem.W.subIn K tb (.ref C) = some false)
    (h : wpAny (model prog w) A (tryCompare (.ref x) "__eq__" b) (fun r s' => ∃ c, r = some (.bool c) ∧ Q (.bool c) s') E s) : wpAny (model prog w) A (richCompare .Eq (.ref x) b) Q E s := by
  unfold richCompare
  simp only [oneThing_ref]
  refine wpAny_holding (wpAny_bind (wpAny_cRoomFor hu ?_))
  refine wpAny_bind (I.type.here (wpAny_bind (hb.here ?_)))
  split
  · rename_i q
    have e : PySem.W.subIn K tb (.ref C) = some false := by
      rcases hn with e | e
      · rw [e] at q; simp at q
      · exact e
    refine wpAny_bind ((PySem.W.looks_subIn X e).here ?_)
    simp only [Bool.false_eq_true, if_false]
    refine wpAny_bind (wpAny_mono h (fun r s' z => ?_) fun _ _ e => e)
    obtain ⟨v, rfl, hq⟩ := z
    exact wpAny_pure hq
  · refine wpAny_bind (wpAny_pure ?_)
    simp only [Bool.false_eq_true, if_false]
    refine wpAny_bind (wpAny_mono h (fun r s' z => ?_) fun _ _ e => e)
    obtain ⟨v, rfl, hq⟩ := z
    exact wpAny_pure hq
theorem rc_neL {Q : Value → Shared → Prop} (hu : A.units < cLine) (X : K.In s.heap) (I : PySem.W.InstAt s.heap x ox C od) (hb : PySem.W.Looks (model prog w) s.heap (typeOf b) tb) (hn : tb = .ref C ∨ PySem.W.subIn K tb (.ref C) = some false)
    (h : wpAny (model prog w) A (tryCompare (.ref x) "__ne__" b) (fun r s' => ∃ c, r = some (.bool c) ∧ Q (.bool c) s') E s) : wpAny (model prog w) A (richCompare .NotEq (.ref x) b) Q E s := by
  unfold richCompare
  simp only [oneThing_ref]
  refine wpAny_holding (wpAny_bind (wpAny_cRoomFor hu ?_))
  refine wpAny_bind (I.type.here (wpAny_bind (hb.here ?_)))
  split
  · rename_i q
    have e : PySem.W.subIn K tb (.ref C) = some false := by
      rcases hn with e | e
      · rw [e] at q; simp at q
      · exact e
    refine wpAny_bind ((PySem.W.looks_subIn X e).here ?_)
    simp only [Bool.false_eq_true, if_false]
    refine wpAny_bind (wpAny_mono h (fun r s' z => ?_) fun _ _ e => e)
    obtain ⟨v, rfl, hq⟩ := z
    exact wpAny_pure hq
  · refine wpAny_bind (wpAny_pure ?_)
    simp only [Bool.false_eq_true, if_false]
    refine wpAny_bind (wpAny_mono h (fun r s' z => ?_) fun _ _ e => e)
    obtain ⟨v, rfl, hq⟩ := z
    exact wpAny_pure hq
/-- .. and on the right of a value that says nothing -/
theorem rc_eqR {Q : Value → Shared → Prop} {u tu : Value} (hu : A.units < cLine) (X : K.In s.heap) (I : PySem.W.InstAt s.heap x ox C od) (D : Decl prog w A E s u tu x) (hn : PySem.W.subIn K (.ref C) tu = some false)
    (h : wpAny (model prog w) A (tryCompare (.ref x) "__eq__" u) (fun r s' => ∃ c, r = some (.bool c) ∧ Q (.bool c) s') E s) : wpAny (model prog w) A (richCompare .Eq u (.ref x)) Q E s := by
  unfold richCompare
  simp only [D.one]
  refine wpAny_holding (wpAny_bind (wpAny_cRoomFor hu ?_))
  refine wpAny_bind (D.ty.here (wpAny_bind (I.type.here ?_)))
  split
  · refine wpAny_bind ((PySem.W.looks_subIn X hn).here ?_)
    simp only [Bool.false_eq_true, if_false, Bool.not_false, if_true]
    refine wpAny_bind (m := tryCompare u _ (.ref x)) (D.eq _ ?_)
    refine wpAny_bind (m := tryCompare (.ref x) _ u) (wpAny_mono h (fun r s' z => ?_) fun _ _ e => e)
    obtain ⟨v, rfl, hq⟩ := z
    exact wpAny_pure hq
  · refine wpAny_bind (wpAny_pure ?_)
    simp only [Bool.false_eq_true, if_false, Bool.not_false, if_true]
    refine wpAny_bind (m := tryCompare u _ (.ref x)) (D.eq _ ?_)
    refine wpAny_bind (m := tryCompare (.ref x) _ u) (wpAny_mono h (fun r s' z => ?_) fun _ _ e => e)
    obtain ⟨v, rfl, hq⟩ := z
    exact wpAny_pure hq
theorem rc_neR {Q : Value → Shared → Prop} {u tu : Value} (hu : A.units < cLine) (X : K.In s.heap) (I : PySem.W.InstAt s.heap x ox C od) (D : Decl prog w A E s u tu x) (hn : PySem.W.subIn K (.ref C) tu = some false)
    (h : wpAny (model prog w) A (tryCompare (.ref x) "__ne__" u) (fun r s' => ∃ c, r = some (.bool c) ∧ Q (.bool c) s') E s) : wpAny (model prog w) A (richCompare .NotEq u (.ref x)) Q E s := by
  unfold richCompare
  simp only [D.one]
  refine wpAny_holding (wpAny_bind (wpAny_cRoomFor hu ?_))
  refine wpAny_bind (D.ty.here (wpAny_bind (I.type.here ?_)))
  split
  · refine wpAny_bind ((PySem.W.looks_subIn X hn).here ?_)
    simp only [Bool.false_eq_true, if_false, Bool.not_false, if_true]
    refine wpAny_bind (m := tryCompare u _ (.ref x)) (D.ne _ ?_)
    refine wpAny_bind (m := tryCompare (.ref x) _ u) (wpAny_mono h (fun r s' z => ?_) fun _ _ e => e)
    obtain ⟨v, rfl, hq⟩ := z
    exact wpAny_pure hq
  · refine wpAny_bind (wpAny_pure ?_)
    simp only [Bool.false_eq_true, if_false, Bool.not_false, if_true]
    refine wpAny_bind (m := tryCompare u _ (.ref x)) (D.ne _ ?_)
    refine wpAny_bind (m := tryCompare (.ref x) _ u) (wpAny_mono h (fun r s' z => ?_) fun _ _ e => e)
    obtain ⟨v, rfl, hq⟩ := z
    exact wpAny_pure hq
end
end KV
set_option Elab.async false
set_option linter.all false
set_option maxRecDepth 100000
set_option maxHeartbeats 0
/-! stores.py: Store(..) -/
namespace LW
open PySem PySem.Spec PyProof.Rows L2 KV
theorem dc_list {K : PySem.W.Frag} {a : Addr} {xs : List V} {g : TG} {tt : TT} {tk tv : TE} {vs : List Nat} {σ : L2.St} {H1 : Hp} {D : Addr} {Qd : Hp → Prop} (Pv : Nat → Hp → Prop) (h0 : Pv 0 (upd H1 D (.dK []))) (hl : ∀ i H, i ≤ xs.length → Pv i H → SqL K H a xs)
    (hs : ∀ i x H, xs[i]? = some x → Pv i H → g x (wipe σ vs) H fun σ2 H2 => wipe σ2 vs = wipe σ vs ∧ tt σ2 H2 fun b H3 =>
      if b = true then tk σ2 H3 fun y H4 => tv σ2 H4 fun z H5 => ∃ kvs k, y = kV k ∧ H5 D = some (.dK kvs) ∧ kvs.length < sizeLine ∧ Pv (i + 1) (upd H5 D (.dK (putK kvs k z))) else Pv (i + 1) H3) (hd : ∀ H, Pv xs.length H → Qd H) :
    ∃ W : Nat → Nat → Hp → Prop, (∃ m, W 0 m (upd H1 D (.dK []))) ∧ ∀ i m H, W i m H →
      ((Itl K a).stop i H ∧ Qd H) ∨ ((Itl K a).go i H ∧ ∃ Nx : Hp → Prop, (∀ H', Nx H' → ∃ m', m' < m ∧ W (i + 1) m' H') ∧ ∀ x H', (Itl K a).yld i H x H' → g x (wipe σ vs) H' fun σ2 H2 => wipe σ2 vs = wipe σ vs ∧ tt σ2 H2 fun b H3 =>
        if b = true then tk σ2 H3 fun y H4 => tv σ2 H4 fun z H5 => ∃ kvs k, y = kV k ∧ H5 D = some (.dK kvs) ∧ kvs.length < sizeLine ∧ Nx (upd H5 D (.dK (putK kvs k z))) else Nx H3) := by
  refine ⟨fun i m H => m = xs.length - i ∧ i ≤ xs.length ∧ Pv i H, ⟨xs.length, by simp, Nat.zero_le _, h0⟩, ?_⟩
  rintro i m H ⟨rfl, hi, p⟩
  have q := hl i H hi p
  by_cases hlt : i < xs.length
  · refine .inr ⟨⟨xs, xs[i], q, by simp [hlt]⟩, Pv (i + 1), fun H' p' => ⟨xs.length - (i + 1), by omega, rfl, hlt, p'⟩, fun x H' y => ?_⟩
    obtain ⟨e, y⟩ := y
    subst e
    exact hs i x _ (y xs q) p
  · have e : i = xs.length := by omega
    subst e
    exact .inl ⟨⟨xs, q, Nat.le_refl _⟩, hd H p⟩
/-- what the text says of the class -/
structure StoreT (K : PySem.W.Frag) (mg : Str → Option Value) : Prop where
  cl : L2.Cls K (He.ga K "Store")
  n1 : NoAttr K (He.ga K "Store") "_book"
  n2 : NoAttr K (He.ga K "Store") "_rows"
  n3 : NoAttr K (He.ga K "Store") "_steps"
  mkr : Mk K (He.ga K "Store") (He.ma K (He.ga K "Store") "__init__")
  g : mg "Store" = some (.ref (He.ga K "Store"))
def spStoreI (K : PySem.W.Frag) : Sp := fun vs H Q _ => ∃ (x b dx : Addr) (ts : List Tab) (rs : List RB) (n mc mt N M L : Nat), vs = [.ref x, .ref b] ∧ H x = some (.ins (He.ga K "Store") dx []) ∧ BookOf K H b ts rs ∧ x ≠ b ∧ BkB n mc mt N M L ts rs ∧
  ∀ H' fs, H' x = some (.ins (He.ga K "Store") dx fs) → Off (fun a => a = x) H H' → Q .non H'
section
variable {P : Program} {w : World} {K : PySem.W.Frag} {mg : Str → Option Value} {base : Heap}
theorem scStoreI : FnScope ["self", "book", "name", "_"] ["self", "book"] (defScope pStore_init) := ⟨rfl, rfl, rfl, by decide +kernel, rfl, by decide +kernel, by decide +kernel⟩
theorem ok_storeI {f pT gT : Addr} {fd dgT : FuncData} (F : FunD K "__init__" "Store.__init__" (defArgs pStore_init) (defBody pStore_init) (defScope pStore_init) [] [] f fd) (B : BookT K mg) (S : StoreT K mg)
    (pt : PropOf K (He.ga K "Book") "tables" pT gT) (GT : FnOk P w K mg base CX0 7 gT dgT ["self"] (spGetT K)) (bT : Binds K dgT ["self"] []) : FnOk P w K mg base CX0 9 f fd ["self", "book"] (spStoreI K) := by
  refine F.ok scStoreI (fun vs H Q E h => ?_) (fun cdv A outer s H vs Q E hr h => ?_)
  · obtain ⟨x, b, dx, ts, rs, n, mc, mt, N, M, L, rfl, _⟩ := h
    rfl
  obtain ⟨x, b, dx, ts, rs, n, mc, mt, N, M, L, rfl, hx, hb, xb, bb, q⟩ := h
  refine ⟨_, PSs.nox (pss_cons (ps_fld (pv 0) (pv 1) rfl)
    (pss_cons (ps_fld (pv 0) (pe_dc (own := [("name", 2), ("_", 3)]) (g := gTup K 2 (gCons (gName 2) (gCons (gName 3) gNil))) (tt := tYes) (tk := tVar 2) (tv := tLst tNil) rfl scStoreI.nd (pi_list (pe_prop (pv 1) B.cl pt GT (hr.mono (by decide)) bT .nil pass0 rfl))
        (blkOk_by (own := [("name", 2), ("_", 3)]) (N := ["self", "book", "name", "_"]) (sc := defScope pStore_init) (by decide +kernel))
        (fun _ _ _ _ _ => pg_tup rfl (pgs_cons (pg_name (i := 2) scStoreI.nd rfl (Or.inl rfl)) (pgs_cons (pg_name (i := 3) scStoreI.nd rfl (Or.inl rfl)) pgs_nil))) (fun _ _ _ _ _ => pts_nil)
        (fun _ _ _ _ _ => pv 2) (fun _ _ _ _ _ => pe_lst pa_nil)) rfl)
    (pss_one (ps_fld (pv 0) (pe_lst pa_nil) rfl)))), ?_⟩
  have no : ¬ False := id
  have s0 : 0 ≤ sizeLine := by decide
  refine ⟨_, rfl, _, rfl, x, _, dx, [], rfl, hx, S.cl, S.n1, (by decide), ?_⟩
  have k1 : Off (fun a => a = x) H (upd H x (.ins (He.ga K "Store") dx (putF "_book" (.ref b) []))) := Off.upd rfl
  have e1 := upd_same (H := H) (a := x) (o := .ins (He.ga K "Store") dx (putF "_book" (.ref b) []))
  have hb1 : BookOf K (upd H x (.ins (He.ga K "Store") dx (putF "_book" (.ref b) []))) b ts rs := by
    obtain ⟨db, v1, v2, h1, h2, h3⟩ := hb
    exact ⟨db, v1, v2, by rw [upd_ne (Ne.symm xb)]; exact h1, dp_in k1 (NoSq.ins hx) h2, dp_in k1 (NoSq.ins hx) h3⟩
  generalize upd H x (.ins (He.ga K "Store") dx (putF "_book" (.ref b) [])) = H1 at k1 e1 hb1 ⊢
  obtain ⟨db, v1, v2, h1, h2, h3⟩ := id hb1
  refine ⟨_, rfl, b, db, _, rfl, h1, b, ts, rs, n, mc, mt, N, M, L, rfl, hb1, bb, fun vT FT H2 oT fT k2 => ?_⟩
  obtain ⟨aT, xT, rfl, sT, dT⟩ := dp_tabs (K := K) oT.dp
  have lT : xT.length = ts.length := by rw [dpAll_len dT, List.length_map]
  have lt := bb.tb.most
  have lm := bb.hmt
  refine ⟨aT, rfl, ⟨_, sT⟩, fun D hD => dc_list (K := K) (a := aT) (xs := xT) (fun i G => (∃ kvs, G D = some (.dK kvs) ∧ kvs.length ≤ i) ∧ Off (fun _ => False) H2 G) ⟨⟨[], upd_same, Nat.le_refl _⟩, Off.new hD⟩ (fun i G _ g => sqL_off g.2 sT) (fun i v G hx' g => ?_) fun G g => ?_⟩
  · obtain ⟨⟨kvs, eD, lk⟩, k3⟩ := g
    have hi : i < ts.length := by
      have := (List.getElem?_eq_some_iff.mp hx').1
      omega
    have ht : ts[i]? = some ts[i] := List.getElem?_eq_getElem hi
    obtain ⟨v', ev, dv⟩ := dpAll_get (i := i) (d := tabD ts[i]) (dpAll_off k3 dT) (by rw [List.getElem?_map, ht]; rfl)
    rw [hx'] at ev
    cases ev
    obtain ⟨ta, wc, rfl, st, dc⟩ := dp_tab dv
    refine ⟨ta, [.str ts[i].1, wc], rfl, st, rfl, .str ts[i].1, [wc], rfl, wc, [], rfl, rfl, rfl, ?_⟩
    refine iteT (B := True) ?_
    refine iteT ?_
    refine ⟨_, rfl, s0, fun m nm => ?_⟩
    have k4 : Off (fun _ => False) G (upd G m (.lst [])) := Off.new nm
    refine ⟨kvs, .inr ts[i].1, rfl, k4 _ _ eD no, Nat.lt_of_le_of_lt (m := 1000) (by omega) (by decide), ⟨_, upd_same, ?_⟩, fun a o ea _ => ?_⟩
    · have := length_putK kvs (.inr ts[i].1) (V.ref m)
      omega
    · rw [upd_ne fun z => by rw [z, hD] at ea; cases ea]
      exact k4 _ _ (k3 _ _ ea no) no
  · obtain ⟨⟨kvs, eD, lk⟩, k3⟩ := g
    have eG := k3 _ _ (k2 _ _ e1 no) no
    refine ⟨_, rfl, x, _, dx, _, rfl, eG, S.cl, S.n2, (by show 1 < 1000; decide), ?_⟩
    have k4 : Off (fun a => a = x) G (upd G x (.ins (He.ga K "Store") dx (putF "_rows" (.ref D) (putF "_book" (.ref b) [])))) := Off.upd rfl
    refine ⟨s0, fun m nm => ?_⟩
    have e4 := upd_same (H := G) (a := x) (o := .ins (He.ga K "Store") dx (putF "_rows" (.ref D) (putF "_book" (.ref b) [])))
    generalize upd G x (.ins (He.ga K "Store") dx (putF "_rows" (.ref D) (putF "_book" (.ref b) []))) = G4 at k4 e4 nm ⊢
    have k5 : Off (fun _ => False) G4 (upd G4 m (.lst [])) := Off.new nm
    refine ⟨_, rfl, x, _, dx, _, rfl, k5 _ _ e4 no, S.cl, S.n3, (by simp [putF]; split <;> simp), ?_⟩
    refine q _ _ upd_same ?_
    exact ((k1.trans (Off.in (k2.trans k3))).trans k4).trans ((Off.in k5).trans (Off.upd rfl))
end
end LW
set_option Elab.async false
set_option linter.all false
set_option maxRecDepth 100000
set_option maxHeartbeats 4000000
/-! ==, != of own instances with an own __eq__ and other things, as rules. -/
namespace KV
open PySem PySem.Spec PyProof.Rows L2 PySem.SeqAt PySem.MeetsSeq
/-- what == and != ask of an own class -/
structure OwnE (K : PySem.W.Frag) (C f : Addr) : Prop where
  eq : PySem.W.findIn K (.ref C) "__eq__" = some (some (.ref f))
  fn : PySem.W.isFn K (.ref f) = true
  ne : PySem.W.findIn K (.ref C) "__ne__" = some (some (.builtin "object.__ne__"))
  mro : PySem.W.mroIn K C (.type "object") = some true
/-- .. of an error class without them -/
structure ErrE (K : PySem.W.Frag) (C : Addr) : Prop where
  eq : PySem.W.findIn K (.ref C) "__eq__" = some (some (.builtin "object.__eq__"))
  ne : PySem.W.findIn K (.ref C) "__ne__" = some (some (.builtin "object.__ne__"))
  mro : PySem.W.mroIn K C (.type "object") = some true
/-- a thing of another kind, and its type -/
inductive Oth (H : Hp) (CE : Addr) : V → Value → Prop where
  | non : Oth H CE .non (.type "NoneType")
  | int (i : Int) : Oth H CE (.int i) (.type "int")
  | str (x : Str) : Oth H CE (.str x) (.type "str")
  | lst {a : Addr} {xs : List V} (h : H a = some (.lst xs)) : Oth H CE (.ref a) (.type "list")
  | tup {a : Addr} {xs : List V} (h : H a = some (.tup xs)) : Oth H CE (.ref a) (.type "tuple")
  | err {a dx : Addr} {fs : List (Str × V)} (h : H a = some (exo a CE (some dx))) (d : H dx = some (exd dx fs)) : Oth H CE (.ref a) (.ref CE)
section
variable {prog : Program} {w : World} {A : Around} {E : Value → Shared → Prop} {s : Shared} {K : PySem.W.Frag} {x y C CE : Addr} {ox oy : Obj} {od oe : Option Obj}
theorem ifBound_bltEq {M : Model} {args : List Value} {Q : Option Value → Shared → Prop} (X : K.In s.heap) (I : PySem.W.InstAt s.heap x ox C od) (hn : PySem.W.findIn K (.ref C) "__eq__" = some (some (.builtin "object.__eq__")))
    (h : wpAny M A (call (.builtin "object.__eq__") (.ref x :: args)) (fun v => Q (some v)) E s) : wpAny M A (callSpecialIfBound? (.ref x) "__eq__" args) Q E s := by
  unfold callSpecialIfBound? bindSpecialIfBound?
  refine wpAny_holding (wpAny_bind (wpAny_bind (wpAny_bind (I.type.here ((PySem.W.looks_findIn X hn).here ?_)))))
  have fin : wpAny M A (do
      let v ← call (.builtin "object.__eq__") ([.ref x] ++ args)
      pure (some v)) Q E s := wpAny_bind (wpAny_mono h (fun v s' h' => wpAny_pure h') fun _ _ h' => h')
  refine wpAny_bind (wpAny_askSetting (wpAny_ite ?_))
  split
  · exact wpAny_bind (wpAny_of_eq (F.cmp_object.eq.bind _) (wpAny_pure fin))
  · exact wpAny_tryCatch (wpAny_bind (wpAny_of_eq (F.cmp_object.eq.bind _) (wpAny_pure fin)))
theorem call_eqErr {Q : Value → Shared → Prop} (X : K.In s.heap) (I : PySem.W.InstAt s.heap x ox C od) (c : ErrE K C) (hy : s.heap.get? y = some oy) (hxy : x ≠ y) (hq : Q .notImplemented s) :
    wpAny (model prog w) A (call (.builtin "object.__eq__") [.ref x, .ref y]) Q E s :=
  wpAny_call (codeAny_call_builtin F.cmp_object.eq.plain F.cmpEntry_eq (PySem.W.check_slot F.cmpKind_eq F.cmpSplit_eq (I.type.andThen (PySem.W.looks_mroIn X c.mro)) (F.cmpArgs_eq _ _)
    (objEq_entry_other hxy I.at_ hy (by rw [I.cls]; intro e; cases e) hq)))
theorem entry_neErr (hu : A.units < cLine) (X : K.In s.heap) (I : PySem.W.InstAt s.heap x ox C od) (c : ErrE K C) (hy : s.heap.get? y = some oy) (hxy : x ≠ y) {Q : Fin → Shared → Prop} (hq : Q (.done (.ret .notImplemented)) s) :
    wpAny (model prog w) A (Builtin.«object.__ne__» ⟨[.ref x, .ref y], []⟩) Q E s := by
  unfold Builtin.«object.__ne__»
  repeat (first | with_reducible refine wpAny_cRoomFor hu ?_ | (refine wpAny_bind (m := callSpecialIfBound? (.ref x) (Str.ofString "__eq__") [.ref y]) (ifBound_bltEq X I c.eq (call_eqErr X I c hy hxy ?_))) | wp_step)
  exact hq
theorem decl_err (hu : A.units + 1 < cLine) (X : K.In s.heap) (I : PySem.W.InstAt s.heap x ox C od) (c : ErrE K C) (hy : s.heap.get? y = some oy) (hxy : x ≠ y) : Decl prog w A E s (.ref x) (.ref C) y where
  ty := I.type
  eq := fun Q q => by
    unfold tryCompare
    exact wpAny_bind (ifBound_bltEq X I c.eq (call_eqErr X I c hy hxy (wpAny_pure q)))
  ne := fun Q q => by
    unfold tryCompare
    exact wpAny_bind (ifBound_objNe X I c.ne (wpAny_call (codeAny_call_builtin F.cmp_object.ne.plain F.cmpEntry_ne (PySem.W.check_slot F.cmpKind_ne F.cmpSplit_ne (I.type.andThen (PySem.W.looks_mroIn X c.mro)) (F.cmpArgs_ne _ _)
      (entry_neErr (A := A.in1) hu X I c hy hxy (wpAny_pure q))))))
  one := fun op b => by simp [oneThing_ref]
theorem looks_ty {M : Model} {u : Value} {T : String} (h : ∀ s' : Shared, (∀ b o, s.heap.get? b = some o → s'.heap.get? b = some o) → s'.TypeIs u T) : PySem.W.Looks M s.heap (typeOf u) (.type T) :=
  fun A Q E s' k q => wpAny_typeOf (h s' k) q
end
section
variable {X : Cx} {pins : List (Addr × Obj)} {σ : L2.St} {H : Hp} {s : Shared} {A : Around} {E : Value → Shared → Prop} {C CE y : Addr} {oy : Obj} {oe : Option Obj}
theorem oth_inst {a dx : Addr} {fs : List (Str × V)} (I : L2.Inv X pins σ H s) (h : H a = some (exo a CE (some dx))) (d : H dx = some (exd dx fs)) : ∃ ox od, PySem.W.InstAt s.heap a ox CE od ∧ ox.cls = .ref CE := by
  obtain ⟨t1, ho⟩ := exo_at I.hok h
  obtain ⟨mA, hns, hr⟩ := exd_at I.hok d
  obtain ⟨od, hod, hl⟩ := lookIn_ns hns
  exact ⟨{ cls := .ref CE, dict := some dx, data := .fields #[.ref t1, .none, .none, .none, .bool false, .none] }, some od, ⟨ho, rfl, rfl, hod⟩, rfl⟩
theorem oth_type {x : V} {u tx : Value} (I : L2.Inv X pins σ H s) (rx : RelV x u) (o : Oth H CE x tx) : PySem.W.Looks (model X.prog X.w) s.heap (typeOf u) tx := by
  cases o with
  | non => cases (show u = Value.none from rx); exact looks_ty fun _ _ => rfl
  | int i => obtain ⟨t, rfl⟩ := (show ∃ t, u = Value.int i t from rx); exact looks_ty fun _ _ => rfl
  | str x => obtain ⟨t, rfl⟩ := (show ∃ t, u = Value.str x t from rx); exact looks_ty fun _ _ => rfl
  | lst h =>
    cases (show u = Value.ref _ from rx)
    obtain ⟨its, rv, pl, hz⟩ := I.list (SqL.of h)
    exact looks_ty fun s' k => (pl.isList.at fun o e => k _ _ e).typeIs
  | tup h =>
    cases (show u = Value.ref _ from rx)
    obtain ⟨its, rv, ⟨o, h1, h2, _⟩, hz⟩ := I.tuple (SqT.of h)
    exact looks_ty fun s' k => ⟨o, k _ _ h1, h2⟩
  | err h d =>
    cases (show u = Value.ref _ from rx)
    obtain ⟨ox, od, J, _⟩ := oth_inst I h d
    exact J.type
theorem oth_decl {x : V} {u tx : Value} (I : L2.Inv X pins σ H s) (rx : RelV x u) (o : Oth H CE x tx) (hu : A.units + 1 < cLine) (c : ErrE X.K CE) (J : PySem.W.InstAt s.heap y oy C oe) (hp : oy.data = .plain) (hc : C ≠ CE)
    (hl : PySem.W.subIn X.K (.ref C) (.type "list") = some false) (ht : PySem.W.subIn X.K (.ref C) (.type "tuple") = some false) : Decl X.prog X.w A E s u tx y := by
  have ty := oth_type I rx o
  have hk := I.kIn
  cases o with
  | non =>
    cases (show u = Value.none from rx)
    have hT : s.TypeIs Value.none "NoneType" := rfl
    exact ⟨ty, fun Q q => wpAny_tryCompare_declines (T := "NoneType") rfl F.slot_NoneType_eq (call_gives F.slot_NoneType_eq (rfl : s.TypeIs Value.none "NoneType") F.entry_NoneType_eq (F.args_NoneType_eq_2 _ _) (NoneType___eq___none_ref_0 y) ⟨rfl, q⟩),
      fun Q q => wpAny_tryCompare_declines (T := "NoneType") rfl F.slot_NoneType_ne (call_gives F.slot_NoneType_ne (rfl : s.TypeIs Value.none "NoneType") F.entry_NoneType_ne (F.args_NoneType_ne_2 _ _) (NoneType___ne___none_ref_0 y) ⟨rfl, q⟩),
      fun op b => hT.oneThing_none op b⟩
  | int i =>
    obtain ⟨t, rfl⟩ := (show ∃ t, u = Value.int i t from rx)
    have hT : s.TypeIs (Value.int i t) "int" := rfl
    exact ⟨ty, fun Q q => wpAny_tryCompare_declines hT F.slot_int_eq (call_meets F.slot_int_eq hT F.entry_int_eq (F.args_int_eq_2 _ _) (int_eq_inst i t y oy hp) ⟨J.at_, rfl, q⟩),
      fun Q q => wpAny_tryCompare_declines hT F.slot_int_ne (call_meets F.slot_int_ne hT F.entry_int_ne (F.args_int_ne_2 _ _) (int_ne_inst i t y oy hp) ⟨J.at_, rfl, q⟩), fun op b => hT.oneThing_none op b⟩
  | str z =>
    obtain ⟨t, rfl⟩ := (show ∃ t, u = Value.str z t from rx)
    have hT : s.TypeIs (Value.str z t) "str" := rfl
    exact ⟨ty, fun Q q => wpAny_tryCompare_declines hT F.slot_str_eq (call_meets F.slot_str_eq hT F.entry_str_eq (F.args_str_eq_2 _ _) (str_eq_inst z t y oy hp) ⟨J.at_, rfl, q⟩),
      fun Q q => wpAny_tryCompare_declines hT F.slot_str_ne (call_meets F.slot_str_ne hT F.entry_str_ne (F.args_str_ne_2 _ _) (str_ne_inst z t y oy hp) ⟨J.at_, rfl, q⟩), fun op b => hT.oneThing_none op b⟩
  | @lst a xs h =>
    cases (show u = Value.ref a from rx)
    obtain ⟨its, rv, ⟨⟨cls, dd, dt, sl⟩, n, ho, hc1, hd, hdt⟩, hz⟩ := I.list (SqL.of h)
    simp only at hc1 hd hdt
    subst hc1 hd hdt
    have hT : s.TypeIs (Value.ref a) "list" := ⟨_, ho, rfl⟩
    exact ⟨ty, fun Q q => wpAny_tryCompare_declines hT F.slot_list_eq (call_meets F.slot_list_eq hT F.entry_list_eq (F.args_list_eq_2 _ _) (list_eq_inst a y _ n _ _ X.K C oy oe hl) ⟨ho, hk, J, rfl, q⟩),
      fun Q q => wpAny_tryCompare_declines hT F.slot_list_ne (call_meets F.slot_list_ne hT F.entry_list_ne (F.args_list_ne_2 _ _) (list_ne_inst a y _ n _ _ X.K C oy oe hl) ⟨ho, hk, J, rfl, q⟩), fun op b => hT.oneThing_none op b⟩
  | @tup a xs h =>
    cases (show u = Value.ref a from rx)
    obtain ⟨its, rv, pl, hz⟩ := I.tuple (SqT.of h)
    obtain ⟨⟨cls, dd, dt, sl⟩, ho, hc1, n, hdt⟩ := pl
    simp only at hc1 hdt
    subst hc1 hdt
    have hT : s.TypeIs (Value.ref a) "tuple" := ⟨_, ho, rfl⟩
    exact ⟨ty, fun Q q => wpAny_tryCompare_declines hT F.slot_tuple_eq (call_meets F.slot_tuple_eq hT F.entry_tuple_eq (F.args_tuple_eq_2 _ _) (tuple_eq_inst a y _ n _ _ X.K C oy oe ht) ⟨ho, hk, J, rfl, q⟩),
      fun Q q => wpAny_tryCompare_declines hT F.slot_tuple_ne (call_meets F.slot_tuple_ne hT F.entry_tuple_ne (F.args_tuple_ne_2 _ _) (tuple_ne_inst a y _ n _ _ X.K C oy oe ht) ⟨ho, hk, J, rfl, q⟩), fun op b => hT.oneThing_none op b⟩
  | @err a dx fs h d =>
    cases (show u = Value.ref a from rx)
    obtain ⟨ox, od, J2, _⟩ := oth_inst I h d
    refine decl_err hu hk J2 c J.at_ fun z => ?_
    subst z
    have e1 := J.at_.symm.trans J2.at_
    cases e1
    have e2 := J.cls.symm.trans J2.cls
    cases e2
    exact hc rfl
end
end KV
set_option Elab.async false
set_option linter.all false
set_option maxRecDepth 100000
set_option maxHeartbeats 4000000
/-! The rules for == and != among two own classes, data and an error. -/
namespace KV
open PySem PySem.Spec PyProof.Rows L2
def kinds5 : List String := ["NoneType", "int", "str", "list", "tuple"]
structure EqF (K : PySem.W.Frag) (CB CS CE fB fS : Addr) : Prop where
  oB : OwnE K CB fB
  oS : OwnE K CS fS
  eE : ErrE K CE
  sSB : PySem.W.subIn K (.ref CS) (.ref CB) = some false
  sBS : PySem.W.subIn K (.ref CB) (.ref CS) = some false
  sEB : PySem.W.subIn K (.ref CE) (.ref CB) = some false
  sBE : PySem.W.subIn K (.ref CB) (.ref CE) = some false
  sTB : ∀ T ∈ kinds5, PySem.W.subIn K (.type T) (.ref CB) = some false
  sBT : ∀ T ∈ kinds5, PySem.W.subIn K (.ref CB) (.type T) = some false
  ne : CB ≠ CE
theorem EqF.left {K : PySem.W.Frag} {CB CS CE fB fS : Addr} (F : EqF K CB CS CE fB fS) {H : Hp} {x : V} {t : Value} (o : Oth H CE x t) : PySem.W.subIn K t (.ref CB) = some false := by
  cases o with
  | non => exact F.sTB _ (by decide)
  | int => exact F.sTB _ (by decide)
  | str => exact F.sTB _ (by decide)
  | lst => exact F.sTB _ (by decide)
  | tup => exact F.sTB _ (by decide)
  | err => exact F.sEB
theorem EqF.right {K : PySem.W.Frag} {CB CS CE fB fS : Addr} (F : EqF K CB CS CE fB fS) {H : Hp} {x : V} {t : Value} (o : Oth H CE x t) : PySem.W.subIn K (.ref CB) t = some false := by
  cases o with
  | non => exact F.sBT _ (by decide)
  | int => exact F.sBT _ (by decide)
  | str => exact F.sBT _ (by decide)
  | lst => exact F.sBT _ (by decide)
  | tup => exact F.sBT _ (by decide)
  | err => exact F.sBE
/-- how the own == answers -/
abbrev ansE (g : Bool → Bool) (Q : VK) : VK := fun v H' => ∃ r : Bool, v = .bl r ∧ Q (.bl (g r)) H'
def rU (CB CS CE : Addr) (spB spS : Sp) (g : Bool → Bool) : R2 := fun x y H Q =>
  (∃ a dx fs, x = .ref a ∧ H a = some (.ins CB dx fs) ∧ ((∃ b dy gs, y = .ref b ∧ (H b = some (.ins CB dy gs) ∨ H b = some (.ins CS dy gs))) ∨ ∃ t, Oth H CE y t) ∧ spB [.ref a, y] H (ansE g Q) fun _ _ _ => False) ∨
  (∃ a dx fs b dy gs, x = .ref a ∧ H a = some (.ins CS dx fs) ∧ y = .ref b ∧ H b = some (.ins CB dy gs) ∧ spS [.ref a, y] H (ansE g Q) fun _ _ _ => False) ∨
  ∃ b dy gs t, y = .ref b ∧ H b = some (.ins CB dy gs) ∧ Oth H CE x t ∧ spB [.ref b, x] H (ansE g Q) fun _ _ _ => False
section
variable {X : Cx} {n m : Nat} {CB CS CE fB fS : Addr} {dB dS : FuncData} {psB psS : List Str} {spB spS : Sp}
theorem run_eqV {A : Around} {pins : List (Addr × Obj)} {s : Shared} {σ : L2.St} {H : Hp} {a f : Addr} {y : V} {u : Value} {fd : FuncData} {ps : List Str} {sp : Sp} {g : Bool → Bool} {Q : VK} {Qv : Value → Shared → Prop} (F : FnOk X.prog X.w X.K X.mg X.base CX0 n f fd ps sp) (hb : Binds X.K fd ps []) (I : L2.Inv X pins σ H s) (hr : Room n A) (e0 : Env0 X.prog X.w X.K X.mg X.base A X.stack s H)
    (ry : RelV y u) (h : sp [.ref a, y] H (ansE g Q) fun _ _ _ => False) (q : ∀ r H' s', L2.Inv X pins σ H' s' → Q (.bl (g r)) H' → Qv (.bool r) s') :
    wpAny (model X.prog X.w) A (call (.ref f) [.ref a, u]) Qv X.xe s := by
  have hl := F.len _ _ _ _ h
  have r2 : Vals [V.ref a, y] [Value.ref a, u] := .cons rfl (.cons ry .nil)
  refine wpAny_call (codeAny_mono (F.run A X.stack s H ⟨[.ref a, u], []⟩ [.ref a, u] [.ref a, y] _ (fun _ _ _ => False) hr e0 (by
    have := hb s [.ref a, u] I.kIn (by simpa using hl)
    simpa using this) r2 h) fun r s' hq => ?_)
  cases r with
  | error e => exact hq.elim
  | ok fl =>
    cases fl with
    | ret w =>
      obtain ⟨z, H', I', rz, r, ez, qz⟩ := I.after hq
      subst ez
      cases rz
      exact q r H' s' I' qz
    | next => exact False.elim hq
    | brk => exact False.elim hq
    | cont => exact False.elim hq
theorem inst_of {pins : List (Addr × Obj)} {s : Shared} {σ : L2.St} {H : Hp} {a C dx : Addr} {fs : List (Str × V)} (I : L2.Inv X pins σ H s) (h : H a = some (.ins C dx fs)) : ∃ ox od, PySem.W.InstAt s.heap a ox C od ∧ ox.data = .plain := by
  obtain ⟨mA, O, _⟩ := ins_get I.hok h
  obtain ⟨od, J, _⟩ := O.look
  exact ⟨_, _, J, rfl⟩
theorem op_eqU (T : EqF X.K CB CS CE fB fS) (FB : FnOk X.prog X.w X.K X.mg X.base CX0 n fB dB psB spB) (bB : Binds X.K dB psB []) (FS : FnOk X.prog X.w X.K X.mg X.base CX0 m fS dS psS spS) (bS : Binds X.K dS psS []) (hr : Room (n + m + 1) X.A) :
    OpR X (compareOp .Eq) (rU CB CS CE spB spS fun r => r) := by
  intro pins s σ H x y v u Q I rx ry hq
  have hrn : Room n X.A := hr.mono (by omega)
  have hrm : Room m X.A := hr.mono (by omega)
  have hu1 : X.A.units + 1 < cLine := by
    have := hr.un
    omega
  show wpAny (model X.prog X.w) X.A (richCompare .Eq v u) (EP X pins σ Q) X.xe s
  rcases hq with ⟨a, dx, fs, rfl, ha, hy, q⟩ | ⟨a, dx, fs, b, dy, gs, rfl, ha, rfl, hb, q⟩ | ⟨b, dy, gs, t, rfl, hb, ho, q⟩
  · cases (show v = Value.ref a from rx)
    obtain ⟨ox, od, J, _⟩ := inst_of I ha
    have ty : ∃ tb, PySem.W.Looks (model X.prog X.w) s.heap (typeOf u) tb ∧ (tb = .ref CB ∨ PySem.W.subIn X.K tb (.ref CB) = some false) := by
      rcases hy with ⟨b, dy, gs, rfl, hb | hb⟩ | ⟨t, o⟩
      · cases (show u = Value.ref b from ry)
        obtain ⟨oy, oe, J2, _⟩ := inst_of I hb
        exact ⟨_, J2.type, .inl rfl⟩
      · cases (show u = Value.ref b from ry)
        obtain ⟨oy, oe, J2, _⟩ := inst_of I hb
        exact ⟨_, J2.type, .inr T.sSB⟩
      · exact ⟨t, oth_type I ry o, .inr (T.left o)⟩
    obtain ⟨tb, l, hn⟩ := ty
    exact rc_eqL hr.units0 I.kIn J l hn (try_eqV I.kIn J T.oB.eq T.oB.fn (run_eqV FB bB I hrn I.env0 ry q fun r H' s' I' h => ⟨r, rfl, .bl r, H', I', rfl, h⟩))
  · cases (show v = Value.ref a from rx)
    cases (show u = Value.ref b from ry)
    obtain ⟨ox, od, J, _⟩ := inst_of I ha
    obtain ⟨oy, oe, J2, _⟩ := inst_of I hb
    exact rc_eqL hr.units0 I.kIn J J2.type (.inr T.sBS) (try_eqV I.kIn J T.oS.eq T.oS.fn (run_eqV FS bS I hrm I.env0 (show L2.RelV (V.ref b) (Value.ref b) from rfl) q fun r H' s' I' h => ⟨r, rfl, .bl r, H', I', rfl, h⟩))
  · cases (show u = Value.ref b from ry)
    obtain ⟨oy, oe, J2, hp⟩ := inst_of I hb
    have D := oth_decl (A := X.A) (E := X.xe) I rx ho hu1 T.eE J2 hp T.ne (T.sBT _ (by decide)) (T.sBT _ (by decide))
    exact rc_eqR hr.units0 I.kIn J2 D (T.right ho) (try_eqV I.kIn J2 T.oB.eq T.oB.fn (run_eqV FB bB I hrn I.env0 rx q fun r H' s' I' h => ⟨r, rfl, .bl r, H', I', rfl, h⟩))
theorem op_neU (T : EqF X.K CB CS CE fB fS) (FB : FnOk X.prog X.w X.K X.mg X.base CX0 n fB dB psB spB) (bB : Binds X.K dB psB []) (FS : FnOk X.prog X.w X.K X.mg X.base CX0 m fS dS psS spS) (bS : Binds X.K dS psS []) (hr : Room (n + m + 1) X.A) :
    OpR X (compareOp .NotEq) (rU CB CS CE spB spS fun r => !r) := by
  intro pins s σ H x y v u Q I rx ry hq
  have hrn : Room (n + 1) X.A := hr.mono (by omega)
  have hrm : Room (m + 1) X.A := hr.mono (by omega)
  have hu1 : X.A.units + 1 < cLine := by
    have := hr.un
    omega
  show wpAny (model X.prog X.w) X.A (richCompare .NotEq v u) (EP X pins σ Q) X.xe s
  rcases hq with ⟨a, dx, fs, rfl, ha, hy, q⟩ | ⟨a, dx, fs, b, dy, gs, rfl, ha, rfl, hb, q⟩ | ⟨b, dy, gs, t, rfl, hb, ho, q⟩
  · cases (show v = Value.ref a from rx)
    obtain ⟨ox, od, J, _⟩ := inst_of I ha
    have ty : ∃ tb, PySem.W.Looks (model X.prog X.w) s.heap (typeOf u) tb ∧ (tb = .ref CB ∨ PySem.W.subIn X.K tb (.ref CB) = some false) := by
      rcases hy with ⟨b, dy, gs, rfl, hb | hb⟩ | ⟨t, o⟩
      · cases (show u = Value.ref b from ry)
        obtain ⟨oy, oe, J2, _⟩ := inst_of I hb
        exact ⟨_, J2.type, .inl rfl⟩
      · cases (show u = Value.ref b from ry)
        obtain ⟨oy, oe, J2, _⟩ := inst_of I hb
        exact ⟨_, J2.type, .inr T.sSB⟩
      · exact ⟨t, oth_type I ry o, .inr (T.left o)⟩
    obtain ⟨tb, l, hn⟩ := ty
    exact rc_neL hr.units0 I.kIn J l hn (try_neV hr.in1.units0 I.kIn J T.oB.mro T.oB.ne T.oB.eq T.oB.fn (run_eqV FB bB I hrn.in1 I.env0.in1 ry q fun r H' s' I' h => ⟨r, rfl, .bl (!r), H', I', rfl, h⟩))
  · cases (show v = Value.ref a from rx)
    cases (show u = Value.ref b from ry)
    obtain ⟨ox, od, J, _⟩ := inst_of I ha
    obtain ⟨oy, oe, J2, _⟩ := inst_of I hb
    exact rc_neL hr.units0 I.kIn J J2.type (.inr T.sBS) (try_neV hr.in1.units0 I.kIn J T.oS.mro T.oS.ne T.oS.eq T.oS.fn (run_eqV FS bS I hrm.in1 I.env0.in1 (show L2.RelV (V.ref b) (Value.ref b) from rfl) q fun r H' s' I' h => ⟨r, rfl, .bl (!r), H', I', rfl, h⟩))
  · cases (show u = Value.ref b from ry)
    obtain ⟨oy, oe, J2, hp⟩ := inst_of I hb
    have D := oth_decl (A := X.A) (E := X.xe) I rx ho hu1 T.eE J2 hp T.ne (T.sBT _ (by decide)) (T.sBT _ (by decide))
    exact rc_neR hr.units0 I.kIn J2 D (T.right ho) (try_neV hr.in1.units0 I.kIn J2 T.oB.mro T.oB.ne T.oB.eq T.oB.fn (run_eqV FB bB I hrn.in1 I.env0.in1 rx q fun r H' s' I' h => ⟨r, rfl, .bl (!r), H', I', rfl, h⟩))
end
end KV
set_option Elab.async false
set_option linter.all false
set_option maxRecDepth 100000
set_option maxHeartbeats 0
/-! stores: what stands in a store, and in the law's own mirror of it -/
namespace LW
open PySem PySem.Spec PyProof.Rows L2 KV
theorem small4000 {n : Nat} (h : n ≤ 4000) : n < sizeLine := Nat.lt_of_le_of_lt h (by decide)
abbrev Wt := Option Int
def wV : Wt → V
  | none => .non
  | some i => .int i
def wD : Wt → PyData
  | none => .none
  | some i => .int i
abbrev Row := List Wt
def rowD (r : Row) : PyData := .tuple (r.map wD)
abbrev Stp := Str × Int × Option Row
def stepD (s : Stp) : PyData := .tuple [.str s.1, .int s.2.1, match s.2.2 with
  | none => .none
  | some r => rowD r]
abbrev Fp0 : Fp := fun _ => False
theorem owAll_ws {H : Hp} : ∀ {vs : List V} {r : Row} {F : Fp}, OwAll H vs (r.map wD) F → vs = r.map wV
  | _, [], _, h => by cases h; rfl
  | _, w :: r, _, h => by
    cases h with
    | cons h0 r0 _ _ =>
      rw [owAll_ws r0]
      cases w with
      | none => cases h0; rfl
      | some i => cases h0; rfl
theorem owAll_mk {H : Hp} : ∀ (r : Row), OwAll H (r.map wV) (r.map wD) Fp0
  | [] => .nil fun _ z => z
  | w :: r => .cons (F := Fp0) (G := Fp0) (by cases w with
    | none => exact .non fun _ z => z
    | some i => exact .int i fun _ z => z) (owAll_mk r) (fun _ z => z.elim) fun a => ⟨fun z => z.elim, fun z => z.elim id id⟩
theorem ow_row {H : Hp} {v : V} {r : Row} {F : Fp} (h : Ow H v (rowD r) F) : ∃ t, v = .ref t ∧ H t = some (.tup (r.map wV)) := by
  cases h with
  | tup h0 r0 =>
    rw [owAll_ws r0] at h0
    exact ⟨_, rfl, h0⟩
theorem ow_row_mk {H : Hp} {t : Addr} {r : Row} (h : H t = some (.tup (r.map wV))) : Ow H (.ref t) (rowD r) Fp0 := .tup h (owAll_mk r)
theorem ow_row0 {H : Hp} {v : V} {r : Row} {F : Fp} (h : Ow H v (rowD r) F) : Ow H v (rowD r) Fp0 := by
  obtain ⟨t, rfl, e⟩ := ow_row h
  exact ow_row_mk e
theorem owAll_atom {H : Hp} {vs : List V} {ds : List PyData} {v : V} {d : PyData} (h : OwAll H vs ds Fp0) (o : Ow H v d Fp0) : OwAll H (vs ++ [v]) (ds ++ [d]) Fp0 := h.snoc o (fun _ z => z.elim) fun a => ⟨fun z => z.elim, fun z => z.elim id id⟩
theorem owAll_0cons {H : Hp} {v : V} {vs : List V} {d : PyData} {ds : List PyData} (h : Ow H v d Fp0) (r : OwAll H vs ds Fp0) : OwAll H (v :: vs) (d :: ds) Fp0 := .cons h r (fun _ z => z.elim) fun a => ⟨fun z => z.elim, fun z => z.elim id id⟩
theorem owAll_0un {H : Hp} {v : V} {vs : List V} {d : PyData} {ds : List PyData} (h : OwAll H (v :: vs) (d :: ds) Fp0) : Ow H v d Fp0 ∧ OwAll H vs ds Fp0 := by
  cases h with
  | cons h r _ e => exact ⟨h.congr fun a => ⟨fun z => z.elim, fun z => (e a).mpr (.inl z)⟩, r.congr fun a => ⟨fun z => z.elim, fun z => (e a).mpr (.inr z)⟩⟩
theorem owAll_erase {H : Hp} : ∀ {vs : List V} {ds : List PyData} (i : Nat), OwAll H vs ds Fp0 → OwAll H (vs.eraseIdx i) (ds.eraseIdx i) Fp0
  | [], [], _, h => by simpa using h
  | [], _ :: _, _, h => by cases h
  | _ :: _, [], _, h => by cases h
  | v :: vs, d :: ds, 0, h => (owAll_0un h).2
  | v :: vs, d :: ds, i + 1, h => owAll_0cons (owAll_0un h).1 (owAll_erase i (owAll_0un h).2)
theorem owAll_insert {H : Hp} {v : V} {d : PyData} (o : Ow H v d Fp0) : ∀ {vs : List V} {ds : List PyData} (i : Nat), OwAll H vs ds Fp0 → OwAll H (vs.insertIdx i v) (ds.insertIdx i d) Fp0
  | vs, ds, 0, h => by simpa using owAll_0cons o h
  | [], [], i + 1, h => by simpa using h
  | [], _ :: _, _ + 1, h => by cases h
  | _ :: _, [], _ + 1, h => by cases h
  | v' :: vs, d' :: ds, i + 1, h => by
    rw [List.insertIdx_succ_cons, List.insertIdx_succ_cons]
    exact owAll_0cons (owAll_0un h).1 (owAll_insert o i (owAll_0un h).2)
theorem owAll_get {H : Hp} : ∀ {vs : List V} {ds : List PyData} {i : Nat} {d : PyData}, OwAll H vs ds Fp0 → ds[i]? = some d → ∃ v, vs[i]? = some v ∧ Ow H v d Fp0
  | [], [], i, d, _, e => by simp at e
  | [], _ :: _, _, _, h, _ => by cases h
  | _ :: _, [], _, _, h, _ => by cases h
  | v :: vs, d' :: ds, 0, d, h, e => by
    obtain rfl : d' = d := by simpa using e
    exact ⟨v, rfl, (owAll_0un h).1⟩
  | v :: vs, d' :: ds, i + 1, d, h, e => owAll_get (i := i) (owAll_0un h).2 (by simpa using e)
/-- the dict of the lists at L, by the titles -/
def dkv (ts : List Tab) (L : Str → Addr) : List (Key × V) := ts.map fun t => (.inr t.1, .ref (L t.1))
theorem valV_dkv {L : Str → Addr} {x : Str} : ∀ {ts : List Tab}, valV (dkv ts L) (.inr x) = if x ∈ ts.map Prod.fst then some (.ref (L x)) else none
  | [] => rfl
  | t :: ts => by
    have ih := valV_dkv (L := L) (x := x) (ts := ts)
    by_cases e : t.1 = x
    · rw [if_pos (by simp [e])]
      subst e
      simp [dkv, valV]
    · have : valV (dkv (t :: ts) L) (.inr x) = valV (dkv ts L) (.inr x) := by
        simp [dkv, valV, e]
      rw [this, ih]
      by_cases m : x ∈ ts.map Prod.fst
      · rw [if_pos m, if_pos (by simp only [List.map_cons]; exact List.mem_cons_of_mem _ m)]
      · rw [if_neg m, if_neg (by simp only [List.map_cons, List.mem_cons]; exact fun z => z.elim (fun z => e z.symm) m)]
structure StoA (H : Hp) (d l : Addr) (L : Str → Addr) (ts : List Tab) (R : Str → List Row) (S : List Stp) : Prop where
  dic : H d = some (.dK (dkv ts L))
  rows : ∀ t ∈ ts, ∃ vs, H (L t.1) = some (.lst vs) ∧ OwAll H vs ((R t.1).map rowD) Fp0
  steps : ∃ vs, H l = some (.lst vs) ∧ OwAll H vs (S.map stepD) Fp0
/-- what a store's deeds change -/
def Mu (ts : List Tab) (L : Str → Addr) (l : Addr) : Fp := fun a => a = l ∨ ∃ t ∈ ts, a = L t.1
structure Sep (ts : List Tab) (L : Str → Addr) (l : Addr) : Prop where
  inj : ∀ t ∈ ts, ∀ u ∈ ts, L t.1 = L u.1 → t.1 = u.1
  ne : ∀ t ∈ ts, L t.1 ≠ l
theorem StoA.lst {H : Hp} {d l : Addr} {L : Str → Addr} {ts : List Tab} {R : Str → List Row} {S : List Stp} (h : StoA H d l L ts R S) : ∀ a, Mu ts L l a → ∃ xs, H a = some (.lst xs) := by
  rintro a (rfl | ⟨t, ht, rfl⟩)
  · obtain ⟨vs, e, _⟩ := h.steps
    exact ⟨vs, e⟩
  · obtain ⟨vs, e, _⟩ := h.rows t ht
    exact ⟨vs, e⟩
theorem StoA.keep {H H' : Hp} {d l : Addr} {L : Str → Addr} {ts : List Tab} {R : Str → List Row} {S : List Stp} {G : Fp} (h : StoA H d l L ts R S) (k : Off G H H') (hG : ∀ a, G a → ∃ xs, H a = some (.lst xs)) (n : ∀ a, Mu ts L l a → ¬ G a) : StoA H' d l L ts R S := by
  refine ⟨k _ _ h.dic fun z => ?_, fun t ht => ?_, ?_⟩
  · obtain ⟨xs, e⟩ := hG _ z
    rw [h.dic] at e
    cases e
  · obtain ⟨vs, e, o⟩ := h.rows t ht
    exact ⟨vs, k _ _ e (n _ (.inr ⟨t, ht, rfl⟩)), o.keep k hG fun _ z => z.elim⟩
  · obtain ⟨vs, e, o⟩ := h.steps
    exact ⟨vs, k _ _ e (n _ (.inl rfl)), o.keep k hG fun _ z => z.elim⟩
theorem StoA.off {H H' : Hp} {d l : Addr} {L : Str → Addr} {ts : List Tab} {R : Str → List Row} {S : List Stp} (h : StoA H d l L ts R S) (k : Off (fun _ => False) H H') : StoA H' d l L ts R S := h.keep k (fun _ z => z.elim) fun _ _ z => z
def setR (R : Str → List Row) (x : Str) (rows : List Row) : Str → List Row := fun y => if y = x then rows else R y
theorem setR_same {R : Str → List Row} {x : Str} {rows : List Row} : setR R x rows x = rows := if_pos rfl
theorem setR_ne {R : Str → List Row} {x y : Str} {rows : List Row} (h : y ≠ x) : setR R x rows y = R y := if_neg h
theorem setR_self {R : Str → List Row} {x : Str} : setR R x (R x) = R := by
  funext y
  unfold setR
  split
  · rename_i h
    rw [h]
  · rfl
theorem setR_two {R : Str → List Row} {x : Str} {a b : List Row} : setR (setR R x a) x b = setR R x b := by
  funext y
  unfold setR
  split <;> rfl
/-- one table's list is another -/
theorem StoA.set {H : Hp} {d l : Addr} {L : Str → Addr} {ts : List Tab} {R : Str → List Row} {S : List Stp} (h : StoA H d l L ts R S) (sp : Sep ts L l) {t : Tab} (ht : t ∈ ts) {vs : List V} {rows : List Row} (o : OwAll H vs (rows.map rowD) Fp0) :
    StoA (upd H (L t.1) (.lst vs)) d l L ts (setR R t.1 rows) S := by
  obtain ⟨xs, ex, _⟩ := h.rows t ht
  have k : Off (fun a => a = L t.1) H (upd H (L t.1) (.lst vs)) := Off.upd rfl
  have hG : ∀ a, a = L t.1 → ∃ xs, H a = some (.lst xs) := fun a z => ⟨xs, z ▸ ex⟩
  refine ⟨k _ _ h.dic fun z => absurd h.dic (by rw [z, ex]; intro q; cases q), fun u hu => ?_, ?_⟩
  · by_cases e : u.1 = t.1
    · refine ⟨vs, by rw [e]; exact upd_same, ?_⟩
      rw [e, setR_same]
      exact o.keep k hG fun _ z => z.elim
    · obtain ⟨us, eu, ou⟩ := h.rows u hu
      rw [setR_ne e]
      exact ⟨us, k _ _ eu fun z => e (sp.inj u hu t ht z), ou.keep k hG fun _ z => z.elim⟩
  · obtain ⟨us, eu, ou⟩ := h.steps
    exact ⟨us, k _ _ eu fun z => sp.ne t ht z.symm, ou.keep k hG fun _ z => z.elim⟩
/-- the steps are others -/
theorem StoA.step {H : Hp} {d l : Addr} {L : Str → Addr} {ts : List Tab} {R : Str → List Row} {S S' : List Stp} (h : StoA H d l L ts R S) (sp : Sep ts L l) {vs : List V} (o : OwAll H vs (S'.map stepD) Fp0) : StoA (upd H l (.lst vs)) d l L ts R S' := by
  obtain ⟨xs, ex, _⟩ := h.steps
  have k : Off (fun a => a = l) H (upd H l (.lst vs)) := Off.upd rfl
  have hG : ∀ a, a = l → ∃ xs, H a = some (.lst xs) := fun a z => ⟨xs, z ▸ ex⟩
  refine ⟨k _ _ h.dic fun z => absurd h.dic (by rw [z, ex]; intro q; cases q), fun u hu => ?_, ⟨vs, upd_same, o.keep k hG fun _ z => z.elim⟩⟩
  obtain ⟨us, eu, ou⟩ := h.rows u hu
  exact ⟨us, k _ _ eu (sp.ne u hu), ou.keep k hG fun _ z => z.elim⟩
end LW
set_option Elab.async false
set_option linter.all false
set_option maxRecDepth 100000
set_option maxHeartbeats 0
/-! stores: what a rule asks of rows; texts of worths -/
namespace LW
open PySem PySem.Spec PyProof.Rows L2 KV
/-! ### texts of worths -/
def wT : Wt → Str
  | none => "None"
  | some i => Str.ofString (toString i)
def Wok : Wt → Prop
  | none => True
  | some i => -1000 ≤ i ∧ i ≤ 1000
theorem wT_eq (w : Wt) : (wD w).shown = wT w := by cases w <;> rfl
def wB (i : Int) : Bool := decide (PySem.intText? (Str.ofString (toString i)) = some i) && ((Str.ofString (toString i)).cps.toList.all (fun c => decide (c ≠ 44) && decide (c ≠ 78)) && decide ((Str.ofString (toString i)).length ≤ 6))
theorem wB_all : ∀ k : Fin 2001, wB ((k.val : Int) - 1000) = true := by decide +kernel
theorem wB_ok {i : Int} (h1 : -1000 ≤ i) (h2 : i ≤ 1000) : wB i = true := by
  have := wB_all ⟨(i + 1000).toNat, by omega⟩
  rwa [show (((i + 1000).toNat : Nat) : Int) - 1000 = i by omega] at this
theorem wT_none : wT none = "None" := rfl
theorem wT_inj {a b : Wt} (ha : Wok a) (hb : Wok b) (h : wT a = wT b) : a = b := by
  have key : ∀ {i : Int}, Wok (some i) → wT none ≠ wT (some i) := fun {i} hi z => by
    have := wB_ok hi.1 hi.2
    unfold wB at this
    rw [Bool.and_eq_true, Bool.and_eq_true] at this
    have e := List.all_eq_true.mp this.2.1 78 (by
      have : (wT (some i)).cps.toList = ("None" : Str).cps.toList := by rw [← z]; rfl
      rw [show (Str.ofString (toString i)).cps.toList = ("None" : Str).cps.toList from this]
      decide +kernel)
    simp at e
  cases a with
  | none =>
    cases b with
    | none => rfl
    | some j => exact (key hb h).elim
  | some i =>
    cases b with
    | none => exact (key ha h.symm).elim
    | some j =>
      have h1 := wB_ok ha.1 ha.2
      have h2 := wB_ok hb.1 hb.2
      unfold wB at h1 h2
      rw [Bool.and_eq_true] at h1 h2
      have e1 := of_decide_eq_true h1.1
      have e2 := of_decide_eq_true h2.1
      have h : Str.ofString (toString i) = Str.ofString (toString j) := h
      rw [h, e2] at e1
      rw [Option.some.inj e1]
theorem wT_chars {a : Wt} (ha : Wok a) : (∀ c ∈ (wT a).cps.toList, c ≠ 44) ∧ (wT a).length ≤ 6 := by
  cases a with
  | none => exact ⟨by decide +kernel, by decide +kernel⟩
  | some i =>
    have h1 := wB_ok ha.1 ha.2
    unfold wB at h1
    rw [Bool.and_eq_true, Bool.and_eq_true] at h1
    refine ⟨fun c hc => ?_, of_decide_eq_true h1.2.2⟩
    have e := List.all_eq_true.mp h1.2.1 c hc
    rw [Bool.and_eq_true] at e
    exact of_decide_eq_true e.1
/-- the text of a list of worths -/
def lwT (ws : List Wt) : Str := (PyData.list (ws.map wD)).shown
theorem tl_app (x y : Str) : (x ++ y).cps.toList = x.cps.toList ++ y.cps.toList := by
  show (x.cps ++ y.cps).toList = _
  simp
theorem textFrom_tl : ∀ (ts : List Str) (k : Nat) (acc : Str), 0 < k → (textFrom k acc ts).cps.toList = acc.cps.toList ++ (ts.map fun t => (44 :: 32 :: t.cps.toList)).flatten
  | [], _, acc, _ => by simp [textFrom]
  | t :: ts, k, acc, hk => by
    rw [textFrom, textFrom_tl ts (k + 1) _ (Nat.succ_pos k), if_pos hk, tl_app, tl_app]
    have : ((", " : String) : Str).cps.toList = [44, 32] := by decide +kernel
    rw [this]
    simp
theorem sep_inj {p q r s : List Nat} (hp : ∀ c ∈ p, c ≠ 44) (hq : ∀ c ∈ q, c ≠ 44) (h : p ++ 44 :: r = q ++ 44 :: s) : p = q ∧ r = s := by
  induction p generalizing q with
  | nil =>
    cases q with
    | nil => exact ⟨rfl, by simpa using h⟩
    | cons b q =>
      simp at h
      exact (hq b (by simp) h.1.symm).elim
  | cons a p ih =>
    cases q with
    | nil =>
      simp at h
      exact (hp a (by simp) h.1).elim
    | cons b q =>
      simp at h
      obtain ⟨h1, h2⟩ := ih (fun c hc => hp c (by simp [hc])) (fun c hc => hq c (by simp [hc])) h.2
      exact ⟨by rw [h.1, h1], h2⟩
theorem seps_inj : ∀ {ps qs : List (List Nat)}, (∀ p ∈ ps, ∀ c ∈ p, c ≠ 44) → (∀ p ∈ qs, ∀ c ∈ p, c ≠ 44) → ps.length = qs.length → ∀ {r s : List Nat}, (∀ c ∈ r, c ≠ 44) → (∀ c ∈ s, c ≠ 44) → r ++ (ps.map fun t => 44 :: 32 :: t).flatten = s ++ (qs.map fun t => 44 :: 32 :: t).flatten → r = s ∧ ps = qs
  | [], [], _, _, _, r, s, _, _, h => by simpa using h
  | [], _ :: _, _, _, l, _, _, _, _, _ => by simp at l
  | _ :: _, [], _, _, l, _, _, _, _, _ => by simp at l
  | p :: ps, q :: qs, hp, hq, l, r, s, hr, hs, h => by
    simp only [List.map_cons, List.flatten_cons, List.cons_append] at h
    obtain ⟨h1, h2⟩ := sep_inj hr hs h
    have h2 : p ++ (ps.map fun t => 44 :: 32 :: t).flatten = q ++ (qs.map fun t => 44 :: 32 :: t).flatten := by simpa using h2
    obtain ⟨h3, h4⟩ := seps_inj (fun p' h => hp p' (by simp [h])) (fun p' h => hq p' (by simp [h])) (by simpa using l) (hp p (by simp)) (hq q (by simp)) h2
    exact ⟨h1, by rw [h3, h4]⟩
theorem lwT_cons (w : Wt) (ws : List Wt) : (lwT (w :: ws)).cps.toList = 91 :: ((wT w).cps.toList ++ ((ws.map fun w => (wT w).cps.toList).map fun t => 44 :: 32 :: t).flatten) ++ [93] := by
  have all : ∀ l : List Wt, PyData.shownAll (l.map wD) = l.map wT := fun l => by
    induction l with
    | nil => rfl
    | cons a l ih =>
      show (wD a).shown :: PyData.shownAll (l.map wD) = _
      rw [ih, wT_eq]
      rfl
  have e : lwT (w :: ws) = listText ((w :: ws).map wT) := by
    unfold lwT
    show listText (PyData.shownAll ((w :: ws).map wD)) = _
    rw [all]
  rw [e]
  unfold listText
  rw [tl_app, List.map_cons, textFrom, textFrom_tl _ _ _ (Nat.succ_pos 0), if_neg (by decide), tl_app, tl_app]
  have e1 : (("[" : String) : Str).cps.toList = [91] := by decide +kernel
  have e2 : (("]" : String) : Str).cps.toList = [93] := by decide +kernel
  have e3 : (("" : String) : Str).cps.toList = [] := by decide +kernel
  have e4 : ("[" : Str).cps.toList = [91] := by decide +kernel
  have e5 : ("]" : Str).cps.toList = [93] := by decide +kernel
  simp only [e1, e2, e3, e4, e5, List.map_map]
  simp
  rfl
theorem parts_inj : ∀ {xs ys : List Wt}, xs.length = ys.length → (∀ w ∈ xs, Wok w) → (∀ w ∈ ys, Wok w) → xs.map (fun w => (wT w).cps.toList) = ys.map (fun w => (wT w).cps.toList) → xs = ys
  | [], [], _, _, _, _ => rfl
  | [], _ :: _, l, _, _, _ => by simp at l
  | _ :: _, [], l, _, _, _ => by simp at l
  | u :: us, v :: vs, l, ha, hb, h => by
    simp only [List.map_cons, List.cons.injEq] at h
    rw [wT_inj (ha u (by simp)) (hb v (by simp)) (str_ext h.1), parts_inj (by simpa using l) (fun w hw => ha w (by simp [hw])) (fun w hw => hb w (by simp [hw])) h.2]
theorem lwT_inj {a b : List Wt} (l : a.length = b.length) (ha : ∀ w ∈ a, Wok w) (hb : ∀ w ∈ b, Wok w) (h : lwT a = lwT b) : a = b := by
  cases a with
  | nil =>
    cases b with
    | nil => rfl
    | cons _ _ => simp at l
  | cons x xs =>
    cases b with
    | nil => simp at l
    | cons y ys =>
      have h : (lwT (x :: xs)).cps.toList = (lwT (y :: ys)).cps.toList := by rw [h]
      rw [lwT_cons, lwT_cons] at h
      have h := List.append_cancel_right h
      have h := (List.cons.inj h).2
      have n : ∀ {l : List Wt}, (∀ w ∈ l, Wok w) → ∀ p ∈ l.map (fun w => (wT w).cps.toList), ∀ c ∈ p, c ≠ 44 := fun hl p hp => by
        obtain ⟨w, hw, rfl⟩ := List.mem_map.mp hp
        exact (wT_chars (hl w hw)).1
      obtain ⟨h1, h2⟩ := seps_inj (n fun w hw => ha w (by simp [hw])) (n fun w hw => hb w (by simp [hw])) (by simpa using l) (wT_chars (ha x (by simp))).1 (wT_chars (hb y (by simp))).1 h
      have hx := wT_inj (ha x (by simp)) (hb y (by simp)) (str_ext h1)
      have hxs : xs = ys := parts_inj (by simpa using l) (fun w hw => ha w (by simp [hw])) (fun w hw => hb w (by simp [hw])) h2
      rw [hx, hxs]
theorem lwT_len {a : List Wt} (ha : ∀ w ∈ a, Wok w) : (lwT a).length ≤ 2 + 8 * a.length := by
  cases a with
  | nil => decide +kernel
  | cons x xs =>
    have e : (lwT (x :: xs)).length = (lwT (x :: xs)).cps.toList.length := by simp [Str.length]
    have f : ∀ {l : List Wt}, (∀ w ∈ l, Wok w) → (((l.map fun w => (wT w).cps.toList).map fun t => 44 :: 32 :: t).flatten).length ≤ 8 * l.length := fun {l} hl => by
      induction l with
      | nil => simp
      | cons u us ih =>
        have h1 := (wT_chars (hl u (by simp))).2
        have h2 := ih fun w hw => hl w (by simp [hw])
        have e : (wT u).cps.toList.length = (wT u).length := by simp [Str.length]
        simp only [List.map_cons, List.flatten_cons, List.length_append, List.length_cons, e] at h2 ⊢
        omega
    have h1 := (wT_chars (ha x (by simp))).2
    have h2 := f (l := xs) fun w hw => ha w (by simp [hw])
    have e2 : (wT x).cps.toList.length = (wT x).length := by simp [Str.length]
    rw [e, lwT_cons]
    simp only [List.length_append, List.length_cons, List.length_nil, e2]
    omega
/-! ### rules -/
def colAt (cols : List Str) (r : Row) (c : Str) : Wt := r.getD (cols.idxOf c) none
def marks (cols cs : List Str) (r : Row) : List Wt := cs.map (colAt cols r)
def clash (cols cs tl : List Str) (a b : Row) : Bool := decide (marks cols cs a = marks cols cs b) && (tl.isEmpty || tl.any fun c => decide (colAt cols a c ≠ colAt cols b c))
theorem clash_symm (cols cs tl : List Str) (a b : Row) : clash cols cs tl a b = clash cols cs tl b a := by
  unfold clash
  congr 1
  · exact decide_eq_decide.mpr ⟨Eq.symm, Eq.symm⟩
  · congr 2
    funext c
    exact decide_eq_decide.mpr ⟨Ne.symm, Ne.symm⟩
/-- whether the rule with these columns holds for these rows -/
def okRows (cols cs tl : List Str) : List Row → Bool
  | [] => true
  | r :: rs => rs.all (fun b => !clash cols cs tl r b) && okRows cols cs tl rs
theorem okRows_snoc (cols cs tl : List Str) (row : Row) : ∀ rows : List Row, okRows cols cs tl (rows ++ [row]) = (okRows cols cs tl rows && rows.all fun a => !clash cols cs tl a row)
  | [] => by simp [okRows]
  | r :: rs => by
    rw [List.cons_append, okRows, okRows, okRows_snoc cols cs tl row rs, List.all_append]
    simp only [List.all_cons, List.all_nil, Bool.and_true]
    cases (rs.all fun b => !clash cols cs tl r b) <;> cases clash cols cs tl r row <;> cases okRows cols cs tl rs <;> simp
def holdsR (ts : List Tab) (R : Str → List Row) : RB → Bool
  | ([_, x], some (cs, tl)) => match tabOf ts x with
    | some t => okRows t.2 cs tl (R x)
    | none => true
  | _ => true
def fidx (p : RB → Bool) : List RB → Option Nat
  | [] => none
  | r :: rs => if p r then some 0 else (fidx p rs).map (· + 1)
theorem fidx_congr {p q : RB → Bool} : ∀ {rs : List RB}, (∀ r ∈ rs, p r = q r) → fidx p rs = fidx q rs
  | [], _ => rfl
  | r :: rs, h => by
    rw [fidx, fidx, h r (by simp), fidx_congr fun r hr => h r (by simp [hr])]
theorem fidx_at {p : RB → Bool} : ∀ {rs : List RB} {i : Nat} {r : RB}, (∀ q ∈ rs.take i, p q = false) → rs[i]? = some r → p r = true → fidx p rs = some i
  | [], _, _, _, h, _ => by simp at h
  | q :: rs, 0, r, _, h, hp => by
    obtain rfl : q = r := by simpa using h
    rw [fidx, if_pos hp]
  | q :: rs, i + 1, r, h0, h, hp => by
    rw [fidx, if_neg (by rw [h0 q (by simp)]; decide), fidx_at (i := i) (fun z hz => h0 z (by simp [hz])) (by simpa using h) hp]
    rfl
theorem fidx_none {p : RB → Bool} : ∀ {rs : List RB}, (∀ r ∈ rs, p r = false) → fidx p rs = none
  | [], _ => rfl
  | q :: rs, h => by
    rw [fidx, if_neg (by rw [h q (by simp)]; decide), fidx_none fun r hr => h r (by simp [hr])]
    rfl
def brokenO (ts : List Tab) (rs : List RB) (R : Str → List Row) : Option Nat := fidx (fun r => !holdsR ts R r) rs
def breaksR (ts : List Tab) (R : Str → List Row) (x : Str) (row : Row) : RB → Bool
  | ([_, y], some (cs, tl)) => decide (y = x) && match tabOf ts x with
    | some t => (R x).any fun a => clash t.2 cs tl a row
    | none => false
  | _ => false
theorem broken_new {ts : List Tab} {rs : List RB} {R : Str → List Row} {x : Str} {row : Row} (h : brokenO ts rs R = none) (fm : ∀ r ∈ rs, formed r = true) : brokenO ts rs (setR R x (R x ++ [row])) = fidx (breaksR ts R x row) rs := by
  have each : ∀ r ∈ rs, holdsR ts R r = true := by
    unfold brokenO at h
    clear fm
    induction rs with
    | nil => intro r hr; simp at hr
    | cons q rs ih =>
      rw [fidx] at h
      split at h
      · cases h
      · rename_i hq
        intro r hr
        rcases List.mem_cons.mp hr with rfl | hr
        · simpa using hq
        · refine ih ?_ r hr
          cases e : fidx (fun r => !holdsR ts R r) rs with
          | none => rfl
          | some i => rw [e] at h; cases h
  refine fidx_congr fun r hr => ?_
  obtain ⟨k, y, cs, tl, rfl, _⟩ := formed_ok (fm r hr)
  have hy := each _ hr
  unfold holdsR at hy
  unfold holdsR breaksR
  dsimp only at hy ⊢
  by_cases e : y = x
  · subst e
    rw [setR_same]
    cases ht : tabOf ts y with
    | none => simp
    | some t =>
      rw [ht] at hy
      dsimp only at hy ⊢
      rw [okRows_snoc, hy]
      simp [List.any_eq_not_all_not]
  · rw [setR_ne e, decide_eq_false e]
    cases ht : tabOf ts y with
    | none => rfl
    | some t =>
      rw [ht] at hy
      dsimp only at hy ⊢
      rw [hy]
      rfl
end LW
set_option Elab.async false
set_option linter.all false
set_option maxRecDepth 100000
set_option maxHeartbeats 0
/-! stores.py: places_of, values_at, breaks -/
namespace LW
open PySem PySem.Spec PyProof.Rows L2 KV
theorem idx_get {cols : List Str} {c : Str} (h : c ∈ cols) : cols[cols.idxOf c]? = some c := by
  have l := List.idxOf_lt_length_of_mem h
  rw [List.getElem?_eq_getElem l, List.getElem_idxOf l]
theorem idx_no : ∀ {cols : List Str} {c : Str} {m : Nat}, m < cols.idxOf c → cols[m]? ≠ some c
  | [], c, m, h => by simp at h
  | x :: xs, c, m, h => by
    rw [List.idxOf_cons] at h
    cases e : x == c with
    | true =>
      rw [e] at h
      simp at h
    | false =>
      rw [e] at h
      have ne : x ≠ c := fun z => by rw [z] at e; simp at e
      cases m with
      | zero => simpa using ne
      | succ m =>
        have : m < xs.idxOf c := by simpa using h
        simpa using idx_no this
theorem eqV_str (x y : Str) : eqV (.str x) (.str y) = decide (x = y) := by
  show (x == y) = _
  by_cases h : x = y
  · subst h
    simp
  · rw [decide_eq_false h]
    exact beq_eq_false_iff_ne.mpr h
def spPlaces (K : PySem.W.Frag) : Sp := fun vs H Q _ => ∃ (ca na : Addr) (cols cs : List Str), vs = [.ref ca, .ref na] ∧ SqL K H ca (cols.map V.str) ∧ SqL K H na (cs.map V.str) ∧ (∀ c ∈ cs, c ∈ cols) ∧ cs.length ≤ 1000 ∧
  ∀ D H', H D = none → H' D = some (.lst (cs.map fun c => V.int (cols.idxOf c : Nat))) → Off (fun _ => False) H H' → Q (.ref D) H'
def spVals (K : PySem.W.Frag) : Sp := fun vs H Q _ => ∃ (ra pa : Addr) (cols cs : List Str) (r : Row), vs = [.ref ra, .ref pa] ∧ H ra = some (.tup (r.map wV)) ∧ SqL K H pa (cs.map fun c => V.int (cols.idxOf c : Nat)) ∧ (∀ c ∈ cs, c ∈ cols) ∧ r.length = cols.length ∧ cs.length ≤ 1000 ∧
  ∀ D H', H D = none → H' D = some (.tup ((marks cols cs r).map wV)) → Off (fun _ => False) H H' → Q (.ref D) H'
section
variable {P : Program} {w : World} {K : PySem.W.Frag} {mg : Str → Option Value} {base : Heap}
theorem scPlaces : FnScope ["columns", "names", "name"] ["columns", "names"] (defScope pPlacesOf) := ⟨rfl, rfl, rfl, by decide +kernel, rfl, by decide +kernel, by decide +kernel⟩
theorem ok_places {f : Addr} {fd : FuncData} (F : FnP K "places_of" pPlacesOf f fd) : FnOk P w K mg base CX0 1 f fd ["columns", "names"] (spPlaces K) := by
  refine F.ok scPlaces (fun vs H Q E h => ?_) (fun cdv A outer s H vs Q E hr h => ?_)
  · obtain ⟨ca, na, cols, cs, rfl, _⟩ := h
    rfl
  obtain ⟨ca, na, cols, cs, rfl, sc, sn, hm, lc, q⟩ := h
  refine ⟨_, pss_one (ps_ret (pe_lc (own := [("name", 2)]) (g := gName 2) (tt := tYes) (te := tBM K "list" (rIndex K) (tVar 0) (tCons (tVar 2) tNil)) rfl scPlaces.nd (pi_list (pv 1)) (blkOk_by (own := [("name", 2)]) (N := ["columns", "names", "name"]) (sc := defScope pPlacesOf) (by decide +kernel))
    (fun _ _ _ _ _ => pg_name (i := 2) scPlaces.nd rfl (Or.inl rfl)) (fun _ _ _ _ _ => pts_nil) (fun _ _ _ _ _ => pe_bm PySem.F.plainAttrs_list PySem.F.slot_list_index PySem.F.type_list_index mt_index (pv 0) (pa_cons (pv 2) pa_nil)))), ?_⟩
  have no : ¬ False := id
  refine ⟨_, rfl, na, rfl, ⟨_, sn⟩, fun D hD => lc_list (K := K) (a := na) (xs := cs.map V.str) (fun i G => G D = some (.lst ((cs.take i).map fun c => V.int (cols.idxOf c : Nat))) ∧ Off (fun _ => False) H G) ⟨upd_same, Off.new hD⟩ (fun i G _ g => sqL_off g.2 sn) (fun i x G hx g => ?_) fun G g => ?_⟩
  · obtain ⟨g1, g2⟩ := g
    rw [List.getElem?_map] at hx
    obtain ⟨c, hc, rfl⟩ := Option.map_eq_some_iff.mp hx
    have mc := hm c (List.mem_of_getElem? hc)
    refine ⟨rfl, ?_⟩
    refine Exists.intro _ ⟨rfl, .inl ⟨rfl, _, sqL_off g2 sc⟩, Exists.intro _ ⟨rfl, ca, cols.map V.str, .str c, cols.idxOf c, .str c, rfl, rfl, sqL_off g2 sc, rfl, flat_strs _, by rw [List.getElem?_map, idx_get mc]; rfl, by rw [eqV_str]; exact decide_eq_true rfl, fun m z hm' hz => ?_, ?_⟩⟩
    · rw [List.getElem?_map] at hz
      obtain ⟨y, hy, rfl⟩ := Option.map_eq_some_iff.mp hz
      rw [eqV_str]
      refine decide_eq_false fun z => idx_no hm' ?_
      rw [hy, z]
    · refine ⟨_, g1, ?_, ?_, fun b o eb nb => ?_⟩
      · rw [List.length_map, List.length_take]
        exact small4000 (by omega)
      · rw [upd_same, take_snoc hc, List.map_append]
        rfl
      · rw [upd_ne (fun z => by rw [z, hD] at eb; cases eb)]
        exact g2 b o eb nb
  · obtain ⟨g1, g2⟩ := g
    rw [List.length_map, List.take_length] at g1
    exact q D G hD g1 g2
theorem scVals : FnScope ["row", "places", "place"] ["row", "places"] (defScope pValuesAt) := ⟨rfl, rfl, rfl, by decide +kernel, rfl, by decide +kernel, by decide +kernel⟩
theorem ok_vals {f : Addr} {fd : FuncData} (F : FnP K "values_at" pValuesAt f fd) (mt : mg "tuple" = none) : FnOk P w K mg base CX0 1 f fd ["row", "places"] (spVals K) := by
  refine F.ok scVals (fun vs H Q E h => ?_) (fun cdv A outer s H vs Q E hr h => ?_)
  · obtain ⟨ra, pa, cols, cs, r, rfl, _⟩ := h
    rfl
  obtain ⟨ra, pa, cols, cs, r, rfl, er, sp, hm, lr, lc, q⟩ := h
  refine ⟨_, pss_one (ps_ret (pe_callTy call_tuple_of rfl mt boot_tuple (pa_cons (pe_lc (own := [("place", 2)]) (g := gName 2) (tt := tYes) (te := tOp (rIxT K) (tVar 0) (tVar 2)) rfl scVals.nd (pi_list (pv 1)) (blkOk_by (own := [("place", 2)]) (N := ["row", "places", "place"]) (sc := defScope pValuesAt) (by decide +kernel))
    (fun _ _ _ _ _ => pg_name (i := 2) scVals.nd rfl (Or.inl rfl)) (fun _ _ _ _ _ => pts_nil) (fun _ _ _ _ _ => pe_ix ix_tup (pv 0) (pv 2) (fun _ _ => rfl))) pa_nil))), ?_⟩
  have no : ¬ False := id
  refine ⟨_, rfl, pa, rfl, ⟨_, sp⟩, fun D hD => lc_list (K := K) (a := pa) (xs := cs.map fun c => V.int (cols.idxOf c : Nat)) (fun i G => G D = some (.lst ((marks cols (cs.take i) r).map wV)) ∧ Off (fun _ => False) H G) ⟨upd_same, Off.new hD⟩ (fun i G _ g => sqL_off g.2 sp) (fun i x G hx g => ?_) fun G g => ?_⟩
  · obtain ⟨g1, g2⟩ := g
    rw [List.getElem?_map] at hx
    obtain ⟨c, hc, rfl⟩ := Option.map_eq_some_iff.mp hx
    have mc := hm c (List.mem_of_getElem? hc)
    have lx := List.idxOf_lt_length_of_mem mc
    have eg : (r.map wV)[cols.idxOf c]? = some (wV (colAt cols r c)) := by
      rw [List.getElem?_map, List.getElem?_eq_getElem (by omega)]
      unfold colAt
      rw [List.getD_eq_getElem?_getD, List.getElem?_eq_getElem (by omega)]
      rfl
    refine ⟨rfl, _, rfl, _, rfl, ra, _, (cols.idxOf c : Nat), wV (colAt cols r c), rfl, rfl, SqT.of (g2 _ _ er no), atI_nat eg, _, g1, ?_, ?_, fun b o eb nb => ?_⟩
    · unfold marks
      rw [List.length_map, List.length_map, List.length_take]
      exact small4000 (by omega)
    · rw [upd_same, take_snoc hc]
      unfold marks
      rw [List.map_append, List.map_append]
      rfl
    · rw [upd_ne (fun z => by rw [z, hD] at eb; cases eb)]
      exact g2 b o eb nb
  · obtain ⟨g1, g2⟩ := g
    rw [List.length_map, List.take_length] at g1
    refine ⟨D, _, rfl, .inl ⟨SqL.of g1, fun t ht => ?_⟩⟩
    exact q t _ (g2.none ht no) upd_same (g2.trans (Off.new ht))
end
end LW
set_option Elab.async false
set_option linter.all false
set_option maxRecDepth 100000
set_option maxHeartbeats 0
/-! stores.py: breaks -/
namespace LW
open PySem PySem.Spec PyProof.Rows L2 KV
theorem wV_inj {a b : Wt} (h : wV a = wV b) : a = b := by
  cases a <;> cases b <;> simp_all [wV]
theorem wV_scal (a b : Wt) : scal (wV a) (wV b) = true := by cases a <;> cases b <;> rfl
theorem wV_dec (a b : Wt) : decide (wV a = wV b) = decide (a = b) := decide_eq_decide.mpr ⟨wV_inj, fun h => by rw [h]⟩
theorem eqv_w (a b : Wt) : PyData.eqv (wD a) (wD b) = decide (a = b) := by
  cases a with
  | none => cases b <;> simp [wD, PyData.eqv]
  | some i =>
    cases b with
    | none => simp [wD, PyData.eqv]
    | some j =>
      simp only [wD, PyData.eqv]
      by_cases h : i = j
      · subst h
        simp
      · rw [decide_eq_false (by simpa using h)]
        exact beq_eq_false_iff_ne.mpr h
theorem eqv_ws : ∀ (a b : List Wt), PyData.eqvAll (a.map wD) (b.map wD) = decide (a = b)
  | [], [] => by simp [PyData.eqvAll]
  | [], _ :: _ => by simp [PyData.eqvAll]
  | _ :: _, [] => by simp [PyData.eqvAll]
  | x :: xs, y :: ys => by
    simp only [List.map_cons, PyData.eqvAll, eqv_w, eqv_ws xs ys]
    by_cases h : x = y
    · subst h
      by_cases h2 : xs = ys
      · subst h2
        simp
      · simp [h2]
    · simp [h]
theorem eqv_row (a b : Row) : PyData.eqv (rowD a) (rowD b) = decide (a = b) := by
  show PyData.eqvAll (a.map wD) (b.map wD) = _
  exact eqv_ws a b
theorem shaped_row (r : Row) : SeqAt.shaped (rowD r) = true := by
  have c : ∀ r : List Wt, PyData.canLayAll0 (r.map wD) = true := fun r => by
    induction r with
    | nil => rfl
    | cons w r ih =>
      rw [List.map_cons, PyData.canLayAll0, ih, Bool.and_true]
      cases w <;> rfl
  have d : ∀ r : List Wt, PyData.depthAll (r.map wD) = 0 := fun r => by
    induction r with
    | nil => rfl
    | cons w r ih =>
      rw [List.map_cons]
      show max (wD w).depth _ = 0
      rw [ih]
      cases w <;> rfl
  unfold SeqAt.shaped
  rw [Bool.and_eq_true]
  refine ⟨c r, decide_eq_true ?_⟩
  show PyData.depthAll (r.map wD) + 1 ≤ 64
  rw [d]
  decide
theorem dp_row {K : PySem.W.Frag} {H : Hp} {t : Addr} {r : Row} (h : H t = some (.tup (r.map wV))) : Dp K H (.ref t) (rowD r) := (ow_row_mk h).dp
def spBreaks (K : PySem.W.Frag) : Sp := fun vs H Q _ => ∃ (v : V) (ca pa ta : Addr) (k x : Str) (cs tl cols : List Str) (xs : List V) (rows : List Row) (row : Row), vs = [v, .ref ca, .ref pa, .ref ta] ∧ Dp K H v (rbD ([k, x], some (cs, tl))) ∧ ((k = "key" ∧ tl.length = 0) ∨ (k = "settles" ∧ tl.length = 1)) ∧
  SqL K H ca (cols.map V.str) ∧ SqL K H pa xs ∧ OwAll H xs (rows.map rowD) Fp0 ∧ H ta = some (.tup (row.map wV)) ∧ (∀ c ∈ cs, c ∈ cols) ∧ (∀ c ∈ tl, c ∈ cols) ∧ row.length = cols.length ∧ (∀ r ∈ rows, r.length = cols.length) ∧ cs.length ≤ 1000 ∧ rows.length ≤ 1000 ∧
  ∀ H', Off (fun _ => False) H H' → Q (.bl (rows.any fun a => clash cols cs tl a row)) H'
section
variable {P : Program} {w : World} {K : PySem.W.Frag} {mg : Str → Option Value} {base : Heap}
theorem scBreaks : FnScope ["rule", "columns", "present", "row", "places", "values", "alike", "one", "settled"] ["rule", "columns", "present", "row"] (defScope pBreaks) := ⟨rfl, rfl, rfl, by decide +kernel, rfl, by decide +kernel, by decide +kernel⟩
theorem ok_breaks {f fP fV : Addr} {fd dP dV : FuncData} (F : FnP K "breaks" pBreaks f fd) (GP : Dn P w K mg base 1 "places_of" ["columns", "names"] (spPlaces K) fP dP) (GV : Dn P w K mg base 1 "values_at" ["row", "places"] (spVals K) fV dV) (ml : mg "len" = none) (ma : mg "any" = none) :
    FnOk P w K mg base CX0 2 f fd ["rule", "columns", "present", "row"] (spBreaks K) := by
  refine F.ok scBreaks (fun vs H Q E h => ?_) (fun cdv A outer s H vs Q E hr h => ?_)
  · obtain ⟨v, ca, pa, ta, k, x, cs, tl, cols, xs, rows, row, rfl, _⟩ := h
    rfl
  obtain ⟨v, ca, pa, ta, k, x, cs, tl, cols, xs, rows, row, rfl, dr, fm, sc, sp, ow, er, hcs, htl, lr, lrs, lc, ln, q⟩ := h
  have hu : (A.deeper (envOfC "breaks" (defScope pBreaks) s.heap.objs.size f cdv)).units + 64 < cLine := hr.units
  refine ⟨_, pss_cons (ps_set (i := 4) scBreaks.nd rfl (Or.inr rfl) (pe_call GP.g hr rfl GP.m GP.kp GP.b .nil pass0 (pa_cons (pv 1) (pa_cons (pe_ix ix_tup (pv 0) pe_int (fun _ _ => rfl)) pa_nil))))
    (pss_cons (ps_set (i := 5) scBreaks.nd rfl (Or.inr rfl) (pe_call GV.g hr rfl GV.m GV.kp GV.b .nil pass0 (pa_cons (pv 3) (pa_cons (pv 4) pa_nil))))
    (pss_cons (ps_setLc (i := 6) (own := [("one", 7)]) (g := gName 7) (tt := tTest (tOp (rEqD K) (tCall (spVals K) [] L2.E0 (tCons (tVar 7) (tCons (tVar 4) tNil))) (tVar 5))) (te := tVar 7) rfl scBreaks.nd rfl rfl rfl (pi_list (pv 2)) (blkOk_by (own := [("one", 7)]) (N := ["rule", "columns", "present", "row", "places", "values", "alike", "one", "settled"]) (sc := defScope pBreaks) (by decide +kernel))
      (fun _ _ _ _ _ => pg_name (i := 7) scBreaks.nd rfl (Or.inl rfl)) (fun _ _ _ _ _ => pts_one (pt_cmpR (op_eqD hu) (pe_call GV.g hr rfl GV.m GV.kp GV.b .nil pass0 (pa_cons (pv 7) (pa_cons (pv 4) pa_nil))) (pv 5) (nomark _))) (fun _ _ _ _ _ => pv 7))
    (pss_cons (ps_if (pt_cmpR op_eq (pe_ix ix_tup (pv 0) pe_int (fun _ _ => rfl)) pe_str (nomark _)) (pss_one (ps_ret (pe_cmpR op_gt (pe_callB call_len_seq rfl ml boot_len (pa_cons (pv 6) pa_nil)) pe_int (nomark _)))) pss_nil)
    (pss_cons (ps_set (i := 8) scBreaks.nd rfl (Or.inr rfl) (pe_bm PySem.F.plainAttrs_list PySem.F.slot_list_index PySem.F.type_list_index mt_index (pv 1) (pa_cons (pe_ix ix_tup (pv 0) pe_int (fun _ _ => rfl)) pa_nil)))
    (pss_one (ps_ret (pe_callB (cr_any rfl) rfl ma (by decide +kernel) (pa_cons (pe_lc (own := [("one", 7)]) (g := gName 7) (tt := tYes) (te := tOp rNe (tOp (rIxT K) (tVar 7) (tVar 8)) (tOp (rIxT K) (tVar 3) (tVar 8))) rfl scBreaks.nd (pi_list (pv 6)) (blkOk_by (own := [("one", 7)]) (N := ["rule", "columns", "present", "row", "places", "values", "alike", "one", "settled"]) (sc := defScope pBreaks) (by decide +kernel))
      (fun _ _ _ _ _ => pg_name (i := 7) scBreaks.nd rfl (Or.inl rfl)) (fun _ _ _ _ _ => pts_nil) (fun _ _ _ _ _ => pe_cmpR op_ne (pe_ix ix_tup (pv 7) (pv 8) (fun _ _ => rfl)) (pe_ix ix_tup (pv 3) (pv 8) (fun _ _ => rfl)) (nomark _))) pa_nil)))))))), ?_⟩
  have no : ¬ False := id
  obtain ⟨ra, na, rfl, sr, sn⟩ := dp_rb dr
  refine ⟨_, rfl, _, rfl, ra, _, 2, .ref na, rfl, rfl, sr, atI_nat (j := 2) rfl, ca, na, cols, cs, rfl, sc, sn, hcs, lc, fun D1 H1 n1 e1 k1 => ?_⟩
  have er1 := k1 _ _ er no
  refine ⟨_, rfl, _, rfl, ta, D1, cols, cs, row, rfl, er1, SqL.of e1, hcs, lr, lc, fun D2 H2 n2 e2 k2 => ?_⟩
  have k02 := k1.trans k2
  have e12 := k2 _ _ e1 no
  have sp2 := sqL_off k02 sp
  have ow2 := ow.keep k02 (fun _ z => z.elim) fun _ z => z.elim
  have lx : xs.length = rows.length := by rw [ow2.length, List.length_map]
  let f : Row → Bool := fun a => decide (marks cols cs a = marks cols cs row)
  refine ⟨_, rfl, pa, rfl, ⟨_, sp2⟩, fun D hD => lc_list (K := K) (a := pa) (xs := xs) (fun i G => (∃ ys, G D = some (.lst ys) ∧ OwAll G ys (((rows.take i).filter f).map rowD) Fp0) ∧ Off (fun _ => False) H2 G) ⟨⟨[], upd_same, by simp; exact .nil fun _ z => z⟩, Off.new hD⟩ (fun i G _ g => sqL_off g.2 sp2) (fun i y G hy g => ?_) fun G g => ?_⟩
  · obtain ⟨⟨ys, g1, go⟩, g2⟩ := g
    have hi : i < rows.length := by rw [← lx]; exact (List.getElem?_eq_some_iff.mp hy).1
    have hri : rows[i]? = some rows[i] := List.getElem?_eq_getElem hi
    obtain ⟨y', ey, oy⟩ := owAll_get (ow2.keep g2 (fun _ z => z.elim) fun _ z => z.elim) (i := i) (d := rowD rows[i]) (by rw [List.getElem?_map, hri]; rfl)
    rw [hy] at ey
    cases ey
    obtain ⟨t, rfl, et⟩ := ow_row oy
    have mem := List.getElem_mem hi
    refine ⟨rfl, _, rfl, _, rfl, t, D1, cols, cs, rows[i], rfl, et, SqL.of (g2 _ _ e12 no), hcs, lrs _ mem, lc, fun D3 H3 n3 e3 k3 => ⟨_, rfl, rowD (marks cols cs rows[i]), rowD (marks cols cs row), dp_row e3, dp_row (k3 _ _ (g2 _ _ e2 no) no), shaped_row _, shaped_row _, _, rfl, ?_⟩⟩
    rw [eqv_row]
    have ft : (rows.take (i + 1)).filter f = (rows.take i).filter f ++ if f rows[i] = true then [rows[i]] else [] := by
      rw [take_snoc hri, List.filter_append, List.filter_cons]
      rfl
    have go3 := go.keep k3 (fun _ z => z.elim) fun _ z => z.elim
    refine ite2 (fun c => ?_) (fun c => ?_)
    · rw [if_pos c] at ft
      have et3 := k3 _ _ et no
      refine ⟨_, rfl, ys, k3 _ _ g1 no, ?_, ⟨ys ++ [.ref t], upd_same, ?_⟩, fun b o eb nb => ?_⟩
      · have := go.length
        rw [List.length_map] at this
        have l2 := List.length_filter_le f (rows.take i)
        rw [List.length_take] at l2
        exact small4000 (by omega)
      · rw [ft, List.map_append]
        have kk : Off (fun a => a = D) H3 (upd H3 D (.lst (ys ++ [.ref t]))) := Off.upd rfl
        have hG : ∀ a, a = D → ∃ xs, H3 a = some (.lst xs) := fun a z => ⟨ys, z ▸ k3 _ _ g1 no⟩
        exact (owAll_atom go3 (ow_row_mk et3)).keep kk hG fun _ z => z.elim
      · rw [upd_ne (fun z => by rw [z, hD] at eb; cases eb)]
        exact k3 _ _ (g2 b o eb nb) nb
    · rw [if_neg c, List.append_nil] at ft
      rw [ft]
      exact ⟨⟨ys, k3 _ _ g1 no, go3⟩, g2.trans k3⟩
  obtain ⟨⟨ys, g1, go⟩, g2⟩ := g
  rw [lx, List.take_length] at go
  have k03 := k02.trans g2
  have erG := k03 _ _ er no
  have srG := sqT_off k03 sr
  have ly : ys.length = (rows.filter f).length := by rw [go.length, List.length_map]
  refine ⟨_, rfl, ra, _, 0, .str k, rfl, rfl, srG, atI_nat (j := 0) rfl, rfl, _, rfl, ite2 (fun c => ?_) (fun c => ?_)⟩
  · have ek : k = "key" := V.str.inj (of_decide_eq_true c)
    have et : tl = [] := by
      rcases fm with ⟨_, z⟩ | ⟨z, _⟩
      · exact List.length_eq_zero_iff.mp z
      · rw [ek] at z
        exact absurd z (by decide +kernel)
    refine ⟨_, rfl, D, _, rfl, .inl (SqL.of g1), _, _, rfl, rfl, ?_⟩
    have e : (rows.any fun a => clash cols cs tl a row) = decide ((ys.length : Int) > 0) := by
      rw [et, ly, Bool.eq_iff_iff, List.any_eq_true, decide_eq_true_iff]
      unfold clash
      constructor
      · rintro ⟨a, ha, h⟩
        have : a ∈ rows.filter f := List.mem_filter.mpr ⟨ha, by simpa [f] using h⟩
        have := List.length_pos_of_mem this
        omega
      · intro h
        obtain ⟨a, ha⟩ := List.exists_mem_of_length_pos (l := rows.filter f) (by omega)
        obtain ⟨h1, h2⟩ := List.mem_filter.mp ha
        exact ⟨a, h1, by simpa [f] using h2⟩
    rw [e] at q
    exact q G k03
  · have ek : k = "settles" ∧ tl.length = 1 := by
      rcases fm with ⟨z, _⟩ | z
      · exact absurd (decide_eq_true (by rw [z])) c
      · exact z
    obtain ⟨c0, rfl⟩ : ∃ c0, tl = [c0] := List.length_eq_one_iff.mp ek.2
    have mc := htl c0 (by simp)
    have scG := sqL_off k03 sc
    refine ⟨_, rfl, .inl ⟨rfl, _, scG⟩, _, rfl, ra, _, 3, .str c0, rfl, rfl, srG, atI_nat (j := 3) rfl, ca, cols.map V.str, .str c0, cols.idxOf c0, .str c0, rfl, rfl, scG, rfl, flat_strs _, by rw [List.getElem?_map, idx_get mc]; rfl, by rw [eqV_str]; exact decide_eq_true rfl, fun m z hm' hz => ?_, ?_⟩
    · rw [List.getElem?_map] at hz
      obtain ⟨y, hy, rfl⟩ := Option.map_eq_some_iff.mp hz
      rw [eqV_str]
      refine decide_eq_false fun z => idx_no hm' ?_
      rw [hy, z]
    have at_ : ∀ r : Row, r.length = cols.length → (r.map wV)[cols.idxOf c0]? = some (wV (colAt cols r c0)) := fun r hr => by
      have lx := List.idxOf_lt_length_of_mem mc
      rw [List.getElem?_map, List.getElem?_eq_getElem (by omega)]
      unfold colAt
      rw [List.getD_eq_getElem?_getD, List.getElem?_eq_getElem (by omega)]
      rfl
    let g : Row → Bool := fun a => !decide (colAt cols a c0 = colAt cols row c0)
    refine ⟨_, rfl, D, rfl, ⟨_, SqL.of g1⟩, fun D4 hD4 => lc_list (K := K) (a := D) (xs := ys) (fun i G' => G' D4 = some (.lst ((((rows.filter f).take i).map g).map V.bl)) ∧ Off (fun _ => False) G G') ⟨upd_same, Off.new hD4⟩ (fun i G' _ g => SqL.of (g.2 _ _ g1 no)) (fun i y G' hy gg => ?_) fun G' gg => ?_⟩
    · obtain ⟨h1, h2⟩ := gg
      have hi : i < (rows.filter f).length := by rw [← ly]; exact (List.getElem?_eq_some_iff.mp hy).1
      have hri : (rows.filter f)[i]? = some (rows.filter f)[i] := List.getElem?_eq_getElem hi
      obtain ⟨y', ey, oy⟩ := owAll_get (go.keep h2 (fun _ z => z.elim) fun _ z => z.elim) (i := i) (d := rowD (rows.filter f)[i]) (by rw [List.getElem?_map, hri]; rfl)
      rw [hy] at ey
      cases ey
      obtain ⟨t, rfl, et⟩ := ow_row oy
      have mem := (List.mem_filter.mp (List.getElem_mem hi)).1
      refine ⟨rfl, _, rfl, _, rfl, t, _, (cols.idxOf c0 : Nat), _, rfl, rfl, SqT.of et, atI_nat (at_ _ (lrs _ mem)), _, rfl, _, rfl, ta, _, (cols.idxOf c0 : Nat), _, rfl, rfl, SqT.of (h2 _ _ erG no), atI_nat (at_ _ lr), wV_scal _ _, _, h1, ?_, ?_, fun b o eb nb => ?_⟩
      · have l2 := List.length_filter_le f rows
        rw [List.length_map, List.length_map, List.length_take]
        exact small4000 (by omega)
      · rw [upd_same, take_snoc hri, List.map_append, List.map_append, wV_dec]
        rfl
      · rw [upd_ne (fun z => by rw [z, hD4] at eb; cases eb)]
        exact h2 b o eb nb
    · obtain ⟨h1, h2⟩ := gg
      rw [ly, List.take_length] at h1
      have e : (rows.any fun a => clash cols cs [c0] a row) = ((rows.filter f).map g).any id := by
        rw [Bool.eq_iff_iff, List.any_eq_true, List.any_eq_true]
        unfold clash
        constructor
        · rintro ⟨a, ha, h⟩
          rw [Bool.and_eq_true] at h
          refine ⟨g a, List.mem_map_of_mem (List.mem_filter.mpr ⟨ha, h.1⟩), ?_⟩
          simpa [g] using h.2
        · rintro ⟨b, hb, h⟩
          obtain ⟨a, ha, rfl⟩ := List.mem_map.mp hb
          obtain ⟨h1, h2⟩ := List.mem_filter.mp ha
          refine ⟨a, h1, ?_⟩
          rw [Bool.and_eq_true]
          exact ⟨h2, by simpa [g] using h⟩
      rw [e] at q
      exact ⟨D4, _, rfl, SqL.of h1, q G' (k03.trans h2)⟩
end
end LW
set_option Elab.async false
set_option linter.all false
set_option maxRecDepth 100000
set_option maxHeartbeats 0
/-! stores.py: Store(..), rows, len -/
namespace LW
open PySem PySem.Spec PyProof.Rows L2 KV
def stF (b d l : Addr) : List (Str × V) := [("_book", .ref b), ("_rows", .ref d), ("_steps", .ref l)]
def spStoreN (K : PySem.W.Frag) : Sp := fun vs H Q _ => ∃ (x b dx : Addr) (ts : List Tab) (rs : List RB) (n mc mt N M L : Nat), vs = [.ref x, .ref b] ∧ H x = some (.ins (He.ga K "Store") dx []) ∧ BookOf K H b ts rs ∧ x ≠ b ∧ BkB n mc mt N M L ts rs ∧ (ts.map Prod.fst).Nodup ∧
  ∀ H' d l L, H' x = some (.ins (He.ga K "Store") dx (stF b d l)) → StoA H' d l L ts (fun _ => []) [] → Sep ts L l → (∀ a, Mu ts L l a → H a = none) → H d = none → Off (fun a => a = x) H H' → Q .non H'
theorem dkv_snoc (ts : List Tab) (t : Tab) (L : Str → Addr) : dkv (ts ++ [t]) L = dkv ts L ++ [(.inr t.1, .ref (L t.1))] := by
  unfold dkv
  rw [List.map_append]
  rfl
theorem dkv_congr {ts : List Tab} {L L' : Str → Addr} (h : ∀ t ∈ ts, L t.1 = L' t.1) : dkv ts L = dkv ts L' := List.map_congr_left fun t ht => by rw [h t ht]
section
variable {P : Program} {w : World} {K : PySem.W.Frag} {mg : Str → Option Value} {base : Heap}
theorem ok_storeN {f pT gT : Addr} {fd dgT : FuncData} (F : FunD K "__init__" "Store.__init__" (defArgs pStore_init) (defBody pStore_init) (defScope pStore_init) [] [] f fd) (B : BookT K mg) (S : StoreT K mg)
    (pt : PropOf K (He.ga K "Book") "tables" pT gT) (GT : FnOk P w K mg base CX0 7 gT dgT ["self"] (spGetT K)) (bT : Binds K dgT ["self"] []) : FnOk P w K mg base CX0 9 f fd ["self", "book"] (spStoreN K) := by
  refine F.ok scStoreI (fun vs H Q E h => ?_) (fun cdv A outer s H vs Q E hr h => ?_)
  · obtain ⟨x, b, dx, ts, rs, n, mc, mt, N, M, L, rfl, _⟩ := h
    rfl
  obtain ⟨x, b, dx, ts, rs, n, mc, mt, N, M, L, rfl, hx, hb, xb, bb, nd, q⟩ := h
  refine ⟨_, PSs.nox (pss_cons (ps_fld (pv 0) (pv 1) rfl)
    (pss_cons (ps_fld (pv 0) (pe_dc (own := [("name", 2), ("_", 3)]) (g := gTup K 2 (gCons (gName 2) (gCons (gName 3) gNil))) (tt := tYes) (tk := tVar 2) (tv := tLst tNil) rfl scStoreI.nd (pi_list (pe_prop (pv 1) B.cl pt GT (hr.mono (by decide)) bT .nil pass0 rfl))
        (blkOk_by (own := [("name", 2), ("_", 3)]) (N := ["self", "book", "name", "_"]) (sc := defScope pStore_init) (by decide +kernel))
        (fun _ _ _ _ _ => pg_tup rfl (pgs_cons (pg_name (i := 2) scStoreI.nd rfl (Or.inl rfl)) (pgs_cons (pg_name (i := 3) scStoreI.nd rfl (Or.inl rfl)) pgs_nil))) (fun _ _ _ _ _ => pts_nil)
        (fun _ _ _ _ _ => pv 2) (fun _ _ _ _ _ => pe_lst pa_nil)) rfl)
    (pss_one (ps_fld (pv 0) (pe_lst pa_nil) rfl)))), ?_⟩
  have no : ¬ False := id
  have s0 : 0 ≤ sizeLine := by decide
  refine ⟨_, rfl, _, rfl, x, _, dx, [], rfl, hx, S.cl, S.n1, (by decide), ?_⟩
  have k1 : Off (fun a => a = x) H (upd H x (.ins (He.ga K "Store") dx (putF "_book" (.ref b) []))) := Off.upd rfl
  have e1 := upd_same (H := H) (a := x) (o := .ins (He.ga K "Store") dx (putF "_book" (.ref b) []))
  have hb1 : BookOf K (upd H x (.ins (He.ga K "Store") dx (putF "_book" (.ref b) []))) b ts rs := by
    obtain ⟨db, v1, v2, h1, h2, h3⟩ := hb
    exact ⟨db, v1, v2, by rw [upd_ne (Ne.symm xb)]; exact h1, dp_in k1 (NoSq.ins hx) h2, dp_in k1 (NoSq.ins hx) h3⟩
  have new1 : ∀ a, upd H x (.ins (He.ga K "Store") dx (putF "_book" (.ref b) [])) a = none → H a = none := fun a z => by
    by_cases y : a = x
    · rw [y, upd_same] at z
      cases z
    · rwa [upd_ne y] at z
  generalize upd H x (.ins (He.ga K "Store") dx (putF "_book" (.ref b) [])) = H1 at k1 e1 hb1 new1 ⊢
  obtain ⟨db, v1, v2, h1, h2, h3⟩ := id hb1
  refine ⟨_, rfl, b, db, _, rfl, h1, b, ts, rs, n, mc, mt, N, M, L, rfl, hb1, bb, fun vT FT H2 oT fT k2 => ?_⟩
  obtain ⟨aT, xT, rfl, sT, dT⟩ := dp_tabs (K := K) oT.dp
  have lT : xT.length = ts.length := by rw [dpAll_len dT, List.length_map]
  have lt := bb.tb.most
  have lm := bb.hmt
  refine ⟨aT, rfl, ⟨_, sT⟩, fun D hD => dc_list (K := K) (a := aT) (xs := xT) (fun i G => (∃ L : Str → Addr, G D = some (.dK (dkv (ts.take i) L)) ∧ (∀ t ∈ ts.take i, G (L t.1) = some (.lst []) ∧ H2 (L t.1) = none) ∧ ∀ t ∈ ts.take i, ∀ u ∈ ts.take i, L t.1 = L u.1 → t.1 = u.1) ∧ Off (fun _ => False) H2 G)
    ⟨⟨fun _ => 0, upd_same, fun t h => absurd h (by simp), fun t h => absurd h (by simp)⟩, Off.new hD⟩ (fun i G _ g => sqL_off g.2 sT) (fun i v G hx' g => ?_) fun G g => ?_⟩
  · obtain ⟨⟨L, eD, hl, inj⟩, k3⟩ := g
    have hi : i < ts.length := by
      have := (List.getElem?_eq_some_iff.mp hx').1
      omega
    have ht : ts[i]? = some ts[i] := List.getElem?_eq_getElem hi
    obtain ⟨v', ev, dv⟩ := dpAll_get (i := i) (d := tabD ts[i]) (dpAll_off k3 dT) (by rw [List.getElem?_map, ht]; rfl)
    rw [hx'] at ev
    cases ev
    obtain ⟨ta, wc, rfl, st, dc⟩ := dp_tab dv
    refine ⟨ta, [.str ts[i].1, wc], rfl, st, rfl, .str ts[i].1, [wc], rfl, wc, [], rfl, rfl, rfl, ?_⟩
    refine iteT (B := True) ?_
    refine iteT ?_
    refine ⟨_, rfl, s0, fun m nm => ?_⟩
    have k4 : Off (fun _ => False) G (upd G m (.lst [])) := Off.new nm
    have nnew : ∀ t ∈ ts.take i, t.1 ≠ ts[i].1 := fun t ht' z => by
      obtain ⟨j, hj, ej⟩ := List.getElem_of_mem ht'
      rw [List.length_take] at hj
      rw [List.getElem_take] at ej
      have := (List.nodup_iff_pairwise_ne.mp nd)
      rw [List.pairwise_iff_getElem] at this
      have h := this j i (by rw [List.length_map]; omega) (by rw [List.length_map]; exact hi) (by omega)
      rw [List.getElem_map, List.getElem_map, ej] at h
      exact h z
    have vn : valV (dkv (ts.take i) L) (.inr ts[i].1) = none := by
      rw [valV_dkv, if_neg]
      intro z
      obtain ⟨t, ht', e⟩ := List.mem_map.mp z
      exact nnew t ht' e
    refine ⟨dkv (ts.take i) L, .inr ts[i].1, rfl, k4 _ _ eD no, ?_, ?_⟩
    · unfold dkv
      rw [List.length_map, List.length_take]
      exact small4000 (by omega)
    rw [putK_new _ vn]
    have nDm : D ≠ m := ne_of_none eD nm
    let L' : Str → Addr := fun y => if y = ts[i].1 then m else L y
    have L'1 : L' ts[i].1 = m := if_pos rfl
    have L'2 : ∀ t ∈ ts.take i, L' t.1 = L t.1 := fun t ht' => if_neg (nnew t ht')
    refine ⟨⟨L', ?_, fun t ht' => ?_, ?_⟩, fun a o ea _ => ?_⟩
    · rw [upd_same, take_snoc ht, dkv_snoc, dkv_congr L'2, L'1]
    · rw [take_snoc ht] at ht'
      rcases List.mem_append.mp ht' with h | h
      · rw [L'2 t h]
        obtain ⟨g1, g2⟩ := hl t h
        refine ⟨?_, g2⟩
        rw [upd_ne (fun z => by rw [z, eD] at g1; cases g1)]
        exact k4 _ _ g1 no
      · rw [List.mem_singleton.mp h, L'1]
        refine ⟨?_, k3.none nm no⟩
        rw [upd_ne (Ne.symm nDm)]
        exact upd_same
    · have key : ∀ t ∈ ts.take i, L t.1 ≠ m := fun t h z => by
        have := (hl t h).1
        rw [z, nm] at this
        cases this
      intro t ht' u hu' e
      rw [take_snoc ht] at ht' hu'
      rcases List.mem_append.mp ht' with h | h
      · rcases List.mem_append.mp hu' with h' | h'
        · rw [L'2 t h, L'2 u h'] at e
          exact inj t h u h' e
        · rw [List.mem_singleton.mp h', L'2 t h, L'1] at e
          exact (key t h e).elim
      · rcases List.mem_append.mp hu' with h' | h'
        · rw [List.mem_singleton.mp h, L'2 u h', L'1] at e
          exact (key u h' e.symm).elim
        · rw [List.mem_singleton.mp h, List.mem_singleton.mp h']
    · rw [upd_ne fun z => by rw [z, hD] at ea; cases ea]
      exact k4 _ _ (k3 _ _ ea no) no
  · obtain ⟨⟨L, eD, hl, inj⟩, k3⟩ := g
    rw [lT, List.take_length] at eD hl inj
    have eG := k3 _ _ (k2 _ _ e1 no) no
    refine ⟨_, rfl, x, _, dx, _, rfl, eG, S.cl, S.n2, (by show 1 < 1000; decide), ?_⟩
    have k4 : Off (fun a => a = x) G (upd G x (.ins (He.ga K "Store") dx (putF "_rows" (.ref D) (putF "_book" (.ref b) [])))) := Off.upd rfl
    refine ⟨s0, fun m nm => ?_⟩
    have e4 := upd_same (H := G) (a := x) (o := .ins (He.ga K "Store") dx (putF "_rows" (.ref D) (putF "_book" (.ref b) [])))
    have nm0 : G m = none := by
      by_cases y : m = x
      · rw [y, upd_same] at nm
        cases nm
      · rwa [upd_ne y] at nm
    generalize upd G x (.ins (He.ga K "Store") dx (putF "_rows" (.ref D) (putF "_book" (.ref b) []))) = G4 at k4 e4 nm ⊢
    have k5 : Off (fun _ => False) G4 (upd G4 m (.lst [])) := Off.new nm
    refine ⟨_, rfl, x, _, dx, _, rfl, k5 _ _ e4 no, S.cl, S.n3, (by simp [putF]; split <;> simp), ?_⟩
    have e5 := upd_same (H := G4) (a := m) (o := .lst [])
    generalize upd G4 m (.lst []) = G5 at k5 e5 ⊢
    have k6 : Off (fun a => a = x) G5 (upd G5 x (.ins (He.ga K "Store") dx (putF "_steps" (.ref m) (putF "_rows" (.ref D) (putF "_book" (.ref b) []))))) := Off.upd rfl
    have ef : putF "_steps" (V.ref m) (putF "_rows" (.ref D) (putF "_book" (.ref b) [])) = stF b D m := rfl
    rw [ef] at k6 ⊢
    have kG : Off (fun a => a = x) G (upd G5 x (.ins (He.ga K "Store") dx (stF b D m))) := (k4.trans (Off.in k5)).trans k6
    have kall := ((k1.trans (Off.in (k2.trans k3))).trans kG)
    have nx : ∀ {a : Addr} {xs : List V}, G a = some (.lst xs) → a ≠ x := fun e z => by
      rw [z, eG] at e
      cases e
    have mx : m ≠ x := fun z => by rw [z, eG] at nm0; cases nm0
    refine q _ D m L upd_same ⟨kG _ _ eD (fun z => by rw [z, eG] at eD; cases eD), fun t ht => ⟨[], kG _ _ (hl t ht).1 (nx (hl t ht).1), .nil fun _ z => z⟩, ⟨[], k6 _ _ e5 mx, .nil fun _ z => z⟩⟩ ⟨inj, fun t ht z => ?_⟩ (fun a ha => ?_) (new1 _ (k2.none hD no)) kall
    · have := (hl t ht).1
      rw [z, nm0] at this
      cases this
    · rcases ha with rfl | ⟨t, ht, rfl⟩
      · exact new1 _ (k2.none (k3.none nm0 no) no)
      · exact new1 _ (k2.none (hl t ht).2 no)
end
end LW
set_option Elab.async false
set_option linter.all false
set_option maxRecDepth 100000
set_option maxHeartbeats 0
/-! stores.py: rows, len -/
namespace LW
open PySem PySem.Spec PyProof.Rows L2 KV
/-- a store, with its book, its dict, its steps -/
structure StAt (K : PySem.W.Frag) (H : Hp) (s b d l : Addr) (L : Str → Addr) (ts : List Tab) (R : Str → List Row) (S : List Stp) : Prop where
  ins : ∃ dx, H s = some (.ins (He.ga K "Store") dx (stF b d l))
  sto : StoA H d l L ts R S
theorem StAt.keep {K : PySem.W.Frag} {H H' : Hp} {s b d l : Addr} {L : Str → Addr} {ts : List Tab} {R : Str → List Row} {S : List Stp} {G : Fp} (h : StAt K H s b d l L ts R S) (k : Off G H H') (hG : ∀ a, G a → ∃ xs, H a = some (.lst xs)) (n : ∀ a, Mu ts L l a → ¬ G a) : StAt K H' s b d l L ts R S := by
  obtain ⟨dx, e⟩ := h.ins
  refine ⟨⟨dx, k _ _ e fun z => ?_⟩, h.sto.keep k hG n⟩
  obtain ⟨xs, e'⟩ := hG _ z
  rw [e] at e'
  cases e'
theorem StAt.off {K : PySem.W.Frag} {H H' : Hp} {s b d l : Addr} {L : Str → Addr} {ts : List Tab} {R : Str → List Row} {S : List Stp} (h : StAt K H s b d l L ts R S) (k : Off (fun _ => False) H H') : StAt K H' s b d l L ts R S := h.keep k (fun _ z => z.elim) fun _ _ z => z
theorem lookup_rows {b d l : Addr} : List.lookup ("_rows" : Str) (stF b d l) = some (V.ref d) := rfl
theorem lookup_book {b d l : Addr} : List.lookup ("_book" : Str) (stF b d l) = some (V.ref b) := rfl
theorem lookup_steps {b d l : Addr} : List.lookup ("_steps" : Str) (stF b d l) = some (V.ref l) := rfl
def endRows (K : PySem.W.Frag) (H : Hp) (ts : List Tab) (R : Str → List Row) (x : Str) (Q : VK) (E : XK) : Prop :=
  (x ∈ ts.map Prod.fst → ∀ D vs H', H D = none → H' D = some (.lst vs) → OwAll H' vs ((R x).map rowD) Fp0 → Off (fun _ => False) H H' → Q (.ref D) H') ∧ (x ∉ ts.map Prod.fst → Raised K H E "UnknownTable" (.str x))
def spRows (K : PySem.W.Frag) : Sp := fun vs H Q E => ∃ (s b d l : Addr) (L : Str → Addr) (ts : List Tab) (R : Str → List Row) (S : List Stp) (x : Str), vs = [.ref s, .str x] ∧ StAt K H s b d l L ts R S ∧ endRows K H ts R x Q E
def total (ts : List Tab) (R : Str → List Row) : Nat := (ts.map fun t => (R t.1).length).sum
def spSLen (K : PySem.W.Frag) : Sp := fun vs H Q _ => ∃ (s b d l : Addr) (L : Str → Addr) (ts : List Tab) (R : Str → List Row) (S : List Stp), vs = [.ref s] ∧ StAt K H s b d l L ts R S ∧ Sep ts L l ∧ total ts R ≤ 4000 ∧ ∀ H', Off (fun _ => False) H H' → Q (.int (total ts R : Nat)) H'
section
variable {P : Program} {w : World} {K : PySem.W.Frag} {mg : Str → Option Value} {base : Heap}
theorem scRows : FnScope ["self", "table"] ["self", "table"] (defScope pStore_rows) := ⟨rfl, rfl, rfl, by decide +kernel, rfl, by decide +kernel, by decide +kernel⟩
theorem ok_rows {f : Addr} {fd dE : FuncData} (F : FunD K "rows" "Store.rows" (defArgs pStore_rows) (defBody pStore_rows) (defScope pStore_rows) [] [] f fd) (T : ErrT P w K mg base dE) (ST : StoreT K mg) (mL : mg "list" = none) : FnOk P w K mg base (L2.CX P w) 3 f fd ["self", "table"] (spRows K) := by
  have t1 := T.es.ok "UnknownTable" (by decide)
  have g1 := T.g "UnknownTable" (by decide)
  refine F.ok scRows (fun vs H Q E h => ?_) (fun cdv A outer s0 H vs Q E hr h => ?_)
  · obtain ⟨s, b, d, l, L, ts, R, S, x, rfl, _⟩ := h
    rfl
  obtain ⟨s, b, d, l, L, ts, R, S, x, rfl, st, q1, q2⟩ := h
  have hu1 := Nat.lt_of_le_of_lt (Nat.add_le_add_left (show 1 ≤ 64 by decide) _) hr.units
  refine ⟨_, pss_cons (ps_if (pt_cmp (pc_dnotin hu1 (pv 1) (pe_fld (pv 0) rfl))) (pss_one (ps_raise rfl (takes_of rfl rfl rfl rfl) (pmk_oex t1.oex t1.ini t1.fn T.ini (hr.mono (by decide)) T.b .nil pass0 rfl g1 (pa_cons (pv 1) pa_nil)))) pss_nil)
    (pss_one (ps_ret (pe_callTy call_list_of rfl mL boot_list (pa_cons (pe_dget hu1 (pe_fld (pv 0) rfl) (pv 1) (fun _ _ => rfl)) pa_nil)))), ?_⟩
  have no : ¬ False := id
  obtain ⟨dx, es⟩ := st.ins
  have ed := st.sto.dic
  have dg := DGet.k (k := .inr x) ed
  rw [valV_dkv] at dg
  refine ⟨_, rfl, _, rfl, s, _, dx, _, .ref d, rfl, es, ST.cl, ST.n2, lookup_rows, d, _, rfl, dg, _, rfl, ?_⟩
  by_cases hx : x ∈ ts.map Prod.fst
  · rw [if_pos hx] at dg ⊢
    obtain ⟨t, ht, rfl⟩ := List.mem_map.mp hx
    obtain ⟨vs, ev, ov⟩ := st.sto.rows t ht
    refine iteF ⟨_, rfl, s, _, dx, _, .ref d, rfl, es, ST.cl, ST.n2, lookup_rows, _, rfl, d, _, rfl, dg, L t.1, vs, rfl, .inl (SqL.of ev), fun D hD => ?_⟩
    have k := Off.new (G := fun _ => False) (o := .lst vs) hD
    exact q1 hx D vs _ hD upd_same (ov.keep k (fun _ z => z.elim) fun _ z => z.elim) k
  · rw [if_neg hx]
    exact iteT ⟨_, rfl, raise_str t1 (Off.refl _ _) (q2 hx)⟩
theorem scSLen : FnScope ["self", "rows", "row"] ["self"] (defScope pStore_len) := ⟨rfl, rfl, rfl, by decide +kernel, rfl, by decide +kernel, by decide +kernel⟩
theorem ok_slen {f : Addr} {fd : FuncData} (F : FunD K "__len__" "Store.__len__" (defArgs pStore_len) (defBody pStore_len) (defScope pStore_len) [] [] f fd) (ST : StoreT K mg) (ml : mg "len" = none) : FnOk P w K mg base CX0 1 f fd ["self"] (spSLen K) := by
  refine F.ok scSLen (fun vs H Q E h => ?_) (fun cdv A outer s0 H vs Q E hr h => ?_)
  · obtain ⟨s, b, d, l, L, ts, R, S, rfl, _⟩ := h
    rfl
  obtain ⟨s, b, d, l, L, ts, R, S, rfl, st, sp, lt, q⟩ := h
  refine ⟨_, pss_one (ps_ret (pe_callB call_len_seq rfl ml boot_len (pa_cons (pe_lock (pe_lc2 (own := [("rows", 1), ("row", 2)]) (vs1 := [2]) (g := gName 1) (g1 := gName 2) (tt := tYes) (tt1 := tYes) (te := tVar 2) (wi1 := iList K (tVar 1)) rfl scSLen.nd (pi_values (pe_fld (pv 0) rfl))
    (blkOk_by (own := [("rows", 1), ("row", 2)]) (N := ["self", "rows", "row"]) (sc := defScope pStore_len) (by decide +kernel)) (by decide)
    (fun _ _ _ _ _ => pg_name (i := 1) scSLen.nd rfl (Or.inl rfl)) (fun _ _ _ _ _ => pts_nil) (fun _ _ _ _ _ => pi_list (pv 1)) (fun _ _ _ _ _ => pg_name (i := 2) scSLen.nd rfl (Or.inl rfl)) (fun _ _ _ _ _ => pts_nil) (fun _ _ _ _ _ => pv 2))) pa_nil))), ?_⟩
  have no : ¬ False := id
  obtain ⟨dx, es⟩ := st.ins
  have ed := st.sto.dic
  refine ⟨d, .dK (dkv ts L), ed, trivial, fun od => ?_⟩
  have kd : Off (fun a => a = d) H (upd H d (.frz od (.dK (dkv ts L)))) := Off.upd rfl
  have nsd : s ≠ d := fun z => by rw [z, ed] at es; cases es
  have es1 := kd _ _ es nsd
  have ed1 := upd_same (H := H) (a := d) (o := .frz od (.dK (dkv ts L)))
  have lst1 : ∀ t ∈ ts, ∃ vs, upd H d (.frz od (.dK (dkv ts L))) (L t.1) = some (.lst vs) ∧ vs.length = (R t.1).length := fun t ht => by
    obtain ⟨vs, ev, ov⟩ := st.sto.rows t ht
    exact ⟨vs, kd _ _ ev (fun z => by rw [z, ed] at ev; cases ev), by rw [ov.length, List.length_map]⟩
  generalize hH1 : upd H d (.frz od (.dK (dkv ts L))) = H1 at es1 ed1 lst1 ⊢
  have ldk : (dkv ts L).length = ts.length := by unfold dkv; rw [List.length_map]
  refine ⟨_, rfl, s, _, dx, _, .ref d, rfl, es1, ST.cl, ST.n2, lookup_rows, d, od, dkv ts L, rfl, ed1, fun D hD => ?_⟩
  have hD' : D ≠ d := fun z => by rw [z, ed1] at hD; cases hD
  refine ⟨fun i m G => m = ts.length - i ∧ i ≤ ts.length ∧ (∃ acc : List V, G D = some (.lst acc) ∧ acc.length = total (ts.take i) R) ∧ Off (fun _ => False) H1 G, ⟨_, rfl, Nat.zero_le _, ⟨[], upd_same, rfl⟩, Off.new hD⟩, ?_⟩
  rintro i m G ⟨rfl, hi, ⟨acc, ea, la⟩, k⟩
  have edG := k _ _ ed1 no
  rcases Nat.lt_or_ge i ts.length with hlt | hge
  · have ht : ts[i]? = some ts[i] := List.getElem?_eq_getElem hlt
    have mem := List.getElem_mem hlt
    refine .inr ⟨⟨edG, by rw [ldk]; exact hlt⟩, fun G' => i + 1 ≤ ts.length ∧ (∃ acc : List V, G' D = some (.lst acc) ∧ acc.length = total (ts.take (i + 1)) R) ∧ Off (fun _ => False) H1 G', fun H' z => ⟨ts.length - (i + 1), by omega, rfl, z⟩, ?_⟩
    rintro x G' ⟨rfl, key, ek⟩
    have ex : x = .ref (L ts[i].1) := by
      unfold dkv at ek
      rw [List.getElem?_map, ht] at ek
      cases ek
      rfl
    subst ex
    obtain ⟨vs, ev, lv⟩ := lst1 _ mem
    have evG := k _ _ ev no
    refine ⟨rfl, ?_⟩
    refine iteT (B := True) ?_
    refine iteT ?_
    refine ⟨_, rfl, L ts[i].1, rfl, ⟨_, SqL.of evG⟩, ?_⟩
    have tot : total (ts.take (i + 1)) R = total (ts.take i) R + vs.length := by
      rw [take_snoc ht, lv]
      unfold total
      rw [List.map_append, List.sum_append]
      simp
    have tle : total (ts.take (i + 1)) R ≤ total ts R := by
      have : ts = ts.take (i + 1) ++ ts.drop (i + 1) := (List.take_append_drop _ _).symm
      have e2 : total ts R = total (ts.take (i + 1)) R + total (ts.drop (i + 1)) R := by
        conv => lhs; rw [this]
        unfold total
        rw [List.map_append, List.sum_append]
      omega
    refine ⟨fun j m G2 => m = vs.length - j ∧ j ≤ vs.length ∧ (∃ acc : List V, G2 D = some (.lst acc) ∧ acc.length = total (ts.take i) R + j) ∧ Off (fun _ => False) H1 G2, ⟨_, rfl, Nat.zero_le _, ⟨acc, ea, la⟩, k⟩, ?_⟩
    rintro j m G2 ⟨rfl, hj, ⟨acc2, ea2, la2⟩, k2⟩
    have ev2 := k2 _ _ ev no
    rcases Nat.lt_or_ge j vs.length with hjl | hjg
    · refine .inr ⟨⟨vs, vs[j], SqL.of ev2, List.getElem?_eq_getElem hjl⟩, fun G3 => j + 1 ≤ vs.length ∧ (∃ acc : List V, G3 D = some (.lst acc) ∧ acc.length = total (ts.take i) R + (j + 1)) ∧ Off (fun _ => False) H1 G3, fun H' z => ⟨vs.length - (j + 1), by omega, rfl, z⟩, ?_⟩
      rintro x G3 ⟨rfl, y⟩
      refine ⟨rfl, ?_⟩
      refine iteT (B := True) ?_
      refine iteT ?_
      refine ⟨_, rfl, acc2, ea2, small4000 (by omega), by omega, ⟨_, upd_same, by rw [List.length_append, la2]; rfl⟩, fun b o eb nb => ?_⟩
      rw [upd_ne (fun z => by rw [z, hD] at eb; cases eb)]
      exact k2 b o eb nb
    · refine .inl ⟨⟨vs, SqL.of ev2, hjg⟩, by omega, ⟨acc2, ea2, by omega⟩, k2⟩
  · have e : i = ts.length := by omega
    subst e
    rw [List.take_length] at la
    have nDd : D ≠ d := hD'
    have ku : Off (fun a => a = d) G (upd G d (.dK (dkv ts L))) := Off.upd rfl
    refine .inl ⟨⟨edG, by rw [ldk]; exact Nat.le_refl _⟩, edG, D, acc, rfl, .inl (SqL.of (ku _ _ ea nDd)), ?_⟩
    rw [la]
    refine q _ fun a o eo _ => ?_
    by_cases y : a = d
    · rw [y] at eo ⊢
      rw [ed] at eo
      cases eo
      exact upd_same
    · rw [upd_ne y]
      exact k _ _ (by rw [← hH1]; exact kd _ _ eo y) no
end
end LW
set_option Elab.async false
set_option linter.all false
set_option maxRecDepth 100000
set_option maxHeartbeats 0
/-! stores.py: put -/
namespace LW
open PySem PySem.Spec PyProof.Rows L2 KV
/-- what a put is refused for -/
def putDue (ts : List Tab) (rs : List RB) (R : Str → List Row) (x : Str) (row : Row) : Option (Str × PyData) := match tabOf ts x with
  | none => some ("UnknownTable", .str x)
  | some t => if row.length ≠ t.2.length then some ("InvalidRow", rowD row) else match fidx (breaksR ts R x row) rs with
    | some i => some ("BrokenRule", .int (i : Nat))
    | none => none
theorem putDue_no {ts : List Tab} {rs : List RB} {R : Str → List Row} {x : Str} {row : Row} (h : tabOf ts x = none) : putDue ts rs R x row = some (("UnknownTable" : Str), PyData.str x) := by
  unfold putDue
  rw [h]
theorem putDue_len {ts : List Tab} {rs : List RB} {R : Str → List Row} {x : Str} {row : Row} {t : Tab} (h : tabOf ts x = some t) (l : row.length ≠ t.2.length) : putDue ts rs R x row = some (("InvalidRow" : Str), rowD row) := by
  unfold putDue
  rw [h]
  exact if_pos l
theorem putDue_rule {ts : List Tab} {rs : List RB} {R : Str → List Row} {x : Str} {row : Row} {t : Tab} (h : tabOf ts x = some t) (l : row.length = t.2.length) : putDue ts rs R x row = match fidx (breaksR ts R x row) rs with
    | some i => some (("BrokenRule" : Str), PyData.int (i : Nat))
    | none => none := by
  unfold putDue
  rw [h]
  exact if_neg fun z => z l
theorem tabOf_mem {ts : List Tab} {x : Str} {t : Tab} (h : tabOf ts x = some t) : t ∈ ts ∧ t.1 = x := by
  unfold tabOf at h
  have e := List.find?_some h
  exact ⟨List.mem_of_find?_eq_some h, of_decide_eq_true e⟩
/-- a rule of a book with nothing wrong speaks of columns of its table -/
theorem wrongs_ok {ts : List Tab} {rs : List RB} (h : wrongs ts rs = none) {k x : Str} {cs tl : List Str} (hr : ([k, x], some (cs, tl)) ∈ rs) : ((k = "key" ∧ tl.length = 0) ∨ (k = "settles" ∧ tl.length = 1)) ∧ ∃ t, tabOf ts x = some t ∧ (∀ c ∈ cs, c ∈ t.2) ∧ ∀ c ∈ tl, c ∈ t.2 := by
  have one : ∀ r ∈ rs, wrong1 ts r = none := by
    clear hr
    induction rs with
    | nil => intro r hr; simp at hr
    | cons q rs ih =>
      rw [wrongs] at h
      cases e : wrong1 ts q with
      | some z => rw [e] at h; cases h
      | none =>
        rw [e] at h
        intro r hr
        rcases List.mem_cons.mp hr with rfl | hr
        · exact e
        · exact ih h r hr
  have h1 := one _ hr
  cases hf : formed ([k, x], some (cs, tl)) with
  | false =>
    rw [wrong1_formed hf] at h1
    cases h1
  | true =>
    obtain ⟨k', x', cs', tl', e, fm⟩ := formed_ok hf
    cases e
    refine ⟨fm, ?_⟩
    rw [wrong1_yes fm] at h1
    cases e1 : tabOf ts x with
    | none => rw [e1] at h1; cases h1
    | some t =>
      rw [e1] at h1
      dsimp only at h1
      cases e2 : (cs ++ tl).find? (fun c => !decide (c ∈ t.2)) with
      | some c => rw [e2] at h1; cases h1
      | none =>
        have h2 := List.find?_eq_none.mp e2
        refine ⟨t, rfl, fun c hc => ?_, fun c hc => ?_⟩
        · have := h2 c (List.mem_append_left _ hc)
          simpa using this
        · have := h2 c (List.mem_append_right _ hc)
          simpa using this
/-- the rows of each table are as wide as it, and few -/
def Wide (ts : List Tab) (R : Str → List Row) : Prop := ∀ t ∈ ts, (R t.1).length ≤ 1000 ∧ ∀ r ∈ R t.1, r.length = t.2.length
def endPut (K : PySem.W.Frag) (H : Hp) (Q : VK) (E : XK) (s b d l : Addr) (L : Str → Addr) (ts : List Tab) (R : Str → List Row) (S : List Stp) (x : Str) (row : Row) : Option (Str × PyData) → Prop
  | none => ∀ H', StAt K H' s b d l L ts (setR R x (R x ++ [row])) (S ++ [((x, (((R x).length : Nat) : Int), none) : Stp)]) → Off (Mu ts L l) H H' → Q (.int ((R x).length : Nat)) H'
  | some (y, e) => Raised K H E y e
def spPut (K : PySem.W.Frag) : Sp := fun vs H Q E => ∃ (s b d l t : Addr) (L : Str → Addr) (ts : List Tab) (rs : List RB) (R : Str → List Row) (S : List Stp) (x : Str) (row : Row) (n mc mt N M Lr : Nat), vs = [.ref s, .str x, .ref t] ∧ StAt K H s b d l L ts R S ∧ Sep ts L l ∧ H t = some (.tup (row.map wV)) ∧
  BookOf K H b ts rs ∧ BkB n mc mt N M Lr ts rs ∧ wrongs ts rs = none ∧ Wide ts R ∧ row.length ≤ 1000 ∧ S.length ≤ 3000 ∧ endPut K H Q E s b d l L ts R S x row (putDue ts rs R x row)
section
variable {P : Program} {w : World} {K : PySem.W.Frag} {mg : Str → Option Value} {base : Heap}
theorem scPut : FnScope ["self", "table", "row", "present", "columns", "index", "rule"] ["self", "table", "row"] (defScope pStore_put) := ⟨rfl, rfl, rfl, by decide +kernel, rfl, by decide +kernel, by decide +kernel⟩
theorem ok_put {f fR fB pR gR : Addr} {fd dE dR dI dG dB : FuncData} (F : FunD K "put" "Store.put" (defArgs pStore_put) (defBody pStore_put) (defScope pStore_put) [] [] f fd) (T : ErrT P w K mg base dE) (ST : StoreT K mg) (B : BookT K mg)
    (mR : L2.Meth K (He.ga K "Store") "rows" fR) (GR : FnOk P w K mg base (L2.CX P w) 3 fR dR ["self", "table"] (spRows K)) (bR : Binds K dR ["self", "table"] [])
    (GI : FnOk P w K mg base (L2.CX P w) 3 (He.ma K (He.ga K "Book") "__getitem__") dI ["self", "name"] (spItem K)) (bI : Binds K dI ["self", "name"] [])
    (pr : PropOf K (He.ga K "Book") "rules" pR gR) (GG : FnOk P w K mg base CX0 7 gR dG ["self"] (spGetR K)) (bG : Binds K dG ["self"] [])
    (GB : Dn P w K mg base 2 "breaks" ["rule", "columns", "present", "row"] (spBreaks K) fB dB) (ml : mg "len" = none) (me : mg "enumerate" = none) : FnOk P w K mg base (L2.CX P w) 9 f fd ["self", "table", "row"] (spPut K) := by
  have t1 := T.es.ok "InvalidRow" (by decide)
  have g1 := T.g "InvalidRow" (by decide)
  have t2 := T.es.ok "BrokenRule" (by decide)
  have g2 := T.g "BrokenRule" (by decide)
  refine F.ok scPut (fun vs H Q E h => ?_) (fun cdv A outer s0 H vs Q E hr h => ?_)
  · obtain ⟨s, b, d, l, t, L, ts, rs, R, S, x, row, n, mc, mt, N, M, Lr, rfl, _⟩ := h
    rfl
  obtain ⟨s, b, d, l, t, L, ts, rs, R, S, x, row, n, mc, mt, N, M, Lr, rfl, st, sp, et, bo, bb, ws, wd, lrow, lS, q⟩ := h
  have hu1 := Nat.lt_of_le_of_lt (Nat.add_le_add_left (show 1 ≤ 64 by decide) _) hr.units
  refine ⟨_, pss_cons (ps_set (i := 3) scPut.nd rfl (Or.inl rfl) (pe_methA (pv 0) ST.cl mR GR (hr.mono (by decide)) bR (fun σ => passAt (takes_of rfl rfl rfl rfl) σ) (pa_cons (pv 1) pa_nil)))
    (pss_cons (ps_set (i := 4) scPut.nd rfl (Or.inl rfl) (pe_itemS (C := He.ga K "Book") B.it GI (hr.mono (by decide)) bI (fun σ => passAt (takes_of rfl rfl rfl rfl) σ) (pe_fld (pv 0) rfl) (pv 1)))
    (pss_cons (ps_if (pt_cmpR op_ne (pe_callB call_len_seq rfl ml boot_len (pa_cons (pv 2) pa_nil)) (pe_callB call_len_seq rfl ml boot_len (pa_cons (pv 4) pa_nil)) (nomark _))
      (pss_one (ps_raise rfl (takes_of rfl rfl rfl rfl) (pmk_oex t1.oex t1.ini t1.fn T.ini (hr.mono (by decide)) T.b .nil pass0 rfl g1 (pa_cons (pv 2) pa_nil)))) pss_nil)
    (pss_cons (ps_for (passes_of rfl) rfl (pi_enum rfl me (pa_cons (pe_prop (pe_fld (pv 0) rfl) B.cl pr GG (hr.mono (by decide)) bG .nil pass0 rfl) pa_nil)) (pg_tup rfl (pgs_cons (pg_name (i := 5) scPut.nd rfl (Or.inl rfl)) (pgs_cons (pg_name (i := 6) scPut.nd rfl (Or.inl rfl)) pgs_nil)))
      (pss_one (ps_if (PW.pt (pw_and (pt_cmpR op_eq (pe_ix ix_tup (pv 6) pe_int (fun _ _ => rfl)) (pv 1) (nomark _)) (pw_and1 (pt_val (pe_call GB.g (hr.mono (by decide)) rfl GB.m GB.kp GB.b .nil pass0 (pa_cons (pv 6) (pa_cons (pv 4) (pa_cons (pv 3) (pa_cons (pv 2) pa_nil)))))))))
        (pss_one (ps_raise rfl (takes_of rfl rfl rfl rfl) (pmk_oex t2.oex t2.ini t2.fn T.ini (hr.mono (by decide)) T.b .nil pass0 rfl g2 (pa_cons (pv 5) pa_nil)))) pss_nil)))
    (pss_cons (ps_expr (pe_bm PySem.F.plainAttrs_list PySem.F.slot_list_append PySem.F.type_list_append mt_append (pe_dget hu1 (pe_fld (pv 0) rfl) (pv 1) (fun _ _ => rfl)) (pa_cons (pv 2) pa_nil)))
    (pss_cons (ps_expr (pe_bm PySem.F.plainAttrs_list PySem.F.slot_list_append PySem.F.type_list_append mt_append (pe_fld (pv 0) rfl) (pa_cons (pe_tup (pa_cons (pv 1) (pa_cons (pe_callB call_len_seq rfl ml boot_len (pa_cons (pv 3) pa_nil)) (pa_cons pe_non pa_nil)))) pa_nil)))
    (pss_one (ps_ret (pe_callB call_len_seq rfl ml boot_len (pa_cons (pv 3) pa_nil))))))))), ?_⟩
  have no : ¬ False := id
  obtain ⟨dx, es⟩ := st.ins
  obtain ⟨bx, v1, v2, eb, dt, dr⟩ := id bo
  refine ⟨_, rfl, s, dx, _, rfl, es, rfl, _, rfl, s, b, d, l, L, ts, R, S, x, rfl, st, ?_⟩
  refine ⟨fun hx => ?_, fun hx => ?_⟩
  rotate_left
  · have : tabOf ts x = none := by
      cases e : tabOf ts x with
      | none => rfl
      | some t => exact absurd (List.mem_map.mpr ⟨t, (tabOf_mem e).1, (tabOf_mem e).2⟩) hx
    rw [putDue_no this] at q
    exact q
  obtain ⟨tb, etb⟩ : ∃ tb, tabOf ts x = some tb := by
    cases e : tabOf ts x with
    | none => exact absurd hx (tabOf_none e)
    | some t => exact ⟨t, rfl⟩
  obtain ⟨mtb, xtb⟩ := tabOf_mem etb
  subst xtb
  obtain ⟨wl, wr⟩ := wd tb mtb
  intro D1 vs1 H1 nD1 eD1 oD1 k1
  have es1 := k1 _ _ es no
  have eb1 := k1 _ _ eb no
  have et1 := k1 _ _ et no
  have lv1 : vs1.length = (R tb.1).length := by rw [oD1.length, List.length_map]
  refine ⟨_, rfl, s, _, dx, _, .ref b, rfl, es1, ST.cl, ST.n1, lookup_book, _, rfl, b, bx, _, rfl, eb1, b, tb.1, ts, rfl, ⟨bx, _, v1, eb1, by simp [List.lookup], dp_off k1 dt⟩, ?_⟩
  rw [etb]
  intro D2 H2 nD2 eD2 k2
  have k12 := k1.trans k2
  have et2 := k2 _ _ et1 no
  refine ⟨_, rfl, t, _, rfl, .inr (SqT.of et2), _, rfl, D2, _, rfl, .inl (SqL.of eD2), rfl, _, rfl, ?_⟩
  have lw : (row.map wV).length = row.length := List.length_map _
  have lc : (tb.2.map V.str).length = tb.2.length := List.length_map _
  by_cases hl : row.length = tb.2.length
  rotate_left
  · rw [decide_eq_false (show ¬ V.int ((row.map wV).length : Nat) = V.int ((tb.2.map V.str).length : Nat) from fun z => hl (by have := V.int.inj z; omega))]
    rw [putDue_len etb hl] at q
    refine iteT ⟨_, rfl, raise_of t1 fun dd hd => ?_⟩
    exact (q.off k12) (.ref t) Fp0 dd _ (Off.new hd) hd upd_same ((ow_row_mk et2).keep (Off.new (G := fun _ => False) hd) (fun _ z => z.elim) fun _ z => z.elim) fun _ z => z.elim
  rw [decide_eq_true (show V.int ((row.map wV).length : Nat) = V.int ((tb.2.map V.str).length : Nat) by rw [lw, lc, hl])]
  rw [putDue_rule etb hl] at q
  refine iteF ?_
  have es2 := k2 _ _ es1 no
  have eb2 := k2 _ _ eb1 no
  have eD12 := k2 _ _ eD1 no
  have bo2 := bo.off k12
  refine ⟨_, rfl, s, _, dx, _, .ref b, rfl, es2, ST.cl, ST.n1, lookup_book, b, bx, _, rfl, eb2, b, ts, rs, n, mc, mt, N, M, Lr, rfl, bo2, bb, fun vR FR H3 oR fR k3 => ?_⟩
  obtain ⟨aR, xR, rfl, sR, dR⟩ := dp_rbs (K := K) oR.dp
  have lR : xR.length = rs.length := by rw [dpAll_len dR, List.length_map]
  have k13 := k12.trans k3
  have lr1 := bb.lr
  have hM := bb.hM
  refine ⟨aR, xR, rfl, sR, for_enum (K := K) (a := aR) (xs := xR) (fun j σ G => (∃ w5 w6, σ = [some (.ref s), some (.str tb.1), some (.ref t), some (.ref D1), some (.ref D2), w5, w6]) ∧ Off (fun _ => False) H3 G ∧ ∀ r ∈ rs.take j, breaksR ts R tb.1 row r = false)
    ⟨⟨none, none, rfl⟩, Off.refl _ _, fun r hr => absurd hr (by simp)⟩ (fun j σ G _ g => sqL_off g.2.1 sR) (fun j v σ G TT hx' g hTT => ?_) fun σ G g => ?_⟩
  · obtain ⟨⟨w5, w6, rfl⟩, k4, hb⟩ := g
    have hj : j < rs.length := by
      have := (List.getElem?_eq_some_iff.mp hx').1
      omega
    have hr' : rs[j]? = some rs[j] := List.getElem?_eq_getElem hj
    have mem := List.getElem_mem hj
    obtain ⟨v', ev, dv⟩ := dpAll_get (i := j) (d := rbD rs[j]) (dpAll_off k4 dR) (by rw [List.getElem?_map, hr']; rfl)
    rw [hx'] at ev
    cases ev
    have k5 := k4.trans (Off.new (o := .tup [.int (j : Nat), v]) hTT)
    have dv5 := dp_off (Off.new (G := fun _ => False) (o := .tup [.int (j : Nat), v]) hTT) dv
    refine ⟨TT, [.int (j : Nat), v], rfl, SqT.of upd_same, rfl, .int (j : Nat), [v], rfl, v, [], rfl, rfl, ?_⟩
    generalize upd G TT (.tup [.int (j : Nat), v]) = G5 at k5 dv5 ⊢
    have fr : formed rs[j] = true := by
      cases hf : formed rs[j] with
      | true => rfl
      | false =>
        have : wrong1 ts rs[j] = none := by
          have all : ∀ (rs : List RB), wrongs ts rs = none → ∀ r ∈ rs, wrong1 ts r = none := fun rs h => by
            induction rs with
            | nil => intro r hr; simp at hr
            | cons q rs ih =>
              rw [wrongs] at h
              cases e : wrong1 ts q with
              | some z => rw [e] at h; cases h
              | none =>
                rw [e] at h
                intro r hr
                rcases List.mem_cons.mp hr with rfl | hr
                · exact e
                · exact ih h r hr
          exact all rs ws _ mem
        rw [wrong1_formed hf] at this
        cases this
    obtain ⟨k0, y0, cs, tl, er, fm⟩ := formed_ok fr
    rw [er] at dv5
    obtain ⟨ra, na, rfl, sr, sn⟩ := dp_rb dv5
    obtain ⟨_, tt, ett, hcs, htl⟩ := wrongs_ok ws (er ▸ mem)
    have lcs : cs.length ≤ 1000 := Nat.le_trans ((bb.rb _ mem).cs cs tl (by rw [er])).1 hM
    have bke : breaksR ts R tb.1 row rs[j] = (decide (y0 = tb.1) && (R tb.1).any fun a => clash tb.2 cs tl a row) := by
      rw [er]
      unfold breaksR
      dsimp only
      rw [etb]
    have next : ∀ {σ : L2.St} {G' : Hp}, (∃ w5 w6, σ = [some (V.ref s), some (V.str tb.1), some (V.ref t), some (V.ref D1), some (V.ref D2), w5, w6]) → Off (fun _ => False) H3 G' → breaksR ts R tb.1 row rs[j] = false → (∃ w5 w6, σ = [some (V.ref s), some (V.str tb.1), some (V.ref t), some (V.ref D1), some (V.ref D2), w5, w6]) ∧ Off (fun _ => False) H3 G' ∧ ∀ r ∈ rs.take (j + 1), breaksR ts R tb.1 row r = false := fun h1 h2 h3 => by
      refine ⟨h1, h2, fun r hr => ?_⟩
      rw [take_snoc hr'] at hr
      rcases List.mem_append.mp hr with hr | hr
      · exact hb r hr
      · rw [List.mem_singleton.mp hr]
        exact h3
    refine ⟨_, rfl, ra, _, 1, .str y0, rfl, rfl, sr, atI_nat (j := 1) rfl, _, rfl, rfl, _, rfl, ite2 (fun c => ?_) (fun c => ?_)⟩
    · have ey : y0 = tb.1 := V.str.inj (of_decide_eq_true c)
      subst ey
      rw [etb] at ett
      cases ett
      have k35 := k3.trans k5
      have kall := k13.trans k5
      refine ⟨_, rfl, _, rfl, _, rfl, _, rfl, .ref ra, D2, D1, t, k0, tb.1, cs, tl, tb.2, vs1, R tb.1, row, rfl, dv5, fm, SqL.of (k35 _ _ eD2 no), SqL.of (k35 _ _ eD12 no), oD1.keep (k2.trans k35) (fun _ z => z.elim) (fun _ z => z.elim), k35 _ _ et2 no, hcs, htl, hl, wr, lcs, wl, fun G6 k6 => ⟨_, rfl, ?_⟩⟩
      rw [decide_eq_true rfl, Bool.true_and] at bke
      rw [← bke]
      have k7 := k5.trans k6
      cases hbk : breaksR ts R tb.1 row rs[j] with
      | false => exact iteF (next ⟨_, _, rfl⟩ k7 hbk)
      | true =>
        rw [fidx_at hb hr' hbk] at q
        refine iteT ⟨_, rfl, raise_of t2 fun dd hd => ?_⟩
        exact (q.off (k13.trans k7)) (.int (j : Nat)) Fp0 dd _ (Off.new hd) hd upd_same (.int _ fun _ z => z) fun _ z => z.elim
    · have ny : y0 ≠ tb.1 := fun z => c (decide_eq_true (by rw [z]))
      rw [decide_eq_false ny, Bool.false_and] at bke
      exact next ⟨_, _, rfl⟩ k5 bke
  · obtain ⟨⟨w5, w6, rfl⟩, k4, hb⟩ := g
    rw [lR, List.take_length] at hb
    rw [fidx_none hb] at q
    have kall := k13.trans k4
    have st4 := st.off kall
    obtain ⟨vs, ev, ov⟩ := st4.sto.rows tb mtb
    have es4 := kall _ _ es no
    have eD14 := (k3.trans k4) _ _ eD12 no
    have dg := DGet.k (k := .inr tb.1) st4.sto.dic
    rw [valV_dkv, if_pos hx] at dg
    have lv : vs.length = (R tb.1).length := by rw [ov.length, List.length_map]
    refine ⟨_, rfl, s, _, dx, _, .ref d, rfl, es4, ST.cl, ST.n2, lookup_rows, _, rfl, d, _, rfl, dg, .inl ⟨rfl, _, SqL.of ev⟩, _, rfl, L tb.1, _, _, rfl, rfl, ev, small4000 (by omega), ?_⟩
    have et4 := kall _ _ et no
    have oNew : OwAll G (vs ++ [.ref t]) ((R tb.1 ++ [row]).map rowD) Fp0 := by
      rw [List.map_append]
      exact owAll_atom ov (ow_row_mk et4)
    have sto5 := st4.sto.set sp mtb oNew
    have k5 : Off (fun a => a = L tb.1) G (upd G (L tb.1) (.lst (vs ++ [.ref t]))) := Off.upd rfl
    have nL : ∀ {a : Addr} {o : HO}, G a = some o → (∀ xs, o ≠ .lst xs) → a ≠ L tb.1 := fun e n z => by
      rw [z, ev] at e
      cases e
      exact n _ rfl
    have es5 := k5 _ _ es4 (nL es4 fun _ z => by cases z)
    have nD : D1 ≠ L tb.1 := fun z => by
      obtain ⟨xs0, e0, _⟩ := st.sto.rows tb mtb
      rw [← z, nD1] at e0
      cases e0
    have eD15 := k5 _ _ eD14 nD
    generalize upd G (L tb.1) (.lst (vs ++ [.ref t])) = G5 at k5 sto5 es5 eD15 ⊢
    obtain ⟨us, eu, ou⟩ := sto5.steps
    have lu : us.length = S.length := by rw [ou.length, List.length_map]
    refine ⟨_, rfl, s, _, dx, _, .ref l, rfl, es5, ST.cl, ST.n3, lookup_steps, .inl ⟨rfl, _, SqL.of eu⟩, _, rfl, _, rfl, D1, _, rfl, .inl (SqL.of eD15), by show 3 ≤ sizeLine; decide, fun tp ntp => ?_⟩
    have k6 : Off (fun _ => False) G5 (upd G5 tp (.tup [.str tb.1, .int (vs1.length : Nat), .non])) := Off.new ntp
    have e6 := upd_same (H := G5) (a := tp) (o := .tup [.str tb.1, .int (vs1.length : Nat), .non])
    have sto6 := sto5.off k6
    have eu6 := k6 _ _ eu no
    have eD16 := k6 _ _ eD15 no
    have es6 := k6 _ _ es5 no
    have ou6 := ou.keep k6 (fun _ z => z.elim) fun _ z => z.elim
    generalize upd G5 tp (.tup [.str tb.1, .int (vs1.length : Nat), .non]) = G6 at k6 e6 sto6 eu6 eD16 es6 ou6 ⊢
    refine ⟨l, _, _, rfl, rfl, eu6, small4000 (by omega), ?_⟩
    have oStep : OwAll G6 (us ++ [.ref tp]) ((S ++ [((tb.1, (((R tb.1).length : Nat) : Int), none) : Stp)]).map stepD) Fp0 := by
      rw [List.map_append]
      rw [lv1] at e6
      refine owAll_atom ou6 (.tup (F := Fp0) e6 ?_)
      exact owAll_0cons (.str _ fun _ z => z) (owAll_0cons (.int _ fun _ z => z) (owAll_0cons (.non fun _ z => z) (.nil fun _ z => z)))
    have sto7 := sto6.step sp oStep
    have k7 : Off (fun a => a = l) G6 (upd G6 l (.lst (us ++ [.ref tp]))) := Off.upd rfl
    have nl : ∀ {a : Addr} {o : HO}, G6 a = some o → (∀ xs, o ≠ .lst xs) → a ≠ l := fun e n z => by
      rw [z, eu6] at e
      cases e
      exact n _ rfl
    have nD1l : D1 ≠ l := fun z => by
      obtain ⟨xs0, e0, _⟩ := st.sto.steps
      rw [← z, nD1] at e0
      cases e0
    refine ⟨_, rfl, D1, _, rfl, .inl (SqL.of (k7 _ _ eD16 nD1l)), ?_⟩
    rw [lv1]
    refine q _ ⟨⟨dx, k7 _ _ es6 (nl es6 fun _ z => by cases z)⟩, sto7⟩ fun a o ea na => ?_
    have n1 : a ≠ L tb.1 := fun z => na (.inr ⟨tb, mtb, z⟩)
    have n2 : a ≠ l := fun z => na (.inl z)
    exact k7 _ _ (k6 _ _ (k5 _ _ (kall _ _ ea no) n1) no) n2
end
end LW
set_option Elab.async false
set_option linter.all false
set_option maxRecDepth 100000
set_option maxHeartbeats 0
/-! stores.py: take -/
namespace LW
open PySem PySem.Spec PyProof.Rows L2 KV
theorem seq_ix {i : Int} {n : Nat} (h0 : 0 ≤ i) (h1 : i < n) : seqIndex? i n = some i.toNat := (ixN_seq (j := i.toNat) (by unfold ixN; rw [if_pos h0, if_pos h1])).1
theorem map_erase {α β : Type} (f : α → β) : ∀ (l : List α) (k : Nat), (l.map f).eraseIdx k = (l.eraseIdx k).map f
  | [], _ => by simp
  | a :: l, 0 => rfl
  | a :: l, k + 1 => by
    rw [List.map_cons, List.eraseIdx_cons_succ, List.eraseIdx_cons_succ, List.map_cons, map_erase f l k]
def endTake (K : PySem.W.Frag) (H : Hp) (Q : VK) (E : XK) (s b d l : Addr) (L : Str → Addr) (ts : List Tab) (R : Str → List Row) (S : List Stp) (x : Str) (i : Int) : Prop :=
  (x ∉ ts.map Prod.fst → Raised K H E "UnknownTable" (.str x)) ∧ (x ∈ ts.map Prod.fst → ¬ (0 ≤ i ∧ i < (R x).length) → Raised K H E "NoSuchRow" (.int i)) ∧
  (x ∈ ts.map Prod.fst → 0 ≤ i → i < (R x).length → ∀ v r H', (R x)[i.toNat]? = some r → StAt K H' s b d l L ts (setR R x ((R x).eraseIdx i.toNat)) (S ++ [((x, i, some r) : Stp)]) → Off (Mu ts L l) H H' → Ow H' v (rowD r) Fp0 → Q v H')
def spTake (K : PySem.W.Frag) : Sp := fun vs H Q E => ∃ (s b d l : Addr) (L : Str → Addr) (ts : List Tab) (R : Str → List Row) (S : List Stp) (x : Str) (i : Int), vs = [.ref s, .str x, .int i] ∧ StAt K H s b d l L ts R S ∧ Sep ts L l ∧ (∀ t ∈ ts, (R t.1).length ≤ 1000) ∧ S.length ≤ 3000 ∧ endTake K H Q E s b d l L ts R S x i
section
variable {P : Program} {w : World} {K : PySem.W.Frag} {mg : Str → Option Value} {base : Heap}
theorem scTake : FnScope ["self", "table", "index", "present", "row"] ["self", "table", "index"] (defScope pStore_take) := ⟨rfl, rfl, rfl, by decide +kernel, rfl, by decide +kernel, by decide +kernel⟩
theorem ok_take {f fR : Addr} {fd dE dR : FuncData} (F : FunD K "take" "Store.take" (defArgs pStore_take) (defBody pStore_take) (defScope pStore_take) [] [] f fd) (T : ErrT P w K mg base dE) (ST : StoreT K mg)
    (mR : L2.Meth K (He.ga K "Store") "rows" fR) (GR : FnOk P w K mg base (L2.CX P w) 3 fR dR ["self", "table"] (spRows K)) (bR : Binds K dR ["self", "table"] []) (ml : mg "len" = none) : FnOk P w K mg base (L2.CX P w) 5 f fd ["self", "table", "index"] (spTake K) := by
  have t1 := T.es.ok "NoSuchRow" (by decide)
  have g1 := T.g "NoSuchRow" (by decide)
  refine F.ok scTake (fun vs H Q E h => ?_) (fun cdv A outer s0 H vs Q E hr h => ?_)
  · obtain ⟨s, b, d, l, L, ts, R, S, x, i, rfl, _⟩ := h
    rfl
  obtain ⟨s, b, d, l, L, ts, R, S, x, i, rfl, st, sp, wd, lS, q1, q2, q3⟩ := h
  have hu1 := Nat.lt_of_le_of_lt (Nat.add_le_add_left (show 1 ≤ 64 by decide) _) hr.units
  refine ⟨_, pss_cons (ps_set (i := 3) scTake.nd rfl (Or.inl rfl) (pe_methA (pv 0) ST.cl mR GR (hr.mono (by decide)) bR (fun σ => passAt (takes_of rfl rfl rfl rfl) σ) (pa_cons (pv 1) pa_nil)))
    (pss_cons (ps_if (pt_not (pt_chain op_le op_lt pe_int (pv 2) (pe_callB call_len_seq rfl ml boot_len (pa_cons (pv 3) pa_nil))))
      (pss_one (ps_raise rfl (takes_of rfl rfl rfl rfl) (pmk_oex t1.oex t1.ini t1.fn T.ini (hr.mono (by decide)) T.b .nil pass0 rfl g1 (pa_cons (pv 2) pa_nil)))) pss_nil)
    (pss_cons (ps_set (i := 4) scTake.nd rfl (Or.inl rfl) (pe_bm PySem.F.plainAttrs_list PySem.F.slot_list_pop PySem.F.type_list_pop mt_popAt (pe_dget hu1 (pe_fld (pv 0) rfl) (pv 1) (fun _ _ => rfl)) (pa_cons (pv 2) pa_nil)))
    (pss_cons (ps_expr (pe_bm PySem.F.plainAttrs_list PySem.F.slot_list_append PySem.F.type_list_append mt_append (pe_fld (pv 0) rfl) (pa_cons (pe_tup (pa_cons (pv 1) (pa_cons (pv 2) (pa_cons (pv 4) pa_nil)))) pa_nil)))
    (pss_one (ps_ret (pv 4)))))), ?_⟩
  have no : ¬ False := id
  obtain ⟨dx, es⟩ := st.ins
  refine ⟨_, rfl, s, dx, _, rfl, es, rfl, _, rfl, s, b, d, l, L, ts, R, S, x, rfl, st, fun hx => ?_, q1⟩
  replace q2 := q2 hx
  replace q3 := q3 hx
  obtain ⟨tb, mtb, rfl⟩ := List.mem_map.mp hx
  intro D1 vs1 H1 nD1 eD1 oD1 k1
  have es1 := k1 _ _ es no
  have lv1 : vs1.length = (R tb.1).length := by rw [oD1.length, List.length_map]
  have lR := wd tb mtb
  have out : ¬ (0 ≤ i ∧ i < (R tb.1).length) → [V.int i].length ≤ 1000 ∧ ∀ a, H1 a = none → spInit K "value" (.ref a :: ([V.int i] ++ [])) (upd H1 a (exo a (He.ga K "NoSuchRow") none))
      (fun v H2 => v = .non ∧ ∃ (d : Addr) (fs : List (Str × V)), H2 a = some (exo a (He.ga K "NoSuchRow") (some d)) ∧ H2 d = some (exd d fs) ∧ H1 d = none ∧ E (.ref (He.ga K "NoSuchRow")) (some d) (upd (del H2 a) d (.xd fs))) (fun _ _ _ => False) := fun c =>
    raise_of t1 fun d hd => ((q2 c).off k1) (.int i) (fun _ => False) d _ (Off.new hd) hd upd_same (.int i fun _ z => z) fun _ z => z.elim
  refine ⟨_, rfl, _, _, rfl, rfl, _, rfl, ite2 (fun c1 => ⟨_, rfl, D1, vs1, rfl, .inl (SqL.of eD1), _, _, rfl, rfl, _, rfl, ?_⟩) (fun c1 => ⟨_, rfl, iteT ⟨_, rfl, out fun z => c1 (decide_eq_true z.1)⟩⟩)⟩
  have p1 : 0 ≤ i := of_decide_eq_true c1
  rw [lv1]
  by_cases c2 : i < ((R tb.1).length : Nat)
  rotate_left
  · rw [decide_eq_false c2]
    exact iteT ⟨_, rfl, out fun z => c2 z.2⟩
  rw [decide_eq_true c2]
  have st1 := st.off k1
  obtain ⟨vs, ev, ov⟩ := st1.sto.rows tb mtb
  have lv : vs.length = (R tb.1).length := by rw [ov.length, List.length_map]
  have dg := DGet.k (k := .inr tb.1) st1.sto.dic
  rw [valV_dkv, if_pos hx] at dg
  have li : i.toNat < (R tb.1).length := by omega
  have hri : (R tb.1)[i.toNat]? = some (R tb.1)[i.toNat] := List.getElem?_eq_getElem li
  obtain ⟨v, hv, ow⟩ := owAll_get ov (i := i.toNat) (d := rowD (R tb.1)[i.toNat]) (by rw [List.getElem?_map, hri]; rfl)
  refine iteF ⟨_, rfl, s, _, dx, _, .ref d, rfl, es1, ST.cl, ST.n2, lookup_rows, _, rfl, d, _, rfl, dg, .inl ⟨rfl, _, SqL.of ev⟩, _, rfl, L tb.1, vs, i, i.toNat, v, rfl, rfl, ev, by omega, by omega, seq_ix p1 (by omega), hv, ?_⟩
  have oNew : OwAll H1 (vs.eraseIdx i.toNat) (((R tb.1).eraseIdx i.toNat).map rowD) Fp0 := by
    rw [← map_erase]
    exact owAll_erase _ ov
  have sto5 := st1.sto.set sp mtb oNew
  have k5 : Off (fun a => a = L tb.1) H1 (upd H1 (L tb.1) (.lst (vs.eraseIdx i.toNat))) := Off.upd rfl
  have nL : ∀ {a : Addr} {o : HO}, H1 a = some o → (∀ xs, o ≠ .lst xs) → a ≠ L tb.1 := fun e n z => by
    rw [z, ev] at e
    cases e
    exact n _ rfl
  have es5 := k5 _ _ es1 (nL es1 fun _ z => by cases z)
  have ow5 := ow.keep k5 (fun a z => ⟨vs, z ▸ ev⟩) fun _ z => z.elim
  generalize upd H1 (L tb.1) (.lst (vs.eraseIdx i.toNat)) = G5 at k5 sto5 es5 ow5 ⊢
  obtain ⟨us, eu, ou⟩ := sto5.steps
  have lu : us.length = S.length := by rw [ou.length, List.length_map]
  refine ⟨_, rfl, s, _, dx, _, .ref l, rfl, es5, ST.cl, ST.n3, lookup_steps, .inl ⟨rfl, _, SqL.of eu⟩, _, rfl, _, rfl, _, rfl, by show 3 ≤ sizeLine; decide, fun tp ntp => ?_⟩
  have k6 : Off (fun _ => False) G5 (upd G5 tp (.tup [.str tb.1, .int i, v])) := Off.new ntp
  have e6 := upd_same (H := G5) (a := tp) (o := .tup [.str tb.1, .int i, v])
  have sto6 := sto5.off k6
  have eu6 := k6 _ _ eu no
  have es6 := k6 _ _ es5 no
  have ou6 := ou.keep k6 (fun _ z => z.elim) fun _ z => z.elim
  have ow6 := ow5.keep k6 (fun _ z => z.elim) fun _ z => z.elim
  generalize upd G5 tp (.tup [.str tb.1, .int i, v]) = G6 at k6 e6 sto6 eu6 es6 ou6 ow6 ⊢
  refine ⟨l, _, _, rfl, rfl, eu6, small4000 (by omega), ?_⟩
  have oStep : OwAll G6 (us ++ [.ref tp]) ((S ++ [((tb.1, i, some (R tb.1)[i.toNat]) : Stp)]).map stepD) Fp0 := by
    rw [List.map_append]
    refine owAll_atom ou6 (.tup (F := Fp0) e6 ?_)
    exact owAll_0cons (.str _ fun _ z => z) (owAll_0cons (.int _ fun _ z => z) (owAll_0cons ow6 (.nil fun _ z => z)))
  have sto7 := sto6.step sp oStep
  have k7 : Off (fun a => a = l) G6 (upd G6 l (.lst (us ++ [.ref tp]))) := Off.upd rfl
  have nl : ∀ {a : Addr} {o : HO}, G6 a = some o → (∀ xs, o ≠ .lst xs) → a ≠ l := fun e n z => by
    rw [z, eu6] at e
    cases e
    exact n _ rfl
  refine ⟨_, rfl, q3 p1 c2 v _ _ hri ⟨⟨dx, k7 _ _ es6 (nl es6 fun _ z => by cases z)⟩, sto7⟩ (fun a o ea na => ?_) (ow6.keep k7 (fun a z => ⟨us, z ▸ eu6⟩) fun _ z => z.elim)⟩
  have n1 : a ≠ L tb.1 := fun z => na (.inr ⟨tb, mtb, z⟩)
  have n2 : a ≠ l := fun z => na (.inl z)
  exact k7 _ _ (k6 _ _ (k5 _ _ (k1 _ _ ea no) n1) no) n2
end
end LW
set_option Elab.async false
set_option linter.all false
set_option maxRecDepth 100000
set_option maxHeartbeats 0
/-! stores.py: undo -/
namespace LW
open PySem PySem.Spec PyProof.Rows L2 KV
def undoR (R : Str → List Row) (st : Stp) : Str → List Row := match st.2.2 with
  | none => setR R st.1 ((R st.1).eraseIdx st.2.1.toNat)
  | some r => setR R st.1 ((R st.1).take st.2.1.toNat ++ [r] ++ (R st.1).drop st.2.1.toNat)
def StpOk (ts : List Tab) (R : Str → List Row) (st : Stp) : Prop := st.1 ∈ ts.map Prod.fst ∧ 0 ≤ st.2.1 ∧ match st.2.2 with
  | none => st.2.1 < (R st.1).length
  | some _ => st.2.1 ≤ (R st.1).length
def endUndo (K : PySem.W.Frag) (H : Hp) (Q : VK) (E : XK) (s b d l : Addr) (L : Str → Addr) (ts : List Tab) (R : Str → List Row) (S : List Stp) : Prop :=
  (S = [] → Raised K H E "NothingToUndo" (.int 0)) ∧ ∀ S' st, S = S' ++ [st] → StpOk ts R st ∧ ∀ H', StAt K H' s b d l L ts (undoR R st) S' → Off (Mu ts L l) H H' → Q .non H'
def spUndo (K : PySem.W.Frag) : Sp := fun vs H Q E => ∃ (s b d l : Addr) (L : Str → Addr) (ts : List Tab) (R : Str → List Row) (S : List Stp), vs = [.ref s] ∧ StAt K H s b d l L ts R S ∧ Sep ts L l ∧ (∀ t ∈ ts, (R t.1).length ≤ 1000) ∧ endUndo K H Q E s b d l L ts R S
theorem owAll_app0 {H : Hp} {us : List V} {es : List PyData} (h2 : OwAll H us es Fp0) : ∀ {vs : List V} {ds : List PyData}, OwAll H vs ds Fp0 → OwAll H (vs ++ us) (ds ++ es) Fp0
  | [], [], _ => h2
  | [], _ :: _, h => by cases h
  | _ :: _, [], h => by cases h
  | v :: vs, d :: ds, h => owAll_0cons (owAll_0un h).1 (owAll_app0 h2 (owAll_0un h).2)
theorem owAll_take {H : Hp} : ∀ {vs : List V} {ds : List PyData} (n : Nat), OwAll H vs ds Fp0 → OwAll H (vs.take n) (ds.take n) Fp0
  | _, _, 0, _ => by simpa using .nil fun _ z => z
  | [], [], _ + 1, h => by simpa using h
  | [], _ :: _, _, h => by cases h
  | _ :: _, [], _, h => by cases h
  | v :: vs, d :: ds, n + 1, h => owAll_0cons (owAll_0un h).1 (owAll_take n (owAll_0un h).2)
theorem owAll_drop {H : Hp} : ∀ {vs : List V} {ds : List PyData} (n : Nat), OwAll H vs ds Fp0 → OwAll H (vs.drop n) (ds.drop n) Fp0
  | _, _, 0, h => h
  | [], [], _ + 1, h => by simpa using h
  | [], _ :: _, _, h => by cases h
  | _ :: _, [], _, h => by cases h
  | v :: vs, d :: ds, n + 1, h => owAll_drop n (owAll_0un h).2
theorem ow_step {H : Hp} {v : V} {st : Stp} (h : Ow H v (stepD st) Fp0) : ∃ t u, v = .ref t ∧ H t = some (.tup [.str st.1, .int st.2.1, u]) ∧ (match st.2.2 with
    | none => u = .non
    | some r => Ow H u (rowD r) Fp0) := by
  obtain ⟨x, i, o⟩ := st
  unfold stepD at h
  cases h with
  | tup h r =>
    cases r with
    | cons h1 r _ _ =>
      cases h1
      cases r with
      | cons h2 r _ _ =>
        cases h2
        cases r with
        | cons h3 r _ _ =>
          cases r
          refine ⟨_, _, rfl, h, ?_⟩
          cases o with
          | none =>
            cases h3
            rfl
          | some r => exact ow_row0 h3
section
variable {P : Program} {w : World} {K : PySem.W.Frag} {mg : Str → Option Value} {base : Heap}
theorem scUndo : FnScope ["self", "table", "index", "row"] ["self"] (defScope pStore_undo) := ⟨rfl, rfl, rfl, by decide +kernel, rfl, by decide +kernel, by decide +kernel⟩
theorem ok_undo {f : Addr} {fd dE : FuncData} (F : FunD K "undo" "Store.undo" (defArgs pStore_undo) (defBody pStore_undo) (defScope pStore_undo) [] [] f fd) (T : ErrT P w K mg base dE) (ST : StoreT K mg) : FnOk P w K mg base (L2.CX P w) 3 f fd ["self"] (spUndo K) := by
  have t1 := T.es.ok "NothingToUndo" (by decide)
  have g1 := T.g "NothingToUndo" (by decide)
  refine F.ok scUndo (fun vs H Q E h => ?_) (fun cdv A outer s0 H vs Q E hr h => ?_)
  · obtain ⟨s, b, d, l, L, ts, R, S, rfl, _⟩ := h
    rfl
  obtain ⟨s, b, d, l, L, ts, R, S, rfl, st, sp, wd, q1, q2⟩ := h
  have hu1 := Nat.lt_of_le_of_lt (Nat.add_le_add_left (show 1 ≤ 64 by decide) _) hr.units
  refine ⟨_, pss_cons (ps_if (pt_not (pt_truth (pe_fld (pv 0) rfl) (by intro _; rfl)))
      (pss_one (ps_raise rfl (takes_of rfl rfl rfl rfl) (pmk_oex t1.oex t1.ini t1.fn T.ini (hr.mono (by decide)) T.b .nil pass0 rfl g1 (pa_cons pe_int pa_nil)))) pss_nil)
    (pss_cons (ps_asg (pe_bm0 PySem.F.plainAttrs_list PySem.F.slot_list_pop PySem.F.type_list_pop mt_pop (pe_fld (pv 0) rfl)) (pg_tup rfl (pgs_cons (pg_name (i := 1) scUndo.nd rfl (Or.inl rfl)) (pgs_cons (pg_name (i := 2) scUndo.nd rfl (Or.inl rfl)) (pgs_cons (pg_name (i := 3) scUndo.nd rfl (Or.inl rfl)) pgs_nil)))))
    (pss_one (ps_if (pt_cmpR op_isN (pv 3) pe_non (nomark _))
      (pss_one (ps_expr (pe_bm PySem.F.plainAttrs_list PySem.F.slot_list_pop PySem.F.type_list_pop mt_popAt (pe_dget hu1 (pe_fld (pv 0) rfl) (pv 1) (fun _ _ => rfl)) (pa_cons (pv 2) pa_nil))))
      (pss_one (ps_expr (pe_bm PySem.F.plainAttrs_list PySem.F.slot_list_insert PySem.F.type_list_insert mt_insert (pe_dget hu1 (pe_fld (pv 0) rfl) (pv 1) (fun _ _ => rfl)) (pa_cons (pv 2) (pa_cons (pv 3) pa_nil)))))))), ?_⟩
  have no : ¬ False := id
  obtain ⟨dx, es⟩ := st.ins
  obtain ⟨us, eu, ou⟩ := st.sto.steps
  have lu : us.length = S.length := by rw [ou.length, List.length_map]
  rcases List.eq_nil_or_concat S with e | ⟨S', sx, e⟩
  · subst e
    obtain rfl : us = [] := List.length_eq_zero_iff.mp lu
    refine ⟨_, rfl, s, _, dx, _, .ref l, rfl, es, ST.cl, ST.n3, lookup_steps, false, .inl ⟨[], SqL.of eu, rfl⟩, iteT (raise_of t1 fun dd hd => ?_)⟩
    exact (q1 rfl) (.int 0) Fp0 dd _ (Off.new hd) hd upd_same (.int _ fun _ z => z) fun _ z => z.elim
  have e : S = S' ++ [sx] := by simpa using e
  obtain ⟨⟨hx, h0, hk⟩, fin⟩ := q2 S' sx e
  rw [e, List.map_append] at ou
  have ne : us ≠ [] := fun z => by
    rw [z, e] at lu
    simp at lu
  obtain ⟨us', u, rfl⟩ : ∃ us' u, us = us' ++ [u] := ⟨us.dropLast, us.getLast ne, (List.dropLast_concat_getLast ne).symm⟩
  have ll : us'.length = S'.length := by
    rw [e] at lu
    simpa using lu
  have hlast : (us' ++ [u])[(us' ++ [u]).length - 1]? = some u := by simp
  obtain ⟨u', eu', ox⟩ := owAll_get ou (i := us'.length) (d := stepD sx) (by rw [ll]; simp)
  obtain rfl : u' = u := by simpa using eu'.symm
  have ou' : OwAll H us' (S'.map stepD) Fp0 := by
    have := owAll_erase us'.length ou
    rw [List.eraseIdx_append_of_length_le (Nat.le_refl _), Nat.sub_self] at this
    rw [show (S'.map stepD ++ [sx].map stepD).eraseIdx us'.length = S'.map stepD by
      rw [List.eraseIdx_append_of_length_le (by simp [ll])]
      simp [ll]] at this
    simpa using this
  obtain ⟨t, w3, rfl, et, hw⟩ := ow_step ox
  refine ⟨_, rfl, s, _, dx, _, .ref l, rfl, es, ST.cl, ST.n3, lookup_steps, true, .inl ⟨us' ++ [.ref t], SqL.of eu, by simp⟩, iteF ?_⟩
  refine ⟨_, rfl, s, _, dx, _, .ref l, rfl, es, ST.cl, ST.n3, lookup_steps, .inl ⟨rfl, _, SqL.of eu⟩, l, _, .ref t, rfl, rfl, eu, hlast, ?_⟩
  rw [List.dropLast_concat]
  have k1 : Off (fun a => a = l) H (upd H l (.lst us')) := Off.upd rfl
  have sto1 := st.sto.step sp ou'
  have nl : ∀ {a : Addr} {o : HO}, H a = some o → (∀ xs, o ≠ .lst xs) → a ≠ l := fun e n z => by
    rw [z, eu] at e
    cases e
    exact n _ rfl
  have es1 := k1 _ _ es (nl es fun _ z => by cases z)
  have et1 := k1 _ _ et (nl et fun _ z => by cases z)
  have hw1 : (match sx.2.2 with
    | none => w3 = .non
    | some r => Ow (upd H l (.lst us')) w3 (rowD r) Fp0) := by
    cases ho : sx.2.2 with
    | none => rw [ho] at hw; exact hw
    | some r => rw [ho] at hw; exact hw.keep k1 (fun a z => ⟨_, z ▸ eu⟩) fun _ z => z.elim
  generalize upd H l (.lst us') = H1 at k1 sto1 es1 et1 hw1 ⊢
  obtain ⟨tb, mtb, etb⟩ := List.mem_map.mp hx
  obtain ⟨vs, ev, ov⟩ := sto1.rows tb mtb
  have lv : vs.length = (R tb.1).length := by rw [ov.length, List.length_map]
  have dg := DGet.k (k := .inr sx.1) sto1.dic
  rw [valV_dkv, if_pos hx, show L sx.1 = L tb.1 by rw [etb]] at dg
  have lR := wd tb mtb
  refine ⟨t, [.str sx.1, .int sx.2.1, w3], rfl, SqT.of et1, rfl, .str sx.1, [.int sx.2.1, w3], rfl, .int sx.2.1, [w3], rfl, w3, [], rfl, rfl, ?_⟩
  have kk : ∀ G, Off (fun a => a = L tb.1) H1 G → Off (Mu ts L l) H G := fun G k a o ea na => k _ _ (k1 _ _ ea fun z => na (.inl z)) fun z => na (.inr ⟨tb, mtb, z⟩)
  have nL : s ≠ L tb.1 := fun z => by rw [z, ev] at es1; cases es1
  refine ⟨_, rfl, rfl, _, rfl, ?_⟩
  cases ho : sx.2.2 with
  | none =>
    rw [ho] at hw1 hk
    have hw1 : w3 = .non := hw1
    have hk : sx.2.1 < (R sx.1).length := hk
    rw [← etb] at hk
    subst hw1
    rw [decide_eq_true (show V.non = V.non from rfl)]
    have li : sx.2.1.toNat < vs.length := by omega
    refine iteT ⟨_, rfl, s, _, dx, _, .ref d, rfl, es1, ST.cl, ST.n2, lookup_rows, _, rfl, d, _, rfl, dg, .inl ⟨rfl, _, SqL.of ev⟩, _, rfl, L tb.1, vs, sx.2.1, sx.2.1.toNat, vs[sx.2.1.toNat], rfl, rfl, ev, by omega, by omega, seq_ix h0 (by omega), List.getElem?_eq_getElem li, ?_⟩
    have oNew : OwAll H1 (vs.eraseIdx sx.2.1.toNat) (((R tb.1).eraseIdx sx.2.1.toNat).map rowD) Fp0 := by
      rw [← map_erase]
      exact owAll_erase _ ov
    have sto2 := sto1.set sp mtb oNew
    have k2 : Off (fun a => a = L tb.1) H1 (upd H1 (L tb.1) (.lst (vs.eraseIdx sx.2.1.toNat))) := Off.upd rfl
    have eR : undoR R sx = setR R tb.1 ((R tb.1).eraseIdx sx.2.1.toNat) := by
      unfold undoR
      rw [ho, etb]
    refine fin _ ⟨⟨dx, k2 _ _ es1 nL⟩, by rw [eR]; exact sto2⟩ (kk _ k2)
  | some r =>
    rw [ho] at hw1 hk
    have hw1 : Ow H1 w3 (rowD r) Fp0 := hw1
    have hk : sx.2.1 ≤ (R sx.1).length := hk
    rw [← etb] at hk
    have nn : ¬ w3 = V.non := fun z => by
      obtain ⟨t', e', _⟩ := ow_row hw1
      rw [z] at e'
      cases e'
    rw [decide_eq_false nn]
    refine iteF ⟨_, rfl, s, _, dx, _, .ref d, rfl, es1, ST.cl, ST.n2, lookup_rows, _, rfl, d, _, rfl, dg, .inl ⟨rfl, _, SqL.of ev⟩, _, rfl, _, rfl, L tb.1, vs, sx.2.1, w3, rfl, rfl, ev, small4000 (by omega), h0, by omega, ?_⟩
    have oNew : OwAll H1 (vs.take sx.2.1.toNat ++ [w3] ++ vs.drop sx.2.1.toNat) (((R tb.1).take sx.2.1.toNat ++ [r] ++ (R tb.1).drop sx.2.1.toNat).map rowD) Fp0 := by
      rw [List.map_append, List.map_append, List.map_take, List.map_drop]
      exact owAll_app0 (owAll_drop _ ov) (owAll_atom (owAll_take _ ov) hw1)
    have sto2 := sto1.set sp mtb oNew
    have k2 : Off (fun a => a = L tb.1) H1 (upd H1 (L tb.1) (.lst (vs.take sx.2.1.toNat ++ [w3] ++ vs.drop sx.2.1.toNat))) := Off.upd rfl
    have eR : undoR R sx = setR R tb.1 ((R tb.1).take sx.2.1.toNat ++ [r] ++ (R tb.1).drop sx.2.1.toNat) := by
      unfold undoR
      rw [ho, etb]
    refine fin _ ⟨⟨dx, k2 _ _ es1 nL⟩, by rw [eR]; exact sto2⟩ (kk _ k2)
end
end LW
set_option Elab.async false
set_option linter.all false
set_option maxRecDepth 100000
set_option maxHeartbeats 0
/-! books.py: shown, of a question of the form all; stores.py: answered, a store asked such a question -/
namespace LW
open PySem PySem.Spec PyProof.Rows L2 KV
theorem pss_never {X : Cx} {rest : List Stmt} : PSs X rest (fun _ _ _ => False) := ⟨fun _ _ _ _ _ _ h => h.elim⟩
def formsQ : PyData := .tuple [.tuple [.str "all", .int 3], .tuple [.str "pair", .int 4], .tuple [.str "left", .int 4], .tuple [.str "where", .int 3], .tuple [.str "show", .int 3], .tuple [.str "both", .int 3], .tuple [.str "once", .int 2]]
/-- the text of a shown column -/
def tColT : TE := fun σ H Q => tJs [tFmt (tVar 2), tC (.str "."), tFmt (tVar 3)] Str.empty σ H fun out H1 => Q (.str out) H1
def spFormA (K : PySem.W.Frag) : Sp := fun vs H Q _ => ∃ (qa : Addr) (w : V) (x y : Str), vs = [.ref qa, w] ∧ SqT K H qa [.str "all", .str x, .str y] ∧ Dp K H w formsQ ∧ ∀ H', Off (fun _ => False) H H' → Q (.bl true) H'
def spByAll (K : PySem.W.Frag) : Sp := fun vs H Q E => ∃ (b : Addr) (x y : Str) (ts : List Tab) (n mc : Nat), vs = [.ref b, .str x, .str y] ∧ BookAt K H b ts ∧ Gd 8 y ∧ isT y = true ∧ (∀ t ∈ ts, TabB n mc t) ∧ n ≤ 1000 ∧ mc ≤ 1000 ∧
  (x ∉ ts.map Prod.fst → Raised K H E "UnknownTable" (.str x)) ∧ (x ∈ ts.map Prod.fst → ∀ v H', Off (fun _ => False) H H' → Q v H')
def spShownA (K : PySem.W.Frag) : Sp := fun vs H Q E => ∃ (b qa : Addr) (x y : Str) (ts : List Tab) (n mc : Nat), vs = [.ref b, .ref qa] ∧ SqT K H qa [.str "all", .str x, .str y] ∧ BookAt K H b ts ∧ Gd 8 y ∧ isT y = true ∧ (∀ t ∈ ts, TabB n mc t) ∧ n ≤ 1000 ∧ mc ≤ 1000 ∧
  (x ∉ ts.map Prod.fst → Raised K H E "UnknownTable" (.str x)) ∧ (x ∈ ts.map Prod.fst → ∀ v H', Off (fun _ => False) H H' → Q v H')
section
variable {P : Program} {w : World} {K : PySem.W.Frag} {mg : Str → Option Value} {base : Heap}
theorem ok_formA {f : Addr} {fd : FuncData} (F : FnP K "has_form" pHasForm f fd) (ml : mg "len" = none) (mb : mg "bool" = none) : FnOk P w K mg base CX0 2 f fd ["thing", "forms"] (spFormA K) := by
  refine F.ok scForm (fun vs H Q E h => ?_) (fun cdv A outer s H vs Q E hr h => ?_)
  · obtain ⟨qa, w, x, y, rfl, _⟩ := h
    rfl
  obtain ⟨qa, w, x, y, rfl, sq, hw, q⟩ := h
  have hu65 : (A.deeper (envOfC "has_form" (defScope pHasForm) s.heap.objs.size f cdv)).units + 65 < cLine := by
    have := hr.un
    omega
  refine ⟨_, pss_one (ps_ret (pe_and (pe_callTy call_boolT rfl mb (by decide +kernel) (pa_cons (pv 0) pa_nil))
    (pe_one (pe_cmpR (op_inD hu65) (pe_tup (pa_cons (pe_ix ix_tup (pv 0) pe_int (fun _ _ => rfl)) (pa_cons (pe_callB call_len_seq rfl ml boot_len (pa_cons (pv 0) pa_nil)) pa_nil))) (pv 1) rfl)))), ?_⟩
  obtain ⟨fa, xs, rfl, sf, df⟩ : ∃ a xs, w = .ref a ∧ SqT K H a xs ∧ DpAll K H xs [.tuple [.str "all", .int 3], .tuple [.str "pair", .int 4], .tuple [.str "left", .int 4], .tuple [.str "where", .int 3], .tuple [.str "show", .int 3], .tuple [.str "both", .int 3], .tuple [.str "once", .int 2]] := by
    cases hw with
    | tup h r => exact ⟨_, _, rfl, h, r⟩
  refine ⟨_, rfl, qa, _, rfl, sq, _, rfl, iteT ?_⟩
  refine ⟨_, rfl, qa, _, 0, _, rfl, rfl, sq, atI_nat (j := 0) rfl, _, rfl, qa, _, rfl, .inr sq, (by show 2 ≤ sizeLine; decide), fun t nt => ?_⟩
  have k1 : Off (fun _ => False) H (upd H t (.tup [.str "all", .int 3])) := Off.new nt
  refine ⟨_, rfl, fa, xs, _, .tuple [.str "all", .int 3], rfl, .inr (sqT_off k1 sf), dpAll_off k1 df, .tup (SqT.of upd_same) (.cons (.str _) (.cons (.int _) .nil)), ?_, by decide +kernel, ?_⟩
  · have all : ∀ e ∈ ([.tuple [.str "all", .int 3], .tuple [.str "pair", .int 4], .tuple [.str "left", .int 4], .tuple [.str "where", .int 3], .tuple [.str "show", .int 3], .tuple [.str "both", .int 3], .tuple [.str "once", .int 2]] : List PyData), SeqAt.shaped e = true := by decide +kernel
    exact all
  · rw [if_neg (by decide), show ([.tuple [.str "all", .int 3], .tuple [.str "pair", .int 4], .tuple [.str "left", .int 4], .tuple [.str "where", .int 3], .tuple [.str "show", .int 3], .tuple [.str "both", .int 3], .tuple [.str "once", .int 2]] : List PyData).any (fun e => e.eqv (.tuple [.str "all", .int 3])) = true from by decide +kernel]
    exact q _ k1
theorem scByAll : FnScope ["book", "table", "short", "column"] ["book", "table", "short"] (defScope pShownByAll) := ⟨rfl, rfl, rfl, by decide +kernel, rfl, by decide +kernel, by decide +kernel⟩
theorem ok_byAll {f fN : Addr} {fd dE dN dI : FuncData} (F : FnP K "shown_by_all" pShownByAll f fd) (T : ErrT P w K mg base dE) (B : BookT K mg) (N : Dn P w K mg base 1 "is_name" ["text"] spIsT fN dN)
    (GI : FnOk P w K mg base (L2.CX P w) 3 (He.ma K (He.ga K "Book") "__getitem__") dI ["self", "name"] (spItem K)) (bI : Binds K dI ["self", "name"] []) : FnOk P w K mg base (L2.CX P w) 5 f fd ["book", "table", "short"] (spByAll K) := by
  have t1 := T.es.ok "InvalidName" (by decide)
  have g1 := T.g "InvalidName" (by decide)
  refine F.ok scByAll (fun vs H Q E h => ?_) (fun cdv A outer s0 H vs Q E hr h => ?_)
  · obtain ⟨b, x, y, ts, n, mc, rfl, _⟩ := h
    rfl
  obtain ⟨b, x, y, ts, n, mc, rfl, ba, gy, iy, tb, hn, hmc, q1, q2⟩ := h
  refine ⟨_, pss_cons (ps_if (pt_not (pt_val (pe_call N.g (hr.mono (by decide)) rfl N.m N.kp N.b .nil pass0 (pa_cons (pv 2) pa_nil)))) (pss_one (ps_raise rfl (takes_of rfl rfl rfl rfl) (pmk_oex t1.oex t1.ini t1.fn T.ini (hr.mono (by decide)) T.b .nil pass0 rfl g1 (pa_cons (pv 2) pa_nil)))) pss_nil)
    (pss_one (ps_ret (pe_lc (own := [("column", 3)]) (g := gName 3) (tt := tYes) (te := tColT) rfl scByAll.nd (pi_list (pe_itemS (C := He.ga K "Book") B.it GI (hr.mono (by decide)) bI (fun σ => passAt (takes_of rfl rfl rfl rfl) σ) (pv 0) (pv 1))) (blkOk_by (own := [("column", 3)]) (N := ["book", "table", "short", "column"]) (sc := defScope pShownByAll) (by decide +kernel))
      (fun _ _ _ _ _ => pg_name (i := 3) scByAll.nd rfl (Or.inl rfl)) (fun _ _ _ _ _ => pts_nil) (fun _ _ _ _ _ => pe_joined (.cons (pe_fmt (pv 2)) (.cons pe_str (.cons (pe_fmt (pv 3)) .nil))))))), ?_⟩
  have no : ¬ False := id
  have big : 2000 ≤ sizeLine := by decide
  refine ⟨_, rfl, y, rfl, gy.1, Nat.le_trans gy.2 (by decide), fun H1 k1 => ⟨_, rfl, ?_⟩⟩
  rw [iy]
  have ba1 := ba.off k1
  obtain ⟨dx, fs, v, h1, h2, h3⟩ := id ba1
  refine iteF ⟨_, rfl, _, rfl, b, dx, fs, rfl, h1, b, x, ts, rfl, ba1, ?_⟩
  cases ht : tabOf ts x with
  | none => exact (q1 fun z => by
      obtain ⟨t, ht', e⟩ := List.mem_map.mp z
      exact tabOf_none ht z).off k1
  | some t =>
    obtain ⟨mt, et⟩ := tabOf_mem ht
    have q2 := q2 (List.mem_map.mpr ⟨t, mt, et⟩)
    have bt := tb t mt
    intro l H2 nl el k2
    refine ⟨l, rfl, ⟨_, SqL.of el⟩, fun D hD => lc_list (K := K) (a := l) (xs := t.2.map V.str) (fun i G => (∃ xs : List V, G D = some (.lst xs) ∧ xs.length ≤ i) ∧ Off (fun _ => False) H2 G) ⟨⟨[], upd_same, Nat.zero_le _⟩, Off.new hD⟩ (fun i G _ g => SqL.of (g.2 _ _ el no)) (fun i z G hz g => ?_) fun G g => ?_⟩
    · obtain ⟨⟨xs, g1, g3⟩, g2⟩ := g
      rw [List.getElem?_map] at hz
      obtain ⟨c, hc, rfl⟩ := Option.map_eq_some_iff.mp hz
      have hi := (List.getElem?_eq_some_iff.mp hc).1
      have gc := (bt.good c (List.mem_of_getElem? hc)).2
      have ly := gy.2
      have lb := bt.most
      have l0 : (Str.empty : Str).length = 0 := rfl
      have l1 : ("." : Str).length = 1 := by decide +kernel
      refine ⟨rfl, _, rfl, .inl ⟨y, rfl, by omega, y, rfl, by rw [Str.length_append]; omega, ?_⟩⟩
      refine ⟨".", rfl, by rw [Str.length_append, Str.length_append]; omega, ?_⟩
      refine ⟨_, rfl, .inl ⟨c, rfl, by omega, c, rfl, by rw [Str.length_append, Str.length_append, Str.length_append]; omega, ?_⟩⟩
      refine ⟨xs, g1, small4000 (by omega), ⟨_, upd_same, by rw [List.length_append]; exact Nat.succ_le_succ g3⟩, fun a o ea na => ?_⟩
      rw [upd_ne (fun z => by rw [z, hD] at ea; cases ea)]
      exact g2 a o ea na
    · exact q2 _ G ((k1.trans k2).trans g.2)
theorem scShown : FnScope ["book", "question", "part_columns", "part", "name", "known", "columns"] ["book", "question"] (defScope pShown) := ⟨rfl, rfl, rfl, by decide +kernel, rfl, by decide +kernel, by decide +kernel⟩
theorem ok_shownA {f fF fA : Addr} {fd dE dF dA dC : FuncData} {QF fC : Addr} (F : FnP K "shown" pShown f fd) (T : ErrT P w K mg base dE) (GF : Dn P w K mg base 2 "has_form" ["thing", "forms"] (spFormA K) fF dF)
    (GC : Dn P w K mg base 6 "copied" ["thing"] (spCopied K 6) fC dC) (GA : FnOk P w K mg base (L2.CX P w) 5 fA dA ["book", "table", "short"] (spByAll K)) (bA : Binds K dA ["book", "table", "short"] []) (mA : mg "shown_by_all" = some (.ref fA)) (kA : PySem.W.keepIn K (.ref fA) = true)
    (mQ : mg "QUESTION_FORMS" = some (.ref QF)) (hQ : ∀ H, Dp K H (.ref QF) formsQ) : FnOk P w K mg base (L2.CX P w) 8 f fd ["book", "question"] (spShownA K) := by
  have t1 := T.es.ok "InvalidQuestion" (by decide)
  have g1 := T.g "InvalidQuestion" (by decide)
  refine F.ok scShown (fun vs H Q E h => ?_) (fun cdv A outer s0 H vs Q E hr h => ?_)
  · obtain ⟨b, qa, x, y, ts, n, mc, rfl, _⟩ := h
    rfl
  obtain ⟨b, qa, x, y, ts, n, mc, rfl, sq, ba, gy, iy, tb, hn, hmc, q1, q2⟩ := h
  refine ⟨_, pss_cons (ps_if (pt_not (pt_val (pe_call GF.g (hr.mono (by decide)) rfl GF.m GF.kp GF.b .nil pass0 (pa_cons (pv 1) (pa_cons (pe_glob (v := .ref QF) rfl mQ rfl) pa_nil)))))
      (pss_one (ps_raise rfl (takes_of rfl rfl rfl rfl) (pmk_oex t1.oex t1.ini t1.fn T.ini (hr.mono (by decide)) T.b .nil pass0 rfl g1 (pa_cons (pe_call GC.g (hr.mono (by decide)) rfl GC.m GC.kp GC.b .nil pass0 (pa_cons (pv 1) pa_nil)) pa_nil)))) pss_nil)
    (pss_cons (ps_if (pt_cmpR op_eq (pe_ix ix_tup (pv 1) pe_int (fun _ _ => rfl)) pe_str (nomark _)) (pss_one (ps_ret (pe_callS GA (hr.mono (by decide)) rfl mA kA bA (fun σ => passAt (takes_of rfl rfl rfl rfl) σ) (pa_cons (pv 0) (pa_cons (pe_ix ix_tup (pv 1) pe_int (fun _ _ => rfl)) (pa_cons (pe_ix ix_tup (pv 1) pe_int (fun _ _ => rfl)) pa_nil)))))) pss_nil)
    pss_never), ?_⟩
  refine ⟨_, rfl, qa, _, x, y, rfl, sq, hQ _, fun H1 k1 => ⟨_, rfl, iteF ?_⟩⟩
  have sq1 := sqT_off k1 sq
  refine ⟨_, rfl, qa, _, 0, _, rfl, rfl, sq1, atI_nat (j := 0) rfl, rfl, _, rfl, ?_⟩
  rw [decide_eq_true (show V.str "all" = V.str "all" from rfl)]
  refine iteT ⟨_, rfl, _, rfl, qa, _, 1, _, rfl, rfl, sq1, atI_nat (j := 1) rfl, _, rfl, qa, _, 2, _, rfl, rfl, sq1, atI_nat (j := 2) rfl, b, x, y, ts, n, mc, rfl, ba.off k1, gy, iy, tb, hn, hmc, fun z => (q1 z).off k1, fun z v H2 k2 => q2 z v H2 (k1.trans k2)⟩
/-- answered, of such a question -/
def spAnsA (K : PySem.W.Frag) : Sp := fun vs H Q E => ∃ (b d l qa : Addr) (L : Str → Addr) (ts : List Tab) (R : Str → List Row) (S : List Stp) (x y : Str) (n mc : Nat), vs = [.ref b, .ref d, .ref qa] ∧ SqT K H qa [.str "all", .str x, .str y] ∧ BookAt K H b ts ∧ Gd 8 y ∧ isT y = true ∧ (∀ t ∈ ts, TabB n mc t) ∧ n ≤ 1000 ∧ mc ≤ 1000 ∧
  StoA H d l L ts R S ∧ x ∈ ts.map Prod.fst ∧ ∀ t u D vs H', H D = none → H' D = some (.lst vs) → OwAll H' vs ((R x).map rowD) Fp0 → SqT K H' t [u, .ref D] → Off (fun _ => False) H H' → Q (.ref t) H'
theorem scAns : FnScope ["book", "tables", "question", "parts", "part", "columns"] ["book", "tables", "question"] (defScope pAnswered) := ⟨rfl, rfl, rfl, by decide +kernel, rfl, by decide +kernel, by decide +kernel⟩
theorem ok_ansA {f fS : Addr} {fd dS : FuncData} (F : FnP K "answered" pAnswered f fd) (GS : FnOk P w K mg base (L2.CX P w) 8 fS dS ["book", "question"] (spShownA K)) (bS : Binds K dS ["book", "question"] []) (mS : mg "shown" = some (.ref fS)) (kS : PySem.W.keepIn K (.ref fS) = true)
    (mL : mg "list" = none) : FnOk P w K mg base (L2.CX P w) 9 f fd ["book", "tables", "question"] (spAnsA K) := by
  refine F.ok scAns (fun vs H Q E h => ?_) (fun cdv A outer s0 H vs Q E hr h => ?_)
  · obtain ⟨b, d, l, qa, L, ts, R, S, x, y, n, mc, rfl, _⟩ := h
    rfl
  obtain ⟨b, d, l, qa, L, ts, R, S, x, y, n, mc, rfl, sq, ba, gy, iy, tb, hn, hmc, sto, hx, q⟩ := h
  have hu1 := Nat.lt_of_le_of_lt (Nat.add_le_add_left (show 1 ≤ 64 by decide) _) hr.units
  refine ⟨_, pss_cons (ps_if (pt_cmpR op_eq (pe_ix ix_tup (pv 2) pe_int (fun _ _ => rfl)) pe_str (nomark _)) (pss_one (ps_ret (pe_tup (pa_cons (pe_callS GS (hr.mono (by decide)) rfl mS kS bS (fun σ => passAt (takes_of rfl rfl rfl rfl) σ) (pa_cons (pv 0) (pa_cons (pv 2) pa_nil)))
      (pa_cons (pe_callTy call_list_of rfl mL boot_list (pa_cons (pe_dget hu1 (pv 1) (pe_ix ix_tup (pv 2) pe_int (fun _ _ => rfl)) (fun _ _ => rfl)) pa_nil)) pa_nil))))) pss_nil)
    pss_never, ?_⟩
  have no : ¬ False := id
  refine ⟨_, rfl, qa, _, 0, _, rfl, rfl, sq, atI_nat (j := 0) rfl, rfl, _, rfl, ?_⟩
  rw [decide_eq_true (show V.str "all" = V.str "all" from rfl)]
  refine iteT ⟨_, rfl, _, rfl, b, qa, x, y, ts, n, mc, rfl, sq, ba, gy, iy, tb, hn, hmc, fun z => (z hx).elim, fun _ u H1 k1 => ?_⟩
  obtain ⟨t, ht, rfl⟩ := List.mem_map.mp hx
  have sto1 := sto.off k1
  obtain ⟨vs, ev, ov⟩ := sto1.rows t ht
  have dg := DGet.k (k := .inr t.1) sto1.dic
  rw [valV_dkv, if_pos hx] at dg
  refine ⟨_, rfl, _, rfl, qa, _, 1, _, rfl, rfl, sqT_off k1 sq, atI_nat (j := 1) rfl, d, _, rfl, dg, L t.1, vs, rfl, .inl (SqL.of ev), fun D hD => ?_⟩
  have k2 : Off (fun _ => False) H1 (upd H1 D (.lst vs)) := Off.new hD
  have e2 := upd_same (H := H1) (a := D) (o := .lst vs)
  have ov2 := ov.keep k2 (fun _ z => z.elim) fun _ z => z.elim
  generalize upd H1 D (.lst vs) = H2 at k2 e2 ov2 ⊢
  refine ⟨by show 2 ≤ sizeLine; decide, fun tp ntp => ?_⟩
  have k3 : Off (fun _ => False) H2 (upd H2 tp (.tup [u, .ref D])) := Off.new ntp
  exact q tp u D vs _ (k1.none hD no) (k3 _ _ e2 no) (ov2.keep k3 (fun _ z => z.elim) fun _ z => z.elim) (SqT.of upd_same) ((k1.trans k2).trans k3)
def spStCall (K : PySem.W.Frag) : Sp := fun vs H Q E => ∃ (s b d l qa : Addr) (L : Str → Addr) (ts : List Tab) (R : Str → List Row) (S : List Stp) (x y : Str) (n mc : Nat), vs = [.ref s, .ref qa] ∧ SqT K H qa [.str "all", .str x, .str y] ∧ StAt K H s b d l L ts R S ∧ BookAt K H b ts ∧ Gd 8 y ∧ isT y = true ∧ (∀ t ∈ ts, TabB n mc t) ∧ n ≤ 1000 ∧ mc ≤ 1000 ∧ endRows K H ts R x Q E
theorem scStCall : FnScope ["self", "question", "_", "rows"] ["self", "question"] (defScope pStore_call) := ⟨rfl, rfl, rfl, by decide +kernel, rfl, by decide +kernel, by decide +kernel⟩
theorem ok_stCall {f fS fA : Addr} {fd dS dA : FuncData} (F : FunD K "__call__" "Store.__call__" (defArgs pStore_call) (defBody pStore_call) (defScope pStore_call) [] [] f fd) (ST : StoreT K mg) (GS : FnOk P w K mg base (L2.CX P w) 8 fS dS ["book", "question"] (spShownA K)) (bS : Binds K dS ["book", "question"] []) (mS : mg "shown" = some (.ref fS)) (kS : PySem.W.keepIn K (.ref fS) = true)
    (GA : FnOk P w K mg base (L2.CX P w) 9 fA dA ["book", "tables", "question"] (spAnsA K)) (bA : Binds K dA ["book", "tables", "question"] []) (mA : mg "answered" = some (.ref fA)) (kA : PySem.W.keepIn K (.ref fA) = true) : FnOk P w K mg base (L2.CX P w) 10 f fd ["self", "question"] (spStCall K) := by
  refine F.ok scStCall (fun vs H Q E h => ?_) (fun cdv A outer s0 H vs Q E hr h => ?_)
  · obtain ⟨s, b, d, l, qa, L, ts, R, S, x, y, n, mc, rfl, _⟩ := h
    rfl
  obtain ⟨s, b, d, l, qa, L, ts, R, S, x, y, n, mc, rfl, sq, st, ba, gy, iy, tb, hn, hmc, q1, q2⟩ := h
  refine ⟨_, pss_cons (ps_expr (pe_callS GS (hr.mono (by decide)) rfl mS kS bS (fun σ => passAt (takes_of rfl rfl rfl rfl) σ) (pa_cons (pe_fld (pv 0) rfl) (pa_cons (pv 1) pa_nil))))
    (pss_cons (ps_asg (pe_callS GA (hr.mono (by decide)) rfl mA kA bA (fun σ => passAt (takes_of rfl rfl rfl rfl) σ) (pa_cons (pe_fld (pv 0) rfl) (pa_cons (pe_fld (pv 0) rfl) (pa_cons (pv 1) pa_nil)))) (pg_tup rfl (pgs_cons (pg_name (i := 2) scStCall.nd rfl (Or.inl rfl)) (pgs_cons (pg_name (i := 3) scStCall.nd rfl (Or.inl rfl)) pgs_nil))))
    (pss_one (ps_ret (pv 3)))), ?_⟩
  have no : ¬ False := id
  obtain ⟨dx, es⟩ := st.ins
  refine ⟨_, rfl, s, _, dx, _, .ref b, rfl, es, ST.cl, ST.n1, lookup_book, _, rfl, b, qa, x, y, ts, n, mc, rfl, sq, ba, gy, iy, tb, hn, hmc, q2, fun hx u H1 k1 => ?_⟩
  have es1 := k1 _ _ es no
  refine ⟨_, rfl, s, _, dx, _, .ref b, rfl, es1, ST.cl, ST.n1, lookup_book, _, rfl, s, _, dx, _, .ref d, rfl, es1, ST.cl, ST.n2, lookup_rows, _, rfl, b, d, l, qa, L, ts, R, S, x, y, n, mc, rfl, sqT_off k1 sq, ba.off k1, gy, iy, tb, hn, hmc, st.sto.off k1, hx, fun t u D vs H2 nD eD oD sT k2 => ?_⟩
  refine ⟨t, [u, .ref D], rfl, sT, rfl, u, [.ref D], rfl, .ref D, [], rfl, rfl, _, rfl, ?_⟩
  exact q1 hx D vs H2 (k1.none nD no) eD oD (k1.trans k2)
end
end LW
set_option Elab.async false
set_option linter.all false
set_option maxRecDepth 100000
set_option maxHeartbeats 0
/-! the law's side of stores: _law_worth -/
namespace LW
open PySem PySem.Spec PyProof.Rows L2 KV
def spWorth : Sp := fun vs H Q _ => ∃ (p : Addr) (c : Nat), vs = [.ref p] ∧ Pu H p c ∧ c + 10 ≤ 1000000000 ∧ ∀ w H' c', Wok w → Pu H' p c' → c' ≤ c + 2 → Off (fun a => a = p) H H' → Q (wV w) H'
section
variable {P : Program} {w : World} {K : PySem.W.Frag} {mg : Str → Option Value} {base : Heap}
theorem scWorth : FnScope ["purse", "way"] ["purse"] (defScope sWorth) := ⟨rfl, rfl, rfl, by decide +kernel, rfl, by decide +kernel, by decide +kernel⟩
theorem ok_worth {f fC : Addr} {fd dC : FuncData} (F : FnP K "_law_worth" sWorth f fd) (C : Dn P w K mg base 1 "_law_coin" ["purse", "many"] spCoin fC dC) : FnOk P w K mg base CX0 2 f fd ["purse"] spWorth := by
  refine F.ok scWorth (fun vs H Q E h => ?_) (fun cdv A outer s H vs Q E hr h => ?_)
  · obtain ⟨p, c, rfl, _⟩ := h
    rfl
  obtain ⟨p, c, rfl, hp, hc, q⟩ := h
  refine ⟨_, pss_cons (ps_set (i := 1) scWorth.nd rfl (Or.inl rfl) (pe_call C.g hr rfl C.m C.kp C.b .nil pass0 (pa_cons (pv 0) (pa_cons pe_int pa_nil))))
    (pss_cons (ps_if (pt_cmpR op_lt (pv 1) pe_int (nomark _)) (pss_one (ps_ret pe_non)) pss_nil)
    (pss_one (ps_ret (pe_ifExp (pt_cmpR op_eq (pv 1) pe_int (nomark _)) (pe_op op_sub (pe_call C.g hr rfl C.m C.kp C.b .nil pass0 (pa_cons (pv 0) (pa_cons pe_int pa_nil))) pe_int) (pe_op op_sub (pv 1) pe_int))))), ?_⟩
  refine ⟨_, rfl, p, 9, c, rfl, hp, by omega, by decide, by decide, fun way H1 w0 w9 hp1 b1 => ?_⟩
  refine ⟨_, rfl, _, _, rfl, rfl, _, rfl, ite2 (fun c1 => q none H1 (c + 1) trivial hp1 (by omega) b1.off) (fun c1 => ?_)⟩
  have w2 : ¬ way < 2 := fun z => c1 (decide_eq_true z)
  refine ⟨_, rfl, rfl, _, rfl, ite2 (fun c2 => ?_) (fun c2 => ?_)⟩
  · refine ⟨_, rfl, p, 1999, c + 1, rfl, hp1, by omega, by decide, by decide, fun i H2 i0 i1 hp2 b2 => ⟨_, _, rfl, rfl, ?_⟩⟩
    exact q (some (i - 999)) H2 (c + 2) ⟨by omega, by omega⟩ hp2 (by omega) (b1.off.trans b2.off)
  · exact ⟨_, rfl, _, _, rfl, rfl, q (some (way - 4)) H1 (c + 1) ⟨by omega, by omega⟩ hp1 (by omega) b1.off⟩
end
end LW
set_option Elab.async false
set_option linter.all false
set_option maxRecDepth 100000
set_option maxHeartbeats 4000000
/-! dict(zip(xs, ys)), xs a list, ys a tuple. -/
namespace KV
open PySem PySem.Spec PyProof.Rows L2
section
variable {prog : Program} {w : World} {A : Around} {E : Value → Shared → Prop} {s : Shared} {z TI TO T i1 i2 : Addr} {fp1 fp2 : List Addr} {n1 n2 i : Nat} {P1 P2 : Nat → Value → Prop} {St1 St2 : Nat → Heap → Prop} {f : Bool} {oT : Obj}
/-- the next pair while the tuple given out before is still there -/
theorem held_item {Q : Option Value → Shared → Prop} (S : ZipSep2 z TI TO i1 i2 fp1 fp2) (D1 : Draws prog w A.in1 i1 fp1 n1 P1 St1) (D2 : Draws prog w A.in1 i2 fp2 n2 P2 St2)
    (hz : IsZipHeld s.heap z TI TO T f) (hT : s.heap.get? T = some oT) (hTI : IsPair s.heap TI (.ref i1) (.ref i2)) (st1 : St1 i s.heap) (st2 : St2 i s.heap) (b1 : i < n1) (b2 : i < n2)
    (hQ : ∀ x y h' tk, P1 i x → P2 i y → IsZipHeld h' z TI TO T true → St1 (i + 1) h' → St2 (i + 1) h' → IsPair h' s.heap.objs.size x y → (∀ c o, c ≠ z → c ≠ i1 → c ≠ i2 → s.heap.get? c = some o → h'.get? c = some o) → Q (some (.ref s.heap.objs.size)) { s with heap := h', toks := tk }) :
    wpAny (model prog w) A (pyNext (.ref z)) Q E s := by
  obtain ⟨hp, gs, dr, tk0, os⟩ := s
  have ty : (⟨hp, gs, dr, tk0, os⟩ : Shared).TypeIs (.ref z) "zip" := ⟨_, hz, rfl⟩
  unfold pyNext
  refine wpAny_bind (wpAny_attempt (wpAny_callSpecial?_slot (name := Str.ofString "__next__") ty PySem.F.slot_zip_next (wpAny_call_entry PySem.F.slot_zip_next ty PySem.F.entry_zip_next ?_ (PySem.F.args_zip_next_1 _))))
  show wpAny _ _ (field (.ref z) 2 >>= _) _ _ _
  apply wpAny_bind
  refine wpAny_field hz rfl (x := .bool false) rfl ?_
  show wpAny _ _ (field (.ref z) 3 >>= _) _ _ _
  apply wpAny_bind
  refine wpAny_field hz rfl (x := .ref TI) rfl ?_
  apply wpAny_bind
  refine wpAny_seqItems hTI rfl ?_
  show wpAny _ _ (Builtin.SmallTypes.ownedTupleIsFree (.ref z) >>= _) _ _ _
  apply wpAny_bind
  refine wpAny_tupleHeld_zip hz hT fun ha za ka => ?_
  simp only [Bool.false_eq_true, if_false]
  apply wpAny_bind
  rw [← Array.forIn_toList]
  simp only [List.forIn_cons, List.forIn_nil]
  apply wpAny_bind
  apply wpAny_bind
  apply wpAny_holding
  show wpAny _ _ (Builtin.SmallTypes.nextOf (.ref i1) >>= _) _ _ _
  apply wpAny_bind
  refine D1.item i _ _ _ b1 (D1.over st1 ka S.zf1) fun x hb tkb px sb kb => ?_
  apply wpAny_pure
  apply wpAny_pure
  apply wpAny_bind
  apply wpAny_bind
  apply wpAny_holding
  show wpAny _ _ (Builtin.SmallTypes.nextOf (.ref i2) >>= _) _ _ _
  apply wpAny_bind
  refine D2.item i _ _ _ b2 (D2.over (D2.over st2 ka S.zf2) kb S.sep1_2) fun y hc tkc py sc kc => ?_
  apply wpAny_pure
  apply wpAny_pure
  apply wpAny_pure
  show wpAny _ _ (newTuple [x, y] >>= _) _ _ _
  apply wpAny_bind
  refine wpAny_newTuple ?_
  have sz : hc.objs.size = hp.objs.size := by rw [kc.1, kb.1, ka.1]
  have far : ∀ c o, c ≠ z → c ≠ i1 → c ≠ i2 → hp.get? c = some o → hc.get? c = some o := fun c o c1 c2 c3 e => kc.extBut _ _ c3 (kb.extBut _ _ c2 (ka.extBut _ _ c1 e))
  have pushed : ∀ {c : Addr} {o : Obj}, hc.get? c = some o → (hc.push { cls := .type "tuple", data := .seq #[x, y] }).get? c = some o := fun e => Heap.get?_push_of_some _ e
  refine wpAny_pure ⟨_, rfl, ?_⟩
  show wpAny _ _ _ _ _ _
  apply wpAny_pure
  have pr : IsPair (hc.push { cls := .type "tuple", data := .seq #[x, y] }) hc.objs.size x y := Heap.get?_push_size _ rfl
  rw [sz] at pr
  rw [show Value.ref hc.objs.size = Value.ref hp.objs.size by rw [sz]]
  exact hQ x y _ tkc px py (pushed (kc.extBut _ _ S.zi2 (kb.extBut _ _ S.zi1 za))) (D1.frame _ _ _ (D1.over sb kc S.sep2_1) fun _ _ _ e => pushed e) (D2.frame _ _ _ sc fun _ _ _ e => pushed e) pr fun c o c1 c2 c3 e => pushed (far c o c1 c2 c3 e)
theorem held_end {Q : Option Value → Shared → Prop} (S : ZipSep2 z TI TO i1 i2 fp1 fp2) (D1 : Draws prog w A.in1 i1 fp1 n1 P1 St1) (D2 : Draws prog w A.in1 i2 fp2 n2 P2 St2)
    (hz : IsZipHeld s.heap z TI TO T f) (hT : s.heap.get? T = some oT) (hTI : IsPair s.heap TI (.ref i1) (.ref i2)) (st1 : St1 i s.heap) (st2 : St2 i s.heap) (b1 : i ≤ n1) (e : i = n1 ∨ (i < n1 ∧ i = n2))
    (hQ : ∀ h' tk, (∀ c o, c ≠ z → c ≠ i1 → c ≠ i2 → s.heap.get? c = some o → h'.get? c = some o) → Q none { s with heap := h', toks := tk }) :
    wpAny (model prog w) A (pyNext (.ref z)) Q E s := by
  obtain ⟨hp, gs, dr, tk0, os⟩ := s
  have ty : (⟨hp, gs, dr, tk0, os⟩ : Shared).TypeIs (.ref z) "zip" := ⟨_, hz, rfl⟩
  unfold pyNext
  refine wpAny_bind (wpAny_attempt (wpAny_callSpecial?_slot (name := Str.ofString "__next__") ty PySem.F.slot_zip_next (wpAny_call_entry PySem.F.slot_zip_next ty PySem.F.entry_zip_next ?_ (PySem.F.args_zip_next_1 _))))
  show wpAny _ _ (field (.ref z) 2 >>= _) _ _ _
  apply wpAny_bind
  refine wpAny_field hz rfl (x := .bool false) rfl ?_
  show wpAny _ _ (field (.ref z) 3 >>= _) _ _ _
  apply wpAny_bind
  refine wpAny_field hz rfl (x := .ref TI) rfl ?_
  apply wpAny_bind
  refine wpAny_seqItems hTI rfl ?_
  show wpAny _ _ (Builtin.SmallTypes.ownedTupleIsFree (.ref z) >>= _) _ _ _
  apply wpAny_bind
  refine wpAny_tupleHeld_zip hz hT fun ha za ka => ?_
  simp only [Bool.false_eq_true, if_false]
  apply wpAny_bind
  rw [← Array.forIn_toList]
  simp only [List.forIn_cons, List.forIn_nil]
  apply wpAny_bind
  apply wpAny_bind
  apply wpAny_holding
  show wpAny _ _ (Builtin.SmallTypes.nextOf (.ref i1) >>= _) _ _ _
  apply wpAny_bind
  rcases e with rfl | ⟨lt, rfl⟩
  · refine D1.done _ _ _ (D1.over st1 ka S.zf1) fun h' x k hx => ?_
    obtain ⟨o, ho, hc⟩ := hx
    apply wpAny_bind
    refine wpAny_isInstance (T := "StopIteration") (b := true) ⟨o, ho, hc⟩ isSubtype_stop ?_
    exact wpAny_pure (hQ h' _ fun c o c1 c2 c3 e => k _ _ c2 (ka.extBut _ _ c1 e))
  · refine D1.item i _ _ _ lt (D1.over st1 ka S.zf1) fun x hb tkb px sb kb => ?_
    apply wpAny_pure
    apply wpAny_pure
    apply wpAny_bind
    apply wpAny_bind
    apply wpAny_holding
    show wpAny _ _ (Builtin.SmallTypes.nextOf (.ref i2) >>= _) _ _ _
    apply wpAny_bind
    refine D2.done _ _ _ (D2.over (D2.over st2 ka S.zf2) kb S.sep1_2) fun h' y k hy => ?_
    obtain ⟨o, ho, hc⟩ := hy
    apply wpAny_bind
    refine wpAny_isInstance (T := "StopIteration") (b := true) ⟨o, ho, hc⟩ isSubtype_stop ?_
    exact wpAny_pure (hQ h' _ fun c o c1 c2 c3 e => k _ _ c3 (kb.extBut _ _ c2 (ka.extBut _ _ c1 e)))
/-- zip over two iterators of any kind, as the argument of dict -/
theorem zip_arg (S : ZipSep2 z TI TO i1 i2 fp1 fp2) (D1 : ∀ A : Around, A.handled = none → Draws prog w A i1 fp1 n1 P1 St1) (D2 : ∀ A : Around, A.handled = none → Draws prog w A i2 fp2 n2 P2 St2) (t1 : ∀ h, St1 0 h → ∀ b ∈ fp1, ∃ o, h.get? b = some o) (t2 : ∀ h, St2 0 h → ∀ b ∈ fp2, ∃ o, h.get? b = some o) :
    PairArg prog w "zip" z (z :: TI :: TO :: (fp1 ++ fp2)) [z, TO, i1, i2] (min n1 n2) (fun i k v => P1 i k ∧ P2 i v)
      (fun h => IsZip h z TI TO .none ∧ IsPair h TI (.ref i1) (.ref i2) ∧ (∃ a b, IsPair h TO a b) ∧ St1 0 h ∧ St2 0 h) where
  type := fun s ok => ⟨_, ok.1, rfl⟩
  notDict := by decide
  keep := fun h h' ok hk => by
    obtain ⟨hz, hTI, ⟨a, b, hTO⟩, u1, u2⟩ := ok
    exact ⟨hk _ _ hz, hk _ _ hTI, ⟨a, b, hk _ _ hTO⟩, (D1 { handled := none } rfl).frame _ _ _ u1 fun c _ o e => hk c o e, (D2 { handled := none } rfl).frame _ _ _ u2 fun c _ o e => hk c o e⟩
  there := fun h ok b hb => by
    obtain ⟨hz, hTI, ⟨a, c, hTO⟩, u1, u2⟩ := ok
    rcases List.mem_cons.mp hb with rfl | hb
    · exact ⟨_, hz⟩
    rcases List.mem_cons.mp hb with rfl | hb
    · exact ⟨_, hTI⟩
    rcases List.mem_cons.mp hb with rfl | hb
    · exact ⟨_, hTO⟩
    rcases List.mem_append.mp hb with hb | hb
    · exact t1 h u1 b hb
    · exact t2 h u2 b hb
  sub := fun b hb => by
    have hb' : b = z ∨ b = TO ∨ b = i1 ∨ b = i2 := by simpa using hb
    rcases hb' with rfl | rfl | rfl | rfl
    · simp
    · simp
    · simp [S.mem1]
    · simp [S.mem2]
  noKeys := fun A s Q E hA ok h => getAttrOr_miss_zip ok.1 rfl rfl rfl zip_no_keys (by decide +kernel) hA h
  iter := fun A s d Q E hA ok hd hdf h => by
    obtain ⟨hz, hTI, ⟨a, b, hTO⟩, u1, u2⟩ := ok
    have off : ∀ {c : Addr}, c ∈ z :: TI :: TO :: (fp1 ++ fp2) → c ≠ d := fun hc e => hdf (e ▸ hc)
    have oz : z ≠ d := off (by simp)
    have oTI : TI ≠ d := off (by simp)
    have oTO : TO ≠ d := off (by simp)
    have o1 : ∀ c ∈ fp1, c ≠ d := fun c hc => off (by simp [hc])
    have o2 : ∀ c ∈ fp2, c ≠ d := fun c hc => off (by simp [hc])
    have DA1 := D1 A.in1 (by simpa using hA)
    have DA2 := D2 A.in1 (by simpa using hA)
    refine wpAny_pyIter_zip hz (h z [z, TO, i1, i2] (fun i g => IsPair g TI (.ref i1) (.ref i2) ∧ St1 i g ∧ St2 i g ∧ ((IsZip g z TI TO .none ∧ ∃ a b, IsPair g TO a b) ∨ ∃ T f oT, IsZipHeld g z TI TO T f ∧ g.get? T = some oT ∧ T ≠ z ∧ T ≠ i1 ∧ T ≠ i2 ∧ T ≠ d)) s.heap s.toks ?src
      ⟨hTI, u1, u2, .inl ⟨hz, a, b, hTO⟩⟩ (fun _ _ e => e) fun b hb => .inl hb)
    have nz1 := S.zi1
    have nz2 := S.zi2
    have nT1 := S.Ti1
    have nT2 := S.Ti2
    exact {
      off := fun hm => by
        have hm' : d = z ∨ d = TO ∨ d = i1 ∨ d = i2 := by simpa using hm
        rcases hm' with e | e | e | e
        · exact oz e.symm
        · exact oTO e.symm
        · exact o1 i1 S.mem1 e.symm
        · exact o2 i2 S.mem2 e.symm
      frame := fun i g g' st hk => by
        obtain ⟨x1, x2, x3, x4⟩ := st
        refine ⟨hk _ _ oTI x1, DA1.frame _ _ _ x2 fun c hc o e => hk c o (o1 c hc) e, DA2.frame _ _ _ x3 fun c hc o e => hk c o (o2 c hc) e, ?_⟩
        rcases x4 with ⟨y1, a, b, y2⟩ | ⟨T, f, oT, y1, y2, r1, r2, r3, r4⟩
        · exact .inl ⟨hk _ _ oz y1, a, b, hk _ _ oTO y2⟩
        · exact .inr ⟨T, f, oT, hk _ _ oz y1, hk _ _ r4 y2, r1, r2, r3, r4⟩
      item := fun i s1 Q1 E1 hi st hds hQ => by
        obtain ⟨x1, x2, x3, x4⟩ := st
        have l1 : i < n1 := by omega
        have l2 : i < n2 := by omega
        have new : ∀ {c o}, s1.heap.get? c = some o → s1.heap.objs.size ≠ c := fun e => Nat.ne_of_gt (Heap.lt_size e)
        have m1 : s1.heap.objs.size ≠ i1 := let ⟨_, e⟩ := DA1.live _ _ x2; new e
        have m2 : s1.heap.objs.size ≠ i2 := let ⟨_, e⟩ := DA2.live _ _ x3; new e
        rcases x4 with ⟨y1, a, b, y2⟩ | ⟨T, f, oT, y1, y2, r1, r2, r3, r4⟩
        · refine wpAny_pyNext_zipD2_item S DA1 DA2 y1 x1 y2 x2 x3 l1 l2 fun u v g tk p1 p2 q1 q2 q3 q4 q5 q6 hk => ?_
          refine hQ s1.heap.objs.size u v g tk ⟨p1, p2⟩ (.inl ⟨_, q5, rfl, _, rfl⟩) ⟨hk _ _ S.TIz S.TITO S.TIi1 S.TIi2 x1, q3, q4, .inr ⟨s1.heap.objs.size, false, _, q1, q5, new y1, m1, m2, Nat.ne_of_gt hds⟩⟩ fun c o hc e => ?_
          have hc' : c ≠ z ∧ c ≠ TO ∧ c ≠ i1 ∧ c ≠ i2 := by simpa using hc
          exact hk c o hc'.1 hc'.2.1 hc'.2.2.1 hc'.2.2.2 e
        · refine held_item S DA1 DA2 y1 y2 x1 x2 x3 l1 l2 fun u v g tk p1 p2 q1 q3 q4 q5 hk => ?_
          refine hQ s1.heap.objs.size u v g tk ⟨p1, p2⟩ (.inl ⟨_, q5, rfl, _, rfl⟩) ⟨hk _ _ S.TIz S.TIi1 S.TIi2 x1, q3, q4, .inr ⟨T, true, oT, q1, hk _ _ r1 r2 r3 y2, r1, r2, r3, r4⟩⟩ fun c o hc e => ?_
          have hc' : c ≠ z ∧ c ≠ TO ∧ c ≠ i1 ∧ c ≠ i2 := by simpa using hc
          exact hk c o hc'.1 hc'.2.2.1 hc'.2.2.2 e
      done := fun s1 Q1 E1 st hQ => by
        obtain ⟨x1, x2, x3, x4⟩ := st
        have fin : ∀ (g : Heap) (tk : Nat), (∀ c o, c ≠ z → c ≠ TO → c ≠ i1 → c ≠ i2 → s1.heap.get? c = some o → g.get? c = some o) → Q1 none { s1 with heap := g, toks := tk } := fun g tk hk => hQ g tk fun c o hc e => by
          have hc' : c ≠ z ∧ c ≠ TO ∧ c ≠ i1 ∧ c ≠ i2 := by simpa using hc
          exact hk c o hc'.1 hc'.2.1 hc'.2.2.1 hc'.2.2.2 e
        rcases x4 with ⟨y1, a, b, y2⟩ | ⟨T, f, oT, y1, y2, r1, r2, r3, r4⟩
        · exact wpAny_pyNext_zipD2_end S DA1 DA2 y1 x1 y2 x2 x3 (by omega) (by omega) (by omega) fin
        · exact held_end S DA1 DA2 y1 y2 x1 x2 x3 (by omega) (by omega) fun g tk hk => fin g tk fun c o c1 _ c3 c4 e => hk c o c1 c3 c4 e }
end
/-- keys and values side by side -/
def zipK (ks : List Str) (ws : List V) : List (Key × V) := (ks.zip ws).map fun p => (.inr p.1, p.2)
theorem zip_rel {ks : List Str} {ws : List V} {us : List Value} (r : Vals ws us) (l : ks.length = ws.length) : L2.KV (zipK ks ws) ((ks.zip us).map fun p => ((.inr p.1 : Key), p.2)) := by
  induction r generalizing ks with
  | nil =>
    have : ks = [] := List.length_eq_zero_iff.mp (by simpa using l)
    subst this
    exact .nil
  | cons h _ ih =>
    cases ks with
    | nil => simp at l
    | cons k ks => exact .cons ⟨rfl, h⟩ (ih (by simpa using l))
def tDictZip (K : PySem.W.Frag) (ta : TA) : TE := fun σ H Q => ta σ H fun vs H1 => ∃ (a b : Addr) (ks : List Str) (ws : List V), vs = [.ref a, .ref b] ∧ SqL K H1 a (ks.map V.str) ∧ SqT K H1 b ws ∧ ks.length = ws.length ∧ ks.length ≤ 4000 ∧
  ∀ p, H1 p = none → Q (.ref p) (upd H1 p (.dK (mergeK [] (zipK ks ws))))
section
variable {X : Cx} {e1 e2 : Expr} {ta : TA} {p p2 q pos : Pos}
theorem pe_dictZip (hc : X.calm = true) (hg : Gl X "dict") (hm : X.mg "dict" = none) (hg2 : Gl X "zip") (hm2 : X.mg "zip" = none) (ha : PA X [e1, e2] ta)
    (hs : starEach [e1, e2] X.env = (false, eval e1 X.env) :: starEach [e2] X.env := by rfl) (hpl : (backTo q (starEach [e2] X.env)).any (·.1) = false := by rfl)
    (na : starEach [.Call (.Name "zip" p2) [e1, e2] [] q] X.env = (false, eval (.Call (.Name "zip" p2) [e1, e2] [] q) X.env) :: starEach [] X.env := by rfl) :
    PE X (.Call (.Name "dict" p) [.Call (.Name "zip" p2) [e1, e2] [] q] [] pos) (tDictZip X.K ta) := by
  refine ⟨fun pins s σ H Q I h => ?_⟩
  refine Call_ (ld_blt I hg hm PyProof.Rows.boot_dict ?_)
  refine PyProof.Rows.callWith_type1 (PyProof.Rows.args_cons ?_ na) na rfl
  refine Call_ (ld_blt I hg2 hm2 PyProof.Rows.boot_zip (PyProof.Rows.callWith_type1 (thn (ha.run q pins s σ H _ I h) fun us s1 ⟨vs, H1, I1, r1, q1⟩ => ?_) hs hpl))
  obtain ⟨a, b, ks, ws, rfl, sa, sb, ll, lm, q1⟩ := q1
  obtain ⟨u1, u2, rfl, ra, rb⟩ := vals2 r1
  cases ra
  cases rb
  obtain ⟨its, rv, pl, _⟩ := I1.list sa
  obtain ⟨its2, rv2, pl2, _⟩ := I1.tuple sb
  have la : a < s1.heap.objs.size := pl.isList.choose_spec.1 |> Heap.lt_size
  have lb : b < s1.heap.objs.size := by
    obtain ⟨o, ho, _⟩ := pl2
    exact Heap.lt_size ho
  have n1 : its.length = ks.length := by rw [← rv.length, List.length_map]
  have n2 : its2.length = ks.length := by rw [← rv2.length, ll]
  refine zip_begins2 (begins_list a its.toArray) (begins_tuple b its2.toArray) pl.isList (pl2.choose_spec |> fun z => ⟨_, z.1, z.2.1, z.2.2⟩) fun h' hz hTI hTO g1 g2 hsz hk => ?_
  refine PyProof.Rows.args_nil ?_
  have S := zip_sep2 (N := s1.heap.objs.size) (fp1 := [a]) (fp2 := [b]) (fun c hc => by rw [List.mem_singleton.mp hc]; exact la) (fun c hc => by rw [List.mem_singleton.mp hc]; exact lb)
  have lists : h'.IsList a its.toArray := pl.isList.at fun o e => hk _ o e
  have tups : h'.IsTuple b its2.toArray := by
    obtain ⟨o, z1, z2, n, z3⟩ := pl2
    exact ⟨_, hk _ _ z1, z2, n, z3⟩
  have PA := zip_arg (prog := X.prog) (w := X.w) S (fun A hA => Draws.list hA s1.heap.objs.size a (Nat.ne_of_lt la) its.toArray) (fun A hA => Draws.tuple hA (s1.heap.objs.size + 1) b (Nat.ne_of_lt (Nat.lt_succ_of_lt lb)) its2.toArray)
    (fun g st c hc => by
      rcases List.mem_cons.mp hc with rfl | hc
      · obtain ⟨o, e, _⟩ := st.1
        exact ⟨o, e⟩
      · rw [List.mem_singleton.mp hc]
        obtain ⟨o, e, _⟩ := st.2
        exact ⟨o, e⟩)
    (fun g st c hc => by
      rcases List.mem_cons.mp hc with rfl | hc
      · obtain ⟨o, e, _⟩ := st.1
        exact ⟨o, e⟩
      · rw [List.mem_singleton.mp hc]
        obtain ⟨o, e, _⟩ := st.2
        exact ⟨o, e⟩)
  have zl : ((ks.zip its2).map fun p => ((.inr p.1 : Key), p.2)).length = min its.toArray.size its2.toArray.size := by
    rw [List.length_map, List.length_zip, List.size_toArray, List.size_toArray, n1]
  have rel := zip_rel (us := its2) rv2 ll
  refine PySem.call_dict_pairs (knd := mixKind X.prog X.w) (kvs := (ks.zip its2).map fun p => ((.inr p.1 : Key), p.2)) PA (I1.ok.hd hc) ⟨hz, hTI, ⟨_, _, hTO⟩, ⟨⟨_, g1, rfl, rfl⟩, lists⟩, ⟨_, g2, rfl, rfl⟩, tups⟩ ⟨zl, fun i key v r => ?_⟩ ?_ fun h2 tk hd hk2 => ?_
  · obtain ⟨r1, r2⟩ := r
    have r1 : its[i]? = some key := by simpa using r1
    have r2 : its2[i]? = some v := by simpa using r2
    have hi : i < ks.length := by
      have := (List.getElem?_eq_some_iff.mp r1).1
      omega
    obtain ⟨x, hx, rx⟩ := rv.get (i := i) (x := .str ks[i]) (by rw [List.getElem?_map, List.getElem?_eq_getElem hi]; rfl)
    rw [r1] at hx
    cases hx
    refine ⟨.inr ks[i], ?_, kV_is (P := X.prog) (w := X.w) rx⟩
    have ez : (ks.zip its2)[i]? = some (ks[i], v) := List.getElem?_zip_eq_some.mpr ⟨List.getElem?_eq_getElem hi, r2⟩
    rw [List.getElem?_map, ez]
    rfl
  · have : (4000 : Nat) ≤ sizeLine := by decide
    rw [← zl, List.length_map, List.length_zip]
    omega
  · have old : ∀ c o, s1.heap.get? c = some o → h2.get? c = some o := fun c o e => by
      have lc := Heap.lt_size e
      refine hk2 c o (fun z => ?_) (hk _ _ e)
      have z' : c = s1.heap.objs.size + 4 ∨ c = s1.heap.objs.size + 3 ∨ c = s1.heap.objs.size ∨ c = s1.heap.objs.size + 1 := by simpa using z
      have lc : (c : Nat) < s1.heap.objs.size := lc
      rcases z' with z | z | z | z
      · exact absurd lc (by rw [z]; exact Nat.not_lt_of_le (Nat.le_add_right _ _))
      · exact absurd lc (by rw [z]; exact Nat.not_lt_of_le (Nat.le_add_right _ _))
      · exact absurd lc (by rw [z]; exact Nat.lt_irrefl _)
      · exact absurd lc (by rw [z]; exact Nat.not_lt_of_le (Nat.le_add_right _ _))
    have far : s1.heap.objs.size ≤ h'.objs.size := by rw [hsz]; exact Nat.le_add_right _ _
    have hm : (h'.objs.size == sysModules) = false := beq_eq_false_iff_ne.mpr (Nat.ne_of_gt (Nat.lt_of_lt_of_le I1.big far))
    have hlen : (mergeK [] (zipK ks ws)).length ≤ sizeLine := by
      refine Nat.le_trans (length_mergeK _ _) ?_
      have : (4000 : Nat) ≤ sizeLine := by decide
      unfold zipK
      rw [List.length_nil, Nat.zero_add, List.length_map, List.length_zip]
      omega
    exact ⟨.ref h'.objs.size, upd H1 h'.objs.size (.dK (mergeK [] (zipK ks ws))), I1.laid (t' := tk) old far (show ObjOk X.prog X.w _ _ _ (.dK (mergeK [] (zipK ks ws))) from ⟨hlen, hm, _, L2.KV.merge rel .nil, hd⟩), rfl, q1 _ (I1.hok.fresh far)⟩
end
end KV
set_option Elab.async false
set_option linter.all false
set_option maxRecDepth 100000
set_option maxHeartbeats 0
/-! the law's side of stores: what _law_broken reckons with -/
namespace LW
open PySem PySem.Spec PyProof.Rows L2 KV
theorem wD_show {w : Wt} (h : Wok w) : (wD w).showable = true := by
  cases w with
  | none => rfl
  | some i =>
    have h1 := h.1
    have h2 := h.2
    show decide (i.natAbs.log2 < 1920) = true
    refine decide_eq_true ?_
    refine Nat.lt_of_le_of_lt (Nat.log2_le_self _) ?_
    omega
theorem repW {m : List Wt} (h : ∀ w ∈ m, Wok w) (l : m.length ≤ 1000) : (PyData.list (m.map wD)).showable = true ∧ (PyData.list (m.map wD)).hasDict = false ∧ (PyData.list (m.map wD)).depth ≤ 60 ∧ (PyData.list (m.map wD)).shown.length ≤ sizeLine := by
  have a1 : ∀ {m : List Wt}, (∀ w ∈ m, Wok w) → PyData.showableAll (m.map wD) = true := fun {m} h => by
    induction m with
    | nil => rfl
    | cons w m ih =>
      show ((wD w).showable && PyData.showableAll (m.map wD)) = true
      rw [wD_show (h w (by simp)), ih fun w hw => h w (by simp [hw])]
      rfl
  have a2 : ∀ m : List Wt, PyData.hasDictAll (m.map wD) = false := fun m => by
    induction m with
    | nil => rfl
    | cons w m ih =>
      show ((wD w).hasDict || PyData.hasDictAll (m.map wD)) = false
      rw [ih]
      cases w <;> rfl
  have a3 : ∀ m : List Wt, PyData.depthAll (m.map wD) = 0 := fun m => by
    induction m with
    | nil => rfl
    | cons w m ih =>
      show max (wD w).depth (PyData.depthAll (m.map wD)) = 0
      rw [ih]
      cases w <;> rfl
  refine ⟨a1 h, a2 m, ?_, ?_⟩
  · show PyData.depthAll (m.map wD) + 1 ≤ 60
    rw [a3]
    decide
  · have := lwT_len h
    have big : (9000 : Nat) ≤ sizeLine := by decide
    show (lwT m).length ≤ sizeLine
    omega
theorem repW1 {w : Wt} (h : Wok w) : (wD w).showable = true ∧ (wD w).hasDict = false ∧ (wD w).depth ≤ 60 ∧ (wD w).shown.length ≤ sizeLine := by
  refine ⟨wD_show h, by cases w <;> rfl, by cases w <;> exact Nat.zero_le _, ?_⟩
  rw [wT_eq]
  exact Nat.le_trans (wT_chars h).2 (by decide)
theorem dp_w {K : PySem.W.Frag} {H : Hp} (w : Wt) : Dp K H (wV w) (wD w) := by
  cases w with
  | none => exact .non
  | some i => exact .int i
theorem dp_ws {K : PySem.W.Frag} {H : Hp} : ∀ m : List Wt, DpAll K H (m.map wV) (m.map wD)
  | [] => .nil
  | w :: m => .cons (dp_w w) (dp_ws m)
/-! ### columns and their values, as a dict -/
theorem mergeK_new : ∀ {more acc : List (Key × V)}, (acc ++ more).map Prod.fst |>.Nodup → mergeK acc more = acc ++ more
  | [], acc, _ => by simp [mergeK]
  | (k, v) :: more, acc, h => by
    have hv : valV acc k = none := by
      have : k ∉ acc.map Prod.fst := fun z => by
        rw [List.map_append, List.nodup_append] at h
        exact h.2.2 k z k (by simp) rfl
      clear h
      induction acc with
      | nil => rfl
      | cons kv acc ih =>
        obtain ⟨k', v'⟩ := kv
        have ne : k' ≠ k := fun z => this (by simp [z])
        have : valV ((k', v') :: acc) k = valV acc k := by simp [valV, ne]
        rw [this]
        exact ih fun z => ‹k ∉ _› (by simp [z])
    show mergeK (putK acc k v) more = _
    rw [putK_new v hv, mergeK_new (by simpa using h)]
    simp
theorem zipK_val : ∀ {ks : List Str} {r : Row} {c : Str}, ks.length = r.length → c ∈ ks → valV (zipK ks (r.map wV)) (.inr c) = some (wV (colAt ks r c))
  | [], _, c, _, h => by simp at h
  | k :: ks, [], c, l, _ => by simp at l
  | k :: ks, w :: r, c, l, h => by
    by_cases e : k = c
    · subst e
      simp [zipK, valV, colAt, List.idxOf_cons]
    · have hc : c ∈ ks := by
        rcases List.mem_cons.mp h with z | z
        · exact (e z.symm).elim
        · exact z
      have ih := zipK_val (ks := ks) (r := r) (c := c) (by simpa using l) hc
      have h1 : valV (zipK (k :: ks) ((w :: r).map wV)) (.inr c) = valV (zipK ks (r.map wV)) (.inr c) := by
        simp [zipK, valV, e]
      have h2 : colAt (k :: ks) (w :: r) c = colAt ks r c := by
        unfold colAt
        rw [List.idxOf_cons, show (k == c) = false from beq_eq_false_iff_ne.mpr e]
        simp
      rw [h1, ih, h2]
theorem zipK_keys {ks : List Str} {ws : List V} (l : ks.length = ws.length) : (zipK ks ws).map Prod.fst = ks.map Sum.inr := by
  unfold zipK
  rw [List.map_map]
  induction ks generalizing ws with
  | nil => rfl
  | cons k ks ih =>
    cases ws with
    | nil => simp at l
    | cons w ws =>
      rw [List.zip_cons_cons, List.map_cons, ih (by simpa using l)]
      rfl
theorem merge_zip {ks : List Str} {r : Row} (nd : ks.Nodup) (l : ks.length = r.length) : mergeK [] (zipK ks (r.map wV)) = zipK ks (r.map wV) := by
  have := mergeK_new (acc := []) (more := zipK ks (r.map wV)) (by
    rw [List.nil_append, zipK_keys (by simpa using l)]
    exact List.Pairwise.map _ (fun a b h z => h (Sum.inr.inj z)) nd)
  simpa using this
/-! ### a clash, as the law finds it -/
theorem okRows_same {cols cs tl : List Str} : ∀ {P : List Row}, okRows cols cs tl P = true → ∀ a ∈ P, ∀ b ∈ P, a = b ∨ clash cols cs tl a b = false
  | [], _, a, ha, _, _ => by simp at ha
  | r :: P, h, a, ha, b, hb => by
    rw [okRows, Bool.and_eq_true] at h
    have h1 := List.all_eq_true.mp h.1
    rcases List.mem_cons.mp ha with rfl | ha
    · rcases List.mem_cons.mp hb with rfl | hb
      · exact .inl rfl
      · have := h1 b hb
        exact .inr (by simpa using this)
    · rcases List.mem_cons.mp hb with e | hb
      · have := h1 a ha
        rw [clash_symm, e]
        exact .inr (by simpa using this)
      · exact okRows_same h.2 a ha b hb
def heldT (cols tl : List Str) (r : Row) : Str := match tl with
  | [] => ""
  | c :: _ => wT (colAt cols r c)
def found (cols cs : List Str) (P : List Row) (x : Row) : Option Row := P.find? fun r => decide (lwT (marks cols cs r) = lwT (marks cols cs x))
theorem colAt_ok {cols : List Str} {r : Row} {c : Str} (h : ∀ w ∈ r, Wok w) : Wok (colAt cols r c) := by
  unfold colAt
  rw [List.getD_eq_getElem?_getD]
  cases e : r[cols.idxOf c]? with
  | none => exact trivial
  | some w => exact h w (List.mem_of_getElem? e)
theorem marks_ok {cols cs : List Str} {r : Row} (h : ∀ w ∈ r, Wok w) : ∀ w ∈ marks cols cs r, Wok w := fun w hw => by
  obtain ⟨c, _, rfl⟩ := List.mem_map.mp hw
  exact colAt_ok h
theorem marks_iff {cols cs : List Str} {a b : Row} (ha : ∀ w ∈ a, Wok w) (hb : ∀ w ∈ b, Wok w) : lwT (marks cols cs a) = lwT (marks cols cs b) ↔ marks cols cs a = marks cols cs b :=
  ⟨fun h => lwT_inj (by simp [marks]) (marks_ok ha) (marks_ok hb) h, fun h => by rw [h]⟩
theorem found_clash {cols cs tl : List Str} {P : List Row} {x : Row} (l : tl.length ≤ 1) (ok : okRows cols cs tl P = true) (hP : ∀ r ∈ P, ∀ w ∈ r, Wok w) (hx : ∀ w ∈ x, Wok w) :
    (P.any fun a => clash cols cs tl a x) = match found cols cs P x with
      | none => false
      | some r0 => tl.isEmpty || decide (heldT cols tl r0 ≠ heldT cols tl x) := by
  cases e : found cols cs P x with
  | none =>
    rw [Bool.eq_false_iff]
    intro z
    obtain ⟨a, ha, hc⟩ := List.any_eq_true.mp z
    have h := List.find?_eq_none.mp e a ha
    unfold clash at hc
    rw [Bool.and_eq_true] at hc
    have hm := of_decide_eq_true hc.1
    exact h (decide_eq_true (by rw [hm]))
  | some r0 =>
    dsimp only
    have m0 := List.mem_of_find?_eq_some e
    have e0 := List.find?_some e
    have h0 := (marks_iff (hP r0 m0) hx).mp (of_decide_eq_true e0)
    rcases tl with _ | ⟨c, tl⟩
    · rw [List.isEmpty_nil, Bool.true_or, List.any_eq_true]
      exact ⟨r0, m0, by unfold clash; simp [h0]⟩
    · obtain rfl : tl = [] := by simpa using l
      have hd : ∀ a : Row, (∀ w ∈ a, Wok w) → (heldT cols [c] a ≠ heldT cols [c] x ↔ colAt cols a c ≠ colAt cols x c) := fun a ha => not_congr ⟨fun h => wT_inj (colAt_ok ha) (colAt_ok hx) h, fun h => by show wT _ = wT _; rw [h]⟩
      rw [Bool.eq_iff_iff, List.any_eq_true, List.isEmpty_cons, Bool.false_or, decide_eq_true_iff, hd r0 (hP r0 m0)]
      constructor
      · rintro ⟨a, ha, hc⟩
        unfold clash at hc
        simp at hc
        rcases okRows_same ok r0 m0 a ha with rfl | hcl
        · exact hc.2
        · unfold clash at hcl
          simp at hcl
          have := hcl (h0.trans hc.1.symm)
          rw [this]
          exact hc.2
      · intro h
        refine ⟨r0, m0, ?_⟩
        unfold clash
        simp [h0, h]
end LW
set_option Elab.async false
set_option linter.all false
set_option maxRecDepth 100000
set_option maxHeartbeats 0
/-! _law_broken -/
namespace LW
open PySem PySem.Spec PyProof.Rows L2 KV
structure LinA (H : Hp) (m : Addr) (L : Str → Addr) (ts : List Tab) (R : Str → List Row) : Prop where
  dic : H m = some (.dK (dkv ts L))
  rows : ∀ t ∈ ts, ∃ vs, H (L t.1) = some (.lst vs) ∧ OwAll H vs ((R t.1).map rowD) Fp0
theorem StoA.lin {H : Hp} {d l : Addr} {L : Str → Addr} {ts : List Tab} {R : Str → List Row} {S : List Stp} (h : StoA H d l L ts R S) : LinA H d L ts R := ⟨h.dic, h.rows⟩
theorem LinA.off {H H' : Hp} {d : Addr} {L : Str → Addr} {ts : List Tab} {R : Str → List Row} (h : LinA H d L ts R) (k : Off (fun _ => False) H H') : LinA H' d L ts R :=
  ⟨k _ _ h.dic fun z => z, fun t ht => by
    obtain ⟨vs, e, o⟩ := h.rows t ht
    exact ⟨vs, k _ _ e fun z => z, o.keep k (fun _ z => z.elim) fun _ z => z.elim⟩⟩
/-- rows as wide as their tables, of worths in range -/
def RowsOk (ts : List Tab) (R : Str → List Row) : Prop := ∀ t ∈ ts, (R t.1).length ≤ 1000 ∧ ∀ r ∈ R t.1, r.length = t.2.length ∧ ∀ w ∈ r, Wok w
def TabsNd (ts : List Tab) : Prop := ∀ t ∈ ts, t.2.Nodup ∧ t.2.length ≤ 1000
def brokenI (ts : List Tab) (rs : List RB) (R : Str → List Row) : Int := match brokenO ts rs R with
  | some i => (i : Nat)
  | none => -1
theorem wrongs_formed {ts : List Tab} : ∀ {rs : List RB}, wrongs ts rs = none → ∀ r ∈ rs, formed r = true
  | [], _, r, hr => by simp at hr
  | q :: rs, h, r, hr => by
    rw [wrongs] at h
    cases e : wrong1 ts q with
    | some z => rw [e] at h; cases h
    | none =>
      rw [e] at h
      rcases List.mem_cons.mp hr with rfl | hr
      · cases hf : formed r with
        | true => rfl
        | false => rw [wrong1_formed hf] at e; cases e
      · exact wrongs_formed h r hr
theorem asg_cutV {te : TE} {i : Nat} {B : TS} {D : Ends} {σ : L2.St} {H : Hp} (W : V → Hp → Prop) (h1 : ∀ Q : VK, (∀ v H', W v H' → Q v H') → te σ H Q) (h2 : ∀ v H', W v H' → B D (σ.set i (some v)) H') : tSeq (tAsg te (gName i)) B D σ H := h1 _ h2
theorem ifF {c : Bool} {p q : Prop} (h : c = false) (x : q) : if c = true then p else q := by
  subst h
  exact x
theorem ifT {c : Bool} {p q : Prop} (h : c = true) (x : p) : if c = true then p else q := by
  subst h
  exact x
theorem okRows_take {cols cs tl : List Str} : ∀ {P : List Row} (n : Nat), okRows cols cs tl P = true → okRows cols cs tl (P.take n) = true
  | [], n, _ => by simp [okRows]
  | _ :: _, 0, _ => rfl
  | r :: P, n + 1, h => by
    rw [okRows, Bool.and_eq_true] at h
    rw [List.take_succ_cons, okRows, Bool.and_eq_true]
    refine ⟨List.all_eq_true.mpr fun b hb => List.all_eq_true.mp h.1 b (List.mem_of_mem_take hb), okRows_take n h.2⟩
/-- what stands in the dict of those seen -/
def SeenV (cols cs tl : List Str) (P : List Row) (kv : List (Key × V)) : Prop := ∀ x : Str, valV kv (.inr x) = (P.find? fun r => decide (lwT (marks cols cs r) = x)).map fun r => V.str (heldT cols tl r)
theorem seen_put {cols cs tl : List Str} {P : List Row} {kv : List (Key × V)} {row : Row} (h : SeenV cols cs tl P kv) (e : ∀ r0, found cols cs P row = some r0 → heldT cols tl r0 = heldT cols tl row) :
    SeenV cols cs tl (P ++ [row]) (putK kv (.inr (lwT (marks cols cs row))) (.str (heldT cols tl row))) := by
  intro x
  rw [List.find?_append]
  by_cases hx : x = lwT (marks cols cs row)
  · subst hx
    rw [valV_put, if_pos rfl]
    cases ef : found cols cs P row with
    | none =>
      have ef : P.find? (fun r => decide (lwT (marks cols cs r) = lwT (marks cols cs row))) = none := ef
      rw [ef]
      simp
    | some r0 =>
      have ef' : P.find? (fun r => decide (lwT (marks cols cs r) = lwT (marks cols cs row))) = some r0 := ef
      rw [ef', ← e r0 ef]
      rfl
  · rw [valV_put, if_neg (fun z => hx (Sum.inr.inj z)), h x]
    cases P.find? (fun r => decide (lwT (marks cols cs r) = x)) with
    | some r => rfl
    | none => simp [Ne.symm hx]
def spBroken (K : PySem.W.Frag) : Sp := fun vs H Q _ => ∃ (td m : Addr) (v : V) (kvs : List (Key × V)) (L : Str → Addr) (ts : List Tab) (rs : List RB) (R : Str → List Row) (N M : Nat), vs = [.ref td, v, .ref m] ∧ H td = some (.dK kvs) ∧ TitK K H kvs ts ∧ Dp K H v (rbsD rs) ∧ (∀ r ∈ rs, RbOk N M r) ∧ M ≤ 1000 ∧ rs.length ≤ 1000 ∧
  wrongs ts rs = none ∧ LinA H m L ts R ∧ RowsOk ts R ∧ TabsNd ts ∧ ∀ H', Off (fun _ => False) H H' → Q (.int (brokenI ts rs R)) H'
section
variable {P : Program} {w : World} {K : PySem.W.Frag} {mg : Str → Option Value} {base : Heap}
theorem scBroken : FnScope ["titles", "rules_here", "lines", "spot", "rule", "seen", "line", "worths", "mark", "held", "place"] ["titles", "rules_here", "lines"] (defScope sBroken) := ⟨rfl, rfl, rfl, by decide +kernel, rfl, by decide +kernel, by decide +kernel⟩
theorem ok_broken {f : Addr} {fd : FuncData} (F : FnP K "_law_broken" sBroken f fd) (me : mg "enumerate" = none) (md : mg "dict" = none) (mz : mg "zip" = none) (mp : mg "repr" = none) : FnC P w K mg base CX0 1 f fd ["titles", "rules_here", "lines"] (spBroken K) := by
  refine Fun.okC F scBroken (fun vs H Q E h => ?_) (fun cdv A outer s H vs Q E hG hr h => ?_)
  · obtain ⟨td, m, v, kvs, L, ts, rs, R, N, M, rfl, _⟩ := h
    rfl
  obtain ⟨td, m, v, kvs, L, ts, rs, R, N, M, rfl, et, tk, dr, ro, hM, lrs, ws, li, rok, nd, q⟩ := h
  have hu : (A.deeper (envOfC "_law_broken" (defScope sBroken) s.heap.objs.size f cdv)).units + 64 < cLine := hr.units
  have hu1 := Nat.lt_of_le_of_lt (Nat.add_le_add_left (show 1 ≤ 64 by decide) _) hu
  refine ⟨_, PSs.nox (pss_cons (ps_for PassesOwn.never rfl (pi_enum rfl me (pa_cons (pv 1) pa_nil)) (pg_tup rfl (pgs_cons (pg_name (i := 3) scBroken.nd rfl (Or.inl rfl)) (pgs_cons (pg_name (i := 4) scBroken.nd rfl (Or.inl rfl)) pgs_nil)))
      (pss_cons (ps_set (i := 5) scBroken.nd rfl (Or.inl rfl) pe_dnewK)
      (pss_one (ps_for PassesOwn.never rfl (pi_list (pe_dget hu1 (pv 2) (pe_ix ix_tup (pv 4) pe_int (fun _ _ => rfl)) (fun _ _ => rfl))) (pg_name (i := 6) scBroken.nd rfl (Or.inl rfl))
        (pss_cons (ps_set (i := 7) scBroken.nd rfl (Or.inr rfl) (pe_dictZip rfl rfl md rfl mz (pa_cons (pe_dget hu1 (pv 0) (pe_ix ix_tup (pv 4) pe_int (fun _ _ => rfl)) (fun _ _ => rfl)) (pa_cons (pv 6) pa_nil))))
        (pss_cons (ps_set (i := 8) scBroken.nd rfl (Or.inl rfl) (pe_callB (call_repD hG hu) rfl mp boot_repr (pa_cons (pe_lc (own := [("place", 10)]) (g := gName 10) (tt := tYes) rfl scBroken.nd (pi_list (pe_ix ix_tup (pv 4) pe_int (fun _ _ => rfl))) (blkOk_by (own := [("place", 10)]) (N := ["titles", "rules_here", "lines", "spot", "rule", "seen", "line", "worths", "mark", "held", "place"]) (sc := defScope sBroken) (by decide +kernel))
          (fun _ _ _ _ _ => pg_name (i := 10) scBroken.nd rfl (Or.inl rfl)) (fun _ _ _ _ _ => pts_nil) (fun _ _ _ _ _ => pe_dget hu1 (pv 7) (pv 10) (fun _ _ => rfl))) pa_nil)))
        (pss_cons (ps_set (i := 9) scBroken.nd rfl (Or.inl rfl) (pe_ifExp (pt_cmpR op_eq (pe_ix ix_tup (pv 4) pe_int (fun _ _ => rfl)) pe_str (nomark _)) pe_str (pe_callB (call_repD hG hu) rfl mp boot_repr (pa_cons (pe_dget hu1 (pv 7) (pe_ix ix_tup (pv 4) pe_int (fun _ _ => rfl)) (fun _ _ => rfl)) pa_nil))))
        (pss_cons (ps_if (PW.pt (pw_and (pt_cmp (pc_din hu1 (pv 8) (pv 5))) (pw_and1 (PW.pt (pw_or (pt_cmpR op_eq (pe_ix ix_tup (pv 4) pe_int (fun _ _ => rfl)) pe_str (nomark _)) (pw_or1 (pt_cmpR op_ne (pe_dget hu1 (pv 5) (pv 8) (fun _ _ => rfl)) (pv 9) (nomark _)))))))) (pss_one (ps_ret (pv 3))) pss_nil)
        (pss_one (ps_dput hu1 (pv 5) (pv 8) (pv 9) rfl))))))))))
    (pss_one (ps_ret (pe_un un_neg pe_int)))), ?_⟩
  have no : ¬ False := id
  obtain ⟨aR, xR, rfl, sR, dR⟩ := dp_rbs (K := K) dr
  have lR : xR.length = rs.length := by rw [dpAll_len dR, List.length_map]
  refine ⟨_, rfl, aR, xR, rfl, sR, for_enum (K := K) (a := aR) (xs := xR) (fun j σ G => (∃ w3 w4 w5 w6 w7 w8 w9 w10, σ = [some (.ref td), some (.ref aR), some (.ref m), w3, w4, w5, w6, w7, w8, w9, w10]) ∧ Off (fun _ => False) H G ∧ ∀ r ∈ rs.take j, holdsR ts R r = true)
    ⟨⟨none, none, none, none, none, none, none, none, rfl⟩, Off.refl _ _, fun r hr => absurd hr (by simp)⟩ (fun j σ G _ g => sqL_off g.2.1 sR) (fun j v σ G TT hx' g hTT => ?_) fun σ G g => ?_⟩
  rotate_left
  · obtain ⟨_, k4, hb⟩ := g
    rw [lR, List.take_length] at hb
    have : brokenI ts rs R = -1 := by
      unfold brokenI brokenO
      rw [fidx_none fun r hr => by rw [hb r hr]; rfl]
    rw [this] at q
    exact ⟨_, rfl, q G k4⟩
  obtain ⟨⟨w3, w4, w5, w6, w7, w8, w9, w10, rfl⟩, k4, hb⟩ := g
  have hj : j < rs.length := by
    have := (List.getElem?_eq_some_iff.mp hx').1
    omega
  have hr' : rs[j]? = some rs[j] := List.getElem?_eq_getElem hj
  have mem := List.getElem_mem hj
  obtain ⟨v', ev, dv⟩ := dpAll_get (i := j) (d := rbD rs[j]) (dpAll_off k4 dR) (by rw [List.getElem?_map, hr']; rfl)
  rw [hx'] at ev
  cases ev
  have kT : Off (fun _ => False) G (upd G TT (.tup [.int (j : Nat), v])) := Off.new hTT
  have dv5 := dp_off kT dv
  refine ⟨TT, [.int (j : Nat), v], rfl, SqT.of upd_same, rfl, .int (j : Nat), [v], rfl, v, [], rfl, rfl, ?_⟩
  have k5 := k4.trans kT
  generalize upd G TT (.tup [.int (j : Nat), v]) = G5 at k5 dv5 ⊢
  obtain ⟨k0, y0, cs, tl, er, fm⟩ := formed_ok (wrongs_formed ws _ mem)
  rw [er] at dv5
  obtain ⟨ra, na, rfl, sr, sn⟩ := dp_rb dv5
  obtain ⟨_, tb, etb, hcs, htl⟩ := wrongs_ok ws (er ▸ mem)
  obtain ⟨mtb, ytb⟩ := tabOf_mem etb
  subst ytb
  have lcs : cs.length ≤ 1000 := Nat.le_trans ((ro _ mem).cs cs tl (by rw [er])).1 hM
  have ltl : tl.length ≤ 1 := by rcases fm with ⟨_, z⟩ | ⟨_, z⟩ <;> omega
  obtain ⟨lrw, rowsok⟩ := rok tb mtb
  obtain ⟨cnd, lcol⟩ := nd tb mtb
  have hld : holdsR ts R rs[j] = okRows tb.2 cs tl (R tb.1) := by
    rw [er]
    unfold holdsR
    dsimp only
    rw [etb]
  obtain ⟨vc, tb', u1, u2, u3⟩ : ∃ v t, valV kvs (.inr tb.1) = some v ∧ tabOf ts tb.1 = some t ∧ Dp K H v (colsD t.2) := by
    rcases titK_at (x := tb.1) tk with ⟨_, z⟩ | ⟨v, t, z1, z2, z3⟩
    · rw [etb] at z
      cases z
    · exact ⟨v, t, z1, z2, z3⟩
  rw [etb] at u2
  cases u2
  obtain ⟨ca, rfl, sca⟩ := dp_cols u3
  refine fun sd nsd => ?_
  have k6 : Off (fun _ => False) G5 (upd G5 sd (.dK [])) := Off.new nsd
  have esd := upd_same (H := G5) (a := sd) (o := .dK [])
  generalize upd G5 sd (.dK []) = G6 at k6 esd ⊢
  have k06 := k5.trans k6
  have li6 := li.off k06
  obtain ⟨vs, ev, ov⟩ := li6.rows tb mtb
  have lvs : vs.length = (R tb.1).length := by rw [ov.length, List.length_map]
  have dgm := DGet.k (k := .inr tb.1) li6.dic
  rw [valV_dkv, if_pos (List.mem_map.mpr ⟨tb, mtb, rfl⟩)] at dgm
  have sr6 := sqT_off k6 sr
  have sn6 := sqL_off k6 sn
  have a1 : ∀ {z : List V}, atI (V.str k0 :: V.str tb.1 :: V.ref na :: z) 1 = some (.str tb.1) := atI_nat (j := 1) rfl
  have a0 : ∀ {z : List V}, atI (V.str k0 :: V.str tb.1 :: V.ref na :: z) 0 = some (.str k0) := atI_nat (j := 0) rfl
  have a2 : ∀ {z : List V}, atI (V.str k0 :: V.str tb.1 :: V.ref na :: z) 2 = some (.ref na) := atI_nat (j := 2) rfl
  refine ⟨_, rfl, _, rfl, ra, _, 1, .str tb.1, rfl, rfl, sr6, a1, m, _, rfl, dgm, L tb.1, rfl, ⟨_, SqL.of ev⟩, for_list (K := K) (a := L tb.1) (xs := vs) (fun i σ G' => (∃ w6 w7 w8 w9 w10, σ = [some (.ref td), some (.ref aR), some (.ref m), some (.int (j : Nat)), some (.ref ra), some (.ref sd), w6, w7, w8, w9, w10]) ∧ (∃ kv, G' sd = some (.dK kv) ∧ kv.length ≤ i ∧ SeenV tb.2 cs tl ((R tb.1).take i) kv) ∧ Off (fun a => a = sd) G6 G' ∧ okRows tb.2 cs tl ((R tb.1).take i) = true)
    ⟨⟨w6, w7, w8, w9, w10, rfl⟩, ⟨[], esd, Nat.zero_le _, fun x => rfl⟩, Off.refl _ _, rfl⟩ (fun i σ G' _ g => ?_) (fun i y σ G' hy g => ?_) fun σ G' g => ?_⟩
  · obtain ⟨_, _, k7, _⟩ := g
    exact SqL.of (k7 _ _ ev fun z => by rw [z, esd] at ev; cases ev)
  rotate_left
  · obtain ⟨⟨w6, w7, w8, w9, w10, rfl⟩, _, k7, ok⟩ := g
    rw [lvs, List.take_length] at ok
    refine ⟨⟨_, _, _, _, _, _, _, _, rfl⟩, fun a o ea _ => ?_, fun r hr => ?_⟩
    · have e6 := k06 a o ea no
      refine k7 a o e6 fun z => ?_
      rw [z] at ea
      have := k5 _ _ ea no
      rw [nsd] at this
      cases this
    · rw [take_snoc hr'] at hr
      rcases List.mem_append.mp hr with hr | hr
      · exact hb r hr
      · rw [List.mem_singleton.mp hr, hld]
        exact ok
  obtain ⟨⟨w6, w7, w8, w9, w10, rfl⟩, ⟨kv, ekv, lkv, sv⟩, k7, ok⟩ := g
  have nsq : NoSq G6 sd := NoSq.dK esd
  have hi : i < (R tb.1).length := by
    have := (List.getElem?_eq_some_iff.mp hy).1
    omega
  have hri : (R tb.1)[i]? = some (R tb.1)[i] := List.getElem?_eq_getElem hi
  have memr := List.getElem_mem hi
  have hG : ∀ a, a = sd → ∃ xs, G6 a = some (.lst xs) ∨ ∃ kv, G6 a = some (.dK kv) := fun a z => ⟨[], .inr ⟨_, z ▸ esd⟩⟩
  obtain ⟨y', ey, oy⟩ := owAll_get ov (i := i) (d := rowD (R tb.1)[i]) (by rw [List.getElem?_map, hri]; rfl)
  rw [hy] at ey
  cases ey
  obtain ⟨t, rfl, et6⟩ := ow_row oy
  have et7 := k7 _ _ et6 fun z => by rw [z, esd] at et6; cases et6
  obtain ⟨lrow, wok⟩ := rowsok _ memr
  generalize hrow : (R tb.1)[i] = row at hri et7 lrow wok memr
  have sr7 := sqT_in k7 nsq sr6
  have sn7 := sqL_in k7 nsq sn6
  have etd7 : G' td = some (.dK kvs) := by
    have e6 := k06 _ _ et no
    exact k7 _ _ e6 fun z => by
      rw [z] at et
      have := k5 _ _ et no
      rw [nsd] at this
      cases this
  have sca7 := sqL_in k7 nsq (sqL_off k06 sca)
  have dgt : DGet G' td (.str tb.1) (some (.ref ca)) := by
    have := DGet.k (k := .inr tb.1) etd7
    rw [u1] at this
    exact this
  have lw : (row.map wV).length = row.length := List.length_map _
  refine ⟨_, rfl, _, rfl, ra, _, 1, .str tb.1, rfl, rfl, sr7, a1, td, _, rfl, dgt, _, rfl, ca, t, tb.2, row.map wV, rfl, sca7, SqT.of et7, by omega, by omega, fun wd nwd => ?_⟩
  rw [merge_zip cnd lrow.symm]
  have j1 : Off (fun _ => False) G' (upd G' wd (.dK (zipK tb.2 (row.map wV)))) := Off.new nwd
  have ewd := upd_same (H := G') (a := wd) (o := .dK (zipK tb.2 (row.map wV)))
  generalize upd G' wd (.dK (zipK tb.2 (row.map wV))) = G7 at j1 ewd ⊢
  have sr8 := sqT_off j1 sr7
  have sn8 := sqL_off j1 sn7
  have ekv7 := j1 _ _ ekv no
  refine ⟨_, rfl, ra, _, 2, .ref na, rfl, rfl, sr8, a2, na, rfl, ⟨_, sn8⟩, fun D hD => lc_list (K := K) (a := na) (xs := cs.map V.str) (fun n G => G D = some (.lst ((marks tb.2 (cs.take n) row).map wV)) ∧ Off (fun _ => False) G7 G) ⟨upd_same, Off.new hD⟩ (fun n G _ g => sqL_off g.2 sn8) (fun n x G hx g => ?_) fun G8 g => ?_⟩
  · obtain ⟨g1, g2⟩ := g
    rw [List.getElem?_map] at hx
    obtain ⟨c, hc, rfl⟩ := Option.map_eq_some_iff.mp hx
    have mc := hcs c (List.mem_of_getElem? hc)
    have dgw : DGet G wd (.str c) (some (wV (colAt tb.2 row c))) := by
      have := DGet.k (k := .inr c) (g2 _ _ ewd no)
      rw [zipK_val lrow.symm mc] at this
      exact this
    refine ⟨rfl, _, rfl, _, rfl, wd, _, rfl, dgw, _, g1, ?_, ?_, fun b o eb nb => ?_⟩
    · unfold marks
      rw [List.length_map, List.length_map, List.length_take]
      exact small4000 (by omega)
    · rw [upd_same, take_snoc hc]
      unfold marks
      rw [List.map_append, List.map_append]
      rfl
    · rw [upd_ne (fun z => by rw [z, hD] at eb; cases eb)]
      exact g2 b o eb nb
  obtain ⟨g1, j2⟩ := g
  rw [List.length_map, List.take_length] at g1
  obtain ⟨z1, z2, z3, z4⟩ := repW (marks_ok (cols := tb.2) (cs := cs) wok) (by unfold marks; rw [List.length_map]; exact lcs)
  refine ⟨.ref D, .list ((marks tb.2 cs row).map wD), rfl, .lst (SqL.of g1) (dp_ws _), z1, z2, z3, z4, ?_⟩
  have sr9 := sqT_off j2 sr8
  have ewd8 := j2 _ _ ewd no
  have ekv8 := j2 _ _ ekv7 no
  have k68 : Off (fun a => a = sd) G6 G8 := k7.trans ((j1.trans j2).mono fun _ z => z.elim)
  have k08 : Off (fun _ => False) H G8 := fun a o ea _ => k68 a o (k06 a o ea no) fun z => by
    rw [z] at ea
    have := k5 _ _ ea no
    rw [nsd] at this
    cases this
  dsimp only [gName]
  show tSeq (tAsg _ _) _ _ [some (.ref td), some (.ref aR), some (.ref m), some (.int (j : Nat)), some (.ref ra), some (.ref sd), some (.ref t), some (.ref wd), some (.str (lwT (marks tb.2 cs row))), w9, w10] _
  refine asg_cutV (i := 9) (fun v G9 => v = .str (heldT tb.2 tl row) ∧ G9 = G8) (fun Q' qq => ?_) (fun v G9 hv => ?_)
  · refine ⟨_, rfl, ra, _, 0, .str k0, rfl, rfl, sr9, a0, rfl, _, rfl, ite2 (fun c => ?_) (fun c => ?_)⟩
    · have ek : k0 = "key" := V.str.inj (of_decide_eq_true c)
      have et0 : tl = [] := by
        rcases fm with ⟨_, z⟩ | ⟨z, _⟩
        · exact List.length_eq_zero_iff.mp z
        · rw [ek] at z
          exact absurd z (by decide +kernel)
      exact qq _ _ ⟨by rw [et0]; rfl, rfl⟩
    · have ek : k0 = "settles" ∧ tl.length = 1 := by
        rcases fm with ⟨z, _⟩ | z
        · exact absurd (decide_eq_true (by rw [z])) c
        · exact z
      obtain ⟨c0, et0⟩ : ∃ c0, tl = [c0] := List.length_eq_one_iff.mp ek.2
      have mc := htl c0 (by rw [et0]; simp)
      have dgw : DGet G8 wd (.str c0) (some (wV (colAt tb.2 row c0))) := by
        have := DGet.k (k := .inr c0) ewd8
        rw [zipK_val lrow.symm mc] at this
        exact this
      rw [et0] at sr9
      obtain ⟨y1, y2, y3, y4⟩ := repW1 (colAt_ok (cols := tb.2) (c := c0) wok)
      refine ⟨_, rfl, _, rfl, ra, _, 3, .str c0, rfl, rfl, sr9, atI_nat (j := 3) rfl, wd, _, rfl, dgw, _, _, rfl, dp_w _, y1, y2, y3, y4, qq _ _ ⟨?_, rfl⟩⟩
      rw [et0, wT_eq]
      rfl
  obtain ⟨rfl, rfl⟩ := hv
  have fc := found_clash (cs := cs) (x := row) ltl ok (fun r hr => (rowsok r (List.mem_of_mem_take hr)).2) wok
  have snoc := okRows_snoc tb.2 cs tl row ((R tb.1).take i)
  rw [ok, Bool.true_and] at snoc
  have hit : (∃ r0, found tb.2 cs ((R tb.1).take i) row = some r0 ∧ (tl.isEmpty || decide (heldT tb.2 tl r0 ≠ heldT tb.2 tl row)) = true) → brokenI ts rs R = (j : Nat) := by
    rintro ⟨r0, f0, f1⟩
    rw [f0] at fc
    have fc : _ = (tl.isEmpty || decide (heldT tb.2 tl r0 ≠ heldT tb.2 tl row)) := fc
    rw [f1] at fc
    have bad : okRows tb.2 cs tl (R tb.1) = false := by
      cases e : okRows tb.2 cs tl (R tb.1) with
      | false => rfl
      | true =>
        have := okRows_take (i + 1) e
        rw [take_snoc hri, snoc] at this
        rw [List.any_eq_not_all_not, this] at fc
        cases fc
    unfold brokenI brokenO
    rw [fidx_at (fun r hr => by rw [hb r hr]; rfl) hr' (by rw [hld, bad]; rfl)]
  dsimp only [List.set]
  have put : (found tb.2 cs ((R tb.1).take i) row = none ∨ ∃ r0, found tb.2 cs ((R tb.1).take i) row = some r0 ∧ (tl.isEmpty || decide (heldT tb.2 tl r0 ≠ heldT tb.2 tl row)) = false) →
      SeenV tb.2 cs tl ((R tb.1).take (i + 1)) (putK kv (.inr (lwT (marks tb.2 cs row))) (.str (heldT tb.2 tl row))) ∧ okRows tb.2 cs tl ((R tb.1).take (i + 1)) = true := by
    intro hf
    rw [take_snoc hri]
    refine ⟨seen_put sv fun r0 f0 => ?_, ?_⟩
    · rcases hf with f1 | ⟨r1, f1, f2⟩
      · rw [f1] at f0
        cases f0
      · rw [f1] at f0
        cases f0
        rw [Bool.or_eq_false_iff] at f2
        exact Decidable.not_not.mp (of_decide_eq_false f2.2)
    · rw [snoc]
      have e0 : ((R tb.1).take i).any (fun a => clash tb.2 cs tl a row) = false := by
        rcases hf with f1 | ⟨r1, f1, f2⟩
        · rw [f1] at fc
          exact fc
        · rw [f1] at fc
          exact fc.trans f2
      rw [List.all_eq_not_any_not]
      simp only [Bool.not_not]
      rw [e0]
      rfl
  have fin : ∀ D : Ends, (∀ G', G' = upd G9 sd (.dK (putK kv (.inr (lwT (marks tb.2 cs row))) (.str (heldT tb.2 tl row)))) → D.nx [some (.ref td), some (.ref aR), some (.ref m), some (.int (j : Nat)), some (.ref ra), some (.ref sd), some (.ref t), some (.ref wd), some (.str (lwT (marks tb.2 cs row))), some (.str (heldT tb.2 tl row)), w10] G') → sDPut (tVar 5) (tVar 8) (tVar 9) D [some (.ref td), some (.ref aR), some (.ref m), some (.int (j : Nat)), some (.ref ra), some (.ref sd), some (.ref t), some (.ref wd), some (.str (lwT (marks tb.2 cs row))), some (.str (heldT tb.2 tl row)), w10] G9 :=
    fun D hD => ⟨_, rfl, _, rfl, _, rfl, sd, _, rfl, DPut.k (k := .inr (lwT (marks tb.2 cs row))) ekv8 (small4000 (by omega)), hD _ rfl⟩
  have offN : Off (fun a => a = sd) G6 (upd G9 sd (.dK (putK kv (.inr (lwT (marks tb.2 cs row))) (.str (heldT tb.2 tl row))))) := fun b o eb nb => by
    rw [upd_ne nb]
    exact k68 b o eb nb
  have lput : (putK kv (.inr (lwT (marks tb.2 cs row))) (.str (heldT tb.2 tl row))).length ≤ i + 1 := Nat.le_trans (length_putK _ _ _) (by omega)
  have ekv8' := DGet.k (k := .inr (lwT (marks tb.2 cs row))) ekv8
  rw [sv] at ekv8'
  cases ef : found tb.2 cs ((R tb.1).take i) row with
  | none =>
    have ef' : ((R tb.1).take i).find? (fun r => decide (lwT (marks tb.2 cs r) = lwT (marks tb.2 cs row))) = none := ef
    rw [ef'] at ekv8'
    refine ⟨_, rfl, _, rfl, sd, _, rfl, ekv8', _, rfl, ?_⟩
    obtain ⟨p1, p2⟩ := put (.inl ef)
    refine ifF rfl (ifF rfl (fin _ fun G' e => ?_))
    subst e
    exact ⟨⟨_, _, _, _, _, rfl⟩, ⟨_, upd_same, lput, p1⟩, offN, p2⟩
  | some r0 =>
    have ef' : ((R tb.1).take i).find? (fun r => decide (lwT (marks tb.2 cs r) = lwT (marks tb.2 cs row))) = some r0 := ef
    rw [ef'] at ekv8'
    refine ⟨_, rfl, _, rfl, sd, _, rfl, ekv8', _, rfl, ?_⟩
    have bad : (tl.isEmpty || decide (heldT tb.2 tl r0 ≠ heldT tb.2 tl row)) = true → Q (.int (j : Nat)) G9 := fun z => by
      have := hit ⟨r0, ef, z⟩
      rw [this] at q
      exact q _ k08
    have put' : (tl.isEmpty || decide (heldT tb.2 tl r0 ≠ heldT tb.2 tl row)) = false → _ := fun z => put (.inr ⟨r0, ef, z⟩)
    refine ifT rfl ⟨_, rfl, ra, _, 0, .str k0, rfl, rfl, sr9, a0, rfl, _, rfl, ite2 (fun c => ?_) (fun c => ?_)⟩
    · have ek : k0 = "key" := V.str.inj (of_decide_eq_true c)
      have et0 : tl = [] := by
        rcases fm with ⟨_, z⟩ | ⟨z, _⟩
        · exact List.length_eq_zero_iff.mp z
        · rw [ek] at z
          exact absurd z (by decide +kernel)
      exact ifT rfl ⟨_, rfl, bad (by rw [et0]; rfl)⟩
    · have ek : tl.length = 1 := by
        rcases fm with ⟨z, _⟩ | z
        · exact absurd (decide_eq_true (by rw [z])) c
        · exact z.2
      have ei : tl.isEmpty = false := by
        cases tl with
        | nil => cases ek
        | cons => rfl
      have dgs : DGet G9 sd (.str (lwT (marks tb.2 cs row))) (some (.str (heldT tb.2 tl r0))) := ekv8'
      refine ⟨_, rfl, _, rfl, sd, _, rfl, dgs, _, rfl, rfl, _, rfl, ?_⟩
      by_cases hh : heldT tb.2 tl r0 = heldT tb.2 tl row
      · obtain ⟨p1, p2⟩ := put' (by rw [ei, decide_eq_false (not_not_intro hh)]; rfl)
        have e1 : (!decide ((V.str (heldT tb.2 tl r0)) = V.str (heldT tb.2 tl row))) = false := by rw [hh, decide_eq_true rfl]; rfl
        refine ifF e1 (fin _ fun G' e => ?_)
        subst e
        exact ⟨⟨_, _, _, _, _, rfl⟩, ⟨_, upd_same, lput, p1⟩, offN, p2⟩
      · have e1 : (!decide ((V.str (heldT tb.2 tl r0)) = V.str (heldT tb.2 tl row))) = true := by
          rw [decide_eq_false fun z => hh (V.str.inj z)]
          rfl
        exact ifT e1 ⟨_, rfl, bad (by rw [ei, decide_eq_true hh]; rfl)⟩
end
end LW
set_option Elab.async false
set_option linter.all false
set_option maxRecDepth 100000
set_option maxHeartbeats 0
/-! _law_new_line -/
namespace LW
open PySem PySem.Spec PyProof.Rows L2 KV
theorem if_cutN {tc : TT} {A1 A2 B : TS} {D : Ends} {σ : L2.St} {H : Hp} (W : L2.St → Hp → Prop) (hB : ∀ σ' H', W σ' H' → B D σ' H') (hA : (∀ σ' H', W σ' H' → B D σ' H') → tSeq (tIfS tc A1 A2) B D σ H) : tSeq (tIfS tc A1 A2) B D σ H := hA hB
theorem ix_in {n j : Nat} (hj : j < n) : ixN n (j : Int) = some j := by
  unfold ixN
  rw [if_pos (by omega), Int.toNat_natCast]
  exact if_pos (by omega)
theorem row_lay (r : Row) : (rowD r).canLay0 = true ∧ (rowD r).depth = 1 := by
  have c : ∀ r : List Wt, PyData.canLayAll0 (r.map wD) = true := fun r => by
    induction r with
    | nil => rfl
    | cons w r ih =>
      rw [List.map_cons, PyData.canLayAll0, ih, Bool.and_true]
      cases w <;> rfl
  have d : ∀ r : List Wt, PyData.depthAll (r.map wD) = 0 := fun r => by
    induction r with
    | nil => rfl
    | cons w r ih =>
      rw [List.map_cons]
      show max (wD w).depth _ = 0
      rw [ih]
      cases w <;> rfl
  refine ⟨c r, ?_⟩
  show PyData.depthAll (r.map wD) + 1 = 1
  rw [d]
theorem shaped_rows {rows : List Row} : SeqAt.shaped (.list (rows.map rowD)) = true := by
  have c : ∀ rows : List Row, PyData.canLayAll0 (rows.map rowD) = true := fun rows => by
    induction rows with
    | nil => rfl
    | cons r rows ih =>
      rw [List.map_cons, PyData.canLayAll0, ih, (row_lay r).1]
      rfl
  have d : ∀ rows : List Row, PyData.depthAll (rows.map rowD) ≤ 1 := fun rows => by
    induction rows with
    | nil => decide
    | cons r rows ih =>
      rw [List.map_cons]
      show max (rowD r).depth _ ≤ 1
      rw [(row_lay r).2]
      omega
  unfold SeqAt.shaped
  rw [Bool.and_eq_true]
  refine ⟨c rows, decide_eq_true ?_⟩
  show PyData.depthAll (rows.map rowD) + 1 ≤ 64
  have := d rows
  omega
theorem rows_ne (rows : List Row) : (!PyData.eqv (.list (rows.map rowD)) (.list [])) = !rows.isEmpty := by
  cases rows <;> rfl
theorem at_row {r : Row} {i : Int} (h0 : 0 ≤ i) (h : i.toNat < r.length) : atI (r.map wV) i = some (wV r[i.toNat]) := by
  obtain ⟨n, rfl⟩ : ∃ n : Nat, i = (n : Int) := ⟨i.toNat, by omega⟩
  simp only [Int.toNat_natCast] at h ⊢
  exact atI_nat (by rw [List.getElem?_map, List.getElem?_eq_getElem h]; rfl)
def NLs (p ka ha : Addr) (way spot : Int) (ok : Row → Prop) (m c : Nat) (H : Hp) : L2.St → Hp → Prop := fun σ G => ∃ (X : Addr) (row : Row) (x6 x7 : Option V) (c' : Nat), σ = [some (.ref p), some (.ref ka), some (.ref ha), some (.int way), some (.ref X), some (.int spot), x6, x7] ∧ G X = some (.lst (row.map wV)) ∧ X ≠ p ∧ ok row ∧ (∀ w ∈ row, Wok w) ∧ Pu G p c' ∧ c' ≤ c + m ∧ Off (fun a => a = p) H G
theorem wok_in {a b : Row} (h : ∀ w ∈ a, Wok w) (s : ∀ w ∈ b, w ∈ a) : ∀ w ∈ b, Wok w := fun w z => h w (s w z)
theorem wok_app {a b : Row} (h : ∀ w ∈ a, Wok w) (s : ∀ w ∈ b, Wok w) : ∀ w ∈ a ++ b, Wok w := fun w z => (List.mem_append.mp z).elim (h w) (s w)
theorem off_none {p l : Addr} {H H' : Hp} {c : Nat} (k : Off (fun a => a = p) H H') (q : Pu H' p c) (n : H' l = none) : H l = none := by
  cases e : H l with
  | none => rfl
  | some o =>
    by_cases z : l = p
    · obtain ⟨xs, ex⟩ := q.lst
      rw [z, ex] at n
      cases n
    · rw [k _ _ e z] at n
      cases n
def spNewLine (K : PySem.W.Frag) : Sp := fun vs H Q _ => ∃ (p ka ha : Addr) (cols : List Str) (hv : List V) (rows : List Row) (c : Nat), vs = [.ref p, .ref ka, .ref ha] ∧ SqL K H ka (cols.map V.str) ∧ 1 ≤ cols.length ∧ cols.length ≤ 20 ∧ H ha = some (.lst hv) ∧ ha ≠ p ∧ OwAll H hv (rows.map rowD) Fp0 ∧ rows.length ≤ 1000 ∧
  (∀ r ∈ rows, r.length = cols.length ∧ ∀ w ∈ r, Wok w) ∧ Pu H p c ∧ c + 100 ≤ 1000000000 ∧ ∀ (t : Addr) (row : Row) (H' : Hp) (c' : Nat), H' t = some (.tup (row.map wV)) → row.length ≤ 21 → (∀ w ∈ row, Wok w) → Pu H' p c' → c' ≤ c + 60 → Off (fun a => a = p) H H' → Q (.ref t) H'
section
variable {P : Program} {w : World} {K : PySem.W.Frag} {mg : Str → Option Value} {base : Heap}
theorem scNewLine : FnScope ["purse", "known", "held", "way", "line", "spot", "near", "place"] ["purse", "known", "held"] (defScope sNewLine) := ⟨rfl, rfl, rfl, by decide +kernel, rfl, by decide +kernel, by decide +kernel⟩
theorem ok_newLine {f fC fW : Addr} {fd dC dW : FuncData} (F : FnP K "_law_new_line" sNewLine f fd) (C : Dn P w K mg base 1 "_law_coin" ["purse", "many"] spCoin fC dC) (W : Dn P w K mg base 2 "_law_worth" ["purse"] spWorth fW dW) (ml : mg "len" = none) (mL : mg "list" = none) (mt : mg "tuple" = none) :
    FnOk P w K mg base CX0 3 f fd ["purse", "known", "held"] (spNewLine K) := by
  refine F.ok scNewLine (fun vs H Q E h => ?_) (fun cdv A outer s H vs Q E hr h => ?_)
  · obtain ⟨p, ka, ha, cols, hv, rows, c, rfl, _⟩ := h
    rfl
  obtain ⟨p, ka, ha, cols, hv, rows, c, rfl, sk, l1, l2, eh, hp', oh, lr, rok, hp, hc, q⟩ := h
  have hu : (A.deeper (envOfC "_law_new_line" (defScope sNewLine) s.heap.objs.size f cdv)).units + 64 < cLine := hr.units
  refine ⟨_, pss_cons (ps_par (i := 3) (j := 4) rfl scNewLine.nd rfl rfl (by decide) rfl rfl (pa_cons (pe_call C.g (hr.mono (by decide)) rfl C.m C.kp C.b .nil pass0 (pa_cons (pv 0) (pa_cons pe_int pa_nil))) (pa_cons (pe_lc (own := [("place", 7)]) (g := gName 7) (tt := tYes) rfl scNewLine.nd (pi_list (pv 1)) (blkOk_by (own := [("place", 7)]) (N := ["purse", "known", "held", "way", "line", "spot", "near", "place"]) (sc := defScope sNewLine) (by decide +kernel))
      (fun _ _ _ _ _ => pg_name (i := 7) scNewLine.nd rfl (Or.inl rfl)) (fun _ _ _ _ _ => pts_nil) (fun _ _ _ _ _ => pe_call W.g hr rfl W.m W.kp W.b .nil pass0 (pa_cons (pv 0) pa_nil))) pa_nil)) rfl)
    (pss_cons (ps_set (i := 5) scNewLine.nd rfl (Or.inl rfl) (pe_call C.g (hr.mono (by decide)) rfl C.m C.kp C.b .nil pass0 (pa_cons (pv 0) (pa_cons (pe_callB call_len_seq rfl ml boot_len (pa_cons (pv 1) pa_nil)) pa_nil))))
    (pss_cons (ps_if (PW.pt (pw_and (pt_cmpR (op_neD hu) (pv 2) (pe_lst pa_nil) (nomark _)) (pw_and1 (pt_chain op_lt op_lt pe_int (pv 3) pe_int))))
        (pss_cons (ps_set (i := 6) scNewLine.nd rfl (Or.inl rfl) (pe_callTy call_list_of rfl mL boot_list (pa_cons (pe_ix ix_list (pv 2) (pe_call C.g (hr.mono (by decide)) rfl C.m C.kp C.b .nil pass0 (pa_cons (pv 0) (pa_cons (pe_callB call_len_seq rfl ml boot_len (pa_cons (pv 2) pa_nil)) pa_nil))) (fun _ _ => rfl)) pa_nil)))
        (pss_cons (ps_if (pt_cmpR op_eq (pv 3) pe_int (nomark _)) (pss_one (ps_asg (pe_ix ix_list (pv 4) (pv 5) (fun _ _ => rfl)) (pg_sub (pv 6) (pv 5) set_list))) pss_nil)
        (pss_one (ps_set (i := 4) scNewLine.nd rfl (Or.inl rfl) (pe_ifExp (pt_cmpR op_lt (pv 3) pe_int (nomark _)) (pv 6) (pe_op op_cat (pe_slice sl_list (pv 6) po_none (po_some (pv 5))) (pe_slice sl_list (pv 4) (po_some (pv 5)) po_none))))))) pss_nil)
    (pss_cons (ps_if (pt_cmpR op_eq (pv 3) pe_int (nomark _)) (pss_one (ps_set (i := 4) scNewLine.nd rfl (Or.inl rfl) (pe_ifExp (pt_cmpR op_eq (pe_call C.g (hr.mono (by decide)) rfl C.m C.kp C.b .nil pass0 (pa_cons (pv 0) (pa_cons pe_int pa_nil))) pe_int (nomark _)) (pe_slice sl_list (pv 4) (po_some pe_int) po_none) (pe_slice sl_list (pv 4) po_none (po_some (pv 5)))))) pss_nil)
    (pss_cons (ps_if (PW.pt (pw_and (pt_cmpR op_eq (pv 3) pe_int (nomark _)) (pw_and1 (pt_cmpR op_eq (pe_call C.g (hr.mono (by decide)) rfl C.m C.kp C.b .nil pass0 (pa_cons (pv 0) (pa_cons pe_int pa_nil))) pe_int (nomark _))))) (pss_one (ps_set (i := 4) scNewLine.nd rfl (Or.inl rfl) (pe_op op_cat (pv 4) (pe_lst (pa_cons (pe_ix ix_list (pv 4) (pv 5) (fun _ _ => rfl)) pa_nil))))) pss_nil)
    (pss_one (ps_ret (pe_callTy call_tuple_of rfl mt boot_tuple (pa_cons (pv 4) pa_nil)))))))), ?_⟩
  have no : ¬ False := id
  have ns : ∀ x y z : Int, cols.map V.str ≠ [.int x, .int y, .int z] := fun x y z e => by
    rcases cols with _ | ⟨a, t⟩
    · cases e
    · cases (List.cons.inj e).1
  have nth : ∀ {G : Hp} {D : Addr} {xs : List V} {c' : Nat}, Pu G p c' → G D = none → D ≠ p := fun {G D xs c'} hq hd z => by
    obtain ⟨ys, ey⟩ := hq.lst
    rw [z, ey] at hd
    cases hd
  refine ⟨_, rfl, p, 8, c, rfl, hp, by omega, by decide, by decide, fun way H1 w0 w8 hp1 b1 => ?_⟩
  have sk1 : SqL K H1 ka (cols.map V.str) := sqL_but b1.off hp sk ns
  have lk : (cols.map V.str).length = cols.length := List.length_map _
  refine ⟨_, rfl, ka, rfl, ⟨_, sk1⟩, fun D hD => lc_list (K := K) (a := ka) (xs := cols.map V.str) (fun i G => ∃ (row : Row) (c' : Nat), G D = some (.lst (row.map wV)) ∧ row.length = i ∧ (∀ w ∈ row, Wok w) ∧ Pu G p c' ∧ c' ≤ c + 1 + 2 * i ∧ Off (fun a => a = p) H1 G)
    ?_ (fun i G _ g => ?_) (fun i x G hx g => ?_) fun G g => ?_⟩
  · exact ⟨[], c + 1, upd_same, rfl, fun w z => by simp at z, hp1.off (Off.new (G := fun _ => False) hD) no, by omega, Off.new hD⟩
  · obtain ⟨row, c', g1, g2, g3, g4, g5, g6⟩ := g
    exact sqL_but g6 hp1 sk1 ns
  · obtain ⟨row, c', g1, g2, g3, g4, g5, g6⟩ := g
    have hi := (List.getElem?_eq_some_iff.mp hx).1
    have nDp : D ≠ p := nth (xs := []) hp1 hD
    refine ⟨rfl, _, rfl, p, c', rfl, g4, by omega, fun w G2 c2 wk p2 l2' k2 => ⟨_, (k2 _ _ g1 nDp), ?_, row ++ [w], c2, ?_, ?_, ?_, ?_, ?_, ?_⟩⟩
    · rw [List.length_map]
      exact small4000 (by omega)
    · rw [upd_same, List.map_append]
      rfl
    · rw [List.length_append, g2]
      rfl
    · intro u hu
      rcases List.mem_append.mp hu with hu | hu
      · exact g3 u hu
      · rw [List.mem_singleton.mp hu]
        exact wk
    · exact p2.at (upd_ne nDp.symm)
    · omega
    · intro a u ea na
      rw [upd_ne (fun z => by rw [z, hD] at ea; cases ea)]
      exact k2 _ _ (g6 a u ea na) na
  obtain ⟨line, c', g1, g2, g3, g4, g5, g6⟩ := g
  have nDp : D ≠ p := nth (xs := []) hp1 hD
  have k6 : Off (fun a => a = p) H G := b1.off.trans g6
  rw [lk] at g2 g5
  refine ⟨_, _, rfl, ?_⟩
  refine ⟨_, rfl, _, rfl, ka, _, rfl, .inl (sqL_but k6 hp sk ns), p, _, c', rfl, g4, by omega, by rw [lk]; omega, by rw [lk]; omega, fun spot H3 i0 i1 hp3 b3 => ?_⟩
  rw [lk] at i1
  have k3 := k6.trans b3.off
  have e3 := b3.off _ _ g1 nDp
  dsimp only [gName]
  obtain ⟨pxs, ep⟩ := id hp.lst
  have pl : ∀ a, a = p → ∃ xs, H a = some (.lst xs) ∨ ∃ kv, H a = some (.dK kv) := fun a z => ⟨pxs, .inl (z ▸ ep)⟩
  have pl' : ∀ a, a = p → ∃ xs, H a = some (.lst xs) := fun a z => ⟨pxs, z ▸ ep⟩
  have s2 : ∀ {n : Nat}, n ≤ 60 → n ≤ sizeLine := fun h => Nat.le_trans h (by decide)
  refine if_cutN (NLs p ka ha way spot (fun r => r.length = cols.length) 45 c H) (fun σ' G' gg => ?_) (fun rest => ?_)
  rotate_left
  · have ehG := k3 _ _ eh hp'
    have ohG := oh.keep k3 pl' (fun _ z => z.elim)
    refine ⟨_, rfl, (by show 0 ≤ sizeLine; decide), fun m nm => ?_⟩
    have kM : Off (fun _ => False) H3 (upd H3 m (.lst [])) := Off.new nm
    have em := upd_same (H := H3) (a := m) (o := .lst [])
    generalize upd H3 m (.lst []) = H4 at kM em ⊢
    have k4 : Off (fun a => a = p) H H4 := k3.trans (kM.mono fun _ z => z.elim)
    have e4 := kM _ _ e3 no
    have p4 : Pu H4 p (c' + 1) := hp3.off kM no
    have miss := rest _ _ ⟨D, line, none, none, c' + 1, rfl, e4, nDp, g2, g3, p4, by omega, k4⟩
    have ehG4 := k4 _ _ eh hp'
    have ohG4 := oh.keep k4 pl' (fun _ z => z.elim)
    refine ⟨.list (rows.map rowD), .list [], .lst (SqL.of ehG4) ohG4.dp, .lst (SqL.of em) .nil, shaped_rows, rfl, _, rfl, ?_⟩
    rw [rows_ne]
    refine ite2 (fun c1 => ?_) (fun _ => iteF miss)
    refine ⟨_, rfl, _, _, rfl, rfl, _, rfl, ite2 (fun c2 => ?_) (fun c2 => ⟨_, rfl, iteF miss⟩)⟩
    refine ⟨_, _, rfl, rfl, _, rfl, ite2 (fun c3 => ?_) (fun c3 => miss)⟩
    have rne : 1 ≤ rows.length := by
      cases rows with
      | nil => cases c1
      | cons => simp
    have lhv : hv.length = rows.length := by rw [oh.length, List.length_map]
    refine ⟨_, rfl, _, rfl, _, rfl, ha, _, rfl, .inl (SqL.of ehG4), p, _, c' + 1, rfl, p4, by omega, by omega, by omega, fun j H5 j0 j1 hp5 b5 => ?_⟩
    have k5 := k4.trans b5.off
    have e5 := b5.off _ _ e4 nDp
    have hjn : j.toNat < rows.length := by omega
    obtain ⟨v, hv1, ov⟩ := owAll_get oh (i := j.toNat) (d := rowD rows[j.toNat]) (by rw [List.getElem?_map, List.getElem?_eq_getElem hjn]; rfl)
    obtain ⟨t, rfl, et⟩ := ow_row ov
    have et5 := k5 _ _ et fun z => by rw [z, ep] at et; cases et
    have mem := List.getElem_mem hjn
    generalize rows[j.toNat] = r at et5 mem
    obtain ⟨lr', wr⟩ := rok r mem
    have at0 : atI hv j = some (.ref t) := by
      have : j = ((j.toNat : Nat) : Int) := by omega
      rw [this]
      exact atI_nat hv1
    refine ⟨ha, hv, j, .ref t, rfl, rfl, SqL.of (k5 _ _ eh hp'), at0, t, _, rfl, .inr (SqT.of et5), fun l nl => ?_⟩
    have kl : Off (fun _ => False) H5 (upd H5 l (.lst (r.map wV))) := Off.new nl
    have el := upd_same (H := H5) (a := l) (o := .lst (r.map wV))
    have nlp : l ≠ p := nth (xs := []) hp5 nl
    have nDl : D ≠ l := fun z => by rw [← z, e5] at nl; cases nl
    generalize upd H5 l (.lst (r.map wV)) = H6 at kl el ⊢
    have e6 := kl _ _ e5 no
    have p6 : Pu H6 p (c' + 2) := hp5.off kl no
    have k6' : Off (fun a => a = p) H H6 := k5.trans (kl.mono fun _ z => z.elim)
    have sn : ((spot.toNat : Nat) : Int) = spot := by omega
    dsimp only [gName]
    refine if_cutN (fun σ G => ∃ (r : Row) (x7 : Option V), σ = [some (.ref p), some (.ref ka), some (.ref ha), some (.int way), some (.ref D), some (.int spot), some (.ref l), x7] ∧ G D = some (.lst (line.map wV)) ∧ G l = some (.lst (r.map wV)) ∧ r.length = cols.length ∧ (∀ w ∈ r, Wok w) ∧ Pu G p (c' + 2) ∧ Off (fun a => a = p) H G) (fun σ' G' gg => ?_) (fun rest2 => ?_)
    rotate_left
    · refine ⟨_, rfl, rfl, _, rfl, ite2 (fun c4 => ?_) (fun _ => rest2 _ _ ⟨r, none, rfl, e6, el, lr', wr, p6, k6'⟩)⟩
      have hsp : spot.toNat < line.length := by omega
      refine ⟨_, rfl, _, rfl, D, _, spot, wV line[spot.toNat], rfl, rfl, SqL.of e6, ?_, _, rfl, _, rfl, l, _, spot, spot.toNat, rfl, rfl, el, ?_, ?_⟩
      · exact at_row i0 hsp
      · rw [← sn]
        exact ix_in (by rw [List.length_map]; omega)
      · rw [← List.map_set]
        refine rest2 _ _ ⟨r.set spot.toNat line[spot.toNat], none, rfl, by rw [upd_ne nDl]; exact e6, upd_same, by rw [List.length_set]; exact lr', ?_, p6.at (upd_ne nlp.symm), fun a u ea na => ?_⟩
        · intro w hw
          rcases List.mem_or_eq_of_mem_set hw with hw | rfl
          · exact wr w hw
          · exact g3 _ (List.getElem_mem _)
        · rw [upd_ne (fun z => by rw [z, off_none k5 hp5 nl] at ea; cases ea)]
          exact k6' a u ea na
    · obtain ⟨r, x7, rfl, eD, el, lr', wr, p6, k6'⟩ := gg
      refine ⟨_, rfl, _, _, rfl, rfl, _, rfl, ite2 (fun c5 => ?_) (fun c5 => ?_)⟩
      · exact ⟨_, rfl, rest _ _ ⟨l, r, some (.ref l), x7, c' + 2, rfl, el, nlp, lr', wr, p6, by omega, k6'⟩⟩
      · refine ⟨_, rfl, _, rfl, _, rfl, l, _, rfl, SqL.of el, fun q1 n1 => ?_⟩
        have j1 : Off (fun _ => False) G' (upd G' q1 (.lst (cutV (r.map wV) none (some spot)))) := Off.new n1
        have f1 := upd_same (H := G') (a := q1) (o := .lst (cutV (r.map wV) none (some spot)))
        generalize upd G' q1 (.lst (cutV (r.map wV) none (some spot))) = G1 at j1 f1 ⊢
        refine ⟨_, rfl, _, rfl, _, rfl, D, _, rfl, SqL.of (j1 _ _ eD no), fun q2 n2 => ?_⟩
        have j2 : Off (fun _ => False) G1 (upd G1 q2 (.lst (cutV (line.map wV) (some spot) none))) := Off.new n2
        have f2 := upd_same (H := G1) (a := q2) (o := .lst (cutV (line.map wV) (some spot) none))
        generalize upd G1 q2 (.lst (cutV (line.map wV) (some spot) none)) = G2 at j2 f2 ⊢
        rw [cutV_head i0] at f1
        rw [cutV_tail i0] at f2
        refine ⟨q1, q2, _, _, rfl, rfl, j2 _ _ f1 no, f2, ?_, fun q3 n3 => ?_⟩
        · simp only [List.length_take, List.length_drop, List.length_map]
          exact s2 (by omega)
        · have j3 : Off (fun _ => False) G2 (upd G2 q3 (.lst ((r.map wV).take spot.toNat ++ (line.map wV).drop spot.toNat))) := Off.new n3
          have f3 := upd_same (H := G2) (a := q3) (o := .lst ((r.map wV).take spot.toNat ++ (line.map wV).drop spot.toNat))
          generalize upd G2 q3 (.lst ((r.map wV).take spot.toNat ++ (line.map wV).drop spot.toNat)) = G3 at j3 f3 ⊢
          have j03 := (j1.trans j2).trans j3
          have p9 : Pu G3 p (c' + 2) := p6.off j03 no
          refine rest _ _ ⟨q3, r.take spot.toNat ++ line.drop spot.toNat, some (.ref l), x7, c' + 2, rfl, ?_, ?_, ?_, ?_, p9, by omega, k6'.trans (j03.mono fun _ z => z.elim)⟩
          · rw [f3, List.map_append, List.map_take, List.map_drop]
          · exact fun z => by
              obtain ⟨ys, ey⟩ := (p6.off (j1.trans j2) no).lst
              rw [z, ey] at n3
              cases n3
          · show (r.take spot.toNat ++ line.drop spot.toNat).length = cols.length
            rw [List.length_append, List.length_take, List.length_drop]
            omega
          · exact wok_app (wok_in wr fun _ => List.mem_of_mem_take) (wok_in g3 fun _ => List.mem_of_mem_drop)
  obtain ⟨X, row, x6, x7, c1, rfl, eX, nX, lrow, wrow, pc, lc, kc⟩ := gg
  refine if_cutN (NLs p ka ha way spot (fun r => (way ≠ 6 → r.length = cols.length) ∧ r.length ≤ cols.length) 46 c H) (fun σ' G'' gg => ?_) (fun rest => ?_)
  rotate_left
  · refine ⟨_, rfl, rfl, _, rfl, ite2 (fun c4 => ?_) (fun c4 => rest _ _ ⟨X, row, x6, x7, c1, rfl, eX, nX, ⟨fun _ => lrow, by omega⟩, wrow, pc, by omega, kc⟩)⟩
    have w6 : way = 6 := V.int.inj (of_decide_eq_true c4)
    refine ⟨_, rfl, p, 2, c1, rfl, pc, by omega, by decide, by decide, fun j G5 j0 j1 p5 b5 => ⟨rfl, _, rfl, ite2 (fun c5 => ?_) (fun c5 => ?_)⟩⟩
    all_goals
      have eX5 := b5.off _ _ eX nX
      have kc5 := kc.trans b5.off
    · refine ⟨_, rfl, _, rfl, X, _, rfl, SqL.of eX5, fun q1 n1 => ?_⟩
      have jj : Off (fun _ => False) G5 (upd G5 q1 (.lst (cutV (row.map wV) (some 1) none))) := Off.new n1
      have f1 := upd_same (H := G5) (a := q1) (o := .lst (cutV (row.map wV) (some 1) none))
      have np : q1 ≠ p := nth (xs := []) p5 n1
      generalize upd G5 q1 (.lst (cutV (row.map wV) (some 1) none)) = G1 at jj f1 ⊢
      rw [cutV_tail (by decide)] at f1
      refine rest _ _ ⟨q1, row.drop 1, x6, x7, c1 + 1, rfl, ?_, np, ⟨fun z => absurd w6 z, by rw [List.length_drop]; omega⟩, wok_in wrow fun _ => List.mem_of_mem_drop, p5.off jj no, by omega, kc5.trans (jj.mono fun _ z => z.elim)⟩
      rw [f1, List.map_drop]
      rfl
    · refine ⟨_, rfl, _, rfl, _, rfl, X, _, rfl, SqL.of eX5, fun q1 n1 => ?_⟩
      have jj : Off (fun _ => False) G5 (upd G5 q1 (.lst (cutV (row.map wV) none (some spot)))) := Off.new n1
      have f1 := upd_same (H := G5) (a := q1) (o := .lst (cutV (row.map wV) none (some spot)))
      have np : q1 ≠ p := nth (xs := []) p5 n1
      generalize upd G5 q1 (.lst (cutV (row.map wV) none (some spot))) = G1 at jj f1 ⊢
      rw [cutV_head i0] at f1
      refine rest _ _ ⟨q1, row.take spot.toNat, x6, x7, c1 + 1, rfl, ?_, np, ⟨fun z => absurd w6 z, by rw [List.length_take]; omega⟩, wok_in wrow fun _ => List.mem_of_mem_take, p5.off jj no, by omega, kc5.trans (jj.mono fun _ z => z.elim)⟩
      rw [f1, List.map_take]
  obtain ⟨X, row, x6, x7, c1, rfl, eX, nX, ⟨lrow, lrow'⟩, wrow, pc, lc, kc⟩ := gg
  refine if_cutN (NLs p ka ha way spot (fun r => r.length ≤ 21) 47 c H) (fun σ' G'' gg => ?_) (fun rest => ?_)
  rotate_left
  · refine ⟨_, rfl, rfl, _, rfl, ite2 (fun c4 => ?_) (fun c4 => iteF (rest _ _ ⟨X, row, x6, x7, c1, rfl, eX, nX, by omega, wrow, pc, by omega, kc⟩))⟩
    have w7 : way = 7 := V.int.inj (of_decide_eq_true c4)
    have lr7 := lrow (by omega)
    refine ⟨_, rfl, p, 2, c1, rfl, pc, by omega, by decide, by decide, fun j G5 j0 j1 p5 b5 => ⟨rfl, _, rfl, ite2 (fun c5 => ?_) (fun c5 => rest _ _ ⟨X, row, x6, x7, c1 + 1, rfl, b5.off _ _ eX nX, nX, by omega, wrow, p5, by omega, kc.trans b5.off⟩)⟩⟩
    have eX5 := b5.off _ _ eX nX
    have kc5 := kc.trans b5.off
    have hsp : spot.toNat < row.length := by omega
    refine ⟨_, rfl, _, rfl, _, rfl, X, _, spot, wV row[spot.toNat], rfl, rfl, SqL.of eX5, ?_, (by show 1 ≤ sizeLine; decide), fun q1 n1 => ?_⟩
    · exact at_row i0 hsp
    have jj : Off (fun _ => False) G5 (upd G5 q1 (.lst [wV row[spot.toNat]])) := Off.new n1
    have f1 := upd_same (H := G5) (a := q1) (o := .lst [wV row[spot.toNat]])
    generalize upd G5 q1 (.lst [wV row[spot.toNat]]) = G1 at jj f1 ⊢
    refine ⟨X, q1, _, _, rfl, rfl, jj _ _ eX5 no, f1, ?_, fun q2 n2 => ?_⟩
    · rw [List.length_map]
      exact s2 (by show row.length + 1 ≤ 60; omega)
    have p6 := p5.off jj no
    have np : q2 ≠ p := nth (xs := []) p6 n2
    have j2 : Off (fun _ => False) G1 (upd G1 q2 (.lst (row.map wV ++ [wV row[spot.toNat]]))) := Off.new n2
    have f2 := upd_same (H := G1) (a := q2) (o := .lst (row.map wV ++ [wV row[spot.toNat]]))
    generalize upd G1 q2 (.lst (row.map wV ++ [wV row[spot.toNat]])) = G2 at j2 f2 ⊢
    refine rest _ _ ⟨q2, row ++ [row[spot.toNat]], x6, x7, c1 + 1, rfl, ?_, np, by simp; omega, wok_app wrow fun w hw => by rw [List.mem_singleton.mp hw]; exact wrow _ (List.getElem_mem _), p6.off j2 no, by omega, kc5.trans ((jj.trans j2).mono fun _ z => z.elim)⟩
    rw [f2, List.map_append]
    rfl
  obtain ⟨X, row, x6, x7, c1, rfl, eX, nX, lrow, wrow, pc, lc, kc⟩ := gg
  refine ⟨_, rfl, X, _, rfl, .inl ⟨SqL.of eX, fun l nl => ?_⟩⟩
  exact q l row _ c1 upd_same lrow wrow (pc.off (Off.new (G := fun _ => False) nl) no) (by omega) (kc.trans (Off.new nl))
end
end LW
set_option Elab.async false
set_option linter.all false
set_option maxRecDepth 100000
set_option maxHeartbeats 0
/-! _law_put_due -/
namespace LW
open PySem PySem.Spec PyProof.Rows L2 KV
theorem walk_keys {d : Addr} {o : Obj} {kvs : List (Key × V)} : Walk (Itk d o kvs) kvs.length (fun H => H d = some (.frz o (.dK kvs))) (fun i H x H' => H' = H ∧ ∃ k v, kvs[i]? = some (k, v) ∧ x = kV k) :=
  ⟨fun i H hi g => ⟨g, hi⟩, fun H g => ⟨g, Nat.le_refl _⟩, fun i H x H' _ _ y => y⟩
theorem titK_keys {K : PySem.W.Frag} {H : Hp} : ∀ {kvs : List (Key × V)} {ts : List Tab}, TitK K H kvs ts → kvs.map Prod.fst = ts.map fun t => (.inr t.1 : Key)
  | _, _, .nil => rfl
  | _, _, .cons h r => by
    rw [List.map_cons, List.map_cons, titK_keys r]
theorem titK_key {K : PySem.W.Frag} {H : Hp} {kvs : List (Key × V)} {ts : List Tab} (h : TitK K H kvs ts) {i : Nat} {k : Key} {v : V} (e : kvs[i]? = some (k, v)) : ∃ t, ts[i]? = some t ∧ k = .inr t.1 := by
  have := titK_keys h
  have e1 : (kvs.map Prod.fst)[i]? = some k := by rw [List.getElem?_map, e]; rfl
  rw [this, List.getElem?_map] at e1
  obtain ⟨t, h1, h2⟩ := Option.map_eq_some_iff.mp e1
  exact ⟨t, h1, h2.symm⟩
theorem tabOf_in {ts : List Tab} {x : Str} : tabOf ts x = none ↔ x ∉ ts.map Prod.fst := by
  unfold tabOf
  rw [List.find?_eq_none]
  constructor
  · intro h z
    obtain ⟨t, ht, e⟩ := List.mem_map.mp z
    exact h t ht (decide_eq_true e)
  · intro h t ht e
    exact h (List.mem_map.mpr ⟨t, ht, of_decide_eq_true e⟩)
theorem dkv_keys (ts : List Tab) (L : Str → Addr) : (dkv ts L).map Prod.fst = (ts.map Prod.fst).map Sum.inr := by
  unfold dkv
  simp
theorem merge_dkv {ts : List Tab} {L : Str → Addr} (nd : (ts.map Prod.fst).Nodup) : mergeK [] (dkv ts L) = dkv ts L := by
  have := mergeK_new (acc := []) (more := dkv ts L) (by
    rw [List.nil_append, dkv_keys]
    exact List.Pairwise.map _ (fun a b h z => h (Sum.inr.inj z)) nd)
  simpa using this
theorem dkv_new {ts : List Tab} {L : Str → Addr} {t : Tab} {l : Addr} (n : t.1 ∉ ts.map Prod.fst) : dkv (ts ++ [t]) (fun y => if y = t.1 then l else L y) = dkv ts L ++ [(.inr t.1, .ref l)] := by
  unfold dkv
  rw [List.map_append]
  congr 1
  · refine List.map_congr_left fun u hu => ?_
    dsimp only
    rw [if_neg fun z : u.1 = t.1 => n (z ▸ List.mem_map.mpr ⟨u, hu, rfl⟩)]
  · simp
theorem fst_inj {ts : List Tab} (nd : (ts.map Prod.fst).Nodup) {a b : Tab} (ha : a ∈ ts) (hb : b ∈ ts) (e : a.1 = b.1) : a = b := by
  obtain ⟨i, hi⟩ := List.getElem?_of_mem ha
  obtain ⟨j, hj⟩ := List.getElem?_of_mem hb
  have e1 : (ts.map Prod.fst)[i]? = some a.1 := by rw [List.getElem?_map, hi]; rfl
  have e2 : (ts.map Prod.fst)[j]? = some a.1 := by rw [List.getElem?_map, hj, e]; rfl
  have := (List.getElem?_inj (List.getElem?_eq_some_iff.mp e1).1 nd).mp (e1.trans e2.symm)
  subst this
  rw [hi] at hj
  exact Option.some.inj hj
theorem paired_app {α β : Type} {F : α → β → Prop} {x : α} {y : β} (h : F x y) : ∀ {a : List α} {b : List β}, Paired F a b → Paired F (a ++ [x]) (b ++ [y])
  | [], [], _ => .cons h .nil
  | [], _ :: _, z => by cases z
  | _ :: _, [], z => by cases z
  | _ :: _, _ :: _, .cons g r => .cons g (paired_app h r)
theorem sqT_lst {K : PySem.W.Frag} {G G' : Hp} {D a : Addr} {xs ys : List V} (k : Off (fun a => a = D) G G') (e : G D = some (.lst ys)) (h : SqT K G a xs) : SqT K G' a xs := by
  rcases h with (h | ⟨o, h⟩) | h
  · refine .inl (.inl (k _ _ h fun z => ?_))
    rw [z, e] at h
    cases h
  · refine .inl (.inr ⟨o, k _ _ h fun z => ?_⟩)
    rw [z, e] at h
    cases h
  · exact .inr h
/-- an error that is due, as the law tells it -/
def endDue (H : Hp) (Q : VK) : Option (Str × PyData) → Prop
  | none => ∀ H', Off (fun _ => False) H H' → Q .non H'
  | some (y, e) => ∀ T v H', H' T = some (.tup [.str y, v]) → Ow H' v e Fp0 → Off (fun _ => False) H H' → Q (.ref T) H'
/-- the plan: the dict of titles and the rules -/
structure Plan (K : PySem.W.Frag) (H : Hp) (pl : Addr) (ts : List Tab) (rs : List RB) : Prop where
  ex : ∃ (td : Addr) (v : V) (kvs : List (Key × V)), H pl = some (.tup [.ref td, v]) ∧ H td = some (.dK kvs) ∧ TitK K H kvs ts ∧ Dp K H v (rbsD rs)
def spPutDue (K : PySem.W.Frag) : Sp := fun vs H Q _ => ∃ (pl m t : Addr) (x : Str) (L : Str → Addr) (ts : List Tab) (rs : List RB) (R : Str → List Row) (row : Row) (N M : Nat), vs = [.ref pl, .ref m, .str x, .ref t] ∧ Plan K H pl ts rs ∧ (∀ r ∈ rs, RbOk N M r) ∧ M ≤ 1000 ∧ rs.length ≤ 1000 ∧
  ts.length ≤ 1000 ∧ (ts.map Prod.fst).Nodup ∧ wrongs ts rs = none ∧ LinA H m L ts R ∧ (∀ td v, H pl = some (.tup [.ref td, v]) → m ≠ td) ∧ H t = some (.tup (row.map wV)) ∧ row.length ≤ 1000 ∧ (∀ w ∈ row, Wok w) ∧ RowsOk ts R ∧ (∀ t ∈ ts, (R t.1).length ≤ 900) ∧ TabsNd ts ∧ brokenO ts rs R = none ∧ endDue H Q (putDue ts rs R x row)
section
variable {P : Program} {w : World} {K : PySem.W.Frag} {mg : Str → Option Value} {base : Heap}
theorem scPutDue : FnScope ["plan", "lines", "title", "line", "titles", "rules_here", "trial", "spot", "word"] ["plan", "lines", "title", "line"] (defScope sPutDue) := ⟨rfl, rfl, rfl, by decide +kernel, rfl, by decide +kernel, by decide +kernel⟩
theorem ok_putDue {f fB : Addr} {fd dB : FuncData} (F : FnP K "_law_put_due" sPutDue f fd) (B : DnC P w K mg base 1 "_law_broken" ["titles", "rules_here", "lines"] (spBroken K) fB dB) (ml : mg "len" = none) (md : mg "dict" = none) : FnC P w K mg base CX0 2 f fd ["plan", "lines", "title", "line"] (spPutDue K) := by
  refine Fun.okC F scPutDue (fun vs H Q E h => ?_) (fun cdv A outer s H vs Q E hG hr h => ?_)
  · obtain ⟨pl, m, t, x, L, ts, rs, R, row, N, M, rfl, _⟩ := h
    rfl
  obtain ⟨pl, m, t, x, L, ts, rs, R, row, N, M, rfl, pn, ro, hM, lrs, lts, tnd, ws, li, hmt', et, lrow, wok, rok, l9, nd, bo, q⟩ := h
  have hu1 := Nat.lt_of_le_of_lt (Nat.add_le_add_left (show 1 ≤ 64 by decide) _) hr.units
  refine ⟨_, PSs.nox (pss_cons (ps_asg (pv 0) (pg_tup rfl (pgs_cons (pg_name (i := 4) scPutDue.nd rfl (Or.inl rfl)) (pgs_cons (pg_name (i := 5) scPutDue.nd rfl (Or.inl rfl)) pgs_nil))))
    (pss_cons (ps_if (pt_cmp (pc_dnotin hu1 (pv 2) (pv 4))) (pss_one (ps_ret (pe_tup (pa_cons pe_str (pa_cons (pv 2) pa_nil))))) pss_nil)
    (pss_cons (ps_if (pt_cmpR op_ne (pe_callB call_len_seq rfl ml boot_len (pa_cons (pv 3) pa_nil)) (pe_callB call_len_seq rfl ml boot_len (pa_cons (pe_dget hu1 (pv 4) (pv 2) (fun _ _ => rfl)) pa_nil)) (nomark _)) (pss_one (ps_ret (pe_tup (pa_cons pe_str (pa_cons (pv 3) pa_nil))))) pss_nil)
    (pss_cons (ps_set (i := 6) scPutDue.nd rfl (Or.inl rfl) (pe_callTy (call_dictP rfl) rfl md (by decide +kernel) (pa_cons (pe_lock (pe_lc (own := [("word", 8)]) (g := gName 8) (tt := tYes) rfl scPutDue.nd (pi_keys (pv 4)) (blkOk_by (own := [("word", 8)]) (N := ["plan", "lines", "title", "line", "titles", "rules_here", "trial", "spot", "word"]) (sc := defScope sPutDue) (by decide +kernel))
        (fun _ _ _ _ _ => pg_name (i := 8) scPutDue.nd rfl (Or.inl rfl)) (fun _ _ _ _ _ => pts_nil)
        (fun _ _ _ _ _ => pe_tup (pa_cons (pv 8) (pa_cons (pe_op op_cat (pe_dget hu1 (pv 1) (pv 8) (fun _ _ => rfl)) (pe_ifExp (pt_cmpR op_eq (pv 8) (pv 2) (nomark _)) (pe_lst (pa_cons (pv 3) pa_nil)) (pe_lst pa_nil))) pa_nil))))) pa_nil)))
    (pss_cons (ps_set (i := 7) scPutDue.nd rfl (Or.inl rfl) (pe_callC hG B.g (hr.mono (by decide)) rfl B.m B.kp B.b pass0 (pa_cons (pv 4) (pa_cons (pv 5) (pa_cons (pv 6) pa_nil)))))
    (pss_one (ps_ret (pe_ifExp (pt_cmpR op_lt (pv 7) pe_int (nomark _)) pe_non (pe_tup (pa_cons pe_str (pa_cons (pv 7) pa_nil))))))))))), ?_⟩
  have no : ¬ False := id
  obtain ⟨td, v, kvs, epl, etd, tk, dr⟩ := pn.ex
  have l2 : 2 ≤ sizeLine := by decide
  have hmt := hmt' _ _ epl
  refine ⟨_, rfl, pl, _, rfl, SqT.of epl, rfl, _, _, rfl, _, _, rfl, rfl, ?_⟩
  have dg := DGet.k (k := .inr x) etd
  rcases titK_at (x := x) tk with ⟨z1, z2⟩ | ⟨vc, tb, u1, u2, u3⟩
  · rw [z1] at dg
    refine ⟨_, rfl, _, rfl, td, _, rfl, dg, _, rfl, iteT ⟨_, rfl, l2, fun T nT => ?_⟩⟩
    rw [putDue_no z2] at q
    exact q T _ _ upd_same (.str x fun _ z => z) (Off.new nT)
  rw [u1] at dg
  refine ⟨_, rfl, _, rfl, td, _, rfl, dg, _, rfl, iteF ?_⟩
  obtain ⟨ca, rfl, sca⟩ := dp_cols u3
  refine ⟨_, rfl, t, _, rfl, .inr (SqT.of et), _, rfl, _, rfl, td, _, rfl, dg, ca, _, rfl, .inl sca, rfl, _, rfl, ?_⟩
  rw [List.length_map, List.length_map]
  by_cases hl : row.length = tb.2.length
  rotate_left
  · rw [decide_eq_false (show ¬ (V.int (row.length : Nat) = V.int (tb.2.length : Nat)) from fun z => hl (by have := V.int.inj z; omega))]
    refine iteT ⟨_, rfl, l2, fun T nT => ?_⟩
    rw [putDue_len u2 hl] at q
    exact q T _ _ upd_same (ow_row_mk (Off.new (G := fun _ => False) nT _ _ et no)) (Off.new nT)
  rw [decide_eq_true (show V.int (row.length : Nat) = V.int (tb.2.length : Nat) by rw [hl])]
  refine iteF ?_
  rw [putDue_rule u2 hl] at q
  obtain ⟨mtb, ytb⟩ := tabOf_mem u2
  have lkv := titK_len tk
  refine ⟨td, .dK kvs, etd, trivial, fun od => ?_⟩
  have kd : Off (fun a => a = td) H (upd H td (.frz od (.dK kvs))) := Off.upd rfl
  have ed1 := upd_same (H := H) (a := td) (o := .frz od (.dK kvs))
  generalize upd H td (.frz od (.dK kvs)) = H1 at kd ed1 ⊢
  refine ⟨_, rfl, td, od, rfl, .inl ⟨kvs, ed1, fun D hD => lc_it walk_keys (fun i G => G td = some (.frz od (.dK kvs)) ∧ Off (fun a => a = td) H G ∧ ∃ (ps : List Addr) (L2 : Str → Addr), G D = some (.lst (ps.map V.ref)) ∧ ps.length = i ∧ Paired (fun p kv => SqT K G p [kV kv.1, kv.2]) ps (dkv (ts.take i) L2) ∧
      ∀ u ∈ ts.take i, L2 u.1 ≠ D ∧ ∃ vs, G (L2 u.1) = some (.lst vs) ∧ OwAll H vs ((setR R x (R x ++ [row]) u.1).map rowD) Fp0)
    ⟨?_, ?_, [], L, upd_same, rfl, .nil, fun u hu => by simp at hu⟩ (fun i G _ g => g.1) (fun i y G G' hi g yy => ?_) fun G g => ?_⟩⟩
  · rw [upd_ne (fun z => by rw [← z, ed1] at hD; cases hD)]
    exact ed1
  · exact kd.trans (Off.in (Off.new hD))
  · obtain ⟨g1, g2, ps, L2, g3, g4, g5, g6⟩ := g
    obtain ⟨rfl, k, v', ek, rfl⟩ := yy
    obtain ⟨u, hu, rfl⟩ := titK_key tk ek
    have mu := List.mem_of_getElem? hu
    obtain ⟨vs, ev, ov⟩ := li.rows u mu
    have ntd : ∀ {a : Addr} {xs : List V}, H a = some (.lst xs) → a ≠ td := fun h z => by rw [z, etd] at h; cases h
    have evG := g2 _ _ ev (ntd ev)
    have emG := g2 _ _ li.dic hmt
    have dgm := DGet.k (k := .inr u.1) emG
    rw [valV_dkv, if_pos (List.mem_map.mpr ⟨u, mu, rfl⟩)] at dgm
    have etG := g2 _ _ et fun z => by rw [z, etd] at et; cases et
    have lvs : vs.length = (R u.1).length := by rw [ov.length, List.length_map]
    have l9u := l9 u mu
    have nD : D ≠ td := fun z => by rw [z, g1] at g3; cases g3
    have nu : u.1 ∉ (ts.take i).map Prod.fst := fun z => by
      obtain ⟨w0, hw, ew⟩ := List.mem_map.mp z
      obtain ⟨j, hj⟩ := List.getElem?_of_mem hw
      have jl : j < i := by
        have := (List.getElem?_eq_some_iff.mp hj).1
        rw [List.length_take] at this
        omega
      rw [List.getElem?_take_of_lt jl] at hj
      have e1 : (ts.map Prod.fst)[j]? = some u.1 := by rw [List.getElem?_map, hj, ← ew]; rfl
      have e2 : (ts.map Prod.fst)[i]? = some u.1 := by rw [List.getElem?_map, hu]; rfl
      have hjl := (List.getElem?_eq_some_iff.mp e1).1
      have := (List.getElem?_inj hjl tnd).mp (e1.trans e2.symm)
      omega
    -- the rest, once the longer list stands at l
    have fin : ∀ (G2 : Hp) (l : Addr) (ws : List V), Off (fun _ => False) G' G2 → G2 l = some (.lst ws) → l ≠ D → OwAll H ws ((setR R x (R x ++ [row]) u.1).map rowD) Fp0 → ∀ T, G2 T = none → ∃ acc, (upd G2 T (.tup [.str u.1, .ref l])) D = some (.lst acc) ∧ acc.length < sizeLine ∧ (fun i G => G td = some (.frz od (.dK kvs)) ∧ Off (fun a => a = td) H G ∧ ∃ (ps : List Addr) (L2 : Str → Addr), G D = some (.lst (ps.map V.ref)) ∧ ps.length = i ∧ Paired (fun p kv => SqT K G p [kV kv.1, kv.2]) ps (dkv (ts.take i) L2) ∧
      ∀ u ∈ ts.take i, L2 u.1 ≠ D ∧ ∃ vs, G (L2 u.1) = some (.lst vs) ∧ OwAll H vs ((setR R x (R x ++ [row]) u.1).map rowD) Fp0) (i + 1) (upd (upd G2 T (.tup [.str u.1, .ref l])) D (.lst (acc ++ [.ref T]))) := by
      intro G2 l ws j1 el lD ow T nT
      have jT : Off (fun _ => False) G2 (upd G2 T (.tup [.str u.1, .ref l])) := Off.new nT
      have eT := upd_same (H := G2) (a := T) (o := .tup [.str u.1, .ref l])
      generalize upd G2 T (.tup [.str u.1, .ref l]) = G3 at jT eT ⊢
      have j13 := j1.trans jT
      have gD := j13 _ _ g3 no
      have el3 := jT _ _ el no
      have jD : Off (fun a => a = D) G3 (upd G3 D (.lst (ps.map V.ref ++ [.ref T]))) := Off.upd rfl
      have eD := upd_same (H := G3) (a := D) (o := .lst (ps.map V.ref ++ [.ref T]))
      refine ⟨ps.map V.ref, gD, ?_, ?_⟩
      · rw [List.length_map]
        exact small4000 (by omega)
      generalize upd G3 D (.lst (ps.map V.ref ++ [.ref T])) = G4 at jD eD ⊢
      refine ⟨jD _ _ (j13 _ _ g1 no) nD.symm, fun a o ea na => ?_, ps ++ [T], fun y => if y = u.1 then l else L2 y, ?_, ?_, ?_, ?_⟩
      · refine jD _ _ (j13 _ _ (g2 a o ea na) no) fun z => ?_
        rw [z] at ea na
        rw [kd _ _ ea na] at hD
        cases hD
      · rw [eD, List.map_append]
        rfl
      · rw [List.length_append, g4]
        rfl
      · rw [take_snoc hu, dkv_new nu]
        exact paired_app (F := fun (p : Addr) (kv : Key × V) => SqT K G4 p [kV kv.1, kv.2]) (sqT_lst jD gD (SqT.of eT)) (Paired.mapP (F := fun p kv => SqT K G' p [kV kv.1, kv.2]) g5 fun _ _ h => sqT_lst jD gD (sqT_off j13 h))
      · intro w0 hw
        rw [take_snoc hu] at hw
        rcases List.mem_append.mp hw with hw | hw
        · have ne : w0.1 ≠ u.1 := fun z => nu (z ▸ List.mem_map.mpr ⟨w0, hw, rfl⟩)
          dsimp only
          rw [if_neg ne]
          obtain ⟨h1, ws', h2, h3⟩ := g6 w0 hw
          exact ⟨h1, ws', jD _ _ (j13 _ _ h2 no) h1, h3⟩
        · rw [List.mem_singleton.mp hw]
          dsimp only
          rw [if_pos rfl]
          exact ⟨lD, ws, jD _ _ el3 lD, ow⟩
    refine ⟨rfl, ?_⟩
    refine iteT (B := True) ?_
    refine iteT ?_
    refine ⟨_, rfl, _, rfl, _, rfl, m, _, rfl, dgm, _, rfl, _, rfl, rfl, _, rfl, ite2 (fun c => ?_) (fun c => ?_)⟩
    · have ex : u.1 = x := V.str.inj (of_decide_eq_true c)
      refine ⟨_, rfl, (by show 1 ≤ sizeLine; decide), fun a1 n1 => ⟨L u.1, a1, vs, [.ref t], rfl, rfl, Off.new (G := fun _ => False) n1 _ _ evG no, upd_same, ?_, fun l nl => ⟨l2, fun T nT => ?_⟩⟩⟩
      · exact Nat.le_of_lt (small4000 (by show vs.length + 1 ≤ 4000; omega))
      · refine fin _ l (vs ++ [.ref t]) ((Off.new n1).trans (Off.new nl)) upd_same (fun z => ?_) ?_ T nT
        · have := Off.new (G := fun _ => False) (o := .lst [V.ref t]) n1 _ _ g3 no
          rw [z, this] at nl
          cases nl
        · rw [ex, setR_same, List.map_append]
          rw [ex] at ov
          exact owAll_atom ov (ow_row_mk et)
    · have ne : u.1 ≠ x := fun z => c (decide_eq_true (by rw [z]; rfl))
      refine ⟨(by show 0 ≤ sizeLine; decide), fun a1 n1 => ⟨L u.1, a1, vs, [], rfl, rfl, Off.new (G := fun _ => False) n1 _ _ evG no, upd_same, ?_, fun l nl => ⟨l2, fun T nT => ?_⟩⟩⟩
      · exact Nat.le_of_lt (small4000 (by show vs.length + 0 ≤ 4000; omega))
      · refine fin _ l (vs ++ []) ((Off.new n1).trans (Off.new nl)) upd_same (fun z => ?_) ?_ T nT
        · have := Off.new (G := fun _ => False) (o := .lst []) n1 _ _ g3 no
          rw [z, this] at nl
          cases nl
        · rw [setR_ne ne, List.append_nil]
          exact ov
  · obtain ⟨g1, g2, ps, L2, g3, g4, g5, g6⟩ := g
    rw [lkv, List.take_length] at g5 g6
    refine ⟨g1, ?_⟩
    have kF : Off (fun a => a = td) G (upd G td (.dK kvs)) := Off.upd rfl
    have k0 : Off (fun _ => False) H (upd G td (.dK kvs)) := fun a o ea _ => by
      by_cases z : a = td
      · rw [z] at ea ⊢
        rw [upd_same, ← ea, etd]
      · exact kF _ _ (g2 a o ea z) z
    have ntG : ∀ {a : Addr} {xs : List V}, G a = some (.lst xs) → a ≠ td := fun h z => by rw [z, g1] at h; cases h
    have g3' := kF _ _ g3 (ntG g3)
    have g6' : ∀ u ∈ ts, ∃ vs, (upd G td (.dK kvs)) (L2 u.1) = some (.lst vs) ∧ OwAll H vs ((setR R x (R x ++ [row]) u.1).map rowD) Fp0 := fun u hu => by
      obtain ⟨_, vs, h1, h2⟩ := g6 u hu
      exact ⟨vs, kF _ _ h1 (ntG h1), h2⟩
    have g5' : Paired (fun p kv => SqT K (upd G td (.dK kvs)) p [kV kv.1, kv.2]) ps (dkv ts L2) := Paired.mapP g5 fun p kv h => by
      rcases h with (h | ⟨o, h⟩) | h
      · exact .inl (.inl (kF _ _ h fun z => by rw [z, g1] at h; cases h))
      · exact .inl (.inr ⟨o, kF _ _ h fun z => by rw [z, g1] at h; cases h⟩)
      · exact .inr h
    generalize upd G td (.dK kvs) = G1 at kF k0 g3' g6' g5' ⊢
    refine ⟨D, ps, dkv ts L2, rfl, SqL.of g3', g5', fun p np => ?_⟩
    rw [merge_dkv tnd]
    have jp : Off (fun _ => False) G1 (upd G1 p (.dK (dkv ts L2))) := Off.new np
    have ep := upd_same (H := G1) (a := p) (o := .dK (dkv ts L2))
    generalize upd G1 p (.dK (dkv ts L2)) = G2 at jp ep ⊢
    have k2 := k0.trans jp
    have li2 : LinA G2 p L2 ts (setR R x (R x ++ [row])) := ⟨ep, fun u hu => by
      obtain ⟨vs, h1, h2⟩ := g6' u hu
      exact ⟨vs, jp _ _ h1 no, h2.keep k2 (fun _ z => z.elim) fun _ z => z.elim⟩⟩
    have rok2 : RowsOk ts (setR R x (R x ++ [row])) := fun u hu => by
      obtain ⟨r1, r2⟩ := rok u hu
      have l9u := l9 u hu
      by_cases ex : u.1 = x
      · rw [ex, setR_same]
        rw [ex] at r2 l9u
        refine ⟨by rw [List.length_append]; show _ + 1 ≤ 1000; omega, fun r hr => ?_⟩
        rcases List.mem_append.mp hr with hr | hr
        · exact r2 r hr
        · rw [List.mem_singleton.mp hr]
          have e2 : tabOf ts u.1 = some tb := by rw [ex]; exact u2
          have : u = tb := fst_inj tnd hu mtb (by rw [ex, ytb])
          exact ⟨by rw [this]; exact hl, wok⟩
      · rw [setR_ne ex]
        exact ⟨r1, r2⟩
    refine ⟨_, rfl, _, rfl, _, rfl, td, p, v, kvs, L2, ts, rs, _, N, M, rfl, k2 _ _ etd no, titK_off k2 tk, dp_off k2 dr, ro, hM, lrs, ws, li2, rok2, nd, fun G3 k3 => ?_⟩
    have k03 := k2.trans k3
    have br := broken_new (x := x) (row := row) bo (wrongs_formed ws)
    cases ef : fidx (breaksR ts R x row) rs with
    | none =>
      rw [ef] at br q
      have e1 : brokenI ts rs (setR R x (R x ++ [row])) = -1 := by
        unfold brokenI
        rw [br]
      rw [e1]
      exact ⟨_, rfl, _, _, rfl, rfl, _, rfl, iteT (q _ k03)⟩
    | some j =>
      rw [ef] at br q
      have e1 : brokenI ts rs (setR R x (R x ++ [row])) = (j : Nat) := by
        unfold brokenI
        rw [br]
      rw [e1]
      refine ⟨_, rfl, _, _, rfl, rfl, _, rfl, ?_⟩
      rw [decide_eq_false (by omega)]
      refine iteF ⟨_, rfl, l2, fun T nT => ?_⟩
      exact q T _ _ upd_same (.int _ fun _ z => z) (k03.trans (Off.new nT))
end
end LW
set_option Elab.async false
set_option linter.all false
set_option maxRecDepth 100000
set_option maxHeartbeats 0
/-! a store and the law's mirror of it -/
namespace LW
open PySem PySem.Spec PyProof.Rows L2 KV
/-- where the store's and the mirror's parts stand -/
structure Ad where
  s : Addr
  b : Addr
  d : Addr
  l : Addr
  m : Addr
  k : Addr
  L : Str → Addr
  L' : Str → Addr
  n : Nat := 0
  B : Str → List Row := fun _ => []
def Ad.mu (A : Ad) (ts : List Tab) : Fp := fun a => Mu ts A.L A.l a ∨ Mu ts A.L' A.k a
/-- the rows when all steps are taken back -/
def botR (R : Str → List Row) (S : List Stp) : Str → List Row := S.foldr (fun st R => undoR R st) R
theorem botR_snoc {R : Str → List Row} {S : List Stp} {st : Stp} : botR R (S ++ [st]) = botR (undoR R st) S := by
  unfold botR
  rw [List.foldr_append]
  rfl
structure Twin (K : PySem.W.Frag) (H : Hp) (st : Addr) (A : Ad) (ts : List Tab) (R : Str → List Row) (S : List Stp) : Prop where
  tup : H st = some (.tup [.ref A.s, .ref A.m, .ref A.k])
  sto : StAt K H A.s A.b A.d A.l A.L ts R S
  mir : StoA H A.m A.k A.L' ts R (S.drop A.n)
  sp : Sep ts A.L A.l
  sp' : Sep ts A.L' A.k
  dis : ∀ a, Mu ts A.L A.l a → ¬ Mu ts A.L' A.k a
  ln : A.n ≤ S.length
  bt : botR R S = A.B
theorem Twin.lst {K : PySem.W.Frag} {H : Hp} {st : Addr} {A : Ad} {ts : List Tab} {R : Str → List Row} {S : List Stp} (h : Twin K H st A ts R S) : ∀ a, A.mu ts a → ∃ xs, H a = some (.lst xs) := fun a z => z.elim (h.sto.sto.lst a) (h.mir.lst a)
theorem Twin.keep {K : PySem.W.Frag} {H H' : Hp} {st : Addr} {A : Ad} {ts : List Tab} {R : Str → List Row} {S : List Stp} {G : Fp} (h : Twin K H st A ts R S) (k : Off G H H') (hG : ∀ a, G a → ∃ xs, H a = some (.lst xs)) (n : ∀ a, A.mu ts a → ¬ G a) : Twin K H' st A ts R S :=
  ⟨k _ _ h.tup (fun z => by
      obtain ⟨xs, e⟩ := hG _ z
      rw [h.tup] at e
      cases e), h.sto.keep k hG fun a z => n a (.inl z), h.mir.keep k hG fun a z => n a (.inr z), h.sp, h.sp', h.dis, h.ln, h.bt⟩
theorem Twin.off {K : PySem.W.Frag} {H H' : Hp} {st : Addr} {A : Ad} {ts : List Tab} {R : Str → List Row} {S : List Stp} (h : Twin K H st A ts R S) (k : Off (fun _ => False) H H') : Twin K H' st A ts R S := h.keep k (fun _ z => z.elim) fun _ _ z => z
/-- the store's side has gone on -/
theorem Twin.mirK {K : PySem.W.Frag} {H H' : Hp} {st : Addr} {A : Ad} {ts : List Tab} {R : Str → List Row} {S : List Stp} (h : Twin K H st A ts R S) (k : Off (Mu ts A.L A.l) H H') : StoA H' A.m A.k A.L' ts R (S.drop A.n) ∧ H' st = some (.tup [.ref A.s, .ref A.m, .ref A.k]) :=
  ⟨h.mir.keep k h.sto.sto.lst fun a z y => h.dis a y z, k _ _ h.tup fun z => by
    obtain ⟨xs, e⟩ := h.sto.sto.lst _ z
    rw [h.tup] at e
    cases e⟩
/-- rows that keep all rules, eight at most in a table -/
structure Good (ts : List Tab) (rs : List RB) (R : Str → List Row) : Prop where
  few : ∀ t ∈ ts, (R t.1).length ≤ 8
  wd : ∀ t ∈ ts, ∀ r ∈ R t.1, r.length = t.2.length ∧ ∀ w ∈ r, Wok w
  br : brokenO ts rs R = none
theorem Good.rows {ts : List Tab} {rs : List RB} {R : Str → List Row} (g : Good ts rs R) : RowsOk ts R := fun t ht => ⟨Nat.le_trans (g.few t ht) (by decide), g.wd t ht⟩
theorem Good.wide {ts : List Tab} {rs : List RB} {R : Str → List Row} (g : Good ts rs R) : Wide ts R := fun t ht => ⟨Nat.le_trans (g.few t ht) (by decide), fun r hr => (g.wd t ht r hr).1⟩
/-- what can be taken back, step by step -/
inductive Hist (ts : List Tab) (rs : List RB) : (Str → List Row) → List Stp → Prop where
  | nil {R : Str → List Row} (g : Good ts rs R) : Hist ts rs R []
  | step {R : Str → List Row} {S : List Stp} {st : Stp} (g : Good ts rs R) (k : StpOk ts R st) (h : Hist ts rs (undoR R st) S) : Hist ts rs R (S ++ [st])
theorem Hist.good {ts : List Tab} {rs : List RB} {R : Str → List Row} {S : List Stp} (h : Hist ts rs R S) : Good ts rs R := by cases h <;> assumption
theorem Hist.back {ts : List Tab} {rs : List RB} {R : Str → List Row} {S S' : List Stp} {st : Stp} (h : Hist ts rs R S) (e : S = S' ++ [st]) : StpOk ts R st ∧ Hist ts rs (undoR R st) S' := by
  cases h with
  | nil g => simp at e
  | step g k h =>
    obtain ⟨rfl, e2⟩ := List.append_inj' e rfl
    cases e2
    exact ⟨k, h⟩
theorem undo_put {R : Str → List Row} {x : Str} {row : Row} : undoR (setR R x (R x ++ [row])) (x, (((R x).length : Nat) : Int), none) = R := by
  unfold undoR
  dsimp only
  rw [setR_same, setR_two, Int.toNat_natCast, List.eraseIdx_append_of_length_le (Nat.le_refl _), Nat.sub_self]
  simp [setR_self]
theorem erase_back {r : Row} : ∀ {l : List Row} {i : Nat}, l[i]? = some r → (l.eraseIdx i).take i ++ [r] ++ (l.eraseIdx i).drop i = l
  | [], i, h => by simp at h
  | a :: l, 0, h => by
    cases h
    simp
  | a :: l, i + 1, h => by
    have := erase_back (l := l) (i := i) (by simpa using h)
    rw [List.eraseIdx_cons_succ, List.take_succ_cons, List.drop_succ_cons]
    simp only [List.cons_append]
    rw [this]
theorem undo_take {R : Str → List Row} {x : Str} {i : Nat} {r : Row} (h : (R x)[i]? = some r) : undoR (setR R x ((R x).eraseIdx i)) (x, ((i : Nat) : Int), some r) = R := by
  unfold undoR
  dsimp only
  rw [setR_same, setR_two, Int.toNat_natCast, erase_back h, setR_self]
theorem okRows_erase {cols cs tl : List Str} : ∀ {P : List Row} (i : Nat), okRows cols cs tl P = true → okRows cols cs tl (P.eraseIdx i) = true
  | [], i, h => by simpa using h
  | r :: P, 0, h => by
    rw [okRows, Bool.and_eq_true] at h
    exact h.2
  | r :: P, i + 1, h => by
    rw [okRows, Bool.and_eq_true] at h
    rw [List.eraseIdx_cons_succ, okRows, Bool.and_eq_true]
    exact ⟨List.all_eq_true.mpr fun b hb => List.all_eq_true.mp h.1 b (List.mem_of_mem_eraseIdx hb), okRows_erase i h.2⟩
theorem fidx_all {p : RB → Bool} : ∀ {rs : List RB}, fidx p rs = none → ∀ r ∈ rs, p r = false
  | [], _, r, hr => by simp at hr
  | q :: rs, h, r, hr => by
    rw [fidx] at h
    cases e : p q with
    | true => rw [e] at h; cases h
    | false =>
      rw [e] at h
      rcases List.mem_cons.mp hr with rfl | hr
      · exact e
      · refine fidx_all ?_ r hr
        cases e2 : fidx p rs with
        | none => rfl
        | some j => rw [e2] at h; cases h
theorem holds_none {ts : List Tab} {R : Str → List Row} {hd : List Str} : holdsR ts R (hd, none) = true := by
  rcases hd with _ | ⟨a, _ | ⟨b, _ | _⟩⟩ <;> rfl
theorem Good.erase {ts : List Tab} {rs : List RB} {R : Str → List Row} (g : Good ts rs R) (x : Str) (i : Nat) : Good ts rs (setR R x ((R x).eraseIdx i)) := by
  refine ⟨fun t ht => ?_, fun t ht r hr => ?_, ?_⟩
  · by_cases e : t.1 = x
    · rw [← e, setR_same]
      exact Nat.le_trans (List.length_eraseIdx_le ..) (g.few t ht)
    · rw [setR_ne e]
      exact g.few t ht
  · by_cases e : t.1 = x
    · rw [← e, setR_same] at hr
      exact g.wd t ht r (List.mem_of_mem_eraseIdx hr)
    · rw [setR_ne e] at hr
      exact g.wd t ht r hr
  · unfold brokenO
    refine fidx_none fun r hr => ?_
    have h := fidx_all g.br r hr
    rw [Bool.not_eq_false'] at h ⊢
    rcases r with ⟨hd, _ | ⟨cs, tl⟩⟩
    · exact holds_none
    · rcases hd with _ | ⟨k, _ | ⟨y, _ | _⟩⟩
      · rfl
      · rfl
      · unfold holdsR at h ⊢
        dsimp only at h ⊢
        cases e : tabOf ts y with
        | none => rfl
        | some t =>
          rw [e] at h
          dsimp only at h ⊢
          by_cases z : y = x
          · rw [z, setR_same]
            exact okRows_erase i (z ▸ h)
          · rw [setR_ne z]
            exact h
      · rfl
theorem Good.put {ts : List Tab} {rs : List RB} {R : Str → List Row} {x : Str} {row : Row} (g : Good ts rs R) (nd : (ts.map Prod.fst).Nodup) (ws : wrongs ts rs = none) (wok : ∀ w ∈ row, Wok w) (h : putDue ts rs R x row = none) (l : (R x).length ≤ 7) : Good ts rs (setR R x (R x ++ [row])) := by
  cases e : tabOf ts x with
  | none => rw [putDue_no e] at h; cases h
  | some t0 =>
    obtain ⟨m0, y0⟩ := tabOf_mem e
    by_cases hl : row.length = t0.2.length
    rotate_left
    · rw [putDue_len e hl] at h
      cases h
    rw [putDue_rule e hl] at h
    refine ⟨fun t ht => ?_, fun t ht r hr => ?_, ?_⟩
    · by_cases z : t.1 = x
      · rw [z, setR_same, List.length_append]
        show _ + 1 ≤ 8
        omega
      · rw [setR_ne z]
        exact g.few t ht
    · by_cases z : t.1 = x
      · rw [z, setR_same] at hr
        rcases List.mem_append.mp hr with hr | hr
        · exact g.wd t ht r (z ▸ hr)
        · rw [List.mem_singleton.mp hr]
          have : t = t0 := fst_inj nd ht m0 (by rw [z, y0])
          exact ⟨by rw [this]; exact hl, wok⟩
      · rw [setR_ne z] at hr
        exact g.wd t ht r hr
    · rw [broken_new g.br (wrongs_formed ws)]
      cases e2 : fidx (breaksR ts R x row) rs with
      | none => rfl
      | some i => rw [e2] at h; cases h
theorem Hist.put {ts : List Tab} {rs : List RB} {R : Str → List Row} {S : List Stp} {x : Str} {row : Row} (h : Hist ts rs R S) (g : Good ts rs (setR R x (R x ++ [row]))) (hx : x ∈ ts.map Prod.fst) : Hist ts rs (setR R x (R x ++ [row])) (S ++ [(x, (((R x).length : Nat) : Int), none)]) := by
  refine .step g ⟨hx, Int.natCast_nonneg _, ?_⟩ ?_
  · show (((R x).length : Nat) : Int) < ((setR R x (R x ++ [row])) x).length
    rw [setR_same, List.length_append]
    show _ < ((_ + 1 : Nat) : Int)
    omega
  · rw [undo_put]
    exact h
theorem Hist.take {ts : List Tab} {rs : List RB} {R : Str → List Row} {S : List Stp} {x : Str} {i : Nat} {r : Row} (h : Hist ts rs R S) (hx : x ∈ ts.map Prod.fst) (e : (R x)[i]? = some r) : Hist ts rs (setR R x ((R x).eraseIdx i)) (S ++ [(x, ((i : Nat) : Int), some r)]) := by
  refine .step (h.good.erase x i) ⟨hx, Int.natCast_nonneg _, ?_⟩ ?_
  · show ((i : Nat) : Int) ≤ ((setR R x ((R x).eraseIdx i)) x).length
    have hi := (List.getElem?_eq_some_iff.mp e).1
    rw [setR_same, List.length_eraseIdx_of_lt hi]
    omega
  · rw [undo_take e]
    exact h
end LW
set_option Elab.async false
set_option linter.all false
set_option maxRecDepth 100000
set_option maxHeartbeats 0
/-! _law_undo_right -/
namespace LW
open PySem PySem.Spec PyProof.Rows L2 KV
theorem errRight {K : PySem.W.Frag} {H0 H3 : Hp} {a d T : Addr} {y : Str} {u w : V} {e : PyData} {Fo : Fp} {b : Nat} {ms : List Nat} {Q : VK} {E : XK} (hy : y ∈ names.tail) (ea : H3 a = some (exk a (.ref (He.ga K y)) (some d))) (ed : H3 d = some (.xd [("value", u)])) (eT : H3 T = some (.tup [.str y, w]))
    (ow : Ow H3 u e Fo) (dw : Dp K H3 w e) (sz : Sz b ms e) (k : Off (fun _ => False) H0 H3) (fr : ∀ c, Fo c → H0 c = none) (q : ∀ G, Off (fun _ => False) H0 G → Q (.bl true) G) : spErrR K [.ref a, .ref T] H3 Q E :=
  .inr ⟨a, d, T, y, w, u, e, Fo, b, ms, rfl, hy, ⟨ea, ed⟩, SqT.of eT, ow, dw, sz, fun G kG => q G fun c o ec _ => kG c o (k c o ec id) fun z => by
    rw [fr c z] at ec
    cases ec⟩
theorem sz_int {i : Int} (h : i.natAbs < 2 ^ 110) : Sz 100 [5, 8] (.int i) := ⟨h, by decide, by decide, by decide, by decide⟩
theorem lay_step {s : Stp} (h : Asc s.1) : (stepD s).canLay0 = true ∧ (stepD s).depth ≤ 2 := by
  obtain ⟨x, i, o⟩ := s
  have hx : (PyData.str x).canLay0 = true := by
    have := lay_strs (xs := [x]) fun y hy => by rw [List.mem_singleton.mp hy]; exact h
    rw [List.map_cons, PyData.canLayAll0, Bool.and_eq_true] at this
    exact this.1
  cases o with
  | none =>
    refine ⟨?_, by show PyData.depthAll [_, _, _] + 1 ≤ 2; simp [PyData.depthAll, PyData.depth]⟩
    show PyData.canLayAll0 [_, _, _] = true
    simp only [PyData.canLayAll0, hx]
    rfl
  | some r =>
    refine ⟨?_, ?_⟩
    · show PyData.canLayAll0 [_, _, _] = true
      simp only [PyData.canLayAll0, hx, (row_lay r).1]
      rfl
    · show PyData.depthAll [_, _, _] + 1 ≤ 2
      simp only [PyData.depthAll, PyData.depth, (row_lay r).2]
      decide
theorem shaped_steps {S : List Stp} (h : ∀ s ∈ S, Asc s.1) : SeqAt.shaped (.list (S.map stepD)) = true := by
  have c : ∀ S : List Stp, (∀ s ∈ S, Asc s.1) → PyData.canLayAll0 (S.map stepD) = true ∧ PyData.depthAll (S.map stepD) ≤ 2 := fun S => by
    induction S with
    | nil => exact fun _ => ⟨rfl, by decide⟩
    | cons s S ih =>
      intro h
      obtain ⟨h1, h2⟩ := ih fun t ht => h t (List.mem_cons_of_mem _ ht)
      obtain ⟨h3, h4⟩ := lay_step (h s List.mem_cons_self)
      rw [List.map_cons]
      refine ⟨by rw [PyData.canLayAll0, h1, h3]; rfl, ?_⟩
      show max (stepD s).depth _ ≤ 2
      omega
  unfold SeqAt.shaped
  rw [Bool.and_eq_true]
  obtain ⟨h1, h2⟩ := c S h
  refine ⟨h1, decide_eq_true ?_⟩
  show PyData.depthAll (S.map stepD) + 1 ≤ 64
  omega
theorem Hist.titles {ts : List Tab} {rs : List RB} {R : Str → List Row} {S : List Stp} (h : Hist ts rs R S) : ∀ s ∈ S, s.1 ∈ ts.map Prod.fst := by
  induction h with
  | nil g => intro s hs; simp at hs
  | step g k h ih =>
    intro s hs
    rcases List.mem_append.mp hs with hs | hs
    · exact ih s hs
    · rw [List.mem_singleton.mp hs]
      exact k.1
def spUndoR (K : PySem.W.Frag) : Sp := fun vs H Q _ => ∃ (st : Addr) (A : Ad) (ts : List Tab) (rs : List RB) (R : Str → List Row) (S : List Stp), vs = [.ref st] ∧ Twin K H st A ts R S ∧ Hist ts rs R S ∧ (∀ t ∈ ts, Asc t.1) ∧ (A.n = 0 ∨ A.n < S.length) ∧
  ∀ R' S' H', Twin K H' st A ts R' S' → Hist ts rs R' S' → S'.length ≤ S.length - 1 → (∀ S0 z, S = S0 ++ [z] → R' = undoR R z ∧ S' = S0) → Off (A.mu ts) H H' → Q (.bl true) H'
section
variable {P : Program} {w : World} {K : PySem.W.Frag} {mg : Str → Option Value} {base : Heap}
theorem scUndoR : FnScope ["state", "store", "lines", "steps_here", "found", "caught", "e", "title", "spot", "line"] ["state"] (defScope sUndoRight) := ⟨rfl, rfl, rfl, by decide +kernel, rfl, by decide +kernel, by decide +kernel⟩
theorem ok_undoR {f fU fE : Addr} {fd dU dE : FuncData} (F : FnP K "_law_undo_right" sUndoRight f fd) (ST : StoreT K mg) (mU : L2.Meth K (He.ga K "Store") "undo" fU) (GU : DnX P w K mg base 3 ["self"] (spUndo K) fU dU)
    (E' : DnC P w K mg base 8 "_law_error_right" ["caught", "due"] (spErrR K) fE dE) (gE : mg "KeyTellError" = some (.ref (He.ga K "KeyTellError")))
    (exm : ∀ y ∈ names.tail, PySem.W.exmOne K (.ref (He.ga K y)) (.ref (He.ga K "KeyTellError")) = some true) : FnC P w K mg base CX0 9 f fd ["state"] (spUndoR K) := by
  refine Fun.okC F scUndoR (fun vs H Q E h => ?_) (fun cdv A0 outer s0 H vs Q E hG hr h => ?_)
  · obtain ⟨st, A, ts, rs, R, S, rfl, _⟩ := h
    rfl
  obtain ⟨st, A, ts, rs, R, S, rfl, tw, hi, ta, h0n, q⟩ := h
  have hu : (A0.deeper (envOfC "_law_undo_right" (defScope sUndoRight) s0.heap.objs.size f cdv)).units + 64 < cLine := hr.units
  have hu1 := Nat.lt_of_le_of_lt (Nat.add_le_add_left (show 1 ≤ 64 by decide) _) hr.units
  refine ⟨_, PSs.nox (pss_cons (ps_asg (pv 0) (pg_tup rfl (pgs_cons (pg_name (i := 1) scUndoR.nd rfl (Or.inl rfl)) (pgs_cons (pg_name (i := 2) scUndoR.nd rfl (Or.inl rfl)) (pgs_cons (pg_name (i := 3) scUndoR.nd rfl (Or.inl rfl)) pgs_nil)))))
    (pss_cons (ps_asg (pe_tup (pa_cons pe_non (pa_cons pe_non pa_nil))) (pg_tup rfl (pgs_cons (pg_name (i := 4) scUndoR.nd rfl (Or.inl rfl)) (pgs_cons (pg_name (i := 5) scUndoR.nd rfl (Or.inl rfl)) pgs_nil))))
    (pss_cons (ps_try_keep (i := 6) rfl rfl scUndoR.nd rfl rfl rfl ⟨rfl, by decide, .inl gE⟩ takes0 (fun W pn xe tk _ =>
        pss_one (ps_set (i := 4) scUndoR.nd rfl (Or.inl rfl) (pe_methA0 (pv 1) ST.cl mU GU.g (hr.mono (by decide)) GU.b (fun σ => passAt tk σ))))
      (fun a oe cls d pn hz hf => pss_one (ps_set (i := 5) scUndoR.nd rfl (Or.inl rfl) (pv 6))))
    (pss_cons (ps_if (pt_cmpR (op_eqD hu) (pv 3) (pe_lst pa_nil) (nomark _)) (pss_one (ps_ret (pe_callC hG E'.g hr rfl E'.m E'.kp E'.b pass0 (pa_cons (pv 5) (pa_cons (pe_tup (pa_cons pe_str (pa_cons pe_int pa_nil))) pa_nil))))) pss_nil)
    (pss_cons (ps_asg (pe_bm0 PySem.F.plainAttrs_list PySem.F.slot_list_pop PySem.F.type_list_pop mt_pop (pv 3)) (pg_tup rfl (pgs_cons (pg_name (i := 7) scUndoR.nd rfl (Or.inl rfl)) (pgs_cons (pg_name (i := 8) scUndoR.nd rfl (Or.inl rfl)) (pgs_cons (pg_name (i := 9) scUndoR.nd rfl (Or.inl rfl)) pgs_nil)))))
    (pss_cons (ps_if (pt_cmpR op_isN (pv 9) pe_non (nomark _))
      (pss_one (ps_expr (pe_bm PySem.F.plainAttrs_list PySem.F.slot_list_pop PySem.F.type_list_pop mt_popAt (pe_dget hu1 (pv 2) (pv 7) (fun _ _ => rfl)) (pa_cons (pv 8) pa_nil))))
      (pss_one (ps_expr (pe_bm PySem.F.plainAttrs_list PySem.F.slot_list_insert PySem.F.type_list_insert mt_insert (pe_dget hu1 (pv 2) (pv 7) (fun _ _ => rfl)) (pa_cons (pv 8) (pa_cons (pv 9) pa_nil))))))
    (pss_one (ps_ret (pe_and (pe_cmpR op_isN (pv 5) pe_non (nomark _)) (pe_one (pe_cmpR op_isN (pv 4) pe_non (nomark _)))))))))))), ?_⟩
  have no : ¬ False := id
  have l2 : 2 ≤ sizeLine := by decide
  refine ⟨_, rfl, st, _, rfl, SqT.of tw.tup, rfl, _, _, rfl, _, _, rfl, _, _, rfl, rfl, ?_⟩
  refine ⟨l2, fun t0 n0 => ?_⟩
  have k0 : Off (fun _ => False) H (upd H t0 (.tup [.non, .non])) := Off.new n0
  refine ⟨t0, [.non, .non], rfl, SqT.of upd_same, rfl, .non, [.non], rfl, .non, [], rfl, rfl, ?_⟩
  generalize upd H t0 (.tup [.non, .non]) = H0 at k0 ⊢
  have tw0 := tw.off k0
  have asc : ∀ s ∈ S, Asc s.1 := fun s hs => by
    obtain ⟨t, ht, e⟩ := List.mem_map.mp (hi.titles s hs)
    exact e ▸ ta t ht
  have ascD : ∀ s ∈ S.drop A.n, Asc s.1 := fun s hs => asc s (List.mem_of_mem_drop hs)
  obtain ⟨dx, es⟩ := tw0.sto.ins
  refine ⟨_, rfl, A.s, dx, _, rfl, es, rfl, A.s, A.b, A.d, A.l, A.L, ts, R, S, rfl, tw0.sto, tw0.sp, fun t ht => Nat.le_trans (hi.good.few t ht) (by decide), fun hS => ?_, fun S' sx e => ⟨(hi.back e).1, fun H1 st1 k1 => ?_⟩⟩
  · intro u Fo d H' k nd ed ow fr
    refine ⟨true, exm "NothingToUndo" (by decide), fun _ a ha => ?_, fun z => nomatch z⟩
    refine ⟨_, rfl, ha, ?_⟩
    have ka : Off (fun _ => False) H' (upd H' a (exk a (.ref (He.ga K "NothingToUndo")) (some d))) := Off.new ha
    have ea := upd_same (H := H') (a := a) (o := exk a (.ref (He.ga K "NothingToUndo")) (some d))
    generalize upd H' a (exk a (.ref (He.ga K "NothingToUndo")) (some d)) = H2 at ka ea ⊢
    refine ⟨_, rfl, (by show 0 ≤ sizeLine; decide), fun m nm => ?_⟩
    have km : Off (fun _ => False) H2 (upd H2 m (.lst [])) := Off.new nm
    have em := upd_same (H := H2) (a := m) (o := .lst [])
    generalize upd H2 m (.lst []) = H3 at km em ⊢
    have k13 := (k.trans ka).trans km
    obtain ⟨us, eu, ou⟩ := (tw0.off k13).mir.steps
    refine ⟨.list ((S.drop A.n).map stepD), .list [], .lst (SqL.of eu) ou.dp, .lst (SqL.of em) .nil, shaped_steps ascD, rfl, _, rfl, ?_⟩
    rw [eqv_nil, show ((S.drop A.n).map stepD).isEmpty = true by rw [hS, List.drop_nil]; rfl]
    refine iteT ⟨_, rfl, l2, fun T nT => ?_⟩
    have kT : Off (fun _ => False) H3 (upd H3 T (.tup [.str "NothingToUndo", .int 0])) := Off.new nT
    have eT := upd_same (H := H3) (a := T) (o := .tup [.str "NothingToUndo", .int 0])
    generalize upd H3 T (.tup [.str "NothingToUndo", .int 0]) = H4 at kT eT ⊢
    have k24 := (ka.trans km).trans kT
    exact errRight (E := L2.E0) (H0 := H0) (by decide) ((km.trans kT) _ _ ea no) (k24 _ _ ed no) eT (ow.keep k24 (fun _ z => z.elim) fun _ _ z => z) (.int 0) (sz_int (by decide)) (k.trans k24) fr fun G kG => q R S G (tw0.off kG) hi (by rw [hS]; exact Nat.le_refl _) (fun S0 z ez => by rw [hS] at ez; exact absurd ez.symm (by simp)) fun c o ec _ => kG c o (k0 c o ec no) no
  · have mk := tw0.mirK k1
    dsimp only [gName]
    refine ⟨_, rfl, (by show 0 ≤ sizeLine; decide), fun m nm => ?_⟩
    have km : Off (fun _ => False) H1 (upd H1 m (.lst [])) := Off.new nm
    have em := upd_same (H := H1) (a := m) (o := .lst [])
    generalize upd H1 m (.lst []) = H2 at km em ⊢
    have mi2 := mk.1.off km
    have tup2 := km _ _ mk.2 no
    have st2 := st1.off km
    have k2 : Off (Mu ts A.L A.l) H0 H2 := k1.trans (km.mono fun _ z => z.elim)
    obtain ⟨us, eu, ou⟩ := mi2.steps
    have eD : S.drop A.n = S'.drop A.n ++ [sx] := by
      rw [e, List.drop_append_of_le_length]
      rw [e, List.length_append] at h0n
      simp at h0n
      omega
    refine ⟨.list ((S.drop A.n).map stepD), .list [], .lst (SqL.of eu) ou.dp, .lst (SqL.of em) .nil, shaped_steps ascD, rfl, _, rfl, ?_⟩
    rw [eqv_nil, show ((S.drop A.n).map stepD).isEmpty = false by rw [eD, List.map_append]; simp]
    obtain ⟨⟨hx, h0, hk⟩, hback⟩ := hi.back e
    rw [eD, List.map_append] at ou
    have lu : us.length = (S'.drop A.n).length + 1 := by rw [ou.length]; simp
    have ne : us ≠ [] := fun z => by
      rw [z] at lu
      simp at lu
    obtain ⟨us', u, rfl⟩ : ∃ us' u, us = us' ++ [u] := ⟨us.dropLast, us.getLast ne, (List.dropLast_concat_getLast ne).symm⟩
    have ll : us'.length = (S'.drop A.n).length := by simpa using lu
    have hlast : (us' ++ [u])[(us' ++ [u]).length - 1]? = some u := by simp
    obtain ⟨u', eu', ox⟩ := owAll_get ou (i := us'.length) (d := stepD sx) (by rw [ll, ← List.length_map (f := stepD), List.getElem?_append_right (Nat.le_refl _)]; simp)
    obtain rfl : u' = u := by simpa using eu'.symm
    have ou' : OwAll H2 us' ((S'.drop A.n).map stepD) Fp0 := by
      have := owAll_erase us'.length ou
      rw [List.eraseIdx_append_of_length_le (Nat.le_refl _), Nat.sub_self] at this
      rw [show ((S'.drop A.n).map stepD ++ [sx].map stepD).eraseIdx us'.length = (S'.drop A.n).map stepD by
        rw [List.eraseIdx_append_of_length_le (by rw [ll, List.length_map]; exact Nat.le_refl _), ll, List.length_map]
        simp] at this
      simpa using this
    obtain ⟨t, w3, rfl, et, hw⟩ := ow_step ox
    refine iteF ⟨_, rfl, .inl ⟨rfl, _, SqL.of eu⟩, A.k, _, .ref t, rfl, rfl, eu, hlast, ?_⟩
    rw [List.dropLast_concat]
    have k3 : Off (fun a => a = A.k) H2 (upd H2 A.k (.lst us')) := Off.upd rfl
    have mi3 := mi2.step tw0.sp' ou'
    have nl : ∀ {a : Addr} {o : HO}, H2 a = some o → (∀ xs, o ≠ .lst xs) → a ≠ A.k := fun e n z => by
      rw [z, eu] at e
      cases e
      exact n _ rfl
    have tup3 := k3 _ _ tup2 (nl tup2 fun _ z => by cases z)
    have et3 := k3 _ _ et (nl et fun _ z => by cases z)
    have st3 := st2.keep k3 (fun a z => ⟨_, z ▸ eu⟩) fun a z y => tw0.dis a z (.inl y)
    have hw3 : (match sx.2.2 with
      | none => w3 = .non
      | some r => Ow (upd H2 A.k (.lst us')) w3 (rowD r) Fp0) := by
      cases ho : sx.2.2 with
      | none => rw [ho] at hw; exact hw
      | some r => rw [ho] at hw; exact hw.keep k3 (fun a z => ⟨_, z ▸ eu⟩) fun _ z => z.elim
    have k03 : Off (A.mu ts) H0 (upd H2 A.k (.lst us')) := fun a o ea na => k3 _ _ (k2 a o ea fun z => na (.inl z)) fun z => na (.inr (.inl z))
    generalize upd H2 A.k (.lst us') = H3 at k3 mi3 tup3 et3 st3 hw3 k03 ⊢
    obtain ⟨tb, mtb, etb⟩ := List.mem_map.mp hx
    obtain ⟨vs, ev, ov⟩ := mi3.rows tb mtb
    have lv : vs.length = (R tb.1).length := by rw [ov.length, List.length_map]
    have dg := DGet.k (k := .inr sx.1) mi3.dic
    rw [valV_dkv, if_pos hx, show A.L' sx.1 = A.L' tb.1 by rw [etb]] at dg
    have lR := hi.good.few tb mtb
    refine ⟨t, [.str sx.1, .int sx.2.1, w3], rfl, SqT.of et3, rfl, .str sx.1, [.int sx.2.1, w3], rfl, .int sx.2.1, [w3], rfl, w3, [], rfl, rfl, ?_⟩
    have eR : ∀ {n : List Row}, undoR R sx = setR R tb.1 n → ∀ G xs, OwAll H3 xs (n.map rowD) Fp0 → G = upd H3 (A.L' tb.1) (.lst xs) → StAt K H2 A.s A.b A.d A.l A.L ts (undoR R sx) S' → Q (.bl true) G := fun {n} hn G xs ox hG _ => by
      have mi4 := mi3.set tw0.sp' mtb ox
      have k4 : Off (fun a => a = A.L' tb.1) H3 (upd H3 (A.L' tb.1) (.lst xs)) := Off.upd rfl
      subst hG
      have st4 := st3.keep k4 (fun a z => ⟨_, z ▸ ev⟩) fun a z y => tw0.dis a z (.inr ⟨tb, mtb, y⟩)
      have tup4 := k4 _ _ tup3 fun z => by rw [z, ev] at tup3; cases tup3
      rw [← hn] at mi4
      refine q (undoR R sx) S' _ ⟨tup4, st4, mi4, tw0.sp, tw0.sp', tw0.dis, by
        rw [e, List.length_append] at h0n
        simp at h0n
        omega, by
        rw [← tw0.bt, e, botR_snoc]⟩ hback (by rw [e]; simp) (fun S0 z ez => by
        obtain ⟨e1, e2⟩ := List.append_inj' (e.symm.trans ez) rfl
        cases e2
        exact ⟨rfl, e1⟩) fun a o ea na => k4 _ _ (k03 _ _ (k0 a o ea no) na) fun z => na (.inr (.inr ⟨tb, mtb, z⟩))
    refine ⟨_, rfl, rfl, _, rfl, ?_⟩
    cases ho : sx.2.2 with
    | none =>
      rw [ho] at hw3 hk
      have hw3 : w3 = .non := hw3
      have hk : sx.2.1 < (R sx.1).length := hk
      rw [← etb] at hk
      subst hw3
      rw [decide_eq_true (show V.non = V.non from rfl)]
      have li : sx.2.1.toNat < vs.length := by omega
      refine iteT ⟨_, rfl, _, rfl, A.m, _, rfl, dg, .inl ⟨rfl, _, SqL.of ev⟩, _, rfl, A.L' tb.1, vs, sx.2.1, sx.2.1.toNat, vs[sx.2.1.toNat], rfl, rfl, ev, by omega, by omega, seq_ix h0 (by omega), List.getElem?_eq_getElem li, ?_⟩
      have oNew : OwAll H3 (vs.eraseIdx sx.2.1.toNat) (((R tb.1).eraseIdx sx.2.1.toNat).map rowD) Fp0 := by
        rw [← map_erase]
        exact owAll_erase _ ov
      have eU : undoR R sx = setR R tb.1 ((R tb.1).eraseIdx sx.2.1.toNat) := by
        unfold undoR
        rw [ho, etb]
      refine ⟨_, rfl, rfl, _, rfl, ite2 (fun _ => ⟨_, rfl, rfl, ?_⟩) (fun z => (z (decide_eq_true rfl)).elim)⟩
      rw [decide_eq_true (show V.non = V.non from rfl)]
      exact eR eU _ _ oNew rfl st2
    | some r =>
      rw [ho] at hw3 hk
      have hw3 : Ow H3 w3 (rowD r) Fp0 := hw3
      have hk : sx.2.1 ≤ (R sx.1).length := hk
      rw [← etb] at hk
      have nn : ¬ w3 = V.non := fun z => by
        obtain ⟨t', e', _⟩ := ow_row hw3
        rw [z] at e'
        cases e'
      rw [decide_eq_false nn]
      refine iteF ⟨_, rfl, _, rfl, A.m, _, rfl, dg, .inl ⟨rfl, _, SqL.of ev⟩, _, rfl, _, rfl, A.L' tb.1, vs, sx.2.1, w3, rfl, rfl, ev, small4000 (by omega), h0, by omega, ?_⟩
      have oNew : OwAll H3 (vs.take sx.2.1.toNat ++ [w3] ++ vs.drop sx.2.1.toNat) (((R tb.1).take sx.2.1.toNat ++ [r] ++ (R tb.1).drop sx.2.1.toNat).map rowD) Fp0 := by
        rw [List.map_append, List.map_append, List.map_take, List.map_drop]
        exact owAll_app0 (owAll_drop _ ov) (owAll_atom (owAll_take _ ov) hw3)
      have eU : undoR R sx = setR R tb.1 ((R tb.1).take sx.2.1.toNat ++ [r] ++ (R tb.1).drop sx.2.1.toNat) := by
        unfold undoR
        rw [ho, etb]
      refine ⟨_, rfl, rfl, _, rfl, ite2 (fun _ => ⟨_, rfl, rfl, ?_⟩) (fun z => (z (decide_eq_true rfl)).elim)⟩
      rw [decide_eq_true (show V.non = V.non from rfl)]
      exact eR eU _ _ oNew rfl st2
end
end LW
set_option Elab.async false
set_option linter.all false
set_option maxRecDepth 100000
set_option maxHeartbeats 0
/-! _law_put_right -/
namespace LW
open PySem PySem.Spec PyProof.Rows L2 KV
/-- tables that may be none -/
structure TabsU (mt mc : Nat) (ts : List Tab) : Prop where
  most : ts.length ≤ mt
  nd : (ts.map Prod.fst).Nodup
  each : ∀ t ∈ ts, TabOk mc t
theorem TabsOk.u {mt mc : Nat} {ts : List Tab} (h : TabsOk mt mc ts) : TabsU mt mc ts := ⟨h.most, h.nd, h.each⟩
theorem TabsU.w {mt mc : Nat} {ts : List Tab} (h : TabsU mt mc ts) : TabsW 8 mc mt ts := ⟨h.most, fun t ht => ⟨(h.each t ht).one, (h.each t ht).most, fun x hx => ((h.each t ht).good x hx).gd, (h.each t ht).name.gd⟩⟩
/-- the book's tables and rules -/
structure Bok (ts : List Tab) (rs : List RB) : Prop where
  tk : TabsU 6 8 ts
  ok : ∀ r ∈ rs, RbOk 8 12 r
  len : rs.length ≤ 20
  ws : wrongs ts rs = none
/-- what stays, as it stood in C -/
structure Base (K : PySem.W.Frag) (C H : Hp) (p pl : Addr) (A : Ad) (ts : List Tab) (rs : List RB) : Prop where
  sub : Off (fun _ => False) C H
  plan : Plan K C pl ts rs
  book : BookOf K C A.b ts rs
  cp : C p = none
  cm : ∀ a, A.mu ts a → C a = none
  mC : C A.m = none
  dC : C A.d = none
  pm : ¬ A.mu ts p
theorem Base.go {K : PySem.W.Frag} {C H H' : Hp} {p pl : Addr} {A : Ad} {ts : List Tab} {rs : List RB} (h : Base K C H p pl A ts rs) (k : Off (fun a => a = p ∨ A.mu ts a) H H') : Base K C H' p pl A ts rs :=
  ⟨fun a o ea _ => k _ _ (h.sub a o ea id) (fun z => by
    rcases z with z | z
    · rw [z, h.cp] at ea
      cases ea
    · rw [h.cm a z] at ea
      cases ea), h.plan, h.book, h.cp, h.cm, h.mC, h.dC, h.pm⟩
theorem Plan.off {K : PySem.W.Frag} {H H' : Hp} {pl : Addr} {ts : List Tab} {rs : List RB} (h : Plan K H pl ts rs) (k : Off (fun _ => False) H H') : Plan K H' pl ts rs := by
  obtain ⟨td, v, kvs, e1, e2, e3, e4⟩ := h.ex
  exact ⟨td, v, kvs, k _ _ e1 id, k _ _ e2 id, titK_off k e3, dp_off k e4⟩
theorem fit_row {b m : Nat} {ms : List Nat} {row : Row} (l : row.length ≤ m) (h : ∀ w ∈ row, Wok w) : Fit b (m :: ms) (rowD row) := by
  refine ⟨by rw [List.length_map]; exact l, fun d hd => ?_⟩
  obtain ⟨w, hw, rfl⟩ := List.mem_map.mp hd
  cases w with
  | none => cases ms <;> trivial
  | some i =>
    have : Wok (some i) := h _ hw
    have hi : i.natAbs < 2 ^ 110 := by
      obtain ⟨h1, h2⟩ := this
      omega
    cases ms <;> exact hi
theorem sz_row {row : Row} (l : row.length ≤ 21) (h : ∀ w ∈ row, Wok w) : Sz 100 [21] (rowD row) := ⟨fit_row l h, by decide, by decide, by decide, by decide⟩
theorem fidx_lt {p : RB → Bool} : ∀ {rs : List RB} {i : Nat}, fidx p rs = some i → i < rs.length
  | [], _, h => by cases h
  | q :: rs, i, h => by
    rw [fidx] at h
    cases e : p q with
    | true =>
      rw [e] at h
      cases h
      simp
    | false =>
      rw [e] at h
      cases e2 : fidx p rs with
      | none => rw [e2] at h; cases h
      | some j =>
        rw [e2] at h
        cases h
        have := fidx_lt e2
        simp only [List.length_cons]
        omega
theorem putDue_sz {ts : List Tab} {rs : List RB} {R : Str → List Row} {x y : Str} {row : Row} {e : PyData} (h : putDue ts rs R x row = some (y, e)) (gx : Gd 10 x) (l : row.length ≤ 21) (wok : ∀ w ∈ row, Wok w) (lr : rs.length ≤ 1000) : y ∈ names.tail ∧ ∃ b ms, Sz b ms e := by
  cases et : tabOf ts x with
  | none =>
    rw [putDue_no et] at h
    cases h
    exact ⟨by decide, 100, [5, 8], sz_err (errFit_str gx (by decide))⟩
  | some t =>
    by_cases hl : row.length = t.2.length
    rotate_left
    · rw [putDue_len et hl] at h
      cases h
      exact ⟨by decide, 100, [21], sz_row l wok⟩
    rw [putDue_rule et hl] at h
    cases ef : fidx (breaksR ts R x row) rs with
    | none => rw [ef] at h; cases h
    | some i =>
      rw [ef] at h
      cases h
      have := fidx_lt ef
      exact ⟨by decide, 100, [5, 8], sz_int (by show (((i : Nat) : Int)).natAbs < _; rw [Int.natAbs_natCast]; omega)⟩
def spPutR (K : PySem.W.Frag) : Sp := fun vs H Q _ => ∃ (p st pl : Addr) (x : Str) (C : Hp) (A : Ad) (ts : List Tab) (rs : List RB) (R : Str → List Row) (S : List Stp) (c : Nat), vs = [.ref p, .ref st, .ref pl, .str x] ∧ Pu H p c ∧ c + 100 ≤ 1000000000 ∧ Bok ts rs ∧ Base K C H p pl A ts rs ∧ Twin K H st A ts R S ∧ Hist ts rs R S ∧ S.length ≤ 2000 ∧ Gd 10 x ∧
  ∀ R' S' H' c', Twin K H' st A ts R' S' → Hist ts rs R' S' → S'.length ≤ S.length + 1 → Pu H' p c' → c' ≤ c + 61 → Off (fun a => a = p ∨ A.mu ts a) H H' → Q (.bl true) H'
section
variable {P : Program} {w : World} {K : PySem.W.Frag} {mg : Str → Option Value} {base : Heap} {g1 : List Value → List Value → List Value}
end
end LW
set_option Elab.async false
set_option linter.all false
set_option maxRecDepth 100000
set_option maxHeartbeats 0
/-! _law_take_right -/
namespace LW
open PySem PySem.Spec PyProof.Rows L2 KV
/-- what a take is refused for -/
def takeDue (ts : List Tab) (R : Str → List Row) (x : Str) (i : Int) : Option (Str × PyData) := if x ∈ ts.map Prod.fst then (if 0 ≤ i ∧ i < (R x).length then none else some ("NoSuchRow", .int i)) else some ("UnknownTable", .str x)
def DueOk (H : Hp) (v : V) : Option (Str × PyData) → Prop
  | none => v = .non
  | some (y, e) => ∃ T w, v = .ref T ∧ H T = some (.tup [.str y, w]) ∧ Ow H w e Fp0
theorem takeDue_sz {ts : List Tab} {R : Str → List Row} {x y : Str} {i : Int} {e : PyData} (h : takeDue ts R x i = some (y, e)) (gx : Gd 10 x) (hi : i.natAbs ≤ 1000) : y ∈ names.tail ∧ ∃ b ms, Sz b ms e := by
  unfold takeDue at h
  split at h
  · split at h
    · cases h
    · cases h
      exact ⟨by decide, 100, [5, 8], sz_int (by omega)⟩
  · cases h
    exact ⟨by decide, 100, [5, 8], sz_err (errFit_str gx (by decide))⟩
def tkS (p st pl : Addr) (x : Str) (A : Ad) (many : Nat) (by_ i : Int) (due : Option V) : L2.St := [some (.ref p), some (.ref st), some (.ref pl), some (.str x), some (.ref A.s), some (.ref A.m), some (.ref A.k), some (.int (many : Nat)), some (.int by_), some (.int i), due, none, none, none, none]
def spTakeR (K : PySem.W.Frag) : Sp := fun vs H Q _ => ∃ (p st pl : Addr) (x : Str) (C : Hp) (A : Ad) (ts : List Tab) (rs : List RB) (R : Str → List Row) (S : List Stp) (c : Nat), vs = [.ref p, .ref st, .ref pl, .str x] ∧ Pu H p c ∧ c + 100 ≤ 1000000000 ∧ Bok ts rs ∧ Base K C H p pl A ts rs ∧ Twin K H st A ts R S ∧ Hist ts rs R S ∧ S.length ≤ 2000 ∧ Gd 10 x ∧
  ∀ R' S' H' c', Twin K H' st A ts R' S' → Hist ts rs R' S' → S'.length ≤ S.length + 1 → Pu H' p c' → c' ≤ c + 61 → Off (fun a => a = p ∨ A.mu ts a) H H' → Q (.bl true) H'
section
variable {P : Program} {w : World} {K : PySem.W.Frag} {mg : Str → Option Value} {base : Heap} {g1 : List Value → List Value → List Value}
end
end LW
set_option Elab.async false
set_option linter.all false
set_option maxRecDepth 100000
set_option maxHeartbeats 0
/-! _law_title -/
namespace LW
open PySem PySem.Spec PyProof.Rows L2 KV
def spTitle (K : PySem.W.Frag) : Sp := fun vs H Q _ => ∃ (p pl : Addr) (C : Hp) (ts : List Tab) (rs : List RB) (c : Nat), vs = [.ref p, .ref pl] ∧ Pu H p c ∧ c + 100 ≤ 1000000000 ∧ TabsOk 6 8 ts ∧ Off (fun _ => False) C H ∧ Plan K C pl ts rs ∧ C p = none ∧
  ∀ x H' c', Gd 10 x → Pu H' p c' → c' ≤ c + 3 → Off (fun a => a = p) H H' → Q (.str x) H'
section
variable {P : Program} {w : World} {K : PySem.W.Frag} {mg : Str → Option Value} {base : Heap}
end
end LW
set_option Elab.async false
set_option linter.all false
set_option maxRecDepth 100000
set_option maxHeartbeats 0
/-! _law_deed_right -/
namespace LW
open PySem PySem.Spec PyProof.Rows L2 KV
def spDeed (K : PySem.W.Frag) : Sp := fun vs H Q _ => ∃ (p st pl mn : Addr) (menu : List Str) (C : Hp) (A : Ad) (ts : List Tab) (rs : List RB) (R : Str → List Row) (S : List Stp) (c : Nat), vs = [.ref p, .ref st, .ref pl, .ref mn] ∧ SqL K H mn (menu.map V.str) ∧ 1 ≤ menu.length ∧ menu.length ≤ 10 ∧ Pu H p c ∧ c + 200 ≤ 1000000000 ∧ Bok ts rs ∧ TabsOk 6 8 ts ∧ Base K C H p pl A ts rs ∧ Twin K H st A ts R S ∧ Hist ts rs R S ∧ S.length ≤ 2000 ∧ (("undo" : Str) ∈ menu → A.n = 0) ∧
  ∀ R' S' H' c', Twin K H' st A ts R' S' → Hist ts rs R' S' → S'.length ≤ S.length + 1 → Pu H' p c' → c' ≤ c + 70 → Off (fun a => a = p ∨ A.mu ts a) H H' → Q (.bl true) H'
section
variable {P : Program} {w : World} {K : PySem.W.Frag} {mg : Str → Option Value} {base : Heap}
end
end LW
set_option Elab.async false
set_option linter.all false
set_option maxRecDepth 100000
set_option maxHeartbeats 0
/-! _law_all_right -/
namespace LW
open PySem PySem.Spec PyProof.Rows L2 KV
section
variable {H G : Hp} {td : Addr} {kvs : List (Key × V)}
mutual
/-- data stand still where a dict at td changes -/
theorem ow_keepD (k : Off (fun a => a = td) H G) (e : H td = some (.dK kvs)) : ∀ {v : V} {d : PyData} {F : Fp}, Ow H v d F → Ow G v d F
  | _, _, _, .non e' => .non e'
  | _, _, _, .bl b e' => .bl b e'
  | _, _, _, .int i e' => .int i e'
  | _, _, _, .str x e' => .str x e'
  | _, _, _, .lst h0 r n e' => .lst (k _ _ h0 fun z => by
      rw [z, e] at h0
      cases h0) (owAll_keepD k e r) n e'
  | _, _, _, .tup h0 r => .tup (k _ _ h0 fun z => by
      rw [z, e] at h0
      cases h0) (owAll_keepD k e r)
theorem owAll_keepD (k : Off (fun a => a = td) H G) (e : H td = some (.dK kvs)) : ∀ {vs : List V} {ds : List PyData} {F : Fp}, OwAll H vs ds F → OwAll G vs ds F
  | _, _, _, .nil e' => .nil e'
  | _, _, _, .cons h0 r n e' => .cons (ow_keepD k e h0) (owAll_keepD k e r) n e'
end
end
theorem total_le {R : Str → List Row} : ∀ {ts : List Tab}, (∀ t ∈ ts, (R t.1).length ≤ 8) → total ts R ≤ 8 * ts.length
  | [], _ => Nat.le_refl _
  | t :: ts, h => by
    have ih := total_le (ts := ts) fun u hu => h u (List.mem_cons_of_mem _ hu)
    have h0 := h t List.mem_cons_self
    unfold total at ih ⊢
    rw [List.map_cons, List.sum_cons, List.length_cons]
    omega
theorem total_int {R : Str → List Row} : ∀ {ts : List Tab}, (ts.map fun t => (((R t.1).length : Nat) : Int)).sum = ((total ts R : Nat) : Int)
  | [] => rfl
  | t :: ts => by
    have ih := total_int (R := R) (ts := ts)
    unfold total at ih ⊢
    rw [List.map_cons, List.sum_cons, ih, List.map_cons, List.sum_cons]
    omega
/-- a store and its mirror stand still where another dict changes -/
theorem Twin.keepD {K : PySem.W.Frag} {H G : Hp} {st td : Addr} {kvs : List (Key × V)} {A : Ad} {ts : List Tab} {R : Str → List Row} {S : List Stp} (h : Twin K H st A ts R S) (k : Off (fun a => a = td) H G) (e : H td = some (.dK kvs)) (n1 : A.d ≠ td) (n2 : A.m ≠ td) : Twin K G st A ts R S := by
  have nl : ∀ {a : Addr} {o : HO}, H a = some o → (∀ ks, o ≠ .dK ks) → G a = some o := fun {a o} ea no => k _ _ ea fun z => by
    rw [z, e] at ea
    cases ea
    exact no _ rfl
  have rows : ∀ {d l : Addr} {L : Str → Addr} {S : List Stp}, StoA H d l L ts R S → d ≠ td → StoA G d l L ts R S := fun {d l L S} sa nd => ⟨k _ _ sa.dic nd, fun t ht => by
    obtain ⟨vs, ev, ov⟩ := sa.rows t ht
    exact ⟨vs, nl ev (fun _ z => nomatch z), owAll_keepD k e ov⟩, by
    obtain ⟨vs, ev, ov⟩ := sa.steps
    exact ⟨vs, nl ev (fun _ z => nomatch z), owAll_keepD k e ov⟩⟩
  obtain ⟨dx, es⟩ := h.sto.ins
  exact ⟨nl h.tup (fun _ z => nomatch z), ⟨⟨dx, nl es (fun _ z => nomatch z)⟩, rows h.sto.sto n1⟩, rows h.mir n2, h.sp, h.sp', h.dis, h.ln, h.bt⟩
/-- len(d[x]), d and x at the slots 3 and 5 -/
def tLenAt (K : PySem.W.Frag) : TE := tCB (fun xs H Q => ∃ p ys, xs = [V.ref p] ∧ (SqL K H p ys ∨ SqT K H p ys) ∧ Q (V.int (ys.length : Nat)) H) (tCons (tDGet (tVar 3) (tVar 5)) tNil)
def spAllR (K : PySem.W.Frag) : Sp := fun vs H Q _ => ∃ (st pl : Addr) (C : Hp) (A : Ad) (ts : List Tab) (rs : List RB) (R : Str → List Row) (S : List Stp), vs = [.ref st, .ref pl] ∧ Bok ts rs ∧ Off (fun _ => False) C H ∧ Plan K C pl ts rs ∧ Twin K H st A ts R S ∧ Good ts rs R ∧ C A.d = none ∧ C A.m = none ∧ ∀ H', Off (fun _ => False) H H' → Q (.bl true) H'
theorem fit_rows {b : Nat} {rows : List Row} {n m : Nat} {ms : List Nat} (l : rows.length ≤ n) (h : ∀ r ∈ rows, r.length ≤ m ∧ ∀ w ∈ r, Wok w) : Fit b (n :: m :: ms) (.list (rows.map rowD)) := by
  refine ⟨by rw [List.length_map]; exact l, fun d hd => ?_⟩
  obtain ⟨r, hr, rfl⟩ := List.mem_map.mp hd
  exact fit_row (h r hr).1 (h r hr).2
theorem sz_rows {rows : List Row} (l : rows.length ≤ 8) (h : ∀ r ∈ rows, r.length ≤ 8 ∧ ∀ w ∈ r, Wok w) : Sz 100 [8, 8] (.list (rows.map rowD)) := ⟨fit_rows l h, by decide, by decide, by decide, by decide⟩
section
variable {P : Program} {w : World} {K : PySem.W.Frag} {mg : Str → Option Value} {base : Heap} {fL : Addr}
theorem scAllR : FnScope ["state", "plan", "store", "lines", "steps_here", "title"] ["state", "plan"] (defScope sAllRight) := ⟨rfl, rfl, rfl, by decide +kernel, rfl, by decide +kernel, by decide +kernel⟩
theorem ok_allR {f fO fR : Addr} {fd dO dR dL : FuncData} (F : FnP K "_law_all_right" sAllRight f fd) (ST : StoreT K mg) (O : DnC P w K mg base 7 "_law_own" ["told", "due"] (spOwn K) fO dO) (mR : L2.Meth K (He.ga K "Store") "rows" fR) (GR : DnX P w K mg base 3 ["self", "table"] (spRows K) fR dR)
    (hL : PySem.W.findIn K (.ref (He.ga K "Store")) "__len__" = some (some (.ref fL))) (iL : PySem.W.isFn K (.ref fL) = true) (GL : FnOk P w K mg base CX0 1 fL dL ["self"] (spSLen K)) (bL : Binds K dL ["self"] [])
    (ml : mg "len" = none) (mp : mg "repr" = none) (ms : mg "str" = none) (mS : mg "sum" = none) : FnC P w K mg base CX0 8 f fd ["state", "plan"] (spAllR K) := by
  refine Fun.okC F scAllR (fun vs H Q E h => ?_) (fun cdv A0 outer s0 H vs Q E hG hr h => ?_)
  · obtain ⟨st, pl, C0, A, ts, rs, R, S, rfl, _⟩ := h
    rfl
  obtain ⟨st, pl, C0, A, ts, rs, R, S, rfl, bk, sub, pn, tw, g, hd, hm, q⟩ := h
  have hu1 := Nat.lt_of_le_of_lt (Nat.add_le_add_left (show 1 ≤ 64 by decide) _) hr.units
  refine ⟨_, PSs.nox (pss_cons (ps_asg (pv 0) (pg_tup rfl (pgs_cons (pg_name (i := 2) scAllR.nd rfl (Or.inl rfl)) (pgs_cons (pg_name (i := 3) scAllR.nd rfl (Or.inr rfl)) (pgs_cons (pg_name (i := 4) scAllR.nd rfl (Or.inl rfl)) pgs_nil)))))
    (pss_cons (ps_lock (ps_for PassesOwn.never rfl (pi_keys (pe_ix ix_tup (pv 1) pe_int (fun _ _ => rfl))) (pg_name (i := 5) scAllR.nd rfl (Or.inl rfl))
      (pss_one (ps_if (pt_not (pt_val (pe_callC hG O.g hr rfl O.m O.kp O.b pass0 (pa_cons (pe_meth (pv 2) ST.cl mR GR.g (hr.mono (by decide)) GR.b .nil passN (pa_cons (pv 5) pa_nil)) (pa_cons (pe_dget hu1 (pv 3) (pv 5) (fun _ _ => rfl)) pa_nil))))) (pss_one (ps_ret pe_bl)) pss_nil))))
    (pss_one (ps_ret (pe_cmpR op_eq (pe_callB SkE.call_repr_int rfl mp boot_repr (pa_cons (pe_callB (call_lenO (C := He.ga K "Store") hL iL GL (hr.mono (by decide)) bL) rfl ml boot_len (pa_cons (pv 2) pa_nil)) pa_nil))
      (pe_callTy call_str_int rfl ms (by decide +kernel) (pa_cons (pe_callB (cr_sum rfl) rfl mS (by decide +kernel) (pa_cons (pe_lock (pe_lc (own := [("title", 5)]) (g := gName 5) (tt := tYes) (te := tLenAt K) rfl scAllR.nd (pi_keys (pv 3)) (blkOk_by (own := [("title", 5)]) (N := ["state", "plan", "store", "lines", "steps_here", "title"]) (sc := defScope sAllRight) (by decide +kernel))
        (fun _ _ _ _ _ => pg_name (i := 5) scAllR.nd rfl (Or.inl rfl)) (fun _ _ _ _ _ => pts_nil) (fun _ _ _ _ _ => pe_callB call_len_seq rfl ml boot_len (pa_cons (pe_dget hu1 (pv 3) (pv 5) (fun _ _ => rfl)) pa_nil)))) pa_nil)) pa_nil)) (nomark _)))))), ?_⟩
  have no : ¬ False := id
  obtain ⟨td, v, kvs, cpl, ctd, ctk, cdr⟩ := pn.ex
  have epl := sub _ _ cpl no
  have etd := sub _ _ ctd no
  have n1 : A.d ≠ td := fun z => by
    rw [z, ctd] at hd
    cases hd
  have n2 : A.m ≠ td := fun z => by
    rw [z, ctd] at hm
    cases hm
  have lkv : kvs.length = ts.length := titK_len ctk
  refine ⟨_, rfl, st, _, rfl, SqT.of tw.tup, rfl, _, _, rfl, _, _, rfl, _, _, rfl, rfl, ?_⟩
  refine ⟨td, .dK kvs, etd, trivial, fun od => ?_⟩
  have kd : Off (fun a => a = td) H (upd H td (.frz od (.dK kvs))) := Off.upd rfl
  have ed1 := upd_same (H := H) (a := td) (o := .frz od (.dK kvs))
  generalize upd H td (.frz od (.dK kvs)) = H1 at kd ed1 ⊢
  have npl : pl ≠ td := fun z => by
    rw [z, etd] at epl
    cases epl
  have epl1 := kd _ _ epl npl
  refine ⟨_, rfl, pl, _, 0, .ref td, rfl, rfl, SqT.of epl1, atI_nat (j := 0) rfl, td, od, rfl, .inl ⟨kvs, ed1, for_it walk_keys (fun i σ G => (∃ w5, σ = [some (.ref st), some (.ref pl), some (.ref A.s), some (.ref A.m), some (.ref A.k), w5]) ∧ G td = some (.frz od (.dK kvs)) ∧ Off (fun a => a = td) H G)
    ⟨⟨none, rfl⟩, ed1, kd⟩ (fun i σ G _ g => g.2.1) (fun i y σ G G' hi gg yy => ?_) fun σ G gg => ?_⟩⟩
  · obtain ⟨⟨w5, rfl⟩, g1, g2⟩ := gg
    obtain ⟨rfl, k, v', ek, rfl⟩ := yy
    obtain ⟨u, hu, rfl⟩ := titK_key ctk ek
    have mu := List.mem_of_getElem? hu
    have hx : u.1 ∈ ts.map Prod.fst := List.mem_map.mpr ⟨u, mu, rfl⟩
    have twG := tw.keepD g2 etd n1 n2
    obtain ⟨dx, es⟩ := twG.sto.ins
    refine ⟨_, rfl, A.s, dx, _, rfl, es, rfl, _, rfl, A.s, A.b, A.d, A.l, A.L, ts, R, S, u.1, rfl, twG.sto, ⟨fun _ D vs G2 nD eD oD k2 => ?_, fun n => absurd hx n⟩⟩
    have tw2 := twG.off k2
    have dg := DGet.k (k := .inr u.1) tw2.mir.dic
    rw [valV_dkv, if_pos hx] at dg
    obtain ⟨ls, el, ol⟩ := tw2.mir.rows u mu
    refine ⟨_, rfl, _, rfl, A.m, _, rfl, dg, ?_⟩
    have lcol := (bk.tk.each u mu).most
    have sz := sz_rows (rows := R u.1) (g.few u mu) fun r hr => ⟨by have := (g.wd u mu r hr).1; omega, (g.wd u mu r hr).2⟩
    refine ⟨.ref D, .ref (A.L' u.1), _, fun a => a = D, 100, [8, 8], rfl, .lst eD oD (fun z => z) (fun b => ⟨.inl, fun z => z.elim id fun y => y.elim⟩), .lst (SqL.of el) ol.dp, sz, fun G3 k3 => ?_⟩
    refine ⟨true, rfl, iteF ⟨⟨_, rfl⟩, ?_, fun a o ea na => ?_⟩⟩
    · exact k3 _ _ (k2 _ _ g1 no) fun z => by rw [← z, g1] at nD; cases nD
    · have e1 := g2 a o ea na
      exact k3 _ _ (k2 _ _ e1 no) fun z => by rw [← z, e1] at nD; cases nD
  · obtain ⟨⟨w5, rfl⟩, g1, g2⟩ := gg
    refine ⟨g1, ?_⟩
    have kF : Off (fun a => a = td) G (upd G td (.dK kvs)) := Off.upd rfl
    have k0 : Off (fun _ => False) H (upd G td (.dK kvs)) := fun a o ea _ => by
      by_cases z : a = td
      · rw [z] at ea ⊢
        rw [upd_same, ← ea, etd]
      · exact kF _ _ (g2 a o ea z) z
    generalize upd G td (.dK kvs) = G1 at kF k0 ⊢
    have tw1 := tw.off k0
    obtain ⟨dx, es⟩ := tw1.sto.ins
    have lt : total ts R ≤ 48 := Nat.le_trans (total_le g.few) (by have := bk.tk.most; omega)
    have lg : (((total ts R : Nat) : Int)).natAbs.log2 < 1920 := by
      rw [Int.natAbs_natCast]
      exact Nat.lt_of_le_of_lt (Nat.log2_le_self _) (by omega)
    refine ⟨_, rfl, A.s, dx, _, rfl, es, ⟨A.s, A.b, A.d, A.l, A.L, ts, R, S, rfl, tw1.sto, tw1.sp, by omega, fun G2 k2 => ⟨_, rfl, Int.natCast_nonneg _, by omega, _, rfl, lg, ?_⟩⟩⟩
    have tw2 := tw1.off k2
    have k02 := k0.trans k2
    have edm := tw2.mir.dic
    have each : ∀ u ∈ ts, ∃ vs, G2 (A.L' u.1) = some (.lst vs) ∧ vs.length = (R u.1).length := fun u hu => by
      obtain ⟨vs, ev, ov⟩ := tw2.mir.rows u hu
      exact ⟨vs, ev, by rw [ov.length, List.length_map]⟩
    refine ⟨A.m, .dK (dkv ts A.L'), edm, trivial, fun om => ?_⟩
    have km : Off (fun a => a = A.m) G2 (upd G2 A.m (.frz om (.dK (dkv ts A.L')))) := Off.upd rfl
    have em := upd_same (H := G2) (a := A.m) (o := .frz om (.dK (dkv ts A.L')))
    generalize upd G2 A.m (.frz om (.dK (dkv ts A.L'))) = G3 at km em ⊢
    have ldk : (dkv ts A.L').length = ts.length := List.length_map _
    refine ⟨_, rfl, A.m, om, rfl, .inl ⟨_, em, fun D hD => lc_it walk_keys (fun i G => G A.m = some (.frz om (.dK (dkv ts A.L'))) ∧ Off (fun a => a = A.m) G2 G ∧ G D = some (.lst (((ts.take i).map fun t => (((R t.1).length : Nat) : Int)).map V.int)))
      ⟨?_, ?_, upd_same⟩ (fun i G _ g => g.1) (fun i y G G' hi gg yy => ?_) fun G gg => ?_⟩⟩
    · rw [upd_ne (fun z => by rw [← z, em] at hD; cases hD)]
      exact em
    · exact km.trans (Off.in (Off.new hD))
    · obtain ⟨h1, h2, h3⟩ := gg
      obtain ⟨rfl, k, v', ek, rfl⟩ := yy
      have hit : i < ts.length := by omega
      have hu : ts[i]? = some ts[i] := List.getElem?_eq_getElem hit
      have mu := List.getElem_mem hit
      generalize ts[i] = u at hu mu
      have ek' : k = .inr u.1 := by
        unfold dkv at ek
        rw [List.getElem?_map, hu] at ek
        cases ek
        rfl
      subst ek'
      have hx : u.1 ∈ ts.map Prod.fst := List.mem_map.mpr ⟨u, mu, rfl⟩
      obtain ⟨vs, ev, lv⟩ := each u mu
      have evG := h2 _ _ ev fun z => by rw [z, edm] at ev; cases ev
      have dg : DGet G' A.m (.str u.1) (some (.ref (A.L' u.1))) := .inl ⟨dkv ts A.L', .inr u.1, .inr ⟨om, h1⟩, rfl, by rw [valV_dkv, if_pos hx]⟩
      have most := bk.tk.most
      refine ⟨rfl, ?_⟩
      refine iteT (B := True) ?_
      refine iteT ?_
      refine ⟨_, rfl, _, rfl, A.m, _, rfl, dg, A.L' u.1, vs, rfl, .inl (SqL.of evG), _, h3, ?_, ?_, fun a o ea na => ?_, ?_⟩
      · rw [List.length_map, List.length_map, List.length_take]
        exact small4000 (by omega)
      · rw [upd_ne (fun z => by rw [← z, h1] at h3; cases h3)]
        exact h1
      · rw [upd_ne (fun z => by
          rw [z] at ea na
          rw [km _ _ ea na] at hD
          cases hD)]
        exact h2 a o ea na
      · rw [upd_same, take_snoc hu, lv]
        simp
    · obtain ⟨h1, h2, h3⟩ := gg
      rw [ldk, List.take_length] at h3
      refine ⟨h1, ?_⟩
      have kF2 : Off (fun a => a = A.m) G (upd G A.m (.dK (dkv ts A.L'))) := Off.upd rfl
      have k3 : Off (fun _ => False) G2 (upd G A.m (.dK (dkv ts A.L'))) := fun a o ea _ => by
        by_cases z : a = A.m
        · rw [z] at ea ⊢
          rw [upd_same, ← ea, edm]
        · exact kF2 _ _ (h2 a o ea z) z
      have h3' := kF2 _ _ h3 fun z => by rw [z, h1] at h3; cases h3
      generalize upd G A.m (.dK (dkv ts A.L')) = G4 at kF2 k3 h3' ⊢
      refine ⟨D, _, rfl, SqL.of h3', ?_⟩
      rw [total_int]
      refine ⟨_, rfl, lg, rfl, ?_⟩
      rw [decide_eq_true rfl]
      exact q G4 (k02.trans k3)
end
end LW
set_option Elab.async false
set_option linter.all false
set_option maxRecDepth 100000
set_option maxHeartbeats 0
/-! _law_look_right -/
namespace LW
open PySem PySem.Spec PyProof.Rows L2 KV
/-- len(d[x]), d and x at the slots i and j -/
def tLenAt2 (K : PySem.W.Frag) (i j : Nat) : TE := tCB (fun xs H Q => ∃ p ys, xs = [V.ref p] ∧ (SqL K H p ys ∨ SqT K H p ys) ∧ Q (V.int (ys.length : Nat)) H) (tCons (tDGet (tVar i) (tVar j)) tNil)
def spLook (K : PySem.W.Frag) : Sp := fun vs H Q _ => ∃ (p st pl : Addr) (C : Hp) (A : Ad) (ts : List Tab) (rs : List RB) (R : Str → List Row) (S : List Stp) (c : Nat), vs = [.ref p, .ref st, .ref pl] ∧ Pu H p c ∧ c + 200 ≤ 1000000000 ∧ Bok ts rs ∧ TabsOk 6 8 ts ∧ Base K C H p pl A ts rs ∧ Twin K H st A ts R S ∧ Good ts rs R ∧
  ∀ H' c', Pu H' p c' → c' ≤ c + 10 → Off (fun a => a = p) H H' → Q (.bl true) H'
section
variable {P : Program} {w : World} {K : PySem.W.Frag} {mg : Str → Option Value} {base : Heap} {fL : Addr} {g1 : List Value → List Value → List Value}
end
end LW
set_option Elab.async false
set_option linter.all false
set_option maxRecDepth 100000
set_option maxHeartbeats 0
/-! filled -/
namespace LW
open PySem PySem.Spec PyProof.Rows L2 KV
def giveD (g : Str × Row) : PyData := .tuple [.str g.1, rowD g.2]
/-- the rows and the steps behind puts -/
def fillW (gs : List (Str × Row)) : (Str → List Row) × List Stp := gs.foldl (fun w g => (setR w.1 g.1 (w.1 g.1 ++ [g.2]), w.2 ++ [((g.1, (((w.1 g.1).length : Nat) : Int), none) : Stp)])) (fun _ => [], [])
theorem fillW_snoc {gs : List (Str × Row)} {g : Str × Row} : fillW (gs ++ [g]) = (setR (fillW gs).1 g.1 ((fillW gs).1 g.1 ++ [g.2]), (fillW gs).2 ++ [((g.1, ((((fillW gs).1 g.1).length : Nat) : Int), none) : Stp)]) := by
  unfold fillW
  rw [List.foldl_append]
  rfl
theorem fillW_len0 : ∀ (gs : List (Str × Row)) (w : (Str → List Row) × List Stp), (gs.foldl (fun w g => (setR w.1 g.1 (w.1 g.1 ++ [g.2]), w.2 ++ [((g.1, (((w.1 g.1).length : Nat) : Int), none) : Stp)])) w).2.length = w.2.length + gs.length
  | [], w => rfl
  | g :: gs, w => by
    rw [List.foldl_cons, fillW_len0 gs, List.length_append, List.length_cons, List.length_cons, List.length_nil]
    omega
theorem fillW_len {gs : List (Str × Row)} : (fillW gs).2.length = gs.length := by
  unfold fillW
  rw [fillW_len0]
  exact Nat.zero_add _
theorem give_ow {H : Hp} {v : V} {g : Str × Row} (h : Ow H v (giveD g) Fp0) : ∃ t tr, v = .ref t ∧ H t = some (.tup [.str g.1, .ref tr]) ∧ H tr = some (.tup (g.2.map wV)) := by
  cases h with
  | tup h0 r0 =>
    cases r0 with
    | cons ha r1 _ _ =>
      cases ha
      cases r1 with
      | cons hb r2 _ _ =>
        cases r2
        obtain ⟨tr, rfl, e⟩ := ow_row hb
        exact ⟨_, tr, rfl, h0, e⟩
theorem give_mk {H : Hp} {t tr : Addr} {g : Str × Row} (h : H t = some (.tup [.str g.1, .ref tr])) (e : H tr = some (.tup (g.2.map wV))) : Ow H (.ref t) (giveD g) Fp0 :=
  .tup h (owAll_0cons (.str g.1 fun _ z => z) (owAll_0cons (ow_row_mk e) (.nil fun _ z => z)))
/-- rows that may all be put -/
def Gives (ts : List Tab) (rs : List RB) (gs : List (Str × Row)) : Prop := ∀ i g, gs[i]? = some g → Wide ts (fillW (gs.take i)).1 ∧ g.2.length ≤ 1000 ∧ putDue ts rs (fillW (gs.take i)).1 g.1 g.2 = none
theorem Gives.snoc {ts : List Tab} {rs : List RB} {gs : List (Str × Row)} {g : Str × Row} (h : Gives ts rs gs) (w : Wide ts (fillW gs).1) (l : g.2.length ≤ 1000) (d : putDue ts rs (fillW gs).1 g.1 g.2 = none) : Gives ts rs (gs ++ [g]) := by
  intro i g' e
  rcases Nat.lt_or_ge i gs.length with lt | ge
  · rw [List.getElem?_append_left lt] at e
    rw [List.take_append_of_le_length (Nat.le_of_lt lt)]
    exact h i g' e
  · rw [List.getElem?_append_right ge] at e
    have : i - gs.length = 0 := by
      have := (List.getElem?_eq_some_iff.mp e).1
      simp at this
      omega
    rw [this] at e
    cases e
    have ei : i = gs.length := by omega
    rw [ei, List.take_left]
    exact ⟨w, l, d⟩
def spFilled (K : PySem.W.Frag) : Sp := fun vs H Q _ => ∃ (b r : Addr) (xs : List V) (ts : List Tab) (rs : List RB) (gs : List (Str × Row)) (n mc mt N M Lr : Nat), vs = [.ref b, .ref r] ∧ BookOf K H b ts rs ∧ BkB n mc mt N M Lr ts rs ∧ (ts.map Prod.fst).Nodup ∧ wrongs ts rs = none ∧
  H r = some (.lst xs) ∧ OwAll H xs (gs.map giveD) Fp0 ∧ gs.length ≤ 1000 ∧ Gives ts rs gs ∧
  ∀ H' s d l L, StAt K H' s b d l L ts (fillW gs).1 (fillW gs).2 → Sep ts L l → H s = none → H d = none → (∀ a, Mu ts L l a → H a = none) → Off (fun _ => False) H H' → Q (.ref s) H'
section
variable {P : Program} {w : World} {K : PySem.W.Frag} {mg : Str → Option Value} {base : Heap}
theorem scFilled : FnScope ["book", "rows", "store", "table", "row"] ["book", "rows"] (defScope pFilled) := ⟨rfl, rfl, rfl, by decide +kernel, rfl, by decide +kernel, by decide +kernel⟩
theorem ok_filled {f fP : Addr} {fd dS dP : FuncData} (F : FnP K "filled" pFilled f fd) (ST : StoreT K mg) (GS : FnOk P w K mg base CX0 9 (He.ma K (He.ga K "Store") "__init__") dS ["self", "book"] (spStoreN K)) (bS : Binds K dS ["self", "book"] [])
    (mP : L2.Meth K (He.ga K "Store") "put" fP) (GP : DnX P w K mg base 9 ["self", "table", "row"] (spPut K) fP dP) : FnOk P w K mg base CX0 11 f fd ["book", "rows"] (spFilled K) := by
  refine F.ok scFilled (fun vs H Q E h => ?_) (fun cdv A outer s0 H vs Q E hr h => ?_)
  · obtain ⟨b, r, xs, ts, rs, gs, n, mc, mt, N, M, Lr, rfl, _⟩ := h
    rfl
  obtain ⟨b, r, xs, ts, rs, gs, n, mc, mt, N, M, Lr, rfl, bo, bb, nd, ws, er, og, lg, gv, q⟩ := h
  refine ⟨_, PSs.nox (pss_cons (ps_set (i := 2) scFilled.nd rfl (Or.inl rfl) (pe_make ST.mkr GS (hr.mono (by decide)) rfl ST.g bS .nil pass0 (pa_cons (pv 0) pa_nil)))
    (pss_cons (ps_for PassesOwn.never rfl (pi_list (pv 1)) (pg_tup rfl (pgs_cons (pg_name (i := 3) scFilled.nd rfl (Or.inl rfl)) (pgs_cons (pg_name (i := 4) scFilled.nd rfl (Or.inl rfl)) pgs_nil)))
      (pss_one (ps_expr (pe_meth (pv 2) ST.cl mP GP.g (hr.mono (by decide)) GP.b .nil passN (pa_cons (pv 3) (pa_cons (pv 4) pa_nil))))))
    (pss_one (ps_ret (pv 2))))), ?_⟩
  have no : ¬ False := id
  refine ⟨_, rfl, fun s dx ns ndx nex => ?_⟩
  have kM : Off (fun _ => False) H (upd (upd H dx (.own s)) s (.ins (He.ga K "Store") dx [])) := (Off.new ndx).trans (Off.new (by rw [upd_ne (Ne.symm nex)]; exact ns))
  have sb : s ≠ b := fun z => by
    obtain ⟨_, _, _, e, _⟩ := bo
    rw [← z, ns] at e
    cases e
  refine ⟨s, b, dx, ts, rs, n, mc, mt, N, M, Lr, rfl, upd_same, bo.off kM, sb, bb, nd, fun H1 d l L e1 sa sp fr fd1 k1 => ⟨rfl, ?_⟩⟩
  have k01 : Off (fun _ => False) H H1 := fun a o ea _ => k1 _ _ (kM a o ea no) fun z => by
    rw [z, ns] at ea
    cases ea
  have fr0 : ∀ a, Mu ts L l a → H a = none := fun a z => kM.none (fr a z) no
  have fd0 : H d = none := kM.none fd1 no
  have lx : xs.length = gs.length := by rw [og.length, List.length_map]
  refine ⟨_, rfl, r, rfl, ⟨_, SqL.of (k01 _ _ er no)⟩, for_list (K := K) (a := r) (xs := xs) (fun i σ G => (∃ w3 w4, σ = [some (.ref b), some (.ref r), some (.ref s), w3, w4]) ∧ StAt K G s b d l L ts (fillW (gs.take i)).1 (fillW (gs.take i)).2 ∧ Off (fun _ => False) H G)
    ⟨⟨none, none, rfl⟩, ⟨⟨dx, e1⟩, sa⟩, k01⟩ (fun i σ G _ g => SqL.of (g.2.2 _ _ er no)) (fun i x σ G hx g => ?_) fun σ G g => ?_⟩
  · obtain ⟨⟨w3, w4, rfl⟩, st, kG⟩ := g
    have hi : i < gs.length := by
      have := (List.getElem?_eq_some_iff.mp hx).1
      omega
    have hg : gs[i]? = some gs[i] := List.getElem?_eq_getElem hi
    generalize gs[i] = g at hg
    obtain ⟨v, ev, ov⟩ := owAll_get (i := i) (d := giveD g) og (by rw [List.getElem?_map, hg]; rfl)
    rw [hx] at ev
    cases ev
    obtain ⟨t, tr, rfl, et, etr⟩ := give_ow ov
    obtain ⟨wd, lrow, due⟩ := gv i g hg
    refine ⟨t, [.str g.1, .ref tr], rfl, SqT.of (kG _ _ et no), rfl, .str g.1, [.ref tr], rfl, .ref tr, [], rfl, rfl, ?_⟩
    obtain ⟨dx', es⟩ := st.ins
    refine ⟨_, rfl, s, dx', _, rfl, es, rfl, _, rfl, _, rfl, s, b, d, l, tr, L, ts, rs, (fillW (gs.take i)).1, (fillW (gs.take i)).2, g.1, g.2, n, mc, mt, N, M, Lr, rfl, st, sp, kG _ _ etr no, bo.off kG, bb, ws, wd, lrow, ?_, ?_⟩
    · rw [fillW_len, List.length_take]
      omega
    rw [due]
    intro H' st' k'
    refine ⟨⟨_, _, rfl⟩, ?_, fun a o ea na => k' _ _ (kG a o ea na) fun z => by
      rw [fr0 a z] at ea
      cases ea⟩
    rw [take_snoc hg, fillW_snoc]
    exact st'
  · obtain ⟨⟨w3, w4, rfl⟩, st, kG⟩ := g
    rw [lx, List.take_length] at st
    exact ⟨_, rfl, q G s d l L st sp ns fd0 fr0 kG⟩
end
end LW
set_option Elab.async false
set_option linter.all false
set_option maxRecDepth 100000
set_option maxHeartbeats 0
/-! a dict of new lists by titles -/
namespace LW
open PySem PySem.Spec PyProof.Rows L2 KV
theorem hide_self {f : Addr} {G : Hp} : Off (fun a => a = f) G (hide f G) := fun a o e n => by
  rw [hide_ne n]
  exact e
theorem hide_gone {f : Addr} {G : Hp} : hide f G f = none := if_pos rfl
/-- pairs of the first titles and new lists stand in D -/
def NewL (K : PySem.W.Frag) (H6 : Hp) (D : Addr) (ts : List Tab) (i : Nat) (G : Hp) : Prop := ∃ (ps : List Addr) (L2 : Str → Addr), G D = some (.lst (ps.map V.ref)) ∧ ps.length = i ∧ Paired (fun p kv => SqT K G p [kV kv.1, kv.2]) ps (dkv (ts.take i) L2) ∧
  (∀ u ∈ ts.take i, L2 u.1 ≠ D ∧ G (L2 u.1) = some (.lst []) ∧ H6 (L2 u.1) = none) ∧ ∀ t ∈ ts.take i, ∀ u ∈ ts.take i, L2 t.1 = L2 u.1 → t.1 = u.1
theorem newL_nil {K : PySem.W.Frag} {H6 H7 : Hp} {D : Addr} {ts : List Tab} : NewL K H6 D ts 0 (upd H7 D (.lst [])) := ⟨[], fun _ => 0, upd_same, rfl, .nil, fun u hu => by simp at hu, fun u hu => by simp at hu⟩
theorem newL_step {K : PySem.W.Frag} {F : Fp} {H6 G : Hp} {D l T : Addr} {ts : List Tab} {i : Nat} {u : Tab} (h : NewL K H6 D ts i G) (k : Off F H6 G) (hD : H6 D = none) (hu : ts[i]? = some u) (nd : (ts.map Prod.fst).Nodup) (mts : ts.length ≤ 1000) (nl : G l = none) (fl : ¬ F l) (nT : upd G l (.lst []) T = none) :
    ∃ acc, (upd (upd G l (.lst [])) T (.tup [.str u.1, .ref l])) D = some (.lst acc) ∧ acc.length < sizeLine ∧ NewL K H6 D ts (i + 1) (upd (upd (upd G l (.lst [])) T (.tup [.str u.1, .ref l])) D (.lst (acc ++ [.ref T]))) ∧
      Off F H6 (upd (upd (upd G l (.lst [])) T (.tup [.str u.1, .ref l])) D (.lst (acc ++ [.ref T]))) ∧ ∀ b o, G b = some o → b ≠ D → (upd (upd (upd G l (.lst [])) T (.tup [.str u.1, .ref l])) D (.lst (acc ++ [.ref T]))) b = some o := by
  have no : ¬ False := id
  obtain ⟨ps2, L2, g3, g4, g5, g6, g7⟩ := h
  have hil := (List.getElem?_eq_some_iff.mp hu).1
  have nu : u.1 ∉ (ts.take i).map Prod.fst := fun z => by
    obtain ⟨w0, hw, ew⟩ := List.mem_map.mp z
    obtain ⟨j, hj⟩ := List.getElem?_of_mem hw
    have jl : j < i := by
      have := (List.getElem?_eq_some_iff.mp hj).1
      rw [List.length_take] at this
      omega
    rw [List.getElem?_take_of_lt jl] at hj
    have e1 : (ts.map Prod.fst)[j]? = some u.1 := by rw [List.getElem?_map, hj, ← ew]; rfl
    have e2 : (ts.map Prod.fst)[i]? = some u.1 := by rw [List.getElem?_map, hu]; rfl
    have hjl := (List.getElem?_eq_some_iff.mp e1).1
    have := (List.getElem?_inj hjl nd).mp (e1.trans e2.symm)
    omega
  have j1 : Off (fun _ => False) G (upd G l (.lst [])) := Off.new nl
  have el := upd_same (H := G) (a := l) (o := .lst [])
  have lD : l ≠ D := fun z => by rw [z, g3] at nl; cases nl
  have nl6 : H6 l = none := k.none nl fl
  generalize upd G l (.lst []) = G2 at j1 el nT ⊢
  have jT : Off (fun _ => False) G2 (upd G2 T (.tup [kV (.inr u.1), .ref l])) := Off.new nT
  have eT := upd_same (H := G2) (a := T) (o := .tup [kV (.inr u.1), .ref l])
  show ∃ acc, (upd G2 T (.tup [kV (.inr u.1), .ref l])) D = some (.lst acc) ∧ acc.length < sizeLine ∧ NewL K H6 D ts (i + 1) (upd (upd G2 T (.tup [kV (.inr u.1), .ref l])) D (.lst (acc ++ [.ref T]))) ∧ Off F H6 (upd (upd G2 T (.tup [kV (.inr u.1), .ref l])) D (.lst (acc ++ [.ref T]))) ∧
    ∀ b o, G b = some o → b ≠ D → (upd (upd G2 T (.tup [kV (.inr u.1), .ref l])) D (.lst (acc ++ [.ref T]))) b = some o
  generalize upd G2 T (.tup [kV (.inr u.1), .ref l]) = G3 at jT eT ⊢
  have j13 := j1.trans jT
  have gD := j13 _ _ g3 no
  have el3 := jT _ _ el no
  have jD : Off (fun a => a = D) G3 (upd G3 D (.lst (ps2.map V.ref ++ [.ref T]))) := Off.upd rfl
  have eD := upd_same (H := G3) (a := D) (o := .lst (ps2.map V.ref ++ [.ref T]))
  refine ⟨ps2.map V.ref, gD, ?_, ?_⟩
  · rw [List.length_map]
    exact small4000 (by omega)
  generalize upd G3 D (.lst (ps2.map V.ref ++ [.ref T])) = G4 at jD eD ⊢
  refine ⟨⟨ps2 ++ [T], fun y => if y = u.1 then l else L2 y, ?_, ?_, ?_, ?_, ?_⟩, fun a o ea na => ?_, fun b o eb nb => jD _ _ (j13 _ _ eb no) nb⟩
  · rw [eD, List.map_append]
    rfl
  · rw [List.length_append, g4]
    rfl
  · rw [take_snoc hu, dkv_new nu]
    exact paired_app (F := fun (p : Addr) (kv : Key × V) => SqT K G4 p [kV kv.1, kv.2]) (sqT_lst jD gD (SqT.of eT)) (Paired.mapP (F := fun p kv => SqT K G p [kV kv.1, kv.2]) g5 fun _ _ h => sqT_lst jD gD (sqT_off j13 h))
  · intro w0 hw
    rw [take_snoc hu] at hw
    rcases List.mem_append.mp hw with hw | hw
    · have ne : w0.1 ≠ u.1 := fun z => nu (z ▸ List.mem_map.mpr ⟨w0, hw, rfl⟩)
      dsimp only
      rw [if_neg ne]
      obtain ⟨h1, h2, h3⟩ := g6 w0 hw
      exact ⟨h1, jD _ _ (j13 _ _ h2 no) h1, h3⟩
    · rw [List.mem_singleton.mp hw]
      dsimp only
      rw [if_pos rfl]
      exact ⟨lD, jD _ _ el3 lD, nl6⟩
  · have key : ∀ t ∈ ts.take i, t.1 ≠ u.1 ∧ L2 t.1 ≠ l := fun t ht => ⟨fun z => nu (z ▸ List.mem_map.mpr ⟨t, ht, rfl⟩), fun z => by
      have := (g6 t ht).2.1
      rw [z, nl] at this
      cases this⟩
    intro t ht v hv e
    rw [take_snoc hu] at ht hv
    dsimp only at e
    rcases List.mem_append.mp ht with h | h
    · rw [if_neg (key t h).1] at e
      rcases List.mem_append.mp hv with h' | h'
      · rw [if_neg (key v h').1] at e
        exact g7 t h v h' e
      · rw [List.mem_singleton.mp h', if_pos rfl] at e
        exact ((key t h).2 e).elim
    · rw [List.mem_singleton.mp h, if_pos rfl] at e
      rcases List.mem_append.mp hv with h' | h'
      · rw [if_neg (key v h').1] at e
        exact ((key v h').2 e.symm).elim
      · rw [List.mem_singleton.mp h, List.mem_singleton.mp h']
  · refine jD _ _ (j13 _ _ (k a o ea na) no) fun z => ?_
    rw [z, hD] at ea
    cases ea
theorem newL_thaw {K : PySem.W.Frag} {H6 G : Hp} {D td : Addr} {od : Obj} {kvs : List (Key × V)} {ts : List Tab} {i : Nat} (h : NewL K H6 D ts i G) (k : Off (fun a => a = td) H6 G) (g1 : G td = some (.frz od (.dK kvs))) (etd : H6 td = some (.dK kvs)) : NewL K H6 D ts i (upd G td (.dK kvs)) ∧ Off (fun _ => False) H6 (upd G td (.dK kvs)) := by
  obtain ⟨ps2, L2, g3, g4, g5, g6, g7⟩ := h
  have kF : Off (fun a => a = td) G (upd G td (.dK kvs)) := Off.upd rfl
  have ntG : ∀ {a : Addr} {xs : List V}, G a = some (.lst xs) → a ≠ td := fun h z => by rw [z, g1] at h; cases h
  refine ⟨⟨ps2, L2, kF _ _ g3 (ntG g3), g4, Paired.mapP g5 fun p kv h => ?_, fun u hu => ?_, g7⟩, fun a o ea _ => ?_⟩
  · rcases h with (h | ⟨o, h⟩) | h
    · exact .inl (.inl (kF _ _ h fun z => by rw [z, g1] at h; cases h))
    · exact .inl (.inr ⟨o, kF _ _ h fun z => by rw [z, g1] at h; cases h⟩)
    · exact .inr h
  · obtain ⟨h0, h1, h2⟩ := g6 u hu
    exact ⟨h0, kF _ _ h1 (ntG h1), h2⟩
  · by_cases z : a = td
    · rw [z] at ea ⊢
      rw [upd_same, ← ea, etd]
    · exact kF _ _ (k a o ea z) z
theorem newL_dict {K : PySem.W.Frag} {H6 G1 : Hp} {D : Addr} {ts : List Tab} (h : NewL K H6 D ts ts.length G1) (nd : (ts.map Prod.fst).Nodup) :
    ∃ (ps : List Addr) (L2 : Str → Addr), SqL K G1 D (ps.map V.ref) ∧ Paired (fun p kv => SqT K G1 p [kV kv.1, kv.2]) ps (dkv ts L2) ∧ ∀ m, G1 m = none → Off (fun _ => False) G1 (upd G1 m (.dK (mergeK [] (dkv ts L2)))) ∧ LinA (upd G1 m (.dK (mergeK [] (dkv ts L2)))) m L2 ts (fun _ => []) ∧
      (∀ u ∈ ts, (upd G1 m (.dK (mergeK [] (dkv ts L2)))) (L2 u.1) = some (.lst []) ∧ H6 (L2 u.1) = none ∧ L2 u.1 ≠ m) ∧ ∀ t ∈ ts, ∀ u ∈ ts, L2 t.1 = L2 u.1 → t.1 = u.1 := by
  obtain ⟨ps2, L2, g3, g4, g5, g6, g7⟩ := h
  rw [List.take_length] at g5 g6 g7
  refine ⟨ps2, L2, SqL.of g3, g5, fun m nm => ?_⟩
  rw [merge_dkv nd]
  have jp : Off (fun _ => False) G1 (upd G1 m (.dK (dkv ts L2))) := Off.new nm
  have em := upd_same (H := G1) (a := m) (o := .dK (dkv ts L2))
  have g6' : ∀ u ∈ ts, (upd G1 m (.dK (dkv ts L2))) (L2 u.1) = some (.lst []) ∧ H6 (L2 u.1) = none ∧ L2 u.1 ≠ m := fun u hu => by
    obtain ⟨_, h1, h2⟩ := g6 u hu
    exact ⟨jp _ _ h1 id, h2, fun z => by rw [z, nm] at h1; cases h1⟩
  exact ⟨jp, ⟨em, fun u hu => ⟨[], (g6' u hu).1, .nil fun _ z => z⟩⟩, g6', g7⟩
end LW
set_option Elab.async false
set_option linter.all false
set_option maxRecDepth 100000
set_option maxHeartbeats 0
/-! _law_puts -/
namespace LW
open PySem PySem.Spec PyProof.Rows L2 KV
theorem nilE {α : Type} (f : α → PyData) (xs : List α) : PyData.eqv (.list (xs.map f)) (.list []) = xs.isEmpty := by
  cases xs with
  | nil => rfl
  | cons x r => rfl
theorem good_nil {ts : List Tab} {rs : List RB} : Good ts rs (fun _ => []) := by
  refine ⟨fun _ _ => Nat.zero_le _, fun _ _ r hr => by simp at hr, ?_⟩
  unfold brokenO
  refine fidx_none fun r _ => ?_
  rw [Bool.not_eq_false']
  rcases r with ⟨hd, _ | ⟨cs, tl⟩⟩
  · exact holds_none
  · rcases hd with _ | ⟨k, _ | ⟨y, _ | _⟩⟩
    · rfl
    · rfl
    · unfold holdsR
      dsimp only
      cases e : tabOf ts y <;> rfl
    · rfl
theorem LinA.keep {H H' : Hp} {m : Addr} {L : Str → Addr} {ts : List Tab} {R : Str → List Row} {G : Fp} (h : LinA H m L ts R) (k : Off G H H') (hG : ∀ a, G a → ∃ xs, H a = some (.lst xs)) (n : ∀ t ∈ ts, ¬ G (L t.1)) : LinA H' m L ts R := by
  refine ⟨k _ _ h.dic fun z => ?_, fun t ht => ?_⟩
  · obtain ⟨xs, e⟩ := hG _ z
    rw [h.dic] at e
    cases e
  · obtain ⟨vs, e, o⟩ := h.rows t ht
    exact ⟨vs, k _ _ e (n t ht), o.keep k hG fun _ z => z.elim⟩
theorem LinA.set {H : Hp} {m : Addr} {L : Str → Addr} {ts : List Tab} {R : Str → List Row} (h : LinA H m L ts R) (inj : ∀ t ∈ ts, ∀ u ∈ ts, L t.1 = L u.1 → t.1 = u.1) {t : Tab} (ht : t ∈ ts) {vs : List V} {rows : List Row} (o : OwAll H vs (rows.map rowD) Fp0) :
    LinA (upd H (L t.1) (.lst vs)) m L ts (setR R t.1 rows) := by
  obtain ⟨xs, ex, _⟩ := h.rows t ht
  have k : Off (fun a => a = L t.1) H (upd H (L t.1) (.lst vs)) := Off.upd rfl
  have hG : ∀ a, a = L t.1 → ∃ xs, H a = some (.lst xs) := fun a z => ⟨xs, z ▸ ex⟩
  refine ⟨k _ _ h.dic fun z => absurd h.dic (by rw [z, ex]; intro q; cases q), fun u hu => ?_⟩
  by_cases e : u.1 = t.1
  · refine ⟨vs, by rw [e]; exact upd_same, ?_⟩
    rw [e, setR_same]
    exact o.keep k hG fun _ z => z.elim
  · obtain ⟨us, eu, ou⟩ := h.rows u hu
    rw [setR_ne e]
    exact ⟨us, k _ _ eu fun z => e (inj u hu t ht z), ou.keep k hG fun _ z => z.elim⟩
/-- puts, all of which are let in -/
structure Puts (ts : List Tab) (rs : List RB) (gs : List (Str × Row)) : Prop where
  g : ∀ i, i ≤ gs.length → Good ts rs (fillW (gs.take i)).1
  t : ∀ g ∈ gs, ∃ u ∈ ts, g.1 = u.1 ∧ g.2.length = u.2.length ∧ ∀ w ∈ g.2, Wok w
theorem Puts.good {ts : List Tab} {rs : List RB} {gs : List (Str × Row)} (h : Puts ts rs gs) : Good ts rs (fillW gs).1 := by
  have := h.g gs.length (Nat.le_refl _)
  rwa [List.take_length] at this
theorem puts_nil {ts : List Tab} {rs : List RB} : Puts ts rs [] := ⟨fun i h => by
  have : i = 0 := by simpa using h
  subst this
  exact good_nil, fun g h => by simp at h⟩
theorem Puts.snoc {ts : List Tab} {rs : List RB} {gs : List (Str × Row)} {g : Str × Row} {u : Tab} (h : Puts ts rs gs) (hu : u ∈ ts) (e : g.1 = u.1) (l : g.2.length = u.2.length) (w : ∀ w ∈ g.2, Wok w) (gd : Good ts rs (fillW (gs ++ [g])).1) : Puts ts rs (gs ++ [g]) := by
  refine ⟨fun i hi => ?_, fun g' hg => ?_⟩
  · rcases Nat.lt_or_ge i (gs ++ [g]).length with lt | ge
    · rw [List.length_append] at lt
      have : i ≤ gs.length := Nat.le_of_lt_succ lt
      rw [List.take_append_of_le_length this]
      exact h.g i this
    · rw [List.take_of_length_le ge]
      exact gd
  · rcases List.mem_append.mp hg with hg | hg
    · exact h.t g' hg
    · rw [List.mem_singleton.mp hg]
      exact ⟨u, hu, e, l, w⟩
theorem Puts.due {ts : List Tab} {rs : List RB} {gs : List (Str × Row)} (h : Puts ts rs gs) (nd : (ts.map Prod.fst).Nodup) (ws : wrongs ts rs = none) {i : Nat} {g : Str × Row} (e : gs[i]? = some g) : putDue ts rs (fillW (gs.take i)).1 g.1 g.2 = none := by
  have hi := (List.getElem?_eq_some_iff.mp e).1
  have g0 := h.g i (Nat.le_of_lt hi)
  have g1 := h.g (i + 1) hi
  rw [take_snoc e, fillW_snoc] at g1
  obtain ⟨u, hu, e1, l, _⟩ := h.t g (List.mem_of_getElem? e)
  have et : tabOf ts g.1 = some u := by
    cases e2 : tabOf ts g.1 with
    | none => exact absurd (List.mem_map.mpr ⟨u, hu, e1.symm⟩) (tabOf_in.mp e2)
    | some t0 =>
      obtain ⟨m0, y0⟩ := tabOf_mem e2
      rw [fst_inj nd m0 hu (by rw [y0, e1])]
  rw [putDue_rule et l]
  have b := g1.br
  dsimp only at b
  rw [broken_new g0.br (wrongs_formed ws)] at b
  rw [b]
theorem Puts.gives {ts : List Tab} {rs : List RB} {gs : List (Str × Row)} (h : Puts ts rs gs) (nd : (ts.map Prod.fst).Nodup) (ws : wrongs ts rs = none) (mc : ∀ t ∈ ts, t.2.length ≤ 1000) : Gives ts rs gs := by
  intro i g e
  have hi := (List.getElem?_eq_some_iff.mp e).1
  obtain ⟨u, hu, e1, l, _⟩ := h.t g (List.mem_of_getElem? e)
  exact ⟨(h.g i (Nat.le_of_lt hi)).wide, by rw [l]; exact mc u hu, h.due nd ws e⟩
theorem Puts.hist {ts : List Tab} {rs : List RB} {gs : List (Str × Row)} (h : Puts ts rs gs) : Hist ts rs (fillW gs).1 (fillW gs).2 := by
  have all : ∀ i, i ≤ gs.length → Hist ts rs (fillW (gs.take i)).1 (fillW (gs.take i)).2 := fun i => by
    induction i with
    | zero => exact fun _ => .nil good_nil
    | succ i ih =>
      intro hi
      have hg : gs[i]? = some gs[i] := List.getElem?_eq_getElem hi
      have g1 := h.g (i + 1) hi
      obtain ⟨u, hu, e1, _⟩ := h.t _ (List.getElem_mem hi)
      rw [take_snoc hg, fillW_snoc] at g1 ⊢
      exact (ih (Nat.le_of_lt hi)).put g1 (List.mem_map.mpr ⟨u, hu, e1.symm⟩)
  have := all gs.length (Nat.le_refl _)
  rwa [List.take_length] at this
theorem broken_neg {ts : List Tab} {rs : List RB} {R : Str → List Row} : decide (brokenI ts rs R < 0) = (brokenO ts rs R).isNone := by
  unfold brokenI
  cases brokenO ts rs R with
  | none => rfl
  | some i => exact decide_eq_false (by show ¬ (((i : Nat) : Int) < 0); omega)
theorem rok_app {ts : List Tab} {R : Str → List Row} {u : Tab} {row : Row} (h : RowsOk ts R) (few : (R u.1).length ≤ 900) (nd : (ts.map Prod.fst).Nodup) (hu : u ∈ ts) (l : row.length = u.2.length) (w : ∀ w ∈ row, Wok w) : RowsOk ts (setR R u.1 (R u.1 ++ [row])) := fun t ht => by
  obtain ⟨r1, r2⟩ := h t ht
  by_cases e : t.1 = u.1
  · rw [e, setR_same]
    rw [e] at r2
    refine ⟨by rw [List.length_append]; show _ + 1 ≤ 1000; omega, fun r hr => ?_⟩
    rcases List.mem_append.mp hr with hr | hr
    · exact r2 r hr
    · rw [List.mem_singleton.mp hr]
      have : t = u := fst_inj nd ht hu e
      exact ⟨by rw [this]; exact l, w⟩
  · rw [setR_ne e]
    exact ⟨r1, r2⟩
theorem Good.app {ts : List Tab} {rs : List RB} {R : Str → List Row} {u : Tab} {row : Row} (g : Good ts rs R) (few : (R u.1).length ≤ 7) (nd : (ts.map Prod.fst).Nodup) (hu : u ∈ ts) (l : row.length = u.2.length) (w : ∀ w ∈ row, Wok w) (br : brokenO ts rs (setR R u.1 (R u.1 ++ [row])) = none) : Good ts rs (setR R u.1 (R u.1 ++ [row])) := by
  have ro := rok_app g.rows (by omega) nd hu l w
  refine ⟨fun t ht => ?_, fun t ht => (ro t ht).2, br⟩
  by_cases e : t.1 = u.1
  · rw [e, setR_same, List.length_append]
    show _ + 1 ≤ 8
    omega
  · rw [setR_ne e]
    exact g.few t ht
def spPuts (K : PySem.W.Frag) : Sp := fun vs H Q _ => ∃ (p : Addr) (v w : V) (ts : List Tab) (rs : List RB) (mo me c : Nat), vs = [.ref p, v, w, .int (mo : Int), .int (me : Int)] ∧ Dp K H v (tabsD ts) ∧ Dp K H w (rbsD rs) ∧ TabsOk 6 8 ts ∧ (∀ r ∈ rs, RbOk 8 12 r) ∧ rs.length ≤ 20 ∧ wrongs ts rs = none ∧ mo ≤ 30 ∧ me ≤ 8 ∧ Pu H p c ∧ c + 1000 ≤ 1000000000 ∧
  ∀ gs D vg H' c', H D = none → H' D = some (.lst vg) → OwAll H' vg (gs.map giveD) Fp0 → gs.length ≤ mo → Puts ts rs gs → Pu H' p c' → c' ≤ c + 600 → Off (fun a => a = p) H H' → Q (.ref D) H'
section
variable {P : Program} {w : World} {K : PySem.W.Frag} {mg : Str → Option Value} {base : Heap}
abbrev puN : List Str := ["purse", "tables_here", "rules_here", "most", "most_each", "puts", "titles", "lines", "turn", "title", "known", "line", "place"]
theorem scPuts : FnScope puN ["purse", "tables_here", "rules_here", "most", "most_each"] (defScope sPuts) := ⟨rfl, rfl, rfl, by decide +kernel, rfl, by decide +kernel, by decide +kernel⟩
theorem ok_puts {f fC fW fB : Addr} {fd dC dW dB : FuncData} (F : FnP K "_law_puts" sPuts f fd) (C : Dn P w K mg base 1 "_law_coin" ["purse", "many"] spCoin fC dC) (W : Dn P w K mg base 2 "_law_worth" ["purse"] spWorth fW dW)
    (B : DnC P w K mg base 1 "_law_broken" ["titles", "rules_here", "lines"] (spBroken K) fB dB) (mr : mg "range" = none) (ml : mg "len" = none) (md : mg "dict" = none) (mt : mg "tuple" = none) : FnC P w K mg base CX0 3 f fd ["purse", "tables_here", "rules_here", "most", "most_each"] (spPuts K) := by
  refine Fun.okC F scPuts (fun vs H Q E h => ?_) (fun cdv A0 outer s0 H vs Q E hG hr h => ?_)
  · obtain ⟨p, v, w, ts, rs, mo, me, c, rfl, _⟩ := h
    rfl
  obtain ⟨p, v, w, ts, rs, mo, me, c, rfl, hv, hw, tk, hro, lrs, ws, lmo, lme, hp, hc, q⟩ := h
  have hu : (A0.deeper (envOfC "_law_puts" (defScope sPuts) s0.heap.objs.size f cdv)).units + 64 < cLine := hr.units
  have hu1 := Nat.lt_of_le_of_lt (Nat.add_le_add_left (show 1 ≤ 64 by decide) _) hr.units
  refine ⟨_, PSs.nox (pss_cons (ps_par (i := 5) (j := 6) rfl scPuts.nd rfl rfl (by decide) rfl rfl (pa_cons (pe_lst pa_nil) (pa_cons (pe_callTy (call_dictP rfl) rfl md (by decide +kernel) (pa_cons (pv 1) pa_nil)) pa_nil)) rfl)
    (pss_cons (ps_set (i := 7) scPuts.nd rfl (Or.inl rfl) (pe_callTy (call_dictP rfl) rfl md (by decide +kernel) (pa_cons (pe_lock (pe_lc (own := [("title", 9)]) (g := gName 9) (tt := tYes) rfl scPuts.nd (pi_keys (pv 6))
          (blkOk_by (own := [("title", 9)]) (N := puN) (sc := defScope sPuts) (by decide +kernel)) (fun _ _ _ _ _ => pg_name (i := 9) scPuts.nd rfl (Or.inl rfl)) (fun _ _ _ _ _ => pts_nil) (fun _ _ _ _ _ => pe_tup (pa_cons (pv 9) (pa_cons (pe_lst pa_nil) pa_nil))))) pa_nil)))
    (pss_cons (ps_for PassesOwn.never rfl (pi_range1 rfl mr (pa_cons (pe_ifExp (pt_cmpR (op_neD hu) (pv 1) (pe_lst pa_nil) (nomark _)) (pe_call C.g (hr.mono (by decide)) rfl C.m C.kp C.b .nil pass0 (pa_cons (pv 0) (pa_cons (pe_op op_add (pv 3) pe_int) pa_nil))) pe_int) pa_nil)) (pg_name (i := 8) scPuts.nd rfl (Or.inl rfl))
      (pss_cons (ps_asg (pe_ix ix_list (pv 1) (pe_call C.g (hr.mono (by decide)) rfl C.m C.kp C.b .nil pass0 (pa_cons (pv 0) (pa_cons (pe_callB call_len_seq rfl ml boot_len (pa_cons (pv 1) pa_nil)) pa_nil))) (fun _ _ => rfl)) (pg_tup rfl (pgs_cons (pg_name (i := 9) scPuts.nd rfl (Or.inl rfl)) (pgs_cons (pg_name (i := 10) scPuts.nd rfl (Or.inl rfl)) pgs_nil))))
      (pss_cons (ps_set (i := 11) scPuts.nd rfl (Or.inl rfl) (pe_callTy call_tuple_of rfl mt boot_tuple (pa_cons (pe_lc (own := [("place", 12)]) (g := gName 12) (tt := tYes) rfl scPuts.nd (pi_list (pv 10)) (blkOk_by (own := [("place", 12)]) (N := puN) (sc := defScope sPuts) (by decide +kernel))
          (fun _ _ _ _ _ => pg_name (i := 12) scPuts.nd rfl (Or.inl rfl)) (fun _ _ _ _ _ => pts_nil) (fun _ _ _ _ _ => pe_call W.g hr rfl W.m W.kp W.b .nil pass0 (pa_cons (pv 0) pa_nil))) pa_nil)))
      (pss_one (ps_if (pt_cmpR op_lt (pe_callB call_len_seq rfl ml boot_len (pa_cons (pe_dget hu1 (pv 7) (pv 9) (fun _ _ => rfl)) pa_nil)) (pv 4) (nomark _))
        (pss_cons (ps_expr (pe_bm PySem.F.plainAttrs_list PySem.F.slot_list_append PySem.F.type_list_append mt_append (pe_dget hu1 (pv 7) (pv 9) (fun _ _ => rfl)) (pa_cons (pv 11) pa_nil)))
        (pss_one (ps_if (pt_cmpR op_lt (pe_callC hG B.g (hr.mono (by decide)) rfl B.m B.kp B.b pass0 (pa_cons (pv 6) (pa_cons (pv 2) (pa_cons (pv 7) pa_nil)))) pe_int (nomark _))
          (pss_one (ps_expr (pe_bm PySem.F.plainAttrs_list PySem.F.slot_list_append PySem.F.type_list_append mt_append (pv 5) (pa_cons (pe_tup (pa_cons (pv 9) (pa_cons (pv 11) pa_nil))) pa_nil))))
          (pss_one (ps_expr (pe_bm0 PySem.F.plainAttrs_list PySem.F.slot_list_pop PySem.F.type_list_pop mt_pop (pe_dget hu1 (pv 7) (pv 9) (fun _ _ => rfl)))))))) pss_nil)))))
    (pss_one (ps_ret (pv 5)))))), ?_⟩
  have no : ¬ False := id
  have s0' : 0 ≤ sizeLine := by decide
  have l2 : 2 ≤ sizeLine := by decide
  have tnd := tk.nd
  have mts := tk.most
  obtain ⟨pxs, ep⟩ := id hp.lst
  obtain ⟨wa, xs, rfl, sq, da⟩ : ∃ wa xs, v = .ref wa ∧ SqL K H wa xs ∧ DpAll K H xs (ts.map tabD) := by
    cases hv with
    | lst h r => exact ⟨_, _, rfl, h, r⟩
  obtain ⟨ps, kvs, rfl, pr, tkv, kn⟩ := tabs_pairs da
  have ndk : (kvs.map Prod.fst).Nodup := by
    have e : kvs.map Prod.fst = (ts.map Prod.fst).map (fun x => (.inr x : Key)) := by
      rw [kn, List.map_map]
      rfl
    rw [e]
    exact List.pairwise_map.mpr (tnd.imp fun ne z => ne (Sum.inr.inj z))
  have hpC : Off (fun a => a = p) H (hide p H) := hide_self
  have hvC : Dp K (hide p H) (.ref wa) (tabsD ts) := dp_but hpC hp hv (noInt_tabs _)
  have hwC : Dp K (hide p H) w (rbsD rs) := dp_but hpC hp hw (noInt_rbs _)
  have tkC := titK_but hpC hp tkv
  have kC0 : Off (fun _ => False) (hide p H) H := hide_in
  have Cp : hide p H p = none := hide_gone
  have lkv := titK_len tkv
  obtain ⟨sqC, daC⟩ : SqL K (hide p H) wa (ps.map V.ref) ∧ DpAll K (hide p H) (ps.map V.ref) (ts.map tabD) := by
    have h0 := tk.one
    refine ⟨sqL_but hpC hp sq fun x y z e => ?_, ?_⟩
    · rcases ps with _ | ⟨q, r⟩
      · cases e
      · cases (List.cons.inj e).1
    · refine dpAll_but hpC hp da (noIntAll_of fun d hd => ?_)
      obtain ⟨t, _, rfl⟩ := List.mem_map.mp hd
      exact noInt_tab t
  generalize hide p H = C at hvC hwC tkC kC0 Cp sqC daC
  clear hpC
  -- puts, titles
  refine ⟨s0', fun g0 ng0 => ?_⟩
  have k1 : Off (fun _ => False) H (upd H g0 (.lst [])) := Off.new ng0
  have eg1 := upd_same (H := H) (a := g0) (o := .lst [])
  have pg : p ≠ g0 := fun z => by rw [← z, ep] at ng0; cases ng0
  generalize upd H g0 (.lst []) = H1 at k1 eg1 ⊢
  refine ⟨_, rfl, wa, ps, kvs, rfl, sqL_off k1 sq, Paired.mapP pr fun _ _ h => sqT_off k1 h, fun td ntd => ⟨_, _, rfl, ?_⟩⟩
  rw [merge_nd ndk fun k _ z => by simp at z, List.nil_append]
  have k2 : Off (fun _ => False) H1 (upd H1 td (.dK kvs)) := Off.new ntd
  have etd := upd_same (H := H1) (a := td) (o := .dK kvs)
  generalize upd H1 td (.dK kvs) = H2 at k2 etd ⊢
  have k02 := k1.trans k2
  have tk2 := titK_off k02 tkv
  have p2 := hp.off k02 no
  have eg2 := k2 _ _ eg1 no
  clear sq da pr k1 k2 eg1 ntd hv hw
  show tSeq _ _ _ [some (.ref p), some (.ref wa), some w, some (.int (mo : Int)), some (.int (me : Int)), some (.ref g0), some (.ref td), none, none, none, none, none, none] _
  -- lines
  refine ⟨td, .dK kvs, etd, trivial, fun od => ?_⟩
  have kd : Off (fun a => a = td) H2 (upd H2 td (.frz od (.dK kvs))) := Off.upd rfl
  have ed := upd_same (H := H2) (a := td) (o := .frz od (.dK kvs))
  have nH7 : ∀ a, upd H2 td (.frz od (.dK kvs)) a = none → a ≠ td ∧ H2 a = none := fun a z => by
    by_cases y : a = td
    · rw [y, upd_same] at z
      cases z
    · rw [upd_ne y] at z
      exact ⟨y, z⟩
  generalize upd H2 td (.frz od (.dK kvs)) = H7 at kd ed nH7 ⊢
  refine ⟨_, rfl, td, od, rfl, .inl ⟨kvs, ed, fun D hD => lc_it walk_keys (fun i G => G td = some (.frz od (.dK kvs)) ∧ Off (fun a => a = td) H2 G ∧ NewL K H2 D ts i G)
    ⟨?_, ?_, newL_nil⟩ (fun i G _ g => g.1) (fun i y G G' hi g yy => ?_) fun G g => ?_⟩⟩
  · rw [upd_ne (nH7 D hD).1.symm]
    exact ed
  · exact kd.trans (Off.in (Off.new hD))
  · obtain ⟨g1, g2, g3⟩ := g
    obtain ⟨rfl, k, v', ek, rfl⟩ := yy
    obtain ⟨u, hu', rfl⟩ := titK_key tk2 ek
    refine ⟨rfl, ?_⟩
    refine iteT (B := True) ?_
    refine iteT ?_
    refine ⟨_, rfl, s0', fun l nl => ⟨l2, fun T nT => ?_⟩⟩
    obtain ⟨acc, h1, h2, h3, h4, h5⟩ := newL_step g3 g2 (nH7 D hD).2 hu' tnd (by omega) nl (fun z => by rw [z, g1] at nl; cases nl) nT
    exact ⟨acc, h1, h2, h5 _ _ g1 (nH7 D hD).1.symm, h4, h3⟩
  obtain ⟨g1, g2, g3⟩ := g
  rw [lkv] at g3
  refine ⟨g1, ?_⟩
  obtain ⟨g4, kT⟩ := newL_thaw g3 g2 g1 etd
  generalize upd G td (.dK kvs) = G1 at g4 kT ⊢
  obtain ⟨ps2, L, sq2, pr2, fin⟩ := newL_dict g4 tnd
  refine ⟨D, ps2, dkv ts L, rfl, sq2, pr2, fun m nm => ?_⟩
  obtain ⟨k2, lin0, fr, inj⟩ := fin m nm
  clear fin sq2 pr2
  generalize upd G1 m (.dK (mergeK [] (dkv ts L))) = G2 at k2 lin0 fr ⊢
  have k3 := kT.trans k2
  have k03 := k02.trans k3
  have etd2 := k3 _ _ etd no
  have eg3 := k3 _ _ eg2 no
  have p3 := p2.off k3 no
  have frH : ∀ t ∈ ts, H2 (L t.1) = none := fun t ht => (fr t ht).2.1
  have gL : ∀ t ∈ ts, L t.1 ≠ g0 := fun t ht z => by
    have := frH t ht
    rw [z, eg2] at this
    cases this
  have pL : ∀ t ∈ ts, L t.1 ≠ p := fun t ht z => by
    obtain ⟨ys, ey⟩ := p2.lst
    have := frH t ht
    rw [z, ey] at this
    cases this
  have kC2 := kC0.trans k02
  have CL : ∀ t ∈ ts, C (L t.1) = none := fun t ht => kC2.none (frH t ht) no
  have Cg : C g0 = none := kC0.none ng0 no
  have HL : ∀ t ∈ ts, H (L t.1) = none := fun t ht => k02.none (frH t ht) no
  have kC3 := kC2.trans k3
  clear g1 g2 g3 g4 kT k2 hD ed kd nH7 etd eg2 p2 tk2 nm k3 k02 kC2 frH
  show tSeq _ _ _ [some (.ref p), some (.ref wa), some w, some (.int (mo : Int)), some (.int (me : Int)), some (.ref g0), some (.ref td), some (.ref m), none, none, none, none, none] _
  -- how many turns
  refine ⟨_, rfl, s0', fun m1 nm1 => ?_⟩
  have kM : Off (fun _ => False) G2 (upd G2 m1 (.lst [])) := Off.new nm1
  have em := upd_same (H := G2) (a := m1) (o := .lst [])
  generalize upd G2 m1 (.lst []) = G3 at kM em ⊢
  have ne0 : ts.isEmpty = false := by
    have := tk.one
    cases ts with
    | nil => simp at this
    | cons => rfl
  refine ⟨tabsD ts, .list [], dp_off (kC3.trans kM) hvC, .lst (SqL.of em) .nil, shaped_of (lay_tabs tk.b.w) (fit_tabsW tk.b.w) (by show 3 ≤ 64; decide), rfl, _, rfl, ?_⟩
  have e0 : PyData.eqv (tabsD ts) (.list []) = ts.isEmpty := nilE tabD ts
  rw [e0, ne0]
  refine iteT ⟨_, rfl, _, rfl, _, _, rfl, rfl, p, (mo : Int) + 1, c, rfl, p3.off kM no, by omega, by omega, by omega, fun n G4 n0 n1 p4 b4 => ?_⟩
  have k34 : Off (fun a => a = p) G2 G4 := (Off.in kM).trans b4.off
  have lp3 : ∀ a, a = p → ∃ xs, G2 a = some (.lst xs) := fun a z => by
    obtain ⟨ys, ey⟩ := p3.lst
    exact ⟨ys, z ▸ ey⟩
  have tdp : td ≠ p := fun z => by
    obtain ⟨ys, ey⟩ := p3.lst
    rw [← z, etd2] at ey
    cases ey
  have nCp : ∀ {b : Addr} {o : HO}, C b = some o → b ≠ p := fun {b o} e z => by
    rw [z, Cp] at e
    cases e
  have etd4 := k34 _ _ etd2 tdp
  have eg4 := k34 _ _ eg3 pg.symm
  have lin4 := lin0.keep k34 lp3 pL
  have k04 : Off (fun a => a = p) H G4 := (Off.in k03).trans k34
  have kC4 : Off (fun _ => False) C G4 := fun b o e _ => k34 _ _ (kC3 b o e no) (nCp e)
  have lts : ts.length ≤ 1000 := Nat.le_trans tk.most (by decide)
  have tndc : TabsNd ts := fun t ht => ⟨(tk.each t ht).nd, Nat.le_trans (tk.each t ht).most (by decide)⟩
  clear k34 kM em b4 p3 lp3 lin0 fr eg3 etd2 k03 kC3
  refine ⟨n, rfl, by omega, by omega, for_range (lo := 0) (fun i σ G => ∃ (w8 w9 w10 w11 : Option V) (gs : List (Str × Row)) (vg : List V) (c' : Nat), σ = [some (.ref p), some (.ref wa), some w, some (.int (mo : Int)), some (.int (me : Int)), some (.ref g0), some (.ref td), some (.ref m), w8, w9, w10, w11, none] ∧
      G g0 = some (.lst vg) ∧ OwAll G vg (gs.map giveD) Fp0 ∧ LinA G m L ts (fillW gs).1 ∧ gs.length ≤ i ∧ Puts ts rs gs ∧ G td = some (.dK kvs) ∧ Pu G p c' ∧ c' ≤ c + 1 + 18 * i ∧ Off (fun _ => False) C G ∧ Off (fun a => a = p) H G)
    ⟨none, none, none, none, [], [], c + 1, rfl, eg4, .nil fun _ z => z, lin4, Nat.le_refl _, puts_nil, etd4, p4, by omega, kC4, k04⟩ (fun i σ G hi g => ?_) fun σ G g => ?_⟩
  rotate_left
  · obtain ⟨w8, w9, w10, w11, gs, vg, c', rfl, eg, og, lin, lg, pt, etG, pu, lc, kC, kH⟩ := g
    have : n.toNat ≤ mo := by omega
    exact ⟨_, rfl, q gs g0 vg G c' ng0 eg og (by omega) pt pu (by omega) kH⟩
  obtain ⟨w8, w9, w10, w11, gs, vg, c', rfl, eg, og, lin, lg, pt, etG, pu, lc, kC, kH⟩ := g
  have gd := pt.good
  have hi30 : i < 31 := by omega
  clear eg4 lin4 etd4 p4 kC4 k04
  dsimp only [gName]
  refine ⟨_, rfl, _, rfl, _, rfl, wa, _, rfl, .inl (sqL_off kC sqC), p, _, c', rfl, pu, by omega, ?_, ?_, fun j G1 j0 j1 pu1 b1 => ?_⟩
  · rw [List.length_map, ← List.length_map (f := V.ref), dpAll_len daC, List.length_map]
    have := tk.one
    omega
  · rw [List.length_map, ← List.length_map (f := V.ref), dpAll_len daC, List.length_map]
    omega
  rw [dpAll_len daC, List.length_map] at j1
  have hj : j.toNat < ts.length := by omega
  have hu' : ts[j.toNat]? = some ts[j.toNat] := List.getElem?_eq_getElem hj
  have mu := List.getElem_mem hj
  generalize ts[j.toNat] = u at hu' mu
  have kC1 : Off (fun _ => False) C G1 := fun b o e _ => b1.off _ _ (kC b o e no) (nCp e)
  obtain ⟨v, ev, dv⟩ := dpAll_get (i := j.toNat) (d := tabD u) (dpAll_off kC1 daC) (by rw [List.getElem?_map, hu']; rfl)
  obtain ⟨ta, v2, rfl, sta, dc⟩ := dp_tab dv
  obtain ⟨ca, rfl, sc⟩ := dp_cols dc
  have tu := tk.each u mu
  refine ⟨wa, _, j, .ref ta, rfl, rfl, sqL_off kC1 sqC, ?_, ta, [.str u.1, .ref ca], rfl, sta, rfl, _, _, rfl, _, _, rfl, rfl, ?_⟩
  · obtain ⟨n', rfl⟩ : ∃ n : Nat, j = (n : Int) := ⟨j.toNat, by omega⟩
    exact atI_nat ev
  show tSeq _ _ _ [some (.ref p), some (.ref wa), some w, some (.int (mo : Int)), some (.int (me : Int)), some (.ref g0), some (.ref td), some (.ref m), some (.int (0 + (i : Int))), some (.str u.1), some (.ref ca), w11, none] _
  have lk : (u.2.map V.str).length = u.2.length := List.length_map _
  have ns : ∀ x y z : Int, u.2.map V.str ≠ [.int x, .int y, .int z] := fun x y z e => by
    cases h : u.2 with
    | nil =>
      rw [h] at e
      cases e
    | cons b t =>
      rw [h] at e
      cases (List.cons.inj e).1
  refine ⟨_, rfl, ca, rfl, ⟨_, sc⟩, fun D hD => lc_list (K := K) (a := ca) (xs := u.2.map V.str) (fun n G' => ∃ (row : Row) (c4 : Nat), G' D = some (.lst (row.map wV)) ∧ row.length = n ∧ (∀ w ∈ row, Wok w) ∧ Pu G' p c4 ∧ c4 ≤ c' + 1 + 2 * n ∧ Off (fun a => a = p) G1 G')
    ?_ (fun n G' _ g => ?_) (fun n y G' hx g => ?_) fun G' g => ?_⟩
  · exact ⟨[], c' + 1, upd_same, rfl, fun w z => by simp at z, pu1.off (Off.new (G := fun _ => False) hD) no, by omega, Off.new hD⟩
  · obtain ⟨row, c4, q1, q2, q3, q4, q5, q6⟩ := g
    exact sqL_but q6 pu1 sc ns
  · obtain ⟨row, c4, q1, q2, q3, q4, q5, q6⟩ := g
    have hn := (List.getElem?_eq_some_iff.mp hx).1
    have mm := tu.most
    have nDp : D ≠ p := fun z => by
      obtain ⟨ys, ey⟩ := pu1.lst
      rw [z, ey] at hD
      cases hD
    refine ⟨rfl, ?_⟩
    refine iteT (B := True) ?_
    refine iteT ?_
    refine ⟨_, rfl, p, c4, rfl, q4, by omega, fun w G2 c5 wk p2 l2' k2 => ⟨_, (k2 _ _ q1 nDp), ?_, row ++ [w], c5, ?_, ?_, ?_, ?_, ?_, ?_⟩⟩
    · rw [List.length_map]
      exact small4000 (by omega)
    · rw [upd_same, List.map_append]
      rfl
    · rw [List.length_append, q2]
      rfl
    · intro u hu
      rcases List.mem_append.mp hu with hu | hu
      · exact q3 u hu
      · rw [List.mem_singleton.mp hu]
        exact wk
    · exact p2.at (upd_ne nDp.symm)
    · omega
    · intro a u ea na
      rw [upd_ne (fun z => by rw [z, hD] at ea; cases ea)]
      exact k2 _ _ (q6 a u ea na) na
  obtain ⟨row, c4, q1, q2, q3, q4, q5, q6⟩ := g
  rw [lk] at q2 q5
  have mm := tu.most
  refine ⟨D, _, rfl, .inl ⟨SqL.of q1, fun t nt => ?_⟩⟩
  have kt : Off (fun _ => False) G' (upd G' t (.tup (row.map wV))) := Off.new nt
  have et := upd_same (H := G') (a := t) (o := .tup (row.map wV))
  have kGt := b1.off.trans (q6.trans (Off.in kt))
  have put := q4.off kt no
  generalize upd G' t (.tup (row.map wV)) = Gt at kt et kGt put ⊢
  have lp : ∀ a, a = p → ∃ xs, G a = some (.lst xs) := fun a z => by
    obtain ⟨xs, e⟩ := pu.lst
    exact ⟨xs, z ▸ e⟩
  have egt := kGt _ _ eg pg.symm
  have ogt : OwAll Gt vg (gs.map giveD) Fp0 := og.keep kGt lp fun _ z => z.elim
  have lit := lin.keep kGt lp pL
  have etdt := kGt _ _ etG tdp
  have kCt : Off (fun _ => False) C Gt := fun b o e _ => kGt _ _ (kC b o e no) (nCp e)
  have kHt : Off (fun a => a = p) H Gt := kH.trans kGt
  clear q1 q4 q6 kGt lp eg og lin kt sc dc sta dv ev kC pu hD nt kH etG pu1 b1 kC1
  dsimp only [gName]
  show tIfS _ _ _ _ [some (.ref p), some (.ref wa), some w, some (.int (mo : Int)), some (.int (me : Int)), some (.ref g0), some (.ref td), some (.ref m), some (.int (0 + (i : Int))), some (.str u.1), some (.ref ca), some (.ref t), none] _
  have hx : u.1 ∈ ts.map Prod.fst := List.mem_map.mpr ⟨u, mu, rfl⟩
  have dgO : ∀ {G : Hp} {R' : Str → List Row}, LinA G m L ts R' → DGet G m (.str u.1) (some (.ref (L u.1))) := fun {G R'} h => by
    have := DGet.k (k := .inr u.1) h.dic
    rw [valV_dkv, if_pos hx] at this
    exact this
  obtain ⟨vs7, ev7, ov7⟩ := lit.rows u mu
  have lv7 : vs7.length = ((fillW gs).1 u.1).length := by rw [ov7.length, List.length_map]
  have lvg : vg.length = gs.length := by rw [ogt.length, List.length_map]
  have rest : ∀ (G9 : Hp) (gs9 : List (Str × Row)) (vg9 : List V), G9 g0 = some (.lst vg9) → OwAll G9 vg9 (gs9.map giveD) Fp0 → LinA G9 m L ts (fillW gs9).1 → gs9.length ≤ i + 1 → Puts ts rs gs9 → G9 td = some (.dK kvs) → Pu G9 p c4 → Off (fun _ => False) C G9 → Off (fun a => a = p) H G9 →
      ∃ (w8 w9 w10 w11 : Option V) (gs : List (Str × Row)) (vg : List V) (c' : Nat), [some (V.ref p), some (V.ref wa), some w, some (V.int (mo : Int)), some (V.int (me : Int)), some (V.ref g0), some (V.ref td), some (V.ref m), some (V.int (0 + (i : Int))), some (V.str u.1), some (V.ref ca), some (V.ref t), none] = [some (.ref p), some (.ref wa), some w, some (.int (mo : Int)), some (.int (me : Int)), some (.ref g0), some (.ref td), some (.ref m), w8, w9, w10, w11, none] ∧
      G9 g0 = some (.lst vg) ∧ OwAll G9 vg (gs.map giveD) Fp0 ∧ LinA G9 m L ts (fillW gs).1 ∧ gs.length ≤ i + 1 ∧ Puts ts rs gs ∧ G9 td = some (.dK kvs) ∧ Pu G9 p c' ∧ c' ≤ c + 1 + 18 * (i + 1) ∧ Off (fun _ => False) C G9 ∧ Off (fun a => a = p) H G9 :=
    fun G9 gs9 vg9 h1 h2 h3 h4 h5 h6 h7 h8 h9 => ⟨_, _, _, _, gs9, vg9, c4, rfl, h1, h2, h3, h4, h5, h6, h7, by omega, h8, h9⟩
  refine ⟨_, rfl, _, rfl, m, _, rfl, dgO lit, L u.1, _, rfl, .inl (SqL.of ev7), _, rfl, _, _, rfl, rfl, _, rfl, ite2 (fun c7 => ?_) (fun c7 => rest Gt gs vg egt ogt lit (by omega) pt etdt put kCt kHt)⟩
  have l7 : ((fillW gs).1 u.1).length ≤ 7 := by
    have := of_decide_eq_true c7
    omega
  refine ⟨_, rfl, _, rfl, m, _, rfl, dgO lit, .inl ⟨rfl, _, SqL.of ev7⟩, _, rfl, L u.1, vs7, .ref t, rfl, rfl, ev7, small4000 (by omega), ?_⟩
  have oRow : OwAll Gt (vs7 ++ [.ref t]) (((fillW gs).1 u.1 ++ [row]).map rowD) Fp0 := by
    rw [List.map_append]
    exact owAll_atom ov7 (ow_row_mk et)
  have li6 := lit.set inj mu oRow
  have k6 : Off (fun a => a = L u.1) Gt (upd Gt (L u.1) (.lst (vs7 ++ [.ref t]))) := Off.upd rfl
  have e6 := upd_same (H := Gt) (a := L u.1) (o := .lst (vs7 ++ [.ref t]))
  have hk6 : ∀ a, a = L u.1 → ∃ xs, Gt a = some (.lst xs) := fun a z => ⟨_, z ▸ ev7⟩
  generalize upd Gt (L u.1) (.lst (vs7 ++ [.ref t])) = G6 at li6 k6 e6 ⊢
  have nL : ∀ {b : Addr} {o : HO}, C b = some o → b ≠ L u.1 := fun {b o} e z => by
    rw [z, CL u mu] at e
    cases e
  have nLH : ∀ {b : Addr} {o : HO}, H b = some o → b ≠ L u.1 := fun {b o} e z => by
    rw [z, HL u mu] at e
    cases e
  have etd6 := k6 _ _ etdt fun z => by rw [← z, etdt] at ev7; cases ev7
  have eg6 := k6 _ _ egt (gL u mu).symm
  have og6 := ogt.keep k6 hk6 fun _ z => z.elim
  have ov6 := ov7.keep k6 hk6 fun _ z => z.elim
  have et6 := k6 _ _ et fun z => by rw [← z, et] at ev7; cases ev7
  have pu6 := put.off k6 (pL u mu).symm
  have kC6 : Off (fun _ => False) C G6 := fun b o e _ => k6 _ _ (kCt b o e no) (nL e)
  have kH6 : Off (fun a => a = p) H G6 := fun b o e n => k6 _ _ (kHt b o e n) (nLH e)
  have rok := rok_app (row := row) gd.rows (by omega) tnd mu q2 q3
  clear lit ev7 k6 hk6 egt ogt et put kCt kHt etdt oRow
  refine ⟨_, rfl, _, rfl, _, rfl, td, m, w, kvs, L, ts, rs, _, 8, 12, rfl, etd6, titK_off kC6 tkC, dp_off kC6 hwC, hro, by decide, Nat.le_trans lrs (by decide), ws, li6, rok, tndc, fun G7 k7 => ⟨_, _, rfl, rfl, _, rfl, ?_⟩⟩
  rw [broken_neg]
  have eg7 := k7 _ _ eg6 no
  have et7 := k7 _ _ et6 no
  have og7 := og6.keep k7 (fun _ z => z.elim) fun _ z => z.elim
  have li7 := li6.off k7
  have e7 := k7 _ _ e6 no
  have pu7 := pu6.off k7 no
  have etd7 := k7 _ _ etd6 no
  have kC7 := kC6.trans k7
  have kH7 : Off (fun a => a = p) H G7 := kH6.trans (Off.in k7)
  have ov7' := ov6.keep k7 (fun _ z => z.elim) fun _ z => z.elim
  clear eg6 et6 og6 li6 e6 pu6 etd6 kC6 kH6 ov6 k7 ov7
  cases eb : brokenO ts rs (setR (fillW gs).1 u.1 ((fillW gs).1 u.1 ++ [row])) with
  | none =>
    refine iteT ?_
    have g' := gd.app l7 tnd mu q2 q3 eb
    refine ⟨_, rfl, .inl ⟨rfl, _, SqL.of eg7⟩, _, rfl, _, rfl, l2, fun T nT => ?_⟩
    have kT : Off (fun _ => False) G7 (upd G7 T (.tup [.str u.1, .ref t])) := Off.new nT
    have eT := upd_same (H := G7) (a := T) (o := .tup [.str u.1, .ref t])
    generalize upd G7 T (.tup [.str u.1, .ref t]) = G8 at kT eT ⊢
    have eg8 := kT _ _ eg7 no
    have et8 := kT _ _ et7 no
    refine ⟨g0, vg, .ref T, rfl, rfl, eg8, small4000 (by omega), ?_⟩
    have og8 : OwAll G8 (vg ++ [.ref T]) ((gs ++ [(u.1, row)]).map giveD) Fp0 := by
      rw [List.map_append]
      exact owAll_atom (og7.keep kT (fun _ z => z.elim) fun _ z => z.elim) (give_mk (g := (u.1, row)) eT et8)
    have k9 : Off (fun a => a = g0) G8 (upd G8 g0 (.lst (vg ++ [.ref T]))) := Off.upd rfl
    have lg0 : ∀ a, a = g0 → ∃ xs, G8 a = some (.lst xs) := fun a z => ⟨_, z ▸ eg8⟩
    have ef : (fillW (gs ++ [(u.1, row)])).1 = setR (fillW gs).1 u.1 ((fillW gs).1 u.1 ++ [row]) := by rw [fillW_snoc]
    refine rest _ (gs ++ [(u.1, row)]) (vg ++ [.ref T]) upd_same (og8.keep k9 lg0 fun _ z => z.elim) (ef ▸ (li7.off kT).keep k9 lg0 gL) (by rw [List.length_append]; show _ + 1 ≤ _; omega) (pt.snoc mu rfl q2 q3 (by rw [ef]; exact g')) (k9 _ _ (kT _ _ etd7 no) fun z => ?_) ((pu7.off kT no).off k9 pg) (fun b o e _ => k9 _ _ (kT _ _ (kC7 b o e no) no) fun z => ?_) fun b o e n => k9 _ _ (kT _ _ (kH7 b o e n) no) fun z => ?_
    · have := kT _ _ etd7 no
      rw [z, eg8] at this
      cases this
    · rw [z, Cg] at e
      cases e
    · rw [z, ng0] at e
      cases e
  | some x =>
    refine iteF ?_
    refine ⟨_, rfl, _, rfl, m, _, rfl, dgO li7, .inl ⟨rfl, _, SqL.of e7⟩, L u.1, vs7 ++ [.ref t], .ref t, rfl, rfl, e7, ?_, ?_⟩
    · rw [List.length_append, List.getElem?_append_right (by simp)]
      simp
    rw [List.dropLast_concat]
    have k9 : Off (fun a => a = L u.1) G7 (upd G7 (L u.1) (.lst vs7)) := Off.upd rfl
    have hk9 : ∀ a, a = L u.1 → ∃ xs, G7 a = some (.lst xs) := fun a z => ⟨_, z ▸ e7⟩
    have li9 := li7.set inj mu ov7'
    rw [setR_two, setR_self] at li9
    refine rest _ gs vg (k9 _ _ eg7 (gL u mu).symm) (og7.keep k9 hk9 fun _ z => z.elim) li9 (by omega) pt (k9 _ _ etd7 fun z => ?_) (pu7.off k9 (pL u mu).symm) (fun b o e _ => k9 _ _ (kC7 b o e no) (nL e)) fun b o e n => k9 _ _ (kH7 b o e n) (nLH e)
    rw [← z, etd7] at e7
    cases e7
end
end LW
set_option Elab.async false
set_option linter.all false
set_option maxRecDepth 100000
set_option maxHeartbeats 0
/-! _law_begun, _law_lines -/
namespace LW
open PySem PySem.Spec PyProof.Rows L2 KV
def spBegun (K : PySem.W.Frag) : Sp := fun vs H Q _ => ∃ (b pl : Addr) (ts : List Tab) (rs : List RB), vs = [.ref b, .ref pl] ∧ Bok ts rs ∧ BookOf K H b ts rs ∧ Plan K H pl ts rs ∧
  ∀ T A H', A.b = b → A.n = 0 → A.B = (fun _ => []) → Twin K H' T A ts (fun _ => []) [] → (∀ a, A.mu ts a → H a = none) → H A.d = none → H A.m = none → H T = none → Off (fun _ => False) H H' → Q (.ref T) H'
def spLines (K : PySem.W.Frag) : Sp := fun vs H Q _ => ∃ (v : V) (r : Addr) (xs : List V) (ts : List Tab) (gs : List (Str × Row)), vs = [v, .ref r] ∧ Dp K H v (tabsD ts) ∧ (ts.map Prod.fst).Nodup ∧ ts.length ≤ 1000 ∧ H r = some (.lst xs) ∧ OwAll H xs (gs.map giveD) Fp0 ∧ gs.length ≤ 900 ∧ (∀ g ∈ gs, ∃ u ∈ ts, g.1 = u.1) ∧
  ∀ m L H', LinA H' m L ts (fillW gs).1 → (∀ t ∈ ts, ∀ u ∈ ts, L t.1 = L u.1 → t.1 = u.1) → (∀ t ∈ ts, H (L t.1) = none) → H m = none → Off (fun _ => False) H H' → Q (.ref m) H'
theorem fillW_le : ∀ (gs : List (Str × Row)) (w : (Str → List Row) × List Stp) (x : Str), ((gs.foldl (fun w g => (setR w.1 g.1 (w.1 g.1 ++ [g.2]), w.2 ++ [((g.1, (((w.1 g.1).length : Nat) : Int), none) : Stp)])) w).1 x).length ≤ (w.1 x).length + gs.length
  | [], w, x => Nat.le_refl _
  | g :: gs, w, x => by
    rw [List.foldl_cons]
    refine Nat.le_trans (fillW_le gs _ x) ?_
    have : (setR w.1 g.1 (w.1 g.1 ++ [g.2]) x).length ≤ (w.1 x).length + 1 := by
      by_cases e : x = g.1
      · rw [e, setR_same, List.length_append]
        exact Nat.le_refl _
      · rw [setR_ne e]
        exact Nat.le_succ _
    rw [List.length_cons]
    dsimp only
    omega
theorem fillW_few {gs : List (Str × Row)} {x : Str} : ((fillW gs).1 x).length ≤ gs.length := by
  have := fillW_le gs (fun _ => [], []) x
  simpa [fillW] using this
section
variable {P : Program} {w : World} {K : PySem.W.Frag} {mg : Str → Option Value} {base : Heap}
theorem scLines : FnScope ["tables_here", "puts", "lines", "title", "line", "known"] ["tables_here", "puts"] (defScope sLines) := ⟨rfl, rfl, rfl, by decide +kernel, rfl, by decide +kernel, by decide +kernel⟩
theorem ok_lines {f : Addr} {fd : FuncData} (F : FnP K "_law_lines" sLines f fd) (md : mg "dict" = none) : FnOk P w K mg base CX0 1 f fd ["tables_here", "puts"] (spLines K) := by
  refine F.ok scLines (fun vs H Q E h => ?_) (fun cdv A0 outer s0 H vs Q E hr h => ?_)
  · obtain ⟨v, r, xs, ts, gs, rfl, _⟩ := h
    rfl
  obtain ⟨v, r, xs, ts, gs, rfl, hv, tnd, lts, er, og, lg, tg, q⟩ := h
  have hu1 := Nat.lt_of_le_of_lt (Nat.add_le_add_left (show 1 ≤ 64 by decide) _) hr.units
  refine ⟨_, PSs.nox (pss_cons (ps_set (i := 2) scLines.nd rfl (Or.inl rfl) (pe_callTy (call_dictP rfl) rfl md (by decide +kernel) (pa_cons (pe_lc (own := [("title", 3), ("known", 5)]) (g := gTup K 2 (gCons (gName 3) (gCons (gName 5) gNil))) (tt := tYes) rfl scLines.nd (pi_list (pv 0))
          (blkOk_by (own := [("title", 3), ("known", 5)]) (N := ["tables_here", "puts", "lines", "title", "line", "known"]) (sc := defScope sLines) (by decide +kernel)) (fun _ _ _ _ _ => pg_tup rfl (pgs_cons (pg_name (i := 3) scLines.nd rfl (Or.inl rfl)) (pgs_cons (pg_name (i := 5) scLines.nd rfl (Or.inl rfl)) pgs_nil))) (fun _ _ _ _ _ => pts_nil)
          (fun _ _ _ _ _ => pe_tup (pa_cons (pv 3) (pa_cons (pe_lst pa_nil) pa_nil)))) pa_nil)))
    (pss_cons (ps_for PassesOwn.never rfl (pi_list (pv 1)) (pg_tup rfl (pgs_cons (pg_name (i := 3) scLines.nd rfl (Or.inl rfl)) (pgs_cons (pg_name (i := 4) scLines.nd rfl (Or.inl rfl)) pgs_nil)))
      (pss_one (ps_expr (pe_bm PySem.F.plainAttrs_list PySem.F.slot_list_append PySem.F.type_list_append mt_append (pe_dget hu1 (pv 2) (pv 3) (fun _ _ => rfl)) (pa_cons (pv 4) pa_nil)))))
    (pss_one (ps_ret (pv 2))))), ?_⟩
  have no : ¬ False := id
  have s0' : 0 ≤ sizeLine := by decide
  have l2 : 2 ≤ sizeLine := by decide
  obtain ⟨wa, ws, rfl, sq, da⟩ : ∃ wa ws, v = .ref wa ∧ SqL K H wa ws ∧ DpAll K H ws (ts.map tabD) := by
    cases hv with
    | lst h r => exact ⟨_, _, rfl, h, r⟩
  have lws : ws.length = ts.length := by rw [dpAll_len da, List.length_map]
  refine ⟨_, rfl, wa, rfl, ⟨_, sq⟩, fun D hD => lc_list (K := K) (a := wa) (xs := ws) (fun i G => Off (fun _ => False) H G ∧ NewL K H D ts i G)
    ⟨Off.new hD, newL_nil⟩ (fun i G _ g => sqL_off g.1 sq) (fun i x G hx g => ?_) fun G g => ?_⟩
  · obtain ⟨g1, g2⟩ := g
    have hi : i < ts.length := by
      have := (List.getElem?_eq_some_iff.mp hx).1
      omega
    have hu : ts[i]? = some ts[i] := List.getElem?_eq_getElem hi
    obtain ⟨v, ev, dv⟩ := dpAll_get (i := i) (d := tabD ts[i]) (dpAll_off g1 da) (by rw [List.getElem?_map, hu]; rfl)
    rw [hx] at ev
    cases ev
    obtain ⟨ta, v2, rfl, sta, _⟩ := dp_tab dv
    refine ⟨ta, [.str ts[i].1, v2], rfl, sta, rfl, .str ts[i].1, [v2], rfl, v2, [], rfl, rfl, rfl, ?_⟩
    refine iteT (B := True) ?_
    refine iteT ?_
    refine ⟨_, rfl, s0', fun l nl => ⟨l2, fun T nT => ?_⟩⟩
    obtain ⟨acc, h1, h2, h3, h4, h5⟩ := newL_step g2 g1 hD hu tnd lts nl no nT
    exact ⟨acc, h1, h2, h4, h3⟩
  obtain ⟨k1, g4⟩ := g
  rw [lws] at g4
  obtain ⟨ps2, L, sq2, pr2, fin⟩ := newL_dict g4 tnd
  refine ⟨D, ps2, dkv ts L, rfl, sq2, pr2, fun m nm => ?_⟩
  obtain ⟨k2, lin0, fr, inj⟩ := fin m nm
  clear fin sq2 pr2
  generalize upd G m (.dK (mergeK [] (dkv ts L))) = G2 at k2 lin0 fr ⊢
  have k02 := k1.trans k2
  have frH : ∀ t ∈ ts, H (L t.1) = none := fun t ht => (fr t ht).2.1
  have nmH : H m = none := k1.none nm no
  have lx : xs.length = gs.length := by rw [og.length, List.length_map]
  dsimp only [gName]
  refine ⟨_, rfl, r, rfl, ⟨_, SqL.of (k02 _ _ er no)⟩, for_list (K := K) (a := r) (xs := xs) (fun i σ G => (∃ w3 w4, σ = [some (.ref wa), some (.ref r), some (.ref m), w3, w4, none]) ∧ LinA G m L ts (fillW (gs.take i)).1 ∧ Off (fun _ => False) H G)
    ⟨⟨none, none, rfl⟩, lin0, k02⟩ (fun i σ G _ g => SqL.of (g.2.2 _ _ er no)) (fun i x σ G hx g => ?_) fun σ G g => ?_⟩
  · obtain ⟨⟨w3, w4, rfl⟩, li, kG⟩ := g
    have hi : i < gs.length := by
      have := (List.getElem?_eq_some_iff.mp hx).1
      omega
    have hg : gs[i]? = some gs[i] := List.getElem?_eq_getElem hi
    have mg' := List.getElem_mem hi
    generalize gs[i] = g at hg mg'
    obtain ⟨v, ev, ov⟩ := owAll_get (i := i) (d := giveD g) og (by rw [List.getElem?_map, hg]; rfl)
    rw [hx] at ev
    cases ev
    obtain ⟨t, tr, rfl, et, etr⟩ := give_ow ov
    obtain ⟨u, mu, eu⟩ := tg g mg'
    refine ⟨t, [.str g.1, .ref tr], rfl, SqT.of (kG _ _ et no), rfl, .str g.1, [.ref tr], rfl, .ref tr, [], rfl, rfl, ?_⟩
    have dg := DGet.k (k := .inr g.1) li.dic
    rw [valV_dkv, if_pos (List.mem_map.mpr ⟨u, mu, eu.symm⟩)] at dg
    obtain ⟨vs, ev, ovs⟩ := li.rows u mu
    rw [← eu] at ev ovs
    have few := fillW_few (gs := gs.take i) (x := g.1)
    rw [List.length_take] at few
    have lvs : vs.length = ((fillW (gs.take i)).1 g.1).length := by rw [ovs.length, List.length_map]
    refine ⟨_, rfl, _, rfl, m, _, rfl, dg, .inl ⟨rfl, _, SqL.of ev⟩, _, rfl, L g.1, vs, .ref tr, rfl, rfl, ev, small4000 (by omega), ⟨_, _, rfl⟩, ?_, fun a o ea na => ?_⟩
    · rw [take_snoc hg, fillW_snoc, eu]
      rw [eu] at ovs
      refine li.set inj mu ?_
      rw [List.map_append]
      exact owAll_atom ovs (ow_row_mk (kG _ _ etr no))
    · rw [upd_ne fun z => by
        rw [z, eu, frH u mu] at ea
        cases ea]
      exact kG a o ea no
  · obtain ⟨⟨w3, w4, rfl⟩, li, kG⟩ := g
    rw [lx, List.take_length] at li
    exact ⟨_, rfl, q m L G li inj frH nmH kG⟩
end
end LW
set_option Elab.async false
set_option linter.all false
set_option maxRecDepth 100000
set_option maxHeartbeats 0
/-! _law_store -/
namespace LW
open PySem PySem.Spec PyProof.Rows L2 KV
theorem fillW_cnt0 : ∀ (gs : List (Str × Row)) (w : (Str → List Row) × List Stp) (x : Str), ((gs.foldl (fun w g => (setR w.1 g.1 (w.1 g.1 ++ [g.2]), w.2 ++ [((g.1, (((w.1 g.1).length : Nat) : Int), none) : Stp)])) w).1 x).length = (w.1 x).length + (gs.filter fun g => decide (g.1 = x)).length
  | [], w, x => rfl
  | g :: gs, w, x => by
    rw [List.foldl_cons, fillW_cnt0 gs]
    dsimp only
    by_cases e : g.1 = x
    · rw [← e, setR_same, List.filter_cons_of_pos (by simp), List.length_append, List.length_cons, List.length_cons, List.length_nil]
      omega
    · rw [setR_ne (fun z => e z.symm), List.filter_cons_of_neg (by simpa using e)]
theorem fillW_cnt {gs : List (Str × Row)} {x : Str} : ((fillW gs).1 x).length = (gs.filter fun g => decide (g.1 = x)).length := by
  unfold fillW
  rw [fillW_cnt0]
  exact Nat.zero_add _
theorem shaped_gives {gs : List (Str × Row)} (h : ∀ g ∈ gs, Asc g.1) : SeqAt.shaped (.list (gs.map giveD)) = true := by
  have c : PyData.canLayAll0 (gs.map giveD) = true := layAll_of fun d hd => by
    obtain ⟨g, hg, rfl⟩ := List.mem_map.mp hd
    simp only [giveD, PyData.canLay0, PyData.canLayAll0, Bool.and_eq_true, Bool.and_true]
    exact ⟨strOk_asc (h g hg), (row_lay g.2).1⟩
  have d : ∀ gs : List (Str × Row), PyData.depthAll (gs.map giveD) ≤ 2 := fun gs => by
    induction gs with
    | nil => decide
    | cons g gs ih =>
      rw [List.map_cons]
      show max (giveD g).depth _ ≤ 2
      have : (giveD g).depth = max 0 (max (rowD g.2).depth 0) + 1 := rfl
      rw [(row_lay g.2).2] at this
      omega
  unfold SeqAt.shaped
  rw [Bool.and_eq_true]
  refine ⟨c, decide_eq_true ?_⟩
  show PyData.depthAll (gs.map giveD) + 1 ≤ 64
  have := d gs
  omega
def spStore (K : PySem.W.Frag) : Sp := fun vs H Q _ => ∃ (p b r : Addr) (xs : List V) (ts : List Tab) (rs : List RB) (gs : List (Str × Row)) (c : Nat), vs = [.ref p, .ref b, .ref r] ∧ Pu H p c ∧ c + 10 ≤ 1000000000 ∧ Bok ts rs ∧ BookOf K H b ts rs ∧ H r = some (.lst xs) ∧ r ≠ p ∧ OwAll H xs (gs.map giveD) Fp0 ∧ gs.length ≤ 30 ∧ Puts ts rs gs ∧
  ∀ s d l L S H' c', StAt K H' s b d l L ts (fillW gs).1 S → Sep ts L l → Hist ts rs (fillW gs).1 S → S.length ≤ 60 → (∀ a, Mu ts L l a → H a = none) → H d = none → H s = none → Pu H' p c' → c' ≤ c + 5 → Off (fun a => a = p) H H' → Q (.ref s) H'
abbrev stN : List Str := ["purse", "made", "puts", "way", "given", "store", "title", "line", "spot", "other_title", "some"]
section
variable {P : Program} {w : World} {K : PySem.W.Frag} {mg : Str → Option Value} {base : Heap}
theorem scStore : FnScope stN ["purse", "made", "puts"] (defScope sStore) := ⟨rfl, rfl, rfl, by decide +kernel, rfl, by decide +kernel, by decide +kernel⟩
theorem ok_store {f fC fF fP fT fU : Addr} {fd dC dS dF dP dT dU : FuncData} (F : FnP K "_law_store" sStore f fd) (ST : StoreT K mg) (C : Dn P w K mg base 1 "_law_coin" ["purse", "many"] spCoin fC dC)
    (GS : FnOk P w K mg base CX0 9 (He.ma K (He.ga K "Store") "__init__") dS ["self", "book"] (spStoreN K)) (bS : Binds K dS ["self", "book"] []) (FI : Dn P w K mg base 11 "filled" ["book", "rows"] (spFilled K) fF dF)
    (mP : L2.Meth K (He.ga K "Store") "put" fP) (GP : DnX P w K mg base 9 ["self", "table", "row"] (spPut K) fP dP) (mT : L2.Meth K (He.ga K "Store") "take" fT) (GT : DnX P w K mg base 5 ["self", "table", "index"] (spTake K) fT dT)
    (mU : L2.Meth K (He.ga K "Store") "undo" fU) (GU : DnX P w K mg base 3 ["self"] (spUndo K) fU dU) (ml : mg "len" = none) (mL : mg "list" = none) : FnOk P w K mg base CX0 12 f fd ["purse", "made", "puts"] (spStore K) := by
  refine F.ok scStore (fun vs H Q E h => ?_) (fun cdv A0 outer s0 H vs Q E hr h => ?_)
  · obtain ⟨p, b, r, xs, ts, rs, gs, c, rfl, _⟩ := h
    rfl
  obtain ⟨p, b, r, xs, ts, rs, gs, c, rfl, hp, hc, bk, bo, er, nrp, og, lg, pt, q⟩ := h
  have hu : (A0.deeper (envOfC "_law_store" (defScope sStore) s0.heap.objs.size f cdv)).units + 64 < cLine := hr.units
  refine ⟨_, PSs.nox (pss_cons (ps_par (i := 3) (j := 4) rfl scStore.nd rfl rfl (by decide) rfl rfl (pa_cons (pe_call C.g (hr.mono (by decide)) rfl C.m C.kp C.b .nil pass0 (pa_cons (pv 0) (pa_cons pe_int pa_nil))) (pa_cons (pe_callTy call_list_of rfl mL boot_list (pa_cons (pv 2) pa_nil)) pa_nil)) rfl)
    (pss_cons (ps_if (pt_cmpR op_eq (pv 3) pe_int (nomark _))
      (pss_cons (ps_set (i := 5) scStore.nd rfl (Or.inl rfl) (pe_make ST.mkr GS (hr.mono (by decide)) rfl ST.g bS .nil pass0 (pa_cons (pv 1) pa_nil)))
      (pss_cons (ps_for PassesOwn.never rfl (pi_list (pv 2)) (pg_tup rfl (pgs_cons (pg_name (i := 6) scStore.nd rfl (Or.inr rfl)) (pgs_cons (pg_name (i := 7) scStore.nd rfl (Or.inl rfl)) pgs_nil)))
        (pss_one (ps_expr (pe_meth (pv 5) ST.cl mP GP.g (hr.mono (by decide)) GP.b .nil passN (pa_cons (pv 6) (pa_cons (pv 7) pa_nil))))))
      (pss_one (ps_ret (pv 5))))) pss_nil)
    (pss_cons (ps_set (i := 5) scStore.nd rfl (Or.inl rfl) (pe_call FI.g hr rfl FI.m FI.kp FI.b .nil pass0 (pa_cons (pv 1) (pa_cons (pv 4) pa_nil))))
    (pss_cons (ps_expr (pe_bm0 PySem.F.plainAttrs_list PySem.F.slot_list_clear PySem.F.type_list_clear mt_clear (pv 4)))
    (pss_cons (ps_if (PW.pt (pw_and (pt_cmpR (op_neD hu) (pv 2) (pe_lst pa_nil) (nomark _)) (pw_and1 (pt_cmpR op_gt (pv 3) pe_int (nomark _)))))
      (pss_cons (ps_asg (pe_ix ix_list (pv 2) (pe_un un_neg pe_int) (fun _ _ => rfl)) (pg_tup rfl (pgs_cons (pg_name (i := 6) scStore.nd rfl (Or.inr rfl)) (pgs_cons (pg_name (i := 7) scStore.nd rfl (Or.inl rfl)) pgs_nil))))
      (pss_cons (ps_set (i := 8) scStore.nd rfl (Or.inl rfl) (pe_op op_sub (pe_callB call_len_seq rfl ml boot_len (pa_cons (pe_lc (own := [("other_title", 9), ("some", 10)]) (g := gTup K 2 (gCons (gName 9) (gCons (gName 10) gNil))) (te := tC (.int 1)) rfl scStore.nd (pi_list (pv 2))
            (blkOk_by (own := [("other_title", 9), ("some", 10)]) (N := stN) (sc := defScope sStore) (by decide +kernel)) (fun _ _ _ _ _ => pg_tup rfl (pgs_cons (pg_name (i := 9) scStore.nd rfl (Or.inl rfl)) (pgs_cons (pg_name (i := 10) scStore.nd rfl (Or.inl rfl)) pgs_nil)))
            (fun _ _ _ _ _ => pts_one (pt_cmpR op_eq (pv 9) (pv 6) (nomark _))) (fun _ _ _ _ _ => pe_int)) pa_nil)) pe_int))
      (pss_one (ps_if (pt_cmpR op_eq (pv 3) pe_int (nomark _))
        (pss_cons (ps_expr (pe_meth (pv 5) ST.cl mT GT.g (hr.mono (by decide)) GT.b .nil passN (pa_cons (pv 6) (pa_cons (pv 8) pa_nil))))
        (pss_one (ps_expr (pe_meth (pv 5) ST.cl mP GP.g (hr.mono (by decide)) GP.b .nil passN (pa_cons (pv 6) (pa_cons (pv 7) pa_nil))))))
        (pss_one (ps_if (pt_cmpR op_eq (pv 3) pe_int (nomark _))
          (pss_cons (ps_expr (pe_meth0 (pv 5) ST.cl mU GU.g (hr.mono (by decide)) GU.b .nil passN))
          (pss_one (ps_expr (pe_meth (pv 5) ST.cl mP GP.g (hr.mono (by decide)) GP.b .nil passN (pa_cons (pv 6) (pa_cons (pv 7) pa_nil))))))
          (pss_one (ps_if (pt_cmpR op_eq (pv 3) pe_int (nomark _))
            (pss_cons (ps_expr (pe_meth (pv 5) ST.cl mT GT.g (hr.mono (by decide)) GT.b .nil passN (pa_cons (pv 6) (pa_cons (pe_call C.g (hr.mono (by decide)) rfl C.m C.kp C.b .nil pass0 (pa_cons (pv 0) (pa_cons (pe_op op_add (pv 8) pe_int) pa_nil))) pa_nil))))
            (pss_one (ps_expr (pe_meth0 (pv 5) ST.cl mU GU.g (hr.mono (by decide)) GU.b .nil passN)))) pss_nil)))))))) pss_nil)
    (pss_one (ps_ret (pv 5)))))))), ?_⟩
  have no : ¬ False := id
  have s0' : 0 ≤ sizeLine := by decide
  have tnd := bk.tk.nd
  have bb : BkB 8 8 6 8 12 20 ts rs := ⟨bk.tk.w, bk.ok, by decide, by decide, by decide, by decide, bk.len, by decide⟩
  have mc : ∀ t ∈ ts, t.2.length ≤ 1000 := fun t ht => Nat.le_trans (bk.tk.each t ht).most (by decide)
  have gv := pt.gives tnd bk.ws mc
  have lx : xs.length = gs.length := by rw [og.length, List.length_map]
  refine ⟨_, rfl, p, 6, c, rfl, hp, by omega, by decide, by decide, fun way H1 w0 w1 hp1 b1 => ?_⟩
  have k1 := b1.off
  have lp : ∀ a, a = p → ∃ xs, H a = some (.lst xs) := fun a z => by
    obtain ⟨ys, ey⟩ := hp.lst
    exact ⟨ys, z ▸ ey⟩
  have er1 := k1 _ _ er nrp
  have og1 := og.keep k1 lp fun _ z => z.elim
  have bo1 := bo.but k1 hp
  refine ⟨_, rfl, r, _, rfl, .inl (SqL.of er1), fun gi ngi => ⟨_, _, rfl, ?_⟩⟩
  have k2 : Off (fun _ => False) H1 (upd H1 gi (.lst xs)) := Off.new ngi
  have eg := upd_same (H := H1) (a := gi) (o := .lst xs)
  generalize upd H1 gi (.lst xs) = H2 at k2 eg ⊢
  have er2 := k2 _ _ er1 no
  have og2 := og1.keep k2 (fun _ z => z.elim) fun _ z => z.elim
  have bo2 := bo1.off k2
  have hp2 := hp1.off k2 no
  have k02 : Off (fun a => a = p) H H2 := k1.trans (Off.in k2)
  have rgi : r ≠ gi := fun z => by
    rw [z, ngi] at er1
    cases er1
  have pgi : p ≠ gi := fun z => by
    obtain ⟨ys, ey⟩ := hp1.lst
    rw [z, ngi] at ey
    cases ey
  have ngH : H gi = none := k1.none ngi pgi.symm
  have new2 : ∀ a, H2 a = none → a ≠ p ∧ H a = none := fun a z => by
    have : a ≠ p := fun y => by
      obtain ⟨ys, ey⟩ := hp2.lst
      rw [← y, z] at ey
      cases ey
    exact ⟨this, k02.none z this⟩
  clear k1 k2 er1 og1 bo1 hp1 b1
  dsimp only [gName]
  show tSeq _ _ _ [some (.ref p), some (.ref b), some (.ref r), some (.int way), some (.ref gi), none, none, none, none, none, none] _
  have rest : ∀ (G : Hp) (s d l : Addr) (L : Str → Addr) (S : List Stp) (c' : Nat), StAt K G s b d l L ts (fillW gs).1 S → Sep ts L l → Hist ts rs (fillW gs).1 S → S.length ≤ 60 → (∀ a, Mu ts L l a → H2 a = none) → H2 d = none → H2 s = none → Pu G p c' → c' ≤ c + 5 → Off (fun a => a = p) H G → Q (.ref s) G := fun G s d l L S c' h1 h2 h3 h4 h5 h6 h7 h8 h9 h10 =>
    q s d l L S G c' h1 h2 h3 h4 (fun a z => (new2 a (h5 a z)).2) (new2 d h6).2 (new2 s h7).2 h8 h9 h10
  refine ⟨_, rfl, rfl, _, rfl, ite2 (fun _ => ?_) (fun c1 => ?_)⟩
  · refine ⟨_, rfl, fun s dx ns ndx nex => ?_⟩
    have kM : Off (fun _ => False) H2 (upd (upd H2 dx (.own s)) s (.ins (He.ga K "Store") dx [])) := (Off.new ndx).trans (Off.new (by rw [upd_ne (Ne.symm nex)]; exact ns))
    have sb : s ≠ b := fun z => by
      obtain ⟨_, _, _, e, _⟩ := bo2
      rw [← z, ns] at e
      cases e
    refine ⟨s, b, dx, ts, rs, 8, 8, 6, 8, 12, 20, rfl, upd_same, bo2.off kM, sb, bb, tnd, fun H3 d l L e1 sa sp fr fd1 k1 => ⟨rfl, ?_⟩⟩
    have k23 : Off (fun _ => False) H2 H3 := fun a o ea _ => k1 _ _ (kM a o ea no) fun z => by
      rw [z, ns] at ea
      cases ea
    have fr0 : ∀ a, Mu ts L l a → H2 a = none := fun a z => kM.none (fr a z) no
    have fd0 : H2 d = none := kM.none fd1 no
    dsimp only [gName]
    refine ⟨_, rfl, r, rfl, ⟨_, SqL.of (k23 _ _ er2 no)⟩, for_list (K := K) (a := r) (xs := xs) (fun i σ G => (∃ w3 w4, σ = [some (.ref p), some (.ref b), some (.ref r), some (.int way), some (.ref gi), some (.ref s), w3, w4, none, none, none]) ∧ StAt K G s b d l L ts (fillW (gs.take i)).1 (fillW (gs.take i)).2 ∧ Off (fun _ => False) H2 G)
      ⟨⟨none, none, rfl⟩, ⟨⟨dx, e1⟩, sa⟩, k23⟩ (fun i σ G _ g => SqL.of (g.2.2 _ _ er2 no)) (fun i x σ G hx g => ?_) fun σ G g => ?_⟩
    · obtain ⟨⟨w3, w4, rfl⟩, st, kG⟩ := g
      have hi : i < gs.length := by
        have := (List.getElem?_eq_some_iff.mp hx).1
        omega
      have hg : gs[i]? = some gs[i] := List.getElem?_eq_getElem hi
      generalize gs[i] = g at hg
      obtain ⟨v, ev, ov⟩ := owAll_get (i := i) (d := giveD g) og2 (by rw [List.getElem?_map, hg]; rfl)
      rw [hx] at ev
      cases ev
      obtain ⟨t, tr, rfl, et, etr⟩ := give_ow ov
      obtain ⟨wd, lrow, due⟩ := gv i g hg
      refine ⟨t, [.str g.1, .ref tr], rfl, SqT.of (kG _ _ et no), rfl, .str g.1, [.ref tr], rfl, .ref tr, [], rfl, rfl, ?_⟩
      obtain ⟨dx', es⟩ := st.ins
      refine ⟨_, rfl, s, dx', _, rfl, es, rfl, _, rfl, _, rfl, s, b, d, l, tr, L, ts, rs, (fillW (gs.take i)).1, (fillW (gs.take i)).2, g.1, g.2, 8, 8, 6, 8, 12, 20, rfl, st, sp, kG _ _ etr no, bo2.off kG, bb, bk.ws, wd, lrow, ?_, ?_⟩
      · rw [fillW_len, List.length_take]
        omega
      rw [due]
      intro H' st' k'
      refine ⟨⟨_, _, rfl⟩, ?_, fun a o ea na => k' _ _ (kG a o ea na) fun z => by
        rw [fr0 a z] at ea
        cases ea⟩
      rw [take_snoc hg, fillW_snoc]
      exact st'
    · obtain ⟨⟨w3, w4, rfl⟩, st, kG⟩ := g
      rw [lx, List.take_length] at st
      exact ⟨_, rfl, rest G s d l L _ (c + 1) st sp pt.hist (by rw [fillW_len]; omega) fr0 fd0 ns (hp2.off kG no) (by omega) (k02.trans (Off.in kG))⟩
  refine ⟨_, rfl, _, rfl, b, gi, xs, ts, rs, gs, 8, 8, 6, 8, 12, 20, rfl, bo2, bb, tnd, bk.ws, eg, og2, by omega, gv, fun H3 s d l L st sp ns nd fr k3 => ?_⟩
  have eg3 := k3 _ _ eg no
  refine ⟨_, rfl, .inl ⟨rfl, _, SqL.of eg3⟩, gi, xs, rfl, rfl, eg3, ?_⟩
  have k4 : Off (fun a => a = gi) H3 (upd H3 gi (.lst [])) := Off.upd rfl
  have hk4 : ∀ a, a = gi → ∃ ys, H3 a = some (.lst ys) := fun a z => ⟨xs, z ▸ eg3⟩
  have gmu : ∀ a, Mu ts L l a → a ≠ gi := fun a z y => by
    have := fr a z
    rw [y, eg] at this
    cases this
  have st4 := st.keep k4 hk4 gmu
  have k04 : Off (fun a => a = p) H (upd H3 gi (.lst [])) := fun a o ea na => k4 _ _ (k3 _ _ (k02 a o ea na) no) fun z => by
    rw [z, ngH] at ea
    cases ea
  have hp4 : Pu (upd H3 gi (.lst [])) p (c + 1) := (hp2.off k3 no).off k4 pgi
  have pmu : ¬ Mu ts L l p := fun z => by
    obtain ⟨ys, ey⟩ := hp2.lst
    rw [fr _ z] at ey
    cases ey
  generalize upd H3 gi (.lst []) = H4 at k4 st4 k04 hp4 ⊢
  clear k4 hk4 gmu st eg3 k3
  have hMu : ∀ {a : Addr} {o : HO}, H a = some o → a ≠ p → ¬ Mu ts L l a := fun {a o} ea na z => by
    have := k02 a o ea na
    rw [fr a z] at this
    cases this
  have fin : ∀ (G : Hp) (S : List Stp) (c' : Nat), StAt K G s b d l L ts (fillW gs).1 S → Hist ts rs (fillW gs).1 S → S.length ≤ 60 → Pu G p c' → c' ≤ c + 5 → Off (fun a => a = p) H G → Q (.ref s) G := fun G S c' h1 h3 h4 h8 h9 h10 => rest G s d l L S c' h1 sp h3 h4 fr nd ns h8 h9 h10
  have ascg : ∀ g ∈ gs, Asc g.1 := fun g hg => by
    obtain ⟨u, hu, e, _⟩ := pt.t g hg
    rw [e]
    exact (bk.tk.each u hu).name.asc
  have lS0 : (fillW gs).2.length ≤ 60 := by rw [fillW_len]; omega
  dsimp only [gName]
  show tSeq _ _ _ [some (.ref p), some (.ref b), some (.ref r), some (.int way), some (.ref gi), some (.ref s), none, none, none, none, none] _
  refine ⟨_, rfl, s0', fun m nm => ?_⟩
  have kM : Off (fun _ => False) H4 (upd H4 m (.lst [])) := Off.new nm
  have em := upd_same (H := H4) (a := m) (o := .lst [])
  generalize upd H4 m (.lst []) = H5 at kM em ⊢
  have k05 : Off (fun a => a = p) H H5 := k04.trans (Off.in kM)
  have st5 := st4.off kM
  have hp5 := hp4.off kM no
  have er5 := k05 _ _ er nrp
  have og5 := og.keep k05 lp fun _ z => z.elim
  refine ⟨.list (gs.map giveD), .list [], .lst (SqL.of er5) og5.dp, .lst (SqL.of em) .nil, shaped_gives ascg, rfl, _, rfl, ?_⟩
  rw [nilE]
  have miss := fin H5 _ (c + 1) st5 pt.hist lS0 hp5 (by omega) k05
  clear k04 hp4 st4 kM em
  rcases List.eq_nil_or_concat gs with hnil | ⟨gs', g, hgs⟩
  · rw [hnil]
    exact iteF ⟨_, rfl, miss⟩
  rw [List.concat_eq_append] at hgs
  rw [show (!gs.isEmpty) = true by rw [hgs]; simp]
  refine iteT ⟨_, rfl, _, _, rfl, rfl, _, rfl, ite2 (fun _ => ?_) (fun _ => ⟨_, rfl, miss⟩)⟩
  have hgi : gs[gs'.length]? = some g := by rw [hgs, List.getElem?_append_right (Nat.le_refl _), Nat.sub_self]; rfl
  have htk : gs.take gs'.length = gs' := by rw [hgs, List.take_left]
  have due := pt.due tnd bk.ws hgi
  rw [htk] at due
  have good' := pt.g gs'.length (by rw [hgs, List.length_append]; omega)
  rw [htk] at good'
  obtain ⟨u, hu', eu, lu, wok⟩ := pt.t g (List.mem_of_getElem? hgi)
  have hx : g.1 ∈ ts.map Prod.fst := List.mem_map.mpr ⟨u, hu', eu.symm⟩
  have eW1 : (fillW gs).1 = setR (fillW gs').1 g.1 ((fillW gs').1 g.1 ++ [g.2]) := by rw [hgs, fillW_snoc]
  have eW2 : (fillW gs).2 = (fillW gs').2 ++ [((g.1, ((((fillW gs').1 g.1).length : Nat) : Int), none) : Stp)] := by rw [hgs, fillW_snoc]
  have eRx : (fillW gs).1 g.1 = (fillW gs').1 g.1 ++ [g.2] := by rw [eW1, setR_same]
  have hist := pt.hist
  have goodR := pt.good
  have few := goodR.few u hu'
  rw [← eu, eRx, List.length_append] at few
  have hback : setR (fillW gs).1 g.1 (((fillW gs).1 g.1).eraseIdx ((fillW gs').1 g.1).length) = (fillW gs').1 := by
    have := undo_put (R := (fillW gs').1) (x := g.1) (row := g.2)
    unfold undoR at this
    dsimp only at this
    rw [Int.toNat_natCast, ← eW1] at this
    exact this
  obtain ⟨v, ev, ov⟩ := owAll_get (i := gs'.length) (d := giveD g) og (by rw [List.getElem?_map, hgi]; rfl)
  obtain ⟨t, tr, rfl, et, etr⟩ := give_ow ov
  have tnp : ∀ {a : Addr} {vs : List V}, H a = some (.tup vs) → a ≠ p := fun {a vs} e z => by
    obtain ⟨ys, ey⟩ := hp.lst
    rw [← z, e] at ey
    cases ey
  obtain ⟨xs', exs⟩ : ∃ xs', xs = xs' ++ [.ref t] := by
    rcases List.eq_nil_or_concat xs with h | ⟨xs', v', h⟩
    · rw [h] at ev
      simp at ev
    · rw [List.concat_eq_append] at h
      refine ⟨xs', ?_⟩
      rw [h] at ev lx
      rw [hgs, List.length_append, List.length_append] at lx
      have lx' : xs'.length = gs'.length := by simpa using lx
      rw [← lx', List.getElem?_append_right (Nat.le_refl _), Nat.sub_self] at ev
      cases ev
      exact h
  dsimp only [gName]
  refine ⟨_, rfl, _, rfl, r, xs, -1, .ref t, rfl, rfl, SqL.of er5, by rw [exs]; exact atI_last _ _, t, [.str g.1, .ref tr], rfl, SqT.of (k05 _ _ et (tnp et)), rfl, _, _, rfl, _, _, rfl, rfl, ?_⟩
  show tSeq _ _ _ [some (.ref p), some (.ref b), some (.ref r), some (.int way), some (.ref gi), some (.ref s), some (.str g.1), some (.ref tr), none, none, none] _
  refine ⟨_, rfl, r, rfl, ⟨_, SqL.of er5⟩, fun D hD => lc_list (K := K) (a := r) (xs := xs) (fun i G => G D = some (.lst (List.replicate ((gs.take i).filter fun q => decide (q.1 = g.1)).length (V.int 1))) ∧ Off (fun _ => False) H5 G)
    ⟨upd_same, Off.new hD⟩ (fun i G _ g => SqL.of (g.2 _ _ er5 no)) (fun i y G hx' gg => ?_) fun G gg => ?_⟩
  · obtain ⟨g1, g2⟩ := gg
    have hi : i < gs.length := by
      have := (List.getElem?_eq_some_iff.mp hx').1
      omega
    have hq : gs[i]? = some gs[i] := List.getElem?_eq_getElem hi
    generalize gs[i] = q' at hq
    obtain ⟨v2, ev2, ov2⟩ := owAll_get (i := i) (d := giveD q') og5 (by rw [List.getElem?_map, hq]; rfl)
    rw [hx'] at ev2
    cases ev2
    obtain ⟨t2, tr2, rfl, et2, _⟩ := give_ow ov2
    have lr : ((gs.take i).filter fun q => decide (q.1 = g.1)).length ≤ i := Nat.le_trans (List.length_filter_le _ _) (by rw [List.length_take]; omega)
    refine ⟨t2, [.str q'.1, .ref tr2], rfl, SqT.of (g2 _ _ et2 no), rfl, _, _, rfl, _, _, rfl, rfl, rfl, _, rfl, _, rfl, rfl, _, rfl, ite2 (fun cc => ?_) (fun cc => ?_)⟩
    · have eq' : q'.1 = g.1 := V.str.inj (of_decide_eq_true cc)
      refine ⟨_, g1, ?_, ?_, fun a o ea na => ?_⟩
      · rw [List.length_replicate]
        exact small4000 (by omega)
      · rw [upd_same, take_snoc hq, List.filter_append, List.filter_cons_of_pos (by simpa using eq'), List.filter_nil, List.length_append, List.length_singleton, List.replicate_succ']
      · rw [upd_ne (fun z => by rw [z, hD] at ea; cases ea)]
        exact g2 a o ea na
    · have eq' : ¬ q'.1 = g.1 := fun z => cc (decide_eq_true (by rw [z]))
      refine ⟨?_, g2⟩
      rw [take_snoc hq, List.filter_append, List.filter_cons_of_neg (by simpa using eq'), List.filter_nil, List.append_nil]
      exact g1
  obtain ⟨g1, k56⟩ := gg
  rw [lx, List.take_length] at g1
  refine ⟨D, _, rfl, .inl (SqL.of g1), _, _, rfl, rfl, ?_⟩
  rw [List.length_replicate, ← fillW_cnt, eRx, List.length_append]
  dsimp only
  rw [show (((((fillW gs').1 g.1).length + [g.2].length : Nat) : Int) - 1) = ((((fillW gs').1 g.1).length : Nat) : Int) by simp]
  have k06 : Off (fun a => a = p) H G := k05.trans (Off.in k56)
  have st6 := st5.off k56
  have hp6 := hp5.off k56 no
  clear g1 k56 st5 hp5 er5 og5 k05 hD miss
  dsimp only [gName]
  show tIfS _ _ _ _ [some (.ref p), some (.ref b), some (.ref r), some (.int way), some (.ref gi), some (.ref s), some (.str g.1), some (.ref tr), some (.int ((((fillW gs').1 g.1).length : Nat) : Int)), none, none] _
  have lS1 : (fillW gs).2.length ≤ 30 := by rw [fillW_len]; exact lg
  have few1 : ∀ t ∈ ts, ((fillW gs).1 t.1).length ≤ 1000 := fun t ht => Nat.le_trans (goodR.few t ht) (by decide)
  have few' : ∀ t ∈ ts, ((fillW gs').1 t.1).length ≤ 1000 := fun t ht => Nat.le_trans (good'.few t ht) (by decide)
  -- a put of the last row behind the others
  have again : ∀ (G : Hp) (S : List Stp) (c' : Nat) (Q' : VK) (E1 : XK), StAt K G s b d l L ts (fillW gs').1 S → Hist ts rs (fillW gs').1 S → S.length ≤ 50 → Pu G p c' → Off (fun a => a = p) H G → (∀ v G' S', StAt K G' s b d l L ts (fillW gs).1 S' → Hist ts rs (fillW gs).1 S' → S'.length ≤ 60 → Pu G' p c' → Off (fun a => a = p) H G' → Q' v G') →
      spPut K [.ref s, .str g.1, .ref tr] G Q' E1 := fun G S c' Q' E1 h1 h2 h3 h4 h5 h6 => by
    refine ⟨s, b, d, l, tr, L, ts, rs, (fillW gs').1, S, g.1, g.2, 8, 8, 6, 8, 12, 20, rfl, h1, sp, h5 _ _ etr (tnp etr), bo.but h5 hp, bb, bk.ws, good'.wide, by rw [lu]; exact mc u hu', by omega, ?_⟩
    rw [due]
    intro H' st' k'
    refine h6 _ H' _ (eW1 ▸ st') ?_ (by rw [List.length_append]; show _ + 1 ≤ _; omega) (h4.off k' pmu) fun a o ea na => k' _ _ (h5 a o ea na) (hMu ea na)
    rw [eW1]
    exact h2.put (eW1 ▸ goodR) hx
  obtain ⟨dx, es⟩ := st6.ins
  refine ⟨_, rfl, rfl, _, rfl, ite2 (fun _ => ?_) (fun _ => ?_)⟩
  · refine ⟨_, rfl, s, dx, _, rfl, es, rfl, _, rfl, _, rfl, s, b, d, l, L, ts, (fillW gs).1, (fillW gs).2, g.1, _, rfl, st6, sp, few1, by omega, fun n => absurd hx n, fun _ n => absurd ⟨Int.natCast_nonneg _, by rw [eRx, List.length_append]; show (((_ : Nat) : Int)) < ((_ + 1 : Nat) : Int); omega⟩ n, fun _ _ _ v0 r0 H7 hr0 st7 k7 _ => ?_⟩
    rw [Int.toNat_natCast] at hr0 st7
    rw [hback] at st7
    have h7 := hist.take hx hr0
    rw [hback] at h7
    obtain ⟨dx7, es7⟩ := st7.ins
    refine ⟨_, rfl, s, dx7, _, rfl, es7, rfl, _, rfl, _, rfl, again H7 _ (c + 1) _ _ st7 h7 (by rw [List.length_append]; show _ + 1 ≤ _; omega) (hp6.off k7 pmu) (fun a o ea na => k7 _ _ (k06 a o ea na) (hMu ea na)) fun v G' S' h1 h2 h3 h4 h5 => ⟨_, rfl, fin G' S' (c + 1) h1 h2 h3 h4 (by omega) h5⟩⟩
  refine ⟨_, rfl, rfl, _, rfl, ite2 (fun _ => ?_) (fun _ => ?_)⟩
  · refine ⟨_, rfl, s, dx, _, rfl, es, rfl, s, b, d, l, L, ts, (fillW gs).1, (fillW gs).2, rfl, st6, sp, few1, fun n => ?_, fun S' sx e => ⟨(hist.back e).1, fun H7 st7 k7 => ?_⟩⟩
    · rw [eW2] at n
      simp at n
    obtain ⟨e1, e2⟩ := List.append_inj' (eW2.symm.trans e) rfl
    cases e2
    rw [← e1, eW1, undo_put] at st7
    have h7 := (hist.back e).2
    rw [← e1, eW1, undo_put] at h7
    obtain ⟨dx7, es7⟩ := st7.ins
    refine ⟨_, rfl, s, dx7, _, rfl, es7, rfl, _, rfl, _, rfl, again H7 _ (c + 1) _ _ st7 h7 ?_ (hp6.off k7 pmu) (fun a o ea na => k7 _ _ (k06 a o ea na) (hMu ea na)) fun v G' S' h1 h2 h3 h4 h5 => ⟨_, rfl, fin G' S' (c + 1) h1 h2 h3 h4 (by omega) h5⟩⟩
    rw [eW2, List.length_append] at lS1
    omega
  refine ⟨_, rfl, rfl, _, rfl, ite2 (fun _ => ?_) (fun _ => ⟨_, rfl, fin G _ (c + 1) st6 hist lS0 hp6 (by omega) k06⟩)⟩
  refine ⟨_, rfl, s, dx, _, rfl, es, rfl, _, rfl, _, rfl, _, rfl, _, _, rfl, rfl, p, _, c + 1, rfl, hp6, by omega, by omega, by omega, fun i H7 i0 i1 hp7 b7 => ?_⟩
  have st7 := st6.keep b7.off (fun a z => by
    obtain ⟨ys, ey⟩ := hp6.lst
    exact ⟨ys, z ▸ ey⟩) fun a z y => pmu (y ▸ z)
  refine ⟨s, b, d, l, L, ts, (fillW gs).1, (fillW gs).2, g.1, i, rfl, st7, sp, few1, by omega, fun n => absurd hx n, fun _ n => absurd ⟨i0, by rw [eRx, List.length_append]; show i < ((_ + 1 : Nat) : Int); omega⟩ n, fun _ _ _ v0 r0 H8 hr0 st8 k8 _ => ?_⟩
  obtain ⟨dx8, es8⟩ := st8.ins
  have k08 : Off (fun a => a = p) H H8 := fun a o ea na => k8 _ _ (b7.off _ _ (k06 a o ea na) na) (hMu ea na)
  have ei : ((i.toNat : Nat) : Int) = i := by omega
  have h8 := hist.take hx hr0
  rw [ei] at h8
  refine ⟨_, rfl, s, dx8, _, rfl, es8, rfl, s, b, d, l, L, ts, _, _, rfl, st8, sp, fun t ht => Nat.le_trans (h8.good.few t ht) (by decide), fun n => ?_, fun S' sx e => ⟨(h8.back e).1, fun H9 st9 k9 => ?_⟩⟩
  · simp at n
  have h9 := (h8.back e).2
  obtain ⟨e1, e2⟩ := List.append_inj' e rfl
  cases e2
  have ub := undo_take (R := (fillW gs).1) hr0
  rw [ei] at ub
  rw [← e1, ub] at st9 h9
  exact ⟨_, rfl, fin H9 _ (c + 2) st9 h9 lS0 ((hp7.off k8 pmu).off k9 pmu) (by omega) fun a o ea na => k9 _ _ (k08 a o ea na) (hMu ea na)⟩
end
end LW
set_option Elab.async false
set_option linter.all false
set_option maxRecDepth 100000
set_option maxHeartbeats 0
/-! two stores beside one another -/
namespace LW
open PySem PySem.Spec PyProof.Rows L2 KV
/-- what stays while a store's rows change -/
structure Stay (K : PySem.W.Frag) (C : Hp) (pl : Addr) (A : Ad) (ts : List Tab) (rs : List RB) : Prop where
  bk : Bok ts rs
  plan : Plan K C pl ts rs
  book : BookOf K C A.b ts rs
  cm : ∀ a, A.mu ts a → C a = none
  mC : C A.m = none
  dC : C A.d = none
theorem Stay.base {K : PySem.W.Frag} {C G : Hp} {pl p : Addr} {A : Ad} {ts : List Tab} {rs : List RB} (s : Stay K C pl A ts rs) (k : Off (fun _ => False) C G) (cp : C p = none) (pm : ¬ A.mu ts p) : Base K C G p pl A ts rs := ⟨k, s.plan, s.book, cp, s.cm, s.mC, s.dC, pm⟩
structure TwoF (K : PySem.W.Frag) (C : Hp) (pl sl : Addr) (A1 A2 : Ad) (ts : List Tab) (rs : List RB) : Prop where
  s1 : Stay K C pl A1 ts rs
  s2 : Stay K C pl A2 ts rs
  dis : ∀ a, A1.mu ts a → ¬ A2.mu ts a
  l1 : ¬ A1.mu ts sl
  l2 : ¬ A2.mu ts sl
def TwoS (K : PySem.W.Frag) (C : Hp) (sl st1 st2 : Addr) (A1 A2 : Ad) (ts : List Tab) (rs : List RB) (n : Nat) (G : Hp) : Prop := G sl = some (.lst [.ref st1, .ref st2]) ∧ Off (fun _ => False) C G ∧ (∃ R S, Twin K G st1 A1 ts R S ∧ Hist ts rs R S ∧ S.length ≤ n) ∧ ∃ R S, Twin K G st2 A2 ts R S ∧ Hist ts rs R S ∧ S.length ≤ n
section
variable {K : PySem.W.Frag} {C G G' : Hp} {pl sl st1 st2 p : Addr} {A1 A2 : Ad} {ts : List Tab} {rs : List RB} {n c : Nat}
theorem TwoS.off (h : TwoS K C sl st1 st2 A1 A2 ts rs n G) (k : Off (fun _ => False) G G') : TwoS K C sl st1 st2 A1 A2 ts rs n G' := by
  obtain ⟨h1, h2, ⟨R, S, t1, i1, l1⟩, R', S', t2, i2, l2⟩ := h
  exact ⟨k _ _ h1 id, h2.trans k, ⟨R, S, t1.off k, i1, l1⟩, R', S', t2.off k, i2, l2⟩
theorem TwoS.pu (h : TwoS K C sl st1 st2 A1 A2 ts rs n G) (k : Off (fun a => a = p) G G') (hp : Pu G p c) (cp : C p = none) (n1 : ¬ A1.mu ts p) (n2 : ¬ A2.mu ts p) (sp : p ≠ sl) : TwoS K C sl st1 st2 A1 A2 ts rs n G' := by
  obtain ⟨h1, h2, ⟨R, S, t1, i1, l1⟩, R', S', t2, i2, l2⟩ := h
  have lp : ∀ a, a = p → ∃ xs, G a = some (.lst xs) := fun a z => by
    obtain ⟨ys, ey⟩ := hp.lst
    exact ⟨ys, z ▸ ey⟩
  exact ⟨k _ _ h1 (Ne.symm sp), (fun b o e _ => k _ _ (h2 b o e id) fun z => by
    rw [z, cp] at e
    cases e), ⟨R, S, t1.keep k lp fun a z y => n1 (y ▸ z), i1, l1⟩, R', S', t2.keep k lp fun a z y => n2 (y ▸ z), i2, l2⟩
theorem TwoS.pick (F : TwoF K C pl sl A1 A2 ts rs) (h : TwoS K C sl st1 st2 A1 A2 ts rs n G) (hp : Pu G p c) (cp : C p = none) (n1 : ¬ A1.mu ts p) (n2 : ¬ A2.mu ts p) (sp : p ≠ sl) {j : Int} (j0 : 0 ≤ j) (j1 : j < 2) :
    ∃ st A R S, atI [V.ref st1, V.ref st2] j = some (.ref st) ∧ Stay K C pl A ts rs ∧ (A = A1 ∨ A = A2) ∧ Twin K G st A ts R S ∧ Hist ts rs R S ∧ S.length ≤ n ∧ ¬ A.mu ts p ∧
      ∀ n' G' R' S', n ≤ n' → Off (fun a => a = p ∨ A.mu ts a) G G' → Twin K G' st A ts R' S' → Hist ts rs R' S' → S'.length ≤ n' → TwoS K C sl st1 st2 A1 A2 ts rs n' G' := by
  obtain ⟨h1, h2, ⟨R, S, t1, i1, l1⟩, R2, S2, t2, i2, l2⟩ := h
  have lp : ∀ a, a = p → ∃ xs, G a = some (.lst xs) := fun a z => by
    obtain ⟨ys, ey⟩ := hp.lst
    exact ⟨ys, z ▸ ey⟩
  have sub : ∀ {A : Ad} {G' : Hp}, Stay K C pl A ts rs → Off (fun a => a = p ∨ A.mu ts a) G G' → Off (fun _ => False) C G' := fun {A G'} s k b o e _ => k _ _ (h2 b o e id) fun z => by
    rcases z with z | z
    · rw [z, cp] at e
      cases e
    · rw [s.cm b z] at e
      cases e
  have js : j = 0 ∨ j = 1 := by omega
  rcases js with rfl | rfl
  · refine ⟨st1, A1, R, S, rfl, F.s1, .inl rfl, t1, i1, l1, n1, fun n' G' R' S' hn k t i l => ⟨k _ _ h1 fun z => z.elim (Ne.symm sp) F.l1, sub F.s1 k, ⟨R', S', t, i, l⟩, R2, S2, t2.keep k (fun a z => z.elim (lp a) (t1.lst a)) (fun a z y => ?_), i2, Nat.le_trans l2 hn⟩⟩
    rcases y with y | y
    · exact n2 (y ▸ z)
    · exact F.dis a y z
  · refine ⟨st2, A2, R2, S2, rfl, F.s2, .inr rfl, t2, i2, l2, n2, fun n' G' R' S' hn k t i l => ⟨k _ _ h1 fun z => z.elim (Ne.symm sp) F.l2, sub F.s2 k, ⟨R, S, t1.keep k (fun a z => z.elim (lp a) (t2.lst a)) (fun a z y => ?_), i1, Nat.le_trans l1 hn⟩, R', S', t, i, l⟩⟩
    rcases y with y | y
    · exact n1 (y ▸ z)
    · exact F.dis a z y
theorem TwoS.at (F : TwoF K C pl sl A1 A2 ts rs) (h : TwoS K C sl st1 st2 A1 A2 ts rs n G) {i : Nat} {y : V} (hy : [V.ref st1, V.ref st2][i]? = some y) :
    ∃ st A R S, y = .ref st ∧ Stay K C pl A ts rs ∧ (A = A1 ∨ A = A2) ∧ Twin K G st A ts R S ∧ Hist ts rs R S ∧ S.length ≤ n ∧
      ∀ G' R' S', Off (A.mu ts) G G' → Twin K G' st A ts R' S' → Hist ts rs R' S' → S'.length ≤ n → TwoS K C sl st1 st2 A1 A2 ts rs n G' := by
  obtain ⟨h1, h2, ⟨R, S, t1, i1, l1⟩, R2, S2, t2, i2, l2⟩ := h
  have sub : ∀ {A : Ad} {G' : Hp}, Stay K C pl A ts rs → Off (A.mu ts) G G' → Off (fun _ => False) C G' := fun {A G'} s k b o e _ => k _ _ (h2 b o e id) fun z => by
    rw [s.cm b z] at e
    cases e
  match i, hy with
  | 0, hy =>
    cases hy
    exact ⟨st1, A1, R, S, rfl, F.s1, .inl rfl, t1, i1, l1, fun G' R' S' k t i l => ⟨k _ _ h1 F.l1, sub F.s1 k, ⟨R', S', t, i, l⟩, R2, S2, t2.keep k t1.lst (fun a z y => F.dis a y z), i2, l2⟩⟩
  | 1, hy =>
    cases hy
    exact ⟨st2, A2, R2, S2, rfl, F.s2, .inr rfl, t2, i2, l2, fun G' R' S' k t i l => ⟨k _ _ h1 F.l2, sub F.s2 k, ⟨R, S, t1.keep k t2.lst (fun a z y => F.dis a z y), i1, l1⟩, R', S', t, i, l⟩⟩
  | i + 2, hy => simp at hy
end
end LW
set_option Elab.async false
set_option linter.all false
set_option maxRecDepth 100000
set_option maxHeartbeats 4000000
/-! == of dicts whose values are data -/
namespace KV
open PySem PySem.Spec PyProof.Rows L2
/-- the values are data -/
def KD (K : PySem.W.Frag) (H : Hp) : List (Key × V) → List (Key × PyData) → Prop := Paired fun (p : Key × V) (q : Key × PyData) => p.1 = q.1 ∧ Dp K H p.2 q.2
def valD (kb : List (Key × PyData)) (k : Key) : Option PyData := (kb.find? fun p => decide (p.1 = k)).map (·.2)
def hitsD (kb : List (Key × PyData)) : List (Key × PyData) → Bool
  | [] => true
  | (k, d) :: r => match valD kb k with
    | none => false
    | some e => PyData.eqv d e && hitsD kb r
theorem kd_val {K : PySem.W.Frag} {H : Hp} {ls : List (Key × V)} {kb : List (Key × PyData)} (h : KD K H ls kb) (k : Key) : (valV ls k = none ∧ valD kb k = none) ∨ ∃ v d, valV ls k = some v ∧ valD kb k = some d ∧ Dp K H v d ∧ (k, d) ∈ kb := by
  unfold KD at h
  induction h with
  | nil => exact .inl ⟨rfl, rfl⟩
  | @cons p q ps qs h t ih =>
    obtain ⟨k1, v⟩ := p
    obtain ⟨k2, d⟩ := q
    obtain ⟨h1, h2⟩ := h
    have h1 : k1 = k2 := h1
    subst h1
    by_cases e : k1 = k
    · subst e
      exact .inr ⟨v, d, by simp [valV], by simp [valD], h2, List.mem_cons_self⟩
    · have e1 : valV ((k1, v) :: ps) k = valV ps k := by simp [valV, e]
      have e2 : valD ((k1, d) :: qs) k = valD qs k := by simp [valD, e]
      rw [e1, e2]
      rcases ih with ih | ⟨v', d', i1, i2, i3, i4⟩
      · exact .inl ih
      · exact .inr ⟨v', d', i1, i2, i3, List.mem_cons_of_mem _ i4⟩
section
variable {X : Cx} {pins : List (Addr × Obj)} {σ : L2.St} {H : Hp} {s : Shared}
theorem hits_data (I : L2.Inv X pins σ H s) (hu : X.A.units + 66 < cLine) {ls : List (Key × V)} {vb : List (Key × Value)} {kb : List (Key × PyData)} (rb : L2.KV ls vb) (db : KD X.K H ls kb) (sb : ∀ p ∈ kb, SeqAt.shaped p.2 = true) :
    ∀ {ks : List (Key × V)} {va : List (Key × Value)} {ka : List (Key × PyData)}, L2.KV ks va → KD X.K H ks ka → (∀ p ∈ ka, SeqAt.shaped p.2 = true) → PySem.W.KeqHits X.A.in1 s vb va (hitsD kb ka)
  | _, _, _, .nil, .nil, _ => .nil
  | (k1, v1) :: ps, (k2, u2) :: qs, (k3, d3) :: es, .cons h r, .cons g t, sa => by
    obtain ⟨h1, h2⟩ := h
    obtain ⟨g1, g2⟩ := g
    have h1 : k1 = k2 := h1
    have g1 : k1 = k3 := g1
    subst h1
    subst g1
    have ih := hits_data I hu rb db sb r t fun p hp => sa p (List.mem_cons_of_mem _ hp)
    obtain ⟨as, rd⟩ := Dp.reads I _ _ _ g2 h2
    rcases kd_val db k1 with ⟨e1, e2⟩ | ⟨v, d, e1, e2, e3, e4⟩
    · have : hitsD kb ((k1, d3) :: es) = false := by
        unfold hitsD
        rw [e2]
      rw [this]
      refine .miss ?_
      have rr := rb.val k1
      rw [e1] at rr
      cases o : valueAt vb k1 with
      | none => rfl
      | some y =>
        rw [o] at rr
        exact rr.elim
    · have : hitsD kb ((k1, d3) :: es) = (PyData.eqv d3 d && hitsD kb es) := by
        show (match valD kb k1 with
          | none => false
          | some e => PyData.eqv d3 e && hitsD kb es) = _
        rw [e2]
      rw [this]
      have rr := rb.val k1
      rw [e1] at rr
      obtain ⟨y, hy, ry⟩ := rr.some_of
      obtain ⟨bs, rd2⟩ := Dp.reads I _ _ _ e3 ry
      exact .hit hy (PySem.W.keq_at rd rd2 (sa _ List.mem_cons_self) (sb _ e4) (by show X.A.units + 1 + 64 < cLine; omega)) ih
def rEqDK (K : PySem.W.Frag) : R2 := fun x y H Q => ∃ (a b : Addr) (ks ls : List (Key × V)) (ka kb : List (Key × PyData)), x = .ref a ∧ y = .ref b ∧ H a = some (.dK ks) ∧ H b = some (.dK ls) ∧ KD K H ks ka ∧ KD K H ls kb ∧ (∀ p ∈ ka, SeqAt.shaped p.2 = true) ∧ (∀ p ∈ kb, SeqAt.shaped p.2 = true) ∧ Q (.bl (ka.length == kb.length && hitsD kb ka)) H
theorem op_eqDK (hu : X.A.units + 66 < cLine) : OpR X (compareOp .Eq) (rEqDK X.K) := by
  intro pins s σ H x y v u Q I rx ry h
  obtain ⟨a, b, ks, ls, ka, kb, rfl, rfl, ea, eb, da, db, sa, sb, q⟩ := h
  obtain rfl : v = Value.ref a := rx
  obtain rfl : u = Value.ref b := ry
  obtain ⟨_, ya, va, ra, oa⟩ := (show ObjOk X.prog X.w H s.heap a (.dK ks) from I.hok a _ ea)
  obtain ⟨_, yb, vb, rb, ob⟩ := (show ObjOk X.prog X.w H s.heap b (.dK ls) from I.hok b _ eb)
  have l1 : va.length = ka.length := by rw [← ra.length, ← da.length]
  have l2 : vb.length = kb.length := by rw [← rb.length, ← db.length]
  exact PySem.W.keq_eq (knd := mixKind X.prog X.w) ya yb oa ob (by omega) (fun _ => hits_data I hu rb db sb ra da sa) (fin_bl I q (by rw [l1, l2]))
end
end KV
set_option Elab.async false
set_option linter.all false
set_option maxRecDepth 100000
set_option maxHeartbeats 0
/-! Store.__eq__: two stores -/
namespace LW
open PySem PySem.Spec PyProof.Rows L2 KV
open C8 (InsC call_isC)
def rowsK (ts : List Tab) (R : Str → List Row) : List (Key × PyData) := ts.map fun t => (.inr t.1, .list ((R t.1).map rowD))
theorem rows_kd {K : PySem.W.Frag} {H : Hp} {L : Str → Addr} {R : Str → List Row} : ∀ {us : List Tab}, (∀ t ∈ us, ∃ vs, H (L t.1) = some (.lst vs) ∧ OwAll H vs ((R t.1).map rowD) Fp0) → KD K H (dkv us L) (rowsK us R)
  | [], _ => .nil
  | t :: us, h => by
    obtain ⟨vs, e, o⟩ := h t List.mem_cons_self
    exact .cons ⟨rfl, .lst (SqL.of e) o.dp⟩ (rows_kd fun u hu => h u (List.mem_cons_of_mem _ hu))
theorem StoA.kd {K : PySem.W.Frag} {H : Hp} {d l : Addr} {L : Str → Addr} {ts : List Tab} {R : Str → List Row} {S : List Stp} (h : StoA H d l L ts R S) : KD K H (dkv ts L) (rowsK ts R) := rows_kd h.rows
theorem rowsK_shaped {ts : List Tab} {R : Str → List Row} : ∀ p ∈ rowsK ts R, SeqAt.shaped p.2 = true := fun p hp => by
  obtain ⟨t, _, rfl⟩ := List.mem_map.mp hp
  exact shaped_rows
theorem rowsK_val {R : Str → List Row} : ∀ {ts : List Tab}, (ts.map Prod.fst).Nodup → ∀ {t : Tab}, t ∈ ts → valD (rowsK ts R) (.inr t.1) = some (.list ((R t.1).map rowD))
  | [], _, t, ht => by simp at ht
  | u :: ts, nd, t, ht => by
    by_cases e : u.1 = t.1
    · unfold rowsK
      rw [← e]
      simp [valD]
    · have : valD (rowsK (u :: ts) R) (.inr t.1) = valD (rowsK ts R) (.inr t.1) := by
        unfold rowsK
        simp [valD, e]
      rw [this]
      rw [List.map_cons, List.nodup_cons] at nd
      rcases List.mem_cons.mp ht with rfl | ht
      · exact absurd rfl e
      · exact rowsK_val nd.2 ht
theorem rows_refl (rows : List Row) : PyData.eqv (.list (rows.map rowD)) (.list (rows.map rowD)) = true := by
  refine SeqAt.eqv_refl _ ?_
  have h := shaped_rows (rows := rows)
  unfold SeqAt.shaped at h
  rw [Bool.and_eq_true] at h
  exact h.1
theorem hits_same {ts : List Tab} {R R' : Str → List Row} (nd : (ts.map Prod.fst).Nodup) (e : ∀ t ∈ ts, R' t.1 = R t.1) : hitsD (rowsK ts R) (rowsK ts R') = true := by
  have all : ∀ us : List Tab, (∀ t ∈ us, t ∈ ts) → hitsD (rowsK ts R) (rowsK us R') = true := fun us => by
    induction us with
    | nil => exact fun _ => rfl
    | cons u us ih =>
      intro h
      have hu := h u List.mem_cons_self
      show (match valD (rowsK ts R) (.inr u.1) with
        | none => false
        | some d => PyData.eqv (.list ((R' u.1).map rowD)) d && hitsD (rowsK ts R) (rowsK us R')) = true
      rw [rowsK_val nd hu, e u hu]
      show (PyData.eqv (.list ((R u.1).map rowD)) (.list ((R u.1).map rowD)) && hitsD (rowsK ts R) (rowsK us R')) = true
      rw [rows_refl, ih fun t ht => h t (List.mem_cons_of_mem _ ht)]
      rfl
  exact all ts fun _ h => h
def sameRows (ts us : List Tab) (R R' : Str → List Row) : Bool := (rowsK ts R).length == (rowsK us R').length && hitsD (rowsK us R') (rowsK ts R)
theorem sameRows_same {ts : List Tab} {R R' : Str → List Row} (nd : (ts.map Prod.fst).Nodup) (e : ∀ t ∈ ts, R' t.1 = R t.1) : sameRows ts ts R R' = true := by
  unfold sameRows
  rw [hits_same nd fun t ht => (e t ht).symm]
  simp [rowsK]
def spEqSt (K : PySem.W.Frag) : Sp := fun vs H Q _ => ∃ (a ba da la b bb db lb : Addr) (La Lb : Str → Addr) (ts us : List Tab) (rs ws : List RB) (R R' : Str → List Row) (S S' : List Stp) (n mc mt N M L n' mc' mt' N' M' L' : Nat), vs = [.ref a, .ref b] ∧ StAt K H a ba da la La ts R S ∧ StAt K H b bb db lb Lb us R' S' ∧
  BookOf K H ba ts rs ∧ BookOf K H bb us ws ∧ BkB n mc mt N M L ts rs ∧ BkB n' mc' mt' N' M' L' us ws ∧ Q (.bl (sameB ts us rs ws && sameRows ts us R R')) H
section
variable {P : Program} {w : World} {K : PySem.W.Frag} {mg : Str → Option Value} {base : Heap}
theorem scEqSt : FnScope ["self", "other"] ["self", "other"] (defScope pStore_eq) := ⟨rfl, rfl, rfl, by decide +kernel, rfl, by decide +kernel, by decide +kernel⟩
theorem ok_eqSt {f fB : Addr} {fd dB : FuncData} (F : FunD K "__eq__" "Store.__eq__" (defArgs pStore_eq) (defBody pStore_eq) (defScope pStore_eq) [] [] f fd) (ST : StoreT K mg) (IS : InsC K (He.ga K "Store"))
    (GE : FnOk P w K mg base CX0 1 fB dB ["self", "other"] (spEqBk K)) (hE : PySem.W.findIn K (.ref (He.ga K "Book")) "__eq__" = some (some (.ref fB))) (iE : PySem.W.isFn K (.ref fB) = true) (bE : Binds K dB ["self", "other"] []) (mi : mg "isinstance" = none) :
    FnOk P w K mg base CX0 3 f fd ["self", "other"] (spEqSt K) := by
  refine F.ok scEqSt (fun vs H Q E h => ?_) (fun cdv A outer s H vs Q E hr h => ?_)
  · obtain ⟨a, ba, da, la, b, bb, db, lb, La, Lb, ts, us, rs, ws, R, R', S, S', _, _, _, _, _, _, _, _, _, _, _, _, rfl, _⟩ := h
    rfl
  obtain ⟨a, ba, da, la, b, bb, db, lb, La, Lb, ts, us, rs, ws, R, R', S, S', n, mc, mt, N, M, L, n', mc', mt', N', M', L', rfl, sa, sb, oa, ob, b1, b2, q⟩ := h
  have hu : (A.deeper (envOfC "Store.__eq__" (defScope pStore_eq) s.heap.objs.size f cdv)).units + 66 < cLine := by
    have := hr.un
    omega
  refine ⟨_, pss_one (ps_ret (pe_and (pe_callB (call_isC IS) rfl mi boot_isinstance (pa_cons (pv 1) (pa_cons (pe_glob (v := .ref (He.ga K "Store")) rfl ST.g rfl) pa_nil)))
    (pe_and (pe_cmpR (op_eqO (C := He.ga K "Book") GE hE iE bE (hr.mono (by decide))) (pe_fld (pv 0) rfl) (pe_fld (pv 1) rfl) (nomark _)) (pe_one (pe_cmpR (op_eqDK hu) (pe_fld (pv 0) rfl) (pe_fld (pv 1) rfl) (nomark _)))))), ?_⟩
  obtain ⟨dx, h1⟩ := sa.ins
  obtain ⟨dy, g1⟩ := sb.ins
  obtain ⟨dxa, v1, v2, ha, ha2, ha3⟩ := id oa
  obtain ⟨dxb, u1, u2, hb, hb2, hb3⟩ := id ob
  refine ⟨_, rfl, b, dy, _, rfl, g1, true, rfl, iteT ?_⟩
  refine ⟨_, rfl, a, _, dx, _, _, rfl, h1, ST.cl, ST.n1, lookup_book, _, rfl, b, _, dy, _, _, rfl, g1, ST.cl, ST.n1, lookup_book, ba, bb, dxa, dxb, _, _, rfl, rfl, ha, hb, ba, bb, ts, us, rs, ws, n, mc, mt, N, M, L, n', mc', mt', N', M', L', rfl, oa, ob, b1, b2, _, rfl, _, rfl, ?_⟩
  cases e : sameB ts us rs ws with
  | false =>
    rw [e, Bool.false_and] at q
    exact iteF q
  | true =>
    rw [e, Bool.true_and] at q
    exact iteT ⟨_, rfl, a, _, dx, _, _, rfl, h1, ST.cl, ST.n2, lookup_rows, _, rfl, b, _, dy, _, _, rfl, g1, ST.cl, ST.n2, lookup_rows, da, db, _, _, rowsK ts R, rowsK us R', rfl, rfl, sa.sto.dic, sb.sto.dic, sa.sto.kd, sb.sto.kd, rowsK_shaped, rowsK_shaped, q⟩
end
end LW
set_option Elab.async false
set_option linter.all false
set_option maxRecDepth 100000
set_option maxHeartbeats 0
/-! rows put again, table by table -/
namespace LW
open PySem PySem.Spec PyProof.Rows L2 KV
theorem fillW_rows0 : ∀ (gs : List (Str × Row)) (w : (Str → List Row) × List Stp) (x : Str), (gs.foldl (fun w g => (setR w.1 g.1 (w.1 g.1 ++ [g.2]), w.2 ++ [((g.1, (((w.1 g.1).length : Nat) : Int), none) : Stp)])) w).1 x = w.1 x ++ (gs.filter fun g => decide (g.1 = x)).map Prod.snd
  | [], w, x => (List.append_nil _).symm
  | g :: gs, w, x => by
    rw [List.foldl_cons, fillW_rows0 gs]
    dsimp only
    by_cases e : g.1 = x
    · rw [← e, setR_same, List.filter_cons_of_pos (by simp), List.map_cons, List.append_assoc]
      rfl
    · rw [setR_ne (fun z => e z.symm), List.filter_cons_of_neg (by simpa using e)]
theorem fillW_rows {gs : List (Str × Row)} {x : Str} : (fillW gs).1 x = (gs.filter fun g => decide (g.1 = x)).map Prod.snd := by
  unfold fillW
  rw [fillW_rows0]
  exact List.nil_append _
theorem okRows_sub {cols cs tl : List Str} {P' P : List Row} (s : P'.Sublist P) : okRows cols cs tl P = true → okRows cols cs tl P' = true := by
  induction s with
  | slnil => exact id
  | @cons l1 l2 a s ih =>
    intro h
    rw [okRows, Bool.and_eq_true] at h
    exact ih h.2
  | @cons_cons l1 l2 a s ih =>
    intro h
    rw [okRows, Bool.and_eq_true] at h ⊢
    exact ⟨List.all_eq_true.mpr fun b hb => List.all_eq_true.mp h.1 b (s.subset hb), ih h.2⟩
theorem Good.sub {ts : List Tab} {rs : List RB} {R R' : Str → List Row} (g : Good ts rs R) (s : ∀ t ∈ ts, (R' t.1).Sublist (R t.1)) : Good ts rs R' := by
  refine ⟨fun t ht => Nat.le_trans (s t ht).length_le (g.few t ht), fun t ht r hr => g.wd t ht r ((s t ht).subset hr), ?_⟩
  unfold brokenO
  refine fidx_none fun r hr => ?_
  have h := fidx_all g.br r hr
  rw [Bool.not_eq_false'] at h ⊢
  rcases r with ⟨hd, _ | ⟨cs, tl⟩⟩
  · exact holds_none
  · rcases hd with _ | ⟨k, _ | ⟨y, _ | _⟩⟩
    · rfl
    · rfl
    · unfold holdsR at h ⊢
      dsimp only at h ⊢
      cases e : tabOf ts y with
      | none => rfl
      | some t =>
        rw [e] at h
        dsimp only at h ⊢
        obtain ⟨mt, yt⟩ := tabOf_mem e
        exact okRows_sub (yt ▸ s t mt) h
    · rfl
def flatG (ts : List Tab) (R : Str → List Row) : List (Str × Row) := ts.flatMap fun t => (R t.1).map fun r => (t.1, r)
theorem flatG_no {R : Str → List Row} {x : Str} : ∀ {ts : List Tab}, x ∉ ts.map Prod.fst → (flatG ts R).filter (fun g => decide (g.1 = x)) = []
  | [], _ => rfl
  | t :: ts, h => by
    rw [List.map_cons, List.mem_cons, not_or] at h
    unfold flatG
    rw [List.flatMap_cons, List.filter_append]
    have ih := flatG_no (R := R) h.2
    unfold flatG at ih
    rw [ih, List.append_nil]
    refine List.filter_eq_nil_iff.mpr fun g hg => ?_
    obtain ⟨r, _, rfl⟩ := List.mem_map.mp hg
    simpa using fun z => h.1 z.symm
theorem flatG_at {R : Str → List Row} : ∀ {ts : List Tab}, (ts.map Prod.fst).Nodup → ∀ {t : Tab}, t ∈ ts → ((flatG ts R).filter fun g => decide (g.1 = t.1)).map Prod.snd = R t.1
  | [], _, t, ht => by simp at ht
  | u :: ts, nd, t, ht => by
    rw [List.map_cons, List.nodup_cons] at nd
    unfold flatG
    rw [List.flatMap_cons, List.filter_append]
    by_cases e : u.1 = t.1
    · have n := flatG_no (R := R) nd.1
      unfold flatG at n
      rw [← e, n, List.append_nil, List.filter_eq_self.mpr fun g hg => by
        obtain ⟨r, _, rfl⟩ := List.mem_map.mp hg
        simp, List.map_map]
      exact List.map_id _
    · have hne : ((R u.1).map fun r => (u.1, r)).filter (fun g => decide (g.1 = t.1)) = [] := List.filter_eq_nil_iff.mpr fun g hg => by
        obtain ⟨r, _, rfl⟩ := List.mem_map.mp hg
        simpa using e
      rw [hne, List.nil_append]
      have ht' : t ∈ ts := by
        rcases List.mem_cons.mp ht with rfl | h
        · exact absurd rfl e
        · exact h
      exact flatG_at nd.2 ht'
theorem flatG_puts {ts : List Tab} {rs : List RB} {R : Str → List Row} (g : Good ts rs R) (nd : (ts.map Prod.fst).Nodup) : Puts ts rs (flatG ts R) := by
  refine ⟨fun i _ => g.sub fun t ht => ?_, fun q hq => ?_⟩
  · rw [fillW_rows]
    have := (((List.take_sublist i (flatG ts R)).filter fun g => decide (g.1 = t.1)).map Prod.snd)
    rwa [flatG_at nd ht] at this
  · obtain ⟨t, ht, hr⟩ := List.mem_flatMap.mp hq
    obtain ⟨r, hr', rfl⟩ := List.mem_map.mp hr
    obtain ⟨h1, h2⟩ := g.wd t ht r hr'
    exact ⟨t, ht, rfl, h1, h2⟩
theorem flatG_fill {ts : List Tab} {R : Str → List Row} (nd : (ts.map Prod.fst).Nodup) {t : Tab} (ht : t ∈ ts) : (fillW (flatG ts R)).1 t.1 = R t.1 := by
  rw [fillW_rows, flatG_at nd ht]
theorem flatG_len {R : Str → List Row} : ∀ {ts : List Tab}, (flatG ts R).length = total ts R
  | [] => rfl
  | t :: ts => by
    have ih := flatG_len (R := R) (ts := ts)
    unfold flatG total at ih ⊢
    rw [List.flatMap_cons, List.length_append, ih, List.map_cons, List.sum_cons, List.length_map]
theorem flatG_snoc {ts : List Tab} {u : Tab} {R : Str → List Row} : flatG (ts ++ [u]) R = flatG ts R ++ (R u.1).map fun r => (u.1, r) := by
  unfold flatG
  rw [List.flatMap_append]
  simp
end LW
set_option Elab.async false
set_option linter.all false
set_option maxRecDepth 100000
set_option maxHeartbeats 0
/-! rows that a row goes against, one by one -/
namespace LW
open PySem PySem.Spec PyProof.Rows L2 KV
/-- one row alone in its table -/
def aloneR (x : Str) (r : Row) : Str → List Row := fun y => if y = x then [r] else []
theorem aloneR_same {x : Str} {r : Row} : aloneR x r x = [r] := if_pos rfl
theorem aloneR_ne {x y : Str} {r : Row} (h : y ≠ x) : aloneR x r y = [] := if_neg h
/-- whether a row goes against another one -/
def against (ts : List Tab) (rs : List RB) (x : Str) (row r : Row) : Bool := (fidx (breaksR ts (aloneR x r) x row) rs).isSome
theorem fidx_some {p : RB → Bool} : ∀ {rs : List RB}, (fidx p rs).isSome = rs.any p
  | [] => rfl
  | q :: rs => by
    rw [fidx, List.any_cons]
    cases e : p q with
    | true => rfl
    | false =>
      rw [if_neg (by simp), Option.isSome_map, fidx_some, Bool.false_or]
theorem breaks_any {ts : List Tab} {R : Str → List Row} {x : Str} {row : Row} {rb : RB} : breaksR ts R x row rb = (R x).any fun r => breaksR ts (aloneR x r) x row rb := by
  have no : ∀ rows : List Row, (false : Bool) = rows.any fun _ => false := fun rows => by
    induction rows with
    | nil => rfl
    | cons a l ih => simp
  rcases rb with ⟨hd, _ | ⟨cs, tl⟩⟩
  · rcases hd with _ | ⟨k, _ | ⟨y, _ | _⟩⟩ <;> exact no _
  · rcases hd with _ | ⟨k, _ | ⟨y, _ | _⟩⟩
    · exact no _
    · exact no _
    · unfold breaksR
      dsimp only
      cases e : tabOf ts x with
      | none =>
        simp
      | some t =>
        dsimp only
        simp only [aloneR_same]
        cases decide (y = x) with
        | false => simp
        | true => simp
    · exact no _
theorem against_any {ts : List Tab} {rs : List RB} {R : Str → List Row} {x : Str} {row : Row} : (fidx (breaksR ts R x row) rs).isSome = (R x).any (against ts rs x row) := by
  rw [fidx_some]
  unfold against
  rw [Bool.eq_iff_iff, List.any_eq_true, List.any_eq_true]
  constructor
  · rintro ⟨rb, h1, h2⟩
    rw [breaks_any, List.any_eq_true] at h2
    obtain ⟨r, h3, h4⟩ := h2
    refine ⟨r, h3, ?_⟩
    rw [fidx_some]
    exact List.any_eq_true.mpr ⟨rb, h1, h4⟩
  · rintro ⟨r, h1, h2⟩
    rw [fidx_some] at h2
    obtain ⟨rb, h3, h4⟩ := List.any_eq_true.mp h2
    refine ⟨rb, h3, ?_⟩
    rw [breaks_any]
    exact List.any_eq_true.mpr ⟨r, h1, h4⟩
/-- a put of a row as wide as its table -/
theorem due_rule {ts : List Tab} {rs : List RB} {R : Str → List Row} {u : Tab} {row : Row} (nd : (ts.map Prod.fst).Nodup) (hu : u ∈ ts) (l : row.length = u.2.length) : (putDue ts rs R u.1 row).isSome = (R u.1).any (against ts rs u.1 row) := by
  have et : tabOf ts u.1 = some u := by
    cases e2 : tabOf ts u.1 with
    | none => exact absurd (List.mem_map.mpr ⟨u, hu, rfl⟩) (tabOf_in.mp e2)
    | some t0 =>
      obtain ⟨m0, y0⟩ := tabOf_mem e2
      rw [fst_inj nd m0 hu y0]
  rw [putDue_rule et l, ← against_any]
  cases fidx (breaksR ts R u.1 row) rs <;> rfl
/-- the places of the rows that it goes against -/
def spots (p : Row → Bool) : Nat → List Row → List Nat
  | _, [] => []
  | n, r :: l => if p r then n :: spots p (n + 1) l else spots p (n + 1) l
theorem spots_len {p : Row → Bool} : ∀ (l : List Row) (n : Nat), (spots p n l).length = (l.filter p).length
  | [], _ => rfl
  | r :: l, n => by
    unfold spots
    cases e : p r with
    | true => rw [if_pos rfl, List.filter_cons_of_pos e, List.length_cons, List.length_cons, spots_len l]
    | false => rw [if_neg (by simp), List.filter_cons_of_neg (by rw [e]; simp), spots_len l]
theorem spots_snoc {p : Row → Bool} {r : Row} : ∀ (l : List Row) (n : Nat), spots p n (l ++ [r]) = spots p n l ++ (if p r then [n + l.length] else [])
  | [], n => by
    show (if p r then n :: spots p (n + 1) [] else spots p (n + 1) []) = [] ++ if p r then [n + 0] else []
    cases p r <;> rfl
  | a :: l, n => by
    rw [List.cons_append]
    unfold spots
    rw [spots_snoc l (n + 1), List.length_cons, show n + 1 + l.length = n + (l.length + 1) by omega]
    cases p a <;> rfl
theorem spots_mem {p : Row → Bool} : ∀ (l : List Row) (n i : Nat), i ∈ spots p n l → n ≤ i ∧ ∃ r, l[i - n]? = some r ∧ p r = true
  | [], _, _, h => by simp [spots] at h
  | a :: l, n, i, h => by
    unfold spots at h
    have rest : i ∈ spots p (n + 1) l → n ≤ i ∧ ∃ r, (a :: l)[i - n]? = some r ∧ p r = true := fun h => by
      obtain ⟨h1, r, h2, h3⟩ := spots_mem l (n + 1) i h
      refine ⟨by omega, r, ?_, h3⟩
      rw [show i - n = (i - (n + 1)) + 1 by omega, List.getElem?_cons_succ]
      exact h2
    cases e : p a with
    | true =>
      rw [e, if_pos rfl] at h
      rcases List.mem_cons.mp h with rfl | h
      · exact ⟨Nat.le_refl _, a, by rw [Nat.sub_self]; rfl, e⟩
      · exact rest h
    | false =>
      rw [e, if_neg (by simp)] at h
      exact rest h
theorem filter_erase {p : Row → Bool} {r : Row} : ∀ {l : List Row} {i : Nat}, l[i]? = some r → p r = true → ((l.eraseIdx i).filter p).length + 1 = (l.filter p).length
  | [], i, h, _ => by simp at h
  | a :: l, 0, h, e => by
    cases h
    rw [List.eraseIdx_cons_zero, List.filter_cons_of_pos e, List.length_cons]
  | a :: l, i + 1, h, e => by
    have ih := filter_erase (l := l) (i := i) (by simpa using h) e
    rw [List.eraseIdx_cons_succ]
    cases ea : p a with
    | true =>
      rw [List.filter_cons_of_pos ea, List.filter_cons_of_pos ea, List.length_cons, List.length_cons]
      omega
    | false =>
      rw [List.filter_cons_of_neg (by rw [ea]; simp), List.filter_cons_of_neg (by rw [ea]; simp)]
      exact ih
theorem any_filter {p : Row → Bool} {l : List Row} : l.any p = decide (0 < (l.filter p).length) := by
  rw [Bool.eq_iff_iff, List.any_eq_true, decide_eq_true_eq, List.length_pos_iff_exists_mem]
  constructor
  · rintro ⟨r, h1, h2⟩
    exact ⟨r, List.mem_filter.mpr ⟨h1, h2⟩⟩
  · rintro ⟨r, h⟩
    obtain ⟨h1, h2⟩ := List.mem_filter.mp h
    exact ⟨r, h1, h2⟩
end LW
set_option Elab.async false
set_option linter.all false
set_option maxRecDepth 100000
set_option maxHeartbeats 0
/-! _law_put_caught -/
namespace LW
open PySem PySem.Spec PyProof.Rows L2 KV
def endPutC (K : PySem.W.Frag) (H : Hp) (Q : VK) (s b d l : Addr) (L : Str → Addr) (ts : List Tab) (R : Str → List Row) (S : List Stp) (x : Str) (row : Row) : Option (Str × PyData) → Prop
  | none => ∀ T H', H' T = some (.tup [.int ((R x).length : Nat), .non]) → StAt K H' s b d l L ts (setR R x (R x ++ [row])) (S ++ [((x, (((R x).length : Nat) : Int), none) : Stp)]) → Off (Mu ts L l) H H' → Q (.ref T) H'
  | some (y, e) => ∀ (T a d' : Addr) (u : V) (Fo : Fp) H', H' T = some (.tup [.non, .ref a]) → H' a = some (exk a (.ref (He.ga K y)) (some d')) → H' d' = some (.xd [("value", u)]) → Ow H' u e Fo → (∀ c, Fo c → H c = none) → Off (fun _ => False) H H' → Q (.ref T) H'
def spPutC (K : PySem.W.Frag) : Sp := fun vs H Q _ => ∃ (s b d l t : Addr) (L : Str → Addr) (ts : List Tab) (rs : List RB) (R : Str → List Row) (S : List Stp) (x : Str) (row : Row), vs = [.ref s, .str x, .ref t] ∧ StAt K H s b d l L ts R S ∧ Sep ts L l ∧ H t = some (.tup (row.map wV)) ∧
  BookOf K H b ts rs ∧ Bok ts rs ∧ Good ts rs R ∧ row.length ≤ 21 ∧ (∀ w ∈ row, Wok w) ∧ Gd 10 x ∧ S.length ≤ 3000 ∧ endPutC K H Q s b d l L ts R S x row (putDue ts rs R x row)
section
variable {P : Program} {w : World} {K : PySem.W.Frag} {mg : Str → Option Value} {base : Heap}
theorem scPutC : FnScope ["store", "title", "line", "found", "caught", "e"] ["store", "title", "line"] (defScope sPutCaught) := ⟨rfl, rfl, rfl, by decide +kernel, rfl, by decide +kernel, by decide +kernel⟩
theorem ok_putC {f fP : Addr} {fd dP : FuncData} (F : FnP K "_law_put_caught" sPutCaught f fd) (ST : StoreT K mg) (mP : L2.Meth K (He.ga K "Store") "put" fP) (GP : DnX P w K mg base 9 ["self", "table", "row"] (spPut K) fP dP) (gE : mg "KeyTellError" = some (.ref (He.ga K "KeyTellError")))
    (exm : ∀ y ∈ names.tail, PySem.W.exmOne K (.ref (He.ga K y)) (.ref (He.ga K "KeyTellError")) = some true) : FnOk P w K mg base CX0 10 f fd ["store", "title", "line"] (spPutC K) := by
  refine F.ok scPutC (fun vs H Q E h => ?_) (fun cdv A0 outer s0 H vs Q E hr h => ?_)
  · obtain ⟨s, b, d, l, t, L, ts, rs, R, S, x, row, rfl, _⟩ := h
    rfl
  obtain ⟨s, b, d, l, t, L, ts, rs, R, S, x, row, rfl, st, sp, et, bo, bk, g, lrow, wok, gx, lS, q⟩ := h
  refine ⟨_, PSs.nox (pss_cons (ps_asg (pe_tup (pa_cons pe_non (pa_cons pe_non pa_nil))) (pg_tup rfl (pgs_cons (pg_name (i := 3) scPutC.nd rfl (Or.inl rfl)) (pgs_cons (pg_name (i := 4) scPutC.nd rfl (Or.inl rfl)) pgs_nil))))
    (pss_cons (ps_try_keep (i := 5) rfl rfl scPutC.nd rfl rfl rfl ⟨rfl, by decide, .inl gE⟩ takes0 (fun W pn xe tk _ =>
        pss_one (ps_set (i := 3) scPutC.nd rfl (Or.inl rfl) (pe_methA (pv 0) ST.cl mP GP.g (hr.mono (by decide)) GP.b (fun σ => passAt tk σ) (pa_cons (pv 1) (pa_cons (pv 2) pa_nil)))))
      (fun a oe cls d pn hz hf => pss_one (ps_set (i := 4) scPutC.nd rfl (Or.inl rfl) (pv 5))))
    (pss_one (ps_ret (pe_tup (pa_cons (pv 3) (pa_cons (pv 4) pa_nil))))))), ?_⟩
  have no : ¬ False := id
  have l2 : 2 ≤ sizeLine := by decide
  refine ⟨l2, fun t0 n0 => ?_⟩
  have k0 : Off (fun _ => False) H (upd H t0 (.tup [.non, .non])) := Off.new n0
  refine ⟨t0, [.non, .non], rfl, SqT.of upd_same, rfl, .non, [.non], rfl, .non, [], rfl, rfl, ?_⟩
  generalize upd H t0 (.tup [.non, .non]) = H1 at k0 ⊢
  have st1 := st.off k0
  obtain ⟨dx, es⟩ := st1.ins
  have bb : BkB 8 8 6 8 12 20 ts rs := ⟨bk.tk.w, bk.ok, by decide, by decide, by decide, by decide, bk.len, by decide⟩
  refine ⟨_, rfl, s, dx, _, rfl, es, rfl, _, rfl, _, rfl, s, b, d, l, t, L, ts, rs, R, S, x, row, 8, 8, 6, 8, 12, 20, rfl, st1, sp, k0 _ _ et no, bo.off k0, bb, bk.ws, g.wide, by omega, lS, ?_⟩
  cases e : putDue ts rs R x row with
  | none =>
    rw [e] at q
    intro H2 st2 k2
    dsimp only [gName]
    refine ⟨_, rfl, _, rfl, l2, fun T nT => ?_⟩
    have kT : Off (fun _ => False) H2 (upd H2 T (.tup [.int ((R x).length : Nat), .non])) := Off.new nT
    exact q T _ upd_same (st2.off kT) fun a o ea na => kT _ _ (k2 _ _ (k0 a o ea no) na) no
  | some z =>
    obtain ⟨y, ee⟩ := z
    rw [e] at q
    obtain ⟨hy, b', ms', sz⟩ := putDue_sz e gx lrow wok (Nat.le_trans bk.len (by decide))
    intro u Fo d' H2 k2 nd ed ow fr
    refine ⟨true, exm y hy, fun _ a ha => ?_, fun z => nomatch z⟩
    refine ⟨_, rfl, ha, ?_⟩
    have ka : Off (fun _ => False) H2 (upd H2 a (exk a (.ref (He.ga K y)) (some d'))) := Off.new ha
    have ea := upd_same (H := H2) (a := a) (o := exk a (.ref (He.ga K y)) (some d'))
    generalize upd H2 a (exk a (.ref (He.ga K y)) (some d')) = H3 at ka ea ⊢
    refine ⟨_, rfl, _, rfl, l2, fun T nT => ?_⟩
    have kT : Off (fun _ => False) H3 (upd H3 T (.tup [.non, .ref a])) := Off.new nT
    have k3 := ka.trans kT
    exact q T a d' u Fo _ upd_same (kT _ _ ea no) (k3 _ _ ed no) (ow.keep k3 (fun _ z => z.elim) fun _ _ z => z) (fun c z => k0.none (fr c z) no) (k0.trans (k2.trans k3))
end
end LW
set_option Elab.async false
set_option linter.all false
set_option maxRecDepth 100000
set_option maxHeartbeats 0
/-! _law_clashes -/
namespace LW
open PySem PySem.Spec PyProof.Rows L2 KV
/-- pairs of the first titles and lists of rows stand in D -/
def NewR (K : PySem.W.Frag) (H6 : Hp) (D : Addr) (ts : List Tab) (R' : Str → List Row) (i : Nat) (G : Hp) : Prop := ∃ (ps : List Addr) (L2 : Str → Addr), G D = some (.lst (ps.map V.ref)) ∧ ps.length = i ∧ Paired (fun p kv => SqT K G p [kV kv.1, kv.2]) ps (dkv (ts.take i) L2) ∧
  ∀ u ∈ ts.take i, L2 u.1 ≠ D ∧ ∃ vs, G (L2 u.1) = some (.lst vs) ∧ OwAll H6 vs ((R' u.1).map rowD) Fp0
theorem newR_nil {K : PySem.W.Frag} {H6 H7 : Hp} {D : Addr} {ts : List Tab} {R' : Str → List Row} : NewR K H6 D ts R' 0 (upd H7 D (.lst [])) := ⟨[], fun _ => 0, upd_same, rfl, .nil, fun u hu => by simp at hu⟩
theorem newR_step {K : PySem.W.Frag} {F : Fp} {H6 G G2 : Hp} {D l T : Addr} {ts : List Tab} {R' : Str → List Row} {i : Nat} {u : Tab} {ws : List V} (h : NewR K H6 D ts R' i G) (k : Off F H6 G) (hD : H6 D = none) (hu : ts[i]? = some u) (nd : (ts.map Prod.fst).Nodup) (mts : ts.length ≤ 1000)
    (j1 : Off (fun _ => False) G G2) (el : G2 l = some (.lst ws)) (lD : l ≠ D) (ow : OwAll H6 ws ((R' u.1).map rowD) Fp0) (nT : G2 T = none) :
    ∃ acc, (upd G2 T (.tup [.str u.1, .ref l])) D = some (.lst acc) ∧ acc.length < sizeLine ∧ NewR K H6 D ts R' (i + 1) (upd (upd G2 T (.tup [.str u.1, .ref l])) D (.lst (acc ++ [.ref T]))) ∧
      Off F H6 (upd (upd G2 T (.tup [.str u.1, .ref l])) D (.lst (acc ++ [.ref T]))) ∧ ∀ b o, G b = some o → b ≠ D → (upd (upd G2 T (.tup [.str u.1, .ref l])) D (.lst (acc ++ [.ref T]))) b = some o := by
  have no : ¬ False := id
  obtain ⟨ps2, L2, g3, g4, g5, g6⟩ := h
  have hil := (List.getElem?_eq_some_iff.mp hu).1
  have nu : u.1 ∉ (ts.take i).map Prod.fst := fun z => by
    obtain ⟨w0, hw, ew⟩ := List.mem_map.mp z
    obtain ⟨j, hj⟩ := List.getElem?_of_mem hw
    have jl : j < i := by
      have := (List.getElem?_eq_some_iff.mp hj).1
      rw [List.length_take] at this
      omega
    rw [List.getElem?_take_of_lt jl] at hj
    have e1 : (ts.map Prod.fst)[j]? = some u.1 := by rw [List.getElem?_map, hj, ← ew]; rfl
    have e2 : (ts.map Prod.fst)[i]? = some u.1 := by rw [List.getElem?_map, hu]; rfl
    have hjl := (List.getElem?_eq_some_iff.mp e1).1
    have := (List.getElem?_inj hjl nd).mp (e1.trans e2.symm)
    omega
  have jT : Off (fun _ => False) G2 (upd G2 T (.tup [kV (.inr u.1), .ref l])) := Off.new nT
  have eT := upd_same (H := G2) (a := T) (o := .tup [kV (.inr u.1), .ref l])
  show ∃ acc, (upd G2 T (.tup [kV (.inr u.1), .ref l])) D = some (.lst acc) ∧ acc.length < sizeLine ∧ NewR K H6 D ts R' (i + 1) (upd (upd G2 T (.tup [kV (.inr u.1), .ref l])) D (.lst (acc ++ [.ref T]))) ∧ Off F H6 (upd (upd G2 T (.tup [kV (.inr u.1), .ref l])) D (.lst (acc ++ [.ref T]))) ∧
    ∀ b o, G b = some o → b ≠ D → (upd (upd G2 T (.tup [kV (.inr u.1), .ref l])) D (.lst (acc ++ [.ref T]))) b = some o
  generalize upd G2 T (.tup [kV (.inr u.1), .ref l]) = G3 at jT eT ⊢
  have j13 := j1.trans jT
  have gD := j13 _ _ g3 no
  have el3 := jT _ _ el no
  have jD : Off (fun a => a = D) G3 (upd G3 D (.lst (ps2.map V.ref ++ [.ref T]))) := Off.upd rfl
  have eD := upd_same (H := G3) (a := D) (o := .lst (ps2.map V.ref ++ [.ref T]))
  refine ⟨ps2.map V.ref, gD, ?_, ?_⟩
  · rw [List.length_map]
    exact small4000 (by omega)
  generalize upd G3 D (.lst (ps2.map V.ref ++ [.ref T])) = G4 at jD eD ⊢
  refine ⟨⟨ps2 ++ [T], fun y => if y = u.1 then l else L2 y, ?_, ?_, ?_, ?_⟩, fun a o ea na => ?_, fun b o eb nb => jD _ _ (j13 _ _ eb no) nb⟩
  · rw [eD, List.map_append]
    rfl
  · rw [List.length_append, g4]
    rfl
  · rw [take_snoc hu, dkv_new nu]
    exact paired_app (F := fun (p : Addr) (kv : Key × V) => SqT K G4 p [kV kv.1, kv.2]) (sqT_lst jD gD (SqT.of eT)) (Paired.mapP (F := fun p kv => SqT K G p [kV kv.1, kv.2]) g5 fun _ _ h => sqT_lst jD gD (sqT_off j13 h))
  · intro w0 hw
    rw [take_snoc hu] at hw
    rcases List.mem_append.mp hw with hw | hw
    · have ne : w0.1 ≠ u.1 := fun z => nu (z ▸ List.mem_map.mpr ⟨w0, hw, rfl⟩)
      dsimp only
      rw [if_neg ne]
      obtain ⟨h1, vs, h2, h3⟩ := g6 w0 hw
      exact ⟨h1, vs, jD _ _ (j13 _ _ h2 no) h1, h3⟩
    · rw [List.mem_singleton.mp hw]
      dsimp only
      rw [if_pos rfl]
      exact ⟨lD, ws, jD _ _ el3 lD, ow⟩
  · refine jD _ _ (j13 _ _ (k a o ea na) no) fun z => ?_
    rw [z, hD] at ea
    cases ea
theorem newR_thaw {K : PySem.W.Frag} {H6 G : Hp} {D td : Addr} {od : Obj} {kvs : List (Key × V)} {ts : List Tab} {R' : Str → List Row} {i : Nat} (h : NewR K H6 D ts R' i G) (k : Off (fun a => a = td) H6 G) (g1 : G td = some (.frz od (.dK kvs))) (etd : H6 td = some (.dK kvs)) : NewR K H6 D ts R' i (upd G td (.dK kvs)) ∧ Off (fun _ => False) H6 (upd G td (.dK kvs)) := by
  obtain ⟨ps2, L2, g3, g4, g5, g6⟩ := h
  have kF : Off (fun a => a = td) G (upd G td (.dK kvs)) := Off.upd rfl
  have ntG : ∀ {a : Addr} {xs : List V}, G a = some (.lst xs) → a ≠ td := fun h z => by rw [z, g1] at h; cases h
  refine ⟨⟨ps2, L2, kF _ _ g3 (ntG g3), g4, Paired.mapP g5 fun p kv h => ?_, fun u hu => ?_⟩, fun a o ea _ => ?_⟩
  · rcases h with (h | ⟨o, h⟩) | h
    · exact .inl (.inl (kF _ _ h fun z => by rw [z, g1] at h; cases h))
    · exact .inl (.inr ⟨o, kF _ _ h fun z => by rw [z, g1] at h; cases h⟩)
    · exact .inr h
  · obtain ⟨h0, vs, h1, h2⟩ := g6 u hu
    exact ⟨h0, vs, kF _ _ h1 (ntG h1), h2⟩
  · by_cases z : a = td
    · rw [z] at ea ⊢
      rw [upd_same, ← ea, etd]
    · exact kF _ _ (k a o ea z) z
theorem newR_dict {K : PySem.W.Frag} {H6 G1 : Hp} {D : Addr} {ts : List Tab} {R' : Str → List Row} (h : NewR K H6 D ts R' ts.length G1) (nd : (ts.map Prod.fst).Nodup) (k : Off (fun _ => False) H6 G1) :
    ∃ (ps : List Addr) (L2 : Str → Addr), SqL K G1 D (ps.map V.ref) ∧ Paired (fun p kv => SqT K G1 p [kV kv.1, kv.2]) ps (dkv ts L2) ∧ ∀ m, G1 m = none → Off (fun _ => False) G1 (upd G1 m (.dK (mergeK [] (dkv ts L2)))) ∧ LinA (upd G1 m (.dK (mergeK [] (dkv ts L2)))) m L2 ts R' := by
  obtain ⟨ps2, L2, g3, g4, g5, g6⟩ := h
  rw [List.take_length] at g5 g6
  refine ⟨ps2, L2, SqL.of g3, g5, fun m nm => ?_⟩
  rw [merge_dkv nd]
  have jp : Off (fun _ => False) G1 (upd G1 m (.dK (dkv ts L2))) := Off.new nm
  refine ⟨jp, upd_same, fun u hu => ?_⟩
  obtain ⟨_, vs, h1, h2⟩ := g6 u hu
  exact ⟨vs, jp _ _ h1 id, h2.keep (k.trans jp) (fun _ z => z.elim) fun _ z => z.elim⟩
theorem good_alone {ts : List Tab} {rs : List RB} {R : Str → List Row} {x : Str} {r : Row} (g : Good ts rs R) (h : r ∈ R x) : Good ts rs (aloneR x r) := by
  refine g.sub fun t ht => ?_
  by_cases e : t.1 = x
  · rw [e, aloneR_same]
    exact List.singleton_sublist.mpr h
  · rw [aloneR_ne e]
    exact List.nil_sublist _
def spClash (K : PySem.W.Frag) : Sp := fun vs H Q _ => ∃ (pl m t : Addr) (L : Str → Addr) (ts : List Tab) (rs : List RB) (R : Str → List Row) (u : Tab) (row : Row), vs = [.ref pl, .ref m, .str u.1, .ref t] ∧ Bok ts rs ∧ Plan K H pl ts rs ∧ LinA H m L ts R ∧ (∀ td v, H pl = some (.tup [.ref td, v]) → m ≠ td) ∧ u ∈ ts ∧
  H t = some (.tup (row.map wV)) ∧ row.length = u.2.length ∧ (∀ w ∈ row, Wok w) ∧ Good ts rs R ∧ ∀ D H', H D = none → H' D = some (.lst ((spots (against ts rs u.1 row) 0 (R u.1)).map fun i => V.int ((i : Nat) : Int))) → Off (fun _ => False) H H' → Q (.ref D) H'
section
variable {P : Program} {w : World} {K : PySem.W.Frag} {mg : Str → Option Value} {base : Heap}
abbrev clN : List Str := ["plan", "lines", "title", "line", "found", "spot", "held", "alone", "word"]
theorem scClash : FnScope clN ["plan", "lines", "title", "line"] (defScope sClashes) := ⟨rfl, rfl, rfl, by decide +kernel, rfl, by decide +kernel, by decide +kernel⟩
theorem ok_clash {f fD : Addr} {fd dD : FuncData} (F : FnP K "_law_clashes" sClashes f fd) (PD : DnC P w K mg base 2 "_law_put_due" ["plan", "lines", "title", "line"] (spPutDue K) fD dD) (me : mg "enumerate" = none) (md : mg "dict" = none) : FnC P w K mg base CX0 3 f fd ["plan", "lines", "title", "line"] (spClash K) := by
  refine Fun.okC F scClash (fun vs H Q E h => ?_) (fun cdv A0 outer s0 H vs Q E hG hr h => ?_)
  · obtain ⟨pl, m, t, L, ts, rs, R, u, row, rfl, _⟩ := h
    rfl
  obtain ⟨pl, m, t, L, ts, rs, R, u, row, rfl, bk, pn, li, hmt, mu, et, lrow, wok, g, q⟩ := h
  have hu1 := Nat.lt_of_le_of_lt (Nat.add_le_add_left (show 1 ≤ 64 by decide) _) hr.units
  refine ⟨_, PSs.nox (pss_cons (ps_set (i := 4) scClash.nd rfl (Or.inl rfl) (pe_lst pa_nil))
    (pss_cons (ps_for PassesOwn.never rfl (pi_enum rfl me (pa_cons (pe_dget hu1 (pv 1) (pv 2) (fun _ _ => rfl)) pa_nil)) (pg_tup rfl (pgs_cons (pg_name (i := 5) scClash.nd rfl (Or.inl rfl)) (pgs_cons (pg_name (i := 6) scClash.nd rfl (Or.inr rfl)) pgs_nil)))
      (pss_cons (ps_set (i := 7) scClash.nd rfl (Or.inl rfl) (pe_callTy (call_dictP rfl) rfl md (by decide +kernel) (pa_cons (pe_lock (pe_lc (own := [("word", 8)]) (g := gName 8) (tt := tYes) rfl scClash.nd (pi_keys (pe_ix ix_tup (pv 0) pe_int (fun _ _ => rfl)))
          (blkOk_by (own := [("word", 8)]) (N := clN) (sc := defScope sClashes) (by decide +kernel)) (fun _ _ _ _ _ => pg_name (i := 8) scClash.nd rfl (Or.inl rfl)) (fun _ _ _ _ _ => pts_nil)
          (fun _ _ _ _ _ => pe_tup (pa_cons (pv 8) (pa_cons (pe_ifExp (pt_cmpR op_eq (pv 8) (pv 2) (nomark _)) (pe_lst (pa_cons (pv 6) pa_nil)) (pe_lst pa_nil)) pa_nil))))) pa_nil)))
      (pss_one (ps_if (pt_cmpR op_notN (pe_callC hG PD.g hr rfl PD.m PD.kp PD.b pass0 (pa_cons (pv 0) (pa_cons (pv 7) (pa_cons (pv 2) (pa_cons (pv 3) pa_nil))))) pe_non (nomark _))
        (pss_one (ps_expr (pe_bm PySem.F.plainAttrs_list PySem.F.slot_list_append PySem.F.type_list_append mt_append (pv 4) (pa_cons (pv 5) pa_nil)))) pss_nil))))
    (pss_one (ps_ret (pv 4))))), ?_⟩
  have no : ¬ False := id
  have s0' : 0 ≤ sizeLine := by decide
  have s1' : 1 ≤ sizeLine := by decide
  have l2 : 2 ≤ sizeLine := by decide
  have tnd := bk.tk.nd
  have mts := bk.tk.most
  have hx : u.1 ∈ ts.map Prod.fst := List.mem_map.mpr ⟨u, mu, rfl⟩
  obtain ⟨td, v0, kvs, epl, etd, tkv, drv⟩ := pn.ex
  have lkv := titK_len tkv
  have hm := hmt _ _ epl
  obtain ⟨vs, ev, ov⟩ := li.rows u mu
  have lvs : vs.length = (R u.1).length := by rw [ov.length, List.length_map]
  have few := g.few u mu
  have dg0 := DGet.k (k := .inr u.1) li.dic
  rw [valV_dkv, if_pos hx] at dg0
  refine ⟨s0', fun fo nfo => ?_⟩
  have k0 : Off (fun _ => False) H (upd H fo (.lst [])) := Off.new nfo
  have efo := upd_same (H := H) (a := fo) (o := .lst [])
  generalize upd H fo (.lst []) = H0 at k0 efo ⊢
  have dg : DGet H0 m (.str u.1) (some (.ref (L u.1))) := by
    have := DGet.k (k := .inr u.1) (k0 _ _ li.dic no)
    rwa [valV_dkv, if_pos hx] at this
  have lts : ts.length ≤ 1000 := by omega
  have tndc : TabsNd ts := fun t ht => ⟨(bk.tk.each t ht).nd, Nat.le_trans (bk.tk.each t ht).most (by decide)⟩
  have lcol := (bk.tk.each u mu).most
  dsimp only [gName]
  refine ⟨_, rfl, _, rfl, m, _, rfl, dg, L u.1, vs, rfl, SqL.of (k0 _ _ ev no), for_enum (K := K) (a := L u.1) (xs := vs) (fun i σ G => (∃ (w5 w6 w7 : Option V), σ = [some (.ref pl), some (.ref m), some (.str u.1), some (.ref t), some (.ref fo), w5, w6, w7, none]) ∧ G fo = some (.lst ((spots (against ts rs u.1 row) 0 ((R u.1).take i)).map fun i => V.int ((i : Nat) : Int))) ∧ Off (fun _ => False) H G)
    ⟨⟨none, none, none, rfl⟩, efo, k0⟩ (fun i σ G _ g => SqL.of (g.2.2 _ _ ev no)) (fun i y0 σ G TT hy g hTT => ?_) fun σ G g => ?_⟩
  · obtain ⟨⟨w5, w6, w7, rfl⟩, e1, k1⟩ := g
    have hil : i < (R u.1).length := by
      have := (List.getElem?_eq_some_iff.mp hy).1
      omega
    have hr' : (R u.1)[i]? = some (R u.1)[i] := List.getElem?_eq_getElem hil
    generalize (R u.1)[i] = r at hr'
    obtain ⟨y', ey, oy⟩ := owAll_get (i := i) (d := rowD r) ov (by rw [List.getElem?_map, hr']; rfl)
    rw [hy] at ey
    cases ey
    have kTT : Off (fun _ => False) G (upd G TT (.tup [.int ((i : Nat) : Int), y0])) := Off.new hTT
    have eTT := upd_same (H := G) (a := TT) (o := .tup [.int ((i : Nat) : Int), y0])
    have e1' := kTT _ _ e1 no
    generalize upd G TT (.tup [.int ((i : Nat) : Int), y0]) = H1 at kTT eTT e1' ⊢
    have k01 := k1.trans kTT
    refine ⟨TT, [.int ((i : Nat) : Int), y0], rfl, SqT.of eTT, rfl, .int ((i : Nat) : Int), [y0], rfl, y0, [], rfl, rfl, ?_⟩
    dsimp only [gName]
    have etd1 := k01 _ _ etd no
    have epl1 := k01 _ _ epl no
    have tk1 := titK_off k01 tkv
    refine ⟨td, .dK kvs, etd1, trivial, fun od => ?_⟩
    have kd : Off (fun a => a = td) H1 (upd H1 td (.frz od (.dK kvs))) := Off.upd rfl
    have ed := upd_same (H := H1) (a := td) (o := .frz od (.dK kvs))
    have nH7 : ∀ a, upd H1 td (.frz od (.dK kvs)) a = none → a ≠ td ∧ H1 a = none := fun a z => by
      by_cases y : a = td
      · rw [y, upd_same] at z
        cases z
      · rw [upd_ne y] at z
        exact ⟨y, z⟩
    generalize upd H1 td (.frz od (.dK kvs)) = H7 at kd ed nH7 ⊢
    have npl : pl ≠ td := fun z => by
      rw [z, etd1] at epl1
      cases epl1
    have epl7 := kd _ _ epl1 npl
    refine ⟨_, rfl, pl, _, 0, .ref td, rfl, rfl, SqT.of epl7, atI_nat (j := 0) rfl, td, od, rfl, .inl ⟨kvs, ed, fun D hD => lc_it walk_keys (fun i G => G td = some (.frz od (.dK kvs)) ∧ Off (fun a => a = td) H1 G ∧ NewR K H1 D ts (aloneR u.1 r) i G)
      ⟨?_, ?_, newR_nil⟩ (fun i G _ g => g.1) (fun i y1 G G' hi g yy => ?_) fun G g => ?_⟩⟩
    · rw [upd_ne (nH7 D hD).1.symm]
      exact ed
    · exact kd.trans (Off.in (Off.new hD))
    · obtain ⟨g1, g2, g3⟩ := g
      obtain ⟨rfl, k, v', ek, rfl⟩ := yy
      obtain ⟨u2, hu', rfl⟩ := titK_key tk1 ek
      refine ⟨rfl, ?_⟩
      refine iteT (B := True) ?_
      refine iteT ?_
      have fin : ∀ (G2 : Hp) (l T : Addr) (ws : List V), Off (fun _ => False) G' G2 → G2 l = some (.lst ws) → l ≠ D → OwAll H1 ws ((aloneR u.1 r u2.1).map rowD) Fp0 → G2 T = none →
          ∃ acc, (upd G2 T (.tup [.str u2.1, .ref l])) D = some (.lst acc) ∧ acc.length < sizeLine ∧ upd (upd G2 T (.tup [.str u2.1, .ref l])) D (.lst (acc ++ [.ref T])) td = some (.frz od (.dK kvs)) ∧
            Off (fun a => a = td) H1 (upd (upd G2 T (.tup [.str u2.1, .ref l])) D (.lst (acc ++ [.ref T]))) ∧ NewR K H1 D ts (aloneR u.1 r) (i + 1) (upd (upd G2 T (.tup [.str u2.1, .ref l])) D (.lst (acc ++ [.ref T]))) := fun G2 l T ws j1 el lD ow nT => by
        obtain ⟨acc, h1, h2, h3, h4, h5⟩ := newR_step g3 g2 (nH7 D hD).2 hu' tnd (by omega) j1 el lD ow nT
        exact ⟨acc, h1, h2, h5 _ _ g1 (nH7 D hD).1.symm, h4, h3⟩
      have gD : ∃ xs, G' D = some (.lst xs) := by
        obtain ⟨_, _, e, _⟩ := g3
        exact ⟨_, e⟩
      obtain ⟨xsD, gD⟩ := gD
      refine ⟨_, rfl, _, rfl, _, rfl, rfl, _, rfl, ite2 (fun c => ?_) (fun c => ?_)⟩
      · have ec : u2.1 = u.1 := by
          have := of_decide_eq_true c
          injection this
        refine ⟨_, rfl, s1', fun l nl => ⟨l2, fun T nT => ?_⟩⟩
        have j1 : Off (fun _ => False) G' (upd G' l (.lst [y0])) := Off.new nl
        refine fin _ l T [y0] j1 upd_same (fun z => by rw [z, gD] at nl; cases nl) ?_ nT
        rw [ec, aloneR_same]
        exact owAll_0cons (oy.keep k01 (fun _ z => z.elim) fun _ z => z.elim) (.nil fun _ z => z)
      · have ec : u2.1 ≠ u.1 := fun z => by
          have := of_decide_eq_false (Bool.eq_false_iff.mpr c)
          exact this (congrArg (fun a => V.str a) z)
        refine ⟨s0', fun l nl => ⟨l2, fun T nT => ?_⟩⟩
        have j1 : Off (fun _ => False) G' (upd G' l (.lst [])) := Off.new nl
        refine fin _ l T [] j1 upd_same (fun z => by rw [z, gD] at nl; cases nl) ?_ nT
        rw [aloneR_ne ec]
        exact .nil fun _ z => z
    obtain ⟨g1, g2, g3⟩ := g
    rw [lkv] at g3
    refine ⟨g1, ?_⟩
    obtain ⟨g4, kT⟩ := newR_thaw g3 g2 g1 etd1
    generalize upd G td (.dK kvs) = G1 at g4 kT ⊢
    obtain ⟨ps2, L', sq2, pr2, fin⟩ := newR_dict g4 tnd kT
    refine ⟨D, ps2, dkv ts L', rfl, sq2, pr2, fun m2 nm => ?_⟩
    obtain ⟨k2, lin0⟩ := fin m2 nm
    clear fin sq2 pr2
    generalize upd G1 m2 (.dK (mergeK [] (dkv ts L'))) = G2 at k2 lin0 ⊢
    dsimp only [gName]
    have k12 := kT.trans k2
    have k02 := k01.trans k12
    have rkO : ∀ r ∈ rs, RbOk 8 12 r := bk.ok
    have ga := good_alone (ts := ts) (rs := rs) (x := u.1) g (List.mem_of_getElem? hr')
    have drule := due_rule (rs := rs) (R := aloneR u.1 r) tnd mu lrow
    rw [aloneR_same, List.any_cons, List.any_nil, Bool.or_false] at drule
    have fin : ∀ (c : Bool) (σ' : L2.St) (G3 : Hp), against ts rs u.1 row r = c → Off (fun _ => False) H G3 → G3 fo = some (.lst (((spots (against ts rs u.1 row) 0 ((R u.1).take i)).map fun i => V.int ((i : Nat) : Int)) ++ if c then [.int ((i : Nat) : Int)] else [])) →
        G3 fo = some (.lst ((spots (against ts rs u.1 row) 0 ((R u.1).take (i + 1))).map fun i => V.int ((i : Nat) : Int))) := fun c σ' G3 ec _ e => by
      rw [e, take_snoc hr', spots_snoc, List.map_append, ec, List.length_take, Nat.min_eq_left (Nat.le_of_lt hil), Nat.zero_add]
      cases c <;> rfl
    refine ⟨_, rfl, _, rfl, _, rfl, _, rfl, pl, m2, t, u.1, L', ts, rs, aloneR u.1 r, row, 8, 12, rfl, pn.off k02, rkO, by decide, Nat.le_trans bk.len (by decide), lts, tnd, bk.ws, lin0, fun td' v' z => ?_, k02 _ _ et no, by omega, wok, ga.rows, fun t ht => Nat.le_trans (ga.few t ht) (by decide), tndc, ga.br, ?_⟩
    · have e4 := k02 _ _ epl no
      rw [e4] at z
      cases z
      intro y
      rw [y] at nm
      rw [kT _ _ etd1 no] at nm
      cases nm
    cases e : putDue ts rs (aloneR u.1 r) u.1 row with
    | none =>
      rw [e] at drule
      intro H5 k5
      refine ⟨rfl, _, rfl, ?_⟩
      rw [decide_eq_true (show V.non = V.non from rfl)]
      refine iteF ?_
      have k05 := k02.trans k5
      exact ⟨⟨_, _, _, rfl⟩, fin false [] H5 drule.symm k05 (by rw [if_neg (by simp), List.append_nil]; exact k5 _ _ (k12 _ _ e1' no) no), k05⟩
    | some z =>
      obtain ⟨y1, ee⟩ := z
      rw [e] at drule
      intro T v H5 eT _ k5
      refine ⟨rfl, _, rfl, ?_⟩
      rw [decide_eq_false (show V.ref T ≠ V.non from fun z => by cases z)]
      refine iteT ?_
      have k05 := k02.trans k5
      have efo5 := k5 _ _ (k12 _ _ e1' no) no
      have few5 : ((spots (against ts rs u.1 row) 0 ((R u.1).take i)).map fun i => V.int ((i : Nat) : Int)).length ≤ 8 := by
        rw [List.length_map, spots_len]
        exact Nat.le_trans (List.length_filter_le _ _) (by rw [List.length_take]; omega)
      refine ⟨_, rfl, .inl ⟨rfl, _, SqL.of efo5⟩, _, rfl, fo, _, .int ((i : Nat) : Int), rfl, rfl, efo5, small4000 (by omega), ⟨_, _, _, rfl⟩, ?_⟩
      have kf : Off (fun _ => False) H (upd H5 fo (.lst (((spots (against ts rs u.1 row) 0 ((R u.1).take i)).map fun i => V.int ((i : Nat) : Int)) ++ [.int ((i : Nat) : Int)]))) := fun a o ea _ => by
        rw [upd_ne fun z => by rw [z, nfo] at ea; cases ea]
        exact k05 _ _ ea no
      exact ⟨fin true [] _ drule.symm kf upd_same, kf⟩
  · obtain ⟨⟨w5, w6, w7, rfl⟩, e1, k1⟩ := g
    rw [lvs, List.take_length] at e1
    exact ⟨_, rfl, q fo G nfo e1 k1⟩
end
end LW
set_option Elab.async false
set_option linter.all false
set_option maxRecDepth 100000
set_option maxHeartbeats 0
/-! _law_let_in -/
namespace LW
open PySem PySem.Spec PyProof.Rows L2 KV
def spLetIn (K : PySem.W.Frag) : Sp := fun vs H Q _ => ∃ (p st pl t : Addr) (C : Hp) (A : Ad) (ts : List Tab) (rs : List RB) (R : Str → List Row) (S : List Stp) (u : Tab) (row : Row) (c : Nat), vs = [.ref p, .ref st, .ref pl, .str u.1, .ref t] ∧ Pu H p c ∧ c + 200 ≤ 1000000000 ∧ Bok ts rs ∧ Base K C H p pl A ts rs ∧ Twin K H st A ts R S ∧ Hist ts rs R S ∧ S.length ≤ 2000 ∧
  u ∈ ts ∧ H t = some (.tup (row.map wV)) ∧ row.length = u.2.length ∧ (∀ w ∈ row, Wok w) ∧
  ∀ R' S' H' c', Twin K H' st A ts R' S' → Hist ts rs R' S' → S'.length ≤ S.length + 9 → Pu H' p c' → c' ≤ c + 70 → Off (fun a => a = p ∨ A.mu ts a) H H' → Q (.bl true) H'
section
variable {P : Program} {w : World} {K : PySem.W.Frag} {mg : Str → Option Value} {base : Heap}
abbrev liN : List Str := ["purse", "state", "plan", "title", "line", "store", "lines", "steps_here", "first", "clashes", "turn", "due", "spots", "spot", "held", "found", "caught"]
theorem scLetIn : FnScope liN ["purse", "state", "plan", "title", "line"] (defScope sLetIn) := ⟨rfl, rfl, rfl, by decide +kernel, rfl, by decide +kernel, by decide +kernel⟩
theorem ok_letIn {f fC fD fL fE fT fP fU : Addr} {fd dC dD' dL dE dT dP dU : FuncData} (F : FnP K "_law_let_in" sLetIn f fd) (ST : StoreT K mg) (C : Dn P w K mg base 1 "_law_coin" ["purse", "many"] spCoin fC dC)
    (PD : DnC P w K mg base 2 "_law_put_due" ["plan", "lines", "title", "line"] (spPutDue K) fD dD') (CL : DnC P w K mg base 3 "_law_clashes" ["plan", "lines", "title", "line"] (spClash K) fL dL) (E' : DnC P w K mg base 8 "_law_error_right" ["caught", "due"] (spErrR K) fE dE)
    (mT : L2.Meth K (He.ga K "Store") "take" fT) (GT : DnX P w K mg base 5 ["self", "table", "index"] (spTake K) fT dT) (PC : Dn P w K mg base 10 "_law_put_caught" ["store", "title", "line"] (spPutC K) fP dP) (UN : DnC P w K mg base 9 "_law_undo_right" ["state"] (spUndoR K) fU dU)
    (ml : mg "len" = none) (mr : mg "range" = none) (mp : mg "repr" = none) (ms : mg "str" = none) : FnC P w K mg base CX0 11 f fd ["purse", "state", "plan", "title", "line"] (spLetIn K) := by
  refine Fun.okC F scLetIn (fun vs H Q E h => ?_) (fun cdv A0 outer s0 H vs Q E hG hr h => ?_)
  · obtain ⟨p, st, pl, t, C0, A, ts, rs, R, S, u, row, c, rfl, _⟩ := h
    rfl
  obtain ⟨p, st, pl, t, C0, A, ts, rs, R, S, u, row, c, rfl, hp, hc, bk, bs, tw, hi, lS, mu, et, lrow, wok, q⟩ := h
  have hu : (A0.deeper (envOfC "_law_let_in" (defScope sLetIn) s0.heap.objs.size f cdv)).units + 64 < cLine := hr.units
  have hu1 := Nat.lt_of_le_of_lt (Nat.add_le_add_left (show 1 ≤ 64 by decide) _) hr.units
  refine ⟨_, PSs.nox (pss_cons (ps_asg (pv 1) (pg_tup rfl (pgs_cons (pg_name (i := 5) scLetIn.nd rfl (Or.inl rfl)) (pgs_cons (pg_name (i := 6) scLetIn.nd rfl (Or.inl rfl)) (pgs_cons (pg_name (i := 7) scLetIn.nd rfl (Or.inl rfl)) pgs_nil)))))
    (pss_cons (ps_set (i := 8) scLetIn.nd rfl (Or.inl rfl) (pe_callC hG PD.g (hr.mono (by decide)) rfl PD.m PD.kp PD.b pass0 (pa_cons (pv 2) (pa_cons (pv 6) (pa_cons (pv 3) (pa_cons (pv 4) pa_nil))))))
    (pss_cons (ps_set (i := 9) scLetIn.nd rfl (Or.inl rfl) (pe_callC hG CL.g (hr.mono (by decide)) rfl CL.m CL.kp CL.b pass0 (pa_cons (pv 2) (pa_cons (pv 6) (pa_cons (pv 3) (pa_cons (pv 4) pa_nil))))))
    (pss_cons (ps_for PassesOwn.never rfl (pi_range1 rfl mr (pa_cons (pe_callB call_len_seq rfl ml boot_len (pa_cons (pv 9) pa_nil)) pa_nil)) (pg_name (i := 10) scLetIn.nd rfl (Or.inl rfl))
      (pss_cons (ps_set (i := 11) scLetIn.nd rfl (Or.inl rfl) (pe_callC hG PD.g (hr.mono (by decide)) rfl PD.m PD.kp PD.b pass0 (pa_cons (pv 2) (pa_cons (pv 6) (pa_cons (pv 3) (pa_cons (pv 4) pa_nil))))))
      (pss_cons (ps_if (PW.pt (pw_or (pt_cmpR op_isN (pv 11) pe_non (nomark _)) (pw_or1 (pt_not (pt_val (pe_callC hG E'.g (hr.mono (by decide)) rfl E'.m E'.kp E'.b pass0 (pa_cons (pe_ix ix_tup (pe_call PC.g (hr.mono (by decide)) rfl PC.m PC.kp PC.b .nil pass0 (pa_cons (pv 5) (pa_cons (pv 3) (pa_cons (pv 4) pa_nil)))) pe_int (fun _ _ => rfl)) (pa_cons (pv 11) pa_nil)))))))) (pss_one (ps_ret pe_bl)) pss_nil)
      (pss_cons (ps_set (i := 12) scLetIn.nd rfl (Or.inl rfl) (pe_callC hG CL.g (hr.mono (by decide)) rfl CL.m CL.kp CL.b pass0 (pa_cons (pv 2) (pa_cons (pv 6) (pa_cons (pv 3) (pa_cons (pv 4) pa_nil))))))
      (pss_cons (ps_set (i := 13) scLetIn.nd rfl (Or.inl rfl) (pe_ix ix_list (pv 12) (pe_call C.g (hr.mono (by decide)) rfl C.m C.kp C.b .nil pass0 (pa_cons (pv 0) (pa_cons (pe_callB call_len_seq rfl ml boot_len (pa_cons (pv 12) pa_nil)) pa_nil))) (fun _ _ => rfl)))
      (pss_cons (ps_set (i := 14) scLetIn.nd rfl (Or.inl rfl) (pe_bm PySem.F.plainAttrs_list PySem.F.slot_list_pop PySem.F.type_list_pop mt_popAt (pe_dget hu1 (pv 6) (pv 3) (fun _ _ => rfl)) (pa_cons (pv 13) pa_nil)))
      (pss_cons (ps_expr (pe_bm PySem.F.plainAttrs_list PySem.F.slot_list_append PySem.F.type_list_append mt_append (pv 7) (pa_cons (pe_tup (pa_cons (pv 3) (pa_cons (pv 13) (pa_cons (pv 14) pa_nil)))) pa_nil)))
      (pss_one (ps_if (pt_cmpR op_ne (pe_callB (call_repD hG hu) rfl mp boot_repr (pa_cons (pe_meth (pv 5) ST.cl mT GT.g (hr.mono (by decide)) GT.b .nil passN (pa_cons (pv 3) (pa_cons (pv 13) pa_nil))) pa_nil)) (pe_callB (call_repD hG hu) rfl mp boot_repr (pa_cons (pv 14) pa_nil)) (nomark _)) (pss_one (ps_ret pe_bl)) pss_nil)))))))))
    (pss_cons (ps_if (pt_cmpR op_gt (pe_callB call_len_seq rfl ml boot_len (pa_cons (pe_dget hu1 (pv 6) (pv 3) (fun _ _ => rfl)) pa_nil)) pe_int (nomark _)) (pss_one (ps_ret pe_bl)) pss_nil)
    (pss_cons (ps_asg (pe_call PC.g (hr.mono (by decide)) rfl PC.m PC.kp PC.b .nil pass0 (pa_cons (pv 5) (pa_cons (pv 3) (pa_cons (pv 4) pa_nil)))) (pg_tup rfl (pgs_cons (pg_name (i := 15) scLetIn.nd rfl (Or.inl rfl)) (pgs_cons (pg_name (i := 16) scLetIn.nd rfl (Or.inl rfl)) pgs_nil))))
    (pss_cons (ps_if (PW.pt (pw_or (pt_cmpR op_notN (pv 16) pe_non (nomark _)) (pw_or1 (pt_cmpR op_ne (pe_callB SkE.call_repr_int rfl mp boot_repr (pa_cons (pv 15) pa_nil))
      (pe_callTy call_str_int rfl ms (by decide +kernel) (pa_cons (pe_callB call_len_seq rfl ml boot_len (pa_cons (pe_dget hu1 (pv 6) (pv 3) (fun _ _ => rfl)) pa_nil)) pa_nil)) (nomark _))))) (pss_one (ps_ret pe_bl)) pss_nil)
    (pss_cons (ps_expr (pe_bm PySem.F.plainAttrs_list PySem.F.slot_list_append PySem.F.type_list_append mt_append (pv 7) (pa_cons (pe_tup (pa_cons (pv 3) (pa_cons (pe_callB call_len_seq rfl ml boot_len (pa_cons (pe_dget hu1 (pv 6) (pv 3) (fun _ _ => rfl)) pa_nil)) (pa_cons pe_non pa_nil)))) pa_nil)))
    (pss_cons (ps_expr (pe_bm PySem.F.plainAttrs_list PySem.F.slot_list_append PySem.F.type_list_append mt_append (pe_dget hu1 (pv 6) (pv 3) (fun _ _ => rfl)) (pa_cons (pv 4) pa_nil)))
    (pss_cons (ps_if (pt_cmpR op_eq (pe_call C.g (hr.mono (by decide)) rfl C.m C.kp C.b .nil pass0 (pa_cons (pv 0) (pa_cons pe_int pa_nil))) pe_int (nomark _)) (pss_one (ps_ret pe_bl)) pss_nil)
    (pss_cons (ps_for PassesOwn.never rfl (pi_range1 rfl mr (pa_cons (pe_op op_add (pe_callB call_len_seq rfl ml boot_len (pa_cons (pv 9) pa_nil)) pe_int) pa_nil)) (pg_name (i := 10) scLetIn.nd rfl (Or.inl rfl))
      (pss_one (ps_if (pt_not (pt_val (pe_callC hG UN.g (hr.mono (by decide)) rfl UN.m UN.kp UN.b pass0 (pa_cons (pv 1) pa_nil)))) (pss_one (ps_ret pe_bl)) pss_nil)))
    (pss_one (ps_ret (pe_or (pe_cmpR op_isN (pv 8) pe_non (nomark _)) (pe_one (pe_callC hG E'.g (hr.mono (by decide)) rfl E'.m E'.kp E'.b pass0 (pa_cons (pe_ix ix_tup (pe_call PC.g (hr.mono (by decide)) rfl PC.m PC.kp PC.b .nil pass0 (pa_cons (pv 5) (pa_cons (pv 3) (pa_cons (pv 4) pa_nil)))) pe_int (fun _ _ => rfl)) (pa_cons (pv 8) pa_nil)))))))))))))))))), ?_⟩
  have no : ¬ False := id
  have l2 : 2 ≤ sizeLine := by decide
  have l3 : 3 ≤ sizeLine := by decide
  obtain ⟨pxs, ep⟩ := id hp.lst
  have Fl : ∀ a, (a = p ∨ A.mu ts a) → ∃ xs, H a = some (.lst xs) := fun a z => z.elim (fun z => ⟨pxs, z ▸ ep⟩) (tw.lst a)
  have nt : ¬ (t = p ∨ A.mu ts t) := fun z => by
    obtain ⟨xs, e⟩ := Fl _ z
    rw [et] at e
    cases e
  have nN : ∀ {a : Addr}, H a = none → ¬ (a = p ∨ A.mu ts a) := fun {a} n z => by
    obtain ⟨xs, e⟩ := Fl _ z
    rw [n] at e
    cases e
  have hx : u.1 ∈ ts.map Prod.fst := List.mem_map.mpr ⟨u, mu, rfl⟩
  have tnd := bk.tk.nd
  have rkO : ∀ r ∈ rs, RbOk 8 12 r := bk.ok
  have lts : ts.length ≤ 1000 := Nat.le_trans bk.tk.most (by decide)
  have tndc : TabsNd ts := fun t ht => ⟨(bk.tk.each t ht).nd, Nat.le_trans (bk.tk.each t ht).most (by decide)⟩
  have lcol := (bk.tk.each u mu).most
  have gx : Gd 10 u.1 := (bk.tk.each u mu).name.gd.mono (by decide)
  have asc : ∀ t ∈ ts, Asc t.1 := fun t ht => (bk.tk.each t ht).name.asc
  have few : ∀ {R' : Str → List Row}, Good ts rs R' → (R' u.1).length ≤ 8 := fun g => g.few u mu
  have hlog : ∀ {n : Nat}, n ≤ 1000 → (((n : Nat) : Int)).natAbs.log2 < 1920 := fun {n} h => by
    rw [Int.natAbs_natCast]
    exact Nat.lt_of_le_of_lt (Nat.log2_le_self n) (by omega)
  have mtd : ∀ {G : Hp}, Off (fun a => a = p ∨ A.mu ts a) H G → ∀ td' v', G pl = some (.tup [.ref td', v']) → A.m ≠ td' := fun {G} k td' v' z y => by
    obtain ⟨td, v, kvs, cpl, ctd, _⟩ := bs.plan.ex
    have e4 := (bs.go k).sub _ _ cpl no
    rw [e4] at z
    cases z
    have := bs.mC
    rw [y, ctd] at this
    cases this
  have kd : ∀ (G : Hp) (R' : Str → List Row) (S' : List Stp), Off (fun a => a = p ∨ A.mu ts a) H G → Twin K G st A ts R' S' → Good ts rs R' → ∀ (Q' : VK) (E1 : XK), endDue G Q' (putDue ts rs R' u.1 row) → spPutDue K [.ref pl, .ref A.m, .str u.1, .ref t] G Q' E1 := fun G R' S' k tw' g Q' E1 z =>
    ⟨pl, A.m, t, u.1, A.L', ts, rs, R', row, 8, 12, rfl, bs.plan.off (bs.go k).sub, rkO, by decide, Nat.le_trans bk.len (by decide), lts, tnd, bk.ws, tw'.mir.lin, mtd k, k _ _ et nt, by omega, wok, g.rows, fun t ht => Nat.le_trans (g.few t ht) (by decide), tndc, g.br, z⟩
  have kc : ∀ (G : Hp) (R' : Str → List Row) (S' : List Stp), Off (fun a => a = p ∨ A.mu ts a) H G → Twin K G st A ts R' S' → Good ts rs R' → ∀ (Q' : VK) (E1 : XK), (∀ D H', G D = none → H' D = some (.lst ((spots (against ts rs u.1 row) 0 (R' u.1)).map fun i => V.int ((i : Nat) : Int))) → Off (fun _ => False) G H' → Q' (.ref D) H') →
      spClash K [.ref pl, .ref A.m, .str u.1, .ref t] G Q' E1 := fun G R' S' k tw' g Q' E1 z =>
    ⟨pl, A.m, t, A.L', ts, rs, R', u, row, rfl, bk, bs.plan.off (bs.go k).sub, tw'.mir.lin, mtd k, mu, k _ _ et nt, lrow, wok, g, z⟩
  have kp : ∀ (G : Hp) (R' : Str → List Row) (S' : List Stp), Off (fun a => a = p ∨ A.mu ts a) H G → Twin K G st A ts R' S' → Good ts rs R' → S'.length ≤ 3000 → ∀ (Q' : VK) (E1 : XK), endPutC K G Q' A.s A.b A.d A.l A.L ts R' S' u.1 row (putDue ts rs R' u.1 row) → spPutC K [.ref A.s, .str u.1, .ref t] G Q' E1 := fun G R' S' k tw' g ls Q' E1 z =>
    ⟨A.s, A.b, A.d, A.l, t, A.L, ts, rs, R', S', u.1, row, rfl, tw'.sto, tw'.sp, k _ _ et nt, bs.book.off (bs.go k).sub, bk, g, by omega, wok, gx, ls, z⟩
  have dgO : ∀ {G : Hp} {R' : Str → List Row} {S' : List Stp}, StoA G A.m A.k A.L' ts R' S' → DGet G A.m (.str u.1) (some (.ref (A.L' u.1))) := fun {G R' S'} h => by
    have := DGet.k (k := .inr u.1) h.dic
    rw [valV_dkv, if_pos hx] at this
    exact this
  refine ⟨_, rfl, st, _, rfl, SqT.of tw.tup, rfl, _, _, rfl, _, _, rfl, _, _, rfl, rfl, ?_⟩
  dsimp only [gName]
  refine asg_cutV (i := 8) (fun v8 G => Off (fun _ => False) H G ∧ (match putDue ts rs R u.1 row with
    | none => v8 = .non
    | some z => ∃ T w, v8 = .ref T ∧ G T = some (.tup [.str z.1, w]) ∧ Ow G w z.2 Fp0)) (fun Q' qq => ?_) (fun v8 H1 hv => ?_)
  · refine ⟨_, rfl, _, rfl, _, rfl, _, rfl, kd H R S (Off.refl _ _) tw hi.good _ L2.E0 ?_⟩
    cases e : putDue ts rs R u.1 row with
    | none =>
      intro H1 k1
      exact qq _ _ ⟨k1, by rw [e]⟩
    | some z =>
      obtain ⟨y, ee⟩ := z
      intro T w H1 eT oT k1
      exact qq _ _ ⟨k1, by rw [e]; exact ⟨T, w, rfl, eT, oT⟩⟩
  obtain ⟨k1, h8⟩ := hv
  have kF1 : Off (fun a => a = p ∨ A.mu ts a) H H1 := k1.mono fun _ z => z.elim
  show tSeq _ _ _ [some (.ref p), some (.ref st), some (.ref pl), some (.str u.1), some (.ref t), some (.ref A.s), some (.ref A.m), some (.ref A.k), some v8, none, none, none, none, none, none, none, none] _
  refine ⟨_, rfl, _, rfl, _, rfl, _, rfl, ?_⟩
  dsimp only [tNil]
  refine kc H1 R S kF1 (tw.off k1) hi.good _ L2.E0 ?_
  intro D H2 nD eD k2
  have k02 := k1.trans k2
  have kF2 : Off (fun a => a = p ∨ A.mu ts a) H H2 := k02.mono fun _ z => z.elim
  have ndF : ¬ (D = p ∨ A.mu ts D) := nN (k1.none nD no)
  have m8 : ((R u.1).filter (against ts rs u.1 row)).length ≤ 8 := Nat.le_trans (List.length_filter_le _ _) (few hi.good)
  have lsp : ((spots (against ts rs u.1 row) 0 (R u.1)).map fun i => V.int ((i : Nat) : Int)).length = ((R u.1).filter (against ts rs u.1 row)).length := by rw [List.length_map, spots_len]
  dsimp only [gName]
  refine ⟨_, rfl, D, _, rfl, .inl (SqL.of eD), ?_⟩
  rw [lsp]
  generalize hm : ((R u.1).filter (against ts rs u.1 row)).length = m at m8 lsp ⊢
  refine ⟨_, rfl, by omega, by omega, for_range (lo := 0) (fun i σ G => (∃ (w10 w11 w12 w13 w14 : Option V), σ = [some (.ref p), some (.ref st), some (.ref pl), some (.str u.1), some (.ref t), some (.ref A.s), some (.ref A.m), some (.ref A.k), some v8, some (.ref D), w10, w11, w12, w13, w14, none, none]) ∧
      ∃ (R' : Str → List Row) (steps : List Stp) (c' : Nat), Twin K G st A ts R' (S ++ steps) ∧ Hist ts rs R' (S ++ steps) ∧ steps.length = i ∧ botR R' steps = R ∧ ((R' u.1).filter (against ts rs u.1 row)).length + i = m ∧ Pu G p c' ∧ c' ≤ c + i ∧ Off (fun a => a = p ∨ A.mu ts a) H2 G)
    ⟨⟨_, _, _, _, _, rfl⟩, R, [], c, by rw [List.append_nil]; exact tw.off k02, by rw [List.append_nil]; exact hi, rfl, rfl, hm, hp.off k02 no, Nat.le_refl _, Off.refl _ _⟩ (fun i σ G hi0 g => ?_) fun σ G g => ?_⟩
  · obtain ⟨⟨w10, w11, w12, w13, w14, rfl⟩, R', steps, c', tw', hi', lst', bt', cnt', pu', lc', kG'⟩ := g
    have kG := kF2.trans kG'
    have g' := hi'.good
    have lS' : (S ++ steps).length ≤ 2100 := by rw [List.length_append]; omega
    have pos : 0 < ((R' u.1).filter (against ts rs u.1 row)).length := by omega
    have dr : (putDue ts rs R' u.1 row).isSome = true := by
      rw [due_rule tnd mu lrow, any_filter]
      exact decide_eq_true pos
    dsimp only [gName]
    refine ⟨_, rfl, _, rfl, _, rfl, _, rfl, kd G R' _ kG tw' g' _ L2.E0 ?_⟩
    cases e : putDue ts rs R' u.1 row with
    | none =>
      rw [e] at dr
      cases dr
    | some z =>
    obtain ⟨y, ee⟩ := z
    obtain ⟨hy, b, ms', sz⟩ := putDue_sz e gx (by omega) wok (Nat.le_trans bk.len (by decide))
    intro T v H3 eT oT k3
    dsimp only [gName]
    refine ⟨_, rfl, rfl, _, rfl, ?_⟩
    rw [decide_eq_false (show ¬ V.ref T = V.non from fun z => by cases z)]
    refine iteF ?_
    have kF3 := kG.trans (k3.mono (G := fun a => a = p ∨ A.mu ts a) fun _ z => z.elim)
    refine ⟨_, rfl, _, rfl, _, rfl, kp H3 R' _ kF3 (tw'.off k3) g' (by omega) _ L2.E0 ?_⟩
    rw [e]
    intro Tc a d' uu Fo H4 eTc ea ed ow fr k4
    refine ⟨Tc, _, 1, .ref a, rfl, rfl, SqT.of eTc, atI_nat (j := 1) rfl, _, rfl, ?_⟩
    dsimp only [tNil]
    refine errRight (E := L2.E0) (H0 := H3) hy ea ed (k4 _ _ eT no) ow (dp_off k4 oT.dp) sz k4 fr ?_
    intro G5 k5
    refine ⟨_, rfl, iteF ?_⟩
    have k35 := k3.trans k5
    have kF5 := kG.trans (k35.mono (G := fun a => a = p ∨ A.mu ts a) fun _ z => z.elim)
    have tw5 := tw'.off k35
    have pu5 := pu'.off k35 no
    clear eTc ea ed ow fr k4 eT oT k3 kF3 sz
    refine ⟨_, rfl, _, rfl, _, rfl, _, rfl, ?_⟩
    dsimp only [tNil]
    refine kc G5 R' _ kF5 tw5 g' _ L2.E0 ?_
    intro D2 H6 nD2 eD2 k6
    have tw6 := tw5.off k6
    have pu6 := pu5.off k6 no
    have kF6 := kF5.trans (k6.mono (G := fun a => a = p ∨ A.mu ts a) fun _ z => z.elim)
    dsimp only [gName]
    have lsp' : ((spots (against ts rs u.1 row) 0 (R' u.1)).map fun i => V.int ((i : Nat) : Int)).length = ((R' u.1).filter (against ts rs u.1 row)).length := by rw [List.length_map, spots_len]
    refine ⟨_, rfl, _, rfl, _, rfl, D2, _, rfl, .inl (SqL.of eD2), p, _, c', rfl, pu6, by omega, by omega, by omega, fun j H7 j0 j1 p7 b7 => ?_⟩
    obtain ⟨jn, rfl⟩ : ∃ n : Nat, j = (n : Int) := ⟨j.toNat, by omega⟩
    have hj : jn < (spots (against ts rs u.1 row) 0 (R' u.1)).length := by
      rw [List.length_map] at j1
      omega
    have nD2p : D2 ≠ p := fun z => by
      obtain ⟨ys, ey⟩ := pu5.lst
      rw [← z, nD2] at ey
      cases ey
    have esp : (spots (against ts rs u.1 row) 0 (R' u.1))[jn]? = some (spots (against ts rs u.1 row) 0 (R' u.1))[jn] := List.getElem?_eq_getElem hj
    generalize (spots (against ts rs u.1 row) 0 (R' u.1))[jn] = sp at esp
    obtain ⟨_, r, hr', ar⟩ := spots_mem _ _ _ (List.mem_of_getElem? esp)
    rw [Nat.sub_zero] at hr'
    refine ⟨D2, _, jn, .int ((sp : Nat) : Int), rfl, rfl, SqL.of (b7.off _ _ eD2 nD2p), atI_nat (by rw [List.getElem?_map, esp]; rfl), ?_⟩
    have k67 := b7.off
    have tw7 := tw6.keep k67 (fun a z => by
      obtain ⟨ys, ey⟩ := pu6.lst
      exact ⟨ys, z ▸ ey⟩) fun a z y => bs.pm (y ▸ z)
    have kF7 := kF6.trans (k67.mono (G := fun a => a = p ∨ A.mu ts a) fun _ z => .inl z)
    have kG7 := kG'.trans ((k35.trans k6).mono (G := fun a => a = p ∨ A.mu ts a) fun _ z => z.elim) |>.trans (k67.mono (G := fun a => a = p ∨ A.mu ts a) fun _ z => .inl z)
    clear k35 k6 k67 pu6 pu5 pu' tw6 tw5 tw' eD2 nD2 nD2p kF5 kF6
    have mi7 := tw7.mir
    obtain ⟨vs, ev, ovs⟩ := mi7.rows u mu
    have lv : vs.length = (R' u.1).length := by rw [ovs.length, List.length_map]
    have f8 := few g'
    obtain ⟨li, lr⟩ := List.getElem?_eq_some_iff.mp hr'
    have gr := g'.wd u mu r (List.mem_of_getElem? hr')
    obtain ⟨z1, z2, z3, z4⟩ := (sz_row (row := r) (by omega) gr.2).rep
    obtain ⟨y0, hy0, oy⟩ := owAll_get ovs (i := sp) (d := rowD r) (by rw [List.getElem?_map, hr']; rfl)
    dsimp only [gName]
    refine ⟨_, rfl, _, rfl, A.m, _, rfl, dgO mi7, .inl ⟨rfl, _, SqL.of ev⟩, _, rfl, A.L' u.1, vs, ((sp : Nat) : Int), sp, y0, rfl, rfl, ev, by omega, by omega, seq_ix (by omega) (by omega), hy0, ?_⟩
    have oNew : OwAll H7 (vs.eraseIdx sp) (((R' u.1).eraseIdx sp).map rowD) Fp0 := by
      rw [← map_erase]
      exact owAll_erase _ ovs
    have mi8 := mi7.set tw.sp' mu oNew
    have k8 : Off (fun a => a = A.L' u.1) H7 (upd H7 (A.L' u.1) (.lst (vs.eraseIdx sp))) := Off.upd rfl
    have hk8 : ∀ a, a = A.L' u.1 → ∃ xs, H7 a = some (.lst xs) := fun a z => ⟨vs, z ▸ ev⟩
    have st8 := tw7.sto.keep k8 hk8 fun a z y => tw.dis a z (.inr ⟨u, mu, y⟩)
    have tup8 := k8 _ _ tw7.tup fun z => by
      have := tw7.tup
      rw [z, ev] at this
      cases this
    have oy8 := oy.keep k8 hk8 fun _ z => z.elim
    have p8 : Pu (upd H7 (A.L' u.1) (.lst (vs.eraseIdx sp))) p (c' + 1) := p7.off k8 fun z => bs.pm (.inr (.inr ⟨u, mu, z⟩))
    have kG8 := kG7.trans (k8.mono (G := fun a => a = p ∨ A.mu ts a) fun _ z => .inr (.inr (.inr ⟨u, mu, z⟩)))
    generalize upd H7 (A.L' u.1) (.lst (vs.eraseIdx sp)) = H8 at mi8 k8 st8 tup8 oy8 p8 kG8 ⊢
    obtain ⟨us, eu, ou⟩ := mi8.steps
    have lu : us.length = (S ++ steps).length - A.n := by rw [ou.length, List.length_map, List.length_drop]
    dsimp only [gName]
    refine ⟨_, rfl, .inl ⟨rfl, _, SqL.of eu⟩, _, rfl, _, rfl, _, rfl, l3, fun T9 nT => ?_⟩
    have kT : Off (fun _ => False) H8 (upd H8 T9 (.tup [.str u.1, .int ((sp : Nat) : Int), y0])) := Off.new nT
    have eT9 := upd_same (H := H8) (a := T9) (o := .tup [.str u.1, .int ((sp : Nat) : Int), y0])
    have st9 := st8.off kT
    have mi9 := mi8.off kT
    have eu9 := kT _ _ eu no
    have tup9 := kT _ _ tup8 no
    have ou9 := ou.keep kT (fun _ z => z.elim) fun _ z => z.elim
    have oy9 := oy8.keep kT (fun _ z => z.elim) fun _ z => z.elim
    have p9 := p8.off kT no
    have kG9 := kG8.trans (kT.mono (G := fun a => a = p ∨ A.mu ts a) fun _ z => z.elim)
    generalize upd H8 T9 (.tup [.str u.1, .int ((sp : Nat) : Int), y0]) = H9 at kT eT9 st9 mi9 eu9 tup9 ou9 oy9 p9 kG9 ⊢
    refine ⟨A.k, us, .ref T9, rfl, rfl, eu9, small4000 (by omega), ?_⟩
    have oStep : OwAll H9 (us ++ [.ref T9]) (((S ++ steps ++ [((u.1, ((sp : Nat) : Int), some r) : Stp)]).drop A.n).map stepD) Fp0 := by
      rw [List.drop_append_of_le_length tw7.ln, List.map_append]
      exact owAll_atom ou9 (.tup (F := Fp0) eT9 (owAll_0cons (.str _ fun _ z => z) (owAll_0cons (.int _ fun _ z => z) (owAll_0cons oy9 (.nil fun _ z => z)))))
    have mi10 := mi9.step tw.sp' oStep
    have k10 : Off (fun a => a = A.k) H9 (upd H9 A.k (.lst (us ++ [.ref T9]))) := Off.upd rfl
    have hk10 : ∀ a, a = A.k → ∃ xs, H9 a = some (.lst xs) := fun a z => ⟨_, z ▸ eu9⟩
    have st10 := st9.keep k10 hk10 fun a z y => tw.dis a z (.inl y)
    have tup10 := k10 _ _ tup9 fun z => by rw [z, eu9] at tup9; cases tup9
    have oy10 := oy9.keep k10 hk10 fun _ z => z.elim
    have p10 : Pu (upd H9 A.k (.lst (us ++ [.ref T9]))) p (c' + 1) := p9.off k10 fun z => bs.pm (.inr (.inl z))
    have kG10 := kG9.trans (k10.mono (G := fun a => a = p ∨ A.mu ts a) fun _ z => .inr (.inr (.inl z)))
    generalize upd H9 A.k (.lst (us ++ [.ref T9])) = H10 at mi10 k10 st10 tup10 oy10 p10 kG10 ⊢
    obtain ⟨dx, es⟩ := st10.ins
    have iR : 0 ≤ ((sp : Nat) : Int) ∧ ((sp : Nat) : Int) < (R' u.1).length := by omega
    refine ⟨_, rfl, A.s, dx, _, rfl, es, rfl, _, rfl, _, rfl, A.s, A.b, A.d, A.l, A.L, ts, R', S ++ steps, u.1, ((sp : Nat) : Int), rfl, st10, tw.sp, fun t ht => Nat.le_trans (g'.few t ht) (by decide), by omega, fun n => absurd hx n, fun _ n => absurd iR n, fun _ _ _ v2 r2 H11 hr2 st11 k11 ov11 => ?_⟩
    have er2 : r2 = r := by
      rw [Int.toNat_natCast, hr'] at hr2
      exact (Option.some.inj hr2).symm
    subst er2
    rw [Int.toNat_natCast] at st11
    have mu10 : ∀ a, Mu ts A.L A.l a → ∃ xs, H10 a = some (.lst xs) := st10.sto.lst
    have mi11 := mi10.keep k11 mu10 fun a z y => tw.dis a y z
    have tup11 := k11 _ _ tup10 fun z => by
      obtain ⟨xs, ex⟩ := mu10 _ z
      rw [tup10] at ex
      cases ex
    have oy11 := oy10.keep k11 mu10 fun _ z => z.elim
    have p11 : Pu H11 p (c' + 1) := p10.off k11 fun z => bs.pm (.inl z)
    have kG11 := kG10.trans (k11.mono (G := fun a => a = p ∨ A.mu ts a) fun _ z => .inr (.inl z))
    refine ⟨v2, _, rfl, ov11.dp, z1, z2, z3, z4, _, rfl, y0, _, rfl, oy11.dp, z1, z2, z3, z4, rfl, _, rfl, ?_⟩
    rw [decide_eq_true rfl]
    refine iteF ?_
    refine ⟨⟨_, _, _, _, _, rfl⟩, setR R' u.1 ((R' u.1).eraseIdx sp), steps ++ [(u.1, ((sp : Nat) : Int), some r2)], c' + 1, ?_, ?_, ?_, ?_, ?_, p11, by omega, kG11⟩
    · rw [← List.append_assoc]
      exact ⟨tup11, st11, mi11, tw.sp, tw.sp', tw.dis, by
        rw [List.length_append]
        exact Nat.le_trans tw7.ln (Nat.le_add_right _ _), by
        rw [botR_snoc, undo_take hr']
        exact tw7.bt⟩
    · rw [← List.append_assoc]
      have := hi'.take hx (i := sp) hr'
      exact this
    · rw [List.length_append, lst']
      rfl
    · rw [botR_snoc, undo_take hr']
      exact bt'
    · rw [setR_same]
      have := filter_erase (p := against ts rs u.1 row) hr' ar
      omega
  · obtain ⟨⟨w10, w11, w12, w13, w14, rfl⟩, R', steps, c', tw', hi', lst', bt', cnt', pu', lc', kG'⟩ := g
    have kG := kF2.trans kG'
    have g' := hi'.good
    have lS' : (S ++ steps).length ≤ S.length + 8 := by rw [List.length_append]; omega
    have e : putDue ts rs R' u.1 row = none := by
      have dr : (putDue ts rs R' u.1 row).isSome = false := by
        rw [due_rule tnd mu lrow, any_filter]
        exact decide_eq_false (by omega)
      cases e : putDue ts rs R' u.1 row with
      | none => rfl
      | some z => rw [e] at dr; cases dr
    have mi := tw'.mir
    obtain ⟨vs, ev, ovs⟩ := mi.rows u mu
    have lv : vs.length = (R' u.1).length := by rw [ovs.length, List.length_map]
    have f8 := few g'
    refine ⟨_, rfl, _, rfl, A.m, _, rfl, dgO mi, A.L' u.1, _, rfl, .inl (SqL.of ev), _, _, rfl, rfl, _, rfl, ite2 (fun _ => ?_) (fun c7 => ?_)⟩
    · exact q R' (S ++ steps) G c' tw' hi' (by omega) pu' (by omega) kG
    have l7 : (R' u.1).length ≤ 7 := by
      have := of_decide_eq_false (Bool.eq_false_iff.mpr c7)
      omega
    have gput := g'.put (x := u.1) tnd bk.ws wok e l7
    refine ⟨_, rfl, _, rfl, _, rfl, ?_⟩
    dsimp only [tNil]
    refine kp G R' _ kG tw' g' (by omega) _ L2.E0 ?_
    rw [e]
    intro T H5 eT st5 k5
    refine ⟨T, [.int ((R' u.1).length : Nat), .non], rfl, SqT.of eT, rfl, .int ((R' u.1).length : Nat), [.non], rfl, .non, [], rfl, rfl, ?_⟩
    obtain ⟨mi5, tup5⟩ := tw'.mirK k5
    have pu5 := pu'.off k5 fun z => bs.pm (.inl z)
    have kG5 := kG'.trans (k5.mono (G := fun a => a = p ∨ A.mu ts a) fun _ z => .inr (.inl z))
    obtain ⟨vs5, ev5, ov5⟩ := mi5.rows u mu
    have lv5 : vs5.length = (R' u.1).length := by rw [ov5.length, List.length_map]
    refine ⟨_, rfl, rfl, _, rfl, ?_⟩
    rw [decide_eq_true (show V.non = V.non from rfl)]
    refine iteF ?_
    refine ⟨_, rfl, _, rfl, hlog (by omega), _, rfl, _, rfl, A.m, _, rfl, dgO mi5, A.L' u.1, _, rfl, .inl (SqL.of ev5), _, rfl, ?_, rfl, _, rfl, ?_⟩
    · rw [lv5]
      exact hlog (by omega)
    rw [lv5, decide_eq_true rfl]
    refine iteF ?_
    obtain ⟨us, eu, ou⟩ := mi5.steps
    have lu : us.length = (S ++ steps).length - A.n := by rw [ou.length, List.length_map, List.length_drop]
    refine ⟨_, rfl, .inl ⟨rfl, _, SqL.of eu⟩, _, rfl, _, rfl, _, rfl, A.m, _, rfl, dgO mi5, A.L' u.1, _, rfl, .inl (SqL.of ev5), l3, fun T8 nT => ?_⟩
    rw [lv5]
    have kT : Off (fun _ => False) H5 (upd H5 T8 (.tup [.str u.1, .int (((R' u.1).length : Nat) : Int), .non])) := Off.new nT
    have eT8 := upd_same (H := H5) (a := T8) (o := .tup [.str u.1, .int (((R' u.1).length : Nat) : Int), .non])
    have eu8 := kT _ _ eu no
    have ou8 := ou.keep kT (fun _ z => z.elim) fun _ z => z.elim
    have mi8 := mi5.off kT
    have st8 := st5.off kT
    have tup8 := kT _ _ tup5 no
    have pu8 := pu5.off kT no
    have kG8 := kG5.trans (kT.mono (G := fun a => a = p ∨ A.mu ts a) fun _ z => z.elim)
    generalize upd H5 T8 (.tup [.str u.1, .int (((R' u.1).length : Nat) : Int), .non]) = H8 at kT eT8 eu8 ou8 mi8 st8 tup8 pu8 kG8 ⊢
    refine ⟨A.k, us, .ref T8, rfl, rfl, eu8, small4000 (by omega), ?_⟩
    have oStep : OwAll H8 (us ++ [.ref T8]) (((S ++ steps ++ [((u.1, (((R' u.1).length : Nat) : Int), none) : Stp)]).drop A.n).map stepD) Fp0 := by
      rw [List.drop_append_of_le_length tw'.ln, List.map_append]
      exact owAll_atom ou8 (.tup eT8 (owAll_0cons (.str _ fun _ z => z) (owAll_0cons (.int _ fun _ z => z) (owAll_0cons (.non fun _ z => z) (.nil fun _ z => z)))))
    have mi9 := mi8.step tw.sp' oStep
    have k9 : Off (fun a => a = A.k) H8 (upd H8 A.k (.lst (us ++ [.ref T8]))) := Off.upd rfl
    have st9 := st8.keep k9 (fun a z => ⟨_, z ▸ eu8⟩) fun a z y => tw.dis a z (.inl y)
    have tup9 := k9 _ _ tup8 fun z => by rw [z, eu8] at tup8; cases tup8
    have pu9 : Pu (upd H8 A.k (.lst (us ++ [.ref T8]))) p c' := pu8.off k9 fun z => bs.pm (.inr (.inl z))
    have kG9 := kG8.trans (k9.mono (G := fun a => a = p ∨ A.mu ts a) fun _ z => .inr (.inr (.inl z)))
    generalize upd H8 A.k (.lst (us ++ [.ref T8])) = H9 at mi9 k9 st9 tup9 pu9 kG9 ⊢
    have et9 := (kF2.trans kG9) _ _ et nt
    obtain ⟨vs9, ev9, ov9⟩ := mi9.rows u mu
    have lv9 : vs9.length = (R' u.1).length := by rw [ov9.length, List.length_map]
    refine ⟨_, rfl, _, rfl, A.m, _, rfl, dgO mi9, .inl ⟨rfl, _, SqL.of ev9⟩, _, rfl, A.L' u.1, vs9, .ref t, rfl, rfl, ev9, small4000 (by omega), ?_⟩
    have oRow : OwAll H9 (vs9 ++ [.ref t]) ((R' u.1 ++ [row]).map rowD) Fp0 := by
      rw [List.map_append]
      exact owAll_atom ov9 (ow_row_mk et9)
    have mi10 := mi9.set tw.sp' mu oRow
    have k10 : Off (fun a => a = A.L' u.1) H9 (upd H9 (A.L' u.1) (.lst (vs9 ++ [.ref t]))) := Off.upd rfl
    have st10 := st9.keep k10 (fun a z => ⟨_, z ▸ ev9⟩) fun a z y => tw.dis a z (.inr ⟨u, mu, y⟩)
    have tup10 := k10 _ _ tup9 fun z => by rw [z, ev9] at tup9; cases tup9
    have p10 : Pu (upd H9 (A.L' u.1) (.lst (vs9 ++ [.ref t]))) p c' := pu9.off k10 fun z => bs.pm (.inr (.inr ⟨u, mu, z⟩))
    have kG10 := kG9.trans (k10.mono (G := fun a => a = p ∨ A.mu ts a) fun _ z => .inr (.inr (.inr ⟨u, mu, z⟩)))
    generalize upd H9 (A.L' u.1) (.lst (vs9 ++ [.ref t])) = H10 at mi10 k10 st10 tup10 p10 kG10 ⊢
    have tw10 : Twin K H10 st A ts (setR R' u.1 (R' u.1 ++ [row])) (S ++ (steps ++ [((u.1, (((R' u.1).length : Nat) : Int), none) : Stp)])) := by
      rw [← List.append_assoc]
      exact ⟨tup10, st10, mi10, tw.sp, tw.sp', tw.dis, by
        rw [List.length_append]
        exact Nat.le_trans tw'.ln (Nat.le_add_right _ _), by
        rw [botR_snoc, undo_put]
        exact tw'.bt⟩
    have hi10 : Hist ts rs (setR R' u.1 (R' u.1 ++ [row])) (S ++ (steps ++ [((u.1, (((R' u.1).length : Nat) : Int), none) : Stp)])) := by
      rw [← List.append_assoc]
      exact hi'.put gput hx
    have bt10 : botR (setR R' u.1 (R' u.1 ++ [row])) (steps ++ [((u.1, (((R' u.1).length : Nat) : Int), none) : Stp)]) = R := by
      rw [botR_snoc, undo_put]
      exact bt'
    have ls10 : (steps ++ [((u.1, (((R' u.1).length : Nat) : Int), none) : Stp)]).length = m + 1 := by
      rw [List.length_append, lst']
      rfl
    generalize setR R' u.1 (R' u.1 ++ [row]) = R2 at tw10 hi10 bt10
    generalize steps ++ [((u.1, (((R' u.1).length : Nat) : Int), none) : Stp)] = steps2 at tw10 hi10 bt10 ls10
    refine ⟨_, rfl, p, 3, c', rfl, p10, by omega, by decide, by decide, fun j H11 j0 j1 p11 b11 => ⟨rfl, _, rfl, ite2 (fun _ => ?_) (fun _ => ?_)⟩⟩
    · have k11 := b11.off
      have tw11 := tw10.keep k11 (fun a z => by
        obtain ⟨ys, ey⟩ := p10.lst
        exact ⟨ys, z ▸ ey⟩) fun a z y => bs.pm (y ▸ z)
      exact q R2 _ H11 (c' + 1) tw11 hi10 (by rw [List.length_append]; omega) p11 (by omega) (kF2.trans (kG10.trans (k11.mono (G := fun a => a = p ∨ A.mu ts a) fun _ z => .inl z)))
    have k11 := b11.off
    have tw11 := tw10.keep k11 (fun a z => by
      obtain ⟨ys, ey⟩ := p10.lst
      exact ⟨ys, z ▸ ey⟩) fun a z y => bs.pm (y ▸ z)
    have kG11 := kG10.trans (k11.mono (G := fun a => a = p ∨ A.mu ts a) fun _ z => .inl z)
    have eD11 := kG11 _ _ eD ndF
    refine ⟨_, rfl, D, _, rfl, .inl (SqL.of eD11), _, _, rfl, rfl, ?_⟩
    rw [lsp]
    refine ⟨_, rfl, by omega, by omega, for_range (lo := 0) (fun i σ G => (∃ (w10 : Option V), σ = [some (.ref p), some (.ref st), some (.ref pl), some (.str u.1), some (.ref t), some (.ref A.s), some (.ref A.m), some (.ref A.k), some v8, some (.ref D), w10, w11, w12, w13, w14, some (.int ((R' u.1).length : Nat)), some .non]) ∧
        ∃ (R3 : Str → List Row) (steps3 : List Stp), Twin K G st A ts R3 (S ++ steps3) ∧ Hist ts rs R3 (S ++ steps3) ∧ steps3.length + i = m + 1 ∧ botR R3 steps3 = R ∧ Off (A.mu ts) H11 G)
      ⟨⟨_, rfl⟩, R2, steps2, tw11, hi10, by omega, bt10, Off.refl _ _⟩ (fun i σ G hi0 g => ?_) fun σ G g => ?_⟩
    · obtain ⟨⟨w10', rfl⟩, R3, steps3, tw3, hi3, ls3, bt3, k3⟩ := g
      have ne : steps3 ≠ [] := fun z => by
        rw [z, List.length_nil] at ls3
        omega
      obtain ⟨st0, z, rfl⟩ : ∃ st0 z, steps3 = st0 ++ [z] := ⟨steps3.dropLast, steps3.getLast ne, (List.dropLast_concat_getLast ne).symm⟩
      have l3' : st0.length + 1 + i = m + 1 := by rw [← ls3, List.length_append]; rfl
      refine ⟨_, rfl, st, A, ts, rs, R3, S ++ (st0 ++ [z]), rfl, tw3, hi3, asc, .inr (by
        rw [List.length_append, List.length_append]
        have := tw.ln
        show A.n < S.length + (st0.length + 1)
        omega), fun R4 S4 G4 tw4 hi4 lS4 und k4 => ⟨_, rfl, iteF ?_⟩⟩
      obtain ⟨e1, e2⟩ := und (S ++ st0) z (List.append_assoc _ _ _).symm
      subst e2
      exact ⟨⟨_, rfl⟩, R4, st0, tw4, hi4, by omega, by rw [e1, ← botR_snoc]; exact bt3, k3.trans k4⟩
    obtain ⟨⟨w10', rfl⟩, R3, steps3, tw3, hi3, ls3, bt3, k3⟩ := g
    have e0 : steps3 = [] := List.length_eq_zero_iff.mp (by omega)
    subst e0
    have eR : R3 = R := bt3
    subst eR
    rw [List.append_nil] at tw3 hi3
    have p3 : Pu G p (c' + 1) := p11.off k3 bs.pm
    have kG3 := kG11.trans (k3.mono (G := fun a => a = p ∨ A.mu ts a) fun _ z => .inr z)
    have kF3 := kF2.trans kG3
    have fin : ∀ G', Off (fun _ => False) G G' → Q (.bl true) G' := fun G' k => q R3 S G' (c' + 1) (tw3.off k) hi3 (Nat.le_add_right _ _) (p3.off k no) (by omega) (kF3.trans (k.mono fun _ z => z.elim))
    refine ⟨_, rfl, rfl, _, rfl, ?_⟩
    cases e8 : putDue ts rs R3 u.1 row with
    | none =>
      rw [e8] at h8
      have h8 : v8 = .non := h8
      subst h8
      rw [decide_eq_true (show V.non = V.non from rfl)]
      refine iteT ?_
      exact fin G (Off.refl _ _)
    | some z =>
      rw [e8] at h8
      obtain ⟨T1, w1, rfl, eT1, oT1⟩ := h8
      obtain ⟨y, ee⟩ := z
      have hL1 : ∀ a, (a = p ∨ A.mu ts a) → ∃ xs, H1 a = some (.lst xs) := fun a z => by
        obtain ⟨xs, ex⟩ := Fl a z
        exact ⟨xs, k1 _ _ ex no⟩
      have nT1 : ¬ (T1 = p ∨ A.mu ts T1) := fun z => by
        obtain ⟨xs, ex⟩ := hL1 _ z
        rw [eT1] at ex
        cases ex
      have k1G : Off (fun a => a = p ∨ A.mu ts a) H1 G := (k2.mono fun _ z => z.elim).trans kG3
      obtain ⟨hy, b, ms', sz⟩ := putDue_sz e8 gx (by omega) wok (Nat.le_trans bk.len (by decide))
      rw [decide_eq_false (show ¬ V.ref T1 = V.non from fun z => by cases z)]
      refine iteF ?_
      refine ⟨_, rfl, _, rfl, _, rfl, ?_⟩
      dsimp only [tNil]
      refine kp G R3 S kF3 tw3 hi3.good (by omega) _ L2.E0 ?_
      rw [e8]
      intro Tc a d' uu Fo H4 eTc ea ed ow fr k4
      refine ⟨Tc, _, 1, .ref a, rfl, rfl, SqT.of eTc, atI_nat (j := 1) rfl, _, rfl, ?_⟩
      dsimp only [tNil]
      exact errRight (E := L2.E0) (H0 := G) hy ea ed (k4 _ _ (k1G _ _ eT1 nT1) no) ow (dp_off k4 (oT1.keep k1G hL1 fun _ z => z.elim).dp) sz k4 fr fin
end
end LW
set_option Elab.async false
set_option linter.all false
set_option maxRecDepth 100000
set_option maxHeartbeats 0
/-! _law_turned_rules (as in HK4) -/
namespace LW
open PySem PySem.Spec PyProof.Rows L2 KV
theorem RbOk.up {n m m' : Nat} {r : RB} (h : RbOk n m r) (l : m ≤ m') : RbOk n m' r :=
  ⟨h.head, h.hg, h.two, fun a b e => ⟨Nat.le_trans (h.cs a b e).1 l, (h.cs a b e).2⟩⟩
section
variable {P : Program} {w : World} {K : PySem.W.Frag} {mg : Str → Option Value} {base : Heap}
theorem scTurned : FnScope ["purse", "rules_here", "found", "rule", "some"] ["purse", "rules_here"] (defScope sTurnedRules) := ⟨rfl, rfl, rfl, by decide +kernel, rfl, by decide +kernel, by decide +kernel⟩
theorem ok_turned {f fC : Addr} {fd dC : FuncData} (F : FnP K "_law_turned_rules" sTurnedRules f fd) (C : Dn P w K mg base 1 "_law_coin" ["purse", "many"] spCoin fC dC) :
    FnOk P w K mg base CX0 2 f fd ["purse", "rules_here"] (spTurned K) := by
  refine F.ok scTurned (fun vs H Q E h => ?_) (fun cdv A outer s H vs Q E hr h => ?_)
  · obtain ⟨p, fx, w, ts, rs, c, rfl, _⟩ := h
    rfl
  obtain ⟨p, fx, w, ts, rs, c, rfl, hp, hc, tk, pf1, ⟨of1, ef1⟩, hwH, hrs, lr, q⟩ := h
  have hw : Dp K H w (rulsD rs) := dp_off hide_in hwH
  refine ⟨_, PSs.nox (pss_cons (ps_set (i := 2) scTurned.nd rfl (Or.inl rfl) (pe_lst pa_nil))
    (pss_cons (ps_for PassesOwn.never rfl (pi_list (pv 1)) (pg_name (i := 3) scTurned.nd rfl (Or.inl rfl))
      (pss_cons (ps_set (i := 4) scTurned.nd rfl (Or.inl rfl) (pe_ifExp (pt_cmpR op_eq (pe_call C.g hr rfl C.m C.kp C.b .nil pass0 (pa_cons (pv 0) (pa_cons pe_int pa_nil))) pe_int (nomark _)) (pe_ix ix_tup (pv 3) pe_int (fun _ _ => rfl))
          (pe_op op_cat (pe_revL (pe_ix ix_tup (pv 3) pe_int (fun _ _ => rfl))) (pe_slice sl_list (pe_ix ix_tup (pv 3) pe_int (fun _ _ => rfl)) po_none (po_some pe_int)))))
      (pss_one (ps_expr (pe_bm PySem.F.plainAttrs_list PySem.F.slot_list_append PySem.F.type_list_append mt_append (pv 2)
        (pa_cons (pe_op op_catT (pe_op op_catT (pe_slice sl_tup (pv 3) po_none (po_some pe_int)) (pe_tup (pa_cons (pv 4) pa_nil))) (pe_slice sl_tup (pv 3) (po_some pe_int) po_none)) pa_nil))))))
    (pss_one (ps_ret (pv 2))))), ?_⟩
  have no : ¬ False := id
  refine ⟨by decide, fun fo nf => ?_⟩
  obtain ⟨wa, xs, rfl, sq, da, daH⟩ : ∃ wa xs, w = .ref wa ∧ SqL K H wa xs ∧ DpAll K H xs (rs.map rulD) ∧ DpAll K (hide fx H) xs (rs.map rulD) := by
    cases hwH with
    | lst h r => exact ⟨_, _, rfl, sqL_off hide_in h, dpAll_off hide_in r, r⟩
  have fof : fo ≠ fx := fun z => by
    rw [z, ef1] at nf
    cases nf
  have nia : noIntAll (rs.map rulD) = true := by
    have := noInt_ruls rs
    simpa only [rulsD, noInt] using this
  have pf : p ≠ fo := fun z => by
    obtain ⟨ys, e⟩ := hp.lst
    rw [z, nf] at e
    cases e
  have lx : xs.length = rs.length := by rw [dpAll_len da, List.length_map]
  have k0 : Off (fun _ => False) H (upd H fo (.lst [])) := Off.new nf
  refine ⟨_, rfl, wa, rfl, ⟨_, sqL_off k0 sq⟩, for_list (K := K) (a := wa) (xs := xs) (fun i σ G => ∃ (w3 w4 : Option V) (acc : List V) (rb : List RB) (c' : Nat), σ = [some (.ref p), some (.ref wa), some (.ref fo), w3, w4] ∧ G fo = some (.lst acc) ∧ DpAll K (hide fx (hide fo G)) acc (rb.map rbD) ∧ rb.length = i ∧ (∀ r ∈ rb, RbS ts r) ∧ (∀ r ∈ rb, RbOk 8 9 r) ∧ Pu G p c' ∧ c' ≤ c + i ∧ Off (fun a => a = p) H G)
    ⟨none, none, [], [], c, rfl, upd_same, .nil, rfl, fun r h => absurd h (by simp), fun r h => absurd h (by simp), hp.off k0 no, by omega, Off.in k0⟩ (fun i σ G _ g => ?_) (fun i x σ G hx g => ?_) fun σ G g => ?_⟩
  · obtain ⟨_, _, _, _, _, _, _, _, _, _, _, _, _, k⟩ := g
    exact sqL_but k hp sq (dpAll_noInt da nia)
  · obtain ⟨w3, w4, acc, rb, c', rfl, ea, dacc, lb, hs, ho, hp', hc', k⟩ := g
    have hi : i < rs.length := by
      have := (List.getElem?_eq_some_iff.mp hx).1
      omega
    have ht : rs[i]? = some rs[i] := List.getElem?_eq_getElem hi
    have mr : rs[i] ∈ rs := List.getElem_mem hi
    obtain ⟨v, ev, dv⟩ := dpAll_get (i := i) (d := rulD rs[i]) daH (by rw [List.getElem?_map, ht]; rfl)
    rw [hx] at ev
    cases ev
    have dvG := dp_but (hide_off (f := fx) (hide_of nf k)) (pu_hide hp pf1) dv (noInt_rul _)
    obtain ⟨kk, x1, cs, tl, t, er, fm, et, mem⟩ := id (rbS_of (hrs _ mr) tk)
    have ro : RbOk 8 8 (rbOf rs[i]) := rbOk_of (hrs _ mr) tk (by decide) (by decide)
    rw [rbD_of, er] at dvG
    rw [er] at ro
    obtain ⟨lc, _, _, _⟩ := ro.cs cs tl rfl
    obtain ⟨a, cA, rfl, sa, sc⟩ := dp_rb dvG
    have lt : tl.length = 0 ∨ tl.length = 1 := fm.elim (fun z => .inl z.2) fun z => .inr z.2
    have lac : acc.length ≤ 1000 := by
      have := dpAll_len dacc
      rw [List.length_map] at this
      omega
    have fp : fo ≠ p := Ne.symm pf
    have hpH := pu_hide (pu_hide hp' pf) pf1
    have hin : ∀ {G : Hp}, Off (fun _ => False) (hide fx (hide fo G)) G := hide_in.trans hide_in
    refine ⟨_, rfl, p, 2, c', rfl, hp', by omega, by decide, by decide, fun j G1 j0 j1 hp1 b1 => ⟨rfl, _, rfl, ?_⟩⟩
    have ea1 := b1.off _ _ ea fp
    have kh := hide_off (f := fx) (hide_off (f := fo) b1.off)
    have sa1 := sqT_but kh hpH sa
    have sc1 := sqL_but kh hpH sc strs_noInt
    have dacc1 := dpAll_but kh hpH dacc (by
      have := noInt_rbs rb
      simpa only [rbsD, noInt] using this)
    have k01 : Off (fun a => a = p) H G1 := k.trans b1.off
    have at2 : atI (V.str kk :: V.str x1 :: V.ref cA :: tl.map V.str) 2 = some (.ref cA) := atI_nat (j := 2) rfl
    have done : ∀ (G2 : Hp) (e : Addr) (cs' : List Str), Off (fun _ => False) G1 G2 → SqL K (hide fx (hide fo G2)) e (cs'.map V.str) → cs'.length ≤ 9 → (∀ y ∈ cs', y ∈ cs) → ∀ m Gm, Off (fun _ => False) G2 Gm → G2 m = none → Gm m = some (.tup (.str kk :: .str x1 :: .ref e :: tl.map V.str)) →
        ∃ (w3 w4 : Option V) (acc' : List V) (rb : List RB) (c' : Nat), [some (V.ref p), some (.ref wa), some (.ref fo), some (.ref a), some (.ref e)] = [some (.ref p), some (.ref wa), some (.ref fo), w3, w4] ∧ (upd Gm fo (.lst (acc ++ [.ref m]))) fo = some (.lst acc') ∧ DpAll K (hide fx (hide fo (upd Gm fo (.lst (acc ++ [.ref m]))))) acc' (rb.map rbD) ∧ rb.length = i + 1 ∧ (∀ r ∈ rb, RbS ts r) ∧ (∀ r ∈ rb, RbOk 8 9 r) ∧ Pu (upd Gm fo (.lst (acc ++ [.ref m]))) p c' ∧ c' ≤ c + (i + 1) ∧ Off (fun a => a = p) H (upd Gm fo (.lst (acc ++ [.ref m]))) := by
      intro G2 e cs' k2 se lcs ss m Gm km nm em
      have k12 := k2.trans km
      have mf : m ≠ fo := fun z => by
        rw [z, k2 _ _ ea1 no] at nm
        cases nm
      have mf1 : m ≠ fx := fun z => by
        rw [z, k2 _ _ (k01 _ _ ef1 (Ne.symm pf1)) no] at nm
        cases nm
      refine ⟨_, _, acc ++ [.ref m], rb ++ [([kk, x1], some (cs', tl))], c' + 1, rfl, upd_same, ?_, by rw [List.length_append, lb]; rfl, fun r hr => ?_, fun r hr => ?_, (hp1.off k12 no).at (upd_ne pf), by omega, fun b o eb nb => ?_⟩
      · rw [hide_upd, List.map_append]
        refine dpAll_append (dpAll_off (hide_off (hide_off k12)) dacc1) (.cons (dp_rb_mk (c := e) (SqT.of ?_) (sqL_off (hide_off (hide_off km)) se)) .nil)
        rw [hide_ne mf1, hide_ne mf]
        exact em
      · rcases List.mem_append.mp hr with hr | hr
        · exact hs r hr
        · rw [List.mem_singleton.mp hr]
          refine ⟨kk, x1, cs', tl, t, rfl, fm, et, fun y hy => mem y ?_⟩
          rcases List.mem_append.mp hy with hy | hy
          · exact List.mem_append_left _ (ss y hy)
          · exact List.mem_append_right _ hy
      · rcases List.mem_append.mp hr with hr | hr
        · exact ho r hr
        · rw [List.mem_singleton.mp hr]
          exact ro.turn lcs ss
      · rw [upd_ne fun z => by rw [z, nf] at eb; cases eb]
        exact k12 _ _ (k01 b o eb nb) no
    refine ite2 (fun _ => ?_) fun _ => ?_
    · refine ⟨_, rfl, a, _, 2, .ref cA, rfl, rfl, sqT_off hin sa1, at2, ?_⟩
      exact tu_tail (sqT_off hin sa1) ea1 lac lt (done G1 cA cs (fun _ _ h _ => h) sc1 (by omega) fun y hy => hy)
    · refine ⟨_, rfl, a, _, 2, .ref cA, rfl, rfl, sqT_off hin sa1, at2, cA, _, rfl, sqL_off hin sc1, fun m1 n1 => ?_⟩
      have j1 : Off (fun _ => False) G1 (upd G1 m1 (.lst (cs.map V.str).reverse)) := Off.new n1
      have f1 := upd_same (H := G1) (a := m1) (o := .lst (cs.map V.str).reverse)
      generalize upd G1 m1 (.lst (cs.map V.str).reverse) = Ga at j1 f1 ⊢
      refine ⟨_, rfl, a, _, 2, .ref cA, rfl, rfl, sqT_off j1 (sqT_off hin sa1), at2, _, rfl, cA, _, rfl, sqL_off j1 (sqL_off hin sc1), fun m2 n2 => ?_⟩
      rw [cutV_head (by decide)]
      have j2 : Off (fun _ => False) Ga (upd Ga m2 (.lst ((cs.map V.str).take (Int.toNat 1)))) := Off.new n2
      have f2 := upd_same (H := Ga) (a := m2) (o := .lst ((cs.map V.str).take (Int.toNat 1)))
      generalize upd Ga m2 (.lst ((cs.map V.str).take (Int.toNat 1))) = Gb at j2 f2 ⊢
      have el : (cs.map V.str).reverse ++ (cs.map V.str).take (Int.toNat 1) = (cs.reverse ++ cs.take 1).map V.str := by
        rw [List.map_append, List.map_reverse, List.map_take]
        rfl
      have ll : (cs.reverse ++ cs.take 1).length ≤ 9 := by
        rw [List.length_append, List.length_reverse, List.length_take]
        omega
      refine ⟨m1, m2, _, _, rfl, rfl, j2 _ _ f1 no, f2, ?_, fun m3 n3 => ?_⟩
      · rw [← List.length_append, el, List.length_map]
        exact Nat.le_trans ll (by decide)
      rw [el]
      have j3 : Off (fun _ => False) Gb (upd Gb m3 (.lst ((cs.reverse ++ cs.take 1).map V.str))) := Off.new n3
      have f3 := upd_same (H := Gb) (a := m3) (o := .lst ((cs.reverse ++ cs.take 1).map V.str))
      have m3f : m3 ≠ fo := fun z => by
        rw [z, (j1.trans j2) _ _ ea1 no] at n3
        cases n3
      have m3f1 : m3 ≠ fx := fun z => by
        rw [z, (j1.trans j2) _ _ (k01 _ _ ef1 (Ne.symm pf1)) no] at n3
        cases n3
      generalize upd Gb m3 (.lst ((cs.reverse ++ cs.take 1).map V.str)) = Gc at j3 f3 ⊢
      have j13 := (j1.trans j2).trans j3
      refine tu_tail (sqT_off j13 (sqT_off hin sa1)) (j13 _ _ ea1 no) lac lt (done Gc m3 _ j13 (SqL.of ?_) ll fun y hy => ?_)
      · rw [hide_ne m3f1, hide_ne m3f]
        exact f3
      · rcases List.mem_append.mp hy with hy | hy
        · exact List.mem_reverse.mp hy
        · exact List.mem_of_mem_take hy
  · obtain ⟨w3, w4, acc, rb, c', rfl, ea, dacc, lb, hs, ho, hp', hc', k⟩ := g
    exact ⟨_, rfl, q _ rb G c' (.lst (SqL.of (by rw [hide_ne fof]; exact ea)) (dpAll_off (hide_off hide_in) dacc)) hs ho (by omega) hp' (by omega) k⟩
end
end LW
set_option Elab.async false
set_option linter.all false
set_option maxRecDepth 100000
set_option maxHeartbeats 0
/-! law of k50 -/
namespace LW
open PySem PySem.Spec PyProof.Rows L2 KV
def spLaw (K : PySem.W.Frag) : Sp := fun vs H Q _ => ∃ (a : Addr) (ns : List Int), vs = [.ref a] ∧ SqL K H a (ns.map V.int) ∧ ∀ H', Q (.bl true) H'
abbrev laN : List Str := ["script", "purse", "tables_here", "rules_here", "made", "plan", "puts", "state", "spent", "spot", "title", "many", "line"]
section
variable {P : Program} {w : World} {K : PySem.W.Frag} {mg : Str → Option Value} {base : Heap}
theorem scLaw : FnScope laN ["script"] (defScope sLaw) := ⟨rfl, rfl, rfl, by decide +kernel, rfl, by decide +kernel, by decide +kernel⟩
theorem ok_law {f fP fS fR fT fU fB fL fC fN fE fA : Addr} {fd dP dS dR dT dU dB dL dC dN dE dA : FuncData} (F : FnP K "law" sLaw f fd) (GP : Dn P w K mg base 1 "_law_purse" ["script", "place"] (spPurse K) fP dP)
    (SH : Dn P w K mg base 4 "_law_shape" ["purse"] (spShape K) fS dS) (TU : Dn P w K mg base 2 "_law_turned_rules" ["purse", "rules_here"] (spTurned K) fT dT) (RO : Dn P w K mg base 11 "_law_road" ["purse", "tables_here", "rules_here"] (spRoad K) fR dR)
    (PU : DnC P w K mg base 3 "_law_puts" ["purse", "tables_here", "rules_here", "most", "most_each"] (spPuts K) fU dU) (ST : Dn P w K mg base 12 "_law_store" ["purse", "made", "puts"] (spStore K) fB dB) (LI : Dn P w K mg base 1 "_law_lines" ["tables_here", "puts"] (spLines K) fL dL)
    (C : Dn P w K mg base 1 "_law_coin" ["purse", "many"] spCoin fC dC) (NL : Dn P w K mg base 3 "_law_new_line" ["purse", "known", "held"] (spNewLine K) fN dN) (LT : DnC P w K mg base 11 "_law_let_in" ["purse", "state", "plan", "title", "line"] (spLetIn K) fE dE) (AL : DnC P w K mg base 8 "_law_all_right" ["state", "plan"] (spAllR K) fA dA)
    (mr : mg "range" = none) (mM : mg "max" = none) (mm : mg "min" = none) (ml : mg "len" = none) (md : mg "dict" = none) : FnC P w K mg base CX0 13 f fd ["script"] (spLaw K) := by
  refine Fun.okC F scLaw (fun vs H Q E h => ?_) (fun cdv A0 outer s0 H vs Q E hG hr h => ?_)
  · obtain ⟨a, ns, rfl, _⟩ := h
    rfl
  obtain ⟨a, ns, rfl, hS, q⟩ := h
  have hu1 := Nat.lt_of_le_of_lt (Nat.add_le_add_left (show 1 ≤ 64 by decide) _) hr.units
  refine ⟨_, PSs.nox (pss_cons (ps_set (i := 1) scLaw.nd rfl (Or.inl rfl) (pe_call GP.g (hr.mono (by decide)) rfl GP.m GP.kp GP.b .nil pass0 (pa_cons (pv 0) (pa_cons pe_int pa_nil))))
    (pss_cons (ps_asg (pe_call SH.g (hr.mono (by decide)) rfl SH.m SH.kp SH.b .nil pass0 (pa_cons (pv 1) pa_nil)) (pg_tup rfl (pgs_cons (pg_name (i := 2) scLaw.nd rfl (Or.inl rfl)) (pgs_cons (pg_name (i := 3) scLaw.nd rfl (Or.inl rfl)) pgs_nil))))
    (pss_cons (ps_set (i := 3) scLaw.nd rfl (Or.inl rfl) (pe_call TU.g (hr.mono (by decide)) rfl TU.m TU.kp TU.b .nil pass0 (pa_cons (pv 1) (pa_cons (pv 3) pa_nil))))
    (pss_cons (ps_par (i := 4) (j := 5) rfl scLaw.nd rfl rfl (by decide) rfl rfl (pa_cons (pe_call RO.g (hr.mono (by decide)) rfl RO.m RO.kp RO.b .nil pass0 (pa_cons (pv 1) (pa_cons (pv 2) (pa_cons (pv 3) pa_nil)))) (pa_cons (pe_tup (pa_cons (pe_callTy (call_dictP rfl) rfl md (by decide +kernel) (pa_cons (pv 2) pa_nil)) (pa_cons (pv 3) pa_nil))) pa_nil)) rfl)
    (pss_cons (ps_set (i := 6) scLaw.nd rfl (Or.inl rfl) (pe_callC hG PU.g (hr.mono (by decide)) rfl PU.m PU.kp PU.b pass0 (pa_cons (pv 1) (pa_cons (pv 2) (pa_cons (pv 3) (pa_cons pe_int (pa_cons pe_int pa_nil)))))))
    (pss_cons (ps_set (i := 7) scLaw.nd rfl (Or.inl rfl) (pe_tup (pa_cons (pe_call ST.g hr rfl ST.m ST.kp ST.b .nil pass0 (pa_cons (pv 1) (pa_cons (pv 4) (pa_cons (pv 6) pa_nil)))) (pa_cons (pe_call LI.g (hr.mono (by decide)) rfl LI.m LI.kp LI.b .nil pass0 (pa_cons (pv 2) (pa_cons (pv 6) pa_nil))) (pa_cons (pe_lst pa_nil) pa_nil)))))
    (pss_cons (ps_set (i := 8) scLaw.nd rfl (Or.inl rfl) pe_int)
    (pss_cons (ps_for PassesOwn.never rfl (pi_range2 rfl mr (pa_cons pe_int (pa_cons (pe_callB (call_max2 rfl) rfl mM boot_max (pa_cons pe_int (pa_cons (pe_callB (call_min2 rfl) rfl mm (by decide +kernel) (pa_cons pe_int (pa_cons (pe_callB call_len_seq rfl ml boot_len (pa_cons (pv 0) pa_nil)) pa_nil))) pa_nil))) pa_nil)))
        (pg_name (i := 9) scLaw.nd rfl (Or.inl rfl))
      (pss_cons (ps_set (i := 1) scLaw.nd rfl (Or.inl rfl) (pe_call GP.g (hr.mono (by decide)) rfl GP.m GP.kp GP.b .nil pass0 (pa_cons (pv 0) (pa_cons (pv 9) pa_nil))))
      (pss_cons (ps_set (i := 10) scLaw.nd rfl (Or.inl rfl) (pe_ix ix_tup (pe_ix ix_list (pv 2) (pe_call C.g (hr.mono (by decide)) rfl C.m C.kp C.b .nil pass0 (pa_cons (pv 1) (pa_cons (pe_callB call_len_seq rfl ml boot_len (pa_cons (pv 2) pa_nil)) pa_nil))) (fun _ _ => rfl)) pe_int (fun _ _ => rfl)))
      (pss_cons (ps_set (i := 11) scLaw.nd rfl (Or.inl rfl) (pe_callB call_len_seq rfl ml boot_len (pa_cons (pe_dget hu1 (pe_ix ix_tup (pv 7) pe_int (fun _ _ => rfl)) (pv 10) (fun _ _ => rfl)) pa_nil)))
      (pss_cons (ps_set (i := 12) scLaw.nd rfl (Or.inl rfl) (pe_call NL.g (hr.mono (by decide)) rfl NL.m NL.kp NL.b .nil pass0 (pa_cons (pv 1) (pa_cons (pe_dget hu1 (pe_ix ix_tup (pv 5) pe_int (fun _ _ => rfl)) (pv 10) (fun _ _ => rfl)) (pa_cons (pe_dget hu1 (pe_ix ix_tup (pv 7) pe_int (fun _ _ => rfl)) (pv 10) (fun _ _ => rfl)) pa_nil)))))
      (pss_one (ps_if (PW.pt (pw_and (pt_cmpR op_eq (pe_callB call_len_seq rfl ml boot_len (pa_cons (pv 12) pa_nil)) (pe_callB call_len_seq rfl ml boot_len (pa_cons (pe_dget hu1 (pe_ix ix_tup (pv 5) pe_int (fun _ _ => rfl)) (pv 10) (fun _ _ => rfl)) pa_nil)) (nomark _)) (pw_and1 (pt_cmpR op_lt (pe_op op_add (pv 8) (pe_op op_mul pe_int (pv 11))) pe_int (nomark _)))))
        (pss_cons (ps_set (i := 8) scLaw.nd rfl (Or.inl rfl) (pe_op op_add (pe_op op_add (pv 8) (pe_op op_mul pe_int (pv 11))) pe_int))
        (pss_one (ps_if (pt_not (pt_val (pe_callC hG LT.g (hr.mono (by decide)) rfl LT.m LT.kp LT.b pass0 (pa_cons (pv 1) (pa_cons (pv 7) (pa_cons (pv 5) (pa_cons (pv 10) (pa_cons (pv 12) pa_nil)))))))) (pss_one (ps_ret pe_bl)) pss_nil))) pss_nil)))))))
    (pss_one (ps_ret (pe_callC hG AL.g (hr.mono (by decide)) rfl AL.m AL.kp AL.b pass0 (pa_cons (pv 7) (pa_cons (pv 5) pa_nil))))))))))))), ?_⟩
  have no : ¬ False := id
  have s0' : 0 ≤ sizeLine := by decide
  have l2 : 2 ≤ sizeLine := by decide
  have l3 : 3 ≤ sizeLine := by decide
  refine ⟨_, rfl, a, ns, 0, rfl, hS, by decide, by decide, fun p np H1 hp1 b1 => ?_⟩
  have kH1 : Off (fun _ => False) H H1 := fun b o e n => by
    rw [b1 b (ne_of_none e np)]
    exact e
  refine ⟨_, rfl, p, 0, rfl, hp1, by decide, fun T v w0 ts qs Ha ca nT eT dta tk dra drh ro lq hpa lca ka => ?_⟩
  refine ⟨T, _, rfl, SqT.of eT, rfl, _, _, rfl, _, _, rfl, rfl, ?_⟩
  have kHa : Off (fun _ => False) H Ha := fun b o e n => ka _ _ (kH1 b o e n) (ne_of_none e np)
  have pT : p ≠ T := fun z => by
    obtain ⟨ys, ey⟩ := hpa.lst
    rw [z, eT] at ey
    cases ey
  refine ⟨_, rfl, _, rfl, p, T, w0, ts, qs, ca, rfl, hpa, by omega, tk, pT, ⟨_, eT⟩, drh, ro, lq, fun w rs H2 c2 drh2 hrs hro9 lrs hp2 lc2 k2 => ?_⟩
  have dr := dp_off hide_in drh2
  have dt := dp_but k2 hpa dta (noInt_tabs _)
  have hro : ∀ r ∈ rs, RbOk 8 12 r := fun r h => (hro9 r h).up (by decide)
  have bk : Bok ts rs := ⟨tk.u, hro, lrs, wrongs_none hrs⟩
  have kH2 : Off (fun _ => False) H H2 := fun b o e n => k2 _ _ (kHa b o e n) (ne_of_none e np)
  have tnd := tk.nd
  dsimp only [gName]
  refine ⟨_, rfl, _, rfl, _, rfl, p, v, w, ts, rs, 6, 8, c2, rfl, dt, tk, by decide, by decide, dr, hrs, hro, lrs, hp2, by omega, fun x H3 Fb c3 bo fb nx hp3 lc3 k3 => ?_⟩
  have kH3 : Off (fun _ => False) H H3 := fun b o e n => k3 _ _ (kH2 b o e n) (ne_of_none e np)
  have dt3 := dp_but k3 hp2 dt (noInt_tabs _)
  have dr3 := dp_but k3 hp2 dr (noInt_rbs _)
  obtain ⟨wa, xs, rfl, sq, da⟩ : ∃ wa xs, v = .ref wa ∧ SqL K H3 wa xs ∧ DpAll K H3 xs (ts.map tabD) := by
    cases dt3 with
    | lst h r => exact ⟨_, _, rfl, h, r⟩
  obtain ⟨ps, kvs, rfl, pr, tkv, kn⟩ := tabs_pairs da
  have ndk : (kvs.map Prod.fst).Nodup := by
    have e : kvs.map Prod.fst = (ts.map Prod.fst).map (fun x => (.inr x : Key)) := by
      rw [kn, List.map_map]
      rfl
    rw [e]
    exact List.pairwise_map.mpr (tnd.imp fun ne z => ne (Sum.inr.inj z))
  refine ⟨_, rfl, wa, ps, kvs, rfl, sq, pr, fun td ntd => ?_⟩
  rw [merge_nd ndk fun k _ z => by simp at z, List.nil_append]
  have k4 : Off (fun _ => False) H3 (upd H3 td (.dK kvs)) := Off.new ntd
  have etd4 := upd_same (H := H3) (a := td) (o := .dK kvs)
  generalize upd H3 td (.dK kvs) = H4 at k4 etd4 ⊢
  refine ⟨_, rfl, l2, fun pl npl => ⟨_, _, rfl, ?_⟩⟩
  have k5 : Off (fun _ => False) H4 (upd H4 pl (.tup [.ref td, w])) := Off.new npl
  have epl5 := upd_same (H := H4) (a := pl) (o := .tup [.ref td, w])
  generalize upd H4 pl (.tup [.ref td, w]) = H5 at k5 epl5 ⊢
  have k35 := k4.trans k5
  have dt5 := dp_off k35 dt3
  have dr5 := dp_off k35 dr3
  have p5 := hp3.off k35 no
  have etd5 := k5 _ _ etd4 no
  have tk5 := titK_off k35 tkv
  have bo5 := bo.of.off k35
  have kH5 := kH3.trans k35
  have hpC : Off (fun a => a = p) H5 (hide p H5) := hide_self
  obtain ⟨pxs, ep5⟩ := id p5.lst
  have plp : pl ≠ p := fun z => by
    rw [z, ep5] at epl5
    cases epl5
  have tdp : td ≠ p := fun z => by
    rw [z, ep5] at etd5
    cases etd5
  have CP : Plan K (hide p H5) pl ts rs := ⟨⟨td, w, kvs, hpC _ _ epl5 plp, hpC _ _ etd5 tdp, titK_but hpC p5 tk5, dp_but hpC p5 dr5 (noInt_rbs _)⟩⟩
  have CB : BookOf K (hide p H5) x ts rs := bo5.but hpC p5
  have CT : Dp K (hide p H5) (.ref wa) (tabsD ts) := dp_but hpC p5 dt5 (noInt_tabs _)
  have CR : Dp K (hide p H5) w (rbsD rs) := dp_but hpC p5 dr5 (noInt_rbs _)
  have kC5 : Off (fun _ => False) (hide p H5) H5 := hide_in
  have Cp : hide p H5 p = none := hide_gone
  have kHC : Off (fun _ => False) H (hide p H5) := hide_of np kH5
  have CH5 : ∀ b, b ≠ p → hide p H5 b = none → H5 b = none := fun b n z => by
    rw [hide_ne n] at z
    exact z
  generalize hide p H5 = C at CP CB CT CR kC5 Cp kHC CH5
  clear hpC bo bo5 k4 k5 etd4 dt3 dr3 dt dr k3 fb nx tkv pr sq da ntd npl kH2 kH1 k2 b1 k35 dt5 dr5 tk5 epl5 etd5 ep5 hp1 hp2 hp3 kH3 kH5 eT nT drh drh2 dra dta hpa ka kHa pT
  have nCp : ∀ {b : Addr} {o : HO}, C b = some o → b ≠ p := fun {b o} e z => by
    rw [z, Cp] at e
    cases e
  dsimp only [gName]
  -- puts
  refine ⟨_, rfl, _, rfl, _, rfl, p, .ref wa, w, ts, rs, 12, 6, c3, rfl, dp_off kC5 CT, dp_off kC5 CR, tk, hro, lrs, bk.ws, by decide, by decide, p5, by omega, fun gs g0 vg H6 c6 ng0 eg og lg pt hp6 lc6 k6 => ?_⟩
  have kC6 : Off (fun _ => False) C H6 := fun b o e _ => k6 _ _ (kC5 b o e no) (nCp e)
  have g0p : g0 ≠ p := fun z => by
    obtain ⟨ys, ey⟩ := p5.lst
    rw [← z, ng0] at ey
    cases ey
  dsimp only [gName]
  -- the store
  refine ⟨_, rfl, _, rfl, _, rfl, p, x, g0, vg, ts, rs, gs, c6, rfl, hp6, by omega, bk, CB.off kC6, eg, g0p, og, by omega, pt, fun s d l L S2 H8 c8 sto2 sp2 hist2 ls2 fr2 fd2 fs2 hp8 lc8 k8 => ?_⟩
  have kC8 : Off (fun _ => False) C H8 := fun b o e _ => k8 _ _ (kC6 b o e no) (nCp e)
  have lp6 : ∀ a, a = p → ∃ xs, H6 a = some (.lst xs) := fun a z => by
    obtain ⟨ys, ey⟩ := hp6.lst
    exact ⟨ys, z ▸ ey⟩
  have eg8 := k8 _ _ eg g0p
  have og8 := og.keep k8 lp6 fun _ z => z.elim
  -- its lines
  refine ⟨_, rfl, _, rfl, .ref wa, g0, vg, ts, gs, rfl, dp_off kC8 CT, tnd, Nat.le_trans tk.most (by decide), eg8, og8, by omega, fun g hg => ?_, fun m L2 H9 lin2 inj2 frL nm k9 => ?_⟩
  · obtain ⟨u, hu, e, _⟩ := pt.t g hg
    exact ⟨u, hu, e⟩
  have kC9 := kC8.trans k9
  refine ⟨s0', fun k0 nk0 => ⟨l3, fun st nst => ?_⟩⟩
  have k10 : Off (fun _ => False) H9 (upd H9 k0 (.lst [])) := Off.new nk0
  have ek0 := upd_same (H := H9) (a := k0) (o := .lst [])
  generalize upd H9 k0 (.lst []) = H10 at k10 ek0 nst ⊢
  have k11 : Off (fun _ => False) H10 (upd H10 st (.tup [.ref s, .ref m, .ref k0])) := Off.new nst
  have est := upd_same (H := H10) (a := st) (o := .tup [.ref s, .ref m, .ref k0])
  generalize upd H10 st (.tup [.ref s, .ref m, .ref k0]) = H11 at k11 est ⊢
  have k9c : Off (fun _ => False) H9 H11 := k10.trans k11
  have k8c := k9.trans k9c
  let A : Ad := ⟨s, x, d, l, m, k0, L, L2, S2.length, botR (fillW gs).1 S2⟩
  have nk8 : H8 k0 = none := k9.none nk0 no
  have mir2 : StoA H11 m k0 L2 ts (fillW gs).1 (S2.drop S2.length) := ⟨(lin2.off k9c).dic, (lin2.off k9c).rows, ⟨[], k11 _ _ ek0 no, by rw [List.drop_length]; exact .nil fun _ z => z⟩⟩
  have mu8 : ∀ b, Mu ts L2 k0 b → H8 b = none := fun b z => by
    rcases z with rfl | ⟨t, ht, rfl⟩
    · exact nk8
    · exact frL t ht
  have tw2 : Twin K H11 st A ts (fillW gs).1 S2 := by
    refine ⟨est, sto2.off k8c, mir2, sp2, ⟨inj2, fun t ht z => ?_⟩, fun b z y => ?_, Nat.le_refl _, rfl⟩
    · obtain ⟨ys, ey, _⟩ := lin2.rows t ht
      have z' : L2 t.1 = k0 := z
      rw [z', nk0] at ey
      cases ey
    · obtain ⟨ys, ey⟩ := sto2.sto.lst b z
      rw [mu8 b y] at ey
      cases ey
  have mu6 : ∀ b, A.mu ts b → H6 b = none ∨ H8 b = none := fun b z => z.elim (fun z => .inl (fr2 b z)) fun z => .inr (mu8 b z)
  have stay : Stay K C pl A ts rs := ⟨bk, CP, CB, fun b z => (mu6 b z).elim (fun z => kC6.none z no) fun z => kC8.none z no, kC8.none nm no, kC6.none fd2 no⟩
  have kC11 : Off (fun _ => False) C H11 := kC9.trans k9c
  clear mir2 lin2 sto2 og8 og eg8 eg est ek0 mu8 mu6 frL fr2 k11 k10 k9c k8c k9 k8 k6 pt hp8 hp6 lp6 inj2 fd2 fs2 nk8 nk0 nm
  generalize hA : A = A' at tw2 stay
  clear hA
  clear A
  dsimp only [gName]
  show tSeq _ _ _ [some (.ref a), some (.ref p), some (.ref wa), some w, some (.ref x), some (.ref pl), some (.ref g0), some (.ref st), some (.int 14), none, none, none, none] _
  have hb : ∀ L : Nat, (-(2 ^ 62) ≤ (if (if (L : Int) < 21 then (L : Int) else 21) > 5 then (if (L : Int) < 21 then (L : Int) else 21) else 5)) ∧ (if (if (L : Int) < 21 then (L : Int) else 21) > 5 then (if (L : Int) < 21 then (L : Int) else 21) else 5) ≤ 21 := by
    intro L
    split <;> split <;> omega
  obtain ⟨h1, h2⟩ := hb (ns.map V.int).length
  refine ⟨_, rfl, a, _, rfl, .inl (sqL_off (kHC.trans kC11) hS), _, _, rfl, _, _, rfl, 1, _, rfl, ⟨by decide, by decide, h1, by omega⟩, for_range (lo := 1) (fun i σ G => (∃ (w1 w9 w10 w11 w12 : Option V) (n : Int), σ = [some (.ref a), w1, some (.ref wa), some w, some (.ref x), some (.ref pl), some (.ref g0), some (.ref st), some (.int n), w9, w10, w11, w12] ∧ 0 ≤ n ∧ n ≤ 183) ∧
      Off (fun _ => False) C G ∧ ∃ R S, Twin K G st A' ts R S ∧ Hist ts rs R S ∧ S.length ≤ 60 + 9 * i)
    ⟨⟨_, _, _, _, _, 14, rfl, by decide, by decide⟩, kC11, _, _, tw2, hist2, ls2⟩ (fun i σ G hi g => ?_) fun σ G g => ?_⟩
  · obtain ⟨⟨w1, w9, w10, w11, w12, n, rfl, n0, n1⟩, kC, R, S, tw, hist, lS⟩ := g
    have hi63 : i < 63 := by omega
    dsimp only [gName]
    refine ⟨_, rfl, _, rfl, a, ns, 1 + (i : Int), rfl, sqL_off (kHC.trans kC) hS, by omega, by omega, fun p2 np2 G1 pu1 b1 => ?_⟩
    have k1 : Off (fun _ => False) G G1 := fun b o e n => by
      rw [b1 b (ne_of_none e np2)]
      exact e
    have Cp2 : C p2 = none := kC.none np2 no
    have pm : ¬ A'.mu ts p2 := fun z => by
      obtain ⟨xs, e⟩ := tw.lst _ z
      rw [np2] at e
      cases e
    have kC1 := kC.trans k1
    have tw1 := tw.off k1
    clear b1 k1 tw kC np2
    obtain ⟨xs, csq, cda⟩ : ∃ xs, SqL K C wa xs ∧ DpAll K C xs (ts.map tabD) := by
      cases CT with
      | lst h r => exact ⟨_, h, r⟩
    have lxs : xs.length = ts.length := by rw [dpAll_len cda, List.length_map]
    dsimp only [gName]
    have t1 := tk.one
    have t6 := tk.most
    refine ⟨_, rfl, _, rfl, _, rfl, wa, _, rfl, .inl (sqL_off kC1 csq), p2, _, 0, rfl, pu1, by decide, by omega, by omega, fun j G2 j0 j1 pu2 b2 => ?_⟩
    obtain ⟨jn, rfl⟩ : ∃ n : Nat, j = (n : Int) := ⟨j.toNat, by omega⟩
    have hj : jn < ts.length := by omega
    have hut : ts[jn]? = some ts[jn] := List.getElem?_eq_getElem hj
    have mu := List.getElem_mem hj
    generalize ts[jn] = u at hut mu
    obtain ⟨v, ev, dv⟩ := dpAll_get (i := jn) (d := tabD u) cda (by rw [List.getElem?_map, hut]; rfl)
    obtain ⟨ta, v2, rfl, sta, _⟩ := dp_tab dv
    have nC : ∀ {b : Addr} {o : HO}, C b = some o → b ≠ p2 := fun {b o} e z => by
      rw [z, Cp2] at e
      cases e
    have kC2 : Off (fun _ => False) C G2 := fun b o e _ => b2.off _ _ (kC1 b o e no) (nC e)
    have tw2' := tw1.keep b2.off (fun a z => by
      obtain ⟨ys, ey⟩ := pu1.lst
      exact ⟨ys, z ▸ ey⟩) fun a z y => pm (y ▸ z)
    clear b2 tw1 pu1 kC1
    refine ⟨wa, _, jn, .ref ta, rfl, rfl, sqL_off kC2 csq, atI_nat ev, ta, _, 0, .str u.1, rfl, rfl, sqT_off kC2 sta, atI_nat (j := 0) rfl, ?_⟩
    have hx : u.1 ∈ ts.map Prod.fst := List.mem_map.mpr ⟨u, mu, rfl⟩
    have mi := tw2'.mir
    have dgO : ∀ {G' : Hp} {R' : Str → List Row} {S' : List Stp}, StoA G' A'.m A'.k A'.L' ts R' S' → DGet G' A'.m (.str u.1) (some (.ref (A'.L' u.1))) := fun {G' R' S'} h => by
      have := DGet.k (k := .inr u.1) h.dic
      rw [valV_dkv, if_pos hx] at this
      exact this
    obtain ⟨vs, evs, ovs⟩ := mi.rows u mu
    have lv : vs.length = (R u.1).length := by rw [ovs.length, List.length_map]
    have few := hist.good.few u mu
    have lcol := (bk.tk.each u mu).most
    have lone := (bk.tk.each u mu).one
    dsimp only [gName]
    refine ⟨_, rfl, st, _, 1, .ref A'.m, rfl, rfl, SqT.of tw2'.tup, atI_nat (j := 1) rfl, _, rfl, A'.m, _, rfl, dgO mi, A'.L' u.1, _, rfl, .inl (SqL.of evs), ?_⟩
    rw [lv]
    obtain ⟨td, v0, kvs, cpl, ctd, ctk, _⟩ := CP.ex
    obtain ⟨ca, hca⟩ : ∃ ca, ∀ G', Off (fun _ => False) C G' → DGet G' td (.str u.1) (some (.ref ca)) ∧ SqL K G' ca (u.2.map V.str) := by
      rcases titK_at (x := u.1) ctk with ⟨z1, z2⟩ | ⟨vc, tb, u1, u2, u3⟩
      · exact absurd hx (tabOf_in.mp z2)
      · obtain ⟨m0, y0⟩ := tabOf_mem u2
        rw [fst_inj tnd m0 mu y0] at u3
        obtain ⟨ca, rfl, sca⟩ := dp_cols u3
        refine ⟨ca, fun G' k => ⟨?_, sqL_off k sca⟩⟩
        have dg := DGet.k (k := .inr u.1) (k _ _ ctd no)
        rw [u1] at dg
        exact dg
    obtain ⟨dgt, sca⟩ := hca G2 kC2
    dsimp only [gName]
    refine ⟨_, rfl, _, rfl, pl, _, 0, .ref td, rfl, rfl, SqT.of (kC2 _ _ cpl no), atI_nat (j := 0) rfl, _, rfl, td, _, rfl, dgt, _, rfl, st, _, 1, .ref A'.m, rfl, rfl, SqT.of tw2'.tup, atI_nat (j := 1) rfl, _, rfl, A'.m, _, rfl, dgO mi, p2, ca, A'.L' u.1, u.2, vs, R u.1, 0 + 1, rfl, sca, lone, by omega, evs, fun z => pm (.inr (.inr ⟨u, mu, z.symm⟩)), ovs, by omega, hist.good.wd u mu, pu2, by decide, fun t row H3 c3 et3 lrow wok p3 lc3 k3 => ?_⟩
    have kC3 : Off (fun _ => False) C H3 := fun b o e _ => k3 _ _ (kC2 _ _ e no) (nC e)
    have tw3 := tw2'.keep k3 (fun a z => by
      obtain ⟨ys, ey⟩ := pu2.lst
      exact ⟨ys, z ▸ ey⟩) fun a z y => pm (y ▸ z)
    obtain ⟨dgt3, sca3⟩ := hca H3 kC3
    clear mi evs ovs lv tw2' kC2 k3 pu2 dgt sca hca
    dsimp only [gName]
    refine ⟨_, rfl, t, _, rfl, .inr (SqT.of et3), _, rfl, pl, _, 0, .ref td, rfl, rfl, SqT.of (kC3 _ _ cpl no), atI_nat (j := 0) rfl, _, rfl, td, _, rfl, dgt3, ca, _, rfl, .inl sca3, rfl, _, rfl, ite2 (fun ce => ?_) (fun _ => ?_)⟩
    · have lrow' : row.length = u.2.length := by
        have := V.int.inj (of_decide_eq_true ce)
        rw [List.length_map, List.length_map] at this
        omega
      refine ⟨_, rfl, _, rfl, _, _, rfl, rfl, .inl ⟨by decide, by decide⟩, _, _, rfl, rfl, _, _, rfl, rfl, _, rfl, ite2 (fun cl => ?_) (fun _ => ?_)⟩
      · have hn := of_decide_eq_true cl
        refine ⟨_, rfl, _, rfl, _, _, rfl, rfl, .inl ⟨by decide, by decide⟩, _, _, rfl, rfl, _, _, rfl, rfl, ?_⟩
        dsimp only [gName]
        refine ⟨_, rfl, _, rfl, _, rfl, _, rfl, _, rfl, p2, st, pl, t, C, A', ts, rs, R, S, u, row, c3, rfl, p3, by omega, bk, stay.base kC3 Cp2 pm, tw3, hist, by omega, mu, et3, lrow', wok, fun R4 S4 H4 c4 tw4 hi4 lS4 p4 lc4 k4 => ⟨_, rfl, iteF ⟨⟨_, _, _, _, _, _, rfl, by omega, by omega⟩, ((stay.base kC3 Cp2 pm).go k4).sub, R4, S4, tw4, hi4, by omega⟩⟩⟩
      · exact ⟨⟨_, _, _, _, _, n, rfl, n0, n1⟩, kC3, R, S, tw3, hist, by omega⟩
    · exact ⟨⟨_, _, _, _, _, n, rfl, n0, n1⟩, kC3, R, S, tw3, hist, by omega⟩
  obtain ⟨⟨w1, w9, w10, w11, w12, n, rfl, n0, n1⟩, kC, R, S, tw, hist, lS⟩ := g
  exact ⟨_, rfl, _, rfl, st, pl, C, A', ts, rs, R, S, rfl, bk, kC, CP, tw, hist.good, stay.dC, stay.mC, fun G2 k2 => q G2⟩
end
end LW
set_option Elab.async false
set_option linter.all false
set_option maxRecDepth 100000
set_option maxHeartbeats 0
/-! the end -/
namespace LW
open PySem PySem.Spec PyProof.Rows L2 KV
section
variable {P : Program} {w : World} {K : PySem.W.Frag} {h : Heap} {mg : Str → Option Value}
theorem facts {f : Addr} (X : K.In h) (G : h.Ns mainGlobals mg) (hfa : mg ("law" : Str) = some (.ref f)) (c : SaysB fa fn ex K) :
    ∃ fd : FuncData, (∀ (s : Shared) (v : Value), BindsTo s fd ⟨[v], []⟩ [("script", v)]) ∧ ∀ base : Heap, K.In base → base.Ns mainGlobals mg → FnC P w K mg base CX0 13 f fd ["script"] (spLaw K) := by
  obtain ⟨_, _, cx⟩ := c.parts
  obtain ⟨cE, cx⟩ := He.ba cx
  obtain ⟨cI, cx⟩ := He.ba cx
  obtain ⟨cT, cx⟩ := He.ba cx
  obtain ⟨cR, cx⟩ := He.ba cx
  obtain ⟨cC, cx⟩ := He.ba cx
  obtain ⟨cF, cx⟩ := He.ba cx
  obtain ⟨cQ, cx⟩ := He.ba cx
  have cK := cx
  have es := errsB_ok cE
  have gl : ∀ x ∈ names, mg x = some (.ref (He.ga K x)) := fun x hx => He.glo_ok X G (c.facts (List.mem_append_left _ (List.mem_map_of_mem hx)))
  have gf : ∀ x ∈ fnNames, mg x = some (.ref (He.ga K x)) := fun x hx => He.glo_ok X G (c.facts (List.mem_append_right _ (List.mem_append_left _ (List.mem_map_of_mem hx))))
  have gb : ∀ x ∈ bltNames, mg x = none := fun x hx => He.free_ok X G (c.facts (List.mem_append_right _ (List.mem_append_right _ (List.mem_append_left _ (List.mem_map_of_mem hx)))))
  have gx : ∀ y ∈ names.tail, PySem.W.exmOne K (.ref (He.ga K y)) (.ref (He.ga K "KeyTellError")) = some true := fun y hy =>
    He.exm_ok (c.facts (List.mem_append_right _ (List.mem_append_right _ (List.mem_append_right _ (List.mem_append_left _ (List.mem_map_of_mem (f := fun y => He.Fa.exm y "KeyTellError" true) hy))))))
  have gg : ∀ x ∈ (["Book", "RULE_FORMS", "Store", "QUESTION_FORMS"] : List Str), mg x = some (.ref (He.ga K x)) := fun x hx =>
    He.glo_ok X G (c.facts (List.mem_append_right _ (List.mem_append_right _ (List.mem_append_right _ (List.mem_append_right _ (List.mem_append_left _ (List.mem_map_of_mem hx)))))))
  have go : ∀ q ∈ own, q.ok K = true := fun q hq => c.facts (List.mem_append_right _ (List.mem_append_right _ (List.mem_append_right _ (List.mem_append_right _ (List.mem_append_right _ hq)))))
  have B : BookT K mg := ⟨He.cls_ok (go (.cls "Book") (by simp [own])), He.noat_ok (go (.noat "Book" "_tables") (by simp [own])), He.noat_ok (go (.noat "Book" "_rules") (by simp [own])), He.mkr_ok (go (.mkr "Book") (by simp [own])), gg "Book" (by decide), itemB_ok cI⟩
  have IC : C8.InsC K (He.ga K "Book") := isCB_ok B.cl cC
  have mSO : L2.Meth K (He.ga K "Store") "rows" (He.ma K (He.ga K "Store") "rows") := He.meth_ok (go (.meth "Store" "rows") (by simp [own]))
  have mSP : L2.Meth K (He.ga K "Store") "put" (He.ma K (He.ga K "Store") "put") := He.meth_ok (go (.meth "Store" "put") (by simp [own]))
  have mST : L2.Meth K (He.ga K "Store") "take" (He.ma K (He.ga K "Store") "take") := He.meth_ok (go (.meth "Store" "take") (by simp [own]))
  have mSU : L2.Meth K (He.ga K "Store") "undo" (He.ma K (He.ga K "Store") "undo") := He.meth_ok (go (.meth "Store" "undo") (by simp [own]))
  have mSL : L2.Meth K (He.ga K "Store") "__len__" (He.ma K (He.ga K "Store") "__len__") := He.meth_ok (go (.meth "Store" "__len__") (by simp [own]))
  have mSC : L2.Meth K (He.ga K "Store") "__call__" (He.ma K (He.ga K "Store") "__call__") := He.meth_ok (go (.meth "Store" "__call__") (by simp [own]))
  have mWi : L2.Meth K (He.ga K "Book") "with_rules" (He.ma K (He.ga K "Book") "with_rules") := He.meth_ok (go (.meth "Book" "with_rules") (by simp [own]))
  have mWt : L2.Meth K (He.ga K "Book") "without" (He.ma K (He.ga K "Book") "without") := He.meth_ok (go (.meth "Book" "without") (by simp [own]))
  obtain ⟨t8, m8⟩ := He.int_ok X G (go (.int "LONGEST_NAME" 8) (by simp [own]))
  obtain ⟨dI, FI⟩ := c.def_ 0 (d := dM "KeyTellError" "__init__" "KeyTellError.__init__" pKeyTellError_init) rfl
  obtain ⟨dB, FB⟩ := c.def_ 1 (d := dM "Book" "__init__" "Book.__init__" pBook_init) rfl
  obtain ⟨dIt, FIt⟩ := c.def_ 2 (d := dM "Book" "__getitem__" "Book.__getitem__" pBook_getitem) rfl
  obtain ⟨dGT, FGT⟩ := c.def_ 3 (d := dG "Book" "tables" "Book.tables" pBook_tables) rfl
  obtain ⟨dGR, FGR⟩ := c.def_ 4 (d := dG "Book" "rules" "Book.rules" pBook_rules) rfl
  obtain ⟨dCT, FCT⟩ := c.def_ 5 (d := dD "check_tables" pCheckTables) rfl
  obtain ⟨dCC, FCC⟩ := c.def_ 6 (d := dD "check_columns" pCheckColumns) rfl
  obtain ⟨dCN, FCN⟩ := c.def_ 7 (d := dD "check_name" pCheckName) rfl
  obtain ⟨dCR, FCR⟩ := c.def_ 8 (d := dD "check_rule" pCheckRule) rfl
  obtain ⟨dIN, FIN⟩ := c.def_ 9 (d := dD "is_name" pIsName) rfl
  obtain ⟨dHF, FHF⟩ := c.def_ 10 (d := dD "has_form" pHasForm) rfl
  obtain ⟨dCp, FCp⟩ := c.def_ 11 (d := dD "copied" pCopied) rfl
  obtain ⟨dWi, FWi⟩ := c.def_ 12 (d := dM "Book" "with_rules" "Book.with_rules" pBook_with_rules) rfl
  obtain ⟨dWt, FWt⟩ := c.def_ 13 (d := dM "Book" "without" "Book.without" pBook_without) rfl
  obtain ⟨dRd, FRd⟩ := c.def_ 14 (d := dD "read_book" pReadBook) rfl
  obtain ⟨dTR, FTR⟩ := c.def_ 15 (d := dD "tables_and_rules" pTablesAndRules) rfl
  obtain ⟨dRO, FRO⟩ := c.def_ 16 (d := dD "rule_of" pRuleOf) rfl
  obtain ⟨dSh, FSh⟩ := c.def_ 17 (d := dD "show_book" pShowBook) rfl
  obtain ⟨dRT, FRT⟩ := c.def_ 18 (d := dD "rule_text" pRuleText) rfl
  obtain ⟨dSI, FSI⟩ := c.def_ 19 (d := dM "Store" "__init__" "Store.__init__" pStore_init) rfl
  obtain ⟨dSL, FSL⟩ := c.def_ 20 (d := dM "Store" "__len__" "Store.__len__" pStore_len) rfl
  obtain ⟨dSC, FSC⟩ := c.def_ 21 (d := dM "Store" "__call__" "Store.__call__" pStore_call) rfl
  obtain ⟨dSO, FSO⟩ := c.def_ 22 (d := dM "Store" "rows" "Store.rows" pStore_rows) rfl
  obtain ⟨dSP, FSP⟩ := c.def_ 23 (d := dM "Store" "put" "Store.put" pStore_put) rfl
  obtain ⟨dST, FST⟩ := c.def_ 24 (d := dM "Store" "take" "Store.take" pStore_take) rfl
  obtain ⟨dSU, FSU⟩ := c.def_ 25 (d := dM "Store" "undo" "Store.undo" pStore_undo) rfl
  obtain ⟨dFi, FFi⟩ := c.def_ 26 (d := dD "filled" pFilled) rfl
  obtain ⟨dBr, FBr⟩ := c.def_ 27 (d := dD "breaks" pBreaks) rfl
  obtain ⟨dPl, FPl⟩ := c.def_ 28 (d := dD "places_of" pPlacesOf) rfl
  obtain ⟨dVa, FVa⟩ := c.def_ 29 (d := dD "values_at" pValuesAt) rfl
  obtain ⟨dSn, FSn⟩ := c.def_ 30 (d := dD "shown" pShown) rfl
  obtain ⟨dBA, FBA⟩ := c.def_ 31 (d := dD "shown_by_all" pShownByAll) rfl
  obtain ⟨dAn, FAn⟩ := c.def_ 32 (d := dD "answered" pAnswered) rfl
  obtain ⟨dPu, FPu⟩ := c.def_ 33 (d := dD "_law_purse" sPurse) rfl
  obtain ⟨dCo, FCo⟩ := c.def_ 34 (d := dD "_law_coin" sCoin) rfl
  obtain ⟨dWo, FWo⟩ := c.def_ 35 (d := dD "_law_words" sWords) rfl
  obtain ⟨dDT, FDT⟩ := c.def_ 36 (d := dD "_law_drawn_tables" sDrawnTables) rfl
  obtain ⟨dDR, FDR⟩ := c.def_ 37 (d := dD "_law_drawn_rules" sDrawnRules) rfl
  obtain ⟨dLC, FLC⟩ := c.def_ 38 (d := dD "_law_copied" sCopied) rfl
  obtain ⟨dMu, FMu⟩ := c.def_ 39 (d := dD "_law_muddle" sMuddle) rfl
  obtain ⟨dOw, FOw⟩ := c.def_ 40 (d := dD "_law_own" sOwn) rfl
  obtain ⟨dRo, FRo⟩ := c.def_ 41 (d := dD "_law_road" sRoad) rfl
  obtain ⟨dWr, FWr⟩ := c.def_ 42 (d := dD "_law_worth" sWorth) rfl
  obtain ⟨dLB, FLB⟩ := c.def_ 43 (d := dD "_law_broken" sBroken) rfl
  obtain ⟨dPt, FPt⟩ := c.def_ 44 (d := dD "_law_puts" sPuts) rfl
  obtain ⟨dLi, FLi⟩ := c.def_ 45 (d := dD "_law_lines" sLines) rfl
  obtain ⟨dSr, FSr⟩ := c.def_ 46 (d := dD "_law_store" sStore) rfl
  obtain ⟨dKi, FKi⟩ := c.def_ 47 (d := dD "_law_kinds" sKinds) rfl
  obtain ⟨dER, FER⟩ := c.def_ 48 (d := dD "_law_error_right" sErrorRight) rfl
  obtain ⟨dSp, FSp⟩ := c.def_ 49 (d := dD "_law_shape" sShape) rfl
  obtain ⟨dNL, FNL⟩ := c.def_ 50 (d := dD "_law_new_line" sNewLine) rfl
  obtain ⟨dPD, FPD⟩ := c.def_ 51 (d := dD "_law_put_due" sPutDue) rfl
  obtain ⟨dUN, FUN⟩ := c.def_ 52 (d := dD "_law_undo_right" sUndoRight) rfl
  obtain ⟨dAL, FAL⟩ := c.def_ 53 (d := dD "_law_all_right" sAllRight) rfl
  obtain ⟨dTu, FTu⟩ := c.def_ 54 (d := dD "_law_turned_rules" sTurnedRules) rfl
  obtain ⟨dPC, FPC⟩ := c.def_ 55 (d := dD "_law_put_caught" sPutCaught) rfl
  obtain ⟨dCL, FCL⟩ := c.def_ 56 (d := dD "_law_clashes" sClashes) rfl
  obtain ⟨dLT, FLT⟩ := c.def_ 57 (d := dD "_law_let_in" sLetIn) rfl
  obtain ⟨dLa, FLa⟩ := c.def_ 58 (d := dD "law" sLaw) rfl
  have e := hfa.symm.trans (gf "law" (by decide))
  cases e
  have bI : Binds K dI ["self", "value"] [] := FI.bindsN fun _ _ _ _ _ _ us hl => match us, hl with | [_, _], _ => rfl
  have bB : Binds K dB ["self", "tables", "rules"] [] := FB.bindsN fun _ _ _ _ _ _ us hl => match us, hl with | [_, _, _], _ => rfl
  have bIt : Binds K dIt ["self", "name"] [] := FIt.bindsN fun _ _ _ _ _ _ us hl => match us, hl with | [_, _], _ => rfl
  have bGT : Binds K dGT ["self"] [] := FGT.bindsN fun _ _ _ _ _ _ us hl => match us, hl with | [_], _ => rfl
  have bGR : Binds K dGR ["self"] [] := FGR.bindsN fun _ _ _ _ _ _ us hl => match us, hl with | [_], _ => rfl
  have bCT : Binds K dCT ["tables"] [] := FCT.bindsN fun _ _ _ _ _ _ us hl => match us, hl with | [_], _ => rfl
  have bCC : Binds K dCC ["columns"] [] := FCC.bindsN fun _ _ _ _ _ _ us hl => match us, hl with | [_], _ => rfl
  have bCN : Binds K dCN ["name", "before"] [] := FCN.bindsN fun _ _ _ _ _ _ us hl => match us, hl with | [_, _], _ => rfl
  have bCR : Binds K dCR ["book", "rule"] [] := FCR.bindsN fun _ _ _ _ _ _ us hl => match us, hl with | [_, _], _ => rfl
  have bIN : Binds K dIN ["text"] [] := FIN.bindsN fun _ _ _ _ _ _ us hl => match us, hl with | [_], _ => rfl
  have bHF : Binds K dHF ["thing", "forms"] [] := FHF.bindsN fun _ _ _ _ _ _ us hl => match us, hl with | [_, _], _ => rfl
  have bCp : Binds K dCp ["thing"] [] := FCp.bindsN fun _ _ _ _ _ _ us hl => match us, hl with | [_], _ => rfl
  have bWi : Binds K dWi ["self", "more"] [] := FWi.bindsN fun _ _ _ _ _ _ us hl => match us, hl with | [_, _], _ => rfl
  have bWt : Binds K dWt ["self", "index"] [] := FWt.bindsN fun _ _ _ _ _ _ us hl => match us, hl with | [_, _], _ => rfl
  have bRd : Binds K dRd ["text"] [] := FRd.bindsN fun _ _ _ _ _ _ us hl => match us, hl with | [_], _ => rfl
  have bTR : Binds K dTR ["text"] [] := FTR.bindsN fun _ _ _ _ _ _ us hl => match us, hl with | [_], _ => rfl
  have bRO : Binds K dRO ["words"] [] := FRO.bindsN fun _ _ _ _ _ _ us hl => match us, hl with | [_], _ => rfl
  have bSh : Binds K dSh ["book"] [] := FSh.bindsN fun _ _ _ _ _ _ us hl => match us, hl with | [_], _ => rfl
  have bRT : Binds K dRT ["rule"] [] := FRT.bindsN fun _ _ _ _ _ _ us hl => match us, hl with | [_], _ => rfl
  have bSI : Binds K dSI ["self", "book"] [] := FSI.bindsN fun _ _ _ _ _ _ us hl => match us, hl with | [_, _], _ => rfl
  have bSL : Binds K dSL ["self"] [] := FSL.bindsN fun _ _ _ _ _ _ us hl => match us, hl with | [_], _ => rfl
  have bSC : Binds K dSC ["self", "question"] [] := FSC.bindsN fun _ _ _ _ _ _ us hl => match us, hl with | [_, _], _ => rfl
  have bSO : Binds K dSO ["self", "table"] [] := FSO.bindsN fun _ _ _ _ _ _ us hl => match us, hl with | [_, _], _ => rfl
  have bSP : Binds K dSP ["self", "table", "row"] [] := FSP.bindsN fun _ _ _ _ _ _ us hl => match us, hl with | [_, _, _], _ => rfl
  have bST : Binds K dST ["self", "table", "index"] [] := FST.bindsN fun _ _ _ _ _ _ us hl => match us, hl with | [_, _, _], _ => rfl
  have bSU : Binds K dSU ["self"] [] := FSU.bindsN fun _ _ _ _ _ _ us hl => match us, hl with | [_], _ => rfl
  have bFi : Binds K dFi ["book", "rows"] [] := FFi.bindsN fun _ _ _ _ _ _ us hl => match us, hl with | [_, _], _ => rfl
  have bBr : Binds K dBr ["rule", "columns", "present", "row"] [] := FBr.bindsN fun _ _ _ _ _ _ us hl => match us, hl with | [_, _, _, _], _ => rfl
  have bPl : Binds K dPl ["columns", "names"] [] := FPl.bindsN fun _ _ _ _ _ _ us hl => match us, hl with | [_, _], _ => rfl
  have bVa : Binds K dVa ["row", "places"] [] := FVa.bindsN fun _ _ _ _ _ _ us hl => match us, hl with | [_, _], _ => rfl
  have bSn : Binds K dSn ["book", "question"] [] := FSn.bindsN fun _ _ _ _ _ _ us hl => match us, hl with | [_, _], _ => rfl
  have bBA : Binds K dBA ["book", "table", "short"] [] := FBA.bindsN fun _ _ _ _ _ _ us hl => match us, hl with | [_, _, _], _ => rfl
  have bAn : Binds K dAn ["book", "tables", "question"] [] := FAn.bindsN fun _ _ _ _ _ _ us hl => match us, hl with | [_, _, _], _ => rfl
  have bPu : Binds K dPu ["script", "place"] [] := FPu.bindsN fun _ _ _ _ _ _ us hl => match us, hl with | [_, _], _ => rfl
  have bCo : Binds K dCo ["purse", "many"] [] := FCo.bindsN fun _ _ _ _ _ _ us hl => match us, hl with | [_, _], _ => rfl
  have bWo : Binds K dWo ["purse", "many"] [] := FWo.bindsN fun _ _ _ _ _ _ us hl => match us, hl with | [_, _], _ => rfl
  have bDT : Binds K dDT ["purse", "most_tables", "most_columns"] [] := FDT.bindsN fun _ _ _ _ _ _ us hl => match us, hl with | [_, _, _], _ => rfl
  have bDR : Binds K dDR ["purse", "tables_here", "most"] [] := FDR.bindsN fun _ _ _ _ _ _ us hl => match us, hl with | [_, _, _], _ => rfl
  have bLC : Binds K dLC ["thing"] [] := FLC.bindsN fun _ _ _ _ _ _ us hl => match us, hl with | [_], _ => rfl
  have bMu : Binds K dMu ["thing"] [] := FMu.bindsN fun _ _ _ _ _ _ us hl => match us, hl with | [_], _ => rfl
  have bOw : Binds K dOw ["told", "due"] [] := FOw.bindsN fun _ _ _ _ _ _ us hl => match us, hl with | [_, _], _ => rfl
  have bRo : Binds K dRo ["purse", "tables_here", "rules_here"] [] := FRo.bindsN fun _ _ _ _ _ _ us hl => match us, hl with | [_, _, _], _ => rfl
  have bWr : Binds K dWr ["purse"] [] := FWr.bindsN fun _ _ _ _ _ _ us hl => match us, hl with | [_], _ => rfl
  have bLB : Binds K dLB ["titles", "rules_here", "lines"] [] := FLB.bindsN fun _ _ _ _ _ _ us hl => match us, hl with | [_, _, _], _ => rfl
  have bPt : Binds K dPt ["purse", "tables_here", "rules_here", "most", "most_each"] [] := FPt.bindsN fun _ _ _ _ _ _ us hl => match us, hl with | [_, _, _, _, _], _ => rfl
  have bLi : Binds K dLi ["tables_here", "puts"] [] := FLi.bindsN fun _ _ _ _ _ _ us hl => match us, hl with | [_, _], _ => rfl
  have bSr : Binds K dSr ["purse", "made", "puts"] [] := FSr.bindsN fun _ _ _ _ _ _ us hl => match us, hl with | [_, _, _], _ => rfl
  have bKi : Binds K dKi ["caught"] [] := FKi.bindsN fun _ _ _ _ _ _ us hl => match us, hl with | [_], _ => rfl
  have bER : Binds K dER ["caught", "due"] [] := FER.bindsN fun _ _ _ _ _ _ us hl => match us, hl with | [_, _], _ => rfl
  have bSp : Binds K dSp ["purse"] [] := FSp.bindsN fun _ _ _ _ _ _ us hl => match us, hl with | [_], _ => rfl
  have bNL : Binds K dNL ["purse", "known", "held"] [] := FNL.bindsN fun _ _ _ _ _ _ us hl => match us, hl with | [_, _, _], _ => rfl
  have bPD : Binds K dPD ["plan", "lines", "title", "line"] [] := FPD.bindsN fun _ _ _ _ _ _ us hl => match us, hl with | [_, _, _, _], _ => rfl
  have bUN : Binds K dUN ["state"] [] := FUN.bindsN fun _ _ _ _ _ _ us hl => match us, hl with | [_], _ => rfl
  have bAL : Binds K dAL ["state", "plan"] [] := FAL.bindsN fun _ _ _ _ _ _ us hl => match us, hl with | [_, _], _ => rfl
  have bTu : Binds K dTu ["purse", "rules_here"] [] := FTu.bindsN fun _ _ _ _ _ _ us hl => match us, hl with | [_, _], _ => rfl
  have bPC : Binds K dPC ["store", "title", "line"] [] := FPC.bindsN fun _ _ _ _ _ _ us hl => match us, hl with | [_, _, _], _ => rfl
  have bCL : Binds K dCL ["plan", "lines", "title", "line"] [] := FCL.bindsN fun _ _ _ _ _ _ us hl => match us, hl with | [_, _, _, _], _ => rfl
  have bLT : Binds K dLT ["purse", "state", "plan", "title", "line"] [] := FLT.bindsN fun _ _ _ _ _ _ us hl => match us, hl with | [_, _, _, _, _], _ => rfl
  have bL := FunD.bindsA (ps := ["script"]) FLa fun _ _ _ _ _ _ us hl => match us, hl with | [_], _ => rfl
  have bk : ∀ (s : Shared) (a u : Value), BindsTo s dI ⟨[a], [("value", u)]⟩ [("self", a), ("value", u)] := by
    obtain ⟨oc, od, dV, kV, doc, pm, an, cdv, ct, osl, rfl, lk, hcd, hD, hK⟩ := FI.ex
    rcases hD with ⟨_, rfl⟩ | ⟨e, _⟩
    · intro s a u
      exact .of_eq (by rfl)
    · exact absurd rfl e
  have kSP : KBn K dSP ["self", "table", "row"] 1 ["table", "row"] (fun us ws => us ++ ws) (fun us zs => us ++ zs) := by
    obtain ⟨oc, od, dV, kV, doc, pm, an, cdv, ct, osl, rfl, lk, hcd, hD, hK⟩ := FSP.ex
    rcases hD with ⟨_, rfl⟩ | ⟨e, _⟩
    · refine ⟨fun s us ws _ h1 h2 => ?_, fun r1 r2 => r1.append r2⟩
      match us, ws, h1, h2 with
      | [a], [x, y], _, _ => exact .of_eq (by rfl)
    · exact absurd rfl e
  have kST : KBn K dST ["self", "table", "index"] 1 ["table", "index"] (fun us ws => us ++ ws) (fun us zs => us ++ zs) := by
    obtain ⟨oc, od, dV, kV, doc, pm, an, cdv, ct, osl, rfl, lk, hcd, hD, hK⟩ := FST.ex
    rcases hD with ⟨_, rfl⟩ | ⟨e, _⟩
    · refine ⟨fun s us ws _ h1 h2 => ?_, fun r1 r2 => r1.append r2⟩
      match us, ws, h1, h2 with
      | [a], [x, y], _, _ => exact .of_eq (by rfl)
    · exact absurd rfl e
  have kSO : KBn K dSO ["self", "table"] 1 ["table"] (fun us ws => us ++ ws) (fun us zs => us ++ zs) := by
    obtain ⟨oc, od, dV, kV, doc, pm, an, cdv, ct, osl, rfl, lk, hcd, hD, hK⟩ := FSO.ex
    rcases hD with ⟨_, rfl⟩ | ⟨e, _⟩
    · refine ⟨fun s us ws _ h1 h2 => ?_, fun r1 r2 => r1.append r2⟩
      match us, ws, h1, h2 with
      | [a], [x], _, _ => exact .of_eq (by rfl)
    · exact absurd rfl e
  have kB : KBn K dB ["self", "tables", "rules"] 1 ["tables", "rules"] (fun us ws => us ++ ws) (fun us zs => us ++ zs) := by
    obtain ⟨oc, od, dV, kV, doc, pm, an, cdv, ct, osl, rfl, lk, hcd, hD, hK⟩ := FB.ex
    rcases hD with ⟨_, rfl⟩ | ⟨e, _⟩
    · refine ⟨fun s us ws _ h1 h2 => ?_, fun r1 r2 => r1.append r2⟩
      match us, ws, h1, h2 with
      | [a], [x, y], _, _ => exact .of_eq (by rfl)
    · exact absurd rfl e
  have kSI : KBn K dSI ["self", "book"] 1 ["book"] (fun us ws => us ++ ws) (fun us zs => us ++ zs) := by
    obtain ⟨oc, od, dV, kV, doc, pm, an, cdv, ct, osl, rfl, lk, hcd, hD, hK⟩ := FSI.ex
    rcases hD with ⟨_, rfl⟩ | ⟨e, _⟩
    · refine ⟨fun s us ws _ h1 h2 => ?_, fun r1 r2 => r1.append r2⟩
      match us, ws, h1, h2 with
      | [a], [x], _, _ => exact .of_eq (by rfl)
    · exact absurd rfl e
  refine ⟨dLa, fun s v => bL s [v] rfl, fun base _ _ => ?_⟩
  have T : ErrT P w K mg base dI := ⟨es, gl, ok_init FI, bI, bk⟩
  have mi := gb "int" (by decide)
  have mis := gb "isinstance" (by decide)
  have ml := gb "list" (by decide)
  have mt := gb "tuple" (by decide)
  have mr := gb "range" (by decide)
  have mn := gb "len" (by decide)
  have mp := gb "repr" (by decide)
  have mC := gf "_law_coin" (by decide)
  have gIN := ok_isN (P := P) (w := w) (base := base) FIN mn (gb "all" (by decide)) m8
  have gCN := ok_chkN FCN T gIN bIN (gf "is_name" (by decide)) FIN.kp
  have gCC := ok_chkC FCC gCN bCN (gf "check_name" (by decide)) FCN.kp
  have gCT := ok_chkT FCT gCN bCN (gf "check_name" (by decide)) FCN.kp gCC bCC (gf "check_columns" (by decide)) FCC.kp
  have gHF := ok_form (P := P) (w := w) (base := base) FHF mn (gb "bool" (by decide))
  have gCp := ok_copiedP (P := P) (w := w) (base := base) FCp bCp (gf "copied" (by decide)) mis ml mt 6
  have gIt := ok_item FIt T B ml
  have gCR := ok_chkR FCR T B gHF bHF (gf "has_form" (by decide)) FHF.kp gCp bCp (gf "copied" (by decide)) FCp.kp gIt bIt (gg "RULE_FORMS" (by decide)) (pairsB_ok cF)
  have gBk := ok_book FB B gCT bCT (gf "check_tables" (by decide)) FCT.kp gCp bCp (gf "copied" (by decide)) FCp.kp gCR bCR (gf "check_rule" (by decide)) FCR.kp
  have gGT := ok_getT FGT B gCp bCp (gf "copied" (by decide)) FCp.kp
  have gGR := ok_getR FGR B gCp bCp (gf "copied" (by decide)) FCp.kp
  have ST : StoreT K mg := ⟨He.cls_ok (go (.cls "Store") (by simp [own])), He.noat_ok (go (.noat "Store" "_book") (by simp [own])), He.noat_ok (go (.noat "Store" "_rows") (by simp [own])), He.noat_ok (go (.noat "Store" "_steps") (by simp [own])), He.mkr_ok (go (.mkr "Store") (by simp [own])), gg "Store" (by decide)⟩
  have me := gb "enumerate" (by decide)
  have md := gb "dict" (by decide)
  have ms := gb "str" (by decide)
  have mz := gb "zip" (by decide)
  have hQ : ∀ H, Dp K H (.ref (He.ga K "QUESTION_FORMS")) formsQ := fun H => pairsL_ok cQ H
  have gWi := ok_with FWi B gBk bB ml
  have gWt := ok_without FWt B T gBk bB mn
  have gRT := ok_ruleT (P := P) (w := w) (mg := mg) (base := base) FRT
  have gSh := ok_show FSh B gRT bRT (gf "rule_text" (by decide)) FRT.kp (propB_ok cT) gGT bGT (propB_ok cR) gGR bGR
  have gRO := ok_ruleOf FRO T mn
  have gTR := ok_TR FTR T gRO bRO (gf "rule_of" (by decide)) FRO.kp mn
  have gRd := ok_read FRd B gTR bTR (gf "tables_and_rules" (by decide)) FTR.kp gBk bB (gl "KeyTellError" (by decide))
  have gPl := ok_places (P := P) (w := w) (mg := mg) (base := base) FPl
  have gVa := ok_vals (P := P) (w := w) (base := base) FVa mt
  have gBr := ok_breaks FBr ⟨gPl, bPl, gf "places_of" (by decide), FPl.kp⟩ ⟨gVa, bVa, gf "values_at" (by decide), FVa.kp⟩ mn (gb "any" (by decide))
  have gSI := ok_storeN FSI B ST (propB_ok cT) gGT bGT
  have gSO := ok_rows FSO T ST ml
  have gSL := ok_slen (P := P) (w := w) (base := base) FSL ST mn
  have gSP := ok_put FSP T ST B mSO gSO bSO gIt bIt (propB_ok cR) gGR bGR ⟨gBr, bBr, gf "breaks" (by decide), FBr.kp⟩ mn me
  have gST := ok_take FST T ST mSO gSO bSO mn
  have gSU := ok_undo FSU T ST
  have gFA := ok_formA (P := P) (w := w) (base := base) FHF mn (gb "bool" (by decide))
  have gBA := ok_byAll FBA T B ⟨gIN, bIN, gf "is_name" (by decide), FIN.kp⟩ gIt bIt
  have gSn := ok_shownA FSn T ⟨gFA, bHF, gf "has_form" (by decide), FHF.kp⟩ ⟨gCp, bCp, gf "copied" (by decide), FCp.kp⟩ gBA bBA (gf "shown_by_all" (by decide)) FBA.kp (gg "QUESTION_FORMS" (by decide)) hQ
  have gAn := ok_ansA FAn gSn bSn (gf "shown" (by decide)) FSn.kp ml
  have gSC := ok_stCall FSC ST gSn bSn (gf "shown" (by decide)) FSn.kp gAn bAn (gf "answered" (by decide)) FAn.kp
  have gFi := ok_filled FFi ST gSI bSI mSP ⟨gSP, bSP⟩
  have gCo := ok_coin (P := P) (w := w) (base := base) FCo mi
  have gWo := ok_words (P := P) (w := w) (base := base) FWo FCo bCo mC mi mr
  have gDR := ok_drawnRules (P := P) (w := w) (base := base) FDR FCo bCo mC mi mr mn
  have gLC := ok_copied (P := P) (w := w) (base := base) FLC bLC (gf "_law_copied" (by decide)) mis ml mt 6
  have gMu := ok_muddle (P := P) (w := w) (base := base) FMu bMu (gf "_law_muddle" (by decide)) mis ml mt 6
  have gOw := ok_own FOw gLC bLC (gf "_law_copied" (by decide)) FLC.kp gMu bMu (gf "_law_muddle" (by decide)) FMu.kp mp
  have gKi := ok_kinds FKi T mis mz
  have gER := ok_errR FER T gKi bKi (gf "_law_kinds" (by decide)) FKi.kp gOw bOw (gf "_law_own" (by decide)) FOw.kp mis (gb "ValueError" (by decide))
  have gWr := ok_worth FWr ⟨gCo, bCo, gf "_law_coin" (by decide), FCo.kp⟩
  have gLB := ok_broken (P := P) (w := w) (base := base) FLB me md mz mp
  have gNL := ok_newLine FNL ⟨gCo, bCo, gf "_law_coin" (by decide), FCo.kp⟩ ⟨gWr, bWr, gf "_law_worth" (by decide), FWr.kp⟩ mn ml mt
  have gPD := ok_putDue FPD ⟨gLB, bLB, gf "_law_broken" (by decide), FLB.kp⟩ mn md
  have gDT := ok_drawnTables (P := P) (w := w) (base := base) FDT FCo bCo mC FWo bWo (gf "_law_words" (by decide)) mi mr
  have gSp := ok_shape FSp ⟨gCo, bCo, gf "_law_coin" (by decide), FCo.kp⟩ ⟨gDT, bDT, gf "_law_drawn_tables" (by decide), FDT.kp⟩ ⟨gDR, bDR, gf "_law_drawn_rules" (by decide), FDR.kp⟩
  have gRo := ok_road FRo B ⟨gCo, bCo, gf "_law_coin" (by decide), FCo.kp⟩ ⟨gLC, bLC, gf "_law_copied" (by decide), FLC.kp⟩ ⟨gMu, bMu, gf "_law_muddle" (by decide), FMu.kp⟩ ⟨gSh, bSh, gf "show_book" (by decide), FSh.kp⟩ ⟨gRd, bRd, gf "read_book" (by decide), FRd.kp⟩ ⟨gBk, bB⟩ kB mWi ⟨gWi, bWi⟩ mWt ⟨gWt, bWt⟩ (propB_ok cT) gGT bGT (propB_ok cR) gGR bGR mn ml
  have gPt := ok_puts FPt ⟨gCo, bCo, gf "_law_coin" (by decide), FCo.kp⟩ ⟨gWr, bWr, gf "_law_worth" (by decide), FWr.kp⟩ ⟨gLB, bLB, gf "_law_broken" (by decide), FLB.kp⟩ mr mn md mt
  have gUN := ok_undoR FUN ST mSU ⟨gSU, bSU⟩ ⟨gER, bER, gf "_law_error_right" (by decide), FER.kp⟩ (gl "KeyTellError" (by decide)) gx
  have gAL := ok_allR FAL ST ⟨gOw, bOw, gf "_law_own" (by decide), FOw.kp⟩ mSO ⟨gSO, bSO⟩ mSL.at_ mSL.fn gSL bSL mn mp ms (gb "sum" (by decide))
  have gLi := ok_lines (P := P) (w := w) (base := base) FLi md
  have gSr := ok_store FSr ST ⟨gCo, bCo, gf "_law_coin" (by decide), FCo.kp⟩ gSI bSI ⟨gFi, bFi, gf "filled" (by decide), FFi.kp⟩ mSP ⟨gSP, bSP⟩ mST ⟨gST, bST⟩ mSU ⟨gSU, bSU⟩ mn ml
  have gTu := ok_turned FTu ⟨gCo, bCo, gf "_law_coin" (by decide), FCo.kp⟩
  have gPC := ok_putC FPC ST mSP ⟨gSP, bSP⟩ (gl "KeyTellError" (by decide)) gx
  have gCL := ok_clash FCL ⟨gPD, bPD, gf "_law_put_due" (by decide), FPD.kp⟩ me md
  have gLT := ok_letIn FLT ST ⟨gCo, bCo, gf "_law_coin" (by decide), FCo.kp⟩ ⟨gPD, bPD, gf "_law_put_due" (by decide), FPD.kp⟩ ⟨gCL, bCL, gf "_law_clashes" (by decide), FCL.kp⟩ ⟨gER, bER, gf "_law_error_right" (by decide), FER.kp⟩ mST ⟨gST, bST⟩ ⟨gPC, bPC, gf "_law_put_caught" (by decide), FPC.kp⟩ ⟨gUN, bUN, gf "_law_undo_right" (by decide), FUN.kp⟩ mn mr mp ms
  exact ok_law FLa ⟨ok_purse FPu mn (gb "max" (by decide)) (gb "abs" (by decide)) mi, bPu, gf "_law_purse" (by decide), FPu.kp⟩ ⟨gSp, bSp, gf "_law_shape" (by decide), FSp.kp⟩ ⟨gTu, bTu, gf "_law_turned_rules" (by decide), FTu.kp⟩ ⟨gRo, bRo, gf "_law_road" (by decide), FRo.kp⟩ ⟨gPt, bPt, gf "_law_puts" (by decide), FPt.kp⟩ ⟨gSr, bSr, gf "_law_store" (by decide), FSr.kp⟩ ⟨gLi, bLi, gf "_law_lines" (by decide), FLi.kp⟩ ⟨gCo, bCo, gf "_law_coin" (by decide), FCo.kp⟩ ⟨gNL, bNL, gf "_law_new_line" (by decide), FNL.kp⟩ ⟨gLT, bLT, gf "_law_let_in" (by decide), FLT.kp⟩ ⟨gAL, bAL, gf "_law_all_right" (by decide), FAL.kp⟩ mr (gb "max" (by decide)) (gb "min" (by decide)) mn md
end
end LW
open PySem PySem.W PySem.Calls PyProof.Rows
set_option maxRecDepth 100000 in
set_option maxHeartbeats 0 in
theorem PySem.Challenge.cw_keysthrough_k50_refused_rows_let_in_holds : PySem.Challenge.rw_keysthrough_k50_refused_rows_let_in.Holds := by
  w_on; o_law
  refine HandSHeadRun.head_any (r := OpenLaw.row PySem.Challenge.rw_keysthrough_k50_refused_rows_let_in) (q := view (OpenLaw.row PySem.Challenge.rw_keysthrough_k50_refused_rows_let_in).prog [79]) (H := LW.hk) (ob := LW.ob) (M := 20000) (loose := LW.loose)
    (d := HandSHeadRun.topDef (OpenLaw.row PySem.Challenge.rw_keysthrough_k50_refused_rows_let_in).prog 79) (kwd := []) LW.ob_eq
    (by kernel_rfl) (fun s => by kernel_rfl) LW.run (by kernel_rfl) (by kernel_rfl) (by kernel_rfl) (by rfl) (by first | assumption | decide +kernel) (by decide +kernel) ⟨rfl, rfl, rfl, rfl, rfl, by decide +kernel⟩ ?hw ?hc
  case hw => w_witness2
  case hc =>
    refine KV.walk_ofC (l := PySem.Challenge.rw_keysthrough_k50_refused_rows_let_in) (n := 63) (k := 13) (x := "script") (CX := L2.CX0) rfl (by decide) (by kernel_rfl) ⟨rfl, by decide, by decide⟩ ?F (fun _ _ _ _ z => z)
    intro w mg fa h Y G hmg0
    obtain ⟨K, KX, c⟩ := Y
    have hmg : mg ("law" : PySem.Str) = some (.ref fa) := by
      have e : (HandSHeadRun.topDef (OpenLaw.row PySem.Challenge.rw_keysthrough_k50_refused_rows_let_in).prog 79).name = ("law" : PySem.Str) := by kernel_rfl
      rw [← e]
      exact hmg0
    obtain ⟨fd, hb, hF⟩ := LW.facts (P := (PySem.Challenge.rw_keysthrough_k50_refused_rows_let_in).prog) (w := w) KX G hmg c
    exact ⟨K, fd, LW.spLaw K, KX, hb, fun H a ns hl _ hS => ⟨a, ns, rfl, hS, fun _ => rfl⟩, hF⟩
