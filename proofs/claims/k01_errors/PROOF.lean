import PyProof.Rows.All
import Wide.All
import OpenK.AllK
import Wide.FinOn
import PyProof.ReprRoads
import PyProof.CallFns
import HandS.ForMost
import HandS.Wide
import HandS.IsInst
import HandS.ExcInit
import HandS.Defaults
import HandS.ExcIs
import HandS.ExcField
import HandS.MakeKw
import HandS.HeadHook1
import HandS.HeadHook2
import HandS.HeadHook3
import HandS.HeadHook4
import HandS.HeadEnd
import HandS.Head0
import HandS.Head1
import HandS.Head2
import PySem.Challenge.RW_keysthrough_k01_errors
set_option Elab.async false
set_option linter.all false
set_option maxRecDepth 100000
set_option maxHeartbeats 2000000
/-! Calls from where no repr is under way; repr of data; powers of great ints. -/
namespace KV
open PySem PySem.Spec PyProof.Rows L2

/-- what a def promises to a caller above which no repr is under way -/
structure FnC (P : Program) (w : World) (K : PySem.W.Frag) (mg : Str → Option Value) (base : Heap) (CX : CXT) (k : Nat)
    (f : Addr) (fd : FuncData) (ps : List Str) (sp : Sp) : Prop where
  len : ∀ vs H Q E, sp vs H Q E → vs.length = ps.length
  run : ∀ (A : Around) (outer : List Env) (s : Shared) (H : Hp) (args : Args) (us : List Value) (vs : List V) (Q : VK) (E : XK),
    A.guards = some [] → Room k A → Env0 P w K mg base A outer s H → BindsTo s fd args (ps.zip us) → Vals vs us → sp vs H Q E →
      codeAny (model P w) A (.call (.ref f) args) (CR CX outer P w H s Q E) s

theorem FnC.of {P : Program} {w : World} {K : PySem.W.Frag} {mg : Str → Option Value} {base : Heap} {CX : CXT} {k : Nat} {f : Addr}
    {fd : FuncData} {ps : List Str} {sp : Sp} (F : FnOk P w K mg base CX k f fd ps sp) : FnC P w K mg base CX k f fd ps sp :=
  ⟨F.len, fun A outer s H args us vs Q E _ hr e0 hb r h => F.run A outer s H args us vs Q E hr e0 hb r h⟩

section
variable {X : Cx} {CX : CXT} {k : Nat} {f : Addr} {fd : FuncData} {ps : List Str} {sp : Sp} {E : XK} {x : Str} {p pos : Pos}
  {e : Expr} {es : List Expr} {t : TA}
/-- f(e, ..) from such a place, every parameter given -/
theorem pe_callC (hG : X.A.guards = some []) (F : FnC X.prog X.w X.K X.mg X.base CX k f fd ps sp) (hr : Room k X.A) (hg : Gl X x)
    (hm : X.mg x = some (.ref f)) (hk : PySem.W.keepIn X.K (.ref f) = true) (hb : Binds X.K fd ps []) (hx : Passes CX X E)
    (ha : PA X (e :: es) t) (hdb : (x == ("__debug__" : Str)) = false := by decide)
    (he : starEach (e :: es) X.env = (false, eval e X.env) :: starEach es X.env := by rfl)
    (hpl : (backTo pos (starEach es X.env)).any (·.1) = false := by rfl) :
    PE X (.Call (.Name x p) (e :: es) [] pos) (tCall sp [] E t) := by
  constructor
  intro pins s σ H Q I h
  apply wpAny_Call_Name_kw
  refine ld_glob I hg hm ?_ hdb
  refine PySem.W.callWith_K (h₀ := X.base) I.ok.mod.kin hk (thn (ha.run pos pins s σ H _ I h) ?_) he hpl
  rintro us s1 ⟨vs, H1, I1, r, q⟩
  refine ⟨I1.kIn, ?_⟩
  rw [List.append_nil] at q
  have hl : (us ++ []).length = ps.length := by rw [List.append_nil, ← r.length]; exact F.len _ _ _ _ q
  have hb1 := hb s1 us I1.kIn hl
  rw [List.append_nil] at hb1
  refine wpAny_call (codeAny_mono (F.run X.A X.stack s1 H1 ⟨us, []⟩ us vs Q E hG hr I1.env0 hb1 r q) ?_)
  intro res s' hq
  match res, hq with
  | .error er, hq => exact hx pins σ H1 s1 er s' I1 hq
  | .ok (.ret u), hq => exact I1.after hq
end

/-- the rule of a def for such callers -/
theorem Fun.okC {P : Program} {w : World} {K : PySem.W.Frag} {mg : Str → Option Value} {base : Heap} {x qual : Str} {params : Arguments}
    {body : List Stmt} {scope : Scope} {dvs : List V} {kws : List (Str × V)} {f : Addr} {fd : FuncData} {CX : CXT} {N ps : List Str} {k : Nat} {sp : Sp}
    (F : FunD K x qual params body scope dvs kws f fd) (S : FnScope N ps scope) (len : ∀ vs H Q E, sp vs H Q E → vs.length = ps.length)
    (hbody : ∀ (cdv : Value) (A : Around) (outer : List Env) (s : Shared) (H : Hp) (vs : List V) (Q : VK) (E : XK), A.guards = some [] →
      Room k (A.deeper (envOfC qual scope s.heap.objs.size f cdv)) → sp vs H Q E →
      ∃ t, PSs (cxOf CX P w K mg base N qual scope f cdv A outer s H E) body t ∧ t { nx := fun _ H' => Q .non H', rt := Q } (start N vs) H) :
    FnC P w K mg base CX (k + 1) f fd ps sp := by
  obtain ⟨oc, od, dV, kV, doc, pm, an, cdv, ct, osl, rfl, lk, hcd, _, _⟩ := F.ex
  refine ⟨len, ?_⟩
  intro A outer s H args us vs Q E hG hr e0 hb r hsp
  have keepB : ∀ b o, base.get? b = some o → s.heap.get? b = some o := fun b o q => (e0.bs b o q).1
  have KX : K.In s.heap := e0.mod.kin.keeps keepB
  have hkind : ∀ y ∈ ps.zip us, scope.names.lookup y.1 = some .local ∨
      (scope.names.lookup y.1 = some .cell ∧ ((cellsFrom (s.heap.objs.size + 1) scope.names []).lookup y.1).isSome = true) := by
    rintro ⟨n, v⟩ hy
    exact (S.par n (List.of_mem_zip hy).1).imp id fun q => ⟨q, PySem.W.cellsFrom_some _ _ _ (.inl q)⟩
  apply codeAny_call_function hr.depth (KX _ _ lk) rfl S.co S.gen rfl (PySem.W.codeRec_of KX hcd)
  apply hb
  apply wpAny_newFunctionEnv_cells S.kind hkind
  intro env he s1 x
  subst he
  refine ⟨(e0.mod.nolimit.keeps keepB).keeps x.toInCall.keep, codeAny_func ?_⟩
  obtain ⟨t, ht, hq⟩ := hbody cdv A outer s H vs Q E hG (hr.deeper _) hsp
  have I : Inv (cxOf CX P w K mg base N qual scope f cdv A outer s H E) [] (start N vs) H s1 := inv_start S hr.hd e0 (len _ _ _ _ hsp) r x
  refine wpAny_mono (ht.run [] s1 (start N vs) H _ I hq) ?_ (fun er s' hs => hs)
  intro fl s' hs
  match fl, hs with
  | .ret u, ⟨v, σ', H', J, rv, q⟩ => exact ⟨v, H', J.os, J.bare, J.base, J.hok, rv, q⟩
  | .next, ⟨σ', H', J, q⟩ => exact ⟨V.non, H', J.os, J.bare, J.base, J.hok, rfl, q⟩
  | .brk, ⟨_, _, _, q⟩ => exact False.elim q
  | .cont, ⟨_, _, _, q⟩ => exact False.elim q

/-! ### ints -/
def CPowB (i j : Int) : Prop := 0 ≤ j ∧ (Builtin.Int.intBits i : Int) * j ≤ 2 ^ 27
theorem op_powB {X : Cx} : OpR X (binaryOp .Pow) (rI CPowB fun i j => .int (i ^ j.toNat)) :=
  opI fun _ _ _ _ _ _ _ hc q => pow_int hc.1 hc.2 q

/-! ### repr -/
/-- repr(x), x data of any depth -/
def rRep (K : PySem.W.Frag) : List V → Hp → VK → Prop := fun xs H Q => ∃ x d, xs = [x] ∧ Dp K H x d ∧ d.showable = true ∧ d.hasDict = false ∧
  d.depth ≤ 60 ∧ d.shown.length ≤ sizeLine ∧ Q (.str d.shown) H
theorem call_repD {X : Cx} (hG : X.A.guards = some []) (hu : X.A.units + 64 < cLine) : CallR X (.builtin "repr") (rRep X.K) := by
  intro pins s σ H xs us Q I r h
  obtain ⟨x, d, rfl, hd, hs, hh, hdp, hz, q⟩ := h
  obtain ⟨u, rfl, ru⟩ := vals1 r
  have leaf : ∀ z tk, d.shown = z → EP X pins σ Q (.str z s.toks) { s with toks := tk } := fun z tk e => ⟨.str z, H, I.tok tk, ⟨_, rfl⟩, e ▸ q⟩
  cases hd with
  | non => cases ru; exact PySem.P.repr_of_none (leaf _ _ (by simp only [PyData.shown]))
  | bl b => cases ru; exact PySem.P.repr_of_bool (leaf _ _ (by simp only [PyData.shown]))
  | int i =>
    obtain ⟨t, rfl⟩ := ru
    exact PySem.P.repr_of_int (by simpa [PyData.showable] using hs) (leaf _ _ (by simp only [PyData.shown]))
  | str z =>
    obtain ⟨t, rfl⟩ := ru
    simp only [PyData.shown] at hz
    exact PySem.P.repr_of_str (leaf _ _ (by simp only [PyData.shown])) hz
  | @lst a ys ds h1 h2 =>
    cases ru
    obtain ⟨as, rr⟩ := Dp.reads I (.list ds) (.ref a) (.ref a) (.lst h1 h2) rfl
    exact repr_of_reads' rr hs (PyData.noDict_hsm hh) hG (by omega) (fun _ _ e => e) (fun h' u tk k => ⟨.str _, H, I.kept (t' := tk) k, ⟨_, rfl⟩, q⟩) hz
  | @tup a ys ds h1 h2 =>
    cases ru
    obtain ⟨as, rr⟩ := Dp.reads I (.tuple ds) (.ref a) (.ref a) (.tup h1 h2) rfl
    exact repr_of_reads' rr hs (PyData.noDict_hsm hh) hG (by omega) (fun _ _ e => e) (fun h' u tk k => ⟨.str _, H, I.kept (t' := tk) k, ⟨_, rfl⟩, q⟩) hz
/-! ### the law's call -/
section
variable {P : Program} {w : World} {K : PySem.W.Frag} {mg mb : Str → Option Value} {CX : CXT} {k : Nat} {fa a : Addr} {fd : FuncData}
  {x : Str} {sp : Sp} {s₁ : Shared} {vs : List Value} {ns : List Int}
/-- the end, from an abstract heap that tracks nothing but perhaps the script -/
theorem law_coreC (KX : K.In s₁.heap) (hns : s₁.heap.Ns mainGlobals mg) (hb : s₁.heap.Ns builtinsNs mb)
    (hbb : ∀ x : Str, x ≠ "__name__" → mb x = bootBuiltins x) (hlim : s₁.heap.NoLimit) (hg : s₁.gens = #[])
    (ha : s₁.heap.get? a = some { cls := .type "list", data := .seq vs.toArray }) (hr : Room k callerA)
    (F : ∀ base : Heap, K.In base → base.Ns mainGlobals mg → FnC P w K mg base CX k fa fd [x] sp)
    (hbind : ∀ (s : Shared) (u : Value), BindsTo s fd ⟨[u], []⟩ [(x, u)])
    (hCX : ∀ H e s', CX [] H s₁ (fun _ _ _ => False) e s' → False) (H : Hp) (hO : Only H)
    (hsp : sp [.ref a] H (fun v _ => v = .bl true) fun _ _ _ => False) (ok : HOk P w H s₁.heap) (hA : ∀ b u, H b = some u → b = a)
    (hK : ∀ u, H a = some u → K.lookup a = none) :
    codeAny (model P w) callerA (.call (.ref fa) ⟨[.ref a], []⟩)
      (fun r s' => r = .ok (.ret (.bool true)) ∧ OldK s₁.heap s'.heap ∧ s'.os = s₁.os ∧ AllBare s'.gens) s₁ := by
  have off : ∀ {b : Addr} {o : Obj}, s₁.heap.get? b = some o → (∀ es ep, o.data = .dict es ep → H b = none) := by
    intro b o e es ep d
    cases q : H b with
    | none => rfl
    | some u =>
      have z := hA b u q
      rw [z, ha] at e
      have z2 := Option.some.inj e
      rw [← z2] at d
      exact absurd d (by simp)
  have nsB : ∀ {b : Addr} {m : Str → Option Value}, s₁.heap.Ns b m → (hidT s₁.heap H).Ns b m := by
    rintro b m ⟨o, es, ep, e, d, r⟩
    exact ⟨o, es, ep, hidT_get e (off e es ep d), d, r⟩
  have inB : K.In (hidT s₁.heap H) := by
    intro b o e
    refine hidT_get (KX b o e) ?_
    cases q : H b with
    | none => rfl
    | some u =>
      have z := hA b u q
      subst z
      rw [hK u q] at e
      cases e
  obtain ⟨mc, hm1, hm2⟩ := hlim
  have M : Mod K mg (hidT s₁.heap H) := ⟨inB, nsB hns, ⟨mb, nsB hb, hbb⟩, ⟨mc, nsB hm1, hm2⟩⟩
  have E : Env0 P w K mg (hidT s₁.heap H) callerA [] s₁ H :=
    { frames := rfl, mod := M, bs := fun b o e => of_hidT e, bsz := Nat.le_of_eq (hidT_size _ _), funs := trivial,
      frf := fun b z => absurd (show b ∈ ([] : List Addr) from z) (by simp), hok := ok, bare := .of_eq hg }
  have R := (F _ inB (nsB hns)).run callerA [] s₁ H ⟨[.ref a], []⟩ [.ref a] [.ref a] _ _ rfl hr E (hbind s₁ (.ref a)) (.cons rfl .nil) hsp
  refine codeAny_mono R ?_
  intro r s' h
  match r, h with
  | .error e, h => exact (hCX H e s' h).elim
  | .ok (.ret u), ⟨v, H', os, bare, un, hok', rv, q⟩ =>
    have q1 : v = .bl true := q
    rw [q1] at rv
    have e1 : u = Value.bool true := rv
    refine ⟨by rw [e1], OldK.of_keep ?_, os, bare⟩
    intro b o e
    rcases hO b with z | ⟨ob, xs, z⟩
    · exact un.keep b o e z (fun z => absurd (show b ∈ ([] : List Addr) from z) (by simp)) (by simp)
    · have e2 := (ok b _ z).1
      have e3 := (hok' b _ (un.frzs b ob _ z)).1
      rw [e] at e2
      rw [Option.some.inj e2]
      exact e3

theorem law_callC (KX : K.In s₁.heap) (hns : s₁.heap.Ns mainGlobals mg) (hb : s₁.heap.Ns builtinsNs mb)
    (hbb : ∀ x : Str, x ≠ "__name__" → mb x = bootBuiltins x) (hlim : s₁.heap.NoLimit) (hg : s₁.gens = #[])
    (ha : s₁.heap.get? a = some { cls := .type "list", data := .seq vs.toArray }) (hi : IntsAre vs ns) (hl : ns.length ≤ sizeLine) (hr : Room k callerA)
    (F : ∀ base : Heap, K.In base → base.Ns mainGlobals mg → FnC P w K mg base CX k fa fd [x] sp)
    (hbind : ∀ (s : Shared) (u : Value), BindsTo s fd ⟨[u], []⟩ [(x, u)])
    (hsp : ∀ H : Hp, Only H → SqL K H a (ns.map V.int) → sp [.ref a] H (fun v _ => v = .bl true) fun _ _ _ => False)
    (hCX : ∀ H e s', CX [] H s₁ (fun _ _ _ => False) e s' → False) :
    codeAny (model P w) callerA (.call (.ref fa) ⟨[.ref a], []⟩)
      (fun r s' => r = .ok (.ret (.bool true)) ∧ OldK s₁.heap s'.heap ∧ s'.os = s₁.os ∧ AllBare s'.gens) s₁ := by
  have rv := vals_ints hi
  have core := law_coreC KX hns hb hbb hlim hg ha hr F hbind hCX
  by_cases hk : (K.lookup a).isSome = true
  · obtain ⟨o, ho⟩ := Option.isSome_iff_exists.mp hk
    have e := (KX a o ho).symm.trans ha
    have e2 := Option.some.inj e
    subst e2
    have hS : SqL K (fun _ => none) a (ns.map V.int) := .inr ⟨_, vs.toArray, _, ho, rfl, rfl, rfl, by rw [List.size_toArray, hi.length]; exact hl, rv⟩
    exact core _ (fun _ => .inl rfl) (hsp _ (fun _ => .inl rfl) hS) (fun b u z => by cases z) (fun b u z => by cases z) fun u z => by cases z
  · have hn : K.lookup a = none := by
      cases q : K.lookup a with
      | none => rfl
      | some o => rw [q] at hk; exact absurd rfl hk
    let O : HO := .frz { cls := .type "list", data := .seq vs.toArray } (.lst (ns.map V.int))
    have at_ : ∀ b u, upd (fun _ => none) a O b = some u → b = a ∧ u = O := by
      intro b u z
      by_cases hba : b = a
      · rw [hba, upd_same] at z
        exact ⟨hba, (Option.some.inj z).symm⟩
      · rw [upd_ne hba] at z
        cases z
    have hO : Only (upd (fun _ => none) a O) := by
      intro b
      by_cases hba : b = a
      · exact .inr ⟨_, _, by rw [hba, upd_same]⟩
      · exact .inl (by rw [upd_ne hba])
    refine core _ hO (hsp _ hO (.inl (.inr ⟨_, upd_same⟩))) ?_ (fun b u z => (at_ b u z).1) fun _ _ => hn
    intro b u z
    obtain ⟨rfl, rfl⟩ := at_ b u z
    exact ⟨ha, by rw [List.length_map]; exact hl, vs, _, rv, ha⟩

/-- the law's walk, its def's promise given to callers above which no repr is under way -/
theorem walk_ofC {l : PySem.W.OpenLaw} {n k : Nat} {q : Program} {loose : List Str} {XP : (Str → Option Value) → Heap → Prop} {YP : World → Heap → Prop} {d : DefRec} {CX : CXT} {x : Str}
    (hn : l.most = some n) (hn2 : n ≤ sizeLine) (hdf : d.params.defaults = []) (hr : Room k callerA)
    (F : ∀ (w : World) (mg : Str → Option Value) (fa : Addr) (h : Heap), YP w h → h.Ns mainGlobals mg → mg d.name = some (.ref fa) →
      ∃ (K : PySem.W.Frag) (fd : FuncData) (sp : Sp), K.In h ∧ (∀ (s : Shared) (u : Value), BindsTo s fd ⟨[u], []⟩ [(x, u)]) ∧
        (∀ (H : Hp) (a : Addr) (ns : List Int), ns.length ≤ n → Only H → SqL K H a (ns.map V.int) → sp [.ref a] H (fun v _ => v = .bl true) fun _ _ _ => False) ∧
        ∀ base : Heap, K.In base → base.Ns mainGlobals mg → FnC l.prog w K mg base CX k fa fd [x] sp)
    (hCX : ∀ (H : Hp) (s : Shared) (e : Value) (s' : Shared), CX [] H s (fun _ _ _ => False) e s' → False) :
    PySem.W.WalkO q loose XP YP l.row.toRowW d [] (fun f vs => PySem.call f vs) := by
  apply Att.attach_call hn hdf
  intro w s₀ s₁ mg mb fa o pm cd doc a vs ns G Y ho hd hcd hmg hobj hints hlen hg
  obtain ⟨K, fd, sp, KX, hb, hsp, hF⟩ := F w mg fa _ Y G.T.g hmg
  exact law_callC KX G.T.g G.T.b G.T.builtins G.T.nolimit hg hobj hints (Nat.le_trans hlen hn2) hr hF hb (fun H hO hS => hsp H a ns hlen hO hS)
    fun H e s' => hCX H s₁ e s'
end
end KV
set_option Elab.async false
set_option linter.all false
set_option maxRecDepth 100000
set_option maxHeartbeats 4000000
/-! Own errors over ValueError as values: made by position and by keyword, a field read, isinstance. -/
namespace PySem
namespace KVX
open PySem.W PySem.Calls PyProof.Rows PySem.HandSPX
section
variable {prog : Program} {w : World} {A : Around} {E : Value → Shared → Prop} {R : Result → Shared → Prop} {h : Heap} {g : Array GenState} {d : Drawn} {t : Nat} {os : OsState}
variable {nm q : Str} {C N : Addr} {bs bm bmB : List Value} {hdct : Bool} {sn : List Str} {sub : List Value} {ab : Bool} {col : Option Bool} {dd : Option Addr} {k0 k1 k2 k3 k5 : Option Value} {B newId initId : String}
  {kw : List (Str × Value)}

theorem checkK {M : Model} (F : ExcBaseFacts B newId initId bmB) (hT : ∀ X : String, bm.contains (.type X) = bmB.contains (.type X))
    {Q : Unit → Shared → Prop} (hC : h.get? C = some (excClassObj nm q C N bs bm hdct sn sub ab col dd k0 k1 k2 k3 k5 newId))
    (hq : Q () ⟨h, g, d, t, os⟩) : wpAny M A (checkBuiltinCall newId ⟨[.ref C], kw⟩) Q E ⟨h, g, d, t, os⟩ := by
  have inB : (Value.ref C :: bm).contains (.type B) = true := by
    rw [List.contains_cons, hT, F.hasB, Bool.or_true]
  have star := F.noStar
  simp only [checkBuiltinCall, F.newSplit, F.newKind, F.newRow]
  repeat (first
    | refine wpAny_loadPart_at hC ?_
    | (refine wpAny_isSubtype_exc hC ?_; rw [inB])
    | refine wpAny_staticBase_exc hC ?_
    | refine wpAny_madeBy_exc hC ?_
    | simp only [bne_self_eq_false, Bool.false_eq_true, if_false]
    | wp_step)
  exact hq

theorem newK (F : ExcBaseFacts B newId initId bmB) (hT : ∀ X : String, bm.contains (.type X) = bmB.contains (.type X))
    (hC : h.get? C = some (excClassObj nm q C N bs bm hdct sn sub ab col dd k0 k1 k2 k3 k5 newId))
    (hq : R (.ok (.ret (.ref (h.objs.size + 1)))) ⟨(h.push (kdv_tup [])).push (excO C h.objs.size), g, d, t, os⟩) :
    codeAny (model prog w) A (.builtin newId ⟨[.ref C], kw⟩) R ⟨h, g, d, t, os⟩ := by
  have ends := F.ends
  have inB : (Value.ref C :: bm).contains (.type B) = true := by
    rw [List.contains_cons, hT, F.hasB, Bool.or_true]
  have noA : (Value.ref C :: bm).contains (.type "AttributeError") = false := by
    rw [List.contains_cons, hT, F.noAttr]; rfl
  have noN : (Value.ref C :: bm).contains (.type "NameError") = false := by
    rw [List.contains_cons, hT, F.noName]; rfl
  have hz : ([] : List Value).length ≤ sizeLine := Nat.zero_le _
  apply codeAny_builtinAt F.entry
  unfold Builtin.«BaseException.__new__»
  apply wpAt_bind
  show wpAt _ _ _ (stack >>= _) _ _ _
  apply wpAt_bind
  refine wpAt_stack fun p below => wpAt_of_wpAny ?_
  wp_walk
  apply wpAt_of_wpAny
  rw [F.owner]
  repeat (first
    | with_reducible refine wpAny_madeHere_exc F.canon hC ?_
    | with_reducible refine wpAny_loadPart_at hC ?_
    | (with_reducible refine wpAny_isSubtype_exc hC ?_; first | rw [inB] | rw [noA] | rw [noN])
    | wp_step)
  show R _ _
  rw [Heap.size_push]
  exact hq

theorem typeCallK (F : ExcBaseFacts B newId initId bmB) (hT : ∀ X : String, bm.contains (.type X) = bmB.contains (.type X)) {fI : Addr} {Q : Fin → Shared → Prop}
    (hC : h.get? C = some (excClassObj nm q C N bs bm hdct sn sub ab col dd k0 k1 k2 k3 k5 newId))
    (hi : W.Looks (model prog w) h (typeLookup (.ref C) "__init__") (some (.ref fI)))
    (hb : ∀ self, W.Looks (model prog w) h (bindSpecial (.ref fI) self) (.ref fI, [self]))
    (hq : codeAny (model prog w) A (.call (.ref fI) ⟨[.ref (h.objs.size + 1)], kw⟩)
      (fun r s' => match r with | .ok (.ret v) => v = .none ∧ Q (.done (.ret (.ref (h.objs.size + 1)))) s' | .ok _ => False | .error e => E e s')
      ⟨(h.push (kdv_tup [])).push (excO C h.objs.size), g, d, t, os⟩) :
    wpAny (model prog w) A (Builtin.«type.__call__» ⟨[.ref C], kw⟩) Q E ⟨h, g, d, t, os⟩ := by
  repeat (first
    | with_reducible refine wpAny_loadPart_at hC ?_
    | with_reducible refine wpAny_madeBy_exc hC ?_
    | wp_step)
  apply codeAny_call_builtin_code (Code.quiet_builtin _ F.quiet) (checkK F hT hC ?_)
  apply newK F hT hC
  show wpAny _ _ _ _ _ _
  have keep : ∀ b o, h.get? b = some o → ((h.push (kdv_tup [])).push (excO C h.objs.size)).get? b = some o := fun b o e =>
    Heap.get?_push_of_some _ (Heap.get?_push_of_some _ e)
  have hget : ((h.push (kdv_tup [])).push (excO C h.objs.size)).get? (h.objs.size + 1) = some (excO C h.objs.size) := by heap_get
  have inC : (Value.ref C :: bm).contains (.ref C) = true := by simp
  have i1 := hi.keeps keep
  have b1 := (hb (.ref (h.objs.size + 1))).keeps keep
  unfold isInstance
  repeat (first
    | with_reducible refine wpAny_loadPart_at hget ?_
    | (with_reducible refine wpAny_isSubtype_exc (keep _ _ hC) ?_; rw [inC])
    | wp_step)
  show wpAny _ _ (typeLookup (.ref C) _) _ _ _
  apply i1.at
  apply wpAny_holding
  apply wpAny_bind
  apply b1.at
  apply wpAny_bind
  refine wpAny_call (codeAny_mono hq fun r s' z => ?_)
  rcases r with e | (v | _ | _ | _) <;> first | exact z | exact z.elim | skip
  obtain ⟨rfl, z⟩ := z
  first
    | exact wpAny_pure (wpAny_pure z)
    | (wp_walk; exact z)

theorem callK (F : ExcBaseFacts B newId initId bmB) (hT : ∀ X : String, bm.contains (.type X) = bmB.contains (.type X)) {fI : Addr}
    (hC : h.get? C = some (excClassObj nm q C N bs bm hdct sn sub ab col dd k0 k1 k2 k3 k5 newId))
    (hi : W.Looks (model prog w) h (typeLookup (.ref C) "__init__") (some (.ref fI)))
    (hb : ∀ self, W.Looks (model prog w) h (bindSpecial (.ref fI) self) (.ref fI, [self]))
    (hq : codeAny (model prog w) (A.under (.builtin "type.__call__" ⟨[.ref C], kw⟩)) (.call (.ref fI) ⟨[.ref (h.objs.size + 1)], kw⟩) (W.InitBack (h.objs.size + 1) R)
      ⟨(h.push (kdv_tup [])).push (excO C h.objs.size), g, d, t, os⟩) :
    codeAny (model prog w) A (.call (.ref C) ⟨[], kw⟩) R ⟨h, g, d, t, os⟩ := by
  have look := tc_lookup
  have bind := tc_bind (.ref C)
  have hTy : (⟨h, g, d, t, os⟩ : Shared).TypeIs (.ref C) "type" := ⟨_, hC, rfl⟩
  apply codeAny_of_tree
  show wpAny _ _ (callAny (.ref C) _) _ _ _
  repeat (any_goals (first
    | assumption
    | with_reducible refine wpAny_loadPart_at hC ?_
    | wp_step))
  refine ⟨rfl, ?_⟩
  apply codeAny_call_builtin_at (Code.quiet_builtin _ (by decide +kernel)) entry_typeCall
  refine wpAny_check_type_call_sub hC (typeCallK F hT hC hi hb ?_)
  refine codeAny_mono hq fun r s' z => ?_
  rcases r with e | (v | _ | _ | _) <;> exact z
end
end KVX
end PySem
set_option Elab.async false
set_option linter.all false
set_option maxRecDepth 100000
set_option maxHeartbeats 4000000
namespace PySem.W
open PySem PySem.Spec PySem.Calls PyProof.Rows
section
variable {prog : Program} {w : World} {A : Around} {E : Value → Shared → Prop} {s : Shared} {K : Frag} {x D : Addr} {ox : Obj} {od : Option Obj}
/-- what the class of an error says of its objects' __class__ -/
structure ErrC (K : Frag) (D : Addr) : Prop where
  hga : findIn K (.ref D) "__getattribute__" = some (some (.builtin "BaseException.__getattribute__"))
  hgt : findIn K (.ref D) "__getattr__" = some none
  hsub : subIn K (.ref D) (.type "BaseException") = some true
  hdct : hasDictIn K D = true
  ha : findIn K (.ref D) "__class__" = some (some (.builtin "object.__class__"))
  hn : specialIn K (.builtin "object.__class__") "__get__" = some (some (.builtin "getset_descriptor.__get__"))
  htk : takesIn K (.builtin "object.__class__") = some true
  hm : mroIn K D (.type "object") = some true

theorem err_find (c : ErrC K D) : findObj K D od "__class__" = some (.bind (.builtin "getset_descriptor.__get__") (.builtin "object.__class__")) := by
  obtain ⟨cd, hc, _⟩ := any_some c.hdct
  unfold findObj
  rw [hc, Option.bind_some, c.ha, Option.bind_some]
  simp [c.hn, c.htk]

theorem err_class {Q : Option Value → Shared → Prop} (c : ErrC K D) (X : K.In s.heap) (I : InstAt s.heap x ox D od)
    (h : Q (some (.ref D)) { s with toks := s.toks + 1 }) : wpAny (model prog w) A (getAttr? (.ref x) "__class__") Q E s := by
  obtain ⟨hp, g, d, t, os⟩ := s
  have T := I.type (M := model prog w)
  have G := looks_findIn (M := model prog w) X c.hga
  have N := looks_findIn (M := model prog w) X c.hgt
  have Fd := looks_find (M := model prog w) X I (err_find c)
  have sub : Looks (model prog w) hp (isInstance (.ref x) (.type "BaseException")) true := T.andThen (looks_subIn X c.hsub)
  have n0 : (false && onTheHeap (Value.builtin "BaseException.__getattribute__")) = false := rfl
  have n2 : (Value.builtin "BaseException.__getattribute__" == Value.builtin "object.__getattribute__") = false := by decide +kernel
  have n1 : (onTheHeap (Value.ref D) && Value.builtin "BaseException.__getattribute__" == Value.builtin "object.__getattribute__") = false := by
    rw [n2]; rfl
  unfold getAttr? getAttrBy? getAttrBy
  apply wpAny_bind
  apply wpAny_mkText
  apply wpAny_bind
  apply wpAny_attempt
  apply wpAny_holding
  refine wpAny_bind (T.at (wpAny_bind (G.at ?_)))
  show wpAny _ _ (if (onTheHeap (Value.ref D) && Value.builtin "BaseException.__getattribute__" == Value.builtin "object.__getattribute__") = true then _ else _) _ _ _
  rw [n1, if_neg Bool.false_ne_true]
  unfold getAttrByItsOwn hookBefore
  apply wpAny_bind
  rw [if_pos (show onTheHeap (Value.ref D) = true from rfl)]
  apply N.at
  refine wpAny_bind (wpAny_attempt (wpAny_holding ?_))
  unfold callGetattribute
  rw [n0, if_neg Bool.false_ne_true]
  unfold boundAndCalled
  rw [PySem.F.excAttr_ValueError.ga.bind (.ref x)]
  apply wpAny_bind
  apply wpAny_pure
  show wpAny _ _ (call (.builtin "BaseException.__getattribute__") [.ref x, .str "__class__" t]) _ _ _
  apply wpAny_call
  apply codeAny_call_builtin PySem.F.excAttr_ValueError.ga.plain PySem.F.entry_bexc_ga
  refine @check_slot (model prog w) _ _ ⟨hp, g, d, t + 1, os⟩ "BaseException.__getattribute__" "BaseException" "__getattribute__" (.ref x) [.str "__class__" t] [] _
    (by decide +kernel) (by decide +kernel) sub (PySem.F.args_bexc_ga (.ref x) (.str "__class__" t)) ?_
  unfold Builtin.«object.__getattribute__»
  apply wpAny_bind
  refine wpAny_of_eq (a := ((Value.ref x : Value), [Value.str "__class__" t])) (by first | rfl | (simp only [slotArgs]; rfl)) ?_
  apply wpAny_bind
  apply wpAny_pure
  refine wpAny_bind (T.at (wpAny_bind (Fd.at ?_)))
  show wpAny _ _ (holding [Value.builtin "object.__class__"] (call (.builtin "getset_descriptor.__get__") [.builtin "object.__class__", .ref x, .ref D]) >>= ret) _ _ _
  apply wpAny_bind
  apply wpAny_holding
  apply wpAny_call
  refine class_get (s := ⟨hp, g, d, t + 1, os⟩) (ox := ox) (od := od) X I c.hm ?_
  apply wpAny_pure
  show wpAny _ _ (handedOut (.ref D)) _ _ _
  rw [handedOut_of (v := .ref D) rfl]
  first
    | exact wpAny_pure (wpAny_pure h)
    | exact wpAny_pure h
    | exact wpAny_pure (wpAny_bind (wpAny_pure (wpAny_pure h)))

theorem err_obj (c : ErrC K D) : ∃ c' d' cd' sl', K.lookup D = some ⟨c', d', .cls cd', sl'⟩ := by
  obtain ⟨cdD, hcD, _⟩ := any_some c.hdct
  unfold clsIn at hcD
  split at hcD
  · rename_i c' d' cd' sl' ho
    exact ⟨_, _, _, _, ho⟩
  · cases hcD

theorem err_kit (c : ErrC K D) : KitX K (.ref x) (.ref D) (fun h => InstAt h x ox D od) where
  ty := fun _ _ _ I => I.type
  it := fun _ _ X _ => by
    obtain ⟨c', d', cd', sl', ho⟩ := err_obj c
    intro A' Q' E' s' k q
    unfold isType loadHead
    exact wpAny_bind (wpAny_loadPart (k _ _ (X _ _ ho)) (wpAny_pure q))
  ne := fun h tp dd its n sl X htp => by
    obtain ⟨c', d', cd', sl', ho⟩ := err_obj c
    refine Bool.eq_false_iff.mpr fun q => ?_
    have e : D = tp := Value.ref.inj (beq_iff_eq.mp q)
    subst e
    have z := (X _ _ ho).symm.trans htp
    cases z
  ca := fun X I k => err_class c X I k
end
end PySem.W

namespace KV
open PySem PySem.Spec PyProof.Rows L2
/-- a new error at a, its dict at dx -/
def exH (H : Hp) (a dx C : Addr) (f : Str) (v : V) : Hp := upd (upd H dx (exd dx [(f, v)])) a (exo a C (some dx))
theorem exH_upd {H : Hp} {a dx C : Addr} {f : Str} {v : V} (hne : dx ≠ a) : exH (upd H a (exo a C none)) a dx C f v = exH H a dx C f v := by
  funext b
  unfold exH
  by_cases h1 : b = a
  · rw [h1, upd_same, upd_same]
  · rw [upd_ne h1, upd_ne h1]
    by_cases h2 : b = dx
    · rw [h2, upd_same, upd_same]
    · rw [upd_ne h2, upd_ne h2, upd_ne h1]
/-- what __init__(self, f) with self.f = f promises -/
def spInit (K : PySem.W.Frag) (f : Str) : Sp := fun vs H Q _ => ∃ (a C : Addr) (v : V), vs = [.ref a, v] ∧ OexC K C ∧
  PySem.W.findIn K (.ref C) f = some none ∧ H a = some (exo a C none) ∧ ∀ dx, H dx = none → dx ≠ a → Q .non (exH H a dx C f v)
/-- C(e), C(f = e): a new error that holds the value -/
def tNewEx (C : Addr) (f : Str) (te : TE) : TE := fun σ H Q => te σ H fun v H1 => ∀ a dx, H1 a = none → H1 dx = none → dx ≠ a → Q (.ref a) (exH H1 a dx C f v)

section
variable {X : Cx} {k : Nat} {fI C : Addr} {fd : FuncData} {f x : Str} {p pos kp : Pos} {e : Expr} {te : TE}
/-- the head of such a call: the object is laid, __init__ runs -/
theorem run_init {pins : List (Addr × Obj)} {σ : L2.St} {H : Hp} {hp : Heap} {g : Array GenState} {dr : Drawn} {tk : Nat} {os : OsState} {Q : VK} {v : V} {u : Value} {args : Args} {rest : List Value} {A : Around}
    (T : OexC X.K C) (hf : PySem.W.findIn X.K (.ref C) f = some none) (F1 : FnOk X.prog X.w X.K X.mg X.base CX0 k fI fd ["self", f] (spInit X.K f))
    (hr : Room k A) (he : ∀ {s : Shared} {H : Hp}, Env0 X.prog X.w X.K X.mg X.base X.A X.stack s H → Env0 X.prog X.w X.K X.mg X.base A X.stack s H)
    (hb : ∀ s : Shared, X.K.In s.heap → BindsTo s fd args [("self", .ref (hp.objs.size + 1)), (f, u)])
    (I : Inv X pins σ H ⟨hp, g, dr, tk, os⟩) (r : RelV v u) (q : ∀ a dx, H a = none → H dx = none → dx ≠ a → Q (.ref a) (exH H a dx C f v)) :
    codeAny (model X.prog X.w) A (.call (.ref fI) args) (PySem.W.InitBack (hp.objs.size + 1) (callEnd (EP X pins σ Q) X.xe))
      ⟨(hp.push (PySem.W.kdv_tup rest)).push (PySem.HandSPX.excO C hp.objs.size), g, dr, tk, os⟩ := by
  have hsz : hp.objs.size ≤ hp.objs.size + 1 := Nat.le_succ _
  have hn : H (hp.objs.size + 1) = none := I.hok.fresh hsz
  have keep : ∀ b o, hp.get? b = some o → ((hp.push (PySem.W.kdv_tup rest)).push (PySem.HandSPX.excO C hp.objs.size)).get? b = some o :=
    fun b o e => Heap.get?_push_of_some _ (Heap.get?_push_of_some _ e)
  have hget : ((hp.push (PySem.W.kdv_tup rest)).push (PySem.HandSPX.excO C hp.objs.size)).get? (hp.objs.size + 1) = some (PySem.HandSPX.excO C hp.objs.size) := by heap_get
  have J := I.laid (t' := tk) (a := hp.objs.size + 1) (o := exo (hp.objs.size + 1) C none) keep hsz (exo_ok hget)
  have hs : spInit X.K f [.ref (hp.objs.size + 1), v] (upd H (hp.objs.size + 1) (exo (hp.objs.size + 1) C none))
      (fun v' H3 => v' = .non ∧ Q (.ref (hp.objs.size + 1)) H3) (fun _ _ _ => False) := by
    refine ⟨_, C, v, rfl, T, hf, upd_same, fun dx hd hne => ⟨rfl, ?_⟩⟩
    rw [upd_ne hne] at hd
    rw [exH_upd hne]
    exact q _ dx hn hd hne
  refine codeAny_mono (F1.run A X.stack _ _ args [.ref (hp.objs.size + 1), u] [.ref (hp.objs.size + 1), v] _ _ hr (he J.env0) (hb _ J.kIn) (.cons rfl (.cons r .nil)) hs) ?_
  intro res s' hq
  match res, hq with
  | .ok (.ret z), hq =>
    obtain ⟨v', H3, I3, rv, ev, q3⟩ := J.after hq
    subst ev
    exact ⟨rv, .ref (hp.objs.size + 1), H3, I3, rfl, q3⟩

/-- C(e) -/
theorem pe_exP (T : OexC X.K C) (hf : PySem.W.findIn X.K (.ref C) f = some none) (iC : PySem.W.findIn X.K (.ref C) "__init__" = some (some (.ref fI)))
    (tI : PySem.W.typeIn X.K (.ref fI) = some (.type "function")) (F1 : FnOk X.prog X.w X.K X.mg X.base CX0 k fI fd ["self", f] (spInit X.K f)) (hr : Room (k + 1) X.A)
    (hb : Binds X.K fd ["self", f] []) (hg : Gl X x) (hm : X.mg x = some (.ref C)) (ha : PE X e te)
    (hdb : (x == ("__debug__" : Str)) = false := by decide) (hst : starEach (e :: []) X.env = (false, eval e X.env) :: starEach [] X.env := by rfl)
    (hpl : (backTo pos (starEach [] X.env)).any (·.1) = false := by rfl) : PE X (.Call (.Name x p) [e] [] pos) (tNewEx C f te) := by
  constructor
  intro pins s σ H Q I h
  obtain ⟨nm, q, N, bs, bm, sn, sub, ab, col, dd, k0, k1, k2, k3, k5, hC, hbm⟩ := T.cls
  apply wpAny_Call_Name_kw
  refine ld_glob I hg hm ?_ hdb
  refine PySem.W.callWith_K (h₀ := X.base) I.ok.mod.kin T.kC (thn ((pa_cons ha pa_nil hst).run pos pins s σ H _ I (show tCons te tNil σ H (fun vs H1 => ∃ v, vs = [v] ∧ ∀ a dx, H1 a = none → H1 dx = none → dx ≠ a → Q (.ref a) (exH H1 a dx C f v)) from ?_)) ?_) hst hpl
  · refine Eq.mp ?_ h
    unfold tNewEx tCons tNil
    congr 1
    funext v H1
    apply propext
    constructor
    · intro z; exact ⟨v, rfl, z⟩
    · rintro ⟨v', e1, z⟩
      cases e1
      exact z
  · rintro us s1 ⟨vs, H1, I1, r1, v, rfl, q1⟩
    refine ⟨I1.kIn, ?_⟩
    obtain ⟨u, rfl, ru⟩ := vals1 r1
    show wpAny _ _ (call (.ref C) [u]) _ _ _
    obtain ⟨hp, g, dr, tk, os⟩ := s1
    refine wpAny_call (PySem.HandSPX.call_own F.excBase_ValueError (fun Y => PySem.HandSPX.refsVE_contains Y bm hbm) (I1.kIn _ _ hC) (PySem.W.looks_findIn I1.kIn iC)
      (fun self => PySem.W.bind_fn I1.kIn self tI) (by rw [sizeLine_eq]; exact (by decide : 1 ≤ 16777216)) ?_)
    exact run_init T hf F1 (hr.make C _ _) (fun z => z.make C _ _) (fun s k => hb s [.ref (hp.objs.size + 1), u] k rfl) I1 ru q1

/-- C(f = e) -/
theorem pe_exK (T : OexC X.K C) (hf : PySem.W.findIn X.K (.ref C) f = some none) (iC : PySem.W.findIn X.K (.ref C) "__init__" = some (some (.ref fI)))
    (tI : PySem.W.typeIn X.K (.ref fI) = some (.type "function")) (F1 : FnOk X.prog X.w X.K X.mg X.base CX0 k fI fd ["self", f] (spInit X.K f)) (hr : Room (k + 1) X.A)
    (hb : ∀ (s : Shared) (a u : Value), BindsTo s fd ⟨[a], [(f, u)]⟩ [("self", a), (f, u)]) (hg : Gl X x) (hm : X.mg x = some (.ref C)) (ha : PE X e te)
    (hall : (backToKw pos (keywordEach [⟨some f, e, kp⟩] X.env)).all (·.1.isSome) = true := by rfl)
    (hks : (backToKw pos (keywordEach [⟨some f, e, kp⟩] X.env)).filterMap (·.1) = [f] := by rfl) (hdb : (x == ("__debug__" : Str)) = false := by decide)
    (hpl : ((backTo pos (starEach [] X.env)).any (·.1) || (backToKw pos (keywordEach [⟨some f, e, kp⟩] X.env)).any (·.1.isNone)) = false := by rfl) :
    PE X (.Call (.Name x p) [] [⟨some f, e, kp⟩] pos) (tNewEx C f te) := by
  constructor
  intro pins s σ H Q I h
  obtain ⟨nm, q, N, bs, bm, sn, sub, ab, col, dd, k0, k1, k2, k3, k5, hC, hbm⟩ := T.cls
  apply wpAny_Call_Name_kw
  refine ld_glob I hg hm ?_ hdb
  refine PySem.W.callWith_KW0 (h₀ := X.base) I.ok.mod.kin T.kC hall ?_ hpl
  refine thn ((pk_cons ha pk_nil).run pos pins s σ H _ I (show tCons te tNil σ H (fun vs H1 => ∃ v, vs = [v] ∧ ∀ a dx, H1 a = none → H1 dx = none → dx ≠ a → Q (.ref a) (exH H1 a dx C f v)) from ?_)) ?_
  · refine Eq.mp ?_ h
    unfold tNewEx tCons tNil
    congr 1
    funext v H1
    apply propext
    constructor
    · intro z; exact ⟨v, rfl, z⟩
    · rintro ⟨v', e1, z⟩
      cases e1
      exact z
  · rintro us s1 ⟨vs, H1, I1, r1, v, rfl, q1⟩
    refine ⟨I1.kIn, ?_⟩
    obtain ⟨u, rfl, ru⟩ := vals1 r1
    rw [hks]
    show wpAny _ _ (call (.ref C) [] [(f, u)]) _ _ _
    obtain ⟨hp, g, dr, tk, os⟩ := s1
    refine wpAny_call (PySem.KVX.callK F.excBase_ValueError (fun Y => PySem.HandSPX.refsVE_contains Y bm hbm) (I1.kIn _ _ hC) (PySem.W.looks_findIn I1.kIn iC)
      (fun self => PySem.W.bind_fn I1.kIn self tI) ?_)
    exact run_init T hf F1 (hr.make C [] [(f, u)]) (fun z => z.make C [] [(f, u)]) (fun s _ => hb s _ u) I1 ru q1

/-- the field of such an error -/
def tGetEx (K : PySem.W.Frag) (f : Str) (te : TE) : TE := fun σ H Q => te σ H fun x H1 => ∃ (a C dx : Addr) (fs : List (Str × V)) (v : V), x = .ref a ∧ XfC K C ∧ PySem.W.findIn K (.ref C) f = some none ∧
  H1 a = some (exo a C (some dx)) ∧ H1 dx = some (exd dx fs) ∧ fs.lookup f = some v ∧ Q v H1
theorem pe_getEx (he : PE X e te) (hb : attributeBase e f X.env (eval e X.env) = eval e X.env := by rfl) : PE X (.Attribute e f pos) (tGetEx X.K f te) := by
  constructor
  intro pins s σ H Q I h
  refine attr_of hb (thn (he.run pins s σ H _ I h) ?_)
  rintro u s1 ⟨x, H1, I1, rx, a, C, dx, fs, v, rfl, T, hno, ea, ed, l, q⟩
  cases rx
  obtain ⟨t1, ho⟩ := exo_at I1.hok ea
  obtain ⟨mA, hns, hr⟩ := exd_at I1.hok ed
  obtain ⟨od, hod, hl⟩ := lookIn_ns hns
  obtain ⟨u, hu, ru⟩ := RelO.some_of (v := v) (o := mA f) (by rw [← l]; exact hr f)
  have J : PySem.W.InstAt s1.heap a { cls := .ref C, dict := some dx, data := .fields #[.ref t1, .none, .none, .none, .bool false, .none] } C (some od) := ⟨ho, rfl, rfl, hod⟩
  exact HandSPX.exc_get I1.kIn J T.ga T.gg T.exC (PySem.W.findObj_own T.hdC hno rfl (by rw [hl, hu])) (handed_of ru) ⟨v, H1, I1.tok _, ru, q⟩

/-- isinstance(x, C), x such an error -/
def rIsX (K : PySem.W.Frag) : List V → Hp → VK → Prop := fun xs H Q => ∃ (a D dx : Addr) (fs : List (Str × V)) (c : V) (u : Value) (b : Bool), xs = [.ref a, c] ∧ ClsV c u ∧ PySem.W.ErrC K D ∧
  H a = some (exo a D (some dx)) ∧ H dx = some (exd dx fs) ∧ PySem.W.kitOne K (.ref D) u = some b ∧ Q (.bl b) H
theorem call_isX : CallR X (.builtin "isinstance") (rIsX X.K) := by
  intro pins s σ H xs us Q I r h
  obtain ⟨a, D, dx, fs, c, u, b, rfl, k, cls, ea, ed, e, q⟩ := h
  obtain ⟨u1, u2, rfl, r1, r2⟩ := vals2 r
  have e2 := k.eq r2
  subst e2
  cases r1
  obtain ⟨t1, ho⟩ := exo_at I.hok ea
  obtain ⟨mA, hns, hr⟩ := exd_at I.hok ed
  obtain ⟨od, hod, hl⟩ := lookIn_ns hns
  have J : PySem.W.InstAt s.heap a { cls := .ref D, dict := some dx, data := .fields #[.ref t1, .none, .none, .none, .bool false, .none] } D (some od) := ⟨ho, rfl, rfl, hod⟩
  exact PySem.W.kia_one (PySem.W.err_kit cls) I.kIn J e (fun z => nomatch z) fun tk => ⟨.bl b, H, I.tok tk, rfl, q⟩
end
end KV
set_option Elab.async false
set_option linter.all false
set_option maxRecDepth 100000
set_option maxHeartbeats 1000000
/-! Data in the heap whose lists stand each in one place: what may be changed in place. -/
namespace KV
open PySem PySem.Spec PyProof.Rows L2
abbrev Fp := Addr → Prop
mutual
/-- v stands for d; F: the addresses of the lists in it, each in one place -/
inductive Ow (H : Hp) : V → PyData → Fp → Prop where
  | non {F : Fp} (e : ∀ a, ¬ F a) : Ow H .non .none F
  | bl {F : Fp} (b : Bool) (e : ∀ a, ¬ F a) : Ow H (.bl b) (.bool b) F
  | int {F : Fp} (i : Int) (e : ∀ a, ¬ F a) : Ow H (.int i) (.int i) F
  | str {F : Fp} (x : Str) (e : ∀ a, ¬ F a) : Ow H (.str x) (.str x) F
  | lst {F G : Fp} {a : Addr} {xs : List V} {ds : List PyData} (h : H a = some (.lst xs)) (r : OwAll H xs ds F) (n : ¬ F a) (e : ∀ b, G b ↔ b = a ∨ F b) : Ow H (.ref a) (.list ds) G
  | tup {F : Fp} {a : Addr} {xs : List V} {ds : List PyData} (h : H a = some (.tup xs)) (r : OwAll H xs ds F) : Ow H (.ref a) (.tuple ds) F
inductive OwAll (H : Hp) : List V → List PyData → Fp → Prop where
  | nil {F : Fp} (e : ∀ a, ¬ F a) : OwAll H [] [] F
  | cons {F G L : Fp} {v : V} {vs : List V} {d : PyData} {ds : List PyData} (h : Ow H v d F) (r : OwAll H vs ds G) (n : ∀ a, F a → ¬ G a) (e : ∀ a, L a ↔ F a ∨ G a) : OwAll H (v :: vs) (d :: ds) L
end
/-- all that stands outside G is as it was -/
def Off (G : Fp) (H H' : Hp) : Prop := ∀ a o, H a = some o → ¬ G a → H' a = some o
theorem Off.refl (G : Fp) (H : Hp) : Off G H H := fun _ _ h _ => h
theorem Off.mono {F G : Fp} {H H' : Hp} (h : Off F H H') (s : ∀ a, F a → G a) : Off G H H' := fun a o e n => h a o e fun z => n (s a z)
theorem Off.trans {G : Fp} {H H1 H2 : Hp} (a : Off G H H1) (b : Off G H1 H2) : Off G H H2 := fun c o e n => b c o (a c o e n) n
theorem Off.new {G : Fp} {H : Hp} {p : Addr} {o : HO} (n : H p = none) : Off G H (upd H p o) := fun a u e _ => by
  rw [upd_ne (ne_of_none e n)]
  exact e
theorem Off.upd {G : Fp} {H : Hp} {p : Addr} {o : HO} (g : G p) : Off G H (upd H p o) := fun a u e n => by
  rw [upd_ne fun z => n (by rw [z]; exact g)]
  exact e
section
variable {H H' : Hp} {K : PySem.W.Frag}
mutual
theorem Ow.dom : ∀ {v : V} {d : PyData} {F : Fp}, Ow H v d F → ∀ a, F a → ∃ xs, H a = some (.lst xs)
  | _, _, _, .non e, a, h => (e a h).elim
  | _, _, _, .bl _ e, a, h => (e a h).elim
  | _, _, _, .int _ e, a, h => (e a h).elim
  | _, _, _, .str _ e, a, h => (e a h).elim
  | _, _, _, .lst h0 r _ e, a, h => by
    rcases (e a).mp h with rfl | h
    · exact ⟨_, h0⟩
    · exact r.dom a h
  | _, _, _, .tup _ r, a, h => r.dom a h
theorem OwAll.dom : ∀ {vs : List V} {ds : List PyData} {F : Fp}, OwAll H vs ds F → ∀ a, F a → ∃ xs, H a = some (.lst xs)
  | _, _, _, .nil e, a, h => (e a h).elim
  | _, _, _, .cons h0 r _ e, a, h => by
    rcases (e a).mp h with h | h
    · exact h0.dom a h
    · exact r.dom a h
end
mutual
theorem Ow.keep {G : Fp} (k : Off G H H') (hG : ∀ a, G a → ∃ xs, H a = some (.lst xs)) : ∀ {v : V} {d : PyData} {F : Fp}, Ow H v d F → (∀ a, F a → ¬ G a) → Ow H' v d F
  | _, _, _, .non e, _ => .non e
  | _, _, _, .bl b e, _ => .bl b e
  | _, _, _, .int i e, _ => .int i e
  | _, _, _, .str x e, _ => .str x e
  | _, _, _, .lst h0 r n e, s => .lst (k _ _ h0 (s _ ((e _).mpr (.inl rfl)))) (r.keep k hG fun a z => s a ((e a).mpr (.inr z))) n e
  | _, _, _, .tup h0 r, s => .tup (k _ _ h0 fun z => by
      obtain ⟨xs, q⟩ := hG _ z
      rw [h0] at q
      cases q) (r.keep k hG s)
theorem OwAll.keep {G : Fp} (k : Off G H H') (hG : ∀ a, G a → ∃ xs, H a = some (.lst xs)) : ∀ {vs : List V} {ds : List PyData} {F : Fp}, OwAll H vs ds F → (∀ a, F a → ¬ G a) → OwAll H' vs ds F
  | _, _, _, .nil e, _ => .nil e
  | _, _, _, .cons h0 r n e, s => .cons (h0.keep k hG fun a z => s a ((e a).mpr (.inl z))) (r.keep k hG fun a z => s a ((e a).mpr (.inr z))) n e
end
mutual
theorem Ow.dp : ∀ {v : V} {d : PyData} {F : Fp}, Ow H v d F → Dp K H v d
  | _, _, _, .non _ => .non
  | _, _, _, .bl b _ => .bl b
  | _, _, _, .int i _ => .int i
  | _, _, _, .str x _ => .str x
  | _, _, _, .lst h0 r _ _ => .lst (SqL.of h0) r.dp
  | _, _, _, .tup h0 r => .tup (SqT.of h0) r.dp
theorem OwAll.dp : ∀ {vs : List V} {ds : List PyData} {F : Fp}, OwAll H vs ds F → DpAll K H vs ds
  | _, _, _, .nil _ => .nil
  | _, _, _, .cons h0 r _ _ => .cons h0.dp r.dp
end
theorem OwAll.length : ∀ {vs : List V} {ds : List PyData} {F : Fp}, OwAll H vs ds F → vs.length = ds.length
  | _, _, _, .nil _ => rfl
  | _, _, _, .cons _ r _ _ => congrArg Nat.succ r.length
theorem OwAll.congr : ∀ {vs : List V} {ds : List PyData} {F G : Fp}, OwAll H vs ds F → (∀ a, G a ↔ F a) → OwAll H vs ds G
  | _, _, _, _, .nil e, h => .nil fun a z => e a ((h a).mp z)
  | _, _, _, _, .cons h0 r n e, h => .cons h0 r n fun a => (h a).trans (e a)
theorem Ow.congr : ∀ {v : V} {d : PyData} {F G : Fp}, Ow H v d F → (∀ a, G a ↔ F a) → Ow H v d G
  | _, _, _, _, .non e, h => .non fun a z => e a ((h a).mp z)
  | _, _, _, _, .bl b e, h => .bl b fun a z => e a ((h a).mp z)
  | _, _, _, _, .int i e, h => .int i fun a z => e a ((h a).mp z)
  | _, _, _, _, .str x e, h => .str x fun a z => e a ((h a).mp z)
  | _, _, _, _, .lst h0 r n e, h => .lst h0 r n fun a => (h a).trans (e a)
  | _, _, _, _, .tup h0 r, h => .tup h0 (r.congr h)
theorem OwAll.snoc : ∀ {vs : List V} {ds : List PyData} {v : V} {d : PyData} {F G L : Fp}, OwAll H vs ds F → Ow H v d G → (∀ a, F a → ¬ G a) → (∀ a, L a ↔ F a ∨ G a) → OwAll H (vs ++ [v]) (ds ++ [d]) L
  | _, _, _, _, _, _, _, .nil e, h, n, l => .cons (h.congr fun a => (l a).trans ⟨fun z => z.elim (fun y => (e a y).elim) id, .inr⟩) (.nil (F := fun _ => False) fun _ z => z) (fun _ _ z => z) fun a => ⟨.inl, fun z => z.elim id False.elim⟩
  | _, _, _, _, F, G, L, .cons (F := F1) (G := G1) h0 r n0 e, h, n, l =>
    .cons (G := fun a => G1 a ∨ G a) h0 (r.snoc h (fun a z => n a ((e a).mpr (.inr z))) fun a => Iff.rfl)
      (fun a z y => y.elim (n0 a z) (n a ((e a).mpr (.inl z)))) fun a => (l a).trans ((or_congr (e a) Iff.rfl).trans or_assoc)
theorem OwAll.reverse : ∀ {vs : List V} {ds : List PyData} {F : Fp}, OwAll H vs ds F → OwAll H vs.reverse ds.reverse F
  | _, _, _, .nil e => .nil e
  | _, _, _, .cons h0 r n e => by
    rw [List.reverse_cons, List.reverse_cons]
    exact r.reverse.snoc h0 (fun a z y => n a y z) fun a => (e a).trans or_comm
/-- one item of it, and what changes when it is changed in place -/
theorem OwAll.at_ : ∀ {vs : List V} {ds : List PyData} {F : Fp} {i : Nat} {v : V}, OwAll H vs ds F → vs[i]? = some v →
    ∃ (d : PyData) (E : Fp), ds[i]? = some d ∧ Ow H v d E ∧ (∀ a, E a → F a) ∧ ∀ (H' : Hp) (d' : PyData), Ow H' v d' E → Off E H H' → OwAll H' vs (ds.set i d') F
  | _, _, _, i, v, .nil e, h => by simp at h
  | _, _, _, 0, v, .cons (F := F1) h0 r n e, h => by
    have hv := Option.some.inj h
    subst hv
    exact ⟨_, F1, rfl, h0, fun a z => (e a).mpr (.inl z), fun H' d' o k => .cons o (r.keep k (fun a z => h0.dom a z) fun a z y => n a y z) n e⟩
  | _, _, _, i + 1, v, .cons h0 r n e, h => by
    obtain ⟨d, E, e1, o, s, f⟩ := r.at_ (i := i) (v := v) (by simpa using h)
    exact ⟨d, E, by simpa using e1, o, fun a z => (e a).mpr (.inr (s a z)), fun H' d' o' k =>
      .cons (h0.keep k (fun a z => o.dom a z) fun a z y => n a z (s a y)) (f H' d' o' k) n e⟩
end

/-! ### sizes -/
/-- data of at most n levels, at most m items in each list, small leaves -/
def Fit (m : Nat) : Nat → PyData → Prop
  | _, .none => True
  | _, .bool _ => True
  | _, .int i => i.natAbs < 2 ^ 110
  | _, .str x => x.length ≤ 16 ∧ ∀ c ∈ x.cps.toList, c < 16 ^ 8
  | 0, _ => False
  | n + 1, .list ds => ds.length ≤ m ∧ ∀ d ∈ ds, Fit m n d
  | n + 1, .tuple ds => ds.length ≤ m ∧ ∀ d ∈ ds, Fit m n d
  | _ + 1, .dict _ => False
def big (m : Nat) : Nat → Nat
  | 0 => 200
  | n + 1 => 200 + m * (big m n + 2)
theorem textFrom_most : ∀ (ts : List Str) (k b : Nat) (acc : Str), (∀ t ∈ ts, t.length ≤ b) → (textFrom k acc ts).length ≤ acc.length + ts.length * (b + 2)
  | [], _, b, acc, _ => by show acc.length ≤ _; omega
  | t :: ts, k, b, acc, h => by
    have ih := textFrom_most ts (k + 1) b (acc ++ (if k > 0 then ", " else "" : String) ++ t) fun x hx => h x (List.mem_cons_of_mem _ hx)
    have ht := h t List.mem_cons_self
    have e : (acc ++ (if k > 0 then ", " else "" : String) ++ t).length ≤ acc.length + 2 + t.length := by
      rw [strLen_append, strLen_append]
      split
      · have : ((", " : String) : Str).length = 2 := rfl
        omega
      · have : (("" : String) : Str).length = 0 := rfl
        omega
    show (textFrom (k + 1) (acc ++ (if k > 0 then ", " else "" : String) ++ t) ts).length ≤ _
    rw [List.length_cons, Nat.add_mul]
    omega
theorem listText_most {ts : List Str} {b : Nat} (h : ∀ t ∈ ts, t.length ≤ b) : (listText ts).length ≤ 2 + ts.length * (b + 2) := by
  have := textFrom_most ts 0 b "[" h
  have e1 : (("[" : String) : Str).length = 1 := rfl
  have e2 : (("]" : String) : Str).length = 1 := rfl
  show (textFrom 0 "[" ts ++ "]").length ≤ _
  rw [strLen_append]
  omega
theorem piled_most : ∀ (ts : List Str) (b : Nat), (∀ t ∈ ts, t.length ≤ b) → piled ts ≤ ts.length * (b + 2)
  | [], b, _ => Nat.zero_le _
  | t :: ts, b, h => by
    have ih := piled_most ts b fun x hx => h x (List.mem_cons_of_mem _ hx)
    have ht := h t List.mem_cons_self
    rw [List.length_cons, Nat.add_mul]
    show (t.length + 2) + piled ts ≤ _
    omega
theorem tupleText_most {ts : List Str} {b : Nat} (h : ∀ t ∈ ts, t.length ≤ b) : (tupleText ts).length ≤ 3 + ts.length * (b + 2) := by
  have p := piled_most ts b h
  have e1 : (("(" : String) : Str).length = 1 := rfl
  have e2 : ((",)" : String) : Str).length = 2 := rfl
  have e3 : ((")" : String) : Str).length = 1 := rfl
  have j : (Str.join ", " ts).length ≤ piled ts := by
    by_cases z : ts = []
    · subst z
      exact Nat.zero_le _
    · have := join_length_add ts z
      omega
  show (("(" : Str) ++ Str.join ", " ts ++ (if ts.length == 1 then ",)" else ")" : String)).length ≤ _
  rw [strLen_append, strLen_append]
  split <;> omega
theorem shownAll_mem : ∀ {ds : List PyData} {t : Str}, t ∈ PyData.shownAll ds → ∃ d ∈ ds, t = d.shown
  | [], t, h => by simp [PyData.shownAll] at h
  | d :: ds, t, h => by
    simp only [PyData.shownAll, List.mem_cons] at h
    rcases h with h | h
    · exact ⟨d, List.mem_cons_self, h⟩
    · obtain ⟨e, he, q⟩ := shownAll_mem h
      exact ⟨e, List.mem_cons_of_mem _ he, q⟩
theorem shownAll_length : ∀ ds : List PyData, (PyData.shownAll ds).length = ds.length
  | [] => by simp [PyData.shownAll]
  | d :: ds => by simp [PyData.shownAll, shownAll_length ds]
theorem showableAll_of : ∀ {ds : List PyData}, (∀ d ∈ ds, d.showable = true) → PyData.showableAll ds = true
  | [], _ => by simp [PyData.showableAll]
  | d :: ds, h => by
    simp only [PyData.showableAll, Bool.and_eq_true]
    exact ⟨h d List.mem_cons_self, showableAll_of fun e he => h e (List.mem_cons_of_mem _ he)⟩
theorem hasDictAll_of : ∀ {ds : List PyData}, (∀ d ∈ ds, d.hasDict = false) → PyData.hasDictAll ds = false
  | [], _ => by simp [PyData.hasDictAll]
  | d :: ds, h => by
    simp only [PyData.hasDictAll, Bool.or_eq_false_iff]
    exact ⟨h d List.mem_cons_self, hasDictAll_of fun e he => h e (List.mem_cons_of_mem _ he)⟩
theorem depthAll_of {n : Nat} : ∀ {ds : List PyData}, (∀ d ∈ ds, d.depth ≤ n) → PyData.depthAll ds ≤ n
  | [], _ => by simp [PyData.depthAll]
  | d :: ds, h => by
    have h1 := h d List.mem_cons_self
    have h2 := depthAll_of fun e he => h e (List.mem_cons_of_mem _ he)
    simp only [PyData.depthAll]
    omega
/-- what repr asks of such data -/
structure ReprOk (n b : Nat) (d : PyData) : Prop where
  sh : d.showable = true
  nd : d.hasDict = false
  dp : d.depth ≤ n
  sz : d.shown.length ≤ b
theorem big_le (m : Nat) : ∀ n, 200 ≤ big m n
  | 0 => Nat.le_refl _
  | n + 1 => Nat.le_add_right _ _
theorem Fit.ok {m : Nat} : ∀ {n : Nat} {d : PyData}, Fit m n d → ReprOk n (big m n) d
  | n, .none, _ => ⟨by simp [PyData.showable], by simp [PyData.hasDict], by simp [PyData.depth], by
      simp only [PyData.shown]
      exact Nat.le_trans (by decide) (big_le m n)⟩
  | n, .bool b, _ => ⟨by simp [PyData.showable], by simp [PyData.hasDict], by simp [PyData.depth], by
      simp only [PyData.shown]
      exact Nat.le_trans (by cases b <;> decide) (big_le m n)⟩
  | n, .int i, h => by
    have h : i.natAbs < 2 ^ 110 := by cases n <;> exact h
    have l := PySem.Flt.log2_lt_of (n := i.natAbs) (k := 110) (by decide) h
    refine ⟨?_, by simp [PyData.hasDict], by simp [PyData.depth], ?_⟩
    · simp only [PyData.showable]
      exact decide_eq_true (by omega)
    · simp only [PyData.shown]
      have q : (Str.ofString (toString i)).length ≤ 110 + 1 := by
        rw [PySem.ofString_length]
        exact int_text_length_le (a := i) (k := 110) (by decide) l
      exact Nat.le_trans q (Nat.le_trans (by decide : 110 + 1 ≤ 200) (big_le m n))
  | n, .str x, h => by
    have h : x.length ≤ 16 ∧ ∀ c ∈ x.cps.toList, c < 16 ^ 8 := by cases n <;> exact h
    refine ⟨by simp [PyData.showable], by simp [PyData.hasDict], by simp [PyData.depth], ?_⟩
    simp only [PyData.shown]
    have q := StrLaws.reprText_len x h.2
    exact Nat.le_trans q (Nat.le_trans (by omega : _ ≤ 200) (big_le m n))
  | 0, .list _, h => h.elim
  | 0, .tuple _, h => h.elim
  | 0, .dict _, h => h.elim
  | _ + 1, .dict _, h => h.elim
  | n + 1, .list ds, ⟨h1, h2⟩ => by
    have all : ∀ d ∈ ds, ReprOk n (big m n) d := fun d hd => (h2 d hd).ok
    refine ⟨?_, ?_, ?_, ?_⟩
    · simp only [PyData.showable]
      exact showableAll_of fun d hd => (all d hd).sh
    · simp only [PyData.hasDict]
      exact hasDictAll_of fun d hd => (all d hd).nd
    · have := depthAll_of fun d hd => (all d hd).dp
      simp only [PyData.depth]
      omega
    · simp only [PyData.shown]
      have q := listText_most (ts := PyData.shownAll ds) (b := big m n) fun t ht => by
        obtain ⟨d, hd, rfl⟩ := shownAll_mem ht
        exact (all d hd).sz
      rw [shownAll_length] at q
      have z := Nat.mul_le_mul_right (big m n + 2) h1
      show _ ≤ 200 + m * (big m n + 2)
      omega
  | n + 1, .tuple ds, ⟨h1, h2⟩ => by
    have all : ∀ d ∈ ds, ReprOk n (big m n) d := fun d hd => (h2 d hd).ok
    refine ⟨?_, ?_, ?_, ?_⟩
    · simp only [PyData.showable]
      exact showableAll_of fun d hd => (all d hd).sh
    · simp only [PyData.hasDict]
      exact hasDictAll_of fun d hd => (all d hd).nd
    · have := depthAll_of fun d hd => (all d hd).dp
      simp only [PyData.depth]
      omega
    · simp only [PyData.shown]
      have q := tupleText_most (ts := PyData.shownAll ds) (b := big m n) fun t ht => by
        obtain ⟨d, hd, rfl⟩ := shownAll_mem ht
        exact (all d hd).sz
      rw [shownAll_length] at q
      have z := Nat.mul_le_mul_right (big m n + 2) h1
      show _ ≤ 200 + m * (big m n + 2)
      omega
/-! ### what _law_muddle makes of data -/
mutual
def mud : PyData → PyData
  | .list ds => .list ((mudAll ds ++ [PyData.str "muddled"]).reverse)
  | .tuple ds => .tuple (mudAll ds)
  | d => d
def mudAll : List PyData → List PyData
  | [] => []
  | d :: ds => mud d :: mudAll ds
end
theorem mudAll_map : ∀ ds : List PyData, mudAll ds = ds.map mud
  | [] => by simp [mudAll]
  | d :: ds => by simp [mudAll, mudAll_map ds]
theorem Fit.mono {m m' : Nat} (hm : m ≤ m') : ∀ {n : Nat} {d : PyData}, Fit m n d → Fit m' n d
  | n, .none, _ => by cases n <;> trivial
  | n, .bool b, _ => by cases n <;> trivial
  | n, .int i, h => by cases n <;> exact h
  | n, .str x, h => by cases n <;> exact h
  | 0, .list _, h => h.elim
  | 0, .tuple _, h => h.elim
  | 0, .dict _, h => h.elim
  | _ + 1, .dict _, h => h.elim
  | n + 1, .list ds, ⟨h1, h2⟩ => ⟨Nat.le_trans h1 hm, fun d hd => (h2 d hd).mono hm⟩
  | n + 1, .tuple ds, ⟨h1, h2⟩ => ⟨Nat.le_trans h1 hm, fun d hd => (h2 d hd).mono hm⟩
theorem Fit.mud {m : Nat} : ∀ {n : Nat} {d : PyData}, Fit m n d → Fit (m + 1) n (KV.mud d)
  | n, .none, _ => by cases n <;> simp [KV.mud, Fit]
  | n, .bool b, _ => by cases n <;> simp [KV.mud, Fit]
  | n, .int i, h => by cases n <;> (simp only [KV.mud]; exact h)
  | n, .str x, h => by cases n <;> (simp only [KV.mud]; exact h)
  | 0, .list _, h => h.elim
  | 0, .tuple _, h => h.elim
  | 0, .dict _, h => h.elim
  | _ + 1, .dict _, h => h.elim
  | n + 1, .list ds, ⟨h1, h2⟩ => by
    simp only [KV.mud]
    refine ⟨by simp [mudAll_map]; omega, fun d hd => ?_⟩
    rw [List.mem_reverse, List.mem_append, mudAll_map, List.mem_map] at hd
    rcases hd with ⟨e, he, rfl⟩ | hd
    · exact (h2 e he).mud
    · have hd := List.mem_singleton.mp hd
      subst hd
      have z : ("muddled" : Str).length ≤ 16 ∧ ∀ c ∈ ("muddled" : Str).cps.toList, c < 16 ^ 8 := by decide +kernel
      cases n <;> exact z
  | n + 1, .tuple ds, ⟨h1, h2⟩ => by
    simp only [KV.mud]
    refine ⟨by simp [mudAll_map]; omega, fun d hd => ?_⟩
    rw [mudAll_map, List.mem_map] at hd
    obtain ⟨e, he, rfl⟩ := hd
    exact (h2 e he).mud

/-! ### a list that grows by new data -/
/-- at D: a new list of the data ds, its lists new; nothing else of H but G has changed -/
def Grow (G : Fp) (H : Hp) (D : Addr) (ds : List PyData) (H' : Hp) : Prop := ∃ acc FA, H' D = some (.lst acc) ∧ OwAll H' acc ds FA ∧ ¬ FA D ∧ (∀ b, FA b → H b = none) ∧ Off G H H'
theorem Grow.start {G : Fp} {H : Hp} {D : Addr} (h : H D = none) : Grow G H D [] (upd H D (.lst [])) :=
  ⟨[], fun _ => False, upd_same, .nil fun _ z => z, fun z => z, fun _ z => z.elim, Off.new h⟩
theorem Grow.len {G : Fp} {H H' : Hp} {D : Addr} {ds : List PyData} (g : Grow G H D ds H') : ∃ acc, H' D = some (.lst acc) ∧ acc.length = ds.length := by
  obtain ⟨acc, FA, h1, h2, _⟩ := g
  exact ⟨acc, h1, h2.length⟩
theorem Off.none {G : Fp} {H H' : Hp} (k : Off G H H') {a : Addr} (h : H' a = none) (n : ¬ G a) : H a = none := by
  cases q : H a with
  | none => rfl
  | some o =>
    have z := k a o q n
    rw [h] at z
    cases z
theorem Grow.step {G : Fp} {H H' H4 : Hp} {D : Addr} {ds : List PyData} {v : V} {d : PyData} {F : Fp} (g : Grow G H D ds H') (hD : H D = none) (hG0 : ∀ a, G a → H a ≠ none) (hG1 : ∀ a, G a → ∃ xs, H' a = some (.lst xs))
    (o : Ow H4 v d F) (hF : ∀ a, F a → H' a = none) (k : Off G H' H4) : ∃ acc, H4 D = some (.lst acc) ∧ acc.length = ds.length ∧ Grow G H D (ds ++ [d]) (upd H4 D (.lst (acc ++ [v]))) := by
  obtain ⟨acc, FA, h1, h2, h3, h4, h5⟩ := g
  have nD : ¬ G D := fun z => hG0 D z hD
  have e4 := k _ _ h1 nD
  refine ⟨acc, e4, h2.length, acc ++ [v], fun b => FA b ∨ F b, upd_same, ?_, ?_, ?_, ?_⟩
  · have b1 : OwAll H4 acc ds FA := h2.keep k hG1 fun a z y => hG0 a y (h4 a z)
    have kD : Off (fun a => a = D) H4 (upd H4 D (.lst (acc ++ [v]))) := Off.upd rfl
    have hgD : ∀ a, a = D → ∃ xs, H4 a = some (.lst xs) := fun a z => ⟨acc, by rw [z]; exact e4⟩
    refine OwAll.snoc (b1.keep kD hgD fun a z y => h3 (y ▸ z)) (o.keep kD hgD fun a z y => ?_) (fun a z y => ?_) fun a => Iff.rfl
    · have q := hF a z
      rw [y, h1] at q
      cases q
    · obtain ⟨xs, q⟩ := h2.dom a z
      rw [hF a y] at q
      cases q
  · rintro (z | z)
    · exact h3 z
    · have q := hF D z
      rw [h1] at q
      cases q
  · rintro b (z | z)
    · exact h4 b z
    · have q := hF b z
      exact h5.none q fun y => by
        obtain ⟨xs, q2⟩ := hG1 b y
        rw [q] at q2
        cases q2
  · intro a u e n
    rw [upd_ne fun z => by rw [z, hD] at e; cases e]
    exact k _ _ (h5 a u e n) n
theorem Grow.list {G : Fp} {H H' : Hp} {D : Addr} {ds : List PyData} (g : Grow G H D ds H') (hD : H D = Option.none) : ∃ F, Ow H' (.ref D) (.list ds) F ∧ (∀ a, F a → H a = Option.none) ∧ Off G H H' := by
  obtain ⟨acc, FA, h1, h2, h3, h4, h5⟩ := g
  exact ⟨fun b => b = D ∨ FA b, .lst h1 h2 h3 fun _ => Iff.rfl, fun a z => z.elim (fun y => y ▸ hD) (h4 a), h5⟩
theorem Grow.tuple {G : Fp} {H H' : Hp} {D p : Addr} {ds : List PyData} {acc : List V} (g : Grow G H D ds H') (e : H' D = some (.lst acc)) (hp : H' p = Option.none) :
    ∃ F, Ow (upd H' p (.tup acc)) (.ref p) (.tuple ds) F ∧ (∀ a, F a → H a = Option.none) ∧ Off G H (upd H' p (.tup acc)) := by
  obtain ⟨acc', FA, h1, h2, h3, h4, h5⟩ := g
  rw [e] at h1
  have e1 : acc = acc' := HO.lst.inj (Option.some.inj h1)
  subst e1
  exact ⟨FA, .tup upd_same (h2.keep (G := fun _ => False) (Off.new hp) (fun _ z => z.elim) fun _ _ z => z), h4, h5.trans (Off.new hp)⟩
end KV
set_option Elab.async false
set_option linter.all false
set_option maxRecDepth 100000
set_option maxHeartbeats 4000000
/-! What the written part says of the classes of errors. -/
namespace KV
open PySem PySem.Spec PyProof.Rows L2 He
/-- an error class over ValueError, its field f stored by the __init__ at fI -/
structure ErrOk (K : PySem.W.Frag) (f : Str) (fI C : Addr) : Prop where
  oex : OexC K C
  xf : XfC K C
  err : PySem.W.ErrC K C
  no : PySem.W.findIn K (.ref C) f = some none
  ini : PySem.W.findIn K (.ref C) "__init__" = some (some (.ref fI))
  fn : PySem.W.typeIn K (.ref fI) = some (.type "function")
def clsB (K : PySem.W.Frag) (C : Addr) : Bool := match K.lookup C with
  | some ⟨.type t, _, .cls cd, sl⟩ => decide (t = "type") && (match cd.mro, sl.toList with
    | .ref C' :: bm, [_, _, _, _, some (.builtin n), _] => decide (C' = C) && (decide (n = "ValueError.__new__") && (!cd.hasDel && (cd.hasDict && PySem.HandSPX.refsVE bm)))
    | _, _ => false)
  | _ => false
theorem clsB_ok {K : PySem.W.Frag} {C : Addr} (h : clsB K C = true) : ∃ nm q N bs bm sn sub ab col dd k0 k1 k2 k3 k5,
    K.lookup C = some (excClassObj nm q C N bs bm true sn sub ab col dd k0 k1 k2 k3 k5 "ValueError.__new__") ∧ PySem.HandSPX.refsVE bm = true := by
  unfold clsB at h
  split at h
  · rename_i t dd cd sl ho
    obtain ⟨h1, h2⟩ := ba h
    have ht := of_decide_eq_true h1
    subst ht
    split at h2
    · rename_i C' bm k0 k1 k2 k3 n k5 hm hs
      obtain ⟨g1, h2⟩ := ba h2
      obtain ⟨g2, h2⟩ := ba h2
      obtain ⟨g3, h2⟩ := ba h2
      obtain ⟨g4, g5⟩ := ba h2
      have e1 := of_decide_eq_true g1
      have e2 := of_decide_eq_true g2
      subst e1 e2
      obtain ⟨nm, bs, mro, ns, qn, hd, sn, sub, ab, col, del⟩ := cd
      dsimp only at hm g3 g4
      subst hm g4
      have hdel : del = false := by simpa using g3
      subst hdel
      have hsl : sl = #[k0, k1, k2, k3, some (.builtin "ValueError.__new__"), k5] := by
        obtain ⟨l⟩ := sl
        simp only at hs
        rw [hs]
      subst hsl
      exact ⟨nm, qn, ns, bs, bm, sn, sub, ab, col, dd, k0, k1, k2, k3, k5, ho, g5⟩
    · cases h2
  · cases h
def errB (K : PySem.W.Frag) (f : Str) (fI C : Addr) : Bool :=
  clsB K C && (eqO (PySem.W.findIn K (.ref C) "__setattr__") (some (some (.builtin "object.__setattr__"))) && (decide (PySem.W.subIn K (.ref C) (.type "BaseException") = some true) &&
  (decide (PySem.W.typeIn K (.ref C) = some (.type "type")) && (PySem.W.keepIn K (.ref C) && (eqO (PySem.W.findIn K (.ref C) "__getattribute__") (some (some (.builtin "BaseException.__getattribute__"))) &&
  (eqO (PySem.W.findIn K (.ref C) "__getattr__") (some none) && (PySem.W.hasDictIn K C && (eqO (PySem.W.findIn K (.ref C) "__class__") (some (some (.builtin "object.__class__"))) &&
  (eqO (PySem.W.specialIn K (.builtin "object.__class__") "__get__") (some (some (.builtin "getset_descriptor.__get__"))) && (decide (PySem.W.takesIn K (.builtin "object.__class__") = some true) &&
  (decide (PySem.W.mroIn K C (.type "object") = some true) && (eqO (PySem.W.findIn K (.ref C) f) (some none) && (eqO (PySem.W.findIn K (.ref C) "__init__") (some (some (.ref fI))) &&
  decide (PySem.W.typeIn K (.ref fI) = some (.type "function")))))))))))))))
theorem errB_ok {K : PySem.W.Frag} {f : Str} {fI C : Addr} (h : errB K f fI C = true) : ErrOk K f fI C := by
  obtain ⟨a1, h⟩ := ba h
  obtain ⟨a2, h⟩ := ba h
  obtain ⟨a3, h⟩ := ba h
  obtain ⟨a4, h⟩ := ba h
  obtain ⟨a5, h⟩ := ba h
  obtain ⟨a6, h⟩ := ba h
  obtain ⟨a7, h⟩ := ba h
  obtain ⟨a8, h⟩ := ba h
  obtain ⟨a9, h⟩ := ba h
  obtain ⟨b1, h⟩ := ba h
  obtain ⟨b2, h⟩ := ba h
  obtain ⟨b3, h⟩ := ba h
  obtain ⟨b4, h⟩ := ba h
  obtain ⟨b5, b6⟩ := ba h
  exact ⟨⟨clsB_ok a1, eqO_ok a2, of_decide_eq_true a3, of_decide_eq_true a4, a5⟩, ⟨eqO_ok a6, eqO_ok a7, of_decide_eq_true a3, a8⟩,
    ⟨eqO_ok a6, eqO_ok a7, of_decide_eq_true a3, a8, eqO_ok a9, eqO_ok b1, of_decide_eq_true b2, of_decide_eq_true b3⟩, eqO_ok b4, eqO_ok b5, of_decide_eq_true b6⟩
/-- all classes of errors: the first is the others' base -/
def errsB (K : PySem.W.Frag) (f : Str) (base : Str) (names : List Str) : Bool :=
  (names.all fun x => errB K f (ma K (ga K base) "__init__") (ga K x)) &&
  ((names.all fun x => names.all fun y => decide (PySem.W.kitOne K (.ref (ga K x)) (.ref (ga K y)) = some (decide (x = y) || decide (y = base)))) &&
  (names.all fun x => decide (PySem.W.kitOne K (.ref (ga K x)) (.type "ValueError") = some true)))
structure Errs (K : PySem.W.Frag) (f base : Str) (names : List Str) : Prop where
  ok : ∀ x ∈ names, ErrOk K f (ma K (ga K base) "__init__") (ga K x)
  kit : ∀ x ∈ names, ∀ y ∈ names, PySem.W.kitOne K (.ref (ga K x)) (.ref (ga K y)) = some (decide (x = y) || decide (y = base))
  ve : ∀ x ∈ names, PySem.W.kitOne K (.ref (ga K x)) (.type "ValueError") = some true
theorem errsB_ok {K : PySem.W.Frag} {f base : Str} {names : List Str} (h : errsB K f base names = true) : Errs K f base names := by
  obtain ⟨h1, h⟩ := ba h
  obtain ⟨h2, h3⟩ := ba h
  exact ⟨fun x hx => errB_ok (List.all_eq_true.mp h1 x hx), fun x hx y hy => of_decide_eq_true (List.all_eq_true.mp (List.all_eq_true.mp h2 x hx) y hy), fun x hx => of_decide_eq_true (List.all_eq_true.mp h3 x hx)⟩
end KV
set_option Elab.async false
set_option linter.all false
set_option maxRecDepth 100000
set_option maxHeartbeats 4000000
namespace K01
open PySem PySem.Spec PyProof.Rows L2 KV
def top (i : Nat) : Stmt := PySem.Challenge.pw_keysthrough_k01_errors.main.body.getD i (.Pass ⟨0, 0, 0, 0⟩)
abbrev sPurse : Stmt := top 14
abbrev sCoin : Stmt := top 15
abbrev sCopied : Stmt := top 16
abbrev sMuddle : Stmt := top 17
abbrev sKinds : Stmt := top 18
abbrev sThing : Stmt := top 19
abbrev sMade : Stmt := top 20
abbrev sNamed : Stmt := top 21
abbrev sRight : Stmt := top 22
abbrev sLaw : Stmt := top 23
abbrev FnP (K : PySem.W.Frag) (x : Str) (st : Stmt) (f : Addr) (fd : FuncData) : Prop := FunD K x x (defArgs st) (defBody st) (defScope st) [] [] f fd

/-- at p: a purse, from which at most c numbers were stirred -/
def Pu (H : Hp) (p : Addr) (c : Nat) : Prop := ∃ a b n : Int, H p = some (.lst [.int a, .int b, .int n]) ∧ 0 ≤ a ∧ 0 ≤ b ∧ b < 1000000000000000000000007 ∧ 0 ≤ n ∧ n ≤ (c : Int)
/-- all but p is as it was -/
def But (p : Addr) (H H' : Hp) : Prop := ∀ b, b ≠ p → H' b = H b
theorem Pu.mono {H : Hp} {p : Addr} {c d : Nat} (h : Pu H p c) (e : c ≤ d) : Pu H p d := by
  obtain ⟨a, b, n, h1, h2, h3, h4, h5, h6⟩ := h
  exact ⟨a, b, n, h1, h2, h3, h4, h5, by omega⟩
theorem Pu.at {H H' : Hp} {p : Addr} {c : Nat} (h : Pu H p c) (e : H' p = H p) : Pu H' p c := by
  obtain ⟨a, b, n, h1, h2⟩ := h
  exact ⟨a, b, n, e.trans h1, h2⟩

def spPurse (K : PySem.W.Frag) : Sp := fun vs H Q _ => ∃ (a : Addr) (ns : List Int) (i : Int), vs = [.ref a, .int i] ∧ SqL K H a (ns.map V.int) ∧ 0 ≤ i ∧ i ≤ 100 ∧
  ∀ p, H p = none → ∀ H', Pu H' p 0 → But p H H' → Q (.ref p) H'
def spCoin : Sp := fun vs H Q _ => ∃ (p : Addr) (m : Int) (c : Nat), vs = [.ref p, .int m] ∧ Pu H p c ∧ c ≤ 1000000000 ∧ 0 < m ∧ m ≤ 1000000000000000000000000000000 ∧
  ∀ i H', 0 ≤ i → i < m → Pu H' p (c + 1) → But p H H' → Q (.int i) H'

section
variable {P : Program} {w : World} {K : PySem.W.Frag} {mg : Str → Option Value} {base : Heap}
theorem scPurse : FnScope ["script", "place", "cell"] ["script", "place"] (defScope sPurse) := ⟨rfl, rfl, rfl, by decide +kernel, rfl, by decide +kernel, by decide +kernel⟩
theorem ok_purse {f : Addr} {fd : FuncData} (F : FnP K "_law_purse" sPurse f fd) (ml : mg "len" = none) (mm : mg "max" = none) (ma : mg "abs" = none) (mi : mg "int" = none) :
    FnOk P w K mg base CX0 1 f fd ["script", "place"] (spPurse K) := by
  refine F.ok scPurse (fun vs H Q E h => ?_) (fun cdv A outer s H vs Q E hr h => ?_)
  · obtain ⟨a, ns, i, rfl, _⟩ := h
    rfl
  obtain ⟨a, ns, i, rfl, hS, h0, h1, q⟩ := h
  refine ⟨_, pss_cons (ps_set (i := 2) scPurse.nd rfl (Or.inl rfl) (pe_ifExp (pt_cmpR op_lt (pv 1) (pe_callB call_len_seq rfl ml boot_len (pa_cons (pv 0) pa_nil)) (nomark _))
      (pe_ix ix_list (pv 0) (pv 1) (fun _ _ => rfl)) pe_int))
    (pss_one (ps_ret (pe_lst (pa_cons (pe_callB (call_max2 rfl) rfl mm boot_max (pa_cons pe_int (pa_cons (pe_op op_sub (pe_callB call_abs rfl ma boot_abs (pa_cons (pv 2) pa_nil)) (pe_op op_pow pe_int pe_int)) pa_nil)))
      (pa_cons (pe_op op_mod (pe_callTy call_int1 rfl mi (by decide +kernel) (pa_cons (pe_op op_add (pe_op op_add (pe_op op_mul (pv 2) pe_int) (pe_op op_mul (pv 1) pe_int)) pe_int) pa_nil)) (pe_op op_add (pe_op op_pow pe_int pe_int) pe_int))
      (pa_cons pe_int pa_nil)))))), ?_⟩
  have hl : (ns.map V.int).length = ns.length := List.length_map _
  have fin : ∀ z : Int, ∀ p, H p = none → Q (.ref p) (upd H p (.lst [.int (if (if z < 0 then -z else z) - (10 : Int) ^ (18 : Int).toNat > 0 then (if z < 0 then -z else z) - (10 : Int) ^ (18 : Int).toNat else 0),
      .int ((z * 30011 + i * 7368787 + 104729) % ((10 : Int) ^ (24 : Int).toNat + 7)), .int 0])) := by
    intro z p hp
    have e : (10 : Int) ^ (24 : Int).toNat + 7 = 1000000000000000000000007 := by decide
    rw [e]
    refine q p hp _ ⟨_, _, _, upd_same, ?_, Int.emod_nonneg _ (by decide), Int.emod_lt_of_pos _ (by decide), Int.le_refl _, Int.le_refl _⟩ fun b hb => upd_ne hb
    split <;> omega
  refine ⟨_, rfl, _, rfl, a, _, rfl, .inl hS, _, _, rfl, rfl, _, rfl, ite2 (fun c => ?_) (fun c => ?_)⟩
  · have c' : i < (((ns.map V.int).length : Nat) : Int) := of_decide_eq_true c
    rw [hl] at c'
    have hk : i.toNat < ns.length := by omega
    have ek : i = ((i.toNat : Nat) : Int) := by omega
    have v : atI (ns.map V.int) ((i.toNat : Nat) : Int) = some (.int ns[i.toNat]) := atI_nat (by rw [List.getElem?_map, List.getElem?_eq_getElem hk] <;> rfl)
    rw [← ek] at v
    refine ⟨_, rfl, _, rfl, a, _, _, _, rfl, rfl, hS, v, ?_⟩
    exact ⟨_, rfl, _, rfl, _, _, rfl, rfl, ⟨by decide, by decide, by decide⟩, _, _, rfl, rfl, _, _, rfl, _, rfl, _, _, rfl, rfl, .inr ⟨by decide, by decide⟩, _, rfl, _, _, rfl, rfl, .inr ⟨by decide, by decide⟩, _, _, rfl, rfl, _, _, rfl, rfl,
      .inl ⟨_, rfl, _, _, rfl, rfl, ⟨by decide, by decide, by decide⟩, _, _, rfl, rfl, _, _, rfl, rfl, (by show (0 : Int) < 10 ^ Int.toNat 24 + 7; decide), by show 3 ≤ sizeLine; decide, fin _⟩⟩
  · exact ⟨_, rfl, _, rfl, _, _, rfl, rfl, ⟨by decide, by decide, by decide⟩, _, _, rfl, rfl, _, _, rfl, _, rfl, _, _, rfl, rfl, .inr ⟨by decide, by decide⟩, _, rfl, _, _, rfl, rfl, .inr ⟨by decide, by decide⟩, _, _, rfl, rfl, _, _, rfl, rfl,
      .inl ⟨_, rfl, _, _, rfl, rfl, ⟨by decide, by decide, by decide⟩, _, _, rfl, rfl, _, _, rfl, rfl, (by show (0 : Int) < 10 ^ Int.toNat 24 + 7; decide), by show 3 ≤ sizeLine; decide, fin _⟩⟩
theorem scCoin : FnScope ["purse", "many", "drawn", "stirred"] ["purse", "many"] (defScope sCoin) := ⟨rfl, rfl, rfl, by decide +kernel, rfl, by decide +kernel, by decide +kernel⟩
/-- the bits of a number below 2 ^ 100 -/
theorem bits100 {z : Int} (h0 : 0 ≤ z) (h : z < 2 ^ 100) : (Builtin.Int.intBits z : Int) ≤ 100 := by
  unfold Builtin.Int.intBits
  split
  · omega
  · rename_i hz
    have h1 : z.natAbs < 2 ^ 100 := by
      have e : ((2 ^ 100 : Nat) : Int) = 2 ^ 100 := by decide
      omega
    have := PySem.Flt.log2_lt_of (by decide : 0 < 100) h1
    omega
theorem ok_coin {f : Addr} {fd : FuncData} (F : FnP K "_law_coin" sCoin f fd) (mi : mg "int" = none) :
    FnOk P w K mg base CX0 1 f fd ["purse", "many"] spCoin := by
  refine F.ok scCoin (fun vs H Q E h => ?_) (fun cdv A outer s H vs Q E hr h => ?_)
  · obtain ⟨p, m, c, rfl, _⟩ := h
    rfl
  obtain ⟨p, m, c, rfl, ⟨a, b, n, hp, ha, hb, hb2, hn, hn2⟩, hc, hm, hm2, q⟩ := h
  have ix : ∀ {X : Cx} (i : Int) {p1 p2 p3 : Pos} {j : Nat}, X.N[0]? = some ("purse" : Str) → Vis X.env.scope ("purse" : Str) →
      PE X (.Subscript (.Name "purse" p1) (.Constant (.int i) j p2) p3) (tOp (rIxL X.K) (tVar 0) (tC (.int i))) :=
    fun i _ _ _ _ hN hv => pe_ix ix_list (pv 0 hN hv) pe_int (fun _ _ => rfl)
  refine ⟨_, pss_cons (ps_if (pt_cmpR op_gt (ix 0 rfl (Or.inl rfl)) pe_int (nomark _))
      (pss_cons (ps_set (i := 2) scCoin.nd rfl (Or.inl rfl) (pe_op op_mod (pe_callTy call_int1 rfl mi (by decide +kernel) (pa_cons (ix 0 rfl (Or.inl rfl)) pa_nil)) (pv 1)))
      (pss_cons (ps_asg (pe_op op_fdivW (ix 0 rfl (Or.inl rfl)) (pv 1)) (pg_sub (pv 0) pe_int set_list))
      (pss_one (ps_ret (pv 2))))) pss_nil)
    (pss_cons (ps_asg (pe_op op_add (ix 2 rfl (Or.inl rfl)) pe_int) (pg_sub (pv 0) pe_int set_list))
    (pss_cons (ps_set (i := 3) scCoin.nd rfl (Or.inl rfl) (pe_op op_mod (pe_op op_powB (pe_callTy call_int1 rfl mi (by decide +kernel) (pa_cons (pe_op op_add (ix 1 rfl (Or.inl rfl)) (pe_op op_mul pe_int (ix 2 rfl (Or.inl rfl)))) pa_nil)) pe_int) (pe_op op_add (pe_op op_pow pe_int pe_int) pe_int)))
    (pss_cons (ps_set (i := 3) scCoin.nd rfl (Or.inl rfl) (pe_op op_mod (pe_op op_powB (pe_callTy call_int1 rfl mi (by decide +kernel) (pa_cons (pe_op op_add (pv 3) (pe_op op_mul pe_int (ix 2 rfl (Or.inl rfl)))) pa_nil)) pe_int) (pe_op op_add (pe_op op_pow pe_int pe_int) pe_int)))
    (pss_one (ps_ret (pe_op op_mod (pe_callTy call_int1 rfl mi (by decide +kernel) (pa_cons (pe_op op_fdiv (pv 3) pe_int) pa_nil)) (pv 1))))))), ?_⟩
  refine ⟨_, rfl, p, _, _, _, rfl, rfl, SqL.of hp, rfl, _, _, rfl, rfl, _, rfl, ite2 (fun d => ?_) (fun d => ?_)⟩
  · have cd : CDivW a m := ⟨hm, Nat.lt_trans (PySem.Flt.log2_lt_of (n := m.natAbs) (k := 100) (by decide) (by
      have e : ((2 ^ 100 : Nat) : Int) = 1267650600228229401496703205376 := by decide
      omega)) (by decide)⟩
    refine ⟨_, rfl, p, _, _, _, rfl, rfl, SqL.of hp, rfl, .inl ⟨_, rfl, _, rfl, _, _, rfl, rfl, hm, ?_⟩⟩
    refine ⟨_, rfl, p, _, _, _, rfl, rfl, SqL.of hp, rfl, _, rfl, _, _, rfl, rfl, cd, _, rfl, p, _, _, _, rfl, rfl, hp, rfl, _, rfl, ?_⟩
    exact q _ _ (Int.emod_nonneg _ (by omega)) (Int.emod_lt_of_pos _ hm) ⟨_, _, _, upd_same, Int.ediv_nonneg ha (by omega), hb, hb2, hn, by omega⟩ fun b hb => upd_ne hb
  · have e1 : (10 : Int) ^ Int.toNat 25 + 13 = 10000000000000000000000013 := by decide
    have e2 : (10 : Int) ^ Int.toNat 24 + 7 = 1000000000000000000000007 := by decide
    have hu := @upd_same H p (.lst ([V.int a, V.int b, V.int n].set 2 (.int (n + 1))))
    have g1 : CPowB (b + 2038074743 * (n + 1)) 3 := ⟨by decide, by have := bits100 (z := b + 2038074743 * (n + 1)) (by omega) (by omega); omega⟩
    have z1 := Int.emod_nonneg ((b + 2038074743 * (n + 1)) ^ Int.toNat 3) (by decide : (10 : Int) ^ Int.toNat 25 + 13 ≠ 0)
    have z2 := Int.emod_lt_of_pos ((b + 2038074743 * (n + 1)) ^ Int.toNat 3) (by decide : (0 : Int) < (10 : Int) ^ Int.toNat 25 + 13)
    have g2 : ∀ y : Int, 0 ≤ y → y < (10 : Int) ^ Int.toNat 25 + 13 → CPowB (y + 982451653 * (n + 1)) 2 := fun y h1 h2 =>
      ⟨by decide, by have := bits100 (z := y + 982451653 * (n + 1)) (by omega) (by omega); omega⟩
    refine ⟨_, rfl, p, _, _, _, rfl, rfl, SqL.of hp, rfl, _, _, rfl, rfl, _, rfl, p, _, _, _, rfl, rfl, hp, rfl, ?_⟩
    refine ⟨_, rfl, p, _, _, _, rfl, rfl, SqL.of hu, rfl, _, rfl, p, _, _, _, rfl, rfl, SqL.of hu, rfl, _, _, rfl, rfl, .inl ⟨by decide, by decide⟩, _, _, rfl, rfl, .inl ⟨_, rfl, _, _, rfl, rfl, g1,
      _, _, rfl, rfl, ⟨by decide, by decide, by decide⟩, _, _, rfl, rfl, _, _, rfl, rfl, (by show (0 : Int) < 10 ^ Int.toNat 25 + 13; decide), ?_⟩⟩
    refine ⟨_, rfl, _, rfl, p, _, _, _, rfl, rfl, SqL.of hu, rfl, _, _, rfl, rfl, .inl ⟨by decide, by decide⟩, _, _, rfl, rfl, .inl ⟨_, rfl, _, _, rfl, rfl, g2 _ z1 z2,
      _, _, rfl, rfl, ⟨by decide, by decide, by decide⟩, _, _, rfl, rfl, _, _, rfl, rfl, (by show (0 : Int) < 10 ^ Int.toNat 24 + 7; decide), ?_⟩⟩
    refine ⟨_, rfl, _, _, rfl, rfl, ⟨by decide, by decide⟩, .inl ⟨_, rfl, _, rfl, _, _, rfl, rfl, hm, ?_⟩⟩
    exact q _ _ (Int.emod_nonneg _ (by omega)) (Int.emod_lt_of_pos _ hm) ⟨_, _, _, hu, ha, hb, hb2, by omega, by omega⟩ fun b hb => upd_ne hb
end
end K01
set_option Elab.async false
set_option linter.all false
set_option maxRecDepth 100000
set_option maxHeartbeats 4000000
namespace K01
open PySem PySem.Spec PyProof.Rows L2 KV
/-! ### isinstance of data -/
def tyName : PyData → String
  | .none => "NoneType"
  | .bool _ => "bool"
  | .int _ => "int"
  | .str _ => "str"
  | .list _ => "list"
  | .tuple _ => "tuple"
  | .dict _ => "dict"
theorem ow_ty {K : PySem.W.Frag} {H : Hp} {v : V} {d : PyData} {F : Fp} (o : Ow H v d F) : TyX K H v (.type (tyName d)) := by
  cases o with
  | non => exact .base .non
  | bl b => exact .base (.bl b)
  | int i => exact .base (.int i)
  | str x => exact .base (.str x)
  | lst h => exact .base (.lst h)
  | tup h => exact .base (.tup h)
def isList : PyData → Bool
  | .list _ => true
  | _ => false
def isTuple : PyData → Bool
  | .tuple _ => true
  | _ => false
theorem kit_list {K : PySem.W.Frag} : ∀ d : PyData, PySem.W.kitOne K (.type (tyName d)) (.type "list") = some (isList d)
  | .none => kit_ty (show kitB "NoneType" "list" = some false by decide +kernel)
  | .bool _ => kit_ty (show kitB "bool" "list" = some false by decide +kernel)
  | .int _ => kit_ty (show kitB "int" "list" = some false by decide +kernel)
  | .str _ => kit_ty (show kitB "str" "list" = some false by decide +kernel)
  | .list _ => kit_ty (show kitB "list" "list" = some true by decide +kernel)
  | .tuple _ => kit_ty (show kitB "tuple" "list" = some false by decide +kernel)
  | .dict _ => kit_ty (show kitB "dict" "list" = some false by decide +kernel)
theorem kit_tuple {K : PySem.W.Frag} : ∀ d : PyData, PySem.W.kitOne K (.type (tyName d)) (.type "tuple") = some (isTuple d)
  | .none => kit_ty (show kitB "NoneType" "tuple" = some false by decide +kernel)
  | .bool _ => kit_ty (show kitB "bool" "tuple" = some false by decide +kernel)
  | .int _ => kit_ty (show kitB "int" "tuple" = some false by decide +kernel)
  | .str _ => kit_ty (show kitB "str" "tuple" = some false by decide +kernel)
  | .list _ => kit_ty (show kitB "list" "tuple" = some false by decide +kernel)
  | .tuple _ => kit_ty (show kitB "tuple" "tuple" = some true by decide +kernel)
  | .dict _ => kit_ty (show kitB "dict" "tuple" = some false by decide +kernel)
theorem kit_seq {K : PySem.W.Frag} (d : PyData) : PySem.W.kitAny K (.type (tyName d)) [.type "list", .type "tuple"] = some (isList d || isTuple d) := by
  refine kitAny_cons (kit_list d) (fun e => ?_) fun e => by rw [e]; rfl
  refine kitAny_cons (kit_tuple d) (fun e2 => ?_) fun e2 => by rw [e2, Bool.or_true]
  rw [e, e2]
  exact kitAny_nil

/-! ### _law_copied -/
/-- a copy: new lists all through -/
def spCopied (n : Nat) : Sp := fun vs H Q _ => ∃ (v : V) (d : PyData) (F : Fp) (m k : Nat), vs = [v] ∧ Ow H v d F ∧ Fit m k d ∧ m ≤ 1000 ∧ k < n ∧
  ∀ v' F' H', Ow H' v' d F' → (∀ a, F' a → H a = none) → Off (fun _ => False) H H' → Q v' H'
section
variable {P : Program} {w : World} {K : PySem.W.Frag} {mg : Str → Option Value} {base : Heap}
theorem none_leftN {f : Addr} {fd : FuncData} {ps : List Str} {sp : Sp} (h : ∀ vs H Q E, ¬ sp vs H Q E) : FnOk P w K mg base CX0 0 f fd ps sp :=
  ⟨fun vs H Q E z => absurd z (h vs H Q E), fun A outer s H args us vs Q E _ _ _ _ z => absurd z (h vs H Q E)⟩
theorem scCopied : FnScope ["thing", "part"] ["thing"] (defScope sCopied) := ⟨rfl, rfl, rfl, by decide +kernel, rfl, by decide +kernel, by decide +kernel⟩
theorem ok_copied_step {n : Nat} {f : Addr} {fd : FuncData} (F : FnP K "_law_copied" sCopied f fd) (hb : Binds K fd ["thing"] []) (mf : mg "_law_copied" = some (.ref f)) (mi : mg "isinstance" = none) (ml : mg "list" = none) (mt : mg "tuple" = none)
    (G : FnOk P w K mg base CX0 n f fd ["thing"] (spCopied n)) : FnOk P w K mg base CX0 (n + 1) f fd ["thing"] (spCopied (n + 1)) := by
  refine F.ok scCopied (fun vs H Q E h => ?_) (fun cdv A outer s H vs Q E hr h => ?_)
  · obtain ⟨v, d, F, m, k, rfl, _⟩ := h
    rfl
  obtain ⟨v, d, Fv, m, k, rfl, o, hf, hm, hk, q⟩ := h
  refine ⟨_, pss_cons (ps_if (pt_val (pe_callB call_isi rfl mi boot_isinstance (pa_cons (pv 0) (pa_cons (pe_bltn (v := .ty "list") rfl ml boot_list rfl) pa_nil))))
      (pss_one (ps_ret (pe_lc (own := [("part", 1)]) (g := gName 1) (tt := tYes) rfl scCopied.nd (pi_list (pv 0)) (blkOk_by (own := [("part", 1)]) (N := ["thing", "part"]) (sc := defScope sCopied) (by decide +kernel))
        (fun _ _ _ _ _ => pg_name (i := 1) scCopied.nd rfl (Or.inl rfl)) (fun _ _ _ _ _ => pts_nil)
        (fun _ _ _ _ _ => pe_call G hr rfl mf F.kp hb .nil pass0 (pa_cons (pv 1) pa_nil))))) pss_nil)
    (pss_one (ps_ret (pe_ifExp (pt_val (pe_callB call_isi rfl mi boot_isinstance (pa_cons (pv 0) (pa_cons (pe_bltn (v := .ty "tuple") rfl mt boot_tuple rfl) pa_nil))))
      (pe_callTy call_tuple_of rfl mt boot_tuple (pa_cons (pe_lc (own := [("part", 1)]) (g := gName 1) (tt := tYes) rfl scCopied.nd (pi_tup (pv 0)) (blkOk_by (own := [("part", 1)]) (N := ["thing", "part"]) (sc := defScope sCopied) (by decide +kernel))
        (fun _ _ _ _ _ => pg_name (i := 1) scCopied.nd rfl (Or.inl rfl)) (fun _ _ _ _ _ => pts_nil)
        (fun _ _ _ _ _ => pe_call G hr rfl mf F.kp hb .nil pass0 (pa_cons (pv 1) pa_nil))) pa_nil))
      (pv 0)))), ?_⟩
  refine ⟨_, rfl, v, .ty "list", .type (tyName d), .type "list", isList d, rfl, .ty _, ow_ty o, kit_list d, _, rfl, ?_⟩
  have small : ∀ {ds : List PyData} {j : Nat}, ds.length ≤ m → j ≤ ds.length → j < sizeLine := fun h1 h2 => small1000 (by omega)
  -- one turn of either loop
  have turn : ∀ {ds : List PyData} {xs : List V} {F1 : Fp} {k' D i : Nat} {x : V} {H' : Hp}, OwAll H xs ds F1 → (∀ e ∈ ds, Fit m k' e) → k' < n → ds.length ≤ m → H D = none → xs[i]? = some x → Grow (fun _ => False) H D (ds.take i) H' →
      spCopied n [x] H' (fun y H4 => ∃ acc, H4 D = some (.lst acc) ∧ acc.length < sizeLine ∧ Grow (fun _ => False) H D (ds.take (i + 1)) (upd H4 D (.lst (acc ++ [y])))) E0 := by
    intro ds xs F1 k' D i x H' r hfs hk' hl hD hx g
    obtain ⟨d1, E1, e1, o1, s1, _⟩ := r.at_ hx
    obtain ⟨_, _, _, _, _, _, off⟩ := id g
    refine ⟨x, d1, E1, m, k', rfl, o1.keep off (fun _ z => z.elim) (fun _ _ z => z), hfs d1 (List.mem_of_getElem? e1), hm, hk', ?_⟩
    intro v' F' H4 o4 f4 k4
    obtain ⟨acc, a1, a2, a3⟩ := g.step hD (fun _ z => z.elim) (fun _ z => z.elim) o4 f4 k4
    refine ⟨acc, a1, by rw [a2]; exact small hl (by rw [List.length_take]; omega), ?_⟩
    rw [List.take_add_one, e1]
    exact a3
  cases d with
  | list ds =>
    cases o with
    | @lst F1 _ a xs _ h0 r n0 e0 =>
    cases k with
    | zero => exact hf.elim
    | succ k =>
    obtain ⟨hl, hfs⟩ := hf
    refine iteT ⟨_, rfl, a, rfl, ⟨xs, SqL.of h0⟩, fun D hD => lc_list (K := K) (a := a) (xs := xs) (fun i H' => Grow (fun _ => False) H D (ds.take i) H') (Grow.start hD) (fun i H' _ g => ?_) (fun i x H' hx g => ?_) fun H' g => ?_⟩
    · obtain ⟨_, _, _, _, _, _, off⟩ := g
      exact SqL.of (off _ _ h0 fun z => z)
    · exact ⟨rfl, Exists.intro x ⟨rfl, turn r hfs (by omega) hl hD hx g⟩⟩
    · rw [r.length, List.take_length] at g
      obtain ⟨F', o', f', k'⟩ := g.list hD
      exact q _ F' H' o' f' k'
  | tuple ds =>
    refine iteF ?_
    refine ⟨_, rfl, v, .ty "tuple", .type (tyName (.tuple ds)), .type "tuple", true, rfl, .ty _, ow_ty o, kit_tuple _, _, rfl, iteT ?_⟩
    cases o with
    | @tup F1 a xs _ h0 r =>
    cases k with
    | zero => exact hf.elim
    | succ k =>
    obtain ⟨hl, hfs⟩ := hf
    refine ⟨_, rfl, a, rfl, ⟨xs, SqT.of h0⟩, fun D hD => lc_tup (K := K) (a := a) (xs := xs) (fun i H' => Grow (fun _ => False) H D (ds.take i) H') (Grow.start hD) (fun i H' _ g => ?_) (fun i x H' hx g => ?_) fun H' g => ?_⟩
    · obtain ⟨_, _, _, _, _, _, off⟩ := g
      exact SqT.of (off _ _ h0 fun z => z)
    · exact ⟨rfl, Exists.intro x ⟨rfl, turn r hfs (by omega) hl hD hx g⟩⟩
    · rw [r.length, List.take_length] at g
      obtain ⟨acc, _, e1, _⟩ := id g
      refine ⟨D, acc, rfl, .inl ⟨SqL.of e1, fun p hp => ?_⟩⟩
      obtain ⟨F', o', f', k'⟩ := g.tuple e1 hp
      exact q _ F' _ o' f' k'
  | none => exact iteF ⟨_, rfl, v, .ty "tuple", .type (tyName .none), .type "tuple", false, rfl, .ty _, ow_ty o, kit_tuple _, _, rfl, iteF ⟨_, rfl, q v Fv H o (by cases o with | non e => exact fun a z => (e a z).elim) (Off.refl _ _)⟩⟩
  | bool b => exact iteF ⟨_, rfl, v, .ty "tuple", .type (tyName (.bool b)), .type "tuple", false, rfl, .ty _, ow_ty o, kit_tuple _, _, rfl, iteF ⟨_, rfl, q v Fv H o (by cases o with | bl _ e => exact fun a z => (e a z).elim) (Off.refl _ _)⟩⟩
  | int i => exact iteF ⟨_, rfl, v, .ty "tuple", .type (tyName (.int i)), .type "tuple", false, rfl, .ty _, ow_ty o, kit_tuple _, _, rfl, iteF ⟨_, rfl, q v Fv H o (by cases o with | int _ e => exact fun a z => (e a z).elim) (Off.refl _ _)⟩⟩
  | str x => exact iteF ⟨_, rfl, v, .ty "tuple", .type (tyName (.str x)), .type "tuple", false, rfl, .ty _, ow_ty o, kit_tuple _, _, rfl, iteF ⟨_, rfl, q v Fv H o (by cases o with | str _ e => exact fun a z => (e a z).elim) (Off.refl _ _)⟩⟩
  | dict kvs => cases o
theorem ok_copied {f : Addr} {fd : FuncData} (F : FnP K "_law_copied" sCopied f fd) (hb : Binds K fd ["thing"] []) (mf : mg "_law_copied" = some (.ref f)) (mi : mg "isinstance" = none) (ml : mg "list" = none) (mt : mg "tuple" = none) :
    ∀ n : Nat, FnOk P w K mg base CX0 n f fd ["thing"] (spCopied n)
  | 0 => none_leftN fun vs H Q E h => by
    obtain ⟨_, _, _, _, _, _, _, _, _, h, _⟩ := h
    exact absurd h (Nat.not_lt_zero _)
  | n + 1 => ok_copied_step F hb mf mi ml mt (ok_copied F hb mf mi ml mt n)
end
end K01
set_option Elab.async false
set_option linter.all false
set_option maxRecDepth 100000
set_option maxHeartbeats 4000000
namespace K01
open PySem PySem.Spec PyProof.Rows L2 KV
/-! ### _law_muddle -/
def spMuddle (n : Nat) : Sp := fun vs H Q _ => ∃ (v : V) (d : PyData) (F : Fp) (m k : Nat), vs = [v] ∧ Ow H v d F ∧ Fit m k d ∧ m ≤ 1000 ∧ k < n ∧
  ∀ H', Ow H' v (mud d) F → Off F H H' → Q .non H'
/-- the first i items are muddled -/
def mixed (ds : List PyData) (i : Nat) : List PyData := mudAll (ds.take i) ++ ds.drop i
theorem mixed_at {ds : List PyData} {i : Nat} : (mixed ds i)[i]? = ds[i]? := by
  unfold mixed
  rw [mudAll_map]
  by_cases h : i < ds.length
  · rw [List.getElem?_append_right (by simp; omega)]
    simp [Nat.min_eq_left (Nat.le_of_lt h)]
  · rw [List.getElem?_eq_none (by simp; omega), List.getElem?_eq_none (by omega)]
theorem mixed_set {ds : List PyData} {i : Nat} {d : PyData} (h : ds[i]? = some d) : (mixed ds i).set i (mud d) = mixed ds (i + 1) := by
  obtain ⟨hi, e⟩ := List.getElem?_eq_some_iff.mp h
  unfold mixed
  rw [mudAll_map, mudAll_map, List.set_append_right _ _ (by simp; omega), List.take_add_one, h, List.map_append]
  have e2 : i - (List.map mud (List.take i ds)).length = 0 := by simp; omega
  rw [e2, List.drop_eq_getElem_cons hi, List.append_assoc]
  rfl
theorem mixed_end (ds : List PyData) : mixed ds ds.length = mudAll ds := by simp [mixed]
theorem mixed_start (ds : List PyData) : mixed ds 0 = ds := by simp [mixed, mudAll]
section
variable {P : Program} {w : World} {K : PySem.W.Frag} {mg : Str → Option Value} {base : Heap}
theorem scMuddle : FnScope ["thing", "part"] ["thing"] (defScope sMuddle) := ⟨rfl, rfl, rfl, by decide +kernel, rfl, by decide +kernel, by decide +kernel⟩
theorem ok_muddle_step {n : Nat} {f : Addr} {fd : FuncData} (F : FnP K "_law_muddle" sMuddle f fd) (hb : Binds K fd ["thing"] []) (mf : mg "_law_muddle" = some (.ref f)) (mi : mg "isinstance" = none) (ml : mg "list" = none) (mt : mg "tuple" = none)
    (G : FnOk P w K mg base CX0 n f fd ["thing"] (spMuddle n)) : FnOk P w K mg base CX0 (n + 1) f fd ["thing"] (spMuddle (n + 1)) := by
  refine F.ok scMuddle (fun vs H Q E h => ?_) (fun cdv A outer s H vs Q E hr h => ?_)
  · obtain ⟨v, d, F, m, k, rfl, _⟩ := h
    rfl
  obtain ⟨v, d, Fv, m, k, rfl, o, hf, hm, hk, q⟩ := h
  refine ⟨_, PSs.nox (pss_cons (ps_if (pt_val (pe_callB call_isiT rfl mi boot_isinstance (pa_cons (pv 0) (pa_cons (pe_tup (pa_cons (pe_bltn (v := .ty "list") rfl ml boot_list rfl) (pa_cons (pe_bltn (v := .ty "tuple") rfl mt boot_tuple rfl) pa_nil))) pa_nil))))
      (pss_one (ps_for PassesOwn.never rfl (pi_list (pe_callTy call_list_of rfl ml boot_list (pa_cons (pv 0) pa_nil))) (pg_name (i := 1) scMuddle.nd rfl (Or.inl rfl))
        (pss_one (ps_expr (pe_call G hr rfl mf F.kp hb .nil pass0 (pa_cons (pv 1) pa_nil)))))) pss_nil)
    (pss_one (ps_if (pt_val (pe_callB call_isi rfl mi boot_isinstance (pa_cons (pv 0) (pa_cons (pe_bltn (v := .ty "list") rfl ml boot_list rfl) pa_nil))))
      (pss_cons (ps_expr (pe_bm PySem.F.plainAttrs_list PySem.F.slot_list_append PySem.F.type_list_append mt_append (pv 0) (pa_cons pe_str pa_nil)))
        (pss_one (ps_expr (pe_bm0 PySem.F.plainAttrs_list PySem.F.slot_list_reverse PySem.F.type_list_reverse mt_reverse (pv 0))))) pss_nil))), ?_⟩
  refine ⟨_, rfl, (by show 2 ≤ sizeLine; decide), fun tp htp => ?_⟩
  have off1 : ∀ G : Fp, Off G H (upd H tp (.tup [.ty "list", .ty "tuple"])) := fun G => Off.new htp
  have o1 := o.keep (G := fun _ => False) (off1 _) (fun _ z => z.elim) fun _ _ z => z
  refine ⟨v, tp, _, .type (tyName d), _, _, rfl, upd_same, .cons (.ty "list") (.cons (.ty "tuple") .nil), ow_ty o1, kit_seq d, _, rfl, ?_⟩
  generalize upd H tp (.tup [.ty "list", .ty "tuple"]) = H1 at off1 o1
  -- one turn
  have turn : ∀ {ds : List PyData} {xs : List V} {F1 : Fp} {k' i : Nat} {x : V} {H2 H' : Hp}, OwAll H' xs (mixed ds i) F1 → (∀ e ∈ ds, Fit m k' e) → k' < n → xs[i]? = some x → Off F1 H2 H' →
      spMuddle n [x] H' (fun _ H4 => OwAll H4 xs (mixed ds (i + 1)) F1 ∧ Off F1 H2 H4) E0 := by
    intro ds xs F1 k' i x H2 H' r hfs hk' hx k0
    obtain ⟨d1, E1, e1, oo, s1, fin⟩ := r.at_ hx
    rw [mixed_at] at e1
    refine ⟨x, d1, E1, m, k', rfl, oo, hfs d1 (List.mem_of_getElem? e1), hm, hk', fun H4 o4 k4 => ?_⟩
    have z := fin H4 (mud d1) o4 k4
    rw [mixed_set e1] at z
    exact ⟨z, k0.trans (k4.mono s1)⟩
  cases d with
  | list ds =>
    cases o1 with
    | @lst F1 _ a xs _ h0 r n0 e0 =>
    cases k with
    | zero => exact hf.elim
    | succ k =>
    obtain ⟨hl, hfs⟩ := hf
    refine iteT ⟨_, rfl, a, xs, rfl, .inl (SqL.of h0), fun l hl0 => ⟨l, rfl, ⟨xs, SqL.of upd_same⟩, for_list (K := K) (a := l) (xs := xs)
      (fun i σ H' => ∃ w, σ = [some (.ref a), w] ∧ OwAll H' xs (mixed ds i) F1 ∧ Off F1 (upd H1 l (.lst xs)) H') ⟨none, rfl, ?_, Off.refl _ _⟩ (fun i σ H' _ g => ?_) (fun i x σ H' hx g => ?_) fun σ H' g => ?_⟩⟩
    · rw [mixed_start]
      exact r.keep (G := fun _ => False) (Off.new hl0) (fun _ z => z.elim) fun _ _ z => z
    · obtain ⟨_, _, _, off⟩ := g
      refine SqL.of (off _ _ upd_same fun z => ?_)
      obtain ⟨ys, y⟩ := r.dom _ z
      rw [hl0] at y
      cases y
    · obtain ⟨w1, rfl, r1, off⟩ := g
      have tn := turn r1 hfs (by omega) hx off
      obtain ⟨v5, d5, F5, m5, k5, e5, o5, f5, m5', k5', q5⟩ := tn
      exact ⟨_, rfl, v5, d5, F5, m5, k5, e5, o5, f5, m5', k5', fun H4 a1 a2 => ⟨_, rfl, q5 H4 a1 a2⟩⟩
    · obtain ⟨w1, rfl, r1, off⟩ := g
      rw [r.length, mixed_end] at r1
      have na : a ≠ l := fun z => by
        rw [z, hl0] at h0
        cases h0
      have ea : H' a = some (.lst xs) := off _ _ (by rw [upd_ne na]; exact h0) n0
      refine ⟨_, rfl, .ref a, .ty "list", .type "list", .type "list", true, rfl, .ty _, .base (.lst ea), kit_list (.list ds), _, rfl, iteT ?_⟩
      refine ⟨_, rfl, .inl ⟨rfl, xs, SqL.of ea⟩, a, xs, _, rfl, rfl, ea, small1000 (by have := r.length; omega), ?_⟩
      refine ⟨_, rfl, .inl ⟨rfl, _, SqL.of upd_same⟩, ?_⟩
      refine ⟨a, xs ++ [V.str "muddled"], rfl, rfl, upd_same, ?_⟩
      have kA : Off (fun b => b = a) H' (upd (upd H' a (.lst (xs ++ [V.str "muddled"]))) a (.lst (xs ++ [V.str "muddled"]).reverse)) := by
        rw [upd_upd]
        exact Off.upd rfl
      refine q _ ?_ ?_
      · simp only [mud]
        refine .lst upd_same ?_ n0 e0
        exact ((r1.snoc (Ow.str "muddled" (F := fun _ => False) fun _ z => z) (fun _ _ z => z) fun b => (or_iff_left id).symm).reverse).keep kA (fun b z => ⟨xs, by rw [z]; exact ea⟩) fun b z y => n0 (y ▸ z)
      · refine (off1 _).trans ((Off.new hl0).trans ((off.mono fun b z => (e0 b).mpr (.inr z)).trans (kA.mono fun b z => (e0 b).mpr (.inl z))))
  | tuple ds =>
    cases o1 with
    | @tup F1 a xs _ h0 r =>
    cases k with
    | zero => exact hf.elim
    | succ k =>
    obtain ⟨hl, hfs⟩ := hf
    refine iteT ⟨_, rfl, a, xs, rfl, .inr (SqT.of h0), fun l hl0 => ⟨l, rfl, ⟨xs, SqL.of upd_same⟩, for_list (K := K) (a := l) (xs := xs)
      (fun i σ H' => ∃ w, σ = [some (.ref a), w] ∧ OwAll H' xs (mixed ds i) Fv ∧ Off Fv (upd H1 l (.lst xs)) H') ⟨none, rfl, ?_, Off.refl _ _⟩ (fun i σ H' _ g => ?_) (fun i x σ H' hx g => ?_) fun σ H' g => ?_⟩⟩
    · rw [mixed_start]
      exact r.keep (G := fun _ => False) (Off.new hl0) (fun _ z => z.elim) fun _ _ z => z
    · obtain ⟨_, _, _, off⟩ := g
      refine SqL.of (off _ _ upd_same fun z => ?_)
      obtain ⟨ys, y⟩ := r.dom _ z
      rw [hl0] at y
      cases y
    · obtain ⟨w1, rfl, r1, off⟩ := g
      have tn := turn r1 hfs (by omega) hx off
      obtain ⟨v5, d5, F5, m5, k5, e5, o5, f5, m5', k5', q5⟩ := tn
      exact ⟨_, rfl, v5, d5, F5, m5, k5, e5, o5, f5, m5', k5', fun H4 a1 a2 => ⟨_, rfl, q5 H4 a1 a2⟩⟩
    · obtain ⟨w1, rfl, r1, off⟩ := g
      rw [r.length, mixed_end] at r1
      have na : a ≠ l := fun z => by
        rw [z, hl0] at h0
        cases h0
      have nF : ¬ Fv a := fun z => by
        obtain ⟨ys, y⟩ := r.dom _ z
        rw [h0] at y
        cases y
      have ea : H' a = some (.tup xs) := off _ _ (by rw [upd_ne na]; exact h0) nF
      refine ⟨_, rfl, .ref a, .ty "list", .type "tuple", .type "list", false, rfl, .ty _, .base (.tup ea), kit_list (.tuple ds), _, rfl, iteF ?_⟩
      refine q _ ?_ ((off1 _).trans ((Off.new hl0).trans off))
      simp only [mud]
      exact .tup ea r1
  | none => exact iteF ⟨_, rfl, v, .ty "list", .type (tyName .none), .type "list", false, rfl, .ty _, ow_ty o1, kit_list _, _, rfl, iteF (q _ (by simpa only [mud] using o1) (off1 _))⟩
  | bool b => exact iteF ⟨_, rfl, v, .ty "list", .type (tyName (.bool b)), .type "list", false, rfl, .ty _, ow_ty o1, kit_list _, _, rfl, iteF (q _ (by simpa only [mud] using o1) (off1 _))⟩
  | int i => exact iteF ⟨_, rfl, v, .ty "list", .type (tyName (.int i)), .type "list", false, rfl, .ty _, ow_ty o1, kit_list _, _, rfl, iteF (q _ (by simpa only [mud] using o1) (off1 _))⟩
  | str x => exact iteF ⟨_, rfl, v, .ty "list", .type (tyName (.str x)), .type "list", false, rfl, .ty _, ow_ty o1, kit_list _, _, rfl, iteF (q _ (by simpa only [mud] using o1) (off1 _))⟩
  | dict kvs => cases o1
theorem ok_muddle {f : Addr} {fd : FuncData} (F : FnP K "_law_muddle" sMuddle f fd) (hb : Binds K fd ["thing"] []) (mf : mg "_law_muddle" = some (.ref f)) (mi : mg "isinstance" = none) (ml : mg "list" = none) (mt : mg "tuple" = none) :
    ∀ n : Nat, FnOk P w K mg base CX0 n f fd ["thing"] (spMuddle n)
  | 0 => none_leftN fun vs H Q E h => by
    obtain ⟨_, _, _, _, _, _, _, _, _, h, _⟩ := h
    exact absurd h (Nat.not_lt_zero _)
  | n + 1 => ok_muddle_step F hb mf mi ml mt (ok_muddle F hb mf mi ml mt n)
end
end K01
set_option Elab.async false
set_option linter.all false
set_option maxRecDepth 100000
set_option maxHeartbeats 4000000
namespace K01
open PySem PySem.Spec PyProof.Rows L2 KV
/-! ### _law_thing -/
def bud : Nat → Nat
  | 0 => 12
  | k + 1 => 2 + 3 * bud k + 10
def spThing (n : Nat) : Sp := fun vs H Q _ => ∃ (p : Addr) (k c : Nat), vs = [.ref p, .int (k : Int)] ∧ Pu H p c ∧ c + bud k ≤ 1000000000 ∧ k < n ∧
  ∀ v d F H' c', Ow H' v d F → Fit 3 k d → (∀ a, F a → H a = none) → Off (fun a => a = p) H H' → Pu H' p c' → c' ≤ c + bud k → Q v H'
theorem bud_pos : ∀ k, 12 ≤ bud k
  | 0 => Nat.le_refl _
  | k + 1 => by simp only [bud]; omega
theorem But.off {p : Addr} {H H' : Hp} (h : But p H H') : Off (fun a => a = p) H H' := fun a o e n => (h a n).trans e
theorem Pu.lst {H : Hp} {p : Addr} {c : Nat} (h : Pu H p c) : ∃ xs, H p = some (.lst xs) := by
  obtain ⟨a, b, n, e, _⟩ := h
  exact ⟨_, e⟩
/-- short texts -/
def Sign (y : Str) : Prop := y.length = 1 ∧ ∀ c ∈ y.cps.toList, c < 16 ^ 8
theorem join_sign : ∀ ys : List Str, (∀ y ∈ ys, Sign y) → (Str.join "" ys).length ≤ ys.length ∧ ∀ c ∈ (Str.join "" ys).cps.toList, c < 16 ^ 8
  | [], _ => ⟨Nat.le_refl _, fun c h => absurd h (by simp [Str.join, Str.empty])⟩
  | [y], h => by
    have q := h y List.mem_cons_self
    exact ⟨Nat.le_of_eq q.1, q.2⟩
  | y :: z :: r, h => by
    have q := h y List.mem_cons_self
    have ih := join_sign (z :: r) fun x hx => h x (List.mem_cons_of_mem _ hx)
    have e : Str.join "" (y :: z :: r) = y ++ "" ++ Str.join "" (z :: r) := rfl
    rw [e]
    constructor
    · rw [strLen_append, strLen_append]
      have : (("" : String) : Str).length = 0 := rfl
      have := q.1
      simp only [List.length_cons] at ih ⊢
      omega
    · intro c hc
      have hc : c ∈ (y.cps ++ ("" : Str).cps ++ (Str.join "" (z :: r)).cps).toList := hc
      simp only [Array.toList_append, List.mem_append] at hc
      rcases hc with (hc | hc) | hc
      · exact q.2 c hc
      · have e0 : ("" : Str).cps.toList = [] := by decide +kernel
        rw [e0] at hc
        cases hc
      · exact ih.2 c hc
theorem letters_at {i : Int} (h0 : 0 ≤ i) (h1 : i < 7) : ∃ c, atI ("aZ 9._~" : Str).cps.toList i = some c ∧ c < 16 ^ 8 := by
  have all : ∀ k : Fin 7, ∃ c, atI ("aZ 9._~" : Str).cps.toList ((k.val : Nat) : Int) = some c ∧ c < 16 ^ 8 := by
    have e : ("aZ 9._~" : Str).cps.toList = [97, 90, 32, 57, 46, 95, 126] := by decide +kernel
    rw [e]
    intro k
    match k with
    | 0 => exact ⟨97, rfl, by decide⟩
    | 1 => exact ⟨90, rfl, by decide⟩
    | 2 => exact ⟨32, rfl, by decide⟩
    | 3 => exact ⟨57, rfl, by decide⟩
    | 4 => exact ⟨46, rfl, by decide⟩
    | 5 => exact ⟨95, rfl, by decide⟩
    | 6 => exact ⟨126, rfl, by decide⟩
  have q := all ⟨i.toNat, by omega⟩
  have e : ((i.toNat : Nat) : Int) = i := by omega
  rw [← e]
  exact q
theorem join_txt (ys : List Str) : Txt.join "" ys = Str.join "" ys := by
  unfold Txt.join
  rw [StrLaws.glued_eq_join]
section
variable {P : Program} {w : World} {K : PySem.W.Frag} {mg : Str → Option Value} {base : Heap}
theorem scThing : FnScope ["purse", "deep", "way", "parts", "turn"] ["purse", "deep"] (defScope sThing) := ⟨rfl, rfl, rfl, by decide +kernel, rfl, by decide +kernel, by decide +kernel⟩
theorem ok_thing_step {n : Nat} {f fC : Addr} {fd fdC : FuncData} (F : FnP K "_law_thing" sThing f fd) (hb : Binds K fd ["purse", "deep"] []) (mf : mg "_law_thing" = some (.ref f))
    (FC : FnP K "_law_coin" sCoin fC fdC) (bC : Binds K fdC ["purse", "many"] []) (mC : mg "_law_coin" = some (.ref fC)) (mi : mg "int" = none) (mt : mg "tuple" = none) (mr : mg "range" = none)
    (G : FnOk P w K mg base CX0 (n + 1) f fd ["purse", "deep"] (spThing n)) : FnOk P w K mg base CX0 (n + 2) f fd ["purse", "deep"] (spThing (n + 1)) := by
  have GC : FnOk P w K mg base CX0 1 fC fdC ["purse", "many"] spCoin := ok_coin FC mi
  refine F.ok scThing (fun vs H Q E h => ?_) (fun cdv A outer s H vs Q E hr h => ?_)
  · obtain ⟨p, k, c, rfl, _⟩ := h
    rfl
  obtain ⟨p, k, c, rfl, hp, hc, hk, q⟩ := h
  have hr1 : Room 1 _ := hr.mono (by omega)
  have bp := bud_pos k
  refine ⟨_, pss_cons (ps_set (i := 2) scThing.nd rfl (Or.inl rfl) (pe_call GC hr1 rfl mC FC.kp bC .nil pass0 (pa_cons (pv 0) (pa_cons pe_int pa_nil))))
    (pss_cons (ps_if (pw_and (pt_cmpR op_lt (pv 2) pe_int (nomark _)) (pw_and1 (pt_cmpR op_gt (pv 1) pe_int (nomark _)))).pt
      (pss_cons (ps_setLc (i := 3) (own := [("turn", 4)]) (g := gName 4) (tt := tYes) rfl scThing.nd rfl rfl (sw_true rfl rfl rfl (by decide +kernel))
          (pi_range1 rfl mr (pa_cons (pe_call GC hr1 rfl mC FC.kp bC .nil pass0 (pa_cons (pv 0) (pa_cons pe_int pa_nil))) pa_nil))
          (blkOk_by (own := [("turn", 4)]) (N := ["purse", "deep", "way", "parts", "turn"]) (sc := defScope sThing) (by decide +kernel))
          (fun _ _ _ _ _ => pg_name (i := 4) scThing.nd rfl (Or.inl rfl)) (fun _ _ _ _ _ => pts_nil)
          (fun _ _ _ _ _ => pe_call G hr rfl mf F.kp hb .nil pass0 (pa_cons (pv 0) (pa_cons (pe_op op_sub (pv 1) pe_int) pa_nil))))
        (pss_one (ps_ret (pe_ifExp (pt_cmpR op_lt (pv 2) pe_int (nomark _)) (pv 3) (pe_callTy call_tuple_of rfl mt boot_tuple (pa_cons (pv 3) pa_nil)))))) pss_nil)
    (pss_cons (ps_if (pt_cmpR op_eq (pv 2) pe_int (nomark _)) (pss_one (ps_ret pe_non)) pss_nil)
    (pss_cons (ps_if (pt_cmpR op_eq (pv 2) pe_int (nomark _)) (pss_one (ps_ret (pe_cmpR op_eq (pe_call GC hr1 rfl mC FC.kp bC .nil pass0 (pa_cons (pv 0) (pa_cons pe_int pa_nil))) pe_int (nomark _)))) pss_nil)
    (pss_cons (ps_if (pt_cmpR op_lt (pv 2) pe_int (nomark _)) (pss_one (ps_ret (pe_join pe_str (pe_lc (own := [("turn", 4)]) (g := gName 4) (tt := tYes) rfl scThing.nd
          (pi_range1 rfl mr (pa_cons (pe_call GC hr1 rfl mC FC.kp bC .nil pass0 (pa_cons (pv 0) (pa_cons pe_int pa_nil))) pa_nil))
          (blkOk_by (own := [("turn", 4)]) (N := ["purse", "deep", "way", "parts", "turn"]) (sc := defScope sThing) (by decide +kernel))
          (fun _ _ _ _ _ => pg_name (i := 4) scThing.nd rfl (Or.inl rfl)) (fun _ _ _ _ _ => pts_nil)
          (fun _ _ _ _ _ => pe_ix ix_str pe_str (pe_call GC hr1 rfl mC FC.kp bC .nil pass0 (pa_cons (pv 0) (pa_cons pe_int pa_nil))) (fun _ _ => rfl)))))) pss_nil)
    (pss_one (ps_ret (pe_op op_sub (pe_call GC hr1 rfl mC FC.kp bC .nil pass0 (pa_cons (pv 0) (pa_cons (pe_op op_pow pe_int pe_int) pa_nil))) (pe_op op_pow pe_int pe_int)))))))), ?_⟩
  refine ⟨_, rfl, p, 9, c, rfl, hp, by omega, by decide, by decide, fun way H1 w0 w9 hp1 b1 => ?_⟩
  have off1 : Off (fun a => a = p) H H1 := b1.off
  have nofr : ∀ {F : Fp}, (∀ a, ¬ F a) → ∀ a, F a → H a = none := fun e a z => (e a z).elim
  refine ⟨_, rfl, _, _, rfl, rfl, _, rfl, ?_⟩
  by_cases c1 : way < 3
  by_cases c2 : (0 : Int) < (k : Int)
  · rw [decide_eq_true c1]
    refine iteT ⟨_, rfl, _, _, rfl, rfl, _, rfl, ?_⟩
    rw [decide_eq_true c2]
    refine iteT ?_
    cases k with
    | zero => exact absurd c2 (by decide)
    | succ k =>
    have bp' := bud_pos k
    have bk : bud (k + 1) = 2 + 3 * bud k + 10 := rfl
    refine ⟨_, rfl, p, 4, c + 1, rfl, hp1, by omega, by decide, by decide, fun cnt H2 z0 z4 hp2 b2 => ⟨cnt, rfl, by omega, by omega, fun D hD => lc_range (lo := 0) (n := cnt.toNat)
      (fun i H' => ∃ ds c', Grow (fun a => a = p) H2 D ds H' ∧ ds.length = i ∧ (∀ e ∈ ds, Fit 3 k e) ∧ Pu H' p c' ∧ c' ≤ c + 2 + i * bud k) ?_ (fun i H' hi g => ?_) fun H' g => ?_⟩⟩
    · obtain ⟨xs, ep⟩ := hp2.lst
      exact ⟨[], c + 2, Grow.start hD, rfl, fun e he => absurd he (by simp), hp2.at (upd_ne (ne_of_none ep hD)), by omega⟩
    · obtain ⟨ds, c', g, hl, hfs, hp', hc'⟩ := g
      obtain ⟨xs, ep⟩ := hp2.lst
      have pD : p ≠ D := ne_of_none ep hD
      have i3 : i < 3 := by omega
      have ib : i * bud k ≤ 2 * bud k := Nat.mul_le_mul_right _ (by omega)
      have ek : (((k + 1 : Nat) : Int) - 1) = (k : Int) := by omega
      refine ⟨rfl, Exists.intro _ ⟨rfl, Exists.intro _ ⟨rfl, ?_⟩⟩⟩
      refine ⟨_, _, rfl, rfl, p, k, c', ?_, hp', by omega, by omega, fun v' d' F' H4 c4 o4 f4 fr4 k4 hp4 hc4 => ?_⟩
      · show [V.ref p, V.int (((k + 1 : Nat) : Int) - 1)] = _
        rw [ek]
      obtain ⟨acc, a1, a2, a3⟩ := g.step hD (fun a z => by rw [z, ep]; simp) (fun a z => by rw [z]; exact hp'.lst) o4 fr4 k4
      refine ⟨acc, a1, by rw [a2]; exact small1000 (by omega), ds ++ [d'], c4, a3, by simp [hl], fun e he => ?_, hp4.at (upd_ne pD), ?_⟩
      · rcases List.mem_append.mp he with he | he
        · exact hfs e he
        · rw [List.mem_singleton.mp he]
          exact f4
      · rw [Nat.add_mul]
        omega
    · obtain ⟨ds, c', g, hl, hfs, hp', hc'⟩ := g
      obtain ⟨xs, ep⟩ := hp2.lst
      have l3 : ds.length ≤ 3 := by omega
      have cb : cnt.toNat * bud k ≤ 3 * bud k := Nat.mul_le_mul_right _ (by omega)
      have off2 : Off (fun a => a = p) H H2 := off1.trans b2.off
      have fresh : ∀ {F : Fp}, (∀ a, F a → H2 a = none) → ∀ a, F a → H a = none := fun h a z => off2.none (h a z) fun y => by
        have q1 := h a z
        rw [y, ep] at q1
        cases q1
      refine ⟨_, rfl, _, _, rfl, rfl, _, rfl, ite2 (fun _ => ?_) (fun _ => ?_)⟩
      · obtain ⟨F', o', f', k'⟩ := g.list hD
        exact ⟨_, rfl, q _ _ F' H' c' o' ⟨l3, hfs⟩ (fresh f') (off2.trans k') hp' (by omega)⟩
      · obtain ⟨acc, _, e1, _⟩ := id g
        refine ⟨_, rfl, D, acc, rfl, .inl ⟨SqL.of e1, fun l hl' => ?_⟩⟩
        obtain ⟨F', o', f', k'⟩ := g.tuple e1 hl'
        obtain ⟨ys, ep'⟩ := hp'.lst
        exact q _ _ F' _ c' o' ⟨l3, hfs⟩ (fresh f') (off2.trans k') (hp'.at (upd_ne (ne_of_none ep' hl'))) (by omega)
  rw [decide_eq_true c1]
  refine iteT ⟨_, rfl, _, _, rfl, rfl, _, rfl, ?_⟩
  rw [decide_eq_false c2]
  refine iteF ?_
  rotate_left
  rw [decide_eq_false c1]
  refine iteF (iteF ?_)
  all_goals
    refine ⟨_, rfl, rfl, _, rfl, ite2 (fun _ => ?_) (fun _ => ?_)⟩
    · exact q .non .none (fun _ => False) H1 (c + 1) (.non fun _ z => z) (by cases k <;> trivial) (nofr fun _ z => z) off1 hp1 (by omega)
    refine ⟨_, rfl, rfl, _, rfl, ite2 (fun _ => ?_) (fun _ => ?_)⟩
    · refine ⟨_, rfl, p, 2, c + 1, rfl, hp1, by omega, by decide, by decide, fun b H2 _ _ hp2 b2 => ⟨rfl, ?_⟩⟩
      exact q _ (.bool _) (fun _ => False) H2 (c + 2) (.bl _ fun _ z => z) (by cases k <;> trivial) (nofr fun _ z => z) (off1.trans b2.off) hp2 (by omega)
    refine ⟨_, rfl, _, _, rfl, rfl, _, rfl, ite2 (fun _ => ?_) (fun _ => ?_)⟩
    · refine ⟨⟨_, rfl⟩, _, rfl, p, 9, c + 1, rfl, hp1, by omega, by decide, by decide, fun cnt H2 z0 z9 hp2 b2 => ⟨cnt, rfl, by omega, by omega, fun D hD => lc_range (lo := 0) (n := cnt.toNat)
        (fun i H' => ∃ (ys : List Str) (c' : Nat), H' D = some (.lst (ys.map V.str)) ∧ ys.length = i ∧ (∀ y ∈ ys, Sign y) ∧ Pu H' p c' ∧ c' ≤ c + 2 + i ∧ Off (fun a => a = p) H2 H') ?_ (fun i H' hi g => ?_) fun H' g => ?_⟩⟩
      · obtain ⟨xs, ep⟩ := hp2.lst
        exact ⟨[], c + 2, upd_same, rfl, fun y hy => absurd hy (by simp), hp2.at (upd_ne (ne_of_none ep hD)), by omega, Off.new hD⟩
      · obtain ⟨ys, c', e1, hl, hs, hp', hc', k'⟩ := g
        obtain ⟨xs, ep⟩ := hp2.lst
        have pD : p ≠ D := ne_of_none ep hD
        refine ⟨rfl, Exists.intro _ ⟨rfl, p, 7, c', rfl, hp', by omega, by decide, by decide, fun j H4 j0 j7 hp4 b4 => ?_⟩⟩
        obtain ⟨ch, h1, h2⟩ := letters_at j0 j7
        refine ⟨_, j, ch, rfl, rfl, by decide +kernel, h1, ys.map V.str, (b4 D (Ne.symm pD)).trans e1, by rw [List.length_map, hl]; exact small1000 (by omega), ys ++ [⟨#[ch]⟩], c' + 1, ?_, by simp [hl], ?_, hp4.at (upd_ne pD), by omega, ?_⟩
        · rw [upd_same, List.map_append]
          rfl
        · intro y hy
          rcases List.mem_append.mp hy with hy | hy
          · exact hs y hy
          · rw [List.mem_singleton.mp hy]
            exact ⟨rfl, fun c hc => by
              have hc : c ∈ [ch] := hc
              rw [List.mem_singleton.mp hc]
              exact h2⟩
        · intro a u ea na
          rw [upd_ne (ne_of_none ea hD)]
          exact b4.off a u (k' a u ea na) na
      · obtain ⟨ys, c', e1, hl, hs, hp', hc', k'⟩ := g
        obtain ⟨j1, j2⟩ := join_sign ys hs
        have sum : ∀ zs : List Str, (∀ y ∈ zs, Sign y) → (zs.map (·.length)).sum = zs.length := by
          intro zs
          induction zs with
          | nil => intro _; rfl
          | cons z zs ih =>
            intro h
            rw [List.map_cons, List.sum_cons, ih fun y hy => h y (List.mem_cons_of_mem _ hy), (h z List.mem_cons_self).1, List.length_cons]
            omega
        have e0 : (("" : Str)).length = 0 := rfl
        refine ⟨_, D, ys, rfl, rfl, .inl (SqL.of e1), by rw [sum ys hs, e0]; omega, ?_⟩
        rw [join_txt]
        refine q _ (.str _) (fun _ => False) H' c' (.str _ fun _ z => z) ?_ (nofr fun _ z => z) (off1.trans (b2.off.trans k')) hp' (by omega)
        have fit : (Str.join "" ys).length ≤ 16 ∧ ∀ c ∈ (Str.join "" ys).cps.toList, c < 16 ^ 8 := ⟨by omega, j2⟩
        cases k <;> exact fit
    · refine ⟨_, rfl, _, _, rfl, rfl, ⟨by decide, by decide, by decide⟩, p, _, c + 1, rfl, hp1, by omega, by decide, by decide, fun z H2 z0 z1 hp2 b2 => ⟨_, _, rfl, rfl, ⟨by decide, by decide, by decide⟩, _, _, rfl, rfl, ?_⟩⟩
      refine q _ (.int _) (fun _ => False) H2 (c + 2) (.int _ fun _ z => z) ?_ (nofr fun _ z => z) (off1.trans b2.off) hp2 (by omega)
      have e1 : (10 : Int) ^ Int.toNat 30 = 1000000000000000000000000000000 := by decide
      have e2 : (10 : Int) ^ Int.toNat 29 = 100000000000000000000000000000 := by decide
      have fit : (z - (10 : Int) ^ Int.toNat 29).natAbs < 2 ^ 110 := by
        rw [e2]
        rw [e1] at z1
        have e3 : (2 : Nat) ^ 110 = 1298074214633706907132624082305024 := by decide
        omega
      cases k <;> exact fit
theorem ok_thing {f fC : Addr} {fd fdC : FuncData} (F : FnP K "_law_thing" sThing f fd) (hb : Binds K fd ["purse", "deep"] []) (mf : mg "_law_thing" = some (.ref f))
    (FC : FnP K "_law_coin" sCoin fC fdC) (bC : Binds K fdC ["purse", "many"] []) (mC : mg "_law_coin" = some (.ref fC)) (mi : mg "int" = none) (mt : mg "tuple" = none) (mr : mg "range" = none) :
    ∀ n : Nat, FnOk P w K mg base CX0 (n + 1) f fd ["purse", "deep"] (spThing n)
  | 0 => FnOk.mono (none_leftN fun vs H Q E h => by
    obtain ⟨_, _, _, _, _, _, h, _⟩ := h
    exact absurd h (Nat.not_lt_zero _)) (Nat.zero_le _)
  | n + 1 => ok_thing_step F hb mf FC bC mC mi mt mr (ok_thing F hb mf FC bC mC mi mt mr n)
end
end K01
set_option Elab.async false
set_option linter.all false
set_option maxRecDepth 100000
set_option maxHeartbeats 0
namespace K01
open PySem PySem.Spec PyProof.Rows L2 KV
abbrev sInit : Stmt := inClass (top 1) 0
def names : List Str := ["KeyTellError", "BrokenRule", "DoubleName", "InvalidName", "InvalidQuestion", "InvalidRow", "InvalidRule", "NoSuchRow", "NothingToUndo", "UnknownColumn", "UnknownTable", "Unreadable"]
def dD (x : Str) (st : Stmt) : He.DefD := ⟨(x, none), x, x, defArgs st, defBody st, defScope st, [], []⟩
def dI : He.DefD := ⟨("KeyTellError", some "__init__"), "__init__", "KeyTellError.__init__", defArgs sInit, defBody sInit, defScope sInit, [], []⟩
def fn : List He.DefD := [dI, dD "_law_purse" sPurse, dD "_law_coin" sCoin, dD "_law_copied" sCopied, dD "_law_muddle" sMuddle, dD "_law_kinds" sKinds, dD "_law_thing" sThing, dD "_law_made" sMade, dD "_law_named" sNamed, dD "_law_class_right" sRight, dD "law" sLaw]
def fnNames : List Str := ["_law_purse", "_law_coin", "_law_copied", "_law_muddle", "_law_kinds", "_law_thing", "_law_made", "_law_named", "_law_class_right", "law"]
def bltNames : List Str := ["len", "max", "min", "abs", "int", "isinstance", "list", "tuple", "range", "zip", "repr", "ValueError"]
def fa : List He.Fa := names.map He.Fa.glo ++ fnNames.map He.Fa.glo ++ bltNames.map He.Fa.free
def ex (K : PySem.W.Frag) : Bool := errsB K "value" "KeyTellError" names
abbrev R : PySem.W.OpenRow := PySem.W.OpenLaw.row PySem.Challenge.rw_keysthrough_k01_errors
abbrev hk : PySem.W.Hook := He.hookX 4 fa fn [] [] ex
def ob (s : PySem.W.SharedT) : He.AlX := He.obsX 4 fa fn [] [] ex (HandSHeadRun.getT s)
theorem ob_eq (s : PySem.W.SharedT) : ob s = hk.obs s.abs := He.obsX_eq (HandSHeadRun.getT_eq s)
def loose : List Str := names ++ (["_law_purse", "_law_coin", "_law_copied", "_law_muddle", "_law_kinds", "_law_thing", "_law_made", "_law_named", "_law_class_right"] : List Str)
theorem run (w : World) : HandSHeadRun.RunEq R (PySem.W.view R.prog [23]) hk ob 4000 loose w := by
  intro os
  kernel_rfl
end K01
set_option Elab.async false
set_option linter.all false
set_option maxRecDepth 100000
set_option maxHeartbeats 4000000
namespace KV
open PySem PySem.Spec PyProof.Rows L2
/-- a comprehension over zip of two lists of one length -/
theorem lc_zip {K : PySem.W.Frag} {a b : Addr} {xs ys : List V} {g : TG} {tt : TT} {te : TE} {vs : List Nat} {σ : L2.St} {H1 : Hp} {D : Addr} {Qd : Hp → Prop} (Pv : Nat → Hp → Prop) (hxy : xs.length = ys.length)
    (h0 : Pv 0 (upd H1 D (.lst []))) (hl : ∀ i H, i ≤ xs.length → Pv i H → SqL K H a xs ∧ SqL K H b ys)
    (hs : ∀ i x y H T, xs[i]? = some x → ys[i]? = some y → Pv i H → H T = none → g (.ref T) (wipe σ vs) (upd H T (.tup [x, y])) fun σ2 H2 => wipe σ2 vs = wipe σ vs ∧ tt σ2 H2 fun c H3 =>
      if c = true then te σ2 H3 fun y H4 => ∃ acc, H4 D = some (.lst acc) ∧ acc.length < sizeLine ∧ Pv (i + 1) (upd H4 D (.lst (acc ++ [y]))) else Pv (i + 1) H3)
    (hd : ∀ H, Pv xs.length H → Qd H) :
    ∃ W : Nat → Nat → Hp → Prop, (∃ m, W 0 m (upd H1 D (.lst []))) ∧ ∀ i m H, W i m H →
      ((Itz K a b).stop i H ∧ Qd H) ∨ ((Itz K a b).go i H ∧ ∃ Nx : Hp → Prop, (∀ H', Nx H' → ∃ m', m' < m ∧ W (i + 1) m' H') ∧ ∀ x H', (Itz K a b).yld i H x H' → g x (wipe σ vs) H' fun σ2 H2 => wipe σ2 vs = wipe σ vs ∧ tt σ2 H2 fun c H3 =>
        if c = true then te σ2 H3 fun y H4 => ∃ acc, H4 D = some (.lst acc) ∧ acc.length < sizeLine ∧ Nx (upd H4 D (.lst (acc ++ [y]))) else Nx H3) := by
  refine ⟨fun i m H => m = xs.length - i ∧ i ≤ xs.length ∧ Pv i H, ⟨_, rfl, Nat.zero_le _, h0⟩, ?_⟩
  rintro i m H ⟨rfl, hi, pv⟩
  obtain ⟨q1, q2⟩ := hl i H hi pv
  rcases Nat.lt_or_ge i xs.length with lt | ge
  · have ly : i < ys.length := by omega
    refine .inr ⟨⟨xs, ys, xs[i], ys[i], q1, q2, by simp [lt], by simp [ly]⟩, Pv (i + 1), fun H' z => ⟨xs.length - (i + 1), by omega, rfl, lt, z⟩, ?_⟩
    rintro v H' ⟨T, x, y, rfl, hT, rfl, e1, e2⟩
    exact hs i x y H T (e1 xs q1) (e2 ys q2) pv hT
  · have e : i = xs.length := by omega
    rw [e] at pv
    exact .inl ⟨⟨xs, ys, q1, q2, .inl ge⟩, hd H pv⟩
end KV
namespace K01
open PySem PySem.Spec PyProof.Rows L2 KV
section
variable {P : Program} {w : World} {K : PySem.W.Frag} {mg : Str → Option Value} {base : Heap}
/-! ### KeyTellError.__init__ -/
theorem scInit : FnScope ["self", "value"] ["self", "value"] (defScope sInit) := ⟨rfl, rfl, rfl, by decide +kernel, rfl, by decide +kernel, by decide +kernel⟩
theorem ok_init {f : Addr} {fd : FuncData} (F : FunD K "__init__" "KeyTellError.__init__" (defArgs sInit) (defBody sInit) (defScope sInit) [] [] f fd) :
    FnOk P w K mg base CX0 1 f fd ["self", "value"] (spInit K "value") := by
  refine F.ok scInit (fun vs H Q E h => ?_) (fun cdv A outer s H vs Q E hr h => ?_)
  · obtain ⟨a, C, v, rfl, _⟩ := h
    rfl
  obtain ⟨a, C, v, rfl, T, no, e, q⟩ := h
  refine ⟨_, pss_one (ps_ost (pv 0) (pv 1)), ?_⟩
  exact ⟨_, rfl, _, rfl, a, C, rfl, T, no, .inl ⟨e, fun dx h1 h2 => q dx h1 h2⟩⟩
/-! ### the two makers -/
def spMade (K : PySem.W.Frag) : Sp := fun vs H Q _ => ∃ (r : Int) (v : V), vs = [.int r, v] ∧ 0 ≤ r ∧ r < 12 ∧
  ∀ (j : Nat) (x : Str), r = (j : Int) → names[j]? = some x → ∀ a dx, H a = none → H dx = none → dx ≠ a → Q (.ref a) (exH H a dx (He.ga K x) "value" v)
/-- what both lean on -/
structure ErrT (P : Program) (w : World) (K : PySem.W.Frag) (mg : Str → Option Value) (base : Heap) (fdI : FuncData) : Prop where
  es : Errs K "value" "KeyTellError" names
  g : ∀ x ∈ names, mg x = some (.ref (He.ga K x))
  ini : FnOk P w K mg base CX0 1 (He.ma K (He.ga K "KeyTellError") "__init__") fdI ["self", "value"] (spInit K "value")
  b : Binds K fdI ["self", "value"] []
  bk : ∀ (s : Shared) (a u : Value), BindsTo s fdI ⟨[a], [("value", u)]⟩ [("self", a), ("value", u)]
theorem scMade : FnScope ["rank", "thing"] ["rank", "thing"] (defScope sMade) := ⟨rfl, rfl, rfl, by decide +kernel, rfl, by decide +kernel, by decide +kernel⟩
theorem ok_made {f : Addr} {fd fdI : FuncData} (F : FnP K "_law_made" sMade f fd) (T : ErrT P w K mg base fdI) : FnOk P w K mg base CX0 3 f fd ["rank", "thing"] (spMade K) := by
  refine F.ok scMade (fun vs H Q E h => ?_) (fun cdv A outer s H vs Q E hr h => ?_)
  · obtain ⟨r, v, rfl, _⟩ := h
    rfl
  obtain ⟨r, v, rfl, r0, r12, q⟩ := h
  have mk : ∀ {X : Cx} (hX : X.prog = P ∧ X.w = w ∧ X.K = K ∧ X.mg = mg ∧ X.base = base) (x : Str) {p p2 pos : Pos} (hx : x ∈ names), Room 2 X.A → Gl X x → (x == ("__debug__" : Str)) = false → PE X (.Name "thing" p2) (tVar 1) →
      PE X (.Call (.Name x p) [.Name "thing" p2] [] pos) (tNewEx (He.ga K x) "value" (tVar 1)) := by
    rintro X ⟨rfl, rfl, rfl, rfl, rfl⟩ x p p2 pos hx hr hg hd he
    have o := T.es.ok x hx
    exact pe_exP o.oex o.no o.ini o.fn T.ini hr T.b hg (T.g x hx) he hd
  refine ⟨_, pss_cons (ps_if (pt_cmpR op_eq (pv 0) pe_int (nomark _)) (pss_one (ps_ret (mk ⟨rfl, rfl, rfl, rfl, rfl⟩ "KeyTellError" (by decide) hr rfl rfl (pv 1)))) pss_nil)
    (pss_cons (ps_if (pt_cmpR op_eq (pv 0) pe_int (nomark _)) (pss_one (ps_ret (mk ⟨rfl, rfl, rfl, rfl, rfl⟩ "BrokenRule" (by decide) hr rfl rfl (pv 1)))) pss_nil)
    (pss_cons (ps_if (pt_cmpR op_eq (pv 0) pe_int (nomark _)) (pss_one (ps_ret (mk ⟨rfl, rfl, rfl, rfl, rfl⟩ "DoubleName" (by decide) hr rfl rfl (pv 1)))) pss_nil)
    (pss_cons (ps_if (pt_cmpR op_eq (pv 0) pe_int (nomark _)) (pss_one (ps_ret (mk ⟨rfl, rfl, rfl, rfl, rfl⟩ "InvalidName" (by decide) hr rfl rfl (pv 1)))) pss_nil)
    (pss_cons (ps_if (pt_cmpR op_eq (pv 0) pe_int (nomark _)) (pss_one (ps_ret (mk ⟨rfl, rfl, rfl, rfl, rfl⟩ "InvalidQuestion" (by decide) hr rfl rfl (pv 1)))) pss_nil)
    (pss_cons (ps_if (pt_cmpR op_eq (pv 0) pe_int (nomark _)) (pss_one (ps_ret (mk ⟨rfl, rfl, rfl, rfl, rfl⟩ "InvalidRow" (by decide) hr rfl rfl (pv 1)))) pss_nil)
    (pss_cons (ps_if (pt_cmpR op_eq (pv 0) pe_int (nomark _)) (pss_one (ps_ret (mk ⟨rfl, rfl, rfl, rfl, rfl⟩ "InvalidRule" (by decide) hr rfl rfl (pv 1)))) pss_nil)
    (pss_cons (ps_if (pt_cmpR op_eq (pv 0) pe_int (nomark _)) (pss_one (ps_ret (mk ⟨rfl, rfl, rfl, rfl, rfl⟩ "NoSuchRow" (by decide) hr rfl rfl (pv 1)))) pss_nil)
    (pss_cons (ps_if (pt_cmpR op_eq (pv 0) pe_int (nomark _)) (pss_one (ps_ret (mk ⟨rfl, rfl, rfl, rfl, rfl⟩ "NothingToUndo" (by decide) hr rfl rfl (pv 1)))) pss_nil)
    (pss_cons (ps_if (pt_cmpR op_eq (pv 0) pe_int (nomark _)) (pss_one (ps_ret (mk ⟨rfl, rfl, rfl, rfl, rfl⟩ "UnknownColumn" (by decide) hr rfl rfl (pv 1)))) pss_nil)
    (pss_one (ps_ret (pe_ifExp (pt_cmpR op_eq (pv 0) pe_int (nomark _)) (mk ⟨rfl, rfl, rfl, rfl, rfl⟩ "UnknownTable" (by decide) hr rfl rfl (pv 1)) (mk ⟨rfl, rfl, rfl, rfl, rfl⟩ "Unreadable" (by decide) hr rfl rfl (pv 1)))))))))))))), ?_⟩
  have yes : ∀ {i : Int}, decide (V.int r = V.int i) = true → r = i := fun c => V.int.inj (of_decide_eq_true c)
  have no : ∀ {i : Int}, ¬ decide (V.int r = V.int i) = true → r ≠ i := fun c z => c (decide_eq_true (congrArg V.int z))
  refine ⟨_, rfl, rfl, _, rfl, ite2 (fun c => ⟨_, rfl, q 0 _ (yes c) rfl⟩) (fun c0 => ?_)⟩
  refine ⟨_, rfl, rfl, _, rfl, ite2 (fun c => ⟨_, rfl, q 1 _ (yes c) rfl⟩) (fun c1 => ?_)⟩
  refine ⟨_, rfl, rfl, _, rfl, ite2 (fun c => ⟨_, rfl, q 2 _ (yes c) rfl⟩) (fun c2 => ?_)⟩
  refine ⟨_, rfl, rfl, _, rfl, ite2 (fun c => ⟨_, rfl, q 3 _ (yes c) rfl⟩) (fun c3 => ?_)⟩
  refine ⟨_, rfl, rfl, _, rfl, ite2 (fun c => ⟨_, rfl, q 4 _ (yes c) rfl⟩) (fun c4 => ?_)⟩
  refine ⟨_, rfl, rfl, _, rfl, ite2 (fun c => ⟨_, rfl, q 5 _ (yes c) rfl⟩) (fun c5 => ?_)⟩
  refine ⟨_, rfl, rfl, _, rfl, ite2 (fun c => ⟨_, rfl, q 6 _ (yes c) rfl⟩) (fun c6 => ?_)⟩
  refine ⟨_, rfl, rfl, _, rfl, ite2 (fun c => ⟨_, rfl, q 7 _ (yes c) rfl⟩) (fun c7 => ?_)⟩
  refine ⟨_, rfl, rfl, _, rfl, ite2 (fun c => ⟨_, rfl, q 8 _ (yes c) rfl⟩) (fun c8 => ?_)⟩
  refine ⟨_, rfl, rfl, _, rfl, ite2 (fun c => ⟨_, rfl, q 9 _ (yes c) rfl⟩) (fun c9 => ?_)⟩
  refine ⟨_, rfl, rfl, _, rfl, ite2 (fun c => ⟨_, rfl, q 10 _ (yes c) rfl⟩) (fun c10 => ⟨_, rfl, q 11 _ ?_ rfl⟩)⟩
  have d0 := no c0
  have d1 := no c1
  have d2 := no c2
  have d3 := no c3
  have d4 := no c4
  have d5 := no c5
  have d6 := no c6
  have d7 := no c7
  have d8 := no c8
  have d9 := no c9
  have d10 := no c10
  omega
theorem scNamed : FnScope ["rank", "thing"] ["rank", "thing"] (defScope sNamed) := ⟨rfl, rfl, rfl, by decide +kernel, rfl, by decide +kernel, by decide +kernel⟩
theorem ok_named {f : Addr} {fd fdI : FuncData} (F : FnP K "_law_named" sNamed f fd) (T : ErrT P w K mg base fdI) : FnOk P w K mg base CX0 3 f fd ["rank", "thing"] (spMade K) := by
  refine F.ok scNamed (fun vs H Q E h => ?_) (fun cdv A outer s H vs Q E hr h => ?_)
  · obtain ⟨r, v, rfl, _⟩ := h
    rfl
  obtain ⟨r, v, rfl, r0, r12, q⟩ := h
  have mk : ∀ {X : Cx} (hX : X.prog = P ∧ X.w = w ∧ X.K = K ∧ X.mg = mg ∧ X.base = base) (x : Str) {p p2 pos kp : Pos} (hx : x ∈ names), Room 2 X.A → Gl X x → (x == ("__debug__" : Str)) = false → PE X (.Name "thing" p2) (tVar 1) →
      PE X (.Call (.Name x p) [] [⟨some "value", .Name "thing" p2, kp⟩] pos) (tNewEx (He.ga K x) "value" (tVar 1)) := by
    rintro X ⟨rfl, rfl, rfl, rfl, rfl⟩ x p p2 pos kp hx hr hg hd he
    have o := T.es.ok x hx
    exact pe_exK o.oex o.no o.ini o.fn T.ini hr T.bk hg (T.g x hx) he rfl rfl hd rfl
  refine ⟨_, pss_cons (ps_if (pt_cmpR op_eq (pv 0) pe_int (nomark _)) (pss_one (ps_ret (mk ⟨rfl, rfl, rfl, rfl, rfl⟩ "KeyTellError" (by decide) hr rfl rfl (pv 1)))) pss_nil)
    (pss_cons (ps_if (pt_cmpR op_eq (pv 0) pe_int (nomark _)) (pss_one (ps_ret (mk ⟨rfl, rfl, rfl, rfl, rfl⟩ "BrokenRule" (by decide) hr rfl rfl (pv 1)))) pss_nil)
    (pss_cons (ps_if (pt_cmpR op_eq (pv 0) pe_int (nomark _)) (pss_one (ps_ret (mk ⟨rfl, rfl, rfl, rfl, rfl⟩ "DoubleName" (by decide) hr rfl rfl (pv 1)))) pss_nil)
    (pss_cons (ps_if (pt_cmpR op_eq (pv 0) pe_int (nomark _)) (pss_one (ps_ret (mk ⟨rfl, rfl, rfl, rfl, rfl⟩ "InvalidName" (by decide) hr rfl rfl (pv 1)))) pss_nil)
    (pss_cons (ps_if (pt_cmpR op_eq (pv 0) pe_int (nomark _)) (pss_one (ps_ret (mk ⟨rfl, rfl, rfl, rfl, rfl⟩ "InvalidQuestion" (by decide) hr rfl rfl (pv 1)))) pss_nil)
    (pss_cons (ps_if (pt_cmpR op_eq (pv 0) pe_int (nomark _)) (pss_one (ps_ret (mk ⟨rfl, rfl, rfl, rfl, rfl⟩ "InvalidRow" (by decide) hr rfl rfl (pv 1)))) pss_nil)
    (pss_cons (ps_if (pt_cmpR op_eq (pv 0) pe_int (nomark _)) (pss_one (ps_ret (mk ⟨rfl, rfl, rfl, rfl, rfl⟩ "InvalidRule" (by decide) hr rfl rfl (pv 1)))) pss_nil)
    (pss_cons (ps_if (pt_cmpR op_eq (pv 0) pe_int (nomark _)) (pss_one (ps_ret (mk ⟨rfl, rfl, rfl, rfl, rfl⟩ "NoSuchRow" (by decide) hr rfl rfl (pv 1)))) pss_nil)
    (pss_cons (ps_if (pt_cmpR op_eq (pv 0) pe_int (nomark _)) (pss_one (ps_ret (mk ⟨rfl, rfl, rfl, rfl, rfl⟩ "NothingToUndo" (by decide) hr rfl rfl (pv 1)))) pss_nil)
    (pss_cons (ps_if (pt_cmpR op_eq (pv 0) pe_int (nomark _)) (pss_one (ps_ret (mk ⟨rfl, rfl, rfl, rfl, rfl⟩ "UnknownColumn" (by decide) hr rfl rfl (pv 1)))) pss_nil)
    (pss_one (ps_ret (pe_ifExp (pt_cmpR op_eq (pv 0) pe_int (nomark _)) (mk ⟨rfl, rfl, rfl, rfl, rfl⟩ "UnknownTable" (by decide) hr rfl rfl (pv 1)) (mk ⟨rfl, rfl, rfl, rfl, rfl⟩ "Unreadable" (by decide) hr rfl rfl (pv 1)))))))))))))), ?_⟩
  have yes : ∀ {i : Int}, decide (V.int r = V.int i) = true → r = i := fun c => V.int.inj (of_decide_eq_true c)
  have no : ∀ {i : Int}, ¬ decide (V.int r = V.int i) = true → r ≠ i := fun c z => c (decide_eq_true (congrArg V.int z))
  refine ⟨_, rfl, rfl, _, rfl, ite2 (fun c => ⟨_, rfl, q 0 _ (yes c) rfl⟩) (fun c0 => ?_)⟩
  refine ⟨_, rfl, rfl, _, rfl, ite2 (fun c => ⟨_, rfl, q 1 _ (yes c) rfl⟩) (fun c1 => ?_)⟩
  refine ⟨_, rfl, rfl, _, rfl, ite2 (fun c => ⟨_, rfl, q 2 _ (yes c) rfl⟩) (fun c2 => ?_)⟩
  refine ⟨_, rfl, rfl, _, rfl, ite2 (fun c => ⟨_, rfl, q 3 _ (yes c) rfl⟩) (fun c3 => ?_)⟩
  refine ⟨_, rfl, rfl, _, rfl, ite2 (fun c => ⟨_, rfl, q 4 _ (yes c) rfl⟩) (fun c4 => ?_)⟩
  refine ⟨_, rfl, rfl, _, rfl, ite2 (fun c => ⟨_, rfl, q 5 _ (yes c) rfl⟩) (fun c5 => ?_)⟩
  refine ⟨_, rfl, rfl, _, rfl, ite2 (fun c => ⟨_, rfl, q 6 _ (yes c) rfl⟩) (fun c6 => ?_)⟩
  refine ⟨_, rfl, rfl, _, rfl, ite2 (fun c => ⟨_, rfl, q 7 _ (yes c) rfl⟩) (fun c7 => ?_)⟩
  refine ⟨_, rfl, rfl, _, rfl, ite2 (fun c => ⟨_, rfl, q 8 _ (yes c) rfl⟩) (fun c8 => ?_)⟩
  refine ⟨_, rfl, rfl, _, rfl, ite2 (fun c => ⟨_, rfl, q 9 _ (yes c) rfl⟩) (fun c9 => ?_)⟩
  refine ⟨_, rfl, rfl, _, rfl, ite2 (fun c => ⟨_, rfl, q 10 _ (yes c) rfl⟩) (fun c10 => ⟨_, rfl, q 11 _ ?_ rfl⟩)⟩
  have d0 := no c0
  have d1 := no c1
  have d2 := no c2
  have d3 := no c3
  have d4 := no c4
  have d5 := no c5
  have d6 := no c6
  have d7 := no c7
  have d8 := no c8
  have d9 := no c9
  have d10 := no c10
  omega
/-! ### _law_kinds -/
def kinds (x : Str) : List Str := names.tail.filter fun y => decide (x = y)
def spKinds (K : PySem.W.Frag) : Sp := fun vs H Q _ => ∃ (a dx : Addr) (x : Str) (fs : List (Str × V)), vs = [.ref a] ∧ x ∈ names ∧ H a = some (exo a (He.ga K x) (some dx)) ∧ H dx = some (exd dx fs) ∧
  ∀ D H', H D = none → H' D = some (.lst ((kinds x).map V.str)) → Off (fun _ => False) H H' → Q (.ref D) H'
theorem scKinds : FnScope ["caught", "words", "told", "word", "is_so"] ["caught"] (defScope sKinds) := ⟨rfl, rfl, rfl, by decide +kernel, rfl, by decide +kernel, by decide +kernel⟩
theorem ok_kinds {f : Addr} {fd fdI : FuncData} (F : FnP K "_law_kinds" sKinds f fd) (T : ErrT P w K mg base fdI) (mi : mg "isinstance" = none) (mz : mg "zip" = none) : FnOk P w K mg base CX0 1 f fd ["caught"] (spKinds K) := by
  refine F.ok scKinds (fun vs H Q E h => ?_) (fun cdv A outer s H vs Q E hr h => ?_)
  · obtain ⟨a, dx, x, fs, rfl, _⟩ := h
    rfl
  obtain ⟨a, dx, x, fs, rfl, hx, ea, ed, q⟩ := h
  have is : ∀ {X : Cx} (hX : X.K = K ∧ X.mg = mg) (y : Str) {p p1 p2 pos : Pos} (hy : y ∈ names), Gl X "isinstance" → Gl X y → (y == ("__debug__" : Str)) = false → PE X (.Name "caught" p1) (tVar 0) →
      PE X (.Call (.Name "isinstance" p) [.Name "caught" p1, .Name y p2] [] pos) (tCB (rIsX K) (tCons (tVar 0) (tCons (tC (.ref (He.ga K y))) tNil))) := by
    rintro X ⟨rfl, rfl⟩ y p p1 p2 pos hy hg1 hg2 hd he
    exact pe_callB call_isX hg1 mi boot_isinstance (pa_cons he (pa_cons (pe_glob hg2 (T.g y hy) rfl hd) pa_nil))
  refine ⟨_, pss_cons (ps_set (i := 1) scKinds.nd rfl (Or.inl rfl) (pe_lst (pa_cons pe_str (pa_cons pe_str (pa_cons pe_str (pa_cons pe_str (pa_cons pe_str (pa_cons pe_str (pa_cons pe_str pa_nil)))))))))
    (pss_cons (ps_set (i := 1) scKinds.nd rfl (Or.inl rfl) (pe_op op_cat (pv 1) (pe_lst (pa_cons pe_str (pa_cons pe_str (pa_cons pe_str (pa_cons pe_str pa_nil)))))))
    (pss_cons (ps_set (i := 2) scKinds.nd rfl (Or.inl rfl) (pe_lst (pa_cons (is ⟨rfl, rfl⟩ "BrokenRule" (by decide) rfl rfl rfl (pv 0)) (pa_cons (is ⟨rfl, rfl⟩ "DoubleName" (by decide) rfl rfl rfl (pv 0)) (pa_cons (is ⟨rfl, rfl⟩ "InvalidName" (by decide) rfl rfl rfl (pv 0)) pa_nil)))))
    (pss_cons (ps_set (i := 2) scKinds.nd rfl (Or.inl rfl) (pe_op op_cat (pv 2) (pe_lst (pa_cons (is ⟨rfl, rfl⟩ "InvalidQuestion" (by decide) rfl rfl rfl (pv 0)) (pa_cons (is ⟨rfl, rfl⟩ "InvalidRow" (by decide) rfl rfl rfl (pv 0)) pa_nil)))))
    (pss_cons (ps_set (i := 2) scKinds.nd rfl (Or.inl rfl) (pe_op op_cat (pv 2) (pe_lst (pa_cons (is ⟨rfl, rfl⟩ "InvalidRule" (by decide) rfl rfl rfl (pv 0)) (pa_cons (is ⟨rfl, rfl⟩ "NoSuchRow" (by decide) rfl rfl rfl (pv 0)) (pa_cons (is ⟨rfl, rfl⟩ "NothingToUndo" (by decide) rfl rfl rfl (pv 0)) pa_nil))))))
    (pss_cons (ps_set (i := 2) scKinds.nd rfl (Or.inl rfl) (pe_op op_cat (pv 2) (pe_lst (pa_cons (is ⟨rfl, rfl⟩ "UnknownColumn" (by decide) rfl rfl rfl (pv 0)) (pa_cons (is ⟨rfl, rfl⟩ "UnknownTable" (by decide) rfl rfl rfl (pv 0)) (pa_cons (is ⟨rfl, rfl⟩ "Unreadable" (by decide) rfl rfl rfl (pv 0)) pa_nil))))))
    (pss_one (ps_ret (pe_lc (own := [("word", 3), ("is_so", 4)]) (g := gTup K 2 (gCons (gName 3) (gCons (gName 4) gNil))) rfl scKinds.nd (pi_zip rfl mz (pa_cons (pv 1) (pa_cons (pv 2) pa_nil)))
        (blkOk_by (own := [("word", 3), ("is_so", 4)]) (N := ["caught", "words", "told", "word", "is_so"]) (sc := defScope sKinds) (by decide +kernel))
        (fun _ _ _ _ _ => pg_tup rfl (pgs_cons (pg_name (i := 3) scKinds.nd rfl (Or.inl rfl)) (pgs_cons (pg_name (i := 4) scKinds.nd rfl (Or.inl rfl)) pgs_nil)))
        (fun _ _ _ _ _ => pts_one (pt_val (pv 4))) (fun _ _ _ _ _ => pv 3))))))))), ?_⟩
  have kt : ∀ y, y ∈ names → PySem.W.kitOne K (.ref (He.ga K x)) (.ref (He.ga K y)) = some (decide (x = y) || decide (y = "KeyTellError")) := fun y hy => T.es.kit x hx y hy
  have er := (T.es.ok x hx).err
  have no : ¬ False := fun z => z
  have k0 : Off (fun _ => False) H H := Off.refl _ _
  refine ⟨by show 7 ≤ sizeLine; decide, fun p1 n1 => ?_⟩
  have k1 : ∀ o, Off (fun _ => False) H (upd _ p1 o) := fun o => k0.trans (Off.new n1)
  refine ⟨_, rfl, by show 4 ≤ sizeLine; decide, fun p2 n2 => ?_⟩
  have k2 : ∀ o, Off (fun _ => False) H (upd _ p2 o) := fun o => (k1 _).trans (Off.new n2)
  refine ⟨p1, p2, _, _, rfl, rfl, by rw [upd_ne (ne_of_none upd_same n2)]; exact upd_same, upd_same, by show 11 ≤ sizeLine; decide, fun p3 n3 => ?_⟩
  have k3 : ∀ o, Off (fun _ => False) H (upd _ p3 o) := fun o => (k2 _).trans (Off.new n3)
  refine ⟨_, rfl, a, _, dx, fs, _, _, _, rfl, .own _, er, k3 _ _ _ ea no, k3 _ _ _ ed no, kt "BrokenRule" (by decide), _, rfl, a, _, dx, fs, _, _, _, rfl, .own _, er, k3 _ _ _ ea no, k3 _ _ _ ed no, kt "DoubleName" (by decide), _, rfl, a, _, dx, fs, _, _, _, rfl, .own _, er, k3 _ _ _ ea no, k3 _ _ _ ed no, kt "InvalidName" (by decide), by show 3 ≤ sizeLine; decide, fun p4 n4 => ?_⟩
  have k4 : ∀ o, Off (fun _ => False) H (upd _ p4 o) := fun o => (k3 _).trans (Off.new n4)
  have j4 : ∀ o, Off (fun _ => False) _ (upd _ p4 o) := fun o => Off.new n4
  refine ⟨_, rfl, _, rfl, a, _, dx, fs, _, _, _, rfl, .own _, er, k4 _ _ _ ea no, k4 _ _ _ ed no, kt "InvalidQuestion" (by decide), _, rfl, a, _, dx, fs, _, _, _, rfl, .own _, er, k4 _ _ _ ea no, k4 _ _ _ ed no, kt "InvalidRow" (by decide), by show 2 ≤ sizeLine; decide, fun p5 n5 => ?_⟩
  have k5 : ∀ o, Off (fun _ => False) H (upd _ p5 o) := fun o => (k4 _).trans (Off.new n5)
  have j5 : ∀ o, Off (fun _ => False) _ (upd _ p5 o) := fun o => (j4 _).trans (Off.new n5)
  refine ⟨p4, p5, _, _, rfl, rfl, by rw [upd_ne (ne_of_none upd_same n5)]; exact upd_same, upd_same, by show 5 ≤ sizeLine; decide, fun p6 n6 => ?_⟩
  have k6 : ∀ o, Off (fun _ => False) H (upd _ p6 o) := fun o => (k5 _).trans (Off.new n6)
  have j6 : ∀ o, Off (fun _ => False) _ (upd _ p6 o) := fun o => (j5 _).trans (Off.new n6)
  refine ⟨_, rfl, _, rfl, a, _, dx, fs, _, _, _, rfl, .own _, er, k6 _ _ _ ea no, k6 _ _ _ ed no, kt "InvalidRule" (by decide), _, rfl, a, _, dx, fs, _, _, _, rfl, .own _, er, k6 _ _ _ ea no, k6 _ _ _ ed no, kt "NoSuchRow" (by decide), _, rfl, a, _, dx, fs, _, _, _, rfl, .own _, er, k6 _ _ _ ea no, k6 _ _ _ ed no, kt "NothingToUndo" (by decide), by show 3 ≤ sizeLine; decide, fun p7 n7 => ?_⟩
  have k7 : ∀ o, Off (fun _ => False) H (upd _ p7 o) := fun o => (k6 _).trans (Off.new n7)
  have j7 : ∀ o, Off (fun _ => False) _ (upd _ p7 o) := fun o => (j6 _).trans (Off.new n7)
  refine ⟨p6, p7, _, _, rfl, rfl, by rw [upd_ne (ne_of_none upd_same n7)]; exact upd_same, upd_same, by show 8 ≤ sizeLine; decide, fun p8 n8 => ?_⟩
  have k8 : ∀ o, Off (fun _ => False) H (upd _ p8 o) := fun o => (k7 _).trans (Off.new n8)
  have j8 : ∀ o, Off (fun _ => False) _ (upd _ p8 o) := fun o => (j7 _).trans (Off.new n8)
  refine ⟨_, rfl, _, rfl, a, _, dx, fs, _, _, _, rfl, .own _, er, k8 _ _ _ ea no, k8 _ _ _ ed no, kt "UnknownColumn" (by decide), _, rfl, a, _, dx, fs, _, _, _, rfl, .own _, er, k8 _ _ _ ea no, k8 _ _ _ ed no, kt "UnknownTable" (by decide), _, rfl, a, _, dx, fs, _, _, _, rfl, .own _, er, k8 _ _ _ ea no, k8 _ _ _ ed no, kt "Unreadable" (by decide), by show 3 ≤ sizeLine; decide, fun p9 n9 => ?_⟩
  have k9 : ∀ o, Off (fun _ => False) H (upd _ p9 o) := fun o => (k8 _).trans (Off.new n9)
  have j9 : ∀ o, Off (fun _ => False) _ (upd _ p9 o) := fun o => (j8 _).trans (Off.new n9)
  refine ⟨p8, p9, _, _, rfl, rfl, by rw [upd_ne (ne_of_none upd_same n9)]; exact upd_same, upd_same, by show 11 ≤ sizeLine; decide, fun p10 n10 => ?_⟩
  have k10 : ∀ o, Off (fun _ => False) H (upd _ p10 o) := fun o => (k9 _).trans (Off.new n10)
  have j10 : ∀ o, Off (fun _ => False) _ (upd _ p10 o) := fun o => (j9 _).trans (Off.new n10)
  refine ⟨_, rfl, _, rfl, p3, p10, names.tail.map V.str, names.tail.map (fun y => V.bl (decide (x = y) || decide (y = "KeyTellError"))), rfl, SqL.of (j10 _ _ _ upd_same no), SqL.of upd_same, fun D hD => ?_⟩
  have e3 := j10 (.lst (names.tail.map (fun y => V.bl (decide (x = y) || decide (y = "KeyTellError"))))) p3 _ upd_same no
  refine lc_zip (K := K) (a := p3) (b := p10) (xs := names.tail.map V.str) (ys := names.tail.map (fun y => V.bl (decide (x = y) || decide (y = "KeyTellError"))))
    (fun i H' => H' D = some (.lst (((names.tail.take i).filter fun y => decide (x = y)).map V.str)) ∧ Off (fun _ => False) _ H') (by rw [List.length_map, List.length_map]) ⟨upd_same, Off.new hD⟩
    (fun i H' _ g => ⟨SqL.of (g.2 _ _ e3 no), SqL.of (g.2 p10 _ upd_same no)⟩) (fun i x1 y1 H' Tp h1 h2 g hT => ?_) fun H' g => ?_
  · obtain ⟨g1, g2⟩ := g
    rw [List.getElem?_map] at h1 h2
    cases e : names.tail[i]? with
    | none =>
      rw [e] at h1
      cases h1
    | some y =>
    rw [e] at h1 h2
    have x1e := (Option.some.inj h1).symm
    subst x1e
    have hy : decide (y = "KeyTellError") = false := by
      have all : ∀ z ∈ names.tail, decide (z = "KeyTellError") = false := by decide
      exact all y (List.mem_of_getElem? e)
    have y1e : V.bl (decide (x = y) || decide (y = "KeyTellError")) = y1 := Option.some.inj h2
    rw [hy, Bool.or_false] at y1e
    subst y1e
    have tD : D ≠ Tp := ne_of_none g1 hT
    have l11 : ((names.tail.take i).filter fun y => decide (x = y)).length ≤ 11 := Nat.le_trans (List.length_filter_le _ _) (by rw [List.length_take]; exact Nat.le_trans (Nat.min_le_right _ _) (by decide))
    refine ⟨Tp, _, rfl, SqT.of upd_same, rfl, _, _, rfl, _, _, rfl, rfl, rfl, _, rfl, _, rfl, ?_⟩
    rw [List.take_add_one, e, List.filter_append]
    by_cases xy : x = y
    · rw [decide_eq_true xy]
      refine iteT ⟨_, rfl, _, by rw [upd_ne tD]; exact g1, by rw [List.length_map]; exact small1000 (by omega), ?_, ?_⟩
      · rw [upd_same]
        simp [xy]
      · intro c o ec nc
        have nD : c ≠ D := ne_of_none ec hD
        have ec' := g2 _ _ ec nc
        rw [upd_ne nD, upd_ne (ne_of_none ec' hT)]
        exact ec'
    · rw [decide_eq_false xy]
      refine iteF ⟨?_, g2.trans (Off.new hT)⟩
      rw [upd_ne tD]
      simpa [xy] using g1
  · obtain ⟨g1, g2⟩ := g
    rw [List.length_map, List.take_length] at g1
    refine q D H' ?_ g1 ((k10 _).trans g2)
    exact (k10 _).none hD no
end
end K01
set_option Elab.async false
set_option linter.all false
set_option maxRecDepth 100000
set_option maxHeartbeats 4000000
namespace K01
open PySem PySem.Spec PyProof.Rows L2 KV
/-! ### the words of the classes -/
/-- at wo: a list of twelve lists, what _law_kinds tells of each class -/
def WordsAt (H : Hp) (wo : Addr) : Prop := ∃ ls : List Addr, H wo = some (.lst (ls.map V.ref)) ∧ ∀ (j : Nat) (x : Str), names[j]? = some x → ∃ l : Addr, ls[j]? = some l ∧ H l = some (.lst ((kinds x).map V.str))
def tW (x : Str) : TE := tLst (tCons (tC (.str x)) tNil)
def t1 : TS := tAsg (tLst (tCons (tLst tNil) (tCons (tW "BrokenRule") (tCons (tW "DoubleName") (tCons (tW "InvalidName") (tCons (tW "InvalidQuestion") (tCons (tW "InvalidRow") tNil))))))) (gName 2)
def t2 : TS := tAsg (tOp rCat (tVar 2) (tLst (tCons (tW "InvalidRule") (tCons (tW "NoSuchRow") (tCons (tW "NothingToUndo") (tCons (tW "UnknownColumn") (tCons (tW "UnknownTable") tNil))))))) (gName 2)
def t3 : TS := tAsg (tOp rCat (tVar 2) (tLst (tCons (tW "Unreadable") tNil))) (gName 2)
theorem kinds_at : ∀ (j : Nat) (x : Str), names[j]? = some x → (kinds x).map V.str = if j = 0 then [] else [V.str x] := by
  have all : ∀ j : Fin 12, ∀ x, names[j.val]? = some x → (kinds x).map V.str = if j.val = 0 then [] else [V.str x] := by
    intro j x h
    match j with
    | 0 => cases Option.some.inj h; decide
    | 1 => cases Option.some.inj h; decide
    | 2 => cases Option.some.inj h; decide
    | 3 => cases Option.some.inj h; decide
    | 4 => cases Option.some.inj h; decide
    | 5 => cases Option.some.inj h; decide
    | 6 => cases Option.some.inj h; decide
    | 7 => cases Option.some.inj h; decide
    | 8 => cases Option.some.inj h; decide
    | 9 => cases Option.some.inj h; decide
    | 10 => cases Option.some.inj h; decide
    | 11 => cases Option.some.inj h; decide
  intro j x h
  have hj : j < 12 := (List.getElem?_eq_some_iff.mp h).1
  exact all ⟨j, hj⟩ x h
theorem words_read {rest : TS} {D : Ends} {p : Addr} {r : Int} {H : Hp} (h : ∀ wo H', WordsAt H' wo → Off (fun _ => False) H H' → H wo = none → rest D [some (.ref p), some (.int r), some (.ref wo), none, none, none, none, none, none, none] H') :
    tSeq t1 (tSeq t2 (tSeq t3 rest)) D [some (.ref p), some (.int r), none, none, none, none, none, none, none, none] H := by
  have one : ([V.str "a"] : List V).length ≤ sizeLine := by show 1 ≤ sizeLine; decide
  have no : ¬ False := fun z => z
  refine ⟨by show 0 ≤ sizeLine; decide, fun l0 n0 => ⟨one, fun l1 n1 => ⟨one, fun l2 n2 => ⟨one, fun l3 n3 => ⟨one, fun l4 n4 => ⟨one, fun l5 n5 => ⟨by show 6 ≤ sizeLine; decide, fun w1 m1 => ?_⟩⟩⟩⟩⟩⟩⟩
  refine ⟨_, rfl, one, fun l6 n6 => ⟨one, fun l7 n7 => ⟨one, fun l8 n8 => ⟨one, fun l9 n9 => ⟨one, fun l10 n10 => ⟨by show 5 ≤ sizeLine; decide, fun q2 r2 => ?_⟩⟩⟩⟩⟩⟩
  have a0 : ∀ o, Off (fun _ => False) _ (upd _ l6 o) := fun o => Off.new n6
  have a1 : ∀ o, Off (fun _ => False) _ (upd _ l7 o) := fun o => (a0 _).trans (Off.new n7)
  have a2 : ∀ o, Off (fun _ => False) _ (upd _ l8 o) := fun o => (a1 _).trans (Off.new n8)
  have a3 : ∀ o, Off (fun _ => False) _ (upd _ l9 o) := fun o => (a2 _).trans (Off.new n9)
  have a4 : ∀ o, Off (fun _ => False) _ (upd _ l10 o) := fun o => (a3 _).trans (Off.new n10)
  have a5 : ∀ o, Off (fun _ => False) _ (upd _ q2 o) := fun o => (a4 _).trans (Off.new r2)
  refine ⟨w1, q2, _, _, rfl, rfl, a5 _ _ _ upd_same no, upd_same, by show 11 ≤ sizeLine; decide, fun w2 m2 => ?_⟩
  refine ⟨_, rfl, one, fun l11 n11 => ⟨by show 1 ≤ sizeLine; decide, fun q3 r3 => ?_⟩⟩
  have b0 : ∀ o, Off (fun _ => False) _ (upd _ l11 o) := fun o => Off.new n11
  have b1 : ∀ o, Off (fun _ => False) _ (upd _ q3 o) := fun o => (b0 _).trans (Off.new r3)
  refine ⟨w2, q3, _, _, rfl, rfl, b1 _ _ _ upd_same no, upd_same, by show 12 ≤ sizeLine; decide, fun w3 m3 => ?_⟩
  have k0 : ∀ o, Off (fun _ => False) H (upd _ l0 o) := fun o => Off.new n0
  have k1 : ∀ o, Off (fun _ => False) H (upd _ l1 o) := fun o => (k0 _).trans (Off.new n1)
  have k2 : ∀ o, Off (fun _ => False) H (upd _ l2 o) := fun o => (k1 _).trans (Off.new n2)
  have k3 : ∀ o, Off (fun _ => False) H (upd _ l3 o) := fun o => (k2 _).trans (Off.new n3)
  have k4 : ∀ o, Off (fun _ => False) H (upd _ l4 o) := fun o => (k3 _).trans (Off.new n4)
  have k5 : ∀ o, Off (fun _ => False) H (upd _ l5 o) := fun o => (k4 _).trans (Off.new n5)
  have k6 : ∀ o, Off (fun _ => False) H (upd _ w1 o) := fun o => (k5 _).trans (Off.new m1)
  have k7 : ∀ o, Off (fun _ => False) H (upd _ w2 o) := fun o => ((k6 _).trans (a5 _)).trans (Off.new m2)
  have k8 : ∀ o, Off (fun _ => False) H (upd _ w3 o) := fun o => ((k7 _).trans (b1 _)).trans (Off.new m3)
  -- from each list to the end
  have e11 : ∀ o, Off (fun _ => False) _ (upd _ w3 o) := fun o => (Off.new r3).trans (Off.new m3)
  have e10 : ∀ o, Off (fun _ => False) _ (upd _ w3 o) := fun o => (((Off.new r2).trans (Off.new m2)).trans (Off.new n11)).trans (e11 o)
  have e9 : ∀ o, Off (fun _ => False) _ (upd _ w3 o) := fun o => (Off.new n10).trans (e10 o)
  have e8 : ∀ o, Off (fun _ => False) _ (upd _ w3 o) := fun o => (Off.new n9).trans (e9 o)
  have e7 : ∀ o, Off (fun _ => False) _ (upd _ w3 o) := fun o => (Off.new n8).trans (e8 o)
  have e6 : ∀ o, Off (fun _ => False) _ (upd _ w3 o) := fun o => (Off.new n7).trans (e7 o)
  have e5 : ∀ o, Off (fun _ => False) _ (upd _ w3 o) := fun o => ((Off.new m1).trans (Off.new n6)).trans (e6 o)
  have e4 : ∀ o, Off (fun _ => False) _ (upd _ w3 o) := fun o => (Off.new n5).trans (e5 o)
  have e3 : ∀ o, Off (fun _ => False) _ (upd _ w3 o) := fun o => (Off.new n4).trans (e4 o)
  have e2 : ∀ o, Off (fun _ => False) _ (upd _ w3 o) := fun o => (Off.new n3).trans (e3 o)
  have e1 : ∀ o, Off (fun _ => False) _ (upd _ w3 o) := fun o => (Off.new n2).trans (e2 o)
  have e0 : ∀ o, Off (fun _ => False) _ (upd _ w3 o) := fun o => (Off.new n1).trans (e1 o)
  refine h w3 _ ⟨[l0, l1, l2, l3, l4, l5, l6, l7, l8, l9, l10, l11], upd_same, fun j x hx => ?_⟩ (k8 _) (((k7 _).trans (b1 _)).none m3 no)
  rw [kinds_at j x hx]
  have hj : j < 12 := (List.getElem?_eq_some_iff.mp hx).1
  match j, hj with
  | 0, _ => exact ⟨l0, rfl, e0 _ _ _ upd_same no⟩
  | 1, _ => cases Option.some.inj hx; exact ⟨l1, rfl, e1 _ _ _ upd_same no⟩
  | 2, _ => cases Option.some.inj hx; exact ⟨l2, rfl, e2 _ _ _ upd_same no⟩
  | 3, _ => cases Option.some.inj hx; exact ⟨l3, rfl, e3 _ _ _ upd_same no⟩
  | 4, _ => cases Option.some.inj hx; exact ⟨l4, rfl, e4 _ _ _ upd_same no⟩
  | 5, _ => cases Option.some.inj hx; exact ⟨l5, rfl, e5 _ _ _ upd_same no⟩
  | 6, _ => cases Option.some.inj hx; exact ⟨l6, rfl, e6 _ _ _ upd_same no⟩
  | 7, _ => cases Option.some.inj hx; exact ⟨l7, rfl, e7 _ _ _ upd_same no⟩
  | 8, _ => cases Option.some.inj hx; exact ⟨l8, rfl, e8 _ _ _ upd_same no⟩
  | 9, _ => cases Option.some.inj hx; exact ⟨l9, rfl, e9 _ _ _ upd_same no⟩
  | 10, _ => cases Option.some.inj hx; exact ⟨l10, rfl, e10 _ _ _ upd_same no⟩
  | 11, _ => cases Option.some.inj hx; exact ⟨l11, rfl, e11 _ _ _ upd_same no⟩
end K01
set_option Elab.async false
set_option linter.all false
set_option maxRecDepth 100000
set_option maxHeartbeats 8000000
namespace K01
open PySem PySem.Spec PyProof.Rows L2 KV
/-- behind _law_class_right the purse alone has changed -/
def spRight : Sp := fun vs H Q _ => ∃ (p : Addr) (r : Int) (c : Nat), vs = [.ref p, .int r] ∧ 0 ≤ r ∧ r < 12 ∧ Pu H p c ∧ c + 2 * bud 3 ≤ 1000000000 ∧
  ∀ H' c', Pu H' p c' → c' ≤ c + 2 * bud 3 → Off (fun a => a = p) H H' → Q (.bl true) H'
theorem exH_off {H : Hp} {a dx C : Addr} {f : Str} {v : V} (h1 : H a = none) (h2 : H dx = none) (h3 : dx ≠ a) : Off (fun _ => False) H (exH H a dx C f v) := fun b o e n => by
  unfold exH
  rw [upd_ne (ne_of_none e h1), upd_ne (ne_of_none e h2)]
  exact e
theorem exH_a {H : Hp} {a dx C : Addr} {f : Str} {v : V} : exH H a dx C f v a = some (exo a C (some dx)) := upd_same
theorem exH_d {H : Hp} {a dx C : Addr} {f : Str} {v : V} (h3 : dx ≠ a) : exH H a dx C f v dx = some (exd dx [(f, v)]) := by
  unfold exH
  rw [upd_ne h3]
  exact upd_same
/-- the errors that were built, by places -/
def ErrsAt (K : PySem.W.Frag) (H : Hp) (x : Str) (es : List Addr) (tv : List V) : Prop := ∀ (i : Nat) (v : V), tv[i]? = some v → ∃ e dx : Addr, es[i]? = some e ∧ H e = some (exo e (He.ga K x) (some dx)) ∧ H dx = some (exd dx [("value", v)])
theorem ErrsAt.off {K : PySem.W.Frag} {H H' : Hp} {x : Str} {es : List Addr} {tv : List V} {G : Fp} (h : ErrsAt K H x es tv) (k : Off G H H') (hG : ∀ a, G a → ∃ xs, H a = some (.lst xs)) : ErrsAt K H' x es tv := fun i v hi => by
  obtain ⟨e, dx, h1, h2, h3⟩ := h i v hi
  refine ⟨e, dx, h1, k _ _ h2 fun z => ?_, k _ _ h3 fun z => ?_⟩
  · obtain ⟨xs, q⟩ := hG e z
    rw [h2] at q
    cases q
  · obtain ⟨xs, q⟩ := hG dx z
    rw [h3] at q
    cases q
theorem WordsAt.off {H H' : Hp} {wo : Addr} {G : Fp} (h : WordsAt H wo) (k : Off G H H') (hG : ∀ a o, G a → H a = some o → False) : WordsAt H' wo := by
  obtain ⟨ls, h1, h2⟩ := h
  refine ⟨ls, k _ _ h1 fun z => hG _ _ z h1, fun j x hx => ?_⟩
  obtain ⟨l, e1, e2⟩ := h2 j x hx
  exact ⟨l, e1, k _ _ e2 fun z => hG _ _ z e2⟩
section
variable {P : Program} {w : World} {K : PySem.W.Frag} {mg : Str → Option Value} {base : Heap}
/-- what the loops lean on -/
structure LB (K : PySem.W.Frag) (H : Hp) (wo th mi bu : Addr) (r : Int) (x : Str) (es : List Addr) (tv mv : List V) (F M : Fp) : Prop where
  tl : tv.length = 2
  ml : mv.length = 2
  nm : ∃ j : Nat, r = (j : Int) ∧ names[j]? = some x
  hth : H th = some (.lst tv)
  nth : ¬ (F th ∨ M th)
  hmi : H mi = some (.lst mv)
  nmi : ¬ (F mi ∨ M mi)
  hbu : H bu = some (.lst (es.map V.ref))
  nbu : ¬ (F bu ∨ M bu)
  hes : ErrsAt K H x es tv
  hwo : ∃ (ws : List V) (l : Addr), H wo = some (.lst ws) ∧ ¬ (F wo ∨ M wo) ∧ atI ws r = some (.ref l) ∧ H l = some (.lst ((kinds x).map V.str)) ∧ ¬ (F l ∨ M l)
  dis : ∀ a, F a → ¬ M a
theorem LB.off {H H' : Hp} {wo th mi bu : Addr} {r : Int} {x : Str} {es : List Addr} {tv mv : List V} {F M : Fp} (h : LB K H wo th mi bu r x es tv mv F M) (k : Off (fun a => F a ∨ M a) H H') (hG : ∀ a, F a ∨ M a → ∃ xs, H a = some (.lst xs)) :
    LB K H' wo th mi bu r x es tv mv F M := by
  obtain ⟨ws, l, a1, a2, a3, a4, a5⟩ := h.hwo
  exact ⟨h.tl, h.ml, h.nm, k _ _ h.hth h.nth, h.nth, k _ _ h.hmi h.nmi, h.nmi, k _ _ h.hbu h.nbu, h.nbu, h.hes.off k hG, ⟨ws, l, k _ _ a1 a2, a2, a3, k _ _ a4 a5, a5⟩, h.dis⟩
/-- the data, between two turns -/
structure Sd (H : Hp) (tv mv : List V) (F M : Fp) (ds : List PyData) (m : Nat) : Prop where
  th : OwAll H tv ds F
  mr : OwAll H mv ds M
  fit : ∀ d ∈ ds, Fit m 3 d
theorem Sd.dom {H : Hp} {tv mv : List V} {F M : Fp} {ds : List PyData} {m : Nat} (h : Sd H tv mv F M ds m) : ∀ a, F a ∨ M a → ∃ xs, H a = some (.lst xs) := fun a z => z.elim (h.th.dom a) (h.mr.dom a)
theorem Sd.off {H H' : Hp} {tv mv : List V} {F M : Fp} {ds : List PyData} {m : Nat} (h : Sd H tv mv F M ds m) (k : Off (fun _ => False) H H') : Sd H' tv mv F M ds m :=
  ⟨h.th.keep k (fun _ z => z.elim) fun _ _ z => z, h.mr.keep k (fun _ z => z.elim) fun _ _ z => z, h.fit⟩
theorem at_0 {α : Type} {xs : List α} {i : Nat} {v : α} (h : xs[i]? = some v) : atI xs (0 + (i : Int)) = some v := by
  rw [Int.zero_add]
  exact atI_nat h
theorem big_ok {m n : Nat} (hm : m ≤ 6) (hn : n ≤ 4) : big m n ≤ sizeLine := by
  have h1 : ∀ m : Fin 7, ∀ n : Fin 5, big m.val n.val ≤ 16777216 := by decide +kernel
  rw [sizeLine_eq]
  exact h1 ⟨m, by omega⟩ ⟨n, by omega⟩
theorem kinds_shaped : ∀ x ∈ names, SeqAt.shaped (.list ((kinds x).map PyData.str)) = true := by decide +kernel
theorem strs_dp {H : Hp} : ∀ zs : List Str, DpAll K H (zs.map V.str) (zs.map PyData.str)
  | [] => .nil
  | z :: zs => .cons (.str z) (strs_dp zs)
theorem Pu.off {H H' : Hp} {p : Addr} {c : Nat} {G : Fp} (h : Pu H p c) (k : Off G H H') (n : ¬ G p) : Pu H' p c := by
  obtain ⟨a, b, m, h1, h2⟩ := h
  exact ⟨a, b, m, k _ _ h1 n, h2⟩
/-- the slots, between two turns -/
def Sg (p wo th mi bu : Addr) (r : Int) (σ : L2.St) : Prop := ∃ a b c, σ = [some (.ref p), some (.int r), some (.ref wo), some (.ref th), some (.ref mi), some (.ref bu), a, b, c, none]
theorem scRight : FnScope ["purse", "rank", "words", "things", "mirrors", "built", "turn", "at", "caught", "thing"] ["purse", "rank"] (defScope sRight) := ⟨rfl, rfl, rfl, by decide +kernel, rfl, by decide +kernel, by decide +kernel⟩
/-- what the body leans on -/
structure RT (P : Program) (w : World) (K : PySem.W.Frag) (mg : Str → Option Value) (base : Heap) (fT fC fM fMa fNa fK : Addr) (dT dC dM dMa dNa dK dI : FuncData) : Prop where
  e : ErrT P w K mg base dI
  gT : FnOk P w K mg base CX0 5 fT dT ["purse", "deep"] (spThing 4)
  bT : Binds K dT ["purse", "deep"] []
  mT : mg "_law_thing" = some (.ref fT)
  kT : PySem.W.keepIn K (.ref fT) = true
  gC : FnOk P w K mg base CX0 4 fC dC ["thing"] (spCopied 4)
  bC : Binds K dC ["thing"] []
  mC : mg "_law_copied" = some (.ref fC)
  kC : PySem.W.keepIn K (.ref fC) = true
  gM : FnOk P w K mg base CX0 4 fM dM ["thing"] (spMuddle 4)
  bM : Binds K dM ["thing"] []
  mM : mg "_law_muddle" = some (.ref fM)
  kM : PySem.W.keepIn K (.ref fM) = true
  gMa : FnOk P w K mg base CX0 3 fMa dMa ["rank", "thing"] (spMade K)
  bMa : Binds K dMa ["rank", "thing"] []
  mMa : mg "_law_made" = some (.ref fMa)
  kMa : PySem.W.keepIn K (.ref fMa) = true
  gNa : FnOk P w K mg base CX0 3 fNa dNa ["rank", "thing"] (spMade K)
  bNa : Binds K dNa ["rank", "thing"] []
  mNa : mg "_law_named" = some (.ref fNa)
  kNa : PySem.W.keepIn K (.ref fNa) = true
  gK : FnOk P w K mg base CX0 1 fK dK ["caught"] (spKinds K)
  bK : Binds K dK ["caught"] []
  mK : mg "_law_kinds" = some (.ref fK)
  kK : PySem.W.keepIn K (.ref fK) = true
  mr : mg "range" = none
  mi : mg "isinstance" = none
  mv : mg "ValueError" = none
  mp : mg "repr" = none
theorem ok_right {f fT fC fM fMa fNa fK : Addr} {fd dT dC dM dMa dNa dK dI : FuncData} (F : FnP K "_law_class_right" sRight f fd) (T : RT P w K mg base fT fC fM fMa fNa fK dT dC dM dMa dNa dK dI) :
    FnC P w K mg base CX0 6 f fd ["purse", "rank"] spRight := by
  refine Fun.okC F scRight (fun vs H Q E h => ?_) (fun cdv A outer s H vs Q E hG hr h => ?_)
  · obtain ⟨p, r, c, rfl, _⟩ := h
    rfl
  obtain ⟨p, r, c, rfl, r0, r12, hp, hc, q⟩ := h
  have hr4 : Room 4 _ := hr.mono (by decide)
  have hr3 : Room 3 _ := hr.mono (by decide)
  have hr1 : Room 1 _ := hr.mono (by decide)
  have hu : (A.deeper (envOfC "_law_class_right" (defScope sRight) s.heap.objs.size f cdv)).units + 64 < cLine := hr.units
  refine ⟨_, PSs.nox (pss_cons (ps_set (i := 2) scRight.nd rfl (Or.inl rfl) (pe_lst (pa_cons (pe_lst pa_nil) (pa_cons (pe_lst (pa_cons pe_str pa_nil)) (pa_cons (pe_lst (pa_cons pe_str pa_nil)) (pa_cons (pe_lst (pa_cons pe_str pa_nil)) (pa_cons (pe_lst (pa_cons pe_str pa_nil)) (pa_cons (pe_lst (pa_cons pe_str pa_nil)) pa_nil))))))))
    (pss_cons (ps_set (i := 2) scRight.nd rfl (Or.inl rfl) (pe_op op_cat (pv 2) (pe_lst (pa_cons (pe_lst (pa_cons pe_str pa_nil)) (pa_cons (pe_lst (pa_cons pe_str pa_nil)) (pa_cons (pe_lst (pa_cons pe_str pa_nil)) (pa_cons (pe_lst (pa_cons pe_str pa_nil)) (pa_cons (pe_lst (pa_cons pe_str pa_nil)) pa_nil))))))))
    (pss_cons (ps_set (i := 2) scRight.nd rfl (Or.inl rfl) (pe_op op_cat (pv 2) (pe_lst (pa_cons (pe_lst (pa_cons pe_str pa_nil)) pa_nil))))
    (pss_cons (ps_set (i := 3) scRight.nd rfl (Or.inl rfl) (pe_lst (pa_cons (pe_call T.gT hr rfl T.mT T.kT T.bT .nil pass0 (pa_cons (pv 0) (pa_cons pe_int pa_nil))) (pa_cons (pe_call T.gT hr rfl T.mT T.kT T.bT .nil pass0 (pa_cons (pv 0) (pa_cons pe_int pa_nil))) pa_nil))))
    (pss_cons (ps_setLc (i := 4) (own := [("thing", 9)]) (g := gName 9) (tt := tYes) rfl scRight.nd rfl rfl (sw_true rfl rfl rfl (by decide +kernel)) (pi_list (pv 3))
        (blkOk_by (own := [("thing", 9)]) (N := ["purse", "rank", "words", "things", "mirrors", "built", "turn", "at", "caught", "thing"]) (sc := defScope sRight) (by decide +kernel))
        (fun _ _ _ _ _ => pg_name (i := 9) scRight.nd rfl (Or.inl rfl)) (fun _ _ _ _ _ => pts_nil)
        (fun _ _ _ _ _ => pe_call T.gC hr4 rfl T.mC T.kC T.bC .nil pass0 (pa_cons (pv 9) pa_nil)))
    (pss_cons (ps_set (i := 5) scRight.nd rfl (Or.inl rfl) (pe_lst (pa_cons (pe_call T.gMa hr3 rfl T.mMa T.kMa T.bMa .nil pass0 (pa_cons (pv 1) (pa_cons (pe_ix ix_list (pv 3) pe_int (fun _ _ => rfl)) pa_nil)))
        (pa_cons (pe_call T.gNa hr3 rfl T.mNa T.kNa T.bNa .nil pass0 (pa_cons (pv 1) (pa_cons (pe_ix ix_list (pv 3) pe_int (fun _ _ => rfl)) pa_nil))) pa_nil))))
    (pss_cons (ps_for PassesOwn.never rfl (pi_range1 rfl T.mr (pa_cons pe_int pa_nil)) (pg_name (i := 6) scRight.nd rfl (Or.inl rfl))
        (pss_cons (ps_for PassesOwn.never rfl (pi_range1 rfl T.mr (pa_cons pe_int pa_nil)) (pg_name (i := 7) scRight.nd rfl (Or.inl rfl))
          (pss_cons (ps_set (i := 8) scRight.nd rfl (Or.inl rfl) (pe_ix ix_list (pv 5) (pv 7) (fun _ _ => rfl)))
          (pss_cons (ps_if (PW.pt (pw_or (pt_not (pt_val (pe_callB call_isX rfl T.mi boot_isinstance (pa_cons (pv 8) (pa_cons (pe_glob (v := .ref (He.ga K "KeyTellError")) rfl (T.e.g "KeyTellError" (by decide)) rfl) pa_nil)))))
              (pw_or1 (pt_not (pt_val (pe_callB call_isX rfl T.mi boot_isinstance (pa_cons (pv 8) (pa_cons (pe_bltn (v := .ty "ValueError") rfl T.mv PyProof.Rows.Boot.«ValueError» rfl) pa_nil)))))))) (pss_one (ps_ret pe_bl)) pss_nil)
          (pss_one (ps_if (PW.pt (pw_or (pt_cmpR (op_neD hu) (pe_call T.gK hr1 rfl T.mK T.kK T.bK .nil pass0 (pa_cons (pv 8) pa_nil)) (pe_ix ix_list (pv 2) (pv 1) (fun _ _ => rfl)) (nomark _))
              (pw_or1 (pt_cmpR op_ne (pe_callB (call_repD hG hu) rfl T.mp boot_repr (pa_cons (pe_getEx (pv 8)) pa_nil)) (pe_callB (call_repD hG hu) rfl T.mp boot_repr (pa_cons (pe_ix ix_list (pv 4) (pv 7) (fun _ _ => rfl)) pa_nil)) (nomark _)))))
              (pss_one (ps_ret pe_bl)) pss_nil)))))
        (pss_one (ps_for PassesOwn.never rfl (pi_range1 rfl T.mr (pa_cons pe_int pa_nil)) (pg_name (i := 7) scRight.nd rfl (Or.inl rfl))
          (pss_cons (ps_expr (pe_call T.gM hr4 rfl T.mM T.kM T.bM .nil pass0 (pa_cons (pe_ix ix_list (pv 3) (pv 7) (fun _ _ => rfl)) pa_nil)))
          (pss_one (ps_expr (pe_call T.gM hr4 rfl T.mM T.kM T.bM .nil pass0 (pa_cons (pe_ix ix_list (pv 4) (pv 7) (fun _ _ => rfl)) pa_nil)))))))))
    (pss_one (ps_ret (pe_cmpR op_eq (pe_callB (call_repD hG hu) rfl T.mp boot_repr (pa_cons (pe_lc (own := [("caught", 8)]) (g := gName 8) (tt := tYes) (te := tGetEx K "value" (tVar 8)) rfl scRight.nd (pi_list (pv 5))
        (blkOk_by (own := [("caught", 8)]) (N := ["purse", "rank", "words", "things", "mirrors", "built", "turn", "at", "caught", "thing"]) (sc := defScope sRight) (by decide +kernel))
        (fun _ _ _ _ _ => pg_name (i := 8) scRight.nd rfl (Or.inl rfl)) (fun _ _ _ _ _ => pts_nil) (fun _ _ _ _ _ => pe_getEx (pv 8))) pa_nil))
      (pe_callB (call_repD hG hu) rfl T.mp boot_repr (pa_cons (pv 4) pa_nil)) (nomark _))))))))))), ?_⟩
  refine words_read (fun wo Hw hW kW nW => ?_)
  have no : ¬ False := fun z => z
  have bp := bud_pos 3
  have pW : Pu Hw p c := hp.off kW no
  obtain ⟨pw, epw⟩ := pW.lst
  refine ⟨_, rfl, p, 3, c, rfl, pW, by omega, by decide, fun v0 d0 F0 H1 c1 o0 f0 fr0 k1 hp1 hc1 => ⟨_, rfl, p, 3, c1, rfl, hp1, by omega, by decide, fun v1 d1 F1 H2 c2 o1 f1 fr1 k2 hp2 hc2 => ⟨by show 2 ≤ sizeLine; decide, fun th nth => ?_⟩⟩⟩
  obtain ⟨p1, ep1⟩ := hp1.lst
  obtain ⟨p2, ep2⟩ := hp2.lst
  have F0p : ∀ a, F0 a → ¬ a = p := fun a z y => by
    have e := fr0 a z
    rw [y, epw] at e
    cases e
  have F1p : ∀ a, F1 a → ¬ a = p := fun a z y => by
    have e := fr1 a z
    rw [y, ep1] at e
    cases e
  have o0' : Ow H2 v0 d0 F0 := o0.keep k2 (fun a z => by rw [z]; exact hp1.lst) F0p
  have ownT : OwAll H2 [v0, v1] [d0, d1] (fun a => F0 a ∨ F1 a ∨ False) := .cons o0' (.cons o1 (.nil (F := fun _ => False) fun _ z => z) (fun _ _ z => z) fun _ => Iff.rfl) (fun a z y => by
    rcases y with y | y
    · obtain ⟨xs, e⟩ := o0.dom a z
      rw [fr1 a y] at e
      cases e
    · exact y) fun _ => Iff.rfl
  have pth : p ≠ th := ne_of_none ep2 nth
  have hpT : Pu (upd H2 th (.lst [v0, v1])) p c2 := hp2.off (G := fun _ => False) (Off.new nth) no
  have kT : Off (fun a => a = p) Hw (upd H2 th (.lst [v0, v1])) := (k1.trans k2).trans (Off.new nth)
  have ownT3 := ownT.keep (G := fun _ => False) (Off.new (o := .lst [v0, v1]) nth) (fun _ z => z.elim) fun _ _ z => z
  have nTh : ¬ (F0 th ∨ F1 th ∨ False) := fun z => by
    obtain ⟨xs, e⟩ := ownT.dom th z
    rw [nth] at e
    cases e
  have eth := @upd_same H2 th (.lst [v0, v1])
  have frF : ∀ a, (F0 a ∨ F1 a ∨ False) → Hw a = none := fun a z => by
    rcases z with z | z | z
    · exact fr0 a z
    · exact k1.none (fr1 a z) (F1p a z)
    · exact z.elim
  have hfit : ∀ d ∈ ([d0, d1] : List PyData), Fit 3 3 d := fun d hd => by
    rcases List.mem_cons.mp hd with rfl | hd
    · exact f0
    · rw [List.mem_singleton.mp hd]
      exact f1
  generalize upd H2 th (.lst [v0, v1]) = H3 at hpT kT ownT3 eth
  generalize hF : (fun a => F0 a ∨ F1 a ∨ False) = F at ownT3
  have nTh' : ¬ F th := by rw [← hF]; exact nTh
  have frF' : ∀ a, F a → Hw a = none := by rw [← hF]; exact frF
  generalize hds : ([d0, d1] : List PyData) = ds at ownT3 hfit
  generalize htv : ([v0, v1] : List V) = tv at ownT3 eth
  have ltv : tv.length = 2 := by rw [← htv]; rfl
  have tv0 : tv[0]? = some v0 := by rw [← htv]; rfl
  have tv1 : tv[1]? = some v1 := by rw [← htv]; rfl
  have lds : ds.length = 2 := by rw [← hds]; rfl
  clear hF hds htv
  -- mirrors
  refine ⟨_, rfl, th, rfl, ⟨_, SqL.of eth⟩, fun mi hmi => lc_list (K := K) (a := th) (xs := tv) (fun i H' => Grow (fun _ => False) H3 mi (ds.take i) H') (Grow.start hmi) (fun i H' _ g => ?_) (fun i x H' hx g => ?_) fun H4 g => ?_⟩
  · obtain ⟨_, _, _, _, _, _, off⟩ := g
    exact SqL.of (off _ _ eth no)
  · obtain ⟨e1, E1, g1, oo, s1, _⟩ := ownT3.at_ hx
    obtain ⟨_, _, _, _, _, _, off⟩ := id g
    refine ⟨rfl, Exists.intro x ⟨rfl, x, e1, E1, 3, 3, rfl, oo.keep off (fun _ z => z.elim) (fun _ _ z => z), hfit e1 (List.mem_of_getElem? g1), by decide, by decide, fun v' F' H4 o4 f4 k4 => ?_⟩⟩
    obtain ⟨acc, a1, a2, a3⟩ := g.step hmi (fun _ z => z.elim) (fun _ z => z.elim) o4 f4 k4
    refine ⟨acc, a1, by rw [a2, List.length_take]; exact small1000 (by omega), ?_⟩
    rw [List.take_add_one, g1]
    exact a3
  have lt2 : ds.take tv.length = ds := by rw [ltv, ← lds, List.take_length]
  rw [lt2] at g
  obtain ⟨mv, M, emi, ownM, nM, frM, k4⟩ := g
  have eth4 := k4 _ _ eth no
  have ownT4 := ownT3.keep k4 (fun _ z => z.elim) fun _ _ z => z
  -- built
  refine ⟨_, rfl, _, rfl, th, _, _, _, rfl, rfl, SqL.of eth4, atI_nat (j := 0) tv0, r, v0, rfl, r0, r12, fun j x hj hx e0 x0 a1 a2 a3 => ?_⟩
  have k5 := exH_off (C := He.ga K x) (f := "value") (v := v0) a1 a2 a3
  have m5 := @exH_a H4 e0 x0 (He.ga K x) "value" v0
  have m6 := exH_d (H := H4) (C := He.ga K x) (f := "value") (v := v0) a3
  generalize exH H4 e0 x0 (He.ga K x) "value" v0 = H5 at k5 m5 m6
  refine ⟨_, rfl, _, rfl, th, _, _, _, rfl, rfl, SqL.of (k5 _ _ eth4 no), atI_nat (j := 1) tv1, r, v1, rfl, r0, r12, fun j' x' hj' hx' e1 x1 b1 b2 b3 => ⟨by show 2 ≤ sizeLine; decide, fun bu nbu => ?_⟩⟩
  have jj : j = j' := by omega
  subst jj
  rw [hx] at hx'
  cases Option.some.inj hx'
  have k6 := exH_off (C := He.ga K x) (f := "value") (v := v1) b1 b2 b3
  have m7 := @exH_a H5 e1 x1 (He.ga K x) "value" v1
  have m8 := exH_d (H := H5) (C := He.ga K x) (f := "value") (v := v1) b3
  generalize exH H5 e1 x1 (He.ga K x) "value" v1 = H6 at k6 m7 m8 nbu
  have k7 : Off (fun _ => False) H6 (upd H6 bu (.lst [.ref e0, .ref e1])) := Off.new nbu
  have k47 : Off (fun _ => False) H4 (upd H6 bu (.lst [.ref e0, .ref e1])) := (k5.trans k6).trans k7
  have k46 : Off (fun _ => False) H4 H6 := k5.trans k6
  have ebu := @upd_same H6 bu (.lst [.ref e0, .ref e1])
  have ownT6 := ownT4.keep k46 (fun _ z => z.elim) fun _ _ z => z
  have ownM6 := ownM.keep k46 (fun _ z => z.elim) fun _ _ z => z
  have nBu : ¬ (F bu ∨ M bu) := fun z => by
    rcases z with z | z
    · obtain ⟨xs, e⟩ := ownT6.dom bu z
      rw [nbu] at e
      cases e
    · obtain ⟨xs, e⟩ := ownM6.dom bu z
      rw [nbu] at e
      cases e
  generalize upd H6 bu (.lst [.ref e0, .ref e1]) = Hb at k7 k47 ebu
  have ownTb := ownT6.keep k7 (fun _ z => z.elim) fun _ _ z => z
  have ownMb := ownM6.keep k7 (fun _ z => z.elim) fun _ _ z => z
  have kb : Off (fun a => a = p) Hw Hb := kT.trans ((k4.trans k47).mono fun _ z => z.elim)
  have hpb : Pu Hb p c2 := hpT.off (k4.trans k47) no
  have base : LB K Hb wo th mi bu r x [e0, e1] tv mv F M := by
    obtain ⟨ls, hl1, hl2⟩ := hW
    obtain ⟨l, g1, g2⟩ := hl2 j x hx
    have wop : ¬ wo = p := fun z => by
      obtain ⟨ys, y⟩ := hp.lst
      rw [z, y] at nW
      cases nW
    have lp : ¬ l = p := fun z => by
      obtain ⟨u1, u2, u3, y, _⟩ := pW
      rw [z, y] at g2
      have y2 := congrArg List.length (HO.lst.inj (Option.some.inj g2))
      rw [kinds_at j x hx] at y2
      split at y2 <;> cases y2
    have outM : ∀ a o, ¬ a = p → Hw a = some o → ¬ (F a ∨ M a) := fun a o ap ea z => by
      rcases z with z | z
      · rw [frF' a z] at ea
        cases ea
      · have y := frM a z
        rw [kT _ _ ea ap] at y
        cases y
    refine ⟨ltv, ownM.length.trans lds, ⟨j, hj, hx⟩, k47 _ _ eth4 no, fun z => z.elim nTh' fun y => ?_, k47 _ _ emi no, fun z => z.elim (fun y => ?_) nM, ebu, nBu, fun i v hi => ?_, ⟨_, l, kb _ _ hl1 wop, outM _ _ wop hl1, ?_, kb _ _ g2 lp, outM _ _ lp g2⟩, fun a y z => ?_⟩
    · have e := frM th y
      rw [eth] at e
      cases e
    · obtain ⟨xs, e⟩ := ownT3.dom mi y
      rw [hmi] at e
      cases e
    · have hi2 : i < 2 := by
        have := (List.getElem?_eq_some_iff.mp hi).1
        omega
      match i, hi2 with
      | 0, _ =>
        rw [tv0] at hi
        cases Option.some.inj hi
        exact ⟨e0, x0, rfl, k7 _ _ (k6 _ _ m5 no) no, k7 _ _ (k6 _ _ m6 no) no⟩
      | 1, _ =>
        rw [tv1] at hi
        cases Option.some.inj hi
        exact ⟨e1, x1, rfl, k7 _ _ m7 no, k7 _ _ m8 no⟩
    · rw [hj]
      exact atI_nat (by rw [List.getElem?_map, g1] <;> rfl)
    · obtain ⟨xs, e⟩ := ownT3.dom a y
      rw [frM a z] at e
      cases e
  have hxn : x ∈ names := List.mem_of_getElem? hx
  have start : Sd Hb tv mv F M ds 3 := ⟨ownTb, ownMb, hfit⟩
  have pFM : ¬ (F p ∨ M p) := fun z => by
    rcases z with z | z
    · have y := frF' p z
      rw [epw] at y
      cases y
    · obtain ⟨ys, y⟩ := hpT.lst
      rw [frM p z] at y
      cases y
  have kHb : Off (fun a => a = p) H Hb := (kW.mono fun _ z => z.elim).trans kb
  have cb : c2 ≤ c + 2 * bud 3 := by omega
  have fin : ∀ H', Off (fun a => F a ∨ M a) Hb H' → Q (.bl true) H' := fun H' k => by
    refine q H' c2 (hpb.off k pFM) cb fun a o ea na => k _ _ (kHb a o ea na) fun z => ?_
    rcases z with z | z
    · have y := frF' a z
      rw [kW _ _ ea no] at y
      cases y
    · have y := frM a z
      rw [kT _ _ (kW _ _ ea no) na] at y
      cases y
  clear q kHb kb k47 k46 k7 k6 k5 k4 kT
  have er := (T.e.es.ok x hxn).err
  have xf := (T.e.es.ok x hxn).xf
  have nv := (T.e.es.ok x hxn).no
  have kK : PySem.W.kitOne K (.ref (He.ga K x)) (.ref (He.ga K "KeyTellError")) = some true := by
    have z := T.e.es.kit x hxn "KeyTellError" (by decide)
    rw [decide_eq_true (rfl : ("KeyTellError" : Str) = "KeyTellError"), Bool.or_true] at z
    exact z
  have kV := T.e.es.ve x hxn
  -- texts of data
  have rok : ∀ {H' : Hp} {v : V} {d : PyData} {G : Fp} {m n : Nat}, Ow H' v d G → Fit m n d → m ≤ 6 → n ≤ 4 → Dp K H' v d ∧ d.showable = true ∧ d.hasDict = false ∧ d.depth ≤ 60 ∧ d.shown.length ≤ sizeLine := fun o f hm hn =>
    ⟨o.dp, f.ok.sh, f.ok.nd, Nat.le_trans f.ok.dp (by omega), Nat.le_trans f.ok.sz (big_ok hm hn)⟩
  refine ⟨2, rfl, by decide, by decide, for_range (lo := 0) (n := 2) (fun t σ H' => Sg p wo th mi bu r σ ∧ ∃ ds, Sd H' tv mv F M ds (3 + t) ∧ ds.length = 2 ∧ Off (fun a => F a ∨ M a) Hb H')
    ⟨⟨none, none, none, rfl⟩, ds, start, lds, Off.refl _ _⟩ (fun t σ H' ht g => ?_) fun σ H' g => ?_⟩
  · obtain ⟨⟨w6, w7, w8, rfl⟩, ds1, sd, l2, k⟩ := g
    refine ⟨2, rfl, by decide, by decide, for_range (lo := 0) (n := 2) (fun i σ H2 => Sg p wo th mi bu r σ ∧ Sd H2 tv mv F M ds1 (3 + t) ∧ Off (fun a => F a ∨ M a) Hb H2)
      ⟨⟨_, _, _, rfl⟩, sd, k⟩ (fun i σ2 H2 hi g2 => ?_) fun σ2 H2 g2 => ?_⟩
    · obtain ⟨⟨u6, u7, u8, rfl⟩, sd2, k2⟩ := g2
      have b2 := base.off k2 start.dom
      obtain ⟨v, hv⟩ : ∃ v, tv[i]? = some v := ⟨_, List.getElem?_eq_getElem (by omega)⟩
      obtain ⟨mvi, hm⟩ : ∃ v, mv[i]? = some v := ⟨_, List.getElem?_eq_getElem (by rw [base.ml]; omega)⟩
      obtain ⟨e, dx, q1, q2, q3⟩ := b2.hes i v hv
      have hbi : atI (([e0, e1] : List Addr).map V.ref) (0 + (i : Int)) = some (.ref e) := at_0 (by rw [List.getElem?_map, q1] <;> rfl)
      refine ⟨_, rfl, _, rfl, bu, _, _, _, rfl, rfl, SqL.of b2.hbu, hbi, ?_⟩
      refine ⟨_, rfl, e, _, dx, _, _, _, true, rfl, .own _, er, q2, q3, kK, _, rfl, iteF ⟨_, rfl, e, _, dx, _, _, _, true, rfl, .ty _, er, q2, q3, kV, _, rfl, iteF ?_⟩⟩
      obtain ⟨ws, l, w1, w2, w3, w4, w5⟩ := b2.hwo
      refine ⟨_, rfl, e, dx, x, _, rfl, hxn, q2, q3, fun D H4 nD hD k4 => ?_⟩
      have ks := kinds_shaped x hxn
      refine ⟨_, rfl, _, rfl, wo, _, _, _, rfl, rfl, SqL.of (k4 _ _ w1 no), w3, .list ((kinds x).map PyData.str), .list ((kinds x).map PyData.str), .lst (SqL.of hD) (strs_dp _), .lst (SqL.of (k4 _ _ w4 no)) (strs_dp _), ks, ks, _, rfl, ?_⟩
      rw [SeqAt.eqv_refl _ (SeqAt.canLay_of_shaped ks)]
      refine iteF ?_
      have sd4 := sd2.off k4
      have b4 := b2.off (k4.mono fun _ z => z.elim) sd2.dom
      obtain ⟨di, Ei, g1, oo, s1, _⟩ := sd4.th.at_ hv
      obtain ⟨dj, Ej, g1', oo', s1', _⟩ := sd4.mr.at_ hm
      rw [g1] at g1'
      cases Option.some.inj g1'
      have fit := sd4.fit di (List.mem_of_getElem? g1)
      obtain ⟨z1, z2, z3, z4, z5⟩ := rok oo fit (by omega) (by decide)
      obtain ⟨y1, y2, y3, y4, y5⟩ := rok oo' fit (by omega) (by decide)
      refine ⟨_, rfl, e, _, dx, _, v, rfl, xf, nv, k4 _ _ q2 no, k4 _ _ q3 no, rfl, v, di, rfl, z1, z2, z3, z4, z5, _, rfl, _, rfl, mi, _, _, _, rfl, rfl, SqL.of b4.hmi, at_0 hm, mvi, di, rfl, y1, y2, y3, y4, y5, rfl, _, rfl, ?_⟩
      rw [decide_eq_true rfl]
      exact iteF ⟨⟨_, _, _, rfl⟩, sd4, k2.trans (k4.mono fun _ z => z.elim)⟩
    · obtain ⟨⟨u6, u7, u8, rfl⟩, sd2, k2⟩ := g2
      refine ⟨2, rfl, by decide, by decide, for_range (lo := 0) (n := 2) (fun i σ H5 => Sg p wo th mi bu r σ ∧ OwAll H5 tv (mixed ds1 i) F ∧ OwAll H5 mv (mixed ds1 i) M ∧ Off (fun a => F a ∨ M a) Hb H5)
        ⟨⟨_, _, _, rfl⟩, by rw [mixed_start]; exact sd2.th, by rw [mixed_start]; exact sd2.mr, k2⟩ (fun i σ3 H5 hi g3 => ?_) fun σ3 H5 g3 => ?_⟩
      · obtain ⟨⟨u9, u10, u11, rfl⟩, t3, m3, k3⟩ := g3
        have b3 := base.off k3 start.dom
        obtain ⟨v, hv⟩ : ∃ v, tv[i]? = some v := ⟨_, List.getElem?_eq_getElem (by omega)⟩
        obtain ⟨mvi, hm⟩ : ∃ v, mv[i]? = some v := ⟨_, List.getElem?_eq_getElem (by rw [base.ml]; omega)⟩
        obtain ⟨d3, E3, g1, oo, s1, fin1⟩ := t3.at_ hv
        rw [mixed_at] at g1
        have fit := sd2.fit d3 (List.mem_of_getElem? g1)
        refine ⟨_, rfl, _, rfl, th, _, _, _, rfl, rfl, SqL.of b3.hth, at_0 hv, v, d3, E3, 3 + t, 3, rfl, oo, fit, by omega, by decide, fun H6 o6 k6 => ?_⟩
        have t6 := fin1 H6 (mud d3) o6 k6
        rw [mixed_set g1] at t6
        have m6 := m3.keep k6 (fun a z => oo.dom a z) fun a z y => base.dis a (s1 a y) z
        have k36 : Off (fun a => F a ∨ M a) Hb H6 := k3.trans (k6.mono fun a z => .inl (s1 a z))
        have b6 := base.off k36 start.dom
        obtain ⟨d4, E4, g2', oo4, s4, fin4⟩ := m6.at_ hm
        rw [mixed_at, g1] at g2'
        cases Option.some.inj g2'
        refine ⟨_, rfl, _, rfl, mi, _, _, _, rfl, rfl, SqL.of b6.hmi, at_0 hm, mvi, d3, E4, 3 + t, 3, rfl, oo4, fit, by omega, by decide, fun H7 o7 k7 => ?_⟩
        have m7 := fin4 H7 (mud d3) o7 k7
        rw [mixed_set g1] at m7
        have t7 := t6.keep k7 (fun a z => oo4.dom a z) fun a z y => base.dis a z (s4 a y)
        exact ⟨⟨_, _, _, rfl⟩, t7, m7, k36.trans (k7.mono fun a z => .inr (s4 a z))⟩
      · obtain ⟨⟨u9, u10, u11, rfl⟩, t3, m3, k3⟩ := g3
        have me := mixed_end ds1
        rw [l2] at me
        rw [me] at t3 m3
        refine ⟨⟨_, _, _, rfl⟩, mudAll ds1, ⟨t3, m3, fun d hd => ?_⟩, by rw [mudAll_map, List.length_map]; exact l2, k3⟩
        rw [mudAll_map] at hd
        obtain ⟨d0', hd0, rfl⟩ := List.mem_map.mp hd
        exact (sd2.fit d0' hd0).mud
  · obtain ⟨⟨w6, w7, w8, rfl⟩, ds1, sd, l2, k⟩ := g
    have b := base.off k start.dom
    refine ⟨_, rfl, bu, rfl, ⟨_, SqL.of b.hbu⟩, fun D hD => lc_list (K := K) (a := bu) (xs := ([e0, e1] : List Addr).map V.ref) (fun i H5 => H5 D = some (.lst (tv.take i)) ∧ Off (fun _ => False) H' H5) ⟨upd_same, Off.new hD⟩
      (fun i H5 _ g => SqL.of (g.2 _ _ b.hbu no)) (fun i y H5 hy g => ?_) fun H5 g => ?_⟩
    · have hi : i < 2 := (List.getElem?_eq_some_iff.mp hy).1
      obtain ⟨v, hv⟩ : ∃ v, tv[i]? = some v := ⟨_, List.getElem?_eq_getElem (by omega)⟩
      obtain ⟨e, dx, q1, q2, q3⟩ := b.hes i v hv
      rw [List.getElem?_map, q1] at hy
      cases Option.some.inj hy
      obtain ⟨g1, g2⟩ := g
      refine ⟨rfl, Exists.intro _ ⟨rfl, e, _, dx, _, v, rfl, xf, nv, g2 _ _ q2 no, g2 _ _ q3 no, rfl, _, g1, by rw [List.length_take]; exact small1000 (by omega), ?_, ?_⟩⟩
      · rw [upd_same, List.take_add_one, hv]
        rfl
      · intro a o ea na
        rw [upd_ne (ne_of_none ea hD)]
        exact g2 a o ea na
    · obtain ⟨g1, g2⟩ := g
      have tl : ([e0, e1] : List Addr).map V.ref = [V.ref e0, V.ref e1] := rfl
      rw [tl, show ([V.ref e0, V.ref e1] : List V).length = tv.length from ltv.symm, List.take_length] at g1
      have sd5 := sd.off g2
      have fl : Fit 5 4 (.list ds1) := ⟨by omega, sd.fit⟩
      have b5 := fl.ok
      have b6 := big_ok (m := 5) (n := 4) (by decide) (by decide)
      refine ⟨.ref D, .list ds1, rfl, .lst (SqL.of g1) sd5.th.dp, b5.sh, b5.nd, Nat.le_trans b5.dp (by decide), Nat.le_trans b5.sz b6, _, rfl,
        .ref mi, .list ds1, rfl, .lst (SqL.of (g2 _ _ b.hmi no)) sd5.mr.dp, b5.sh, b5.nd, Nat.le_trans b5.dp (by decide), Nat.le_trans b5.sz b6, rfl, ?_⟩
      rw [decide_eq_true rfl]
      exact fin H5 (k.trans (g2.mono fun _ z => z.elim))
end
end K01
set_option Elab.async false
set_option linter.all false
set_option maxRecDepth 100000
set_option maxHeartbeats 4000000
namespace K01
open PySem PySem.Spec PyProof.Rows L2 KV
def spLaw (K : PySem.W.Frag) : Sp := fun vs H Q _ => ∃ (a : Addr) (ns : List Int), vs = [.ref a] ∧ SqL K H a (ns.map V.int) ∧ ∀ H', Q (.bl true) H'
theorem sq_off {K : PySem.W.Frag} {H H' : Hp} {a : Addr} {xs : List V} (k : Off (fun _ => False) H H') (h : SqL K H a xs) : SqL K H' a xs := by
  rcases h with (h | ⟨o, h⟩) | h
  · exact .inl (.inl (k _ _ h fun z => z))
  · exact .inl (.inr ⟨o, k _ _ h fun z => z⟩)
  · exact .inr h
section
variable {P : Program} {w : World} {K : PySem.W.Frag} {mg : Str → Option Value} {base : Heap}
theorem scLaw : FnScope ["script", "spot", "purse", "rank"] ["script"] (defScope sLaw) := ⟨rfl, rfl, rfl, by decide +kernel, rfl, by decide +kernel, by decide +kernel⟩
theorem ok_law {f fP fR : Addr} {fd dP dR : FuncData} (F : FnP K "law" sLaw f fd) (GP : FnOk P w K mg base CX0 1 fP dP ["script", "place"] (spPurse K)) (bP : Binds K dP ["script", "place"] []) (mP : mg "_law_purse" = some (.ref fP)) (kP : PySem.W.keepIn K (.ref fP) = true)
    (GR : FnC P w K mg base CX0 6 fR dR ["purse", "rank"] spRight) (bR : Binds K dR ["purse", "rank"] []) (mR : mg "_law_class_right" = some (.ref fR)) (kR : PySem.W.keepIn K (.ref fR) = true)
    (mr : mg "range" = none) (mM : mg "max" = none) (mm : mg "min" = none) (ml : mg "len" = none) : FnC P w K mg base CX0 7 f fd ["script"] (spLaw K) := by
  refine Fun.okC F scLaw (fun vs H Q E h => ?_) (fun cdv A outer s H vs Q E hG hr h => ?_)
  · obtain ⟨a, ns, rfl, _⟩ := h
    rfl
  obtain ⟨a, ns, rfl, hS, q⟩ := h
  have hr1 : Room 1 _ := hr.mono (by decide)
  refine ⟨_, PSs.nox (pss_cons (ps_for PassesOwn.never rfl (pi_range1 rfl mr (pa_cons (pe_callB (call_max2 rfl) rfl mM boot_max (pa_cons pe_int (pa_cons (pe_callB (call_min2 rfl) rfl mm (by decide +kernel) (pa_cons pe_int (pa_cons (pe_callB call_len_seq rfl ml boot_len (pa_cons (pv 0) pa_nil)) pa_nil))) pa_nil))) pa_nil))
      (pg_name (i := 1) scLaw.nd rfl (Or.inl rfl))
      (pss_cons (ps_set (i := 2) scLaw.nd rfl (Or.inl rfl) (pe_call GP hr1 rfl mP kP bP .nil pass0 (pa_cons (pv 0) (pa_cons (pv 1) pa_nil))))
      (pss_one (ps_for PassesOwn.never rfl (pi_range1 rfl mr (pa_cons pe_int pa_nil)) (pg_name (i := 3) scLaw.nd rfl (Or.inl rfl))
        (pss_one (ps_if (pt_not (pt_val (pe_callC hG GR hr rfl mR kR bR pass0 (pa_cons (pv 2) (pa_cons (pv 3) pa_nil))))) (pss_one (ps_ret pe_bl)) pss_nil))))))
    (pss_one (ps_ret pe_bl))), ?_⟩
  have no : ¬ False := fun z => z
  have hl : (ns.map V.int).length = ns.length := List.length_map _
  have b3 : bud 3 = 480 := rfl
  have hb : ∀ L : Nat, (-(2 ^ 62) ≤ (if (if (L : Int) < 6 then (L : Int) else 6) > 1 then (if (L : Int) < 6 then (L : Int) else 6) else 1)) ∧ (if (if (L : Int) < 6 then (L : Int) else 6) > 1 then (if (L : Int) < 6 then (L : Int) else 6) else 1) ≤ 6 := by
    intro L
    split <;> split <;> omega
  obtain ⟨h1, h2⟩ := hb (ns.map V.int).length
  refine ⟨_, rfl, a, _, rfl, .inl hS, _, _, rfl, _, _, rfl, _, rfl, h1, by omega, for_range (lo := 0) (fun i σ H' => (∃ x y z, σ = [some (.ref a), x, y, z]) ∧ Off (fun _ => False) H H') ⟨⟨_, _, _, rfl⟩, Off.refl _ _⟩ (fun i σ H' hi g => ?_) fun σ H' g => ?_⟩
  · obtain ⟨⟨x, y, z, rfl⟩, k⟩ := g
    refine ⟨_, rfl, _, rfl, a, ns, 0 + (i : Int), rfl, sq_off k hS, by omega, by omega, fun p np H1 hp1 k1 => ?_⟩
    have k01 : Off (fun _ => False) H H1 := fun b o e n => by
      have e' := k b o e n
      rw [k1 b (ne_of_none e' np)]
      exact e'
    have np0 : H p = none := k.none np no
    refine ⟨12, rfl, by decide, by decide, for_range (lo := 0) (n := 12) (fun t σ H2 => (∃ y w, σ = [some (.ref a), y, some (.ref p), w]) ∧ (∃ c, Pu H2 p c ∧ c ≤ t * 960) ∧ Off (fun _ => False) H H2) ⟨⟨_, _, rfl⟩, ⟨0, hp1, by omega⟩, k01⟩ (fun t σ H2 ht g => ?_) fun σ H2 g => ?_⟩
    · obtain ⟨⟨y, w', rfl⟩, ⟨c, hp2, hc⟩, k2⟩ := g
      refine ⟨_, rfl, _, rfl, p, 0 + (t : Int), c, rfl, by omega, by omega, hp2, by omega, fun H3 c3 hp3 hc3 k3 => ⟨_, rfl, iteF ⟨⟨_, _, rfl⟩, ⟨c3, hp3, ?_⟩, ?_⟩⟩⟩
      · rw [b3] at hc3
        rw [Nat.add_mul]
        omega
      · intro b o e n
        exact k3 _ _ (k2 _ _ e n) fun y => by
          rw [y, np0] at e
          cases e
    · obtain ⟨⟨y, w', rfl⟩, _, k2⟩ := g
      exact ⟨⟨_, _, _, rfl⟩, k2⟩
  · exact q H'
end
/-! ### the end -/
section
variable {P : Program} {w : World} {K : PySem.W.Frag} {h : Heap} {mg : Str → Option Value}
theorem facts {f : Addr} (X : K.In h) (G : h.Ns mainGlobals mg) (hfa : mg ("law" : Str) = some (.ref f)) (c : He.SaysD fa fn K) (cx : ex K = true) :
    ∃ fd : FuncData, (∀ (s : Shared) (v : Value), BindsTo s fd ⟨[v], []⟩ [("script", v)]) ∧ ∀ base : Heap, K.In base → base.Ns mainGlobals mg → FnC P w K mg base CX0 7 f fd ["script"] (spLaw K) := by
  have es := errsB_ok cx
  have gl : ∀ x ∈ names, mg x = some (.ref (He.ga K x)) := fun x hx => He.glo_ok X G (c.facts (List.mem_append_left _ (List.mem_append_left _ (List.mem_map_of_mem hx))))
  have gf : ∀ x ∈ fnNames, mg x = some (.ref (He.ga K x)) := fun x hx => He.glo_ok X G (c.facts (List.mem_append_left _ (List.mem_append_right _ (List.mem_map_of_mem hx))))
  have gb : ∀ x ∈ bltNames, mg x = none := fun x hx => He.free_ok X G (c.facts (List.mem_append_right _ (List.mem_map_of_mem hx)))
  obtain ⟨dI, FI⟩ := c.def_ 0 (d := dI) rfl
  obtain ⟨dP, FP⟩ := c.def_ 1 (d := dD "_law_purse" sPurse) rfl
  obtain ⟨dC, FC⟩ := c.def_ 2 (d := dD "_law_coin" sCoin) rfl
  obtain ⟨dCo, FCo⟩ := c.def_ 3 (d := dD "_law_copied" sCopied) rfl
  obtain ⟨dM, FM⟩ := c.def_ 4 (d := dD "_law_muddle" sMuddle) rfl
  obtain ⟨dK, FK⟩ := c.def_ 5 (d := dD "_law_kinds" sKinds) rfl
  obtain ⟨dT, FT⟩ := c.def_ 6 (d := dD "_law_thing" sThing) rfl
  obtain ⟨dMa, FMa⟩ := c.def_ 7 (d := dD "_law_made" sMade) rfl
  obtain ⟨dNa, FNa⟩ := c.def_ 8 (d := dD "_law_named" sNamed) rfl
  obtain ⟨dR, FR⟩ := c.def_ 9 (d := dD "_law_class_right" sRight) rfl
  obtain ⟨dL, FL⟩ := c.def_ 10 (d := dD "law" sLaw) rfl
  have e := hfa.symm.trans (gf "law" (by decide))
  cases e
  have bI : Binds K dI ["self", "value"] [] := FI.bindsN fun _ _ _ _ _ _ us hl => match us, hl with | [_, _], _ => rfl
  have bP : Binds K dP ["script", "place"] [] := FP.bindsN fun _ _ _ _ _ _ us hl => match us, hl with | [_, _], _ => rfl
  have bC : Binds K dC ["purse", "many"] [] := FC.bindsN fun _ _ _ _ _ _ us hl => match us, hl with | [_, _], _ => rfl
  have bCo : Binds K dCo ["thing"] [] := FCo.bindsN fun _ _ _ _ _ _ us hl => match us, hl with | [_], _ => rfl
  have bM : Binds K dM ["thing"] [] := FM.bindsN fun _ _ _ _ _ _ us hl => match us, hl with | [_], _ => rfl
  have bK : Binds K dK ["caught"] [] := FK.bindsN fun _ _ _ _ _ _ us hl => match us, hl with | [_], _ => rfl
  have bT : Binds K dT ["purse", "deep"] [] := FT.bindsN fun _ _ _ _ _ _ us hl => match us, hl with | [_, _], _ => rfl
  have bMa : Binds K dMa ["rank", "thing"] [] := FMa.bindsN fun _ _ _ _ _ _ us hl => match us, hl with | [_, _], _ => rfl
  have bNa : Binds K dNa ["rank", "thing"] [] := FNa.bindsN fun _ _ _ _ _ _ us hl => match us, hl with | [_, _], _ => rfl
  have bR : Binds K dR ["purse", "rank"] [] := FR.bindsN fun _ _ _ _ _ _ us hl => match us, hl with | [_, _], _ => rfl
  have bL := FunD.bindsA (ps := ["script"]) FL fun _ _ _ _ _ _ us hl => match us, hl with | [_], _ => rfl
  have bk : ∀ (s : Shared) (a u : Value), BindsTo s dI ⟨[a], [("value", u)]⟩ [("self", a), ("value", u)] := by
    obtain ⟨oc, od, dV, kV, doc, pm, an, cdv, ct, osl, rfl, lk, hcd, hD, hK⟩ := FI.ex
    rcases hD with ⟨_, rfl⟩ | ⟨e, _⟩
    · intro s a u
      exact .of_eq (by rfl)
    · exact absurd rfl e
  refine ⟨dL, fun s v => bL s [v] rfl, fun base _ _ => ?_⟩
  have T : ErrT P w K mg base dI := ⟨es, gl, ok_init FI, bI, bk⟩
  have mi := gb "int" (by decide)
  have mis := gb "isinstance" (by decide)
  have ml := gb "list" (by decide)
  have mt := gb "tuple" (by decide)
  have mr := gb "range" (by decide)
  have R : RT P w K mg base _ _ _ _ _ _ dT dCo dM dMa dNa dK dI :=
    { e := T, gT := ok_thing FT bT (gf "_law_thing" (by decide)) FC bC (gf "_law_coin" (by decide)) mi mt mr 4, bT := bT, mT := gf "_law_thing" (by decide), kT := FT.kp,
      gC := ok_copied FCo bCo (gf "_law_copied" (by decide)) mis ml mt 4, bC := bCo, mC := gf "_law_copied" (by decide), kC := FCo.kp,
      gM := ok_muddle FM bM (gf "_law_muddle" (by decide)) mis ml mt 4, bM := bM, mM := gf "_law_muddle" (by decide), kM := FM.kp,
      gMa := ok_made FMa T, bMa := bMa, mMa := gf "_law_made" (by decide), kMa := FMa.kp,
      gNa := ok_named FNa T, bNa := bNa, mNa := gf "_law_named" (by decide), kNa := FNa.kp,
      gK := ok_kinds FK T mis (gb "zip" (by decide)), bK := bK, mK := gf "_law_kinds" (by decide), kK := FK.kp,
      mr := mr, mi := mis, mv := gb "ValueError" (by decide), mp := gb "repr" (by decide) }
  exact ok_law FL (ok_purse FP (gb "len" (by decide)) (gb "max" (by decide)) (gb "abs" (by decide)) mi) bP (gf "_law_purse" (by decide)) FP.kp
    (ok_right FR R) bR (gf "_law_class_right" (by decide)) FR.kp mr (gb "max" (by decide)) (gb "min" (by decide)) (gb "len" (by decide))
end
end K01
open PySem PySem.W PySem.Calls PyProof.Rows
set_option maxRecDepth 100000 in
set_option maxHeartbeats 0 in
theorem PySem.Challenge.cw_keysthrough_k01_errors_holds : PySem.Challenge.rw_keysthrough_k01_errors.Holds := by
  w_on; o_law
  refine HandSHeadRun.head_any (r := OpenLaw.row PySem.Challenge.rw_keysthrough_k01_errors) (q := view (OpenLaw.row PySem.Challenge.rw_keysthrough_k01_errors).prog [23]) (H := K01.hk) (ob := K01.ob) (M := 4000) (loose := K01.loose)
    (d := HandSHeadRun.topDef (OpenLaw.row PySem.Challenge.rw_keysthrough_k01_errors).prog 23) (kwd := []) K01.ob_eq
    (by kernel_rfl) (fun s => by kernel_rfl) K01.run (by kernel_rfl) (by kernel_rfl) (by kernel_rfl) (by rfl) (by first | assumption | decide +kernel) (by decide +kernel) ⟨rfl, rfl, rfl, rfl, rfl, by decide +kernel⟩ ?hw ?hc
  case hw => w_witness2
  case hc =>
    refine KV.walk_ofC (l := PySem.Challenge.rw_keysthrough_k01_errors) (n := 63) (k := 7) (x := "script") (CX := L2.CX0) rfl (by decide) (by kernel_rfl) ⟨rfl, by decide, by decide⟩ ?F (fun _ _ _ _ z => z)
    intro w mg fa h Y G hmg0
    obtain ⟨K, KX, c⟩ := Y
    have hmg : mg ("law" : PySem.Str) = some (.ref fa) := by
      have e : (HandSHeadRun.topDef (OpenLaw.row PySem.Challenge.rw_keysthrough_k01_errors).prog 23).name = ("law" : PySem.Str) := by kernel_rfl
      rw [← e]
      exact hmg0
    obtain ⟨fd, hb, hF⟩ := K01.facts (P := (PySem.Challenge.rw_keysthrough_k01_errors).prog) (w := w) KX G hmg c.t.d c.more
    exact ⟨K, fd, K01.spLaw K, KX, hb, fun H a ns hl _ hS => ⟨a, ns, rfl, hS, fun _ => rfl⟩, hF⟩
