import PyProof.Rows.All
import Wide.All
import OpenK.AllK
import Wide.FinOn
import PyProof.ReprReads
import PyProof.ReprRoads
import PyProof.StrOps2
import HandS.ForMost
import HandS.Walk
import HandS.Style
import HandS.TupAny
import HandS.EndBits
import HandS.IsInst
import HandS.Gcd
import HandS.Wide
import HandS.Zip
import HandS.ForExc
import HandS.ExcInit
import KE.KExcIs
import HandS.ExcIs
import HandS.ExcField
import HandS.Deep
import HandS.FStrTup
import KE.GoesEnum
import HandS.Iter
import HandS.Dict
import HandS.SetKeys
import PyProof.DictMoreH
import KE.KDictWalk
import HandS.SetFor
import HandS.Strs
import HandS.Conv
import HandS.TupMul
import PySem.Challenge.RW_centsatonce_k14_whole_reckonings_and_the
set_option Elab.async false
set_option linter.all false
set_option maxRecDepth 100000
set_option maxHeartbeats 8000000
set_option exponentiation.threshold 10000
namespace VG
open PySem PySem.Spec PyProof.Rows L2
structure FnG (P : Program) (w : World) (K : PySem.W.Frag) (mg : Str → Option Value) (base : Heap) (k : Nat) (f : Addr) (fd : FuncData) (ps : List Str) (sp : Sp) : Prop where
  len : ∀ vs H Q E, sp vs H Q E → vs.length = ps.length
  run : ∀ (A : Around) (outer : List Env) (s : Shared) (H : Hp) (args : Args) (us : List Value) (vs : List V) (Q : VK) (E : XK),
    A.guards = some [] → Room k A → Env0 P w K mg base A outer s H → BindsTo s fd args (ps.zip us) → Vals vs us → sp vs H Q E →
    codeAny (model P w) A (.call (.ref f) args) (CR CX0 outer P w H s Q E) s
section
variable {P : Program} {w : World} {K : PySem.W.Frag} {mg : Str → Option Value} {base : Heap}
theorem fnG_of {k : Nat} {f : Addr} {x qual : Str} {st : Stmt} {fd : FuncData} {N ps : List Str} {sp : Sp} (F : Fun K x qual st f fd) (S : FnScope N ps (defScope st))
    (hlen : ∀ vs H Q E, sp vs H Q E → vs.length = ps.length)
    (hb : ∀ (cdv : Value) (A : Around) (outer : List Env) (s : Shared) (H : Hp) (vs : List V) (Q : VK) (E : XK), A.guards = some [] →
      Room k (A.deeper (envOfC qual (defScope st) s.heap.objs.size f cdv)) → sp vs H Q E →
      ∃ t, PSs (cxOf CX0 P w K mg base N qual (defScope st) f cdv A outer s H E).nox (defBody st) t ∧ t { nx := fun _ H' => Q .non H', rt := Q } (start N vs) H) :
    FnG P w K mg base (k + 1) f fd ps sp := by
  obtain ⟨oc, od, kV, doc, pm, an, cdv, ct, osl, rfl, lk, hcd⟩ := F.ex
  constructor
  · exact hlen
  · intro A outer s H args us vs Q E hg hr e0 hbi r hsp
    have nl := hlen _ _ _ _ hsp
    have inK : K.In s.heap := e0.mod.kin.keeps fun b o z => (e0.bs b o z).1
    have noL : s.heap.NoLimit := e0.mod.nolimit.keeps fun b o z => (e0.bs b o z).1
    have kinds : ∀ y ∈ ps.zip us, (defScope st).names.lookup y.1 = some .local ∨
        ((defScope st).names.lookup y.1 = some .cell ∧ ((cellsFrom (s.heap.objs.size + 1) (defScope st).names []).lookup y.1).isSome = true) := by
      intro y hy
      obtain ⟨n, v⟩ := y
      cases S.par n (List.of_mem_zip hy).1 with
      | inl q => exact Or.inl q
      | inr q => exact Or.inr ⟨q, PySem.W.cellsFrom_some _ _ _ (.inl q)⟩
    apply codeAny_call_function hr.depth (inK _ _ lk) rfl S.co S.gen rfl (PySem.W.codeRec_of inK hcd) (hbi _ _ _ _ _)
    apply wpAny_newFunctionEnv_cells S.kind kinds
    intro env he s1 xx
    subst he
    refine And.intro (noL.keeps xx.toInCall.keep) (codeAny_func ?_)
    obtain ⟨t, ht, hq⟩ := hb cdv A outer s H vs Q E hg (hr.deeper _) hsp
    have I := inv_start (CX := CX0) (P := P) (w := w) (E := E) S hr.hd e0 nl r xx
    apply wpAny_mono (ht.nox.run [] s1 (start N vs) H _ I hq)
    · intro fl s' hs
      cases fl with
      | ret u =>
        obtain ⟨v, σ', H', J, rv, q⟩ := hs
        exact ⟨v, H', J.os, J.bare, J.base, J.hok, rv, q⟩
      | next =>
        obtain ⟨σ', H', J, q⟩ := hs
        exact ⟨V.non, H', J.os, J.bare, J.base, J.hok, rfl, q⟩
      | brk =>
        obtain ⟨_, _, _, q⟩ := hs
        exact False.elim q
      | cont =>
        obtain ⟨_, _, _, q⟩ := hs
        exact False.elim q
    · intro e s' hs
      exact hs
end
theorem law_callG {P : Program} {w : World} {K : PySem.W.Frag} {mg mb : Str → Option Value} {k : Nat} {fa a : Addr} {fd : FuncData} {x : Str} {sp : Sp} {s₁ : Shared} {vs : List Value} {ns : List Int}
    (KX : K.In s₁.heap) (hns : s₁.heap.Ns mainGlobals mg) (hb : s₁.heap.Ns builtinsNs mb) (hbb : ∀ x : Str, x ≠ "__name__" → mb x = bootBuiltins x) (hlim : s₁.heap.NoLimit) (hg : s₁.gens = #[])
    (ha : s₁.heap.get? a = some { cls := .type "list", data := .seq vs.toArray }) (hi : IntsAre vs ns) (hl : ns.length ≤ sizeLine) (hr : Room k callerA)
    (F : ∀ base : Heap, K.In base → base.Ns mainGlobals mg → FnG P w K mg base k fa fd [x] sp) (hbind : ∀ (s : Shared) (u : Value), BindsTo s fd ⟨[u], []⟩ [(x, u)])
    (hsp : ∀ H : Hp, Only H → SqL K H a (ns.map V.int) → sp [.ref a] H (fun v _ => v = .bl true) fun _ _ _ => False) :
    codeAny (model P w) callerA (.call (.ref fa) ⟨[.ref a], []⟩) (fun r s' => r = .ok (.ret (.bool true)) ∧ OldK s₁.heap s'.heap ∧ s'.os = s₁.os ∧ AllBare s'.gens) s₁ := by
  have rv := vals_ints hi
  have nV := hi.length
  have main : ∀ H : Hp, Only H → SqL K H a (ns.map V.int) → HOk P w H s₁.heap → (∀ b, H b ≠ none → b = a) → (H a ≠ none → K.lookup a = none) →
      codeAny (model P w) callerA (.call (.ref fa) ⟨[.ref a], []⟩) (fun r s' => r = .ok (.ret (.bool true)) ∧ OldK s₁.heap s'.heap ∧ s'.os = s₁.os ∧ AllBare s'.gens) s₁ := by
    intro H hO hS hok hA hK
    have only : ∀ {b : Addr}, b ≠ a → H b = none := by
      intro b hne
      cases q : H b with
      | none => rfl
      | some u => exact absurd (hA b (by rw [q]; exact Option.some_ne_none u)) hne
    have nsK : ∀ {b : Addr} {m : Str → Option Value}, s₁.heap.Ns b m → (hidT s₁.heap H).Ns b m := by
      intro b m z
      obtain ⟨o, es, ep, e, d, r⟩ := z
      refine ⟨o, es, ep, hidT_get e (only ?_), d, r⟩
      intro z
      subst z
      rw [ha] at e
      cases e
      cases d
    have inB : K.In (hidT s₁.heap H) := by
      intro b o e
      refine hidT_get (KX b o e) ?_
      cases q : H b with
      | none => rfl
      | some u =>
        have hb2 : b = a := hA b (by rw [q]; exact Option.some_ne_none u)
        subst hb2
        have := hK (by rw [q]; exact Option.some_ne_none u)
        rw [this] at e
        cases e
    have hM : Mod K mg (hidT s₁.heap H) := ⟨inB, nsK hns, ⟨mb, nsK hb, hbb⟩, by
      obtain ⟨mc, h1, h2⟩ := hlim
      exact ⟨mc, nsK h1, h2⟩⟩
    have e0 : Env0 P w K mg (hidT s₁.heap H) callerA [] s₁ H :=
      ⟨rfl, hM, fun b o e => of_hidT e, Nat.le_of_eq (hidT_size _ _), trivial, fun b hb => absurd (show b ∈ ([] : List Addr) from hb) List.not_mem_nil, hok, .of_eq hg⟩
    have run := (F _ inB (nsK hns)).run callerA [] s₁ H ⟨[.ref a], []⟩ [.ref a] [.ref a] _ _ rfl hr e0 (hbind s₁ (.ref a)) (.cons rfl .nil) (hsp H hO hS)
    apply codeAny_mono run
    intro r s' h
    match r, h with
    | .ok (.ret u), h =>
      obtain ⟨v, H', os, bare, un, hok', r', q⟩ := h
      have q' : v = .bl true := q
      subst q'
      have r2 : u = Value.bool true := r'
      subst r2
      refine ⟨rfl, OldK.of_keep ?_, os, bare⟩
      intro b o e
      cases q : H b with
      | none => exact un.keep b o e q (fun z => absurd (show b ∈ ([] : List Addr) from z) List.not_mem_nil) List.not_mem_nil
      | some u =>
        rcases hO b with z | ⟨ob, xs, z⟩
        · rw [q] at z
          cases z
        · have z2 := un.frzs b ob _ z
          have w1 := (hok b _ z).1
          have w2 := (hok' b _ z2).1
          rw [e] at w1
          cases w1
          exact w2
  cases hk : K.lookup a with
  | some o =>
    have e := KX a o hk
    rw [ha] at e
    cases e
    refine main (fun _ => none) (fun _ => .inl rfl) (.inr ⟨_, vs.toArray, _, hk, rfl, rfl, rfl, ?_, ?_⟩) (fun b u z => ?_) (fun b z => absurd rfl z) (fun z => absurd rfl z)
    · rw [List.size_toArray, nV]
      exact hl
    · simpa using rv
    · exact absurd (show (none : Option HO) = some u from z) (Option.some_ne_none u).symm
  | none =>
    refine main (fun b => if b = a then some (.frz { cls := .type "list", data := .seq vs.toArray } (.lst (ns.map V.int))) else none) ?_ (.inl (.inr ⟨{ cls := .type "list", data := .seq vs.toArray }, if_pos rfl⟩)) ?_ ?_ (fun _ => hk)
    · intro b
      by_cases hb : b = a
      · exact .inr ⟨_, _, if_pos hb⟩
      · exact .inl (if_neg hb)
    · intro b u z
      by_cases hb : b = a
      · subst hb
        have z' := (if_pos rfl).symm.trans z
        cases z'
        refine ⟨ha, ?_, vs, _, rv, ha⟩
        rw [List.length_map]
        exact hl
      · have z' := (if_neg hb).symm.trans z
        cases z'
    · intro b z
      by_cases hb : b = a
      · exact hb
      · exact absurd (if_neg hb) z
theorem walk_G {l : PySem.W.OpenLaw} {n k : Nat} {q : Program} {loose : List Str} {XP : (Str → Option Value) → Heap → Prop} {YP : World → Heap → Prop} {d : DefRec} {K : Params → PySem.W.Frag} {sp : World → Sp} {x : Str}
    (hn : l.most = some n) (hn2 : n ≤ sizeLine) (hdf : d.params.defaults = []) (hr : Room k callerA)
    (hY : ∀ (w : World) (h : Heap), YP w h → (K w.params).In h)
    (F : ∀ (w : World) (mg : Str → Option Value) (fa : Addr) (h : Heap), (K w.params).In h → h.Ns mainGlobals mg → mg d.name = some (.ref fa) →
      ∃ fd : FuncData, (∀ (s : Shared) (u : Value), BindsTo s fd ⟨[u], []⟩ [(x, u)]) ∧
        ∀ base : Heap, (K w.params).In base → base.Ns mainGlobals mg → FnG l.prog w (K w.params) mg base k fa fd [x] (sp w))
    (hsp : ∀ (w : World) (H : Hp) (a : Addr) (ns : List Int), ns.length ≤ n → (∀ z ∈ ns, Builtin.Int.intBits z ≤ 1048576) → Only H → SqL (K w.params) H a (ns.map V.int) → sp w [.ref a] H (fun v _ => v = .bl true) fun _ _ _ => False) :
    PySem.W.WalkO q loose XP YP l.row.toRowW d [] (fun f vs => PySem.call f vs) := by
  apply Att.attach_callB hn hdf
  intro w s₀ s₁ mg mb fa o pm cd doc a vs ns G Y ho hd hcd hmg hobj hints hlen hbits hg
  have KX := hY w _ Y
  obtain ⟨fd, hb, hF⟩ := F w mg fa _ KX G.T.g hmg
  exact law_callG KX G.T.g G.T.b G.T.builtins G.T.nolimit hg hobj hints (Nat.le_trans hlen hn2) hr hF hb fun H hO hS => hsp w H a ns hlen hbits hO hS
end VG
namespace VG
open PySem PySem.Spec PyProof.Rows L2
section
variable {X : Cx} {st : Stmt} {rest : List Stmt} {t u : TS}
def tCut (t u : TS) : TS := fun D σ H => ∃ J : L2.St → Hp → Prop, t { D with nx := J } σ H ∧ ∀ σ' H', J σ' H' → u D σ' H'
theorem pss_cut (h1 : PS X st t) (h2 : PSs X rest u) : PSs X (st :: rest) (tCut t u) := by
  constructor
  intro pins s σ H D I h
  obtain ⟨J, a, b⟩ := h
  apply wpAny_execs_cons
  apply thn (h1.run pins s σ H { D with nx := J } I a)
  intro f s1 q
  cases f with
  | next =>
    obtain ⟨σ', H', I', q⟩ := q
    exact h2.run pins s1 σ' H' D I' (b σ' H' q)
  | ret v => exact q
  | brk => exact q
  | cont => exact q
end
section
variable {X : Cx} {e : Expr} {c : TT} {te : TE}
def tMeetE (te : TE) : TE := fun σ H Q => ∃ J : V → Hp → Prop, te σ H J ∧ ∀ v H', J v H' → Q v H'
theorem pe_meet (h : PE X e te) : PE X e (tMeetE te) := by
  constructor
  intro pins s σ H Q I hh
  obtain ⟨J, a, b⟩ := hh
  apply thn (h.run pins s σ H J I a)
  intro d s1 q
  obtain ⟨v, H', I', r, q⟩ := q
  exact ⟨v, H', I', r, b _ _ q⟩
end
structure Cl (P : Program) (w : World) (K : PySem.W.Frag) (mg : Str → Option Value) (base : Heap) (k : Nat) (x : Str) (sp : Sp) : Prop where
  ex : ∃ (f : Addr) (fd : FuncData) (ps : List Str), FnOk P w K mg base CX0 k f fd ps sp ∧ mg x = some (.ref f) ∧ PySem.W.keepIn K (.ref f) = true ∧ Binds K fd ps []
section
variable {X : Cx} {k j : Nat} {x : Str} {sp : Sp} {p pos : Pos} {e : Expr} {es : List Expr} {t : TA}
theorem pe_cl (c : Cl X.prog X.w X.K X.mg X.base k x sp) (hr : Room j X.A) (hk : k ≤ j) (hg : Gl X x) (ha : PA X (e :: es) t)
    (h1 : (x == ("__debug__" : Str)) = false := by decide) (h2 : starEach (e :: es) X.env = (false, eval e X.env) :: starEach es X.env := by rfl)
    (h3 : (backTo pos (starEach es X.env)).any (·.1) = false := by rfl) : PE X (.Call (.Name x p) (e :: es) [] pos) (tCall sp [] E0 t) :=
  let ⟨_, _, _, F, m, kp, b⟩ := c.ex
  pe_call F (hr.mono hk) hg m kp b .nil pass0 ha h1 h2 h3
/-- a module's name that holds a text -/
theorem pe_gs {z : Str} (hg : Gl X x) (h : ∃ u, X.mg x = some (.str z u)) (h1 : (x == ("__debug__" : Str)) = false := by decide) :
    PE X (.Name x pos) (tC (.str z)) := by
  obtain ⟨u, m⟩ := h
  exact pe_glob (v := .str z) hg m ⟨u, rfl⟩ h1
/-- repr of data, where no repr is under way -/
def rRepr (K : PySem.W.Frag) : List V → Hp → VK → Prop := fun xs H Q =>
  ∃ a d, xs = [.ref a] ∧ Dp K H (.ref a) d ∧ d.showable = true ∧ d.hasDict = false ∧ d.depth ≤ 60 ∧ d.shown.length ≤ sizeLine ∧ Q (.str d.shown) H
theorem cr_repr (hg : X.A.guards = some []) (hu : X.A.units + 64 < cLine) : CallR X (.builtin "repr") (rRepr X.K) := by
  intro pins s σ H vs us Q I r h
  obtain ⟨a, d, rfl, hd, h1, h2, h3, h4, q⟩ := h
  rw [Vals.ref1 r]
  obtain ⟨as, rd⟩ := Dp.reads I d (.ref a) (.ref a) hd rfl
  refine repr_of_reads' rd h1 (PyData.noDict_hsm h2) hg (by omega) (fun _ _ z => z) (fun h' u tk hk => ?_) h4
  exact ⟨.str d.shown, H, I.kept hk, ⟨u, rfl⟩, q⟩
end
end VG
namespace VG
open PySem PySem.Spec PyProof.Rows L2
structure ClK (P : Program) (w : World) (K : PySem.W.Frag) (mg : Str → Option Value) (base : Heap) (k : Nat) (x : Str) (ks : List Str) (sp : Sp) : Prop where
  ex : ∃ (f : Addr) (fd : FuncData) (ps : List Str), FnOk P w K mg base CX0 k f fd ps sp ∧ mg x = some (.ref f) ∧ PySem.W.keepIn K (.ref f) = true ∧ KBinds K fd ps ks (fun us ws => us ++ ws) (fun vs zs => vs ++ zs)
section
variable {X : Cx} {k j : Nat} {x : Str} {sp : Sp} {p pos : Pos} {kws : List Keyword} {ks : List Str} {tk : TA}
def tCallK0 (sp : Sp) (tk : TA) : TE := fun σ H Q => tk σ H fun zs H2 => sp zs H2 Q E0
theorem pe_clk0 (c : ClK X.prog X.w X.K X.mg X.base k x ks sp) (hr : Room j X.A) (hk : k ≤ j) (hg : Gl X x) (hkw : PK X kws tk)
    (h1 : (backToKw pos (keywordEach kws X.env)).all (·.1.isSome) = true := by rfl) (h2 : (backToKw pos (keywordEach kws X.env)).filterMap (·.1) = ks := by rfl)
    (h3 : (x == ("__debug__" : Str)) = false := by decide) (h4 : ((backTo pos (starEach [] X.env)).any (·.1) || (backToKw pos (keywordEach kws X.env)).any (·.1.isNone)) = false := by rfl) :
    PE X (.Call (.Name x p) [] kws pos) (tCallK0 sp tk) := by
  obtain ⟨f, fd, ps, F, m, kp, b⟩ := c.ex
  constructor
  intro pins s σ H Q I h
  apply wpAny_Call_Name_kw
  apply ld_glob I hg m _ h3
  apply PySem.W.callWith_KW0 (h₀ := X.base) I.ok.mod.kin kp h1 _ h4
  apply thn (hkw.run pos pins s σ H _ I h)
  intro ws s2 hh
  obtain ⟨zs, H2, I2, rz, q2⟩ := hh
  refine And.intro I2.kIn ?_
  rw [h2]
  exact run_fnk (us := []) (vs := []) F (hr.mono hk) b pass0 I2 .nil rz q2
end
section
variable {P : Program} {w : World} {K : PySem.W.Frag} {mg : Str → Option Value} {base : Heap}
/-- one parameter, given by position or by its name -/
theorem kbinds_one {x qual p : Str} {st : Stmt} {f : Addr} {fd : FuncData} (F : Fun K x qual st f fd)
    (h1 : ∀ (kV doc pm : Value) (an : Option Addr) (cdv ct u : Value), bindArgs (PySem.W.fnOf x qual (defArgs st) (defBody st) (defScope st) .none kV doc pm an cdv ct) ⟨[u], []⟩ = pure [(p, u)])
    (h2 : ∀ (kV doc pm : Value) (an : Option Addr) (cdv ct u : Value), bindArgs (PySem.W.fnOf x qual (defArgs st) (defBody st) (defScope st) .none kV doc pm an cdv ct) ⟨[], [(p, u)]⟩ = pure [(p, u)]) :
    KBinds K fd [p] [p] (fun us ws => us ++ ws) (fun vs zs => vs ++ zs) := by
  obtain ⟨oc, od, kV, doc, pm, an, cdv, ct, osl, rfl, lk, hcd⟩ := F.ex
  constructor
  · intro s us ws _ hl
    match us, ws, hl with
    | [u], [], _ => exact .of_eq (h1 kV doc pm an cdv ct u)
    | [], [u], _ => exact .of_eq (h2 kV doc pm an cdv ct u)
    | [], [], hl => cases hl
    | [], _ :: _ :: _, hl => cases hl
    | [_], _ :: _, hl => cases hl
    | _ :: _ :: _, ws, hl =>
      simp at hl
  · intro vs us zs ws r1 r2
    exact r1.append r2
end
end VG
namespace M2
def g (a b : Int) : Nat := Nat.gcd a.natAbs b.natAbs
/-- bottom above 0, no common divisor -/
def Low (a b : Int) : Prop := 0 < b ∧ g a b = 1
theorem Low.pos {a b : Int} (h : Low a b) : 0 < b := h.1
/-- fraction_of of the text, for a bottom that is not 0 -/
def mk (a b : Int) : Int × Int :=
  let s : Int := if b < 0 then -(g a b : Int) else (g a b : Int)
  (a.fdiv s, b.fdiv s)
theorem g_pos {a b : Int} (h : b ≠ 0) : 0 < g a b := Nat.gcd_pos_of_pos_right _ (Int.natAbs_pos.mpr h)
theorem dvd_l (a b : Int) : (g a b : Int) ∣ a := Int.ofNat_dvd_left.mpr (Nat.gcd_dvd_left _ _)
theorem dvd_r (a b : Int) : (g a b : Int) ∣ b := Int.ofNat_dvd_left.mpr (Nat.gcd_dvd_right _ _)
/-- dividing both by the greatest common divisor -/
theorem div_low {a b : Int} (h : 0 < b) : Low (a / (g a b : Int)) (b / (g a b : Int)) := by
  have gp := g_pos (a := a) (b := b) (by omega)
  obtain ⟨x, hx⟩ := dvd_l a b
  obtain ⟨y, hy⟩ := dvd_r a b
  have gne : (g a b : Int) ≠ 0 := by omega
  have ex : a / (g a b : Int) = x := by rw [Int.ediv_eq_of_eq_mul_right gne hx]
  have ey : b / (g a b : Int) = y := by rw [Int.ediv_eq_of_eq_mul_right gne hy]
  rw [ex, ey]
  have ax : a.natAbs = g a b * x.natAbs := by
    have := congrArg Int.natAbs hx
    rwa [Int.natAbs_mul, Int.natAbs_natCast] at this
  have by' : b.natAbs = g a b * y.natAbs := by
    have := congrArg Int.natAbs hy
    rwa [Int.natAbs_mul, Int.natAbs_natCast] at this
  constructor
  · rcases Int.lt_or_le 0 y with z | z
    · exact z
    · exfalso
      have : (g a b : Int) * y ≤ 0 := Int.mul_nonpos_of_nonneg_of_nonpos (by omega) z
      omega
  · have e : g a b = g a b * g x y := by
      have : Nat.gcd (g a b * x.natAbs) (g a b * y.natAbs) = g a b * Nat.gcd x.natAbs y.natAbs := Nat.gcd_mul_left _ _ _
      unfold g at this ⊢
      rw [← this]
      show Nat.gcd a.natAbs b.natAbs = _
      unfold g at ax by'
      rw [← ax, ← by']
    have e2 : g a b * 1 = g a b * g x y := by rw [Nat.mul_one]; exact e
    exact (Nat.eq_of_mul_eq_mul_left gp e2).symm
theorem g_neg (a b : Int) : g (-a) (-b) = g a b := by
  unfold g
  rw [Int.natAbs_neg, Int.natAbs_neg]
theorem mk_pos {a b : Int} (h : 0 < b) : mk a b = (a / (g a b : Int), b / (g a b : Int)) := by
  have gp := g_pos (a := a) (b := b) (by omega)
  unfold mk
  rw [if_neg (by omega)]
  show (a.fdiv (g a b : Int), b.fdiv (g a b : Int)) = _
  rw [Int.fdiv_eq_ediv_of_nonneg _ (by omega), Int.fdiv_eq_ediv_of_nonneg _ (by omega)]
theorem mk_neg {a b : Int} (h : b < 0) : mk a b = mk (-a) (-b) := by
  have gp := g_pos (a := a) (b := b) (by omega)
  rw [mk_pos (by omega : 0 < -b)]
  unfold mk
  rw [if_pos h, g_neg]
  show (a.fdiv (-(g a b : Int)), b.fdiv (-(g a b : Int))) = _
  obtain ⟨x, hx⟩ := dvd_l a b
  obtain ⟨y, hy⟩ := dvd_r a b
  have gne : (g a b : Int) ≠ 0 := by omega
  have e1 : a = -(g a b : Int) * -x := by rw [Int.neg_mul_neg]; exact hx
  have e2 : b = -(g a b : Int) * -y := by rw [Int.neg_mul_neg]; exact hy
  have e3 : -a = (g a b : Int) * -x := by rw [Int.mul_neg, ← hx]
  have e4 : -b = (g a b : Int) * -y := by rw [Int.mul_neg, ← hy]
  have n : -(g a b : Int) ≠ 0 := by omega
  have f1 : a.fdiv (-(g a b : Int)) = -x := by
    have : (-(g a b : Int) * -x).fdiv (-(g a b : Int)) = -x := Int.mul_fdiv_cancel_left _ n
    rw [← e1] at this
    exact this
  have f2 : b.fdiv (-(g a b : Int)) = -y := by
    have : (-(g a b : Int) * -y).fdiv (-(g a b : Int)) = -y := Int.mul_fdiv_cancel_left _ n
    rw [← e2] at this
    exact this
  rw [f1, f2, Int.ediv_eq_of_eq_mul_right gne e3, Int.ediv_eq_of_eq_mul_right gne e4]
theorem mk_low {a b : Int} (h : b ≠ 0) : Low (mk a b).1 (mk a b).2 := by
  rcases Int.lt_or_lt_of_ne h with z | z
  · rw [mk_neg z, mk_pos (by omega)]
    exact div_low (by omega)
  · rw [mk_pos z]
    exact div_low z
/-- it is the same fraction -/
theorem mk_eq {a b : Int} (h : b ≠ 0) : (mk a b).1 * b = a * (mk a b).2 := by
  have key : ∀ a b : Int, 0 < b → (mk a b).1 * b = a * (mk a b).2 := by
    intro a b hb
    rw [mk_pos hb]
    show a / (g a b : Int) * b = a * (b / (g a b : Int))
    obtain ⟨x, hx⟩ := dvd_l a b
    obtain ⟨y, hy⟩ := dvd_r a b
    have gne : (g a b : Int) ≠ 0 := by
      have := g_pos (a := a) (b := b) (by omega)
      omega
    rw [Int.ediv_eq_of_eq_mul_right gne hx, Int.ediv_eq_of_eq_mul_right gne hy]
    calc x * b = x * ((g a b : Int) * y) := by rw [← hy]
      _ = ((g a b : Int) * x) * y := by rw [← Int.mul_assoc, Int.mul_comm x]
      _ = a * y := by rw [← hx]
  rcases Int.lt_or_lt_of_ne h with z | z
  · rw [mk_neg z]
    have := key (-a) (-b) (by omega)
    rw [Int.mul_neg, Int.neg_mul] at this
    omega
  · exact key a b z
theorem natAbs_div_le (a : Int) {d : Int} (h : 0 < d) : (a / d).natAbs ≤ a.natAbs := Int.natAbs_ediv_le_natAbs a d
theorem mk_size {a b : Int} (h : b ≠ 0) : (mk a b).1.natAbs ≤ a.natAbs ∧ (mk a b).2.natAbs ≤ b.natAbs := by
  have key : ∀ a b : Int, 0 < b → (mk a b).1.natAbs ≤ a.natAbs ∧ (mk a b).2.natAbs ≤ b.natAbs := by
    intro a b hb
    rw [mk_pos hb]
    have gp := g_pos (a := a) (b := b) (by omega)
    exact ⟨natAbs_div_le a (by omega), natAbs_div_le b (by omega)⟩
  rcases Int.lt_or_lt_of_ne h with z | z
  · rw [mk_neg z]
    have := key (-a) (-b) (by omega)
    rwa [Int.natAbs_neg, Int.natAbs_neg] at this
  · exact key a b z
/-- in lowest terms there is just one pair -/
theorem low_eq {a b c d : Int} (h1 : Low a b) (h2 : Low c d) (h : a * d = c * b) : a = c ∧ b = d := by
  have e : a.natAbs * d.natAbs = c.natAbs * b.natAbs := by rw [← Int.natAbs_mul, ← Int.natAbs_mul, h]
  have c1 : Nat.Coprime a.natAbs b.natAbs := h1.2
  have c2 : Nat.Coprime c.natAbs d.natAbs := h2.2
  have d1 : b.natAbs ∣ d.natAbs := c1.symm.dvd_of_dvd_mul_left ⟨c.natAbs, by rw [e, Nat.mul_comm]⟩
  have d2 : d.natAbs ∣ b.natAbs := c2.symm.dvd_of_dvd_mul_left ⟨a.natAbs, by rw [← e, Nat.mul_comm]⟩
  have eb : b.natAbs = d.natAbs := Nat.dvd_antisymm d1 d2
  have hb := h1.1
  have hd := h2.1
  have ebd : b = d := by omega
  subst ebd
  exact ⟨Int.eq_of_mul_eq_mul_right (by omega) h, rfl⟩
/-- added of the text -/
def add (p q : Int × Int) : Int × Int :=
  let s : Int := g p.2 q.2
  let rest := p.2 / s
  let high := p.1 * (q.2 / s) + q.1 * rest
  let common : Int := g high s
  (high / common, rest * (q.2 / common))
theorem cop_dvd_l {a b c : Nat} (h : Nat.Coprime a b) (d : c ∣ a) : Nat.Coprime c b := Nat.Coprime.coprime_dvd_left d h
/-- the sum of two fractions in lowest terms, in lowest terms -/
theorem add_ok {p q : Int × Int} (hp : Low p.1 p.2) (hq : Low q.1 q.2) : Low (add p q).1 (add p q).2 ∧ (add p q).1 * (p.2 * q.2) = (p.1 * q.2 + q.1 * p.2) * (add p q).2 := by
  obtain ⟨a, b⟩ := p
  obtain ⟨c, d⟩ := q
  have hb : 0 < b := hp.1
  have hd : 0 < d := hq.1
  have gp := g_pos (a := b) (b := d) (by omega)
  obtain ⟨x, hx⟩ := dvd_l b d
  obtain ⟨y, hy⟩ := dvd_r b d
  have low := div_low (a := b) (b := d) hd
  have sne : (g b d : Int) ≠ 0 := by omega
  have ex : b / (g b d : Int) = x := Int.ediv_eq_of_eq_mul_right sne hx
  have ey : d / (g b d : Int) = y := Int.ediv_eq_of_eq_mul_right sne hy
  rw [ex, ey] at low
  have hxp : 0 < x := by
    rcases Int.lt_or_le 0 x with z | z
    · exact z
    · have : (g b d : Int) * x ≤ 0 := Int.mul_nonpos_of_nonneg_of_nonpos (by omega) z
      omega
  have hyp : 0 < y := low.1
  show Low ((a * (d / (g b d : Int)) + c * (b / (g b d : Int))) / (g (a * (d / (g b d : Int)) + c * (b / (g b d : Int))) (g b d : Int) : Int)) (b / (g b d : Int) * (d / (g (a * (d / (g b d : Int)) + c * (b / (g b d : Int))) (g b d : Int) : Int))) ∧
    (a * (d / (g b d : Int)) + c * (b / (g b d : Int))) / (g (a * (d / (g b d : Int)) + c * (b / (g b d : Int))) (g b d : Int) : Int) * (b * d) = (a * d + c * b) * (b / (g b d : Int) * (d / (g (a * (d / (g b d : Int)) + c * (b / (g b d : Int))) (g b d : Int) : Int)))
  rw [ex, ey]
  generalize hh : a * y + c * x = h
  generalize hs : (g b d : Int) = s at hx hy sne
  have hsp : 0 < s := by omega
  have kp := g_pos (a := h) (b := s) (by omega)
  obtain ⟨u, hu⟩ := dvd_l h s
  obtain ⟨v, hv⟩ := dvd_r h s
  have low2 := div_low (a := h) (b := s) hsp
  have kne : (g h s : Int) ≠ 0 := by omega
  have eu : h / (g h s : Int) = u := Int.ediv_eq_of_eq_mul_right kne hu
  have ev : s / (g h s : Int) = v := Int.ediv_eq_of_eq_mul_right kne hv
  rw [eu, ev] at low2
  have ed : d / (g h s : Int) = v * y := by
    refine Int.ediv_eq_of_eq_mul_right kne ?_
    rw [← Int.mul_assoc, ← hv, ← hy]
  rw [eu, ed]
  generalize (g h s : Int) = k at hu hv kne
  have hvp : 0 < v := low2.1
  -- the numbers without common divisors
  have cab : Nat.Coprime a.natAbs b.natAbs := hp.2
  have ccd : Nat.Coprime c.natAbs d.natAbs := hq.2
  have cxy : Nat.Coprime x.natAbs y.natAbs := low.2
  have cuv : Nat.Coprime u.natAbs v.natAbs := low2.2
  have dxb : x.natAbs ∣ b.natAbs := ⟨s.natAbs, by rw [hx, Int.natAbs_mul, Nat.mul_comm]⟩
  have dyd : y.natAbs ∣ d.natAbs := ⟨s.natAbs, by rw [hy, Int.natAbs_mul, Nat.mul_comm]⟩
  have duh : u.natAbs ∣ h.natAbs := ⟨k.natAbs, by rw [hu, Int.natAbs_mul, Nat.mul_comm]⟩
  have chx : Nat.Coprime h.natAbs x.natAbs := by
    have e : Int.gcd h x = Int.gcd (a * y) x := by
      rw [← hh]
      exact Int.gcd_add_mul_right_left _ _ _
    have e2 : Nat.Coprime (a * y).natAbs x.natAbs := by
      rw [Int.natAbs_mul]
      exact Nat.Coprime.mul_left (Nat.Coprime.coprime_dvd_right dxb cab) cxy.symm
    exact e.trans e2
  have chy : Nat.Coprime h.natAbs y.natAbs := by
    have e : Int.gcd h y = Int.gcd (c * x) y := by
      rw [← hh]
      exact Int.gcd_mul_right_add_left _ _ _
    have e2 : Nat.Coprime (c * x).natAbs y.natAbs := by
      rw [Int.natAbs_mul]
      exact Nat.Coprime.mul_left (Nat.Coprime.coprime_dvd_right dyd ccd) cxy
    exact e.trans e2
  refine ⟨⟨Int.mul_pos hxp (Int.mul_pos hvp hyp), ?_⟩, ?_⟩
  · show Nat.Coprime u.natAbs (x * (v * y)).natAbs
    rw [Int.natAbs_mul, Int.natAbs_mul]
    exact Nat.Coprime.mul_right (cop_dvd_l chx duh) (Nat.Coprime.mul_right cuv (cop_dvd_l chy duh))
  · have e1 : a * d + c * b = s * h := by
      rw [← hh, hx, hy, Int.mul_add]
      rw [show a * (s * y) = s * (a * y) by rw [← Int.mul_assoc, Int.mul_comm a s, Int.mul_assoc], show c * (s * x) = s * (c * x) by rw [← Int.mul_assoc, Int.mul_comm c s, Int.mul_assoc]]
    rw [e1, hu]
    have e2 : b * d = (s * x) * (s * y) := by rw [← hx, ← hy]
    rw [e2]
    have e3 : s * (k * u) * (x * (v * y)) = u * ((s * x) * ((k * v) * y)) := by
      simp only [Int.mul_assoc, Int.mul_comm, Int.mul_left_comm]
    rw [e3, ← hv]
theorem add_size {p q : Int × Int} (hp : Low p.1 p.2) (hq : Low q.1 q.2) {m n : Nat} (a1 : p.1.natAbs < 2 ^ m) (a2 : p.2.natAbs < 2 ^ m) (b1 : q.1.natAbs < 2 ^ n) (b2 : q.2.natAbs < 2 ^ n) :
    (add p q).1.natAbs < 2 ^ (m + n + 1) ∧ (add p q).2.natAbs < 2 ^ (m + n + 1) := by
  have hb := hp.1
  have hd := hq.1
  have gp := g_pos (a := p.2) (b := q.2) (by omega)
  have l1 : (p.2 / (g p.2 q.2 : Int)).natAbs ≤ p.2.natAbs := natAbs_div_le _ (by omega)
  have l2 : (q.2 / (g p.2 q.2 : Int)).natAbs ≤ q.2.natAbs := natAbs_div_le _ (by omega)
  have hp2 : 2 ^ (m + n + 1) = 2 ^ m * 2 ^ n + 2 ^ m * 2 ^ n := by
    rw [Nat.pow_succ, Nat.pow_add]
    omega
  have mul : ∀ {x y a b : Nat}, x < a → y < b → x * y < a * b := fun h1 h2 => Nat.mul_lt_mul'' h1 h2
  have hh : (p.1 * (q.2 / (g p.2 q.2 : Int)) + q.1 * (p.2 / (g p.2 q.2 : Int))).natAbs < 2 ^ (m + n + 1) := by
    have e1 := Int.natAbs_add_le (p.1 * (q.2 / (g p.2 q.2 : Int))) (q.1 * (p.2 / (g p.2 q.2 : Int)))
    rw [Int.natAbs_mul, Int.natAbs_mul] at e1
    have e2 := mul a1 (Nat.lt_of_le_of_lt l2 b2)
    have e3 := mul b1 (Nat.lt_of_le_of_lt l1 a2)
    rw [Nat.mul_comm (2 ^ n)] at e3
    omega
  have kp := g_pos (a := p.1 * (q.2 / (g p.2 q.2 : Int)) + q.1 * (p.2 / (g p.2 q.2 : Int))) (b := (g p.2 q.2 : Int)) (by omega)
  constructor
  · exact Nat.lt_of_le_of_lt (natAbs_div_le _ (by omega)) hh
  · show (p.2 / (g p.2 q.2 : Int) * (q.2 / (g (p.1 * (q.2 / (g p.2 q.2 : Int)) + q.1 * (p.2 / (g p.2 q.2 : Int))) (g p.2 q.2 : Int) : Int))).natAbs < _
    rw [Int.natAbs_mul]
    have e4 := natAbs_div_le q.2 (d := (g (p.1 * (q.2 / (g p.2 q.2 : Int)) + q.1 * (p.2 / (g p.2 q.2 : Int))) (g p.2 q.2 : Int) : Int)) (by omega)
    have e5 := mul (Nat.lt_of_le_of_lt l1 a2) (Nat.lt_of_le_of_lt e4 b2)
    omega
end M2
namespace FR
open PySem PySem.Spec PyProof.Rows L2 VG
abbrev Q2 := Int × Int
def pV (p : Q2) : List V := [.int p.1, .int p.2]
def Bt (n : Nat) (p : Q2) : Prop := p.1.natAbs < 2 ^ n ∧ p.2.natAbs < 2 ^ n
theorem Bt.mono {m n : Nat} {p : Q2} (h : Bt m p) (hm : m ≤ n) : Bt n p := ⟨Nat.lt_of_lt_of_le h.1 (Nat.pow_le_pow_right (by decide) hm), Nat.lt_of_lt_of_le h.2 (Nat.pow_le_pow_right (by decide) hm)⟩
theorem same_upd {H : Hp} {p : Addr} {o : HO} (h : H p = none) : Same H (upd H p o) := fun b x e => by
  rw [upd_ne (ne_of_none e h)]
  exact e
theorem seqT {K : PySem.W.Frag} {H H' : Hp} {a : Addr} {xs : List V} (e : Same H H') (h : SqT K H a xs) : SqT K H' a xs := by
  rcases h with (h | ⟨o, h⟩) | h
  · exact .inl (.inl (e _ _ h))
  · exact .inl (.inr ⟨o, e _ _ h⟩)
  · exact .inr h
theorem tyT {K : PySem.W.Frag} {H : Hp} {a : Addr} {xs : List V} (h : SqT K H a xs) : TyX K H (.ref a) (.type "tuple") := by
  rcases h with (h | ⟨o, h⟩) | ⟨o, its, n, h1, h2, h3⟩
  · exact .base (.tup h)
  · exact .fTuple h
  · exact .kTuple h1 h2
theorem kb1 {K : PySem.W.Frag} : PySem.W.kitOne K (.type "int") (.type "int") = some true := kit_ty (by decide +kernel)
theorem kb2 {K : PySem.W.Frag} : PySem.W.kitOne K (.type "int") (.type "bool") = some false := kit_ty (by decide +kernel)
def Frs (K : PySem.W.Frag) (H : Hp) : List V → List Q2 → Prop
  | [], [] => True
  | v :: vs, p :: ps => (∃ t, v = .ref t ∧ SqT K H t (pV p)) ∧ Frs K H vs ps
  | _, _ => False
theorem Frs.mono {K : PySem.W.Frag} {H H' : Hp} (e : Same H H') : ∀ {vs : List V} {ps : List Q2}, Frs K H vs ps → Frs K H' vs ps
  | [], [], _ => trivial
  | _ :: _, _ :: _, ⟨⟨t, e1, h⟩, r⟩ => ⟨⟨t, e1, seqT e h⟩, r.mono e⟩
  | [], _ :: _, h => h.elim
  | _ :: _, [], h => h.elim
theorem Frs.len {K : PySem.W.Frag} {H : Hp} : ∀ {vs : List V} {ps : List Q2}, Frs K H vs ps → vs.length = ps.length
  | [], [], _ => rfl
  | _ :: _, _ :: _, h => by rw [List.length_cons, List.length_cons, h.2.len]
  | [], _ :: _, h => h.elim
  | _ :: _, [], h => h.elim
theorem Frs.get {K : PySem.W.Frag} {H : Hp} : ∀ {vs : List V} {ps : List Q2} {i : Nat} {v : V}, Frs K H vs ps → vs[i]? = some v → ∃ t p, v = .ref t ∧ ps[i]? = some p ∧ SqT K H t (pV p)
  | [], [], _, _, _, h => by simp at h
  | a :: _, p :: _, 0, v, h, e => by
    have e1 : a = v := Option.some.inj e
    subst e1
    obtain ⟨t, e2, q⟩ := h.1
    exact ⟨t, p, e2, rfl, q⟩
  | _ :: vs, _ :: ps, i + 1, v, h, e => h.2.get (i := i) e
  | [], _ :: _, _, _, h, _ => h.elim
  | _ :: _, [], _, _, h, _ => h.elim
theorem Frs.snoc {K : PySem.W.Frag} {H : Hp} {t : Addr} {p : Q2} (hv : SqT K H t (pV p)) : ∀ {vs : List V} {ps : List Q2}, Frs K H vs ps → Frs K H (vs ++ [.ref t]) (ps ++ [p])
  | [], [], _ => ⟨⟨t, rfl, hv⟩, trivial⟩
  | _ :: _, _ :: _, h => ⟨h.1, h.2.snoc hv⟩
  | [], _ :: _, h => h.elim
  | _ :: _, [], h => h.elim
/-- what a value is to is_fraction: a whole number, or none -/
def Part (K : PySem.W.Frag) (H : Hp) (x : V) (o : Option Int) : Prop :=
  (∃ a, x = .int a ∧ o = some a) ∨ (o = none ∧ ∃ (ty : String) (b1 b2 : Bool), TyX K H x (.type ty) ∧ kitB ty "int" = some b1 ∧ kitB ty "bool" = some b2 ∧ (b1 && !b2) = false)
def okFr : Option Int → Option Int → Bool
  | some a, some b => decide (0 < b) && decide (M2.g a b = 1)
  | _, _ => false
section
variable {P : Program} {w : World} {K : PySem.W.Frag} {mg : Str → Option Value} {base : Heap}
def spInt (K : PySem.W.Frag) : Sp := fun vs H Q _ => ∃ (v : V) (o : Option Int), vs = [v] ∧ Part K H v o ∧ Q (.bl o.isSome) H
def spTup (K : PySem.W.Frag) : Sp := fun vs H Q _ => ∃ (v : V) (n : Nat), vs = [v, .int n] ∧ ((∃ ty : String, TyX K H v (.type ty) ∧ kitB ty "tuple" = some false ∧ Q (.bl false) H) ∨ ∃ p xs, v = .ref p ∧ SqT K H p xs ∧ Q (.bl (decide (xs.length = n))) H)
def spAdd (K : PySem.W.Frag) : Sp := fun vs H Q _ => ∃ (s t : Addr) (p q : Q2), vs = [.ref s, .ref t] ∧ SqT K H s (pV p) ∧ SqT K H t (pV q) ∧ M2.Low p.1 p.2 ∧ M2.Low q.1 q.2 ∧ Bt 3000 p ∧ Bt 3000 q ∧
  ∀ H' u, Same H H' → H u = none → H' u = some (.tup (pV (M2.add p q))) → Q (.ref u) H'
def sumQ (ps : List Q2) : Q2 := ps.foldl M2.add (0, 1)
end
theorem at0 (x y : V) : atI [x, y] 0 = some x := rfl
theorem at1 (x y : V) : atI [x, y] 1 = some y := rfl
theorem mulW {i j : Int} (h1 : i.natAbs < 2 ^ 400000) (h2 : j.natAbs < 2 ^ 400000) : CMulW i j := wide_mul h1 h2 (by decide) (by decide) (by decide)
theorem up {n m : Nat} {x : Nat} (h : x < 2 ^ n) (hm : n ≤ m) : x < 2 ^ m := Nat.lt_of_lt_of_le h (Nat.pow_le_pow_right (by decide) hm)
end FR
namespace VG
open PySem PySem.Spec PyProof.Rows L2
section
variable {X : Cx}
/-- // by a divisor of either sign -/
def CDivS (_ j : Int) : Prop := j ≠ 0 ∧ j.natAbs.log2 < 9000
theorem op_fdivS : OpR X (binaryOp .FloorDiv) (rI CDivS fun i j => .int (i.fdiv j)) := opI fun i j _ _ _ _ _ hc q => floordiv_int hc.1 q (.inl (PyProof.noPylong_of_log2 hc.2))
theorem wide_divS {i j : Int} {b : Nat} (h : j ≠ 0) (hb : j.natAbs < 2 ^ b) (h0 : 0 < b) (h9 : b ≤ 9000) : CDivS i j := ⟨h, Nat.lt_of_lt_of_le (PySem.Flt.log2_lt_of h0 hb) h9⟩
/-- over a name that holds a list or a tuple -/
def iAnyV (K : PySem.W.Frag) (i : Nat) : TI := fun σ H R => ∃ a, σ[i]? = some (some (V.ref a)) ∧ (((∃ xs, SqL K H a xs) ∧ R (Itl K a) H) ∨ ((∃ xs, SqT K H a xs) ∧ R (Itt K a) H))
theorem pi_any {i : Nat} {x : Str} {pos p2 : Pos} {y : Str} (h : PE X (.Name x pos) (tVar i)) : PI X (.Name y p2) (.Name x pos) (iAnyV X.K i) := by
  constructor
  intro pins s σ H R I hh
  obtain ⟨a, ea, q⟩ := hh
  rcases q with ⟨w, r⟩ | ⟨w, r⟩
  · exact (pi_list h).run pins s σ H R I ⟨_, ea, a, rfl, w, r⟩
  · exact (pi_tup h).run pins s σ H R I ⟨_, ea, a, rfl, w, r⟩
end
theorem walk_zipT {K : PySem.W.Frag} {a b : Addr} {xs ys : List V} {n : Nat} (hn : n = min xs.length ys.length) : Walk (RZ.ItzT K a b) n (fun H => SqT K H a xs ∧ SqT K H b ys) (YPair (fun i => xs[i]?) (fun i => ys[i]?)) := by
  constructor
  · intro i H hi hG
    have h1 : i < xs.length := by omega
    have h2 : i < ys.length := by omega
    exact ⟨xs, ys, xs[i], ys[i], hG.1, hG.2, List.getElem?_eq_getElem h1, List.getElem?_eq_getElem h2⟩
  · intro H hG
    exact ⟨xs, ys, hG.1, hG.2, by omega⟩
  · intro i H v H' hi hG hy
    obtain ⟨T, x, y, e1, e2, e3, e4, e5⟩ := hy
    exact ⟨T, x, y, e1, e2, e3, e4 xs hG.1, e5 ys hG.2⟩
/-- a def that may let errors out, where it lets none -/
theorem fn_calm {P : Program} {w : World} {K : PySem.W.Frag} {mg : Str → Option Value} {base : Heap} {k : Nat} {f : Addr} {fd : FuncData} {ps : List Str} {sp : Sp} (F : FnOk P w K mg base (L2.CX P w) k f fd ps sp) :
    FnOk P w K mg base CX0 k f fd ps (fun vs H Q _ => sp vs H Q E0) := by
  constructor
  · intro vs H Q E h
    exact F.len vs H Q E0 h
  · intro A outer s H args us vs Q E hr e0 hb hv hs
    apply codeAny_mono (F.run A outer s H args us vs Q E0 hr e0 hb hv hs)
    intro r s' hh
    match r, hh with
    | .ok (.ret u), hh => exact hh
    | .ok .next, hh => exact hh
    | .ok .brk, hh => exact hh
    | .ok .cont, hh => exact hh
    | .error e, hh =>
      obtain ⟨_, _, _, _, _, _, _, _, _, _, _, _, h⟩ := hh
      exact h.elim
/-- what the written part says of an own error's class with an __init__ -/
structure ErrC (K : PySem.W.Frag) (mg : Str → Option Value) (x : Str) (C fI : Addr) : Prop where
  gC : mg x = some (.ref C)
  o : OexC K C
  iC : PySem.W.findIn K (.ref C) "__init__" = some (some (.ref fI))
  tI : PySem.W.typeIn K (.ref fI) = some (.type "function")
end VG
namespace FR
open PySem PySem.Spec PyProof.Rows L2 VG
theorem mul_low {p q : Q2} (hp : 0 < p.2) (hq : 0 < q.2) : p.2 * q.2 ≠ 0 := Int.mul_ne_zero (by omega) (by omega)
theorem seqT_upd {K : PySem.W.Frag} {H : Hp} {D t : Addr} {xs ys : List V} {zs : List V} (hD : H D = some (.lst ys)) (h : SqT K H t xs) : SqT K (upd H D (.lst zs)) t xs := by
  rcases h with (h | ⟨o, h⟩) | h
  · refine .inl (.inl ?_)
    rw [upd_ne (by intro e; subst e; rw [hD] at h; cases h)]
    exact h
  · refine .inl (.inr ⟨o, ?_⟩)
    rw [upd_ne (by intro e; subst e; rw [hD] at h; cases h)]
    exact h
  · exact .inr h
theorem Frs.upd {K : PySem.W.Frag} {H : Hp} {D : Addr} {ys zs : List V} (hD : H D = some (.lst ys)) : ∀ {vs : List V} {ps : List Q2}, Frs K H vs ps → Frs K (L2.upd H D (.lst zs)) vs ps
  | [], [], _ => trivial
  | _ :: _, _ :: _, ⟨⟨t, e1, h⟩, r⟩ => ⟨⟨t, e1, seqT_upd hD h⟩, r.upd hD⟩
  | [], _ :: _, h => h.elim
  | _ :: _, [], h => h.elim
section
variable {P : Program} {w : World} {K : PySem.W.Frag} {mg : Str → Option Value} {base : Heap}
def spInitW (K : PySem.W.Frag) (C : Addr) (fld : Str) : Sp := fun vs H Q _ => ∃ (a : Addr) (v : V), vs = [.ref a, v] ∧ H a = some (exo a C none) ∧ ∀ dx, H dx = none → dx ≠ a → Q .non (upd (upd H dx (exd dx [(fld, v)])) a (exo a C (some dx)))
/-- fraction_of: with a bottom of 0 it lets an error out -/
def spFrac (C : Addr) : Sp := fun vs H Q E => ∃ a b : Int, vs = [.int a, .int b] ∧ a.natAbs < 2 ^ 8000 ∧ b.natAbs < 2 ^ 8000 ∧ (b ≠ 0 → ∀ H' u, Same H H' → H u = none → H' u = some (.tup (pV (M2.mk a b))) → Q (.ref u) H') ∧
  (b = 0 → ∀ H' d, Same H H' → H d = none → H' d = some (.xd [((("word" : String) : Str), .str (("bottom" : String) : Str))]) → E (.ref C) (some d) H')
def timeQ (p q : Q2) : Q2 := M2.mk (p.1 * q.1) (p.2 * q.2)
def spTimed (K : PySem.W.Frag) : Sp := fun vs H Q _ => ∃ (s t : Addr) (p q : Q2), vs = [.ref s, .ref t] ∧ SqT K H s (pV p) ∧ SqT K H t (pV q) ∧ 0 < p.2 ∧ 0 < q.2 ∧ Bt 3000 p ∧ Bt 3000 q ∧
  ∀ H' u, Same H H' → H u = none → H' u = some (.tup (pV (timeQ p q))) → Q (.ref u) H'
def weighQ (ws : List Int) (ps : List Q2) : List Q2 := (ws.zip ps).map fun x => timeQ (x.1, 1) x.2
end
theorem time_ok {p q : Q2} (hp : 0 < p.2) (hq : 0 < q.2) {m n : Nat} (bp : Bt m p) (bq : Bt n q) : M2.Low (timeQ p q).1 (timeQ p q).2 ∧ Bt (m + n) (timeQ p q) ∧ (timeQ p q).1 * (p.2 * q.2) = (p.1 * q.1) * (timeQ p q).2 := by
  have h0 := mul_low hp hq
  have sz := M2.mk_size (a := p.1 * q.1) h0
  refine ⟨M2.mk_low h0, ⟨Nat.lt_of_le_of_lt sz.1 (wide_lt bp.1 bq.1), Nat.lt_of_le_of_lt sz.2 (wide_lt bp.2 bq.2)⟩, M2.mk_eq h0⟩
end FR
namespace VG
open PySem PySem.Spec PyProof.Rows L2
structure ClG (P : Program) (w : World) (K : PySem.W.Frag) (mg : Str → Option Value) (base : Heap) (k : Nat) (x : Str) (sp : Sp) : Prop where
  ex : ∃ (f : Addr) (fd : FuncData) (ps : List Str), FnG P w K mg base k f fd ps sp ∧ mg x = some (.ref f) ∧ PySem.W.keepIn K (.ref f) = true ∧ Binds K fd ps []
section
variable {X : Cx} {k j : Nat} {x : Str} {sp : Sp} {p pos : Pos} {e : Expr} {es : List Expr} {t : TA}
theorem run_clg {f : Addr} {fd : FuncData} {ps : List Str} {pins : List (Addr × Obj)} {σ : L2.St} {H : Hp} {s : Shared} {Q : VK} {us : List Value} {vs : List V} (F : FnG X.prog X.w X.K X.mg X.base k f fd ps sp) (hg : X.A.guards = some []) (hr : Room k X.A)
    (hb : Binds X.K fd ps []) (I : Inv X pins σ H s) (r : Vals vs us) (h : sp vs H Q E0) : wpAny (model X.prog X.w) X.A (call (.ref f) us) (EP X pins σ Q) X.xe s := by
  have hl : us.length = ps.length := by
    rw [← r.length]
    exact F.len _ _ _ _ h
  have hb2 := hb s us I.kIn (by rw [List.append_nil]; exact hl)
  rw [List.append_nil] at hb2
  apply wpAny_call
  apply codeAny_mono (F.run X.A X.stack s H ⟨us, []⟩ us vs Q E0 hg hr I.env0 hb2 r h)
  intro rr s' hq
  match rr, hq with
  | .ok (.ret u), hq => exact I.after hq
theorem pe_clg (c : ClG X.prog X.w X.K X.mg X.base k x sp) (hgd : X.A.guards = some []) (hr : Room j X.A) (hk : k ≤ j) (hg : Gl X x) (ha : PA X (e :: es) t)
    (h1 : (x == ("__debug__" : Str)) = false := by decide) (h2 : starEach (e :: es) X.env = (false, eval e X.env) :: starEach es X.env := by rfl)
    (h3 : (backTo pos (starEach es X.env)).any (·.1) = false := by rfl) : PE X (.Call (.Name x p) (e :: es) [] pos) (tCall sp [] E0 t) := by
  obtain ⟨f, fd, ps, F, m, kp, b⟩ := c.ex
  constructor
  intro pins s σ H Q I h
  apply wpAny_Call_Name_kw
  apply ld_glob I hg m _ h1
  apply PySem.W.callWith_K (h₀ := X.base) I.ok.mod.kin kp _ h2 h3
  apply thn (ha.run pos pins s σ H _ I h)
  intro us s1 hh
  obtain ⟨vs, H1, I1, r, q⟩ := hh
  refine And.intro I1.kIn ?_
  exact run_clg F hgd (hr.mono hk) b I1 r (by rw [← List.append_nil vs]; exact q)
end
section
variable {X : Cx}
/-- repr of a truth value -/
theorem cr_reprB : CallR X (.builtin "repr") (fun xs H Q => ∃ b : Bool, xs = [.bl b] ∧ Q (.str (if b = true then (("True" : String) : Str) else (("False" : String) : Str))) H) := by
  intro pins s σ H vs us Q I r h
  obtain ⟨b, rfl, q⟩ := h
  cases r with
  | cons r1 r2 =>
    cases r2
    have e : _ = Value.bool b := r1
    subst e
    refine P.repr_of_bool ?_
    refine ⟨.str (if b = true then (("True" : String) : Str) else (("False" : String) : Str)), H, I.tok _, ⟨s.toks, ?_⟩, q⟩
    cases b <;> rfl
/-- is, of two truth values -/
theorem op_isB : OpR X (compareOp .Is) (fun x y H Q => ∃ a b : Bool, x = .bl a ∧ y = .bl b ∧ Q (.bl (decide (a = b))) H) := by
  intro pins s σ H x y v u Q I rx ry h
  obtain ⟨a, b, rfl, rfl, q⟩ := h
  have e1 : v = Value.bool a := rx
  have e2 : u = Value.bool b := ry
  subst e1 e2
  refine is_bool ?_
  refine ⟨.bl (decide (a = b)), H, I, ?_, q⟩
  show Value.bool _ = Value.bool _
  cases a <;> cases b <;> rfl
end
end VG
namespace HD
open PySem PySem.Spec PyProof.Rows L2 VG
def Hd (p q : Addr) (H : Hp) : Prop := ∃ (cs : List Int) (st : Int), H p = some (.lst [.ref q, .int st]) ∧ H q = some (.lst (cs.map V.int)) ∧ cs.length ≤ 63 ∧ 0 ≤ st ∧ st < 2147483647
def Keep (p q : Addr) (H H' : Hp) : Prop := ∀ b o, b ≠ p → b ≠ q → H b = some o → H' b = some o
theorem Keep.refl (p q : Addr) (H : Hp) : Keep p q H H := fun _ _ _ _ h => h
theorem Keep.trans {p q : Addr} {H H1 H2 : Hp} (a : Keep p q H H1) (b : Keep p q H1 H2) : Keep p q H H2 := fun x o n1 n2 h => b x o n1 n2 (a x o n1 n2 h)
theorem Keep.new {p q n : Addr} {o : HO} {H : Hp} (h : H n = none) : Keep p q H (upd H n o) := fun b x _ _ e => by
  rw [upd_ne (ne_of_none e h)]
  exact e
theorem Keep.at1 {p q : Addr} {o : HO} {H : Hp} : Keep p q H (upd H p o) := fun b x h _ e => by
  rw [upd_ne h]
  exact e
theorem Keep.at2 {p q : Addr} {o : HO} {H : Hp} : Keep p q H (upd H q o) := fun b x _ h e => by
  rw [upd_ne h]
  exact e
theorem Hd.ne {p q : Addr} {H : Hp} (h : Hd p q H) : p ≠ q := by
  obtain ⟨cs, st, h1, h2, _⟩ := h
  intro e
  subst e
  rw [h1] at h2
  cases cs with
  | nil => cases h2
  | cons c r => cases h2
theorem Hd.new {p q n : Addr} {o : HO} {H : Hp} (h : Hd p q H) (hn : H n = none) : Hd p q (upd H n o) := by
  obtain ⟨cs, st, h1, h2, h3⟩ := h
  exact ⟨cs, st, by rw [upd_ne (ne_of_none h1 hn)]; exact h1, by rw [upd_ne (ne_of_none h2 hn)]; exact h2, h3⟩
theorem Hd.neOf {p q n : Addr} {o : HO} {H : Hp} (h : Hd p q H) (hn : H n = some o) (ho : ∀ xs, o ≠ .lst xs) : n ≠ p ∧ n ≠ q := by
  obtain ⟨cs, st, h1, h2, _⟩ := h
  constructor
  · intro e
    subst e
    rw [h1] at hn
    exact ho _ (Option.some.inj hn).symm
  · intro e
    subst e
    rw [h2] at hn
    exact ho _ (Option.some.inj hn).symm
theorem Hd.free {p q n : Addr} {H : Hp} (h : Hd p q H) (hn : H n = none) : n ≠ p ∧ n ≠ q := by
  obtain ⟨cs, st, h1, h2, _⟩ := h
  exact ⟨(ne_of_none h1 hn).symm, (ne_of_none h2 hn).symm⟩
theorem dpAll_ints (K : PySem.W.Frag) (H : Hp) : ∀ cs : List Int, DpAll K H (cs.map V.int) (cs.map PyData.int)
  | [] => .nil
  | c :: cs => .cons (.int c) (dpAll_ints K H cs)
theorem dp_ints {K : PySem.W.Frag} {H : Hp} {q : Addr} {cs : List Int} (h : SqL K H q (cs.map V.int)) : Dp K H (.ref q) (.list (cs.map PyData.int)) := .lst h (dpAll_ints K H cs)
theorem lay_ints : ∀ cs : List Int, PyData.canLayAll0 (cs.map PyData.int) = true
  | [] => rfl
  | c :: cs => by
    show (PyData.canLay0 (.int c) && PyData.canLayAll0 (cs.map PyData.int)) = true
    rw [lay_ints cs]
    rfl
theorem depth_ints : ∀ cs : List Int, PyData.depthAll (cs.map PyData.int) = 0
  | [] => rfl
  | c :: cs => by
    show max (PyData.depth (.int c)) (PyData.depthAll (cs.map PyData.int)) = 0
    rw [depth_ints cs]
    rfl
theorem shaped_ints (cs : List Int) : SeqAt.shaped (.list (cs.map PyData.int)) = true := by
  unfold SeqAt.shaped
  rw [Bool.and_eq_true]
  refine ⟨?_, decide_eq_true ?_⟩
  · show PyData.canLayAll0 (cs.map PyData.int) = true
    exact lay_ints cs
  · show PyData.depthAll (cs.map PyData.int) + 1 ≤ 64
    rw [depth_ints]
    decide
theorem shaped_nil : SeqAt.shaped (.list []) = true := by decide +kernel
theorem eqv_nil (cs : List Int) : PyData.eqv (.list (cs.map PyData.int)) (.list []) = decide (cs = []) := by
  cases cs with
  | nil => rfl
  | cons c r => rfl
section
variable {P : Program} {w : World} {K : PySem.W.Frag} {mg : Str → Option Value} {base : Heap}
/-- a draw: some number below many -/
def spDraw : Sp := fun vs H Q _ => ∃ (p q : Addr) (many : Int), vs = [.ref p, .int many] ∧ Hd p q H ∧ 0 < many ∧ many < 1073741824 ∧ ∀ (H' : Hp) (r : Int), Hd p q H' → Keep p q H H' → 0 ≤ r → r < many → Q (.int r) H'
/-- one of some -/
def spPick (K : PySem.W.Frag) : Sp := fun vs H Q _ => ∃ (p q l : Addr) (xs : List V), vs = [.ref p, .ref l] ∧ Hd p q H ∧ H l = some (.lst xs) ∧ l ≠ p ∧ l ≠ q ∧ xs ≠ [] ∧ xs.length < 1000000 ∧ ∀ (H' : Hp) (v : V), Hd p q H' → Keep p q H H' → v ∈ xs → Q v H'
end
theorem same_put {H H' : Hp} {L : Addr} {o : HO} (h : Same H H') (n : H L = none) : Same H (upd H' L o) := fun b x e => by
  rw [upd_ne (ne_of_none e n)]
  exact h b x e
theorem _root_.HD.Hd.same {p q : Addr} {H H' : Hp} (h : Hd p q H) (s : Same H H') : Hd p q H' := by
  obtain ⟨cs, st, h1, h2, h3⟩ := h
  exact ⟨cs, st, s _ _ h1, s _ _ h2, h3⟩
theorem snocL {α : Type} (cs : List α) (h : cs ≠ []) : ∃ c0 c, cs = c0 ++ [c] := ⟨cs.dropLast, cs.getLast h, (List.dropLast_concat_getLast h).symm⟩
theorem fmod_lt (a : Int) {m : Int} (h : 0 < m) : 0 ≤ a.fmod m ∧ a.fmod m < m := ⟨Int.fmod_nonneg_of_pos a h, Int.fmod_lt_of_pos a h⟩
end HD
namespace CK
open PySem PySem.Spec PyProof.Rows L2 VG FR HD
theorem cut_ints (ns : List Int) (lo hi : Option Int) : ∃ ms : List Int, cutV (ns.map V.int) lo hi = ms.map V.int ∧ ms.length ≤ ns.length := by
  refine ⟨(ns.drop (HT.sIx (ns.map V.int).length 0 lo)).take (HT.sIx (ns.map V.int).length (ns.map V.int).length hi - HT.sIx (ns.map V.int).length 0 lo), ?_, ?_⟩
  · unfold cutV
    rw [List.map_take, List.map_drop]
  · rw [List.length_take, List.length_drop]
    omega
end CK
namespace FR
open PySem PySem.Spec PyProof.Rows L2 VG HD
theorem seqTK {K : PySem.W.Frag} {H H' : Hp} {p q t : Addr} {xs : List V} (hd : Hd p q H) (kp : Keep p q H H') (h : SqT K H t xs) : SqT K H' t xs := by
  rcases h with (h | ⟨o, h⟩) | h
  · have n := hd.neOf h (fun ys z => by cases z)
    exact .inl (.inl (kp _ _ n.1 n.2 h))
  · have n := hd.neOf h (fun ys z => by cases z)
    exact .inl (.inr ⟨o, kp _ _ n.1 n.2 h⟩)
  · exact .inr h
/-- Euclid's steps -/
theorem half {x y : Nat} (h : y < x) (h0 : 0 < y) : 2 * (x % y) < x := by
  have h1 := Nat.mod_lt x h0
  have h2 := Nat.div_add_mod x y
  have h3 : 1 ≤ x / y := (Nat.one_le_div_iff h0).mpr (Nat.le_of_lt h)
  have h4 : y * 1 ≤ y * (x / y) := Nat.mul_le_mul_left y h3
  omega
/-- before the i-th step -/
def Eu (g0 : Nat) (i x y : Nat) : Prop := Nat.gcd x y = g0 ∧ y * 2 ^ (i / 2) < 2 ^ 900 ∧ (1 ≤ i → y < x ∧ x * 2 ^ ((i - 1) / 2) < 2 ^ 900)
theorem Eu.step {g0 i x y : Nat} (h : Eu g0 i x y) (h0 : 0 < y) : Eu g0 (i + 1) y (x % y) := by
  obtain ⟨h1, h2, h3⟩ := h
  have hm := Nat.mod_lt x h0
  refine ⟨?_, ?_, fun _ => ⟨hm, ?_⟩⟩
  · rw [← h1, Nat.gcd_comm x y, Nat.gcd_rec y x, Nat.gcd_comm]
  · by_cases hi : 1 ≤ i
    · obtain ⟨h4, h5⟩ := h3 hi
      have h6 := half h4 h0
      have e : (i + 1) / 2 = (i - 1) / 2 + 1 := by omega
      rw [e, Nat.pow_succ]
      have h7 : 2 * (x % y) * 2 ^ ((i - 1) / 2) < x * 2 ^ ((i - 1) / 2) := Nat.mul_lt_mul_of_pos_right h6 (Nat.two_pow_pos _)
      have h8 : x % y * (2 ^ ((i - 1) / 2) * 2) = 2 * (x % y) * 2 ^ ((i - 1) / 2) := by
        simp only [Nat.mul_comm, Nat.mul_left_comm, Nat.mul_assoc]
      omega
    · have e : i = 0 := by omega
      subst e
      show x % y * 1 < 2 ^ 900
      have h2' : y * 1 < 2 ^ 900 := h2
      omega
  · show y * 2 ^ ((i + 1 - 1) / 2) < 2 ^ 900
    rw [Nat.add_sub_cancel]
    exact h2
section
def spFraction : Sp := fun vs H Q _ => ∃ p q : Addr, vs = [.ref p] ∧ Hd p q H ∧ ∀ (H' : Hp) (t : Addr) (a : Q2), Hd p q H' → Keep p q H H' → H' t = some (.tup (pV a)) → M2.Low a.1 a.2 → a.1.natAbs ≤ 1000000 → a.2.natAbs ≤ 1000000 → Q (.ref t) H'
end
end FR
namespace VG
open PySem PySem.Spec PyProof.Rows L2
structure ClR (P : Program) (w : World) (K : PySem.W.Frag) (mg : Str → Option Value) (base : Heap) (k : Nat) (x : Str) (ks : List Str) (sp : Sp) : Prop where
  ex : ∃ (f : Addr) (fd : FuncData) (ps : List Str), FnOk P w K mg base CX0 k f fd ps sp ∧ mg x = some (.ref f) ∧ PySem.W.keepIn K (.ref f) = true ∧ KBinds K fd ps ks (fun us ws => us ++ ws.reverse) (fun vs zs => vs ++ zs.reverse)
section
variable {X : Cx} {k j : Nat} {x : Str} {sp : Sp} {p pos : Pos} {kws : List Keyword} {ks : List Str} {tk : TA}
def tCallKR (sp : Sp) (tk : TA) : TE := fun σ H Q => tk σ H fun zs H2 => sp zs.reverse H2 Q E0
theorem pe_clr (c : ClR X.prog X.w X.K X.mg X.base k x ks sp) (hr : Room j X.A) (hk : k ≤ j) (hg : Gl X x) (hkw : PK X kws tk)
    (h1 : (backToKw pos (keywordEach kws X.env)).all (·.1.isSome) = true := by rfl) (h2 : (backToKw pos (keywordEach kws X.env)).filterMap (·.1) = ks := by rfl)
    (h3 : (x == ("__debug__" : Str)) = false := by decide) (h4 : ((backTo pos (starEach [] X.env)).any (·.1) || (backToKw pos (keywordEach kws X.env)).any (·.1.isNone)) = false := by rfl) :
    PE X (.Call (.Name x p) [] kws pos) (tCallKR sp tk) := by
  obtain ⟨f, fd, ps, F, m, kp, b⟩ := c.ex
  constructor
  intro pins s σ H Q I h
  apply wpAny_Call_Name_kw
  apply ld_glob I hg m _ h3
  apply PySem.W.callWith_KW0 (h₀ := X.base) I.ok.mod.kin kp h1 _ h4
  apply thn (hkw.run pos pins s σ H _ I h)
  intro ws s2 hh
  obtain ⟨zs, H2, I2, rz, q2⟩ := hh
  refine And.intro I2.kIn ?_
  rw [h2]
  exact run_fnk (us := []) (vs := []) F (hr.mono hk) b pass0 I2 .nil rz q2
end
theorem vals_rev : ∀ {zs : List V} {ws : List Value}, Vals zs ws → Vals zs.reverse ws.reverse
  | _, _, .nil => .nil
  | _, _, .cons r rr => by
    rw [List.reverse_cons, List.reverse_cons]
    exact (vals_rev rr).append (.cons r .nil)
section
variable {P : Program} {w : World} {K : PySem.W.Frag} {mg : Str → Option Value} {base : Heap}
theorem kbinds_rev {x qual p1 p2 : Str} {st : Stmt} {f : Addr} {fd : FuncData} (F : Fun K x qual st f fd)
    (h0 : ∀ (kV doc pm : Value) (an : Option Addr) (cdv ct u v : Value), bindArgs (PySem.W.fnOf x qual (defArgs st) (defBody st) (defScope st) .none kV doc pm an cdv ct) ⟨[u, v], []⟩ = pure [(p1, u), (p2, v)])
    (h2 : ∀ (kV doc pm : Value) (an : Option Addr) (cdv ct u v : Value), bindArgs (PySem.W.fnOf x qual (defArgs st) (defBody st) (defScope st) .none kV doc pm an cdv ct) ⟨[], [(p2, v), (p1, u)]⟩ = pure [(p1, u), (p2, v)])
    (h1 : ∀ (kV doc pm : Value) (an : Option Addr) (cdv ct u v : Value), bindArgs (PySem.W.fnOf x qual (defArgs st) (defBody st) (defScope st) .none kV doc pm an cdv ct) ⟨[u], [(p2, v)]⟩ = pure [(p1, u), (p2, v)]) :
    KBinds K fd [p1, p2] [p2, p1] (fun us ws => us ++ ws.reverse) (fun vs zs => vs ++ zs.reverse) := by
  obtain ⟨oc, od, kV, doc, pm, an, cdv, ct, osl, rfl, lk, hcd⟩ := F.ex
  constructor
  · intro s us ws _ hl
    match us, ws, hl with
    | [], [v, u], _ => exact .of_eq (h2 kV doc pm an cdv ct u v)
    | [u], [v], _ => exact .of_eq (h1 kV doc pm an cdv ct u v)
    | [u, v], [], _ => exact .of_eq (h0 kV doc pm an cdv ct u v)
    | [], [], hl => cases hl
    | [], [_], hl => cases hl
    | [], _ :: _ :: _ :: _, hl => simp at hl
    | [_], [], hl => cases hl
    | [_], _ :: _ :: _, hl => simp at hl
    | [_, _], _ :: _, hl => simp at hl
    | _ :: _ :: _ :: _, ws, hl => simp at hl
  · intro vs us zs ws r1 r2
    exact r1.append (vals_rev r2)
end
end VG
namespace M2
end M2
namespace FR
open PySem PySem.Spec PyProof.Rows L2 VG HD
def dQ (p : Q2) : PyData := .tuple [.int p.1, .int p.2]
theorem dpQ {K : PySem.W.Frag} {H : Hp} {t : Addr} {p : Q2} (h : SqT K H t (pV p)) : Dp K H (.ref t) (dQ p) := .tup h (.cons (.int _) (.cons (.int _) .nil))
theorem shQ (p : Q2) : SeqAt.shaped (dQ p) = true := rfl
theorem eqQ_self (p : Q2) : PyData.eqv (dQ p) (dQ p) = true := by
  simp [dQ, PyData.eqv, PyData.eqvAll]
theorem sqt {K : PySem.W.Frag} {H : Hp} {t : Addr} {xs : List V} (h : H t = some (.tup xs)) : SqT K H t xs := .inl (.inl h)
end FR
namespace FR
open PySem PySem.Spec PyProof.Rows L2 VG HD
theorem iteNe {x y : V} {A B : Prop} (e : x = y) (h : B) : if (!decide (x = y)) = true then A else B := by
  rw [decide_eq_true e]
  exact iteF h
end FR
namespace FR
open PySem PySem.Spec PyProof.Rows L2 VG HD
theorem ite_eq {c : Bool} (b : Bool) {A B : Prop} (e : c = b) (h : if b = true then A else B) : if c = true then A else B := by
  rw [e]
  exact h
end FR
namespace VG
open PySem PySem.Spec PyProof.Rows L2
end VG
namespace FR
open PySem PySem.Spec PyProof.Rows L2 VG HD
end FR
namespace VG
open PySem PySem.Spec PyProof.Rows L2
theorem units65 {k : Nat} {A : Around} (hr : Room k A) : A.units + 65 < cLine := by
  have := hr.un
  omega
end VG
namespace FR
/-- each q is t over B -/
def Ov (B : Int) : List Q2 → List Int → Prop
  | [], [] => True
  | q :: qs, t :: ts => (M2.Low q.1 q.2 ∧ q.1 * B = t * q.2) ∧ Ov B qs ts
  | _, _ => False
theorem fold_ov {B : Int} : ∀ (qs : List Q2) (ts : List Int) (a : Q2), M2.Low a.1 a.2 → Ov B qs ts → (qs.foldl M2.add a).1 * a.2 * B = (a.1 * B + a.2 * ts.sum) * (qs.foldl M2.add a).2
  | [], [], a, _, _ => by
    show a.1 * a.2 * B = (a.1 * B + a.2 * 0) * a.2
    grind
  | q :: qs, t :: ts, a, la, ⟨⟨lq, e⟩, h⟩ => by
    have ok := M2.add_ok la lq
    have ih := fold_ov qs ts (M2.add a q) ok.1 h
    rw [List.foldl_cons, List.sum_cons]
    generalize qs.foldl M2.add (M2.add a q) = R at ih
    generalize hb : M2.add a q = b at ih ok
    have n : b.2 * q.2 ≠ 0 := Int.mul_ne_zero (by have := ok.1.1; omega) (by have := lq.1; omega)
    apply Int.eq_of_mul_eq_mul_right n
    have e1 := ok.2
    generalize ts.sum = T at ih
    have s1 : R.1 * a.2 * B * (b.2 * q.2) = (R.1 * b.2 * B) * (a.2 * q.2) := by grind
    have s2 : (b.1 * B + b.2 * T) * R.2 * (a.2 * q.2) = (b.1 * (a.2 * q.2) * B + b.2 * T * (a.2 * q.2)) * R.2 := by grind
    have s3 : (a.1 * q.2 + q.1 * a.2) * b.2 * B = (a.1 * q.2 * B + (q.1 * B) * a.2) * b.2 := by grind
    rw [s1, ih, s2, e1, s3, e]
    grind
  | [], _ :: _, _, _, h => h.elim
  | _ :: _, [], _, _, h => h.elim
theorem sum_ov {B : Int} {qs : List Q2} {ts : List Int} (h : Ov B qs ts) : (sumQ qs).1 * B = ts.sum * (sumQ qs).2 := by
  have := fold_ov qs ts (0, 1) ⟨by decide, Nat.gcd_one_right _⟩ h
  show (qs.foldl M2.add (0, 1)).1 * B = ts.sum * (qs.foldl M2.add (0, 1)).2
  have e1 : (qs.foldl M2.add (0, 1)).1 * (1 : Int) * B = (qs.foldl M2.add (0, 1)).1 * B := by grind
  have e2 : ((0 : Int) * B + 1 * ts.sum) = ts.sum := by grind
  rw [← e1, ← e2]
  exact this
def topT (B : Int) (p : Q2) : Int := p.1 * (B / p.2)
theorem ov_tops {B : Int} : ∀ ps : List Q2, (∀ p ∈ ps, M2.Low p.1 p.2 ∧ p.2 ∣ B) → Ov B ps (ps.map (topT B))
  | [], _ => trivial
  | p :: ps, h => by
    have ⟨l, d⟩ := h p List.mem_cons_self
    refine ⟨⟨l, ?_⟩, ov_tops ps fun q hq => h q (List.mem_cons_of_mem _ hq)⟩
    have := Int.ediv_mul_cancel d
    show p.1 * B = p.1 * (B / p.2) * p.2
    rw [Int.mul_assoc, this]
open PySem PySem.Spec PyProof.Rows L2 VG HD
end FR
namespace FR
open PySem PySem.Spec PyProof.Rows L2 VG HD
theorem Frs.keep {K : PySem.W.Frag} {H H' : Hp} {p q : Addr} (hd : Hd p q H) (kp : Keep p q H H') : ∀ {vs : List V} {ps : List Q2}, Frs K H vs ps → Frs K H' vs ps
  | [], [], _ => trivial
  | _ :: _, _ :: _, ⟨⟨t, e1, h⟩, r⟩ => ⟨⟨t, e1, seqTK hd kp h⟩, Frs.keep hd kp r⟩
  | [], _ :: _, h => h.elim
  | _ :: _, [], h => h.elim
theorem hd_put {p q D : Addr} {H : Hp} {o : HO} (h : Hd p q H) (n1 : D ≠ p) (n2 : D ≠ q) : Hd p q (L2.upd H D o) := by
  obtain ⟨cs, st, h1, h2, h3⟩ := h
  exact ⟨cs, st, by rw [upd_ne n1.symm]; exact h1, by rw [upd_ne n2.symm]; exact h2, h3⟩
theorem shaped_ps : ∀ ps : List Q2, SeqAt.shaped (.tuple (ps.map dQ)) = true := by
  intro ps
  have h : ∀ ps : List Q2, PyData.canLayAll0 (ps.map dQ) = true ∧ PyData.depthAll (ps.map dQ) ≤ 1 := by
    intro ps
    induction ps with
    | nil => exact ⟨rfl, Nat.zero_le _⟩
    | cons p ps ih =>
      refine ⟨?_, ?_⟩
      · show ((PyData.canLay0 (.int p.1) && (PyData.canLay0 (.int p.2) && true)) && PyData.canLayAll0 (ps.map dQ)) = true
        rw [ih.1]
        rfl
      · show max (PyData.depth (dQ p)) (PyData.depthAll (ps.map dQ)) ≤ 1
        have : PyData.depth (dQ p) = 1 := rfl
        omega
  have ⟨h1, h2⟩ := h ps
  unfold SeqAt.shaped
  rw [Bool.and_eq_true]
  refine ⟨h1, decide_eq_true ?_⟩
  show PyData.depthAll (ps.map dQ) + 1 ≤ 64
  omega
theorem dpAll_ps {K : PySem.W.Frag} {H : Hp} : ∀ {vs : List V} {ps : List Q2}, Frs K H vs ps → DpAll K H vs (ps.map dQ)
  | [], [], _ => .nil
  | _ :: _, _ :: _, ⟨⟨t, e1, h⟩, r⟩ => by
    subst e1
    exact .cons (dpQ h) (dpAll_ps r)
  | [], _ :: _, h => h.elim
  | _ :: _, [], h => h.elim
end FR
namespace VG
open PySem PySem.Spec PyProof.Rows L2 HT
end VG
namespace FR
open PySem PySem.Spec PyProof.Rows L2 VG HD
theorem tyX_mono {K : PySem.W.Frag} {H H' : Hp} (e : Same H H') {v : V} {ty : String} (h : TyX K H v (.type ty)) : TyX K H' v (.type ty) := by
  cases h with
  | base b =>
    cases b with
    | non => exact .base .non
    | bl x => exact .base (.bl x)
    | int i => exact .base (.int i)
    | str x => exact .base (.str x)
    | flt x => exact .base (.flt x)
    | lst h => exact .base (.lst (e _ _ h))
    | frz h => exact .base (.frz (e _ _ h))
    | tup h => exact .base (.tup (e _ _ h))
    | dK h => exact .base (.dK (e _ _ h))
    | dT h => exact .base (.dT (e _ _ h))
  | byt b => exact .byt b
  | set h => exact .set (e _ _ h)
  | kList a b => exact .kList a b
  | kTuple a b => exact .kTuple a b
  | kDict a b => exact .kDict a b
  | fTuple h => exact .fTuple (e _ _ h)
  | fDict h => exact .fDict (e _ _ h)
theorem part_mono {K : PySem.W.Frag} {H H' : Hp} (e : Same H H') {v : V} {o : Option Int} (h : Part K H v o) : Part K H' v o := by
  rcases h with h | ⟨h1, ty, b1, b2, t, h2⟩
  · exact .inl h
  · exact .inr ⟨h1, ty, b1, b2, tyX_mono e t, h2⟩
/-- what is_fraction says of a value -/
def OddV (K : PySem.W.Frag) (H : Hp) (v : V) (r : Bool) : Prop :=
  (∃ ty : String, TyX K H v (.type ty) ∧ kitB ty "tuple" = some false ∧ r = false) ∨ (∃ t xs, v = .ref t ∧ SqT K H t xs ∧ xs.length ≠ 2 ∧ r = false) ∨
  ∃ t x y o1 o2, v = .ref t ∧ SqT K H t [x, y] ∧ Part K H x o1 ∧ Part K H y o2 ∧ r = okFr o1 o2 ∧ ∀ b, o2 = some b → b.natAbs < 2 ^ 900
theorem OddV.mono {K : PySem.W.Frag} {H H' : Hp} (e : Same H H') {v : V} {r : Bool} (h : OddV K H v r) : OddV K H' v r := by
  rcases h with ⟨ty, a, b⟩ | ⟨t, xs, a, b, c⟩ | ⟨t, x, y, o1, o2, a, b, c, d, f⟩
  · exact .inl ⟨ty, tyX_mono e a, b⟩
  · exact .inr (.inl ⟨t, xs, a, seqT e b, c⟩)
  · exact .inr (.inr ⟨t, x, y, o1, o2, a, seqT e b, part_mono e c, part_mono e d, f⟩)
def frz (p q : Addr) (H : Hp) : Hp := fun b => if b = p ∨ b = q then none else H b
theorem frz_at {p q t : Addr} {H : Hp} {o : HO} (h : H t = some o) (n : t ≠ p ∧ t ≠ q) : frz p q H t = some o := by
  unfold frz
  rw [if_neg (fun z => z.elim n.1 n.2)]
  exact h
theorem frz_keep {p q : Addr} {H H' : Hp} (h : Keep p q H H') : Same (frz p q H) H' := fun b o e => by
  unfold frz at e
  by_cases z : b = p ∨ b = q
  · rw [if_pos z] at e
    cases e
  · rw [if_neg z] at e
    exact h b o (fun y => z (.inl y)) (fun y => z (.inr y)) e
theorem kitN1 : kitB "NoneType" "int" = some false := by decide +kernel
theorem kitN2 : kitB "NoneType" "bool" = some false := by decide +kernel
theorem kitB1 : kitB "bool" "int" = some true := by decide +kernel
theorem kitB2 : kitB "bool" "bool" = some true := by decide +kernel
theorem kitS1 : kitB "str" "int" = some false := by decide +kernel
theorem kitS2 : kitB "str" "bool" = some false := by decide +kernel
theorem kitT1 : kitB "tuple" "int" = some false := by decide +kernel
theorem kitT2 : kitB "tuple" "bool" = some false := by decide +kernel
theorem all_cons {P : V → Prop} {x : V} {xs : List V} (h : P x) (t : ∀ v ∈ xs, P v) : ∀ v ∈ x :: xs, P v := fun v hv => by
  rcases List.mem_cons.mp hv with z | z
  · rw [z]; exact h
  · exact t v z
end FR
namespace FR
open PySem PySem.Spec PyProof.Rows L2 VG HD
theorem put1 {t : Addr} {H : Hp} {o : HO} (n : H t = none) : Same H (L2.upd H t o) ∧ L2.upd H t o t = some o := ⟨same_upd n, upd_same⟩
def spLaw (K : PySem.W.Frag) : Sp := fun vs H Q _ => ∃ (a : Addr) (ns : List Int), vs = [.ref a] ∧ SqL K H a (ns.map V.int) ∧ ns.length ≤ 63 ∧ ∀ H', Q (.bl true) H'
end FR
namespace CK
open PySem PySem.Spec PyProof.Rows L2 VG FR
def spNum (K : PySem.W.Frag) : Sp := fun vs H Q _ => ∃ a : Int, vs = [.int a] ∧ Q (.bl (decide (0 ≤ a))) H
def spBelow : Sp := fun vs H Q _ => ∃ a n : Int, vs = [.int a, .int n] ∧ Q (.bl (decide (0 ≤ a ∧ a < n))) H
/-- numbers below, all of them right -/
def spNumsBelow (K : PySem.W.Frag) : Sp := fun vs H Q _ => ∃ (t : Addr) (cs : List Int) (n : Int), vs = [.ref t, .int n] ∧ SqT K H t (cs.map V.int) ∧ cs.length ≤ 1000 ∧ (∀ c ∈ cs, 0 ≤ c ∧ c < n) ∧ ∀ H', Same H H' → Q (.bl true) H'
def Asc : List Int → Prop
  | a :: b :: r => a < b ∧ Asc (b :: r)
  | _ => True
def LtV (x y : V) : Prop := (∃ a b : Int, x = .int a ∧ y = .int b ∧ a < b) ∨ ∃ a b : Str, x = .str a ∧ y = .str b ∧ a.cps.toList < b.cps.toList
def AscV (xs : List V) : Prop := ∀ (i : Nat) (x y : V), xs[i]? = some x → xs[i + 1]? = some y → LtV x y
def spAsc (K : PySem.W.Frag) : Sp := fun vs H Q _ => ∃ (t : Addr) (xs : List V), vs = [.ref t] ∧ SqT K H t xs ∧ xs.length ≤ 1000 ∧ AscV xs ∧ ∀ H', Same H H' → Q (.bl true) H'
def spLot (K : PySem.W.Frag) : Sp := fun vs H Q _ => ∃ (t : Addr) (cs : List Int) (n : Int), vs = [.ref t, .int n] ∧ SqT K H t (cs.map V.int) ∧ cs.length ≤ 1000 ∧ (∀ c ∈ cs, 0 ≤ c ∧ c < n) ∧ Asc cs ∧ ∀ H', Same H H' → Q (.bl true) H'
theorem Asc.get : ∀ {cs : List Int} {i : Nat} {a b : Int}, Asc cs → cs[i]? = some a → cs[i + 1]? = some b → a < b
  | [], _, _, _, _, h, _ => by simp at h
  | [_], 0, _, _, _, _, h => by simp at h
  | [_], _ + 1, _, _, _, h, _ => by simp at h
  | x :: y :: r, 0, a, b, h, ha, hb => by
    have e1 : x = a := Option.some.inj ha
    have e2 : y = b := Option.some.inj hb
    subst e1 e2
    exact h.1
  | x :: y :: r, i + 1, a, b, h, ha, hb => Asc.get (cs := y :: r) (i := i) h.2 ha hb
theorem asc_ints {cs : List Int} (h : Asc cs) : AscV (cs.map V.int) := by
  intro i x y hx hy
  rw [List.getElem?_map] at hx hy
  obtain ⟨a, ea, rfl⟩ := Option.map_eq_some_iff.mp hx
  obtain ⟨b, eb, rfl⟩ := Option.map_eq_some_iff.mp hy
  exact .inl ⟨a, b, rfl, rfl, h.get ea eb⟩
theorem cut1 {xs : List V} : cutV xs (some 1) none = xs.drop 1 := by
  unfold cutV
  have e : HT.sIx xs.length 0 (some 1) = min 1 xs.length := HT.sIx_nat xs.length 0 1
  rw [e, HT.sIx_none]
  cases xs with
  | nil => rfl
  | cons x xs =>
    have : min 1 (x :: xs).length = 1 := by rw [List.length_cons]; omega
    rw [this]
    exact List.take_of_length_le (by rw [List.length_drop]; omega)
end CK
namespace K14
open PySem PySem.Spec PyProof.Rows L2 VG FR CK
def topS (i : Nat) : Stmt := PySem.Challenge.pw_centsatonce_k14_whole_reckonings_and_the.main.body.getD i (.Pass ⟨0, 0, 0, 0⟩)
abbrev s_is_an_integer : Stmt := topS 4
abbrev N_is_an_integer : List Str := ["value"]
theorem sc_is_an_integer : FnScope N_is_an_integer ["value"] (defScope s_is_an_integer) := ⟨rfl, rfl, rfl, by decide +kernel, rfl, by decide +kernel, by decide +kernel⟩
abbrev s_is_number : Stmt := topS 5
abbrev N_is_number : List Str := ["value"]
theorem sc_is_number : FnScope N_is_number ["value"] (defScope s_is_number) := ⟨rfl, rfl, rfl, by decide +kernel, rfl, by decide +kernel, by decide +kernel⟩
abbrev s_is_number_below : Stmt := topS 6
abbrev N_is_number_below : List Str := ["value", "many"]
theorem sc_is_number_below : FnScope N_is_number_below ["value", "many"] (defScope s_is_number_below) := ⟨rfl, rfl, rfl, by decide +kernel, rfl, by decide +kernel, by decide +kernel⟩
abbrev s_are_numbers_below : Stmt := topS 10
abbrev N_are_numbers_below : List Str := ["value", "many", "item"]
theorem sc_are_numbers_below : FnScope N_are_numbers_below ["value", "many"] (defScope s_are_numbers_below) := ⟨rfl, rfl, rfl, by decide +kernel, rfl, by decide +kernel, by decide +kernel⟩
abbrev s_is_ascending : Stmt := topS 11
abbrev N_is_ascending : List Str := ["some", "one", "other"]
theorem sc_is_ascending : FnScope N_is_ascending ["some"] (defScope s_is_ascending) := ⟨rfl, rfl, rfl, by decide +kernel, rfl, by decide +kernel, by decide +kernel⟩
abbrev s_is_lot_below : Stmt := topS 12
abbrev N_is_lot_below : List Str := ["value", "many"]
theorem sc_is_lot_below : FnScope N_is_lot_below ["value", "many"] (defScope s_is_lot_below) := ⟨rfl, rfl, rfl, by decide +kernel, rfl, by decide +kernel, by decide +kernel⟩
section
variable {P : Program} {w : World} {K : PySem.W.Frag} {mg : Str → Option Value} {base : Heap}
theorem ok_is_an_integer {f : Addr} {fd : FuncData} (F : Fun K "is_an_integer" "is_an_integer" s_is_an_integer f fd) (z_isinstance : mg "isinstance" = none) (z_int : mg "int" = none) (z_bool : mg "bool" = none) :
    FnOk P w K mg base CX0 1 f fd ["value"] (spInt K) := by
  refine F.ok sc_is_an_integer (fun vs H Q E h => ?_) (fun cdv A outer s H vs Q E hr h => ?_)
  · obtain ⟨v, o, rfl, _⟩ := h
    rfl
  · obtain ⟨v, o, rfl, hp, q⟩ := h
    refine ⟨_, (pss_one (ps_ret (pe_and (pe_callB call_isi (by rfl) z_isinstance (by decide +kernel) (pa_cons (pv 0) (pa_cons (pe_bltn (v := .ty "int") (by rfl) z_int (by decide +kernel) rfl) pa_nil))) (pe_one (pe_not (pe_callB call_isi (by rfl) z_isinstance (by decide +kernel) (pa_cons (pv 0) (pa_cons (pe_bltn (v := .ty "bool") (by rfl) z_bool (by decide +kernel) rfl) pa_nil)))))))), ?_⟩
    rcases hp with ⟨a, rfl, rfl⟩ | ⟨rfl, ty, b1, b2, t, k1, k2, e⟩
    · refine ⟨_, rfl, _, _, _, _, true, rfl, .ty "int", .base (.int a), kb1, true, rfl, iteT ?_⟩
      exact ⟨_, rfl, _, _, _, _, false, rfl, .ty "bool", .base (.int a), kb2, _, rfl, q⟩
    · refine ⟨_, rfl, _, _, _, _, b1, rfl, .ty "int", t, kit_ty k1, b1, rfl, ?_⟩
      cases b1 with
      | false => exact iteF q
      | true =>
        refine iteT ⟨_, rfl, _, _, _, _, b2, rfl, .ty "bool", t, kit_ty k2, _, rfl, ?_⟩
        have e2 : (!b2) = false := e
        rw [e2]
        exact q
theorem ok_is_number {f : Addr} {fd : FuncData} (F : Fun K "is_number" "is_number" s_is_number f fd) (C_is_an_integer : Cl P w K mg base 1 "is_an_integer" (spInt K)) : FnOk P w K mg base CX0 2 f fd ["value"] (spNum K) := by
  refine F.ok sc_is_number (fun vs H Q E h => ?_) (fun cdv A outer s H vs Q E hr h => ?_)
  · obtain ⟨_, rfl, _⟩ := h
    rfl
  · obtain ⟨a, rfl, q⟩ := h
    refine ⟨_, (pss_one (ps_ret (pe_and (pe_cl C_is_an_integer hr (by decide) rfl (pa_cons (pv 0) pa_nil)) (pe_one (pe_cmpR op_ge (pv 0) pe_int (nomark _)))))), ?_⟩
    refine ⟨_, rfl, _, some a, rfl, .inl ⟨_, rfl, rfl⟩, true, rfl, iteT ?_⟩
    exact ⟨_, rfl, _, _, rfl, rfl, q⟩
theorem ok_is_number_below {f : Addr} {fd : FuncData} (F : Fun K "is_number_below" "is_number_below" s_is_number_below f fd) (C_is_number : Cl P w K mg base 2 "is_number" (spNum K)) : FnOk P w K mg base CX0 3 f fd ["value", "many"] spBelow := by
  refine F.ok sc_is_number_below (fun vs H Q E h => ?_) (fun cdv A outer s H vs Q E hr h => ?_)
  · obtain ⟨_, _, rfl, _⟩ := h
    rfl
  · obtain ⟨a, n, rfl, q⟩ := h
    refine ⟨_, (pss_one (ps_ret (pe_and (pe_cl C_is_number hr (by decide) rfl (pa_cons (pv 0) pa_nil)) (pe_one (pe_cmpR op_lt (pv 0) (pv 1) (nomark _)))))), ?_⟩
    refine ⟨_, rfl, a, rfl, _, rfl, ite2 (fun e => ?_) (fun e => ?_)⟩
    · have ha := of_decide_eq_true e
      refine ⟨_, rfl, _, rfl, _, _, rfl, rfl, ?_⟩
      have e2 : decide (a < n) = decide (0 ≤ a ∧ a < n) := decide_eq_decide.mpr ⟨fun z => ⟨ha, z⟩, fun z => z.2⟩
      show Q (.bl (decide (a < n))) H
      rw [e2]
      exact q
    · have ha : ¬ 0 ≤ a := fun z => e (decide_eq_true z)
      have e1 : decide (0 ≤ a ∧ a < n) = false := decide_eq_false (fun z => ha z.1)
      rw [e1] at q
      exact q
theorem ok_are_numbers_below {f : Addr} {fd : FuncData} (F : Fun K "are_numbers_below" "are_numbers_below" s_are_numbers_below f fd) (C_is_number_below : Cl P w K mg base 3 "is_number_below" spBelow) (z_isinstance : mg "isinstance" = none) (z_tuple : mg "tuple" = none) (z_all : mg "all" = none) :
    FnOk P w K mg base CX0 4 f fd ["value", "many"] (spNumsBelow K) := by
  refine F.ok sc_are_numbers_below (fun vs H Q E h => ?_) (fun cdv A outer s H vs Q E hr h => ?_)
  · obtain ⟨_, _, _, rfl, _⟩ := h
    rfl
  · obtain ⟨t, cs, n, rfl, hS, hl, hc, fin⟩ := h
    refine ⟨_, (pss_one (ps_ret (pe_and (pe_callB call_isi (by rfl) z_isinstance (by decide +kernel) (pa_cons (pv 0) (pa_cons (pe_bltn (v := .ty "tuple") (by rfl) z_tuple (by decide +kernel) rfl) pa_nil))) (pe_one (pe_callB (cr_all rfl) (by rfl) z_all (by decide +kernel) (pa_cons (pe_lc (own := [("item", 2)]) (by rfl) sc_are_numbers_below.nd (pi_tup (pv 0)) (blkOk_by (own := [("item", 2)]) (N := N_are_numbers_below) (sc := defScope s_are_numbers_below) (by decide +kernel)) (fun _ _ _ _ _ => (pg_name (i := 2) sc_are_numbers_below.nd rfl (.inl rfl))) (fun _ _ _ _ _ => pts_nil) (fun _ _ _ _ _ => (pe_cl C_is_number_below hr (by decide) rfl (pa_cons (pv 2) (pa_cons (pv 1) pa_nil))))) pa_nil)))))), ?_⟩
    refine ⟨_, rfl, _, _, _, _, true, rfl, .ty "tuple", tyT hS, kit_ty (by decide +kernel), true, rfl, iteT ?_⟩
    refine ⟨_, rfl, t, rfl, ⟨_, hS⟩, fun D nD => ?_⟩
    refine lc_it (walk_tup (K := K) (a := t) (xs := cs.map V.int)) (fun i H' => Same H H' ∧ ∃ bs : List Bool, bs.length = i ∧ bs.all id = true ∧ H' D = some (.lst (bs.map V.bl))) ⟨same_upd nD, [], rfl, rfl, upd_same⟩ (fun i H' _ h => seqT h.1 hS) ?_ ?_
    · rintro i v H1 H2 hi ⟨sm, bs, el, ea, hD⟩ ⟨e2, ex⟩
      subst e2
      rw [List.getElem?_map] at ex
      obtain ⟨c, ec, rfl⟩ := Option.map_eq_some_iff.mp ex
      have ⟨c0, c1⟩ := hc c (List.mem_of_getElem? ec)
      refine ⟨rfl, _, rfl, _, rfl, c, n, rfl, ?_⟩
      have il : i < cs.length := (List.getElem?_eq_some_iff.mp ec).1
      rw [decide_eq_true (⟨c0, c1⟩ : 0 ≤ c ∧ c < n)]
      refine ⟨bs.map V.bl, hD, ?_, HD.same_put sm nD, bs ++ [true], by rw [List.length_append, el]; rfl, ?_, ?_⟩
      · rw [List.length_map]
        have : sizeLine = 16777216 := by decide
        omega
      · rw [List.all_append, ea]
        rfl
      · rw [upd_same, List.map_append]
        rfl
    · rintro H1 ⟨sm, bs, el, ea, hD⟩
      refine ⟨D, bs, rfl, .inl (.inl hD), ?_⟩
      rw [ea]
      exact fin H1 sm
theorem ok_is_ascending {f : Addr} {fd : FuncData} (F : Fun K "is_ascending" "is_ascending" s_is_ascending f fd) (z_all : mg "all" = none) (z_zip : mg "zip" = none) : FnOk P w K mg base CX0 1 f fd ["some"] (spAsc K) := by
  refine F.ok sc_is_ascending (fun vs H Q E h => ?_) (fun cdv A outer s H vs Q E hr h => ?_)
  · obtain ⟨_, _, rfl, _⟩ := h
    rfl
  · obtain ⟨t, xs, rfl, hS, hl, hasc, fin⟩ := h
    refine ⟨_, (pss_one (ps_ret (pe_callB (cr_all rfl) (by rfl) z_all (by decide +kernel) (pa_cons (pe_lc (own := [("one", 1), ("other", 2)]) (by rfl) sc_is_ascending.nd (RZ.pi_zipA (by rfl) z_zip (pa_cons (pv 0) (pa_cons (pe_meet (pe_slice sl_tupA (pv 0) (po_some pe_int) po_none)) pa_nil))) (blkOk_by (own := [("one", 1), ("other", 2)]) (N := N_is_ascending) (sc := defScope s_is_ascending) (by decide +kernel)) (fun _ _ _ _ _ => (show PG _ _ (gTup K 2 _) from pg_tup rfl (pgs_cons (pg_name (i := 1) sc_is_ascending.nd rfl (.inl rfl)) (pgs_cons (pg_name (i := 2) sc_is_ascending.nd rfl (.inl rfl)) pgs_nil)))) (fun _ _ _ _ _ => pts_nil) (fun _ _ _ _ _ => (pe_cmpR (op_lt.or op_lt_str) (pv 1) (pv 2) (nomark _)))) pa_nil)))), ?_⟩
    refine ⟨_, rfl, fun v H' => ∃ u, v = .ref u ∧ Same H H' ∧ SqT K H' u (xs.drop 1), ?_, ?_⟩
    · refine ⟨_, rfl, 1, rfl, ?_⟩
      refine ⟨t, xs, rfl, hS, fun z => ?_, fun z u nu => ?_⟩
      · have e : HT.sIx xs.length 0 (some 1) = min 1 xs.length := HT.sIx_nat xs.length 0 1
        have e0 : xs.length = 0 := by
          have := z.1
          rw [e] at this
          omega
        have x0 : xs = [] := List.eq_nil_of_length_eq_zero e0
        subst x0
        exact ⟨t, rfl, Same.refl _, hS⟩
      · refine ⟨u, rfl, same_upd nu, ?_⟩
        have h := sqt (K := K) (upd_same (H := H) (a := u) (o := .tup (cutV xs (some 1) none)))
        rw [cut1] at h ⊢
        exact h
    rintro v H1 ⟨u, rfl, sm1, hU⟩
    have hS1 := seqT sm1 hS
    refine ⟨t, u, xs, xs.drop 1, rfl, .inr ⟨hS1, hU, fun D nD => ?_⟩⟩
    refine lc_it (walk_zipT (K := K) (a := t) (b := u) (xs := xs) (ys := xs.drop 1) (n := xs.length - 1) (by rw [List.length_drop]; omega)) (fun i H' => Same H1 H' ∧ ∃ bs : List Bool, bs.length = i ∧ bs.all id = true ∧ H' D = some (.lst (bs.map V.bl))) ⟨same_upd nD, [], rfl, rfl, upd_same⟩ (fun i H' _ h => ⟨seqT h.1 hS1, seqT h.1 hU⟩) ?_ ?_
    · rintro i v H2 H3 hi ⟨sm, bs, el, ea, hD⟩ ⟨T, x, y, rfl, nT, rfl, ex, ey⟩
      have ey2 : xs[i + 1]? = some y := by
        have z : (xs.drop 1)[i]? = some y := ey
        rw [List.getElem?_drop, Nat.add_comm] at z
        exact z
      have sT := same_upd (o := .tup [x, y]) nT
      have hlt := hasc i x y ex ey2
      have fin2 : ∃ acc : List V, (L2.upd H2 T (.tup [x, y])) D = some (.lst acc) ∧ acc.length < sizeLine ∧ Same H1 (L2.upd (L2.upd H2 T (.tup [x, y])) D (.lst (acc ++ [V.bl true]))) ∧ ∃ bs : List Bool, bs.length = i + 1 ∧ bs.all id = true ∧ (L2.upd (L2.upd H2 T (.tup [x, y])) D (.lst (acc ++ [V.bl true]))) D = some (.lst (bs.map V.bl)) := by
        refine ⟨bs.map V.bl, sT _ _ hD, ?_, HD.same_put (sm.trans sT) nD, bs ++ [true], by rw [List.length_append, el]; rfl, ?_, ?_⟩
        · have : sizeLine = 16777216 := by decide
          rw [List.length_map]
          omega
        · rw [List.all_append, ea]
          rfl
        · rw [upd_same, List.map_append]
          rfl
      obtain ⟨acc, f1, f2, f3, f4⟩ := fin2
      refine ⟨T, _, rfl, .inl (.inl upd_same), rfl, _, _, rfl, _, _, rfl, rfl, rfl, _, rfl, _, rfl, ?_⟩
      rcases hlt with ⟨a, b, rfl, rfl, ab⟩ | ⟨a, b, rfl, rfl, ab⟩
      · refine .inl ⟨_, _, rfl, rfl, acc, f1, f2, ?_⟩
        have e : decide (a < b) = true := decide_eq_true ab
        simp only [e]
        exact ⟨f3, f4⟩
      · refine .inr ⟨a, b, rfl, rfl, acc, f1, f2, ?_⟩
        have e : decide (a.cps.toList < b.cps.toList) = true := decide_eq_true ab
        rw [e]
        exact ⟨f3, f4⟩
    · rintro H2 ⟨sm, bs, el, ea, hD⟩
      refine ⟨D, bs, rfl, .inl (.inl hD), ?_⟩
      rw [ea]
      exact fin H2 (sm1.trans sm)
theorem ok_is_lot_below {f : Addr} {fd : FuncData} (F : Fun K "is_lot_below" "is_lot_below" s_is_lot_below f fd) (C_are_numbers_below : Cl P w K mg base 4 "are_numbers_below" (spNumsBelow K)) (C_is_ascending : Cl P w K mg base 1 "is_ascending" (spAsc K)) :
    FnOk P w K mg base CX0 5 f fd ["value", "many"] (spLot K) := by
  refine F.ok sc_is_lot_below (fun vs H Q E h => ?_) (fun cdv A outer s H vs Q E hr h => ?_)
  · obtain ⟨_, _, _, rfl, _⟩ := h
    rfl
  · obtain ⟨t, cs, n, rfl, hS, hl, hc, ha, fin⟩ := h
    refine ⟨_, (pss_one (ps_ret (pe_and (pe_cl C_are_numbers_below hr (by decide) rfl (pa_cons (pv 0) (pa_cons (pv 1) pa_nil))) (pe_one (pe_cl C_is_ascending hr (by decide) rfl (pa_cons (pv 0) pa_nil)))))), ?_⟩
    refine ⟨_, rfl, _, rfl, t, cs, n, rfl, hS, hl, hc, fun H1 sm => ⟨true, rfl, iteT ?_⟩⟩
    exact ⟨_, rfl, t, _, rfl, seqT sm hS, by rw [List.length_map]; exact hl, asc_ints ha, fun H2 sm2 => fin H2 (sm.trans sm2)⟩
end
end K14
namespace VG
open PySem PySem.Spec PyProof.Rows L2
theorem meets_enum1 {v : Value} {o : Obj} {H : Heap → Prop} (B : Begins v o H) :
    Meets (Builtin.«enumerate.__new__» ⟨[.type "enumerate", v], []⟩) (fun _ R s => H s.heap ∧
      R (.ok (.ret (.ref (s.heap.push o).objs.size))) { s with heap := (s.heap.push o).push { cls := .type "enumerate", data := .fields #[.none, .bool false, .ref s.heap.objs.size, rawInt 0, .none, .none] } }) :=
  .of_wp fun prog w A R s h => by
    obtain ⟨hp, g, d, tk, os⟩ := s
    obtain ⟨h1, h⟩ := h
    have hsub := sub_enumerate
    have it1 : ∀ {A' : Around} {E : Value → Shared → Prop} {Q : Value → Shared → Prop}, Q (.ref hp.objs.size) ⟨hp.push o, g, d, tk, os⟩ → wpAny (model prog w) A' (pyIter v) Q E ⟨hp, g, d, tk, os⟩ :=
      fun q => B.iter prog w _ _ ⟨hp, g, d, tk, os⟩ _ h1 q
    wp_walk using it1
    refine wpAny_stack_any fun st => wpAny_pure ?_
    split
    · rename_i c _ _ _ _ _
      cases (c == Value.type "enumerate")
      · wp_walk using it1
        exact ⟨_, rfl, h⟩
      · wp_walk using it1
        exact ⟨_, rfl, h⟩
    · wp_walk using it1
      exact ⟨_, rfl, h⟩
section
variable {prog : Program} {w : World} {A : Around} {E : Value → Shared → Prop} {s : Shared}
theorem enum1 {v : Value} {o : Obj} {H : Heap → Prop} {Q : Value → Shared → Prop} (B : Begins v o H) (h1 : H s.heap)
    (h : ∀ h', IsEnum h' (s.heap.objs.size + 1) s.heap.objs.size 0 .none → h'.get? s.heap.objs.size = some o → (∀ b o, s.heap.get? b = some o → h'.get? b = some o) → Q (.ref (s.heap.objs.size + 1)) { s with heap := h' }) :
    wpAny (model prog w) A (call (.type "enumerate") [v]) Q E s := by
  refine callType_new F.called_enumerate (by decide) (F.typeCall_enumerate_1 _) (F.newCall_enumerate_1 _) (fun obj => F.args_object_init_2 obj _) F.entry_enumerate_new (meets_enum1 B) ⟨h1, ?_⟩
  have hz : (s.heap.push o).objs.size = s.heap.objs.size + 1 := Heap.size_push ..
  show _ ∧ _
  rw [hz]
  have he : IsEnum ((s.heap.push o).push { cls := .type "enumerate", data := .fields #[.none, .bool false, .ref s.heap.objs.size, rawInt 0, .none, .none] }) (s.heap.objs.size + 1) s.heap.objs.size 0 .none := by
    have q := Heap.get?_push_size (s.heap.push o) (o := { cls := .type "enumerate", data := .fields #[.none, .bool false, .ref s.heap.objs.size, rawInt 0, .none, .none] }) rfl
    rw [hz] at q
    exact q
  exact ⟨⟨_, he, rfl⟩, h _ he (Heap.get?_push_of_some _ (Heap.get?_push_size _ B.free)) fun b o x => Heap.get?_push_of_some _ (Heap.get?_push_of_some _ x)⟩
end
/-- the tuple at a, each item in a new pair behind its index -/
def IteT (K : PySem.W.Frag) (a : Addr) : It :=
  ⟨fun i H => ∃ (xs : List V) (x : V), SqT K H a xs ∧ xs[i]? = some x, fun i H v H' => ∃ T x, v = .ref T ∧ H T = none ∧ H' = upd H T (.tup [.int (i : Nat), x]) ∧ ∀ xs, SqT K H a xs → xs[i]? = some x, fun i H => ∃ xs : List V, SqT K H a xs ∧ xs.length ≤ i⟩
theorem turn_enumT {P : Program} {w : World} {K : PySem.W.Frag} {elts : List Expr} {kk : Nat} {tpos : Pos} (a e it : Addr) :
    Turn P w K (.Tuple elts kk tpos) (IteT K a) [e, it] e (fun i h => (∃ old, IsEnum h e it ((i : Nat) : Int) old) ∧ h.IsTupleIter it a i ∧ e ≠ it ∧ a ≠ it ∧ e ≠ a) where
  mem := by simp
  obj := fun i h st b hb => by
    obtain ⟨⟨old, he⟩, ⟨o, ho, hc, hd⟩, _⟩ := st
    have e' : b = e ∨ b = it := by simpa using hb
    rcases e' with z | z
    · subst z
      exact ⟨_, he, fun v q => nomatch q⟩
    · subst z
      exact ⟨o, ho, fun v q => by rw [hd] at q; cases q⟩
  keep := fun i h h' st k => let ⟨⟨old, he⟩, hi, r⟩ := st; ⟨⟨old, k e (by simp) _ he⟩, hi.at fun o q => k it (by simp) o q, r⟩
  item := by
    intro X hP hw hK hc i pins s σ H E I hf st hg
    subst hP hw hK
    obtain ⟨⟨old, he⟩, hit, hne, hai, hea⟩ := st
    obtain ⟨xs, x, hq, hx⟩ := hg
    obtain ⟨its, rv, p, hz⟩ := I.tuple hq
    obtain ⟨u, hu, ru⟩ := rv.get hx
    have hel : e < s.heap.objs.size := Heap.lt_size he
    have hil : it < s.heap.objs.size := by obtain ⟨_, q, _⟩ := hit; exact Heap.lt_size q
    have hd := I.ok.hd hc
    have hlt : i < its.toArray.size := by
      have := (List.getElem?_eq_some_iff.mp hu).1
      simpa using this
    have st0 : s.heap.IsTupleIter it a i ∧ s.heap.IsTuple a its.toArray := ⟨hit, p⟩
    have nin : e ∉ [it, a] := fun z => by
      rcases List.mem_cons.mp z with z | z
      · exact hne z
      · exact hea (List.mem_singleton.mp z)
    refine wpAny_pyNext_enum_itemD (fp := [it, a]) (n := its.toArray.size) (P := fun i v => its.toArray[i]? = some v) (St := fun i h => h.IsTupleIter it a i ∧ h.IsTuple a its.toArray) (Draws.tuple (A := X.A.in1) (show X.A.in1.handled = none from hd) it a hai its.toArray) he st0 hlt hne nin fun u' h' tk hP' ho st' hT hsz hk => ?_
    have eu : u' = u := by
      have h1 : its.toArray[i]? = some u' := hP'
      have h2 : its.toArray[i]? = some u := by simpa using hu
      rw [h1] at h2
      exact Option.some.inj h2
    subst eu
    refine ⟨_, rfl, wpAny_letOwnedTupleGo_enum (s := { s with heap := h', toks := tk + 1 }) ho fun h'' he' sb => ?_⟩
    have hT2 : h''.get? s.heap.objs.size = some { cls := .type "tuple", data := .seq #[.int i tk, u'] } := (sb.2 _ (Nat.ne_of_gt hel)).trans hT
    have new : ObjOk X.prog X.w (upd H s.heap.objs.size (.tup [.int (i : Nat), x])) h'' s.heap.objs.size (.tup [.int (i : Nat), x]) :=
      ⟨by show 2 ≤ sizeLine; decide, [.int i tk, u'], .cons ⟨_, rfl⟩ (.cons ru .nil), ⟨_, hT2, rfl, _, rfl⟩⟩
    have I1 : Inv X pins σ (upd H s.heap.objs.size (.tup [.int (i : Nat), x])) { s with heap := h'', toks := tk + 1 } :=
      I.turnedNew (ch := [e, it]) (fun b ob hb q => (sb.2 b (fun z => hb (by simp [z]))).trans (hk b ob (fun z => hb (by simp [z])) (fun z => hb (by simp [z])) q)) hf (Nat.le_refl _) new
    refine ⟨.ref s.heap.objs.size, _, I1, rfl, ⟨_, x, rfl, I.hok.fresh (Nat.le_refl _), rfl, fun ys hy => by rw [I.tuple_inj hy hq]; exact hx⟩, ⟨⟨u', ?_⟩, st'.1.at fun o q => (sb.2 it (Ne.symm hne)).trans q, hne, hai, hea⟩, fun b hb => ?_⟩
    · have e1 : ((i + 1 : Nat) : Int) = (i : Int) + 1 := by omega
      rw [e1]
      exact he'
    · have hb' : b < s.heap.objs.size := by
        have e' : b = e ∨ b = it := by simpa using hb
        rcases e' with z | z
        · rw [z]; exact hel
        · rw [z]; exact hil
      rw [upd_ne (Nat.ne_of_lt hb')]
      exact (hf b hb).1
  done := by
    intro X hP hw hK hc i pins s σ H E I hf st hg
    subst hP hw hK
    obtain ⟨⟨old, he⟩, hit, hne, hai, hea⟩ := st
    obtain ⟨xs, hq, hx⟩ := hg
    obtain ⟨its, rv, p, hz⟩ := I.tuple hq
    obtain ⟨f0, f1, f2, f3, f4, f5⟩ := hf it (by simp)
    have hl := rv.length
    have hT : s.TypeIs (.ref e) "enumerate" := ⟨_, he, rfl⟩
    unfold pyNext
    refine wpAny_bind (wpAny_attempt (wpAny_callSpecial?_slot (name := Str.ofString "__next__") hT F.slot_enumerate_next (wpAny_call_entry F.slot_enumerate_next hT F.entry_enumerate_next ?_ (F.args_enumerate_next_1 _))))
    show wpAny _ _ (field (.ref e) 2 >>= _) _ _ _
    refine wpAny_bind (wpAny_field he rfl (x := .ref it) rfl ?_)
    refine wpAny_bind (wpAny_nextOf_tuple_end (I.ok.hd hc) hit p (by simp; omega) fun h' x' he' hx' => ?_)
    obtain ⟨o, ho, hc'⟩ := hx'
    refine wpAny_bind (wpAny_isInstance (T := "StopIteration") (b := true) ⟨o, ho, hc'⟩ isSubtype_stop ?_)
    exact wpAny_pure ⟨rfl, I.turned (t' := s.toks) (fun b o hb q => he' b o hb q) f0 f1 f3 f4 f5⟩
  self := fun A i s Q E st h => let ⟨⟨_, he⟩, _⟩ := st; wpAny_pyIter_enum he h
def iEnumT (K : PySem.W.Frag) (ta : TA) : TI := fun σ H R => ta σ H fun vs H1 => ∃ a xs, vs = [.ref a] ∧ SqT K H1 a xs ∧ R (IteT K a) H1
theorem pi_enumT {X : Cx} {e : Expr} {ta : TA} {p pos tpos : Pos} {elts : List Expr} {kk : Nat} (hg : Gl X "enumerate") (hm : X.mg "enumerate" = none) (ha : PA X [e] ta) (hs : starEach [e] X.env = [(false, eval e X.env)] := by rfl) :
    PI X (.Tuple elts kk tpos) (.Call (.Name "enumerate" p) [e] [] pos) (iEnumT X.K ta) := by
  refine ⟨fun pins s σ H R I h => ?_⟩
  refine Call_ (ld_blt I hg hm boot_enumerate (PyProof.Rows.callWith_type1 (thn (ha.run pos pins s σ H _ I h) fun us s1 ⟨vs, H1, I1, r1, q1⟩ => ?_) hs rfl))
  obtain ⟨a, xs, rfl, hq, q⟩ := q1
  cases r1 with
  | cons r rr =>
    cases rr
    cases r
    obtain ⟨its, rv, p', hz⟩ := I1.tuple hq
    have hal : a < s1.heap.objs.size := by obtain ⟨_, q, _⟩ := id p'; exact Heap.lt_size q
    refine enum1 (begins_tuple a its.toArray) p' fun h' he ho hk => wpAny_pyIter_enum he ?_
    have I2 : Inv X pins σ H1 { s1 with heap := h' } := I1.kept (t' := s1.toks) hk
    refine ⟨s1.heap.objs.size + 1, [s1.heap.objs.size + 1, s1.heap.objs.size], _, _, H1, rfl, I2, turn_enumT a (s1.heap.objs.size + 1) s1.heap.objs.size, ⟨⟨.none, he⟩, ⟨_, ho, rfl, rfl⟩, Nat.succ_ne_self _, Nat.ne_of_lt hal, Nat.ne_of_gt (Nat.lt_succ_of_lt hal)⟩, fun b hb => ?_, q⟩
    have hle : s1.heap.objs.size ≤ b := by
      have e' : b = s1.heap.objs.size + 1 ∨ b = s1.heap.objs.size := by simpa using hb
      rcases e' with z | z
      · rw [z]; exact Nat.le_add_right _ _
      · rw [z]; exact Nat.le_refl _
    exact I1.fpOk hle (I1.hok.fresh hle)
theorem walk_enumT {K : PySem.W.Frag} {a : Addr} {xs : List V} : Walk (IteT K a) xs.length (fun H => SqT K H a xs) (fun i H v H' => ∃ T x, v = .ref T ∧ H T = none ∧ H' = L2.upd H T (.tup [.int (i : Nat), x]) ∧ xs[i]? = some x) := by
  constructor
  · intro i H hi hG
    exact ⟨xs, xs[i], hG, List.getElem?_eq_getElem hi⟩
  · intro H hG
    exact ⟨xs, hG, Nat.le_refl _⟩
  · intro i H v H' hi hG hy
    obtain ⟨T, x, e1, e2, e3, e4⟩ := hy
    exact ⟨T, x, e1, e2, e3, e4 xs hG⟩
end VG
namespace CK
open PySem PySem.Spec PyProof.Rows L2 VG FR
/-- references to tuples of integers -/
def Tots (K : PySem.W.Frag) (H : Hp) : List V → List (List Int) → Prop
  | [], [] => True
  | v :: vs, c :: cs => (∃ t, v = .ref t ∧ SqT K H t (c.map V.int)) ∧ Tots K H vs cs
  | _, _ => False
theorem Tots.mono {K : PySem.W.Frag} {H H' : Hp} (e : Same H H') : ∀ {vs : List V} {cs : List (List Int)}, Tots K H vs cs → Tots K H' vs cs
  | [], [], _ => trivial
  | _ :: _, _ :: _, ⟨⟨t, e1, h⟩, r⟩ => ⟨⟨t, e1, seqT e h⟩, r.mono e⟩
  | [], _ :: _, h => h.elim
  | _ :: _, [], h => h.elim
theorem Tots.len {K : PySem.W.Frag} {H : Hp} : ∀ {vs : List V} {cs : List (List Int)}, Tots K H vs cs → vs.length = cs.length
  | [], [], _ => rfl
  | _ :: _, _ :: _, h => by rw [List.length_cons, List.length_cons, h.2.len]
  | [], _ :: _, h => h.elim
  | _ :: _, [], h => h.elim
theorem Tots.get {K : PySem.W.Frag} {H : Hp} : ∀ {vs : List V} {cs : List (List Int)} {i : Nat} {v : V}, Tots K H vs cs → vs[i]? = some v → ∃ t c, v = .ref t ∧ cs[i]? = some c ∧ SqT K H t (c.map V.int)
  | [], [], _, _, _, h => by simp at h
  | a :: _, c :: _, 0, v, h, e => by
    have e1 : a = v := Option.some.inj e
    subst e1
    obtain ⟨t, e2, q⟩ := h.1
    exact ⟨t, c, e2, rfl, q⟩
  | _ :: vs, _ :: cs, i + 1, v, h, e => h.2.get (i := i) e
  | [], _ :: _, _, _, h, _ => h.elim
  | _ :: _, [], _, _, h, _ => h.elim
/-- what the written part says of the class Table -/
structure TabC (K : PySem.W.Frag) (C : Addr) : Prop where
  c : Cls K C
  nk : NoAttr K C "kinds"
  nt : NoAttr K C "totals"
/-- a table: its names, its totals -/
def Tab (K : PySem.W.Frag) (C : Addr) (H : Hp) (a : Addr) (ks : List Str) (ts : List (List Int)) : Prop :=
  ∃ (dx k t : Addr) (xs : List V), H a = some (.ins C dx [((("kinds" : String) : Str), .ref k), ((("totals" : String) : Str), .ref t)]) ∧ SqT K H k (ks.map V.str) ∧ SqT K H t xs ∧ Tots K H xs ts
theorem Tab.mono {K : PySem.W.Frag} {C a : Addr} {H H' : Hp} {ks : List Str} {ts : List (List Int)} (e : Same H H') (h : Tab K C H a ks ts) : Tab K C H' a ks ts := by
  obtain ⟨dx, k, t, xs, h1, h2, h3, h4⟩ := h
  exact ⟨dx, k, t, xs, e _ _ h1, seqT e h2, seqT e h3, h4.mono e⟩
/-- the totals in which a kind lies -/
def twF (ts : List (List Int)) (kind : Int) (i : Nat) : List Int := ((List.range i).filter fun j => (ts.getD j []).contains kind).map fun j => ((j : Nat) : Int)
def totsWith (ts : List (List Int)) (kind : Int) : List Int := twF ts kind ts.length
def spTotalsWith (K : PySem.W.Frag) (C : Addr) : Sp := fun vs H Q _ => ∃ (a : Addr) (ks : List Str) (ts : List (List Int)) (kind : Int), vs = [.ref a, .int kind] ∧ Tab K C H a ks ts ∧ ts.length ≤ 1000 ∧ ∀ H' u, Same H H' → H u = none → H' u = some (.tup ((totsWith ts kind).map V.int)) → Q (.ref u) H'
theorem twF_yes {ts : List (List Int)} {kind : Int} {i : Nat} {c : List Int} (e : ts[i]? = some c) (h : c.contains kind = true) : twF ts kind (i + 1) = twF ts kind i ++ [(i : Int)] := by
  unfold twF
  have g : ts.getD i [] = c := by rw [List.getD_eq_getElem?_getD, e]; rfl
  rw [List.range_succ, List.filter_append, List.map_append]
  have e2 : [i].filter (fun j => (ts.getD j []).contains kind) = [i] := by simp only [List.filter_cons, g, h, if_true, List.filter_nil]
  rw [e2]
  rfl
theorem twF_no {ts : List (List Int)} {kind : Int} {i : Nat} {c : List Int} (e : ts[i]? = some c) (h : c.contains kind = false) : twF ts kind (i + 1) = twF ts kind i := by
  unfold twF
  have g : ts.getD i [] = c := by rw [List.getD_eq_getElem?_getD, e]; rfl
  rw [List.range_succ, List.filter_append, List.map_append]
  have e2 : [i].filter (fun j => (ts.getD j []).contains kind) = [] := by simp only [List.filter_cons, g, h, if_false, List.filter_nil, Bool.false_eq_true]
  rw [e2]
  exact List.append_nil _
theorem twF_len (ts : List (List Int)) (kind : Int) (i : Nat) : (twF ts kind i).length ≤ i := by
  unfold twF
  rw [List.length_map]
  exact Nat.le_trans (List.length_filter_le _ _) (by rw [List.length_range]; exact Nat.le_refl _)
theorem inV_ints (k : Int) : ∀ cs : List Int, inV (.int k) (cs.map V.int) = cs.contains k
  | [] => rfl
  | c :: cs => by
    have ih := inV_ints k cs
    unfold inV at ih ⊢
    rw [List.map_cons, List.any_cons, ih, List.contains_cons]
    congr 1
    show (c == k) = (k == c)
    rw [Bool.eq_iff_iff, beq_iff_eq, beq_iff_eq]
    exact ⟨Eq.symm, Eq.symm⟩
theorem flat_ints : ∀ cs : List Int, (cs.map V.int).all flatV = true
  | [] => rfl
  | c :: cs => by
    rw [List.map_cons, List.all_cons, flat_ints cs]
    rfl
end CK
namespace K14
open PySem PySem.Spec PyProof.Rows L2 VG FR CK
abbrev s_totals_with : Stmt := topS 31
abbrev N_totals_with : List Str := ["table", "kind", "at", "total"]
theorem sc_totals_with : FnScope N_totals_with ["table", "kind"] (defScope s_totals_with) := ⟨rfl, rfl, rfl, by decide +kernel, rfl, by decide +kernel, by decide +kernel⟩
section
variable {P : Program} {w : World} {K : PySem.W.Frag} {mg : Str → Option Value} {base : Heap}
theorem ok_totals_with {f C : Addr} {fd : FuncData} (F : Fun K "totals_with" "totals_with" s_totals_with f fd) (T : TabC K C) (z_enumerate : mg "enumerate" = none) (z_tuple : mg "tuple" = none) : FnOk P w K mg base CX0 1 f fd ["table", "kind"] (spTotalsWith K C) := by
  refine F.ok sc_totals_with (fun vs H Q E h => ?_) (fun cdv A outer s H vs Q E hr h => ?_)
  · obtain ⟨_, _, _, _, rfl, _⟩ := h
    rfl
  · obtain ⟨a, ks, ts, kind, rfl, ⟨dx, k, t, xs, hO, hK, hS, hT⟩, hl, fin⟩ := h
    refine ⟨_, (pss_one (ps_ret (pe_callTy call_tuple_of (by rfl) z_tuple (by decide +kernel) (pa_cons (pe_lc (own := [("at", 2), ("total", 3)]) (by rfl) sc_totals_with.nd (pi_enumT (by rfl) z_enumerate (pa_cons (pe_fld (pv 0) (by rfl)) pa_nil)) (blkOk_by (own := [("at", 2), ("total", 3)]) (N := N_totals_with) (sc := defScope s_totals_with) (by decide +kernel)) (fun _ _ _ _ _ => (show PG _ _ (gTup K 2 _) from pg_tup rfl (pgs_cons (pg_name (i := 2) sc_totals_with.nd rfl (.inl rfl)) (pgs_cons (pg_name (i := 3) sc_totals_with.nd rfl (.inl rfl)) pgs_nil)))) (fun _ _ _ _ _ => (pts_one (pt_cmpR (show OpR _ (compareOp .In) (rIn K false) from op_in_seq) (pv 1) (pv 3) rfl))) (fun _ _ _ _ _ => (pv 2))) pa_nil)))), ?_⟩
    have lx := hT.len
    refine ⟨_, rfl, a, C, dx, _, .ref t, rfl, hO, T.c, T.nt, rfl, t, xs, rfl, hS, fun D nD => ?_⟩
    refine lc_it (walk_enumT (K := K) (a := t) (xs := xs)) (fun i H' => Same H H' ∧ H' D = some (.lst ((twF ts kind i).map V.int))) ⟨same_upd nD, upd_same⟩ (fun i H' _ h => seqT h.1 hS) ?_ ?_
    · rintro i v H2 H3 hi ⟨sm, hD⟩ ⟨U, x, rfl, nU, rfl, ex⟩
      obtain ⟨u, c, rfl, ec, hu⟩ := hT.get ex
      have sU := same_upd (o := .tup [.int (i : Nat), .ref u]) nU
      refine ⟨U, _, rfl, .inl (.inl upd_same), rfl, _, _, rfl, _, _, rfl, rfl, rfl, ?_⟩
      have sm2 := sm.trans sU
      refine ⟨_, rfl, _, rfl, u, c.map V.int, rfl, .inr (seqT sm2 hu), rfl, flat_ints c, _, rfl, ?_⟩
      have hD2 := sU _ _ hD
      rw [inV_ints]
      cases hc : c.contains kind with
      | true =>
        refine iteT ⟨_, rfl, _, hD2, ?_, HD.same_put sm2 nD, ?_⟩
        · have := twF_len ts kind i
          have z : sizeLine = 16777216 := by decide
          have : i < xs.length := hi
          rw [List.length_map]
          omega
        · rw [upd_same, twF_yes ec hc, List.map_append]
          rfl
      | false =>
        refine iteF ⟨sm2, ?_⟩
        rw [twF_no ec hc]
        exact hD2
    · rintro H2 ⟨sm, hD⟩
      rw [lx] at hD
      refine ⟨D, _, rfl, .inl ⟨.inl (.inl hD), fun u nu => ?_⟩⟩
      exact fin _ u (sm.trans (same_upd nu)) (sm.free nu) upd_same
end
end K14
namespace CK
open PySem PySem.Spec PyProof.Rows L2 VG FR
def LotOk (n : Int) (c : List Int) : Prop := c.length ≤ 1000 ∧ (∀ x ∈ c, 0 ≤ x ∧ x < n) ∧ Asc c
def spCheckTotals (K : PySem.W.Frag) : Sp := fun vs H Q _ => ∃ (t : Addr) (xs : List V) (ts : List (List Int)) (n : Int), vs = [.ref t, .int n] ∧ SqT K H t xs ∧ Tots K H xs ts ∧ ts.length ≤ 12 ∧ (∀ c ∈ ts, LotOk n c) ∧ ∀ H', Same H H' → Q .non H'
end CK
namespace K14
open PySem PySem.Spec PyProof.Rows L2 VG FR CK
abbrev s_check_totals : Stmt := topS 30
abbrev N_check_totals : List Str := ["totals", "many", "at", "total"]
theorem sc_check_totals : FnScope N_check_totals ["totals", "many"] (defScope s_check_totals) := ⟨rfl, rfl, rfl, by decide +kernel, rfl, by decide +kernel, by decide +kernel⟩
section
variable {P : Program} {w : World} {K : PySem.W.Frag} {mg : Str → Option Value} {base : Heap}
theorem ok_check_totals {f fi Ci : Addr} {fd fdi : FuncData} {tk : Tok} (F : Fun K "check_totals" "check_totals" s_check_totals f fd) (C_is_lot_below : Cl P w K mg base 5 "is_lot_below" (spLot K)) (m_MOST_TOTALS : mg "MOST_TOTALS" = some (.int 12 tk))
    (e_InvalidTable : ErrC K mg "InvalidTable" Ci fi) (i_InvalidTable : FnOk P w K mg base CX0 1 fi fdi ["self", "at"] (spInitW K Ci "at")) (b_InvalidTable : Binds K fdi ["self", "at"] [])
    (z_isinstance : mg "isinstance" = none) (z_tuple : mg "tuple" = none) (z_len : mg "len" = none) (z_enumerate : mg "enumerate" = none) :
    FnOk P w K mg base (L2.CX P w) 6 f fd ["totals", "many"] (spCheckTotals K) := by
  refine F.okX sc_check_totals (fun vs H Q E h => ?_) (fun cdv A outer s H vs Q E hr h => ?_)
  · obtain ⟨_, _, _, _, rfl, _⟩ := h
    rfl
  · obtain ⟨t, xs, ts, n, rfl, hS, hT, hl, ho, fin⟩ := h
    refine ⟨_, (pss_cons (ps_if (PW.pt (pw_or (pt_not (pt_val (pe_callB call_isi (by rfl) z_isinstance (by decide +kernel) (pa_cons (pv 0) (pa_cons (pe_bltn (v := .ty "tuple") (by rfl) z_tuple (by decide +kernel) rfl) pa_nil))))) (pw_or1 (pt_cmpR op_gt (pe_callB call_len_seq (by rfl) z_len (by decide +kernel) (pa_cons (pv 0) pa_nil)) (pe_glob (v := .int 12) rfl m_MOST_TOTALS ⟨_, rfl⟩) (nomark _)))))
      (pss_one (ps_raise rfl (takes_of rfl rfl rfl rfl) (pmk_oex e_InvalidTable.o e_InvalidTable.iC e_InvalidTable.tI i_InvalidTable (hr.mono (by decide)) b_InvalidTable .nil pass0 rfl e_InvalidTable.gC (pa_cons (pe_un un_neg pe_int) pa_nil))))
      pss_nil)
    (pss_one (ps_for (passes_of rfl) rfl (pi_enumT (by rfl) z_enumerate (pa_cons (pv 0) pa_nil)) (pg_tup rfl (pgs_cons (pg_name (i := 2) sc_check_totals.nd rfl (.inl rfl)) (pgs_cons (pg_name (i := 3) sc_check_totals.nd rfl (.inl rfl)) pgs_nil)))
      (pss_one (ps_if (pt_not (pt_val (pe_cl C_is_lot_below hr (by decide) rfl (pa_cons (pv 3) (pa_cons (pv 1) pa_nil)))))
        (pss_one (ps_raise rfl (takes_of rfl rfl rfl rfl) (pmk_oex e_InvalidTable.o e_InvalidTable.iC e_InvalidTable.tI i_InvalidTable (hr.mono (by decide)) b_InvalidTable .nil pass0 rfl e_InvalidTable.gC (pa_cons (pv 2) pa_nil))))
        pss_nil))))), ?_⟩
    have lx := hT.len
    refine ⟨_, rfl, _, _, _, _, true, rfl, .ty "tuple", tyT hS, kit_ty (by decide +kernel), true, rfl, iteF ?_⟩
    refine ⟨_, rfl, t, _, rfl, .inr hS, _, _, rfl, rfl, _, rfl, ite2 (fun z => ?_) (fun z => ?_)⟩
    · have : (xs.length : Int) > 12 := of_decide_eq_true z
      omega
    refine ⟨_, rfl, t, xs, rfl, hS, ?_⟩
    refine for_it (walk_enumT (K := K) (a := t) (xs := xs)) (fun i σ H' => Same H H' ∧ ∃ y2 y3 : Option V, σ = [some (.ref t), some (.int n), y2, y3]) ⟨Same.refl _, _, _, rfl⟩ (fun i σ H' _ h => seqT h.1 hS) ?_ ?_
    · rintro i v σ H2 H3 hi ⟨sm, y2, y3, rfl⟩ ⟨U, x, rfl, nU, rfl, ex⟩
      obtain ⟨u, c, rfl, ec, hu⟩ := hT.get ex
      have sU := same_upd (o := .tup [.int (i : Nat), .ref u]) nU
      have ok := ho c (List.mem_of_getElem? ec)
      refine ⟨U, _, rfl, .inl (.inl upd_same), rfl, _, _, rfl, _, _, rfl, rfl, ?_⟩
      refine ⟨_, rfl, _, rfl, u, c, n, rfl, seqT (sm.trans sU) hu, ok.1, ok.2.1, ok.2.2, fun H4 s4 => ⟨true, rfl, iteF ?_⟩⟩
      exact ⟨(sm.trans sU).trans s4, _, _, rfl⟩
    · rintro σ H2 ⟨sm, y2, y3, rfl⟩
      exact fin H2 sm
end
end K14
namespace CK
open PySem PySem.Spec PyProof.Rows L2 VG FR
abbrev cLETTERS : Str := "abcdefghijklmnopqrstuvwxyz"
theorem in_letters (c : Nat) : c ∈ cLETTERS.cps.toList ↔ 97 ≤ c ∧ c ≤ 122 := by
  have e : cLETTERS.cps.toList = (List.range 26).map (· + 97) := by decide +kernel
  rw [e, List.mem_map]
  constructor
  · rintro ⟨a, ha, rfl⟩
    have := List.mem_range.mp ha
    omega
  · intro h
    exact ⟨c - 97, List.mem_range.mpr (by omega), by omega⟩
def NameOk (z : Str) : Prop := 1 ≤ z.cps.size ∧ z.cps.size ≤ 6 ∧ ∀ c ∈ z.cps.toList, 97 ≤ c ∧ c ≤ 122
def spName : Sp := fun vs H Q _ => ∃ z : Str, vs = [.str z] ∧ NameOk z ∧ ∀ H', Same H H' → Q (.bl true) H'
def spNames (K : PySem.W.Frag) : Sp := fun vs H Q _ => ∃ (t : Addr) (ks : List Str), vs = [.ref t] ∧ SqT K H t (ks.map V.str) ∧ ks.length ≤ 1000 ∧ (∀ z ∈ ks, NameOk z) ∧ ∀ H', Same H H' → Q (.bl true) H'
def AscS (ks : List Str) : Prop := ∀ (i : Nat) (a b : Str), ks[i]? = some a → ks[i + 1]? = some b → a.cps.toList < b.cps.toList
theorem asc_strs {ks : List Str} (h : AscS ks) : AscV (ks.map V.str) := by
  intro i x y hx hy
  rw [List.getElem?_map] at hx hy
  obtain ⟨a, ea, rfl⟩ := Option.map_eq_some_iff.mp hx
  obtain ⟨b, eb, rfl⟩ := Option.map_eq_some_iff.mp hy
  exact .inr ⟨a, b, rfl, rfl, h i a b ea eb⟩
def KindsOk (ks : List Str) : Prop := 1 ≤ ks.length ∧ ks.length ≤ 12 ∧ (∀ z ∈ ks, NameOk z) ∧ AscS ks
def spCheckKinds (K : PySem.W.Frag) : Sp := fun vs H Q _ => ∃ (t : Addr) (ks : List Str), vs = [.ref t] ∧ SqT K H t (ks.map V.str) ∧ KindsOk ks ∧ ∀ H', Same H H' → Q .non H'
end CK
namespace K14
open PySem PySem.Spec PyProof.Rows L2 VG FR CK
abbrev s_is_name : Stmt := topS 7
abbrev N_is_name : List Str := ["value", "letter"]
theorem sc_is_name : FnScope N_is_name ["value"] (defScope s_is_name) := ⟨rfl, rfl, rfl, by decide +kernel, rfl, by decide +kernel, by decide +kernel⟩
abbrev s_are_names : Stmt := topS 9
abbrev N_are_names : List Str := ["value", "item"]
theorem sc_are_names : FnScope N_are_names ["value"] (defScope s_are_names) := ⟨rfl, rfl, rfl, by decide +kernel, rfl, by decide +kernel, by decide +kernel⟩
abbrev s_check_kinds : Stmt := topS 29
abbrev N_check_kinds : List Str := ["kinds"]
theorem sc_check_kinds : FnScope N_check_kinds ["kinds"] (defScope s_check_kinds) := ⟨rfl, rfl, rfl, by decide +kernel, rfl, by decide +kernel, by decide +kernel⟩
section
variable {P : Program} {w : World} {K : PySem.W.Frag} {mg : Str → Option Value} {base : Heap}
theorem ok_is_name {f : Addr} {fd : FuncData} {tk : Tok} (F : Fun K "is_name" "is_name" s_is_name f fd) (m_LETTERS : ∃ u, mg "LETTERS" = some (.str cLETTERS u)) (m_LONGEST_NAME : mg "LONGEST_NAME" = some (.int 6 tk))
    (z_isinstance : mg "isinstance" = none) (z_str : mg "str" = none) (z_len : mg "len" = none) (z_all : mg "all" = none) : FnOk P w K mg base CX0 1 f fd ["value"] spName := by
  refine F.ok sc_is_name (fun vs H Q E h => ?_) (fun cdv A outer s H vs Q E hr h => ?_)
  · obtain ⟨_, rfl, _⟩ := h
    rfl
  · obtain ⟨z, rfl, ⟨n1, n2, n3⟩, fin⟩ := h
    refine ⟨_, (pss_cons (ps_if (PW.pt (pw_or (pt_not (pt_val (pe_callB call_isi (by rfl) z_isinstance (by decide +kernel) (pa_cons (pv 0) (pa_cons (pe_bltn (v := .ty "str") (by rfl) z_str (by decide +kernel) rfl) pa_nil))))) (pw_or1 (pt_not (pt_chain op_le op_le pe_int (pe_callB call_len_str (by rfl) z_len (by decide +kernel) (pa_cons (pv 0) pa_nil)) (pe_glob (v := .int 6) rfl m_LONGEST_NAME ⟨_, rfl⟩))))))
      (pss_one (ps_ret pe_bl))
      pss_nil)
    (pss_one (ps_ret (pe_callB (cr_all rfl) (by rfl) z_all (by decide +kernel) (pa_cons (pe_lc (own := [("letter", 1)]) (by rfl) sc_is_name.nd (pi_str (pv 0)) (blkOk_by (own := [("letter", 1)]) (N := N_is_name) (sc := defScope s_is_name) (by decide +kernel)) (fun _ _ _ _ _ => (pg_name (i := 1) sc_is_name.nd rfl (.inl rfl))) (fun _ _ _ _ _ => pts_nil) (fun _ _ _ _ _ => (pe_cmpR op_in_sign (pv 1) (pe_gs rfl m_LETTERS) rfl))) pa_nil))))), ?_⟩
    refine ⟨_, rfl, _, _, _, _, true, rfl, .ty "str", .base (.str z), kit_ty (by decide +kernel), true, rfl, iteF ?_⟩
    have zl : z.length = z.cps.size := rfl
    refine ⟨_, rfl, z, rfl, ?_, _, _, rfl, rfl, _, rfl, ite_eq true (decide_eq_true (by show (1 : Int) ≤ (z.length : Nat); omega)) (iteT ?_)⟩
    · have : sizeLine = 16777216 := by decide
      omega
    refine ⟨_, _, rfl, rfl, _, rfl, ite_eq false ?_ (iteF ?_)⟩
    · have e : decide (((z.length : Nat) : Int) ≤ 6) = true := decide_eq_true (by omega)
      rw [e]
      rfl
    refine ⟨_, rfl, z, rfl, fun D nD => ?_⟩
    refine lc_it (walk_str (z := z)) (fun i H' => Same H H' ∧ ∃ bs : List Bool, bs.length = i ∧ bs.all id = true ∧ H' D = some (.lst (bs.map V.bl))) ⟨same_upd nD, [], rfl, rfl, upd_same⟩ (fun _ _ _ _ => trivial) ?_ ?_
    · rintro i v H2 H3 hi ⟨sm, bs, el, ea, hD⟩ ⟨e2, c, ec, rfl⟩
      subst e2
      have cm : c ∈ z.cps.toList := by
        have q : z.cps.toList[i]? = some c := by rw [Array.getElem?_toList]; exact ec
        exact List.mem_of_getElem? q
      refine ⟨rfl, _, rfl, c, _, rfl, rfl, ?_⟩
      rw [decide_eq_true ((in_letters c).mpr (n3 c cm))]
      refine ⟨bs.map V.bl, hD, ?_, HD.same_put sm nD, bs ++ [true], by rw [List.length_append, el]; rfl, ?_, ?_⟩
      · rw [List.length_map]
        have : sizeLine = 16777216 := by decide
        omega
      · rw [List.all_append, ea]
        rfl
      · rw [upd_same, List.map_append]
        rfl
    · rintro H2 ⟨sm, bs, el, ea, hD⟩
      refine ⟨D, bs, rfl, .inl (.inl hD), ?_⟩
      rw [ea]
      exact fin H2 sm
theorem ok_are_names {f : Addr} {fd : FuncData} (F : Fun K "are_names" "are_names" s_are_names f fd) (C_is_name : Cl P w K mg base 1 "is_name" spName) (z_isinstance : mg "isinstance" = none) (z_tuple : mg "tuple" = none) (z_all : mg "all" = none) :
    FnOk P w K mg base CX0 2 f fd ["value"] (spNames K) := by
  refine F.ok sc_are_names (fun vs H Q E h => ?_) (fun cdv A outer s H vs Q E hr h => ?_)
  · obtain ⟨_, _, rfl, _⟩ := h
    rfl
  · obtain ⟨t, ks, rfl, hS, hl, hc, fin⟩ := h
    refine ⟨_, (pss_one (ps_ret (pe_and (pe_callB call_isi (by rfl) z_isinstance (by decide +kernel) (pa_cons (pv 0) (pa_cons (pe_bltn (v := .ty "tuple") (by rfl) z_tuple (by decide +kernel) rfl) pa_nil))) (pe_one (pe_callB (cr_all rfl) (by rfl) z_all (by decide +kernel) (pa_cons (pe_lc (own := [("item", 1)]) (by rfl) sc_are_names.nd (pi_tup (pv 0)) (blkOk_by (own := [("item", 1)]) (N := N_are_names) (sc := defScope s_are_names) (by decide +kernel)) (fun _ _ _ _ _ => (pg_name (i := 1) sc_are_names.nd rfl (.inl rfl))) (fun _ _ _ _ _ => pts_nil) (fun _ _ _ _ _ => (pe_cl C_is_name hr (by decide) rfl (pa_cons (pv 1) pa_nil)))) pa_nil)))))), ?_⟩
    refine ⟨_, rfl, _, _, _, _, true, rfl, .ty "tuple", tyT hS, kit_ty (by decide +kernel), true, rfl, iteT ?_⟩
    refine ⟨_, rfl, t, rfl, ⟨_, hS⟩, fun D nD => ?_⟩
    refine lc_it (walk_tup (K := K) (a := t) (xs := ks.map V.str)) (fun i H' => Same H H' ∧ ∃ bs : List Bool, bs.length = i ∧ bs.all id = true ∧ H' D = some (.lst (bs.map V.bl))) ⟨same_upd nD, [], rfl, rfl, upd_same⟩ (fun i H' _ h => seqT h.1 hS) ?_ ?_
    · rintro i v H1 H2 hi ⟨sm, bs, el, ea, hD⟩ ⟨e2, ex⟩
      subst e2
      rw [List.getElem?_map] at ex
      obtain ⟨z, ec, rfl⟩ := Option.map_eq_some_iff.mp ex
      have il : i < ks.length := (List.getElem?_eq_some_iff.mp ec).1
      refine ⟨rfl, _, rfl, z, rfl, hc z (List.mem_of_getElem? ec), fun H3 s3 => ?_⟩
      have sm3 := sm.trans s3
      refine ⟨bs.map V.bl, s3 _ _ hD, ?_, HD.same_put sm3 nD, bs ++ [true], by rw [List.length_append, el]; rfl, ?_, ?_⟩
      · rw [List.length_map]
        have : sizeLine = 16777216 := by decide
        omega
      · rw [List.all_append, ea]
        rfl
      · rw [upd_same, List.map_append]
        rfl
    · rintro H1 ⟨sm, bs, el, ea, hD⟩
      refine ⟨D, bs, rfl, .inl (.inl hD), ?_⟩
      rw [ea]
      exact fin H1 sm
theorem ok_check_kinds {f fi Ci : Addr} {fd fdi : FuncData} {tk : Tok} (F : Fun K "check_kinds" "check_kinds" s_check_kinds f fd) (C_are_names : Cl P w K mg base 2 "are_names" (spNames K)) (C_is_ascending : Cl P w K mg base 1 "is_ascending" (spAsc K)) (m_MOST_KINDS : mg "MOST_KINDS" = some (.int 12 tk))
    (e_InvalidTable : ErrC K mg "InvalidTable" Ci fi) (i_InvalidTable : FnOk P w K mg base CX0 1 fi fdi ["self", "at"] (spInitW K Ci "at")) (b_InvalidTable : Binds K fdi ["self", "at"] [])
    (z_isinstance : mg "isinstance" = none) (z_tuple : mg "tuple" = none) (z_len : mg "len" = none) :
    FnOk P w K mg base (L2.CX P w) 3 f fd ["kinds"] (spCheckKinds K) := by
  refine F.okX sc_check_kinds (fun vs H Q E h => ?_) (fun cdv A outer s H vs Q E hr h => ?_)
  · obtain ⟨_, _, rfl, _⟩ := h
    rfl
  · obtain ⟨t, ks, rfl, hS, ⟨l1, l2, l3, l4⟩, fin⟩ := h
    refine ⟨_, (pss_cons (ps_if (PW.pt (pw_or (pt_not (pt_val (pe_callB call_isi (by rfl) z_isinstance (by decide +kernel) (pa_cons (pv 0) (pa_cons (pe_bltn (v := .ty "tuple") (by rfl) z_tuple (by decide +kernel) rfl) pa_nil))))) (pw_or1 (pt_not (pt_chain op_le op_le pe_int (pe_callB call_len_seq (by rfl) z_len (by decide +kernel) (pa_cons (pv 0) pa_nil)) (pe_glob (v := .int 12) rfl m_MOST_KINDS ⟨_, rfl⟩))))))
      (pss_one (ps_raise rfl (takes_of rfl rfl rfl rfl) (pmk_oex e_InvalidTable.o e_InvalidTable.iC e_InvalidTable.tI i_InvalidTable (hr.mono (by decide)) b_InvalidTable .nil pass0 rfl e_InvalidTable.gC (pa_cons (pe_un un_neg pe_int) pa_nil))))
      pss_nil)
    (pss_one (ps_if (PW.pt (pw_or (pt_not (pt_val (pe_cl C_are_names hr (by decide) rfl (pa_cons (pv 0) pa_nil)))) (pw_or1 (pt_not (pt_val (pe_cl C_is_ascending hr (by decide) rfl (pa_cons (pv 0) pa_nil)))))))
      (pss_one (ps_raise rfl (takes_of rfl rfl rfl rfl) (pmk_oex e_InvalidTable.o e_InvalidTable.iC e_InvalidTable.tI i_InvalidTable (hr.mono (by decide)) b_InvalidTable .nil pass0 rfl e_InvalidTable.gC (pa_cons (pe_un un_neg pe_int) pa_nil))))
      pss_nil))), ?_⟩
    have ll : (ks.map V.str).length = ks.length := List.length_map _
    refine ⟨_, rfl, _, _, _, _, true, rfl, .ty "tuple", tyT hS, kit_ty (by decide +kernel), true, rfl, iteF ?_⟩
    refine ⟨_, rfl, t, _, rfl, .inr hS, _, _, rfl, rfl, _, rfl, ite_eq true (decide_eq_true (by omega)) (iteT ?_)⟩
    refine ⟨_, _, rfl, rfl, _, rfl, ite_eq false ?_ (iteF ?_)⟩
    · have e : decide ((((ks.map V.str).length : Nat) : Int) ≤ 12) = true := decide_eq_true (by omega)
      rw [e]
      rfl
    refine ⟨_, rfl, t, ks, rfl, hS, by omega, l3, fun H1 s1 => ⟨true, rfl, iteF ?_⟩⟩
    refine ⟨_, rfl, t, _, rfl, seqT s1 hS, by omega, asc_strs l4, fun H2 s2 => ⟨true, rfl, iteF ?_⟩⟩
    exact fin H2 (s1.trans s2)
end
end K14
namespace CK
open PySem PySem.Spec PyProof.Rows L2 VG FR
/-- __init__ of a right table, at a new instance -/
def spInitT (K : PySem.W.Frag) (C : Addr) : Sp := fun vs H Q _ => ∃ (a dx k t : Addr) (ks : List Str) (xs : List V) (ts : List (List Int)), vs = [.ref a, .ref k, .ref t] ∧ H a = some (.ins C dx []) ∧ SqT K H k (ks.map V.str) ∧ KindsOk ks ∧ SqT K H t xs ∧ Tots K H xs ts ∧ ts.length ≤ 12 ∧
  (∀ c ∈ ts, LotOk ks.length c) ∧ ∀ H', (∀ b o, b ≠ a → H b = some o → H' b = some o) → H' a = some (.ins C dx [((("kinds" : String) : Str), .ref k), ((("totals" : String) : Str), .ref t)]) → Q .non H'
end CK
namespace K14
open PySem PySem.Spec PyProof.Rows L2 VG FR CK
abbrev i_Table : Stmt := inClass (topS 28) 0
theorem sc_i_Table : FnScope ["self", "kinds", "totals"] ["self", "kinds", "totals"] (defScope i_Table) := ⟨rfl, rfl, rfl, by decide +kernel, rfl, by decide +kernel, by decide +kernel⟩
section
variable {P : Program} {w : World} {K : PySem.W.Frag} {mg : Str → Option Value} {base : Heap}
theorem ok_init_Table {f C : Addr} {fd : FuncData} (F : Fun K "__init__" "Table.__init__" i_Table f fd) (T : TabC K C) (C_check_kinds : Cl P w K mg base 3 "check_kinds" (fun vs H Q _ => spCheckKinds K vs H Q E0)) (C_check_totals : Cl P w K mg base 6 "check_totals" (fun vs H Q _ => spCheckTotals K vs H Q E0))
    (z_len : mg "len" = none) : FnOk P w K mg base CX0 7 f fd ["self", "kinds", "totals"] (spInitT K C) := by
  refine F.ok sc_i_Table (fun vs H Q E h => ?_) (fun cdv A outer s H vs Q E hr h => ?_)
  · obtain ⟨_, _, _, _, _, _, _, rfl, _⟩ := h
    rfl
  · obtain ⟨a, dx, k, t, ks, xs, ts, rfl, ha, hk, ok, ht, hT, hl, hc, fin⟩ := h
    refine ⟨_, (pss_cons (ps_expr (pe_cl C_check_kinds hr (by decide) rfl (pa_cons (pv 1) pa_nil)))
      (pss_cons (ps_expr (pe_cl C_check_totals hr (by decide) rfl (pa_cons (pv 2) (pa_cons (pe_callB call_len_seq (by rfl) z_len (by decide +kernel) (pa_cons (pv 1) pa_nil)) pa_nil))))
      (pss_cons (ps_fld (pv 0) (pv 1) (by rfl))
      (pss_one (ps_fld (pv 0) (pv 2) (by rfl)))))), ?_⟩
    refine ⟨_, rfl, k, ks, rfl, hk, ok, fun H1 s1 => ?_⟩
    have hk1 := seqT s1 hk
    have e : ((ks.map V.str).length : Int) = (ks.length : Nat) := by rw [List.length_map]
    refine ⟨_, rfl, _, rfl, k, _, rfl, .inr hk1, t, xs, ts, _, rfl, seqT s1 ht, hT.mono s1, hl, fun c h => by rw [e]; exact hc c h, fun H2 s2 => ?_⟩
    have s12 := s1.trans s2
    refine ⟨_, rfl, _, rfl, a, C, dx, [], rfl, s12 _ _ ha, T.c, T.nk, by decide, ?_⟩
    refine ⟨_, rfl, _, rfl, a, C, dx, _, rfl, upd_same, T.c, T.nt, by show 1 < 1000; decide, ?_⟩
    refine fin _ (fun b o nb hb => ?_) ?_
    · rw [upd_ne nb, upd_ne nb]
      exact s12 b o hb
    · rw [upd_same]
      rfl
end
end K14
namespace CK
open PySem PySem.Spec PyProof.Rows L2 VG FR
/-- the numbers below i at which something holds -/
def pick (P : Nat → Bool) (i : Nat) : List Int := ((List.range i).filter P).map fun j => ((j : Nat) : Int)
theorem pick_yes {P : Nat → Bool} {i : Nat} (h : P i = true) : pick P (i + 1) = pick P i ++ [(i : Int)] := by
  unfold pick
  rw [List.range_succ, List.filter_append, List.map_append]
  have e2 : [i].filter P = [i] := by simp only [List.filter_cons, h, if_true, List.filter_nil]
  rw [e2]
  rfl
theorem pick_no {P : Nat → Bool} {i : Nat} (h : P i = false) : pick P (i + 1) = pick P i := by
  unfold pick
  rw [List.range_succ, List.filter_append, List.map_append]
  have e2 : [i].filter P = [] := by simp only [List.filter_cons, h, if_false, List.filter_nil, Bool.false_eq_true]
  rw [e2]
  exact List.append_nil _
theorem pick_len (P : Nat → Bool) (i : Nat) : (pick P i).length ≤ i := by
  unfold pick
  rw [List.length_map]
  exact Nat.le_trans (List.length_filter_le _ _) (by rw [List.length_range]; exact Nat.le_refl _)
def absI (a : Int) : Int := if a < 0 then -a else a
def agrP (one other : List Int) (j : Nat) : Bool := decide (absI (one.getD j 0) = 1) && decide (one.getD j 0 = other.getD j 0)
def claP (one other : List Int) (j : Nat) : Bool := decide (absI (one.getD j 0) = 1) && decide (one.getD j 0 = -other.getD j 0)
def spTwo (K : PySem.W.Frag) (F : List Int → List Int → List Int) : Sp := fun vs H Q _ => ∃ (s t : Addr) (cs ds : List Int), vs = [.ref s, .ref t] ∧ SqT K H s (cs.map V.int) ∧ SqT K H t (ds.map V.int) ∧ cs.length = ds.length ∧ cs.length ≤ 1000 ∧
  ∀ H' u, Same H H' → H u = none → H' u = some (.tup ((F cs ds).map V.int)) → Q (.ref u) H'
def agrL (cs ds : List Int) : List Int := pick (agrP cs ds) cs.length
def claL (cs ds : List Int) : List Int := pick (claP cs ds) cs.length
def difL (cs ds : List Int) : List Int := (cs.zip ds).map fun x => x.1 - x.2
def spBeyond (K : PySem.W.Frag) : Sp := fun vs H Q _ => ∃ (s : Addr) (cs : List Int), vs = [.ref s] ∧ SqT K H s (cs.map V.int) ∧ cs.length ≤ 1000 ∧ ∀ H', Same H H' → Q (.bl (cs.any fun c => decide (absI c > 1))) H'
end CK
namespace K14
open PySem PySem.Spec PyProof.Rows L2 VG FR CK
abbrev s_is_beyond : Stmt := topS 39
abbrev N_is_beyond : List Str := ["reckoning", "entry"]
theorem sc_is_beyond : FnScope N_is_beyond ["reckoning"] (defScope s_is_beyond) := ⟨rfl, rfl, rfl, by decide +kernel, rfl, by decide +kernel, by decide +kernel⟩
abbrev s_agreements : Stmt := topS 40
abbrev N_agreements : List Str := ["one", "other", "at", "entry"]
theorem sc_agreements : FnScope N_agreements ["one", "other"] (defScope s_agreements) := ⟨rfl, rfl, rfl, by decide +kernel, rfl, by decide +kernel, by decide +kernel⟩
abbrev s_clashes : Stmt := topS 41
abbrev N_clashes : List Str := ["one", "other", "at", "entry"]
theorem sc_clashes : FnScope N_clashes ["one", "other"] (defScope s_clashes) := ⟨rfl, rfl, rfl, by decide +kernel, rfl, by decide +kernel, by decide +kernel⟩
abbrev s_difference_of : Stmt := topS 42
abbrev N_difference_of : List Str := ["one", "other", "entry", "less"]
theorem sc_difference_of : FnScope N_difference_of ["one", "other"] (defScope s_difference_of) := ⟨rfl, rfl, rfl, by decide +kernel, rfl, by decide +kernel, by decide +kernel⟩
section
variable {P : Program} {w : World} {K : PySem.W.Frag} {mg : Str → Option Value} {base : Heap}
theorem ok_is_beyond {f : Addr} {fd : FuncData} (F : Fun K "is_beyond" "is_beyond" s_is_beyond f fd) (z_any : mg "any" = none) (z_abs : mg "abs" = none) : FnOk P w K mg base CX0 1 f fd ["reckoning"] (spBeyond K) := by
  refine F.ok sc_is_beyond (fun vs H Q E h => ?_) (fun cdv A outer s H vs Q E hr h => ?_)
  · obtain ⟨_, _, rfl, _⟩ := h
    rfl
  · obtain ⟨t, cs, rfl, hS, hl, fin⟩ := h
    refine ⟨_, (pss_one (ps_ret (pe_callB (cr_any rfl) (by rfl) z_any (by decide +kernel) (pa_cons (pe_lc (own := [("entry", 1)]) (by rfl) sc_is_beyond.nd (pi_tup (pv 0)) (blkOk_by (own := [("entry", 1)]) (N := N_is_beyond) (sc := defScope s_is_beyond) (by decide +kernel)) (fun _ _ _ _ _ => (pg_name (i := 1) sc_is_beyond.nd rfl (.inl rfl))) (fun _ _ _ _ _ => pts_nil) (fun _ _ _ _ _ => (pe_cmpR op_gt (pe_callB call_abs (by rfl) z_abs (by decide +kernel) (pa_cons (pv 1) pa_nil)) pe_int (nomark _)))) pa_nil)))), ?_⟩
    refine ⟨_, rfl, t, rfl, ⟨_, hS⟩, fun D nD => ?_⟩
    refine lc_it (walk_tup (K := K) (a := t) (xs := cs.map V.int)) (fun i H' => Same H H' ∧ H' D = some (.lst (((cs.take i).map fun c => decide (absI c > 1)).map V.bl))) ⟨same_upd nD, upd_same⟩ (fun i H' _ h => seqT h.1 hS) ?_ ?_
    · rintro i v H1 H2 hi ⟨sm, hD⟩ ⟨e2, ex⟩
      subst e2
      rw [List.getElem?_map] at ex
      obtain ⟨c, ec, rfl⟩ := Option.map_eq_some_iff.mp ex
      have il : i < cs.length := (List.getElem?_eq_some_iff.mp ec).1
      refine ⟨rfl, _, rfl, _, rfl, _, _, rfl, rfl, _, hD, ?_, HD.same_put sm nD, ?_⟩
      · rw [List.length_map, List.length_map, List.length_take]
        have : sizeLine = 16777216 := by decide
        omega
      · rw [upd_same, List.take_add_one, ec, List.map_append, List.map_append]
        rfl
    · rintro H1 ⟨sm, hD⟩
      rw [List.take_of_length_le (by rw [List.length_map]; exact Nat.le_refl _)] at hD
      refine ⟨D, _, rfl, .inl (.inl hD), ?_⟩
      rw [List.any_map]
      exact fin H1 sm
theorem ok_agreements {f : Addr} {fd : FuncData} (F : Fun K "agreements" "agreements" s_agreements f fd) (z_enumerate : mg "enumerate" = none) (z_tuple : mg "tuple" = none) (z_abs : mg "abs" = none) : FnOk P w K mg base CX0 1 f fd ["one", "other"] (spTwo K agrL) := by
  refine F.ok sc_agreements (fun vs H Q E h => ?_) (fun cdv A outer s H vs Q E hr h => ?_)
  · obtain ⟨_, _, _, _, rfl, _⟩ := h
    rfl
  · obtain ⟨s1, t1, cs, ds, rfl, hS, hT, he, hl, fin⟩ := h
    refine ⟨_, (pss_one (ps_ret (pe_callTy call_tuple_of (by rfl) z_tuple (by decide +kernel) (pa_cons (pe_lc (own := [("at", 2), ("entry", 3)]) (by rfl) sc_agreements.nd (pi_enumT (by rfl) z_enumerate (pa_cons (pv 0) pa_nil)) (blkOk_by (own := [("at", 2), ("entry", 3)]) (N := N_agreements) (sc := defScope s_agreements) (by decide +kernel)) (fun _ _ _ _ _ => (show PG _ _ (gTup K 2 _) from pg_tup rfl (pgs_cons (pg_name (i := 2) sc_agreements.nd rfl (.inl rfl)) (pgs_cons (pg_name (i := 3) sc_agreements.nd rfl (.inl rfl)) pgs_nil)))) (fun _ _ _ _ _ => (pts_one (PW.pt (pw_and (pt_cmpR op_eq (pe_callB call_abs (by rfl) z_abs (by decide +kernel) (pa_cons (pv 3) pa_nil)) pe_int (nomark _)) (pw_and1 (pt_cmpR op_eq (pv 3) (pe_ix (show IxR _ (rIxT K) from ix_tup) (pv 1) (pv 2) (fun _ _ => rfl)) (nomark _))))))) (fun _ _ _ _ _ => (pv 2))) pa_nil)))), ?_⟩
    refine ⟨_, rfl, s1, _, rfl, hS, fun D nD => ?_⟩
    refine lc_it (walk_enumT (K := K) (a := s1) (xs := cs.map V.int)) (fun i H' => Same H H' ∧ H' D = some (.lst ((pick (agrP cs ds) i).map V.int))) ⟨same_upd nD, upd_same⟩ (fun i H' _ h => seqT h.1 hS) ?_ ?_
    · rintro i v H2 H3 hi ⟨sm, hD⟩ ⟨U, x, rfl, nU, rfl, ex⟩
      rw [List.getElem?_map] at ex
      obtain ⟨c, ec, rfl⟩ := Option.map_eq_some_iff.mp ex
      have il : i < cs.length := (List.getElem?_eq_some_iff.mp ec).1
      have ed : ds[i]? = some ds[i] := List.getElem?_eq_getElem (by omega)
      generalize ds[i] = d at ed
      have gc : cs.getD i 0 = c := by rw [List.getD_eq_getElem?_getD, ec]; rfl
      have gd : ds.getD i 0 = d := by rw [List.getD_eq_getElem?_getD, ed]; rfl
      have sU := same_upd (o := .tup [.int (i : Nat), .int c]) nU
      have sm2 := sm.trans sU
      have hD2 := sU _ _ hD
      have size : ((pick (agrP cs ds) i).map V.int).length < sizeLine := by
        have := pick_len (agrP cs ds) i
        have z : sizeLine = 16777216 := by decide
        rw [List.length_map]
        omega
      have no : agrP cs ds i = false → Same H (L2.upd H2 U (.tup [.int (i : Nat), .int c])) ∧ (L2.upd H2 U (.tup [.int (i : Nat), .int c])) D = some (.lst ((pick (agrP cs ds) (i + 1)).map V.int)) := by
        intro z
        rw [pick_no z]
        exact ⟨sm2, hD2⟩
      refine ⟨U, _, rfl, .inl (.inl upd_same), rfl, _, _, rfl, _, _, rfl, rfl, rfl, ?_⟩
      refine ⟨_, rfl, _, rfl, rfl, _, rfl, ite2 (fun z => ?_) (fun z => ?_)⟩
      · have z1 : absI c = 1 := V.int.inj (of_decide_eq_true z)
        have ati : atI (ds.map V.int) ((i : Nat) : Int) = some (.int d) := atI_nat (by rw [List.getElem?_map, ed]; rfl)
        refine ⟨_, rfl, _, rfl, _, rfl, t1, _, _, _, rfl, rfl, seqT sm2 hT, ati, rfl, _, rfl, ite2 (fun y => ?_) (fun y => ?_)⟩
        · have y1 : c = d := V.int.inj (of_decide_eq_true y)
          have yes : agrP cs ds i = true := by
            unfold agrP
            rw [gc, gd, decide_eq_true z1, decide_eq_true y1]
            rfl
          refine ⟨_, rfl, _, hD2, size, HD.same_put sm2 nD, ?_⟩
          rw [upd_same, pick_yes yes, List.map_append]
          rfl
        · have y1 : ¬ c = d := fun q => y (decide_eq_true (by rw [q]))
          refine no ?_
          unfold agrP
          rw [gc, gd, decide_eq_false y1, Bool.and_false]
      · have z1 : ¬ absI c = 1 := fun q => z (decide_eq_true (congrArg V.int q))
        refine no ?_
        unfold agrP
        rw [gc, decide_eq_false z1, Bool.false_and]
    · rintro H2 ⟨sm, hD⟩
      rw [List.length_map] at hD
      refine ⟨D, _, rfl, .inl ⟨.inl (.inl hD), fun u nu => ?_⟩⟩
      exact fin _ u (sm.trans (same_upd nu)) (sm.free nu) upd_same
theorem ok_clashes {f : Addr} {fd : FuncData} (F : Fun K "clashes" "clashes" s_clashes f fd) (z_enumerate : mg "enumerate" = none) (z_tuple : mg "tuple" = none) (z_abs : mg "abs" = none) : FnOk P w K mg base CX0 1 f fd ["one", "other"] (spTwo K claL) := by
  refine F.ok sc_clashes (fun vs H Q E h => ?_) (fun cdv A outer s H vs Q E hr h => ?_)
  · obtain ⟨_, _, _, _, rfl, _⟩ := h
    rfl
  · obtain ⟨s1, t1, cs, ds, rfl, hS, hT, he, hl, fin⟩ := h
    refine ⟨_, (pss_one (ps_ret (pe_callTy call_tuple_of (by rfl) z_tuple (by decide +kernel) (pa_cons (pe_lc (own := [("at", 2), ("entry", 3)]) (by rfl) sc_clashes.nd (pi_enumT (by rfl) z_enumerate (pa_cons (pv 0) pa_nil)) (blkOk_by (own := [("at", 2), ("entry", 3)]) (N := N_clashes) (sc := defScope s_clashes) (by decide +kernel)) (fun _ _ _ _ _ => (show PG _ _ (gTup K 2 _) from pg_tup rfl (pgs_cons (pg_name (i := 2) sc_clashes.nd rfl (.inl rfl)) (pgs_cons (pg_name (i := 3) sc_clashes.nd rfl (.inl rfl)) pgs_nil)))) (fun _ _ _ _ _ => (pts_one (PW.pt (pw_and (pt_cmpR op_eq (pe_callB call_abs (by rfl) z_abs (by decide +kernel) (pa_cons (pv 3) pa_nil)) pe_int (nomark _)) (pw_and1 (pt_cmpR op_eq (pv 3) (pe_un un_neg (pe_ix (show IxR _ (rIxT K) from ix_tup) (pv 1) (pv 2) (fun _ _ => rfl))) (nomark _))))))) (fun _ _ _ _ _ => (pv 2))) pa_nil)))), ?_⟩
    refine ⟨_, rfl, s1, _, rfl, hS, fun D nD => ?_⟩
    refine lc_it (walk_enumT (K := K) (a := s1) (xs := cs.map V.int)) (fun i H' => Same H H' ∧ H' D = some (.lst ((pick (claP cs ds) i).map V.int))) ⟨same_upd nD, upd_same⟩ (fun i H' _ h => seqT h.1 hS) ?_ ?_
    · rintro i v H2 H3 hi ⟨sm, hD⟩ ⟨U, x, rfl, nU, rfl, ex⟩
      rw [List.getElem?_map] at ex
      obtain ⟨c, ec, rfl⟩ := Option.map_eq_some_iff.mp ex
      have il : i < cs.length := (List.getElem?_eq_some_iff.mp ec).1
      have ed : ds[i]? = some ds[i] := List.getElem?_eq_getElem (by omega)
      generalize ds[i] = d at ed
      have gc : cs.getD i 0 = c := by rw [List.getD_eq_getElem?_getD, ec]; rfl
      have gd : ds.getD i 0 = d := by rw [List.getD_eq_getElem?_getD, ed]; rfl
      have sU := same_upd (o := .tup [.int (i : Nat), .int c]) nU
      have sm2 := sm.trans sU
      have hD2 := sU _ _ hD
      have size : ((pick (claP cs ds) i).map V.int).length < sizeLine := by
        have := pick_len (claP cs ds) i
        have z : sizeLine = 16777216 := by decide
        rw [List.length_map]
        omega
      have no : claP cs ds i = false → Same H (L2.upd H2 U (.tup [.int (i : Nat), .int c])) ∧ (L2.upd H2 U (.tup [.int (i : Nat), .int c])) D = some (.lst ((pick (claP cs ds) (i + 1)).map V.int)) := by
        intro z
        rw [pick_no z]
        exact ⟨sm2, hD2⟩
      refine ⟨U, _, rfl, .inl (.inl upd_same), rfl, _, _, rfl, _, _, rfl, rfl, rfl, ?_⟩
      refine ⟨_, rfl, _, rfl, rfl, _, rfl, ite2 (fun z => ?_) (fun z => ?_)⟩
      · have z1 : absI c = 1 := V.int.inj (of_decide_eq_true z)
        have ati : atI (ds.map V.int) ((i : Nat) : Int) = some (.int d) := atI_nat (by rw [List.getElem?_map, ed]; rfl)
        refine ⟨_, rfl, _, rfl, _, rfl, t1, _, _, _, rfl, rfl, seqT sm2 hT, ati, _, rfl, rfl, _, rfl, ite2 (fun y => ?_) (fun y => ?_)⟩
        · have y1 : c = -d := V.int.inj (of_decide_eq_true y)
          have yes : claP cs ds i = true := by
            unfold claP
            rw [gc, gd, decide_eq_true z1, decide_eq_true y1]
            rfl
          refine ⟨_, rfl, _, hD2, size, HD.same_put sm2 nD, ?_⟩
          rw [upd_same, pick_yes yes, List.map_append]
          rfl
        · have y1 : ¬ c = -d := fun q => y (decide_eq_true (by rw [q]))
          refine no ?_
          unfold claP
          rw [gc, gd, decide_eq_false y1, Bool.and_false]
      · have z1 : ¬ absI c = 1 := fun q => z (decide_eq_true (congrArg V.int q))
        refine no ?_
        unfold claP
        rw [gc, decide_eq_false z1, Bool.false_and]
    · rintro H2 ⟨sm, hD⟩
      rw [List.length_map] at hD
      refine ⟨D, _, rfl, .inl ⟨.inl (.inl hD), fun u nu => ?_⟩⟩
      exact fin _ u (sm.trans (same_upd nu)) (sm.free nu) upd_same
theorem ok_difference_of {f : Addr} {fd : FuncData} (F : Fun K "difference_of" "difference_of" s_difference_of f fd) (z_zip : mg "zip" = none) (z_tuple : mg "tuple" = none) : FnOk P w K mg base CX0 1 f fd ["one", "other"] (spTwo K difL) := by
  refine F.ok sc_difference_of (fun vs H Q E h => ?_) (fun cdv A outer s H vs Q E hr h => ?_)
  · obtain ⟨_, _, _, _, rfl, _⟩ := h
    rfl
  · obtain ⟨s1, t1, cs, ds, rfl, hS, hT, he, hl, fin⟩ := h
    refine ⟨_, (pss_one (ps_ret (pe_callTy call_tuple_of (by rfl) z_tuple (by decide +kernel) (pa_cons (pe_lc (own := [("entry", 2), ("less", 3)]) (by rfl) sc_difference_of.nd (RZ.pi_zipA (by rfl) z_zip (pa_cons (pv 0) (pa_cons (pv 1) pa_nil))) (blkOk_by (own := [("entry", 2), ("less", 3)]) (N := N_difference_of) (sc := defScope s_difference_of) (by decide +kernel)) (fun _ _ _ _ _ => (show PG _ _ (gTup K 2 _) from pg_tup rfl (pgs_cons (pg_name (i := 2) sc_difference_of.nd rfl (.inl rfl)) (pgs_cons (pg_name (i := 3) sc_difference_of.nd rfl (.inl rfl)) pgs_nil)))) (fun _ _ _ _ _ => pts_nil) (fun _ _ _ _ _ => (pe_op op_sub (pv 2) (pv 3)))) pa_nil)))), ?_⟩
    refine ⟨_, rfl, _, rfl, s1, t1, _, _, rfl, .inr ⟨hS, hT, fun D nD => ?_⟩⟩
    refine lc_it (walk_zipT (K := K) (a := s1) (b := t1) (xs := cs.map V.int) (ys := ds.map V.int) (n := cs.length) (by rw [List.length_map, List.length_map]; omega)) (fun i H' => Same H H' ∧ H' D = some (.lst (((difL cs ds).take i).map V.int))) ⟨same_upd nD, upd_same⟩ (fun i H' _ h => ⟨seqT h.1 hS, seqT h.1 hT⟩) ?_ ?_
    · rintro i v H2 H3 hi ⟨sm, hD⟩ ⟨U, x, y, rfl, nU, rfl, ex, ey⟩
      have ex : (cs.map V.int)[i]? = some x := ex
      have ey : (ds.map V.int)[i]? = some y := ey
      rw [List.getElem?_map] at ex ey
      obtain ⟨c, ec, rfl⟩ := Option.map_eq_some_iff.mp ex
      obtain ⟨d, ed, rfl⟩ := Option.map_eq_some_iff.mp ey
      have sU := same_upd (o := .tup [.int c, .int d]) nU
      have sm2 := sm.trans sU
      have edl : (difL cs ds)[i]? = some (c - d) := by
        have ez : (cs.zip ds)[i]? = some (c, d) := List.getElem?_zip_eq_some.mpr ⟨ec, ed⟩
        unfold difL
        rw [List.getElem?_map, ez]
        rfl
      refine ⟨U, _, rfl, .inl (.inl upd_same), rfl, _, _, rfl, _, _, rfl, rfl, rfl, ?_⟩
      refine ⟨_, rfl, _, rfl, _, _, rfl, rfl, _, sU _ _ hD, ?_, HD.same_put sm2 nD, ?_⟩
      · rw [List.length_map, List.length_take]
        have : sizeLine = 16777216 := by decide
        omega
      · rw [upd_same, List.take_add_one, edl, List.map_append]
        rfl
    · rintro H2 ⟨sm, hD⟩
      rw [List.take_of_length_le (by unfold difL; rw [List.length_map, List.length_zip]; omega)] at hD
      refine ⟨D, _, rfl, .inl ⟨.inl (.inl hD), fun u nu => ?_⟩⟩
      exact fin _ u (sm.trans (same_upd nu)) (sm.free nu) upd_same
end
end K14
namespace VG
open PySem PySem.Spec PyProof.Rows L2
section
variable {X : Cx} {pins : List (Addr × Obj)} {σ : L2.St} {H : Hp} {s : Shared} {a b : Addr} {r : Value} {d : V} {k : List Key} {A : Around} {E : Value → Shared → Prop}
theorem d_setdT {kvs : List (List Key × V)} {Q : Value → Shared → Prop} (hu : A.units + 1 < cLine) (I : Inv X pins σ H s) (e : H a = some (.dT kvs)) (eb : H b = some (.tup (k.map kV))) (rd : RelV d r) (hl : kvs.length < sizeLine)
    (h1 : ∀ v, valV kvs k = some v → ∀ (w' : Value) (s' : Shared), Inv X pins σ H s' → RelV v w' → Q w' s') (h2 : valV kvs k = none → ∀ (w' : Value) (s' : Shared), Inv X pins σ (upd H a (.dT (putK kvs k d))) s' → RelV d w' → Q w' s') :
    wpAny (model X.prog X.w) A (call (.builtin "dict.setdefault") [.ref a, .ref b, r]) Q E s := by
  obtain ⟨z, hd, xs, rel, dd⟩ := dt_of I.hok e
  have hz : xs.length ≤ sizeLine := by
    rw [← Paired.length rel]
    exact z
  have hl2 : (putK kvs k d).length ≤ sizeLine := by
    have := length_putK kvs k d
    omega
  refine call_setdefault_heap (hsz := hz) (tupleKind_room_in1 hu) (key_of I.hok eb) hd dd (fun p hp => ?_) (fun hn h' dd' hs => ?_)
  · have q := rel.val k
    rw [hp] at q
    cases q0 : valV kvs k with
    | none =>
      rw [q0] at q
      exact (show False from q).elim
    | some v0 =>
      rw [q0] at q
      exact h1 v0 q0 _ _ (I.tok _) q
  · have q := rel.val k
    rw [hn] at q
    cases q0 : valV kvs k with
    | some v0 =>
      rw [q0] at q
      exact (show False from q).elim
    | none =>
      obtain ⟨qo, es, ep, hq, g2, g3, g4, _, g5⟩ := dd'
      refine h2 q0 _ _ (d_write I (by rw [e]; exact True.intro) hs ⟨qo, hq⟩ ⟨hl2, hd, _, (rel.put k eb rd).keeps fun c ys ec => ?_, qo, es, ep, hq, g2, g3, g4, g5⟩) rd
      rw [upd_ne (ne_of ec e (fun z => nomatch z))]
      exact ec
end
def tDSetT (td ty tx : TE) : TE := fun σ H Q => td σ H fun x H1 => ∃ a, x = .ref a ∧ IsD H1 a ∧ ty σ H1 fun y H2 => tx σ H2 fun z H3 => ∃ (kvs : List (List Key × V)) (k : List Key) (b : Addr), H3 a = some (.dT kvs) ∧ y = .ref b ∧ H3 b = some (.tup (k.map kV)) ∧ kvs.length < sizeLine ∧
  (∀ v, valV kvs k = some v → Q v H3) ∧ (valV kvs k = none → Q z (upd H3 a (.dT (putK kvs k z))))
section
variable {X : Cx} {o e f : Expr} {td ty tx : TE} {apos cpos : Pos}
theorem pe_dsetT (hu : X.A.units + 1 < cLine) (ho : PE X o td) (he : PE X e ty) (hf : PE X f tx) (m : M2 X o "setdefault" apos e f cpos) : PE X (.Call (.Attribute o "setdefault" apos) [e, f] [] cpos) (tDSetT td ty tx) := by
  refine ⟨fun pins s σ H Q I h => ?_⟩
  refine wpAny_Call_method m.base m.few m.line PySem.F.plainAttrs_dict PySem.F.slot_dict_setdefault PySem.F.type_dict_setdefault (thn (ho.run pins s σ H _ I h) fun u s1 ⟨x, H1, I1, rx, a, ex, d, q1⟩ => ?_)
  subst ex
  obtain rfl : u = Value.ref a := rx
  obtain ⟨t1, t2, _⟩ := isD_at I1 d
  refine ⟨t1, t2, ?_⟩
  rw [m.trees]
  refine Calls.callWith_builtin rfl (Calls.evalArgs_plain (Calls.spliced_cons (thn (he.run pins s1 σ H1 _ I1 q1) fun iv s2 ⟨y, H2, I2, ry, q2⟩ =>
    Calls.spliced_cons (thn (hf.run pins s2 σ H2 _ I2 q2) fun fv s3 ⟨z, H3, I3, rz, kvs, k, b, ea, ey, eb, hl, q3, q4⟩ => Calls.spliced_nil ?_))))
  subst ey
  obtain rfl : iv = Value.ref b := ry
  exact d_setdT hu I3 ea eb rz hl (fun v hv w' s4 I4 rw' => ⟨v, _, I4, rw', q3 v hv⟩) fun hn w' s4 I4 rw' => ⟨z, _, I4, rw', q4 hn⟩
end
end VG
namespace VG
open PySem PySem.Spec PyProof.Rows L2
section
variable {X : Cx} {pins : List (Addr × Obj)} {σ : L2.St} {H : Hp} {s : Shared} {d : Addr} {o : Obj}
theorem frzT2 {kvs : List (List Key × V)} (I : Inv X pins σ H s) (h : H d = some (.frz o (.dT kvs))) :
    (d == sysModules) = false ∧ s.heap.get? d = some o ∧ o.ExactDict ∧ ∃ (es : Array DictEntry) (ep : Nat), o.data = .dict es ep ∧ es.size = kvs.length ∧
      ∀ (i : Nat) (k : List Key) (v : V), kvs[i]? = some (k, v) → ∃ (en : DictEntry) (q : Addr), es[i]? = some en ∧ en.key = .ref q ∧ H q = some (.tup (k.map kV)) ∧ RelV v en.val := by
  obtain ⟨hd, z, hs, xs, pr, o', es, ep, ho, hx, hdt, he, _⟩ := I.hok d _ h
  rw [hd] at ho
  cases ho
  refine ⟨hs, hd, hx, es, ep, hdt, ?_, fun i k v e => ?_⟩
  · have l1 : es.size = xs.length := size_of_entries he
    have l2 : kvs.length = xs.length := Paired.length pr
    omega
  · obtain ⟨b, hb, e1, e2, e3⟩ := L2.paired_get pr e
    have q := entry_at he i
    rw [hb] at q
    exact ⟨_, b.2.1, q, rfl, e2, e3⟩
end
/-- the pairs, the key its own tuple, each pair a new one -/
def ItiT (d : Addr) (o : Obj) (kvs : List (List Key × V)) : It :=
  ⟨fun i H => H d = some (.frz o (.dT kvs)) ∧ i < kvs.length, fun i H x H' => ∃ (T : Addr) (k : List Key) (v : V) (q : Addr), kvs[i]? = some (k, v) ∧ x = .ref T ∧ H q = some (.tup (k.map kV)) ∧ H T = none ∧ H' = upd H T (.tup [.ref q, v]), fun i H => H d = some (.frz o (.dT kvs)) ∧ kvs.length ≤ i⟩
section
variable {P : Program} {w : World} {K : PySem.W.Frag} {d : Addr} {o : Obj} {es : Array DictEntry} {ep : Nat}
theorem turn_itemsT {kvs : List (List Key × V)} {elts : List Expr} {kk : Nat} {tpos : Pos} (it : Addr) (hod : o.data = .dict es ep) :
    Turn P w K (.Tuple elts kk tpos) (ItiT d o kvs) [it] it (fun i h => ∃ ok ov, IsItemIter h it d i kvs.length ep ok ov) where
  mem := by simp
  obj := fun i h st b hb => by
    have e : b = it := by simpa using hb
    subst e
    obtain ⟨ok, ov, e⟩ := st
    exact ⟨_, e, fun v z => nomatch z⟩
  keep := fun i h h' st k => let ⟨ok, ov, e⟩ := st; ⟨ok, ov, k it (by simp) _ e⟩
  item := by
    intro X hP hw hK hc i pins s σ H E I hf st hg
    subst hP hw hK
    obtain ⟨hd, hi⟩ := hg
    obtain ⟨hs, hgd, hx, es', ep', hdt, hsz, ent⟩ := frzT2 I hd
    obtain ⟨rfl, rfl⟩ := L2.dict_ep hod hdt
    obtain ⟨⟨k, v⟩, hkv⟩ : ∃ p, kvs[i]? = some p := ⟨kvs[i], List.getElem?_eq_getElem hi⟩
    obtain ⟨en, q, hen, hkey, hq, hv⟩ := ent i k v hkv
    obtain ⟨ok, ov, he⟩ := st
    have hlt : it < s.heap.objs.size := Heap.lt_size he
    have hie : i < es'.size := by omega
    have eget : es'[i] = en := by
      have z : es'[i]? = some es'[i] := Array.getElem?_eq_getElem hie
      rw [z] at hen
      exact Option.some.inj hen
    rw [← hsz] at he
    refine wpAny_pyNext_items_item_raw he ⟨o, hgd, hx, hdt⟩ hie fun h' ho hT hz hk => ?_
    rw [eget] at ho hT
    refine ⟨_, rfl, wpAny_letOwnedTupleGo_items (s := { s with heap := h' }) ho fun h'' he' sb => ?_⟩
    have hT2 : h''.get? s.heap.objs.size = some { cls := .type "tuple", data := .seq #[en.key, en.val] } := (sb.2 _ (Nat.ne_of_gt hlt)).trans hT
    have new : ObjOk X.prog X.w (upd H s.heap.objs.size (.tup [.ref q, v])) h'' s.heap.objs.size (.tup [.ref q, v]) :=
      ⟨by show 2 ≤ sizeLine; decide, [en.key, en.val], .cons hkey (.cons hv .nil), ⟨_, hT2, rfl, _, rfl⟩⟩
    have I1 : Inv X pins σ (upd H s.heap.objs.size (.tup [.ref q, v])) { s with heap := h'' } :=
      I.turnedNew (t' := s.toks) (ch := [it]) (fun b ob hb e => (sb.2 b (by simpa using hb)).trans (hk b ob (by simpa using hb) e)) hf (Nat.le_refl _) new
    refine ⟨.ref s.heap.objs.size, _, I1, rfl, ⟨_, k, v, q, hkv, rfl, hq, I.hok.fresh (Nat.le_refl _), rfl⟩, ⟨en.key, en.val, ?_⟩, fun b hb => ?_⟩
    · rw [← hsz]
      exact he'
    · have e : b = it := by simpa using hb
      rw [e, upd_ne (Nat.ne_of_lt hlt)]
      exact (hf it (by simp)).1
  done := by
    intro X hP hw hK hc i pins s σ H E I hf st hg
    subst hP hw hK
    obtain ⟨hd, hi⟩ := hg
    obtain ⟨f0, f1, f2, f3, f4, f5⟩ := hf it (by simp)
    obtain ⟨hs, hgd, hx, es', ep', hdt, hsz, ent⟩ := frzT2 I hd
    obtain ⟨rfl, rfl⟩ := L2.dict_ep hod hdt
    obtain ⟨ok, ov, he⟩ := st
    rw [← hsz] at he
    exact wpAny_pyNext_items_end_raw (I.ok.hd hc) he ⟨o, hgd, hx, hdt⟩ (by omega) fun h' eb => ⟨rfl, I.turned (t' := s.toks) (fun b ob hb e => eb b ob hb e) f0 f1 f3 f4 f5⟩
  self := fun A i s Q E st h => let ⟨_, _, e⟩ := st; PySem.W.kcp_self e h
end
def iItemsT (td : TE) : TI := fun σ H R => td σ H fun x H1 => ∃ d o kvs, x = .ref d ∧ H1 d = some (.frz o (.dT kvs)) ∧ R (ItiT d o kvs) H1
section
variable {X : Cx} {e : Expr} {td : TE} {apos cpos : Pos}
theorem pi_itemsT {elts : List Expr} {kk : Nat} {tpos : Pos} (he : PE X e td) (hbase : attributeBase e "items" X.env (eval e X.env) = eval e X.env := by rfl) (hline : (apos.endLine == cpos.line) = true := by rfl) :
    PI X (.Tuple elts kk tpos) (.Call (.Attribute e "items" apos) [] [] cpos) (iItemsT td) := by
  refine ⟨fun pins s σ H R I h => ?_⟩
  refine wpAny_Call_method (T := "dict") (id := "dict.items") hbase rfl hline F.plainAttrs_dict F.slot_dict_items F.type_dict_items (thn (he.run pins s σ H _ I h) fun u s1 ⟨x, H1, I1, rx, d, o, kvs, ex, hd, q⟩ => ?_)
  subst ex
  obtain rfl : u = Value.ref d := rx
  obtain ⟨hs, hgd, hx, es, ep, hdt, hsz, ent⟩ := frzT2 I1 hd
  have raw : s1.heap.DictRaw d es ep := ⟨o, hgd, hx, hdt⟩
  refine ⟨raw.typeIs, fun b eb => ?_, ?_⟩
  · cases eb
    exact ⟨o, hgd, hx.2.1⟩
  have I2 : Inv X pins σ H1 { s1 with heap := s1.heap.push { cls := .type "dict_items", data := .fields #[.ref d] } } := I1.kept (t' := s1.toks) fun b ob q => Heap.get?_push_of_some _ q
  have fin : wpAny (model X.prog X.w) X.A (pyIter (.ref s1.heap.objs.size)) (PIE X pins σ (.Tuple elts kk tpos) R) X.xe { s1 with heap := s1.heap.push { cls := .type "dict_items", data := .fields #[.ref d] } } := by
    refine wpAny_pyIter_items_raw (d := d) ⟨_, Heap.get?_push_size _ rfl, rfl, rfl⟩ (raw.at fun o e => Heap.get?_push_of_some _ e) (pi_one (tk := s1.toks) I2 _ (turn_itemsT _ hdt) ⟨.none, .none, ?_⟩ q)
    rw [hsz]
    exact Heap.get?_push_size _ rfl
  show wpAny _ _ (callWith cpos (.builtin "dict.items") [.ref d] [] []) _ X.xe s1
  exact method_meetsIn F.slot_dict_items F.entry_dict_items rfl (PySem.evalArgs_none ⟨rfl, raw.typeIs, F.args_dict_items_1 _, _, meets_dict_items_raw d hs, ⟨⟨es, ep, raw⟩, fin⟩⟩)
end
/-- truth, the written part told -/
def tTru (K : PySem.W.Frag) (ta : TE) : TT := fun σ H Q => ta σ H fun x H' => ∃ k, TruV K x H' k ∧ Q k H'
theorem pt_tru {X : Cx} {K : PySem.W.Frag} {a : Expr} {ta : TE} (hK : X.K = K) (ha : PE X a ta) (he : ∀ whole, isTrue a X.env whole = (do let v ← whole; standAt a.pos; holding [v] (truthy v))) : PT X a (tTru K ta) := by
  subst hK
  exact pt_truth ha he
/-- tuple(x), the written part told -/
def rTupOf (K : PySem.W.Frag) : List V → Hp → VK → Prop := fun xs H Q => ∃ p ys, xs = [.ref p] ∧ ((SqL K H p ys ∧ ∀ l, H l = none → Q (.ref l) (L2.upd H l (.tup ys))) ∨ SqT K H p ys ∧ Q (.ref p) H)
theorem call_tupK {X : Cx} : CallR X (.type "tuple") (rTupOf X.K) := call_tuple_of
theorem units1 {k : Nat} {A : Around} (hr : Room k A) : A.units + 1 < cLine := by
  have := hr.un
  omega
theorem walk_itemsT {d : Addr} {o : Obj} {kvs : List (List Key × V)} : Walk (ItiT d o kvs) kvs.length (fun H => H d = some (.frz o (.dT kvs))) (fun i H x H' => ∃ (T : Addr) (k : List Key) (v : V) (q : Addr), kvs[i]? = some (k, v) ∧ x = .ref T ∧ H q = some (.tup (k.map kV)) ∧ H T = none ∧ H' = L2.upd H T (.tup [.ref q, v])) := by
  constructor
  · intro i H hi hG
    exact ⟨hG, hi⟩
  · intro H hG
    exact ⟨hG, Nat.le_refl _⟩
  · intro i H v H' hi hG hy
    exact hy
end VG
namespace CK
open PySem PySem.Spec PyProof.Rows L2 VG FR
def kI (c : List Int) : List L2.Key := c.map fun x => (Sum.inl x : L2.Key)
theorem kI_inj {a b : List Int} (h : kI a = kI b) : a = b := by
  unfold kI at h
  induction a generalizing b with
  | nil =>
    cases b with
    | nil => rfl
    | cons y ys => cases h
  | cons x xs ih =>
    cases b with
    | nil => cases h
    | cons y ys =>
      rw [List.map_cons, List.map_cons] at h
      obtain ⟨h1, h2⟩ := List.cons.inj h
      rw [Sum.inl.inj h1, ih h2]
theorem kI_kV (c : List Int) : (kI c).map kV = c.map V.int := by
  unfold kI
  rw [List.map_map]
  rfl
/-- the keys in the sequence in which they come about -/
def keysOf (f : Nat → List Int) : Nat → List (List Int)
  | 0 => []
  | n + 1 => if f n ∈ keysOf f n then keysOf f n else keysOf f n ++ [f n]
theorem keys_mem (f : Nat → List Int) : ∀ {n j : Nat}, j < n → f j ∈ keysOf f n
  | n + 1, j, h => by
    unfold keysOf
    by_cases e : f n ∈ keysOf f n
    · rw [if_pos e]
      rcases Nat.lt_or_ge j n with z | z
      · exact keys_mem f z
      · have : j = n := by omega
        subst this
        exact e
    · rw [if_neg e]
      rcases Nat.lt_or_ge j n with z | z
      · exact List.mem_append_left _ (keys_mem f z)
      · have : j = n := by omega
        subst this
        exact List.mem_append_right _ (List.mem_singleton.mpr rfl)
theorem keys_nodup (f : Nat → List Int) : ∀ n, (keysOf f n).Nodup
  | 0 => List.nodup_nil
  | n + 1 => by
    unfold keysOf
    by_cases e : f n ∈ keysOf f n
    · rw [if_pos e]
      exact keys_nodup f n
    · rw [if_neg e]
      exact List.nodup_append.mpr ⟨keys_nodup f n, by simp, fun a ha b hb => by
        have : b = f n := List.mem_singleton.mp hb
        subst this
        exact fun z => e (z ▸ ha)⟩
theorem keys_len (f : Nat → List Int) : ∀ n, (keysOf f n).length ≤ n
  | 0 => Nat.le_refl _
  | n + 1 => by
    unfold keysOf
    have := keys_len f n
    split
    · omega
    · rw [List.length_append, List.length_singleton]
      omega
def memb (f : Nat → List Int) (c : List Int) (j : Nat) : Bool := decide (f j = c)
/-- the dict's entries -/
def mkKvs : List (List Int) → List Addr → List (List L2.Key × V)
  | c :: cs, l :: ls => (kI c, .ref l) :: mkKvs cs ls
  | _, _ => []
theorem mk_len : ∀ {cs : List (List Int)} {ls : List Addr}, cs.length = ls.length → (mkKvs cs ls).length = cs.length
  | [], [], _ => rfl
  | _ :: cs, _ :: ls, h => by
    show (mkKvs cs ls).length + 1 = cs.length + 1
    rw [mk_len (Nat.succ.inj h)]
  | [], _ :: _, h => by cases h
  | _ :: _, [], h => by cases h
theorem mk_val {c : List Int} : ∀ {cs : List (List Int)} {ls : List Addr} {v : V}, cs.length = ls.length → valV (mkKvs cs ls) (kI c) = some v → ∃ (i : Nat) (l : Addr), cs[i]? = some c ∧ ls[i]? = some l ∧ v = .ref l
  | [], [], v, _, h => by cases h
  | d :: cs, l :: ls, v, e, h => by
    by_cases q : kI d = kI c
    · have q2 := kI_inj q
      subst q2
      have : valV (mkKvs (d :: cs) (l :: ls)) (kI d) = some (.ref l) := valV_pos (p := (kI d, V.ref l)) rfl
      rw [this] at h
      exact ⟨0, l, rfl, rfl, (Option.some.inj h).symm⟩
    · have : valV (mkKvs (d :: cs) (l :: ls)) (kI c) = valV (mkKvs cs ls) (kI c) := valV_neg (p := (kI d, V.ref l)) q
      rw [this] at h
      obtain ⟨i, m, h1, h2, h3⟩ := mk_val (Nat.succ.inj e) h
      exact ⟨i + 1, m, h1, h2, h3⟩
  | [], _ :: _, _, h, _ => by cases h
  | _ :: _, [], _, h, _ => by cases h
theorem mk_none {c : List Int} : ∀ {cs : List (List Int)} {ls : List Addr}, cs.length = ls.length → valV (mkKvs cs ls) (kI c) = none → c ∉ cs
  | [], [], _, _ => List.not_mem_nil
  | d :: cs, l :: ls, e, h => by
    by_cases q : kI d = kI c
    · have : valV (mkKvs (d :: cs) (l :: ls)) (kI c) = some (.ref l) := valV_pos (p := (kI d, V.ref l)) q
      rw [this] at h
      cases h
    · have : valV (mkKvs (d :: cs) (l :: ls)) (kI c) = valV (mkKvs cs ls) (kI c) := valV_neg (p := (kI d, V.ref l)) q
      rw [this] at h
      have ih := mk_none (Nat.succ.inj e) h
      intro z
      rcases List.mem_cons.mp z with z | z
      · subst z
        exact q rfl
      · exact ih z
  | [], _ :: _, h, _ => by cases h
  | _ :: _, [], h, _ => by cases h
theorem mk_snoc {c : List Int} {l : Addr} : ∀ {cs : List (List Int)} {ls : List Addr}, cs.length = ls.length → mkKvs (cs ++ [c]) (ls ++ [l]) = mkKvs cs ls ++ [(kI c, .ref l)]
  | [], [], _ => rfl
  | d :: cs, m :: ls, e => by
    show (kI d, V.ref m) :: mkKvs (cs ++ [c]) (ls ++ [l]) = _
    rw [mk_snoc (Nat.succ.inj e)]
    rfl
  | [], _ :: _, h => by cases h
  | _ :: _, [], h => by cases h
theorem mk_put {c : List Int} {l : Addr} {cs : List (List Int)} {ls : List Addr} (e : cs.length = ls.length) (h : valV (mkKvs cs ls) (kI c) = none) : putK (mkKvs cs ls) (kI c) (.ref l) = mkKvs (cs ++ [c]) (ls ++ [l]) := by
  unfold putK
  rw [valV_any, h]
  rw [if_neg (by simp), mk_snoc e]
theorem mk_get : ∀ {cs : List (List Int)} {ls : List Addr} {i : Nat} {k : List L2.Key} {v : V}, cs.length = ls.length → (mkKvs cs ls)[i]? = some (k, v) → ∃ c l, cs[i]? = some c ∧ ls[i]? = some l ∧ k = kI c ∧ v = .ref l
  | [], [], _, _, _, _, h => by cases h
  | d :: cs, l :: ls, 0, k, v, e, h => by
    have q : (kI d, V.ref l) = (k, v) := Option.some.inj h
    obtain ⟨q1, q2⟩ := Prod.mk.inj q
    exact ⟨d, l, rfl, rfl, q1.symm, q2.symm⟩
  | d :: cs, l :: ls, i + 1, k, v, e, h => mk_get (i := i) (Nat.succ.inj e) h
  | [], _ :: _, _, _, _, h, _ => by cases h
  | _ :: _, [], _, _, _, h, _ => by cases h
end CK
namespace CK
open PySem PySem.Spec PyProof.Rows L2 VG FR
def fT (ts : List (List Int)) (j : Nat) : List Int := totsWith ts j
def classesL (ts : List (List Int)) (n : Nat) : List (List Int) := ((keysOf (fT ts) n).filter fun c => !c.isEmpty).map fun c => pick (memb (fT ts) c) n
def spClasses (K : PySem.W.Frag) (C : Addr) : Sp := fun vs H Q _ => ∃ (a : Addr) (ks : List Str) (ts : List (List Int)), vs = [.ref a] ∧ Tab K C H a ks ts ∧ ts.length ≤ 1000 ∧ ks.length ≤ 1000 ∧
  ∀ H' u xs, Same H H' → H u = none → H' u = some (.tup xs) → Tots K H' xs (classesL ts ks.length) → Q (.ref u) H'
/-- the groups in the heap, behind i kinds -/
structure Grp (H0 H : Hp) (D : Addr) (f : Nat → List Int) (i : Nat) (ls : List Addr) : Prop where
  d : H D = some (.dT (mkKvs (keysOf f i) ls))
  len : (keysOf f i).length = ls.length
  nd : ls.Nodup
  new : ∀ l ∈ ls, H0 l = none
  at_ : ∀ (j : Nat) (c : List Int) (l : Addr), (keysOf f i)[j]? = some c → ls[j]? = some l → H l = some (.lst ((pick (memb f c) i).map V.int))
theorem Grp.mono {H0 H H' : Hp} {D : Addr} {f : Nat → List Int} {i : Nat} {ls : List Addr} (g : Grp H0 H D f i ls) (e : Same H H') : Grp H0 H' D f i ls :=
  ⟨e _ _ g.d, g.len, g.nd, g.new, fun j c l h1 h2 => e _ _ (g.at_ j c l h1 h2)⟩
theorem pick_nil {P : Nat → Bool} {i : Nat} (h : ∀ j, j < i → P j = false) : pick P i = [] := by
  unfold pick
  have e : (List.range i).filter P = [] := List.filter_eq_nil_iff.mpr fun j hj => by
    rw [h j (List.mem_range.mp hj)]
    exact Bool.false_ne_true
  rw [e]
  rfl
theorem nodup_at {α : Type} : ∀ {l : List α} {i j : Nat} {x : α}, l.Nodup → l[i]? = some x → l[j]? = some x → i = j
  | [], _, _, _, _, h, _ => by simp at h
  | a :: l, 0, 0, _, _, _, _ => rfl
  | a :: l, 0, j + 1, x, n, h, k => by
    have e : a = x := Option.some.inj h
    subst e
    exact absurd (List.mem_of_getElem? (l := l) (i := j) k) (List.nodup_cons.mp n).1
  | a :: l, i + 1, 0, x, n, h, k => by
    have e : a = x := Option.some.inj k
    subst e
    exact absurd (List.mem_of_getElem? (l := l) (i := i) h) (List.nodup_cons.mp n).1
  | a :: l, i + 1, j + 1, x, n, h, k => by rw [nodup_at (l := l) (i := i) (j := j) (List.nodup_cons.mp n).2 h k]
/-- one more kind, of a group that is there -/
theorem Grp.old {H0 H : Hp} {D l : Addr} {f : Nat → List Int} {i j : Nat} {ls : List Addr} (g : Grp H0 H D f i ls) (h1 : (keysOf f i)[j]? = some (f i)) (h2 : ls[j]? = some l) :
    Grp H0 (L2.upd H l (.lst ((pick (memb f (f i)) i).map V.int ++ [V.int (i : Int)]))) D f (i + 1) ls := by
  have hl := g.at_ j _ l h1 h2
  have ek : keysOf f (i + 1) = keysOf f i := by
    show (if f i ∈ keysOf f i then keysOf f i else keysOf f i ++ [f i]) = _
    rw [if_pos (List.mem_of_getElem? h1)]
  refine ⟨?_, by rw [ek]; exact g.len, g.nd, g.new, ?_⟩
  · rw [ek, upd_ne (ne_of g.d hl (fun z => nomatch z))]
    exact g.d
  · intro m c l' k1 k2
    rw [ek] at k1
    by_cases e : m = j
    · subst e
      have e1 : c = f i := Option.some.inj (k1.symm.trans h1)
      have e2 : l' = l := Option.some.inj (k2.symm.trans h2)
      subst e1 e2
      rw [upd_same, pick_yes (by unfold memb; exact decide_eq_true rfl), List.map_append]
      rfl
    · have nl : l' ≠ l := fun z => by
        subst z
        exact e (nodup_at g.nd k2 h2)
      have nc : c ≠ f i := fun z => by
        subst z
        exact e (nodup_at (keys_nodup f i) k1 h1)
      rw [upd_ne nl, pick_no (by unfold memb; exact decide_eq_false (fun z => nc z.symm))]
      exact g.at_ m c l' k1 k2
/-- one more kind, of a new group -/
theorem Grp.fresh {H0 H : Hp} {D L : Addr} {f : Nat → List Int} {i : Nat} {ls : List Addr} (g : Grp H0 H D f i ls) (n : f i ∉ keysOf f i) (nL : H L = none) (n0 : H0 L = none) :
    Grp H0 (L2.upd (L2.upd (L2.upd H L (.lst [])) D (.dT (mkKvs (keysOf f i ++ [f i]) (ls ++ [L])))) L (.lst [V.int (i : Int)])) D f (i + 1) (ls ++ [L]) := by
  have ek : keysOf f (i + 1) = keysOf f i ++ [f i] := by
    show (if f i ∈ keysOf f i then keysOf f i else keysOf f i ++ [f i]) = _
    rw [if_neg n]
  have nDL : D ≠ L := ne_of_none g.d nL
  have there : ∀ l ∈ ls, l ≠ L ∧ l ≠ D := by
    intro l hl
    obtain ⟨j, ej⟩ := List.mem_iff_getElem?.mp hl
    have hj : j < (keysOf f i).length := by
      have := (List.getElem?_eq_some_iff.mp ej).1
      rw [g.len]
      exact this
    have h := g.at_ j _ l (List.getElem?_eq_getElem hj) ej
    exact ⟨ne_of_none h nL, ne_of h g.d (fun z => nomatch z)⟩
  refine ⟨?_, ?_, ?_, ?_, ?_⟩
  · rw [upd_ne nDL, upd_same, ek]
  · rw [ek, List.length_append, List.length_append, g.len]
    rfl
  · exact List.nodup_append.mpr ⟨g.nd, by simp, fun a ha b hb => by
      have : b = L := List.mem_singleton.mp hb
      subst this
      exact (there a ha).1⟩
  · intro l hl
    rcases List.mem_append.mp hl with z | z
    · exact g.new l z
    · have : l = L := List.mem_singleton.mp z
      subst this
      exact n0
  · intro j c l k1 k2
    rw [ek] at k1
    rcases Nat.lt_or_ge j ls.length with z | z
    · rw [List.getElem?_append_left (by rw [g.len]; exact z)] at k1
      rw [List.getElem?_append_left z] at k2
      have th := there l (List.mem_of_getElem? k2)
      have nc : f i ≠ c := fun q => n (q ▸ List.mem_of_getElem? k1)
      rw [upd_ne th.1, upd_ne th.2, upd_ne th.1, pick_no (by unfold memb; exact decide_eq_false nc)]
      exact g.at_ j c l k1 k2
    · rw [List.getElem?_append_right (by rw [g.len]; exact z)] at k1
      rw [List.getElem?_append_right z] at k2
      rw [g.len] at k1
      have j0 : j - ls.length = 0 := by
        have := (List.getElem?_eq_some_iff.mp k2).1
        rw [List.length_singleton] at this
        omega
      rw [j0] at k1 k2
      have e1 : f i = c := Option.some.inj k1
      have e2 : L = l := Option.some.inj k2
      subst e1 e2
      have p0 : pick (memb f (f i)) i = [] := pick_nil fun j hj => by
        unfold memb
        exact decide_eq_false (fun q => n (q ▸ keys_mem f hj))
      rw [upd_same, pick_yes (by unfold memb; exact decide_eq_true rfl), p0]
      rfl
end CK
namespace CK
open PySem PySem.Spec PyProof.Rows L2 VG FR
theorem seqT_unlock {K : PySem.W.Frag} {H : Hp} {D t : Addr} {od : Obj} {kvs : List (List L2.Key × V)} {o : HO} {xs : List V} (hD : H D = some (.frz od (.dT kvs))) (h : SqT K H t xs) : SqT K (L2.upd H D o) t xs := by
  rcases h with (h | ⟨o', h⟩) | h
  · exact .inl (.inl (by rw [upd_ne (ne_of h hD (fun z => nomatch z))]; exact h))
  · exact .inl (.inr ⟨o', by rw [upd_ne (ne_of h hD (fun z => by cases z))]; exact h⟩)
  · exact .inr h
theorem Tots.unlock {K : PySem.W.Frag} {H : Hp} {D : Addr} {od : Obj} {kvs : List (List L2.Key × V)} {o : HO} (hD : H D = some (.frz od (.dT kvs))) : ∀ {vs : List V} {cs : List (List Int)}, Tots K H vs cs → Tots K (L2.upd H D o) vs cs
  | [], [], _ => trivial
  | _ :: _, _ :: _, ⟨⟨t, e1, h⟩, r⟩ => ⟨⟨t, e1, seqT_unlock hD h⟩, Tots.unlock hD r⟩
  | [], _ :: _, h => h.elim
  | _ :: _, [], h => h.elim
theorem Tots.snoc {K : PySem.W.Frag} {H : Hp} {t : Addr} {c : List Int} (hv : SqT K H t (c.map V.int)) : ∀ {vs : List V} {cs : List (List Int)}, Tots K H vs cs → Tots K H (vs ++ [.ref t]) (cs ++ [c])
  | [], [], _ => ⟨⟨t, rfl, hv⟩, trivial⟩
  | _ :: _, _ :: _, h => ⟨h.1, Tots.snoc hv h.2⟩
  | [], _ :: _, h => h.elim
  | _ :: _, [], h => h.elim
theorem Tots.upd {K : PySem.W.Frag} {H : Hp} {D : Addr} {ys zs : List V} (hD : H D = some (.lst ys)) : ∀ {vs : List V} {cs : List (List Int)}, Tots K H vs cs → Tots K (L2.upd H D (.lst zs)) vs cs
  | [], [], _ => trivial
  | _ :: _, _ :: _, ⟨⟨t, e1, h⟩, r⟩ => ⟨⟨t, e1, seqT_upd hD h⟩, Tots.upd hD r⟩
  | [], _ :: _, h => h.elim
  | _ :: _, [], h => h.elim
/-- what has come about behind i groups -/
def outL (f : Nat → List Int) (n i : Nat) : List (List Int) := (((keysOf f n).take i).filter fun c => !c.isEmpty).map fun c => pick (memb f c) n
theorem out_yes {f : Nat → List Int} {n i : Nat} {c : List Int} (e : (keysOf f n)[i]? = some c) (h : (!c.isEmpty) = true) : outL f n (i + 1) = outL f n i ++ [pick (memb f c) n] := by
  unfold outL
  rw [List.take_add_one, e, List.filter_append, List.map_append]
  have e2 : (some c).toList.filter (fun c => !c.isEmpty) = [c] := by
    show [c].filter _ = _
    simp only [List.filter_cons, h, if_true, List.filter_nil]
  rw [e2]
  rfl
theorem out_no {f : Nat → List Int} {n i : Nat} {c : List Int} (e : (keysOf f n)[i]? = some c) (h : (!c.isEmpty) = false) : outL f n (i + 1) = outL f n i := by
  unfold outL
  rw [List.take_add_one, e, List.filter_append, List.map_append]
  have e2 : (some c).toList.filter (fun c => !c.isEmpty) = [] := by
    show [c].filter _ = _
    simp only [List.filter_cons, h, if_false, List.filter_nil, Bool.false_eq_true]
  rw [e2]
  exact List.append_nil _
end CK
namespace K14
open PySem PySem.Spec PyProof.Rows L2 VG FR CK
abbrev s_classes_of : Stmt := topS 32
abbrev N_classes_of : List Str := ["table", "by_totals", "kind", "totals", "kinds"]
theorem sc_classes_of : FnScope N_classes_of ["table"] (defScope s_classes_of) := ⟨rfl, rfl, rfl, by decide +kernel, rfl, by decide +kernel, by decide +kernel⟩
section
variable {P : Program} {w : World} {K : PySem.W.Frag} {mg : Str → Option Value} {base : Heap}
theorem ok_classes_of {f C : Addr} {fd : FuncData} (F : Fun K "classes_of" "classes_of" s_classes_of f fd) (T : TabC K C) (C_totals_with : Cl P w K mg base 1 "totals_with" (spTotalsWith K C)) (z_range : mg "range" = none) (z_len : mg "len" = none) (z_tuple : mg "tuple" = none) :
    FnOk P w K mg base CX0 2 f fd ["table"] (spClasses K C) := by
  refine F.ok sc_classes_of (fun vs H Q E h => ?_) (fun cdv A outer s H vs Q E hr h => ?_)
  · obtain ⟨_, _, _, rfl, _⟩ := h
    rfl
  · obtain ⟨a, ks, ts, rfl, hTab, lt, lk, fin⟩ := h
    refine ⟨_, (pss_cons (ps_set (i := 1) sc_classes_of.nd rfl (.inl rfl) pe_dnewT)
    (pss_cut (ps_for PassesOwn.never rfl (pi_range1 (by rfl) z_range (pa_cons (pe_callB call_len_seq (by rfl) z_len (by decide +kernel) (pa_cons (pe_fld (pv 0) (by rfl)) pa_nil)) pa_nil)) (pg_name (i := 2) sc_classes_of.nd rfl (.inl rfl))
      (pss_one (ps_expr (pe_bm PySem.F.plainAttrs_list PySem.F.slot_list_append PySem.F.type_list_append mt_append (pe_dsetT (units1 hr) (pv 1) (pe_cl C_totals_with hr (by decide) rfl (pa_cons (pv 0) (pa_cons (pv 2) pa_nil))) (pe_lst pa_nil) ⟨rfl, rfl, rfl, rfl⟩) (pa_cons (pv 2) pa_nil)))))
    (pss_one (ps_ret (pe_callTy call_tuple_of (by rfl) z_tuple (by decide +kernel) (pa_cons (pe_lock (pe_lc (own := [("totals", 3), ("kinds", 4)]) (by rfl) sc_classes_of.nd (pi_itemsT (pv 1)) (blkOk_by (own := [("totals", 3), ("kinds", 4)]) (N := N_classes_of) (sc := defScope s_classes_of) (by decide +kernel)) (fun _ _ _ _ _ => (show PG _ _ (gTup K 2 _) from pg_tup rfl (pgs_cons (pg_name (i := 3) sc_classes_of.nd rfl (.inl rfl)) (pgs_cons (pg_name (i := 4) sc_classes_of.nd rfl (.inl rfl)) pgs_nil)))) (fun _ _ _ _ _ => (pts_one (pt_tru (K := K) rfl (pv 3) (by intro _; rfl)))) (fun _ _ _ _ _ => (pe_callTy (show CallR _ (.type "tuple") (rTupOf K) from call_tupK) (by rfl) z_tuple (by decide +kernel) (pa_cons (pv 4) pa_nil))))) pa_nil)))))), ?_⟩
    refine fun D nD => ?_
    have sD := same_upd (o := .dT []) nD
    obtain ⟨dx, k, t, xs, hO, hK, hS, hT⟩ := hTab
    have hTab : Tab K C H a ks ts := ⟨dx, k, t, xs, hO, hK, hS, hT⟩
    have aD : a ≠ D := ne_of_none hO nD
    refine ⟨fun σ H' => ∃ (y2 : Option V) (ls : List Addr), σ = [some (.ref a), some (.ref D), y2, none, none] ∧ Same H H' ∧ Grp H H' D (fT ts) ks.length ls, ?_, ?_⟩
    · refine ⟨_, rfl, a, C, dx, _, .ref k, rfl, sD _ _ hO, T.c, T.nk, rfl, k, _, rfl, .inr (seqT sD hK), _, rfl, by rw [List.length_map]; omega, by rw [List.length_map]; omega, ?_⟩
      refine for_it (walk_range (lo := 0) (n := (ks.map V.str).length)) (fun i σ H' => ∃ (y2 : Option V) (ls : List Addr), σ = [some (.ref a), some (.ref D), y2, none, none] ∧ Same H H' ∧ Grp H H' D (fT ts) i ls) ?_ (fun _ _ _ _ _ => trivial) ?_ ?_
      · exact ⟨none, [], rfl, sD, ⟨upd_same, rfl, List.nodup_nil, (fun l hl => by cases hl), (fun j c l h => by cases h)⟩⟩
      · rintro i v σ Ha Hb hi ⟨y2, ls, rfl, sm, g⟩ ⟨e, rfl⟩
        subst e
        refine ⟨_, rfl, D, rfl, .inr ⟨_, .inl g.d⟩, ?_⟩
        refine ⟨_, rfl, _, rfl, a, ks, ts, _, rfl, hTab.mono sm, lt, fun H2 u s2 nu hu => ?_⟩
        refine ⟨by show 0 ≤ sizeLine; decide, fun L nL => ?_⟩
        have g2 := g.mono s2
        have sm2 := sm.trans s2
        have sL := same_upd (o := .lst []) nL
        have g3 := g2.mono sL
        have sm3 := sm2.trans sL
        have e0 : (0 : Int) + (i : Nat) = (i : Nat) := Int.zero_add _
        rw [e0] at hu
        have hi2 : i < ks.length := by
          have : i < (ks.map V.str).length := hi
          rw [List.length_map] at this
          exact this
        have small : ∀ n : Nat, n ≤ 1000 → n < sizeLine := fun n hn => by
          have : sizeLine = 16777216 := by decide
          omega
        refine ⟨_, kI (fT ts i), u, g3.d, rfl, ?_, ?_, fun v hv => ?_, fun hn => ?_⟩
        · rw [kI_kV]
          exact sL _ _ hu
        · rw [mk_len g.len]
          have := keys_len (fT ts) i
          exact small _ (by omega)
        · obtain ⟨j, l, k1, k2, rfl⟩ := mk_val g.len hv
          have hl := g3.at_ j _ l k1 k2
          refine ⟨.inl ⟨rfl, _, .inl (.inl hl)⟩, _, rfl, l, _, _, rfl, rfl, hl, ?_, ?_⟩
          · have := pick_len (memb (fT ts) (fT ts i)) i
            rw [List.length_map]
            exact small _ (by omega)
          · have gg := g3.old k1 k2
            rw [← e0] at gg
            refine ⟨_, ls, rfl, ?_, gg⟩
            intro b o hb
            have nb : b ≠ l := ne_of_none hb (g.new l (List.mem_of_getElem? k2))
            rw [upd_ne nb]
            exact sm3 b o hb
        · have nk := mk_none g.len hn
          have nDL : D ≠ L := ne_of_none g2.d nL
          have hLL : (L2.upd (L2.upd H2 L (.lst [])) D (.dT (putK (mkKvs (keysOf (fT ts) i) ls) (kI (fT ts i)) (.ref L)))) L = some (.lst []) := by
            rw [upd_ne nDL.symm, upd_same]
          refine ⟨.inl ⟨rfl, _, .inl (.inl hLL)⟩, _, rfl, L, _, _, rfl, rfl, hLL, by show 0 < sizeLine; decide, ?_⟩
          rw [mk_put g.len hn]
          have gg := g2.fresh nk nL (sm2.free nL)
          rw [← e0] at gg
          refine ⟨_, ls ++ [L], rfl, ?_, gg⟩
          intro b o hb
          have nbL : b ≠ L := ne_of_none (sm2 b o hb) nL
          have nbD : b ≠ D := ne_of_none hb nD
          rw [upd_ne nbL, upd_ne nbD, upd_ne nbL]
          exact sm2 b o hb
      · rintro σ H' ⟨y2, ls, rfl, sm, g⟩
        rw [List.length_map] at g
        exact ⟨y2, ls, rfl, sm, g⟩
    · rintro σ H1 ⟨y2, ls, rfl, sm, g⟩
      refine ⟨D, _, g.d, trivial, fun od => ?_⟩
      have g1 := g
      have hfr : (L2.upd H1 D (.frz od (.dT (mkKvs (keysOf (fT ts) ks.length) ls)))) D = some (.frz od (.dT (mkKvs (keysOf (fT ts) ks.length) ls))) := upd_same
      have lists : ∀ (j : Nat) (c : List Int) (l : Addr), (keysOf (fT ts) ks.length)[j]? = some c → ls[j]? = some l → (L2.upd H1 D (.frz od (.dT (mkKvs (keysOf (fT ts) ks.length) ls)))) l = some (.lst ((pick (memb (fT ts) c) ks.length).map V.int)) := by
        intro j c l k1 k2
        have h := g.at_ j c l k1 k2
        rw [upd_ne (ne_of h g.d (fun z => nomatch z))]
        exact h
      have keepF : ∀ (b : Addr) (o : HO), H b = some o → (L2.upd H1 D (.frz od (.dT (mkKvs (keysOf (fT ts) ks.length) ls)))) b = some o := by
        intro b o hb
        rw [upd_ne (ne_of_none hb nD)]
        exact sm b o hb
      generalize L2.upd H1 D (.frz od (.dT (mkKvs (keysOf (fT ts) ks.length) ls))) = HF at hfr lists keepF ⊢
      refine ⟨_, rfl, D, od, _, rfl, hfr, fun M nM => ?_⟩
      have kl := keys_len (fT ts) ks.length
      refine lc_it (walk_itemsT (d := D) (o := od) (kvs := mkKvs (keysOf (fT ts) ks.length) ls)) (fun i H' => Same HF H' ∧ ∃ xs, H' M = some (.lst xs) ∧ Tots K H' xs (outL (fT ts) ks.length i) ∧ xs.length ≤ i) ⟨same_upd nM, [], upd_same, trivial, Nat.le_refl _⟩ (fun i H' _ h => h.1 _ _ hfr) ?_ ?_
      · rintro i v H2 H3 hi ⟨sm2, xs2, hM, hx, hl2⟩ ⟨U, kk, v', q, hkv, rfl, hq, nU, rfl⟩
        obtain ⟨c, l, k1, k2, rfl, rfl⟩ := mk_get g.len hkv
        have sU := same_upd (o := .tup [.ref q, .ref l]) nU
        have sm3 := sm2.trans sU
        have il : i < (keysOf (fT ts) ks.length).length := (List.getElem?_eq_some_iff.mp k1).1
        rw [kI_kV] at hq
        refine ⟨U, _, rfl, .inl (.inl upd_same), rfl, _, _, rfl, _, _, rfl, rfl, rfl, ?_⟩
        refine ⟨_, rfl, _, .inr (.inl ⟨_, sqt (sU _ _ hq), rfl⟩), ?_⟩
        have em : (!(c.map V.int).isEmpty) = !c.isEmpty := by cases c <;> rfl
        rw [em]
        cases hc : !c.isEmpty with
        | true =>
          refine iteT ⟨_, rfl, l, _, rfl, .inl ⟨.inl (.inl (sm3 _ _ (lists i c l k1 k2))), fun u nu => ?_⟩⟩
          have su := same_upd (o := .tup ((pick (memb (fT ts) c) ks.length).map V.int)) nu
          have hM2 := su _ _ (sU _ _ hM)
          refine ⟨_, hM2, ?_, HD.same_put (sm3.trans su) nM, xs2 ++ [.ref u], upd_same, ?_, by rw [List.length_append]; exact Nat.succ_le_succ hl2⟩
          · have : sizeLine = 16777216 := by decide
            omega
          · rw [out_yes k1 hc]
            exact Tots.upd hM2 (Tots.snoc (sqt upd_same) (hx.mono (sU.trans su)))
        | false =>
          refine iteF ⟨sm3, xs2, sU _ _ hM, ?_, by omega⟩
          rw [out_no k1 hc]
          exact hx.mono sU
      · rintro H2 ⟨sm2, xs2, hM, hx, hl2⟩
        have h2D := sm2 _ _ hfr
        refine ⟨h2D, ?_⟩
        have nMD : M ≠ D := ne_of hM h2D (fun z => nomatch z)
        have hM2 : (L2.upd H2 D (.dT (mkKvs (keysOf (fT ts) ks.length) ls))) M = some (.lst xs2) := by
          rw [upd_ne nMD]
          exact hM
        refine ⟨M, xs2, rfl, .inl ⟨.inl (.inl hM2), fun u nu => ?_⟩⟩
        have su := same_upd (o := .tup xs2) nu
        refine fin _ u xs2 (fun b o hb => ?_) ?_ upd_same ?_
        · have nb : b ≠ D := ne_of_none hb nD
          refine su _ _ ?_
          rw [upd_ne nb]
          exact sm2 _ _ (keepF b o hb)
        · cases hu : H u with
          | none => rfl
          | some o =>
            have nb : u ≠ D := ne_of_none hu nD
            have := sm2 _ _ (keepF u o hu)
            rw [upd_ne nb, this] at nu
            cases nu
        · have eo : outL (fT ts) ks.length (mkKvs (keysOf (fT ts) ks.length) ls).length = classesL ts ks.length := by
            unfold outL classesL
            rw [mk_len g.len, List.take_of_length_le (Nat.le_refl _)]
          rw [eo] at hx
          exact (Tots.unlock h2D hx).mono su
end
end K14
namespace CK
open PySem PySem.Spec PyProof.Rows L2 VG FR
theorem seqT_at {K : PySem.W.Frag} {H : Hp} {D t : Addr} {o o0 : HO} {xs : List V} (hD : H D = some o0) (h1 : ∀ ys, HO.tup ys ≠ o0) (h2 : ∀ od ys, HO.frz od (.tup ys) ≠ o0) (h : SqT K H t xs) : SqT K (L2.upd H D o) t xs := by
  rcases h with (h | ⟨o', h⟩) | h
  · exact .inl (.inl (by rw [upd_ne (ne_of h hD (h1 _))]; exact h))
  · exact .inl (.inr ⟨o', by rw [upd_ne (ne_of h hD (h2 _ _))]; exact h⟩)
  · exact .inr h
theorem Tots.at_ {K : PySem.W.Frag} {H : Hp} {D : Addr} {o o0 : HO} (hD : H D = some o0) (h1 : ∀ ys, HO.tup ys ≠ o0) (h2 : ∀ od ys, HO.frz od (.tup ys) ≠ o0) : ∀ {vs : List V} {cs : List (List Int)}, Tots K H vs cs → Tots K (L2.upd H D o) vs cs
  | [], [], _ => trivial
  | _ :: _, _ :: _, ⟨⟨t, e1, h⟩, r⟩ => ⟨⟨t, e1, seqT_at hD h1 h2 h⟩, Tots.at_ hD h1 h2 r⟩
  | [], _ :: _, h => h.elim
  | _ :: _, [], h => h.elim
abbrev Nums := List (L2.Key × V)
def putRow (g : Nums) (at_ : Nat) (c : List Int) : Nums := c.foldl (fun g k => putK g (Sum.inl k : L2.Key) (V.int (at_ : Int))) g
def numF (cs : List (List Int)) : Nat → Nums
  | 0 => []
  | i + 1 => putRow (numF cs i) i (cs.getD i [])
/-- the number of a kind's class, None if it has none -/
def numV (cs : List (List Int)) (k : Int) : V := (valV (numF cs cs.length) (Sum.inl k : L2.Key)).getD .non
theorem row_len (at_ : Nat) : ∀ (c : List Int) (g : Nums), (putRow g at_ c).length ≤ g.length + c.length
  | [], g => Nat.le_refl _
  | k :: c, g => by
    have h := row_len at_ c (putK g (Sum.inl k : L2.Key) (V.int (at_ : Int)))
    have h2 := length_putK g (Sum.inl k : L2.Key) (V.int (at_ : Int))
    show (putRow (putK g _ _) at_ c).length ≤ _
    rw [List.length_cons]
    omega
theorem num_len {cs : List (List Int)} (h : ∀ c ∈ cs, c.length ≤ 1000) : ∀ i, i ≤ cs.length → (numF cs i).length ≤ i * 1000
  | 0, _ => Nat.le_refl _
  | i + 1, hi => by
    have ih := num_len h i (by omega)
    have hc : (cs.getD i []).length ≤ 1000 := by
      rw [List.getD_eq_getElem?_getD, List.getElem?_eq_getElem (by omega)]
      exact h _ (List.getElem_mem _)
    have := row_len i (cs.getD i []) (numF cs i)
    show (putRow (numF cs i) i (cs.getD i [])).length ≤ _
    rw [Nat.succ_mul]
    omega
theorem row_take {g : Nums} {at_ i : Nat} {c : List Int} {k : Int} (e : c[i]? = some k) : putRow g at_ (c.take (i + 1)) = putK (putRow g at_ (c.take i)) (Sum.inl k : L2.Key) (V.int (at_ : Int)) := by
  unfold putRow
  rw [List.take_add_one, e, List.foldl_append]
  rfl
theorem classes_len (ts : List (List Int)) (n : Nat) : (classesL ts n).length ≤ n ∧ ∀ c ∈ classesL ts n, c.length ≤ n := by
  constructor
  · unfold classesL
    rw [List.length_map]
    exact Nat.le_trans (List.length_filter_le _ _) (keys_len _ n)
  · intro c hc
    unfold classesL at hc
    obtain ⟨k, _, rfl⟩ := List.mem_map.mp hc
    exact pick_len _ n
def spNumbers (K : PySem.W.Frag) (C : Addr) : Sp := fun vs H Q _ => ∃ (a : Addr) (ks : List Str) (ts : List (List Int)), vs = [.ref a] ∧ Tab K C H a ks ts ∧ ts.length ≤ 1000 ∧ ks.length ≤ 1000 ∧
  ∀ H' u, Same H H' → H u = none → H' u = some (.tup ((List.range ks.length).map fun j => numV (classesL ts ks.length) ((j : Nat) : Int))) → Q (.ref u) H'
end CK
namespace K14
open PySem PySem.Spec PyProof.Rows L2 VG FR CK
abbrev s_class_numbers : Stmt := topS 33
abbrev N_class_numbers : List Str := ["table", "numbers", "at", "kinds", "kind"]
theorem sc_class_numbers : FnScope N_class_numbers ["table"] (defScope s_class_numbers) := ⟨rfl, rfl, rfl, by decide +kernel, rfl, by decide +kernel, by decide +kernel⟩
section
variable {P : Program} {w : World} {K : PySem.W.Frag} {mg : Str → Option Value} {base : Heap}
theorem ok_class_numbers {f C : Addr} {fd : FuncData} (F : Fun K "class_numbers" "class_numbers" s_class_numbers f fd) (T : TabC K C) (C_classes_of : Cl P w K mg base 2 "classes_of" (spClasses K C)) (z_enumerate : mg "enumerate" = none) (z_range : mg "range" = none) (z_len : mg "len" = none) (z_tuple : mg "tuple" = none) :
    FnOk P w K mg base CX0 3 f fd ["table"] (spNumbers K C) := by
  refine F.ok sc_class_numbers (fun vs H Q E h => ?_) (fun cdv A outer s H vs Q E hr h => ?_)
  · obtain ⟨_, _, _, rfl, _⟩ := h
    rfl
  · obtain ⟨a, ks, ts, rfl, hTab, lt, lk, fin⟩ := h
    refine ⟨_, (pss_cons (ps_set (i := 1) sc_class_numbers.nd rfl (.inr rfl) pe_dnewK)
    (pss_cut (ps_for PassesOwn.never rfl (pi_enumT (by rfl) z_enumerate (pa_cons (pe_cl C_classes_of hr (by decide) rfl (pa_cons (pv 0) pa_nil)) pa_nil)) (pg_tup rfl (pgs_cons (pg_name (i := 2) sc_class_numbers.nd rfl (.inl rfl)) (pgs_cons (pg_name (i := 3) sc_class_numbers.nd rfl (.inl rfl)) pgs_nil)))
      (pss_one (ps_for PassesOwn.never rfl (pi_tup (pv 3)) (pg_name (i := 4) sc_class_numbers.nd rfl (.inl rfl))
        (pss_one (ps_dput (units1 hr) (pv 1) (pv 4) (pv 2) (by rfl))))))
    (pss_one (ps_ret (pe_callTy call_tuple_of (by rfl) z_tuple (by decide +kernel) (pa_cons (pe_lc (own := [("kind", 4)]) (by rfl) sc_class_numbers.nd (pi_range1 (by rfl) z_range (pa_cons (pe_callB call_len_seq (by rfl) z_len (by decide +kernel) (pa_cons (pe_fld (pv 0) (by rfl)) pa_nil)) pa_nil)) (blkOk_by (own := [("kind", 4)]) (N := N_class_numbers) (sc := defScope s_class_numbers) (by decide +kernel)) (fun _ _ _ _ _ => (pg_name (i := 4) sc_class_numbers.nd rfl (.inl rfl))) (fun _ _ _ _ _ => pts_nil) (fun _ _ _ _ _ => (pe_dget1 (units1 hr) (pv 1) (pv 4) ⟨rfl, rfl, rfl, rfl⟩))) pa_nil)))))), ?_⟩
    refine fun D nD => ?_
    have sD := same_upd (o := .dK []) nD
    have ⟨cl1, cl2⟩ := classes_len ts ks.length
    generalize hcs : classesL ts ks.length = cs at cl1 cl2 fin
    refine ⟨fun σ H' => (∃ y2 y3 y4 : Option V, σ = [some (.ref a), some (.ref D), y2, y3, y4]) ∧ Same H H' ∧ H' D = some (.dK (numF cs cs.length)), ?_, ?_⟩
    · refine ⟨_, rfl, a, ks, ts, rfl, hTab.mono sD, lt, lk, fun H1 u xs s1 nu hu hx => ?_⟩
      rw [hcs] at hx
      have lx := hx.len
      have sm1 := sD.trans s1
      refine ⟨u, xs, rfl, sqt hu, ?_⟩
      have hD1 := s1 _ _ (upd_same (H := H) (a := D) (o := .dK []))
      refine for_it (walk_enumT (K := K) (a := u) (xs := xs)) (fun i σ H' => (∃ y2 y3 y4 : Option V, σ = [some (.ref a), some (.ref D), y2, y3, y4]) ∧ Same H H' ∧ H' D = some (.dK (numF cs i)) ∧ SqT K H' u xs ∧ Tots K H' xs cs) ⟨⟨_, _, _, rfl⟩, sm1, hD1, sqt hu, hx⟩ (fun i σ H' _ h => h.2.2.2.1) ?_ ?_
      · rintro i v σ H2 H3 hi ⟨⟨y2, y3, y4, rfl⟩, sm2, hD2, hS2, hT2⟩ ⟨U, x, rfl, nU, rfl, ex⟩
        obtain ⟨tt, c, rfl, ec, ht⟩ := hT2.get ex
        have sU := same_upd (o := .tup [.int (i : Nat), .ref tt]) nU
        have ic : i < cs.length := (List.getElem?_eq_some_iff.mp ec).1
        have lc := cl2 c (List.mem_of_getElem? ec)
        have gd : cs.getD i [] = c := by rw [List.getD_eq_getElem?_getD, ec]; rfl
        have nl := num_len (cs := cs) (fun c hc => Nat.le_trans (cl2 c hc) lk) i (by omega)
        refine ⟨U, _, rfl, .inl (.inl upd_same), rfl, _, _, rfl, _, _, rfl, rfl, ?_⟩
        refine ⟨_, rfl, tt, rfl, ⟨_, seqT sU ht⟩, ?_⟩
        refine for_it (walk_tup (K := K) (a := tt) (xs := c.map V.int)) (fun j σ H' => (∃ y4 : Option V, σ = [some (.ref a), some (.ref D), some (.int (i : Nat)), some (.ref tt), y4]) ∧ Same H H' ∧ H' D = some (.dK (putRow (numF cs i) i (c.take j))) ∧ SqT K H' u xs ∧ Tots K H' xs cs ∧ SqT K H' tt (c.map V.int)) ⟨⟨_, rfl⟩, sm2.trans sU, sU _ _ hD2, seqT sU hS2, hT2.mono sU, seqT sU ht⟩ (fun j σ H' _ h => h.2.2.2.2.2) ?_ ?_
        · rintro j v σ H4 H5 hj ⟨⟨y4', rfl⟩, sm4, hD4, hS4, hT4, ht4⟩ ⟨e5, ex5⟩
          subst e5
          rw [List.getElem?_map] at ex5
          obtain ⟨kk, ek, rfl⟩ := Option.map_eq_some_iff.mp ex5
          have jl : j < c.length := (List.getElem?_eq_some_iff.mp ek).1
          have rl := row_len i (c.take j) (numF cs i)
          have n1 : ∀ (g : Nums) (ys : List V), HO.tup ys ≠ HO.dK g := fun g ys z => nomatch z
          have n2 : ∀ (g : Nums) (od : Obj) (ys : List V), HO.frz od (.tup ys) ≠ HO.dK g := fun g od ys z => nomatch z
          refine ⟨_, rfl, _, rfl, _, rfl, D, _, rfl, DPut.k (k := (Sum.inl kk : L2.Key)) hD4 ?_, ?_⟩
          · have : sizeLine = 16777216 := by decide
            rw [List.length_take] at rl
            have h3 : i * 1000 ≤ 1000 * 1000 := Nat.mul_le_mul_right _ (by omega)
            omega
          · refine ⟨⟨_, rfl⟩, ?_, ?_, seqT_at hD4 (n1 _) (n2 _) hS4, Tots.at_ hD4 (n1 _) (n2 _) hT4, seqT_at hD4 (n1 _) (n2 _) ht4⟩
            · intro b o hb
              rw [upd_ne (ne_of_none hb nD)]
              exact sm4 b o hb
            · rw [upd_same, row_take ek]
        · rintro σ H4 ⟨⟨y4', rfl⟩, sm4, hD4, hS4, hT4, ht4⟩
          rw [List.take_of_length_le (by rw [List.length_map]; exact Nat.le_refl _)] at hD4
          refine ⟨⟨_, _, _, rfl⟩, sm4, ?_, hS4, hT4⟩
          rw [hD4]
          show some (HO.dK (putRow (numF cs i) i c)) = some (HO.dK (putRow (numF cs i) i (cs.getD i [])))
          rw [gd]
      · rintro σ H2 ⟨⟨y2, y3, y4, rfl⟩, sm2, hD2, hS2, hT2⟩
        rw [lx] at hD2
        exact ⟨⟨_, _, _, rfl⟩, sm2, hD2⟩
    · rintro σ H2 ⟨⟨y2, y3, y4, rfl⟩, sm2, hD2⟩
      have hTab2 := hTab.mono sm2
      obtain ⟨dx, k, t, ys, hO, hK, hS, hT⟩ := hTab2
      refine ⟨_, rfl, a, C, dx, _, .ref k, rfl, hO, T.c, T.nk, rfl, k, _, rfl, .inr hK, _, rfl, by rw [List.length_map]; omega, by rw [List.length_map]; omega, fun M nM => ?_⟩
      refine lc_it (walk_range (lo := 0) (n := (ks.map V.str).length)) (fun i H' => Same H2 H' ∧ H' M = some (.lst ((List.range i).map fun j => numV cs ((j : Nat) : Int)))) ⟨same_upd nM, upd_same⟩ (fun _ _ _ _ => trivial) ?_ ?_
      · rintro i v H3 H4 hi ⟨sm3, hM⟩ ⟨e, rfl⟩
        subst e
        have e0 : (0 : Int) + (i : Nat) = (i : Nat) := Int.zero_add _
        have il : i < ks.length := by
          have : i < (ks.map V.str).length := hi
          rw [List.length_map] at this
          exact this
        have hD3 := sm3 _ _ hD2
        refine ⟨rfl, _, rfl, D, rfl, .inl ⟨_, .inl hD3⟩, _, rfl, _, DGet.k (k := (Sum.inl (0 + (i : Nat)) : L2.Key)) hD3, ?_⟩
        refine ⟨_, hM, ?_, HD.same_put sm3 nM, ?_⟩
        · rw [List.length_map, List.length_range]
          have : sizeLine = 16777216 := by decide
          omega
        · rw [upd_same, List.range_succ, List.map_append, e0]
          rfl
      · rintro H3 ⟨sm3, hM⟩
        rw [List.length_map] at hM
        refine ⟨M, _, rfl, .inl ⟨.inl (.inl hM), fun u nu => ?_⟩⟩
        have sall := sm2.trans (sm3.trans (same_upd (o := .tup ((List.range ks.length).map fun j => numV cs ((j : Nat) : Int))) nu))
        exact fin _ u sall ((sm2.trans sm3).free nu) upd_same
end
end K14
namespace K14
open PySem PySem.Spec PyProof.Rows L2 VG FR CK HD
abbrev s_is_tuple_of : Stmt := topS 8
abbrev N_is_tuple_of : List Str := ["value", "many"]
theorem sc_is_tuple_of : FnScope N_is_tuple_of ["value", "many"] (defScope s_is_tuple_of) := ⟨rfl, rfl, rfl, by decide +kernel, rfl, by decide +kernel, by decide +kernel⟩
abbrev s_added : Stmt := topS 20
abbrev N_added : List Str := ["one", "other", "top", "bottom", "more", "under", "shared", "rest", "high", "common"]
theorem sc_added : FnScope N_added ["one", "other"] (defScope s_added) := ⟨rfl, rfl, rfl, by decide +kernel, rfl, by decide +kernel, by decide +kernel⟩
abbrev s_fraction_of : Stmt := topS 19
abbrev N_fraction_of : List Str := ["top", "bottom", "shared"]
theorem sc_fraction_of : FnScope N_fraction_of ["top", "bottom"] (defScope s_fraction_of) := ⟨rfl, rfl, rfl, by decide +kernel, rfl, by decide +kernel, by decide +kernel⟩
abbrev s_timed : Stmt := topS 21
abbrev N_timed : List Str := ["one", "other"]
theorem sc_timed : FnScope N_timed ["one", "other"] (defScope s_timed) := ⟨rfl, rfl, rfl, by decide +kernel, rfl, by decide +kernel, by decide +kernel⟩
abbrev s__law_draw : Stmt := topS 49
abbrev N__law_draw : List Str := ["heap", "many", "rest"]
theorem sc__law_draw : FnScope N__law_draw ["heap", "many"] (defScope s__law_draw) := ⟨rfl, rfl, rfl, by decide +kernel, rfl, by decide +kernel, by decide +kernel⟩
abbrev s__law_pick : Stmt := topS 50
abbrev N__law_pick : List Str := ["heap", "some"]
theorem sc__law_pick : FnScope N__law_pick ["heap", "some"] (defScope s__law_pick) := ⟨rfl, rfl, rfl, by decide +kernel, rfl, by decide +kernel, by decide +kernel⟩
section
variable {P : Program} {w : World} {K : PySem.W.Frag} {mg : Str → Option Value} {base : Heap}
theorem ok_is_tuple_of {f : Addr} {fd : FuncData} (F : Fun K "is_tuple_of" "is_tuple_of" s_is_tuple_of f fd) (z_isinstance : mg "isinstance" = none) (z_tuple : mg "tuple" = none) (z_len : mg "len" = none) :
    FnOk P w K mg base CX0 1 f fd ["value", "many"] (spTup K) := by
  refine F.ok sc_is_tuple_of (fun vs H Q E h => ?_) (fun cdv A outer s H vs Q E hr h => ?_)
  · obtain ⟨v, o, rfl, _⟩ := h
    rfl
  · obtain ⟨v, n, rfl, h⟩ := h
    refine ⟨_, (pss_one (ps_ret (pe_and (pe_callB call_isi (by rfl) z_isinstance (by decide +kernel) (pa_cons (pv 0) (pa_cons (pe_bltn (v := .ty "tuple") (by rfl) z_tuple (by decide +kernel) rfl) pa_nil))) (pe_one (pe_cmpR op_eq (pe_callB call_len_seq (by rfl) z_len (by decide +kernel) (pa_cons (pv 0) pa_nil)) (pv 1) (nomark _)))))), ?_⟩
    rcases h with ⟨ty, t, k, q⟩ | ⟨p, xs, rfl, hS, q⟩
    · exact ⟨_, rfl, _, _, _, _, false, rfl, .ty "tuple", t, kit_ty k, false, rfl, iteF q⟩
    · refine ⟨_, rfl, _, _, _, _, true, rfl, .ty "tuple", tyT hS, kit_ty (by decide +kernel), true, rfl, iteT ⟨_, rfl, p, xs, rfl, .inr hS, _, rfl, rfl, ?_⟩⟩
      have e : decide (V.int (xs.length : Int) = V.int (n : Int)) = decide (xs.length = n) := by
        by_cases h : xs.length = n
        · rw [decide_eq_true h, decide_eq_true (by rw [h])]
        · rw [decide_eq_false h, decide_eq_false (fun z => h (by have := V.int.inj z; omega))]
      rw [e]
      exact q
theorem ok_added {f : Addr} {fd : FuncData} (F : Fun K "added" "added" s_added f fd) (m_gcd : mg "gcd" = some (.builtin "math.gcd")) :
    FnOk P w K mg base CX0 1 f fd ["one", "other"] (spAdd K) := by
  refine F.ok sc_added (fun vs H Q E h => ?_) (fun cdv A outer s H vs Q E hr h => ?_)
  · obtain ⟨_, _, _, _, rfl, _⟩ := h
    rfl
  · obtain ⟨s1, t1, p, q, rfl, h1, h2, lp, lq, bp, bq, fin⟩ := h
    refine ⟨_, (pss_cons (ps_asg (pv 0) (pg_tup rfl (pgs_cons (pg_name (i := 2) sc_added.nd rfl (.inl rfl)) (pgs_cons (pg_name (i := 3) sc_added.nd rfl (.inl rfl)) pgs_nil))))
    (pss_cons (ps_asg (pv 1) (pg_tup rfl (pgs_cons (pg_name (i := 4) sc_added.nd rfl (.inl rfl)) (pgs_cons (pg_name (i := 5) sc_added.nd rfl (.inl rfl)) pgs_nil))))
    (pss_cons (ps_set (i := 6) sc_added.nd rfl (.inl rfl) (pe_callBfun cr_gcd rfl m_gcd (pa_cons (pv 3) (pa_cons (pv 5) pa_nil))))
    (pss_cons (ps_set (i := 7) sc_added.nd rfl (.inl rfl) (pe_op op_fdivW (pv 3) (pv 6)))
    (pss_cons (ps_set (i := 8) sc_added.nd rfl (.inl rfl) (pe_op op_add (pe_op op_mulW (pv 2) (pe_op op_fdivW (pv 5) (pv 6))) (pe_op op_mulW (pv 4) (pv 7))))
    (pss_cons (ps_set (i := 9) sc_added.nd rfl (.inl rfl) (pe_callBfun cr_gcd rfl m_gcd (pa_cons (pv 8) (pa_cons (pv 6) pa_nil))))
    (pss_one (ps_ret (pe_tup (pa_cons (pe_op op_fdivW (pv 8) (pv 9)) (pa_cons (pe_op op_mulW (pv 7) (pe_op op_fdivW (pv 5) (pv 9))) pa_nil))))))))))), ?_⟩
    have hb := lp.1
    have hd := lq.1
    have gp := M2.g_pos (a := p.2) (b := q.2) (by omega)
    have gs : M2.g p.2 q.2 ≤ q.2.natAbs := Nat.gcd_le_right _ (by omega)
    have gb : ((M2.g p.2 q.2 : Nat) : Int).natAbs < 2 ^ 3000 := by
      rw [Int.natAbs_natCast]
      exact Nat.lt_of_le_of_lt gs bq.2
    have W1 : CDivW p.2 ((M2.g p.2 q.2 : Nat) : Int) := wide_div (by omega) gb (by decide) (by decide)
    have W2 : CDivW q.2 ((M2.g p.2 q.2 : Nat) : Int) := wide_div (by omega) gb (by decide) (by decide)
    have l1 : (p.2 / ((M2.g p.2 q.2 : Nat) : Int)).natAbs < 2 ^ 3000 := Nat.lt_of_le_of_lt (M2.natAbs_div_le _ (by omega)) bp.2
    have l2 : (q.2 / ((M2.g p.2 q.2 : Nat) : Int)).natAbs < 2 ^ 3000 := Nat.lt_of_le_of_lt (M2.natAbs_div_le _ (by omega)) bq.2
    refine ⟨_, rfl, s1, _, rfl, h1, rfl, _, _, rfl, _, _, rfl, rfl, ?_⟩
    refine ⟨_, rfl, t1, _, rfl, h2, rfl, _, _, rfl, _, _, rfl, rfl, ?_⟩
    refine ⟨_, rfl, _, rfl, p.2, q.2, rfl, ?_⟩
    refine ⟨_, rfl, _, rfl, _, _, rfl, rfl, W1, ?_⟩
    refine ⟨_, rfl, _, rfl, _, rfl, _, _, rfl, rfl, W2, _, _, rfl, rfl, mulW (up bp.1 (by decide)) (up l2 (by decide)), _, rfl, _, rfl, _, _, rfl, rfl, mulW (up bq.1 (by decide)) (up l1 (by decide)), _, _, rfl, rfl, ?_⟩
    refine ⟨_, rfl, _, rfl, _, _, rfl, ?_⟩
    have kp := M2.g_pos (a := p.1 * (q.2 / ((M2.g p.2 q.2 : Nat) : Int)) + q.1 * (p.2 / ((M2.g p.2 q.2 : Nat) : Int))) (b := ((M2.g p.2 q.2 : Nat) : Int)) (by omega)
    have ks : M2.g (p.1 * (q.2 / ((M2.g p.2 q.2 : Nat) : Int)) + q.1 * (p.2 / ((M2.g p.2 q.2 : Nat) : Int))) ((M2.g p.2 q.2 : Nat) : Int) ≤ ((M2.g p.2 q.2 : Nat) : Int).natAbs := Nat.gcd_le_right _ (by omega)
    have kb : ((M2.g (p.1 * (q.2 / ((M2.g p.2 q.2 : Nat) : Int)) + q.1 * (p.2 / ((M2.g p.2 q.2 : Nat) : Int))) ((M2.g p.2 q.2 : Nat) : Int) : Nat) : Int).natAbs < 2 ^ 3000 := by
      rw [Int.natAbs_natCast]
      exact Nat.lt_of_le_of_lt ks gb
    have W3 : ∀ x : Int, CDivW x ((M2.g (p.1 * (q.2 / ((M2.g p.2 q.2 : Nat) : Int)) + q.1 * (p.2 / ((M2.g p.2 q.2 : Nat) : Int))) ((M2.g p.2 q.2 : Nat) : Int) : Nat) : Int) := fun x => wide_div (by omega) kb (by decide) (by decide)
    have l3 : (q.2 / ((M2.g (p.1 * (q.2 / ((M2.g p.2 q.2 : Nat) : Int)) + q.1 * (p.2 / ((M2.g p.2 q.2 : Nat) : Int))) ((M2.g p.2 q.2 : Nat) : Int) : Nat) : Int)).natAbs < 2 ^ 3000 := Nat.lt_of_le_of_lt (M2.natAbs_div_le _ (by omega)) bq.2
    refine ⟨_, rfl, _, rfl, _, _, rfl, rfl, W3 _, _, rfl, _, rfl, _, rfl, _, _, rfl, rfl, W3 _, _, _, rfl, rfl, mulW (up l1 (by decide)) (up l3 (by decide)), by show 2 ≤ sizeLine; decide, fun u nu => ?_⟩
    exact fin _ u (same_upd nu) nu upd_same
theorem ok_fraction_of {f fi C : Addr} {fd fdi : FuncData} (F : Fun K "fraction_of" "fraction_of" s_fraction_of f fd) (m_gcd : mg "gcd" = some (.builtin "math.gcd")) (e_InvalidNumber : ErrC K mg "InvalidNumber" C fi)
    (i_InvalidNumber : FnOk P w K mg base CX0 1 fi fdi ["self", "word"] (spInitW K C "word")) (b_InvalidNumber : Binds K fdi ["self", "word"] []) :
    FnOk P w K mg base (L2.CX P w) 3 f fd ["top", "bottom"] (spFrac C) := by
  refine F.okX sc_fraction_of (fun vs H Q E h => ?_) (fun cdv A outer s H vs Q E hr h => ?_)
  · obtain ⟨_, _, rfl, _⟩ := h
    rfl
  · obtain ⟨a, b, rfl, sa, sb, fin, err⟩ := h
    refine ⟨_, (pss_cons (ps_if (pt_cmpR op_eq (pv 1) pe_int (nomark _))
      (pss_one (ps_raise rfl (takes_of rfl rfl rfl rfl) (pmk_oex e_InvalidNumber.o e_InvalidNumber.iC e_InvalidNumber.tI i_InvalidNumber hr b_InvalidNumber .nil pass0 rfl e_InvalidNumber.gC (pa_cons pe_str pa_nil))))
      pss_nil)
    (pss_cons (ps_set (i := 2) sc_fraction_of.nd rfl (.inl rfl) (pe_callBfun cr_gcd rfl m_gcd (pa_cons (pv 0) (pa_cons (pv 1) pa_nil))))
    (pss_cut (ps_if (pt_cmpR op_lt (pv 1) pe_int (nomark _))
      (pss_one (ps_set (i := 2) sc_fraction_of.nd rfl (.inl rfl) (pe_un un_neg (pv 2))))
      pss_nil)
    (pss_one (ps_ret (pe_tup (pa_cons (pe_op op_fdivS (pv 0) (pv 2)) (pa_cons (pe_op op_fdivS (pv 1) (pv 2)) pa_nil)))))))), ?_⟩
    refine ⟨_, rfl, rfl, _, rfl, ite2 (fun e => ?_) (fun e => ?_)⟩
    · have hb : b = 0 := V.int.inj (of_decide_eq_true e)
      refine ⟨by decide, fun x nx => ?_⟩
      refine ⟨x, _, rfl, upd_same, fun dx n ne => ⟨rfl, dx, [(("word" : Str), V.str ("bottom" : Str))], upd_same, ?_, ?_, ?_⟩⟩
      · rw [upd_ne ne, upd_same]
      · rw [upd_ne ne] at n
        exact n
      · rw [upd_ne ne] at n
        refine err hb _ dx (fun y o hy => ?_) n upd_same
        have hyd : y ≠ dx := ne_of_none hy n
        have hyx : y ≠ x := ne_of_none hy nx
        rw [upd_ne hyd, del_ne hyx, upd_ne hyx, upd_ne hyd, upd_ne hyx]
        exact hy
    · have hb : b ≠ 0 := fun z => e (decide_eq_true (by rw [z]))
      have gp := M2.g_pos (a := a) (b := b) hb
      have gs : M2.g a b ≤ b.natAbs := Nat.gcd_le_right _ (by omega)
      refine ⟨_, rfl, _, rfl, a, b, rfl, ?_⟩
      refine ⟨fun σ H' => H' = H ∧ σ = [some (.int a), some (.int b), some (.int (if b < 0 then -((M2.g a b : Nat) : Int) else ((M2.g a b : Nat) : Int)))], ?_, ?_⟩
      · refine ⟨_, rfl, _, _, rfl, rfl, _, rfl, ite2 (fun e => ?_) (fun e => ?_)⟩
        · refine ⟨_, rfl, _, rfl, rfl, ?_⟩
          rw [if_pos (of_decide_eq_true e)]
          rfl
        · refine ⟨rfl, ?_⟩
          rw [if_neg (fun z => e (decide_eq_true z))]
          rfl
      · rintro σ H' ⟨rfl, rfl⟩
        have hs : (if b < 0 then -((M2.g a b : Nat) : Int) else ((M2.g a b : Nat) : Int)) ≠ 0 ∧ (if b < 0 then -((M2.g a b : Nat) : Int) else ((M2.g a b : Nat) : Int)).natAbs < 2 ^ 8000 := by
          split
          · rw [Int.natAbs_neg, Int.natAbs_natCast]
            exact ⟨by omega, Nat.lt_of_le_of_lt gs sb⟩
          · rw [Int.natAbs_natCast]
            exact ⟨by omega, Nat.lt_of_le_of_lt gs sb⟩
        have W : ∀ x : Int, CDivS x (if b < 0 then -((M2.g a b : Nat) : Int) else ((M2.g a b : Nat) : Int)) := fun x => wide_divS hs.1 hs.2 (by decide) (by decide)
        refine ⟨_, rfl, _, rfl, _, _, rfl, rfl, W _, _, rfl, _, rfl, _, _, rfl, rfl, W _, by show 2 ≤ sizeLine; decide, fun u nu => ?_⟩
        exact fin hb _ u (same_upd nu) nu upd_same
theorem ok_timed {f C : Addr} {fd : FuncData} (F : Fun K "timed" "timed" s_timed f fd) (C_fraction_of : Cl P w K mg base 3 "fraction_of" (fun vs H Q _ => spFrac C vs H Q E0)) :
    FnOk P w K mg base CX0 4 f fd ["one", "other"] (spTimed K) := by
  refine F.ok sc_timed (fun vs H Q E h => ?_) (fun cdv A outer s H vs Q E hr h => ?_)
  · obtain ⟨_, _, _, _, rfl, _⟩ := h
    rfl
  · obtain ⟨s1, t1, p, q, rfl, h1, h2, pp, pq, bp, bq, fin⟩ := h
    refine ⟨_, (pss_one (ps_ret (pe_cl C_fraction_of hr (by decide) rfl (pa_cons (pe_op op_mulW (pe_ix ix_tup (pv 0) pe_int (fun _ _ => rfl)) (pe_ix ix_tup (pv 1) pe_int (fun _ _ => rfl))) (pa_cons (pe_op op_mulW (pe_ix ix_tup (pv 0) pe_int (fun _ _ => rfl)) (pe_ix ix_tup (pv 1) pe_int (fun _ _ => rfl))) pa_nil))))), ?_⟩
    have m1 := wide_lt bp.1 bq.1
    have m2 := wide_lt bp.2 bq.2
    refine ⟨_, rfl, s1, _, _, _, rfl, rfl, h1, at0 _ _, _, rfl, t1, _, _, _, rfl, rfl, h2, at0 _ _, _, _, rfl, rfl, mulW (up bp.1 (by decide)) (up bq.1 (by decide)), _, rfl, s1, _, _, _, rfl, rfl, h1, at1 _ _, _, rfl, t1, _, _, _, rfl, rfl, h2, at1 _ _, _, _, rfl, rfl, mulW (up bp.2 (by decide)) (up bq.2 (by decide)), ?_⟩
    refine ⟨_, _, rfl, up m1 (by decide), up m2 (by decide), fun _ H' u sm nu hu => fin H' u sm nu hu, fun z => absurd z (mul_low pp pq)⟩
theorem ok__law_draw {f : Addr} {fd : FuncData} (F : Fun K "_law_draw" "_law_draw" s__law_draw f fd) (z_int : mg "int" = none) :
    FnOk P w K mg base CX0 1 f fd ["heap", "many"] spDraw := by
  refine F.ok sc__law_draw (fun vs H Q E h => ?_) (fun cdv A outer s H vs Q E hr h => ?_)
  · obtain ⟨p, q, many, rfl, _⟩ := h
    rfl
  · obtain ⟨p, q, many, rfl, hd, m0, m1, fin⟩ := h
    refine ⟨_, (pss_cut (ps_while PassesOwn.never (PW.pt (pw_and (pt_cmpR (op_neD hr.units) (pe_ix ix_list (pv 0) pe_int (fun _ _ => rfl)) (pe_lst pa_nil) (nomark _)) (pw_and1 (pt_cmpR op_eq (pe_ix ix_list (pe_ix ix_list (pv 0) pe_int (fun _ _ => rfl)) (pe_un un_neg pe_int) (fun _ _ => rfl)) pe_int (nomark _)))))
      (pss_one (ps_expr (pe_bm0 PySem.F.plainAttrs_list PySem.F.slot_list_pop PySem.F.type_list_pop mt_pop (pe_ix ix_list (pv 0) pe_int (fun _ _ => rfl))))))
    (pss_cons (ps_if (pt_cmpR (op_neD hr.units) (pe_ix ix_list (pv 0) pe_int (fun _ _ => rfl)) (pe_lst pa_nil) (nomark _))
      (pss_cons (ps_set (i := 2) sc__law_draw.nd rfl (.inl rfl) (pe_bm0 PySem.F.plainAttrs_list PySem.F.slot_list_pop PySem.F.type_list_pop mt_pop (pe_ix ix_list (pv 0) pe_int (fun _ _ => rfl))))
      (pss_cons (ps_expr (pe_bm PySem.F.plainAttrs_list PySem.F.slot_list_append PySem.F.type_list_append mt_append (pe_ix ix_list (pv 0) pe_int (fun _ _ => rfl)) (pa_cons (pe_op op_fdivN (pv 2) (pv 1)) pa_nil)))
      (pss_one (ps_ret (pe_op op_modN (pe_callTy call_int1 (by rfl) z_int (by decide +kernel) (pa_cons (pv 2) pa_nil)) (pv 1))))))
      pss_nil)
    (pss_cons (ps_asg (pe_op op_modN (pe_callTy call_int1 (by rfl) z_int (by decide +kernel) (pa_cons (pe_op op_add (pe_op op_mul (pe_ix ix_list (pv 0) pe_int (fun _ _ => rfl)) pe_int) pe_int) pa_nil)) pe_int) (pg_sub (pv 0) pe_int set_list))
    (pss_one (ps_ret (pe_op op_modN (pe_callTy call_int1 (by rfl) z_int (by decide +kernel) (pa_cons (pe_op op_fdivN (pe_ix ix_list (pv 0) pe_int (fun _ _ => rfl)) pe_int) pa_nil)) (pv 1))))))), ?_⟩
    obtain ⟨cs, st, h1, h2, h3, h4, h5⟩ := hd
    have at0 : ∀ x y : V, atI [x, y] 0 = some x := fun _ _ => rfl
    have at1 : ∀ x y : V, atI [x, y] 1 = some y := fun _ _ => rfl
    refine ⟨fun σ H' => σ = [some (.ref p), some (.int many), none] ∧ Keep p q H H' ∧ ∃ cs : List Int, H' p = some (.lst [.ref q, .int st]) ∧ H' q = some (.lst (cs.map V.int)) ∧ cs.length ≤ 63, ?_, ?_⟩
    · -- the loop
      refine ⟨fun m σ H' => ∃ cs : List Int, m = cs.length ∧ σ = [some (.ref p), some (.int many), none] ∧ Keep p q H H' ∧ H' p = some (.lst [.ref q, .int st]) ∧ H' q = some (.lst (cs.map V.int)) ∧ cs.length ≤ 63,
        ⟨_, cs, rfl, rfl, Keep.refl _ _ _, h1, h2, h3⟩, ?_⟩
      rintro m σ H1 ⟨cs, rfl, rfl, kp, h1, h2, h3⟩
      refine ⟨_, rfl, p, _, 0, .ref q, rfl, rfl, .inl (.inl h1), at0 _ _, Nat.zero_le _, fun l nl => ?_⟩
      have n1 : p ≠ l := ne_of_none h1 nl
      have n2 : q ≠ l := ne_of_none h2 nl
      have g1 : (upd H1 l (.lst [])) p = some (.lst [.ref q, .int st]) := by
        rw [upd_ne n1]
        exact h1
      have g2 : (upd H1 l (.lst [])) q = some (.lst (cs.map V.int)) := by
        rw [upd_ne n2]
        exact h2
      have kp1 : Keep p q H (upd H1 l (.lst [])) := kp.trans (Keep.new nl)
      refine ⟨_, .list [], dp_ints (.inl (.inl g2)), .lst (.inl (.inl upd_same)) .nil, shaped_ints _, shaped_nil, _, rfl, ?_⟩
      rw [eqv_nil]
      by_cases hc : cs = []
      · rw [decide_eq_true hc]
        refine iteF ⟨rfl, kp1, cs, g1, g2, h3⟩
      · rw [decide_eq_false hc]
        refine iteT ?_
        obtain ⟨c0, c, rfl⟩ := snocL cs hc
        have gl : atI ((c0 ++ [c]).map V.int) (-1) = some (.int c) := by
          rw [List.map_append]
          exact atI_last _ _
        refine ⟨_, rfl, p, _, 0, .ref q, rfl, rfl, .inl (.inl g1), at0 _ _, 1, rfl, q, _, -1, _, rfl, rfl, .inl (.inl g2), gl, rfl, _, rfl, ite2 (fun e => ?_) (fun e => ?_)⟩
        · refine ⟨fun σ' H'' => σ' = [some (.ref p), some (.int many), none] ∧ Keep p q H H'' ∧ H'' p = some (.lst [.ref q, .int st]) ∧ H'' q = some (.lst (c0.map V.int)), fun σ' H'' hN => ?_, ?_⟩
          · obtain ⟨e1, e2, e3, e4⟩ := hN
            rw [List.length_append, List.length_cons, List.length_nil] at h3
            exact ⟨c0.length, by rw [List.length_append, List.length_cons, List.length_nil]; omega, c0, rfl, e1, e2, e3, e4, by omega⟩
          · refine ⟨_, rfl, p, _, 0, .ref q, rfl, rfl, .inl (.inl g1), at0 _ _, .inl ⟨rfl, _, .inl (.inl g2)⟩, q, _, .int c, rfl, rfl, g2, ?_, rfl, kp1.trans Keep.at2, ?_, ?_⟩
            · rw [List.map_append, List.length_append, List.getElem?_append_right (by simp)]
              simp
            · rw [upd_ne (show p ≠ q from Hd.ne (H := upd H1 l (.lst [])) ⟨_, _, g1, g2, h3, h4, h5⟩)]
              exact g1
            · rw [upd_same, List.map_append]
              simp
        · exact ⟨rfl, kp1, _, g1, g2, h3⟩
    · rintro σ H1 ⟨rfl, kp, cs, h1, h2, h3⟩
      refine ⟨_, rfl, p, _, 0, .ref q, rfl, rfl, .inl (.inl h1), at0 _ _, Nat.zero_le _, fun l nl => ?_⟩
      have n1 : p ≠ l := ne_of_none h1 nl
      have n2 : q ≠ l := ne_of_none h2 nl
      have g1 : (upd H1 l (.lst [])) p = some (.lst [.ref q, .int st]) := by
        rw [upd_ne n1]
        exact h1
      have g2 : (upd H1 l (.lst [])) q = some (.lst (cs.map V.int)) := by
        rw [upd_ne n2]
        exact h2
      have kp1 : Keep p q H (upd H1 l (.lst [])) := kp.trans (Keep.new nl)
      have hpq : p ≠ q := Hd.ne (H := upd H1 l (.lst [])) ⟨_, _, g1, g2, h3, h4, h5⟩
      refine ⟨_, .list [], dp_ints (.inl (.inl g2)), .lst (.inl (.inl upd_same)) .nil, shaped_ints _, shaped_nil, _, rfl, ?_⟩
      rw [eqv_nil]
      by_cases hc : cs = []
      · -- from the number
        rw [decide_eq_true hc]
        refine iteF ?_
        have b1 : -(2 ^ 64) < st ∧ st < 2 ^ 64 := ⟨by omega, by omega⟩
        have fm := fmod_lt (st * 69621 + 59) (m := 2147483647) (by decide)
        refine ⟨_, rfl, p, _, 1, .int st, rfl, rfl, .inl (.inl g1), at1 _ _, _, _, rfl, rfl, .inl b1, _, _, rfl, rfl, .inl ⟨_, rfl, _, _, rfl, rfl, by show (2147483647 : Int) ≠ 0; decide, ?_⟩⟩
        refine ⟨_, rfl, p, _, 1, 1, rfl, rfl, g1, rfl, ?_⟩
        have g3 : (upd (upd H1 l (.lst [])) p (.lst ([V.ref q, V.int st].set 1 (V.int ((st * 69621 + 59).fmod 2147483647))))) p = some (.lst [.ref q, .int ((st * 69621 + 59).fmod 2147483647)]) := upd_same
        refine ⟨_, rfl, p, _, 1, .int ((st * 69621 + 59).fmod 2147483647), rfl, rfl, .inl (.inl g3), at1 _ _, _, _, rfl, rfl, ⟨by decide, by decide⟩, .inl ⟨_, rfl, _, rfl, _, _, rfl, rfl, by omega, ?_⟩⟩
        have fm2 := fmod_lt (((st * 69621 + 59).fmod 2147483647).fdiv 32) m0
        refine fin _ _ ⟨cs, _, g3, ?_, h3, fm.1, fm.2⟩ (kp1.trans Keep.at1) fm2.1 fm2.2
        rw [upd_ne hpq.symm]
        exact g2
      · rw [decide_eq_false hc]
        refine iteT ?_
        obtain ⟨c0, c, rfl⟩ := snocL cs hc
        have gp : (List.map V.int (c0 ++ [c]))[(List.map V.int (c0 ++ [c])).length - 1]? = some (.int c) := by
          rw [List.map_append, List.length_append, List.getElem?_append_right (by simp)]
          simp
        refine ⟨_, rfl, p, _, 0, .ref q, rfl, rfl, .inl (.inl g1), at0 _ _, .inl ⟨rfl, _, .inl (.inl g2)⟩, q, _, .int c, rfl, rfl, g2, gp, ?_⟩
        have dl : (List.map V.int (c0 ++ [c])).dropLast = c0.map V.int := by
          rw [List.map_append]
          simp
        rw [dl]
        have g3 : (upd (upd H1 l (.lst [])) q (.lst (c0.map V.int))) p = some (.lst [.ref q, .int st]) := by
          rw [upd_ne hpq]
          exact g1
        have g4 : (upd (upd H1 l (.lst [])) q (.lst (c0.map V.int))) q = some (.lst (c0.map V.int)) := upd_same
        refine ⟨_, rfl, p, _, 0, .ref q, rfl, rfl, .inl (.inl g3), at0 _ _, .inl ⟨rfl, _, .inl (.inl g4)⟩, _, rfl, _, rfl, _, _, rfl, rfl, ⟨by omega, by omega⟩, q, _, _, rfl, rfl, g4, ?_, ?_⟩
        · rw [List.length_append, List.length_cons, List.length_nil] at h3
          rw [List.length_map]
          exact small1000 (by omega)
        · refine ⟨_, rfl, .inl ⟨_, rfl, _, rfl, _, _, rfl, rfl, by omega, ?_⟩⟩
          have fm := fmod_lt c m0
          refine fin _ _ ⟨c0 ++ [c.fdiv many], st, ?_, ?_, ?_, h4, h5⟩ ((kp1.trans Keep.at2).trans Keep.at2) fm.1 fm.2
          · rw [upd_ne hpq]
            exact g3
          · rw [upd_same, List.map_append]
            rfl
          · rw [List.length_append, List.length_cons, List.length_nil] at h3 ⊢
            exact h3
theorem ok__law_pick {f : Addr} {fd : FuncData} (F : Fun K "_law_pick" "_law_pick" s__law_pick f fd) (C__law_draw : Cl P w K mg base 1 "_law_draw" spDraw) (z_len : mg "len" = none) :
    FnOk P w K mg base CX0 2 f fd ["heap", "some"] (spPick K) := by
  refine F.ok sc__law_pick (fun vs H Q E h => ?_) (fun cdv A outer s H vs Q E hr h => ?_)
  · obtain ⟨p, q, l, xs, rfl, _⟩ := h
    rfl
  · obtain ⟨p, q, l, xs, rfl, hd, hl, n1, n2, hx, hz, fin⟩ := h
    refine ⟨_, (pss_one (ps_ret (pe_ix ix_list (pv 1) (pe_cl C__law_draw hr (by decide) rfl (pa_cons (pv 0) (pa_cons (pe_callB call_len_seq (by rfl) z_len (by decide +kernel) (pa_cons (pv 1) pa_nil)) pa_nil))) (fun _ _ => rfl)))), ?_⟩
    have h0 : 0 < xs.length := List.length_pos_iff.mpr hx
    refine ⟨_, rfl, _, rfl, _, rfl, l, xs, rfl, .inl (.inl (.inl hl)), p, q, _, rfl, hd, by omega, by omega, fun H' r hd' kp r0 r1 => ?_⟩
    have hl' := kp l _ n1 n2 hl
    obtain ⟨j, rfl⟩ := Int.eq_ofNat_of_zero_le r0
    have hj : j < xs.length := by omega
    refine ⟨l, xs, _, xs[j], rfl, rfl, .inl (.inl hl'), atI_nat (List.getElem?_eq_getElem hj), ?_⟩
    exact fin _ _ hd' kp (List.getElem_mem hj)
end
end K14
namespace K14
open PySem PySem.Spec PyProof.Rows L2 VG FR CK HD
abbrev s__law_heap : Stmt := topS 48
abbrev N__law_heap : List Str := ["script", "cell", "cells", "stir"]
theorem sc__law_heap : FnScope N__law_heap ["script"] (defScope s__law_heap) := ⟨rfl, rfl, rfl, by decide +kernel, rfl, by decide +kernel, by decide +kernel⟩
end K14
namespace VG
open PySem PySem.Spec PyProof.Rows L2
abbrev emptyS (w : World) : Obj := ⟨.type "set", none, .set #[] 0 (.fresh 0 0 (!w.params.followText "set-order")), #[]⟩
section
variable {P : Program} {w : World} {A : Around} {E : Value → Shared → Prop} {s : Shared}
set_option maxHeartbeats 6400000 in
theorem set_listI {l : Addr} {us : Array Value} (ks : List Int) {Q : Value → Shared → Prop} (calm : A.handled = none) (hl : s.heap.IsList l us) (hi : IntsAre us.toList ks) (room : ks.length + 1 < scanBound)
    (fin : ∀ (hp : Heap) (tk c : Nat), SetR w hp s.heap.objs.size (fun j => decide (j ∈ ks)) c → c ≤ ks.length → (∀ b o, s.heap.get? b = some o → hp.get? b = some o) → Q (.ref s.heap.objs.size) { s with heap := hp, toks := tk }) :
    wpAny (model P w) A (call (.type "set") [.ref l]) Q E s := by
  have size : us.size = ks.length := by have z := IntsAre.length hi; rw [Array.length_toList] at z; exact z
  obtain ⟨cc, tl, mro⟩ := F.called_set.mro; have made := F.called_set.made; have sub := F.called_set.sub
  refine wpAny_call (codeAny_of_tree ?_); show wpAny _ _ (callAny (.type "set") _) _ _ _
  refine wpAny_pure ⟨Code.quiet_builtin _ (by decide +kernel), codeAny_builtin F.entry_type_call ?_⟩; rw [Around.under_plain (weight_type_call_type "set" [.ref l] []) rfl]
  have nt := F.called_set.notType; have cr := F.called_set.canCreate; have tc := F.typeCall_set_1 (.ref l)
  repeat (any_goals (first | assumption | wp_step))
  refine codeAny_mono (code_set_led1 (.ref l) (E := E) (Q₁ := fun obj s₁ => obj = .ref s.heap.objs.size ∧ s₁ = { s with heap := s.heap.push (emptyS w) }) ⟨rfl, rfl⟩) fun r s₁ got => ?_
  match r, got with
  | .error e, got => exact got
  | .ok (.ret obj), got =>
    obtain ⟨rfl, rfl⟩ := got
    have new : (s.heap.push (emptyS w)).get? s.heap.objs.size = some (emptyS w) := Heap.get?_push_size _ rfl
    have ty : Shared.TypeIs { s with heap := s.heap.push (emptyS w) } (.ref s.heap.objs.size) "set" := ⟨_, new, rfl⟩
    have il := F.called_set.init.lookup; have ib := F.called_set.init.bind (.ref s.heap.objs.size)
    repeat (any_goals (first | assumption | wp_step))
    refine codeAny_mono (codeAny_call_builtin (R := wants (fun r t => r = .none ∧ ∃ hp tk c, t = { s with heap := hp, toks := tk } ∧ SetR w hp s.heap.objs.size (fun j => decide (j ∈ ks)) c ∧ c ≤ ks.length ∧
      (∀ b o, s.heap.get? b = some o → hp.get? b = some o)) E) F.called_set.init.plain F.entry_set_init (check_set_init_1 ty ?_)) fun r₂ t got2 => ?_
    · obtain ⟨⟨cls, dict, data, slots⟩, at_, hc, nl, hd⟩ := hl
      simp only at hc hd
      subst hc hd
      have at2 : (s.heap.push (emptyS w)).get? l = some { cls := .type "list", dict := dict, data := .seq us nl, slots := slots } := Heap.get?_push_of_some _ at_
      have hsls := F.sub_list_set; have hslf := F.sub_list_frozenset; have hne : (Value.type "list" == Value.type "dict") = false := by decide
      have isl : (s.heap.push (emptyS w)).IsList l us := ⟨_, at2, rfl, nl, rfl⟩
      unfold Builtin.«set.__init__» noKeywords Builtin.Frozenset.updateFrom; generalize hPI : pyIter = PI
      wp_walk
      subst hPI
      refine wpAny_pyIter_list isl ?_
      refine wpAny_bind (wpAny_runValue ?_)
      have ls : l < s.heap.objs.size := Heap.lt_size at_; have calm3 : A.in1.in1.in1.handled = none := by simp [calm]
      have ps : (s.heap.push (emptyS w)).objs.size = s.heap.objs.size + 1 := Heap.size_push ..
      have nI : l ≠ (s.heap.push (emptyS w)).objs.size := by rw [ps]; exact Nat.ne_of_lt (Nat.lt_succ_of_lt ls)
      have nS : s.heap.objs.size ∉ [(s.heap.push (emptyS w)).objs.size, l] := by
        rw [ps]
        intro z
        rcases List.mem_cons.mp z with z | z
        · exact Nat.ne_of_lt (Nat.lt_succ_self _) z
        · exact Nat.ne_of_gt ls (List.mem_singleton.mp z)
      have val : ∀ (i : Nat) (v : Value), us[i]? = some v → ∃ k t, ks[i]? = some k ∧ v = .int k t := by
        intro i v hv
        have il : i < ks.length := by rw [← size]; exact (Array.getElem?_eq_some_iff.mp hv).1
        obtain ⟨t, e⟩ := PyProof.Rows.IntsAre.int_at hi i v (by rw [Array.getElem?_toList]; exact hv)
        exact ⟨ks[i], t, List.getElem?_eq_getElem il, by rw [e, List.getD_eq_getElem?_getD, List.getElem?_eq_getElem il] <;> rfl⟩
      refine set_update_ints ((Walks.list calm3 _ l nI us).toS) s.heap.objs.size nS ks size room val (us.size - 0) 0 _ (by omega) (Nat.zero_le _) ⟨⟨_, Heap.get?_push_size _ rfl, rfl, rfl⟩, (isl.push _)⟩ ⟨0, Nat.le_refl 0, setR_new_at (Heap.get?_push_of_some _ new)⟩ ?_
      intro s' c' hm hc' hS'
      obtain ⟨hp, g2, d2, tk2, os2⟩ := s'
      have eg : g2 = s.gens := hm.gens; have ed : d2 = s.drawn := hm.drawn; have eo : os2 = s.os := hm.os
      subst eg ed eo
      refine wpAny_pure ?_
      show wpAny _ _ (ret Value.none) _ _ _
      refine wpAny_pure ⟨rfl, hp, tk2, c', rfl, hS', by rw [← size]; exact hc', fun b o e => ?_⟩
      have b0 : b < s.heap.objs.size := Heap.lt_size e
      refine hm.heap b o ?_ (Heap.get?_push_of_some _ (Heap.get?_push_of_some _ e))
      intro z
      rcases List.mem_cons.mp z with z | z
      · exact Nat.ne_of_lt b0 z
      · have z := List.mem_singleton.mp z
        rw [ps] at z
        exact Nat.ne_of_lt (Nat.lt_succ_of_lt b0) z
    · match r₂, got2 with
      | .error e, got2 => exact got2
      | .ok (.ret r), got2 =>
        obtain ⟨rfl, hp, tk, c, rfl, a1, a2, a3⟩ := got2
        repeat (any_goals (first | assumption | wp_step))
        exact fin _ _ _ a1 a2 a3
      | .ok .next, got2 => exact got2.elim
      | .ok .brk, got2 => exact got2.elim
      | .ok .cont, got2 => exact got2.elim
  | .ok .next, got => exact got.elim
  | .ok .brk, got => exact got.elim
  | .ok .cont, got => exact got.elim
end
section
variable {X : Cx}
def rSetL (K : PySem.W.Frag) (w : World) : List V → Hp → VK → Prop := fun vs H Q => ∃ (a : Addr) (ks : List Int), vs = [.ref a] ∧ SqL K H a (ks.map V.int) ∧ ks.length ≤ 1000 ∧ ∀ (p : Addr) (c : Nat), H p = none → c ≤ ks.length → Q (.ref p) (upd H p (SetO w p (fun j => decide (j ∈ ks)) c))
theorem cr_setL (hc : X.calm = true) : CallR X (.type "set") (rSetL X.K X.w) := by
  intro pins s σ H vs us Q I r h
  obtain ⟨a, ks, rfl, hS, hl, q⟩ := h
  rw [Vals.ref1 r]
  obtain ⟨its, rv, pl, hz⟩ := I.list hS
  have hi : IntsAre its.toArray.toList ks := ints_of_vals rv
  refine set_listI ks (I.ok.hd hc) pl.isList hi (by unfold scanBound; omega) fun hp tk c R hcn kp => ?_
  have fr : H s.heap.objs.size = none := I.hok.fresh (Nat.le_refl _)
  exact ⟨.ref _, upd H s.heap.objs.size (SetO X.w s.heap.objs.size (fun j => decide (j ∈ ks)) c), I.laid (t' := tk) kp (Nat.le_refl _) (setO_new R), rfl, q _ c fr hcn⟩
end
end VG
namespace VG
open PySem PySem.Spec PyProof.Rows L2
section
variable {X : Cx}
theorem cr_range1 : CallR X (.type "range") (fun vs H Q => ∃ j, vs = [V.int j] ∧ ∀ p, H p = none → Q (.ref p) (upd H p (.rng 0 j))) := by
  intro pins s σ H vs us Q I rv h
  obtain ⟨j, rfl, q⟩ := h
  obtain ⟨u1, rfl, ru⟩ := rv.one
  obtain ⟨t, rfl⟩ := ru
  refine call_range_1 ⟨.ref s.heap.objs.size, upd H s.heap.objs.size (.rng 0 j), I.laid (fun b o e => Heap.get?_push_of_some _ e) (Nat.le_refl _) ?new, rfl, q _ (I.hok.fresh (Nat.le_refl _))⟩
  exact ⟨_, _, _, Heap.get?_push_size _ rfl⟩
def rLenK (K : PySem.W.Frag) : List V → Hp → VK → Prop := fun xs H Q => ∃ p ys, xs = [V.ref p] ∧ (SqL K H p ys ∨ SqT K H p ys) ∧ Q (.int ys.length) H
theorem call_lenK : CallR X (.builtin "len") (rLenK X.K) := call_len_seq
def iRngV (te : TE) : TI := fun σ H R => te σ H fun x H1 => ∃ (a : Addr) (lo hi : Int), x = .ref a ∧ H1 a = some (.rng lo hi) ∧ (-(2 ^ 62) ≤ lo ∧ lo < 2 ^ 62 ∧ -(2 ^ 62) ≤ hi ∧ hi < 2 ^ 62) ∧ R (Itr lo (hi - lo).toNat) H1
theorem pi_rngV {tg e : Expr} {te : TE} (he : PE X e te) : PI X tg e (iRngV te) := by
  refine ⟨fun pins s σ H R I h => ?_⟩
  refine thn (he.run pins s σ H _ I h) fun v t1 ⟨x, H1, J1, rv, got⟩ => ?_
  obtain ⟨a, lo, hi, rfl, ha, ⟨b1, b2, b3, b4⟩, q⟩ := got
  cases rv
  obtain ⟨t, u, v2, at_⟩ := J1.hok a _ ha
  refine wpAny_pyIter_range at_ (small_one b1 b2 b3 b4) ?_
  refine ⟨t1.heap.objs.size, [t1.heap.objs.size], _, _, H1, rfl, J1.kept (t' := t1.toks) fun b o z => Heap.get?_push_of_some _ z, turn_range _ lo (hi - lo).toNat, ?_, fun b hb => ?_, q⟩
  · have z1 : lo + ((0 : Nat) : Int) * 1 = lo := by simp
    have z2 : (((hi - lo).toNat : Nat) : Int) - ((0 : Nat) : Int) = Builtin.Range.rangeSize lo hi 1 := by
      rw [rangeSize_one]
      split <;> omega
    show IsRangeIter _ _ (lo + ((0 : Nat) : Int) * 1) ((((hi - lo).toNat : Nat) : Int) - ((0 : Nat) : Int)) 1
    rw [z1, z2]
    exact Heap.get?_push_size _ rfl
  · obtain rfl : b = t1.heap.objs.size := by simpa using hb
    exact J1.fpOk (Nat.le_refl _) (J1.hok.fresh (Nat.le_refl _))
end
end VG
namespace M14
open M2
def Eqv (a b : Int × Int) : Prop := a.1 * b.2 = b.1 * a.2
theorem eqv_mk {a b : Int × Int} (ha : Low a.1 a.2) (hb : 0 < b.2) (h : Eqv a b) : a = mk b.1 b.2 := by
  have e := mk_eq (a := b.1) (b := b.2) (by omega)
  have l := mk_low (a := b.1) (b := b.2) (by omega)
  have h : a.1 * b.2 = b.1 * a.2 := h
  have c : a.1 * (mk b.1 b.2).2 = (mk b.1 b.2).1 * a.2 := by
    refine Int.eq_of_mul_eq_mul_right (a := b.2) (by omega) ?_
    grind
  have q := low_eq ha l c
  exact Prod.ext q.1 q.2
def stepQ (a : Int × Int) (w : Int) (p : Int × Int) : Int × Int := (a.1 * p.2 + w * p.1 * a.2, a.2 * p.2)
def lsF : List Int → List (Int × Int) → Int × Int → Int × Int
  | w :: ws, p :: ps, a => lsF ws ps (stepQ a w p)
  | _, _, a => a
def tq (w : Int) (p : Int × Int) : Int × Int := mk (w * p.1) (1 * p.2)
theorem step_eqv {a b : Int × Int} {w : Int} {p : Int × Int} (ha : Low a.1 a.2) (hp : Low p.1 p.2) (hb : 0 < b.2) (h : Eqv a b) : Eqv (add a (tq w p)) (stepQ b w p) ∧ Low (add a (tq w p)).1 (add a (tq w p)).2 ∧ 0 < (stepQ b w p).2 := by
  have p0 := hp.1
  have a0 := ha.1
  have l := mk_low (a := w * p.1) (b := 1 * p.2) (by omega)
  have e := mk_eq (a := w * p.1) (b := 1 * p.2) (by omega)
  have q0 := l.1
  have ⟨l2, e2⟩ := add_ok (p := a) (q := tq w p) ha l
  refine ⟨?_, l2, Int.mul_pos hb p0⟩
  have h : a.1 * b.2 = b.1 * a.2 := h
  have e : (tq w p).1 * (1 * p.2) = w * p.1 * (tq w p).2 := e
  show (add a (tq w p)).1 * (b.2 * p.2) = (b.1 * p.2 + w * p.1 * b.2) * (add a (tq w p)).2
  have q0 : 0 < (tq w p).2 := q0
  generalize (tq w p) = q at *
  generalize add a q = r at *
  refine Int.eq_of_mul_eq_mul_right (a := a.2 * q.2) (by have := Int.mul_pos a0 q0; omega) ?_
  rw [Int.one_mul] at e
  have z1 : r.1 * (b.2 * p.2) * (a.2 * q.2) = r.1 * (a.2 * q.2) * (b.2 * p.2) := by grind
  rw [z1, e2]
  have z2 : (a.1 * q.2 + q.1 * a.2) * r.2 * (b.2 * p.2) = ((a.1 * b.2) * (q.2 * p.2) + (q.1 * p.2) * (a.2 * b.2)) * r.2 := by grind
  rw [z2, h, e]
  grind
theorem ls_eqv : ∀ (ws : List Int) (ps : List (Int × Int)) (a b : Int × Int), ws.length = ps.length → (∀ p ∈ ps, Low p.1 p.2) → Low a.1 a.2 → 0 < b.2 → Eqv a b →
    Eqv (((ws.zip ps).map fun x => tq x.1 x.2).foldl add a) (lsF ws ps b) ∧ Low (((ws.zip ps).map fun x => tq x.1 x.2).foldl add a).1 (((ws.zip ps).map fun x => tq x.1 x.2).foldl add a).2 ∧ 0 < (lsF ws ps b).2
  | [], [], a, b, _, _, la, lb, h => ⟨h, la, lb⟩
  | w :: ws, p :: ps, a, b, hl, hp, la, lb, h => by
    have ⟨s1, s2, s3⟩ := step_eqv (w := w) la (hp p List.mem_cons_self) lb h
    exact ls_eqv ws ps _ _ (Nat.succ.inj hl) (fun q hq => hp q (List.mem_cons_of_mem _ hq)) s2 s3 s1
  | [], _ :: _, _, _, hl, _, _, _, _ => by cases hl
  | _ :: _, [], _, _, hl, _, _, _, _ => by cases hl
/-- the sum of weighed fractions, as a law reckons it -/
def lsum (ws : List Int) (ps : List (Int × Int)) : Int × Int := mk (lsF ws ps (0, 1)).1 (lsF ws ps (0, 1)).2
theorem weigh_ls {ws : List Int} {ps : List (Int × Int)} (hl : ws.length = ps.length) (hp : ∀ p ∈ ps, Low p.1 p.2) : ((ws.zip ps).map fun x => tq x.1 x.2).foldl add (0, 1) = lsum ws ps ∧ Low (lsum ws ps).1 (lsum ws ps).2 := by
  have ⟨h1, h2, h3⟩ := ls_eqv ws ps (0, 1) (0, 1) hl hp ⟨by decide, by decide⟩ (by decide) rfl
  have e := eqv_mk h2 h3 h1
  refine ⟨e, ?_⟩
  have q : lsum ws ps = ((ws.zip ps).map fun x => tq x.1 x.2).foldl add (0, 1) := e.symm
  rw [q]
  exact h2
theorem tq_one {p : Int × Int} (h : Low p.1 p.2) : tq 1 p = p := by
  have : p = mk (1 * p.1) (1 * p.2) := eqv_mk (b := (1 * p.1, 1 * p.2)) h (by have := h.1; show 0 < 1 * p.2; omega) (by show p.1 * (1 * p.2) = 1 * p.1 * p.2; grind)
  exact this.symm
theorem ones_zip : ∀ {ps : List (Int × Int)}, (∀ p ∈ ps, Low p.1 p.2) → ((List.replicate ps.length (1 : Int)).zip ps).map (fun x => tq x.1 x.2) = ps
  | [], _ => rfl
  | p :: ps, h => by
    show tq 1 p :: ((List.replicate ps.length (1 : Int)).zip ps).map (fun x => tq x.1 x.2) = p :: ps
    rw [tq_one (h p List.mem_cons_self), ones_zip (fun q hq => h q (List.mem_cons_of_mem _ hq))]
theorem sum_ls {ps : List (Int × Int)} (hp : ∀ p ∈ ps, Low p.1 p.2) : ps.foldl add (0, 1) = lsum (List.replicate ps.length 1) ps ∧ Low (ps.foldl add (0, 1)).1 (ps.foldl add (0, 1)).2 := by
  have h := weigh_ls (ws := List.replicate ps.length 1) (ps := ps) (List.length_replicate ..) hp
  rw [ones_zip hp] at h
  exact ⟨h.1, by rw [h.1]; exact h.2⟩
def absV (a : Int) : Int := if a < 0 then -a else a
theorem small_eqv {a b : Int × Int} (ha : 0 < a.2) (hb : 0 < b.2) (h : Eqv a b) : absV a.1 < a.2 ↔ absV b.1 < b.2 := by
  have h : a.1 * b.2 = b.1 * a.2 := h
  have e : absV a.1 * b.2 = absV b.1 * a.2 := by
    unfold absV
    by_cases x : a.1 < 0
    · have y : b.1 < 0 := by
        have z : b.1 * a.2 < 0 := by rw [← h]; exact Int.mul_neg_of_neg_of_pos x hb
        rcases Int.lt_or_le b.1 0 with q | q
        · exact q
        · have := Int.mul_nonneg q (Int.le_of_lt ha)
          omega
      rw [if_pos x, if_pos y, Int.neg_mul, Int.neg_mul, h]
    · have y : ¬ b.1 < 0 := by
        intro y
        have z : a.1 * b.2 < 0 := by rw [h]; exact Int.mul_neg_of_neg_of_pos y ha
        have := Int.mul_nonneg (show 0 ≤ a.1 by omega) (Int.le_of_lt hb)
        omega
      rw [if_neg x, if_neg y, h]
  constructor
  · intro k
    refine Int.lt_of_mul_lt_mul_right (a := a.2) ?_ (Int.le_of_lt ha)
    rw [← e]
    have := Int.mul_lt_mul_of_pos_right k hb
    rw [Int.mul_comm b.2 a.2]
    exact this
  · intro k
    refine Int.lt_of_mul_lt_mul_right (a := b.2) ?_ (Int.le_of_lt hb)
    rw [e]
    have := Int.mul_lt_mul_of_pos_right k ha
    rw [Int.mul_comm a.2 b.2]
    exact this
/-- the sum over unreduced ones, those of weight 0 left out -/
def ssF : List (Int × Int) → Int × Int → Int × Int
  | p :: ps, a => ssF ps (a.1 * p.2 + p.1 * a.2, a.2 * p.2)
  | [], a => a
def heavy : List Int → List (Int × Int) → List (Int × Int)
  | w :: ws, p :: ps => if w = 0 then heavy ws ps else (w * p.1, p.2) :: heavy ws ps
  | _, _ => []
theorem ss_eqv : ∀ (ws : List Int) (ps : List (Int × Int)) (a b : Int × Int), ws.length = ps.length → (∀ p ∈ ps, 0 < p.2) → 0 < a.2 → 0 < b.2 → Eqv a b → Eqv (ssF (heavy ws ps) a) (lsF ws ps b) ∧ 0 < (ssF (heavy ws ps) a).2 ∧ 0 < (lsF ws ps b).2
  | [], [], a, b, _, _, la, lb, h => ⟨h, la, lb⟩
  | w :: ws, p :: ps, a, b, hl, hp, la, lb, h => by
    have p0 := hp p List.mem_cons_self
    have h : a.1 * b.2 = b.1 * a.2 := h
    have rest := fun q (hq : q ∈ ps) => hp q (List.mem_cons_of_mem _ hq)
    have s3 : 0 < (stepQ b w p).2 := Int.mul_pos lb p0
    by_cases hw : w = 0
    · have e : heavy (w :: ws) (p :: ps) = heavy ws ps := by show (if w = 0 then _ else _) = _; rw [if_pos hw]
      rw [e]
      refine ss_eqv ws ps a (stepQ b w p) (Nat.succ.inj hl) rest la s3 ?_
      show a.1 * (b.2 * p.2) = (b.1 * p.2 + w * p.1 * b.2) * a.2
      subst hw
      grind
    · have e : heavy (w :: ws) (p :: ps) = (w * p.1, p.2) :: heavy ws ps := by show (if w = 0 then _ else _) = _; rw [if_neg hw]
      rw [e]
      refine ss_eqv ws ps (a.1 * p.2 + w * p.1 * a.2, a.2 * p.2) (stepQ b w p) (Nat.succ.inj hl) rest (Int.mul_pos la p0) s3 ?_
      show (a.1 * p.2 + w * p.1 * a.2) * (b.2 * p.2) = (b.1 * p.2 + w * p.1 * b.2) * (a.2 * p.2)
      have z1 : (a.1 * p.2 + w * p.1 * a.2) * (b.2 * p.2) = (a.1 * b.2) * (p.2 * p.2) + w * p.1 * a.2 * b.2 * p.2 := by grind
      rw [z1, h]
      grind
  | [], _ :: _, _, _, hl, _, _, _, _ => by cases hl
  | _ :: _, [], _, _, hl, _, _, _, _ => by cases hl
theorem small_ls {ws : List Int} {ps : List (Int × Int)} (hl : ws.length = ps.length) (hp : ∀ p ∈ ps, Low p.1 p.2) : absV (ssF (heavy ws ps) (0, 1)).1 < (ssF (heavy ws ps) (0, 1)).2 ↔ absV (lsum ws ps).1 < (lsum ws ps).2 := by
  have ⟨h1, h2, h3⟩ := ss_eqv ws ps (0, 1) (0, 1) hl (fun p h => (hp p h).1) (by decide) (by decide) rfl
  have l := mk_low (a := (lsF ws ps (0, 1)).1) (b := (lsF ws ps (0, 1)).2) (by omega)
  have e := mk_eq (a := (lsF ws ps (0, 1)).1) (b := (lsF ws ps (0, 1)).2) (by omega)
  exact (small_eqv h2 h3 h1).trans (small_eqv (a := lsF ws ps (0, 1)) (b := lsum ws ps) h3 l.1 e.symm)
end M14
namespace M15
/-- no member twice, within a list or in two -/
def Apart (bs : List (List Int)) : Prop := bs.flatten.Nodup
theorem apart_perm {as bs : List (List Int)} (p : as.Perm bs) (h : Apart bs) : Apart as := (p.flatten.nodup_iff).mpr h
theorem apart_get : ∀ {bs : List (List Int)} {i : Nat} {b : List Int}, Apart bs → bs[i]? = some b → b.Nodup
  | b :: bs, 0, c, h, e => by
    have : b = c := Option.some.inj e
    subst this
    exact (List.nodup_append.mp h).1
  | b :: bs, i + 1, c, h, e => apart_get (bs := bs) (i := i) (List.nodup_append.mp h).2.1 e
theorem apart_mem {bs : List (List Int)} {b : List Int} (h : Apart bs) (m : b ∈ bs) : b.Nodup := by
  obtain ⟨i, e⟩ := List.mem_iff_getElem?.mp m
  exact apart_get h e
theorem apart_two : ∀ {bs : List (List Int)} {i j : Nat} {a b : List Int}, Apart bs → bs[i]? = some a → bs[j]? = some b → i ≠ j → (a ++ b).Nodup
  | c :: bs, 0, 0, a, b, _, _, _, n => absurd rfl n
  | c :: bs, 0, j + 1, a, b, h, ha, hb, _ => by
    have e : c = a := Option.some.inj ha
    subst e
    have hb' : bs[j]? = some b := hb
    have ⟨h1, h2, h3⟩ := List.nodup_append.mp (show (c ++ bs.flatten).Nodup from h)
    exact List.nodup_append.mpr ⟨h1, apart_get (bs := bs) h2 hb', fun x hx y hy => h3 x hx y (List.mem_flatten.mpr ⟨b, List.mem_of_getElem? hb', hy⟩)⟩
  | c :: bs, i + 1, 0, a, b, h, ha, hb, _ => by
    have e : c = b := Option.some.inj hb
    subst e
    have ha' : bs[i]? = some a := ha
    have ⟨h1, h2, h3⟩ := List.nodup_append.mp (show (c ++ bs.flatten).Nodup from h)
    exact List.nodup_append.mpr ⟨apart_get (bs := bs) h2 ha', h1, fun x hx y hy z => h3 y hy x (List.mem_flatten.mpr ⟨a, List.mem_of_getElem? ha', hx⟩) z.symm⟩
  | c :: bs, i + 1, j + 1, a, b, h, ha, hb, n => apart_two (bs := bs) (i := i) (j := j) (List.nodup_append.mp (show (c ++ bs.flatten).Nodup from h)).2.1 ha hb (fun z => n (by rw [z]))
theorem apart_three : ∀ {bs : List (List Int)} {a b c : List Int}, Apart bs → bs[0]? = some a → bs[1]? = some b → bs[2]? = some c → (a ++ b ++ c).Nodup
  | x :: y :: z :: bs, a, b, c, h, ha, hb, hc => by
    have e1 : x = a := Option.some.inj ha
    have e2 : y = b := Option.some.inj hb
    have e3 : z = c := Option.some.inj hc
    subst e1 e2 e3
    have h : (x ++ (y ++ (z ++ bs.flatten))).Nodup := h
    rw [← List.append_assoc, ← List.append_assoc, ] at h
    exact (List.nodup_append.mp h).1
/-- ascending without equals -/
def Asc : List Int → Prop
  | a :: b :: r => a < b ∧ Asc (b :: r)
  | _ => True
theorem asc_of : ∀ {l : List Int}, l.Pairwise (· ≤ ·) → l.Nodup → Asc l
  | [], _, _ => trivial
  | [_], _, _ => trivial
  | a :: b :: r, h, n => by
    have ⟨h1, h2⟩ := List.pairwise_cons.mp h
    have ⟨n1, n2⟩ := List.nodup_cons.mp n
    have le := h1 b List.mem_cons_self
    have ne : a ≠ b := fun z => n1 (z ▸ List.mem_cons_self)
    exact ⟨by omega, asc_of h2 n2⟩
/-- the lists behind one more member in one of them -/
theorem apart_put {bs : List (List Int)} {i : Nat} {k : Int} (h : Apart bs) (hi : i < bs.length) (n : k ∉ bs.flatten) : Apart (bs.set i (bs[i] ++ [k])) := by
  induction bs generalizing i with
  | nil => cases hi
  | cons c bs ih =>
    have h : (c ++ bs.flatten).Nodup := h
    have n : k ∉ c ++ bs.flatten := n
    have n1 : k ∉ c := fun z => n (List.mem_append_left _ z)
    have n2 : k ∉ bs.flatten := fun z => n (List.mem_append_right _ z)
    have ⟨h1, h2, h3⟩ := List.nodup_append.mp h
    cases i with
    | zero =>
      show (c ++ [k] ++ bs.flatten).Nodup
      refine List.nodup_append.mpr ⟨List.nodup_append.mpr ⟨h1, by simp, fun x hx y hy z => ?_⟩, h2, fun x hx y hy z => ?_⟩
      · have : y = k := List.mem_singleton.mp hy
        exact n1 (by rw [← this, ← z]; exact hx)
      · rcases List.mem_append.mp hx with q | q
        · exact h3 x q y hy z
        · have : x = k := List.mem_singleton.mp q
          exact n2 (by rw [← this, z]; exact hy)
    | succ i =>
      have hi' : i < bs.length := Nat.lt_of_succ_lt_succ hi
      have r := ih (i := i) h2 hi' n2
      show (c ++ (bs.set i (bs[i] ++ [k])).flatten).Nodup
      refine List.nodup_append.mpr ⟨h1, r, fun x hx y hy z => ?_⟩
      obtain ⟨b, hb, hy2⟩ := List.mem_flatten.mp hy
      rcases List.mem_or_eq_of_mem_set hb with q | q
      · exact h3 x hx y (List.mem_flatten.mpr ⟨b, q, hy2⟩) z
      · subst q
        rcases List.mem_append.mp hy2 with q2 | q2
        · exact h3 x hx y (List.mem_flatten.mpr ⟨_, List.getElem_mem hi', q2⟩) z
        · have : y = k := List.mem_singleton.mp q2
          exact n1 (by rw [← this, ← z]; exact hx)
theorem put_mem {bs : List (List Int)} {i : Nat} {k x : Int} (hi : i < bs.length) (h : x ∈ (bs.set i (bs[i] ++ [k])).flatten) : x ∈ bs.flatten ∨ x = k := by
  obtain ⟨b, hb, hy⟩ := List.mem_flatten.mp h
  rcases List.mem_or_eq_of_mem_set hb with q | q
  · exact .inl (List.mem_flatten.mpr ⟨b, q, hy⟩)
  · subst q
    rcases List.mem_append.mp hy with q2 | q2
    · exact .inl (List.mem_flatten.mpr ⟨_, List.getElem_mem hi, q2⟩)
    · exact .inr (List.mem_singleton.mp q2)
theorem sub_flat (P : List Int → Bool) : ∀ bs : List (List Int), (bs.filter P).flatten.Sublist bs.flatten
  | [] => List.Sublist.refl _
  | b :: bs => by
    have ih := sub_flat P bs
    rw [List.filter_cons]
    split
    · exact List.Sublist.append (List.Sublist.refl b) ih
    · exact List.Sublist.trans ih (List.sublist_append_right b bs.flatten)
theorem apart_filter {bs : List (List Int)} (P : List Int → Bool) (h : Apart bs) : Apart (bs.filter P) := List.Sublist.nodup (sub_flat P bs) h
end M15
namespace CK
open PySem PySem.Spec PyProof.Rows L2 VG FR
def BtL : List Nat → List Q2 → Prop
  | n :: ns, p :: ps => Bt n p ∧ BtL ns ps
  | [], [] => True
  | _, _ => False
def bits (e : Nat) (ns : List Nat) : Nat := (ns.map (· + e)).sum
theorem BtL.len : ∀ {ns : List Nat} {ps : List Q2}, BtL ns ps → ns.length = ps.length
  | [], [], _ => rfl
  | _ :: _, _ :: _, h => by rw [List.length_cons, List.length_cons, h.2.len]
  | [], _ :: _, h => h.elim
  | _ :: _, [], h => h.elim
theorem BtL.get : ∀ {ns : List Nat} {ps : List Q2} {i : Nat} {p : Q2}, BtL ns ps → ps[i]? = some p → ∃ n, ns[i]? = some n ∧ Bt n p
  | n :: _, p :: _, 0, q, h, e => by
    have e1 : p = q := Option.some.inj e
    subst e1
    exact ⟨n, rfl, h.1⟩
  | _ :: ns, _ :: ps, i + 1, q, h, e => h.2.get (i := i) e
  | [], [], _, _, _, e => by cases e
  | [], _ :: _, _, _, h, _ => h.elim
  | _ :: _, [], _, _, h, _ => h.elim
theorem bits_get {e : Nat} : ∀ {ns : List Nat} {i n : Nat}, ns[i]? = some n → n + e ≤ bits e ns
  | m :: ns, 0, n, h => by
    have : m = n := Option.some.inj h
    subst this
    show m + e ≤ (m + e) + (ns.map (· + e)).sum
    omega
  | m :: ns, i + 1, n, h => by
    have := bits_get (e := e) (ns := ns) (i := i) (n := n) h
    show n + e ≤ (m + e) + bits e ns
    omega
theorem bits_take {e : Nat} : ∀ (ns : List Nat) (i : Nat), bits e (ns.take i) ≤ bits e ns
  | [], _ => by simp [bits]
  | m :: ns, 0 => Nat.zero_le _
  | m :: ns, i + 1 => by
    have := bits_take (e := e) ns i
    show (m + e) + bits e (ns.take i) ≤ (m + e) + bits e ns
    omega
theorem BtL.take : ∀ {ns : List Nat} {ps : List Q2} (i : Nat), BtL ns ps → BtL (ns.take i) (ps.take i)
  | [], [], i, h => by
    rw [List.take_nil, List.take_nil]
    trivial
  | _ :: _, _ :: _, 0, h => trivial
  | _ :: _, _ :: _, i + 1, h => ⟨h.1, h.2.take i⟩
  | [], _ :: _, _, h => h.elim
  | _ :: _, [], _, h => h.elim
theorem sumL_ok : ∀ (ns : List Nat) (ps : List Q2) (a : Q2) (m : Nat), BtL ns ps → (∀ p ∈ ps, M2.Low p.1 p.2) → M2.Low a.1 a.2 → Bt m a → M2.Low (ps.foldl M2.add a).1 (ps.foldl M2.add a).2 ∧ Bt (m + bits 1 ns) (ps.foldl M2.add a)
  | [], [], a, m, _, _, h1, h2 => ⟨h1, h2⟩
  | n :: ns, p :: ps, a, m, hb, hp, h1, h2 => by
    have lp := hp p List.mem_cons_self
    have ad := M2.add_ok (p := a) (q := p) h1 lp
    have sz := M2.add_size (p := a) (q := p) h1 lp h2.1 h2.2 hb.1.1 hb.1.2
    have ih := sumL_ok ns ps (M2.add a p) (m + n + 1) hb.2 (fun q hq => hp q (List.mem_cons_of_mem _ hq)) ad.1 sz
    have e : m + bits 1 (n :: ns) = m + n + 1 + bits 1 ns := by
      show m + ((n + 1) + bits 1 ns) = _
      omega
    rw [e]
    exact ih
  | [], _ :: _, _, _, h, _, _, _ => h.elim
  | _ :: _, [], _, _, h, _, _, _ => h.elim
def spSumL (K : PySem.W.Frag) : Sp := fun vs H Q _ => ∃ (s : Addr) (xs : List V) (ps : List Q2) (ns : List Nat), vs = [.ref s] ∧ (SqT K H s xs ∨ SqL K H s xs) ∧ Frs K H xs ps ∧ BtL ns ps ∧ (∀ p ∈ ps, M2.Low p.1 p.2) ∧ bits 1 ns ≤ 2900 ∧ ∀ H' u, Same H H' → SqT K H' u (pV (sumQ ps)) → Q (.ref u) H'
def spWeighedL (K : PySem.W.Frag) : Sp := fun vs H Q _ => ∃ (s t : Addr) (ws : List Int) (xs : List V) (ps : List Q2) (ns : List Nat), vs = [.ref s, .ref t] ∧ SqT K H s (ws.map V.int) ∧ SqT K H t xs ∧ Frs K H xs ps ∧ BtL ns ps ∧ ws.length = ps.length ∧ (∀ c ∈ ws, c.natAbs < 2 ^ 24) ∧
  (∀ p ∈ ps, M2.Low p.1 p.2) ∧ ps.length ≤ 1000 ∧ bits 25 ns ≤ 2900 ∧ ∀ H' u, Same H H' → SqT K H' u (pV (sumQ (weighQ ws ps))) → Q (.ref u) H'
theorem weigh_bt : ∀ {ns : List Nat} {ws : List Int} {ps : List Q2}, BtL ns ps → ws.length = ps.length → (∀ c ∈ ws, c.natAbs < 2 ^ 24) → (∀ p ∈ ps, M2.Low p.1 p.2) → BtL (ns.map (24 + ·)) (weighQ ws ps) ∧ ∀ p ∈ weighQ ws ps, M2.Low p.1 p.2
  | [], [], [], _, _, _, _ => ⟨trivial, fun p hp => by cases hp⟩
  | n :: ns, w :: ws, p :: ps, hb, hl, hw, hp => by
    have ih := weigh_bt (ns := ns) (ws := ws) (ps := ps) hb.2 (Nat.succ.inj hl) (fun c hc => hw c (List.mem_cons_of_mem _ hc)) (fun q hq => hp q (List.mem_cons_of_mem _ hq))
    have t := time_ok (p := (w, 1)) (q := p) (m := 24) (n := n) (show (0 : Int) < 1 by decide) (hp p List.mem_cons_self).1 ⟨hw w List.mem_cons_self, show (1 : Int).natAbs < 2 ^ 24 by decide⟩ hb.1
    refine ⟨⟨t.2.1, ih.1⟩, fun q hq => ?_⟩
    rcases List.mem_cons.mp hq with z | z
    · rw [z]
      exact t.1
    · exact ih.2 q z
  | [], _ :: _, [], _, hl, _, _ => by cases hl
  | _, [], _ :: _, _, hl, _, _ => by cases hl
  | [], _, _ :: _, h, _, _, _ => h.elim
  | _ :: _, _, [], h, _, _, _ => h.elim
theorem bits_map (ns : List Nat) : bits 1 (ns.map (24 + ·)) = bits 25 ns := by
  unfold bits
  rw [List.map_map]
  congr 1
  exact List.map_congr_left fun n _ => by show 24 + n + 1 = n + 25; omega
theorem weigh_get {ws : List Int} {ps : List Q2} {i : Nat} {w : Int} {p : Q2} (h1 : ws[i]? = some w) (h2 : ps[i]? = some p) : (weighQ ws ps)[i]? = some (timeQ (w, 1) p) := by
  unfold weighQ
  have ez : (ws.zip ps)[i]? = some (w, p) := List.getElem?_zip_eq_some.mpr ⟨h1, h2⟩
  rw [List.getElem?_map, ez]
  rfl
theorem weigh_len {ws : List Int} {ps : List Q2} (h : ws.length = ps.length) : (weighQ ws ps).length = ps.length := by
  unfold weighQ
  rw [List.length_map, List.length_zip]
  omega
theorem ss_size : ∀ (ps : List Q2) (a : Q2) (m : Nat), (∀ p ∈ ps, Bt 3000 p) → Bt m a → Bt (m + 3001 * ps.length) (M14.ssF ps a)
  | [], a, m, _, h => h
  | p :: ps, a, m, hp, h => by
    have bp := hp p List.mem_cons_self
    have h3 : (a.1 * p.2 + p.1 * a.2).natAbs < 2 ^ (m + 3001) := by
      have e1 := Int.natAbs_add_le (a.1 * p.2) (p.1 * a.2)
      have e2 := wide_lt h.1 bp.2
      have e3 := wide_lt bp.1 h.2
      have e4 : 2 ^ (m + 3001) = 2 ^ (m + 3000) + 2 ^ (m + 3000) := by rw [show m + 3001 = m + 3000 + 1 from rfl, Nat.pow_succ]; omega
      rw [Nat.add_comm 3000 m] at e3
      omega
    have h4 : (a.2 * p.2).natAbs < 2 ^ (m + 3001) := Nat.lt_of_lt_of_le (wide_lt h.2 bp.2) (Nat.pow_le_pow_right (by decide) (by omega))
    have ih := ss_size ps (a.1 * p.2 + p.1 * a.2, a.2 * p.2) (m + 3001) (fun q hq => hp q (List.mem_cons_of_mem _ hq)) ⟨h3, h4⟩
    have e : m + 3001 * (p :: ps).length = m + 3001 + 3001 * ps.length := by rw [List.length_cons]; omega
    rw [e]
    exact ih
def spSmallSum (K : PySem.W.Frag) : Sp := fun vs H Q _ => ∃ (s : Addr) (xs : List V) (ps : List Q2), vs = [.ref s] ∧ SqL K H s xs ∧ Frs K H xs ps ∧ (∀ p ∈ ps, Bt 3000 p) ∧ ps.length ≤ 100 ∧ Q (.bl (decide (M14.absV (M14.ssF ps (0, 1)).1 < (M14.ssF ps (0, 1)).2))) H
theorem ss_take {ps : List Q2} {i : Nat} {p : Q2} (e : ps[i]? = some p) (a : Q2) : M14.ssF (ps.take (i + 1)) a = ((M14.ssF (ps.take i) a).1 * p.2 + p.1 * (M14.ssF (ps.take i) a).2, (M14.ssF (ps.take i) a).2 * p.2) := by
  induction ps generalizing i a with
  | nil => cases e
  | cons q ps ih =>
    cases i with
    | zero =>
      have : q = p := Option.some.inj e
      subst this
      rfl
    | succ i => exact ih (i := i) e _
end CK
namespace K14
open PySem PySem.Spec PyProof.Rows L2 VG FR CK
abbrev s_sum_of : Stmt := topS 22
abbrev N_sum_of : List Str := ["some", "total", "one"]
theorem sc_sum_of : FnScope N_sum_of ["some"] (defScope s_sum_of) := ⟨rfl, rfl, rfl, by decide +kernel, rfl, by decide +kernel, by decide +kernel⟩
abbrev s_weighed : Stmt := topS 24
abbrev N_weighed : List Str := ["weights", "some", "weight", "one"]
theorem sc_weighed : FnScope N_weighed ["weights", "some"] (defScope s_weighed) := ⟨rfl, rfl, rfl, by decide +kernel, rfl, by decide +kernel, by decide +kernel⟩
abbrev s_is_small_sum : Stmt := topS 23
abbrev N_is_small_sum : List Str := ["some", "top", "bottom", "more", "under"]
theorem sc_is_small_sum : FnScope N_is_small_sum ["some"] (defScope s_is_small_sum) := ⟨rfl, rfl, rfl, by decide +kernel, rfl, by decide +kernel, by decide +kernel⟩
section
variable {P : Program} {w : World} {K : PySem.W.Frag} {mg : Str → Option Value} {base : Heap}
theorem ok_sum_of {f zz : Addr} {fd : FuncData} (F : Fun K "sum_of" "sum_of" s_sum_of f fd) (C_added : Cl P w K mg base 1 "added" (spAdd K)) (m_ZERO : mg "ZERO" = some (.ref zz)) (hz : ∀ H, SqT K H zz (pV (0, 1))) :
    FnOk P w K mg base CX0 2 f fd ["some"] (spSumL K) := by
  refine F.ok sc_sum_of (fun vs H Q E h => ?_) (fun cdv A outer s H vs Q E hr h => ?_)
  · obtain ⟨_, _, _, _, rfl, _⟩ := h
    rfl
  · obtain ⟨s1, xs, ps, ns, rfl, hS, hF, hb, hp, hn, fin⟩ := h
    refine ⟨_, (pss_cons (ps_set (i := 1) sc_sum_of.nd rfl (.inl rfl) (pe_glob (v := .ref zz) rfl m_ZERO rfl))
    (pss_cut (ps_for PassesOwn.never rfl (pi_any (pv 0)) (pg_name (i := 2) sc_sum_of.nd rfl (.inl rfl))
      (pss_one (ps_set (i := 1) sc_sum_of.nd rfl (.inl rfl) (pe_cl C_added hr (by decide) rfl (pa_cons (pv 1) (pa_cons (pv 2) pa_nil))))))
    (pss_one (ps_ret (pv 1))))), ?_⟩
    have lxs := hF.len
    refine ⟨fun σ H' => ∃ (u : Addr) (y : Option V), σ = [some (.ref s1), some (.ref u), y] ∧ Same H H' ∧ SqT K H' u (pV (sumQ ps)), ?_, ?_⟩
    · have go : ∀ (J : It), (Walk J xs.length (fun H' => Same H H') (fun i H v H' => H' = H ∧ xs[i]? = some v)) → ∀ (D : Ends), (∀ σ' H', (∃ (u : Addr) (y : Option V), σ' = [some (.ref s1), some (.ref u), y] ∧ Same H H' ∧ SqT K H' u (pV (sumQ ps))) → D.nx σ' H') →
          ∃ W : Nat → Nat → L2.St → Hp → Prop, (∃ m, W 0 m [some (V.ref s1), some (V.ref zz), none] H) ∧ ∀ i m σ H', W i m σ H' →
            (J.stop i H' ∧ D.nx σ H') ∨ (J.go i H' ∧ ∃ N : L2.St → Hp → Prop, (∀ σ' H'', N σ' H'' → ∃ m', m' < m ∧ W (i + 1) m' σ' H'') ∧ ∀ x H'', J.yld i H' x H'' → gName 2 x σ H'' fun σ2 H2 => tAsg (tCall (spAdd K) [] E0 (tCons (tVar 1) (tCons (tVar 2) tNil))) (gName 1) { D with nx := N, ct := N, bk := D.nx } σ2 H2) := by
        intro J wk D hD
        refine for_it wk (fun i σ H' => ∃ (u : Addr) (y : Option V), σ = [some (.ref s1), some (.ref u), y] ∧ Same H H' ∧ SqT K H' u (pV ((ps.take i).foldl M2.add (0, 1)))) ⟨zz, none, rfl, Same.refl _, hz H⟩ ?_ ?_ ?_
        · rintro i σ H' _ ⟨u, y, _, sm, _⟩
          exact sm
        · rintro i x σ H1 H2 hi ⟨u, y, rfl, sm, hu⟩ ⟨e2, ex⟩
          subst e2
          obtain ⟨t, p, rfl, ep, ht⟩ := hF.get ex
          have hpm := hp p (List.mem_of_getElem? ep)
          obtain ⟨n, en, bn⟩ := hb.get ep
          have so := sumL_ok (ns.take i) (ps.take i) (0, 1) 1 (hb.take i) (fun q hq => hp q (List.mem_of_mem_take hq)) ⟨by decide, by decide⟩ ⟨by decide, by decide⟩
          have b1 := bits_take (e := 1) ns i
          have b2 := bits_get (e := 1) en
          refine ⟨_, rfl, _, rfl, u, t, _, p, rfl, hu, seqT sm ht, so.1, hpm, so.2.mono (by omega), bn.mono (by omega), fun H3 v sm3 nv hv => ?_⟩
          refine ⟨v, _, rfl, sm.trans sm3, .inl (.inl ?_)⟩
          rw [hv, List.take_add_one, ep, List.foldl_append]
          rfl
        · rintro σ H' ⟨u, y, rfl, sm, hu⟩
          refine hD _ _ ⟨u, y, rfl, sm, ?_⟩
          rw [List.take_of_length_le (by rw [lxs]; exact Nat.le_refl _)] at hu
          exact hu
      rcases hS with hS | hS
      · exact ⟨s1, rfl, .inr ⟨⟨_, hS⟩, go _ (walk_tup.mono (fun H' sm => seqT sm hS) (fun i H1 x H2 _ _ h => h)) _ (fun _ _ h => h)⟩⟩
      · exact ⟨s1, rfl, .inl ⟨⟨_, hS⟩, go _ (walk_list.mono (fun H' sm => sm.seq hS) (fun i H1 x H2 _ _ h => h)) _ (fun _ _ h => h)⟩⟩
    · rintro σ H' ⟨u, y, rfl, sm, hu⟩
      exact ⟨_, rfl, fin H' u sm hu⟩
theorem ok_weighed {f : Addr} {fd : FuncData} (F : Fun K "weighed" "weighed" s_weighed f fd) (C_sum_of : Cl P w K mg base 2 "sum_of" (spSumL K)) (C_timed : Cl P w K mg base 4 "timed" (spTimed K)) (z_zip : mg "zip" = none) :
    FnOk P w K mg base CX0 5 f fd ["weights", "some"] (spWeighedL K) := by
  refine F.ok sc_weighed (fun vs H Q E h => ?_) (fun cdv A outer s H vs Q E hr h => ?_)
  · obtain ⟨_, _, _, _, _, _, rfl, _⟩ := h
    rfl
  · obtain ⟨s1, t1, ws, xs, ps, ns, rfl, hW, hS, hF, hb, hlw, hw, hp, hl, hn, fin⟩ := h
    refine ⟨_, (pss_one (ps_ret (pe_cl C_sum_of hr (by decide) rfl (pa_cons (pe_lc (own := [("weight", 2), ("one", 3)]) (by rfl) sc_weighed.nd (RZ.pi_zipA (by rfl) z_zip (pa_cons (pv 0) (pa_cons (pv 1) pa_nil))) (blkOk_by (own := [("weight", 2), ("one", 3)]) (N := N_weighed) (sc := defScope s_weighed) (by decide +kernel)) (fun _ _ _ _ _ => (show PG _ _ (gTup K 2 _) from pg_tup rfl (pgs_cons (pg_name (i := 2) sc_weighed.nd rfl (.inl rfl)) (pgs_cons (pg_name (i := 3) sc_weighed.nd rfl (.inl rfl)) pgs_nil)))) (fun _ _ _ _ _ => pts_nil) (fun _ _ _ _ _ => (pe_cl C_timed hr (by decide) rfl (pa_cons (pe_tup (pa_cons (pv 2) (pa_cons pe_int pa_nil))) (pa_cons (pv 3) pa_nil))))) pa_nil)))), ?_⟩
    have lxs := hF.len
    refine ⟨_, rfl, _, rfl, s1, t1, _, xs, rfl, .inr ⟨hW, hS, fun D nD => ?_⟩⟩
    refine lc_it (walk_zipT (K := K) (a := s1) (b := t1) (xs := ws.map V.int) (ys := xs) (n := ps.length) (by rw [List.length_map]; omega)) (fun i H1 => Same H H1 ∧ ∃ vs, H1 D = some (.lst vs) ∧ Frs K H1 vs ((weighQ ws ps).take i) ∧ vs.length = i) ⟨same_upd nD, [], upd_same, trivial, rfl⟩ ?_ ?_ ?_
    · rintro i H1 _ ⟨sm, _⟩
      exact ⟨seqT sm hW, seqT sm hS⟩
    · rintro i x H1 H2 hi ⟨sm, vs, hD, hv, hlv⟩ ⟨T, c, v, rfl, nT, rfl, ec, ev⟩
      have hiw : i < ws.length := by omega
      have ec : (ws.map V.int)[i]? = some c := ec
      rw [List.getElem?_map, List.getElem?_eq_getElem hiw] at ec
      have ec2 : V.int ws[i] = c := Option.some.inj ec
      subst ec2
      obtain ⟨t, p, rfl, ep, ht⟩ := hF.get ev
      have sT := same_upd (o := .tup [V.int ws[i], V.ref t]) nT
      have hpm := hp p (List.mem_of_getElem? ep)
      have hwm := hw _ (List.getElem_mem hiw)
      obtain ⟨n, en, bn⟩ := hb.get ep
      have b2 := bits_get (e := 25) en
      refine ⟨T, _, rfl, .inl (.inl upd_same), rfl, _, _, rfl, _, _, rfl, rfl, rfl, ?_⟩
      refine ⟨_, rfl, by show 2 ≤ sizeLine; decide, fun o no => ?_⟩
      have so := same_upd (o := .tup [V.int ws[i], V.int 1]) no
      have smo := (sm.trans sT).trans so
      refine ⟨_, rfl, o, t, (ws[i], 1), p, rfl, .inl (.inl upd_same), seqT smo ht, show (0 : Int) < 1 by decide, hpm.1, ⟨up hwm (by decide), show (1 : Int).natAbs < 2 ^ 3000 by decide⟩, bn.mono (by omega), fun H3 u sm3 nu hu => ?_⟩
      have sm13 := (sT.trans so).trans sm3
      refine ⟨vs, sm13 _ _ hD, ?_, ?_, ?_⟩
      · have : sizeLine = 16777216 := by decide
        omega
      · have nH : H D = none := nD
        intro y oo hy
        rw [upd_ne (ne_of_none hy nH)]
        exact sm13 _ _ (sm _ _ hy)
      · refine ⟨_, upd_same, ?_, by rw [List.length_append, hlv]; rfl⟩
        rw [List.take_add_one, weigh_get (List.getElem?_eq_getElem hiw) ep]
        have hD3 := sm13 _ _ hD
        exact Frs.upd hD3 (Frs.snoc (.inl (.inl hu)) (((hv.mono sT).mono so).mono sm3))
    · rintro H1 ⟨sm, vs, hD, hv, hlv⟩
      have lw := weigh_len hlw
      rw [List.take_of_length_le (by omega)] at hv
      have wb := weigh_bt hb hlw hw hp
      exact ⟨D, vs, weighQ ws ps, _, rfl, .inr (.inl (.inl hD)), hv, wb.1, wb.2, by rw [bits_map]; exact hn, fun H2 u sm2 hu => fin H2 u (sm.trans sm2) hu⟩
theorem ok_is_small_sum {f zz : Addr} {fd : FuncData} (F : Fun K "is_small_sum" "is_small_sum" s_is_small_sum f fd) (m_ZERO : mg "ZERO" = some (.ref zz)) (hz : ∀ H, SqT K H zz (pV (0, 1))) (z_abs : mg "abs" = none) : FnOk P w K mg base CX0 1 f fd ["some"] (spSmallSum K) := by
  refine F.ok sc_is_small_sum (fun vs H Q E h => ?_) (fun cdv A outer s H vs Q E hr h => ?_)
  · obtain ⟨_, _, _, rfl, _⟩ := h
    rfl
  · obtain ⟨s1, xs, ps, rfl, hS, hF, hp, hl, fin⟩ := h
    refine ⟨_, (pss_cons (ps_asg (pe_glob (v := .ref zz) rfl m_ZERO rfl) (pg_tup rfl (pgs_cons (pg_name (i := 1) sc_is_small_sum.nd rfl (.inl rfl)) (pgs_cons (pg_name (i := 2) sc_is_small_sum.nd rfl (.inl rfl)) pgs_nil))))
    (pss_cut (ps_for PassesOwn.never rfl (pi_list (pv 0)) (pg_tup rfl (pgs_cons (pg_name (i := 3) sc_is_small_sum.nd rfl (.inl rfl)) (pgs_cons (pg_name (i := 4) sc_is_small_sum.nd rfl (.inl rfl)) pgs_nil)))
      (pss_one (ps_par (i := 1) (j := 2) (by rfl) sc_is_small_sum.nd rfl rfl (by decide) rfl rfl (pa_cons (pe_op op_add (pe_op op_mulW (pv 1) (pv 4)) (pe_op op_mulW (pv 3) (pv 2))) (pa_cons (pe_op op_mulW (pv 2) (pv 4)) pa_nil)) (by rfl))))
    (pss_one (ps_ret (pe_cmpR op_lt (pe_callB call_abs (by rfl) z_abs (by decide +kernel) (pa_cons (pv 1) pa_nil)) (pv 2) (nomark _)))))), ?_⟩
    have lxs := hF.len
    have size : ∀ i, Bt 400000 (M14.ssF (ps.take i) (0, 1)) := fun i => by
      have z := ss_size (ps.take i) (0, 1) 1 (fun q hq => hp q (List.mem_of_mem_take hq)) ⟨by decide, by decide⟩
      refine z.mono ?_
      have : (ps.take i).length ≤ 100 := by rw [List.length_take]; omega
      omega
    refine ⟨zz, _, rfl, hz H, rfl, _, _, rfl, _, _, rfl, rfl, ?_⟩
    refine ⟨fun σ H' => H' = H ∧ ∃ y3 y4, σ = [some (.ref s1), some (.int (M14.ssF ps (0, 1)).1), some (.int (M14.ssF ps (0, 1)).2), y3, y4], ?_, ?_⟩
    · refine ⟨_, rfl, s1, rfl, ⟨_, hS⟩, ?_⟩
      refine for_it (walk_list (K := K) (a := s1) (xs := xs)) (fun i σ H' => H' = H ∧ ∃ y3 y4, σ = [some (.ref s1), some (.int (M14.ssF (ps.take i) (0, 1)).1), some (.int (M14.ssF (ps.take i) (0, 1)).2), y3, y4]) ⟨rfl, _, _, rfl⟩ (fun i σ H' _ h => by rw [h.1]; exact hS) ?_ ?_
      · rintro i x σ H1 H2 hi ⟨rfl, y3, y4, rfl⟩ ⟨rfl, ex⟩
        obtain ⟨t, p, rfl, ep, ht⟩ := hF.get ex
        have hpm := hp p (List.mem_of_getElem? ep)
        have sz := size i
        rw [ss_take ep]
        refine ⟨t, _, rfl, ht, rfl, _, _, rfl, _, _, rfl, rfl, ?_⟩
        have m1 : CMulW (M14.ssF (ps.take i) (0, 1)).1 p.2 := mulW sz.1 (up hpm.2 (by decide))
        have m2 : CMulW p.1 (M14.ssF (ps.take i) (0, 1)).2 := mulW (up hpm.1 (by decide)) sz.2
        have m3 : CMulW (M14.ssF (ps.take i) (0, 1)).2 p.2 := mulW sz.2 (up hpm.2 (by decide))
        refine ⟨_, rfl, _, rfl, _, _, rfl, rfl, m1, _, rfl, _, rfl, _, _, rfl, rfl, m2, _, _, rfl, rfl, _, rfl, _, rfl, _, _, rfl, rfl, m3, ?_⟩
        exact ⟨_, _, rfl, rfl, _, _, rfl⟩
      · rintro σ H' ⟨rfl, y3, y4, rfl⟩
        rw [List.take_of_length_le (by omega)]
        exact ⟨rfl, _, _, rfl⟩
    · rintro σ H' ⟨rfl, y3, y4, rfl⟩
      exact ⟨_, rfl, _, rfl, _, rfl, _, _, rfl, rfl, fin⟩
end
end K14
namespace CK
open PySem PySem.Spec PyProof.Rows L2 VG FR
theorem mem_pick {P : Nat → Bool} {n : Nat} {x : Int} : x ∈ pick P n ↔ ∃ j : Nat, j < n ∧ P j = true ∧ x = (j : Int) := by
  unfold pick
  constructor
  · intro h
    obtain ⟨j, hj, rfl⟩ := List.mem_map.mp h
    have ⟨h1, h2⟩ := List.mem_filter.mp hj
    exact ⟨j, List.mem_range.mp h1, h2, rfl⟩
  · rintro ⟨j, h1, h2, rfl⟩
    exact List.mem_map.mpr ⟨j, List.mem_filter.mpr ⟨List.mem_range.mpr h1, h2⟩, rfl⟩
theorem pick_nodup (P : Nat → Bool) (n : Nat) : (pick P n).Nodup := by
  unfold pick
  refine List.pairwise_map.mpr ?_
  have h : (List.range n).Nodup := List.nodup_range
  exact (List.Pairwise.filter P h).imp fun z e => z (by omega)
theorem keys_from (f : Nat → List Int) : ∀ {n : Nat} {c : List Int}, c ∈ keysOf f n → ∃ j, j < n ∧ f j = c
  | n + 1, c, h => by
    unfold keysOf at h
    by_cases e : f n ∈ keysOf f n
    · rw [if_pos e] at h
      obtain ⟨j, h1, h2⟩ := keys_from f h
      exact ⟨j, by omega, h2⟩
    · rw [if_neg e] at h
      rcases List.mem_append.mp h with z | z
      · obtain ⟨j, h1, h2⟩ := keys_from f z
        exact ⟨j, by omega, h2⟩
      · exact ⟨n, by omega, (List.mem_singleton.mp z).symm⟩
def sgL (f : Nat → List Int) (n : Nat) : List (List Int) := (keysOf f n).filter fun c => !c.isEmpty
theorem sg_nodup (f : Nat → List Int) (n : Nat) : (sgL f n).Nodup := List.Pairwise.filter _ (keys_nodup f n)
theorem classes_eq (ts : List (List Int)) (n : Nat) : classesL ts n = (sgL (fT ts) n).map fun c => pick (memb (fT ts) c) n := rfl
theorem picks_apart (f : Nat → List Int) (n : Nat) : ∀ (ks : List (List Int)), ks.Nodup → M15.Apart (ks.map fun c => pick (memb f c) n)
  | [], _ => List.nodup_nil
  | c :: ks, h => by
    have ⟨h1, h2⟩ := List.nodup_cons.mp h
    show (pick (memb f c) n ++ (ks.map fun c => pick (memb f c) n).flatten).Nodup
    refine List.nodup_append.mpr ⟨pick_nodup _ _, picks_apart f n ks h2, fun x hx y hy e => ?_⟩
    obtain ⟨l, hl, hy⟩ := List.mem_flatten.mp hy
    obtain ⟨d, hd, rfl⟩ := List.mem_map.mp hl
    obtain ⟨i, i1, i2, i3⟩ := mem_pick.mp hx
    obtain ⟨j, j1, j2, j3⟩ := mem_pick.mp hy
    have e2 : i = j := by omega
    subst e2
    have q1 : f i = c := of_decide_eq_true i2
    have q2 : f i = d := of_decide_eq_true j2
    exact h1 (by rw [← q1, q2]; exact hd)
theorem classes_apart (ts : List (List Int)) (n : Nat) : M15.Apart (classesL ts n) := picks_apart _ _ _ (sg_nodup _ _)
theorem nodup_le {α : Type} [DecidableEq α] : ∀ (l D : List α), l.Nodup → (∀ x ∈ l, x ∈ D) → l.length ≤ D.length
  | [], _, _, _ => Nat.zero_le _
  | a :: l, D, h, s => by
    have ⟨h1, h2⟩ := List.nodup_cons.mp h
    have ha := s a List.mem_cons_self
    have ih := nodup_le l (D.erase a) h2 fun x hx => (List.mem_erase_of_ne (fun e => h1 (by rw [← e]; exact hx))).mpr (s x (List.mem_cons_of_mem _ hx))
    rw [List.length_erase_of_mem ha] at ih
    have := List.length_pos_of_mem ha
    rw [List.length_cons]
    omega
theorem classes_flat (ts : List (List Int)) (n : Nat) : (classesL ts n).flatten.length ≤ n := by
  have h := nodup_le (classesL ts n).flatten ((List.range n).map fun (j : Nat) => (j : Int)) (classes_apart ts n) fun x hx => by
    obtain ⟨l, hl, hy⟩ := List.mem_flatten.mp hx
    rw [classes_eq] at hl
    obtain ⟨d, hd, rfl⟩ := List.mem_map.mp hl
    obtain ⟨j, j1, _, rfl⟩ := mem_pick.mp hy
    exact List.mem_map.mpr ⟨j, List.mem_range.mpr j1, rfl⟩
  rw [List.length_map, List.length_range] at h
  exact h
theorem classes_below {ts : List (List Int)} {n : Nat} {c : List Int} {x : Int} (hc : c ∈ classesL ts n) (hx : x ∈ c) : ∃ j : Nat, j < n ∧ x = (j : Int) := by
  rw [classes_eq] at hc
  obtain ⟨d, hd, rfl⟩ := List.mem_map.mp hc
  obtain ⟨j, j1, _, rfl⟩ := mem_pick.mp hx
  exact ⟨j, j1, rfl⟩
theorem mem_tw {ts : List (List Int)} {k : Int} {t : Nat} {c : List Int} (e : ts[t]? = some c) : (t : Int) ∈ totsWith ts k ↔ c.contains k = true := by
  have g : ts.getD t [] = c := by rw [List.getD_eq_getElem?_getD, e]; rfl
  have hl := (List.getElem?_eq_some_iff.mp e).1
  have h := mem_pick (P := fun j => (ts.getD j []).contains k) (n := ts.length) (x := (t : Int))
  have q : totsWith ts k = pick (fun j => (ts.getD j []).contains k) ts.length := rfl
  rw [q, h]
  constructor
  · rintro ⟨j, _, h2, h3⟩
    have : j = t := by omega
    subst this
    rw [g] at h2
    exact h2
  · intro z
    exact ⟨t, hl, by rw [g]; exact z, rfl⟩
/-- a kind of some total has a class, just one -/
theorem cls_one {ts : List (List Int)} {n j : Nat} {c : List Int} (hc : c ∈ ts) (hj : j < n) (hk : (j : Int) ∈ c) : ∃ a : Nat, ∃ cl, (classesL ts n)[a]? = some cl ∧ (j : Int) ∈ cl ∧ ∀ b d, (classesL ts n)[b]? = some d → (j : Int) ∈ d → b = a := by
  obtain ⟨t, et⟩ := List.mem_iff_getElem?.mp hc
  have ht : (t : Int) ∈ fT ts j := (mem_tw et).mpr (List.contains_iff_mem.mpr hk)
  have hs : fT ts j ∈ sgL (fT ts) n := List.mem_filter.mpr ⟨keys_mem _ hj, by
    cases h : fT ts j with
    | nil => rw [h] at ht; cases ht
    | cons _ _ => rfl⟩
  obtain ⟨a, ea⟩ := List.mem_iff_getElem?.mp hs
  refine ⟨a, pick (memb (fT ts) (fT ts j)) n, by rw [classes_eq, List.getElem?_map, ea]; rfl, mem_pick.mpr ⟨j, hj, decide_eq_true rfl, rfl⟩, fun b d hb hd => ?_⟩
  rw [classes_eq, List.getElem?_map] at hb
  obtain ⟨key, ek, rfl⟩ := Option.map_eq_some_iff.mp hb
  obtain ⟨i, i1, i2, i3⟩ := mem_pick.mp hd
  have : i = j := by omega
  subst this
  have q : fT ts i = key := of_decide_eq_true i2
  subst q
  exact nodup_at (sg_nodup _ _) ek ea
theorem row_val (at_ : Nat) (k : Int) : ∀ (c : List Int) (g : Nums), valV (putRow g at_ c) (Sum.inl k : L2.Key) = if k ∈ c then some (V.int (at_ : Int)) else valV g (Sum.inl k : L2.Key)
  | [], g => by simp [putRow]
  | x :: c, g => by
    have ih := row_val at_ k c (putK g (Sum.inl x : L2.Key) (V.int (at_ : Int)))
    show valV (putRow (putK g (Sum.inl x : L2.Key) (V.int (at_ : Int))) at_ c) _ = _
    rw [ih, valV_put]
    by_cases h1 : k ∈ c
    · rw [if_pos h1, if_pos (List.mem_cons_of_mem _ h1)]
    · rw [if_neg h1]
      by_cases h2 : k = x
      · subst h2
        rw [if_pos rfl, if_pos List.mem_cons_self]
      · rw [if_neg (fun z => h2 (Sum.inl.inj z)), if_neg (fun z => (List.mem_cons.mp z).elim h2 h1)]
theorem num_val {cs : List (List Int)} {k : Int} {a : Nat} (hk : k ∈ cs.getD a []) (only : ∀ b, b ≠ a → k ∉ cs.getD b []) : ∀ i, a < i → valV (numF cs i) (Sum.inl k : L2.Key) = some (V.int (a : Int))
  | 0, h => by omega
  | i + 1, h => by
    show valV (putRow (numF cs i) i (cs.getD i [])) _ = _
    rw [row_val]
    by_cases e : i = a
    · subst e
      rw [if_pos hk]
    · rw [if_neg (only i e)]
      exact num_val hk only i (by omega)
theorem num_of {cs : List (List Int)} {k : Int} {a : Nat} {cl : List Int} (ha : cs[a]? = some cl) (hk : k ∈ cl) (only : ∀ b d, cs[b]? = some d → k ∈ d → b = a) : numV cs k = .int (a : Int) := by
  have g : cs.getD a [] = cl := by rw [List.getD_eq_getElem?_getD, ha]; rfl
  unfold numV
  rw [num_val (a := a) (by rw [g]; exact hk) (fun b nb hb => ?_) cs.length (List.getElem?_eq_some_iff.mp ha).1]
  · rfl
  · rw [List.getD_eq_getElem?_getD] at hb
    cases hc : cs[b]? with
    | none => rw [hc] at hb; cases hb
    | some d =>
      rw [hc] at hb
      exact nb (only b d hc hb)
def headI (c : List Int) : Int := c.getD 0 0
/-- the reckoning of a total -/
def recL (cs : List (List Int)) (c : List Int) : List Int := cs.map fun cl => if c.contains (headI cl) then 1 else 0
theorem rec_iff {ts : List (List Int)} {n : Nat} {c cl : List Int} {a : Nat} (hc : c ∈ ts) (ok : ∀ x ∈ c, 0 ≤ x ∧ x < (n : Int)) (ha : (classesL ts n)[a]? = some cl) : (∃ k ∈ c, numV (classesL ts n) k = V.int (a : Int)) ↔ c.contains (headI cl) = true := by
  obtain ⟨t, et⟩ := List.mem_iff_getElem?.mp hc
  have ha' := ha
  rw [classes_eq, List.getElem?_map] at ha'
  obtain ⟨key, ek, e2⟩ := Option.map_eq_some_iff.mp ha'
  have hkey := (List.mem_filter.mp (List.mem_of_getElem? ek)).1
  obtain ⟨j1, l1, f1⟩ := keys_from _ hkey
  have ne : cl ≠ [] := by
    intro z
    have : (j1 : Int) ∈ cl := by rw [← e2]; exact mem_pick.mpr ⟨j1, l1, decide_eq_true f1, rfl⟩
    rw [z] at this
    cases this
  have hm : headI cl ∈ cl := by
    cases cl with
    | nil => exact absurd rfl ne
    | cons x r => exact List.mem_cons_self
  have hm2 := hm
  rw [← e2] at hm2
  obtain ⟨j0, l0, f0, e0⟩ := mem_pick.mp hm2
  have f0 : fT ts j0 = key := of_decide_eq_true f0
  rw [e2] at e0
  constructor
  · rintro ⟨k, hk, hn⟩
    have ⟨k0, k1⟩ := ok k hk
    obtain ⟨j, rfl⟩ := Int.eq_ofNat_of_zero_le k0
    obtain ⟨a2, cl2, g1, g2, g3⟩ := cls_one (n := n) hc (by omega) hk
    rw [num_of g1 g2 g3] at hn
    have : a2 = a := by have := V.int.inj hn; omega
    subst this
    have e3 : cl2 = cl := Option.some.inj (g1.symm.trans ha)
    subst e3
    rw [← e2] at g2
    obtain ⟨j', l', f', e'⟩ := mem_pick.mp g2
    have : j' = j := by omega
    subst this
    have f' : fT ts j' = key := of_decide_eq_true f'
    have z : (t : Int) ∈ fT ts j' := (mem_tw et).mpr (List.contains_iff_mem.mpr hk)
    rw [f', ← f0] at z
    rw [e0]
    exact (mem_tw et).mp z
  · intro z
    have hk := List.contains_iff_mem.mp z
    rw [e0] at hk
    obtain ⟨a2, cl2, g1, g2, g3⟩ := cls_one hc l0 hk
    refine ⟨(j0 : Int), hk, ?_⟩
    have : a = a2 := g3 a cl ha (by rw [← e0]; exact hm)
    subst this
    exact num_of g1 g2 g3
def numI (cs : List (List Int)) (k : Int) : Int := match numV cs k with
  | .int a => a
  | _ => 0
theorem num_int {ts : List (List Int)} {n : Nat} {c : List Int} {k : Int} (hc : c ∈ ts) (ok : ∀ x ∈ c, 0 ≤ x ∧ x < (n : Int)) (hk : k ∈ c) : numV (classesL ts n) k = V.int (numI (classesL ts n) k) := by
  have ⟨k0, k1⟩ := ok k hk
  obtain ⟨j, rfl⟩ := Int.eq_ofNat_of_zero_le k0
  obtain ⟨a2, cl2, g1, g2, g3⟩ := cls_one (n := n) hc (by omega) hk
  have e := num_of g1 g2 g3
  unfold numI
  rw [e]
def spTBC (K : PySem.W.Frag) (C : Addr) : Sp := fun vs H Q _ => ∃ (a : Addr) (ks : List Str) (ts : List (List Int)), vs = [.ref a] ∧ Tab K C H a ks ts ∧ ts.length ≤ 1000 ∧ ks.length ≤ 1000 ∧ (∀ c ∈ ts, c.length ≤ 60 ∧ ∀ x ∈ c, 0 ≤ x ∧ x < (ks.length : Int)) ∧
  ∀ H' u xs ls, Same H H' → H' u = some (.tup xs) → Tots K H' xs ls → ls.length = ts.length → (∀ (j : Nat) c l, ts[j]? = some c → ls[j]? = some l → ∀ x : Int, x ∈ l ↔ ∃ k ∈ c, numV (classesL ts ks.length) k = .int x) → (∀ l ∈ ls, l.length ≤ 1000) → Q (.ref u) H'
def spTotRecs (K : PySem.W.Frag) (C : Addr) : Sp := fun vs H Q _ => ∃ (a : Addr) (ks : List Str) (ts : List (List Int)), vs = [.ref a] ∧ Tab K C H a ks ts ∧ ts.length ≤ 1000 ∧ ks.length ≤ 1000 ∧ (∀ c ∈ ts, c.length ≤ 60 ∧ ∀ x ∈ c, 0 ≤ x ∧ x < (ks.length : Int)) ∧
  ∀ H' u xs, Same H H' → H' u = some (.tup xs) → Tots K H' xs (ts.map (recL (classesL ts ks.length))) → Q (.ref u) H'
def spTotRec (K : PySem.W.Frag) (C : Addr) : Sp := fun vs H Q _ => ∃ (a : Addr) (j : Nat) (c : List Int) (ks : List Str) (ts : List (List Int)), vs = [.ref a, .int j] ∧ Tab K C H a ks ts ∧ ts[j]? = some c ∧ ts.length ≤ 1000 ∧ ks.length ≤ 1000 ∧ (∀ c ∈ ts, c.length ≤ 60 ∧ ∀ x ∈ c, 0 ≤ x ∧ x < (ks.length : Int)) ∧
  ∀ H' u, Same H H' → SqT K H' u ((recL (classesL ts ks.length) c).map V.int) → Q (.ref u) H'
end CK
namespace K14
open PySem PySem.Spec PyProof.Rows L2 VG FR CK
abbrev s_totals_by_classes : Stmt := topS 34
abbrev N_totals_by_classes : List Str := ["table", "numbers", "total", "kind"]
theorem sc_totals_by_classes : FnScope N_totals_by_classes ["table"] (defScope s_totals_by_classes) := ⟨rfl, rfl, rfl, by decide +kernel, rfl, by decide +kernel, by decide +kernel⟩
abbrev s_total_reckonings : Stmt := topS 37
abbrev N_total_reckonings : List Str := ["table", "every", "total", "at"]
theorem sc_total_reckonings : FnScope N_total_reckonings ["table"] (defScope s_total_reckonings) := ⟨rfl, rfl, rfl, by decide +kernel, rfl, by decide +kernel, by decide +kernel⟩
abbrev s_total_reckoning : Stmt := topS 38
abbrev N_total_reckoning : List Str := ["table", "total"]
theorem sc_total_reckoning : FnScope N_total_reckoning ["table", "total"] (defScope s_total_reckoning) := ⟨rfl, rfl, rfl, by decide +kernel, rfl, by decide +kernel, by decide +kernel⟩
section
variable {P : Program} {w : World} {K : PySem.W.Frag} {mg : Str → Option Value} {base : Heap}
theorem ok_totals_by_classes {f C : Addr} {fd : FuncData} (F : Fun K "totals_by_classes" "totals_by_classes" s_totals_by_classes f fd) (T : TabC K C) (C_class_numbers : Cl P w K mg base 3 "class_numbers" (spNumbers K C)) (z_tuple : mg "tuple" = none) (z_sorted : mg "sorted" = none) (z_set : mg "set" = none) :
    FnOk P w K mg base CX0 4 f fd ["table"] (spTBC K C) := by
  refine F.ok sc_totals_by_classes (fun vs H Q E h => ?_) (fun cdv A outer s H vs Q E hr h => ?_)
  · obtain ⟨_, _, _, rfl, _⟩ := h
    rfl
  · obtain ⟨a, ks, ts, rfl, hTab, lt, lk, ok, fin⟩ := h
    refine ⟨_, (pss_cons (ps_set (i := 1) sc_totals_by_classes.nd rfl (.inr rfl) (pe_cl C_class_numbers hr (by decide) rfl (pa_cons (pv 0) pa_nil)))
    (pss_one (ps_ret (pe_callTy call_tuple_of (by rfl) z_tuple (by decide +kernel) (pa_cons (pe_lc (own := [("total", 2)]) (by rfl) sc_totals_by_classes.nd (pi_tup (pe_fld (pv 0) (by rfl))) (blkOk_by (own := [("total", 2)]) (N := N_totals_by_classes) (sc := defScope s_totals_by_classes) (by decide +kernel)) (fun _ _ _ _ _ => (pg_name (i := 2) sc_totals_by_classes.nd rfl (.inl rfl))) (fun _ _ _ _ _ => pts_nil) (fun _ _ _ _ _ => (pe_callTy (show CallR _ (.type "tuple") (rTupOf K) from call_tupK) (by rfl) z_tuple (by decide +kernel) (pa_cons (pe_callB (show CallR _ (.builtin "sorted") (rSortedSet w) from cr_sortedSet rfl) (by rfl) z_sorted (by decide +kernel) (pa_cons (pe_callTy (show CallR _ (.type "set") (rSetL K w) from cr_setL rfl) (by rfl) z_set (by decide +kernel) (pa_cons (pe_lc (own := [("kind", 3)]) (by rfl) sc_totals_by_classes.nd (show PI _ _ _ (iTup K _) from pi_tup (pv 2)) (blkOk_by (own := [("kind", 3)]) (N := N_totals_by_classes) (sc := { kind := .function, names := [((".0" : String), .local), (("total" : String), .local), (("tuple" : String), .globalImplicit), (("sorted" : String), .globalImplicit), (("set" : String), .globalImplicit), (("numbers" : String), .cell)], isGenerator := false, isCoroutine := false }) (by decide +kernel)) (fun _ _ _ _ _ => (pg_name (i := 3) sc_totals_by_classes.nd rfl (.inl rfl))) (fun _ _ _ _ _ => pts_nil) (fun _ _ _ _ _ => (pe_ix (show IxR _ (rIxT K) from ix_tup) (pv 1) (pv 3) (fun _ _ => rfl)))) pa_nil)) pa_nil)) pa_nil)))) pa_nil))))), ?_⟩
    refine ⟨_, rfl, a, ks, ts, rfl, hTab, lt, lk, fun H1 u s1 nu hu => ?_⟩
    have hTab1 := hTab.mono s1
    obtain ⟨dx, k, t, ys, hO, hK, hS, hT⟩ := hTab1
    have ly := hT.len
    generalize hcs : classesL ts ks.length = cs at hu fin
    refine ⟨_, rfl, a, C, dx, _, .ref t, rfl, hO, T.c, T.nt, rfl, t, rfl, ⟨_, hS⟩, fun D nD => ?_⟩
    refine lc_it (walk_tup (K := K) (a := t) (xs := ys)) (fun i H' => Same H1 H' ∧ ∃ xs ls, H' D = some (.lst xs) ∧ Tots K H' xs ls ∧ ls.length = i ∧ (∀ (j : Nat) c l, ts[j]? = some c → ls[j]? = some l → ∀ x : Int, x ∈ l ↔ ∃ k ∈ c, numV cs k = .int x) ∧ ∀ l ∈ ls, l.length ≤ 1000) ⟨same_upd nD, [], [], upd_same, trivial, rfl, fun j c l _ h => by simp at h, fun l h => by cases h⟩ (fun i H' _ h => seqT h.1 hS) ?_ ?_
    · rintro i v H2 H3 hi ⟨sm2, xs, ls, hD, hx, hl, rel, small⟩ ⟨rfl, ex⟩
      obtain ⟨tt, c, rfl, ec, ht⟩ := hT.get ex
      have hcm := List.mem_of_getElem? ec
      have okc := ok c hcm
      refine ⟨rfl, _, rfl, tt, rfl, ⟨_, seqT sm2 ht⟩, fun L nL => ?_⟩
      have sL := same_upd (o := .lst []) nL
      refine lc_it (walk_tup (K := K) (a := tt) (xs := c.map V.int)) (fun i H' => Same H3 H' ∧ H' L = some (.lst (((c.map (numI cs)).take i).map V.int))) ⟨sL, upd_same⟩ (fun i H' _ h => seqT (sm2.trans h.1) ht) ?_ ?_
      · rintro j v H4 H5 hj ⟨sm4, hL⟩ ⟨rfl, ex2⟩
        rw [List.getElem?_map] at ex2
        obtain ⟨kk, ek, rfl⟩ := Option.map_eq_some_iff.mp ex2
        have kin := List.mem_of_getElem? ek
        have ⟨k0, k1⟩ := okc.2 kk kin
        have hu4 := (sm2.trans sm4) _ _ hu
        obtain ⟨m, rfl⟩ := Int.eq_ofNat_of_zero_le k0
        have hat : atI ((List.range ks.length).map fun j => numV cs ((j : Nat) : Int)) ((m : Nat) : Int) = some (.int (numI cs (m : Int))) := by
          refine atI_nat ?_
          rw [List.getElem?_map, List.getElem?_range (by omega)]
          show some (numV cs (m : Int)) = _
          rw [← hcs, num_int hcm okc.2 kin]
        refine ⟨rfl, _, rfl, _, rfl, u, _, _, _, rfl, rfl, .inl (.inl hu4), hat, _, hL, ?_, HD.same_put sm4 nL, ?_⟩
        · rw [List.length_map, List.length_take, List.length_map]
          have : sizeLine = 16777216 := by decide
          have := okc.1
          omega
        · rw [upd_same, List.take_add_one, List.getElem?_map, ek, List.map_append]
          rfl
      · rintro H4 ⟨sm4, hL⟩
        rw [List.take_of_length_le (by rw [List.length_map, List.length_map]; exact Nat.le_refl _)] at hL
        refine ⟨L, c.map (numI cs), rfl, .inl (.inl hL), by rw [List.length_map]; omega, fun p cnt np hcn => ?_⟩
        have sp := same_upd (o := SetO w p (fun j => decide (j ∈ c.map (numI cs))) cnt) np
        refine ⟨p, _, cnt, rfl, upd_same, by have := okc.1; rw [List.length_map] at hcn; omega, fun ns q pw mem ln nq => ?_⟩
        have sq := same_upd (o := .lst (ns.map V.int)) nq
        refine ⟨q, _, rfl, .inl ⟨.inl (.inl upd_same), fun r nr => ?_⟩⟩
        have sr := same_upd (o := .tup (ns.map V.int)) nr
        have s35 := ((sm4.trans sp).trans sq).trans sr
        have hD5 := s35 _ _ hD
        refine ⟨xs, hD5, ?_, HD.same_put (sm2.trans s35) nD, xs ++ [.ref r], ls ++ [ns], upd_same, ?_, by rw [List.length_append, hl]; rfl, ?_, ?_⟩
        · have := hx.len
          have : sizeLine = 16777216 := by decide
          have : i < ys.length := hi
          omega
        · exact Tots.upd hD5 (Tots.snoc (sqt upd_same) (hx.mono s35))
        · intro j c' l h1 h2 x
          rcases Nat.lt_or_ge j ls.length with z | z
          · rw [List.getElem?_append_left z] at h2
            exact rel j c' l h1 h2 x
          · rw [List.getElem?_append_right z] at h2
            have j0 : j - ls.length = 0 := by
              have := (List.getElem?_eq_some_iff.mp h2).1
              rw [List.length_singleton] at this
              omega
            rw [j0] at h2
            have e1 : ns = l := Option.some.inj h2
            have ji : j = i := by omega
            subst e1 ji
            have e2 : c' = c := Option.some.inj (h1.symm.trans ec)
            subst e2
            rw [mem x, decide_eq_true_eq, List.mem_map]
            constructor
            · rintro ⟨k, hk, e⟩
              refine ⟨k, hk, ?_⟩
              rw [← hcs] at e ⊢
              rw [num_int hcm okc.2 hk, e]
            · rintro ⟨k, hk, e⟩
              refine ⟨k, hk, ?_⟩
              rw [← hcs] at e ⊢
              rw [num_int hcm okc.2 hk] at e
              exact V.int.inj e
        · intro l hl2
          rcases List.mem_append.mp hl2 with z | z
          · exact small l z
          · have := List.mem_singleton.mp z
            subst this
            have := okc.1
            rw [List.length_map] at hcn
            omega
    · rintro H2 ⟨sm2, xs, ls, hD, hx, hl, rel, small⟩
      refine ⟨D, xs, rfl, .inl ⟨.inl (.inl hD), fun r nr => ?_⟩⟩
      have sr := same_upd (o := .tup xs) nr
      exact fin _ r xs ls (s1.trans (sm2.trans sr)) upd_same (hx.mono sr) (by omega) rel small
theorem ok_total_reckonings {f C : Addr} {fd : FuncData} (F : Fun K "total_reckonings" "total_reckonings" s_total_reckonings f fd) (C_classes_of : Cl P w K mg base 2 "classes_of" (spClasses K C)) (C_totals_by_classes : Cl P w K mg base 4 "totals_by_classes" (spTBC K C))
    (z_tuple : mg "tuple" = none) (z_range : mg "range" = none) (z_len : mg "len" = none) (z_int : mg "int" = none) : FnOk P w K mg base CX0 5 f fd ["table"] (spTotRecs K C) := by
  refine F.ok sc_total_reckonings (fun vs H Q E h => ?_) (fun cdv A outer s H vs Q E hr h => ?_)
  · obtain ⟨_, _, _, rfl, _⟩ := h
    rfl
  · obtain ⟨a, ks, ts, rfl, hTab, lt, lk, ok, fin⟩ := h
    refine ⟨_, (pss_cons (ps_set (i := 1) sc_total_reckonings.nd rfl (.inr rfl) (pe_callTy cr_range1 (by rfl) z_range (by decide +kernel) (pa_cons (pe_callB call_len_seq (by rfl) z_len (by decide +kernel) (pa_cons (pe_cl C_classes_of hr (by decide) rfl (pa_cons (pv 0) pa_nil)) pa_nil)) pa_nil)))
    (pss_one (ps_ret (pe_callTy call_tuple_of (by rfl) z_tuple (by decide +kernel) (pa_cons (pe_lc (own := [("total", 2)]) (by rfl) sc_total_reckonings.nd (pi_tup (pe_cl C_totals_by_classes hr (by decide) rfl (pa_cons (pv 0) pa_nil))) (blkOk_by (own := [("total", 2)]) (N := N_total_reckonings) (sc := defScope s_total_reckonings) (by decide +kernel)) (fun _ _ _ _ _ => (pg_name (i := 2) sc_total_reckonings.nd rfl (.inr rfl))) (fun _ _ _ _ _ => pts_nil) (fun _ _ _ _ _ => (pe_callTy (show CallR _ (.type "tuple") (rTupOf K) from call_tupK) (by rfl) z_tuple (by decide +kernel) (pa_cons (pe_lc (own := [("at", 3)]) (by rfl) sc_total_reckonings.nd (pi_rngV (pv 1)) (blkOk_by (own := [("at", 3)]) (N := N_total_reckonings) (sc := { kind := .function, names := [((".0" : String), .local), (("total" : String), .cell), (("tuple" : String), .globalImplicit), (("every" : String), .cell)], isGenerator := false, isCoroutine := false }) (by decide +kernel)) (fun _ _ _ _ _ => (pg_name (i := 3) sc_total_reckonings.nd rfl (.inl rfl))) (fun _ _ _ _ _ => pts_nil) (fun _ _ _ _ _ => (pe_callTy call_int1 (by rfl) z_int (by decide +kernel) (pa_cons (pe_cmpR (show OpR _ (compareOp .In) (rIn K false) from op_in_seq) (pv 3) (pv 2) rfl) pa_nil)))) pa_nil)))) pa_nil))))), ?_⟩
    refine ⟨_, rfl, a, ks, ts, rfl, hTab, lt, lk, fun H1 u xs s1 nu hu hx => ?_⟩
    have lx := hx.len
    have ⟨cl1, cl2⟩ := classes_len ts ks.length
    refine ⟨u, xs, rfl, .inr (sqt hu), _, rfl, fun R nR => ?_⟩
    have sR := same_upd (o := .rng 0 (xs.length : Int)) nR
    have hR := upd_same (H := H1) (a := R) (o := .rng 0 (xs.length : Int))
    generalize L2.upd H1 R (.rng 0 (xs.length : Int)) = H2 at sR hR ⊢
    have s12 := s1.trans sR
    refine ⟨_, rfl, a, ks, ts, rfl, hTab.mono s12, lt, lk, ok, fun H3 v ys ls s3 hv hy ll rel small => ?_⟩
    have ly := hy.len
    refine ⟨v, rfl, ⟨_, sqt hv⟩, fun D nD => ?_⟩
    have hR3 := s3 _ _ hR
    refine lc_it (walk_tup (K := K) (a := v) (xs := ys)) (fun i H' => Same H3 H' ∧ ∃ zs, H' D = some (.lst zs) ∧ Tots K H' zs ((ts.map (recL (classesL ts ks.length))).take i) ∧ zs.length = i) ⟨same_upd nD, [], upd_same, trivial, rfl⟩ (fun i H' _ h => seqT h.1 (sqt hv)) ?_ ?_
    · rintro i x H4 H5 hi ⟨sm4, zs, hD, hz, lz⟩ ⟨rfl, ex⟩
      obtain ⟨tt, l, rfl, el, ht⟩ := hy.get ex
      have ht5 := seqT sm4 ht
      have hiy : i < ys.length := hi
      have ec : ts[i]? = some ts[i] := List.getElem?_eq_getElem (by omega)
      generalize ts[i] = c at ec
      have hcm := List.mem_of_getElem? ec
      have rl := rel i c l ec el
      have sl := small l (List.mem_of_getElem? el)
      refine ⟨rfl, _, rfl, R, 0, _, rfl, sm4 _ _ hR3, ⟨by decide, by decide, by omega, by omega⟩, fun L nL => ?_⟩
      have sL := same_upd (o := .lst []) nL
      refine lc_it (walk_range (lo := 0) (n := ((xs.length : Int) - 0).toNat)) (fun j H' => Same H5 H' ∧ H' L = some (.lst (((recL (classesL ts ks.length) c).take j).map V.int))) ⟨sL, upd_same⟩ (fun _ _ _ _ => trivial) ?_ ?_
      · rintro j x H6 H7 hj ⟨sm6, hL⟩ ⟨rfl, rfl⟩
        have hj2 : j < (classesL ts ks.length).length := by omega
        have ej : (classesL ts ks.length)[j]? = some (classesL ts ks.length)[j] := List.getElem?_eq_getElem hj2
        generalize (classesL ts ks.length)[j] = cl at ej
        have e0 : (0 : Int) + (j : Nat) = (j : Nat) := Int.zero_add _
        refine ⟨rfl, _, rfl, _, rfl, tt, l.map V.int, rfl, .inr (seqT sm6 ht5), rfl, flat_ints l, .inr ⟨_, rfl, ?_⟩⟩
        have key : inV (.int ((0 : Int) + (j : Nat))) (l.map V.int) = c.contains (headI cl) := by
          rw [e0, inV_ints, Bool.eq_iff_iff, List.contains_iff_mem, rl (j : Nat)]
          exact rec_iff hcm (ok c hcm).2 ej
        dsimp only
        rw [key]
        refine ⟨_, hL, ?_, HD.same_put sm6 nL, ?_⟩
        · rw [List.length_map, List.length_take]
          have : sizeLine = 16777216 := by decide
          omega
        · have er : (recL (classesL ts ks.length) c)[j]? = some (if c.contains (headI cl) then 1 else 0) := by
            unfold recL
            rw [List.getElem?_map, ej]
            rfl
          rw [upd_same, List.take_add_one, er, List.map_append]
          cases c.contains (headI cl) <;> rfl
      · rintro H6 ⟨sm6, hL⟩
        have lr : (recL (classesL ts ks.length) c).length = xs.length := by
          unfold recL
          rw [List.length_map, lx]
        rw [List.take_of_length_le (by omega)] at hL
        refine ⟨L, _, rfl, .inl ⟨.inl (.inl hL), fun r nr => ?_⟩⟩
        have sr := same_upd (o := .tup ((recL (classesL ts ks.length) c).map V.int)) nr
        have s57 := sm6.trans sr
        have hD7 := s57 _ _ hD
        refine ⟨zs, hD7, ?_, HD.same_put (sm4.trans s57) nD, zs ++ [.ref r], upd_same, ?_, by rw [List.length_append, lz]; rfl⟩
        · have : sizeLine = 16777216 := by decide
          omega
        · rw [List.take_add_one, List.getElem?_map, ec]
          exact Tots.upd hD7 (Tots.snoc (sqt upd_same) (hz.mono s57))
    · rintro H4 ⟨sm4, zs, hD, hz, lz⟩
      rw [List.take_of_length_le (by rw [List.length_map]; omega)] at hz
      refine ⟨D, zs, rfl, .inl ⟨.inl (.inl hD), fun r nr => ?_⟩⟩
      have sr := same_upd (o := .tup zs) nr
      exact fin _ r zs (s12.trans (s3.trans (sm4.trans sr))) upd_same (hz.mono sr)
theorem ok_total_reckoning {f C : Addr} {fd : FuncData} (F : Fun K "total_reckoning" "total_reckoning" s_total_reckoning f fd) (C_total_reckonings : Cl P w K mg base 5 "total_reckonings" (spTotRecs K C)) : FnOk P w K mg base CX0 6 f fd ["table", "total"] (spTotRec K C) := by
  refine F.ok sc_total_reckoning (fun vs H Q E h => ?_) (fun cdv A outer s H vs Q E hr h => ?_)
  · obtain ⟨_, _, _, _, _, rfl, _⟩ := h
    rfl
  · obtain ⟨a, j, c, ks, ts, rfl, hTab, ec, lt, lk, ok, fin⟩ := h
    refine ⟨_, (pss_one (ps_ret (pe_ix ix_tup (pe_cl C_total_reckonings hr (by decide) rfl (pa_cons (pv 0) pa_nil)) (pv 1) (fun _ _ => rfl)))), ?_⟩
    refine ⟨_, rfl, a, ks, ts, rfl, hTab, lt, lk, ok, fun H1 u xs s1 hu hx => ?_⟩
    have lx := hx.len
    rw [List.length_map] at lx
    have jl := (List.getElem?_eq_some_iff.mp ec).1
    have ex : xs[j]? = some xs[j] := List.getElem?_eq_getElem (by omega)
    obtain ⟨t, d, e1, e2, ht⟩ := hx.get ex
    rw [List.getElem?_map, ec] at e2
    have e3 : recL (classesL ts ks.length) c = d := Option.some.inj e2
    subst e3
    refine ⟨_, rfl, u, xs, _, _, rfl, rfl, sqt hu, atI_nat ex, ?_⟩
    rw [e1]
    exact fin H1 t s1 ht
end
end K14
namespace CK
open PySem PySem.Spec PyProof.Rows L2 VG FR
/-- entries that are integers, or not -/
def Parts (K : PySem.W.Frag) (H : Hp) : List V → List (Option Int) → Prop
  | x :: xs, o :: os => Part K H x o ∧ Parts K H xs os
  | [], [] => True
  | _, _ => False
theorem Parts.mono {K : PySem.W.Frag} {H H' : Hp} (e : Same H H') : ∀ {xs : List V} {os : List (Option Int)}, Parts K H xs os → Parts K H' xs os
  | [], [], _ => trivial
  | _ :: _, _ :: _, h => ⟨part_mono e h.1, h.2.mono e⟩
  | [], _ :: _, h => h.elim
  | _ :: _, [], h => h.elim
theorem Parts.len {K : PySem.W.Frag} {H : Hp} : ∀ {xs : List V} {os : List (Option Int)}, Parts K H xs os → xs.length = os.length
  | [], [], _ => rfl
  | _ :: _, _ :: _, h => by rw [List.length_cons, List.length_cons, h.2.len]
  | [], _ :: _, h => h.elim
  | _ :: _, [], h => h.elim
theorem Parts.get {K : PySem.W.Frag} {H : Hp} : ∀ {xs : List V} {os : List (Option Int)} {i : Nat} {x : V}, Parts K H xs os → xs[i]? = some x → ∃ o, os[i]? = some o ∧ Part K H x o
  | a :: _, o :: _, 0, x, h, e => by
    have e1 : a = x := Option.some.inj e
    subst e1
    exact ⟨o, rfl, h.1⟩
  | _ :: xs, _ :: os, i + 1, x, h, e => h.2.get (i := i) e
  | [], [], _, _, _, e => by cases e
  | [], _ :: _, _, _, h, _ => h.elim
  | _ :: _, [], _, _, h, _ => h.elim
/-- any value: no tuple, or a tuple with such entries -/
def AnyV (K : PySem.W.Frag) (H : Hp) (v : V) : Option (List (Option Int)) → Prop
  | none => ∃ ty : String, TyX K H v (.type ty) ∧ kitB ty "tuple" = some false
  | some os => ∃ p xs, v = .ref p ∧ SqT K H p xs ∧ Parts K H xs os ∧ os.length ≤ 1000
theorem AnyV.mono {K : PySem.W.Frag} {H H' : Hp} (e : Same H H') {v : V} : ∀ {o : Option (List (Option Int))}, AnyV K H v o → AnyV K H' v o
  | none, ⟨ty, h, k⟩ => ⟨ty, tyX_mono e h, k⟩
  | some _, ⟨p, xs, e1, h, r, l⟩ => ⟨p, xs, e1, seqT e h, r.mono e, l⟩
def reckB (m : Nat) : Option (List (Option Int)) → Bool
  | none => false
  | some os => decide (os.length = m) && os.all Option.isSome
def spIsReck (K : PySem.W.Frag) (C : Addr) : Sp := fun vs H Q _ => ∃ (a : Addr) (v : V) (o : Option (List (Option Int))) (ks : List Str) (ts : List (List Int)), vs = [.ref a, v] ∧ Tab K C H a ks ts ∧ ts.length ≤ 1000 ∧ ks.length ≤ 1000 ∧ AnyV K H v o ∧
  ∀ H', Same H H' → Q (.bl (reckB (classesL ts ks.length).length o)) H'
/-- the errors of classes -/
def errsL (cs : List (List Int)) (es : List Q2) : List Q2 := cs.map fun c => sumQ (c.map fun k => es.getD k.toNat (0, 1))
def EsOk (es : List Q2) : Prop := ∀ p ∈ es, M2.Low p.1 p.2 ∧ Bt 20 p
def spClassErrs (K : PySem.W.Frag) (C : Addr) : Sp := fun vs H Q _ => ∃ (a e : Addr) (ys : List V) (ks : List Str) (ts : List (List Int)) (es : List Q2), vs = [.ref a, .ref e] ∧ Tab K C H a ks ts ∧ ts.length ≤ 1000 ∧ ks.length ≤ 12 ∧ SqT K H e ys ∧ Frs K H ys es ∧ es.length = ks.length ∧ EsOk es ∧
  ∀ H' u xs, Same H H' → H' u = some (.tup xs) → Frs K H' xs (errsL (classesL ts ks.length) es) → Q (.ref u) H'
theorem picked_bt {es : List Q2} (h : EsOk es) : ∀ (c : List Int), BtL (List.replicate c.length 20) (c.map fun k => es.getD k.toNat (0, 1)) ∧ ∀ p ∈ c.map (fun k => es.getD k.toNat (0, 1)), M2.Low p.1 p.2
  | [] => ⟨trivial, fun p h => by cases h⟩
  | k :: c => by
    have ih := picked_bt h c
    have one : M2.Low (es.getD k.toNat (0, 1)).1 (es.getD k.toNat (0, 1)).2 ∧ Bt 20 (es.getD k.toNat (0, 1)) := by
      rw [List.getD_eq_getElem?_getD]
      cases e : es[k.toNat]? with
      | none => exact ⟨⟨by decide, by decide⟩, ⟨by decide, by decide⟩⟩
      | some p => exact h p (List.mem_of_getElem? e)
    refine ⟨⟨one.2, ih.1⟩, fun p hp => ?_⟩
    rcases List.mem_cons.mp hp with z | z
    · rw [z]
      exact one.1
    · exact ih.2 p z
theorem bits_rep (e n k : Nat) : bits e (List.replicate k n) = k * (n + e) := by
  unfold bits
  rw [List.map_replicate, List.sum_replicate_nat]
theorem errs_bt {es : List Q2} (h : EsOk es) : ∀ (cs : List (List Int)), BtL (cs.map fun c => 1 + 21 * c.length) (errsL cs es) ∧ ∀ p ∈ errsL cs es, M2.Low p.1 p.2
  | [] => ⟨trivial, fun p h => by cases h⟩
  | c :: cs => by
    have ih := errs_bt h cs
    have pk := picked_bt h c
    have s := sumL_ok _ _ (0, 1) 1 pk.1 pk.2 ⟨by decide, by decide⟩ ⟨by decide, by decide⟩
    rw [bits_rep, Nat.mul_comm] at s
    refine ⟨⟨s.2, ih.1⟩, fun p hp => ?_⟩
    rcases List.mem_cons.mp hp with z | z
    · rw [z]
      exact s.1
    · exact ih.2 p z
theorem errs_bits (e : Nat) : ∀ cs : List (List Int), bits e (cs.map fun c => 1 + 21 * c.length) = (1 + e) * cs.length + 21 * cs.flatten.length
  | [] => by simp [bits]
  | c :: cs => by
    have ih := errs_bits e cs
    show (1 + 21 * c.length + e) + bits e (cs.map fun c => 1 + 21 * c.length) = _
    rw [ih, List.length_cons, List.flatten_cons, List.length_append, Nat.mul_succ, Nat.mul_add]
    omega
def RowOk (row : List Int) : Prop := ∀ c ∈ row, c.natAbs < 2 ^ 24
def spReckoned (K : PySem.W.Frag) (C : Addr) : Sp := fun vs H Q _ => ∃ (a r e : Addr) (ys : List V) (ks : List Str) (ts : List (List Int)) (es : List Q2) (row : List Int), vs = [.ref a, .ref r, .ref e] ∧ Tab K C H a ks ts ∧ ts.length ≤ 1000 ∧ ks.length ≤ 12 ∧ SqT K H r (row.map V.int) ∧
  row.length = (classesL ts ks.length).length ∧ RowOk row ∧ SqT K H e ys ∧ Frs K H ys es ∧ es.length = ks.length ∧ EsOk es ∧ ∀ H' u, Same H H' → SqT K H' u (pV (M14.lsum row (errsL (classesL ts ks.length) es))) → Q (.ref u) H'
def offB (row : List Int) (ps : List Q2) : Bool := !decide (M14.absV (M14.lsum row ps).1 < (M14.lsum row ps).2)
def spOffBy (K : PySem.W.Frag) : Sp := fun vs H Q _ => ∃ (r e : Addr) (ys : List V) (ps : List Q2) (row : List Int), vs = [.ref r, .ref e] ∧ SqT K H r (row.map V.int) ∧ row.length = ps.length ∧ ps.length ≤ 100 ∧ RowOk row ∧ SqT K H e ys ∧ Frs K H ys ps ∧ (∀ p ∈ ps, M2.Low p.1 p.2 ∧ Bt 2900 p) ∧
  ∀ H', Same H H' → Q (.bl (offB row ps)) H'
def spOff (K : PySem.W.Frag) (C : Addr) : Sp := fun vs H Q _ => ∃ (a r e : Addr) (ys : List V) (ks : List Str) (ts : List (List Int)) (es : List Q2) (row : List Int), vs = [.ref a, .ref r, .ref e] ∧ Tab K C H a ks ts ∧ ts.length ≤ 1000 ∧ ks.length ≤ 12 ∧ SqT K H r (row.map V.int) ∧
  row.length = (classesL ts ks.length).length ∧ RowOk row ∧ SqT K H e ys ∧ Frs K H ys es ∧ es.length = ks.length ∧ EsOk es ∧ ∀ H', Same H H' → Q (.bl (offB row (errsL (classesL ts ks.length) es))) H'
theorem BtL.all : ∀ {ns : List Nat} {ps : List Q2} {m : Nat}, BtL ns ps → (∀ n ∈ ns, n ≤ m) → ∀ p ∈ ps, Bt m p
  | [], [], _, _, _, p, hp => by cases hp
  | n :: ns, q :: ps, m, h, hn, p, hp => by
    rcases List.mem_cons.mp hp with z | z
    · rw [z]
      exact h.1.mono (hn n List.mem_cons_self)
    · exact BtL.all h.2 (fun k hk => hn k (List.mem_cons_of_mem _ hk)) p z
  | [], _ :: _, _, h, _, _, _ => h.elim
  | _ :: _, [], _, h, _, _, _ => h.elim
theorem errs_size {ts : List (List Int)} {n : Nat} {es : List Q2} (h : EsOk es) (hn : n ≤ 12) : ∀ p ∈ errsL (classesL ts n) es, M2.Low p.1 p.2 ∧ Bt 300 p := fun p hp => by
  have e := errs_bt h (classesL ts n)
  refine ⟨e.2 p hp, BtL.all e.1 (fun k hk => ?_) p hp⟩
  obtain ⟨c, hc, rfl⟩ := List.mem_map.mp hk
  have := (classes_len ts n).2 c hc
  omega
theorem errs_len (cs : List (List Int)) (es : List Q2) : (errsL cs es).length = cs.length := List.length_map ..
theorem heavy_take {w : Int} {p : Q2} : ∀ {ws : List Int} {ps : List Q2} {i : Nat}, ws[i]? = some w → ps[i]? = some p → M14.heavy (ws.take (i + 1)) (ps.take (i + 1)) = M14.heavy (ws.take i) (ps.take i) ++ (if w = 0 then [] else [(w * p.1, p.2)])
  | v :: ws, q :: ps, 0, h1, h2 => by
    have e1 : v = w := Option.some.inj h1
    have e2 : q = p := Option.some.inj h2
    subst e1 e2
    show M14.heavy (v :: ws.take 0) (q :: ps.take 0) = M14.heavy [] [] ++ _
    rw [List.take_zero, List.take_zero]
    unfold M14.heavy
    split <;> rfl
  | v :: ws, q :: ps, i + 1, h1, h2 => by
    have ih := heavy_take (ws := ws) (ps := ps) (i := i) h1 h2
    show M14.heavy (v :: ws.take (i + 1)) (q :: ps.take (i + 1)) = M14.heavy (v :: ws.take i) (q :: ps.take i) ++ _
    have e : ∀ k, M14.heavy (v :: ws.take k) (q :: ps.take k) = if v = 0 then M14.heavy (ws.take k) (ps.take k) else (v * q.1, q.2) :: M14.heavy (ws.take k) (ps.take k) := fun k => rfl
    rw [e, e, ih]
    split
    · rfl
    · rfl
  | [], _, _, h, _ => by cases h
  | _ :: _, [], _, _, h => by cases h
theorem heavy_mem {q : Q2} : ∀ {ws : List Int} {ps : List Q2}, q ∈ M14.heavy ws ps → ∃ w p, w ∈ ws ∧ p ∈ ps ∧ q = (w * p.1, p.2)
  | w :: ws, p :: ps, h => by
    have e : M14.heavy (w :: ws) (p :: ps) = if w = 0 then M14.heavy ws ps else (w * p.1, p.2) :: M14.heavy ws ps := rfl
    rw [e] at h
    split at h
    · obtain ⟨w', p', h1, h2, h3⟩ := heavy_mem h
      exact ⟨w', p', List.mem_cons_of_mem _ h1, List.mem_cons_of_mem _ h2, h3⟩
    · rcases List.mem_cons.mp h with z | z
      · exact ⟨w, p, List.mem_cons_self, List.mem_cons_self, z⟩
      · obtain ⟨w', p', h1, h2, h3⟩ := heavy_mem z
        exact ⟨w', p', List.mem_cons_of_mem _ h1, List.mem_cons_of_mem _ h2, h3⟩
  | [], _, h => by cases h
  | _ :: _, [], h => by cases h
theorem heavy_len : ∀ (ws : List Int) (ps : List Q2), (M14.heavy ws ps).length ≤ ps.length
  | w :: ws, p :: ps => by
    have ih := heavy_len ws ps
    have e : M14.heavy (w :: ws) (p :: ps) = if w = 0 then M14.heavy ws ps else (w * p.1, p.2) :: M14.heavy ws ps := rfl
    rw [e]
    split
    · rw [List.length_cons]; omega
    · rw [List.length_cons, List.length_cons]; omega
  | [], _ => Nat.zero_le _
  | _ :: _, [] => Nat.le_refl _
end CK
namespace K14
open PySem PySem.Spec PyProof.Rows L2 VG FR CK
abbrev s_is_reckoning : Stmt := topS 36
abbrev N_is_reckoning : List Str := ["table", "value", "entry"]
theorem sc_is_reckoning : FnScope N_is_reckoning ["table", "value"] (defScope s_is_reckoning) := ⟨rfl, rfl, rfl, by decide +kernel, rfl, by decide +kernel, by decide +kernel⟩
abbrev s_class_errors : Stmt := topS 43
abbrev N_class_errors : List Str := ["table", "errors", "kinds", "kind"]
theorem sc_class_errors : FnScope N_class_errors ["table", "errors"] (defScope s_class_errors) := ⟨rfl, rfl, rfl, by decide +kernel, rfl, by decide +kernel, by decide +kernel⟩
abbrev s_reckoned : Stmt := topS 44
abbrev N_reckoned : List Str := ["table", "reckoning", "errors"]
theorem sc_reckoned : FnScope N_reckoned ["table", "reckoning", "errors"] (defScope s_reckoned) := ⟨rfl, rfl, rfl, by decide +kernel, rfl, by decide +kernel, by decide +kernel⟩
abbrev s_is_off : Stmt := topS 45
abbrev N_is_off : List Str := ["table", "reckoning", "errors"]
theorem sc_is_off : FnScope N_is_off ["table", "reckoning", "errors"] (defScope s_is_off) := ⟨rfl, rfl, rfl, by decide +kernel, rfl, by decide +kernel, by decide +kernel⟩
abbrev s_is_off_by : Stmt := topS 46
abbrev N_is_off_by : List Str := ["reckoning", "of_classes", "entry", "top", "bottom"]
theorem sc_is_off_by : FnScope N_is_off_by ["reckoning", "of_classes"] (defScope s_is_off_by) := ⟨rfl, rfl, rfl, by decide +kernel, rfl, by decide +kernel, by decide +kernel⟩
section
variable {P : Program} {w : World} {K : PySem.W.Frag} {mg : Str → Option Value} {base : Heap}
theorem ok_is_reckoning {f C : Addr} {fd : FuncData} (F : Fun K "is_reckoning" "is_reckoning" s_is_reckoning f fd) (C_classes_of : Cl P w K mg base 2 "classes_of" (spClasses K C)) (C_is_tuple_of : Cl P w K mg base 1 "is_tuple_of" (spTup K)) (C_is_an_integer : Cl P w K mg base 1 "is_an_integer" (spInt K))
    (z_len : mg "len" = none) (z_all : mg "all" = none) : FnOk P w K mg base CX0 3 f fd ["table", "value"] (spIsReck K C) := by
  refine F.ok sc_is_reckoning (fun vs H Q E h => ?_) (fun cdv A outer s H vs Q E hr h => ?_)
  · obtain ⟨_, _, _, _, _, rfl, _⟩ := h
    rfl
  · obtain ⟨a, v, o, ks, ts, rfl, hTab, lt, lk, hv, fin⟩ := h
    refine ⟨_, (pss_cons (ps_if (pt_not (pt_val (pe_cl C_is_tuple_of hr (by decide) rfl (pa_cons (pv 1) (pa_cons (pe_callB call_len_seq (by rfl) z_len (by decide +kernel) (pa_cons (pe_cl C_classes_of hr (by decide) rfl (pa_cons (pv 0) pa_nil)) pa_nil)) pa_nil)))))
      (pss_one (ps_ret pe_bl))
      pss_nil)
    (pss_one (ps_ret (pe_callB (cr_all rfl) (by rfl) z_all (by decide +kernel) (pa_cons (pe_lc (own := [("entry", 2)]) (by rfl) sc_is_reckoning.nd (pi_tup (pv 1)) (blkOk_by (own := [("entry", 2)]) (N := N_is_reckoning) (sc := defScope s_is_reckoning) (by decide +kernel)) (fun _ _ _ _ _ => (pg_name (i := 2) sc_is_reckoning.nd rfl (.inl rfl))) (fun _ _ _ _ _ => pts_nil) (fun _ _ _ _ _ => (pe_cl C_is_an_integer hr (by decide) rfl (pa_cons (pv 2) pa_nil)))) pa_nil))))), ?_⟩
    refine ⟨_, rfl, _, rfl, a, ks, ts, rfl, hTab, lt, lk, fun H1 u xs s1 nu hu hx => ?_⟩
    have lx := hx.len
    have hv1 := hv.mono s1
    refine ⟨u, xs, rfl, .inr (sqt hu), v, _, rfl, ?_⟩
    cases o with
    | none =>
      obtain ⟨ty, h, k⟩ := hv1
      exact .inl ⟨ty, h, k, false, rfl, iteT (fin _ s1)⟩
    | some os =>
      obtain ⟨p, zs, rfl, hp, hos, lo⟩ := hv1
      have lz := hos.len
      refine .inr ⟨p, zs, rfl, hp, _, rfl, ite2 (fun z => ?_) (fun z => ?_)⟩
      · have ne : ¬ os.length = (classesL ts ks.length).length := by
          rw [Bool.not_eq_true'] at z
          have := of_decide_eq_false z
          omega
        have e : reckB (classesL ts ks.length).length (some os) = false := by
          show (decide (os.length = _) && _) = false
          rw [decide_eq_false ne]
          rfl
        have q := fin _ s1
        rw [e] at q
        exact q
      · have eq : os.length = (classesL ts ks.length).length := by
          have := of_decide_eq_true (show decide (zs.length = xs.length) = true by simpa using z)
          omega
        refine ⟨_, rfl, p, rfl, ⟨_, hp⟩, fun D nD => ?_⟩
        refine lc_it (walk_tup (K := K) (a := p) (xs := zs)) (fun i H' => Same H1 H' ∧ H' D = some (.lst (((os.take i).map Option.isSome).map V.bl))) ⟨same_upd nD, upd_same⟩ (fun i H' _ h => seqT h.1 hp) ?_ ?_
        · rintro i x H2 H3 hi ⟨sm, hD⟩ ⟨rfl, ex⟩
          obtain ⟨oo, eo, ho⟩ := hos.get ex
          refine ⟨rfl, _, rfl, x, oo, rfl, part_mono sm ho, _, hD, ?_, HD.same_put sm nD, ?_⟩
          · rw [List.length_map, List.length_map, List.length_take]
            have : sizeLine = 16777216 := by decide
            omega
          · rw [upd_same, List.take_add_one, eo, List.map_append, List.map_append]
            rfl
        · rintro H2 ⟨sm, hD⟩
          rw [List.take_of_length_le (by omega)] at hD
          refine ⟨D, _, rfl, .inl (.inl hD), ?_⟩
          have e : reckB (classesL ts ks.length).length (some os) = (os.map Option.isSome).all id := by
            show (decide (os.length = _) && os.all _) = _
            rw [decide_eq_true eq, List.all_map]
            rfl
          have q := fin _ (s1.trans sm)
          rw [e] at q
          exact q
theorem ok_class_errors {f C : Addr} {fd : FuncData} (F : Fun K "class_errors" "class_errors" s_class_errors f fd) (C_classes_of : Cl P w K mg base 2 "classes_of" (spClasses K C)) (C_sum_of : Cl P w K mg base 2 "sum_of" (spSumL K)) (z_tuple : mg "tuple" = none) :
    FnOk P w K mg base CX0 3 f fd ["table", "errors"] (spClassErrs K C) := by
  refine F.ok sc_class_errors (fun vs H Q E h => ?_) (fun cdv A outer s H vs Q E hr h => ?_)
  · obtain ⟨_, _, _, _, _, _, rfl, _⟩ := h
    rfl
  · obtain ⟨a, e, ys, ks, ts, es, rfl, hTab, lt, lk, hE, hF, le, ok, fin⟩ := h
    refine ⟨_, (pss_one (ps_ret (pe_callTy call_tuple_of (by rfl) z_tuple (by decide +kernel) (pa_cons (pe_lc (own := [("kinds", 2)]) (by rfl) sc_class_errors.nd (pi_tup (pe_cl C_classes_of hr (by decide) rfl (pa_cons (pv 0) pa_nil))) (blkOk_by (own := [("kinds", 2)]) (N := N_class_errors) (sc := defScope s_class_errors) (by decide +kernel)) (fun _ _ _ _ _ => (pg_name (i := 2) sc_class_errors.nd rfl (.inl rfl))) (fun _ _ _ _ _ => pts_nil) (fun _ _ _ _ _ => (pe_cl C_sum_of hr (by decide) rfl (pa_cons (pe_lc (own := [("kind", 3)]) (by rfl) sc_class_errors.nd (show PI _ _ _ (iTup K _) from pi_tup (pv 2)) (blkOk_by (own := [("kind", 3)]) (N := N_class_errors) (sc := { kind := .function, names := [((".0" : String), .local), (("kinds" : String), .local), (("sum_of" : String), .globalImplicit), (("errors" : String), .cell)], isGenerator := false, isCoroutine := false }) (by decide +kernel)) (fun _ _ _ _ _ => (pg_name (i := 3) sc_class_errors.nd rfl (.inl rfl))) (fun _ _ _ _ _ => pts_nil) (fun _ _ _ _ _ => (pe_ix (show IxR _ (rIxT K) from ix_tup) (pv 1) (pv 3) (fun _ _ => rfl)))) pa_nil)))) pa_nil)))), ?_⟩
    refine ⟨_, rfl, a, ks, ts, rfl, hTab, lt, by omega, fun H1 u xs s1 nu hu hx => ?_⟩
    have lx := hx.len
    have hE1 := seqT s1 hE
    have hF1 := hF.mono s1
    have ⟨cl1, cl2⟩ := classes_len ts ks.length
    have cb : ∀ c ∈ classesL ts ks.length, ∀ x ∈ c, ∃ j : Nat, j < ks.length ∧ x = (j : Int) := fun c hc x hx => classes_below hc hx
    generalize classesL ts ks.length = cs at hx lx cl1 cl2 cb fin
    refine ⟨u, rfl, ⟨_, sqt hu⟩, fun D nD => ?_⟩
    refine lc_it (walk_tup (K := K) (a := u) (xs := xs)) (fun i H' => Same H1 H' ∧ ∃ zs, H' D = some (.lst zs) ∧ Frs K H' zs ((errsL cs es).take i) ∧ zs.length = i) ⟨same_upd nD, [], upd_same, trivial, rfl⟩ (fun i H' _ h => seqT h.1 (sqt hu)) ?_ ?_
    · rintro i x H2 H3 hi ⟨sm, zs, hD, hz, lz⟩ ⟨rfl, ex⟩
      obtain ⟨tt, c, rfl, ec, ht⟩ := hx.get ex
      have hcm := List.mem_of_getElem? ec
      have hc2 := cl2 c hcm
      have ht3 := seqT sm ht
      have hE3 := seqT sm hE1
      have hF3 := hF1.mono sm
      refine ⟨rfl, _, rfl, tt, rfl, ⟨_, ht3⟩, fun L nL => ?_⟩
      have sL := same_upd (o := .lst []) nL
      refine lc_it (walk_tup (K := K) (a := tt) (xs := c.map V.int)) (fun j H' => Same H3 H' ∧ ∃ ws, H' L = some (.lst ws) ∧ Frs K H' ws ((c.map fun k => es.getD k.toNat (0, 1)).take j) ∧ ws.length = j) ⟨sL, [], upd_same, trivial, rfl⟩ (fun j H' _ h => seqT h.1 ht3) ?_ ?_
      · rintro j x H4 H5 hj ⟨sm4, ws, hL, hw, lw⟩ ⟨rfl, ex2⟩
        rw [List.getElem?_map] at ex2
        obtain ⟨k, ek, rfl⟩ := Option.map_eq_some_iff.mp ex2
        obtain ⟨m, ml, rfl⟩ := cb c hcm k (List.mem_of_getElem? ek)
        have ly := hF.len
        have ey : ys[m]? = some ys[m] := List.getElem?_eq_getElem (by omega)
        obtain ⟨q, p, e1, e2, hq⟩ := (hF3.mono sm4).get ey
        rw [e1] at ey
        have jl : j < c.length := (List.getElem?_eq_some_iff.mp ek).1
        refine ⟨rfl, _, rfl, _, rfl, e, ys, _, _, rfl, rfl, seqT sm4 hE3, atI_nat ey, ws, hL, ?_, HD.same_put sm4 nL, ws ++ [.ref q], upd_same, ?_, by rw [List.length_append, lw]; rfl⟩
        · have : sizeLine = 16777216 := by decide
          omega
        · have e3 : (c.map fun k => es.getD k.toNat (0, 1))[j]? = some p := by
            rw [List.getElem?_map, ek]
            show some (es.getD ((m : Int)).toNat (0, 1)) = some p
            rw [Int.toNat_natCast, List.getD_eq_getElem?_getD, e2]
            rfl
          rw [List.take_add_one, e3]
          exact Frs.upd hL (Frs.snoc hq hw)
      · rintro H4 ⟨sm4, ws, hL, hw, lw⟩
        rw [List.take_of_length_le (by rw [List.length_map, List.length_map]; exact Nat.le_refl _)] at hw
        have pk := picked_bt ok c
        refine ⟨L, ws, _, _, rfl, .inr (.inl (.inl hL)), hw, pk.1, pk.2, by rw [bits_rep]; omega, fun H6 v s6 hv => ?_⟩
        have s36 := sm4.trans s6
        have hD6 := s36 _ _ hD
        have il : i < xs.length := hi
        refine ⟨zs, hD6, by have : sizeLine = 16777216 := by decide
                            omega, HD.same_put (sm.trans s36) nD, zs ++ [.ref v], upd_same, ?_, by rw [List.length_append, lz]; rfl⟩
        have e4 : (errsL cs es)[i]? = some (sumQ (c.map fun k => es.getD k.toNat (0, 1))) := by
          unfold errsL
          rw [List.getElem?_map, ec]
          rfl
        rw [List.take_add_one, e4]
        exact Frs.upd hD6 (Frs.snoc hv (hz.mono s36))
    · rintro H2 ⟨sm, zs, hD, hz, lz⟩
      rw [List.take_of_length_le (by rw [errs_len]; omega)] at hz
      refine ⟨D, zs, rfl, .inl ⟨.inl (.inl hD), fun r nr => ?_⟩⟩
      have sr := same_upd (o := .tup zs) nr
      exact fin _ r zs (s1.trans (sm.trans sr)) upd_same (hz.mono sr)
theorem ok_reckoned {f C : Addr} {fd : FuncData} (F : Fun K "reckoned" "reckoned" s_reckoned f fd) (C_weighed : Cl P w K mg base 5 "weighed" (spWeighedL K)) (C_class_errors : Cl P w K mg base 3 "class_errors" (spClassErrs K C)) :
    FnOk P w K mg base CX0 6 f fd ["table", "reckoning", "errors"] (spReckoned K C) := by
  refine F.ok sc_reckoned (fun vs H Q E h => ?_) (fun cdv A outer s H vs Q E hr h => ?_)
  · obtain ⟨_, _, _, _, _, _, _, _, rfl, _⟩ := h
    rfl
  · obtain ⟨a, r, e, ys, ks, ts, es, row, rfl, hTab, lt, lk, hR, lr, ro, hE, hF, le, ok, fin⟩ := h
    refine ⟨_, (pss_one (ps_ret (pe_cl C_weighed hr (by decide) rfl (pa_cons (pv 1) (pa_cons (pe_cl C_class_errors hr (by decide) rfl (pa_cons (pv 0) (pa_cons (pv 2) pa_nil))) pa_nil))))), ?_⟩
    refine ⟨_, rfl, _, rfl, _, rfl, a, e, ys, ks, ts, es, rfl, hTab, lt, lk, hE, hF, le, ok, fun H1 u xs s1 hu hx => ?_⟩
    have eb := errs_bt ok (classesL ts ks.length)
    have cf := classes_flat ts ks.length
    have cl := (classes_len ts ks.length).1
    refine ⟨r, u, row, xs, _, _, rfl, seqT s1 hR, sqt hu, hx, eb.1, by rw [errs_len]; exact lr, ro, eb.2, by rw [errs_len]; omega, by rw [errs_bits]; omega, fun H2 v s2 hv => ?_⟩
    have q := (M14.weigh_ls (ws := row) (ps := errsL (classesL ts ks.length) es) (by rw [errs_len]; exact lr) eb.2).1
    refine fin H2 v (s1.trans s2) ?_
    rw [← q]
    exact hv
theorem ok_is_off_by {f : Addr} {fd : FuncData} (F : Fun K "is_off_by" "is_off_by" s_is_off_by f fd) (C_is_small_sum : Cl P w K mg base 1 "is_small_sum" (spSmallSum K)) (z_zip : mg "zip" = none) : FnOk P w K mg base CX0 2 f fd ["reckoning", "of_classes"] (spOffBy K) := by
  refine F.ok sc_is_off_by (fun vs H Q E h => ?_) (fun cdv A outer s H vs Q E hr h => ?_)
  · obtain ⟨_, _, _, _, _, rfl, _⟩ := h
    rfl
  · obtain ⟨r, e, ys, ps, row, rfl, hR, lr, lp, ro, hE, hF, ok, fin⟩ := h
    refine ⟨_, (pss_one (ps_ret (pe_not (pe_cl C_is_small_sum hr (by decide) rfl (pa_cons (pe_lc (own := [("entry", 2), ("top", 3), ("bottom", 4)]) (by rfl) sc_is_off_by.nd (RZ.pi_zipA (by rfl) z_zip (pa_cons (pv 0) (pa_cons (pv 1) pa_nil))) (blkOk_by (own := [("entry", 2), ("top", 3), ("bottom", 4)]) (N := N_is_off_by) (sc := defScope s_is_off_by) (by decide +kernel)) (fun _ _ _ _ _ => (show PG _ _ (gTup K 2 _) from pg_tup rfl (pgs_cons (pg_name (i := 2) sc_is_off_by.nd rfl (.inl rfl)) (pgs_cons (show PG _ _ (gTup K 2 _) from pg_tup rfl (pgs_cons (pg_name (i := 3) sc_is_off_by.nd rfl (.inl rfl)) (pgs_cons (pg_name (i := 4) sc_is_off_by.nd rfl (.inl rfl)) pgs_nil))) pgs_nil)))) (fun _ _ _ _ _ => (pts_one (pt_tru (K := K) rfl (pv 2) (by intro _; rfl)))) (fun _ _ _ _ _ => (pe_tup (pa_cons (pe_op op_mulW (pv 2) (pv 3)) (pa_cons (pv 4) pa_nil))))) pa_nil))))), ?_⟩
    have ly := hF.len
    refine ⟨_, rfl, _, rfl, r, e, _, ys, rfl, .inr ⟨hR, hE, fun D nD => ?_⟩⟩
    refine lc_it (walk_zipT (K := K) (a := r) (b := e) (xs := row.map V.int) (ys := ys) (n := ps.length) (by rw [List.length_map]; omega)) (fun i H' => Same H H' ∧ ∃ zs, H' D = some (.lst zs) ∧ Frs K H' zs (M14.heavy (row.take i) (ps.take i))) ⟨same_upd nD, [], upd_same, trivial⟩ (fun i H' _ h => ⟨seqT h.1 hR, seqT h.1 hE⟩) ?_ ?_
    · rintro i x H1 H2 hi ⟨sm, zs, hD, hz⟩ ⟨T, c, v, rfl, nT, rfl, ec, ev⟩
      have hiw : i < row.length := by omega
      have ec : (row.map V.int)[i]? = some c := ec
      rw [List.getElem?_map, List.getElem?_eq_getElem hiw] at ec
      have ec2 : V.int row[i] = c := Option.some.inj ec
      subst ec2
      obtain ⟨t, p, rfl, ep, ht⟩ := hF.get ev
      have sT := same_upd (o := .tup [V.int row[i], V.ref t]) nT
      have hpm := ok p (List.mem_of_getElem? ep)
      have hwm := ro _ (List.getElem_mem hiw)
      have sm2 := sm.trans sT
      refine ⟨T, _, rfl, .inl (.inl upd_same), rfl, _, _, rfl, _, _, rfl, t, _, rfl, seqT sm2 ht, rfl, _, _, rfl, _, _, rfl, rfl, rfl, rfl, ?_⟩
      refine ⟨_, rfl, _, rfl, ?_⟩
      have ht1 := heavy_take (List.getElem?_eq_getElem hiw) ep
      by_cases h0 : row[i] = 0
      · have e0 : (row[i] != 0) = false := by rw [h0]; rfl
        rw [e0]
        refine iteF ⟨sm2, zs, sT _ _ hD, ?_⟩
        rw [ht1, if_pos h0, List.append_nil]
        exact hz.mono sT
      · have e0 : (row[i] != 0) = true := by rw [bne_iff_ne]; exact h0
        rw [e0]
        refine iteT ⟨_, rfl, _, rfl, _, _, rfl, rfl, mulW (up hwm (by decide)) (up hpm.2.1 (by decide)), _, rfl, by show 2 ≤ sizeLine; decide, fun o no => ?_⟩
        have so := same_upd (o := .tup [V.int (row[i] * p.1), V.int p.2]) no
        have s13 := sT.trans so
        have hD3 := s13 _ _ hD
        refine ⟨zs, hD3, ?_, HD.same_put (sm.trans s13) nD, zs ++ [.ref o], upd_same, ?_⟩
        · have lz := hz.len
          have := heavy_len (row.take i) (ps.take i)
          rw [List.length_take] at this
          have : sizeLine = 16777216 := by decide
          omega
        · rw [ht1, if_neg h0]
          exact Frs.upd hD3 (Frs.snoc (p := (row[i] * p.1, p.2)) (sqt upd_same) (hz.mono s13))
    · rintro H1 ⟨sm, zs, hD, hz⟩
      rw [List.take_of_length_le (by omega), List.take_of_length_le (Nat.le_refl _)] at hz
      refine ⟨D, zs, _, rfl, .inl (.inl hD), hz, fun q hq => ?_, ?_, ?_⟩
      · obtain ⟨w', p', h1, h2, rfl⟩ := heavy_mem hq
        have b1 := ro w' h1
        have b2 := (ok p' h2).2
        exact ⟨Nat.lt_of_lt_of_le (wide_lt b1 b2.1) (Nat.pow_le_pow_right (by decide) (by decide)), Nat.lt_of_lt_of_le b2.2 (Nat.pow_le_pow_right (by decide) (by decide))⟩
      · have := heavy_len row ps
        omega
      · have e1 := M14.small_ls (ws := row) (ps := ps) lr (fun p hp => (ok p hp).1)
        have e2 : decide (M14.absV (M14.ssF (M14.heavy row ps) (0, 1)).1 < (M14.ssF (M14.heavy row ps) (0, 1)).2) = decide (M14.absV (M14.lsum row ps).1 < (M14.lsum row ps).2) := decide_eq_decide.mpr e1
        rw [e2]
        exact ⟨_, rfl, fin H1 sm⟩
theorem ok_is_off {f C : Addr} {fd : FuncData} (F : Fun K "is_off" "is_off" s_is_off f fd) (C_is_off_by : Cl P w K mg base 2 "is_off_by" (spOffBy K)) (C_class_errors : Cl P w K mg base 3 "class_errors" (spClassErrs K C)) :
    FnOk P w K mg base CX0 4 f fd ["table", "reckoning", "errors"] (spOff K C) := by
  refine F.ok sc_is_off (fun vs H Q E h => ?_) (fun cdv A outer s H vs Q E hr h => ?_)
  · obtain ⟨_, _, _, _, _, _, _, _, rfl, _⟩ := h
    rfl
  · obtain ⟨a, r, e, ys, ks, ts, es, row, rfl, hTab, lt, lk, hR, lr, ro, hE, hF, le, ok, fin⟩ := h
    refine ⟨_, (pss_one (ps_ret (pe_cl C_is_off_by hr (by decide) rfl (pa_cons (pv 1) (pa_cons (pe_cl C_class_errors hr (by decide) rfl (pa_cons (pv 0) (pa_cons (pv 2) pa_nil))) pa_nil))))), ?_⟩
    refine ⟨_, rfl, _, rfl, _, rfl, a, e, ys, ks, ts, es, rfl, hTab, lt, lk, hE, hF, le, ok, fun H1 u xs s1 hu hx => ?_⟩
    have es := errs_size (ts := ts) ok lk
    have cl := (classes_len ts ks.length).1
    exact ⟨r, u, xs, _, row, rfl, seqT s1 hR, by rw [errs_len]; exact lr, by rw [errs_len]; omega, ro, sqt hu, hx, fun p hp => ⟨(es p hp).1, (es p hp).2.mono (by decide)⟩, fun H2 s2 => fin H2 (s1.trans s2)⟩
end
end K14
namespace CK
open PySem PySem.Spec PyProof.Rows L2 VG FR HD
def On (p q : Addr) (G H : Hp) : Prop := Hd p q H ∧ Same G H ∧ G p = none ∧ G q = none
theorem frz_p (p q : Addr) (H : Hp) : frz p q H p = none ∧ frz p q H q = none := by
  unfold frz
  exact ⟨if_pos (.inl rfl), if_pos (.inr rfl)⟩
theorem frz_le {p q : Addr} {H : Hp} : Same (frz p q H) H := frz_keep (Keep.refl p q H)
theorem frz_cases {p q b : Addr} {o : HO} {H : Hp} (h : frz p q H b = some o) : b ≠ p ∧ b ≠ q ∧ H b = some o := by
  unfold frz at h
  by_cases z : b = p ∨ b = q
  · rw [if_pos z] at h
    cases h
  · rw [if_neg z] at h
    exact ⟨fun y => z (.inl y), fun y => z (.inr y), h⟩
section
variable {p q : Addr} {G H H' : Hp}
theorem On.start (h : Hd p q H) : On p q (frz p q H) H := ⟨h, frz_le, (frz_p p q H).1, (frz_p p q H).2⟩
theorem On.hd (h : On p q G H) : Hd p q H := h.1
theorem On.le (h : On p q G H) : Same G H := h.2.1
theorem On.neP (h : On p q G H) {b : Addr} {o : HO} (e : G b = some o) : b ≠ p ∧ b ≠ q := ⟨fun z => (by rw [z, h.2.2.1] at e; cases e), fun z => (by rw [z, h.2.2.2] at e; cases e)⟩
theorem On.draw (h : On p q G H) (hd : Hd p q H') (k : Keep p q H H') : On p q G H' :=
  ⟨hd, fun b o e => k b o (h.neP e).1 (h.neP e).2 (h.le b o e), h.2.2⟩
theorem On.same (h : On p q G H) (s : Same H H') : On p q G H' := ⟨h.1.same s, h.le.trans s, h.2.2⟩
theorem On.new (h : On p q G H) {n : Addr} {o : HO} (hn : H n = none) : On p q G (L2.upd H n o) := h.same (same_upd hn)
theorem On.free (h : On p q G H) {n : Addr} (hn : H n = none) : n ≠ p ∧ n ≠ q ∧ G n = none := ⟨(h.1.free hn).1, (h.1.free hn).2, h.le.free hn⟩
theorem On.put (h : On p q G H) {D : Addr} {o : HO} (f : D ≠ p ∧ D ≠ q ∧ G D = none) : On p q G (L2.upd H D o) :=
  ⟨hd_put h.1 f.1 f.2.1, fun b x e => by rw [upd_ne (ne_of_none e f.2.2)]; exact h.le b x e, h.2.2⟩
theorem On.base (h : On p q G H) : On p q (frz p q H) H ∧ Same G (frz p q H) := ⟨.start h.1, fun b o e => frz_at (h.le b o e) (h.neP e)⟩
theorem On.keep (h : On p q (frz p q H) H') : Keep p q H H' := fun b o n1 n2 e => h.le b o (frz_at e ⟨n1, n2⟩)
theorem On.drop {G0 : Hp} (h : On p q G H) (s : Same G0 G) : On p q G0 H := ⟨h.1, s.trans h.le, s.free h.2.2.1, s.free h.2.2.2⟩
end
def spPickS : Sp := fun vs H Q _ => ∃ (p q : Addr) (z : Str), vs = [.ref p, .str z] ∧ Hd p q H ∧ 0 < z.length ∧ z.length < 1000 ∧ ∀ (H' : Hp) (c : Nat), Hd p q H' → Keep p q H H' → c ∈ z.cps.toList → Q (.str ⟨#[c]⟩) H'
def spShuffled (K : PySem.W.Frag) : Sp := fun vs H Q _ => ∃ (p q l : Addr) (xs : List V), vs = [.ref p, .ref l] ∧ Hd p q H ∧ H l = some (.lst xs) ∧ l ≠ p ∧ l ≠ q ∧ xs.length < 1000 ∧
  ∀ (H' : Hp) (u : Addr) (ys : List V), On p q (frz p q H) H' → H u = none → u ≠ p ∧ u ≠ q → H' u = some (.lst ys) → ys.Perm xs → Q (.ref u) H'
theorem atN {α : Type} {xs : List α} {k : Nat} (h : k < xs.length) : seqIndex? (k : Int) xs.length = some k := by
  unfold seqIndex?
  have : ¬ (k : Int) < 0 := by omega
  rw [if_neg this]
  have : (0 : Int) ≤ (k : Int) ∧ (k : Int) < (xs.length : Int) := by omega
  first
    | rw [if_pos this, Int.toNat_natCast]
    | simp [h]
theorem perm_move {xs ls fs : List V} {k : Nat} {y : V} (h : (ls ++ fs).Perm xs) (hy : ls[k]? = some y) : (ls.eraseIdx k ++ (fs ++ [y])).Perm xs := by
  refine List.Perm.trans ?_ h
  have hk := (List.getElem?_eq_some_iff.mp hy)
  obtain ⟨hk, ey⟩ := hk
  have e1 : ls.Perm (y :: ls.eraseIdx k) := by
    have e := List.eraseIdx_eq_take_drop_succ ls k
    have e2 : ls = ls.take k ++ (y :: ls.drop (k + 1)) := by
      rw [← ey, List.getElem_cons_drop, List.take_append_drop]
    rw [e]
    conv => lhs; rw [e2]
    exact List.perm_middle
  have e3 : (ls.eraseIdx k ++ (fs ++ [y])).Perm (y :: (ls.eraseIdx k ++ fs)) := by
    rw [← List.append_assoc]
    exact (List.perm_append_comm (l₁ := ls.eraseIdx k ++ fs) (l₂ := [y]))
  exact e3.trans (List.Perm.append_right fs e1).symm
abbrev cALPH : Str := "acdefghijklnop"
def lastC (t : Nat) : Nat := cALPH.cps.toList.getD (t % 14) 0
theorem last_inj : ∀ i j : Nat, i < 14 → j < 14 → lastC i = lastC j → i = j := by
  have h : ∀ i : Fin 14, ∀ j : Fin 14, lastC i.1 = lastC j.1 → i = j := by decide +kernel
  intro i j hi hj e
  have := h ⟨i, hi⟩ ⟨j, hj⟩ e
  exact congrArg Fin.val this
theorem last_ok (t : Nat) : cALPH.cps.toList[t % 14]? = some (lastC t) ∧ 97 ≤ lastC t ∧ lastC t ≤ 122 := by
  have h : ∀ i : Fin 14, cALPH.cps.toList[i.1]? = some (cALPH.cps.toList.getD i.1 0) ∧ 97 ≤ cALPH.cps.toList.getD i.1 0 ∧ cALPH.cps.toList.getD i.1 0 ≤ 122 := by decide +kernel
  exact h ⟨t % 14, Nat.mod_lt _ (by decide)⟩
/-- a word of a turn -/
def Wd (t : Nat) (z : Str) : Prop := ∃ pre : List Nat, z.cps.toList = pre ++ [lastC t] ∧ pre.length ≤ 2 ∧ ∀ c ∈ pre, 97 ≤ c ∧ c ≤ 122
theorem Wd.name {t : Nat} {z : Str} (h : Wd t z) : NameOk z := by
  obtain ⟨pre, e, l, a⟩ := h
  have sz : z.cps.size = pre.length + 1 := by rw [← Array.length_toList, e, List.length_append]; rfl
  refine ⟨by omega, by omega, fun c hc => ?_⟩
  rw [e] at hc
  rcases List.mem_append.mp hc with q | q
  · exact a c q
  · have := List.mem_singleton.mp q
    subst this
    exact (last_ok t).2
theorem Wd.ne {i j : Nat} {z : Str} (h1 : Wd i z) (h2 : Wd j z) : lastC i = lastC j := by
  obtain ⟨a, e1, _⟩ := h1
  obtain ⟨b, e2, _⟩ := h2
  rw [e1] at e2
  have := (List.append_inj' e2 rfl).2
  exact (List.cons.inj this).1
theorem rising_step : ∀ (p : Str) (l : List Str) (i : Nat) (a b : Str), risingS p l = true → (p :: l)[i]? = some a → (p :: l)[i + 1]? = some b → ltCps b.cps.toList a.cps.toList = false
  | p, [], i, a, b, _, _, h => by simp at h
  | p, x :: r, 0, a, b, h, ha, hb => by
    have e1 : p = a := Option.some.inj ha
    have e2 : x = b := Option.some.inj hb
    subst e1 e2
    have h : (!ltCps x.cps.toList p.cps.toList && risingS x r) = true := h
    rw [Bool.and_eq_true] at h
    simpa using h.1
  | p, x :: r, i + 1, a, b, h, ha, hb => by
    have h : (!ltCps x.cps.toList p.cps.toList && risingS x r) = true := h
    rw [Bool.and_eq_true] at h
    exact rising_step x r i a b h.2 ha hb
theorem ascS_of {ks : List Str} (h : sortedS ks = true) (n : ks.Nodup) : AscS ks := by
  intro i a b ha hb
  have ne : a ≠ b := fun z => by
    subst z
    have := nodup_at n ha hb
    omega
  have le : ltCps b.cps.toList a.cps.toList = false := by
    cases ks with
    | nil => simp at ha
    | cons p l => exact rising_step p l i a b h ha hb
  rw [ltCps_eq] at le
  have le := of_decide_eq_false le
  have ne2 : a.cps.toList ≠ b.cps.toList := fun z => ne (by
    obtain ⟨x⟩ := a
    obtain ⟨y⟩ := b
    have e : x = y := Array.toList_inj.mp z
    rw [e])
  rcases Std.lt_trichotomy a.cps.toList b.cps.toList with z | z | z
  · exact z
  · exact absurd z ne2
  · exact absurd z le
theorem inV_strs (z : Str) : ∀ zs : List Str, z ∉ zs → inV (.str z) (zs.map V.str) = false
  | [], _ => rfl
  | y :: zs, h => by
    have ih := inV_strs z zs (fun q => h (List.mem_cons_of_mem _ q))
    unfold inV at ih ⊢
    rw [List.map_cons, List.any_cons, ih, Bool.or_false]
    have : y ≠ z := fun q => h (q ▸ List.mem_cons_self)
    simp [eqV, this]
theorem flat_strs : ∀ cs : List Str, (cs.map V.str).all flatV = true
  | [] => rfl
  | c :: cs => by
    rw [List.map_cons, List.all_cons, flat_strs cs]
    rfl
theorem join_ones : ∀ cs : List Nat, cs.length ≤ 2 → (Txt.join ("" : String) (cs.map fun c => (⟨#[c]⟩ : Str))).cps.toList = cs
  | [], _ => rfl
  | [a], _ => rfl
  | [a, b], _ => rfl
  | _ :: _ :: _ :: _, h => by simp at h
def spLawNames (K : PySem.W.Frag) : Sp := fun vs H Q _ => ∃ (p q : Addr) (m : Nat), vs = [.ref p, .int m] ∧ Hd p q H ∧ 1 ≤ m ∧ m ≤ 12 ∧ ∀ (H' : Hp) (u : Addr) (ks : List Str), On p q (frz p q H) H' → H' u = some (.tup (ks.map V.str)) → KindsOk ks → ks.length = m → Q (.ref u) H'
end CK
namespace K14
open PySem PySem.Spec PyProof.Rows L2 VG FR CK HD
abbrev s__law_shuffled : Stmt := topS 51
abbrev N__law_shuffled : List Str := ["heap", "some", "left", "found", "turn"]
theorem sc__law_shuffled : FnScope N__law_shuffled ["heap", "some"] (defScope s__law_shuffled) := ⟨rfl, rfl, rfl, by decide +kernel, rfl, by decide +kernel, by decide +kernel⟩
abbrev s__law_names : Stmt := topS 52
abbrev N__law_names : List Str := ["heap", "many", "found", "turn", "word", "at"]
theorem sc__law_names : FnScope N__law_names ["heap", "many"] (defScope s__law_names) := ⟨rfl, rfl, rfl, by decide +kernel, rfl, by decide +kernel, by decide +kernel⟩
section
variable {P : Program} {w : World} {K : PySem.W.Frag} {mg : Str → Option Value} {base : Heap}
theorem ok__law_pickS {f : Addr} {fd : FuncData} (F : Fun K "_law_pick" "_law_pick" s__law_pick f fd) (C__law_draw : Cl P w K mg base 1 "_law_draw" spDraw) (z_len : mg "len" = none) :
    FnOk P w K mg base CX0 2 f fd ["heap", "some"] spPickS := by
  refine F.ok sc__law_pick (fun vs H Q E h => ?_) (fun cdv A outer s H vs Q E hr h => ?_)
  · obtain ⟨p, q, z, rfl, _⟩ := h
    rfl
  · obtain ⟨p, q, z, rfl, hd, z0, z1, fin⟩ := h
    refine ⟨_, (pss_one (ps_ret (pe_item_str (pv 1) (pe_cl C__law_draw hr (by decide) rfl (pa_cons (pv 0) (pa_cons (pe_callB call_len_str (by rfl) z_len (by decide +kernel) (pa_cons (pv 1) pa_nil)) pa_nil))) (fun _ _ => rfl)))), ?_⟩
    refine ⟨_, rfl, _, rfl, _, rfl, z, rfl, ?_, p, q, _, rfl, hd, by omega, by omega, fun H' r hd' kp r0 r1 => ?_⟩
    · have : sizeLine = 16777216 := by decide
      omega
    obtain ⟨j, rfl⟩ := Int.eq_ofNat_of_zero_le r0
    have hj : j < z.length := by omega
    have hj2 : j < z.cps.toList.length := by rw [Array.length_toList]; exact hj
    refine ⟨z, _, z.cps.toList[j], rfl, rfl, by omega, by omega, by omega, ?_, ?_⟩
    · rw [Int.toNat_natCast, ← Array.getElem?_toList]
      exact List.getElem?_eq_getElem hj2
    · exact fin _ _ hd' kp (List.getElem_mem hj2)
theorem ok__law_shuffled {f : Addr} {fd : FuncData} (F : Fun K "_law_shuffled" "_law_shuffled" s__law_shuffled f fd) (C__law_draw : Cl P w K mg base 1 "_law_draw" spDraw) (z_len : mg "len" = none) (z_list : mg "list" = none) (z_range : mg "range" = none) :
    FnOk P w K mg base CX0 2 f fd ["heap", "some"] (spShuffled K) := by
  refine F.ok sc__law_shuffled (fun vs H Q E h => ?_) (fun cdv A outer s H vs Q E hr h => ?_)
  · obtain ⟨p, q, l, xs, rfl, _⟩ := h
    rfl
  · obtain ⟨p, q, l, xs, rfl, hd, hl, n1, n2, hx, fin⟩ := h
    refine ⟨_, (pss_cons (ps_par (i := 2) (j := 3) (by rfl) sc__law_shuffled.nd rfl rfl (by decide) rfl rfl (pa_cons (pe_callTy call_list_of (by rfl) z_list (by decide +kernel) (pa_cons (pv 1) pa_nil)) (pa_cons (pe_lst pa_nil) pa_nil)) (by rfl))
    (pss_cut (ps_for PassesOwn.never rfl (pi_range1 (by rfl) z_range (pa_cons (pe_callB call_len_seq (by rfl) z_len (by decide +kernel) (pa_cons (pv 1) pa_nil)) pa_nil)) (pg_name (i := 4) sc__law_shuffled.nd rfl (.inl rfl))
      (pss_one (ps_expr (pe_bm PySem.F.plainAttrs_list PySem.F.slot_list_append PySem.F.type_list_append mt_append (pv 3) (pa_cons (pe_bm PySem.F.plainAttrs_list PySem.F.slot_list_pop PySem.F.type_list_pop mt_popAt (pv 2) (pa_cons (pe_cl C__law_draw hr (by decide) rfl (pa_cons (pv 0) (pa_cons (pe_callB call_len_seq (by rfl) z_len (by decide +kernel) (pa_cons (pv 2) pa_nil)) pa_nil))) pa_nil)) pa_nil)))))
    (pss_one (ps_ret (pv 3))))), ?_⟩
    have on0 := On.start hd
    refine ⟨_, rfl, l, xs, rfl, .inl (.inl (.inl hl)), fun L nL => ?_⟩
    have fL := on0.free nL
    have on1 := on0.new (o := .lst xs) nL
    have sL := same_upd (o := .lst xs) nL
    have hL := upd_same (H := H) (a := L) (o := .lst xs)
    generalize L2.upd H L (.lst xs) = H1 at on1 sL hL ⊢
    refine ⟨by show 0 ≤ sizeLine; exact Nat.zero_le _, fun D nD => ?_⟩
    have fD := on1.free nD
    have on2 := on1.new (o := .lst []) nD
    have sD := same_upd (o := .lst []) nD
    have hD := upd_same (H := H1) (a := D) (o := .lst [])
    have nLD : L ≠ D := ne_of_none hL nD
    have hDn : H D = none := sL.free nD
    have hL2 := sD _ _ hL
    have hl2 := sD _ _ (sL _ _ hl)
    generalize L2.upd H1 D (.lst []) = H2 at on2 hD hL2 hl2 ⊢
    refine ⟨_, _, rfl, ?_⟩
    refine ⟨fun σ H' => (∃ y : Option V, σ = [some (.ref p), some (.ref l), some (.ref L), some (.ref D), y]) ∧ On p q (frz p q H) H' ∧ ∃ ys : List V, H' D = some (.lst ys) ∧ ys.Perm xs, ?_, ?_⟩
    · refine ⟨_, rfl, l, xs, rfl, .inl (.inl (.inl hl2)), _, rfl, by omega, by omega, ?_⟩
      refine for_it (walk_range (lo := 0) (n := ((xs.length : Nat) : Int).toNat)) (fun i σ H' => (∃ y : Option V, σ = [some (.ref p), some (.ref l), some (.ref L), some (.ref D), y]) ∧ On p q (frz p q H) H' ∧ ∃ ls fs : List V, H' L = some (.lst ls) ∧ H' D = some (.lst fs) ∧ (ls ++ fs).Perm xs ∧ fs.length = i) ⟨⟨_, rfl⟩, on2, xs, [], hL2, hD, by rw [List.append_nil], rfl⟩ (fun _ _ _ _ _ => trivial) ?_ ?_
      · rintro i x σ H3 H4 hi ⟨⟨y, rfl⟩, on3, ls, fs, kL, kD, pm, lf⟩ ⟨rfl, rfl⟩
        have pl := pm.length_eq
        rw [List.length_append] at pl
        have hi2 : i < xs.length := by
          have : i < ((xs.length : Nat) : Int).toNat := hi
          omega
        refine ⟨_, rfl, .inl ⟨rfl, _, .inl (.inl kD)⟩, ?_⟩
        refine ⟨_, rfl, .inl ⟨rfl, _, .inl (.inl kL)⟩, _, rfl, _, rfl, L, ls, rfl, .inl (.inl (.inl kL)), p, q, _, rfl, on3.hd, by omega, by omega, fun H5 r hd5 kp5 r0 r1 => ?_⟩
        have on5 := on3.draw hd5 kp5
        obtain ⟨k, rfl⟩ := Int.eq_ofNat_of_zero_le r0
        have hk : k < ls.length := by omega
        have kL5 := kp5 L _ fL.1 fL.2.1 kL
        have kD5 := kp5 D _ fD.1 fD.2.1 kD
        have ey : ls[k]? = some ls[k] := List.getElem?_eq_getElem hk
        refine ⟨L, ls, _, k, ls[k], rfl, rfl, kL5, by omega, by omega, atN hk, ey, ?_⟩
        have on6 := on5.put (o := .lst (ls.eraseIdx k)) (D := L) ⟨fL.1, fL.2.1, fL.2.2⟩
        have kL6 := upd_same (H := H5) (a := L) (o := .lst (ls.eraseIdx k))
        have kD6 : L2.upd H5 L (.lst (ls.eraseIdx k)) D = some (.lst fs) := by
          rw [upd_ne nLD.symm]
          exact kD5
        refine ⟨D, fs, _, rfl, rfl, kD6, ?_, ?_⟩
        · have : sizeLine = 16777216 := by decide
          omega
        · refine ⟨⟨_, rfl⟩, on6.put ⟨fD.1, fD.2.1, by cases e : frz p q H D with
            | none => rfl
            | some o => have := (frz_cases e).2.2; rw [hDn] at this; cases this⟩, ls.eraseIdx k, fs ++ [ls[k]], ?_, upd_same, perm_move pm ey, by rw [List.length_append, lf]; rfl⟩
          rw [upd_ne nLD]
          exact kL6
      · rintro σ H3 ⟨⟨y, rfl⟩, on3, ls, fs, kL, kD, pm, lf⟩
        have pl := pm.length_eq
        rw [List.length_append] at pl
        have l0 : ls = [] := List.eq_nil_of_length_eq_zero (by omega)
        subst l0
        exact ⟨⟨_, rfl⟩, on3, fs, kD, pm⟩
    · rintro σ H3 ⟨⟨y, rfl⟩, on3, ys, kD, pm⟩
      exact ⟨_, rfl, fin H3 D ys on3 hDn ⟨fD.1, fD.2.1⟩ kD pm⟩
end
end K14
namespace CK
open PySem PySem.Spec PyProof.Rows L2 VG FR HD
def onesS (cs : List Nat) : List Str := cs.map fun c => (⟨#[c]⟩ : Str)
theorem fmod_nat (i : Nat) {m : Nat} (h : 0 < m) : ((i : Int)).fmod (m : Int) = ((i % m : Nat) : Int) := by
  rw [Int.fmod_eq_emod_of_nonneg _ (by omega)]
  rfl
theorem ones_sum (cs : List Nat) : ((onesS cs).map (·.length)).sum = cs.length := by
  induction cs with
  | nil => rfl
  | cons c cs ih =>
    show 1 + ((onesS cs).map (·.length)).sum = cs.length + 1
    omega
theorem wd_of {t : Nat} {cs : List Nat} (h1 : cs.length ≤ 2) (h2 : ∀ c ∈ cs, 97 ≤ c ∧ c ≤ 122) : Wd t (Txt.join ("" : String) (onesS cs) ++ (⟨#[lastC t]⟩ : Str)) := by
  refine ⟨cs, ?_, h1, h2⟩
  have e := join_ones cs h1
  show ((Txt.join ("" : String) (onesS cs)).cps ++ #[lastC t]).toList = cs ++ [lastC t]
  rw [Array.toList_append]
  have e2 : (Txt.join ("" : String) (onesS cs)).cps.toList = cs := e
  rw [e2]
theorem abmz : ∀ c ∈ (("abmz" : String) : Str).cps.toList, 97 ≤ c ∧ c ≤ 122 := by decide +kernel
end CK
namespace K14
open PySem PySem.Spec PyProof.Rows L2 VG FR CK HD
section
variable {P : Program} {w : World} {K : PySem.W.Frag} {mg : Str → Option Value} {base : Heap}
theorem ok__law_names {f : Addr} {fd : FuncData} (F : Fun K "_law_names" "_law_names" s__law_names f fd) (C__law_draw : Cl P w K mg base 1 "_law_draw" spDraw) (CS__law_pick : Cl P w K mg base 2 "_law_pick" spPickS)
    (z_len : mg "len" = none) (z_int : mg "int" = none) (z_range : mg "range" = none) (z_tuple : mg "tuple" = none) (z_sorted : mg "sorted" = none) :
    FnOk P w K mg base CX0 3 f fd ["heap", "many"] (spLawNames K) := by
  refine F.ok sc__law_names (fun vs H Q E h => ?_) (fun cdv A outer s H vs Q E hr h => ?_)
  · obtain ⟨p, q, m, rfl, _⟩ := h
    rfl
  · obtain ⟨p, q, m, rfl, hd, m0, m1, fin⟩ := h
    refine ⟨_, (pss_cons (ps_set (i := 2) sc__law_names.nd rfl (.inl rfl) (pe_lst pa_nil))
    (pss_cut (ps_for PassesOwn.never rfl (pi_range1 (by rfl) z_range (pa_cons (pe_op op_add (pe_op op_mulW pe_int (pv 1)) pe_int) pa_nil)) (pg_name (i := 3) sc__law_names.nd rfl (.inl rfl))
      (pss_cons (ps_set (i := 4) sc__law_names.nd rfl (.inl rfl) (pe_op op_add_str (pe_join pe_str (pe_lc (own := [("at", 5)]) (by rfl) sc__law_names.nd (pi_range1 (by rfl) z_range (pa_cons (pe_cl C__law_draw hr (by decide) rfl (pa_cons (pv 0) (pa_cons pe_int pa_nil))) pa_nil)) (blkOk_by (own := [("at", 5)]) (N := N__law_names) (sc := defScope s__law_names) (by decide +kernel)) (fun _ _ _ _ _ => (pg_name (i := 5) sc__law_names.nd rfl (.inl rfl))) (fun _ _ _ _ _ => pts_nil) (fun _ _ _ _ _ => (pe_cl CS__law_pick hr (by decide) rfl (pa_cons (pv 0) (pa_cons pe_str pa_nil)))))) (pe_item_str pe_str (pe_op op_modN (pe_callTy call_int1 (by rfl) z_int (by decide +kernel) (pa_cons (pv 3) pa_nil)) pe_int) (fun _ _ => rfl))))
      (pss_one (ps_if (PW.pt (pw_and (pt_cmpR op_notIn_seq (pv 4) (pv 2) rfl) (pw_and1 (pt_cmpR op_lt (pe_callB call_len_seq (by rfl) z_len (by decide +kernel) (pa_cons (pv 2) pa_nil)) (pv 1) (nomark _)))))
        (pss_one (ps_expr (pe_bm PySem.F.plainAttrs_list PySem.F.slot_list_append PySem.F.type_list_append mt_append (pv 2) (pa_cons (pv 4) pa_nil))))
        pss_nil))))
    (pss_one (ps_ret (pe_callTy call_tuple_of (by rfl) z_tuple (by decide +kernel) (pa_cons (pe_callB cr_sortedS (by rfl) z_sorted (by decide +kernel) (pa_cons (pv 2) pa_nil)) pa_nil)))))), ?_⟩
    have on0 := On.start hd
    refine ⟨by show 0 ≤ sizeLine; exact Nat.zero_le _, fun D nD => ?_⟩
    have fD := on0.free nD
    have on1 := on0.new (o := .lst []) nD
    have hD := upd_same (H := H) (a := D) (o := .lst [])
    generalize L2.upd H D (.lst []) = H1 at on1 hD ⊢
    have GDn : frz p q H D = none := fD.2.2
    generalize frz p q H = G at *
    refine ⟨fun σ H' => (∃ y3 y4 : Option V, σ = [some (.ref p), some (.int m), some (.ref D), y3, y4, none]) ∧ On p q G H' ∧ ∃ fs : List Str, H' D = some (.lst (fs.map V.str)) ∧ fs.Nodup ∧ fs.length = m ∧ ∀ z ∈ fs, NameOk z, ?_, ?_⟩
    · refine ⟨_, rfl, _, _, rfl, rfl, mulW (up (n := 40) (by decide) (by decide)) (up (n := 40) (by omega) (by decide)), _, _, rfl, rfl, _, rfl, by omega, by omega, ?_⟩
      refine for_it (walk_range (lo := 0) (n := ((4 : Int) * (m : Int) + 4).toNat)) (fun i σ H' => (∃ y3 y4 : Option V, σ = [some (.ref p), some (.int m), some (.ref D), y3, y4, none]) ∧ On p q G H' ∧ ∃ fs : List Str, H' D = some (.lst (fs.map V.str)) ∧ fs.Nodup ∧ fs.length = min i m ∧ ∀ z ∈ fs, ∃ j, j < min i m ∧ Wd j z) ⟨⟨_, _, rfl⟩, on1, [], hD, List.nodup_nil, by rw [Nat.zero_min]; rfl, fun z h => by cases h⟩ (fun _ _ _ _ _ => trivial) ?_ ?_
      · rintro i x σ H3 H4 hi ⟨⟨y3, y4, rfl⟩, on3, fs, kD, nd, lf, wf⟩ ⟨rfl, rfl⟩
        refine ⟨⟨_, rfl⟩, ?_⟩
        refine ⟨_, rfl, p, q, _, rfl, on3.hd, by decide, by decide, fun H5 r hd5 kp5 r0 r1 => ?_⟩
        have on5 := on3.draw hd5 kp5
        have kD5 := kp5 D _ fD.1 fD.2.1 kD
        refine ⟨_, rfl, by omega, by omega, fun L nL => ?_⟩
        have fL := on5.free nL
        have nDL : D ≠ L := ne_of_none kD5 nL
        refine lc_it (walk_range (lo := 0) (n := r.toNat)) (fun j H' => On p q G H' ∧ H' D = some (.lst (fs.map V.str)) ∧ ∃ cs : List Nat, H' L = some (.lst ((onesS cs).map V.str)) ∧ cs.length = j ∧ ∀ c ∈ cs, 97 ≤ c ∧ c ≤ 122) ⟨on5.new nL, by rw [upd_ne nDL]; exact kD5, [], upd_same, rfl, fun c h => by cases h⟩ (fun _ _ _ _ => trivial) ?_ ?_
        · rintro j x H6 H7 hj ⟨on6, kD6, cs, kL6, lc, ok⟩ ⟨rfl, rfl⟩
          refine ⟨rfl, _, rfl, p, q, _, rfl, on6.hd, by decide, by decide, fun H8 c hd8 kp8 hc => ?_⟩
          have on8 := on6.draw hd8 kp8
          have kD8 := kp8 D _ fD.1 fD.2.1 kD6
          have kL8 := kp8 L _ fL.1 fL.2.1 kL6
          have hj2 : j < r.toNat := hj
          refine ⟨_, kL8, ?_, on8.put fL, by rw [upd_ne nDL]; exact kD8, cs ++ [c], ?_, by rw [List.length_append, lc]; rfl, ?_⟩
          · rw [List.length_map]
            have : (onesS cs).length = cs.length := List.length_map ..
            have : sizeLine = 16777216 := by decide
            omega
          · rw [upd_same]
            unfold onesS
            rw [List.map_append, List.map_append]
            rfl
          · intro c' hc'
            rcases List.mem_append.mp hc' with z | z
            · exact ok c' z
            · have := List.mem_singleton.mp z
              subst this
              exact abmz c' hc
        · rintro H6 ⟨on6, kD6, cs, kL6, lc, ok⟩
          have l2 : cs.length ≤ 2 := by omega
          have wd : Wd i (Txt.join ("" : String) (onesS cs) ++ (⟨#[lastC i]⟩ : Str)) := wd_of l2 ok
          have jl : (Txt.join ("" : String) (onesS cs)).length = cs.length := by
            show (Txt.join ("" : String) (onesS cs)).cps.size = _
            rw [← Array.length_toList]
            exact congrArg List.length (join_ones cs l2)
          refine ⟨_, L, onesS cs, rfl, rfl, .inl (.inl (.inl kL6)), ?_, ?_⟩
          · rw [ones_sum]
            show cs.length + (onesS cs).length * 0 ≤ _
            omega
          have hm := fmod_nat i (m := 14) (by decide)
          have hm2 : i % 14 < 14 := Nat.mod_lt _ (by decide)
          have e0 : (0 : Int) + (i : Nat) = (i : Nat) := Int.zero_add _
          refine ⟨_, rfl, .inl ⟨_, rfl, _, _, rfl, rfl, by show (14 : Int) ≠ 0; decide, cALPH, _, lastC i, rfl, rfl, ?_, ?_, ?_, ?_, ?_⟩⟩
          · rw [e0]
            show (0 : Int) ≤ ((i : Int)).fmod ((14 : Nat) : Int)
            rw [hm]
            omega
          · rw [e0]
            show ((i : Int)).fmod ((14 : Nat) : Int) < _
            rw [hm]
            omega
          · rw [e0]
            show ((i : Int)).fmod ((14 : Nat) : Int) < ((14 : Nat) : Int)
            rw [hm]
            omega
          · rw [e0]
            show cALPH.cps[(((i : Int)).fmod ((14 : Nat) : Int)).toNat]? = _
            rw [hm, Int.toNat_natCast, ← Array.getElem?_toList]
            exact (last_ok i).1
          refine ⟨_, _, rfl, rfl, ?_, ?_⟩
          · show _ + 1 ≤ sizeLine
            have : sizeLine = 16777216 := by decide
            omega
          generalize Txt.join ("" : String) (onesS cs) ++ (⟨#[lastC i]⟩ : Str) = z at wd
          refine ⟨_, rfl, _, rfl, D, fs.map V.str, rfl, .inl (.inl (.inl kD6)), rfl, CK.flat_strs fs, _, rfl, ?_⟩
          rcases Nat.lt_or_ge i m with him | him
          · have mi : min i m = i := by omega
            rw [mi] at lf wf
            have new : z ∉ fs := fun hz => by
              obtain ⟨j, hj, wj⟩ := wf z hz
              have := last_inj i j (by omega) (by omega) (wd.ne wj)
              omega
            rw [inV_strs z fs new]
            refine iteT ⟨_, rfl, D, _, rfl, .inl (.inl (.inl kD6)), _, rfl, _, _, rfl, rfl, _, rfl, ite_eq true (decide_eq_true ?_) (iteT ?_)⟩
            · rw [List.length_map]
              omega
            refine ⟨_, rfl, .inl ⟨rfl, _, .inl (.inl kD6)⟩, _, rfl, D, _, _, rfl, rfl, kD6, ?_, ?_⟩
            · rw [List.length_map]
              have : sizeLine = 16777216 := by decide
              omega
            · refine ⟨⟨_, _, rfl⟩, on6.put fD, fs ++ [z], ?_, ?_, ?_, ?_⟩
              · rw [upd_same, List.map_append]
                rfl
              · refine List.nodup_append.mpr ⟨nd, by simp, fun a ha b hb e => ?_⟩
                have := List.mem_singleton.mp hb
                subst this
                exact new (e ▸ ha)
              · rw [List.length_append, lf]
                show i + 1 = min (i + 1) m
                omega
              · intro y hy
                have : min (i + 1) m = i + 1 := by omega
                rw [this]
                rcases List.mem_append.mp hy with q | q
                · obtain ⟨j, hj, wj⟩ := wf y q
                  exact ⟨j, by omega, wj⟩
                · have := List.mem_singleton.mp q
                  subst this
                  exact ⟨i, by omega, wd⟩
          · have mi : min i m = m := by omega
            have mi2 : min (i + 1) m = m := by omega
            rw [mi] at lf wf
            refine ite2 (fun _ => ?_) (fun _ => ?_)
            · refine ⟨_, rfl, D, _, rfl, .inl (.inl (.inl kD6)), _, rfl, _, _, rfl, rfl, _, rfl, ite_eq false (decide_eq_false ?_) (iteF ?_)⟩
              · rw [List.length_map]
                omega
              · rw [mi2]
                exact ⟨⟨_, _, rfl⟩, on6, fs, kD6, nd, lf, wf⟩
            · rw [mi2]
              exact ⟨⟨_, _, rfl⟩, on6, fs, kD6, nd, lf, wf⟩
      · rintro σ H3 ⟨⟨y3, y4, rfl⟩, on3, fs, kD, nd, lf, wf⟩
        have e : min ((4 : Int) * (m : Int) + 4).toNat m = m := by omega
        rw [e] at lf wf
        exact ⟨⟨_, _, rfl⟩, on3, fs, kD, nd, lf, fun z hz => by
          obtain ⟨j, _, wj⟩ := wf z hz
          exact wj.name⟩
    · rintro σ H3 ⟨⟨y3, y4, rfl⟩, on3, fs, kD, nd, lf, ok⟩
      refine ⟨_, rfl, D, fs, rfl, .inl (.inl kD), by omega, fun ys S pm so nS => ?_⟩
      have on4 := on3.new (o := .lst (ys.map V.str)) nS
      refine ⟨S, _, rfl, .inl ⟨.inl (.inl upd_same), fun u nu => ?_⟩⟩
      have on5 := on4.new (o := .tup (ys.map V.str)) nu
      have lp := pm.length_eq
      exact fin _ u ys on5 upd_same ⟨by omega, by omega, fun z hz => ok z (pm.mem_iff.mp hz), ascS_of so (pm.nodup_iff.mpr nd)⟩ (by omega)
end
end K14
namespace CK
open PySem PySem.Spec PyProof.Rows L2 VG FR HD
def asInts (ys : List V) : List Int := ys.map fun v => match v with
  | .int a => a
  | _ => 0
theorem as_ints : ∀ c : List Int, asInts (c.map V.int) = c
  | [] => rfl
  | a :: c => by
    show a :: asInts (c.map V.int) = a :: c
    rw [as_ints c]
def rd (G : Hp) (v : V) : List Int := match v with
  | .ref t => match G t with
    | some (.lst ys) => asInts ys
    | _ => []
  | _ => []
def LOk (G : Hp) (v : V) : Prop := ∃ (t : Addr) (c : List Int), v = .ref t ∧ G t = some (.lst (c.map V.int))
theorem rd_eq {G : Hp} {t : Addr} {c : List Int} (h : G t = some (.lst (c.map V.int))) : rd G (.ref t) = c := by
  show (match G t with
    | some (.lst ys) => asInts ys
    | _ => []) = c
  rw [h]
  exact as_ints c
theorem LOk.get {G : Hp} {v : V} (h : LOk G v) : ∃ t, v = .ref t ∧ G t = some (.lst ((rd G v).map V.int)) := by
  obtain ⟨t, c, rfl, e⟩ := h
  exact ⟨t, rfl, by rw [rd_eq e]; exact e⟩
theorem LOk.mono {G G' : Hp} (s : Same G G') {v : V} (h : LOk G v) : LOk G' v ∧ rd G' v = rd G v := by
  obtain ⟨t, c, rfl, e⟩ := h
  exact ⟨⟨t, c, rfl, s _ _ e⟩, by rw [rd_eq e, rd_eq (s _ _ e)]⟩
def Ls (G : Hp) (xs : List V) : Prop := ∀ v ∈ xs, LOk G v
theorem Ls.mono {G G' : Hp} (s : Same G G') {xs : List V} (h : Ls G xs) : Ls G' xs ∧ xs.map (rd G') = xs.map (rd G) :=
  ⟨fun v hv => ((h v hv).mono s).1, List.map_congr_left fun v hv => ((h v hv).mono s).2⟩
theorem Ls.perm {G : Hp} {xs ys : List V} (p : ys.Perm xs) (h : Ls G xs) : Ls G ys := fun v hv => h v (p.mem_iff.mp hv)
theorem asc_ck : ∀ {l : List Int}, M15.Asc l → Asc l
  | [], _ => trivial
  | [_], _ => trivial
  | _ :: _ :: _, h => ⟨h.1, asc_ck h.2⟩
theorem asc_lt : ∀ {l : List Int} {a : Int}, Asc (a :: l) → ∀ x ∈ l, a < x
  | b :: l, a, h, x, hx => by
    rcases List.mem_cons.mp hx with z | z
    · rw [z]
      exact h.1
    · exact Int.lt_trans h.1 (asc_lt h.2 x z)
theorem asc_nodup : ∀ {l : List Int}, Asc l → l.Nodup
  | [], _ => List.nodup_nil
  | a :: l, h => by
    refine List.nodup_cons.mpr ⟨fun z => ?_, asc_nodup (l := l) ?_⟩
    · have := asc_lt h a z
      omega
    · cases l with
      | nil => trivial
      | cons b r => exact h.2
/-- a lot of numbers below m -/
def LotI (m : Nat) (c : List Int) : Prop := Asc c ∧ ∀ x ∈ c, 0 ≤ x ∧ x < (m : Int)
theorem below_len {m : Nat} {c : List Int} (n : c.Nodup) (h : ∀ x ∈ c, 0 ≤ x ∧ x < (m : Int)) : c.length ≤ m := by
  have z := nodup_le c ((List.range m).map fun (j : Nat) => (j : Int)) n fun x hx => by
    have ⟨h1, h2⟩ := h x hx
    obtain ⟨j, rfl⟩ := Int.eq_ofNat_of_zero_le h1
    exact List.mem_map.mpr ⟨j, List.mem_range.mpr (by omega), rfl⟩
  rw [List.length_map, List.length_range] at z
  exact z
theorem LotI.len {m : Nat} {c : List Int} (h : LotI m c) : c.length ≤ m := below_len (asc_nodup h.1) h.2
theorem lot_sorted {m : Nat} {c d : List Int} (p : d.Perm c) (s : d.Pairwise (· ≤ ·)) (n : c.Nodup) (h : ∀ x ∈ c, 0 ≤ x ∧ x < (m : Int)) : LotI m d :=
  ⟨asc_ck (M15.asc_of s (p.nodup_iff.mpr n)), fun x hx => h x (p.mem_iff.mp hx)⟩
/-- lists at given places -/
def Blk (H : Hp) : List Addr → List (List Int) → Prop
  | t :: ts, b :: bs => H t = some (.lst (b.map V.int)) ∧ Blk H ts bs
  | [], [] => True
  | _, _ => False
theorem Blk.len {H : Hp} : ∀ {ts : List Addr} {bs : List (List Int)}, Blk H ts bs → ts.length = bs.length
  | [], [], _ => rfl
  | _ :: _, _ :: _, h => by rw [List.length_cons, List.length_cons, h.2.len]
  | [], _ :: _, h => h.elim
  | _ :: _, [], h => h.elim
theorem Blk.imp {H H' : Hp} : ∀ {ts : List Addr} {bs : List (List Int)}, (∀ t ∈ ts, ∀ o, H t = some o → H' t = some o) → Blk H ts bs → Blk H' ts bs
  | [], [], _, _ => trivial
  | t :: ts, b :: bs, k, h => ⟨k t List.mem_cons_self _ h.1, Blk.imp (fun u hu => k u (List.mem_cons_of_mem _ hu)) h.2⟩
  | [], _ :: _, _, h => h.elim
  | _ :: _, [], _, h => h.elim
theorem Blk.get {H : Hp} : ∀ {ts : List Addr} {bs : List (List Int)} {j : Nat} {t : Addr}, Blk H ts bs → ts[j]? = some t → ∃ b, bs[j]? = some b ∧ H t = some (.lst (b.map V.int))
  | a :: _, b :: _, 0, t, h, e => by
    have e1 : a = t := Option.some.inj e
    subst e1
    exact ⟨b, rfl, h.1⟩
  | _ :: ts, _ :: bs, j + 1, t, h, e => h.2.get (j := j) e
  | [], [], _, _, _, e => by cases e
  | [], _ :: _, _, _, h, _ => h.elim
  | _ :: _, [], _, _, h, _ => h.elim
theorem Blk.at_ {H : Hp} {ts : List Addr} {bs : List (List Int)} (h : Blk H ts bs) {t : Addr} (m : t ∈ ts) : ∃ b, b ∈ bs ∧ H t = some (.lst (b.map V.int)) := by
  obtain ⟨j, e⟩ := List.mem_iff_getElem?.mp m
  obtain ⟨b, e2, k⟩ := h.get e
  exact ⟨b, List.mem_of_getElem? e2, k⟩
theorem Blk.snoc {H : Hp} {t : Addr} {b : List Int} (k : H t = some (.lst (b.map V.int))) : ∀ {ts : List Addr} {bs : List (List Int)}, Blk H ts bs → Blk H (ts ++ [t]) (bs ++ [b])
  | [], [], _ => ⟨k, trivial⟩
  | _ :: _, _ :: _, h => ⟨h.1, h.2.snoc k⟩
  | [], _ :: _, h => h.elim
  | _ :: _, [], h => h.elim
theorem Blk.set {H : Hp} {c : List Int} : ∀ {ts : List Addr} {bs : List (List Int)} {j : Nat} {t : Addr}, ts.Nodup → ts[j]? = some t → Blk H ts bs → Blk (L2.upd H t (.lst (c.map V.int))) ts (bs.set j c)
  | a :: ts, b :: bs, 0, t, n, e, h => by
    have e1 : a = t := Option.some.inj e
    subst e1
    refine ⟨upd_same, Blk.imp (fun u hu o k => ?_) h.2⟩
    have : u ≠ a := fun z => (List.nodup_cons.mp n).1 (z ▸ hu)
    rw [upd_ne this]
    exact k
  | a :: ts, b :: bs, j + 1, t, n, e, h => by
    have ha : a ≠ t := fun z => (List.nodup_cons.mp n).1 (z ▸ List.mem_of_getElem? (l := ts) (i := j) e)
    refine ⟨by rw [upd_ne ha]; exact h.1, Blk.set (j := j) (List.nodup_cons.mp n).2 e h.2⟩
  | [], [], _, _, _, e, _ => by cases e
  | [], _ :: _, _, _, _, _, h => h.elim
  | _ :: _, [], _, _, _, _, h => h.elim
theorem Blk.ls {H : Hp} : ∀ {ts : List Addr} {bs : List (List Int)}, Blk H ts bs → Ls H (ts.map V.ref) ∧ (ts.map V.ref).map (rd H) = bs
  | [], [], _ => ⟨fun v h => (by cases h), rfl⟩
  | t :: ts, b :: bs, h => by
    have ih := h.2.ls
    refine ⟨fun v hv => ?_, ?_⟩
    · rcases List.mem_cons.mp hv with z | z
      · rw [z]
        exact ⟨t, b, rfl, h.1⟩
      · exact ih.1 v z
    · show rd H (.ref t) :: (ts.map V.ref).map (rd H) = b :: bs
      rw [ih.2, rd_eq h.1]
  | [], _ :: _, h => h.elim
  | _ :: _, [], h => h.elim
/-- blocks: lists without a common member, together the numbers below m -/
def BlocksOk (m : Nat) (bs : List (List Int)) : Prop := M15.Apart bs ∧ bs ≠ [] ∧ bs.length ≤ 12 ∧ ∀ b ∈ bs, ∀ x ∈ b, 0 ≤ x ∧ x < (m : Int)
def spBlocks : Sp := fun vs H Q _ => ∃ (p q : Addr) (m : Nat), vs = [.ref p, .int m] ∧ Hd p q H ∧ 1 ≤ m ∧ m ≤ 12 ∧
  ∀ (H' : Hp) (u : Addr) (xs : List V), On p q (frz p q H) H' → H' u = some (.lst xs) → H u = none → u ≠ p ∧ u ≠ q → Ls (frz p q H') xs → BlocksOk m (xs.map (rd (frz p q H'))) → Q (.ref u) H'
theorem frz_none {p q : Addr} {H : Hp} {D : Addr} (h : frz p q H D = none) (n : D ≠ p ∧ D ≠ q) : H D = none := by
  cases e : H D with
  | none => rfl
  | some o => rw [frz_at e n] at h; cases h
theorem flat_rep (n : Nat) : (List.replicate n ([] : List Int)).flatten = [] := by
  induction n with
  | zero => rfl
  | succ n ih => rw [List.replicate_succ, List.flatten_cons, ih]; rfl
theorem rg_mem {n : Int} {v : V} (h : v ∈ rgV 0 n) : ∃ k : Nat, v = .int k ∧ (k : Int) < n := by
  unfold rgV at h
  obtain ⟨k, hk, rfl⟩ := List.mem_map.mp h
  have := List.mem_range.mp hk
  exact ⟨k, by rw [Int.zero_add], by omega⟩
end CK
namespace K14
open PySem PySem.Spec PyProof.Rows L2 VG FR CK HD
abbrev s__law_blocks : Stmt := topS 53
abbrev N__law_blocks : List Str := ["heap", "many", "found", "kind", "at", "some"]
theorem sc__law_blocks : FnScope N__law_blocks ["heap", "many"] (defScope s__law_blocks) := ⟨rfl, rfl, rfl, by decide +kernel, rfl, by decide +kernel, by decide +kernel⟩
section
variable {P : Program} {w : World} {K : PySem.W.Frag} {mg : Str → Option Value} {base : Heap}
theorem ok__law_blocks {f : Addr} {fd : FuncData} (F : Fun K "_law_blocks" "_law_blocks" s__law_blocks f fd) (C__law_draw : Cl P w K mg base 1 "_law_draw" spDraw) (C__law_pick : Cl P w K mg base 2 "_law_pick" (spPick K))
    (z_len : mg "len" = none) (z_int : mg "int" = none) (z_range : mg "range" = none) (z_list : mg "list" = none) :
    FnOk P w K mg base CX0 3 f fd ["heap", "many"] spBlocks := by
  refine F.ok sc__law_blocks (fun vs H Q E h => ?_) (fun cdv A outer s H vs Q E hr h => ?_)
  · obtain ⟨p, q, m, rfl, _⟩ := h
    rfl
  · obtain ⟨p, q, m, rfl, hd, m0, m1, fin⟩ := h
    refine ⟨_, (pss_cons (ps_setLc (i := 2) (own := [("at", 4)]) (by rfl) sc__law_blocks.nd rfl rfl (sw_true rfl rfl rfl (by decide +kernel)) (pi_range1 (by rfl) z_range (pa_cons (pe_op op_add pe_int (pe_cl C__law_draw hr (by decide) rfl (pa_cons (pv 0) (pa_cons (pv 1) pa_nil)))) pa_nil)) (blkOk_by (own := [("at", 4)]) (N := N__law_blocks) (sc := defScope s__law_blocks) (by decide +kernel)) (fun _ _ _ _ _ => (pg_name (i := 4) sc__law_blocks.nd rfl (.inl rfl))) (fun _ _ _ _ _ => pts_nil) (fun _ _ _ _ _ => (pe_lst pa_nil)))
    (pss_cut (ps_for PassesOwn.never rfl (pi_range1 (by rfl) z_range (pa_cons (pv 1) pa_nil)) (pg_name (i := 3) sc__law_blocks.nd rfl (.inl rfl))
      (pss_one (ps_expr (pe_bm PySem.F.plainAttrs_list PySem.F.slot_list_append PySem.F.type_list_append mt_append (pe_ix ix_list (pv 2) (pe_cl C__law_pick hr (by decide) rfl (pa_cons (pv 0) (pa_cons (pe_op op_cat (pe_listRg rfl (by rfl) z_list (prg_1 (by rfl) z_range (pe_callB call_len_seq (by rfl) z_len (by decide +kernel) (pa_cons (pv 2) pa_nil)))) (pe_lst (pa_cons (pe_op op_modN (pe_callTy call_int1 (by rfl) z_int (by decide +kernel) (pa_cons (pv 3) pa_nil)) (pe_callB call_len_seq (by rfl) z_len (by decide +kernel) (pa_cons (pv 2) pa_nil))) pa_nil))) pa_nil))) (fun _ _ => rfl)) (pa_cons (pv 3) pa_nil)))))
    (pss_one (ps_ret (pe_lc (own := [("some", 5)]) (by rfl) sc__law_blocks.nd (pi_list (pv 2)) (blkOk_by (own := [("some", 5)]) (N := N__law_blocks) (sc := defScope s__law_blocks) (by decide +kernel)) (fun _ _ _ _ _ => (pg_name (i := 5) sc__law_blocks.nd rfl (.inl rfl))) (fun _ _ _ _ _ => (pts_one (pt_cmpR (show OpR _ (compareOp .NotEq) (rNeD K) from op_neD hr.units) (pv 5) (pe_lst pa_nil) (nomark _)))) (fun _ _ _ _ _ => (pv 5))))))), ?_⟩
    have on0 := On.start hd
    refine ⟨_, rfl, _, rfl, p, q, _, rfl, hd, by omega, by omega, fun H1 r hd1 kp1 r0 r1 => ?_⟩
    have on1 := on0.draw hd1 kp1
    have free1 : ∀ b, H1 b = none → H b = none := fun b h => by
      cases e : H b with
      | none => rfl
      | some o =>
        by_cases z : b = p ∨ b = q
        · obtain ⟨cs, st, g1, g2, _⟩ := hd1
          rcases z with z | z
          · rw [z, g1] at h; cases h
          · rw [z, g2] at h; cases h
        · rw [kp1 b o (fun y => z (.inl y)) (fun y => z (.inr y)) e] at h
          cases h
    refine ⟨_, _, rfl, rfl, _, rfl, by omega, by omega, fun D nD => ?_⟩
    have fD := on1.free nD
    have nD0 := free1 D nD
    refine lc_it (walk_range (lo := 0) (n := ((1 : Int) + r).toNat)) (fun i H' => On p q (frz p q H) H' ∧ ∃ ts : List Addr, H' D = some (.lst (ts.map V.ref)) ∧ Blk H' ts (List.replicate i []) ∧ ts.Nodup ∧ ∀ t ∈ ts, t ≠ D ∧ t ≠ p ∧ t ≠ q ∧ frz p q H t = none) ⟨on1.new nD, [], upd_same, trivial, List.nodup_nil, fun t h => by cases h⟩ (fun _ _ _ _ => trivial) ?_ ?_
    · rintro i x H2 H3 hi ⟨on2, ts, hD, hb, nd, av⟩ ⟨rfl, rfl⟩
      refine ⟨rfl, by show 0 ≤ sizeLine; exact Nat.zero_le _, fun t nt => ?_⟩
      have ft := on2.free nt
      have on3 := on2.new (o := .lst []) nt
      have st := same_upd (o := .lst []) nt
      have hD3 := st _ _ hD
      have ntD : t ≠ D := (ne_of_none hD nt).symm
      have nts : t ∉ ts := fun z => by
        obtain ⟨b, _, k⟩ := hb.at_ z
        rw [nt] at k
        cases k
      have li := hb.len
      rw [List.length_replicate] at li
      refine ⟨_, hD3, ?_, on3.put fD, ts ++ [t], ?_, ?_, ?_, ?_⟩
      · rw [List.length_map]
        have : sizeLine = 16777216 := by decide
        have : i < ((1 : Int) + r).toNat := hi
        omega
      · rw [upd_same, List.map_append]
        rfl
      · have e : List.replicate (i + 1) ([] : List Int) = List.replicate i [] ++ [[]] := List.replicate_succ'
        rw [e]
        refine Blk.snoc ?_ (Blk.imp (fun u hu o k => ?_) hb)
        · rw [upd_ne ntD]
          exact upd_same
        · rw [upd_ne (av u hu).1]
          exact st _ _ k
      · exact List.nodup_append.mpr ⟨nd, by simp, fun a ha b hb e => by
          have := List.mem_singleton.mp hb
          subst this
          exact nts (e ▸ ha)⟩
      · intro u hu
        rcases List.mem_append.mp hu with z | z
        · exact av u z
        · have := List.mem_singleton.mp z
          subst this
          exact ⟨ntD, ft⟩
    rintro H2 ⟨on2, ts, hD, hb, nd, av⟩
    have lt := hb.len
    rw [List.length_replicate] at lt
    have lt0 : 0 < ts.length := by omega
    have lt12 : ts.length ≤ 12 := by omega
    have Dn : frz p q H D = none := fD.2.2
    refine ⟨fun σ H' => (∃ y3 : Option V, σ = [some (.ref p), some (.int m), some (.ref D), y3, none, none]) ∧ On p q (frz p q H) H' ∧ ∃ bs, H' D = some (.lst (ts.map V.ref)) ∧ Blk H' ts bs ∧ M15.Apart bs ∧ (∀ x ∈ bs.flatten, 0 ≤ x ∧ x < (m : Int)) ∧ (0 : Int) ∈ bs.flatten, ?_, ?_⟩
    · refine ⟨_, rfl, _, rfl, by omega, by omega, ?_⟩
      refine for_it (walk_range (lo := 0) (n := ((m : Nat) : Int).toNat)) (fun i σ H' => (∃ y3 : Option V, σ = [some (.ref p), some (.int m), some (.ref D), y3, none, none]) ∧ On p q (frz p q H) H' ∧ ∃ bs, H' D = some (.lst (ts.map V.ref)) ∧ Blk H' ts bs ∧ M15.Apart bs ∧ (∀ x ∈ bs.flatten, 0 ≤ x ∧ x < (i : Int)) ∧ (0 < i → (0 : Int) ∈ bs.flatten)) ⟨⟨_, rfl⟩, on2, _, hD, hb, by show (List.flatten _).Nodup; rw [flat_rep]; exact List.nodup_nil, fun x h => (by rw [flat_rep] at h; cases h), fun z => (by omega)⟩ (fun _ _ _ _ _ => trivial) ?_ ?_
      · rintro i x σ H3 H4 hi ⟨⟨y3, rfl⟩, on3, bs, kD, kb, ap, lo, z0⟩ ⟨rfl, rfl⟩
        have e0 : (0 : Int) + (i : Nat) = (i : Nat) := Int.zero_add _
        show gName 3 (V.int ((0 : Int) + ((i : Nat) : Int))) _ _ _
        rw [e0]
        have lb := kb.len
        refine ⟨_, rfl, _, rfl, _, rfl, D, _, rfl, .inl (.inl (.inl kD)), _, rfl, RgOk.of_le (by decide) (by rw [List.length_map]; omega) (by decide) (by omega), fun L1 n1 => ?_⟩
        have f1 := on3.free n1
        have on4 := on3.new (o := .lst (rgV 0 ((ts.map V.ref).length : Nat))) n1
        have s4 := same_upd (o := .lst (rgV 0 ((ts.map V.ref).length : Nat))) n1
        have k1 := upd_same (H := H4) (a := L1) (o := .lst (rgV 0 ((ts.map V.ref).length : Nat)))
        generalize L2.upd H4 L1 (.lst (rgV 0 ((ts.map V.ref).length : Nat))) = H5 at on4 s4 k1 ⊢
        have lr : (ts.map V.ref).length = ts.length := List.length_map ..
        refine ⟨_, rfl, .inl ⟨_, rfl, _, rfl, D, _, rfl, .inl (.inl (.inl (s4 _ _ kD))), _, _, rfl, rfl, by rw [lr]; show ((ts.length : Nat) : Int) ≠ 0; omega, by show 1 ≤ sizeLine; decide, fun L2a n2 => ?_⟩⟩
        have f2 := on4.free n2
        rw [lr] at k1 ⊢
        simp only [fmod_nat i lt0]
        have on5 := on4.new (o := .lst [V.int ((i % ts.length : Nat) : Int)]) n2
        have s5 := same_upd (o := .lst [V.int ((i % ts.length : Nat) : Int)]) n2
        have k2 := upd_same (H := H5) (a := L2a) (o := .lst [V.int ((i % ts.length : Nat) : Int)])
        generalize L2.upd H5 L2a (.lst [V.int ((i % ts.length : Nat) : Int)]) = H6 at on5 s5 k2 ⊢
        refine ⟨L1, L2a, _, _, rfl, rfl, s5 _ _ k1, k2, by rw [rgV_length]; show _ + 1 ≤ sizeLine; have : sizeLine = 16777216 := by decide
                                                           omega, fun L3 n3 => ?_⟩
        have f3 := on5.free n3
        have on6 := on5.new (o := .lst (rgV 0 (ts.length : Nat) ++ [V.int ((i % ts.length : Nat) : Int)])) n3
        have s6 := same_upd (o := .lst (rgV 0 (ts.length : Nat) ++ [V.int ((i % ts.length : Nat) : Int)])) n3
        have k3 := upd_same (H := H6) (a := L3) (o := .lst (rgV 0 (ts.length : Nat) ++ [V.int ((i % ts.length : Nat) : Int)]))
        generalize L2.upd H6 L3 (.lst (rgV 0 (ts.length : Nat) ++ [V.int ((i % ts.length : Nat) : Int)])) = H7 at on6 s6 k3 ⊢
        refine ⟨p, q, L3, _, rfl, on6.hd, k3, f3.1, f3.2.1, by simp, by rw [List.length_append, rgV_length]; show _ + 1 < 1000000; omega, fun H8 v hd8 kp8 hv => ?_⟩
        have on8 := on6.draw hd8 kp8
        have s47 := (s4.trans s5).trans s6
        have kD8 := kp8 D _ fD.1 fD.2.1 (s47 _ _ kD)
        have kb8 : Blk H8 ts bs := Blk.imp (fun u hu o k => kp8 u o (av u hu).2.1 (av u hu).2.2.1 (s47 _ _ k)) kb
        have hk : ∃ k : Nat, v = .int k ∧ k < ts.length := by
          rcases List.mem_append.mp hv with z | z
          · obtain ⟨k, e, hk⟩ := rg_mem z
            exact ⟨k, e, by omega⟩
          · have := List.mem_singleton.mp z
            exact ⟨i % ts.length, this, Nat.mod_lt _ lt0⟩
        obtain ⟨k, rfl, hk⟩ := hk
        have et : ts[k]? = some ts[k] := List.getElem?_eq_getElem hk
        obtain ⟨b, eb, kt⟩ := kb8.get et
        have avk := av _ (List.getElem_mem hk)
        generalize ts[k] = t at et kt avk
        have er : (ts.map V.ref)[k]? = some (.ref t) := by rw [List.getElem?_map, et]; rfl
        have hkb : k < bs.length := by omega
        have ebk : bs[k] = b := by
          have := List.getElem?_eq_getElem hkb
          rw [eb] at this
          exact (Option.some.inj this).symm
        have nin : ((i : Nat) : Int) ∉ bs.flatten := fun z => by
          have := lo _ z
          omega
        refine ⟨D, _, _, _, rfl, rfl, .inl (.inl kD8), atI_nat er, .inl ⟨rfl, _, .inl (.inl kt)⟩, _, rfl, t, _, _, rfl, rfl, kt, ?_, ?_⟩
        · rw [List.length_map]
          have bn : b.Nodup := M15.apart_get ap eb
          have bl : b.length ≤ i := below_len bn fun x hx => lo x (List.mem_flatten.mpr ⟨b, List.mem_of_getElem? eb, hx⟩)
          have : i < ((m : Nat) : Int).toNat := hi
          have : sizeLine = 16777216 := by decide
          omega
        · have e2 : b.map V.int ++ [V.int ((i : Nat) : Int)] = (bs[k] ++ [((i : Nat) : Int)]).map V.int := by
            rw [ebk, List.map_append]
            rfl
          rw [e2]
          refine ⟨⟨_, rfl⟩, on8.put ⟨avk.2.1, avk.2.2.1, avk.2.2.2⟩, bs.set k (bs[k] ++ [((i : Nat) : Int)]), ?_, Blk.set nd et kb8, M15.apart_put ap hkb nin, ?_, ?_⟩
          · rw [upd_ne avk.1.symm]
            exact kD8
          · intro x hx
            rcases M15.put_mem hkb hx with z | z
            · have := lo x z
              omega
            · omega
          · intro _
            by_cases hi0 : i = 0
            · subst hi0
              refine List.mem_flatten.mpr ⟨bs[k] ++ [((0 : Nat) : Int)], ?_, List.mem_append_right _ (List.mem_singleton.mpr rfl)⟩
              exact List.mem_set hkb _
            · have h0 := z0 (by omega)
              obtain ⟨c, hc, h0c⟩ := List.mem_flatten.mp h0
              obtain ⟨j, ej⟩ := List.mem_iff_getElem?.mp hc
              by_cases jk : j = k
              · subst jk
                have : c = bs[j] := by rw [eb] at ej; rw [ebk]; exact (Option.some.inj ej).symm
                subst this
                exact List.mem_flatten.mpr ⟨_, List.mem_set hkb _, List.mem_append_left _ h0c⟩
              · refine List.mem_flatten.mpr ⟨c, List.mem_of_getElem? (i := j) ?_, h0c⟩
                rw [List.getElem?_set_ne (Ne.symm jk)]
                exact ej
      · rintro σ H3 ⟨⟨y3, rfl⟩, on3, bs, kD, kb, ap, lo, z0⟩
        exact ⟨⟨_, rfl⟩, on3, bs, kD, kb, ap, fun x hx => by have := lo x hx; omega, z0 (by omega)⟩
    · rintro σ H3 ⟨⟨y3, rfl⟩, on3, bs, kD, kb, ap, lo, z0⟩
      refine ⟨_, rfl, D, rfl, ⟨_, .inl (.inl kD)⟩, fun M nM => ?_⟩
      have fM := on3.free nM
      have lb := kb.len
      refine lc_it (walk_list (K := K) (a := D) (xs := ts.map V.ref)) (fun i H' => Same H3 H' ∧ ∃ us : List Addr, H' M = some (.lst (us.map V.ref)) ∧ Blk H3 us ((bs.take i).filter fun b => !decide (b = [])) ∧ us.length ≤ i ∧ ∀ u ∈ us, u ∈ ts) ⟨same_upd nM, [], upd_same, by rw [List.take_zero]; trivial, Nat.le_refl _, fun u h => by cases h⟩ (fun i H' _ h => h.1.seq (.inl (.inl kD))) ?_ ?_
      · rintro i x H4 H5 hi ⟨sm, us, hM, hu, lu, sub⟩ ⟨rfl, ex⟩
        rw [List.getElem?_map] at ex
        obtain ⟨t, et, rfl⟩ := Option.map_eq_some_iff.mp ex
        obtain ⟨b, eb, kt⟩ := kb.get et
        refine ⟨rfl, _, rfl, by show 0 ≤ sizeLine; exact Nat.zero_le _, fun Z nZ => ?_⟩
        have sZ := same_upd (o := .lst []) nZ
        have sm2 := sm.trans sZ
        refine ⟨_, _, dp_ints (K := K) (.inl (.inl (sm2 _ _ kt))), dp_ints (K := K) (cs := []) (.inl (.inl upd_same)), shaped_ints b, shaped_nil, _, rfl, ?_⟩
        rw [show PyData.eqv (.list (b.map PyData.int)) (.list (([] : List Int).map PyData.int)) = decide (b = []) from eqv_nil b]
        rw [List.take_add_one, eb, List.filter_append]
        cases hbn : (!decide (b = [])) with
        | true =>
          refine iteT ⟨_, rfl, _, sZ _ _ hM, ?_, HD.same_put sm2 nM, us ++ [t], ?_, ?_, by rw [List.length_append]; exact Nat.succ_le_succ lu, fun u h => ?_⟩
          · rw [List.length_map]
            have : i < (ts.map V.ref).length := hi
            have : (ts.map V.ref).length = ts.length := List.length_map ..
            have : sizeLine = 16777216 := by decide
            omega
          · rw [upd_same, List.map_append]
            rfl
          · have e : (some b).toList.filter (fun b => !decide (b = [])) = [b] := by
              show List.filter _ [b] = [b]
              rw [List.filter_cons, hbn]
              rfl
            rw [e]
            exact hu.snoc kt
          · rcases List.mem_append.mp h with z | z
            · exact sub u z
            · rw [List.mem_singleton.mp z]
              exact List.mem_of_getElem? et
        | false =>
          refine iteF ⟨sm2, us, sZ _ _ hM, ?_, by omega, sub⟩
          have e : (some b).toList.filter (fun b => !decide (b = [])) = [] := by
            show List.filter _ [b] = []
            rw [List.filter_cons, hbn]
            rfl
          rw [e, List.append_nil]
          exact hu
      · rintro H4 ⟨sm, us, hM, hu, lu, sub⟩
        rw [List.take_of_length_le (by rw [List.length_map]; omega)] at hu
        have on4 := on3.same sm
        have hu4 : Blk (frz p q H4) us (bs.filter fun b => !decide (b = [])) := Blk.imp (fun t ht o k => frz_at (sm _ _ k) ⟨(av t (sub t ht)).2.1, (av t (sub t ht)).2.2.1⟩) hu
        have ls := hu4.ls
        refine fin H4 M (us.map V.ref) on4 hM (frz_none fM.2.2 ⟨fM.1, fM.2.1⟩) ⟨fM.1, fM.2.1⟩ ls.1 ?_
        rw [ls.2]
        refine ⟨M15.apart_filter _ ap, fun z => ?_, ?_, fun b hb x hx => lo x (List.mem_flatten.mpr ⟨b, (List.mem_filter.mp hb).1, hx⟩)⟩
        · obtain ⟨c, hc, h0c⟩ := List.mem_flatten.mp z0
          have : c ∈ bs.filter fun b => !decide (b = []) := List.mem_filter.mpr ⟨hc, by
            have : c ≠ [] := fun y => by rw [y] at h0c; cases h0c
            simp [this]⟩
          rw [z] at this
          cases this
        · have := List.length_filter_le (fun b => !decide (b = [])) bs
          omega
end
end K14
namespace CK
open PySem PySem.Spec PyProof.Rows L2 VG FR HD
/-- a list at F that grows by new lists -/
def Gw (p q : Addr) (H : Hp) (F : Addr) (ts : List Addr) (bs : List (List Int)) : Prop := H F = some (.lst (ts.map V.ref)) ∧ Blk H ts bs ∧ ∀ t ∈ ts, t ≠ F ∧ t ≠ p ∧ t ≠ q
section
variable {p q F : Addr} {H H' : Hp} {ts : List Addr} {bs : List (List Int)}
theorem Gw.nil (h : H F = some (.lst [])) : Gw p q H F [] [] := ⟨h, trivial, fun t h => by cases h⟩
theorem Gw.same (h : Gw p q H F ts bs) (s : Same H H') : Gw p q H' F ts bs := ⟨s _ _ h.1, Blk.imp (fun t _ o k => s _ _ k) h.2.1, h.2.2⟩
theorem Gw.draw (h : Gw p q H F ts bs) (f : F ≠ p ∧ F ≠ q) (k : Keep p q H H') : Gw p q H' F ts bs :=
  ⟨k _ _ f.1 f.2 h.1, Blk.imp (fun t ht o e => k _ _ (h.2.2 t ht).2.1 (h.2.2 t ht).2.2 e) h.2.1, h.2.2⟩
theorem Gw.push (h : Gw p q H F ts bs) {t : Addr} {b : List Int} (e : H t = some (.lst (b.map V.int))) (n : t ≠ F ∧ t ≠ p ∧ t ≠ q) : Gw p q (L2.upd H F (.lst (ts.map V.ref ++ [.ref t]))) F (ts ++ [t]) (bs ++ [b]) := by
  refine ⟨by rw [upd_same, List.map_append]; rfl, Blk.snoc (by rw [upd_ne n.1]; exact e) (Blk.imp (fun u hu o k => by rw [upd_ne (h.2.2 u hu).1]; exact k) h.2.1), fun u hu => ?_⟩
  rcases List.mem_append.mp hu with z | z
  · exact h.2.2 u z
  · rw [List.mem_singleton.mp z]
    exact n
theorem Gw.ls (h : Gw p q H F ts bs) : Ls (frz p q H) (ts.map V.ref) ∧ (ts.map V.ref).map (rd (frz p q H)) = bs :=
  (Blk.imp (fun t ht o k => frz_at k ⟨(h.2.2 t ht).2.1, (h.2.2 t ht).2.2⟩) h.2.1).ls
theorem Gw.len (h : Gw p q H F ts bs) : ts.length = bs.length := h.2.1.len
end
def Distinct (m : Nat) (c : List Int) : Prop := c.Nodup ∧ ∀ x ∈ c, 0 ≤ x ∧ x < (m : Int)
theorem Distinct.len {m : Nat} {c : List Int} (h : Distinct m c) : c.length ≤ m := below_len h.1 h.2
def spTied : Sp := fun vs H Q _ => ∃ (p q l : Addr) (m k : Nat) (xs : List V), vs = [.ref p, .ref l, .int k] ∧ Hd p q H ∧ H l = some (.lst xs) ∧ l ≠ p ∧ l ≠ q ∧ Ls (frz p q H) xs ∧ BlocksOk m (xs.map (rd (frz p q H))) ∧ m ≤ 12 ∧ k ≤ 6 ∧
  ∀ (H' : Hp) (u : Addr) (ys : List V), On p q (frz p q H) H' → H' u = some (.lst ys) → H u = none → u ≠ p ∧ u ≠ q → Ls (frz p q H') ys → (∀ c ∈ ys.map (rd (frz p q H')), LotI m c) → ys.length ≤ 30 → Q (.ref u) H'
theorem BlocksOk.one {m : Nat} {bs : List (List Int)} (h : BlocksOk m bs) {b : List Int} (hb : b ∈ bs) : Distinct m b := ⟨M15.apart_mem h.1 hb, h.2.2.2 b hb⟩
theorem BlocksOk.two {m : Nat} {bs cs : List (List Int)} (h : BlocksOk m bs) (p : cs.Perm bs) {i j : Nat} {a b : List Int} (ha : cs[i]? = some a) (hb : cs[j]? = some b) (n : i ≠ j) : Distinct m (a ++ b) := by
  refine ⟨M15.apart_two (M15.apart_perm p h.1) ha hb n, fun x hx => ?_⟩
  rcases List.mem_append.mp hx with z | z
  · exact h.2.2.2 a (p.mem_iff.mp (List.mem_of_getElem? ha)) x z
  · exact h.2.2.2 b (p.mem_iff.mp (List.mem_of_getElem? hb)) x z
end CK
namespace K14
open PySem PySem.Spec PyProof.Rows L2 VG FR CK HD
abbrev s__law_tied : Stmt := topS 54
abbrev N__law_tied : List Str := ["heap", "blocks", "many", "found", "row", "colours", "turn", "one", "other", "some", "at"]
theorem sc__law_tied : FnScope N__law_tied ["heap", "blocks", "many"] (defScope s__law_tied) := ⟨rfl, rfl, rfl, by decide +kernel, rfl, by decide +kernel, by decide +kernel⟩
section
variable {P : Program} {w : World} {K : PySem.W.Frag} {mg : Str → Option Value} {base : Heap}
theorem ok__law_tied {f : Addr} {fd : FuncData} (F : Fun K "_law_tied" "_law_tied" s__law_tied f fd) (C__law_draw : Cl P w K mg base 1 "_law_draw" spDraw) (C__law_pick : Cl P w K mg base 2 "_law_pick" (spPick K)) (C__law_shuffled : Cl P w K mg base 2 "_law_shuffled" (spShuffled K))
    (z_len : mg "len" = none) (z_range : mg "range" = none) (z_sorted : mg "sorted" = none) :
    FnOk P w K mg base CX0 3 f fd ["heap", "blocks", "many"] spTied := by
  refine F.ok sc__law_tied (fun vs H Q E h => ?_) (fun cdv A outer s H vs Q E hr h => ?_)
  · obtain ⟨p, q, l, m, k, xs, rfl, _⟩ := h
    rfl
  · obtain ⟨p, q, l, m, k, xs, rfl, hd, hl, l1, l2, ls, bo, m1, k1, fin⟩ := h
    refine ⟨_, (pss_cons (ps_asg (pe_tup (pa_cons (pe_lst pa_nil) (pa_cons (pe_cl C__law_shuffled hr (by decide) rfl (pa_cons (pv 0) (pa_cons (pv 1) pa_nil))) (pa_cons (pe_lc (own := [("some", 9)]) (by rfl) sc__law_tied.nd (pi_list (pv 1)) (blkOk_by (own := [("some", 9)]) (N := N__law_tied) (sc := defScope s__law_tied) (by decide +kernel)) (fun _ _ _ _ _ => (pg_name (i := 9) sc__law_tied.nd rfl (.inl rfl))) (fun _ _ _ _ _ => pts_nil) (fun _ _ _ _ _ => (pe_cl C__law_draw hr (by decide) rfl (pa_cons (pv 0) (pa_cons pe_int pa_nil))))) pa_nil)))) (pg_tup rfl (pgs_cons (pg_name (i := 3) sc__law_tied.nd rfl (.inl rfl)) (pgs_cons (pg_name (i := 4) sc__law_tied.nd rfl (.inr rfl)) (pgs_cons (pg_name (i := 5) sc__law_tied.nd rfl (.inl rfl)) pgs_nil)))))
    (pss_cons (ps_if (pt_cmpR op_eq (pe_cl C__law_draw hr (by decide) rfl (pa_cons (pv 0) (pa_cons pe_int pa_nil))) pe_int (nomark _))
      (pss_cons (ps_setLc (i := 3) (own := [("at", 10)]) (by rfl) sc__law_tied.nd rfl rfl (sw_true rfl rfl rfl (by decide +kernel)) (pi_range1 (by rfl) z_range (pa_cons (pe_op op_sub (pe_callB call_len_seq (by rfl) z_len (by decide +kernel) (pa_cons (pv 4) pa_nil)) pe_int) pa_nil)) (blkOk_by (own := [("at", 10)]) (N := N__law_tied) (sc := defScope s__law_tied) (by decide +kernel)) (fun _ _ _ _ _ => (pg_name (i := 10) sc__law_tied.nd rfl (.inl rfl))) (fun _ _ _ _ _ => pts_nil) (fun _ _ _ _ _ => (pe_op op_cat (pe_ix (show IxR _ (rIxL K) from ix_list) (pv 4) (pv 10) (fun _ _ => rfl)) (pe_ix (show IxR _ (rIxL K) from ix_list) (pv 4) (pe_op op_add (pv 10) pe_int) (fun _ _ => rfl)))))
      (pss_one (ps_ret (pe_lc (own := [("some", 9)]) (by rfl) sc__law_tied.nd (pi_list (pe_op op_cat (pv 3) (pe_lc (own := [("turn", 6)]) (by rfl) sc__law_tied.nd (pi_range1 (by rfl) z_range (pa_cons (pe_cl C__law_draw hr (by decide) rfl (pa_cons (pv 0) (pa_cons pe_int pa_nil))) pa_nil)) (blkOk_by (own := [("turn", 6)]) (N := N__law_tied) (sc := defScope s__law_tied) (by decide +kernel)) (fun _ _ _ _ _ => (pg_name (i := 6) sc__law_tied.nd rfl (.inl rfl))) (fun _ _ _ _ _ => pts_nil) (fun _ _ _ _ _ => (pe_cl C__law_pick hr (by decide) rfl (pa_cons (pv 0) (pa_cons (pv 4) pa_nil))))))) (blkOk_by (own := [("some", 9)]) (N := N__law_tied) (sc := defScope s__law_tied) (by decide +kernel)) (fun _ _ _ _ _ => (pg_name (i := 9) sc__law_tied.nd rfl (.inl rfl))) (fun _ _ _ _ _ => pts_nil) (fun _ _ _ _ _ => (pe_callB (show CallR _ (.builtin "sorted") (rSorted K) from cr_sorted) (by rfl) z_sorted (by decide +kernel) (pa_cons (pv 9) pa_nil)))))))
      pss_nil)
    (pss_cut (ps_for PassesOwn.never rfl (pi_range1 (by rfl) z_range (pa_cons (pv 2) pa_nil)) (pg_name (i := 6) sc__law_tied.nd rfl (.inl rfl))
      (pss_cons (ps_par (i := 7) (j := 8) (by rfl) sc__law_tied.nd rfl rfl (by decide) rfl rfl (pa_cons (pe_cl C__law_draw hr (by decide) rfl (pa_cons (pv 0) (pa_cons (pe_callB call_len_seq (by rfl) z_len (by decide +kernel) (pa_cons (pv 1) pa_nil)) pa_nil))) (pa_cons (pe_cl C__law_draw hr (by decide) rfl (pa_cons (pv 0) (pa_cons (pe_callB call_len_seq (by rfl) z_len (by decide +kernel) (pa_cons (pv 1) pa_nil)) pa_nil))) pa_nil)) (by rfl))
      (pss_one (ps_expr (pe_bm PySem.F.plainAttrs_list PySem.F.slot_list_append PySem.F.type_list_append mt_append (pv 3) (pa_cons (pe_callB cr_sorted (by rfl) z_sorted (by decide +kernel) (pa_cons (pe_op op_cat (pe_ix ix_list (pv 1) (pv 7) (fun _ _ => rfl)) (pe_meet (pe_ifExp (pt_cmpR op_ne (pe_ix ix_list (pv 5) (pv 7) (fun _ _ => rfl)) (pe_ix ix_list (pv 5) (pv 8) (fun _ _ => rfl)) (nomark _)) (pe_ix ix_list (pv 1) (pv 8) (fun _ _ => rfl)) (pe_lst pa_nil)))) pa_nil)) pa_nil))))))
    (pss_one (ps_ret (pv 3)))))), ?_⟩
    have on0 := On.start hd
    have Gl : frz p q H l = some (.lst xs) := frz_at hl ⟨l1, l2⟩
    have lx12 : xs.length ≤ 12 := by have := bo.2.2.1; rw [List.length_map] at this; exact this
    have lx0 : 0 < xs.length := by
      have := bo.2.1
      cases xs with
      | nil => exact absurd rfl this
      | cons _ _ => exact Nat.succ_pos _
    have free0 : ∀ {b : Addr}, frz p q H b = none → b ≠ p ∧ b ≠ q → H b = none := fun h n => frz_none h n
    generalize hG : frz p q H = G at on0 Gl ls bo fin free0
    refine ⟨by show 0 ≤ sizeLine; exact Nat.zero_le _, fun D nD => ?_⟩
    have fD := on0.free nD
    have on1 := on0.new (o := .lst []) nD
    have hD := upd_same (H := H) (a := D) (o := .lst [])
    have hl1 := same_upd (o := .lst []) nD _ _ hl
    generalize L2.upd H D (.lst []) = H1 at on1 hD hl1 ⊢
    refine ⟨_, rfl, _, rfl, p, q, l, xs, rfl, on1.hd, hl1, l1, l2, by omega, fun H2 R rs on2' nR1 fR hR pm => ?_⟩
    have kp2 := on2'.keep
    have on2 := on1.draw on2'.hd kp2
    have hD2 := kp2 D _ fD.1 fD.2.1 hD
    have hl2 := kp2 l _ l1 l2 hl1
    have GR : G R = none := on1.le.free nR1
    have nRD : R ≠ D := (ne_of_none hD nR1).symm
    clear on2'
    refine ⟨_, rfl, l, rfl, ⟨_, .inl (.inl hl2)⟩, fun Cc nC => ?_⟩
    have fC := on2.free nC
    have nCD : D ≠ Cc := ne_of_none hD2 nC
    have nCR : R ≠ Cc := ne_of_none hR nC
    refine lc_it (walk_list (K := K) (a := l) (xs := xs)) (fun i H' => On p q G H' ∧ H' D = some (.lst []) ∧ H' R = some (.lst rs) ∧ ∃ cs : List Int, H' Cc = some (.lst (cs.map V.int)) ∧ cs.length = i) ⟨on2.new nC, by rw [upd_ne nCD]; exact hD2, by rw [upd_ne nCR]; exact hR, [], upd_same, rfl⟩ (fun i H' _ h => .inl (.inl (h.1.le _ _ Gl))) ?_ ?_
    · rintro i x H3 H4 hi ⟨on3, kD, kR, cs, kC, lc⟩ ⟨rfl, ex⟩
      refine ⟨rfl, _, rfl, p, q, _, rfl, on3.hd, by decide, by decide, fun H5 r hd5 kp5 r0 r1 => ?_⟩
      have on5 := on3.draw hd5 kp5
      refine ⟨_, kp5 Cc _ fC.1 fC.2.1 kC, ?_, on5.put fC, by rw [upd_ne nCD]; exact kp5 D _ fD.1 fD.2.1 kD, by rw [upd_ne nCR]; exact kp5 R _ fR.1 fR.2 kR, cs ++ [r], by rw [upd_same, List.map_append]; rfl, by rw [List.length_append, lc]; rfl⟩
      rw [List.length_map]
      have : sizeLine = 16777216 := by decide
      have : i < xs.length := hi
      omega
    rintro H3 ⟨on3, kD, kR, cs, kC, lc⟩
    clear hD hD2 hl1 hl2 hR
    have lr : rs.length = xs.length := pm.length_eq
    have lsr : Ls G rs := ls.perm pm
    have pmr : (rs.map (rd G)).Perm (xs.map (rd G)) := pm.map _
    refine ⟨by show 3 ≤ sizeLine; decide, fun T nT => ?_⟩
    have sT := same_upd (o := .tup [.ref D, .ref R, .ref Cc]) nT
    have hT := upd_same (H := H3) (a := T) (o := .tup [.ref D, .ref R, .ref Cc])
    have on3 := on3.new (o := .tup [.ref D, .ref R, .ref Cc]) nT
    have kD := sT _ _ kD
    have kR := sT _ _ kR
    have kC := sT _ _ kC
    generalize L2.upd H3 T (.tup [.ref D, .ref R, .ref Cc]) = H3 at on3 kD kR kC hT ⊢
    refine ⟨T, _, rfl, .inl (.inl hT), rfl, _, _, rfl, _, _, rfl, _, _, rfl, rfl, ?_⟩
    -- which way
    refine ⟨_, rfl, p, q, _, rfl, on3.hd, by decide, by decide, fun H4 r hd4 kp4 r0 r1 => ?_⟩
    have on4 := on3.draw hd4 kp4
    have kD4 := kp4 D _ fD.1 fD.2.1 kD
    have kR4 := kp4 R _ fR.1 fR.2 kR
    have kC4 := kp4 Cc _ fC.1 fC.2.1 kC
    clear kp4 kp2
    refine ⟨rfl, _, rfl, ite2 (fun _ => ?_) (fun _ => ?_)⟩
    · -- neighbours in a row
      refine ⟨_, rfl, R, rs, rfl, .inl (.inl (.inl kR4)), _, _, rfl, rfl, _, rfl, by omega, by omega, fun Fd nF => ?_⟩
      have fF := on4.free nF
      have nFR : R ≠ Fd := ne_of_none kR4 nF
      refine lc_it (walk_range (lo := 0) (n := (((rs.length : Nat) : Int) - 1).toNat)) (fun i H' => On p q G H' ∧ H' R = some (.lst rs) ∧ ∃ ts bs, Gw p q H' Fd ts bs ∧ bs.length = i ∧ ∀ b ∈ bs, Distinct m b) ⟨on4.new nF, by rw [upd_ne nFR]; exact kR4, [], [], Gw.nil upd_same, rfl, fun b h => by cases h⟩ (fun _ _ _ _ => trivial) ?_ ?_
      · rintro i x H5 H6 hi ⟨on5, kR5, ts, bs, gw, lb, db⟩ ⟨rfl, rfl⟩
        have hi2 : i < (((rs.length : Nat) : Int) - 1).toNat := hi
        have e1 : rs[i]? = some rs[i] := List.getElem?_eq_getElem (by omega)
        have e2 : rs[i + 1]? = some rs[i + 1] := List.getElem?_eq_getElem (by omega)
        obtain ⟨t1, v1, g1⟩ := (lsr _ (List.getElem_mem (show i < rs.length by omega))).get
        obtain ⟨t2, v2, g2⟩ := (lsr _ (List.getElem_mem (show i + 1 < rs.length by omega))).get
        have q1 : (rs.map (rd G))[i]? = some (rd G rs[i]) := by rw [List.getElem?_map, e1]; rfl
        have q2 : (rs.map (rd G))[i + 1]? = some (rd G rs[i + 1]) := by rw [List.getElem?_map, e2]; rfl
        have dd := bo.two pmr q1 q2 (by omega)
        rw [v1] at e1
        rw [v2] at e2
        generalize rd G rs[i] = c1 at *
        generalize rd G rs[i + 1] = c2 at *
        have z1 : (0 : Int) + (i : Nat) = ((i : Nat) : Int) := Int.zero_add _
        have z2 : (0 : Int) + (i : Nat) + 1 = ((i + 1 : Nat) : Int) := by omega
        have dl := dd.len
        rw [List.length_append] at dl
        refine ⟨rfl, _, rfl, _, rfl, R, rs, _, _, rfl, rfl, .inl (.inl kR5), by rw [z1]; exact atI_nat e1, _, rfl, _, rfl, _, _, rfl, rfl, R, rs, _, _, rfl, rfl, .inl (.inl kR5), by rw [z2]; exact atI_nat e2, ?_⟩
        refine ⟨t1, t2, _, _, rfl, rfl, on5.le _ _ g1, on5.le _ _ g2, ?_, fun t nt => ?_⟩
        · rw [List.length_map, List.length_map]
          have : sizeLine = 16777216 := by decide
          omega
        · have ft := on5.free nt
          have st := same_upd (o := .lst (c1.map V.int ++ c2.map V.int)) nt
          have gw2 := gw.same st
          have nF2 : t ≠ Fd := (ne_of_none gw.1 nt).symm
          refine ⟨_, gw2.1, ?_, (on5.new nt).put fF, by rw [upd_ne nFR]; exact st _ _ kR5, ts ++ [t], bs ++ [c1 ++ c2], gw2.push (by rw [upd_same, List.map_append]) ⟨nF2, ft.1, ft.2.1⟩, by rw [List.length_append, lb]; rfl, fun b hb => ?_⟩
          · have := gw.len
            rw [List.length_map]
            have : sizeLine = 16777216 := by decide
            omega
          · rcases List.mem_append.mp hb with z | z
            · exact db b z
            · rw [List.mem_singleton.mp z]
              exact dd
      rintro H5 ⟨on5, kR5, ts, bs, gw, lb, db⟩
      -- some more
      refine ⟨_, rfl, _, rfl, p, q, _, rfl, on5.hd, by decide, by decide, fun H6 r2 hd6 kp6 s0 s1 => ?_⟩
      have on6 := on5.draw hd6 kp6
      have kR6 := kp6 R _ fR.1 fR.2 kR5
      have gw6 := gw.draw ⟨fF.1, fF.2.1⟩ kp6
      refine ⟨_, rfl, by omega, by omega, fun Mm nM => ?_⟩
      have fM := on6.free nM
      have nMR : R ≠ Mm := ne_of_none kR6 nM
      refine lc_it (walk_range (lo := 0) (n := r2.toNat)) (fun i H' => On p q G H' ∧ H' R = some (.lst rs) ∧ Gw p q H' Fd ts bs ∧ ∃ zs : List V, H' Mm = some (.lst zs) ∧ (∀ v ∈ zs, v ∈ rs) ∧ zs.length = i) ⟨on6.new nM, by rw [upd_ne nMR]; exact kR6, gw6.same (same_upd nM), [], upd_same, fun v h => (by cases h), rfl⟩ (fun _ _ _ _ => trivial) ?_ ?_
      · rintro i x H7 H8 hi ⟨on7, kR7, gw7, zs, kM, sub, lz⟩ ⟨rfl, rfl⟩
        refine ⟨rfl, _, rfl, _, rfl, p, q, R, rs, rfl, on7.hd, kR7, fR.1, fR.2, fun z => by rw [z] at lr; simp at lr; omega, by omega, fun H9 v hd9 kp9 hv => ?_⟩
        have on9 := on7.draw hd9 kp9
        have gw9 := gw7.draw ⟨fF.1, fF.2.1⟩ kp9
        have kM9 := kp9 Mm _ fM.1 fM.2.1 kM
        have nMF : Fd ≠ Mm := ne_of_none gw6.1 nM
        have avM : ∀ t ∈ ts, t ≠ Mm := fun t ht => by
          obtain ⟨b, _, k⟩ := gw6.2.1.at_ ht
          exact ne_of_none k nM
        have hi2 : i < r2.toNat := hi
        refine ⟨zs, kM9, ?_, on9.put fM, by rw [upd_ne nMR]; exact kp9 R _ fR.1 fR.2 kR7, ⟨by rw [upd_ne nMF]; exact gw9.1, Blk.imp (fun t ht o k => by rw [upd_ne (avM t ht)]; exact k) gw9.2.1, gw9.2.2⟩, zs ++ [v], upd_same, fun u hu => ?_, by rw [List.length_append, lz]; rfl⟩
        · have : sizeLine = 16777216 := by decide
          omega
        · rcases List.mem_append.mp hu with z | z
          · exact sub u z
          · rw [List.mem_singleton.mp z]
            exact hv
      rintro H7 ⟨on7, kR7, gw7, zs, kM, sub, lz⟩
      have lts := gw7.len
      refine ⟨Fd, Mm, _, _, rfl, rfl, gw7.1, kM, ?_, fun Ca nCa => ?_⟩
      · rw [List.length_map]
        have : sizeLine = 16777216 := by decide
        omega
      have fCa := on7.free nCa
      have on8 := on7.new (o := .lst (ts.map V.ref ++ zs)) nCa
      have s8 := same_upd (o := .lst (ts.map V.ref ++ zs)) nCa
      have gw8 := gw7.same s8
      have kCa := upd_same (H := H7) (a := Ca) (o := .lst (ts.map V.ref ++ zs))
      generalize L2.upd H7 Ca (.lst (ts.map V.ref ++ zs)) = H8 at on8 gw8 kCa ⊢
      have all : ∀ v ∈ ts.map V.ref ++ zs, ∃ t c, v = .ref t ∧ H8 t = some (.lst (c.map V.int)) ∧ Distinct m c := by
        intro v hv
        rcases List.mem_append.mp hv with z | z
        · obtain ⟨t, ht, rfl⟩ := List.mem_map.mp z
          obtain ⟨b, hb, k⟩ := gw8.2.1.at_ ht
          exact ⟨t, b, rfl, k, db b hb⟩
        · obtain ⟨t, e, g⟩ := (lsr v (sub v z)).get
          exact ⟨t, _, e, on8.le _ _ g, bo.one (pmr.mem_iff.mp (List.mem_map.mpr ⟨v, sub v z, rfl⟩))⟩
      have lC : (ts.map V.ref ++ zs).length ≤ 20 := by
        rw [List.length_append, List.length_map]
        omega
      refine ⟨Ca, rfl, ⟨_, .inl (.inl kCa)⟩, fun Z nZ => ?_⟩
      have fZ := on8.free nZ
      refine lc_it (walk_list (K := K) (a := Ca) (xs := ts.map V.ref ++ zs)) (fun i H' => On p q G H' ∧ Same H8 H' ∧ ∃ us ds, Gw p q H' Z us ds ∧ ds.length = i ∧ ∀ d ∈ ds, LotI m d) ⟨on8.new nZ, same_upd nZ, [], [], Gw.nil upd_same, rfl, fun b h => by cases h⟩ (fun i H' _ h => h.2.1.seq (.inl (.inl kCa))) ?_ ?_
      · rintro i x H9 H10 hi ⟨on9, s9, us, ds, gz, ld, ok⟩ ⟨rfl, ex⟩
        obtain ⟨t, c, rfl, kt, dc⟩ := all x (List.mem_of_getElem? ex)
        have := dc.len
        refine ⟨rfl, _, rfl, t, c, rfl, .inl (.inl (s9 _ _ kt)), by omega, fun d S pm2 so nS => ?_⟩
        have fS := on9.free nS
        have sS := same_upd (o := .lst (d.map V.int)) nS
        have gz2 := gz.same sS
        have nSZ : S ≠ Z := (ne_of_none gz.1 nS).symm
        refine ⟨_, gz2.1, ?_, (on9.new nS).put fZ, ?_, us ++ [S], ds ++ [d], gz2.push upd_same ⟨nSZ, fS.1, fS.2.1⟩, by rw [List.length_append, ld]; rfl, fun e he => ?_⟩
        · have := gz.len
          rw [List.length_map]
          have : i < (ts.map V.ref ++ zs).length := hi
          have : sizeLine = 16777216 := by decide
          omega
        · intro b o hb
          rw [upd_ne (ne_of_none hb nZ)]
          exact sS _ _ (s9 b o hb)
        · rcases List.mem_append.mp he with z | z
          · exact ok e z
          · rw [List.mem_singleton.mp z]
            exact lot_sorted pm2 so dc.1 dc.2
      · rintro H9 ⟨on9, s9, us, ds, gz, ld, ok⟩
        have g := gz.ls
        subst hG
        refine fin H9 Z _ on9 gz.1 (free0 fZ.2.2 ⟨fZ.1, fZ.2.1⟩) ⟨fZ.1, fZ.2.1⟩ g.1 (by rw [g.2]; exact ok) ?_
        have := gz.len
        rw [List.length_map]
        omega
    · -- drawn pairs
      refine ⟨fun σ H' => (∃ y6 y7 y8 : Option V, σ = [some (.ref p), some (.ref l), some (.int k), some (.ref D), some (.ref R), some (.ref Cc), y6, y7, y8, none, none]) ∧ On p q G H' ∧ ∃ us ds, Gw p q H' D us ds ∧ ds.length = k ∧ ∀ d ∈ ds, LotI m d, ?_, ?_⟩
      · refine ⟨_, rfl, _, rfl, by omega, by omega, ?_⟩
        refine for_it (walk_range (lo := 0) (n := ((k : Nat) : Int).toNat)) (fun i σ H' => (∃ y6 y7 y8 : Option V, σ = [some (.ref p), some (.ref l), some (.int k), some (.ref D), some (.ref R), some (.ref Cc), y6, y7, y8, none, none]) ∧ On p q G H' ∧ H' Cc = some (.lst (cs.map V.int)) ∧ ∃ us ds, Gw p q H' D us ds ∧ ds.length = i ∧ ∀ d ∈ ds, LotI m d) ⟨⟨_, _, _, rfl⟩, on4, kC4, [], [], Gw.nil kD4, rfl, fun b h => by cases h⟩ (fun _ _ _ _ _ => trivial) ?_ ?_
        · rintro i x σ H5 H6 hi ⟨⟨y6, y7, y8, rfl⟩, on5, kC5, us, ds, gz, ld, ok⟩ ⟨rfl, rfl⟩
          have hi2 : i < ((k : Nat) : Int).toNat := hi
          refine ⟨_, rfl, _, rfl, l, xs, rfl, .inl (.inl (.inl (on5.le _ _ Gl))), p, q, _, rfl, on5.hd, by omega, by omega, fun H7 a hd7 kp7 a0 a1 => ?_⟩
          have on7 := on5.draw hd7 kp7
          have kC7 := kp7 Cc _ fC.1 fC.2.1 kC5
          have gz7 := gz.draw ⟨fD.1, fD.2.1⟩ kp7
          refine ⟨_, rfl, _, rfl, l, xs, rfl, .inl (.inl (.inl (on7.le _ _ Gl))), p, q, _, rfl, on7.hd, by omega, by omega, fun H8 b hd8 kp8 b0 b1 => ?_⟩
          have on8 := on7.draw hd8 kp8
          have kC8 := kp8 Cc _ fC.1 fC.2.1 kC7
          have gz8 := gz7.draw ⟨fD.1, fD.2.1⟩ kp8
          clear kp7 kp8 gz gz7
          obtain ⟨a, rfl⟩ := Int.eq_ofNat_of_zero_le a0
          obtain ⟨b, rfl⟩ := Int.eq_ofNat_of_zero_le b0
          have la : a < xs.length := by omega
          have lb : b < xs.length := by omega
          have ea : xs[a]? = some xs[a] := List.getElem?_eq_getElem la
          have eb : xs[b]? = some xs[b] := List.getElem?_eq_getElem lb
          obtain ⟨t1, v1, g1⟩ := (ls _ (List.getElem_mem la)).get
          obtain ⟨t2, v2, g2⟩ := (ls _ (List.getElem_mem lb)).get
          have q1 : (xs.map (rd G))[a]? = some (rd G xs[a]) := by rw [List.getElem?_map, ea]; rfl
          have q2 : (xs.map (rd G))[b]? = some (rd G xs[b]) := by rw [List.getElem?_map, eb]; rfl
          have d1 := bo.one (List.mem_of_getElem? q1)
          have two := fun n : a ≠ b => bo.two (List.Perm.refl _) q1 q2 n
          rw [v1] at ea
          rw [v2] at eb
          generalize rd G xs[a] = c1 at *
          generalize rd G xs[b] = c2 at *
          have eca : (cs.map V.int)[a]? = some (.int cs[a]) := by rw [List.getElem?_map, List.getElem?_eq_getElem (by omega)]; rfl
          have ecb : (cs.map V.int)[b]? = some (.int cs[b]) := by rw [List.getElem?_map, List.getElem?_eq_getElem (by omega)]; rfl
          refine ⟨_, _, rfl, ?_⟩
          refine ⟨_, rfl, .inl ⟨rfl, _, .inl (.inl gz8.1)⟩, ?_⟩
          refine ⟨_, rfl, _, rfl, l, xs, _, _, rfl, rfl, .inl (.inl (on8.le _ _ Gl)), atI_nat ea, ?_⟩
          refine ⟨fun v H' => ∃ t c, v = .ref t ∧ On p q G H' ∧ Same H8 H' ∧ H' t = some (.lst (c.map V.int)) ∧ Distinct m (c1 ++ c), ?_, ?_⟩
          · refine ⟨_, rfl, _, rfl, Cc, _, _, _, rfl, rfl, .inl (.inl kC8), atI_nat eca, _, rfl, _, rfl, Cc, _, _, _, rfl, rfl, .inl (.inl kC8), atI_nat ecb, rfl, _, rfl, ite2 (fun z => ?_) (fun _ => ?_)⟩
            · have ne : a ≠ b := fun e => by
                subst e
                simp at z
              exact ⟨_, rfl, _, rfl, l, xs, _, _, rfl, rfl, .inl (.inl (on8.le _ _ Gl)), atI_nat eb, t2, c2, rfl, on8, Same.refl _, on8.le _ _ g2, two ne⟩
            · refine ⟨by show 0 ≤ sizeLine; exact Nat.zero_le _, fun Z nZ => ?_⟩
              exact ⟨Z, [], rfl, on8.new nZ, same_upd nZ, upd_same, by rw [List.append_nil]; exact d1⟩
          · rintro v H9 ⟨t, c, rfl, on9, s9, kt, dd⟩
            have dl := dd.len
            rw [List.length_append] at dl
            refine ⟨t1, t, _, _, rfl, rfl, on9.le _ _ g1, kt, ?_, fun Ca nCa => ?_⟩
            · rw [List.length_map, List.length_map]
              have : sizeLine = 16777216 := by decide
              omega
            have sC := same_upd (o := .lst (c1.map V.int ++ c.map V.int)) nCa
            have on10 := on9.new (o := .lst (c1.map V.int ++ c.map V.int)) nCa
            refine ⟨Ca, c1 ++ c, rfl, .inl (.inl (by rw [upd_same, List.map_append])), by rw [List.length_append]; omega, fun d S pm2 so nS => ?_⟩
            have fS := on10.free nS
            have sS := same_upd (o := .lst (d.map V.int)) nS
            have gz9 := ((gz8.same s9).same sC).same sS
            have on11 := on10.new (o := .lst (d.map V.int)) nS
            have nSD : S ≠ D := (ne_of_none (sC _ _ (s9 _ _ gz8.1)) nS).symm
            have kC11 := sS _ _ (sC _ _ (s9 _ _ kC8))
            have nDC : D ≠ Cc := nCD
            refine ⟨D, _, _, rfl, rfl, gz9.1, ?_, ⟨_, _, _, rfl⟩, on11.put fD, by rw [upd_ne nDC.symm]; exact kC11, us ++ [S], ds ++ [d], gz9.push upd_same ⟨nSD, fS.1, fS.2.1⟩, by rw [List.length_append, ld]; rfl, fun e he => ?_⟩
            · have := gz8.len
              rw [List.length_map]
              have : sizeLine = 16777216 := by decide
              omega
            · rcases List.mem_append.mp he with z | z
              · exact ok e z
              · rw [List.mem_singleton.mp z]
                exact lot_sorted pm2 so dd.1 dd.2
        · rintro σ H5 ⟨⟨y6, y7, y8, rfl⟩, on5, kC5, us, ds, gz, ld, ok⟩
          exact ⟨⟨_, _, _, rfl⟩, on5, us, ds, gz, by omega, ok⟩
      · rintro σ H5 ⟨⟨y6, y7, y8, rfl⟩, on5, us, ds, gz, ld, ok⟩
        have g := gz.ls
        subst hG
        refine ⟨_, rfl, fin H5 D _ on5 gz.1 (free0 fD.2.2 ⟨fD.1, fD.2.1⟩) ⟨fD.1, fD.2.1⟩ g.1 (by rw [g.2]; exact ok) ?_⟩
        have := gz.len
        rw [List.length_map]
        omega
end
end K14
namespace CK
open PySem PySem.Spec PyProof.Rows L2 VG FR HD
def Fs (m : Nat) (G : Hp) (ys : List V) : Prop := ∀ v ∈ ys, LOk G v ∧ LotI m (rd G v)
theorem Fs.mono {m : Nat} {G G' : Hp} (s : Same G G') {ys : List V} (h : Fs m G ys) : Fs m G' ys := fun v hv => by
  have e := (h v hv).1.mono s
  exact ⟨e.1, by rw [e.2]; exact (h v hv).2⟩
theorem Fs.of {m : Nat} {G : Hp} {ys : List V} (h : Ls G ys) (k : ∀ c ∈ ys.map (rd G), LotI m c) : Fs m G ys := fun v hv => ⟨h v hv, k _ (List.mem_map.mpr ⟨v, hv, rfl⟩)⟩
theorem Fs.app {m : Nat} {G : Hp} {xs ys : List V} (h : Fs m G xs) (k : Fs m G ys) : Fs m G (xs ++ ys) := fun v hv => (List.mem_append.mp hv).elim (h v) (k v)
theorem Fs.sub {m : Nat} {G : Hp} {xs ys : List V} (h : Fs m G xs) (k : ∀ v ∈ ys, v ∈ xs) : Fs m G ys := fun v hv => h v (k v hv)
theorem cut0 {xs : List V} (k : Nat) : cutV xs none (some (k : Int)) = xs.take k := by
  unfold cutV
  rw [HT.sIx_none, HT.sIx_nat]
  have : xs.drop 0 = xs := List.drop_zero
  rw [this, Nat.sub_zero]
  rcases Nat.le_total k xs.length with h | h
  · rw [Nat.min_eq_left h]
  · rw [Nat.min_eq_right h, List.take_of_length_le (Nat.le_refl _), List.take_of_length_le h]
/-- the state of the drawn totals: blocks at B, totals at F -/
def InF (p q : Addr) (G : Hp) (m : Nat) (B F : Addr) (H : Hp) : Prop := On p q G H ∧ (B ≠ p ∧ B ≠ q) ∧ (F ≠ p ∧ F ≠ q) ∧ ∃ xs ys, H B = some (.lst xs) ∧ H F = some (.lst ys) ∧ Ls (frz p q H) xs ∧ BlocksOk m (xs.map (rd (frz p q H))) ∧ Fs m (frz p q H) ys ∧ ys.length ≤ 40
theorem InF.step {p q B F F2 : Addr} {G H H2 : Hp} {m : Nat} {zs : List V} (h : InF p q G m B F H) (on : On p q (frz p q H) H2) (f : F2 ≠ p ∧ F2 ≠ q) (e : H2 F2 = some (.lst zs)) (k : Fs m (frz p q H2) zs) (l : zs.length ≤ 40) : InF p q G m B F2 H2 := by
  obtain ⟨o, b, _, xs, ys, h1, h2, h3, h4, h5, h6⟩ := h
  have s := on.base.2
  have ls := h3.mono s
  exact ⟨on.drop (o.base.2), b, f, xs, zs, on.le _ _ (frz_at h1 b), e, ls.1, by rw [ls.2]; exact h4, k, l⟩
theorem keep_frz {p q : Addr} {H : Hp} : Keep p q H (frz p q H) := fun b o n1 n2 e => frz_at e ⟨n1, n2⟩
theorem Tots.frz {K : PySem.W.Frag} {p q : Addr} {H : Hp} (hd : Hd p q H) : ∀ {vs : List V} {cs : List (List Int)}, Tots K H vs cs → Tots K (frz p q H) vs cs
  | [], [], _ => trivial
  | _ :: _, _ :: _, ⟨⟨t, e, h⟩, r⟩ => ⟨⟨t, e, seqTK hd keep_frz h⟩, r.frz hd⟩
  | [], _ :: _, h => h.elim
  | _ :: _, [], h => h.elim
theorem asc_pw : ∀ {l : List Int}, l.Pairwise (· < ·) → Asc l
  | [], _ => trivial
  | [_], _ => trivial
  | a :: b :: r, h => by
    have ⟨h1, h2⟩ := List.pairwise_cons.mp h
    exact ⟨h1 b List.mem_cons_self, asc_pw h2⟩
theorem pw_snoc {c : List Int} {i : Nat} (h : c.Pairwise (· < ·)) (k : ∀ x ∈ c, 0 ≤ x ∧ x < (i : Int)) : (c ++ [(i : Int)]).Pairwise (· < ·) ∧ ∀ x ∈ c ++ [(i : Int)], 0 ≤ x ∧ x < ((i + 1 : Nat) : Int) := by
  refine ⟨List.pairwise_append.mpr ⟨h, by simp, fun x hx y hy => ?_⟩, fun x hx => ?_⟩
  · rw [List.mem_singleton.mp hy]
    exact (k x hx).2
  · rcases List.mem_append.mp hx with z | z
    · have := k x z
      omega
    · rw [List.mem_singleton.mp z]
      omega
def spTotals (K : PySem.W.Frag) : Sp := fun vs H Q _ => ∃ (p q : Addr) (m : Nat), vs = [.ref p, .int m] ∧ Hd p q H ∧ 1 ≤ m ∧ m ≤ 12 ∧
  ∀ (H' : Hp) (u : Addr) (ys : List V) (cs : List (List Int)), On p q (frz p q H) H' → H' u = some (.lst ys) → H u = none → u ≠ p ∧ u ≠ q → Tots K (frz p q H') ys cs → (∀ c ∈ cs, LotI m c) → cs.length ≤ 12 → Q (.ref u) H'
theorem BlocksOk.three {m : Nat} {bs cs : List (List Int)} (h : BlocksOk m bs) (p : cs.Perm bs) {a b c : List Int} (ha : cs[0]? = some a) (hb : cs[1]? = some b) (hc : cs[2]? = some c) : Distinct m (a ++ b ++ c) := by
  refine ⟨M15.apart_three (M15.apart_perm p h.1) ha hb hc, fun x hx => ?_⟩
  rcases List.mem_append.mp hx with z | z
  · rcases List.mem_append.mp z with y | y
    · exact h.2.2.2 a (p.mem_iff.mp (List.mem_of_getElem? ha)) x y
    · exact h.2.2.2 b (p.mem_iff.mp (List.mem_of_getElem? hb)) x y
  · exact h.2.2.2 c (p.mem_iff.mp (List.mem_of_getElem? hc)) x z
theorem Gw.fs {p q F : Addr} {H : Hp} {ts : List Addr} {bs : List (List Int)} {m : Nat} (h : Gw p q H F ts bs) (k : ∀ b ∈ bs, LotI m b) : Fs m (frz p q H) (ts.map V.ref) := Fs.of h.ls.1 (by rw [h.ls.2]; exact k)
end CK
namespace K14
open PySem PySem.Spec PyProof.Rows L2 VG FR CK HD
abbrev s__law_totals : Stmt := topS 55
abbrev N__law_totals : List Str := ["heap", "many", "way", "blocks", "found", "share", "ring", "three", "some", "turn", "kind", "at"]
theorem sc__law_totals : FnScope N__law_totals ["heap", "many"] (defScope s__law_totals) := ⟨rfl, rfl, rfl, by decide +kernel, rfl, by decide +kernel, by decide +kernel⟩
section
variable {P : Program} {w : World} {K : PySem.W.Frag} {mg : Str → Option Value} {base : Heap}
theorem ok__law_totals {f : Addr} {fd : FuncData} (F : Fun K "_law_totals" "_law_totals" s__law_totals f fd) (C__law_draw : Cl P w K mg base 1 "_law_draw" spDraw) (C__law_pick : Cl P w K mg base 2 "_law_pick" (spPick K)) (C__law_shuffled : Cl P w K mg base 2 "_law_shuffled" (spShuffled K))
    (C__law_blocks : Cl P w K mg base 3 "_law_blocks" spBlocks) (C__law_tied : Cl P w K mg base 3 "_law_tied" spTied)
    (z_len : mg "len" = none) (z_int : mg "int" = none) (z_range : mg "range" = none) (z_sorted : mg "sorted" = none) (z_tuple : mg "tuple" = none) :
    FnOk P w K mg base CX0 4 f fd ["heap", "many"] (spTotals K) := by
  refine F.ok sc__law_totals (fun vs H Q E h => ?_) (fun cdv A outer s H vs Q E hr h => ?_)
  · obtain ⟨p, q, m, rfl, _⟩ := h
    rfl
  · obtain ⟨p, q, m, rfl, hd, m0, m1, fin⟩ := h
    refine ⟨_, (pss_cons (ps_par3 (i := 2) (j := 3) (l := 4) (by rfl) sc__law_totals.nd rfl rfl rfl (by decide) (by decide) (by decide) rfl rfl rfl (pa_cons (pe_cl C__law_pick hr (by decide) rfl (pa_cons (pv 0) (pa_cons (pe_lst (pa_cons pe_int (pa_cons pe_int (pa_cons pe_int (pa_cons pe_int (pa_cons pe_int pa_nil)))))) pa_nil))) (pa_cons (pe_cl C__law_blocks hr (by decide) rfl (pa_cons (pv 0) (pa_cons (pv 1) pa_nil))) (pa_cons (pe_lst pa_nil) pa_nil))) (by rfl))
    (pss_cut (ps_if (pt_cmpR op_eq (pv 2) pe_int (nomark _))
      (pss_cons (ps_set (i := 5) sc__law_totals.nd rfl (.inr rfl) (pe_cl C__law_pick hr (by decide) rfl (pa_cons (pv 0) (pa_cons (pe_lst (pa_cons pe_int (pa_cons pe_int (pa_cons pe_int pa_nil)))) pa_nil))))
      (pss_one (ps_setLc (i := 4) (own := [("turn", 9)]) (by rfl) sc__law_totals.nd rfl rfl (sw_true rfl rfl rfl (by decide +kernel)) (pi_range1 (by rfl) z_range (pa_cons (pe_cl C__law_draw hr (by decide) rfl (pa_cons (pv 0) (pa_cons pe_int pa_nil))) pa_nil)) (blkOk_by (own := [("turn", 9)]) (N := N__law_totals) (sc := defScope s__law_totals) (by decide +kernel)) (fun _ _ _ _ _ => (pg_name (i := 9) sc__law_totals.nd rfl (.inl rfl))) (fun _ _ _ _ _ => pts_nil) (fun _ _ _ _ _ => (pe_lc (own := [("kind", 10)]) (by rfl) sc__law_totals.nd (pi_range1 (by rfl) z_range (pa_cons (pv 1) pa_nil)) (blkOk_by (own := [("kind", 10)]) (N := N__law_totals) (sc := { kind := .function, names := [((".0" : String), .local), (("turn" : String), .local), (("range" : String), .globalImplicit), (("heap" : String), .cell), (("many" : String), .cell), (("share" : String), .cell)], isGenerator := false, isCoroutine := false }) (by decide +kernel)) (fun _ _ _ _ _ => (pg_name (i := 10) sc__law_totals.nd rfl (.inl rfl))) (fun _ _ _ _ _ => (pts_one (pt_cmpR op_eq (pe_cl C__law_draw hr (by decide) rfl (pa_cons (pv 0) (pa_cons (pv 5) pa_nil))) pe_int (nomark _)))) (fun _ _ _ _ _ => (pv 10)))))))
      pss_nil)
    (pss_cut (ps_if (pt_cmpR op_gt (pv 2) pe_int (nomark _))
      (pss_one (ps_set (i := 4) sc__law_totals.nd rfl (.inl rfl) (pe_cl C__law_tied hr (by decide) rfl (pa_cons (pv 0) (pa_cons (pv 3) (pa_cons (pe_cl C__law_draw hr (by decide) rfl (pa_cons (pv 0) (pa_cons pe_int pa_nil))) pa_nil))))))
      pss_nil)
    (pss_cut (ps_if (PW.pt (pw_and (pt_cmpR op_eq (pv 2) pe_int (nomark _)) (pw_and1 (pt_cmpR op_gt (pe_callB call_len_seq (by rfl) z_len (by decide +kernel) (pa_cons (pv 3) pa_nil)) pe_int (nomark _)))))
      (pss_cons (ps_set (i := 6) sc__law_totals.nd rfl (.inr rfl) (pe_slice sl_list (pe_cl C__law_shuffled hr (by decide) rfl (pa_cons (pv 0) (pa_cons (pv 3) pa_nil))) po_none (po_some (pe_op op_add pe_int (pe_cl C__law_draw hr (by decide) rfl (pa_cons (pv 0) (pa_cons pe_int pa_nil)))))))
      (pss_one (ps_set (i := 4) sc__law_totals.nd rfl (.inl rfl) (pe_op op_cat (pe_slice sl_list (pv 4) po_none (po_some pe_int)) (pe_lc (own := [("at", 11)]) (by rfl) sc__law_totals.nd (pi_range1 (by rfl) z_range (pa_cons (pe_callB call_len_seq (by rfl) z_len (by decide +kernel) (pa_cons (pv 6) pa_nil)) pa_nil)) (blkOk_by (own := [("at", 11)]) (N := N__law_totals) (sc := defScope s__law_totals) (by decide +kernel)) (fun _ _ _ _ _ => (pg_name (i := 11) sc__law_totals.nd rfl (.inl rfl))) (fun _ _ _ _ _ => pts_nil) (fun _ _ _ _ _ => (pe_callB (show CallR _ (.builtin "sorted") (rSorted K) from cr_sorted) (by rfl) z_sorted (by decide +kernel) (pa_cons (pe_op op_cat (pe_ix (show IxR _ (rIxL K) from ix_list) (pv 6) (pv 11) (fun _ _ => rfl)) (pe_ix (show IxR _ (rIxL K) from ix_list) (pv 6) (pe_op op_modN (pe_callTy call_int1 (by rfl) z_int (by decide +kernel) (pa_cons (pe_op op_add (pv 11) pe_int) pa_nil)) (pe_callB (show CallR _ (.builtin "len") (rLenK K) from call_lenK) (by rfl) z_len (by decide +kernel) (pa_cons (pv 6) pa_nil))) (fun _ _ => rfl))) pa_nil))))))))
      pss_nil)
    (pss_cut (ps_if (PW.pt (pw_and (pt_cmpR op_eq (pv 2) pe_int (nomark _)) (pw_and1 (pt_cmpR op_gt (pe_callB call_len_seq (by rfl) z_len (by decide +kernel) (pa_cons (pv 3) pa_nil)) pe_int (nomark _)))))
      (pss_cons (ps_set (i := 7) sc__law_totals.nd rfl (.inl rfl) (pe_slice sl_list (pe_cl C__law_shuffled hr (by decide) rfl (pa_cons (pv 0) (pa_cons (pv 3) pa_nil))) po_none (po_some pe_int)))
      (pss_one (ps_set (i := 4) sc__law_totals.nd rfl (.inl rfl) (pe_op op_cat (pe_slice sl_list (pv 4) po_none (po_some pe_int)) (pe_lst (pa_cons (pe_callB cr_sorted (by rfl) z_sorted (by decide +kernel) (pa_cons (pe_op op_cat (pe_op op_cat (pe_ix ix_list (pv 7) pe_int (fun _ _ => rfl)) (pe_ix ix_list (pv 7) pe_int (fun _ _ => rfl))) (pe_ix ix_list (pv 7) pe_int (fun _ _ => rfl))) pa_nil)) pa_nil))))))
      pss_nil)
    (pss_cut (ps_if (pt_cmpR op_eq (pe_cl C__law_draw hr (by decide) rfl (pa_cons (pv 0) (pa_cons pe_int pa_nil))) pe_int (nomark _))
      (pss_one (ps_set (i := 4) sc__law_totals.nd rfl (.inl rfl) (pe_op op_cat (pe_slice sl_list (pv 4) po_none (po_some pe_int)) (pe_lst (pa_cons (pe_cl C__law_pick hr (by decide) rfl (pa_cons (pv 0) (pa_cons (pe_op op_cat (pv 4) (pe_lst (pa_cons (pe_lst pa_nil) pa_nil))) pa_nil))) pa_nil)))))
      pss_nil)
    (pss_one (ps_ret (pe_lc (own := [("some", 8)]) (by rfl) sc__law_totals.nd (pi_list (pe_cl C__law_shuffled hr (by decide) rfl (pa_cons (pv 0) (pa_cons (pe_slice sl_list (pv 4) po_none (po_some pe_int)) pa_nil)))) (blkOk_by (own := [("some", 8)]) (N := N__law_totals) (sc := defScope s__law_totals) (by decide +kernel)) (fun _ _ _ _ _ => (pg_name (i := 8) sc__law_totals.nd rfl (.inl rfl))) (fun _ _ _ _ _ => pts_nil) (fun _ _ _ _ _ => (pe_callTy (show CallR _ (.type "tuple") (rTupOf K) from call_tupK) (by rfl) z_tuple (by decide +kernel) (pa_cons (pv 8) pa_nil)))))))))))), ?_⟩
    have on0 := On.start hd
    refine ⟨_, rfl, by show 5 ≤ sizeLine; decide, fun L nL => ?_⟩
    have fL := on0.free nL
    have on1 := on0.new (o := .lst [.int 0, .int 1, .int 1, .int 2, .int 3]) nL
    have kL := upd_same (H := H) (a := L) (o := .lst [.int 0, .int 1, .int 1, .int 2, .int 3])
    generalize L2.upd H L (.lst [.int 0, .int 1, .int 1, .int 2, .int 3]) = H1 at on1 kL ⊢
    refine ⟨p, q, L, _, rfl, on1.hd, kL, fL.1, fL.2.1, by simp, by show 5 < 1000000; decide, fun H2 v hd2 kp2 hv => ?_⟩
    have on2 := on1.draw hd2 kp2
    have hw : ∃ w : Int, v = .int w := by
      have : v = .int 0 ∨ v = .int 1 ∨ v = .int 1 ∨ v = .int 2 ∨ v = .int 3 := by simpa using hv
      rcases this with z | z | z | z | z <;> exact ⟨_, z⟩
    obtain ⟨w, rfl⟩ := hw
    refine ⟨_, rfl, _, rfl, p, q, m, rfl, on2.hd, m0, m1, fun H3 B xs on3' kB _ fB lsx bo => ?_⟩
    have on3 := on2.draw on3'.hd on3'.keep
    refine ⟨by show 0 ≤ sizeLine; exact Nat.zero_le _, fun D nD => ?_⟩
    have fD := on3.free nD
    have on4 := on3.new (o := .lst []) nD
    have sD := same_upd (o := .lst []) nD
    have kD := upd_same (H := H3) (a := D) (o := .lst [])
    have kB4 := sD _ _ kB
    generalize L2.upd H3 D (.lst []) = H4 at on4 sD kD kB4 ⊢
    have in4 : InF p q (frz p q H) m B D H4 := by
      have s : Same (frz p q H3) (frz p q H4) := fun b o e => frz_at (sD _ _ (frz_cases e).2.2) ⟨(frz_cases e).1, (frz_cases e).2.1⟩
      have ls4 := lsx.mono s
      exact ⟨on4, fB, ⟨fD.1, fD.2.1⟩, xs, [], kB4, kD, ls4.1, by rw [ls4.2]; exact bo, fun v h => (by cases h), Nat.zero_le _⟩
    have free0 : ∀ {b : Addr}, frz p q H b = none → b ≠ p ∧ b ≠ q → H b = none := fun h n => frz_none h n
    generalize hG : frz p q H = G at in4 fin free0
    clear on0 on1 on2 on3 on3' on4 kD kB kB4 lsx bo sD kL
    refine ⟨_, _, _, rfl, ?_⟩
    let St := fun (σ : L2.St) (H' : Hp) => ∃ (D : Addr) (y5 y6 y7 : Option V), σ = [some (.ref p), some (.int m), some (.int w), some (.ref B), some (.ref D), y5, y6, y7, none, none, none, none] ∧ InF p q G m B D H'
    -- lots of drawn kinds
    refine ⟨St, ?_, ?_⟩
    · refine ⟨_, rfl, rfl, _, rfl, ite2 (fun _ => ?_) (fun _ => ⟨D, _, _, _, rfl, in4⟩)⟩
      have on4 := (in4.1.base).1
      refine ⟨_, rfl, by show 3 ≤ sizeLine; decide, fun L2a n2 => ?_⟩
      have f2 := on4.free n2
      have on5 := on4.new (o := .lst [.int 2, .int 2, .int 3]) n2
      have k2 := upd_same (H := H4) (a := L2a) (o := .lst [.int 2, .int 2, .int 3])
      generalize L2.upd H4 L2a (.lst [.int 2, .int 2, .int 3]) = H5 at on5 k2 ⊢
      refine ⟨p, q, L2a, _, rfl, on5.hd, k2, f2.1, f2.2.1, by simp, by show 3 < 1000000; decide, fun H6 v hd6 kp6 hv => ?_⟩
      have on6 := on5.draw hd6 kp6
      have hw : ∃ w : Int, v = .int w ∧ 2 ≤ w ∧ w ≤ 3 := by
        have : v = .int 2 ∨ v = .int 2 ∨ v = .int 3 := by simpa using hv
        rcases this with z | z | z <;> exact ⟨_, z, by decide, by decide⟩
      obtain ⟨sh, rfl, sh1, sh2⟩ := hw
      refine ⟨_, rfl, p, q, _, rfl, on6.hd, by decide, by decide, fun H7 r hd7 kp7 r0 r1 => ?_⟩
      have on7 := on6.draw hd7 kp7
      refine ⟨_, rfl, by omega, by omega, fun Z nZ => ?_⟩
      have fZ := on7.free nZ
      refine lc_it (walk_range (lo := 0) (n := r.toNat)) (fun i H' => On p q (frz p q H4) H' ∧ ∃ ts bs, Gw p q H' Z ts bs ∧ bs.length = i ∧ ∀ b ∈ bs, LotI m b) ⟨on7.new nZ, [], [], Gw.nil upd_same, rfl, fun b h => by cases h⟩ (fun _ _ _ _ => trivial) ?_ ?_
      · rintro i x H8 H9 hi ⟨on8, ts, bs, gw, lb, ok⟩ ⟨rfl, rfl⟩
        have hi2 : i < r.toNat := hi
        refine ⟨rfl, _, rfl, _, rfl, by omega, by omega, fun T nT => ?_⟩
        have fT := on8.free nT
        have nTZ : T ≠ Z := (ne_of_none gw.1 nT).symm
        have avT : ∀ t ∈ ts, t ≠ T := fun t ht => by
          obtain ⟨b, _, k⟩ := gw.2.1.at_ ht
          exact ne_of_none k nT
        refine lc_it (walk_range (lo := 0) (n := ((m : Nat) : Int).toNat)) (fun j H' => On p q (frz p q H4) H' ∧ Gw p q H' Z ts bs ∧ ∃ c : List Int, H' T = some (.lst (c.map V.int)) ∧ c.Pairwise (· < ·) ∧ ∀ x ∈ c, 0 ≤ x ∧ x < (j : Int)) ⟨on8.new nT, gw.same (same_upd nT), [], upd_same, List.Pairwise.nil, fun x h => by cases h⟩ (fun _ _ _ _ => trivial) ?_ ?_
        · rintro j x H10 H11 hj ⟨on10, gw10, c, kT, pw, lo⟩ ⟨rfl, rfl⟩
          have hj2 : j < ((m : Nat) : Int).toNat := hj
          have z1 : (0 : Int) + (j : Nat) = ((j : Nat) : Int) := Int.zero_add _
          refine ⟨rfl, _, rfl, _, rfl, p, q, _, rfl, on10.hd, by omega, by omega, fun H12 a hd12 kp12 a0 a1 => ?_⟩
          have on12 := on10.draw hd12 kp12
          have gw12 := gw10.draw ⟨fZ.1, fZ.2.1⟩ kp12
          have kT12 := kp12 T _ fT.1 fT.2.1 kT
          refine ⟨rfl, _, rfl, ite2 (fun _ => ?_) (fun _ => ⟨on12, gw12, c, kT12, pw, fun x hx => (by have := lo x hx; omega)⟩)⟩
          have ps := pw_snoc pw lo
          have cl := below_len (List.Pairwise.imp (fun h => Int.ne_of_lt h) pw) lo
          refine ⟨_, rfl, _, kT12, ?_, on12.put fT, ⟨by rw [upd_ne nTZ.symm]; exact gw12.1, Blk.imp (fun t ht o k => by rw [upd_ne (avT t ht)]; exact k) gw12.2.1, gw12.2.2⟩, c ++ [(j : Int)], ?_, ps.1, ps.2⟩
          · rw [List.length_map]
            have : sizeLine = 16777216 := by decide
            omega
          · rw [upd_same]
            show some (HO.lst (c.map V.int ++ [V.int ((0 : Int) + (j : Nat))])) = _
            rw [z1, List.map_append]
            rfl
        · rintro H10 ⟨on10, gw10, c, kT, pw, lo⟩
          have lc : LotI m c := ⟨asc_pw pw, fun x hx => by have := lo x hx; omega⟩
          refine ⟨_, gw10.1, ?_, on10.put fZ, ts ++ [T], bs ++ [c], gw10.push kT ⟨nTZ, fT.1, fT.2.1⟩, by rw [List.length_append, lb]; rfl, fun b hb => ?_⟩
          · have := gw10.len
            rw [List.length_map]
            have : sizeLine = 16777216 := by decide
            omega
          · rcases List.mem_append.mp hb with z | z
            · exact ok b z
            · rw [List.mem_singleton.mp z]
              exact lc
      · rintro H8 ⟨on8, ts, bs, gw, lb, ok⟩
        refine ⟨Z, _, _, _, rfl, in4.step on8 ⟨fZ.1, fZ.2.1⟩ gw.1 (gw.fs ok) ?_⟩
        have := gw.len
        rw [List.length_map]
        omega
    clear in4
    -- tied blocks
    rintro σ H5 ⟨D5, y5, y6, y7, rfl, in5⟩
    refine ⟨St, ?_, ?_⟩
    · refine ⟨_, rfl, _, _, rfl, rfl, _, rfl, ite2 (fun _ => ?_) (fun _ => ⟨_, _, _, _, rfl, in5⟩)⟩
      obtain ⟨_, fB5, fD5, xs, ys, kB, kD, lsx, bo, fs, ly⟩ := id in5
      have on5 := (in5.1.base).1
      have GB := frz_at kB fB5
      refine ⟨_, rfl, _, rfl, _, rfl, p, q, _, rfl, on5.hd, by decide, by decide, fun H6 r hd6 kp6 r0 r1 => ?_⟩
      have on6 := on5.draw hd6 kp6
      obtain ⟨k, rfl⟩ := Int.eq_ofNat_of_zero_le r0
      have s6 := on6.base.2
      have ls6 := lsx.mono s6
      refine ⟨p, q, B, m, k, xs, rfl, on6.hd, on6.le _ _ GB, fB5.1, fB5.2, ls6.1, by rw [ls6.2]; exact bo, m1, by omega, fun H7 u zs on7' ku _ fu lz okz lenz => ?_⟩
      have on7 := on6.draw on7'.hd on7'.keep
      exact ⟨u, _, _, _, rfl, in5.step on7 fu ku (Fs.of lz okz) (by omega)⟩
    clear in5
    -- rings
    rintro σ H6 ⟨D6, y5, y6, y7, rfl, in6⟩
    refine ⟨St, ?_, ?_⟩
    · obtain ⟨_, fB6, fD6, xs, ys, kB, kD, lsx, bo, fs, ly⟩ := id in6
      refine ⟨_, rfl, rfl, _, rfl, ite2 (fun _ => ?_) (fun _ => ⟨_, _, _, _, rfl, in6⟩)⟩
      refine ⟨_, rfl, B, xs, rfl, .inl (.inl (.inl kB)), _, _, rfl, rfl, _, rfl, ite2 (fun big => ?_) (fun _ => ⟨_, _, _, _, rfl, in6⟩)⟩
      have big : 2 < xs.length := by have := of_decide_eq_true big; omega
      have on6 := (in6.1.base).1
      have GB := frz_at kB fB6
      have GD := frz_at kD fD6
      have l12 : xs.length ≤ 12 := by have := bo.2.2.1; rw [List.length_map] at this; exact this
      refine ⟨_, rfl, _, rfl, p, q, B, xs, rfl, on6.hd, kB, fB6.1, fB6.2, by omega, fun H7 R rs on7 _ fR kR pm => ?_⟩
      refine ⟨_, rfl, p, q, _, rfl, on7.hd, by decide, by decide, fun H8 r hd8 kp8 r0 r1 => ?_⟩
      have on8 := on7.draw hd8 kp8
      have kR8 := kp8 R _ fR.1 fR.2 kR
      obtain ⟨e, rfl⟩ := Int.eq_ofNat_of_zero_le r0
      have z3 : (3 : Int) + ((e : Nat) : Int) = ((3 + e : Nat) : Int) := by omega
      refine ⟨_, _, rfl, rfl, _, rfl, R, rs, rfl, .inl (.inl kR8), fun Rg nRg => ?_⟩
      rw [z3, cut0]
      have fRg := on8.free nRg
      have on9 := on8.new (o := .lst (rs.take (3 + e))) nRg
      have kRg := upd_same (H := H8) (a := Rg) (o := .lst (rs.take (3 + e)))
      generalize L2.upd H8 Rg (.lst (rs.take (3 + e))) = H9 at on9 kRg ⊢
      have lsr : Ls (frz p q H6) rs := lsx.perm pm
      have pmr := pm.map (rd (frz p q H6))
      have lr := pm.length_eq
      have n3 : 3 ≤ (rs.take (3 + e)).length := by rw [List.length_take]; omega
      have n7 : (rs.take (3 + e)).length ≤ 12 := by rw [List.length_take]; omega
      have tk : ∀ j : Nat, j < (rs.take (3 + e)).length → (rs.take (3 + e))[j]? = rs[j]? := fun j hj => by
        rw [List.getElem?_take]
        rw [List.length_take] at hj
        rw [if_pos (by omega)]
      generalize hn : rs.take (3 + e) = rg at n3 n7 tk kRg
      -- the first five
      refine ⟨_, rfl, _, rfl, D6, ys, rfl, .inl (.inl (on9.le _ _ GD)), fun S nS => ?_⟩
      rw [show cutV ys none (some (5 : Int)) = ys.take 5 from cut0 5]
      have fS := on9.free nS
      have on10 := on9.new (o := .lst (ys.take 5)) nS
      have s10 := same_upd (o := .lst (ys.take 5)) nS
      have kS := upd_same (H := H9) (a := S) (o := .lst (ys.take 5))
      have kRg10 := s10 _ _ kRg
      generalize L2.upd H9 S (.lst (ys.take 5)) = H10 at on10 kS kRg10 ⊢
      refine ⟨_, rfl, Rg, rg, rfl, .inl (.inl (.inl kRg10)), _, rfl, by omega, by omega, fun Z nZ => ?_⟩
      have fZ := on10.free nZ
      refine lc_it (walk_range (lo := 0) (n := ((rg.length : Nat) : Int).toNat)) (fun i H' => On p q (frz p q H6) H' ∧ Same H10 H' ∧ ∃ ts bs, Gw p q H' Z ts bs ∧ bs.length = i ∧ ∀ b ∈ bs, LotI m b) ⟨on10.new nZ, same_upd nZ, [], [], Gw.nil upd_same, rfl, fun b h => by cases h⟩ (fun _ _ _ _ => trivial) ?_ ?_
      · rintro i x H11 H12 hi ⟨on11, s11, ts, bs, gw, lb, ok⟩ ⟨rfl, rfl⟩
        have hi2 : i < rg.length := by have : i < ((rg.length : Nat) : Int).toNat := hi; omega
        have hj2 : (i + 1) % rg.length < rg.length := Nat.mod_lt _ (by omega)
        have ne : i ≠ (i + 1) % rg.length := by
          rcases Nat.lt_or_ge (i + 1) rg.length with z | z
          · rw [Nat.mod_eq_of_lt z]; omega
          · have : i + 1 = rg.length := by omega
            rw [this, Nat.mod_self]
            omega
        have ir : i < rs.length := by rw [← hn, List.length_take] at hi2; omega
        have jr : (i + 1) % rg.length < rs.length := by
          have : rg.length ≤ rs.length := by rw [← hn, List.length_take]; omega
          omega
        have e1 : rg[i]? = some rs[i] := by rw [tk i hi2]; exact List.getElem?_eq_getElem ir
        have e2 : rg[(i + 1) % rg.length]? = some rs[(i + 1) % rg.length] := by rw [tk _ hj2]; exact List.getElem?_eq_getElem jr
        obtain ⟨t1, v1, g1⟩ := (lsr _ (List.getElem_mem ir)).get
        obtain ⟨t2, v2, g2⟩ := (lsr _ (List.getElem_mem jr)).get
        have q1 : (rs.map (rd (frz p q H6)))[i]? = some (rd (frz p q H6) rs[i]) := by rw [List.getElem?_map, List.getElem?_eq_getElem ir]; rfl
        have q2 : (rs.map (rd (frz p q H6)))[(i + 1) % rg.length]? = some (rd (frz p q H6) rs[(i + 1) % rg.length]) := by rw [List.getElem?_map, List.getElem?_eq_getElem jr]; rfl
        have dd := bo.two pmr q1 q2 ne
        rw [v1] at e1
        rw [v2] at e2
        generalize rd (frz p q H6) rs[i] = c1 at *
        generalize rd (frz p q H6) rs[(i + 1) % rg.length] = c2 at *
        have z1 : (0 : Int) + (i : Nat) = ((i : Nat) : Int) := Int.zero_add _
        have z2 : (0 : Int) + (i : Nat) + 1 = ((i + 1 : Nat) : Int) := by omega
        have dl := dd.len
        rw [List.length_append] at dl
        have kr := s11 _ _ kRg10
        refine ⟨rfl, _, rfl, _, rfl, Rg, rg, _, _, rfl, rfl, .inl (.inl kr), by rw [z1]; exact atI_nat e1, _, rfl, _, rfl, _, _, rfl, rfl, .inl ⟨_, rfl, _, rfl, Rg, rg, rfl, .inl (.inl (.inl kr)), _, _, rfl, rfl, by show ((rg.length : Nat) : Int) ≠ 0; omega, Rg, rg, _, _, rfl, rfl, .inl (.inl kr), by rw [z2, fmod_nat _ (by omega)]; exact atI_nat e2, ?_⟩⟩
        refine ⟨t1, t2, _, _, rfl, rfl, on11.le _ _ g1, on11.le _ _ g2, ?_, fun t nt => ?_⟩
        · rw [List.length_map, List.length_map]
          have : sizeLine = 16777216 := by decide
          omega
        have st := same_upd (o := .lst (c1.map V.int ++ c2.map V.int)) nt
        have on12 := on11.new (o := .lst (c1.map V.int ++ c2.map V.int)) nt
        refine ⟨t, c1 ++ c2, rfl, .inl (.inl (by rw [upd_same, List.map_append])), by rw [List.length_append]; omega, fun d U pm2 so nU => ?_⟩
        have fU := on12.free nU
        have sU := same_upd (o := .lst (d.map V.int)) nU
        have gw2 := (gw.same st).same sU
        have on13 := on12.new (o := .lst (d.map V.int)) nU
        have nUZ : U ≠ Z := (ne_of_none (st _ _ gw.1) nU).symm
        refine ⟨_, gw2.1, ?_, on13.put fZ, ?_, ts ++ [U], bs ++ [d], gw2.push upd_same ⟨nUZ, fU.1, fU.2.1⟩, by rw [List.length_append, lb]; rfl, fun b hb => ?_⟩
        · have := gw.len
          rw [List.length_map]
          have : sizeLine = 16777216 := by decide
          omega
        · intro b o hb
          rw [upd_ne (ne_of_none hb nZ)]
          exact sU _ _ (st _ _ (s11 b o hb))
        · rcases List.mem_append.mp hb with z | z
          · exact ok b z
          · rw [List.mem_singleton.mp z]
            exact lot_sorted pm2 so dd.1 dd.2
      · rintro H11 ⟨on11, s11, ts, bs, gw, lb, ok⟩
        have lt := gw.len
        refine ⟨S, Z, _, _, rfl, rfl, s11 _ _ kS, gw.1, ?_, fun N nN => ?_⟩
        · rw [List.length_map]
          have : sizeLine = 16777216 := by decide
          have : (ys.take 5).length ≤ 5 := by rw [List.length_take]; omega
          omega
        have fN := on11.free nN
        have on12 := on11.new (o := .lst (ys.take 5 ++ ts.map V.ref)) nN
        have sN := same_upd (o := .lst (ys.take 5 ++ ts.map V.ref)) nN
        refine ⟨N, _, _, _, rfl, in6.step on12 ⟨fN.1, fN.2.1⟩ upd_same (Fs.app (Fs.sub (fs.mono on12.base.2) (fun v hv => List.mem_of_mem_take hv)) ((gw.same sN).fs ok)) ?_⟩
        rw [List.length_append, List.length_map, List.length_take]
        omega
    clear in6
    -- three at once
    rintro σ H6 ⟨D6, y5, y6, y7, rfl, in6⟩
    refine ⟨St, ?_, ?_⟩
    · obtain ⟨_, fB6, fD6, xs, ys, kB, kD, lsx, bo, fs, ly⟩ := id in6
      refine ⟨_, rfl, rfl, _, rfl, ite2 (fun _ => ?_) (fun _ => ⟨_, _, _, _, rfl, in6⟩)⟩
      refine ⟨_, rfl, B, xs, rfl, .inl (.inl (.inl kB)), _, _, rfl, rfl, _, rfl, ite2 (fun big => ?_) (fun _ => ⟨_, _, _, _, rfl, in6⟩)⟩
      have big : 2 < xs.length := by have := of_decide_eq_true big; omega
      have on6 := (in6.1.base).1
      have GB := frz_at kB fB6
      have GD := frz_at kD fD6
      have l12 : xs.length ≤ 12 := by have := bo.2.2.1; rw [List.length_map] at this; exact this
      refine ⟨_, rfl, _, rfl, p, q, B, xs, rfl, on6.hd, kB, fB6.1, fB6.2, by omega, fun H7 R rs on7 _ fR kR pm => ?_⟩
      refine ⟨_, rfl, R, rs, rfl, .inl (.inl kR), fun T nT => ?_⟩
      rw [show cutV rs none (some (3 : Int)) = rs.take 3 from cut0 3]
      have on8 := on7.new (o := .lst (rs.take 3)) nT
      have kT := upd_same (H := H7) (a := T) (o := .lst (rs.take 3))
      generalize L2.upd H7 T (.lst (rs.take 3)) = H8 at on8 kT ⊢
      have lsr : Ls (frz p q H6) rs := lsx.perm pm
      have pmr := pm.map (rd (frz p q H6))
      have lr := pm.length_eq
      have at3 : ∀ j : Nat, j < 3 → ∃ t c, (rs.take 3)[j]? = some (.ref t) ∧ frz p q H6 t = some (.lst (c.map V.int)) ∧ (rs.map (rd (frz p q H6)))[j]? = some c := by
        intro j hj
        have jl : j < rs.length := by omega
        obtain ⟨t, v, g⟩ := (lsr _ (List.getElem_mem jl)).get
        refine ⟨t, _, ?_, g, by rw [List.getElem?_map, List.getElem?_eq_getElem jl]; rfl⟩
        rw [List.getElem?_take, if_pos hj, List.getElem?_eq_getElem jl, v]
      obtain ⟨t0, c0, e0, g0, q0⟩ := at3 0 (by decide)
      obtain ⟨t1, c1, e1, g1, q1⟩ := at3 1 (by decide)
      obtain ⟨t2, c2, e2, g2, q2⟩ := at3 2 (by decide)
      have dd := bo.three pmr q0 q1 q2
      have dl := dd.len
      rw [List.length_append, List.length_append] at dl
      generalize rs.take 3 = tr at kT e0 e1 e2
      refine ⟨_, rfl, _, rfl, D6, ys, rfl, .inl (.inl (on8.le _ _ GD)), fun S nS => ?_⟩
      rw [show cutV ys none (some (9 : Int)) = ys.take 9 from cut0 9]
      have on9 := on8.new (o := .lst (ys.take 9)) nS
      have s9 := same_upd (o := .lst (ys.take 9)) nS
      have kS := upd_same (H := H8) (a := S) (o := .lst (ys.take 9))
      have kT9 := s9 _ _ kT
      generalize L2.upd H8 S (.lst (ys.take 9)) = H9 at on9 kS kT9 ⊢
      have big2 : sizeLine = 16777216 := by decide
      refine ⟨_, rfl, T, tr, _, _, rfl, rfl, .inl (.inl kT9), atI_nat e0, _, rfl, T, tr, _, _, rfl, rfl, .inl (.inl kT9), atI_nat e1, t0, t1, _, _, rfl, rfl, on9.le _ _ g0, on9.le _ _ g1, by rw [List.length_map, List.length_map]; omega, fun X1 n1 => ?_⟩
      have on10 := on9.new (o := .lst (c0.map V.int ++ c1.map V.int)) n1
      have s10 := same_upd (o := .lst (c0.map V.int ++ c1.map V.int)) n1
      have k1 := upd_same (H := H9) (a := X1) (o := .lst (c0.map V.int ++ c1.map V.int))
      have kT10 := s10 _ _ kT9
      have kS10 := s10 _ _ kS
      generalize L2.upd H9 X1 (.lst (c0.map V.int ++ c1.map V.int)) = H10 at on10 k1 kT10 kS10 ⊢
      refine ⟨_, rfl, T, tr, _, _, rfl, rfl, .inl (.inl kT10), atI_nat e2, X1, t2, _, _, rfl, rfl, k1, on10.le _ _ g2, by rw [List.length_append, List.length_map, List.length_map, List.length_map]; omega, fun X2 n2 => ?_⟩
      have on11 := on10.new (o := .lst (c0.map V.int ++ c1.map V.int ++ c2.map V.int)) n2
      have s11 := same_upd (o := .lst (c0.map V.int ++ c1.map V.int ++ c2.map V.int)) n2
      have k2 := upd_same (H := H10) (a := X2) (o := .lst (c0.map V.int ++ c1.map V.int ++ c2.map V.int))
      have kS11 := s11 _ _ kS10
      generalize L2.upd H10 X2 (.lst (c0.map V.int ++ c1.map V.int ++ c2.map V.int)) = H11 at on11 k2 kS11 ⊢
      rw [← List.map_append, ← List.map_append] at k2
      refine ⟨X2, c0 ++ c1 ++ c2, rfl, .inl (.inl k2), by rw [List.length_append, List.length_append]; omega, fun d U pm2 so nU => ?_⟩
      have fU := on11.free nU
      have on12 := on11.new (o := .lst (d.map V.int)) nU
      have s12 := same_upd (o := .lst (d.map V.int)) nU
      have kU := upd_same (H := H11) (a := U) (o := .lst (d.map V.int))
      have kS12 := s12 _ _ kS11
      generalize L2.upd H11 U (.lst (d.map V.int)) = H12 at on12 kU kS12 ⊢
      refine ⟨by show 1 ≤ sizeLine; decide, fun Y nY => ?_⟩
      have on13 := on12.new (o := .lst [.ref U]) nY
      have s13 := same_upd (o := .lst [.ref U]) nY
      have kY := upd_same (H := H12) (a := Y) (o := .lst [.ref U])
      have kS13 := s13 _ _ kS12
      have kU13 := s13 _ _ kU
      generalize L2.upd H12 Y (.lst [.ref U]) = H13 at on13 kY kS13 kU13 ⊢
      refine ⟨S, Y, _, _, rfl, rfl, kS13, kY, by rw [List.length_take]; show _ + 1 ≤ _; omega, fun N nN => ?_⟩
      have fN := on13.free nN
      have on14 := on13.new (o := .lst (ys.take 9 ++ [.ref U])) nN
      have s14 := same_upd (o := .lst (ys.take 9 ++ [.ref U])) nN
      refine ⟨N, _, _, _, rfl, in6.step on14 ⟨fN.1, fN.2.1⟩ upd_same (Fs.app (Fs.sub (fs.mono on14.base.2) (fun v hv => List.mem_of_mem_take hv)) (fun v hv => ?_)) (by rw [List.length_append, List.length_take]; show _ + 1 ≤ _; omega)⟩
      rw [List.mem_singleton.mp hv]
      have kz := frz_at (p := p) (q := q) (s14 _ _ kU13) ⟨fU.1, fU.2.1⟩
      exact ⟨⟨U, d, rfl, kz⟩, by rw [rd_eq kz]; exact lot_sorted pm2 so dd.1 dd.2⟩
    clear in6
    -- one twice
    rintro σ H6 ⟨D6, y5, y6, y7, rfl, in6⟩
    refine ⟨St, ?_, ?_⟩
    · obtain ⟨_, fB6, fD6, xs, ys, kB, kD, lsx, bo, fs, ly⟩ := id in6
      have on6 := (in6.1.base).1
      have GD := frz_at kD fD6
      have big2 : sizeLine = 16777216 := by decide
      refine ⟨_, rfl, p, q, _, rfl, on6.hd, by decide, by decide, fun H7 r hd7 kp7 r0 r1 => ?_⟩
      have on7 := on6.draw hd7 kp7
      refine ⟨rfl, _, rfl, ite2 (fun _ => ?_) (fun _ => ⟨_, _, _, _, rfl, in6.step on7 fD6 (on7.le _ _ GD) (fs.mono on7.base.2) ly⟩)⟩
      refine ⟨_, rfl, _, rfl, D6, ys, rfl, .inl (.inl (on7.le _ _ GD)), fun S nS => ?_⟩
      rw [show cutV ys none (some (11 : Int)) = ys.take 11 from cut0 11]
      have fS := on7.free nS
      have on9 := on7.new (o := .lst (ys.take 11)) nS
      have kS := upd_same (H := H7) (a := S) (o := .lst (ys.take 11))
      generalize L2.upd H7 S (.lst (ys.take 11)) = H9 at on9 kS ⊢
      refine ⟨_, rfl, _, rfl, by show 0 ≤ sizeLine; exact Nat.zero_le _, fun E1 n1 => ?_⟩
      have f1 := on9.free n1
      have on10 := on9.new (o := .lst []) n1
      have s10 := same_upd (o := .lst []) n1
      have k1 := upd_same (H := H9) (a := E1) (o := .lst [])
      have kS10 := s10 _ _ kS
      generalize L2.upd H9 E1 (.lst []) = H10 at on10 k1 kS10 ⊢
      refine ⟨by show 1 ≤ sizeLine; decide, fun E2 n2 => ?_⟩
      have on11 := on10.new (o := .lst [.ref E1]) n2
      have s11 := same_upd (o := .lst [.ref E1]) n2
      have k2 := upd_same (H := H10) (a := E2) (o := .lst [.ref E1])
      have kS11 := s11 _ _ kS10
      have k11 := s11 _ _ k1
      generalize L2.upd H10 E2 (.lst [.ref E1]) = H11 at on11 k2 kS11 k11 ⊢
      refine ⟨D6, E2, _, _, rfl, rfl, on11.le _ _ GD, k2, by show _ + 1 ≤ _; omega, fun X nX => ?_⟩
      have fX := on11.free nX
      have on12 := on11.new (o := .lst (ys ++ [.ref E1])) nX
      have s12 := same_upd (o := .lst (ys ++ [.ref E1])) nX
      have kX := upd_same (H := H11) (a := X) (o := .lst (ys ++ [.ref E1]))
      have kS12 := s12 _ _ kS11
      have k12 := s12 _ _ k11
      generalize L2.upd H11 X (.lst (ys ++ [.ref E1])) = H12 at on12 kX kS12 k12 ⊢
      refine ⟨p, q, X, _, rfl, on12.hd, kX, fX.1, fX.2.1, by simp, by rw [List.length_append]; show _ + 1 < _; omega, fun H13 v hd13 kp13 hv => ?_⟩
      have on13 := on12.draw hd13 kp13
      have kS13 := kp13 S _ fS.1 fS.2.1 kS12
      have k13 := kp13 E1 _ f1.1 f1.2.1 k12
      refine ⟨by show 1 ≤ sizeLine; decide, fun Y nY => ?_⟩
      have on14 := on13.new (o := .lst [v]) nY
      have s14 := same_upd (o := .lst [v]) nY
      have kY := upd_same (H := H13) (a := Y) (o := .lst [v])
      have kS14 := s14 _ _ kS13
      have k14 := s14 _ _ k13
      generalize L2.upd H13 Y (.lst [v]) = H14 at on14 kY kS14 k14 ⊢
      refine ⟨S, Y, _, _, rfl, rfl, kS14, kY, by rw [List.length_take]; show _ + 1 ≤ _; omega, fun N nN => ?_⟩
      have fN := on14.free nN
      have on15 := on14.new (o := .lst (ys.take 11 ++ [v])) nN
      have s15 := same_upd (o := .lst (ys.take 11 ++ [v])) nN
      refine ⟨N, _, _, _, rfl, in6.step on15 ⟨fN.1, fN.2.1⟩ upd_same (Fs.app (Fs.sub (fs.mono on15.base.2) (fun v hv => List.mem_of_mem_take hv)) (fun u hu => ?_)) (by rw [List.length_append, List.length_take]; show _ + 1 ≤ _; omega)⟩
      rw [List.mem_singleton.mp hu]
      rcases List.mem_append.mp hv with z | z
      · exact fs.mono on15.base.2 v z
      · obtain rfl := List.mem_singleton.mp z
        have kz := frz_at (p := p) (q := q) (s15 _ _ k14) ⟨f1.1, f1.2.1⟩
        exact ⟨⟨E1, [], rfl, kz⟩, by rw [rd_eq (c := []) kz]; exact ⟨trivial, fun x h => by cases h⟩⟩
    clear in6
    -- tuples of them
    rintro σ H6 ⟨D6, y5, y6, y7, rfl, in6⟩
    obtain ⟨onG, fB6, fD6, xs, ys, kB, kD, lsx, bo, fs, ly⟩ := id in6
    have on6 := (in6.1.base).1
    have sG := onG.base.2
    have GD := frz_at kD fD6
    have big2 : sizeLine = 16777216 := by decide
    refine ⟨_, rfl, _, rfl, _, rfl, D6, ys, rfl, .inl (.inl kD), fun S nS => ?_⟩
    rw [show cutV ys none (some (12 : Int)) = ys.take 12 from cut0 12]
    have fS := on6.free nS
    have on7 := on6.new (o := .lst (ys.take 12)) nS
    have kS := upd_same (H := H6) (a := S) (o := .lst (ys.take 12))
    generalize L2.upd H6 S (.lst (ys.take 12)) = H7 at on7 kS ⊢
    have lt12 : (ys.take 12).length ≤ 12 := by rw [List.length_take]; omega
    refine ⟨p, q, S, _, rfl, on7.hd, kS, fS.1, fS.2.1, by omega, fun H8 R rs on8' _ fR kR pm => ?_⟩
    have on8 := on7.draw on8'.hd on8'.keep
    have fsr : Fs m (frz p q H6) rs := fs.sub fun v hv => List.mem_of_mem_take (pm.mem_iff.mp hv)
    have lr := pm.length_eq
    refine ⟨R, rfl, ⟨_, .inl (.inl kR)⟩, fun M nM => ?_⟩
    have fM := on8.free nM
    refine lc_it (walk_list (K := K) (a := R) (xs := rs)) (fun i H' => On p q (frz p q H6) H' ∧ Same H8 H' ∧ ∃ zs, H' M = some (.lst zs) ∧ Tots K H' zs ((rs.map (rd (frz p q H6))).take i) ∧ zs.length = i) ⟨on8.new nM, same_upd nM, [], upd_same, trivial, rfl⟩ (fun i H' _ h => h.2.1.seq (.inl (.inl kR))) ?_ ?_
    · rintro i x H9 H10 hi ⟨on9, s9, zs, kM, tz, lz⟩ ⟨rfl, ex⟩
      have hi2 : i < rs.length := hi
      obtain ⟨t, e, g⟩ := (fsr x (List.mem_of_getElem? ex)).1.get
      have eq : (rs.map (rd (frz p q H6)))[i]? = some (rd (frz p q H6) x) := by rw [List.getElem?_map, ex]; rfl
      subst e
      generalize rd (frz p q H6) (V.ref t) = c at g eq
      refine ⟨rfl, _, rfl, t, _, rfl, .inl ⟨.inl (.inl (on9.le _ _ g)), fun u nu => ?_⟩⟩
      have su := same_upd (o := .tup (c.map V.int)) nu
      have kM2 := su _ _ kM
      refine ⟨zs, kM2, by omega, (on9.new nu).put fM, ?_, zs ++ [.ref u], upd_same, ?_, by rw [List.length_append, lz]; rfl⟩
      · intro b o hb
        rw [upd_ne (ne_of_none hb nM)]
        exact su _ _ (s9 b o hb)
      · rw [List.take_add_one, eq]
        exact Tots.upd kM2 (Tots.snoc (sqt upd_same) (tz.mono su))
    · rintro H9 ⟨on9, s9, zs, kM, tz, lz⟩
      rw [List.take_of_length_le (by rw [List.length_map]; omega)] at tz
      have onF := on9.drop sG
      refine fin H9 M zs _ onF kM (free0 (sG.free fM.2.2) ⟨fM.1, fM.2.1⟩) ⟨fM.1, fM.2.1⟩ (tz.frz onF.hd) (fun c hc => ?_) (by rw [List.length_map]; omega)
      obtain ⟨v, hv, rfl⟩ := List.mem_map.mp hc
      exact (fsr v hv).2
end
end K14
namespace CK
open PySem PySem.Spec PyProof.Rows L2 VG FR HD
def spReduced : Sp := fun vs H Q _ => ∃ a b : Int, vs = [.int a, .int b] ∧ 0 < b ∧ a.natAbs < 2 ^ 8000 ∧ b.natAbs < 2 ^ 8000 ∧ ∀ H' u, Same H H' → H u = none → H' u = some (.tup (pV (M2.mk a b))) → Q (.ref u) H'
def spLawSum (K : PySem.W.Frag) : Sp := fun vs H Q _ => ∃ (s t : Addr) (ws : List Int) (xs : List V) (ps : List Q2), vs = [.ref s, .ref t] ∧ (SqL K H s (ws.map V.int) ∨ SqT K H s (ws.map V.int)) ∧ SqL K H t xs ∧ Frs K H xs ps ∧ ws.length = ps.length ∧ ps.length ≤ 13 ∧ RowOk ws ∧ (∀ p ∈ ps, M2.Low p.1 p.2 ∧ Bt 300 p) ∧
  ∀ H' u, Same H H' → H u = none → H' u = some (.tup (pV (M14.lsum ws ps))) → Q (.ref u) H'
theorem ls_take : ∀ {ws : List Int} {ps : List Q2} {i : Nat} {w : Int} {p : Q2} (a : Q2), ws[i]? = some w → ps[i]? = some p → M14.lsF (ws.take (i + 1)) (ps.take (i + 1)) a = M14.stepQ (M14.lsF (ws.take i) (ps.take i) a) w p
  | v :: ws, q :: ps, 0, w, p, a, h1, h2 => by
    have e1 : v = w := Option.some.inj h1
    have e2 : q = p := Option.some.inj h2
    subst e1 e2
    show M14.lsF (ws.take 0) (ps.take 0) (M14.stepQ a v q) = M14.stepQ (M14.lsF [] [] a) v q
    rw [List.take_zero, List.take_zero]
    rfl
  | v :: ws, q :: ps, i + 1, w, p, a, h1, h2 => by
    show M14.lsF (ws.take (i + 1)) (ps.take (i + 1)) (M14.stepQ a v q) = M14.stepQ (M14.lsF (ws.take i) (ps.take i) (M14.stepQ a v q)) w p
    exact ls_take (M14.stepQ a v q) h1 h2
  | [], _, _, _, _, _, h, _ => by cases h
  | _ :: _, [], _, _, _, _, _, h => by cases h
theorem ls_size : ∀ (ws : List Int) (ps : List Q2) (a : Q2) (m : Nat), RowOk ws → (∀ p ∈ ps, Bt 300 p) → Bt m a → Bt (m + 325 * ps.length) (M14.lsF ws ps a)
  | w :: ws, p :: ps, a, m, hw, hp, h => by
    have bp := hp p List.mem_cons_self
    have bw := hw w List.mem_cons_self
    have h3 : (a.1 * p.2 + w * p.1 * a.2).natAbs < 2 ^ (m + 325) := by
      have e1 := Int.natAbs_add_le (a.1 * p.2) (w * p.1 * a.2)
      have e2 := wide_lt h.1 bp.2
      have e3 := wide_lt (wide_lt bw bp.1) h.2
      rw [show 24 + 300 = 324 from rfl] at e3
      have e4 : 2 ^ (m + 325) = 2 ^ (m + 324) + 2 ^ (m + 324) := by rw [show m + 325 = m + 324 + 1 from rfl, Nat.pow_succ]; omega
      have e5 : 2 ^ (m + 300) ≤ 2 ^ (m + 324) := Nat.pow_le_pow_right (by decide) (by omega)
      rw [Nat.add_comm 324 m] at e3
      omega
    have h4 : (a.2 * p.2).natAbs < 2 ^ (m + 325) := Nat.lt_of_lt_of_le (wide_lt h.2 bp.2) (Nat.pow_le_pow_right (by decide) (by omega))
    have ih := ls_size ws ps (M14.stepQ a w p) (m + 325) (fun c hc => hw c (List.mem_cons_of_mem _ hc)) (fun q hq => hp q (List.mem_cons_of_mem _ hq)) ⟨h3, h4⟩
    have e : m + 325 * (p :: ps).length = m + 325 + 325 * ps.length := by rw [List.length_cons]; omega
    rw [e]
    exact ih
  | [], [], a, m, _, _, h => h
  | [], p :: ps, a, m, _, _, h => h.mono (by omega)
  | _ :: _, [], a, m, _, _, h => h
theorem ls_pos : ∀ (ws : List Int) (ps : List Q2) (a : Q2), (∀ p ∈ ps, 0 < p.2) → 0 < a.2 → 0 < (M14.lsF ws ps a).2
  | w :: ws, p :: ps, a, hp, h => ls_pos ws ps _ (fun q hq => hp q (List.mem_cons_of_mem _ hq)) (Int.mul_pos h (hp p List.mem_cons_self))
  | [], [], _, _, h => h
  | [], _ :: _, _, _, h => h
  | _ :: _, [], _, _, h => h
def spRow : Sp := fun vs H Q _ => ∃ (p q : Addr) (n : Nat), vs = [.ref p, .int n] ∧ Hd p q H ∧ n ≤ 1000 ∧ ∀ (H' : Hp) (u : Addr) (row : List Int), On p q (frz p q H) H' → H' u = some (.tup (row.map V.int)) → u ≠ p ∧ u ≠ q → row.length = n → (∀ c ∈ row, c.natAbs ≤ 5) → Q (.ref u) H'
def spVector (K : PySem.W.Frag) : Sp := fun vs H Q _ => ∃ (l k : Addr) (xs zs : List V) (ts : List (List Int)) (j : Nat) (c : List Int), vs = [.ref l, .ref k, .int j] ∧ SqL K H l xs ∧ Tots K H xs ts ∧ SqL K H k zs ∧ Ls H zs ∧ (∀ d ∈ zs.map (rd H), d ≠ []) ∧ zs.length ≤ 1000 ∧ ts[j]? = some c ∧
  ∀ H' u, Same H H' → H u = none → H' u = some (.tup ((recL (zs.map (rd H)) c).map V.int)) → Q (.ref u) H'
end CK
namespace K14
open PySem PySem.Spec PyProof.Rows L2 VG FR CK HD
abbrev s__law_vector : Stmt := topS 57
abbrev N__law_vector : List Str := ["totals", "classes", "at", "some"]
theorem sc__law_vector : FnScope N__law_vector ["totals", "classes", "at"] (defScope s__law_vector) := ⟨rfl, rfl, rfl, by decide +kernel, rfl, by decide +kernel, by decide +kernel⟩
abbrev s__law_reduced : Stmt := topS 58
abbrev N__law_reduced : List Str := ["top", "bottom", "one", "other"]
theorem sc__law_reduced : FnScope N__law_reduced ["top", "bottom"] (defScope s__law_reduced) := ⟨rfl, rfl, rfl, by decide +kernel, rfl, by decide +kernel, by decide +kernel⟩
abbrev s__law_sum : Stmt := topS 59
abbrev N__law_sum : List Str := ["weights", "some", "top", "bottom", "at"]
theorem sc__law_sum : FnScope N__law_sum ["weights", "some"] (defScope s__law_sum) := ⟨rfl, rfl, rfl, by decide +kernel, rfl, by decide +kernel, by decide +kernel⟩
abbrev s__law_fraction : Stmt := topS 60
abbrev N__law_fraction : List Str := ["heap", "way", "bottom"]
theorem sc__law_fraction : FnScope N__law_fraction ["heap"] (defScope s__law_fraction) := ⟨rfl, rfl, rfl, by decide +kernel, rfl, by decide +kernel, by decide +kernel⟩
abbrev s__law_row : Stmt := topS 61
abbrev N__law_row : List Str := ["heap", "size", "wide", "at"]
theorem sc__law_row : FnScope N__law_row ["heap", "size"] (defScope s__law_row) := ⟨rfl, rfl, rfl, by decide +kernel, rfl, by decide +kernel, by decide +kernel⟩
section
variable {P : Program} {w : World} {K : PySem.W.Frag} {mg : Str → Option Value} {base : Heap}
theorem ok__law_reduced {f : Addr} {fd : FuncData} (F : Fun K "_law_reduced" "_law_reduced" s__law_reduced f fd) (z_int : mg "int" = none) (z_abs : mg "abs" = none) : FnOk P w K mg base CX0 1 f fd ["top", "bottom"] spReduced := by
  refine F.ok sc__law_reduced (fun vs H Q E h => ?_) (fun cdv A outer s H vs Q E hr h => ?_)
  · obtain ⟨_, _, rfl, _⟩ := h
    rfl
  · obtain ⟨a, b, rfl, b0, sa, sb, fin⟩ := h
    refine ⟨_, (pss_cons (ps_par (i := 2) (j := 3) (by rfl) sc__law_reduced.nd rfl rfl (by decide) rfl rfl (pa_cons (pe_callB call_abs (by rfl) z_abs (by decide +kernel) (pa_cons (pv 0) pa_nil)) (pa_cons (pv 1) pa_nil)) (by rfl))
    (pss_cut (ps_while PassesOwn.never (pt_cmpR op_ne (pv 3) pe_int (nomark _))
      (pss_one (ps_par (i := 2) (j := 3) (by rfl) sc__law_reduced.nd rfl rfl (by decide) rfl rfl (pa_cons (pv 3) (pa_cons (pe_op op_modN (pe_callTy call_int1 (by rfl) z_int (by decide +kernel) (pa_cons (pv 2) pa_nil)) (pv 3)) pa_nil)) (by rfl))))
    (pss_one (ps_ret (pe_tup (pa_cons (pe_op op_fdivW (pv 0) (pv 2)) (pa_cons (pe_op op_fdivW (pv 1) (pv 2)) pa_nil))))))), ?_⟩
    have ab : (if a < 0 then -a else a) = ((a.natAbs : Nat) : Int) := by split <;> omega
    have bb : b = ((b.natAbs : Nat) : Int) := by omega
    refine ⟨_, rfl, _, rfl, _, rfl, _, _, rfl, ?_⟩
    refine ⟨fun σ H' => H' = H ∧ ∃ y3, σ = [some (.int a), some (.int b), some (.int (M2.g a b : Nat)), y3], ?_, ?_⟩
    · refine ⟨fun n σ H' => H' = H ∧ ∃ x y : Nat, y = n ∧ σ = [some (.int a), some (.int b), some (.int x), some (.int y)] ∧ Nat.gcd x y = M2.g a b, ⟨_, rfl, a.natAbs, b.natAbs, rfl, ?_, rfl⟩, ?_⟩
      · show [some (V.int a), some (V.int b), some (V.int (if a < 0 then -a else a)), some (V.int b)] = _
        rw [ab, ← bb]
      · rintro n σ H1 ⟨rfl, x, y, rfl, rfl, g⟩
        refine ⟨_, rfl, rfl, _, rfl, ite2 (fun z => ?_) (fun z => ?_)⟩
        · have y0 : y ≠ 0 := fun e => by subst e; simp at z
          refine ⟨fun σ H' => H' = H1 ∧ ∃ x' y' : Nat, σ = [some (.int a), some (.int b), some (.int x'), some (.int y')] ∧ Nat.gcd x' y' = M2.g a b ∧ y' < y, ?_, ?_⟩
          · rintro σ' H' ⟨rfl, x', y', rfl, g', l⟩
            exact ⟨y', l, rfl, x', y', rfl, rfl, g'⟩
          · refine ⟨_, rfl, _, rfl, .inl ⟨_, rfl, _, rfl, _, _, rfl, rfl, by show ((y : Nat) : Int) ≠ 0; omega, _, _, rfl, rfl, y, x % y, ?_, ?_, Nat.mod_lt _ (by omega)⟩⟩
            · show [some (V.int a), some (V.int b), some (V.int (y : Int)), some (V.int ((x : Int).fmod (y : Int)))] = _
              rw [fmod_nat x (Nat.pos_of_ne_zero y0)]
            · rw [← g, Nat.gcd_comm y, ← Nat.gcd_rec, Nat.gcd_comm]
        · have y0 : y = 0 := by
            have : ¬ (!decide (V.int (y : Int) = V.int 0)) = true := z
            rw [Bool.not_eq_true, Bool.not_eq_false'] at this
            have := V.int.inj (of_decide_eq_true this)
            omega
          subst y0
          rw [Nat.gcd_zero_right] at g
          exact ⟨rfl, _, by rw [← g]⟩
    · rintro σ H1 ⟨rfl, y3, rfl⟩
      have gp := M2.g_pos (a := a) (b := b) (by omega)
      have gl : M2.g a b ≤ b.natAbs := Nat.gcd_le_right _ (by omega)
      have gb : ((M2.g a b : Nat) : Int).natAbs < 2 ^ 8000 := by
        rw [Int.natAbs_natCast]
        exact Nat.lt_of_le_of_lt gl sb
      have W1 : ∀ x : Int, CDivW x ((M2.g a b : Nat) : Int) := fun x => wide_div (by omega) gb (by decide) (by decide)
      refine ⟨_, rfl, _, rfl, _, _, rfl, rfl, W1 _, _, rfl, _, rfl, _, _, rfl, rfl, W1 _, by show 2 ≤ sizeLine; decide, fun u nu => ?_⟩
      refine fin _ u (same_upd nu) nu ?_
      rw [upd_same, M2.mk_pos b0]
      rfl
theorem ok__law_sum {f : Addr} {fd : FuncData} (F : Fun K "_law_sum" "_law_sum" s__law_sum f fd) (C__law_reduced : Cl P w K mg base 1 "_law_reduced" spReduced) (z_len : mg "len" = none) (z_range : mg "range" = none) : FnOk P w K mg base CX0 2 f fd ["weights", "some"] (spLawSum K) := by
  refine F.ok sc__law_sum (fun vs H Q E h => ?_) (fun cdv A outer s H vs Q E hr h => ?_)
  · obtain ⟨_, _, _, _, _, rfl, _⟩ := h
    rfl
  · obtain ⟨s1, t1, ws, xs, ps, rfl, hW, hS, hF, hl, lp, hw, hp, fin⟩ := h
    refine ⟨_, (pss_cons (ps_asg (pe_tup (pa_cons pe_int (pa_cons pe_int pa_nil))) (pg_tup rfl (pgs_cons (pg_name (i := 2) sc__law_sum.nd rfl (.inl rfl)) (pgs_cons (pg_name (i := 3) sc__law_sum.nd rfl (.inl rfl)) pgs_nil))))
    (pss_cut (ps_for PassesOwn.never rfl (pi_range1 (by rfl) z_range (pa_cons (pe_callB call_len_seq (by rfl) z_len (by decide +kernel) (pa_cons (pv 1) pa_nil)) pa_nil)) (pg_name (i := 4) sc__law_sum.nd rfl (.inl rfl))
      (pss_one (ps_par (i := 2) (j := 3) (by rfl) sc__law_sum.nd rfl rfl (by decide) rfl rfl (pa_cons (pe_op op_add (pe_op op_mulW (pv 2) (pe_ix ix_tup (pe_ix ix_list (pv 1) (pv 4) (fun _ _ => rfl)) pe_int (fun _ _ => rfl))) (pe_op op_mulW (pe_op op_mulW (pe_ix ix_seq (pv 0) (pv 4) (fun _ _ => rfl)) (pe_ix ix_tup (pe_ix ix_list (pv 1) (pv 4) (fun _ _ => rfl)) pe_int (fun _ _ => rfl))) (pv 3))) (pa_cons (pe_op op_mulW (pv 3) (pe_ix ix_tup (pe_ix ix_list (pv 1) (pv 4) (fun _ _ => rfl)) pe_int (fun _ _ => rfl))) pa_nil)) (by rfl))))
    (pss_one (ps_ret (pe_cl C__law_reduced hr (by decide) rfl (pa_cons (pv 2) (pa_cons (pv 3) pa_nil))))))), ?_⟩
    have lx := hF.len
    have pos : ∀ p ∈ ps, 0 < p.2 := fun p h => (hp p h).1.1
    have size : ∀ i, Bt 6000 (M14.lsF (ws.take i) (ps.take i) (0, 1)) := fun i => by
      have z := ls_size (ws.take i) (ps.take i) (0, 1) 1 (fun c hc => hw c (List.mem_of_mem_take hc)) (fun q hq => (hp q (List.mem_of_mem_take hq)).2) ⟨by decide, by decide⟩
      refine z.mono ?_
      have : (ps.take i).length ≤ 13 := by rw [List.length_take]; omega
      omega
    refine ⟨by show 2 ≤ sizeLine; decide, fun T nT => ?_⟩
    have sT := same_upd (o := .tup [.int 0, .int 1]) nT
    have hT := upd_same (H := H) (a := T) (o := .tup [.int 0, .int 1])
    have hW := hW.imp sT.seq (seqT sT)
    have hS := sT.seq hS
    have hF := hF.mono sT
    have fin : ∀ H' u, Same (L2.upd H T (.tup [.int 0, .int 1])) H' → H' u = some (.tup (pV (M14.lsum ws ps))) → (L2.upd H T (.tup [.int 0, .int 1])) u = none → Q (.ref u) H' := fun H' u a b c => fin H' u (sT.trans a) (sT.free c) b
    generalize L2.upd H T (.tup [.int 0, .int 1]) = H at hT hW hS hF fin ⊢
    refine ⟨T, _, rfl, .inl (.inl hT), rfl, _, _, rfl, _, _, rfl, rfl, ?_⟩
    refine ⟨fun σ H' => H' = H ∧ ∃ y4, σ = [some (.ref s1), some (.ref t1), some (.int (M14.lsF ws ps (0, 1)).1), some (.int (M14.lsF ws ps (0, 1)).2), y4], ?_, ?_⟩
    · refine ⟨_, rfl, t1, xs, rfl, .inl hS, _, rfl, by omega, by omega, ?_⟩
      refine for_it (walk_range (lo := 0) (n := ((xs.length : Nat) : Int).toNat)) (fun i σ H' => H' = H ∧ ∃ y4, σ = [some (.ref s1), some (.ref t1), some (.int (M14.lsF (ws.take i) (ps.take i) (0, 1)).1), some (.int (M14.lsF (ws.take i) (ps.take i) (0, 1)).2), y4]) ⟨rfl, _, rfl⟩ (fun _ _ _ _ _ => trivial) ?_ ?_
      · rintro i x σ H1 H2 hi ⟨rfl, y4, rfl⟩ ⟨rfl, rfl⟩
        have hi2 : i < xs.length := by have : i < ((xs.length : Nat) : Int).toNat := hi; omega
        have ex : xs[i]? = some xs[i] := List.getElem?_eq_getElem hi2
        obtain ⟨t, p, e1, ep, ht⟩ := hF.get ex
        rw [e1] at ex
        have ew : ws[i]? = some ws[i] := List.getElem?_eq_getElem (by omega)
        have bw := hw _ (List.getElem_mem (show i < ws.length by omega))
        generalize ws[i] = wt at ew bw
        have ew2 : (ws.map V.int)[i]? = some (.int wt) := by rw [List.getElem?_map, ew]; rfl
        have bp := (hp p (List.mem_of_getElem? ep)).2
        have sz := size i
        rw [ls_take (0, 1) ew ep]
        have z1 : (0 : Int) + (i : Nat) = ((i : Nat) : Int) := Int.zero_add _
        have ixx : atI xs ((0 : Int) + (i : Nat)) = some (.ref t) := by rw [z1]; exact atI_nat ex
        have ixw : atI (ws.map V.int) ((0 : Int) + (i : Nat)) = some (.int wt) := by rw [z1]; exact atI_nat ew2
        have m1 : CMulW (M14.lsF (ws.take i) (ps.take i) (0, 1)).1 p.2 := mulW (up sz.1 (by decide)) (up bp.2 (by decide))
        have m2 : CMulW wt p.1 := mulW (up bw (by decide)) (up bp.1 (by decide))
        have m3 : CMulW (wt * p.1) (M14.lsF (ws.take i) (ps.take i) (0, 1)).2 := mulW (up (wide_lt bw bp.1) (by decide)) (up sz.2 (by decide))
        have m4 : CMulW (M14.lsF (ws.take i) (ps.take i) (0, 1)).2 p.2 := mulW (up sz.2 (by decide)) (up bp.2 (by decide))
        have last : ∀ y : Option V, ∃ y4 : Option V, [some (V.ref s1), some (V.ref t1), some (V.int (M14.stepQ (M14.lsF (ws.take i) (ps.take i) (0, 1)) wt p).1), some (V.int (M14.stepQ (M14.lsF (ws.take i) (ps.take i) (0, 1)) wt p).2), y] = [some (.ref s1), some (.ref t1), some (.int (M14.stepQ (M14.lsF (ws.take i) (ps.take i) (0, 1)) wt p).1), some (.int (M14.stepQ (M14.lsF (ws.take i) (ps.take i) (0, 1)) wt p).2), y4] := fun y => ⟨y, rfl⟩
        have wix : ∀ (Q : VK), Q (.int wt) H2 → rIx K (.ref s1) (.int ((0 : Int) + (i : Nat))) H2 Q := fun Q q => by
          rcases hW with hW | hW
          · exact .inl ⟨s1, _, _, _, rfl, rfl, hW, ixw, q⟩
          · exact .inr (.inl ⟨s1, _, _, _, rfl, rfl, hW, ixw, q⟩)
        refine ⟨_, rfl, _, rfl, _, rfl, t1, xs, _, _, rfl, rfl, hS, ixx, t, _, _, _, rfl, rfl, ht, at1 _ _, _, _, rfl, rfl, m1, _, rfl, _, rfl, wix _ ?_⟩
        refine ⟨_, rfl, _, rfl, t1, xs, _, _, rfl, rfl, hS, ixx, t, _, _, _, rfl, rfl, ht, at0 _ _, _, _, rfl, rfl, m2, _, rfl, _, _, rfl, rfl, m3, _, _, rfl, rfl, _, rfl, _, rfl, _, rfl, t1, xs, _, _, rfl, rfl, hS, ixx, t, _, _, _, rfl, rfl, ht, at1 _ _, _, _, rfl, rfl, m4, _, _, rfl, rfl, last _⟩
      · rintro σ H1 ⟨rfl, y4, rfl⟩
        rw [List.take_of_length_le (by omega), List.take_of_length_le (by omega)]
        exact ⟨rfl, _, rfl⟩
    · rintro σ H1 ⟨rfl, y4, rfl⟩
      have sz := size 13
      rw [List.take_of_length_le (by omega), List.take_of_length_le lp] at sz
      exact ⟨_, rfl, _, rfl, _, _, rfl, ls_pos ws ps (0, 1) pos (by decide), Nat.lt_of_lt_of_le sz.1 (Nat.pow_le_pow_right (by decide) (by decide)), Nat.lt_of_lt_of_le sz.2 (Nat.pow_le_pow_right (by decide) (by decide)), fun H2 u s2 nu hu => fin H2 u s2 hu nu⟩
theorem ok__law_vector {f : Addr} {fd : FuncData} (F : Fun K "_law_vector" "_law_vector" s__law_vector f fd) (z_int : mg "int" = none) (z_tuple : mg "tuple" = none) : FnOk P w K mg base CX0 1 f fd ["totals", "classes", "at"] (spVector K) := by
  refine F.ok sc__law_vector (fun vs H Q E h => ?_) (fun cdv A outer s H vs Q E hr h => ?_)
  · obtain ⟨_, _, _, _, _, _, _, rfl, _⟩ := h
    rfl
  · obtain ⟨l, k, xs, zs, ts, j, c, rfl, hX, hT, hZ, lz, ne, ll, ec, fin⟩ := h
    refine ⟨_, (pss_one (ps_ret (pe_callTy call_tuple_of (by rfl) z_tuple (by decide +kernel) (pa_cons (pe_lc (own := [("some", 3)]) (by rfl) sc__law_vector.nd (pi_list (pv 1)) (blkOk_by (own := [("some", 3)]) (N := N__law_vector) (sc := defScope s__law_vector) (by decide +kernel)) (fun _ _ _ _ _ => (pg_name (i := 3) sc__law_vector.nd rfl (.inl rfl))) (fun _ _ _ _ _ => pts_nil) (fun _ _ _ _ _ => (pe_callTy call_int1 (by rfl) z_int (by decide +kernel) (pa_cons (pe_cmpR (show OpR _ (compareOp .In) (rIn K false) from op_in_seq) (pe_ix (show IxR _ (rIxL K) from ix_list) (pv 3) pe_int (fun _ _ => rfl)) (pe_ix (show IxR _ (rIxL K) from ix_list) (pv 0) (pv 2) (fun _ _ => rfl)) rfl) pa_nil)))) pa_nil)))), ?_⟩
    refine ⟨_, rfl, k, rfl, ⟨_, hZ⟩, fun D nD => ?_⟩
    have lx := hT.len
    have jl : j < xs.length := by have := (List.getElem?_eq_some_iff.mp ec).1; omega
    have ex : xs[j]? = some xs[j] := List.getElem?_eq_getElem jl
    obtain ⟨tc, c', e1, e2, hc⟩ := hT.get ex
    have e3 : c' = c := Option.some.inj (e2.symm.trans ec)
    subst e3
    rw [e1] at ex
    refine lc_it (walk_list (K := K) (a := k) (xs := zs)) (fun i H' => Same H H' ∧ H' D = some (.lst (((recL (zs.map (rd H)) c').take i).map V.int))) ⟨same_upd nD, upd_same⟩ (fun i H' _ h => h.1.seq hZ) ?_ ?_
    · rintro i x H1 H2 hi ⟨sm, hD⟩ ⟨rfl, ez⟩
      obtain ⟨t, e, g⟩ := (lz x (List.mem_of_getElem? ez)).get
      have ed : (zs.map (rd H))[i]? = some (rd H x) := by rw [List.getElem?_map, ez]; rfl
      have nd := ne _ (List.mem_of_getElem? ed)
      subst e
      generalize rd H (V.ref t) = d at g ed nd
      have hd0 : atI (d.map V.int) 0 = some (.int (headI d)) := by
        cases d with
        | nil => exact absurd rfl nd
        | cons y r => exact atI_nat (j := 0) rfl
      refine ⟨rfl, _, rfl, t, _, _, _, rfl, rfl, .inl (.inl (sm _ _ g)), hd0, _, rfl, _, rfl, l, xs, _, _, rfl, rfl, sm.seq hX, atI_nat ex, tc, _, rfl, .inr (seqT sm hc), rfl, CK.flat_ints c', .inr ⟨_, rfl, ?_⟩⟩
      dsimp only
      rw [inV_ints]
      have er : (recL (zs.map (rd H)) c')[i]? = some (if c'.contains (headI d) then 1 else 0) := by
        unfold recL
        rw [List.getElem?_map, ed]
        rfl
      refine ⟨_, hD, ?_, HD.same_put sm nD, ?_⟩
      · rw [List.length_map, List.length_take]
        have : i < zs.length := hi
        have : sizeLine = 16777216 := by decide
        omega
      · rw [upd_same, List.take_add_one, er, List.map_append]
        cases c'.contains (headI d) <;> rfl
    · rintro H1 ⟨sm, hD⟩
      have lr : (recL (zs.map (rd H)) c').length = zs.length := by
        unfold recL
        rw [List.length_map, List.length_map]
      rw [List.take_of_length_le (by omega)] at hD
      refine ⟨D, _, rfl, .inl ⟨.inl (.inl hD), fun u nu => ?_⟩⟩
      exact fin _ u (sm.trans (same_upd nu)) (sm.free nu) upd_same
theorem ok__law_row {f : Addr} {fd : FuncData} (F : Fun K "_law_row" "_law_row" s__law_row f fd) (C__law_pick : Cl P w K mg base 2 "_law_pick" (spPick K)) (z_range : mg "range" = none) (z_tuple : mg "tuple" = none) : FnOk P w K mg base CX0 3 f fd ["heap", "size"] spRow := by
  refine F.ok sc__law_row (fun vs H Q E h => ?_) (fun cdv A outer s H vs Q E hr h => ?_)
  · obtain ⟨p, q, n, rfl, _⟩ := h
    rfl
  · obtain ⟨p, q, n, rfl, hd, ln, fin⟩ := h
    refine ⟨_, (pss_cons (ps_set (i := 2) sc__law_row.nd rfl (.inr rfl) (pe_cl C__law_pick hr (by decide) rfl (pa_cons (pv 0) (pa_cons (pe_lst (pa_cons (pe_lst (pa_cons pe_int (pa_cons pe_int (pa_cons (pe_un un_neg pe_int) pa_nil)))) (pa_cons (pe_lst (pa_cons pe_int (pa_cons (pe_un un_neg pe_int) (pa_cons pe_int (pa_cons pe_int pa_nil))))) (pa_cons (pe_lst (pa_cons pe_int (pa_cons pe_int (pa_cons (pe_un un_neg pe_int) (pa_cons pe_int (pa_cons (pe_un un_neg pe_int) (pa_cons pe_int (pa_cons pe_int (pa_cons pe_int (pa_cons (pe_un un_neg pe_int) pa_nil)))))))))) pa_nil)))) pa_nil))))
    (pss_one (ps_ret (pe_callTy call_tuple_of (by rfl) z_tuple (by decide +kernel) (pa_cons (pe_lc (own := [("at", 3)]) (by rfl) sc__law_row.nd (pi_range1 (by rfl) z_range (pa_cons (pv 1) pa_nil)) (blkOk_by (own := [("at", 3)]) (N := N__law_row) (sc := defScope s__law_row) (by decide +kernel)) (fun _ _ _ _ _ => (pg_name (i := 3) sc__law_row.nd rfl (.inl rfl))) (fun _ _ _ _ _ => pts_nil) (fun _ _ _ _ _ => (pe_cl C__law_pick hr (by decide) rfl (pa_cons (pv 0) (pa_cons (pv 2) pa_nil))))) pa_nil))))), ?_⟩
    have on0 := On.start hd
    refine ⟨_, rfl, _, rfl, by show 3 ≤ sizeLine; decide, fun A1 n1 => ?_⟩
    have f1 := on0.free n1
    have on1 := on0.new (o := .lst [.int 0, .int 1, .int (-1)]) n1
    have k1 := upd_same (H := H) (a := A1) (o := .lst [.int 0, .int 1, .int (-1)])
    generalize L2.upd H A1 (.lst [.int 0, .int 1, .int (-1)]) = H1 at on1 k1 ⊢
    refine ⟨_, rfl, by show 4 ≤ sizeLine; decide, fun A2 n2 => ?_⟩
    have f2 := on1.free n2
    have on2 := on1.new (o := .lst [.int 1, .int (-1), .int 1, .int 0]) n2
    have s2 := same_upd (o := .lst [.int 1, .int (-1), .int 1, .int 0]) n2
    have k2 := upd_same (H := H1) (a := A2) (o := .lst [.int 1, .int (-1), .int 1, .int 0])
    have k1 := s2 _ _ k1
    generalize L2.upd H1 A2 (.lst [.int 1, .int (-1), .int 1, .int 0]) = H2 at on2 k1 k2 ⊢
    refine ⟨_, rfl, _, rfl, _, rfl, by show 9 ≤ sizeLine; decide, fun A3 n3 => ?_⟩
    have f3 := on2.free n3
    have on3 := on2.new (o := .lst [.int 0, .int 1, .int (-1), .int 2, .int (-2), .int 5, .int 0, .int 1, .int (-1)]) n3
    have s3 := same_upd (o := .lst [.int 0, .int 1, .int (-1), .int 2, .int (-2), .int 5, .int 0, .int 1, .int (-1)]) n3
    have k3 := upd_same (H := H2) (a := A3) (o := .lst [.int 0, .int 1, .int (-1), .int 2, .int (-2), .int 5, .int 0, .int 1, .int (-1)])
    have k1 := s3 _ _ k1
    have k2 := s3 _ _ k2
    generalize L2.upd H2 A3 (.lst [.int 0, .int 1, .int (-1), .int 2, .int (-2), .int 5, .int 0, .int 1, .int (-1)]) = H3 at on3 k1 k2 k3 ⊢
    refine ⟨by show 3 ≤ sizeLine; decide, fun A4 n4 => ?_⟩
    have f4 := on3.free n4
    have on4 := on3.new (o := .lst [.ref A1, .ref A2, .ref A3]) n4
    have s4 := same_upd (o := .lst [.ref A1, .ref A2, .ref A3]) n4
    have k4 := upd_same (H := H3) (a := A4) (o := .lst [.ref A1, .ref A2, .ref A3])
    have k1 := s4 _ _ k1
    have k2 := s4 _ _ k2
    have k3 := s4 _ _ k3
    generalize L2.upd H3 A4 (.lst [.ref A1, .ref A2, .ref A3]) = H4 at on4 k1 k2 k3 k4 ⊢
    refine ⟨p, q, A4, _, rfl, on4.hd, k4, f4.1, f4.2.1, by simp, by show 3 < 1000000; decide, fun H5 v hd5 kp5 hv => ?_⟩
    have on5 := on4.draw hd5 kp5
    have hw : ∃ (t : Addr) (ws : List Int), v = .ref t ∧ H5 t = some (.lst (ws.map V.int)) ∧ (t ≠ p ∧ t ≠ q) ∧ ws ≠ [] ∧ ws.length ≤ 9 ∧ ∀ c ∈ ws, c.natAbs ≤ 5 := by
      have : v = .ref A1 ∨ v = .ref A2 ∨ v = .ref A3 := by simpa using hv
      rcases this with z | z | z
      · exact ⟨A1, [0, 1, -1], z, kp5 _ _ f1.1 f1.2.1 k1, ⟨f1.1, f1.2.1⟩, by simp, by decide, by decide⟩
      · exact ⟨A2, [1, -1, 1, 0], z, kp5 _ _ f2.1 f2.2.1 k2, ⟨f2.1, f2.2.1⟩, by simp, by decide, by decide⟩
      · exact ⟨A3, [0, 1, -1, 2, -2, 5, 0, 1, -1], z, kp5 _ _ f3.1 f3.2.1 k3, ⟨f3.1, f3.2.1⟩, by simp, by decide, by decide⟩
    obtain ⟨W, ws, rfl, kW, fW, w0, w9, wok⟩ := hw
    refine ⟨_, rfl, _, rfl, by omega, by omega, fun D nD => ?_⟩
    have fD := on5.free nD
    have nWD : W ≠ D := ne_of_none kW nD
    refine lc_it (walk_range (lo := 0) (n := ((n : Nat) : Int).toNat)) (fun i H' => On p q (frz p q H) H' ∧ H' W = some (.lst (ws.map V.int)) ∧ ∃ cs : List Int, H' D = some (.lst (cs.map V.int)) ∧ cs.length = i ∧ ∀ c ∈ cs, c.natAbs ≤ 5) ⟨on5.new nD, by rw [upd_ne nWD]; exact kW, [], upd_same, rfl, fun c h => by cases h⟩ (fun _ _ _ _ => trivial) ?_ ?_
    · rintro i x H6 H7 hi ⟨on6, kW6, cs, kD, lc, ok⟩ ⟨rfl, rfl⟩
      refine ⟨rfl, _, rfl, _, rfl, p, q, W, _, rfl, on6.hd, kW6, fW.1, fW.2, by simpa using w0, by rw [List.length_map]; omega, fun H8 v hd8 kp8 hv => ?_⟩
      obtain ⟨c, hc, rfl⟩ := List.mem_map.mp hv
      have hi2 : i < ((n : Nat) : Int).toNat := hi
      refine ⟨_, kp8 D _ fD.1 fD.2.1 kD, ?_, (on6.draw hd8 kp8).put fD, by rw [upd_ne nWD]; exact kp8 W _ fW.1 fW.2 kW6, cs ++ [c], by rw [upd_same, List.map_append]; rfl, by rw [List.length_append, lc]; rfl, fun d hd => ?_⟩
      · rw [List.length_map]
        have : sizeLine = 16777216 := by decide
        omega
      · rcases List.mem_append.mp hd with z | z
        · exact ok d z
        · rw [List.mem_singleton.mp z]
          exact wok c hc
    · rintro H6 ⟨on6, kW6, cs, kD, lc, ok⟩
      refine ⟨D, _, rfl, .inl ⟨.inl (.inl kD), fun u nu => ?_⟩⟩
      have fu := on6.free nu
      exact fin _ u cs (on6.new nu) upd_same ⟨fu.1, fu.2.1⟩ (by omega) ok
theorem ok__law_fraction {f : Addr} {fd : FuncData} (F : Fun K "_law_fraction" "_law_fraction" s__law_fraction f fd) (C__law_draw : Cl P w K mg base 1 "_law_draw" spDraw) (C__law_pick : Cl P w K mg base 2 "_law_pick" (spPick K)) (C__law_reduced : Cl P w K mg base 1 "_law_reduced" spReduced) :
    FnOk P w K mg base CX0 3 f fd ["heap"] spFraction := by
  refine F.ok sc__law_fraction (fun vs H Q E h => ?_) (fun cdv A outer s H vs Q E hr h => ?_)
  · obtain ⟨_, _, rfl, _⟩ := h
    rfl
  · obtain ⟨p, q, rfl, hd, fin⟩ := h
    refine ⟨_, (pss_cons (ps_set (i := 1) sc__law_fraction.nd rfl (.inl rfl) (pe_cl C__law_draw hr (by decide) rfl (pa_cons (pv 0) (pa_cons pe_int pa_nil))))
    (pss_cons (ps_if (pt_cmpR op_eq (pv 1) pe_int (nomark _))
      (pss_one (ps_ret (pe_cl C__law_pick hr (by decide) rfl (pa_cons (pv 0) (pa_cons (pe_lst (pa_cons (pe_tup (pa_cons pe_int (pa_cons pe_int pa_nil))) (pa_cons (pe_tup (pa_cons pe_int (pa_cons pe_int pa_nil))) (pa_cons (pe_tup (pa_cons (pe_un un_neg pe_int) (pa_cons pe_int pa_nil))) (pa_cons (pe_tup (pa_cons pe_int (pa_cons pe_int pa_nil))) (pa_cons (pe_tup (pa_cons (pe_un un_neg pe_int) (pa_cons pe_int pa_nil))) (pa_cons (pe_tup (pa_cons pe_int (pa_cons pe_int pa_nil))) (pa_cons (pe_tup (pa_cons (pe_un un_neg pe_int) (pa_cons pe_int pa_nil))) pa_nil)))))))) pa_nil)))))
      pss_nil)
    (pss_cons (ps_set (i := 2) sc__law_fraction.nd rfl (.inl rfl) (pe_meet (pe_ifExp (pt_cmpR op_lt (pv 1) pe_int (nomark _)) (pe_cl C__law_pick hr (by decide) rfl (pa_cons (pv 0) (pa_cons (pe_lst (pa_cons pe_int (pa_cons pe_int (pa_cons pe_int (pa_cons pe_int (pa_cons pe_int pa_nil)))))) pa_nil))) (pe_op op_add pe_int (pe_cl C__law_draw hr (by decide) rfl (pa_cons (pv 0) (pa_cons (pe_op op_pow pe_int pe_int) pa_nil)))))))
    (pss_one (ps_ret (pe_cl C__law_reduced hr (by decide) rfl (pa_cons (pe_meet (pe_ifExp (pt_cmpR op_lt (pv 1) pe_int (nomark _)) (pe_op op_sub (pe_cl C__law_draw hr (by decide) rfl (pa_cons (pv 0) (pa_cons (pe_op op_add (pe_op op_mulW pe_int (pv 2)) pe_int) pa_nil))) (pv 2)) (pe_op op_sub (pe_cl C__law_draw hr (by decide) rfl (pa_cons (pv 0) (pa_cons (pe_op op_add (pe_op op_mulW pe_int (pe_op op_pow pe_int pe_int)) pe_int) pa_nil))) (pe_op op_pow pe_int pe_int)))) (pa_cons (pv 2) pa_nil)))))))), ?_⟩
    have pow6 : ((10 : Int) ^ (6 : Int).toNat) = 1000000 := by decide
    refine ⟨_, rfl, p, q, _, rfl, hd, by decide, by decide, fun H0 way hd0 kp0 w0 w1 => ?_⟩
    have on0 := (On.start hd).draw hd0 kp0
    refine ⟨_, rfl, rfl, _, rfl, ite2 (fun _ => ?_) (fun _ => ?_)⟩
    · have big : sizeLine = 16777216 := by decide
      refine ⟨_, rfl, by show 2 ≤ sizeLine; omega, fun T1 n1 => ?_⟩
      have f1 := on0.free n1
      have on1 := on0.new (o := .tup [.int 0, .int 1]) n1
      have s1 := same_upd (o := .tup [.int 0, .int 1]) n1
      have k1 := upd_same (H := H0) (a := T1) (o := .tup [.int 0, .int 1])
      generalize L2.upd H0 T1 (.tup [.int 0, .int 1]) = H1 at on1 k1 ⊢
      refine ⟨by show 2 ≤ sizeLine; omega, fun T2 n2 => ?_⟩
      have f2 := on1.free n2
      have on2 := on1.new (o := .tup [.int 1, .int 2]) n2
      have s2 := same_upd (o := .tup [.int 1, .int 2]) n2
      have k2 := upd_same (H := H1) (a := T2) (o := .tup [.int 1, .int 2])
      have k1 := s2 _ _ k1
      generalize L2.upd H1 T2 (.tup [.int 1, .int 2]) = H2 at on2 k1 k2 ⊢
      refine ⟨_, rfl, by show 2 ≤ sizeLine; omega, fun T3 n3 => ?_⟩
      have f3 := on2.free n3
      have on3 := on2.new (o := .tup [.int (-1), .int 2]) n3
      have s3 := same_upd (o := .tup [.int (-1), .int 2]) n3
      have k3 := upd_same (H := H2) (a := T3) (o := .tup [.int (-1), .int 2])
      have k1 := s3 _ _ k1
      have k2 := s3 _ _ k2
      generalize L2.upd H2 T3 (.tup [.int (-1), .int 2]) = H3 at on3 k1 k2 k3 ⊢
      refine ⟨by show 2 ≤ sizeLine; omega, fun T4 n4 => ?_⟩
      have f4 := on3.free n4
      have on4 := on3.new (o := .tup [.int 1, .int 1]) n4
      have s4 := same_upd (o := .tup [.int 1, .int 1]) n4
      have k4 := upd_same (H := H3) (a := T4) (o := .tup [.int 1, .int 1])
      have k1 := s4 _ _ k1
      have k2 := s4 _ _ k2
      have k3 := s4 _ _ k3
      generalize L2.upd H3 T4 (.tup [.int 1, .int 1]) = H4 at on4 k1 k2 k3 k4 ⊢
      refine ⟨_, rfl, by show 2 ≤ sizeLine; omega, fun T5 n5 => ?_⟩
      have f5 := on4.free n5
      have on5 := on4.new (o := .tup [.int (-1), .int 1]) n5
      have s5 := same_upd (o := .tup [.int (-1), .int 1]) n5
      have k5 := upd_same (H := H4) (a := T5) (o := .tup [.int (-1), .int 1])
      have k1 := s5 _ _ k1
      have k2 := s5 _ _ k2
      have k3 := s5 _ _ k3
      have k4 := s5 _ _ k4
      generalize L2.upd H4 T5 (.tup [.int (-1), .int 1]) = H5 at on5 k1 k2 k3 k4 k5 ⊢
      refine ⟨by show 2 ≤ sizeLine; omega, fun T6 n6 => ?_⟩
      have f6 := on5.free n6
      have on6 := on5.new (o := .tup [.int 2, .int 3]) n6
      have s6 := same_upd (o := .tup [.int 2, .int 3]) n6
      have k6 := upd_same (H := H5) (a := T6) (o := .tup [.int 2, .int 3])
      have k1 := s6 _ _ k1
      have k2 := s6 _ _ k2
      have k3 := s6 _ _ k3
      have k4 := s6 _ _ k4
      have k5 := s6 _ _ k5
      generalize L2.upd H5 T6 (.tup [.int 2, .int 3]) = H6 at on6 k1 k2 k3 k4 k5 k6 ⊢
      refine ⟨_, rfl, by show 2 ≤ sizeLine; omega, fun T7 n7 => ?_⟩
      have f7 := on6.free n7
      have on7 := on6.new (o := .tup [.int (-1), .int 3]) n7
      have s7 := same_upd (o := .tup [.int (-1), .int 3]) n7
      have k7 := upd_same (H := H6) (a := T7) (o := .tup [.int (-1), .int 3])
      have k1 := s7 _ _ k1
      have k2 := s7 _ _ k2
      have k3 := s7 _ _ k3
      have k4 := s7 _ _ k4
      have k5 := s7 _ _ k5
      have k6 := s7 _ _ k6
      generalize L2.upd H6 T7 (.tup [.int (-1), .int 3]) = H7 at on7 k1 k2 k3 k4 k5 k6 k7 ⊢
      refine ⟨by show 7 ≤ sizeLine; omega, fun L nL => ?_⟩
      have fL := on7.free nL
      have on8 := on7.new (o := .lst [.ref T1, .ref T2, .ref T3, .ref T4, .ref T5, .ref T6, .ref T7]) nL
      have s8 := same_upd (o := .lst [.ref T1, .ref T2, .ref T3, .ref T4, .ref T5, .ref T6, .ref T7]) nL
      have kL := upd_same (H := H7) (a := L) (o := .lst [.ref T1, .ref T2, .ref T3, .ref T4, .ref T5, .ref T6, .ref T7])
      have k1 := s8 _ _ k1
      have k2 := s8 _ _ k2
      have k3 := s8 _ _ k3
      have k4 := s8 _ _ k4
      have k5 := s8 _ _ k5
      have k6 := s8 _ _ k6
      have k7 := s8 _ _ k7
      generalize L2.upd H7 L (.lst [.ref T1, .ref T2, .ref T3, .ref T4, .ref T5, .ref T6, .ref T7]) = H8 at on8 kL k1 k2 k3 k4 k5 k6 k7 ⊢
      refine ⟨p, q, L, _, rfl, on8.hd, kL, fL.1, fL.2.1, by simp, by show 7 < 1000000; decide, fun H9 v hd9 kp9 hv => ?_⟩
      have on9 := on8.draw hd9 kp9
      have : v = .ref T1 ∨ v = .ref T2 ∨ v = .ref T3 ∨ v = .ref T4 ∨ v = .ref T5 ∨ v = .ref T6 ∨ v = .ref T7 := by simpa using hv
      rcases this with z | z | z | z | z | z | z
      · subst z
        exact fin H9 T1 (0, 1) hd9 on9.keep (kp9 _ _ f1.1 f1.2.1 k1) ⟨by decide, by decide +kernel⟩ (by decide) (by decide)
      · subst z
        exact fin H9 T2 (1, 2) hd9 on9.keep (kp9 _ _ f2.1 f2.2.1 k2) ⟨by decide, by decide +kernel⟩ (by decide) (by decide)
      · subst z
        exact fin H9 T3 (-1, 2) hd9 on9.keep (kp9 _ _ f3.1 f3.2.1 k3) ⟨by decide, by decide +kernel⟩ (by decide) (by decide)
      · subst z
        exact fin H9 T4 (1, 1) hd9 on9.keep (kp9 _ _ f4.1 f4.2.1 k4) ⟨by decide, by decide +kernel⟩ (by decide) (by decide)
      · subst z
        exact fin H9 T5 (-1, 1) hd9 on9.keep (kp9 _ _ f5.1 f5.2.1 k5) ⟨by decide, by decide +kernel⟩ (by decide) (by decide)
      · subst z
        exact fin H9 T6 (2, 3) hd9 on9.keep (kp9 _ _ f6.1 f6.2.1 k6) ⟨by decide, by decide +kernel⟩ (by decide) (by decide)
      · subst z
        exact fin H9 T7 (-1, 3) hd9 on9.keep (kp9 _ _ f7.1 f7.2.1 k7) ⟨by decide, by decide +kernel⟩ (by decide) (by decide)
    · refine ⟨fun v H' => ∃ b : Int, v = .int b ∧ 1 ≤ b ∧ b ≤ 1000000 ∧ (way < 3 → b ≤ 100) ∧ On p q (frz p q H) H', ?_, ?_⟩
      · refine ⟨_, rfl, _, _, rfl, rfl, _, rfl, ite2 (fun _ => ?_) (fun z => ?_)⟩
        · refine ⟨_, rfl, by show 5 ≤ sizeLine; decide, fun L nL => ?_⟩
          have fL := on0.free nL
          refine ⟨p, q, L, _, rfl, (on0.new nL).hd, upd_same, fL.1, fL.2.1, by simp, by show 5 < 1000000; decide, fun H9 v hd9 kp9 hv => ?_⟩
          have on9 := (on0.new nL).draw hd9 kp9
          have : v = .int 2 ∨ v = .int 3 ∨ v = .int 7 ∨ v = .int 10 ∨ v = .int 100 := by simpa using hv
          rcases this with z | z | z | z | z <;> exact ⟨_, z, by decide, by decide, fun _ => by decide, on9⟩
        · have w3 : ¬ way < 3 := fun y => z (decide_eq_true y)
          refine ⟨_, rfl, _, _, rfl, rfl, ⟨by decide, by decide, by decide⟩, p, q, _, rfl, hd0, by rw [pow6]; decide, by rw [pow6]; decide, fun H9 r hd9 kp9 r0 r1 => ?_⟩
          have on9 := on0.draw hd9 kp9
          rw [pow6] at r1
          exact ⟨_, _, rfl, rfl, _, rfl, by omega, by omega, fun y => absurd y w3, on9⟩
      · rintro v H1 ⟨b, rfl, b1, b2, b3, on1⟩
        refine ⟨fun v H' => ∃ a : Int, v = .int a ∧ a.natAbs ≤ 1000000 ∧ On p q (frz p q H) H', ?_, ?_⟩
        · refine ⟨_, rfl, _, _, rfl, rfl, _, rfl, ite2 (fun y => ?_) (fun _ => ?_)⟩
          · have b4 := b3 (of_decide_eq_true y)
            refine ⟨_, rfl, _, rfl, _, _, rfl, rfl, mulW (up (n := 40) (by decide) (by decide)) (up (n := 40) (by have : (2 : Nat) ^ 40 = 1099511627776 := by decide
                                                                                                                  omega) (by decide)), _, _, rfl, rfl, p, q, _, rfl, on1.hd, by omega, by omega, fun H9 r hd9 kp9 r0 r1 => ?_⟩
            exact ⟨_, rfl, _, _, rfl, rfl, _, rfl, by omega, on1.draw hd9 kp9⟩
          · refine ⟨_, rfl, _, _, rfl, rfl, ⟨by decide, by decide, by decide⟩, _, _, rfl, rfl, mulW (up (n := 40) (by decide) (by decide)) (up (n := 40) (by rw [pow6]; decide) (by decide)), _, _, rfl, rfl, p, q, _, rfl, on1.hd, by rw [pow6]; decide, by rw [pow6]; decide, fun H9 r hd9 kp9 r0 r1 => ?_⟩
            rw [pow6] at r1
            exact ⟨_, _, rfl, rfl, ⟨by decide, by decide, by decide⟩, _, _, rfl, rfl, _, rfl, by rw [pow6]; omega, on1.draw hd9 kp9⟩
        · rintro v H2 ⟨a, rfl, a1, on2⟩
          have m0 : b ≠ 0 := by omega
          have sz := M2.mk_size (a := a) (b := b) m0
          have P40 : (2 : Nat) ^ 40 = 1099511627776 := by decide
          refine ⟨_, rfl, _, _, rfl, by omega, up (n := 40) (by omega) (by decide), up (n := 40) (by omega) (by decide), fun H3 u s3 nu hu => ?_⟩
          have on3 := on2.same s3
          exact fin H3 u (M2.mk a b) on3.hd on3.keep hu (M2.mk_low m0) (by omega) (by omega)
end
end K14
namespace CK
open PySem PySem.Spec PyProof.Rows L2 VG FR HD
theorem eqvAll_ints : ∀ a b : List Int, PyData.eqvAll (a.map PyData.int) (b.map PyData.int) = decide (a = b)
  | [], [] => by simp [PyData.eqvAll]
  | [], _ :: _ => by simp [PyData.eqvAll]
  | _ :: _, [] => by simp [PyData.eqvAll]
  | x :: a, y :: b => by
    have ih := eqvAll_ints a b
    rw [List.map_cons, List.map_cons, PyData.eqvAll, ih, PyData.eqv]
    by_cases h : x = y
    · subst h
      by_cases k : a = b
      · subst k
        simp
      · simp [k]
    · simp [h]
theorem eqv_ints (a b : List Int) : PyData.eqv (.list (a.map PyData.int)) (.list (b.map PyData.int)) = decide (a = b) := by
  rw [PyData.eqv]
  exact eqvAll_ints a b
def dL (cs : List (List Int)) : List PyData := cs.map fun c => .list (c.map PyData.int)
theorem dpBlk {K : PySem.W.Frag} {H : Hp} : ∀ {ts : List Addr} {bs : List (List Int)}, Blk H ts bs → DpAll K H (ts.map V.ref) (dL bs)
  | [], [], _ => .nil
  | _ :: _, _ :: _, h => .cons (dp_ints (.inl (.inl h.1))) (dpBlk h.2)
  | [], _ :: _, h => h.elim
  | _ :: _, [], h => h.elim
theorem shaped_dL (cs : List (List Int)) : SeqAt.shaped (.list (dL cs)) = true := by
  have h : ∀ cs : List (List Int), PyData.canLayAll0 (dL cs) = true ∧ PyData.depthAll (dL cs) ≤ 1 := by
    intro cs
    induction cs with
    | nil => exact ⟨rfl, Nat.zero_le _⟩
    | cons c cs ih =>
      refine ⟨?_, ?_⟩
      · show (PyData.canLayAll0 (c.map PyData.int) && PyData.canLayAll0 (dL cs)) = true
        rw [ih.1, lay_ints]
        rfl
      · show max (PyData.depthAll (c.map PyData.int) + 1) (PyData.depthAll (dL cs)) ≤ 1
        rw [depth_ints]
        omega
  have ⟨h1, h2⟩ := h cs
  unfold SeqAt.shaped
  rw [Bool.and_eq_true]
  refine ⟨h1, decide_eq_true ?_⟩
  show PyData.depthAll (dL cs) + 1 ≤ 64
  omega
theorem any_dL (c : List Int) : ∀ cs : List (List Int), (dL cs).any (fun z => PyData.eqv z (.list (c.map PyData.int))) = decide (c ∈ cs)
  | [] => by simp [dL]
  | d :: cs => by
    have ih := any_dL c cs
    show (PyData.eqv (.list (d.map PyData.int)) (.list (c.map PyData.int)) || (dL cs).any _) = _
    rw [ih, eqv_ints]
    by_cases h : d = c
    · subst h
      simp
    · have : ¬ c = d := fun z => h z.symm
      simp [h, this]
theorem sg_succ (f : Nat → List Int) (i : Nat) : sgL f (i + 1) = if f i = [] ∨ f i ∈ sgL f i then sgL f i else sgL f i ++ [f i] := by
  have e : sgL f (i + 1) = (if f i ∈ keysOf f i then keysOf f i else keysOf f i ++ [f i]).filter fun c => !c.isEmpty := rfl
  rw [e]
  by_cases h : f i = []
  · rw [show (if f i = [] ∨ f i ∈ sgL f i then sgL f i else sgL f i ++ [f i]) = sgL f i from if_pos (.inl h)]
    by_cases k : f i ∈ keysOf f i
    · rw [if_pos k]
      rfl
    · rw [if_neg k, List.filter_append, h]
      show _ ++ [] = _
      exact List.append_nil _
  · have he : (!(f i).isEmpty) = true := by
      cases hc : f i with
      | nil => exact absurd hc h
      | cons _ _ => rfl
    by_cases k : f i ∈ keysOf f i
    · have ks : f i ∈ sgL f i := List.mem_filter.mpr ⟨k, he⟩
      rw [if_pos k, show (if f i = [] ∨ f i ∈ sgL f i then sgL f i else sgL f i ++ [f i]) = sgL f i from if_pos (.inr ks)]
      rfl
    · have nk : ¬ (f i = [] ∨ f i ∈ sgL f i) := fun z => z.elim h fun y => k (List.mem_filter.mp y).1
      rw [if_neg k, if_neg nk, List.filter_append]
      show sgL f i ++ _ = sgL f i ++ _
      congr 1
      rw [List.filter_cons, he]
      rfl
theorem sg_ne {f : Nat → List Int} {i : Nat} {c : List Int} (h : c ∈ sgL f i) : c ≠ [] := fun z => by
  have := (List.mem_filter.mp h).2
  rw [z] at this
  cases this
def pk (f : Nat → List Int) (i : Nat) (sg : List (List Int)) : List (List Int) := sg.map fun c => pick (memb f c) i
theorem pk_old {f : Nat → List Int} {i : Nat} {sg : List (List Int)} (h : f i ∉ sg) : pk f (i + 1) sg = pk f i sg := by
  unfold pk
  refine List.map_congr_left fun c hc => pick_no (decide_eq_false fun z => h (z ▸ hc))
theorem pk_new {f : Nat → List Int} {i j : Nat} {sg : List (List Int)} (n : sg.Nodup) (h : sg[j]? = some (f i)) (hj : j < (pk f i sg).length) : (pk f i sg).set j ((pk f i sg)[j] ++ [(i : Int)]) = pk f (i + 1) sg := by
  refine List.ext_getElem? fun k => ?_
  have hjs : j < sg.length := (List.getElem?_eq_some_iff.mp h).1
  by_cases e : j = k
  · subst e
    rw [List.getElem?_set_self hj]
    have e1 : (pk f i sg)[j]? = some (pick (memb f (f i)) i) := by unfold pk; rw [List.getElem?_map, h]; rfl
    have e2 : (pk f (i + 1) sg)[j]? = some (pick (memb f (f i)) (i + 1)) := by unfold pk; rw [List.getElem?_map, h]; rfl
    have e3 : (pk f i sg)[j] = pick (memb f (f i)) i := by
      have := List.getElem?_eq_getElem hj
      rw [e1] at this
      exact (Option.some.inj this).symm
    rw [e2, e3, pick_yes (decide_eq_true rfl)]
  · rw [List.getElem?_set_ne e]
    unfold pk
    rw [List.getElem?_map, List.getElem?_map]
    cases hk : sg[k]? with
    | none => rfl
    | some c =>
      have nc : f i ≠ c := fun z => e (nodup_at n (z ▸ h) hk)
      show some (pick (memb f c) i) = some (pick (memb f c) (i + 1))
      rw [pick_no (decide_eq_false nc)]
theorem pk_fresh {f : Nat → List Int} {i : Nat} (h : f i ∉ sgL f i) (ne : f i ≠ []) : pick (memb f (f i)) i = [] := pick_nil fun j hj => decide_eq_false fun q => h (List.mem_filter.mpr ⟨by rw [← q]; exact keys_mem f hj, by
  cases hc : f i with
  | nil => exact absurd hc ne
  | cons _ _ => rfl⟩)
/-- groups and their signs while they grow: H is the heap of before -/
def ClsW (H H' : Hp) (S F : Addr) (ss fs : List Addr) (sg bs : List (List Int)) : Prop := Same H H' ∧ H' S = some (.lst (ss.map V.ref)) ∧ Blk H' ss sg ∧ H' F = some (.lst (fs.map V.ref)) ∧ Blk H' fs bs ∧ fs.Nodup ∧
  (∀ t ∈ fs, t ≠ S ∧ t ≠ F ∧ H t = none) ∧ (∀ t ∈ ss, t ≠ S ∧ t ≠ F ∧ H t = none) ∧ ∀ t ∈ fs, t ∉ ss
theorem ClsW.same {H H1 H2 : Hp} {S F : Addr} {ss fs : List Addr} {sg bs : List (List Int)} (h : ClsW H H1 S F ss fs sg bs) (s : Same H1 H2) : ClsW H H2 S F ss fs sg bs :=
  ⟨h.1.trans s, s _ _ h.2.1, Blk.imp (fun t _ o k => s t o k) h.2.2.1, s _ _ h.2.2.2.1, Blk.imp (fun t _ o k => s t o k) h.2.2.2.2.1, h.2.2.2.2.2⟩
/-- a new sign, a new group -/
theorem ClsW.add {H H6 H7 H8 : Hp} {S F L T : Addr} {ss fs : List Addr} {sg bs : List (List Int)} {c : List Int} (h : ClsW H H6 S F ss fs sg bs) (nS : H S = none) (nF : H F = none) (kL : H6 L = some (.lst (c.map V.int))) (nL : L ≠ S ∧ L ≠ F ∧ H L = none) (Lf : L ∉ fs)
    (e7 : H7 = L2.upd H6 S (.lst (ss.map V.ref ++ [.ref L]))) (nT : H7 T = none) (e8 : H8 = L2.upd H7 T (.lst [])) (nSF : S ≠ F) :
    ClsW H (L2.upd H8 F (.lst (fs.map V.ref ++ [.ref T]))) S F (ss ++ [L]) (fs ++ [T]) (sg ++ [c]) (bs ++ [[]]) ∧ (L2.upd H8 F (.lst (fs.map V.ref ++ [.ref T]))) L = some (.lst (c.map V.int)) := by
  obtain ⟨sm, eS, bS, eF, bF, nd, avF, avS, dis⟩ := h
  have keep7 : ∀ t, t ≠ S → ∀ o, H6 t = some o → H7 t = some o := fun t n o k => by rw [e7, upd_ne n]; exact k
  have keep : ∀ t, t ≠ S → t ≠ F → ∀ o, H6 t = some o → (L2.upd H8 F (.lst (fs.map V.ref ++ [.ref T]))) t = some o := fun t n1 n2 o k => by
    rw [upd_ne n2, e8]
    exact same_upd nT _ _ (keep7 t n1 o k)
  have T0 : ∀ t, t ≠ S → H6 t ≠ none → t ≠ T := fun t n k z => by
    subst z
    cases e : H6 t with
    | none => exact k e
    | some o => rw [keep7 t n o e] at nT; cases nT
  have h7S : H7 S = some (.lst (ss.map V.ref ++ [.ref L])) := by rw [e7, upd_same]
  have nTS : T ≠ S := fun z => by subst z; rw [h7S] at nT; cases nT
  have nTF : T ≠ F := (T0 F nSF.symm (by rw [eF]; exact Option.some_ne_none _)).symm
  have HT : H T = none := by
    cases e : H T with
    | none => rfl
    | some o => exact absurd rfl (T0 T nTS (by rw [sm _ _ e]; exact Option.some_ne_none _))
  have inS : ∀ t ∈ ss, H6 t ≠ none := fun t ht => by obtain ⟨b, _, k⟩ := bS.at_ ht; rw [k]; exact Option.some_ne_none _
  have inF : ∀ t ∈ fs, H6 t ≠ none := fun t ht => by obtain ⟨b, _, k⟩ := bF.at_ ht; rw [k]; exact Option.some_ne_none _
  refine ⟨⟨fun b o e => keep b (fun z => by rw [z, nS] at e; cases e) (fun z => by rw [z, nF] at e; cases e) o (sm _ _ e), ?_, ?_, ?_, ?_, ?_, ?_, ?_, ?_⟩, keep L nL.1 nL.2.1 _ kL⟩
  · rw [upd_ne nSF, e8]
    rw [same_upd nT _ _ h7S, List.map_append]
    rfl
  · exact Blk.snoc (keep L nL.1 nL.2.1 _ kL) (Blk.imp (fun t ht o k => keep t (avS t ht).1 (avS t ht).2.1 o k) bS)
  · rw [upd_same, List.map_append]
    rfl
  · exact Blk.snoc (by rw [upd_ne nTF, e8, upd_same]; rfl) (Blk.imp (fun t ht o k => keep t (avF t ht).1 (avF t ht).2.1 o k) bF)
  · exact List.nodup_append.mpr ⟨nd, by simp, fun x hx y hy e => by
      have := List.mem_singleton.mp hy
      subst this
      exact T0 x (avF x hx).1 (inF x hx) e⟩
  · intro t ht
    rcases List.mem_append.mp ht with z | z
    · exact avF t z
    · rw [List.mem_singleton.mp z]
      exact ⟨nTS, nTF, HT⟩
  · intro t ht
    rcases List.mem_append.mp ht with z | z
    · exact avS t z
    · rw [List.mem_singleton.mp z]
      exact nL
  · intro t ht hs
    rcases List.mem_append.mp ht with z | z
    · rcases List.mem_append.mp hs with y | y
      · exact dis t z y
      · rw [List.mem_singleton.mp y] at z
        exact Lf z
    · have et := List.mem_singleton.mp z
      subst et
      rcases List.mem_append.mp hs with y | y
      · exact T0 t nTS (inS t y) rfl
      · exact T0 L nL.1 (by rw [kL]; exact Option.some_ne_none _) (List.mem_singleton.mp y).symm
/-- one more kind in a group -/
theorem ClsW.put {H H6 : Hp} {S F t : Addr} {ss fs : List Addr} {sg bs : List (List Int)} {j : Nat} {b : List Int} (h : ClsW H H6 S F ss fs sg bs) (et : fs[j]? = some t) : ClsW H (L2.upd H6 t (.lst (b.map V.int))) S F ss fs sg (bs.set j b) := by
  obtain ⟨sm, eS, bS, eF, bF, nd, avF, avS, dis⟩ := h
  have ht := List.mem_of_getElem? et
  have av := avF t ht
  refine ⟨fun x o e => ?_, ?_, ?_, ?_, Blk.set nd et bF, nd, avF, avS, dis⟩
  · rw [upd_ne (ne_of_none e av.2.2)]
    exact sm _ _ e
  · rw [upd_ne av.1.symm]
    exact eS
  · exact Blk.imp (fun u hu o k => by rw [upd_ne (fun z : u = t => dis t ht (by rw [← z]; exact hu))]; exact k) bS
  · rw [upd_ne av.2.1.symm]
    exact eF
def spLawClasses (K : PySem.W.Frag) : Sp := fun vs H Q _ => ∃ (l : Addr) (m : Nat) (xs : List V) (ts : List (List Int)), vs = [.int m, .ref l] ∧ SqL K H l xs ∧ Tots K H xs ts ∧ ts.length ≤ 12 ∧ m ≤ 12 ∧
  ∀ (H' : Hp) (u : Addr) (fs : List Addr), Same H H' → H u = none → H' u = some (.lst (fs.map V.ref)) → Blk H' fs (classesL ts m) → (∀ t ∈ fs, H t = none) → Q (.ref u) H'
end CK
namespace K14
open PySem PySem.Spec PyProof.Rows L2 VG FR CK HD
abbrev s__law_classes : Stmt := topS 56
abbrev N__law_classes : List Str := ["many", "totals", "found", "signs", "kind", "sign", "at"]
theorem sc__law_classes : FnScope N__law_classes ["many", "totals"] (defScope s__law_classes) := ⟨rfl, rfl, rfl, by decide +kernel, rfl, by decide +kernel, by decide +kernel⟩
section
variable {P : Program} {w : World} {K : PySem.W.Frag} {mg : Str → Option Value} {base : Heap}
theorem ok__law_classes {f : Addr} {fd : FuncData} (F : Fun K "_law_classes" "_law_classes" s__law_classes f fd) (z_len : mg "len" = none) (z_range : mg "range" = none) : FnOk P w K mg base CX0 1 f fd ["many", "totals"] (spLawClasses K) := by
  refine F.ok sc__law_classes (fun vs H Q E h => ?_) (fun cdv A outer s H vs Q E hr h => ?_)
  · obtain ⟨_, _, _, _, rfl, _⟩ := h
    rfl
  · obtain ⟨l, m, xs, ts, rfl, hX, hT, lt, lm, fin⟩ := h
    refine ⟨_, (pss_cons (ps_par (i := 2) (j := 3) (by rfl) sc__law_classes.nd rfl rfl (by decide) rfl rfl (pa_cons (pe_lst pa_nil) (pa_cons (pe_lst pa_nil) pa_nil)) (by rfl))
    (pss_cut (ps_for PassesOwn.never rfl (pi_range1 (by rfl) z_range (pa_cons (pv 0) pa_nil)) (pg_name (i := 4) sc__law_classes.nd rfl (.inr rfl))
      (pss_cons (ps_setLc (i := 5) (own := [("at", 6)]) (by rfl) sc__law_classes.nd rfl rfl (sw_true rfl rfl rfl (by decide +kernel)) (pi_range1 (by rfl) z_range (pa_cons (pe_callB call_len_seq (by rfl) z_len (by decide +kernel) (pa_cons (pv 1) pa_nil)) pa_nil)) (blkOk_by (own := [("at", 6)]) (N := N__law_classes) (sc := defScope s__law_classes) (by decide +kernel)) (fun _ _ _ _ _ => (pg_name (i := 6) sc__law_classes.nd rfl (.inl rfl))) (fun _ _ _ _ _ => (pts_one (pt_cmpR (show OpR _ (compareOp .In) (rIn K false) from op_in_seq) (pv 4) (pe_ix (show IxR _ (rIxL K) from ix_list) (pv 1) (pv 6) (fun _ _ => rfl)) rfl))) (fun _ _ _ _ _ => (pv 6)))
      (pss_cut (ps_if (PW.pt (pw_and (pt_cmpR (op_neD hr.units) (pv 5) (pe_lst pa_nil) (nomark _)) (pw_and1 (pt_cmpR (op_notInD (units65 hr)) (pv 5) (pv 3) rfl))))
        (pss_cons (ps_expr (pe_bm PySem.F.plainAttrs_list PySem.F.slot_list_append PySem.F.type_list_append mt_append (pv 3) (pa_cons (pv 5) pa_nil)))
        (pss_one (ps_expr (pe_bm PySem.F.plainAttrs_list PySem.F.slot_list_append PySem.F.type_list_append mt_append (pv 2) (pa_cons (pe_lst pa_nil) pa_nil)))))
        pss_nil)
      (pss_one (ps_if (pt_cmpR (op_neD hr.units) (pv 5) (pe_lst pa_nil) (nomark _))
        (pss_one (ps_expr (pe_bm PySem.F.plainAttrs_list PySem.F.slot_list_append PySem.F.type_list_append mt_append (pe_ix ix_list (pv 2) (pe_bm PySem.F.plainAttrs_list PySem.F.slot_list_index PySem.F.type_list_index (mt_indexD (units65 hr)) (pv 3) (pa_cons (pv 5) pa_nil)) (fun _ _ => rfl)) (pa_cons (pv 4) pa_nil))))
        pss_nil)))))
    (pss_one (ps_ret (pv 2))))), ?_⟩
    have big : sizeLine = 16777216 := by decide
    have lx := hT.len
    refine ⟨by show 0 ≤ sizeLine; exact Nat.zero_le _, fun Fd nF => ?_⟩
    have sF := same_upd (o := .lst []) nF
    have kF := upd_same (H := H) (a := Fd) (o := .lst [])
    generalize L2.upd H Fd (.lst []) = H1 at sF kF ⊢
    refine ⟨by show 0 ≤ sizeLine; exact Nat.zero_le _, fun S nS => ?_⟩
    have sS := same_upd (o := .lst []) nS
    have kS := upd_same (H := H1) (a := S) (o := .lst [])
    have nFS : Fd ≠ S := ne_of_none kF nS
    have kF := sS _ _ kF
    have s2 := sF.trans sS
    have nS0 : H S = none := sF.free nS
    generalize L2.upd H1 S (.lst []) = H2 at kF kS s2 ⊢
    refine ⟨_, _, rfl, ?_⟩
    have nSF : S ≠ Fd := nFS.symm
    refine ⟨fun σ H' => (∃ y4 y5 : Option V, σ = [some (.int m), some (.ref l), some (.ref Fd), some (.ref S), y4, y5, none]) ∧ ∃ ss fs, ClsW H H' S Fd ss fs (sgL (fT ts) m) (pk (fT ts) m (sgL (fT ts) m)), ?_, ?_⟩
    · refine ⟨_, rfl, _, rfl, by omega, by omega, ?_⟩
      refine for_it (walk_range (lo := 0) (n := ((m : Nat) : Int).toNat)) (fun i σ H' => (∃ y4 y5 : Option V, σ = [some (.int m), some (.ref l), some (.ref Fd), some (.ref S), y4, y5, none]) ∧ ∃ ss fs, ClsW H H' S Fd ss fs (sgL (fT ts) i) (pk (fT ts) i (sgL (fT ts) i))) ⟨⟨_, _, rfl⟩, [], [], s2, kS, trivial, kF, trivial, List.nodup_nil, fun t h => (by cases h), fun t h => (by cases h), fun t h => (by cases h)⟩ (fun _ _ _ _ _ => trivial) ?_ ?_
      · rintro i x σ H3 H4 hi ⟨⟨y4, y5, rfl⟩, ss, fs, W4⟩ ⟨rfl, rfl⟩
        have hi2 : i < ((m : Nat) : Int).toNat := hi
        have z1 : (0 : Int) + (i : Nat) = ((i : Nat) : Int) := Int.zero_add _
        show gName 4 (V.int ((0 : Int) + ((i : Nat) : Int))) _ _ _
        rw [z1]
        have sm := W4.1
        -- the totals of the kind
        refine ⟨_, rfl, l, xs, rfl, .inl (sm.seq hX), _, rfl, by omega, by omega, fun L nL => ?_⟩
        refine lc_it (walk_range (lo := 0) (n := ((xs.length : Nat) : Int).toNat)) (fun j H' => Same H4 H' ∧ H' L = some (.lst ((twF ts (i : Int) j).map V.int))) ⟨same_upd nL, upd_same⟩ (fun _ _ _ _ => trivial) ?_ ?_
        · rintro j x H5 H6 hj ⟨s5, kL⟩ ⟨rfl, rfl⟩
          have hj2 : j < xs.length := by have : j < ((xs.length : Nat) : Int).toNat := hj; omega
          have ex : xs[j]? = some xs[j] := List.getElem?_eq_getElem hj2
          obtain ⟨tc, c, e1, ec, hc⟩ := hT.get ex
          rw [e1] at ex
          have z2 : (0 : Int) + (j : Nat) = ((j : Nat) : Int) := Int.zero_add _
          refine ⟨rfl, _, rfl, _, rfl, _, rfl, l, xs, _, _, rfl, rfl, (sm.trans s5).seq hX, by rw [z2]; exact atI_nat ex, tc, c.map V.int, rfl, .inr (seqT (sm.trans s5) hc), rfl, CK.flat_ints c, _, rfl, ?_⟩
          rw [inV_ints]
          cases hk : c.contains ((i : Nat) : Int) with
          | true =>
            refine iteT ⟨_, rfl, _, kL, ?_, HD.same_put s5 nL, ?_⟩
            · have := twF_len ts (i : Int) j
              rw [List.length_map]
              omega
            · rw [upd_same, twF_yes ec hk]
              show some (HO.lst ((twF ts (i : Int) j).map V.int ++ [V.int ((0 : Int) + (j : Nat))])) = _
              rw [z2, List.map_append]
              rfl
          | false =>
            refine iteF ⟨s5, ?_⟩
            rw [twF_no ec hk]
            exact kL
        rintro H5 ⟨s5, kL⟩
        have ef : twF ts (i : Int) (((xs.length : Nat) : Int).toNat) = fT ts i := by
          show twF ts (i : Int) _ = twF ts ((i : Nat) : Int) ts.length
          rw [← lx, Int.toNat_natCast]
        rw [ef] at kL
        have W5 := W4.same s5
        have nLS : L ≠ S := (ne_of_none W4.2.1 nL).symm
        have nLF : L ≠ Fd := (ne_of_none W4.2.2.2.1 nL).symm
        have nL0 : H L = none := sm.free nL
        have Lf : L ∉ fs := fun z => by
          obtain ⟨b, _, k⟩ := W4.2.2.2.2.1.at_ z
          rw [nL] at k
          cases k
        have lens := W5.2.2.1.len
        have lenf := W5.2.2.2.2.1.len
        have lsg : (sgL (fT ts) i).length ≤ i := Nat.le_trans (List.length_filter_le _ _) (keys_len _ _)
        have lpk : (pk (fT ts) i (sgL (fT ts) i)).length = (sgL (fT ts) i).length := List.length_map ..
        have snd := sg_nodup (fT ts) (i + 1)
        have sgs := sg_succ (fT ts) i
        have fresh := pk_fresh (f := fT ts) (i := i)
        have nin0 : fT ts i = [] → fT ts i ∉ sgL (fT ts) (i + 1) := fun z y => sg_ne y z
        have oldp := pk_old (f := fT ts) (i := i) (sg := sgL (fT ts) (i + 1))
        have newp := fun (j : Nat) (h : (sgL (fT ts) (i + 1))[j]? = some (fT ts i)) hj => pk_new (f := fT ts) (i := i) snd h hj
        generalize hsg : sgL (fT ts) i = sg at W5 lens lenf lsg lpk sgs fresh
        generalize hsg2 : sgL (fT ts) (i + 1) = sg2 at snd sgs nin0 oldp newp ⊢
        generalize hcf : fT ts i = c at kL sgs fresh nin0 newp
        clear W4 s5 ef
        -- a new group?
        refine ⟨fun σ H' => σ = [some (.int m), some (.ref l), some (.ref Fd), some (.ref S), some (.int i), some (.ref L), none] ∧ H' L = some (.lst (c.map V.int)) ∧ ∃ ss fs, ClsW H H' S Fd ss fs sg2 (pk (fT ts) i sg2) ∧ L ∉ fs, ?_, ?_⟩
        · refine ⟨_, rfl, by show 0 ≤ sizeLine; exact Nat.zero_le _, fun Z nZ => ?_⟩
          have sZ := same_upd (o := .lst []) nZ
          have W6 := W5.same sZ
          have kL6 := sZ _ _ kL
          refine ⟨_, _, dp_ints (K := K) (.inl (.inl kL6)), dp_ints (K := K) (cs := []) (.inl (.inl upd_same)), shaped_ints c, shaped_nil, _, rfl, ?_⟩
          rw [show PyData.eqv (.list (c.map PyData.int)) (.list (([] : List Int).map PyData.int)) = decide (c = []) from eqv_nil c]
          by_cases c0 : c = []
          · rw [decide_eq_true c0]
            refine iteF ⟨rfl, kL6, ss, fs, ?_, Lf⟩
            rw [sgs, if_pos (.inl c0)]
            exact W6
          · rw [decide_eq_false c0]
            refine iteT ⟨_, rfl, _, rfl, _, dL sg, dp_ints (K := K) (.inl (.inl kL6)), .lst (.inl (.inl W6.2.1)) (dpBlk W6.2.2.1), shaped_ints c, shaped_dL sg, _, rfl, ?_⟩
            rw [any_dL]
            by_cases cs : c ∈ sg
            · rw [decide_eq_true cs]
              refine iteF ⟨rfl, kL6, ss, fs, ?_, Lf⟩
              rw [sgs, if_pos (.inr cs)]
              exact W6
            · rw [decide_eq_false cs]
              refine iteT ⟨_, rfl, .inl ⟨rfl, _, .inl (.inl W6.2.1)⟩, _, rfl, S, _, _, rfl, rfl, W6.2.1, by rw [List.length_map]; omega, ?_⟩
              have eF7 : (L2.upd (L2.upd H5 Z (.lst [])) S (.lst (ss.map V.ref ++ [.ref L]))) Fd = some (.lst (fs.map V.ref)) := by
                rw [upd_ne nFS]
                exact W6.2.2.2.1
              refine ⟨_, rfl, .inl ⟨rfl, _, .inl (.inl eF7)⟩, by show 0 ≤ sizeLine; exact Nat.zero_le _, fun T nT => ?_⟩
              have ad := W6.add nS0 nF kL6 ⟨nLS, nLF, nL0⟩ Lf rfl nT rfl nSF
              refine ⟨Fd, _, _, rfl, rfl, same_upd nT _ _ eF7, by rw [List.length_map]; omega, ?_⟩
              refine ⟨rfl, ad.2, ss ++ [L], fs ++ [T], ?_, fun z => ?_⟩
              · rw [sgs, if_neg (fun z => z.elim c0 cs)]
                have e : pk (fT ts) i (sg ++ [c]) = pk (fT ts) i sg ++ [[]] := by
                  unfold pk
                  rw [List.map_append]
                  show _ ++ [pick (memb (fT ts) c) i] = _
                  rw [fresh cs c0]
                rw [e]
                have := ad.1
                exact this
              · rcases List.mem_append.mp z with y | y
                · exact Lf y
                · have e := List.mem_singleton.mp y
                  rw [← e] at nT
                  have kk : (L2.upd (L2.upd H5 Z (.lst [])) S (.lst (ss.map V.ref ++ [.ref L]))) L = some (.lst (c.map V.int)) := by
                    rw [upd_ne nLS]
                    exact kL6
                  rw [kk] at nT
                  cases nT
        clear W5 Lf lens lenf kL
        rintro σ H6 ⟨rfl, kL, ss, fs, W6, Lf⟩
        have lens := W6.2.2.1.len
        have lenf := W6.2.2.2.2.1.len
        have lp2 : (pk (fT ts) i sg2).length = sg2.length := List.length_map ..
        -- into its group
        refine ⟨_, rfl, by show 0 ≤ sizeLine; exact Nat.zero_le _, fun Z nZ => ?_⟩
        have sZ := same_upd (o := .lst []) nZ
        have W7 := W6.same sZ
        have kL7 := sZ _ _ kL
        refine ⟨_, _, dp_ints (K := K) (.inl (.inl kL7)), dp_ints (K := K) (cs := []) (.inl (.inl upd_same)), shaped_ints c, shaped_nil, _, rfl, ?_⟩
        rw [show PyData.eqv (.list (c.map PyData.int)) (.list (([] : List Int).map PyData.int)) = decide (c = []) from eqv_nil c]
        by_cases c0 : c = []
        · rw [decide_eq_true c0]
          refine iteF ⟨⟨_, _, rfl⟩, ss, fs, ?_⟩
          rw [oldp (by rw [hcf]; exact nin0 c0)]
          exact W7
        · rw [decide_eq_false c0]
          have cm : c ∈ sg2 := by
            rw [sgs]
            by_cases cs : c ∈ sg
            · rw [if_pos (.inr cs)]
              exact cs
            · rw [if_neg (fun z => z.elim c0 cs)]
              exact List.mem_append_right _ (List.mem_singleton.mpr rfl)
          obtain ⟨j, ej⟩ := List.mem_iff_getElem?.mp cm
          have jl : j < sg2.length := (List.getElem?_eq_some_iff.mp ej).1
          have et : fs[j]? = some fs[j] := List.getElem?_eq_getElem (by omega)
          generalize fs[j] = t at et
          obtain ⟨b, eb, kt⟩ := W7.2.2.2.2.1.get et
          have er : (fs.map V.ref)[j]? = some (.ref t) := by rw [List.getElem?_map, et]; rfl
          have hjp : j < (pk (fT ts) i sg2).length := by omega
          have ebp : (pk (fT ts) i sg2)[j] = b := by
            have := List.getElem?_eq_getElem hjp
            rw [eb] at this
            exact (Option.some.inj this).symm
          have ed : (dL sg2)[j]? = some (.list (c.map PyData.int)) := by unfold dL; rw [List.getElem?_map, ej]; rfl
          have bl : b.length ≤ i := by
            have := List.mem_of_getElem? eb
            unfold pk at this
            obtain ⟨d, _, rfl⟩ := List.mem_map.mp this
            exact pick_len _ _
          refine iteT ⟨_, rfl, _, rfl, .inl ⟨rfl, _, .inl (.inl W7.2.1)⟩, _, rfl, S, _, .list (c.map PyData.int), dL sg2, j, _, rfl, rfl, .lst (.inl (.inl W7.2.1)) (dpBlk W7.2.2.1), dp_ints (K := K) (.inl (.inl kL7)), shaped_dL sg2, shaped_ints c, ed, by rw [eqv_ints]; exact decide_eq_true rfl, fun m' z' hm hz => ?_, ?_⟩
          · unfold dL at hz
            rw [List.getElem?_map] at hz
            obtain ⟨d, hd, rfl⟩ := Option.map_eq_some_iff.mp hz
            rw [eqv_ints]
            refine decide_eq_false fun z => ?_
            subst z
            have := nodup_at snd hd ej
            omega
          · refine ⟨Fd, _, _, _, rfl, rfl, .inl (.inl W7.2.2.2.1), atI_nat er, .inl ⟨rfl, _, .inl (.inl kt)⟩, _, rfl, t, _, _, rfl, rfl, kt, by rw [List.length_map]; omega, ⟨_, _, rfl⟩, ss, fs, ?_⟩
            rw [← newp j ej hjp, ebp]
            have e2 : b.map V.int ++ [V.int ((i : Nat) : Int)] = (b ++ [((i : Nat) : Int)]).map V.int := by
              rw [List.map_append]
              rfl
            rw [e2]
            exact W7.put et
      · rintro σ H3 ⟨⟨y4, y5, rfl⟩, ss, fs, W3⟩
        rw [Int.toNat_natCast] at W3
        exact ⟨⟨_, _, rfl⟩, ss, fs, W3⟩
    · rintro σ H3 ⟨⟨y4, y5, rfl⟩, ss, fs, W3⟩
      exact ⟨_, rfl, fin H3 Fd fs W3.1 nF W3.2.2.2.1 W3.2.2.2.2.1 fun t ht => (W3.2.2.2.2.2.2.1 t ht).2.2⟩
end
end K14
namespace VG
open PySem PySem.Spec PyProof.Rows L2
abbrev tupO (items : Array Value) (n : Nat) (dd : Option Addr) (sl : Array (Option Value)) : Obj := ⟨.type "tuple", dd, .seq items n, sl⟩
theorem tup_once (l : Addr) (items : Array Value) (n : Nat) (dd : Option Addr) (sl : Array (Option Value)) (u : Tok) (ne : (items.isEmpty || (1 : Int) == 1) = true) :
    Meets (Builtin.«tuple.__mul__» ⟨[.ref l, .int 1 u], []⟩) (fun _ R s => s.heap.get? l = some (tupO items n dd sl) ∧ R (.ok (.ret (Value.ref l))) s) := .of_wp fun prog w A R s h => by
  obtain ⟨hp, g, d, tk, os⟩ := s; obtain ⟨hl, h⟩ := h
  have f1 := AutoSeq1.idx_int
  wp_walk using wpAny_loadPart' hl
  repeat (first
    | (refine wpAny_ite_true (decide_eq_true ne) ?_; wp_walk using wpAny_loadPart' hl)
    | (refine wpAny_ite_true rfl ?_; wp_walk using wpAny_loadPart' hl)
    | (refine wpAny_ite_false rfl ?_; wp_walk using wpAny_loadPart' hl))
  exact ⟨_, rfl, h⟩
theorem tup_none (l : Addr) (items : Array Value) (n : Nat) (dd : Option Addr) (sl : Array (Option Value)) (u : Tok) (ne : (items.isEmpty || (0 : Int) == 1) = false) :
    Meets (Builtin.«tuple.__mul__» ⟨[.ref l, .int 0 u], []⟩) (fun _ R s => s.heap.get? l = some (tupO items n dd sl) ∧ R (.ok (.ret (Value.ref s.heap.objs.size))) { s with heap := s.heap.push { cls := Value.type "tuple", data := Data.seq #[] } }) := .of_wp fun prog w A R s h => by
  obtain ⟨hp, g, d, tk, os⟩ := s; obtain ⟨hl, h⟩ := h
  have f1 := AutoSeq1.idx_int
  wp_walk using wpAny_loadPart' hl
  repeat (first
    | (refine wpAny_ite_false (decide_eq_false (by rw [ne]; exact Bool.false_ne_true)) ?_; wp_walk using wpAny_loadPart' hl)
    | (refine wpAny_ite_true rfl ?_; wp_walk using wpAny_loadPart' hl)
    | (refine wpAny_ite_false rfl ?_; wp_walk using wpAny_loadPart' hl))
  exact ⟨_, rfl, h⟩
section
variable {X : Cx}
def rRepA (K : PySem.W.Frag) : R2 := fun x y H Q => ∃ (l : Addr) (k : Nat) (xs : List V), x = .ref l ∧ y = .int k ∧ SqT K H l xs ∧ xs ≠ [] ∧ k ≤ 1000 ∧ xs.length ≤ 1000 ∧ ∀ p H', Same H H' → SqT K H' p (List.replicate k xs).flatten → Q (.ref p) H'
theorem op_repA : OpR X (binaryOp .Mult) (rRepA X.K) := by
  intro pins s σ H x y v u Q I rx ry h
  obtain ⟨l, k, xs, rfl, rfl, hT, hne, hk, hz, q⟩ := h
  by_cases k2 : 2 ≤ k
  · refine op_repT pins s σ H _ _ v u Q I rx ry ⟨l, (k : Int), xs, rfl, rfl, hT, hne, by omega, by omega, hz, fun p np => ?_⟩
    rw [Int.toNat_natCast]
    exact q p _ (fun b o e => by rw [upd_ne (ne_of_none e np)]; exact e) (.inl (.inl upd_same))
  cases rx
  obtain ⟨t, rfl⟩ := ry
  obtain ⟨its, r, ⟨⟨cls, dd, data, sl⟩, ho, hc, n, hd⟩, hs⟩ := I.tuple hT
  simp only at hc hd
  subst hc hd
  have hn : its ≠ [] := fun e => by
    have hle := r.length
    rw [e] at hle
    exact hne (List.eq_nil_of_length_eq_zero hle)
  have hi : its.toArray.isEmpty = false := by
    cases its with
    | nil => exact absurd rfl hn
    | cons a b => rfl
  by_cases k1 : k = 1
  · subst k1
    refine wpAny_binaryOp_repeat_ref (T := "tuple") (U := "int") (by decide) ⟨_, ho, rfl⟩ (fun s' => typeIs_int s' _ t) noFill_tuple_mul F.fills_int_mul F.slot_int_rmul repeat_tuple F.slot_int_index.lookup
      (call_meets F.slot_int_rmul (typeIs_int s _ t) F.entry_int_rmul (F.args_int_rmul_2 _ _) (int_rmul_tuple _ t l its.toArray n dd sl) ⟨ho, rfl, ⟨_, ho, rfl⟩, call_meets F.slot_tuple_mul ⟨_, ho, rfl⟩ F.entry_tuple_mul (F.args_tuple_mul_2 _ _)
        (tup_once l its.toArray n dd sl t (by rw [hi]; rfl)) ⟨ho, ?_⟩⟩)
    refine ⟨.ref l, H, I, rfl, q l H (Same.refl _) ?_⟩
    have e : (List.replicate 1 xs).flatten = xs := by simp
    rw [e]
    exact hT
  · have k0 : k = 0 := by omega
    subst k0
    refine wpAny_binaryOp_repeat_ref (T := "tuple") (U := "int") (by decide) ⟨_, ho, rfl⟩ (fun s' => typeIs_int s' _ t) noFill_tuple_mul F.fills_int_mul F.slot_int_rmul repeat_tuple F.slot_int_index.lookup
      (call_meets F.slot_int_rmul (typeIs_int s _ t) F.entry_int_rmul (F.args_int_rmul_2 _ _) (int_rmul_tuple _ t l its.toArray n dd sl) ⟨ho, rfl, ⟨_, ho, rfl⟩, call_meets F.slot_tuple_mul ⟨_, ho, rfl⟩ F.entry_tuple_mul (F.args_tuple_mul_2 _ _)
        (tup_none l its.toArray n dd sl t (by rw [hi]; rfl)) ⟨ho, ?_⟩⟩)
    have np := I.hok.fresh (Nat.le_refl s.heap.objs.size)
    refine ⟨.ref s.heap.objs.size, _, I.laid (t' := s.toks) (o := .tup []) (fun b ob e => Heap.get?_push_of_some _ e) (Nat.le_refl _) ⟨Nat.zero_le _, [], .nil, IsTup.new _ _⟩, rfl, q _ _ (fun b o e => by rw [upd_ne (ne_of_none e np)]; exact e) (.inl (.inl upd_same))⟩
end
section
variable {X : Cx}
def rCatM (K : PySem.W.Frag) : R2 := fun x y H Q => ∃ a b xs ys, x = .ref a ∧ y = .ref b ∧ SqT K H a xs ∧ SqT K H b ys ∧ xs.length + ys.length ≤ sizeLine ∧ ∀ t H', Same H H' → SqT K H' t (xs ++ ys) → Q (.ref t) H'
theorem op_catM : OpR X (binaryOp .Add) (rCatM X.K) := by
  intro pins s σ H x y v u Q I rx ry h
  obtain ⟨a, b, xs, ys, rfl, rfl, ha, hb, hl, q⟩ := h
  refine op_catA pins s σ H _ _ v u Q I rx ry ⟨a, b, xs, ys, rfl, rfl, ha, hb, hl, fun e => q b H (Same.refl _) ?_, fun _ e => q a H (Same.refl _) ?_, fun _ _ p np => q p _ (fun b o e => by rw [upd_ne (ne_of_none e np)]; exact e) (.inl (.inl upd_same))⟩
  · subst e
    exact hb
  · subst e
    rw [List.append_nil]
    exact ha
def rSlM (K : PySem.W.Frag) : V → Option Int → Option Int → Hp → VK → Prop := fun x lo hi H Q => ∃ a xs, x = .ref a ∧ SqT K H a xs ∧ ∀ t H', Same H H' → SqT K H' t (cutV xs lo hi) → Q (.ref t) H'
theorem cut_whole {xs : List V} {lo hi : Option Int} (h : HT.sIx xs.length 0 lo = 0 ∧ HT.sIx xs.length xs.length hi = xs.length) : cutV xs lo hi = xs := by
  unfold cutV
  rw [h.1, h.2, List.drop_zero, Nat.sub_zero]
  exact List.take_of_length_le (Nat.le_refl _)
theorem sl_tupM : SlR X (rSlM X.K) := by
  intro pins s σ H x v vl vu lo hi sl Q I rx hs pl pu h
  obtain ⟨a, xs, rfl, hS, q⟩ := h
  exact sl_tupA pins s σ H _ v vl vu lo hi sl Q I rx hs pl pu ⟨a, xs, rfl, hS, fun e => q a H (Same.refl _) (by rw [cut_whole e]; exact hS), fun _ p np => q p _ (fun b o e => by rw [upd_ne (ne_of_none e np)]; exact e) (.inl (.inl upd_same))⟩
end
end VG
namespace CK
open PySem PySem.Spec PyProof.Rows L2 VG FR HD
def Shn (d : PyData) (k B : Nat) : Prop := d.showable = true ∧ d.hasDict = false ∧ d.depth ≤ k ∧ d.shown.length ≤ B
theorem shn_all {k B : Nat} : ∀ ds : List PyData, (∀ d ∈ ds, Shn d k B) → PyData.showableAll ds = true ∧ PyData.hasDictAll ds = false ∧ PyData.depthAll ds ≤ k ∧ piled (PyData.shownAll ds) ≤ (B + 2) * ds.length
  | [], _ => ⟨by simp [PyData.showableAll], by simp [PyData.hasDictAll], by simp [PyData.depthAll], by simp [PyData.shownAll, piled]⟩
  | d :: ds, h => by
    have ⟨a1, a2, a3, a4⟩ := h d List.mem_cons_self
    have ⟨b1, b2, b3, b4⟩ := shn_all ds fun e he => h e (List.mem_cons_of_mem _ he)
    refine ⟨?_, ?_, ?_, ?_⟩
    · rw [PyData.showableAll, a1, b1]
      rfl
    · rw [PyData.hasDictAll, a2, b2]
      rfl
    · rw [PyData.depthAll]
      omega
    · rw [PyData.shownAll, piled_cons, List.length_cons, Nat.mul_succ]
      omega
theorem shn_tup {k B n : Nat} {ds : List PyData} (h : ∀ d ∈ ds, Shn d k B) (hn : ds.length ≤ n) : Shn (.tuple ds) (k + 1) ((B + 2) * n + 2) := by
  have ⟨b1, b2, b3, b4⟩ := shn_all ds h
  refine ⟨?_, ?_, ?_, ?_⟩
  · rw [PyData.showable]
    exact b1
  · rw [PyData.hasDict]
    exact b2
  · rw [PyData.depth]
    omega
  · show (tupleText (PyData.shownAll ds)).length ≤ _
    have e := fmt_text (PyData.shownAll ds)
    have m : (B + 2) * ds.length ≤ (B + 2) * n := Nat.mul_le_mul_left _ hn
    omega
theorem shn_int {a : Int} {k : Nat} (k0 : 0 < k) (h : a.natAbs < 2 ^ k) (hk : k ≤ 1900) : Shn (.int a) 0 (k + 1) := by
  have l2 : a.natAbs.log2 < k := by
    by_cases h0 : a.natAbs = 0
    · rw [h0]
      exact Nat.lt_of_le_of_lt (Nat.le_of_eq (by decide)) k0
    · exact (Nat.log2_lt h0).mpr h
  refine ⟨?_, by rw [PyData.hasDict], by simp [PyData.depth], ?_⟩
  · rw [PyData.showable]
    exact decide_eq_true (by omega)
  · show (Str.ofString (toString a)).length ≤ _
    rw [PySem.ofString_length]
    exact int_text_length_le k0 l2
def dI (c : List Int) : PyData := .tuple (c.map PyData.int)
theorem shn_dI {c : List Int} {n : Nat} (h : ∀ x ∈ c, x.natAbs < 2 ^ 24) (hn : c.length ≤ n) : Shn (dI c) 1 (27 * n + 2) := shn_tup (k := 0) (B := 25) (fun d hd => by
  obtain ⟨x, hx, rfl⟩ := List.mem_map.mp hd
  exact shn_int (by decide) (h x hx) (by decide)) (by rw [List.length_map]; exact hn)
theorem shn_Q {p : Q2} {k : Nat} (k0 : 0 < k) (h : Bt k p) (hk : k ≤ 1900) : Shn (dQ p) 1 ((k + 3) * 2 + 2) := shn_tup (k := 0) (B := k + 1) (ds := [.int p.1, .int p.2]) (fun d hd => by
  have : d = .int p.1 ∨ d = .int p.2 := by simpa using hd
  rcases this with z | z
  · rw [z]
    exact shn_int k0 h.1 hk
  · rw [z]
    exact shn_int k0 h.2 hk) (Nat.le_refl 2)
theorem dp_I {K : PySem.W.Frag} {H : Hp} {t : Addr} {c : List Int} (h : SqT K H t (c.map V.int)) : Dp K H (.ref t) (dI c) := .tup h (dpAll_ints K H c)
theorem Shn.r {d : PyData} {k B : Nat} (s : Shn d k B) (hk : k ≤ 60 := by decide) (hB : B ≤ 16777216 := by decide) : d.showable = true ∧ d.hasDict = false ∧ d.depth ≤ 60 ∧ d.shown.length ≤ sizeLine :=
  ⟨s.1, s.2.1, Nat.le_trans s.2.2.1 hk, Nat.le_trans s.2.2.2 (Nat.le_trans hB (by decide))⟩
theorem shaped_dI (c : List Int) : SeqAt.shaped (dI c) = true := by
  unfold SeqAt.shaped
  rw [Bool.and_eq_true]
  refine ⟨?_, decide_eq_true ?_⟩
  · show PyData.canLayAll0 (c.map PyData.int) = true
    exact lay_ints c
  · show PyData.depthAll (c.map PyData.int) + 1 ≤ 64
    rw [depth_ints]
    decide
theorem eqv_dI (a b : List Int) : PyData.eqv (dI a) (dI b) = decide (a = b) := by
  show PyData.eqv (.tuple (a.map PyData.int)) (.tuple (b.map PyData.int)) = _
  rw [PyData.eqv]
  exact eqvAll_ints a b
def spTwoRight (K : PySem.W.Frag) : Sp := fun vs H Q _ => ∃ (s t : Addr) (cs ds : List Int), vs = [.ref s, .ref t] ∧ SqT K H s (cs.map V.int) ∧ SqT K H t (ds.map V.int) ∧ cs.length = ds.length ∧ cs.length ≤ 12 ∧ (∀ c ∈ cs, c.natAbs ≤ 5) ∧ (∀ c ∈ ds, c.natAbs ≤ 5) ∧ ∀ H', Same H H' → Q (.bl true) H'
theorem in_ones (c : Int) : inV (.int c) [.int 1, .int (-1)] = decide (absI c = 1) := by
  rw [show ([.int 1, .int (-1)] : List V) = ([1, -1] : List Int).map V.int from rfl, inV_ints, Bool.eq_iff_iff, List.contains_iff_mem, decide_eq_true_eq]
  unfold absI
  constructor
  · intro h
    have : c = 1 ∨ c = -1 := by simpa using h
    split <;> omega
  · intro h
    have : c = 1 ∨ c = -1 := by split at h <;> omega
    simpa using this
theorem in_three (c : Int) : (!inV (.int c) [.int 0, .int 1, .int (-1)]) = decide (absI c > 1) := by
  rw [show ([.int 0, .int 1, .int (-1)] : List V) = ([0, 1, -1] : List Int).map V.int from rfl, inV_ints, Bool.eq_iff_iff, Bool.not_eq_true', decide_eq_true_eq]
  unfold absI
  constructor
  · intro h
    have : ¬ (c = 0 ∨ c = 1 ∨ c = -1) := by
      intro z
      have : ([0, 1, -1] : List Int).contains c = true := List.contains_iff_mem.mpr (by simpa using z)
      rw [this] at h
      cases h
    split <;> omega
  · intro h
    cases hc : ([0, 1, -1] : List Int).contains c with
    | false => rfl
    | true =>
      have := List.contains_iff_mem.mp hc
      have : c = 0 ∨ c = 1 ∨ c = -1 := by simpa using this
      split at h <;> omega
theorem dif_get {cs ds : List Int} {i : Nat} {c d : Int} (h1 : cs[i]? = some c) (h2 : ds[i]? = some d) : (difL cs ds)[i]? = some (c - d) := by
  unfold difL
  have : (cs.zip ds)[i]? = some (c, d) := List.getElem?_zip_eq_some.mpr ⟨h1, h2⟩
  rw [List.getElem?_map, this]
  rfl
theorem dif_len {cs ds : List Int} (h : cs.length = ds.length) : (difL cs ds).length = cs.length := by
  unfold difL
  rw [List.length_map, List.length_zip]
  omega
theorem dif_small {cs ds : List Int} (h1 : ∀ c ∈ cs, c.natAbs ≤ 5) (h2 : ∀ c ∈ ds, c.natAbs ≤ 5) : ∀ x ∈ difL cs ds, x.natAbs < 2 ^ 24 := by
  intro x hx
  unfold difL at hx
  obtain ⟨z, hz, rfl⟩ := List.mem_map.mp hx
  have a := h1 _ (List.of_mem_zip hz).1
  have b := h2 _ (List.of_mem_zip hz).2
  have : (2 : Nat) ^ 24 = 16777216 := by decide
  omega
theorem pick_small (P : Nat → Bool) {n : Nat} (hn : n ≤ 12) : ∀ x ∈ pick P n, x.natAbs < 2 ^ 24 := by
  intro x hx
  obtain ⟨j, h1, _, rfl⟩ := mem_pick.mp hx
  have : (2 : Nat) ^ 24 = 16777216 := by decide
  omega
def bT (b : Bool) : Str := if b = true then (("True" : String) : Str) else (("False" : String) : Str)
end CK
namespace K14
open PySem PySem.Spec PyProof.Rows L2 VG FR CK HD
abbrev s__law_two_right : Stmt := topS 62
abbrev N__law_two_right : List Str := ["one", "other", "both", "against", "less", "beyond", "at", "entry"]
theorem sc__law_two_right : FnScope N__law_two_right ["one", "other"] (defScope s__law_two_right) := ⟨rfl, rfl, rfl, by decide +kernel, rfl, by decide +kernel, by decide +kernel⟩
section
variable {P : Program} {w : World} {K : PySem.W.Frag} {mg : Str → Option Value} {base : Heap}
theorem ok__law_two_right {f : Addr} {fd : FuncData} (F : Fun K "_law_two_right" "_law_two_right" s__law_two_right f fd) (C_agreements : Cl P w K mg base 1 "agreements" (spTwo K agrL)) (C_clashes : Cl P w K mg base 1 "clashes" (spTwo K claL)) (C_difference_of : Cl P w K mg base 1 "difference_of" (spTwo K difL)) (C_is_beyond : Cl P w K mg base 1 "is_beyond" (spBeyond K))
    (CR_agreements : ClR P w K mg base 1 "agreements" ["other", "one"] (spTwo K agrL)) (CR_clashes : ClR P w K mg base 1 "clashes" ["other", "one"] (spTwo K claL)) (CR_difference_of : ClR P w K mg base 1 "difference_of" ["other", "one"] (spTwo K difL)) (CK_is_beyond_reckoning : ClK P w K mg base 1 "is_beyond" ["reckoning"] (spBeyond K))
    (z_repr : mg "repr" = none) (z_tuple : mg "tuple" = none) (z_range : mg "range" = none) (z_len : mg "len" = none) (z_any : mg "any" = none) : FnG P w K mg base 2 f fd ["one", "other"] (spTwoRight K) := by
  refine fnG_of F sc__law_two_right (fun vs H Q E h => ?_) (fun cdv A outer s H vs Q E hg hr h => ?_)
  · obtain ⟨_, _, _, _, rfl, _⟩ := h
    rfl
  · obtain ⟨s1, t1, cs, ds, rfl, hS, hT, he, hl, sc, sd, fin⟩ := h
    refine ⟨_, (pss_cons (ps_set (i := 2) sc__law_two_right.nd rfl (.inl rfl) (pe_callTy call_tuple_of (by rfl) z_tuple (by decide +kernel) (pa_cons (pe_lc (own := [("at", 6)]) (by rfl) sc__law_two_right.nd (pi_range1 (by rfl) z_range (pa_cons (pe_callB call_len_seq (by rfl) z_len (by decide +kernel) (pa_cons (pv 0) pa_nil)) pa_nil)) (blkOk_by (own := [("at", 6)]) (N := N__law_two_right) (sc := defScope s__law_two_right) (by decide +kernel)) (fun _ _ _ _ _ => (pg_name (i := 6) sc__law_two_right.nd rfl (.inl rfl))) (fun _ _ _ _ _ => (pts_one (PW.pt (pw_and (pt_cmpR op_eq (pe_ix (show IxR _ (rIxT K) from ix_tup) (pv 0) (pv 6) (fun _ _ => rfl)) (pe_ix (show IxR _ (rIxT K) from ix_tup) (pv 1) (pv 6) (fun _ _ => rfl)) (nomark _)) (pw_and1 (pt_cmpR (show OpR _ (compareOp .In) (rIn K false) from op_in_seq) (pe_ix (show IxR _ (rIxT K) from ix_tup) (pv 0) (pv 6) (fun _ _ => rfl)) (pe_tup (pa_cons pe_int (pa_cons (pe_un un_neg pe_int) pa_nil))) rfl)))))) (fun _ _ _ _ _ => (pv 6))) pa_nil)))
    (pss_cons (ps_set (i := 3) sc__law_two_right.nd rfl (.inl rfl) (pe_callTy call_tuple_of (by rfl) z_tuple (by decide +kernel) (pa_cons (pe_lc (own := [("at", 6)]) (by rfl) sc__law_two_right.nd (pi_range1 (by rfl) z_range (pa_cons (pe_callB call_len_seq (by rfl) z_len (by decide +kernel) (pa_cons (pv 0) pa_nil)) pa_nil)) (blkOk_by (own := [("at", 6)]) (N := N__law_two_right) (sc := defScope s__law_two_right) (by decide +kernel)) (fun _ _ _ _ _ => (pg_name (i := 6) sc__law_two_right.nd rfl (.inl rfl))) (fun _ _ _ _ _ => (pts_one (PW.pt (pw_and (pt_cmpR op_eq (pe_op op_add (pe_ix (show IxR _ (rIxT K) from ix_tup) (pv 0) (pv 6) (fun _ _ => rfl)) (pe_ix (show IxR _ (rIxT K) from ix_tup) (pv 1) (pv 6) (fun _ _ => rfl))) pe_int (nomark _)) (pw_and1 (pt_cmpR (show OpR _ (compareOp .In) (rIn K false) from op_in_seq) (pe_ix (show IxR _ (rIxT K) from ix_tup) (pv 0) (pv 6) (fun _ _ => rfl)) (pe_tup (pa_cons pe_int (pa_cons (pe_un un_neg pe_int) pa_nil))) rfl)))))) (fun _ _ _ _ _ => (pv 6))) pa_nil)))
    (pss_cons (ps_set (i := 4) sc__law_two_right.nd rfl (.inl rfl) (pe_callTy call_tuple_of (by rfl) z_tuple (by decide +kernel) (pa_cons (pe_lc (own := [("at", 6)]) (by rfl) sc__law_two_right.nd (pi_range1 (by rfl) z_range (pa_cons (pe_callB call_len_seq (by rfl) z_len (by decide +kernel) (pa_cons (pv 0) pa_nil)) pa_nil)) (blkOk_by (own := [("at", 6)]) (N := N__law_two_right) (sc := defScope s__law_two_right) (by decide +kernel)) (fun _ _ _ _ _ => (pg_name (i := 6) sc__law_two_right.nd rfl (.inl rfl))) (fun _ _ _ _ _ => pts_nil) (fun _ _ _ _ _ => (pe_op op_sub (pe_ix (show IxR _ (rIxT K) from ix_tup) (pv 0) (pv 6) (fun _ _ => rfl)) (pe_ix (show IxR _ (rIxT K) from ix_tup) (pv 1) (pv 6) (fun _ _ => rfl))))) pa_nil)))
    (pss_cons (ps_if (pt_cmpR op_ne (pe_callB (cr_repr hg hr.units) (by rfl) z_repr (by decide +kernel) (pa_cons (pe_tup (pa_cons (pe_cl C_agreements hr (by decide) rfl (pa_cons (pv 0) (pa_cons (pv 1) pa_nil))) (pa_cons (pe_cl C_clashes hr (by decide) rfl (pa_cons (pv 0) (pa_cons (pv 1) pa_nil))) (pa_cons (pe_cl C_difference_of hr (by decide) rfl (pa_cons (pv 0) (pa_cons (pv 1) pa_nil))) pa_nil)))) pa_nil)) (pe_callB (cr_repr hg hr.units) (by rfl) z_repr (by decide +kernel) (pa_cons (pe_tup (pa_cons (pv 2) (pa_cons (pv 3) (pa_cons (pv 4) pa_nil)))) pa_nil)) (nomark _))
      (pss_one (ps_ret pe_bl))
      pss_nil)
    (pss_cons (ps_if (PW.pt (pw_or (pt_cmpR (op_neD hr.units) (pe_clr CR_agreements hr (by decide) rfl (pk_cons (pv 1) (pk_cons (pv 0) pk_nil))) (pv 2) (nomark _)) (pw_or (pt_cmpR (op_neD hr.units) (pe_clr CR_clashes hr (by decide) rfl (pk_cons (pv 1) (pk_cons (pv 0) pk_nil))) (pv 3) (nomark _)) (pw_or1 (pt_cmpR (op_neD hr.units) (pe_clr CR_difference_of hr (by decide) rfl (pk_cons (pv 1) (pk_cons (pv 0) pk_nil))) (pv 4) (nomark _))))))
      (pss_one (ps_ret pe_bl))
      pss_nil)
    (pss_cons (ps_set (i := 5) sc__law_two_right.nd rfl (.inl rfl) (pe_callB (cr_any rfl) (by rfl) z_any (by decide +kernel) (pa_cons (pe_lc (own := [("entry", 7)]) (by rfl) sc__law_two_right.nd (pi_tup (pv 0)) (blkOk_by (own := [("entry", 7)]) (N := N__law_two_right) (sc := defScope s__law_two_right) (by decide +kernel)) (fun _ _ _ _ _ => (pg_name (i := 7) sc__law_two_right.nd rfl (.inl rfl))) (fun _ _ _ _ _ => pts_nil) (fun _ _ _ _ _ => (pe_cmpR (show OpR _ (compareOp .NotIn) (rIn K true) from op_notIn_seq) (pv 7) (pe_tup (pa_cons pe_int (pa_cons pe_int (pa_cons (pe_un un_neg pe_int) pa_nil)))) rfl))) pa_nil)))
    (pss_one (ps_ret (pe_and (pe_cmpR op_eq (pe_callB cr_reprB (by rfl) z_repr (by decide +kernel) (pa_cons (pe_cl C_is_beyond hr (by decide) rfl (pa_cons (pv 0) pa_nil)) pa_nil)) (pe_callB cr_reprB (by rfl) z_repr (by decide +kernel) (pa_cons (pv 5) pa_nil)) (nomark _)) (pe_one (pe_cmpR op_eq (pe_callB cr_reprB (by rfl) z_repr (by decide +kernel) (pa_cons (pe_clk0 CK_is_beyond_reckoning hr (by decide) rfl (pk_cons (pv 0) pk_nil)) pa_nil)) (pe_callB cr_reprB (by rfl) z_repr (by decide +kernel) (pa_cons (pv 5) pa_nil)) (nomark _)))))))))))), ?_⟩
    have big : sizeLine = 16777216 := by decide
    have lm : (cs.map V.int).length = cs.length := List.length_map ..
    have z1 : ∀ i : Nat, (0 : Int) + (i : Nat) = ((i : Nat) : Int) := fun i => Int.zero_add _
    have atc : ∀ (i : Nat) (c : Int), cs[i]? = some c → atI (cs.map V.int) ((0 : Int) + (i : Nat)) = some (.int c) := fun i c e => by rw [z1]; exact atI_nat (by rw [List.getElem?_map, e]; rfl)
    have atd : ∀ (i : Nat) (c : Int), ds[i]? = some c → atI (ds.map V.int) ((0 : Int) + (i : Nat)) = some (.int c) := fun i c e => by rw [z1]; exact atI_nat (by rw [List.getElem?_map, e]; rfl)
    -- both
    refine ⟨_, rfl, s1, _, rfl, .inr hS, _, rfl, by omega, by omega, fun D nD => ?_⟩
    refine lc_it (walk_range (lo := 0) (n := (((cs.map V.int).length : Nat) : Int).toNat)) (fun i H' => Same H H' ∧ H' D = some (.lst ((pick (agrP cs ds) i).map V.int))) ⟨same_upd nD, upd_same⟩ (fun _ _ _ _ => trivial) ?_ ?_
    · rintro i x H1 H2 hi ⟨sm, hD⟩ ⟨rfl, rfl⟩
      have il : i < cs.length := by have : i < (((cs.map V.int).length : Nat) : Int).toNat := hi; omega
      have il2 : i < ds.length := by omega
      have ec : cs[i]? = some cs[i] := List.getElem?_eq_getElem il
      have ed : ds[i]? = some ds[i] := List.getElem?_eq_getElem il2
      generalize cs[i] = c at ec
      generalize ds[i] = d at ed
      have gc : cs.getD i 0 = c := by rw [List.getD_eq_getElem?_getD, ec]; rfl
      have gd : ds.getD i 0 = d := by rw [List.getD_eq_getElem?_getD, ed]; rfl
      have size : ((pick (agrP cs ds) i).map V.int).length < sizeLine := by
        have := pick_len (agrP cs ds) i
        rw [List.length_map]
        omega
      have no : ∀ H3, Same H2 H3 → agrP cs ds i = false → Same H H3 ∧ H3 D = some (.lst ((pick (agrP cs ds) (i + 1)).map V.int)) := by
        intro H3 s3 z
        rw [pick_no z]
        exact ⟨sm.trans s3, s3 _ _ hD⟩
      refine ⟨rfl, _, rfl, _, rfl, s1, _, _, _, rfl, rfl, seqT sm hS, atc i c ec, _, rfl, _, rfl, t1, _, _, _, rfl, rfl, seqT sm hT, atd i d ed, rfl, _, rfl, ite2 (fun y => ?_) (fun y => ?_)⟩
      · have y1 : c = d := V.int.inj (of_decide_eq_true y)
        refine ⟨_, rfl, _, rfl, s1, _, _, _, rfl, rfl, seqT sm hS, atc i c ec, _, rfl, by show 2 ≤ sizeLine; omega, fun T nT => ?_⟩
        have sT := same_upd (o := .tup [.int 1, .int (-1)]) nT
        refine ⟨T, _, rfl, .inr (sqt upd_same), rfl, rfl, _, rfl, ?_⟩
        rw [in_ones]
        cases hz : decide (absI c = 1) with
        | true =>
          have yes : agrP cs ds i = true := by
            unfold agrP
            rw [gc, gd, hz, decide_eq_true y1]
            rfl
          refine iteT ⟨_, rfl, _, sT _ _ hD, size, HD.same_put (sm.trans sT) nD, ?_⟩
          rw [upd_same, pick_yes yes]
          show some (HO.lst ((pick (agrP cs ds) i).map V.int ++ [V.int ((0 : Int) + (i : Nat))])) = _
          rw [z1, List.map_append]
          rfl
        | false =>
          refine iteF (no _ sT ?_)
          unfold agrP
          rw [gc, hz, Bool.false_and]
      · have y1 : ¬ c = d := fun q => y (decide_eq_true (by rw [q]))
        refine no _ (Same.refl _) ?_
        unfold agrP
        rw [gc, gd, decide_eq_false y1, Bool.and_false]
    rintro H1 ⟨sm1, hD⟩
    rw [lm, Int.toNat_natCast] at hD
    refine ⟨D, _, rfl, .inl ⟨.inl (.inl hD), fun B1 nB => ?_⟩⟩
    have sB := sm1.trans (same_upd (o := .tup ((agrL cs ds).map V.int)) nB)
    have kB := upd_same (H := H1) (a := B1) (o := .tup ((agrL cs ds).map V.int))
    have eB : (pick (agrP cs ds) cs.length) = agrL cs ds := rfl
    rw [eB]
    generalize L2.upd H1 B1 (.tup ((agrL cs ds).map V.int)) = H2 at sB kB ⊢
    clear sm1 hD nD D
    -- against
    refine ⟨_, rfl, s1, _, rfl, .inr (seqT sB hS), _, rfl, by omega, by omega, fun D nD => ?_⟩
    refine lc_it (walk_range (lo := 0) (n := (((cs.map V.int).length : Nat) : Int).toNat)) (fun i H' => Same H2 H' ∧ H' D = some (.lst ((pick (claP cs ds) i).map V.int))) ⟨same_upd nD, upd_same⟩ (fun _ _ _ _ => trivial) ?_ ?_
    · rintro i x H3 H4 hi ⟨sm, hD⟩ ⟨rfl, rfl⟩
      have il : i < cs.length := by have : i < (((cs.map V.int).length : Nat) : Int).toNat := hi; omega
      have il2 : i < ds.length := by omega
      have ec : cs[i]? = some cs[i] := List.getElem?_eq_getElem il
      have ed : ds[i]? = some ds[i] := List.getElem?_eq_getElem il2
      generalize cs[i] = c at ec
      generalize ds[i] = d at ed
      have gc : cs.getD i 0 = c := by rw [List.getD_eq_getElem?_getD, ec]; rfl
      have gd : ds.getD i 0 = d := by rw [List.getD_eq_getElem?_getD, ed]; rfl
      have size : ((pick (claP cs ds) i).map V.int).length < sizeLine := by
        have := pick_len (claP cs ds) i
        rw [List.length_map]
        omega
      have smH := sB.trans sm
      have no : ∀ H5, Same H4 H5 → claP cs ds i = false → Same H2 H5 ∧ H5 D = some (.lst ((pick (claP cs ds) (i + 1)).map V.int)) := by
        intro H5 s5 z
        rw [pick_no z]
        exact ⟨sm.trans s5, s5 _ _ hD⟩
      refine ⟨rfl, _, rfl, _, rfl, s1, _, _, _, rfl, rfl, seqT smH hS, atc i c ec, _, rfl, _, rfl, t1, _, _, _, rfl, rfl, seqT smH hT, atd i d ed, _, _, rfl, rfl, rfl, _, rfl, ite2 (fun y => ?_) (fun y => ?_)⟩
      · have y1 : c = -d := by have := V.int.inj (of_decide_eq_true y); omega
        refine ⟨_, rfl, _, rfl, s1, _, _, _, rfl, rfl, seqT smH hS, atc i c ec, _, rfl, by show 2 ≤ sizeLine; omega, fun T nT => ?_⟩
        have sT := same_upd (o := .tup [.int 1, .int (-1)]) nT
        refine ⟨T, _, rfl, .inr (sqt upd_same), rfl, rfl, _, rfl, ?_⟩
        rw [in_ones]
        cases hz : decide (absI c = 1) with
        | true =>
          have yes : claP cs ds i = true := by
            unfold claP
            rw [gc, gd, hz, decide_eq_true y1]
            rfl
          refine iteT ⟨_, rfl, _, sT _ _ hD, size, HD.same_put (sm.trans sT) nD, ?_⟩
          rw [upd_same, pick_yes yes]
          show some (HO.lst ((pick (claP cs ds) i).map V.int ++ [V.int ((0 : Int) + (i : Nat))])) = _
          rw [z1, List.map_append]
          rfl
        | false =>
          refine iteF (no _ sT ?_)
          unfold claP
          rw [gc, hz, Bool.false_and]
      · have y1 : ¬ c = -d := fun q => y (decide_eq_true (by rw [q]; exact congrArg V.int (by omega)))
        refine no _ (Same.refl _) ?_
        unfold claP
        rw [gc, gd, decide_eq_false y1, Bool.and_false]
    rintro H3 ⟨sm3, hD⟩
    rw [lm, Int.toNat_natCast] at hD
    refine ⟨D, _, rfl, .inl ⟨.inl (.inl hD), fun A1 nA => ?_⟩⟩
    have sA0 := sm3.trans (same_upd (o := .tup ((claL cs ds).map V.int)) nA)
    have kA := upd_same (H := H3) (a := A1) (o := .tup ((claL cs ds).map V.int))
    have eA : (pick (claP cs ds) cs.length) = claL cs ds := rfl
    rw [eA]
    have kB := sA0 _ _ kB
    have sA := sB.trans sA0
    generalize L2.upd H3 A1 (.tup ((claL cs ds).map V.int)) = H4 at sA kA kB ⊢
    clear sm3 hD nD D sA0 sB
    -- less
    refine ⟨_, rfl, s1, _, rfl, .inr (seqT sA hS), _, rfl, by omega, by omega, fun D nD => ?_⟩
    refine lc_it (walk_range (lo := 0) (n := (((cs.map V.int).length : Nat) : Int).toNat)) (fun i H' => Same H4 H' ∧ H' D = some (.lst (((difL cs ds).take i).map V.int))) ⟨same_upd nD, upd_same⟩ (fun _ _ _ _ => trivial) ?_ ?_
    · rintro i x H5 H6 hi ⟨sm, hD⟩ ⟨rfl, rfl⟩
      have il : i < cs.length := by have : i < (((cs.map V.int).length : Nat) : Int).toNat := hi; omega
      have il2 : i < ds.length := by omega
      have ec : cs[i]? = some cs[i] := List.getElem?_eq_getElem il
      have ed : ds[i]? = some ds[i] := List.getElem?_eq_getElem il2
      generalize cs[i] = c at ec
      generalize ds[i] = d at ed
      have smH := sA.trans sm
      refine ⟨rfl, _, rfl, _, rfl, s1, _, _, _, rfl, rfl, seqT smH hS, atc i c ec, _, rfl, _, rfl, t1, _, _, _, rfl, rfl, seqT smH hT, atd i d ed, _, _, rfl, rfl, _, hD, ?_, HD.same_put sm nD, ?_⟩
      · rw [List.length_map, List.length_take]
        omega
      · rw [upd_same, List.take_add_one, dif_get ec ed, List.map_append]
        rfl
    rintro H5 ⟨sm5, hD⟩
    rw [lm, Int.toNat_natCast, List.take_of_length_le (by rw [dif_len he]; exact Nat.le_refl _)] at hD
    refine ⟨D, _, rfl, .inl ⟨.inl (.inl hD), fun L1 nL => ?_⟩⟩
    have sL0 := sm5.trans (same_upd (o := .tup ((difL cs ds).map V.int)) nL)
    have kL := upd_same (H := H5) (a := L1) (o := .tup ((difL cs ds).map V.int))
    have kB := sL0 _ _ kB
    have kA := sL0 _ _ kA
    have sL := sA.trans sL0
    generalize L2.upd H5 L1 (.tup ((difL cs ds).map V.int)) = H6 at sL kA kB kL ⊢
    clear sm5 hD nD D sL0 sA
    have hl2 : cs.length ≤ 1000 := by omega
    have xB : ∀ x ∈ agrL cs ds, x.natAbs < 2 ^ 24 := pick_small _ hl
    have xA : ∀ x ∈ claL cs ds, x.natAbs < 2 ^ 24 := pick_small _ hl
    have xL := dif_small sc sd
    have lB : (agrL cs ds).length ≤ 12 := Nat.le_trans (pick_len _ _) hl
    have lA : (claL cs ds).length ≤ 12 := Nat.le_trans (pick_len _ _) hl
    have lL : (difL cs ds).length ≤ 12 := by rw [dif_len he]; exact hl
    generalize hag : agrL cs ds = ag at *
    generalize hcl : claL cs ds = cl at *
    generalize hdi : difL cs ds = di at *
    have shd : Shn (.tuple [dI ag, dI cl, dI di]) 2 (((27 * 12 + 2) + 2) * 3 + 2) := shn_tup (k := 1) (B := 27 * 12 + 2) (fun d hd => by
      have : d = dI ag ∨ d = dI cl ∨ d = dI di := by simpa using hd
      rcases this with z | z | z
      · rw [z]; exact shn_dI xB lB
      · rw [z]; exact shn_dI xA lA
      · rw [z]; exact shn_dI xL lL) (Nat.le_refl 3)
    refine ⟨_, rfl, _, rfl, s1, t1, cs, ds, rfl, seqT sL hS, seqT sL hT, he, hl2, fun H7 u1 s7 n1 k1 => ?_⟩
    rw [hag] at k1
    have sL7 := sL.trans s7
    refine ⟨_, rfl, _, rfl, s1, t1, cs, ds, rfl, seqT sL7 hS, seqT sL7 hT, he, hl2, fun H8 u2 s8 n2 k2 => ?_⟩
    rw [hcl] at k2
    have sL8 := sL7.trans s8
    refine ⟨_, rfl, _, rfl, s1, t1, cs, ds, rfl, seqT sL8 hS, seqT sL8 hT, he, hl2, fun H9 u3 s9 n3 k3 => ?_⟩
    rw [hdi] at k3
    have sL9 := sL8.trans s9
    have k1 := s9 _ _ (s8 _ _ k1)
    have k2 := s9 _ _ k2
    have kA := s9 _ _ (s8 _ _ (s7 _ _ kA))
    have kB := s9 _ _ (s8 _ _ (s7 _ _ kB))
    have kL := s9 _ _ (s8 _ _ (s7 _ _ kL))
    clear s7 s8 s9 sL sL7 sL8
    refine ⟨by show 3 ≤ sizeLine; omega, fun T nT => ?_⟩
    have sT := same_upd (o := .tup [.ref u1, .ref u2, .ref u3]) nT
    have kT := upd_same (H := H9) (a := T) (o := .tup [.ref u1, .ref u2, .ref u3])
    have sL10 := sL9.trans sT
    have k1 := sT _ _ k1
    have k2 := sT _ _ k2
    have k3 := sT _ _ k3
    have kA := sT _ _ kA
    have kB := sT _ _ kB
    have kL := sT _ _ kL
    generalize L2.upd H9 T (.tup [.ref u1, .ref u2, .ref u3]) = H10 at kT sL10 k1 k2 k3 kA kB kL ⊢
    refine ⟨T, .tuple [dI ag, dI cl, dI di], rfl, .tup (sqt kT) (.cons (dp_I (sqt k1)) (.cons (dp_I (sqt k2)) (.cons (dp_I (sqt k3)) .nil))), shd.r.1, shd.r.2.1, shd.r.2.2.1, shd.r.2.2.2, ?_⟩
    refine ⟨_, rfl, _, rfl, _, rfl, by show 3 ≤ sizeLine; omega, fun T2 nT2 => ?_⟩
    have sT2 := same_upd (o := .tup [.ref B1, .ref A1, .ref L1]) nT2
    have kT2 := upd_same (H := H10) (a := T2) (o := .tup [.ref B1, .ref A1, .ref L1])
    have sL11 := sL10.trans sT2
    have kA := sT2 _ _ kA
    have kB := sT2 _ _ kB
    have kL := sT2 _ _ kL
    generalize L2.upd H10 T2 (.tup [.ref B1, .ref A1, .ref L1]) = H11 at kT2 sL11 kA kB kL ⊢
    refine ⟨T2, .tuple [dI ag, dI cl, dI di], rfl, .tup (sqt kT2) (.cons (dp_I (sqt kB)) (.cons (dp_I (sqt kA)) (.cons (dp_I (sqt kL)) .nil))), shd.r.1, shd.r.2.1, shd.r.2.2.1, shd.r.2.2.2, ?_⟩
    refine ⟨rfl, _, rfl, iteNe rfl ?_⟩
    clear sL9 sL10 k1 k2 k3 kT kT2
    -- by keywords
    refine ⟨_, rfl, _, rfl, s1, t1, cs, ds, rfl, seqT sL11 hS, seqT sL11 hT, he, hl2, fun H12 u1 s12 n1 k1 => ?_⟩
    rw [hag] at k1
    have sL12 := sL11.trans s12
    refine ⟨_, rfl, dI ag, dI ag, dp_I (sqt k1), dp_I (sqt (s12 _ _ kB)), shaped_dI _, shaped_dI _, _, rfl, ?_⟩
    rw [eqv_dI, decide_eq_true rfl]
    refine iteF ?_
    refine ⟨_, rfl, _, rfl, s1, t1, cs, ds, rfl, seqT sL12 hS, seqT sL12 hT, he, hl2, fun H13 u2 s13 n2 k2 => ?_⟩
    rw [hcl] at k2
    have sL13 := sL12.trans s13
    refine ⟨_, rfl, dI cl, dI cl, dp_I (sqt k2), dp_I (sqt (s13 _ _ (s12 _ _ kA))), shaped_dI _, shaped_dI _, _, rfl, ?_⟩
    rw [eqv_dI, decide_eq_true rfl]
    refine iteF ?_
    refine ⟨_, rfl, _, rfl, s1, t1, cs, ds, rfl, seqT sL13 hS, seqT sL13 hT, he, hl2, fun H14 u3 s14 n3 k3 => ?_⟩
    rw [hdi] at k3
    have sL14 := sL13.trans s14
    refine ⟨_, rfl, dI di, dI di, dp_I (sqt k3), dp_I (sqt (s14 _ _ (s13 _ _ (s12 _ _ kL)))), shaped_dI _, shaped_dI _, _, rfl, ?_⟩
    rw [eqv_dI, decide_eq_true rfl]
    refine iteF ?_
    clear s12 s13 s14 sL11 sL12 sL13 k1 k2 k3 kA kB kL
    -- beyond
    refine ⟨_, rfl, s1, rfl, ⟨_, seqT sL14 hS⟩, fun D nD => ?_⟩
    refine lc_it (walk_tup (K := K) (a := s1) (xs := cs.map V.int)) (fun i H' => Same H14 H' ∧ H' D = some (.lst (((cs.take i).map fun c => decide (absI c > 1)).map V.bl))) ⟨same_upd nD, upd_same⟩ (fun i H' _ h => seqT (sL14.trans h.1) hS) ?_ ?_
    · rintro i v H15 H16 hi ⟨sm, hD⟩ ⟨rfl, ex⟩
      rw [List.getElem?_map] at ex
      obtain ⟨c, ec, rfl⟩ := Option.map_eq_some_iff.mp ex
      have il : i < cs.length := (List.getElem?_eq_some_iff.mp ec).1
      refine ⟨rfl, _, rfl, _, rfl, by show 3 ≤ sizeLine; omega, fun T nT => ?_⟩
      have sT := same_upd (o := .tup [.int 0, .int 1, .int (-1)]) nT
      refine ⟨T, _, rfl, .inr (sqt upd_same), rfl, rfl, ?_⟩
      rw [in_three]
      refine ⟨_, sT _ _ hD, ?_, HD.same_put (sm.trans sT) nD, ?_⟩
      · rw [List.length_map, List.length_map, List.length_take]
        omega
      · rw [upd_same, List.take_add_one, ec, List.map_append, List.map_append]
        rfl
    rintro H15 ⟨sm, hD⟩
    rw [List.take_of_length_le (by omega)] at hD
    refine ⟨D, _, rfl, .inl (.inl hD), ?_⟩
    rw [List.any_map]
    have s15 := sL14.trans sm
    have ea : (cs.any (id ∘ fun c => decide (absI c > 1))) = cs.any fun c => decide (absI c > 1) := rfl
    rw [ea]
    refine ⟨_, rfl, s1, cs, rfl, seqT s15 hS, hl2, fun H16 s16 => ⟨_, rfl, _, rfl, _, rfl, rfl, true, congrArg V.bl (decide_eq_true rfl), iteT ?_⟩⟩
    have s17 := s15.trans s16
    refine ⟨_, rfl, s1, cs, rfl, seqT s17 hS, hl2, fun H18 s18 => ⟨_, rfl, _, rfl, _, rfl, rfl, ?_⟩⟩
    have q := fin H18 (s17.trans s18)
    rw [← show (V.bl (decide (V.str (bT (cs.any fun c => decide (absI c > 1))) = V.str (bT (cs.any fun c => decide (absI c > 1)))))) = V.bl true from congrArg V.bl (decide_eq_true rfl)] at q
    exact q
end
end K14
namespace CK
open PySem PySem.Spec PyProof.Rows L2 VG FR HD
theorem lsum_bt {ts : List (List Int)} {n : Nat} {es : List Q2} {row : List Int} (ok : EsOk es) (hn : n ≤ 12) (lr : row.length = (classesL ts n).length) (ro : RowOk row) : Bt 565 (M14.lsum row (errsL (classesL ts n) es)) := by
  have eb := errs_bt ok (classesL ts n)
  have cf := classes_flat ts n
  have cl := (classes_len ts n).1
  have lr2 : row.length = (errsL (classesL ts n) es).length := by rw [errs_len]; exact lr
  have wb := weigh_bt eb.1 lr2 ro eb.2
  have s := sumL_ok _ _ (0, 1) 1 wb.1 wb.2 ⟨by decide, by decide⟩ ⟨by decide, by decide⟩
  rw [bits_map, errs_bits] at s
  have e := (M14.weigh_ls (ws := row) (ps := errsL (classesL ts n) es) lr2 eb.2).1
  rw [← e]
  exact s.2.mono (by omega)
def spReckRight (K : PySem.W.Frag) (C : Addr) : Sp := fun vs H Q _ => ∃ (a r e b : Addr) (ys bs : List V) (ks : List Str) (ts : List (List Int)) (es : List Q2) (row : List Int), vs = [.ref a, .ref r, .ref e, .ref b] ∧ Tab K C H a ks ts ∧ ts.length ≤ 1000 ∧ ks.length ≤ 12 ∧ SqT K H r (row.map V.int) ∧
  row.length = (classesL ts ks.length).length ∧ RowOk row ∧ SqT K H e ys ∧ Frs K H ys es ∧ es.length = ks.length ∧ EsOk es ∧ SqL K H b bs ∧ Frs K H bs (errsL (classesL ts ks.length) es) ∧ ∀ H', Same H H' → Q (.bl true) H'
def spValues (K : PySem.W.Frag) (C : Addr) : Sp := fun vs H Q _ => ∃ (p q a : Addr) (n : Nat) (ks : List Str) (ts : List (List Int)), vs = [.ref p, .ref a, .int n] ∧ Hd p q H ∧ Tab K C (frz p q H) a ks ts ∧ ts.length ≤ 1000 ∧ ks.length ≤ 12 ∧ n = (classesL ts ks.length).length ∧
  ∀ H', On p q (frz p q H) H' → Q (.bl true) H'
theorem Parts.ints {K : PySem.W.Frag} {H : Hp} : ∀ c : List Int, Parts K H (c.map V.int) (c.map some)
  | [] => trivial
  | a :: c => ⟨.inl ⟨a, rfl, rfl⟩, Parts.ints c⟩
theorem Parts.app {K : PySem.W.Frag} {H : Hp} : ∀ {xs ys : List V} {os ps : List (Option Int)}, Parts K H xs os → Parts K H ys ps → Parts K H (xs ++ ys) (os ++ ps)
  | [], _, [], _, _, h => h
  | _ :: _, _, _ :: _, _, h, k => ⟨h.1, h.2.app k⟩
  | [], _, _ :: _, _, h, _ => h.elim
  | _ :: _, _, [], _, h, _ => h.elim
theorem Parts.rep {K : PySem.W.Frag} {H : Hp} {x : V} {o : Option Int} (h : Part K H x o) : ∀ n : Nat, Parts K H (List.replicate n [x]).flatten (List.replicate n o)
  | 0 => trivial
  | n + 1 => ⟨h, Parts.rep h n⟩
theorem cutF {xs : List V} (k : Nat) : cutV xs (some (k : Int)) none = xs.drop k := by
  unfold cutV
  rw [HT.sIx_none, HT.sIx_nat]
  rcases Nat.le_total k xs.length with h | h
  · rw [Nat.min_eq_left h]
    exact List.take_of_length_le (by rw [List.length_drop]; exact Nat.le_refl _)
  · rw [Nat.min_eq_right h, List.drop_of_length_le (Nat.le_refl _), List.drop_of_length_le h]
    exact List.take_nil
theorem kitT1 : kitB "tuple" "int" = some false := by decide +kernel
theorem kitT2 : kitB "tuple" "bool" = some false := by decide +kernel
theorem kNT : kitB "NoneType" "tuple" = some false := by decide +kernel
theorem kIT : kitB "int" "tuple" = some false := by decide +kernel
theorem kST : kitB "str" "tuple" = some false := by decide +kernel
theorem kLT : kitB "list" "tuple" = some false := by decide +kernel
theorem kDT : kitB "dict" "tuple" = some false := by decide +kernel
theorem part_tup {K : PySem.W.Frag} {H : Hp} {t : Addr} {xs : List V} (h : SqT K H t xs) : Part K H (.ref t) none := .inr ⟨rfl, "tuple", false, false, tyT h, kitT1, kitT2, rfl⟩
theorem part_bl {K : PySem.W.Frag} {H : Hp} (b : Bool) : Part K H (.bl b) none := .inr ⟨rfl, "bool", true, true, .base (.bl b), kitB1, kitB2, rfl⟩
theorem AnyV.tup {K : PySem.W.Frag} {H : Hp} {t : Addr} {xs : List V} {os : List (Option Int)} (h : SqT K H t xs) (k : Parts K H xs os) (l : os.length ≤ 1000) : ∃ o, AnyV K H (.ref t) o := ⟨some os, t, xs, rfl, h, k, l⟩
end CK
namespace K14
open PySem PySem.Spec PyProof.Rows L2 VG FR CK HD
abbrev s__law_reckoned_right : Stmt := topS 63
abbrev N__law_reckoned_right : List Str := ["table", "row", "errors", "by_class", "due", "off"]
theorem sc__law_reckoned_right : FnScope N__law_reckoned_right ["table", "row", "errors", "by_class"] (defScope s__law_reckoned_right) := ⟨rfl, rfl, rfl, by decide +kernel, rfl, by decide +kernel, by decide +kernel⟩
abbrev s__law_values_right : Stmt := topS 64
abbrev N__law_values_right : List Str := ["heap", "table", "size", "row", "at", "odd", "values", "value", "due", "entry"]
theorem sc__law_values_right : FnScope N__law_values_right ["heap", "table", "size"] (defScope s__law_values_right) := ⟨rfl, rfl, rfl, by decide +kernel, rfl, by decide +kernel, by decide +kernel⟩
section
variable {P : Program} {w : World} {K : PySem.W.Frag} {mg : Str → Option Value} {base : Heap}
theorem ok__law_reckoned_right {f C : Addr} {fd : FuncData} (F : Fun K "_law_reckoned_right" "_law_reckoned_right" s__law_reckoned_right f fd) (C__law_sum : Cl P w K mg base 2 "_law_sum" (spLawSum K)) (C_reckoned : Cl P w K mg base 6 "reckoned" (spReckoned K C)) (C_is_off : Cl P w K mg base 4 "is_off" (spOff K C))
    (CR_reckoned : ClR P w K mg base 6 "reckoned" ["errors", "reckoning", "table"] (spReckoned K C)) (CR_is_off : ClR P w K mg base 4 "is_off" ["errors", "reckoning", "table"] (spOff K C))
    (z_repr : mg "repr" = none) (z_abs : mg "abs" = none) : FnG P w K mg base 7 f fd ["table", "row", "errors", "by_class"] (spReckRight K C) := by
  refine fnG_of F sc__law_reckoned_right (fun vs H Q E h => ?_) (fun cdv A outer s H vs Q E hg hr h => ?_)
  · obtain ⟨_, _, _, _, _, _, _, _, _, _, rfl, _⟩ := h
    rfl
  · obtain ⟨a, r, e, b, ys, bs, ks, ts, es, row, rfl, hTab, lt, lk, hR, lr, ro, hE, hF, le, ok, hB, hFB, fin⟩ := h
    refine ⟨_, (pss_cons (ps_set (i := 4) sc__law_reckoned_right.nd rfl (.inl rfl) (pe_cl C__law_sum hr (by decide) rfl (pa_cons (pv 1) (pa_cons (pv 3) pa_nil))))
    (pss_cons (ps_set (i := 5) sc__law_reckoned_right.nd rfl (.inl rfl) (pe_cmpR op_ge (pe_callB call_abs (by rfl) z_abs (by decide +kernel) (pa_cons (pe_ix ix_tup (pv 4) pe_int (fun _ _ => rfl)) pa_nil)) (pe_ix ix_tup (pv 4) pe_int (fun _ _ => rfl)) (nomark _)))
    (pss_cons (ps_if (PW.pt (pw_or (pt_cmpR op_ne (pe_callB (cr_repr hg hr.units) (by rfl) z_repr (by decide +kernel) (pa_cons (pe_cl C_reckoned hr (by decide) rfl (pa_cons (pv 0) (pa_cons (pv 1) (pa_cons (pv 2) pa_nil)))) pa_nil)) (pe_callB (cr_repr hg hr.units) (by rfl) z_repr (by decide +kernel) (pa_cons (pv 4) pa_nil)) (nomark _)) (pw_or1 (pt_cmpR (op_neD hr.units) (pe_clr CR_reckoned hr (by decide) rfl (pk_cons (pv 2) (pk_cons (pv 1) (pk_cons (pv 0) pk_nil)))) (pv 4) (nomark _)))))
      (pss_one (ps_ret pe_bl))
      pss_nil)
    (pss_one (ps_ret (pe_and (pe_cmpR op_eq (pe_callB cr_reprB (by rfl) z_repr (by decide +kernel) (pa_cons (pe_cl C_is_off hr (by decide) rfl (pa_cons (pv 0) (pa_cons (pv 1) (pa_cons (pv 2) pa_nil)))) pa_nil)) (pe_callB cr_reprB (by rfl) z_repr (by decide +kernel) (pa_cons (pv 5) pa_nil)) (nomark _)) (pe_one (pe_cmpR op_eq (pe_callB cr_reprB (by rfl) z_repr (by decide +kernel) (pa_cons (pe_clr CR_is_off hr (by decide) rfl (pk_cons (pv 2) (pk_cons (pv 1) (pk_cons (pv 0) pk_nil)))) pa_nil)) (pe_callB cr_reprB (by rfl) z_repr (by decide +kernel) (pa_cons (pv 5) pa_nil)) (nomark _))))))))), ?_⟩
    have size := errs_size (ts := ts) ok lk
    have cl := (classes_len ts ks.length).1
    have le2 := errs_len (classesL ts ks.length) es
    have bt := lsum_bt (row := row) ok lk lr ro
    refine ⟨_, rfl, _, rfl, r, b, row, bs, _, rfl, .inr hR, hB, hFB, by omega, by omega, ro, size, fun H1 D s1 nD hD => ?_⟩
    generalize hdd : M14.lsum row (errsL (classesL ts ks.length) es) = dd at bt hD
    have shd := shn_Q (p := dd) (by decide) bt (by decide)
    refine ⟨_, rfl, D, _, _, _, rfl, rfl, sqt hD, at0 _ _, _, rfl, _, rfl, D, _, _, _, rfl, rfl, sqt hD, at1 _ _, _, _, rfl, rfl, ?_⟩
    refine ⟨_, rfl, _, rfl, _, rfl, a, r, e, ys, ks, ts, es, row, rfl, hTab.mono s1, lt, lk, seqT s1 hR, lr, ro, seqT s1 hE, hF.mono s1, le, ok, fun H2 u s2 hu => ?_⟩
    rw [hdd] at hu
    have s12 := s1.trans s2
    refine ⟨u, dQ dd, rfl, dpQ hu, shd.r.1, shd.r.2.1, shd.r.2.2.1, shd.r.2.2.2, _, rfl, D, dQ dd, rfl, dpQ (sqt (s2 _ _ hD)), shd.r.1, shd.r.2.1, shd.r.2.2.1, shd.r.2.2.2, rfl, _, rfl, iteNe rfl ?_⟩
    refine ⟨_, rfl, _, rfl, _, rfl, a, r, e, ys, ks, ts, es, row, rfl, hTab.mono s12, lt, lk, seqT s12 hR, lr, ro, seqT s12 hE, hF.mono s12, le, ok, fun H3 u s3 hu => ?_⟩
    rw [hdd] at hu
    have s13 := s12.trans s3
    refine ⟨_, rfl, dQ dd, dQ dd, dpQ hu, dpQ (sqt (s3 _ _ (s2 _ _ hD))), shQ _, shQ _, _, rfl, ?_⟩
    rw [eqQ_self]
    refine iteF ?_
    have off : decide (dd.2 ≤ (if dd.1 < 0 then -dd.1 else dd.1)) = offB row (errsL (classesL ts ks.length) es) := by
      unfold offB M14.absV
      rw [hdd, Bool.eq_iff_iff, Bool.not_eq_true', decide_eq_true_eq, decide_eq_false_iff_not]
      omega
    have same : V.str (bT (offB row (errsL (classesL ts ks.length) es))) = V.str (bT (decide (dd.2 ≤ (if dd.1 < 0 then -dd.1 else dd.1)))) := congrArg (fun b => V.str (bT b)) off.symm
    refine ⟨_, rfl, _, rfl, _, rfl, a, r, e, ys, ks, ts, es, row, rfl, hTab.mono s13, lt, lk, seqT s13 hR, lr, ro, seqT s13 hE, hF.mono s13, le, ok, fun H4 s4 => ⟨_, rfl, _, rfl, _, rfl, rfl, true, congrArg V.bl (decide_eq_true same), iteT ?_⟩⟩
    have s14 := s13.trans s4
    refine ⟨_, rfl, _, rfl, _, rfl, a, r, e, ys, ks, ts, es, row, rfl, hTab.mono s14, lt, lk, seqT s14 hR, lr, ro, seqT s14 hE, hF.mono s14, le, ok, fun H5 s5 => ⟨_, rfl, _, rfl, _, rfl, rfl, ?_⟩⟩
    have q := fin H5 (s14.trans s5)
    rw [← show (V.bl (decide (V.str (bT (offB row (errsL (classesL ts ks.length) es))) = V.str (bT (decide (dd.2 ≤ (if dd.1 < 0 then -dd.1 else dd.1))))))) = V.bl true from congrArg V.bl (decide_eq_true same)] at q
    exact q
theorem ok__law_values_right {f C : Addr} {fd : FuncData} (F : Fun K "_law_values_right" "_law_values_right" s__law_values_right f fd) (C__law_row : Cl P w K mg base 3 "_law_row" spRow) (C__law_draw : Cl P w K mg base 1 "_law_draw" spDraw) (C__law_pick : Cl P w K mg base 2 "_law_pick" (spPick K))
    (C_is_reckoning : Cl P w K mg base 3 "is_reckoning" (spIsReck K C)) (CR_is_reckoning : ClR P w K mg base 3 "is_reckoning" ["value", "table"] (spIsReck K C))
    (z_repr : mg "repr" = none) (z_isinstance : mg "isinstance" = none) (z_tuple : mg "tuple" = none) (z_int : mg "int" = none) (z_bool : mg "bool" = none) (z_len : mg "len" = none) (z_all : mg "all" = none) (z_list : mg "list" = none) :
    FnG P w K mg base 4 f fd ["heap", "table", "size"] (spValues K C) := by
  refine fnG_of F sc__law_values_right (fun vs H Q E h => ?_) (fun cdv A outer s H vs Q E hg hr h => ?_)
  · obtain ⟨_, _, _, _, _, _, rfl, _⟩ := h
    rfl
  · obtain ⟨p, q, a, n, ks, ts, rfl, hd, hTab, lt, lk, en, fin⟩ := h
    refine ⟨_, (pss_cons (ps_set (i := 3) sc__law_values_right.nd rfl (.inl rfl) (pe_cl C__law_row hr (by decide) rfl (pa_cons (pv 0) (pa_cons (pv 2) pa_nil))))
    (pss_cons (ps_set (i := 4) sc__law_values_right.nd rfl (.inl rfl) (pe_cl C__law_draw hr (by decide) rfl (pa_cons (pv 0) (pa_cons (pe_op op_add (pv 2) pe_int) pa_nil))))
    (pss_cons (ps_set (i := 5) sc__law_values_right.nd rfl (.inl rfl) (pe_cl C__law_pick hr (by decide) rfl (pa_cons (pv 0) (pa_cons (pe_lst (pa_cons pe_non (pa_cons pe_bl (pa_cons pe_bl (pa_cons pe_str (pa_cons (pe_tup (pa_cons pe_int pa_nil)) (pa_cons (pe_tup pa_nil) (pa_cons pe_int (pa_cons pe_int (pa_cons (pe_un un_neg pe_int) (pa_cons (pe_op op_pow pe_int pe_int) pa_nil))))))))))) pa_nil))))
    (pss_cons (ps_set (i := 6) sc__law_values_right.nd rfl (.inl rfl) (pe_lst (pa_cons (pv 3) (pa_cons (pe_op op_catM (pe_op op_catM (pe_slice sl_tupM (pv 3) po_none (po_some (pv 4))) (pe_tup (pa_cons (pv 5) pa_nil))) (pe_slice sl_tupM (pv 3) (po_some (pe_op op_add (pv 4) pe_int)) po_none)) (pa_cons (pe_op op_catM (pe_slice sl_tupM (pv 3) po_none (po_some (pv 4))) (pe_slice sl_tupM (pv 3) (po_some (pe_op op_add (pv 4) pe_int)) po_none)) (pa_cons (pe_op op_catM (pv 3) (pe_tup (pa_cons pe_int pa_nil))) (pa_cons (pe_callTy call_list_of (by rfl) z_list (by decide +kernel) (pa_cons (pv 3) pa_nil)) (pa_cons pe_non (pa_cons pe_int (pa_cons pe_str (pa_cons (pe_tup pa_nil) (pa_cons pe_dnewK (pa_cons (pe_tup (pa_cons (pv 3) pa_nil)) (pa_cons (pe_tup (pa_cons pe_int pa_nil)) (pa_cons (pe_op op_repA (pe_tup (pa_cons pe_bl pa_nil)) (pv 2)) pa_nil)))))))))))))))
    (pss_cut (ps_for PassesOwn.never rfl (pi_list (pv 6)) (pg_name (i := 7) sc__law_values_right.nd rfl (.inl rfl))
      (pss_cons (ps_set (i := 8) sc__law_values_right.nd rfl (.inl rfl) (pe_meet (pe_and (pe_callB call_isi (by rfl) z_isinstance (by decide +kernel) (pa_cons (pv 7) (pa_cons (pe_bltn (v := .ty "tuple") (by rfl) z_tuple (by decide +kernel) rfl) pa_nil))) (pe_and (pe_cmpR op_eq (pe_callB call_len_seq (by rfl) z_len (by decide +kernel) (pa_cons (pv 7) pa_nil)) (pv 2) (nomark _)) (pe_one (pe_callB (cr_all rfl) (by rfl) z_all (by decide +kernel) (pa_cons (pe_lc (own := [("entry", 9)]) (by rfl) sc__law_values_right.nd (pi_tup (pv 7)) (blkOk_by (own := [("entry", 9)]) (N := N__law_values_right) (sc := defScope s__law_values_right) (by decide +kernel)) (fun _ _ _ _ _ => (pg_name (i := 9) sc__law_values_right.nd rfl (.inl rfl))) (fun _ _ _ _ _ => pts_nil) (fun _ _ _ _ _ => (pe_and (pe_callB (show CallR _ (.builtin "isinstance") (rIsi K) from call_isi) (by rfl) z_isinstance (by decide +kernel) (pa_cons (pv 9) (pa_cons (pe_bltn (v := .ty "int") (by rfl) z_int (by decide +kernel) rfl) pa_nil))) (pe_one (pe_not (pe_callB (show CallR _ (.builtin "isinstance") (rIsi K) from call_isi) (by rfl) z_isinstance (by decide +kernel) (pa_cons (pv 9) (pa_cons (pe_bltn (v := .ty "bool") (by rfl) z_bool (by decide +kernel) rfl) pa_nil)))))))) pa_nil)))))))
      (pss_one (ps_if (PW.pt (pw_or (pt_cmpR op_ne (pe_callB cr_reprB (by rfl) z_repr (by decide +kernel) (pa_cons (pe_cl C_is_reckoning hr (by decide) rfl (pa_cons (pv 1) (pa_cons (pv 7) pa_nil))) pa_nil)) (pe_callB cr_reprB (by rfl) z_repr (by decide +kernel) (pa_cons (pv 8) pa_nil)) (nomark _)) (pw_or1 (pt_cmpR op_ne (pe_callB cr_reprB (by rfl) z_repr (by decide +kernel) (pa_cons (pe_clr CR_is_reckoning hr (by decide) rfl (pk_cons (pv 7) (pk_cons (pv 1) pk_nil))) pa_nil)) (pe_callB cr_reprB (by rfl) z_repr (by decide +kernel) (pa_cons (pv 8) pa_nil)) (nomark _)))))
        (pss_one (ps_ret pe_bl))
        pss_nil))))
    (pss_one (ps_ret pe_bl))))))), ?_⟩
    have big : sizeLine = 16777216 := by decide
    have cl := (classes_len ts ks.length).1
    have n12 : n ≤ 12 := by omega
    refine ⟨_, rfl, _, rfl, p, q, n, rfl, hd, by omega, fun H1 R row on1 hR fR lr _ => ?_⟩
    refine ⟨_, rfl, _, rfl, _, _, rfl, rfl, p, q, _, rfl, on1.hd, by omega, by omega, fun H2 at_ hd2 kp2 a0 a1 => ?_⟩
    have on2 := on1.draw hd2 kp2
    have hR := kp2 R _ fR.1 fR.2 hR
    obtain ⟨at_, rfl⟩ := Int.eq_ofNat_of_zero_le a0
    have at1' : at_ ≤ n := by omega
    -- something odd
    refine ⟨_, rfl, by show 1 ≤ sizeLine; omega, fun O1 n1 => ?_⟩
    have f1 := on2.free n1
    have on3 := on2.new (o := .tup [.int 1]) n1
    have s3 := same_upd (o := .tup [.int 1]) n1
    have k1 := upd_same (H := H2) (a := O1) (o := .tup [.int 1])
    have hR := s3 _ _ hR
    generalize L2.upd H2 O1 (.tup [.int 1]) = H3 at on3 k1 hR ⊢
    refine ⟨by show 0 ≤ sizeLine; exact Nat.zero_le _, fun O2 n2 => ?_⟩
    have f2 := on3.free n2
    have on4 := on3.new (o := .tup []) n2
    have s4 := same_upd (o := .tup []) n2
    have k2 := upd_same (H := H3) (a := O2) (o := .tup [])
    have k1 := s4 _ _ k1
    have hR := s4 _ _ hR
    generalize L2.upd H3 O2 (.tup []) = H4 at on4 k1 k2 hR ⊢
    refine ⟨_, rfl, _, _, rfl, rfl, ⟨by decide, by decide, by decide⟩, by show 10 ≤ sizeLine; omega, fun O3 n3 => ?_⟩
    have f3 := on4.free n3
    have on5 := on4.new (o := .lst [.non, .bl true, .bl false, .str "1", .ref O1, .ref O2, .int 1, .int 0, .int (-7), .int ((10 : Int) ^ (30 : Int).toNat)]) n3
    have s5 := same_upd (o := .lst [.non, .bl true, .bl false, .str "1", .ref O1, .ref O2, .int 1, .int 0, .int (-7), .int ((10 : Int) ^ (30 : Int).toNat)]) n3
    have k3 := upd_same (H := H4) (a := O3) (o := .lst [.non, .bl true, .bl false, .str "1", .ref O1, .ref O2, .int 1, .int 0, .int (-7), .int ((10 : Int) ^ (30 : Int).toNat)])
    have k1 := s5 _ _ k1
    have k2 := s5 _ _ k2
    have hR := s5 _ _ hR
    generalize L2.upd H4 O3 (.lst [.non, .bl true, .bl false, .str "1", .ref O1, .ref O2, .int 1, .int 0, .int (-7), .int ((10 : Int) ^ (30 : Int).toNat)]) = H5 at on5 k1 k2 k3 hR ⊢
    refine ⟨p, q, O3, _, rfl, on5.hd, k3, f3.1, f3.2.1, by simp, by show 10 < 1000000; decide, fun H6 v hd6 kp6 hv => ?_⟩
    have on6 := on5.draw hd6 kp6
    have hR : SqT K H6 R (row.map V.int) := sqt (kp6 R _ fR.1 fR.2 hR)
    have k1 := kp6 O1 _ f1.1 f1.2.1 k1
    have k2 := kp6 O2 _ f2.1 f2.2.1 k2
    have odd : ∃ o, Part K H6 v o := by
      have : v = .non ∨ v = .bl true ∨ v = .bl false ∨ v = .str "1" ∨ v = .ref O1 ∨ v = .ref O2 ∨ v = .int 1 ∨ v = .int 0 ∨ v = .int (-7) ∨ v = .int ((10 : Int) ^ (30 : Int).toNat) := by simpa only [List.mem_cons, List.not_mem_nil, or_false] using hv
      rcases this with z | z | z | z | z | z | z | z | z | z
      · exact ⟨none, .inr ⟨rfl, "NoneType", false, false, by rw [z]; exact .base .non, kitN1, kitN2, rfl⟩⟩
      · rw [z]; exact ⟨none, part_bl true⟩
      · rw [z]; exact ⟨none, part_bl false⟩
      · exact ⟨none, .inr ⟨rfl, "str", false, false, by rw [z]; exact .base (.str _), kitS1, kitS2, rfl⟩⟩
      · rw [z]; exact ⟨none, part_tup (sqt k1)⟩
      · rw [z]; exact ⟨none, part_tup (sqt k2)⟩
      · exact ⟨_, .inl ⟨_, z, rfl⟩⟩
      · exact ⟨_, .inl ⟨_, z, rfl⟩⟩
      · exact ⟨_, .inl ⟨_, z, rfl⟩⟩
      · exact ⟨_, .inl ⟨_, z, rfl⟩⟩
    obtain ⟨od, odd⟩ := odd
    have tab6 : Tab K C H6 a ks ts := hTab.mono on6.le
    clear k1 k2 k3 s3 s4 s5 hv kp6 kp2
    -- values
    have lrow : (row.map V.int).length = n := by rw [List.length_map]; exact lr
    have z2 : ((at_ : Nat) : Int) + 1 = ((at_ + 1 : Nat) : Int) := by omega
    refine ⟨_, rfl, _, rfl, _, rfl, _, rfl, R, _, rfl, hR, fun t1 H7 s7 g1 => ?_⟩
    rw [cut0] at g1
    have hR := seqT s7 hR
    have odd := part_mono s7 odd
    have tab7 := tab6.mono s7
    have on7 := on6.same s7
    refine ⟨_, rfl, by show 1 ≤ sizeLine; omega, fun t2 nt2 => ?_⟩
    have s8 := same_upd (o := .tup [v]) nt2
    have g2 := upd_same (H := H7) (a := t2) (o := .tup [v])
    have hR := seqT s8 hR
    have odd := part_mono s8 odd
    have g1 := seqT s8 g1
    have tab8 := tab7.mono s8
    have on8 := on7.same s8
    generalize L2.upd H7 t2 (.tup [v]) = H8 at hR odd g1 g2 tab8 on8 ⊢
    refine ⟨t1, t2, _, _, rfl, rfl, g1, sqt g2, by rw [List.length_take]; show _ + 1 ≤ _; omega, fun t3 H9 s9 g3 => ?_⟩
    have hR := seqT s9 hR
    have odd := part_mono s9 odd
    have tab9 := tab8.mono s9
    have on9 := on8.same s9
    refine ⟨_, rfl, _, rfl, _, _, rfl, rfl, _, rfl, R, _, rfl, hR, fun t4 H10 s10 g4 => ?_⟩
    rw [z2, cutF] at g4
    have hR := seqT s10 hR
    have odd := part_mono s10 odd
    have g3 := seqT s10 g3
    have tab10 := tab9.mono s10
    have on10 := on9.same s10
    refine ⟨t3, t4, _, _, rfl, rfl, g3, g4, by rw [List.length_append, List.length_take, List.length_drop]; show _ + 1 + _ ≤ _; omega, fun t5 H11 s11 g5 => ?_⟩
    have hR := seqT s11 hR
    have odd := part_mono s11 odd
    have tab11 := tab10.mono s11
    have on11 := on10.same s11
    have v2 : ∃ o, AnyV K H11 (.ref t5) o := AnyV.tup g5 (Parts.app (Parts.app (by rw [← List.map_take]; exact Parts.ints (row.take at_)) (os := _) (ps := [od]) ⟨odd, trivial⟩) (by rw [← List.map_drop]; exact Parts.ints (row.drop (at_ + 1)))) (by
      rw [List.length_append, List.length_append, List.length_map, List.length_map, List.length_take, List.length_drop]
      show _ + 1 + _ ≤ _
      omega)
    clear g1 g2 g3 g4 g5 s7 s8 s9 s10 s11 tab7 tab8 tab9 tab10 on7 on8 on9 on10
    -- without one
    refine ⟨_, rfl, _, rfl, _, rfl, R, _, rfl, hR, fun t6 H12 s12 g6 => ?_⟩
    rw [cut0] at g6
    have hR := seqT s12 hR
    refine ⟨_, rfl, _, rfl, _, _, rfl, rfl, _, rfl, R, _, rfl, hR, fun t7 H13 s13 g7 => ?_⟩
    rw [z2, cutF] at g7
    have hR := seqT s13 hR
    refine ⟨t6, t7, _, _, rfl, rfl, seqT s13 g6, g7, by rw [List.length_take, List.length_drop]; omega, fun t8 H14 s14 g8 => ?_⟩
    have s11 := (s12.trans s13).trans s14
    have hR := seqT s14 hR
    have odd := part_mono s11 odd
    have tab14 := tab11.mono s11
    have on14 := on11.same s11
    obtain ⟨o2, v2⟩ := v2
    have v2 := v2.mono s11
    have v3 : ∃ o, AnyV K H14 (.ref t8) o := AnyV.tup g8 (Parts.app (by rw [← List.map_take]; exact Parts.ints (row.take at_)) (by rw [← List.map_drop]; exact Parts.ints (row.drop (at_ + 1)))) (by
      rw [List.length_append, List.length_map, List.length_map, List.length_take, List.length_drop]
      omega)
    obtain ⟨o3, v3⟩ := v3
    clear g6 g7 g8 s12 s13 s14 s11 tab11 on11
    -- with one more
    refine ⟨_, rfl, by show 1 ≤ sizeLine; omega, fun t9 n9 => ?_⟩
    have s15 := same_upd (o := .tup [.int 0]) n9
    have g9 := upd_same (H := H14) (a := t9) (o := .tup [.int 0])
    have hR := seqT s15 hR
    generalize L2.upd H14 t9 (.tup [.int 0]) = H15 at s15 g9 hR ⊢
    refine ⟨R, t9, _, _, rfl, rfl, hR, sqt g9, by rw [lrow]; show _ + 1 ≤ _; omega, fun t10 H16 s16 g10 => ?_⟩
    have s14 := s15.trans s16
    have hR := seqT s16 hR
    have v2 := v2.mono s14
    have v3 := v3.mono s14
    have tab16 := tab14.mono s14
    have on16 := on14.same s14
    have v4 : ∃ o, AnyV K H16 (.ref t10) o := AnyV.tup g10 (Parts.app (Parts.ints row) (os := _) (ps := [some 0]) ⟨.inl ⟨0, rfl, rfl⟩, trivial⟩) (by
      rw [List.length_append, List.length_map]
      show _ + 1 ≤ _
      omega)
    obtain ⟨o4, v4⟩ := v4
    clear g9 g10 s15 s16 s14 tab14 on14
    -- a list
    refine ⟨_, rfl, R, _, rfl, .inr hR, fun t11 n11 => ?_⟩
    have s17 := same_upd (o := .lst (row.map V.int)) n11
    have g11 := upd_same (H := H16) (a := t11) (o := .lst (row.map V.int))
    generalize L2.upd H16 t11 (.lst (row.map V.int)) = H17 at s17 g11 ⊢
    refine ⟨by show 0 ≤ sizeLine; exact Nat.zero_le _, fun t12 n12' => ?_⟩
    have s18 := same_upd (o := .tup []) n12'
    have g12 := upd_same (H := H17) (a := t12) (o := .tup [])
    have g11 := s18 _ _ g11
    generalize L2.upd H17 t12 (.tup []) = H18 at s18 g11 g12 ⊢
    refine fun t13 n13 => ?_
    have s19 := same_upd (o := .dK []) n13
    have g13 := upd_same (H := H18) (a := t13) (o := .dK [])
    have g11 := s19 _ _ g11
    have g12 := s19 _ _ g12
    have hR := seqT ((s17.trans s18).trans s19) hR
    generalize L2.upd H18 t13 (.dK []) = H19 at s19 g11 g12 g13 hR ⊢
    refine ⟨_, rfl, by show 1 ≤ sizeLine; omega, fun t14 n14 => ?_⟩
    have s20 := same_upd (o := .tup [.ref R]) n14
    have g14 := upd_same (H := H19) (a := t14) (o := .tup [.ref R])
    have g11 := s20 _ _ g11
    have g12 := s20 _ _ g12
    have g13 := s20 _ _ g13
    have hR := seqT s20 hR
    generalize L2.upd H19 t14 (.tup [.ref R]) = H20 at s20 g11 g12 g13 g14 hR ⊢
    refine ⟨by show 1 ≤ sizeLine; omega, fun t15 n15 => ?_⟩
    have s21 := same_upd (o := .tup [.int 0]) n15
    have g15 := upd_same (H := H20) (a := t15) (o := .tup [.int 0])
    have g11 := s21 _ _ g11
    have g12 := s21 _ _ g12
    have g13 := s21 _ _ g13
    have g14 := s21 _ _ g14
    have hR := seqT s21 hR
    generalize L2.upd H20 t15 (.tup [.int 0]) = H21 at s21 g11 g12 g13 g14 g15 hR ⊢
    refine ⟨by show 1 ≤ sizeLine; omega, fun t16 n16 => ?_⟩
    have s22 := same_upd (o := .tup [.bl false]) n16
    have g16 := upd_same (H := H21) (a := t16) (o := .tup [.bl false])
    have g11 := s22 _ _ g11
    have g12 := s22 _ _ g12
    have g13 := s22 _ _ g13
    have g14 := s22 _ _ g14
    have g15 := s22 _ _ g15
    have hR := seqT s22 hR
    generalize L2.upd H21 t16 (.tup [.bl false]) = H22 at s22 g11 g12 g13 g14 g15 g16 hR ⊢
    refine ⟨_, rfl, t16, n, _, rfl, rfl, sqt g16, by simp, by omega, by show 1 ≤ 1000; decide, fun t17 H23 s23 g17 => ?_⟩
    have s16 := (((((s17.trans s18).trans s19).trans s20).trans s21).trans s22).trans s23
    have hR := seqT s23 hR
    have g11 := s23 _ _ g11
    have g12 := s23 _ _ g12
    have g13 := s23 _ _ g13
    have g14 := s23 _ _ g14
    have g15 := s23 _ _ g15
    have v2 := v2.mono s16
    have v3 := v3.mono s16
    have v4 := v4.mono s16
    have tab23 := tab16.mono s16
    have on23 := on16.same s16
    clear s16 s17 s18 s19 s20 s21 s22 s23 tab16 on16 g16
    refine ⟨by show 13 ≤ sizeLine; omega, fun L nL => ?_⟩
    have s24 := same_upd (o := .lst [.ref R, .ref t5, .ref t8, .ref t10, .ref t11, .non, .int 0, .str "", .ref t12, .ref t13, .ref t14, .ref t15, .ref t17]) nL
    have gL := upd_same (H := H23) (a := L) (o := .lst [.ref R, .ref t5, .ref t8, .ref t10, .ref t11, .non, .int 0, .str "", .ref t12, .ref t13, .ref t14, .ref t15, .ref t17])
    have all : ∀ v ∈ ([.ref R, .ref t5, .ref t8, .ref t10, .ref t11, .non, .int 0, .str "", .ref t12, .ref t13, .ref t14, .ref t15, .ref t17] : List V), ∃ o, AnyV K H23 v o := by
      intro v hv
      have : v = .ref R ∨ v = .ref t5 ∨ v = .ref t8 ∨ v = .ref t10 ∨ v = .ref t11 ∨ v = .non ∨ v = .int 0 ∨ v = .str "" ∨ v = .ref t12 ∨ v = .ref t13 ∨ v = .ref t14 ∨ v = .ref t15 ∨ v = .ref t17 := by simpa only [List.mem_cons, List.not_mem_nil, or_false] using hv
      rcases this with z | z | z | z | z | z | z | z | z | z | z | z | z <;> subst z
      · exact AnyV.tup hR (Parts.ints row) (by rw [List.length_map]; omega)
      · exact ⟨_, v2⟩
      · exact ⟨_, v3⟩
      · exact ⟨_, v4⟩
      · exact ⟨none, "list", .base (.lst g11), kLT⟩
      · exact ⟨none, "NoneType", .base .non, kNT⟩
      · exact ⟨none, "int", .base (.int 0), kIT⟩
      · exact ⟨none, "str", .base (.str _), kST⟩
      · exact AnyV.tup (sqt g12) (os := []) trivial (Nat.zero_le _)
      · exact ⟨none, "dict", .base (.dK g13), kDT⟩
      · exact AnyV.tup (sqt g14) (os := [none]) ⟨part_tup hR, trivial⟩ (by decide)
      · exact AnyV.tup (sqt g15) (os := [some 0]) ⟨.inl ⟨0, rfl, rfl⟩, trivial⟩ (by decide)
      · exact AnyV.tup g17 (Parts.rep (part_bl false) n) (by rw [List.length_replicate]; omega)
    have tab24 := tab23.mono s24
    have on24 := on23.same s24
    have all : ∀ v ∈ ([.ref R, .ref t5, .ref t8, .ref t10, .ref t11, .non, .int 0, .str "", .ref t12, .ref t13, .ref t14, .ref t15, .ref t17] : List V), ∃ o, AnyV K (L2.upd H23 L (.lst [.ref R, .ref t5, .ref t8, .ref t10, .ref t11, .non, .int 0, .str "", .ref t12, .ref t13, .ref t14, .ref t15, .ref t17])) v o := fun v hv => by
      obtain ⟨o, h⟩ := all v hv
      exact ⟨o, h.mono s24⟩
    generalize L2.upd H23 L (.lst [.ref R, .ref t5, .ref t8, .ref t10, .ref t11, .non, .int 0, .str "", .ref t12, .ref t13, .ref t14, .ref t15, .ref t17]) = H24 at gL tab24 on24 all ⊢
    generalize ([.ref R, .ref t5, .ref t8, .ref t10, .ref t11, .non, .int 0, .str "", .ref t12, .ref t13, .ref t14, .ref t15, .ref t17] : List V) = vals at gL all ⊢
    clear v2 v3 v4 g11 g12 g13 g14 g15 g17 hR s24 tab23 on23 odd
    -- each of them
    refine ⟨fun σ H' => Same H24 H', ?_, ?_⟩
    · refine ⟨_, rfl, L, rfl, ⟨_, .inl (.inl gL)⟩, ?_⟩
      refine for_it (walk_list (K := K) (a := L) (xs := vals)) (fun i σ H' => Same H24 H' ∧ ∃ y7 y8 : Option V, σ = [some (.ref p), some (.ref a), some (.int n), some (.ref R), some (.int at_), some v, some (.ref L), y7, y8, none]) ⟨Same.refl _, _, _, rfl⟩ (fun i σ H' _ h => h.1.seq (.inl (.inl gL))) ?_ ?_
      · rintro i x σ H25 H26 hi ⟨sm, y7, y8, rfl⟩ ⟨rfl, ex⟩
        obtain ⟨o, ho⟩ := all x (List.mem_of_getElem? ex)
        have ho := ho.mono sm
        refine ⟨fun v' H' => v' = .bl (reckB n o) ∧ Same H26 H', ?_, ?_⟩
        · cases o with
          | none =>
            obtain ⟨ty, t, k⟩ := ho
            exact ⟨_, rfl, _, _, _, _, false, rfl, .ty "tuple", t, kit_ty k, false, rfl, iteF ⟨rfl, Same.refl _⟩⟩
          | some os =>
            obtain ⟨t, zs, rfl, ht, hp, lo⟩ := ho
            have lz := hp.len
            refine ⟨_, rfl, _, _, _, _, true, rfl, .ty "tuple", tyT ht, kit_ty (by decide +kernel), true, rfl, iteT ?_⟩
            refine ⟨_, rfl, t, zs, rfl, .inr ht, _, rfl, rfl, _, rfl, ite2 (fun z => ?_) (fun z => ?_)⟩
            · have el : os.length = n := by
                have := V.int.inj (of_decide_eq_true z)
                omega
              refine ⟨_, rfl, t, rfl, ⟨_, ht⟩, fun D nD => ?_⟩
              refine lc_it (walk_tup (K := K) (a := t) (xs := zs)) (fun j H' => Same H26 H' ∧ H' D = some (.lst (((os.take j).map Option.isSome).map V.bl))) ⟨same_upd nD, upd_same⟩ (fun j H' _ h => seqT h.1 ht) ?_ ?_
              · rintro j x H27 H28 hj ⟨s27, hD⟩ ⟨rfl, ex2⟩
                obtain ⟨oo, eo, hoo⟩ := hp.get ex2
                have hoo := part_mono s27 hoo
                have hj2 : j < zs.length := hj
                have fin2 : ∃ acc : List V, H28 D = some (.lst acc) ∧ acc.length < sizeLine ∧ Same H26 (L2.upd H28 D (.lst (acc ++ [V.bl oo.isSome]))) ∧ (L2.upd H28 D (.lst (acc ++ [V.bl oo.isSome]))) D = some (.lst (((os.take (j + 1)).map Option.isSome).map V.bl)) := by
                  refine ⟨_, hD, ?_, HD.same_put s27 nD, ?_⟩
                  · rw [List.length_map, List.length_map, List.length_take]
                    omega
                  · rw [upd_same, List.take_add_one, eo, List.map_append, List.map_append]
                    rfl
                obtain ⟨acc, q1, q2, q3⟩ := fin2
                rcases hoo with ⟨c, rfl, rfl⟩ | ⟨rfl, ty, b1, b2, tt, w1, w2, w3⟩
                · refine ⟨rfl, _, rfl, _, _, _, _, true, rfl, .ty "int", .base (.int c), kb1, true, rfl, iteT ?_⟩
                  exact ⟨_, rfl, _, _, _, _, false, rfl, .ty "bool", .base (.int c), kb2, _, rfl, acc, q1, q2, q3⟩
                · refine ⟨rfl, _, rfl, _, _, _, _, b1, rfl, .ty "int", tt, kit_ty w1, b1, rfl, ?_⟩
                  cases b1 with
                  | false => exact iteF ⟨acc, q1, q2, q3⟩
                  | true =>
                    refine iteT ⟨_, rfl, _, _, _, _, b2, rfl, .ty "bool", tt, kit_ty w2, _, rfl, ?_⟩
                    have e2 : (!b2) = false := w3
                    rw [e2]
                    exact ⟨acc, q1, q2, q3⟩
              · rintro H27 ⟨s27, hD⟩
                rw [List.take_of_length_le (by omega)] at hD
                refine ⟨D, _, rfl, .inl (.inl hD), ?_, s27⟩
                refine congrArg V.bl ?_
                show (os.map Option.isSome).all id = (decide (os.length = n) && os.all Option.isSome)
                rw [decide_eq_true el, List.all_map]
                rfl
            · refine ⟨congrArg V.bl ?_, Same.refl _⟩
              have ne : ¬ os.length = n := fun e => z (decide_eq_true (congrArg V.int (by omega)))
              show false = (decide (os.length = n) && os.all Option.isSome)
              rw [decide_eq_false ne, Bool.false_and]
        · rintro v' H27 ⟨rfl, s27⟩
          have s28 := sm.trans s27
          have ho := ho.mono s27
          have res : reckB n o = reckB (classesL ts ks.length).length o := by rw [← en]
          rw [res]
          refine ⟨_, rfl, _, rfl, a, x, o, ks, ts, rfl, tab24.mono s28, lt, by omega, ho, fun H29 s29 => ⟨_, rfl, _, rfl, _, rfl, rfl, _, rfl, iteNe rfl ?_⟩⟩
          have s30 := s28.trans s29
          refine ⟨_, rfl, _, rfl, a, x, o, ks, ts, rfl, tab24.mono s30, lt, by omega, ho.mono s29, fun H31 s31 => ⟨_, rfl, _, rfl, _, rfl, rfl, _, rfl, iteNe rfl ?_⟩⟩
          exact ⟨s30.trans s31, _, _, rfl⟩
      · rintro σ H25 ⟨sm, _⟩
        exact sm
    · intro σ H25 sm
      exact fin H25 (on24.same sm)
end
end K14
namespace CK
open FR
theorem perm_sum {a b : List Int} (h : a.Perm b) : a.sum = b.sum := by
  induction h with
  | nil => rfl
  | cons x _ ih => rw [List.sum_cons, List.sum_cons, ih]
  | swap x y l => rw [List.sum_cons, List.sum_cons, List.sum_cons, List.sum_cons]; omega
  | trans _ _ h1 h2 => exact h1.trans h2
def esA (es : List Q2) (k : Int) : Q2 := es.getD k.toNat (0, 1)
theorem esA_in {es : List Q2} (h : EsOk es) (k : Int) : M2.Low (esA es k).1 (esA es k).2 ∧ Bt 20 (esA es k) := by
  unfold esA
  rw [List.getD_eq_getElem?_getD]
  cases e : es[k.toNat]? with
  | none => exact ⟨⟨by decide, by decide⟩, ⟨by decide, by decide⟩⟩
  | some p => exact h p (List.mem_of_getElem? e)
def prodB : List Q2 → Int
  | [] => 1
  | p :: ps => p.2 * prodB ps
theorem prod_pos : ∀ {es : List Q2}, EsOk es → 0 < prodB es
  | [], _ => by decide
  | p :: ps, h => Int.mul_pos (h p List.mem_cons_self).1.1 (prod_pos fun q hq => h q (List.mem_cons_of_mem _ hq))
theorem prod_dvd : ∀ {es : List Q2} {p : Q2}, p ∈ es → p.2 ∣ prodB es
  | q :: ps, p, h => by
    rcases List.mem_cons.mp h with z | z
    · rw [z]
      exact Int.dvd_mul_right _ _
    · exact Int.dvd_trans (prod_dvd z) (Int.dvd_mul_left _ _)
theorem esA_dvd (es : List Q2) (k : Int) : (esA es k).2 ∣ prodB es := by
  unfold esA
  rw [List.getD_eq_getElem?_getD]
  cases e : es[k.toNat]? with
  | none => exact Int.one_dvd _
  | some p => exact prod_dvd (List.mem_of_getElem? e)
theorem ov_es {es : List Q2} (h : EsOk es) (c : List Int) : Ov (prodB es) (c.map (esA es)) ((c.map (esA es)).map (topT (prodB es))) := ov_tops _ fun p hp => by
  obtain ⟨k, _, rfl⟩ := List.mem_map.mp hp
  exact ⟨(esA_in h k).1, esA_dvd es k⟩
theorem ov_tq {B t w : Int} {q : Q2} (l : M2.Low q.1 q.2) (e : q.1 * B = t * q.2) : M2.Low (M14.tq w q).1 (M14.tq w q).2 ∧ (M14.tq w q).1 * B = w * t * (M14.tq w q).2 := by
  have q0 := l.1
  have h := M2.mk_low (a := w * q.1) (b := 1 * q.2) (by omega)
  have g := M2.mk_eq (a := w * q.1) (b := 1 * q.2) (by omega)
  have g : (M14.tq w q).1 * (1 * q.2) = w * q.1 * (M14.tq w q).2 := g
  refine ⟨h, ?_⟩
  generalize M14.tq w q = r at g
  refine Int.eq_of_mul_eq_mul_right (a := q.2) (by omega) ?_
  have z1 : r.1 * B * q.2 = (r.1 * (1 * q.2)) * B := by grind
  rw [z1, g]
  have z2 : w * q.1 * r.2 * B = w * (q.1 * B) * r.2 := by grind
  rw [z2, e]
  grind
theorem sumQ_low {es : List Q2} (h : EsOk es) (c : List Int) : M2.Low (sumQ (c.map (esA es))).1 (sumQ (c.map (esA es))).2 :=
  (M14.sum_ls (ps := c.map (esA es)) fun p hp => by
    obtain ⟨k, _, rfl⟩ := List.mem_map.mp hp
    exact (esA_in h k).1).2
theorem ov_cls {es : List Q2} (h : EsOk es) (w : List Int → Int) : ∀ cs : List (List Int), Ov (prodB es) (((cs.map w).zip (cs.map fun c => sumQ (c.map (esA es)))).map fun x => M14.tq x.1 x.2) (cs.map fun c => w c * ((c.map (esA es)).map (topT (prodB es))).sum)
  | [] => trivial
  | c :: cs => ⟨ov_tq (sumQ_low h c) (sum_ov (ov_es h c)), ov_cls h w cs⟩
theorem sum_sel (p : List Int → Bool) (T : Int → Int) : ∀ cs : List (List Int), (cs.map fun c => (if p c = true then 1 else 0) * (c.map T).sum).sum = ((cs.filter p).flatten.map T).sum
  | [] => rfl
  | c :: cs => by
    have ih := sum_sel p T cs
    rw [List.map_cons, List.sum_cons, ih, List.filter_cons]
    by_cases h : p c = true
    · rw [if_pos h, if_pos h, List.flatten_cons, List.map_append, List.sum_append, Int.one_mul]
    · rw [if_neg h, if_neg h, Int.zero_mul, Int.zero_add]
theorem flat_sub (p : List Int → Bool) : ∀ cs : List (List Int), (cs.filter p).flatten.Sublist cs.flatten
  | [] => List.Sublist.refl _
  | c :: cs => by
    have ih := flat_sub p cs
    rw [List.filter_cons, List.flatten_cons]
    by_cases h : p c = true
    · rw [if_pos h, List.flatten_cons]
      exact List.Sublist.append (List.Sublist.refl _) ih
    · rw [if_neg h]
      exact ih.trans (List.sublist_append_right _ _)
theorem whole_perm {ts : List (List Int)} {n : Nat} {c : List Int} (hc : c ∈ ts) (nd : c.Nodup) (ok : ∀ x ∈ c, 0 ≤ x ∧ x < (n : Int)) : c.Perm ((classesL ts n).filter fun cl => c.contains (headI cl)).flatten := by
  refine (List.perm_ext_iff_of_nodup nd ?_).mpr fun x => ?_
  · have h : ((classesL ts n).flatten).Nodup := classes_apart ts n
    exact List.Pairwise.sublist (flat_sub _ _) h
  · constructor
    · intro hx
      have ⟨k0, k1⟩ := ok x hx
      obtain ⟨j, rfl⟩ := Int.eq_ofNat_of_zero_le k0
      obtain ⟨a, cl, g1, g2, g3⟩ := cls_one (n := n) hc (by omega) hx
      refine List.mem_flatten.mpr ⟨cl, List.mem_filter.mpr ⟨List.mem_of_getElem? g1, ?_⟩, g2⟩
      exact (rec_iff hc ok g1).mp ⟨_, hx, num_of g1 g2 g3⟩
    · intro hx
      obtain ⟨cl, hl, hx⟩ := List.mem_flatten.mp hx
      obtain ⟨h1, h2⟩ := List.mem_filter.mp hl
      obtain ⟨t, et⟩ := List.mem_iff_getElem?.mp hc
      rw [classes_eq] at h1
      obtain ⟨key, hk, rfl⟩ := List.mem_map.mp h1
      have hm : headI (pick (memb (fT ts) key) n) ∈ pick (memb (fT ts) key) n := by
        generalize pick (memb (fT ts) key) n = cl at hx
        cases cl with
        | nil => cases hx
        | cons y r => exact List.mem_cons_self
      obtain ⟨i, i1, i2, i3⟩ := mem_pick.mp hx
      obtain ⟨j, j1, j2, j3⟩ := mem_pick.mp hm
      have q1 : fT ts i = key := of_decide_eq_true i2
      have q2 : fT ts j = key := of_decide_eq_true j2
      have h2 : c.contains (headI (pick (memb (fT ts) key) n)) = true := h2
      rw [j3] at h2
      have z : (t : Int) ∈ fT ts j := (mem_tw et).mpr h2
      rw [q2, ← q1] at z
      rw [i3]
      exact List.contains_iff_mem.mp ((mem_tw et).mp z)
/-- what is reckoned for a total is its error -/
theorem reck_total {ts : List (List Int)} {n : Nat} {c : List Int} {es : List Q2} (h : EsOk es) (hc : c ∈ ts) (nd : c.Nodup) (ok : ∀ x ∈ c, 0 ≤ x ∧ x < (n : Int)) : M14.lsum (recL (classesL ts n) c) (errsL (classesL ts n) es) = M14.lsum (List.replicate c.length 1) (c.map (esA es)) := by
  have el : errsL (classesL ts n) es = (classesL ts n).map fun c => sumQ (c.map (esA es)) := rfl
  have er : recL (classesL ts n) c = (classesL ts n).map fun cl => if c.contains (headI cl) = true then 1 else 0 := rfl
  have low : ∀ p ∈ c.map (esA es), M2.Low p.1 p.2 := fun p hp => by
    obtain ⟨k, _, rfl⟩ := List.mem_map.mp hp
    exact (esA_in h k).1
  have s := M14.sum_ls (ps := c.map (esA es)) low
  rw [List.length_map] at s
  have r1 := sum_ov (ov_es h c)
  have r1 : ((c.map (esA es)).foldl M2.add (0, 1)).1 * prodB es = _ * ((c.map (esA es)).foldl M2.add (0, 1)).2 := r1
  have wl := M14.weigh_ls (ws := recL (classesL ts n) c) (ps := errsL (classesL ts n) es) (by rw [el, er, List.length_map, List.length_map]) (fun p hp => by
    rw [el] at hp
    obtain ⟨cl, _, rfl⟩ := List.mem_map.mp hp
    exact sumQ_low h cl)
  have r2 := sum_ov (ov_cls h (fun cl => if c.contains (headI cl) = true then 1 else 0) (classesL ts n))
  have r2 : ((((recL (classesL ts n) c).zip (errsL (classesL ts n) es)).map fun x => M14.tq x.1 x.2).foldl M2.add (0, 1)).1 * prodB es = _ * ((((recL (classesL ts n) c).zip (errsL (classesL ts n) es)).map fun x => M14.tq x.1 x.2).foldl M2.add (0, 1)).2 := r2
  rw [wl.1] at r2
  rw [s.1] at r1
  have e2 := s.2
  rw [s.1] at e2
  have S : ((classesL ts n).map fun cl => (if c.contains (headI cl) = true then 1 else 0) * ((cl.map (esA es)).map (topT (prodB es))).sum).sum = ((c.map (esA es)).map (topT (prodB es))).sum := by
    have q := sum_sel (fun cl => c.contains (headI cl)) (fun k => topT (prodB es) (esA es k)) (classesL ts n)
    have m : ∀ cl : List Int, (cl.map (esA es)).map (topT (prodB es)) = cl.map fun k => topT (prodB es) (esA es k) := fun cl => by rw [List.map_map]; rfl
    simp only [m]
    rw [q]
    exact (perm_sum ((whole_perm hc nd ok).map _)).symm
  have r2' := r2
  rw [S] at r2'
  generalize ((c.map (esA es)).map (topT (prodB es))).sum = Z at r1 r2'
  have b := prod_pos h
  have l1 := wl.2
  generalize M14.lsum (recL (classesL ts n) c) (errsL (classesL ts n) es) = L at r2' l1 ⊢
  generalize M14.lsum (List.replicate c.length 1) (c.map (esA es)) = R at r1 e2 ⊢
  generalize prodB es = B at r1 r2' b
  have x : L.1 * R.2 = R.1 * L.2 := by
    refine Int.eq_of_mul_eq_mul_right (a := B) (by omega) ?_
    have z1 : L.1 * R.2 * B = (L.1 * B) * R.2 := by grind
    have z2 : R.1 * L.2 * B = (R.1 * B) * L.2 := by grind
    rw [z1, z2, r1, r2']
    grind
  have q := M2.low_eq l1 e2 x
  exact Prod.ext q.1 q.2
theorem cls_sum {es : List Q2} (h : EsOk es) (c : List Int) : M14.lsum (List.replicate c.length 1) (c.map (esA es)) = sumQ (c.map (esA es)) := by
  have s := M14.sum_ls (ps := c.map (esA es)) (fun p hp => by
    obtain ⟨k, _, rfl⟩ := List.mem_map.mp hp
    exact (esA_in h k).1)
  rw [List.length_map] at s
  exact s.1.symm
end CK
namespace VG
open PySem PySem.Spec PyProof.Rows L2
structure MkT (P : Program) (w : World) (K : PySem.W.Frag) (mg : Str → Option Value) (base : Heap) (k : Nat) (x : Str) (C : Addr) (sp : Sp) : Prop where
  ex : ∃ (f : Addr) (fd : FuncData) (ps : List Str), Mk K C f ∧ FnOk P w K mg base CX0 k f fd ps sp ∧ mg x = some (.ref C) ∧ Binds K fd ps []
section
variable {X : Cx} {k j : Nat} {x : Str} {sp : Sp} {p pos : Pos} {e : Expr} {es : List Expr} {t : TA} {C : Addr}
theorem pe_mt (c : MkT X.prog X.w X.K X.mg X.base k x C sp) (hr : Room j X.A) (hk : k + 1 ≤ j) (hg : Gl X x) (ha : PA X (e :: es) t)
    (h1 : (x == ("__debug__" : Str)) = false := by decide) (h2 : starEach (e :: es) X.env = (false, eval e X.env) :: starEach es X.env := by rfl)
    (h3 : (backTo pos (starEach es X.env)).any (·.1) = false := by rfl) : PE X (.Call (.Name x p) (e :: es) [] pos) (tMake C sp [] E0 t) :=
  let ⟨_, _, _, M, F, m, b⟩ := c.ex
  pe_make M F (hr.mono hk) hg m b .nil pass0 ha h1 h2 h3
end
end VG
namespace CK
open PySem PySem.Spec PyProof.Rows L2 VG FR HD
theorem Tab.frz {K : PySem.W.Frag} {C a p q : Addr} {H : Hp} {ks : List Str} {ts : List (List Int)} (hd : Hd p q H) (h : Tab K C H a ks ts) : Tab K C (frz p q H) a ks ts := by
  obtain ⟨dx, k, t, xs, h1, h2, h3, h4⟩ := h
  obtain ⟨_, _, e1, e2, _⟩ := id hd
  have n1 : a ≠ p := fun z => by rw [z, e1] at h1; cases h1
  have n2 : a ≠ q := fun z => by rw [z, e2] at h1; cases h1
  exact ⟨dx, k, t, xs, frz_at h1 ⟨n1, n2⟩, seqTK hd keep_frz h2, seqTK hd keep_frz h3, h4.frz hd⟩
theorem tab_made {K : PySem.W.Frag} {C k t x dx : Addr} {H : Hp} {ks : List Str} {xs : List V} {ts : List (List Int)} {Qf : Hp → Prop} {E : XK} (hk : SqT K H k (ks.map V.str)) (ok : KindsOk ks) (ht : SqT K H t xs) (hT : Tots K H xs ts) (hl : ts.length ≤ 12) (hc : ∀ c ∈ ts, LotOk ks.length c) (nx : H x = none) (nd : H dx = none) (ne : dx ≠ x)
    (fin : ∀ H', Same H H' → Tab K C H' x ks ts → H x = none → Qf H') : spInitT K C (.ref x :: ([.ref k, .ref t] ++ [])) (L2.upd (L2.upd H dx (.own x)) x (.ins C dx [])) (fun v H2 => v = .non ∧ Qf H2) E := by
  have s1 := same_upd (o := .own x) nd
  have nx1 : L2.upd H dx (.own x) x = none := by rw [upd_ne ne.symm]; exact nx
  have s2 := s1.trans (same_upd (o := .ins C dx []) nx1)
  refine ⟨x, dx, k, t, ks, xs, ts, rfl, upd_same, seqT s2 hk, ok, seqT s2 ht, hT.mono s2, hl, hc, fun H' kp hx => ⟨rfl, ?_⟩⟩
  have s3 : Same H H' := fun b o e => kp b o (ne_of_none e nx) (s2 b o e)
  exact fin H' s3 ⟨dx, k, t, xs, hx, seqT s3 hk, seqT s3 ht, hT.mono s3⟩ nx
theorem dpAll_tots {K : PySem.W.Frag} {H : Hp} : ∀ {vs : List V} {ts : List (List Int)}, Tots K H vs ts → DpAll K H vs (ts.map dI)
  | [], [], _ => .nil
  | _ :: _, _ :: _, ⟨⟨t, e1, h⟩, r⟩ => by
    subst e1
    exact .cons (dp_I h) (dpAll_tots r)
  | [], _ :: _, h => h.elim
  | _ :: _, [], h => h.elim
theorem lot_ok {m : Nat} {c : List Int} (hm : m ≤ 12) (h : LotI m c) : c.length ≤ 12 ∧ LotOk (m : Int) c ∧ c.Nodup := by
  have nd := asc_nodup h.1
  have l := nodup_le c ((List.range m).map fun (j : Nat) => (j : Int)) nd fun x hx => by
    have ⟨x0, x1⟩ := h.2 x hx
    obtain ⟨j, rfl⟩ := Int.eq_ofNat_of_zero_le x0
    exact List.mem_map.mpr ⟨j, List.mem_range.mpr (by omega), rfl⟩
  rw [List.length_map, List.length_range] at l
  exact ⟨by omega, ⟨by omega, h.2, h.1⟩, nd⟩
theorem cls_ne {ts : List (List Int)} {n : Nat} : ∀ d ∈ classesL ts n, d ≠ [] := by
  intro d hd z
  rw [classes_eq] at hd
  obtain ⟨key, hk, rfl⟩ := List.mem_map.mp hd
  obtain ⟨j, l1, f1⟩ := keys_from _ (List.mem_filter.mp hk).1
  have : (j : Int) ∈ pick (memb (fT ts) key) n := mem_pick.mpr ⟨j, l1, decide_eq_true f1, rfl⟩
  rw [z] at this
  cases this
theorem rec_small (cs : List (List Int)) (c : List Int) : ∀ x ∈ recL cs c, x.natAbs ≤ 5 := fun x hx => by
  obtain ⟨d, _, rfl⟩ := List.mem_map.mp hx
  split <;> decide
theorem small24 {c : List Int} (h : ∀ x ∈ c, x.natAbs ≤ 5) : ∀ x ∈ c, x.natAbs < 2 ^ 24 := fun x hx => Nat.lt_of_le_of_lt (h x hx) (by decide)
theorem es_at {es : List Q2} {xs : List V} {K : PySem.W.Frag} {H : Hp} (h : Frs K H xs es) {m : Nat} (le : es.length = m) {k : Int} (k0 : 0 ≤ k) (k1 : k < (m : Int)) : ∃ t, atI xs k = some (.ref t) ∧ SqT K H t (pV (esA es k)) := by
  obtain ⟨j, rfl⟩ := Int.eq_ofNat_of_zero_le k0
  have lx := h.len
  have hj : j < xs.length := by omega
  obtain ⟨t, p, e1, e2, q⟩ := h.get (List.getElem?_eq_getElem hj)
  refine ⟨t, atI_nat (by rw [List.getElem?_eq_getElem hj, e1]), ?_⟩
  unfold esA
  rw [List.getD_eq_getElem?_getD, Int.toNat_natCast, e2]
  exact q
/-- a row that was told or drawn -/
def RwOk (n : Nat) (G : Hp) (v : V) : Prop := ∃ (t : Addr) (c : List Int), v = .ref t ∧ G t = some (.tup (c.map V.int)) ∧ c.length = n ∧ ∀ x ∈ c, x.natAbs ≤ 5
theorem RwOk.mono {n : Nat} {G G' : Hp} {v : V} (s : Same G G') (h : RwOk n G v) : RwOk n G' v := by
  obtain ⟨t, c, e, k, l, z⟩ := h
  exact ⟨t, c, e, s _ _ k, l, z⟩
def spTableRight : Sp := fun vs H Q _ => ∃ (p q : Addr) (m : Nat), vs = [.ref p, .int m] ∧ Hd p q H ∧ 1 ≤ m ∧ m ≤ 12 ∧ ∀ H', On p q (frz p q H) H' → Q (.bl true) H'
theorem rep1 (k : Nat) : ((List.replicate k ([.int 1] : List V)).flatten) = (List.replicate k (1 : Int)).map V.int := by
  induction k with
  | zero => rfl
  | succ k ih => rw [List.replicate_succ, List.replicate_succ, List.flatten_cons, ih]; rfl
theorem ones_ok (k : Nat) : RowOk (List.replicate k (1 : Int)) := fun c hc => by
  rw [(List.mem_replicate.mp hc).2]
  decide
theorem RwOk.updL {n : Nat} {p q D : Addr} {H : Hp} {zs : List V} {o : HO} {v : V} (h : RwOk n (frz p q H) v) (k : H D = some (.lst zs)) : RwOk n (frz p q (L2.upd H D o)) v := by
  obtain ⟨t, c, e, kt, l, z⟩ := h
  obtain ⟨n1, n2, kt⟩ := frz_cases kt
  have ne : t ≠ D := fun y => by rw [y, k] at kt; cases kt
  exact ⟨t, c, e, frz_at (by rw [upd_ne ne]; exact kt) ⟨n1, n2⟩, l, z⟩
theorem shn_tots {m : Nat} {cs : List (List Int)} (hm : m ≤ 12) (hc : ∀ c ∈ cs, LotI m c) (hl : cs.length ≤ 12) : Shn (.tuple (cs.map dI)) 2 3938 := shn_tup (k := 1) (B := 326) (fun d hd => by
  obtain ⟨c, h1, rfl⟩ := List.mem_map.mp hd
  refine shn_dI (n := 12) (fun x hx => ?_) (lot_ok hm (hc c h1)).1
  have ⟨x0, x1⟩ := (hc c h1).2 x hx
  have : (2 : Nat) ^ 24 = 16777216 := by decide
  omega) (by rw [List.length_map]; exact hl)
theorem eqP_all : ∀ ps : List Q2, PyData.eqvAll (ps.map dQ) (ps.map dQ) = true
  | [] => by simp [PyData.eqvAll]
  | p :: ps => by
    have ih := eqP_all ps
    rw [List.map_cons, PyData.eqvAll, eqQ_self, ih]
    rfl
theorem eqP_self (ps : List Q2) : PyData.eqv (.tuple (ps.map dQ)) (.tuple (ps.map dQ)) = true := by
  rw [PyData.eqv]
  exact eqP_all ps
theorem shn_ps {ps : List Q2} (h : ∀ p ∈ ps, Bt 300 p) (hl : ps.length ≤ 12) : Shn (.tuple (ps.map dQ)) 2 7322 := shn_tup (k := 1) (B := 608) (fun d hd => by
  obtain ⟨p, hp, rfl⟩ := List.mem_map.mp hd
  exact shn_Q (by decide) (h p hp) (by decide)) (by rw [List.length_map]; exact hl)
end CK
namespace K14
open PySem PySem.Spec PyProof.Rows L2 VG FR CK HD
abbrev s__law_table_right : Stmt := topS 65
abbrev N__law_table_right : List Str := ["heap", "many", "totals", "table", "classes", "errors", "by_class", "at", "row", "turn", "rows", "one", "other", "some", "kind"]
theorem sc__law_table_right : FnScope N__law_table_right ["heap", "many"] (defScope s__law_table_right) := ⟨rfl, rfl, rfl, by decide +kernel, rfl, by decide +kernel, by decide +kernel⟩
section
variable {P : Program} {w : World} {K : PySem.W.Frag} {mg : Str → Option Value} {base : Heap}
theorem ok__law_table_right {f C : Addr} {fd : FuncData} (F : Fun K "_law_table_right" "_law_table_right" s__law_table_right f fd) (TC : TabC K C) (T_Table : MkT P w K mg base 7 "Table" C (spInitT K C))
    (C__law_totals : Cl P w K mg base 4 "_law_totals" (spTotals K)) (C__law_names : Cl P w K mg base 3 "_law_names" (spLawNames K)) (C__law_classes : Cl P w K mg base 1 "_law_classes" (spLawClasses K)) (C__law_fraction : Cl P w K mg base 3 "_law_fraction" spFraction)
    (C__law_sum : Cl P w K mg base 2 "_law_sum" (spLawSum K)) (C_class_errors : Cl P w K mg base 3 "class_errors" (spClassErrs K C)) (CR_class_errors : ClR P w K mg base 3 "class_errors" ["errors", "table"] (spClassErrs K C))
    (C__law_vector : Cl P w K mg base 1 "_law_vector" (spVector K)) (C_total_reckoning : Cl P w K mg base 6 "total_reckoning" (spTotRec K C)) (CR_total_reckoning : ClR P w K mg base 6 "total_reckoning" ["total", "table"] (spTotRec K C))
    (C_reckoned : Cl P w K mg base 6 "reckoned" (spReckoned K C)) (C__law_row : Cl P w K mg base 3 "_law_row" spRow) (C__law_pick : Cl P w K mg base 2 "_law_pick" (spPick K))
    (G__law_two_right : ClG P w K mg base 2 "_law_two_right" (spTwoRight K)) (G__law_reckoned_right : ClG P w K mg base 7 "_law_reckoned_right" (spReckRight K C)) (G__law_values_right : ClG P w K mg base 4 "_law_values_right" (spValues K C))
    (z_repr : mg "repr" = none) (z_tuple : mg "tuple" = none) (z_len : mg "len" = none) (z_range : mg "range" = none) : FnG P w K mg base 9 f fd ["heap", "many"] spTableRight := by
  refine fnG_of F sc__law_table_right (fun vs H Q E h => ?_) (fun cdv A outer s H vs Q E hg hr h => ?_)
  · obtain ⟨_, _, _, rfl, _⟩ := h
    rfl
  · obtain ⟨p, q, m, rfl, hd, m1, m12, fin⟩ := h
    refine ⟨_, (pss_cons (ps_set (i := 2) sc__law_table_right.nd rfl (.inr rfl) (pe_cl C__law_totals hr (by decide) rfl (pa_cons (pv 0) (pa_cons (pv 1) pa_nil))))
    (pss_cons (ps_asg (pe_tup (pa_cons (pe_mt T_Table hr (by decide) rfl (pa_cons (pe_cl C__law_names hr (by decide) rfl (pa_cons (pv 0) (pa_cons (pv 1) pa_nil))) (pa_cons (pe_callTy call_tuple_of (by rfl) z_tuple (by decide +kernel) (pa_cons (pv 2) pa_nil)) pa_nil))) (pa_cons (pe_cl C__law_classes hr (by decide) rfl (pa_cons (pv 1) (pa_cons (pv 2) pa_nil))) pa_nil))) (pg_tup rfl (pgs_cons (pg_name (i := 3) sc__law_table_right.nd rfl (.inl rfl)) (pgs_cons (pg_name (i := 4) sc__law_table_right.nd rfl (.inr rfl)) pgs_nil))))
    (pss_cons (ps_set (i := 5) sc__law_table_right.nd rfl (.inr rfl) (pe_callTy call_tuple_of (by rfl) z_tuple (by decide +kernel) (pa_cons (pe_lc (own := [("kind", 14)]) (by rfl) sc__law_table_right.nd (pi_range1 (by rfl) z_range (pa_cons (pv 1) pa_nil)) (blkOk_by (own := [("kind", 14)]) (N := N__law_table_right) (sc := defScope s__law_table_right) (by decide +kernel)) (fun _ _ _ _ _ => (pg_name (i := 14) sc__law_table_right.nd rfl (.inl rfl))) (fun _ _ _ _ _ => pts_nil) (fun _ _ _ _ _ => (pe_cl C__law_fraction hr (by decide) rfl (pa_cons (pv 0) pa_nil)))) pa_nil)))
    (pss_cons (ps_setLc (i := 6) (own := [("some", 13)]) (by rfl) sc__law_table_right.nd rfl rfl (sw_true rfl rfl rfl (by decide +kernel)) (pi_list (pv 4)) (blkOk_by (own := [("some", 13)]) (N := N__law_table_right) (sc := defScope s__law_table_right) (by decide +kernel)) (fun _ _ _ _ _ => (pg_name (i := 13) sc__law_table_right.nd rfl (.inl rfl))) (fun _ _ _ _ _ => pts_nil) (fun _ _ _ _ _ => (pe_cl C__law_sum hr (by decide) rfl (pa_cons (pe_op op_rep (pe_lst (pa_cons pe_int pa_nil)) (pe_callB (show CallR _ (.builtin "len") (rLenK K) from call_lenK) (by rfl) z_len (by decide +kernel) (pa_cons (pv 13) pa_nil))) (pa_cons (pe_lc (own := [("kind", 14)]) (by rfl) sc__law_table_right.nd (show PI _ _ _ (iList K _) from pi_list (pv 13)) (blkOk_by (own := [("kind", 14)]) (N := N__law_table_right) (sc := { kind := .function, names := [((".0" : String), .local), (("some" : String), .local), (("_law_sum" : String), .globalImplicit), (("len" : String), .globalImplicit), (("errors" : String), .cell)], isGenerator := false, isCoroutine := false }) (by decide +kernel)) (fun _ _ _ _ _ => (pg_name (i := 14) sc__law_table_right.nd rfl (.inl rfl))) (fun _ _ _ _ _ => pts_nil) (fun _ _ _ _ _ => (pe_ix (show IxR _ (rIxT K) from ix_tup) (pv 5) (pv 14) (fun _ _ => rfl)))) pa_nil)))))
    (pss_cons (ps_if (PW.pt (pw_or (pt_cmpR op_ne (pe_callB (cr_repr hg hr.units) (by rfl) z_repr (by decide +kernel) (pa_cons (pe_cl C_class_errors hr (by decide) rfl (pa_cons (pv 3) (pa_cons (pv 5) pa_nil))) pa_nil)) (pe_callB (cr_repr hg hr.units) (by rfl) z_repr (by decide +kernel) (pa_cons (pe_callTy call_tuple_of (by rfl) z_tuple (by decide +kernel) (pa_cons (pv 6) pa_nil)) pa_nil)) (nomark _)) (pw_or1 (pt_cmpR (op_neD hr.units) (pe_clr CR_class_errors hr (by decide) rfl (pk_cons (pv 5) (pk_cons (pv 3) pk_nil))) (pe_callTy call_tuple_of (by rfl) z_tuple (by decide +kernel) (pa_cons (pv 6) pa_nil)) (nomark _)))))
      (pss_one (ps_ret pe_bl))
      pss_nil)
    (pss_cut (ps_for PassesOwn.never rfl (pi_range1 (by rfl) z_range (pa_cons (pe_callB call_len_seq (by rfl) z_len (by decide +kernel) (pa_cons (pv 2) pa_nil)) pa_nil)) (pg_name (i := 7) sc__law_table_right.nd rfl (.inl rfl))
      (pss_cons (ps_set (i := 8) sc__law_table_right.nd rfl (.inl rfl) (pe_cl C__law_vector hr (by decide) rfl (pa_cons (pv 2) (pa_cons (pv 4) (pa_cons (pv 7) pa_nil)))))
      (pss_cons (ps_if (PW.pt (pw_or (pt_cmpR op_ne (pe_callB (cr_repr hg hr.units) (by rfl) z_repr (by decide +kernel) (pa_cons (pe_cl C_total_reckoning hr (by decide) rfl (pa_cons (pv 3) (pa_cons (pv 7) pa_nil))) pa_nil)) (pe_callB (cr_repr hg hr.units) (by rfl) z_repr (by decide +kernel) (pa_cons (pv 8) pa_nil)) (nomark _)) (pw_or1 (pt_cmpR (op_neD hr.units) (pe_clr CR_total_reckoning hr (by decide) rfl (pk_cons (pv 7) (pk_cons (pv 3) pk_nil))) (pv 8) (nomark _)))))
        (pss_one (ps_ret pe_bl))
        pss_nil)
      (pss_one (ps_if (pt_cmpR (op_neD hr.units) (pe_cl C_reckoned hr (by decide) rfl (pa_cons (pv 3) (pa_cons (pv 8) (pa_cons (pv 5) pa_nil)))) (pe_cl C__law_sum hr (by decide) rfl (pa_cons (pe_op op_rep (pe_lst (pa_cons pe_int pa_nil)) (pe_callB call_len_seq (by rfl) z_len (by decide +kernel) (pa_cons (pe_ix ix_list (pv 2) (pv 7) (fun _ _ => rfl)) pa_nil))) (pa_cons (pe_lc (own := [("kind", 14)]) (by rfl) sc__law_table_right.nd (pi_tup (pe_ix ix_list (pv 2) (pv 7) (fun _ _ => rfl))) (blkOk_by (own := [("kind", 14)]) (N := N__law_table_right) (sc := defScope s__law_table_right) (by decide +kernel)) (fun _ _ _ _ _ => (pg_name (i := 14) sc__law_table_right.nd rfl (.inl rfl))) (fun _ _ _ _ _ => pts_nil) (fun _ _ _ _ _ => (pe_ix (show IxR _ (rIxT K) from ix_tup) (pv 5) (pv 14) (fun _ _ => rfl)))) pa_nil))) (nomark _))
        (pss_one (ps_ret pe_bl))
        pss_nil)))))
    (pss_cons (ps_set (i := 10) sc__law_table_right.nd rfl (.inl rfl) (pe_op op_cat (pe_slice sl_list (pe_lc (own := [("at", 7)]) (by rfl) sc__law_table_right.nd (pi_range1 (by rfl) z_range (pa_cons (pe_callB call_len_seq (by rfl) z_len (by decide +kernel) (pa_cons (pv 2) pa_nil)) pa_nil)) (blkOk_by (own := [("at", 7)]) (N := N__law_table_right) (sc := defScope s__law_table_right) (by decide +kernel)) (fun _ _ _ _ _ => (pg_name (i := 7) sc__law_table_right.nd rfl (.inl rfl))) (fun _ _ _ _ _ => pts_nil) (fun _ _ _ _ _ => (pe_cl C__law_vector hr (by decide) rfl (pa_cons (pv 2) (pa_cons (pv 4) (pa_cons (pv 7) pa_nil)))))) po_none (po_some pe_int)) (pe_lc (own := [("turn", 9)]) (by rfl) sc__law_table_right.nd (pi_range1 (by rfl) z_range (pa_cons pe_int pa_nil)) (blkOk_by (own := [("turn", 9)]) (N := N__law_table_right) (sc := defScope s__law_table_right) (by decide +kernel)) (fun _ _ _ _ _ => (pg_name (i := 9) sc__law_table_right.nd rfl (.inl rfl))) (fun _ _ _ _ _ => pts_nil) (fun _ _ _ _ _ => (pe_cl C__law_row hr (by decide) rfl (pa_cons (pv 0) (pa_cons (pe_callB (show CallR _ (.builtin "len") (rLenK K) from call_lenK) (by rfl) z_len (by decide +kernel) (pa_cons (pv 4) pa_nil)) pa_nil)))))))
    (pss_cut (ps_for PassesOwn.never rfl (pi_range1 (by rfl) z_range (pa_cons pe_int pa_nil)) (pg_name (i := 9) sc__law_table_right.nd rfl (.inl rfl))
      (pss_cons (ps_par (i := 11) (j := 12) (by rfl) sc__law_table_right.nd rfl rfl (by decide) rfl rfl (pa_cons (pe_cl C__law_pick hr (by decide) rfl (pa_cons (pv 0) (pa_cons (pv 10) pa_nil))) (pa_cons (pe_cl C__law_pick hr (by decide) rfl (pa_cons (pv 0) (pa_cons (pv 10) pa_nil))) pa_nil)) (by rfl))
      (pss_one (ps_if (PW.pt (pw_or (pt_not (pt_val (pe_clg G__law_two_right hg hr (by decide) rfl (pa_cons (pv 11) (pa_cons (pv 12) pa_nil))))) (pw_or1 (pt_not (pt_val (pe_clg G__law_reckoned_right hg hr (by decide) rfl (pa_cons (pv 3) (pa_cons (pv 11) (pa_cons (pv 5) (pa_cons (pv 6) pa_nil))))))))))
        (pss_one (ps_ret pe_bl))
        pss_nil))))
    (pss_one (ps_ret (pe_and (pe_clg G__law_values_right hg hr (by decide) rfl (pa_cons (pv 0) (pa_cons (pv 3) (pa_cons (pe_callB call_len_seq (by rfl) z_len (by decide +kernel) (pa_cons (pv 4) pa_nil)) pa_nil)))) (pe_one (pe_cmpR op_eq (pe_callB (cr_repr hg hr.units) (by rfl) z_repr (by decide +kernel) (pa_cons (pe_fld (pv 3) (by rfl)) pa_nil)) (pe_callB (cr_repr hg hr.units) (by rfl) z_repr (by decide +kernel) (pa_cons (pe_callTy call_tuple_of (by rfl) z_tuple (by decide +kernel) (pa_cons (pv 2) pa_nil)) pa_nil)) (nomark _)))))))))))))), ?_⟩
    have big : sizeLine = 16777216 := by decide
    -- totals
    refine ⟨_, rfl, _, rfl, p, q, m, rfl, hd, m1, m12, fun H1 l ys cs on1 kl _ fl hT lots lc => ?_⟩
    have gl : frz p q H1 l = some (.lst ys) := frz_at kl fl
    have ly := hT.len
    -- the table
    refine ⟨_, rfl, _, rfl, p, q, m, rfl, on1.hd, m1, m12, fun H2 kA ks on2 hk okk lk => ?_⟩
    have hT2 := hT.mono on2.le
    refine ⟨_, rfl, l, ys, rfl, .inl ⟨.inl (.inl (on2.le _ _ gl)), fun t nt => ?_⟩⟩
    have s3 := same_upd (o := .tup ys) nt
    have kt := upd_same (H := H2) (a := t) (o := .tup ys)
    have on3 := on2.new (o := .tup ys) nt
    generalize L2.upd H2 t (.tup ys) = H3 at s3 kt on3 ⊢
    have lotok : ∀ c ∈ cs, LotOk (ks.length : Int) c := fun c hc => by rw [lk]; exact (lot_ok m12 (lots c hc)).2.1
    refine fun a dx nx nd ne => tab_made (sqt (s3 _ _ hk)) okk (sqt kt) (hT2.mono s3) lc lotok nx nd ne fun H4 s4 tab4 na => ?_
    have on4 := on3.same s4
    have fa := on3.free na
    have hT4 := hT.mono on4.le
    -- classes
    refine ⟨_, rfl, _, rfl, l, m, ys, cs, rfl, .inl (.inl (on4.le _ _ gl)), hT4, lc, m12, fun H5 cl fs s5 n5 k5 blk5 nfs => ?_⟩
    have on5 := on4.same s5
    have tab5 := tab4.mono s5
    have f5 := on4.free n5
    have ffs : ∀ t ∈ fs, t ≠ p ∧ t ≠ q := fun t ht => ⟨(on4.free (nfs t ht)).1, (on4.free (nfs t ht)).2.1⟩
    refine ⟨by show 2 ≤ sizeLine; omega, fun T nT => ?_⟩
    have s6 := same_upd (o := .tup [.ref a, .ref cl]) nT
    have kT := upd_same (H := H5) (a := T) (o := .tup [.ref a, .ref cl])
    have on6 := on5.new (o := .tup [.ref a, .ref cl]) nT
    generalize L2.upd H5 T (.tup [.ref a, .ref cl]) = H6 at s6 kT on6 ⊢
    refine ⟨T, _, rfl, sqt kT, rfl, _, _, rfl, _, _, rfl, rfl, ?_⟩
    have hd6 := on6.hd
    have sG := on6.base.2
    have back := on1.base.2.trans sG
    have gl := sG _ _ gl
    have tabG := (tab5.mono s6).frz hd6
    have gcl : frz p q H6 cl = some (.lst (fs.map V.ref)) := frz_at (s6 _ _ k5) ⟨f5.1, f5.2.1⟩
    have gblk : Blk (frz p q H6) fs (classesL cs m) := Blk.imp (fun t ht o e => frz_at (s6 _ _ e) (ffs t ht)) blk5
    have hTG := hT.mono sG
    have onG := On.start hd6
    have fin : ∀ H', On p q (frz p q H6) H' → Q (.bl true) H' := fun H' on => fin H' (on.drop back)
    generalize frz p q H6 = G at gl tabG gcl gblk hTG onG fin
    clear hT hT2 hT4 sG back hd6 on6 kT s6 tab5 tab4 on5 on4 on3 on2 on1 s5 s4 s3 kt hk k5 blk5 nfs f5 ffs fa na nx nd ne nt nT n5 kl fl
    have cl12 := classes_len cs m
    -- errors
    refine ⟨_, rfl, _, rfl, by omega, by omega, fun D nD => ?_⟩
    have fD := onG.free nD
    refine lc_it (walk_range (lo := 0) (n := ((m : Nat) : Int).toNat)) (fun i H' => On p q G H' ∧ ∃ xs es, H' D = some (.lst xs) ∧ Frs K H' xs es ∧ es.length = i ∧ EsOk es) ⟨onG.new nD, [], [], upd_same, trivial, rfl, fun p h => (by cases h)⟩ (fun _ _ _ _ => trivial) ?_ ?_
    · rintro i x H7 H8 hi ⟨on7, xs, es, kD, fr, le, ok⟩ ⟨rfl, rfl⟩
      refine ⟨rfl, _, rfl, p, q, rfl, on7.hd, fun H9 t9 a9 hd9 kp9 k9 low n1 n2 => ?_⟩
      have kD9 := kp9 D _ fD.1 fD.2.1 kD
      refine ⟨xs, kD9, by have := fr.len; have : i < ((m : Nat) : Int).toNat := hi; omega, (on7.draw hd9 kp9).put fD, xs ++ [.ref t9], es ++ [a9], upd_same, ?_, by rw [List.length_append, le]; rfl, ?_⟩
      · exact Frs.upd kD9 (Frs.snoc (sqt k9) (Frs.keep on7.hd kp9 fr))
      · intro z hz
        rcases List.mem_append.mp hz with y | y
        · exact ok z y
        · rw [List.mem_singleton.mp y]
          exact ⟨low, by show _ < 1048576; omega, by show _ < 1048576; omega⟩
    rintro H7 ⟨on7, xs, es, kD, fr, le, ok⟩
    rw [Int.toNat_natCast] at le
    refine ⟨D, xs, rfl, .inl ⟨.inl (.inl kD), fun e ne => ?_⟩⟩
    have on8 := on7.new (o := .tup xs) ne
    have fr8 := fr.mono (same_upd (o := .tup xs) ne)
    have k8 := upd_same (H := H7) (a := e) (o := .tup xs)
    have fe := on7.free ne
    generalize L2.upd H7 e (.tup xs) = H8 at on8 fr8 k8 ⊢
    have hd8 := on8.hd
    have sG := on8.base.2
    have gl := sG _ _ gl
    have tabG := tabG.mono sG
    have gcl := sG _ _ gcl
    have gblk : Blk (frz p q H8) fs (classesL cs m) := Blk.imp (fun t ht o e => sG _ _ e) gblk
    have hTG := hTG.mono sG
    have gE : SqT K (frz p q H8) e xs := sqt (frz_at k8 ⟨fe.1, fe.2.1⟩)
    have gF : Frs K (frz p q H8) xs es := Frs.keep hd8 keep_frz fr8
    have onG := On.start hd8
    have fin : ∀ H', On p q (frz p q H8) H' → Q (.bl true) H' := fun H' on => fin H' (on.drop sG)
    generalize frz p q H8 = G at gl tabG gcl gblk hTG gE gF onG fin
    clear on8 fr8 k8 fe sG hd8 on7 kD fr fD nD ne
    -- by class
    have okes := fun k => esA_in ok k
    refine ⟨_, rfl, cl, rfl, ⟨_, .inl (.inl (onG.le _ _ gcl))⟩, fun B nB => ?_⟩
    have fB := onG.free nB
    refine lc_it (walk_list (K := K) (a := cl) (xs := fs.map V.ref)) (fun i H' => Same H8 H' ∧ ∃ bs, H' B = some (.lst bs) ∧ Frs K H' bs ((errsL (classesL cs m) es).take i)) ⟨same_upd nB, [], upd_same, trivial⟩ (fun i H' _ h => .inl (.inl (h.1 _ _ (onG.le _ _ gcl)))) ?_ ?_
    · rintro i x H9 H10 hi ⟨s9, bs, kB, fr⟩ ⟨rfl, ex⟩
      rw [List.getElem?_map] at ex
      obtain ⟨t, et, rfl⟩ := Option.map_eq_some_iff.mp ex
      obtain ⟨b, eb, kt⟩ := gblk.get et
      have bm := List.mem_of_getElem? eb
      have b12 := cl12.2 b bm
      have on9 := onG.same s9
      have kt9 := on9.le _ _ kt
      refine ⟨rfl, by show 1 ≤ sizeLine; omega, fun A1 nA1 => ?_⟩
      have sa := same_upd (o := .lst [.int 1]) nA1
      have ka := upd_same (H := H10) (a := A1) (o := .lst [.int 1])
      have onA := on9.new (o := .lst [.int 1]) nA1
      generalize L2.upd H10 A1 (.lst [.int 1]) = H11 at sa ka onA ⊢
      refine ⟨_, rfl, t, _, rfl, .inl (.inl (.inl (onA.le _ _ kt))), A1, _, _, rfl, rfl, ka, by omega, by rw [List.length_map]; omega, by rw [List.length_map, Int.toNat_natCast]; show 1 * _ ≤ _; omega, fun A2 nA2 => ?_⟩
      rw [List.length_map, Int.toNat_natCast, rep1]
      have sb := same_upd (o := .lst ((List.replicate b.length (1 : Int)).map V.int)) nA2
      have kb := upd_same (H := H11) (a := A2) (o := .lst ((List.replicate b.length (1 : Int)).map V.int))
      have onB := onA.new (o := .lst ((List.replicate b.length (1 : Int)).map V.int)) nA2
      have sab := sa.trans sb
      generalize L2.upd H11 A2 (.lst ((List.replicate b.length (1 : Int)).map V.int)) = H12 at sb kb onB sab ⊢
      refine ⟨_, rfl, t, rfl, ⟨_, .inl (.inl (onB.le _ _ kt))⟩, fun Z nZ => ?_⟩
      refine lc_it (walk_list (K := K) (a := t) (xs := b.map V.int)) (fun j H' => Same H12 H' ∧ ∃ ws, H' Z = some (.lst ws) ∧ Frs K H' ws ((b.map (esA es)).take j)) ⟨same_upd nZ, [], upd_same, trivial⟩ (fun i H' _ h => .inl (.inl (h.1 _ _ (onB.le _ _ kt)))) ?_ ?_
      · rintro j y H13 H14 hj ⟨s13, ws, kZ, fw⟩ ⟨rfl, ey⟩
        rw [List.getElem?_map] at ey
        obtain ⟨k, ek, rfl⟩ := Option.map_eq_some_iff.mp ey
        have on13 := onB.same s13
        obtain ⟨jk, jl, rfl⟩ := classes_below bm (List.mem_of_getElem? ek)
        obtain ⟨te, at1, kte⟩ := es_at (gF.mono on13.le) le (k := ((jk : Nat) : Int)) (by omega) (by omega)
        have lw := fw.len
        refine ⟨rfl, _, rfl, _, rfl, e, _, _, _, rfl, rfl, seqT on13.le gE, at1, ws, kZ, ?_, HD.same_put s13 nZ, ws ++ [.ref te], upd_same, ?_⟩
        · rw [List.length_take, List.length_map] at lw
          omega
        · rw [List.take_add_one, List.getElem?_map, ek]
          exact Frs.upd kZ (Frs.snoc kte fw)
      · rintro H13 ⟨s13, ws, kZ, fw⟩
        have lbm : (b.map V.int).length = (b.map (esA es)).length := by rw [List.length_map, List.length_map]
        rw [lbm, List.take_length] at fw
        refine ⟨A2, Z, List.replicate b.length 1, ws, b.map (esA es), rfl, .inl (.inl (.inl (s13 _ _ kb))), .inl (.inl kZ), fw, by rw [List.length_replicate, List.length_map], by rw [List.length_map]; omega, ones_ok _, ?_, fun H15 u s15 nu ku => ?_⟩
        · intro z hz
          obtain ⟨k, _, rfl⟩ := List.mem_map.mp hz
          exact ⟨(okes k).1, (okes k).2.mono (by decide)⟩
        rw [cls_sum ok] at ku
        have st := (sab.trans s13).trans s15
        have kB15 := st _ _ kB
        have lb := fr.len
        rw [List.length_take, errs_len] at lb
        refine ⟨bs, kB15, by omega, HD.same_put (s9.trans st) nB, bs ++ [.ref u], upd_same, ?_⟩
        have e1 : (errsL (classesL cs m) es)[i]? = some (sumQ (b.map (esA es))) := by
          unfold errsL
          rw [List.getElem?_map, eb]
          rfl
        rw [List.take_add_one, e1]
        exact Frs.upd kB15 (Frs.snoc (sqt ku) (fr.mono st))
    rintro H9 ⟨s9, bs, kB, fr⟩
    have lf : (fs.map V.ref).length = (errsL (classesL cs m) es).length := by rw [List.length_map, errs_len]; exact gblk.len
    rw [lf, List.take_length] at fr
    subst lk
    have on9 := onG.same s9
    have hd9 := on9.hd
    have sG := on9.base.2
    have gl := sG _ _ gl
    have tabG := tabG.mono sG
    have gcl := sG _ _ gcl
    have gblk : Blk (frz p q H9) fs (classesL cs ks.length) := Blk.imp (fun t ht o e => sG _ _ e) gblk
    have hTG := hTG.mono sG
    have gE := seqT sG gE
    have gF := gF.mono sG
    have gB : frz p q H9 B = some (.lst bs) := frz_at kB ⟨fB.1, fB.2.1⟩
    have gBs := Frs.keep hd9 keep_frz fr
    have onG := On.start hd9
    have fin : ∀ H', On p q (frz p q H9) H' → Q (.bl true) H' := fun H' on => fin H' (on.drop sG)
    generalize frz p q H9 = G at gl tabG gcl gblk hTG gE gF gB gBs onG fin
    clear on9 hd9 sG kB fr fB nB lf s9
    have size := errs_size (ts := cs) ok m12
    have shp := shn_ps (fun p hp => (size p hp).2) (by rw [errs_len]; omega)
    have okc : ∀ c ∈ cs, c.length ≤ 60 ∧ ∀ x ∈ c, 0 ≤ x ∧ x < (ks.length : Int) := fun c hc => ⟨by have := (lot_ok m12 (lots c hc)).1; omega, (lots c hc).2⟩
    -- the errors of classes
    refine ⟨_, rfl, _, rfl, a, e, xs, ks, cs, es, rfl, tabG.mono onG.le, by omega, by omega, seqT onG.le gE, gF.mono onG.le, le, ok, fun H10 u ws s10 ku fu => ?_⟩
    have on10 := onG.same s10
    refine ⟨u, .tuple ((errsL (classesL cs ks.length) es).map dQ), rfl, .tup (sqt ku) (dpAll_ps fu), shp.r.1, shp.r.2.1, shp.r.2.2.1, shp.r.2.2.2, _, rfl, B, bs, rfl, .inl ⟨.inl (.inl (on10.le _ _ gB)), fun t2 nt2 => ?_⟩⟩
    have s11 := same_upd (o := .tup bs) nt2
    have k11 := upd_same (H := H10) (a := t2) (o := .tup bs)
    have on11 := on10.same s11
    generalize L2.upd H10 t2 (.tup bs) = H11 at s11 k11 on11 ⊢
    refine ⟨t2, .tuple ((errsL (classesL cs ks.length) es).map dQ), rfl, .tup (sqt k11) (dpAll_ps (gBs.mono on11.le)), shp.r.1, shp.r.2.1, shp.r.2.2.1, shp.r.2.2.2, rfl, _, rfl, iteNe rfl ?_⟩
    refine ⟨_, rfl, _, rfl, a, e, xs, ks, cs, es, rfl, tabG.mono on11.le, by omega, by omega, seqT on11.le gE, gF.mono on11.le, le, ok, fun H12 u2 ws2 s12 ku2 fu2 => ?_⟩
    have on12 := on11.same s12
    refine ⟨_, rfl, B, bs, rfl, .inl ⟨.inl (.inl (on12.le _ _ gB)), fun t3 nt3 => ?_⟩⟩
    have s13 := same_upd (o := .tup bs) nt3
    have k13 := upd_same (H := H12) (a := t3) (o := .tup bs)
    have on13 := on12.same s13
    have ku2 := s13 _ _ ku2
    have fu2 := fu2.mono s13
    generalize L2.upd H12 t3 (.tup bs) = H13 at s13 k13 on13 ku2 fu2 ⊢
    refine ⟨.tuple ((errsL (classesL cs ks.length) es).map dQ), .tuple ((errsL (classesL cs ks.length) es).map dQ), .tup (sqt ku2) (dpAll_ps fu2), .tup (sqt k13) (dpAll_ps (gBs.mono on13.le)), shaped_ps _, shaped_ps _, _, rfl, ?_⟩
    rw [eqP_self]
    refine iteF ?_
    clear ku2 fu2 k13 s13 s12 k11 s11 s10 ku fu on10 on11 on12
    -- each total
    have ly : ys.length ≤ 12 := by omega
    refine ⟨fun σ H' => (∃ y7 y8 : Option V, σ = [some (.ref p), some (.int ks.length), some (.ref l), some (.ref a), some (.ref cl), some (.ref e), some (.ref B), y7, y8, none, none, none, none, none, none]) ∧ Same H13 H', ?_, ?_⟩
    · refine ⟨_, rfl, l, ys, rfl, .inl (.inl (.inl (on13.le _ _ gl))), _, rfl, by omega, by omega, ?_⟩
      refine for_it (walk_range (lo := 0) (n := ((ys.length : Nat) : Int).toNat)) (fun i σ H' => (∃ y7 y8 : Option V, σ = [some (.ref p), some (.int ks.length), some (.ref l), some (.ref a), some (.ref cl), some (.ref e), some (.ref B), y7, y8, none, none, none, none, none, none]) ∧ Same H13 H') ⟨⟨_, _, rfl⟩, Same.refl _⟩ (fun _ _ _ _ _ => trivial) ?_ ?_
      · rintro i x σ H14 H15 hi ⟨⟨y7, y8, rfl⟩, s14⟩ ⟨rfl, rfl⟩
        have hi2 : i < ys.length := by have : i < ((ys.length : Nat) : Int).toNat := hi; omega
        have ex : ys[i]? = some ys[i] := List.getElem?_eq_getElem hi2
        obtain ⟨tc, c, e1, ec, htc⟩ := hTG.get ex
        rw [e1] at ex
        have cm := List.mem_of_getElem? ec
        have lo := lot_ok m12 (lots c cm)
        have z1 : (0 : Int) + (i : Nat) = ((i : Nat) : Int) := Int.zero_add _
        show gName 7 (V.int ((0 : Int) + ((i : Nat) : Int))) _ _ _
        rw [z1]
        have on15 := on13.same s14
        have blk : Blk H15 fs (classesL cs ks.length) := Blk.imp (fun t ht o e => on15.le _ _ e) gblk
        have bl := blk.ls
        refine ⟨_, rfl, _, rfl, _, rfl, l, cl, ys, fs.map V.ref, cs, i, c, rfl, .inl (.inl (on15.le _ _ gl)), hTG.mono on15.le, .inl (.inl (on15.le _ _ gcl)), bl.1, by rw [bl.2]; exact cls_ne, by rw [List.length_map, gblk.len]; omega, ec, fun H16 R s16 nR kR => ?_⟩
        rw [bl.2] at kR
        have on16 := on15.same s16
        have shr := shn_dI (c := recL (classesL cs ks.length) c) (small24 (rec_small _ _)) (n := 12) (by unfold recL; rw [List.length_map]; omega)
        refine ⟨_, rfl, _, rfl, a, i, c, ks, cs, rfl, tabG.mono on16.le, ec, by omega, by omega, okc, fun H17 u s17 hu => ?_⟩
        have kR := s17 _ _ kR
        refine ⟨u, dI (recL (classesL cs ks.length) c), rfl, dp_I hu, shr.r.1, shr.r.2.1, shr.r.2.2.1, shr.r.2.2.2, _, rfl, R, dI (recL (classesL cs ks.length) c), rfl, dp_I (sqt kR), shr.r.1, shr.r.2.1, shr.r.2.2.1, shr.r.2.2.2, rfl, _, rfl, iteNe rfl ?_⟩
        have on17 := on16.same s17
        refine ⟨_, rfl, _, rfl, a, i, c, ks, cs, rfl, tabG.mono on17.le, ec, by omega, by omega, okc, fun H18 u2 s18 hu2 => ?_⟩
        have kR := s18 _ _ kR
        have on18 := on17.same s18
        refine ⟨_, rfl, dI (recL (classesL cs ks.length) c), dI (recL (classesL cs ks.length) c), dp_I hu2, dp_I (sqt kR), shaped_dI _, shaped_dI _, _, rfl, ?_⟩
        rw [eqv_dI, decide_eq_true rfl]
        refine iteF ?_
        refine ⟨_, rfl, _, rfl, _, rfl, a, R, e, xs, ks, cs, es, recL (classesL cs ks.length) c, rfl, tabG.mono on18.le, by omega, by omega, sqt kR, by unfold recL; rw [List.length_map], small24 (rec_small _ _), seqT on18.le gE, gF.mono on18.le, le, ok, fun H19 u3 s19 hu3 => ?_⟩
        rw [reck_total ok cm lo.2.2 (lots c cm).2] at hu3
        have on19 := on18.same s19
        refine ⟨by show 1 ≤ sizeLine; omega, fun A1 nA1 => ?_⟩
        have sa := same_upd (o := .lst [.int 1]) nA1
        have ka := upd_same (H := H19) (a := A1) (o := .lst [.int 1])
        have onA := on19.new (o := .lst [.int 1]) nA1
        generalize L2.upd H19 A1 (.lst [.int 1]) = H20 at sa ka onA ⊢
        have htA := seqT onA.le htc
        refine ⟨_, rfl, _, rfl, l, ys, _, _, rfl, rfl, .inl (.inl (onA.le _ _ gl)), atI_nat ex, tc, _, rfl, .inr htA, A1, _, _, rfl, rfl, ka, by omega, by rw [List.length_map]; omega, by rw [List.length_map, Int.toNat_natCast]; show 1 * _ ≤ _; omega, fun A2 nA2 => ?_⟩
        rw [List.length_map, Int.toNat_natCast, rep1]
        have sb := same_upd (o := .lst ((List.replicate c.length (1 : Int)).map V.int)) nA2
        have kb := upd_same (H := H20) (a := A2) (o := .lst ((List.replicate c.length (1 : Int)).map V.int))
        have onB := onA.new (o := .lst ((List.replicate c.length (1 : Int)).map V.int)) nA2
        have sab := sa.trans sb
        generalize L2.upd H20 A2 (.lst ((List.replicate c.length (1 : Int)).map V.int)) = H21 at sb kb onB sab ⊢
        have htB := seqT onB.le htc
        refine ⟨_, rfl, _, rfl, l, ys, _, _, rfl, rfl, .inl (.inl (onB.le _ _ gl)), atI_nat ex, tc, rfl, ⟨_, htB⟩, fun Z nZ => ?_⟩
        refine lc_it (walk_tup (K := K) (a := tc) (xs := c.map V.int)) (fun j H' => Same H21 H' ∧ ∃ ws, H' Z = some (.lst ws) ∧ Frs K H' ws ((c.map (esA es)).take j)) ⟨same_upd nZ, [], upd_same, trivial⟩ (fun i H' _ h => seqT h.1 htB) ?_ ?_
        · rintro j y H22 H23 hj ⟨s22, ws, kZ, fw⟩ ⟨rfl, ey⟩
          rw [List.getElem?_map] at ey
          obtain ⟨k, ek, rfl⟩ := Option.map_eq_some_iff.mp ey
          have on22 := onB.same s22
          have ⟨k0, k1⟩ := (lots c cm).2 k (List.mem_of_getElem? ek)
          obtain ⟨te, at1, kte⟩ := es_at (gF.mono on22.le) le k0 k1
          have lw := fw.len
          refine ⟨rfl, _, rfl, _, rfl, e, _, _, _, rfl, rfl, seqT on22.le gE, at1, ws, kZ, ?_, HD.same_put s22 nZ, ws ++ [.ref te], upd_same, ?_⟩
          · rw [List.length_take, List.length_map] at lw
            omega
          · rw [List.take_add_one, List.getElem?_map, ek]
            exact Frs.upd kZ (Frs.snoc kte fw)
        · rintro H22 ⟨s22, ws, kZ, fw⟩
          have lbm : (c.map V.int).length = (c.map (esA es)).length := by rw [List.length_map, List.length_map]
          rw [lbm, List.take_length] at fw
          refine ⟨A2, Z, List.replicate c.length 1, ws, c.map (esA es), rfl, .inl (.inl (.inl (s22 _ _ kb))), .inl (.inl kZ), fw, by rw [List.length_replicate, List.length_map], by rw [List.length_map]; omega, ones_ok _, ?_, fun H24 u4 s24 nu ku => ?_⟩
          · intro z hz
            obtain ⟨k, _, rfl⟩ := List.mem_map.mp hz
            exact ⟨(okes k).1, (okes k).2.mono (by decide)⟩
          have st := (sab.trans s22).trans s24
          refine ⟨dQ _, dQ _, dpQ (seqT st hu3), dpQ (sqt ku), shQ _, shQ _, _, rfl, ?_⟩
          rw [eqQ_self]
          refine iteF ?_
          exact ⟨⟨_, _, rfl⟩, s14.trans (((((s16.trans s17).trans s18).trans s19)).trans st)⟩
      · rintro σ H14 h
        exact h
    rintro σ H14 ⟨⟨y7, y8, rfl⟩, s14⟩
    have on14 := on13.same s14
    clear s14 on13
    have lfs : (fs.map V.ref).length = (classesL cs ks.length).length := by rw [List.length_map]; exact gblk.len
    generalize hn : (classesL cs ks.length).length = n at lfs cl12
    -- rows
    refine ⟨_, rfl, l, ys, rfl, .inl (.inl (.inl (on14.le _ _ gl))), _, rfl, by omega, by omega, fun V1 nV1 => ?_⟩
    have fV := on14.free nV1
    refine lc_it (walk_range (lo := 0) (n := ((ys.length : Nat) : Int).toNat)) (fun i H' => On p q G H' ∧ ∃ zs, H' V1 = some (.lst zs) ∧ zs.length = i ∧ ∀ v ∈ zs, RwOk n (frz p q H') v) ⟨on14.new nV1, [], upd_same, rfl, fun v h => (by cases h)⟩ (fun _ _ _ _ => trivial) ?_ ?_
    · rintro i x H15 H16 hi ⟨on15, zs, kV, lz, rw_⟩ ⟨rfl, rfl⟩
      have hi2 : i < ys.length := by have : i < ((ys.length : Nat) : Int).toNat := hi; omega
      have ex : ys[i]? = some ys[i] := List.getElem?_eq_getElem hi2
      obtain ⟨tc, c, e1, ec, htc⟩ := hTG.get ex
      have z1 : (0 : Int) + (i : Nat) = ((i : Nat) : Int) := Int.zero_add _
      have blk : Blk H16 fs (classesL cs ks.length) := Blk.imp (fun t ht o e => on15.le _ _ e) gblk
      have bl := blk.ls
      refine ⟨rfl, _, rfl, _, rfl, _, rfl, l, cl, ys, fs.map V.ref, cs, i, c, by show [V.ref l, V.ref cl, V.int ((0 : Int) + ((i : Nat) : Int))] = _; rw [z1], .inl (.inl (on15.le _ _ gl)), hTG.mono on15.le, .inl (.inl (on15.le _ _ gcl)), bl.1, by rw [bl.2]; exact cls_ne, by omega, ec, fun H17 R s17 nR kR => ?_⟩
      rw [bl.2] at kR
      have fR := on15.free nR
      have on17 := on15.same s17
      have kV17 := s17 _ _ kV
      refine ⟨zs, kV17, by omega, on17.put fV, zs ++ [.ref R], upd_same, by rw [List.length_append, lz]; rfl, fun v hv => RwOk.updL ?_ kV17⟩
      rcases List.mem_append.mp hv with y | y
      · exact (rw_ v y).mono ((On.start on15.hd).same s17).base.2
      · exact ⟨R, _, List.mem_singleton.mp y, frz_at kR ⟨fR.1, fR.2.1⟩, by unfold recL; rw [List.length_map]; exact hn, rec_small _ _⟩
    rintro H15 ⟨on15, zs, kV, lz, rw_⟩
    refine ⟨_, rfl, V1, zs, rfl, .inl (.inl kV), fun S nS => ?_⟩
    rw [show cutV zs none (some (3 : Int)) = zs.take 3 from cut0 3]
    have fS := on15.free nS
    have on16 := on15.new (o := .lst (zs.take 3)) nS
    have kS := upd_same (H := H15) (a := S) (o := .lst (zs.take 3))
    have rw16 : ∀ v ∈ zs.take 3, RwOk n (frz p q (L2.upd H15 S (.lst (zs.take 3)))) v := fun v hv => (rw_ v (List.mem_of_mem_take hv)).mono ((On.start on15.hd).new nS).base.2
    generalize L2.upd H15 S (.lst (zs.take 3)) = H16 at on16 kS rw16 ⊢
    have lz3 : (zs.take 3).length ≤ 3 := by rw [List.length_take]; omega
    generalize zs.take 3 = z3 at kS rw16 lz3
    clear kV rw_ on15 nS fV nV1
    refine ⟨_, rfl, by decide, by decide, fun W nW => ?_⟩
    have fW := on16.free nW
    have nSW : S ≠ W := ne_of_none kS nW
    refine lc_it (walk_range (lo := 0) (n := (3 : Int).toNat)) (fun i H' => On p q G H' ∧ H' S = some (.lst z3) ∧ (∀ v ∈ z3, RwOk n (frz p q H') v) ∧ ∃ ws, H' W = some (.lst ws) ∧ ws.length = i ∧ ∀ v ∈ ws, RwOk n (frz p q H') v) ⟨on16.new nW, by rw [upd_ne nSW]; exact kS, fun v hv => (rw16 v hv).mono ((On.start on16.hd).new nW).base.2, [], upd_same, rfl, fun v h => (by cases h)⟩ (fun _ _ _ _ => trivial) ?_ ?_
    · rintro i x H17 H18 hi ⟨on17, kS, r1, ws, kW, lw, r2⟩ ⟨rfl, rfl⟩
      have hi2 : i < 3 := hi
      refine ⟨rfl, _, rfl, _, rfl, cl, _, rfl, .inl (.inl (.inl (on17.le _ _ gcl))), p, q, _, rfl, on17.hd, by omega, fun H19 R row on19 kR fR lr small => ?_⟩
      have kp := on19.keep
      have sF := on19.base.2
      have onG19 := on17.draw on19.hd kp
      have kS := kp S _ fS.1 fS.2.1 kS
      have kW := kp W _ fW.1 fW.2.1 kW
      refine ⟨ws, kW, by omega, onG19.put fW, by rw [upd_ne nSW]; exact kS, fun v hv => ((r1 v hv).mono sF).updL kW, ws ++ [.ref R], upd_same, by rw [List.length_append, lw]; rfl, fun v hv => RwOk.updL ?_ kW⟩
      rcases List.mem_append.mp hv with y | y
      · exact (r2 v y).mono sF
      · exact ⟨R, row, List.mem_singleton.mp y, frz_at kR fR, by omega, small⟩
    rintro H17 ⟨on17, kS, r1, ws, kW, lw, r2⟩
    have lw : ws.length = 3 := lw
    refine ⟨S, W, _, _, rfl, rfl, kS, kW, by omega, fun Rw nRw => ?_⟩
    have fRw := on17.free nRw
    have rows : ∀ v ∈ z3 ++ ws, RwOk n (frz p q (L2.upd H17 Rw (.lst (z3 ++ ws)))) v := fun v hv => RwOk.mono ((On.start on17.hd).new nRw).base.2 ((List.mem_append.mp hv).elim (r1 v) (r2 v))
    have on18 := on17.new (o := .lst (z3 ++ ws)) nRw
    have kRw := upd_same (H := H17) (a := Rw) (o := .lst (z3 ++ ws))
    have lrw : (z3 ++ ws).length ≤ 6 ∧ z3 ++ ws ≠ [] := ⟨by rw [List.length_append]; omega, fun z => by
      have : (z3 ++ ws).length = 0 := by rw [z]; rfl
      rw [List.length_append] at this
      omega⟩
    generalize L2.upd H17 Rw (.lst (z3 ++ ws)) = H18 at rows on18 kRw ⊢
    generalize z3 ++ ws = rws at rows kRw lrw
    clear on17 kS kW r1 r2 lw nRw fS fW nSW nW on16 rw16 lz3 on14
    -- pairs of rows
    refine ⟨fun σ H' => (∃ y7 y8 y9 y11 y12 : Option V, σ = [some (.ref p), some (.int ks.length), some (.ref l), some (.ref a), some (.ref cl), some (.ref e), some (.ref B), y7, y8, y9, some (.ref Rw), y11, y12, none, none]) ∧ On p q G H' ∧ H' Rw = some (.lst rws) ∧ ∀ v ∈ rws, RwOk n (frz p q H') v, ?_, ?_⟩
    · refine ⟨_, rfl, by decide, by decide, ?_⟩
      refine for_it (walk_range (lo := 0) (n := (4 : Int).toNat)) (fun i σ H' => (∃ y7 y8 y9 y11 y12 : Option V, σ = [some (.ref p), some (.int ks.length), some (.ref l), some (.ref a), some (.ref cl), some (.ref e), some (.ref B), y7, y8, y9, some (.ref Rw), y11, y12, none, none]) ∧ On p q G H' ∧ H' Rw = some (.lst rws) ∧ ∀ v ∈ rws, RwOk n (frz p q H') v) ⟨⟨_, _, _, _, _, rfl⟩, on18, kRw, rows⟩ (fun _ _ _ _ _ => trivial) ?_ ?_
      · rintro i x σ H19 H20 hi ⟨⟨y7, y8, y9, y11, y12, rfl⟩, on19, kR, rs⟩ ⟨rfl, rfl⟩
        refine ⟨_, rfl, _, rfl, p, q, Rw, rws, rfl, on19.hd, kR, fRw.1, fRw.2.1, lrw.2, by omega, fun H21 v1 hd21 kp21 hv1 => ?_⟩
        have on21 := on19.draw hd21 kp21
        have kR := kp21 Rw _ fRw.1 fRw.2.1 kR
        have sF := ((On.start on19.hd).draw hd21 kp21).base.2
        have rs := fun v hv => (rs v hv).mono sF
        refine ⟨_, rfl, _, rfl, p, q, Rw, rws, rfl, on21.hd, kR, fRw.1, fRw.2.1, lrw.2, by omega, fun H22 v2 hd22 kp22 hv2 => ?_⟩
        have on22 := on21.draw hd22 kp22
        have kR := kp22 Rw _ fRw.1 fRw.2.1 kR
        have sF := ((On.start on21.hd).draw hd22 kp22).base.2
        have rs := fun v hv => (rs v hv).mono sF
        obtain ⟨t1, c1, rfl, k1, l1, b1⟩ := rs v1 hv1
        obtain ⟨t2, c2, rfl, k2, l2, b2⟩ := rs v2 hv2
        have k1 := frz_le _ _ k1
        have k2 := frz_le _ _ k2
        refine ⟨_, _, rfl, ?_⟩
        refine ⟨_, rfl, _, rfl, t1, t2, c1, c2, rfl, sqt k1, sqt k2, by omega, by omega, b1, b2, fun H23 s23 => ⟨true, rfl, iteF ?_⟩⟩
        have on23 := on22.same s23
        refine ⟨_, rfl, _, rfl, _, rfl, _, rfl, a, t1, e, B, xs, bs, ks, cs, es, c1, rfl, tabG.mono on23.le, by omega, by omega, sqt (s23 _ _ k1), by omega, small24 b1, seqT on23.le gE, gF.mono on23.le, le, ok, .inl (.inl (on23.le _ _ gB)), gBs.mono on23.le, fun H24 s24 => ⟨true, rfl, iteF ?_⟩⟩
        have s25 := s23.trans s24
        exact ⟨⟨_, _, _, _, _, rfl⟩, on22.same s25, s25 _ _ kR, fun v hv => (rs v hv).mono ((On.start on22.hd).same s25).base.2⟩
      · rintro σ H19 h
        exact h
    rintro σ H19 ⟨⟨y7, y8, y9, y11, y12, rfl⟩, on19, kR, rs⟩
    -- values
    refine ⟨_, rfl, _, rfl, _, rfl, cl, _, rfl, .inl (.inl (.inl (on19.le _ _ gcl))), p, q, a, _, ks, cs, rfl, on19.hd, tabG.mono on19.base.2, by omega, by omega, by rw [lfs]; exact hn.symm, fun H20 on20' => ⟨true, rfl, iteT ?_⟩⟩
    have on20 := on20'.drop on19.base.2
    obtain ⟨dx, kk, tt, us, hO, hK, hS, hT⟩ := tabG.mono on20.le
    have sh := shn_tots m12 lots lc
    refine ⟨_, rfl, a, C, dx, _, .ref tt, rfl, hO, TC.c, TC.nt, rfl, tt, .tuple (cs.map dI), rfl, .tup hS (dpAll_tots hT), sh.r.1, sh.r.2.1, sh.r.2.2.1, sh.r.2.2.2, ?_⟩
    refine ⟨_, rfl, l, ys, rfl, .inl ⟨.inl (.inl (on20.le _ _ gl)), fun t4 nt4 => ?_⟩⟩
    have on21 := on20.new (o := .tup ys) nt4
    have k21 := upd_same (H := H20) (a := t4) (o := .tup ys)
    generalize L2.upd H20 t4 (.tup ys) = H21 at on21 k21 ⊢
    refine ⟨t4, .tuple (cs.map dI), rfl, .tup (sqt k21) (dpAll_tots (hTG.mono on21.le)), sh.r.1, sh.r.2.1, sh.r.2.2.1, sh.r.2.2.2, rfl, ?_⟩
    have q := fin H21 on21
    rw [← show (V.bl (decide (V.str (PyData.shown (.tuple (cs.map dI))) = V.str (PyData.shown (.tuple (cs.map dI)))))) = V.bl true from congrArg V.bl (decide_eq_true rfl)] at q
    exact q
end
end K14
namespace CK
open PySem PySem.Spec PyProof.Rows L2 VG FR HD
def spHeapF (K : PySem.W.Frag) : Sp := fun vs H Q _ => ∃ (a : Addr) (ns : List Int), vs = [.ref a] ∧ SqL K H a (ns.map V.int) ∧ ns.length ≤ 63 ∧ ∀ H' p q, Hd p q H' → Same H H' → H p = none → H q = none → Q (.ref p) H'
end CK
namespace K14
open PySem PySem.Spec PyProof.Rows L2 VG FR CK HD
section
variable {P : Program} {w : World} {K : PySem.W.Frag} {mg : Str → Option Value} {base : Heap}
theorem ok__law_heapF {f : Addr} {fd : FuncData} (F : Fun K "_law_heap" "_law_heap" s__law_heap f fd) (z_int : mg "int" = none) (z_abs : mg "abs" = none) :
    FnOk P w K mg base CX0 1 f fd ["script"] (spHeapF K) := by
  refine F.ok sc__law_heap (fun vs H Q E h => ?_) (fun cdv A outer s H vs Q E hr h => ?_)
  · obtain ⟨a, ns, rfl, _⟩ := h
    rfl
  · obtain ⟨a, ns, rfl, hS, hn, fin⟩ := h
    refine ⟨_, (pss_cons (ps_par (i := 2) (j := 3) (by rfl) sc__law_heap.nd rfl rfl (by decide) rfl rfl (pa_cons (pe_lc (own := [("cell", 1)]) (by rfl) sc__law_heap.nd (pi_list (pe_slice sl_list (pv 0) po_none (po_some pe_int))) (blkOk_by (own := [("cell", 1)]) (N := N__law_heap) (sc := defScope s__law_heap) (by decide +kernel)) (fun _ _ _ _ _ => (pg_name (i := 1) sc__law_heap.nd rfl (.inl rfl))) (fun _ _ _ _ _ => pts_nil) (fun _ _ _ _ _ => (pe_op op_add (pe_op op_mul pe_int (pe_callB call_abs (by rfl) z_abs (by decide +kernel) (pa_cons (pv 1) pa_nil))) (pe_callTy call_int1 (by rfl) z_int (by decide +kernel) (pa_cons (pe_cmpR op_lt (pv 1) pe_int (nomark _)) pa_nil))))) (pa_cons pe_int pa_nil)) (by rfl))
    (pss_cut (ps_for PassesOwn.never rfl (pi_list (pv 2)) (pg_name (i := 1) sc__law_heap.nd rfl (.inl rfl))
      (pss_one (ps_set (i := 3) sc__law_heap.nd rfl (.inl rfl) (pe_op op_modN (pe_callTy call_int1 (by rfl) z_int (by decide +kernel) (pa_cons (pe_op op_add (pe_op op_add (pe_op op_mul (pv 3) pe_int) (pe_op op_modN (pe_callTy call_int1 (by rfl) z_int (by decide +kernel) (pa_cons (pv 1) pa_nil)) pe_int)) pe_int) pa_nil)) pe_int))))
    (pss_one (ps_ret (pe_lst (pa_cons (pe_revL (pe_lc (own := [("cell", 1)]) (by rfl) sc__law_heap.nd (pi_list (pv 2)) (blkOk_by (own := [("cell", 1)]) (N := N__law_heap) (sc := defScope s__law_heap) (by decide +kernel)) (fun _ _ _ _ _ => (pg_name (i := 1) sc__law_heap.nd rfl (.inl rfl))) (fun _ _ _ _ _ => (pts_one (pt_cmpR op_ge (pv 1) (pe_op op_pow pe_int pe_int) (nomark _)))) (fun _ _ _ _ _ => (pv 1)))) (pa_cons (pv 3) pa_nil))))))), ?_⟩
    obtain ⟨ms, em, hm⟩ := cut_ints ns none (some 60)
    refine ⟨_, rfl, _, rfl, a, _, rfl, hS, fun c nc => ?_⟩
    rw [em]
    have s1 : Same H (upd H c (.lst (ms.map V.int))) := FR.same_upd nc
    refine ⟨c, rfl, ⟨_, .inl (.inl upd_same)⟩, fun D nD => ?_⟩
    have ncD : c ≠ D := ne_of_none upd_same nD
    refine lc_it (walk_list (K := K) (a := c) (xs := ms.map V.int)) (fun i H' => Same H H' ∧ H' c = some (.lst (ms.map V.int)) ∧ ∃ cs : List Int, cs.length = i ∧ H' D = some (.lst (cs.map V.int))) ?_ ?_ ?_ ?_
    · exact ⟨s1.trans (FR.same_upd nD), by rw [upd_ne ncD]; exact upd_same, [], rfl, upd_same⟩
    · rintro i H' _ ⟨_, h2, _⟩
      exact .inl (.inl h2)
    · rintro i x H1 H' hi ⟨sm, hc, cs, el, hD⟩ ⟨rfl, ex⟩
      rw [List.length_map] at hi
      rw [List.getElem?_map, List.getElem?_eq_getElem hi] at ex
      have e1 : V.int ms[i] = x := Option.some.inj ex
      subst e1
      refine ⟨rfl, _, rfl, _, rfl, _, _, rfl, rfl, .inl ⟨by decide, by decide⟩, _, rfl, _, _, rfl, rfl, .inr ⟨_, rfl, _, _, rfl, rfl, ?_⟩⟩
      refine ⟨cs.map V.int, hD, ?_, ?_, ?_, ?_⟩
      · rw [List.length_map]
        exact small1000 (by omega)
      · have nH : H D = none := s1.free nD
        exact HD.same_put sm nH
      · rw [upd_ne ncD]
        exact hc
      · refine ⟨cs ++ [2 * (if ms[i] < 0 then -ms[i] else ms[i]) + (if decide (ms[i] < 0) = true then 1 else 0)], by rw [List.length_append, el]; rfl, ?_⟩
        rw [upd_same, List.map_append]
        rfl
    · rintro H1 ⟨sm, hc, cs, el, hD⟩
      rw [List.length_map] at el
      have hcs : cs.length ≤ 63 := by omega
      refine ⟨_, _, rfl, ?_⟩
      -- the loop over the cells
      refine ⟨fun σ H' => H' = H1 ∧ ∃ (y1 : Option V) (st : Int), σ = [some (.ref a), y1, some (.ref D), some (.int st)] ∧ 0 ≤ st ∧ st < 2147483647, ?_, ?_⟩
      · refine ⟨_, rfl, D, rfl, ⟨_, .inl (.inl hD)⟩, ?_⟩
        refine for_it (walk_list (K := K) (a := D) (xs := cs.map V.int)) (fun i σ H' => H' = H1 ∧ ∃ (y1 : Option V) (st : Int), σ = [some (.ref a), y1, some (.ref D), some (.int st)] ∧ 0 ≤ st ∧ st < 2147483647) ?_ ?_ ?_ ?_
        · exact ⟨rfl, _, 50207, rfl, by decide, by decide⟩
        · rintro i σ H' _ ⟨rfl, _⟩
          exact .inl (.inl hD)
        · rintro i x σ H' H'' hi ⟨rfl, y1, st, rfl, h1, h2⟩ ⟨rfl, ex⟩
          rw [List.length_map] at hi
          rw [List.getElem?_map, List.getElem?_eq_getElem hi] at ex
          have e1 : V.int cs[i] = x := Option.some.inj ex
          subst e1
          have fm := fmod_lt (st * 48271 + (cs[i]).fmod 2147483563 + 43) (m := 2147483647) (by decide)
          refine ⟨_, rfl, _, _, rfl, rfl, .inl ⟨by omega, by omega⟩, _, rfl, .inl ⟨_, rfl, _, _, rfl, rfl, by show (2147483563 : Int) ≠ 0; decide, _, _, rfl, rfl, _, _, rfl, rfl, .inl ⟨_, rfl, _, _, rfl, rfl, by show (2147483647 : Int) ≠ 0; decide, ?_⟩⟩⟩
          exact ⟨rfl, _, _, rfl, fm.1, fm.2⟩
        · rintro σ H' ⟨rfl, h⟩
          exact ⟨rfl, h⟩
      · rintro σ H' ⟨rfl, y1, st, rfl, h1, h2⟩
        refine ⟨_, rfl, D, rfl, ⟨_, .inl (.inl hD)⟩, fun B nB => ?_⟩
        have nDB : D ≠ B := ne_of_none hD nB
        refine lc_it (walk_list (K := K) (a := D) (xs := cs.map V.int)) (fun i H2 => Same H H2 ∧ H2 D = some (.lst (cs.map V.int)) ∧ ∃ ds : List Int, ds.length ≤ i ∧ H2 B = some (.lst (ds.map V.int))) ?_ ?_ ?_ ?_
        · exact ⟨sm.trans (FR.same_upd nB), by rw [upd_ne nDB]; exact hD, [], Nat.le_refl _, upd_same⟩
        · rintro i H2 _ ⟨_, g2, _⟩
          exact .inl (.inl g2)
        · rintro i x H2 H3 hi ⟨sm2, hD2, ds, el2, hB⟩ ⟨rfl, ex⟩
          rw [List.length_map] at hi
          rw [List.getElem?_map, List.getElem?_eq_getElem hi] at ex
          have e1 : V.int cs[i] = x := Option.some.inj ex
          subst e1
          refine ⟨rfl, _, rfl, _, _, rfl, rfl, ⟨by decide, by decide, by decide⟩, _, _, rfl, rfl, _, rfl, ite2 (fun e => ?_) (fun e => ?_)⟩
          · refine ⟨_, rfl, ds.map V.int, hB, ?_, HD.same_put sm2 (sm.free nB), ?_, ?_⟩
            · rw [List.length_map]
              exact small1000 (by omega)
            · rw [upd_ne nDB]
              exact hD2
            · refine ⟨ds ++ [cs[i]], by rw [List.length_append, List.length_cons, List.length_nil]; omega, ?_⟩
              rw [upd_same, List.map_append]
              rfl
          · exact ⟨sm2, hD2, ds, by omega, hB⟩
        · rintro H2 ⟨sm2, hD2, ds, el2, hB⟩
          rw [List.length_map] at el2
          refine ⟨B, _, rfl, .inl (.inl hB), fun q nq => ?_⟩
          refine ⟨_, rfl, by show 2 ≤ sizeLine; decide, fun p np => ?_⟩
          have npq : q ≠ p := ne_of_none upd_same np
          refine fin _ p q ⟨ds.reverse, st, upd_same, ?_, ?_, h1, h2⟩ ((sm2.trans (FR.same_upd nq)).trans (FR.same_upd np)) ((sm2.trans (FR.same_upd nq)).free np) (sm2.free nq)
          · rw [upd_ne npq, upd_same, List.map_reverse]
          · rw [List.length_reverse]
            omega
end
end K14
namespace CK
open PySem PySem.Spec PyProof.Rows L2 VG FR HD
theorem names_ok (z : Str) (h : 1 ≤ z.cps.size ∧ z.cps.size ≤ 6 ∧ (z.cps.toList.all fun c => decide (97 ≤ c ∧ c ≤ 122)) = true) : NameOk z := ⟨h.1, h.2.1, fun c hc => of_decide_eq_true (List.all_eq_true.mp h.2.2 c hc)⟩
theorem kinds3 : KindsOk ["cup", "jam", "tea"] := by
  refine ⟨by decide, by decide, fun z hz => ?_, fun i a b ha hb => ?_⟩
  · have : z = ("cup" : Str) ∨ z = ("jam" : Str) ∨ z = ("tea" : Str) := by simpa using hz
    rcases this with y | y | y <;> (rw [y]; exact names_ok _ ⟨by decide +kernel, by decide +kernel, by decide +kernel⟩)
  · match i, ha, hb with
    | 0, ha, hb =>
      have e1 : ("cup" : Str) = a := Option.some.inj ha
      have e2 : ("jam" : Str) = b := Option.some.inj hb
      subst e1 e2
      decide +kernel
    | 1, ha, hb =>
      have e1 : ("jam" : Str) = a := Option.some.inj ha
      have e2 : ("tea" : Str) = b := Option.some.inj hb
      subst e1 e2
      decide +kernel
    | i + 2, ha, hb => simp at hb
theorem kinds1 : KindsOk ["cup"] := by
  refine ⟨by decide, by decide, fun z hz => ?_, fun i a b ha hb => ?_⟩
  · have : z = ("cup" : Str) := by simpa using hz
    rw [this]
    exact names_ok _ ⟨by decide +kernel, by decide +kernel, by decide +kernel⟩
  · simp at hb
def ts3 : List (List Int) := [[0, 2], [1], [], [0, 1, 2]]
theorem lots3 : ∀ c ∈ ts3, LotI 3 c := by
  intro c hc
  have : c = [0, 2] ∨ c = [1] ∨ c = [] ∨ c = [0, 1, 2] := by simpa [ts3] using hc
  rcases this with y | y | y | y <;> (rw [y]; refine ⟨?_, ?_⟩)
  · exact ⟨by decide, trivial⟩
  · decide
  · exact trivial
  · decide
  · exact trivial
  · decide
  · exact ⟨by decide, by decide, trivial⟩
  · decide
theorem cls3 : classesL ts3 3 = [[0, 2], [1]] := by decide +kernel
theorem cls1 : classesL [[]] 1 = [] := by decide +kernel
theorem es3 : EsOk [((1, 2) : Q2), ((1, 3) : Q2), ((1, 4) : Q2)] := by
  intro p hp
  have : p = ((1, 2) : Q2) ∨ p = ((1, 3) : Q2) ∨ p = ((1, 4) : Q2) := by simpa using hp
  rcases this with y | y | y <;> (rw [y]; exact ⟨⟨by decide, by decide⟩, ⟨by decide, by decide⟩⟩)
theorem es1 : EsOk [((9, 2) : Q2)] := by
  intro p hp
  have : p = ((9, 2) : Q2) := by simpa using hp
  rw [this]
  exact ⟨⟨by decide, by decide⟩, ⟨by decide, by decide⟩⟩
theorem sum3 : M14.lsum [2, -1] (errsL [[0, 2], [1]] [((1, 2) : Q2), ((1, 3) : Q2), ((1, 4) : Q2)]) = (7, 6) := by decide +kernel
theorem sum1 : M14.lsum [] (errsL [] [((9, 2) : Q2)]) = (0, 1) := by decide +kernel
end CK
namespace K14
open PySem PySem.Spec PyProof.Rows L2 VG FR CK HD
abbrev s_law : Stmt := topS 66
abbrev N_law : List Str := ["script", "heap", "turn", "table", "bare"]
theorem sc_law : FnScope N_law ["script"] (defScope s_law) := ⟨rfl, rfl, rfl, by decide +kernel, rfl, by decide +kernel, by decide +kernel⟩
section
variable {P : Program} {w : World} {K : PySem.W.Frag} {mg : Str → Option Value} {base : Heap}
theorem ok_law {f C : Addr} {fd : FuncData} (F : Fun K "law" "law" s_law f fd) (TC : TabC K C) (T_Table : MkT P w K mg base 7 "Table" C (spInitT K C))
    (C__law_heap : Cl P w K mg base 1 "_law_heap" (spHeapF K)) (C__law_draw : Cl P w K mg base 1 "_law_draw" spDraw) (C__law_pick : Cl P w K mg base 2 "_law_pick" (spPick K)) (G__law_table_right : ClG P w K mg base 9 "_law_table_right" spTableRight)
    (C_total_reckoning : Cl P w K mg base 6 "total_reckoning" (spTotRec K C)) (C_reckoned : Cl P w K mg base 6 "reckoned" (spReckoned K C)) (C_is_reckoning : Cl P w K mg base 3 "is_reckoning" (spIsReck K C)) (C_is_beyond : Cl P w K mg base 1 "is_beyond" (spBeyond K))
    (z_range : mg "range" = none) (z_int : mg "int" = none) (z_len : mg "len" = none) : FnG P w K mg base 10 f fd ["script"] (spLaw K) := by
  refine fnG_of F sc_law (fun vs H Q E h => ?_) (fun cdv A outer s H vs Q E hg hr h => ?_)
  · obtain ⟨a, ns, rfl, _⟩ := h
    rfl
  · obtain ⟨a, ns, rfl, hS, hn, fin⟩ := h
    refine ⟨_, (pss_cons (ps_set (i := 1) sc_law.nd rfl (.inl rfl) (pe_cl C__law_heap hr (by decide) rfl (pa_cons (pv 0) pa_nil)))
    (pss_cut (ps_for PassesOwn.never rfl (pi_range1 (by rfl) z_range (pa_cons (pe_op op_add pe_int (pe_callTy call_int1 (by rfl) z_int (by decide +kernel) (pa_cons (pe_cmpR op_gt (pe_callB call_len_seq (by rfl) z_len (by decide +kernel) (pa_cons (pv 0) pa_nil)) pe_int (nomark _)) pa_nil))) pa_nil)) (pg_name (i := 2) sc_law.nd rfl (.inl rfl))
      (pss_one (ps_if (pt_not (pt_val (pe_clg G__law_table_right hg hr (by decide) rfl (pa_cons (pv 1) (pa_cons (pe_ifExp (pt_cmpR op_gt (pe_callB call_len_seq (by rfl) z_len (by decide +kernel) (pa_cons (pv 0) pa_nil)) pe_int (nomark _)) (pe_cl C__law_pick hr (by decide) rfl (pa_cons (pv 1) (pa_cons (pe_lst (pa_cons pe_int (pa_cons pe_int (pa_cons pe_int (pa_cons pe_int (pa_cons pe_int (pa_cons pe_int (pa_cons pe_int pa_nil)))))))) pa_nil))) pe_int) pa_nil)))))
        (pss_one (ps_ret pe_bl))
        pss_nil)))
    (pss_cut (ps_if (PW.pt (pw_and (pt_cmpR op_gt (pe_callB call_len_seq (by rfl) z_len (by decide +kernel) (pa_cons (pv 0) pa_nil)) pe_int (nomark _)) (pw_and (pt_cmpR op_eq (pe_cl C__law_draw hr (by decide) rfl (pa_cons (pv 1) (pa_cons pe_int pa_nil))) pe_int (nomark _)) (pw_and1 (pt_not (pt_val (pe_clg G__law_table_right hg hr (by decide) rfl (pa_cons (pv 1) (pa_cons pe_int pa_nil)))))))))
      (pss_one (ps_ret pe_bl))
      pss_nil)
    (pss_cons (ps_set (i := 3) sc_law.nd rfl (.inl rfl) (pe_mt T_Table hr (by decide) rfl (pa_cons (pe_tup (pa_cons pe_str (pa_cons pe_str (pa_cons pe_str pa_nil)))) (pa_cons (pe_tup (pa_cons (pe_tup (pa_cons pe_int (pa_cons pe_int pa_nil))) (pa_cons (pe_tup (pa_cons pe_int pa_nil)) (pa_cons (pe_tup pa_nil) (pa_cons (pe_tup (pa_cons pe_int (pa_cons pe_int (pa_cons pe_int pa_nil)))) pa_nil))))) pa_nil))))
    (pss_cons (ps_if (PW.pt (pw_or (pt_cmpR (op_neD hr.units) (pe_cl C_total_reckoning hr (by decide) rfl (pa_cons (pv 3) (pa_cons pe_int pa_nil))) (pe_tup (pa_cons pe_int (pa_cons pe_int pa_nil))) (nomark _)) (pw_or (pt_cmpR (op_neD hr.units) (pe_cl C_total_reckoning hr (by decide) rfl (pa_cons (pv 3) (pa_cons pe_int pa_nil))) (pe_tup (pa_cons pe_int (pa_cons pe_int pa_nil))) (nomark _)) (pw_or1 (pt_cmpR (op_neD hr.units) (pe_cl C_reckoned hr (by decide) rfl (pa_cons (pv 3) (pa_cons (pe_tup (pa_cons pe_int (pa_cons (pe_un un_neg pe_int) pa_nil))) (pa_cons (pe_tup (pa_cons (pe_tup (pa_cons pe_int (pa_cons pe_int pa_nil))) (pa_cons (pe_tup (pa_cons pe_int (pa_cons pe_int pa_nil))) (pa_cons (pe_tup (pa_cons pe_int (pa_cons pe_int pa_nil))) pa_nil)))) pa_nil)))) (pe_tup (pa_cons pe_int (pa_cons pe_int pa_nil))) (nomark _))))))
      (pss_one (ps_ret pe_bl))
      pss_nil)
    (pss_cons (ps_set (i := 4) sc_law.nd rfl (.inl rfl) (pe_mt T_Table hr (by decide) rfl (pa_cons (pe_tup (pa_cons pe_str pa_nil)) (pa_cons (pe_tup (pa_cons (pe_tup pa_nil) pa_nil)) pa_nil))))
    (pss_one (ps_ret (pe_and (pe_cmpR (op_eqD hr.units) (pe_cl C_total_reckoning hr (by decide) rfl (pa_cons (pv 4) (pa_cons pe_int pa_nil))) (pe_tup pa_nil) (nomark _)) (pe_and (pe_cmpR op_isB (pe_cl C_is_reckoning hr (by decide) rfl (pa_cons (pv 4) (pa_cons (pe_tup pa_nil) pa_nil))) pe_bl (nomark _)) (pe_and (pe_cmpR (op_eqD hr.units) (pe_cl C_reckoned hr (by decide) rfl (pa_cons (pv 4) (pa_cons (pe_tup pa_nil) (pa_cons (pe_tup (pa_cons (pe_tup (pa_cons pe_int (pa_cons pe_int pa_nil))) pa_nil)) pa_nil)))) (pe_tup (pa_cons pe_int (pa_cons pe_int pa_nil))) (nomark _)) (pe_one (pe_cmpR op_isB (pe_cl C_is_beyond hr (by decide) rfl (pa_cons (pe_tup pa_nil) pa_nil)) pe_bl (nomark _)))))))))))))), ?_⟩
    have big : sizeLine = 16777216 := by decide
    refine ⟨_, rfl, a, ns, rfl, hS, hn, fun Hh p q hd sm np nq => ?_⟩
    have on0 := On.start hd
    have sG : Same H (frz p q Hh) := fun b o e => frz_at (sm b o e) ⟨ne_of_none e np, ne_of_none e nq⟩
    have hS := sG.seq hS
    generalize frz p q Hh = G at on0 hS
    refine ⟨fun σ H' => (∃ y2 : Option V, σ = [some (.ref a), some (.ref p), y2, none, none]) ∧ On p q G H', ?_, ?_⟩
    · refine ⟨_, rfl, a, _, rfl, .inl (on0.le.seq hS), _, _, rfl, rfl, .inr ⟨_, rfl, _, _, rfl, rfl, _, rfl, ?_, ?_, ?_⟩⟩
      · split <;> decide
      · split <;> decide
      refine for_it walk_range (fun i σ H' => (∃ y2 : Option V, σ = [some (.ref a), some (.ref p), y2, none, none]) ∧ On p q G H') ⟨⟨_, rfl⟩, on0⟩ (fun _ _ _ _ _ => trivial) ?_ (fun _ _ h => h)
      rintro i x σ Ha Hb hi ⟨⟨y2, rfl⟩, on1⟩ ⟨e, rfl⟩
      subst e
      refine ⟨_, rfl, _, rfl, a, _, rfl, .inl (on1.le.seq hS), _, _, rfl, rfl, _, rfl, ite2 (fun _ => ?_) (fun _ => ?_)⟩
      · refine ⟨_, rfl, by show 7 ≤ sizeLine; decide, fun O nO => ?_⟩
        have fO := on1.free nO
        have on2 := on1.new (o := .lst [.int 4, .int 3, .int 5, .int 7, .int 2, .int 1, .int 6]) nO
        have kO := upd_same (H := Hb) (a := O) (o := .lst [.int 4, .int 3, .int 5, .int 7, .int 2, .int 1, .int 6])
        generalize L2.upd Hb O (.lst [.int 4, .int 3, .int 5, .int 7, .int 2, .int 1, .int 6]) = H2 at on2 kO ⊢
        refine ⟨p, q, O, _, rfl, on2.hd, kO, fO.1, fO.2.1, by simp, by show 7 < 1000000; decide, fun H3 v hd3 kp3 hv => ?_⟩
        have on3 := on2.draw hd3 kp3
        have hm : ∃ m : Nat, v = .int (m : Int) ∧ 1 ≤ m ∧ m ≤ 12 := by
          have : v = .int 4 ∨ v = .int 3 ∨ v = .int 5 ∨ v = .int 7 ∨ v = .int 2 ∨ v = .int 1 ∨ v = .int 6 := by simpa using hv
          rcases this with z | z | z | z | z | z | z
          · exact ⟨4, z, by decide, by decide⟩
          · exact ⟨3, z, by decide, by decide⟩
          · exact ⟨5, z, by decide, by decide⟩
          · exact ⟨7, z, by decide, by decide⟩
          · exact ⟨2, z, by decide, by decide⟩
          · exact ⟨1, z, by decide, by decide⟩
          · exact ⟨6, z, by decide, by decide⟩
        obtain ⟨m, rfl, m1, m2⟩ := hm
        refine ⟨p, q, m, rfl, on3.hd, m1, m2, fun H4 on4 => ⟨true, rfl, iteF ?_⟩⟩
        exact ⟨⟨_, rfl⟩, on4.drop on3.base.2⟩
      · refine ⟨p, q, 4, rfl, on1.hd, by decide, by decide, fun H4 on4 => ⟨true, rfl, iteF ?_⟩⟩
        exact ⟨⟨_, rfl⟩, on4.drop on1.base.2⟩
    rintro σ Ha ⟨⟨y2, rfl⟩, on1⟩
    refine ⟨fun σ H' => ∃ y2 : Option V, σ = [some (.ref a), some (.ref p), y2, none, none], ?_, ?_⟩
    · refine ⟨_, rfl, a, _, rfl, .inl (on1.le.seq hS), _, _, rfl, rfl, _, rfl, ite2 (fun _ => ?_) (fun _ => ⟨_, rfl⟩)⟩
      refine ⟨_, rfl, p, q, _, rfl, on1.hd, by decide, by decide, fun H1 r hd1 kp1 r0 r1 => ⟨rfl, _, rfl, ite2 (fun _ => ?_) (fun _ => ⟨_, rfl⟩)⟩⟩
      exact ⟨_, rfl, p, q, 12, rfl, hd1, by decide, by decide, fun H2 on2 => ⟨true, rfl, iteF ⟨_, rfl⟩⟩⟩
    rintro σ H0 ⟨y2, rfl⟩
    clear on1 on0 hS sG np nq sm hd
    -- the first table
    refine ⟨by show 3 ≤ sizeLine; decide, fun t1 n1 => ?_⟩
    obtain ⟨s1, h1⟩ := put1 (o := .tup [.str "cup", .str "jam", .str "tea"]) n1
    generalize L2.upd H0 t1 (.tup [.str "cup", .str "jam", .str "tea"]) = H1 at s1 h1 ⊢
    refine ⟨by show 2 ≤ sizeLine; decide, fun t2 n2 => ?_⟩
    obtain ⟨s2, h2⟩ := put1 (o := .tup [.int 0, .int 2]) n2
    generalize L2.upd H1 t2 (.tup [.int 0, .int 2]) = H2 at s2 h2 ⊢
    refine ⟨by show 1 ≤ sizeLine; decide, fun t3 n3 => ?_⟩
    obtain ⟨s3, h3⟩ := put1 (o := .tup [.int 1]) n3
    generalize L2.upd H2 t3 (.tup [.int 1]) = H3 at s3 h3 ⊢
    refine ⟨by show 0 ≤ sizeLine; exact Nat.zero_le _, fun t4 n4 => ?_⟩
    obtain ⟨s4, h4⟩ := put1 (o := .tup []) n4
    generalize L2.upd H3 t4 (.tup []) = H4 at s4 h4 ⊢
    refine ⟨by show 3 ≤ sizeLine; decide, fun t5 n5 => ?_⟩
    obtain ⟨s5, h5⟩ := put1 (o := .tup [.int 0, .int 1, .int 2]) n5
    generalize L2.upd H4 t5 (.tup [.int 0, .int 1, .int 2]) = H5 at s5 h5 ⊢
    refine ⟨by show 4 ≤ sizeLine; decide, fun t6 n6 => ?_⟩
    obtain ⟨s6, h6⟩ := put1 (o := .tup [.ref t2, .ref t3, .ref t4, .ref t5]) n6
    generalize L2.upd H5 t6 (.tup [.ref t2, .ref t3, .ref t4, .ref t5]) = H6 at s6 h6 ⊢
    have h1 := s6 _ _ (s5 _ _ (s4 _ _ (s3 _ _ (s2 _ _ h1))))
    have h2 := s6 _ _ (s5 _ _ (s4 _ _ (s3 _ _ h2)))
    have h3 := s6 _ _ (s5 _ _ (s4 _ _ h3))
    have h4 := s6 _ _ (s5 _ _ h4)
    have h5 := s6 _ _ h5
    have hT : Tots K H6 [.ref t2, .ref t3, .ref t4, .ref t5] ts3 := ⟨⟨_, rfl, sqt h2⟩, ⟨_, rfl, sqt h3⟩, ⟨_, rfl, sqt h4⟩, ⟨_, rfl, sqt h5⟩, trivial⟩
    refine fun b dx nx nd ne => tab_made (ks := ["cup", "jam", "tea"]) (ts := ts3) (sqt h1) kinds3 (sqt h6) hT (by decide) (fun c hc => (lot_ok (m := 3) (by decide) (lots3 c hc)).2.1) nx nd ne fun H7 s7 tab _ => ?_
    clear h1 h2 h3 h4 h5 h6 hT s1 s2 s3 s4 s5 s6 s7
    have ok3 : ∀ c ∈ ts3, c.length ≤ 60 ∧ ∀ x ∈ c, 0 ≤ x ∧ x < ((3 : Nat) : Int) := by decide
    have c3 : classesL ts3 ((["cup", "jam", "tea"] : List Str)).length = [[0, 2], [1]] := cls3
    refine ⟨_, rfl, b, 3, [0, 1, 2], ["cup", "jam", "tea"], ts3, rfl, tab, rfl, by decide, by decide, ok3, fun H8 u s8 hu => ?_⟩
    rw [c3, show recL [[0, 2], [1]] [0, 1, 2] = [1, 1] from by decide] at hu
    have tab := tab.mono s8
    refine ⟨by show 2 ≤ sizeLine; decide, fun t9 n9 => ?_⟩
    obtain ⟨s9, h9⟩ := put1 (o := .tup [.int 1, .int 1]) n9
    generalize L2.upd H8 t9 (.tup [.int 1, .int 1]) = H9 at s9 h9 ⊢
    have tab := tab.mono s9
    refine ⟨dI [1, 1], dI [1, 1], dp_I (seqT s9 hu), dp_I (sqt h9), shaped_dI _, shaped_dI _, _, rfl, ?_⟩
    rw [eqv_dI, decide_eq_true rfl]
    refine iteF ?_
    refine ⟨_, rfl, b, 2, [], ["cup", "jam", "tea"], ts3, rfl, tab, rfl, by decide, by decide, ok3, fun H8 u s8 hu => ?_⟩
    rw [c3, show recL [[0, 2], [1]] [] = [0, 0] from by decide] at hu
    have tab := tab.mono s8
    refine ⟨by show 2 ≤ sizeLine; decide, fun t9 n9 => ?_⟩
    obtain ⟨s9, h9⟩ := put1 (o := .tup [.int 0, .int 0]) n9
    generalize L2.upd H8 t9 (.tup [.int 0, .int 0]) = H9 at s9 h9 ⊢
    have tab := tab.mono s9
    refine ⟨dI [0, 0], dI [0, 0], dp_I (seqT s9 hu), dp_I (sqt h9), shaped_dI _, shaped_dI _, _, rfl, ?_⟩
    rw [eqv_dI, decide_eq_true rfl]
    refine iteF ?_
    -- what is reckoned
    refine ⟨_, rfl, _, rfl, by show 2 ≤ sizeLine; decide, fun r1 n_r1 => ?_⟩
    obtain ⟨s_r1, h_r1⟩ := put1 (o := .tup [.int 2, .int (-1)]) n_r1
    generalize L2.upd H9 r1 (.tup [.int 2, .int (-1)]) = A1 at s_r1 h_r1 ⊢
    refine ⟨by show 2 ≤ sizeLine; decide, fun r2 n_r2 => ?_⟩
    obtain ⟨s_r2, h_r2⟩ := put1 (o := .tup [.int 1, .int 2]) n_r2
    generalize L2.upd A1 r2 (.tup [.int 1, .int 2]) = A2 at s_r2 h_r2 ⊢
    refine ⟨by show 2 ≤ sizeLine; decide, fun r3 n_r3 => ?_⟩
    obtain ⟨s_r3, h_r3⟩ := put1 (o := .tup [.int 1, .int 3]) n_r3
    generalize L2.upd A2 r3 (.tup [.int 1, .int 3]) = A3 at s_r3 h_r3 ⊢
    refine ⟨by show 2 ≤ sizeLine; decide, fun r4 n_r4 => ?_⟩
    obtain ⟨s_r4, h_r4⟩ := put1 (o := .tup [.int 1, .int 4]) n_r4
    generalize L2.upd A3 r4 (.tup [.int 1, .int 4]) = A4 at s_r4 h_r4 ⊢
    refine ⟨by show 3 ≤ sizeLine; decide, fun r5 n_r5 => ?_⟩
    obtain ⟨s_r5, h_r5⟩ := put1 (o := .tup [.ref r2, .ref r3, .ref r4]) n_r5
    generalize L2.upd A4 r5 (.tup [.ref r2, .ref r3, .ref r4]) = A5 at s_r5 h_r5 ⊢
    have tab5 := tab.mono (((((s_r1).trans s_r2).trans s_r3).trans s_r4).trans s_r5)
    have h_r1 := s_r5 _ _ (s_r4 _ _ (s_r3 _ _ (s_r2 _ _ h_r1)))
    have h_r2 := s_r5 _ _ (s_r4 _ _ (s_r3 _ _ h_r2))
    have h_r3 := s_r5 _ _ (s_r4 _ _ h_r3)
    have h_r4 := s_r5 _ _ h_r4
    refine ⟨b, r1, r5, _, ["cup", "jam", "tea"], ts3, [((1, 2) : Q2), ((1, 3) : Q2), ((1, 4) : Q2)], [2, -1], rfl, tab5, by decide, by decide, sqt h_r1, by rw [c3]; rfl, by unfold RowOk; decide, sqt h_r5, ⟨⟨_, rfl, sqt h_r2⟩, ⟨_, rfl, sqt h_r3⟩, ⟨_, rfl, sqt h_r4⟩, trivial⟩, rfl, es3, fun A6 u6 s6 hu6 => ?_⟩
    rw [c3, sum3] at hu6
    refine ⟨by show 2 ≤ sizeLine; decide, fun r7 n_r7 => ?_⟩
    obtain ⟨s_r7, h_r7⟩ := put1 (o := .tup [.int 7, .int 6]) n_r7
    generalize L2.upd A6 r7 (.tup [.int 7, .int 6]) = A7 at s_r7 h_r7 ⊢
    refine ⟨dQ (7, 6), dQ (7, 6), dpQ (seqT s_r7 hu6), dpQ (sqt h_r7), shQ _, shQ _, _, rfl, ?_⟩
    rw [eqQ_self]
    refine iteF ?_
    -- a bare table
    refine ⟨by show 1 ≤ sizeLine; decide, fun q1 n_q1 => ?_⟩
    obtain ⟨s_q1, h_q1⟩ := put1 (o := .tup [.str "cup"]) n_q1
    generalize L2.upd A7 q1 (.tup [.str "cup"]) = B1 at s_q1 h_q1 ⊢
    refine ⟨by show 0 ≤ sizeLine; exact Nat.zero_le _, fun q2 n_q2 => ?_⟩
    obtain ⟨s_q2, h_q2⟩ := put1 (o := .tup []) n_q2
    generalize L2.upd B1 q2 (.tup []) = B2 at s_q2 h_q2 ⊢
    refine ⟨by show 1 ≤ sizeLine; decide, fun q3 n_q3 => ?_⟩
    obtain ⟨s_q3, h_q3⟩ := put1 (o := .tup [.ref q2]) n_q3
    generalize L2.upd B2 q3 (.tup [.ref q2]) = B3 at s_q3 h_q3 ⊢
    have hq1 := s_q3 _ _ (s_q2 _ _ h_q1)
    have hq2 := s_q3 _ _ h_q2
    refine fun b2 dx2 nx2 nd2 ne2 => tab_made (ks := ["cup"]) (ts := [[]]) (sqt hq1) kinds1 (sqt h_q3) ⟨⟨_, rfl, sqt hq2⟩, trivial⟩ (by decide) (fun c hc => ?_) nx2 nd2 ne2 fun B4 s_b4 tab _ => ?_
    · rw [List.mem_singleton.mp hc]
      exact ⟨by decide, fun x hx => (by cases hx), trivial⟩
    have ok1 : ∀ c ∈ ([[]] : List (List Int)), c.length ≤ 60 ∧ ∀ x ∈ c, 0 ≤ x ∧ x < ((1 : Nat) : Int) := by decide
    have c1 : classesL [[]] ((["cup"] : List Str)).length = [] := cls1
    refine ⟨_, rfl, b2, 0, [], ["cup"], [[]], rfl, tab, rfl, by decide, by decide, ok1, fun B5 u5 s_b5 hu5 => ?_⟩
    rw [c1] at hu5
    refine ⟨by show 0 ≤ sizeLine; exact Nat.zero_le _, fun q6 n_q6 => ?_⟩
    obtain ⟨s_q6, h_q6⟩ := put1 (o := .tup []) n_q6
    generalize L2.upd B5 q6 (.tup []) = B6 at s_q6 h_q6 ⊢
    have tab6 := (tab.mono s_b5).mono s_q6
    refine ⟨dI [], dI [], dp_I (seqT s_q6 hu5), dp_I (sqt h_q6), shaped_dI _, shaped_dI _, true, by rw [eqv_dI]; rfl, iteT ?_⟩
    refine ⟨_, rfl, by show 0 ≤ sizeLine; exact Nat.zero_le _, fun q7 n_q7 => ?_⟩
    obtain ⟨s_q7, h_q7⟩ := put1 (o := .tup []) n_q7
    generalize L2.upd B6 q7 (.tup []) = B7 at s_q7 h_q7 ⊢
    have tab7 := tab6.mono s_q7
    refine ⟨b2, .ref q7, some [], ["cup"], [[]], rfl, tab7, by decide, by decide, ⟨q7, [], rfl, sqt h_q7, trivial, by decide⟩, fun B8 s_b8 => ?_⟩
    refine ⟨_, _, rfl, rfl, true, by rw [c1]; rfl, iteT ?_⟩
    have tab8 := tab7.mono s_b8
    refine ⟨_, rfl, by show 0 ≤ sizeLine; exact Nat.zero_le _, fun q9 n_q9 => ?_⟩
    obtain ⟨s_q9, h_q9⟩ := put1 (o := .tup []) n_q9
    generalize L2.upd B8 q9 (.tup []) = B9 at s_q9 h_q9 ⊢
    refine ⟨by show 2 ≤ sizeLine; decide, fun q10 n_q10 => ?_⟩
    obtain ⟨s_q10, h_q10⟩ := put1 (o := .tup [.int 9, .int 2]) n_q10
    generalize L2.upd B9 q10 (.tup [.int 9, .int 2]) = B10 at s_q10 h_q10 ⊢
    refine ⟨by show 1 ≤ sizeLine; decide, fun q11 n_q11 => ?_⟩
    obtain ⟨s_q11, h_q11⟩ := put1 (o := .tup [.ref q10]) n_q11
    generalize L2.upd B10 q11 (.tup [.ref q10]) = B11 at s_q11 h_q11 ⊢
    have tab11 := ((tab8.mono s_q9).mono s_q10).mono s_q11
    refine ⟨b2, q9, q11, _, ["cup"], [[]], [((9, 2) : Q2)], [], rfl, tab11, by decide, by decide, sqt (s_q11 _ _ (s_q10 _ _ h_q9)), by rw [c1]; rfl, by unfold RowOk; decide, sqt h_q11, ⟨⟨_, rfl, sqt (s_q11 _ _ h_q10)⟩, trivial⟩, rfl, es1, fun B12 u12 s_b12 hu12 => ?_⟩
    rw [c1, sum1] at hu12
    refine ⟨by show 2 ≤ sizeLine; decide, fun q13 n_q13 => ?_⟩
    obtain ⟨s_q13, h_q13⟩ := put1 (o := .tup [.int 0, .int 1]) n_q13
    generalize L2.upd B12 q13 (.tup [.int 0, .int 1]) = B13 at s_q13 h_q13 ⊢
    refine ⟨dQ (0, 1), dQ (0, 1), dpQ (seqT s_q13 hu12), dpQ (sqt h_q13), shQ _, shQ _, true, by rw [eqQ_self], iteT ?_⟩
    refine ⟨by show 0 ≤ sizeLine; exact Nat.zero_le _, fun q14 n_q14 => ?_⟩
    obtain ⟨s_q14, h_q14⟩ := put1 (o := .tup []) n_q14
    generalize L2.upd B13 q14 (.tup []) = B14 at s_q14 h_q14 ⊢
    refine ⟨q14, [], rfl, sqt h_q14, by decide, fun B15 s_b15 => ⟨_, _, rfl, rfl, ?_⟩⟩
    exact fin _
end
end K14
namespace VG
open PySem PySem.Spec PyProof.Rows L2
section
variable {P : Program} {w : World} {K : PySem.W.Frag} {mg : Str → Option Value} {base : Heap}
theorem kbinds_rev3 {x qual p1 p2 p3 : Str} {st : Stmt} {f : Addr} {fd : FuncData} (F : Fun K x qual st f fd)
    (h0 : ∀ (kV doc pm : Value) (an : Option Addr) (cdv ct u v w : Value), bindArgs (PySem.W.fnOf x qual (defArgs st) (defBody st) (defScope st) .none kV doc pm an cdv ct) ⟨[u, v, w], []⟩ = pure [(p1, u), (p2, v), (p3, w)])
    (h1 : ∀ (kV doc pm : Value) (an : Option Addr) (cdv ct u v w : Value), bindArgs (PySem.W.fnOf x qual (defArgs st) (defBody st) (defScope st) .none kV doc pm an cdv ct) ⟨[u, v], [(p3, w)]⟩ = pure [(p1, u), (p2, v), (p3, w)])
    (h2 : ∀ (kV doc pm : Value) (an : Option Addr) (cdv ct u v w : Value), bindArgs (PySem.W.fnOf x qual (defArgs st) (defBody st) (defScope st) .none kV doc pm an cdv ct) ⟨[u], [(p3, w), (p2, v)]⟩ = pure [(p1, u), (p2, v), (p3, w)])
    (h3 : ∀ (kV doc pm : Value) (an : Option Addr) (cdv ct u v w : Value), bindArgs (PySem.W.fnOf x qual (defArgs st) (defBody st) (defScope st) .none kV doc pm an cdv ct) ⟨[], [(p3, w), (p2, v), (p1, u)]⟩ = pure [(p1, u), (p2, v), (p3, w)]) :
    KBinds K fd [p1, p2, p3] [p3, p2, p1] (fun us ws => us ++ ws.reverse) (fun vs zs => vs ++ zs.reverse) := by
  obtain ⟨oc, od, kV, doc, pm, an, cdv, ct, osl, rfl, lk, hcd⟩ := F.ex
  constructor
  · intro s us ws _ hl
    match us, ws, hl with
    | [], [w, v, u], _ => exact .of_eq (h3 kV doc pm an cdv ct u v w)
    | [u], [w, v], _ => exact .of_eq (h2 kV doc pm an cdv ct u v w)
    | [u, v], [w], _ => exact .of_eq (h1 kV doc pm an cdv ct u v w)
    | [u, v, w], [], _ => exact .of_eq (h0 kV doc pm an cdv ct u v w)
    | [], [], hl => cases hl
    | [], [_], hl => cases hl
    | [], [_, _], hl => cases hl
    | [], _ :: _ :: _ :: _ :: _, hl => simp at hl
    | [_], [], hl => cases hl
    | [_], [_], hl => cases hl
    | [_], _ :: _ :: _ :: _, hl => simp at hl
    | [_, _], [], hl => cases hl
    | [_, _], _ :: _ :: _, hl => simp at hl
    | [_, _, _], _ :: _, hl => simp at hl
    | _ :: _ :: _ :: _ :: _, ws, hl => simp at hl
  · intro vs us zs ws r1 r2
    exact r1.append (vals_rev r2)
end
end VG
namespace K14
open PySem PySem.Spec PyProof.Rows L2 VG FR CK HD
abbrev i_InvalidTable : Stmt := inClass (topS 15) 0
theorem sc_initT : FnScope ["self", "at"] ["self", "at"] (defScope i_InvalidTable) := ⟨rfl, rfl, rfl, by decide +kernel, rfl, by decide +kernel, by decide +kernel⟩
abbrev i_InvalidNumber : Stmt := inClass (topS 16) 0
theorem sc_initN : FnScope ["self", "word"] ["self", "word"] (defScope i_InvalidNumber) := ⟨rfl, rfl, rfl, by decide +kernel, rfl, by decide +kernel, by decide +kernel⟩
section
variable {P : Program} {w : World} {K : PySem.W.Frag} {mg : Str → Option Value} {base : Heap}
theorem ok_initT {f C : Addr} {fd : FuncData} (F : Fun K "__init__" "InvalidTable.__init__" i_InvalidTable f fd) (o : OexC K C) (hw : PySem.W.findIn K (.ref C) "at" = some none) :
    FnOk P w K mg base CX0 1 f fd ["self", "at"] (spInitW K C "at") := by
  refine F.ok sc_initT (fun vs H Q E h => ?_) (fun cdv A outer s H vs Q E hr h => ?_)
  · obtain ⟨_, _, rfl, _⟩ := h
    rfl
  · obtain ⟨a, v, rfl, ha, fin⟩ := h
    refine ⟨_, pss_one (ps_ost (pv 0) (pv 1)), ?_⟩
    exact ⟨_, rfl, _, rfl, a, C, rfl, o, hw, .inl ⟨ha, fun dx n ne => fin dx n ne⟩⟩
theorem ok_initN {f C : Addr} {fd : FuncData} (F : Fun K "__init__" "InvalidNumber.__init__" i_InvalidNumber f fd) (o : OexC K C) (hw : PySem.W.findIn K (.ref C) "word" = some none) :
    FnOk P w K mg base CX0 1 f fd ["self", "word"] (spInitW K C "word") := by
  refine F.ok sc_initN (fun vs H Q E h => ?_) (fun cdv A outer s H vs Q E hr h => ?_)
  · obtain ⟨_, _, rfl, _⟩ := h
    rfl
  · obtain ⟨a, v, rfl, ha, fin⟩ := h
    refine ⟨_, pss_one (ps_ost (pv 0) (pv 1)), ?_⟩
    exact ⟨_, rfl, _, rfl, a, C, rfl, o, hw, .inl ⟨ha, fun dx n ne => fin dx n ne⟩⟩
end
end K14
namespace K14
open PySem PySem.Spec PyProof.Rows L2 VG FR CK HD
theorem all_mk {l : PySem.W.OpenLaw} {w : World} {K : PySem.W.Frag} {h : Heap} {mg : Str → Option Value} {fa : Addr} (X : K.In h) (G : h.Ns mainGlobals mg) (hfa : mg "law" = some (.ref fa))
    {f0 f1 f2 f3 f4 f5 f6 f7 f8 f9 f10 f11 f12 f13 f14 f15 f16 f17 f18 f19 f20 f21 f22 f23 f24 f25 f26 f27 f28 f29 f30 f31 f32 f33 f34 f35 f36 f37 f38 f39 f40 f41 f42 f43 f44 f45 f46 f47 f48 f49 f50 : Addr}
    {od0 an0 od1 an1 od2 an2 od3 an3 od4 an4 od5 an5 od6 an6 od7 an7 od8 an8 od9 an9 od10 an10 od11 an11 od12 an12 od13 an13 od14 an14 od15 an15 od16 an16 od17 an17 od18 an18 od19 an19 od20 an20 od21 an21 od22 an22 od23 an23 od24 an24 od25 an25 od26 an26 od27 an27 od28 an28 od29 an29 od30 an30 od31 an31 od32 an32 od33 an33 od34 an34 od35 an35 od36 an36 od37 an37 od38 an38 od39 an39 od40 an40 od41 an41 od42 an42 od43 an43 od44 an44 od45 an45 od46 an46 od47 an47 od48 an48 od49 an49 od50 an50 : Option Addr} {sl0 sl1 sl2 sl3 sl4 sl5 sl6 sl7 sl8 sl9 sl10 sl11 sl12 sl13 sl14 sl15 sl16 sl17 sl18 sl19 sl20 sl21 sl22 sl23 sl24 sl25 sl26 sl27 sl28 sl29 sl30 sl31 sl32 sl33 sl34 sl35 sl36 sl37 sl38 sl39 sl40 sl41 sl42 sl43 sl44 sl45 sl46 sl47 sl48 sl49 sl50 : Array (Option Value)}
    {oc0 kV0 dc0 pm0 cd0 ct0 oc1 kV1 dc1 pm1 cd1 ct1 oc2 kV2 dc2 pm2 cd2 ct2 oc3 kV3 dc3 pm3 cd3 ct3 oc4 kV4 dc4 pm4 cd4 ct4 oc5 kV5 dc5 pm5 cd5 ct5 oc6 kV6 dc6 pm6 cd6 ct6 oc7 kV7 dc7 pm7 cd7 ct7 oc8 kV8 dc8 pm8 cd8 ct8 oc9 kV9 dc9 pm9 cd9 ct9 oc10 kV10 dc10 pm10 cd10 ct10 oc11 kV11 dc11 pm11 cd11 ct11 oc12 kV12 dc12 pm12 cd12 ct12 oc13 kV13 dc13 pm13 cd13 ct13 oc14 kV14 dc14 pm14 cd14 ct14 oc15 kV15 dc15 pm15 cd15 ct15 oc16 kV16 dc16 pm16 cd16 ct16 oc17 kV17 dc17 pm17 cd17 ct17 oc18 kV18 dc18 pm18 cd18 ct18 oc19 kV19 dc19 pm19 cd19 ct19 oc20 kV20 dc20 pm20 cd20 ct20 oc21 kV21 dc21 pm21 cd21 ct21 oc22 kV22 dc22 pm22 cd22 ct22 oc23 kV23 dc23 pm23 cd23 ct23 oc24 kV24 dc24 pm24 cd24 ct24 oc25 kV25 dc25 pm25 cd25 ct25 oc26 kV26 dc26 pm26 cd26 ct26 oc27 kV27 dc27 pm27 cd27 ct27 oc28 kV28 dc28 pm28 cd28 ct28 oc29 kV29 dc29 pm29 cd29 ct29 oc30 kV30 dc30 pm30 cd30 ct30 oc31 kV31 dc31 pm31 cd31 ct31 oc32 kV32 dc32 pm32 cd32 ct32 oc33 kV33 dc33 pm33 cd33 ct33 oc34 kV34 dc34 pm34 cd34 ct34 oc35 kV35 dc35 pm35 cd35 ct35 oc36 kV36 dc36 pm36 cd36 ct36 oc37 kV37 dc37 pm37 cd37 ct37 oc38 kV38 dc38 pm38 cd38 ct38 oc39 kV39 dc39 pm39 cd39 ct39 oc40 kV40 dc40 pm40 cd40 ct40 oc41 kV41 dc41 pm41 cd41 ct41 oc42 kV42 dc42 pm42 cd42 ct42 oc43 kV43 dc43 pm43 cd43 ct43 oc44 kV44 dc44 pm44 cd44 ct44 oc45 kV45 dc45 pm45 cd45 ct45 oc46 kV46 dc46 pm46 cd46 ct46 oc47 kV47 dc47 pm47 cd47 ct47 oc48 kV48 dc48 pm48 cd48 ct48 oc49 kV49 dc49 pm49 cd49 ct49 oc50 kV50 dc50 pm50 cd50 ct50 : Value}
    (a0 : PySem.W.nsIn K mainGlobals "is_an_integer" = some (some (.ref f0)))
    (l0 : K.lookup f0 = some ⟨oc0, od0, .func (PySem.W.fnOf "is_an_integer" "is_an_integer" (defArgs s_is_an_integer) (defBody s_is_an_integer) (defScope s_is_an_integer) .none kV0 dc0 pm0 an0 cd0 ct0), sl0⟩)
    (c0 : PySem.W.codeIn K cd0 "is_an_integer" = true) (k0 : PySem.W.keepIn K (.ref f0) = true)
    (a1 : PySem.W.nsIn K mainGlobals "is_number" = some (some (.ref f1)))
    (l1 : K.lookup f1 = some ⟨oc1, od1, .func (PySem.W.fnOf "is_number" "is_number" (defArgs s_is_number) (defBody s_is_number) (defScope s_is_number) .none kV1 dc1 pm1 an1 cd1 ct1), sl1⟩)
    (c1 : PySem.W.codeIn K cd1 "is_number" = true) (k1 : PySem.W.keepIn K (.ref f1) = true)
    (a2 : PySem.W.nsIn K mainGlobals "is_number_below" = some (some (.ref f2)))
    (l2 : K.lookup f2 = some ⟨oc2, od2, .func (PySem.W.fnOf "is_number_below" "is_number_below" (defArgs s_is_number_below) (defBody s_is_number_below) (defScope s_is_number_below) .none kV2 dc2 pm2 an2 cd2 ct2), sl2⟩)
    (c2 : PySem.W.codeIn K cd2 "is_number_below" = true) (k2 : PySem.W.keepIn K (.ref f2) = true)
    (a3 : PySem.W.nsIn K mainGlobals "is_name" = some (some (.ref f3)))
    (l3 : K.lookup f3 = some ⟨oc3, od3, .func (PySem.W.fnOf "is_name" "is_name" (defArgs s_is_name) (defBody s_is_name) (defScope s_is_name) .none kV3 dc3 pm3 an3 cd3 ct3), sl3⟩)
    (c3 : PySem.W.codeIn K cd3 "is_name" = true) (k3 : PySem.W.keepIn K (.ref f3) = true)
    (a4 : PySem.W.nsIn K mainGlobals "is_tuple_of" = some (some (.ref f4)))
    (l4 : K.lookup f4 = some ⟨oc4, od4, .func (PySem.W.fnOf "is_tuple_of" "is_tuple_of" (defArgs s_is_tuple_of) (defBody s_is_tuple_of) (defScope s_is_tuple_of) .none kV4 dc4 pm4 an4 cd4 ct4), sl4⟩)
    (c4 : PySem.W.codeIn K cd4 "is_tuple_of" = true) (k4 : PySem.W.keepIn K (.ref f4) = true)
    (a5 : PySem.W.nsIn K mainGlobals "are_names" = some (some (.ref f5)))
    (l5 : K.lookup f5 = some ⟨oc5, od5, .func (PySem.W.fnOf "are_names" "are_names" (defArgs s_are_names) (defBody s_are_names) (defScope s_are_names) .none kV5 dc5 pm5 an5 cd5 ct5), sl5⟩)
    (c5 : PySem.W.codeIn K cd5 "are_names" = true) (k5 : PySem.W.keepIn K (.ref f5) = true)
    (a6 : PySem.W.nsIn K mainGlobals "are_numbers_below" = some (some (.ref f6)))
    (l6 : K.lookup f6 = some ⟨oc6, od6, .func (PySem.W.fnOf "are_numbers_below" "are_numbers_below" (defArgs s_are_numbers_below) (defBody s_are_numbers_below) (defScope s_are_numbers_below) .none kV6 dc6 pm6 an6 cd6 ct6), sl6⟩)
    (c6 : PySem.W.codeIn K cd6 "are_numbers_below" = true) (k6 : PySem.W.keepIn K (.ref f6) = true)
    (a7 : PySem.W.nsIn K mainGlobals "is_ascending" = some (some (.ref f7)))
    (l7 : K.lookup f7 = some ⟨oc7, od7, .func (PySem.W.fnOf "is_ascending" "is_ascending" (defArgs s_is_ascending) (defBody s_is_ascending) (defScope s_is_ascending) .none kV7 dc7 pm7 an7 cd7 ct7), sl7⟩)
    (c7 : PySem.W.codeIn K cd7 "is_ascending" = true) (k7 : PySem.W.keepIn K (.ref f7) = true)
    (a8 : PySem.W.nsIn K mainGlobals "is_lot_below" = some (some (.ref f8)))
    (l8 : K.lookup f8 = some ⟨oc8, od8, .func (PySem.W.fnOf "is_lot_below" "is_lot_below" (defArgs s_is_lot_below) (defBody s_is_lot_below) (defScope s_is_lot_below) .none kV8 dc8 pm8 an8 cd8 ct8), sl8⟩)
    (c8 : PySem.W.codeIn K cd8 "is_lot_below" = true) (k8 : PySem.W.keepIn K (.ref f8) = true)
    (a9 : PySem.W.nsIn K mainGlobals "fraction_of" = some (some (.ref f9)))
    (l9 : K.lookup f9 = some ⟨oc9, od9, .func (PySem.W.fnOf "fraction_of" "fraction_of" (defArgs s_fraction_of) (defBody s_fraction_of) (defScope s_fraction_of) .none kV9 dc9 pm9 an9 cd9 ct9), sl9⟩)
    (c9 : PySem.W.codeIn K cd9 "fraction_of" = true) (k9 : PySem.W.keepIn K (.ref f9) = true)
    (a10 : PySem.W.nsIn K mainGlobals "added" = some (some (.ref f10)))
    (l10 : K.lookup f10 = some ⟨oc10, od10, .func (PySem.W.fnOf "added" "added" (defArgs s_added) (defBody s_added) (defScope s_added) .none kV10 dc10 pm10 an10 cd10 ct10), sl10⟩)
    (c10 : PySem.W.codeIn K cd10 "added" = true) (k10 : PySem.W.keepIn K (.ref f10) = true)
    (a11 : PySem.W.nsIn K mainGlobals "timed" = some (some (.ref f11)))
    (l11 : K.lookup f11 = some ⟨oc11, od11, .func (PySem.W.fnOf "timed" "timed" (defArgs s_timed) (defBody s_timed) (defScope s_timed) .none kV11 dc11 pm11 an11 cd11 ct11), sl11⟩)
    (c11 : PySem.W.codeIn K cd11 "timed" = true) (k11 : PySem.W.keepIn K (.ref f11) = true)
    (a12 : PySem.W.nsIn K mainGlobals "sum_of" = some (some (.ref f12)))
    (l12 : K.lookup f12 = some ⟨oc12, od12, .func (PySem.W.fnOf "sum_of" "sum_of" (defArgs s_sum_of) (defBody s_sum_of) (defScope s_sum_of) .none kV12 dc12 pm12 an12 cd12 ct12), sl12⟩)
    (c12 : PySem.W.codeIn K cd12 "sum_of" = true) (k12 : PySem.W.keepIn K (.ref f12) = true)
    (a13 : PySem.W.nsIn K mainGlobals "is_small_sum" = some (some (.ref f13)))
    (l13 : K.lookup f13 = some ⟨oc13, od13, .func (PySem.W.fnOf "is_small_sum" "is_small_sum" (defArgs s_is_small_sum) (defBody s_is_small_sum) (defScope s_is_small_sum) .none kV13 dc13 pm13 an13 cd13 ct13), sl13⟩)
    (c13 : PySem.W.codeIn K cd13 "is_small_sum" = true) (k13 : PySem.W.keepIn K (.ref f13) = true)
    (a14 : PySem.W.nsIn K mainGlobals "weighed" = some (some (.ref f14)))
    (l14 : K.lookup f14 = some ⟨oc14, od14, .func (PySem.W.fnOf "weighed" "weighed" (defArgs s_weighed) (defBody s_weighed) (defScope s_weighed) .none kV14 dc14 pm14 an14 cd14 ct14), sl14⟩)
    (c14 : PySem.W.codeIn K cd14 "weighed" = true) (k14 : PySem.W.keepIn K (.ref f14) = true)
    (a15 : PySem.W.nsIn K mainGlobals "check_kinds" = some (some (.ref f15)))
    (l15 : K.lookup f15 = some ⟨oc15, od15, .func (PySem.W.fnOf "check_kinds" "check_kinds" (defArgs s_check_kinds) (defBody s_check_kinds) (defScope s_check_kinds) .none kV15 dc15 pm15 an15 cd15 ct15), sl15⟩)
    (c15 : PySem.W.codeIn K cd15 "check_kinds" = true) (k15 : PySem.W.keepIn K (.ref f15) = true)
    (a16 : PySem.W.nsIn K mainGlobals "check_totals" = some (some (.ref f16)))
    (l16 : K.lookup f16 = some ⟨oc16, od16, .func (PySem.W.fnOf "check_totals" "check_totals" (defArgs s_check_totals) (defBody s_check_totals) (defScope s_check_totals) .none kV16 dc16 pm16 an16 cd16 ct16), sl16⟩)
    (c16 : PySem.W.codeIn K cd16 "check_totals" = true) (k16 : PySem.W.keepIn K (.ref f16) = true)
    (a17 : PySem.W.nsIn K mainGlobals "totals_with" = some (some (.ref f17)))
    (l17 : K.lookup f17 = some ⟨oc17, od17, .func (PySem.W.fnOf "totals_with" "totals_with" (defArgs s_totals_with) (defBody s_totals_with) (defScope s_totals_with) .none kV17 dc17 pm17 an17 cd17 ct17), sl17⟩)
    (c17 : PySem.W.codeIn K cd17 "totals_with" = true) (k17 : PySem.W.keepIn K (.ref f17) = true)
    (a18 : PySem.W.nsIn K mainGlobals "classes_of" = some (some (.ref f18)))
    (l18 : K.lookup f18 = some ⟨oc18, od18, .func (PySem.W.fnOf "classes_of" "classes_of" (defArgs s_classes_of) (defBody s_classes_of) (defScope s_classes_of) .none kV18 dc18 pm18 an18 cd18 ct18), sl18⟩)
    (c18 : PySem.W.codeIn K cd18 "classes_of" = true) (k18 : PySem.W.keepIn K (.ref f18) = true)
    (a19 : PySem.W.nsIn K mainGlobals "class_numbers" = some (some (.ref f19)))
    (l19 : K.lookup f19 = some ⟨oc19, od19, .func (PySem.W.fnOf "class_numbers" "class_numbers" (defArgs s_class_numbers) (defBody s_class_numbers) (defScope s_class_numbers) .none kV19 dc19 pm19 an19 cd19 ct19), sl19⟩)
    (c19 : PySem.W.codeIn K cd19 "class_numbers" = true) (k19 : PySem.W.keepIn K (.ref f19) = true)
    (a20 : PySem.W.nsIn K mainGlobals "totals_by_classes" = some (some (.ref f20)))
    (l20 : K.lookup f20 = some ⟨oc20, od20, .func (PySem.W.fnOf "totals_by_classes" "totals_by_classes" (defArgs s_totals_by_classes) (defBody s_totals_by_classes) (defScope s_totals_by_classes) .none kV20 dc20 pm20 an20 cd20 ct20), sl20⟩)
    (c20 : PySem.W.codeIn K cd20 "totals_by_classes" = true) (k20 : PySem.W.keepIn K (.ref f20) = true)
    (a21 : PySem.W.nsIn K mainGlobals "is_reckoning" = some (some (.ref f21)))
    (l21 : K.lookup f21 = some ⟨oc21, od21, .func (PySem.W.fnOf "is_reckoning" "is_reckoning" (defArgs s_is_reckoning) (defBody s_is_reckoning) (defScope s_is_reckoning) .none kV21 dc21 pm21 an21 cd21 ct21), sl21⟩)
    (c21 : PySem.W.codeIn K cd21 "is_reckoning" = true) (k21 : PySem.W.keepIn K (.ref f21) = true)
    (a22 : PySem.W.nsIn K mainGlobals "total_reckonings" = some (some (.ref f22)))
    (l22 : K.lookup f22 = some ⟨oc22, od22, .func (PySem.W.fnOf "total_reckonings" "total_reckonings" (defArgs s_total_reckonings) (defBody s_total_reckonings) (defScope s_total_reckonings) .none kV22 dc22 pm22 an22 cd22 ct22), sl22⟩)
    (c22 : PySem.W.codeIn K cd22 "total_reckonings" = true) (k22 : PySem.W.keepIn K (.ref f22) = true)
    (a23 : PySem.W.nsIn K mainGlobals "total_reckoning" = some (some (.ref f23)))
    (l23 : K.lookup f23 = some ⟨oc23, od23, .func (PySem.W.fnOf "total_reckoning" "total_reckoning" (defArgs s_total_reckoning) (defBody s_total_reckoning) (defScope s_total_reckoning) .none kV23 dc23 pm23 an23 cd23 ct23), sl23⟩)
    (c23 : PySem.W.codeIn K cd23 "total_reckoning" = true) (k23 : PySem.W.keepIn K (.ref f23) = true)
    (a24 : PySem.W.nsIn K mainGlobals "is_beyond" = some (some (.ref f24)))
    (l24 : K.lookup f24 = some ⟨oc24, od24, .func (PySem.W.fnOf "is_beyond" "is_beyond" (defArgs s_is_beyond) (defBody s_is_beyond) (defScope s_is_beyond) .none kV24 dc24 pm24 an24 cd24 ct24), sl24⟩)
    (c24 : PySem.W.codeIn K cd24 "is_beyond" = true) (k24 : PySem.W.keepIn K (.ref f24) = true)
    (a25 : PySem.W.nsIn K mainGlobals "agreements" = some (some (.ref f25)))
    (l25 : K.lookup f25 = some ⟨oc25, od25, .func (PySem.W.fnOf "agreements" "agreements" (defArgs s_agreements) (defBody s_agreements) (defScope s_agreements) .none kV25 dc25 pm25 an25 cd25 ct25), sl25⟩)
    (c25 : PySem.W.codeIn K cd25 "agreements" = true) (k25 : PySem.W.keepIn K (.ref f25) = true)
    (a26 : PySem.W.nsIn K mainGlobals "clashes" = some (some (.ref f26)))
    (l26 : K.lookup f26 = some ⟨oc26, od26, .func (PySem.W.fnOf "clashes" "clashes" (defArgs s_clashes) (defBody s_clashes) (defScope s_clashes) .none kV26 dc26 pm26 an26 cd26 ct26), sl26⟩)
    (c26 : PySem.W.codeIn K cd26 "clashes" = true) (k26 : PySem.W.keepIn K (.ref f26) = true)
    (a27 : PySem.W.nsIn K mainGlobals "difference_of" = some (some (.ref f27)))
    (l27 : K.lookup f27 = some ⟨oc27, od27, .func (PySem.W.fnOf "difference_of" "difference_of" (defArgs s_difference_of) (defBody s_difference_of) (defScope s_difference_of) .none kV27 dc27 pm27 an27 cd27 ct27), sl27⟩)
    (c27 : PySem.W.codeIn K cd27 "difference_of" = true) (k27 : PySem.W.keepIn K (.ref f27) = true)
    (a28 : PySem.W.nsIn K mainGlobals "class_errors" = some (some (.ref f28)))
    (l28 : K.lookup f28 = some ⟨oc28, od28, .func (PySem.W.fnOf "class_errors" "class_errors" (defArgs s_class_errors) (defBody s_class_errors) (defScope s_class_errors) .none kV28 dc28 pm28 an28 cd28 ct28), sl28⟩)
    (c28 : PySem.W.codeIn K cd28 "class_errors" = true) (k28 : PySem.W.keepIn K (.ref f28) = true)
    (a29 : PySem.W.nsIn K mainGlobals "reckoned" = some (some (.ref f29)))
    (l29 : K.lookup f29 = some ⟨oc29, od29, .func (PySem.W.fnOf "reckoned" "reckoned" (defArgs s_reckoned) (defBody s_reckoned) (defScope s_reckoned) .none kV29 dc29 pm29 an29 cd29 ct29), sl29⟩)
    (c29 : PySem.W.codeIn K cd29 "reckoned" = true) (k29 : PySem.W.keepIn K (.ref f29) = true)
    (a30 : PySem.W.nsIn K mainGlobals "is_off" = some (some (.ref f30)))
    (l30 : K.lookup f30 = some ⟨oc30, od30, .func (PySem.W.fnOf "is_off" "is_off" (defArgs s_is_off) (defBody s_is_off) (defScope s_is_off) .none kV30 dc30 pm30 an30 cd30 ct30), sl30⟩)
    (c30 : PySem.W.codeIn K cd30 "is_off" = true) (k30 : PySem.W.keepIn K (.ref f30) = true)
    (a31 : PySem.W.nsIn K mainGlobals "is_off_by" = some (some (.ref f31)))
    (l31 : K.lookup f31 = some ⟨oc31, od31, .func (PySem.W.fnOf "is_off_by" "is_off_by" (defArgs s_is_off_by) (defBody s_is_off_by) (defScope s_is_off_by) .none kV31 dc31 pm31 an31 cd31 ct31), sl31⟩)
    (c31 : PySem.W.codeIn K cd31 "is_off_by" = true) (k31 : PySem.W.keepIn K (.ref f31) = true)
    (a32 : PySem.W.nsIn K mainGlobals "_law_heap" = some (some (.ref f32)))
    (l32 : K.lookup f32 = some ⟨oc32, od32, .func (PySem.W.fnOf "_law_heap" "_law_heap" (defArgs s__law_heap) (defBody s__law_heap) (defScope s__law_heap) .none kV32 dc32 pm32 an32 cd32 ct32), sl32⟩)
    (c32 : PySem.W.codeIn K cd32 "_law_heap" = true) (k32 : PySem.W.keepIn K (.ref f32) = true)
    (a33 : PySem.W.nsIn K mainGlobals "_law_draw" = some (some (.ref f33)))
    (l33 : K.lookup f33 = some ⟨oc33, od33, .func (PySem.W.fnOf "_law_draw" "_law_draw" (defArgs s__law_draw) (defBody s__law_draw) (defScope s__law_draw) .none kV33 dc33 pm33 an33 cd33 ct33), sl33⟩)
    (c33 : PySem.W.codeIn K cd33 "_law_draw" = true) (k33 : PySem.W.keepIn K (.ref f33) = true)
    (a34 : PySem.W.nsIn K mainGlobals "_law_pick" = some (some (.ref f34)))
    (l34 : K.lookup f34 = some ⟨oc34, od34, .func (PySem.W.fnOf "_law_pick" "_law_pick" (defArgs s__law_pick) (defBody s__law_pick) (defScope s__law_pick) .none kV34 dc34 pm34 an34 cd34 ct34), sl34⟩)
    (c34 : PySem.W.codeIn K cd34 "_law_pick" = true) (k34 : PySem.W.keepIn K (.ref f34) = true)
    (a35 : PySem.W.nsIn K mainGlobals "_law_shuffled" = some (some (.ref f35)))
    (l35 : K.lookup f35 = some ⟨oc35, od35, .func (PySem.W.fnOf "_law_shuffled" "_law_shuffled" (defArgs s__law_shuffled) (defBody s__law_shuffled) (defScope s__law_shuffled) .none kV35 dc35 pm35 an35 cd35 ct35), sl35⟩)
    (c35 : PySem.W.codeIn K cd35 "_law_shuffled" = true) (k35 : PySem.W.keepIn K (.ref f35) = true)
    (a36 : PySem.W.nsIn K mainGlobals "_law_names" = some (some (.ref f36)))
    (l36 : K.lookup f36 = some ⟨oc36, od36, .func (PySem.W.fnOf "_law_names" "_law_names" (defArgs s__law_names) (defBody s__law_names) (defScope s__law_names) .none kV36 dc36 pm36 an36 cd36 ct36), sl36⟩)
    (c36 : PySem.W.codeIn K cd36 "_law_names" = true) (k36 : PySem.W.keepIn K (.ref f36) = true)
    (a37 : PySem.W.nsIn K mainGlobals "_law_blocks" = some (some (.ref f37)))
    (l37 : K.lookup f37 = some ⟨oc37, od37, .func (PySem.W.fnOf "_law_blocks" "_law_blocks" (defArgs s__law_blocks) (defBody s__law_blocks) (defScope s__law_blocks) .none kV37 dc37 pm37 an37 cd37 ct37), sl37⟩)
    (c37 : PySem.W.codeIn K cd37 "_law_blocks" = true) (k37 : PySem.W.keepIn K (.ref f37) = true)
    (a38 : PySem.W.nsIn K mainGlobals "_law_tied" = some (some (.ref f38)))
    (l38 : K.lookup f38 = some ⟨oc38, od38, .func (PySem.W.fnOf "_law_tied" "_law_tied" (defArgs s__law_tied) (defBody s__law_tied) (defScope s__law_tied) .none kV38 dc38 pm38 an38 cd38 ct38), sl38⟩)
    (c38 : PySem.W.codeIn K cd38 "_law_tied" = true) (k38 : PySem.W.keepIn K (.ref f38) = true)
    (a39 : PySem.W.nsIn K mainGlobals "_law_totals" = some (some (.ref f39)))
    (l39 : K.lookup f39 = some ⟨oc39, od39, .func (PySem.W.fnOf "_law_totals" "_law_totals" (defArgs s__law_totals) (defBody s__law_totals) (defScope s__law_totals) .none kV39 dc39 pm39 an39 cd39 ct39), sl39⟩)
    (c39 : PySem.W.codeIn K cd39 "_law_totals" = true) (k39 : PySem.W.keepIn K (.ref f39) = true)
    (a40 : PySem.W.nsIn K mainGlobals "_law_classes" = some (some (.ref f40)))
    (l40 : K.lookup f40 = some ⟨oc40, od40, .func (PySem.W.fnOf "_law_classes" "_law_classes" (defArgs s__law_classes) (defBody s__law_classes) (defScope s__law_classes) .none kV40 dc40 pm40 an40 cd40 ct40), sl40⟩)
    (c40 : PySem.W.codeIn K cd40 "_law_classes" = true) (k40 : PySem.W.keepIn K (.ref f40) = true)
    (a41 : PySem.W.nsIn K mainGlobals "_law_vector" = some (some (.ref f41)))
    (l41 : K.lookup f41 = some ⟨oc41, od41, .func (PySem.W.fnOf "_law_vector" "_law_vector" (defArgs s__law_vector) (defBody s__law_vector) (defScope s__law_vector) .none kV41 dc41 pm41 an41 cd41 ct41), sl41⟩)
    (c41 : PySem.W.codeIn K cd41 "_law_vector" = true) (k41 : PySem.W.keepIn K (.ref f41) = true)
    (a42 : PySem.W.nsIn K mainGlobals "_law_reduced" = some (some (.ref f42)))
    (l42 : K.lookup f42 = some ⟨oc42, od42, .func (PySem.W.fnOf "_law_reduced" "_law_reduced" (defArgs s__law_reduced) (defBody s__law_reduced) (defScope s__law_reduced) .none kV42 dc42 pm42 an42 cd42 ct42), sl42⟩)
    (c42 : PySem.W.codeIn K cd42 "_law_reduced" = true) (k42 : PySem.W.keepIn K (.ref f42) = true)
    (a43 : PySem.W.nsIn K mainGlobals "_law_sum" = some (some (.ref f43)))
    (l43 : K.lookup f43 = some ⟨oc43, od43, .func (PySem.W.fnOf "_law_sum" "_law_sum" (defArgs s__law_sum) (defBody s__law_sum) (defScope s__law_sum) .none kV43 dc43 pm43 an43 cd43 ct43), sl43⟩)
    (c43 : PySem.W.codeIn K cd43 "_law_sum" = true) (k43 : PySem.W.keepIn K (.ref f43) = true)
    (a44 : PySem.W.nsIn K mainGlobals "_law_fraction" = some (some (.ref f44)))
    (l44 : K.lookup f44 = some ⟨oc44, od44, .func (PySem.W.fnOf "_law_fraction" "_law_fraction" (defArgs s__law_fraction) (defBody s__law_fraction) (defScope s__law_fraction) .none kV44 dc44 pm44 an44 cd44 ct44), sl44⟩)
    (c44 : PySem.W.codeIn K cd44 "_law_fraction" = true) (k44 : PySem.W.keepIn K (.ref f44) = true)
    (a45 : PySem.W.nsIn K mainGlobals "_law_row" = some (some (.ref f45)))
    (l45 : K.lookup f45 = some ⟨oc45, od45, .func (PySem.W.fnOf "_law_row" "_law_row" (defArgs s__law_row) (defBody s__law_row) (defScope s__law_row) .none kV45 dc45 pm45 an45 cd45 ct45), sl45⟩)
    (c45 : PySem.W.codeIn K cd45 "_law_row" = true) (k45 : PySem.W.keepIn K (.ref f45) = true)
    (a46 : PySem.W.nsIn K mainGlobals "_law_two_right" = some (some (.ref f46)))
    (l46 : K.lookup f46 = some ⟨oc46, od46, .func (PySem.W.fnOf "_law_two_right" "_law_two_right" (defArgs s__law_two_right) (defBody s__law_two_right) (defScope s__law_two_right) .none kV46 dc46 pm46 an46 cd46 ct46), sl46⟩)
    (c46 : PySem.W.codeIn K cd46 "_law_two_right" = true) (k46 : PySem.W.keepIn K (.ref f46) = true)
    (a47 : PySem.W.nsIn K mainGlobals "_law_reckoned_right" = some (some (.ref f47)))
    (l47 : K.lookup f47 = some ⟨oc47, od47, .func (PySem.W.fnOf "_law_reckoned_right" "_law_reckoned_right" (defArgs s__law_reckoned_right) (defBody s__law_reckoned_right) (defScope s__law_reckoned_right) .none kV47 dc47 pm47 an47 cd47 ct47), sl47⟩)
    (c47 : PySem.W.codeIn K cd47 "_law_reckoned_right" = true) (k47 : PySem.W.keepIn K (.ref f47) = true)
    (a48 : PySem.W.nsIn K mainGlobals "_law_values_right" = some (some (.ref f48)))
    (l48 : K.lookup f48 = some ⟨oc48, od48, .func (PySem.W.fnOf "_law_values_right" "_law_values_right" (defArgs s__law_values_right) (defBody s__law_values_right) (defScope s__law_values_right) .none kV48 dc48 pm48 an48 cd48 ct48), sl48⟩)
    (c48 : PySem.W.codeIn K cd48 "_law_values_right" = true) (k48 : PySem.W.keepIn K (.ref f48) = true)
    (a49 : PySem.W.nsIn K mainGlobals "_law_table_right" = some (some (.ref f49)))
    (l49 : K.lookup f49 = some ⟨oc49, od49, .func (PySem.W.fnOf "_law_table_right" "_law_table_right" (defArgs s__law_table_right) (defBody s__law_table_right) (defScope s__law_table_right) .none kV49 dc49 pm49 an49 cd49 ct49), sl49⟩)
    (c49 : PySem.W.codeIn K cd49 "_law_table_right" = true) (k49 : PySem.W.keepIn K (.ref f49) = true)
    (a50 : PySem.W.nsIn K mainGlobals "law" = some (some (.ref f50)))
    (l50 : K.lookup f50 = some ⟨oc50, od50, .func (PySem.W.fnOf "law" "law" (defArgs s_law) (defBody s_law) (defScope s_law) .none kV50 dc50 pm50 an50 cd50 ct50), sl50⟩)
    (c50 : PySem.W.codeIn K cd50 "law" = true) (k50 : PySem.W.keepIn K (.ref f50) = true)
    {Ct CA EA fIA : Addr} {nmA qA : Str} {bsA : List Value} {snA : List Str} {subA : List Value} {abA : Bool} {colA : Option Bool} {ddA : Option Addr} {m0A m1A m2A m3A m5A : Option Value}
    {odIA anIA : Option Addr} {slIA : Array (Option Value)} {ocIA kVIA dcIA pmIA cdIA ctIA : Value}
    (aCA : PySem.W.nsIn K mainGlobals "InvalidTable" = some (some (.ref CA)))
    (xLA : K.lookup CA = some (excClassObj nmA qA CA EA bsA [.ref Ct, .type "ValueError", .type "Exception", .type "BaseException", .type "object"] true snA subA abA colA ddA m0A m1A m2A m3A m5A "ValueError.__new__"))
    (saA : PySem.W.findIn K (.ref CA) "__setattr__" = some (some (.builtin "object.__setattr__"))) (nwA : PySem.W.findIn K (.ref CA) "at" = some none)
    (iIA : PySem.W.findIn K (.ref CA) "__init__" = some (some (.ref fIA))) (tIA : PySem.W.typeIn K (.ref fIA) = some (.type "function"))
    (lIA : K.lookup fIA = some ⟨ocIA, odIA, .func (PySem.W.fnOf "__init__" "InvalidTable.__init__" (defArgs i_InvalidTable) (defBody i_InvalidTable) (defScope i_InvalidTable) .none kVIA dcIA pmIA anIA cdIA ctIA), slIA⟩) (cIA : PySem.W.codeIn K cdIA "InvalidTable.__init__" = true) (kIA : PySem.W.keepIn K (.ref fIA) = true)
    (kCA : PySem.W.keepIn K (.ref CA) = true) (eCA : PySem.W.subIn K (.ref CA) (.type "BaseException") = some true) (tCA : PySem.W.typeIn K (.ref CA) = some (.type "type"))
    {CN EN fIN : Addr} {nmN qN : Str} {bsN : List Value} {snN : List Str} {subN : List Value} {abN : Bool} {colN : Option Bool} {ddN : Option Addr} {m0N m1N m2N m3N m5N : Option Value}
    {odIN anIN : Option Addr} {slIN : Array (Option Value)} {ocIN kVIN dcIN pmIN cdIN ctIN : Value}
    (aCN : PySem.W.nsIn K mainGlobals "InvalidNumber" = some (some (.ref CN)))
    (xLN : K.lookup CN = some (excClassObj nmN qN CN EN bsN [.ref Ct, .type "ValueError", .type "Exception", .type "BaseException", .type "object"] true snN subN abN colN ddN m0N m1N m2N m3N m5N "ValueError.__new__"))
    (saN : PySem.W.findIn K (.ref CN) "__setattr__" = some (some (.builtin "object.__setattr__"))) (nwN : PySem.W.findIn K (.ref CN) "word" = some none)
    (iIN : PySem.W.findIn K (.ref CN) "__init__" = some (some (.ref fIN))) (tIN : PySem.W.typeIn K (.ref fIN) = some (.type "function"))
    (lIN : K.lookup fIN = some ⟨ocIN, odIN, .func (PySem.W.fnOf "__init__" "InvalidNumber.__init__" (defArgs i_InvalidNumber) (defBody i_InvalidNumber) (defScope i_InvalidNumber) .none kVIN dcIN pmIN anIN cdIN ctIN), slIN⟩) (cIN : PySem.W.codeIn K cdIN "InvalidNumber.__init__" = true) (kIN : PySem.W.keepIn K (.ref fIN) = true)
    (kCN : PySem.W.keepIn K (.ref CN) = true) (eCN : PySem.W.subIn K (.ref CN) (.type "BaseException") = some true) (tCN : PySem.W.typeIn K (.ref CN) = some (.type "type"))
    {CT fT zz : Addr} {odT anT : Option Addr} {slT : Array (Option Value)} {ocT kVT dcT pmT cdT ctT : Value} {zd : Option Addr} {zt1 zt2 tk1 tk2 tk3 tkL : Tok} {zn : Nat} {zsl : Array (Option Value)}
    (aT : PySem.W.nsIn K mainGlobals "Table" = some (some (.ref CT)))
    (iT : PySem.W.findIn K (.ref CT) "__init__" = some (some (.ref fT))) (jT : PySem.W.isFn K (.ref fT) = true)
    (lT : K.lookup fT = some ⟨ocT, odT, .func (PySem.W.fnOf "__init__" "Table.__init__" (defArgs i_Table) (defBody i_Table) (defScope i_Table) .none kVT dcT pmT anT cdT ctT), slT⟩) (cT : PySem.W.codeIn K cdT "Table.__init__" = true) (kT : PySem.W.keepIn K (.ref fT) = true)
    (pgT : PySem.W.plainGet K CT Str.empty = true) (hdT : PySem.W.hasDictIn K CT = true) (poT : PySem.W.plainOver K CT = true) (saT : PySem.W.findIn K (.ref CT) "__setattr__" = some (some (.builtin "object.__setattr__"))) (mkT : PySem.W.makesIn K CT = true) (kcT : PySem.W.keepIn K (.ref CT) = true)
    (nkT : PySem.W.findIn K (.ref CT) "kinds" = some none) (ntT : PySem.W.findIn K (.ref CT) "totals" = some none)
    (mL : PySem.W.nsIn K mainGlobals "LETTERS" = some (some (.str cLETTERS tkL))) (m1 : PySem.W.nsIn K mainGlobals "LONGEST_NAME" = some (some (.int 6 tk1)))
    (m2 : PySem.W.nsIn K mainGlobals "MOST_KINDS" = some (some (.int 12 tk2))) (m3 : PySem.W.nsIn K mainGlobals "MOST_TOTALS" = some (some (.int 12 tk3)))
    (aZ : PySem.W.nsIn K mainGlobals "ZERO" = some (some (.ref zz))) (zL : K.lookup zz = some ⟨.type "tuple", zd, .seq #[.int 0 zt1, .int 1 zt2] zn, zsl⟩)
    (aG : PySem.W.nsIn K mainGlobals "gcd" = some (some (.builtin "math.gcd")))
    (z_isinstance : PySem.W.nsIn K mainGlobals "isinstance" = some none)
    (z_int : PySem.W.nsIn K mainGlobals "int" = some none)
    (z_bool : PySem.W.nsIn K mainGlobals "bool" = some none)
    (z_str : PySem.W.nsIn K mainGlobals "str" = some none)
    (z_tuple : PySem.W.nsIn K mainGlobals "tuple" = some none)
    (z_list : PySem.W.nsIn K mainGlobals "list" = some none)
    (z_len : PySem.W.nsIn K mainGlobals "len" = some none)
    (z_abs : PySem.W.nsIn K mainGlobals "abs" = some none)
    (z_range : PySem.W.nsIn K mainGlobals "range" = some none)
    (z_zip : PySem.W.nsIn K mainGlobals "zip" = some none)
    (z_all : PySem.W.nsIn K mainGlobals "all" = some none)
    (z_any : PySem.W.nsIn K mainGlobals "any" = some none)
    (z_repr : PySem.W.nsIn K mainGlobals "repr" = some none)
    (z_enumerate : PySem.W.nsIn K mainGlobals "enumerate" = some none)
    (z_sorted : PySem.W.nsIn K mainGlobals "sorted" = some none)
    (z_set : PySem.W.nsIn K mainGlobals "set" = some none)
    : ∃ fd : FuncData, (∀ (s : Shared) (v : Value), BindsTo s fd ⟨[v], []⟩ [("script", v)]) ∧ ∀ base : Heap, K.In base → base.Ns mainGlobals mg → FnG l.prog w K mg base 10 fa fd ["script"] (spLaw K) := by
  have e := hfa.symm.trans (PySem.W.mg_of X G a50)
  cases e
  have F0 := fun_mk (st := s_is_an_integer) l0 c0 k0
  have F1 := fun_mk (st := s_is_number) l1 c1 k1
  have F2 := fun_mk (st := s_is_number_below) l2 c2 k2
  have F3 := fun_mk (st := s_is_name) l3 c3 k3
  have F4 := fun_mk (st := s_is_tuple_of) l4 c4 k4
  have F5 := fun_mk (st := s_are_names) l5 c5 k5
  have F6 := fun_mk (st := s_are_numbers_below) l6 c6 k6
  have F7 := fun_mk (st := s_is_ascending) l7 c7 k7
  have F8 := fun_mk (st := s_is_lot_below) l8 c8 k8
  have F9 := fun_mk (st := s_fraction_of) l9 c9 k9
  have F10 := fun_mk (st := s_added) l10 c10 k10
  have F11 := fun_mk (st := s_timed) l11 c11 k11
  have F12 := fun_mk (st := s_sum_of) l12 c12 k12
  have F13 := fun_mk (st := s_is_small_sum) l13 c13 k13
  have F14 := fun_mk (st := s_weighed) l14 c14 k14
  have F15 := fun_mk (st := s_check_kinds) l15 c15 k15
  have F16 := fun_mk (st := s_check_totals) l16 c16 k16
  have F17 := fun_mk (st := s_totals_with) l17 c17 k17
  have F18 := fun_mk (st := s_classes_of) l18 c18 k18
  have F19 := fun_mk (st := s_class_numbers) l19 c19 k19
  have F20 := fun_mk (st := s_totals_by_classes) l20 c20 k20
  have F21 := fun_mk (st := s_is_reckoning) l21 c21 k21
  have F22 := fun_mk (st := s_total_reckonings) l22 c22 k22
  have F23 := fun_mk (st := s_total_reckoning) l23 c23 k23
  have F24 := fun_mk (st := s_is_beyond) l24 c24 k24
  have F25 := fun_mk (st := s_agreements) l25 c25 k25
  have F26 := fun_mk (st := s_clashes) l26 c26 k26
  have F27 := fun_mk (st := s_difference_of) l27 c27 k27
  have F28 := fun_mk (st := s_class_errors) l28 c28 k28
  have F29 := fun_mk (st := s_reckoned) l29 c29 k29
  have F30 := fun_mk (st := s_is_off) l30 c30 k30
  have F31 := fun_mk (st := s_is_off_by) l31 c31 k31
  have F32 := fun_mk (st := s__law_heap) l32 c32 k32
  have F33 := fun_mk (st := s__law_draw) l33 c33 k33
  have F34 := fun_mk (st := s__law_pick) l34 c34 k34
  have F35 := fun_mk (st := s__law_shuffled) l35 c35 k35
  have F36 := fun_mk (st := s__law_names) l36 c36 k36
  have F37 := fun_mk (st := s__law_blocks) l37 c37 k37
  have F38 := fun_mk (st := s__law_tied) l38 c38 k38
  have F39 := fun_mk (st := s__law_totals) l39 c39 k39
  have F40 := fun_mk (st := s__law_classes) l40 c40 k40
  have F41 := fun_mk (st := s__law_vector) l41 c41 k41
  have F42 := fun_mk (st := s__law_reduced) l42 c42 k42
  have F43 := fun_mk (st := s__law_sum) l43 c43 k43
  have F44 := fun_mk (st := s__law_fraction) l44 c44 k44
  have F45 := fun_mk (st := s__law_row) l45 c45 k45
  have F46 := fun_mk (st := s__law_two_right) l46 c46 k46
  have F47 := fun_mk (st := s__law_reckoned_right) l47 c47 k47
  have F48 := fun_mk (st := s__law_values_right) l48 c48 k48
  have F49 := fun_mk (st := s__law_table_right) l49 c49 k49
  have F50 := fun_mk (st := s_law) l50 c50 k50
  have FIA := fun_mk (st := i_InvalidTable) lIA cIA kIA
  have FIN := fun_mk (st := i_InvalidNumber) lIN cIN kIN
  have FT := fun_mk (st := i_Table) lT cT kT
  have b0 := F0.binds (ps := ["value"]) fun _ _ _ _ _ _ us hl => match us, hl with | [_], _ => rfl
  have g0 := PySem.W.mg_of X G a0
  have b1 := F1.binds (ps := ["value"]) fun _ _ _ _ _ _ us hl => match us, hl with | [_], _ => rfl
  have g1 := PySem.W.mg_of X G a1
  have b2 := F2.binds (ps := ["value", "many"]) fun _ _ _ _ _ _ us hl => match us, hl with | [_, _], _ => rfl
  have g2 := PySem.W.mg_of X G a2
  have b3 := F3.binds (ps := ["value"]) fun _ _ _ _ _ _ us hl => match us, hl with | [_], _ => rfl
  have g3 := PySem.W.mg_of X G a3
  have b4 := F4.binds (ps := ["value", "many"]) fun _ _ _ _ _ _ us hl => match us, hl with | [_, _], _ => rfl
  have g4 := PySem.W.mg_of X G a4
  have b5 := F5.binds (ps := ["value"]) fun _ _ _ _ _ _ us hl => match us, hl with | [_], _ => rfl
  have g5 := PySem.W.mg_of X G a5
  have b6 := F6.binds (ps := ["value", "many"]) fun _ _ _ _ _ _ us hl => match us, hl with | [_, _], _ => rfl
  have g6 := PySem.W.mg_of X G a6
  have b7 := F7.binds (ps := ["some"]) fun _ _ _ _ _ _ us hl => match us, hl with | [_], _ => rfl
  have g7 := PySem.W.mg_of X G a7
  have b8 := F8.binds (ps := ["value", "many"]) fun _ _ _ _ _ _ us hl => match us, hl with | [_, _], _ => rfl
  have g8 := PySem.W.mg_of X G a8
  have b9 := F9.binds (ps := ["top", "bottom"]) fun _ _ _ _ _ _ us hl => match us, hl with | [_, _], _ => rfl
  have g9 := PySem.W.mg_of X G a9
  have b10 := F10.binds (ps := ["one", "other"]) fun _ _ _ _ _ _ us hl => match us, hl with | [_, _], _ => rfl
  have g10 := PySem.W.mg_of X G a10
  have b11 := F11.binds (ps := ["one", "other"]) fun _ _ _ _ _ _ us hl => match us, hl with | [_, _], _ => rfl
  have g11 := PySem.W.mg_of X G a11
  have b12 := F12.binds (ps := ["some"]) fun _ _ _ _ _ _ us hl => match us, hl with | [_], _ => rfl
  have g12 := PySem.W.mg_of X G a12
  have b13 := F13.binds (ps := ["some"]) fun _ _ _ _ _ _ us hl => match us, hl with | [_], _ => rfl
  have g13 := PySem.W.mg_of X G a13
  have b14 := F14.binds (ps := ["weights", "some"]) fun _ _ _ _ _ _ us hl => match us, hl with | [_, _], _ => rfl
  have g14 := PySem.W.mg_of X G a14
  have b15 := F15.binds (ps := ["kinds"]) fun _ _ _ _ _ _ us hl => match us, hl with | [_], _ => rfl
  have g15 := PySem.W.mg_of X G a15
  have b16 := F16.binds (ps := ["totals", "many"]) fun _ _ _ _ _ _ us hl => match us, hl with | [_, _], _ => rfl
  have g16 := PySem.W.mg_of X G a16
  have b17 := F17.binds (ps := ["table", "kind"]) fun _ _ _ _ _ _ us hl => match us, hl with | [_, _], _ => rfl
  have g17 := PySem.W.mg_of X G a17
  have b18 := F18.binds (ps := ["table"]) fun _ _ _ _ _ _ us hl => match us, hl with | [_], _ => rfl
  have g18 := PySem.W.mg_of X G a18
  have b19 := F19.binds (ps := ["table"]) fun _ _ _ _ _ _ us hl => match us, hl with | [_], _ => rfl
  have g19 := PySem.W.mg_of X G a19
  have b20 := F20.binds (ps := ["table"]) fun _ _ _ _ _ _ us hl => match us, hl with | [_], _ => rfl
  have g20 := PySem.W.mg_of X G a20
  have b21 := F21.binds (ps := ["table", "value"]) fun _ _ _ _ _ _ us hl => match us, hl with | [_, _], _ => rfl
  have g21 := PySem.W.mg_of X G a21
  have b22 := F22.binds (ps := ["table"]) fun _ _ _ _ _ _ us hl => match us, hl with | [_], _ => rfl
  have g22 := PySem.W.mg_of X G a22
  have b23 := F23.binds (ps := ["table", "total"]) fun _ _ _ _ _ _ us hl => match us, hl with | [_, _], _ => rfl
  have g23 := PySem.W.mg_of X G a23
  have b24 := F24.binds (ps := ["reckoning"]) fun _ _ _ _ _ _ us hl => match us, hl with | [_], _ => rfl
  have g24 := PySem.W.mg_of X G a24
  have b25 := F25.binds (ps := ["one", "other"]) fun _ _ _ _ _ _ us hl => match us, hl with | [_, _], _ => rfl
  have g25 := PySem.W.mg_of X G a25
  have b26 := F26.binds (ps := ["one", "other"]) fun _ _ _ _ _ _ us hl => match us, hl with | [_, _], _ => rfl
  have g26 := PySem.W.mg_of X G a26
  have b27 := F27.binds (ps := ["one", "other"]) fun _ _ _ _ _ _ us hl => match us, hl with | [_, _], _ => rfl
  have g27 := PySem.W.mg_of X G a27
  have b28 := F28.binds (ps := ["table", "errors"]) fun _ _ _ _ _ _ us hl => match us, hl with | [_, _], _ => rfl
  have g28 := PySem.W.mg_of X G a28
  have b29 := F29.binds (ps := ["table", "reckoning", "errors"]) fun _ _ _ _ _ _ us hl => match us, hl with | [_, _, _], _ => rfl
  have g29 := PySem.W.mg_of X G a29
  have b30 := F30.binds (ps := ["table", "reckoning", "errors"]) fun _ _ _ _ _ _ us hl => match us, hl with | [_, _, _], _ => rfl
  have g30 := PySem.W.mg_of X G a30
  have b31 := F31.binds (ps := ["reckoning", "of_classes"]) fun _ _ _ _ _ _ us hl => match us, hl with | [_, _], _ => rfl
  have g31 := PySem.W.mg_of X G a31
  have b32 := F32.binds (ps := ["script"]) fun _ _ _ _ _ _ us hl => match us, hl with | [_], _ => rfl
  have g32 := PySem.W.mg_of X G a32
  have b33 := F33.binds (ps := ["heap", "many"]) fun _ _ _ _ _ _ us hl => match us, hl with | [_, _], _ => rfl
  have g33 := PySem.W.mg_of X G a33
  have b34 := F34.binds (ps := ["heap", "some"]) fun _ _ _ _ _ _ us hl => match us, hl with | [_, _], _ => rfl
  have g34 := PySem.W.mg_of X G a34
  have b35 := F35.binds (ps := ["heap", "some"]) fun _ _ _ _ _ _ us hl => match us, hl with | [_, _], _ => rfl
  have g35 := PySem.W.mg_of X G a35
  have b36 := F36.binds (ps := ["heap", "many"]) fun _ _ _ _ _ _ us hl => match us, hl with | [_, _], _ => rfl
  have g36 := PySem.W.mg_of X G a36
  have b37 := F37.binds (ps := ["heap", "many"]) fun _ _ _ _ _ _ us hl => match us, hl with | [_, _], _ => rfl
  have g37 := PySem.W.mg_of X G a37
  have b38 := F38.binds (ps := ["heap", "blocks", "many"]) fun _ _ _ _ _ _ us hl => match us, hl with | [_, _, _], _ => rfl
  have g38 := PySem.W.mg_of X G a38
  have b39 := F39.binds (ps := ["heap", "many"]) fun _ _ _ _ _ _ us hl => match us, hl with | [_, _], _ => rfl
  have g39 := PySem.W.mg_of X G a39
  have b40 := F40.binds (ps := ["many", "totals"]) fun _ _ _ _ _ _ us hl => match us, hl with | [_, _], _ => rfl
  have g40 := PySem.W.mg_of X G a40
  have b41 := F41.binds (ps := ["totals", "classes", "at"]) fun _ _ _ _ _ _ us hl => match us, hl with | [_, _, _], _ => rfl
  have g41 := PySem.W.mg_of X G a41
  have b42 := F42.binds (ps := ["top", "bottom"]) fun _ _ _ _ _ _ us hl => match us, hl with | [_, _], _ => rfl
  have g42 := PySem.W.mg_of X G a42
  have b43 := F43.binds (ps := ["weights", "some"]) fun _ _ _ _ _ _ us hl => match us, hl with | [_, _], _ => rfl
  have g43 := PySem.W.mg_of X G a43
  have b44 := F44.binds (ps := ["heap"]) fun _ _ _ _ _ _ us hl => match us, hl with | [_], _ => rfl
  have g44 := PySem.W.mg_of X G a44
  have b45 := F45.binds (ps := ["heap", "size"]) fun _ _ _ _ _ _ us hl => match us, hl with | [_, _], _ => rfl
  have g45 := PySem.W.mg_of X G a45
  have b46 := F46.binds (ps := ["one", "other"]) fun _ _ _ _ _ _ us hl => match us, hl with | [_, _], _ => rfl
  have g46 := PySem.W.mg_of X G a46
  have b47 := F47.binds (ps := ["table", "row", "errors", "by_class"]) fun _ _ _ _ _ _ us hl => match us, hl with | [_, _, _, _], _ => rfl
  have g47 := PySem.W.mg_of X G a47
  have b48 := F48.binds (ps := ["heap", "table", "size"]) fun _ _ _ _ _ _ us hl => match us, hl with | [_, _, _], _ => rfl
  have g48 := PySem.W.mg_of X G a48
  have b49 := F49.binds (ps := ["heap", "many"]) fun _ _ _ _ _ _ us hl => match us, hl with | [_, _], _ => rfl
  have g49 := PySem.W.mg_of X G a49
  have bIA := FIA.binds (ps := ["self", "at"]) fun _ _ _ _ _ _ us hl => match us, hl with | [_, _], _ => rfl
  have bIN := FIN.binds (ps := ["self", "word"]) fun _ _ _ _ _ _ us hl => match us, hl with | [_, _], _ => rfl
  have bT := FT.binds (ps := ["self", "kinds", "totals"]) fun _ _ _ _ _ _ us hl => match us, hl with | [_, _, _], _ => rfl
  have kb24 := kbinds_one (p := "reckoning") F24 (fun _ _ _ _ _ _ _ => rfl) (fun _ _ _ _ _ _ _ => rfl)
  have kr25 := kbinds_rev (p1 := "one") (p2 := "other") F25 (fun _ _ _ _ _ _ _ _ => rfl) (fun _ _ _ _ _ _ _ _ => rfl) (fun _ _ _ _ _ _ _ _ => rfl)
  have kr26 := kbinds_rev (p1 := "one") (p2 := "other") F26 (fun _ _ _ _ _ _ _ _ => rfl) (fun _ _ _ _ _ _ _ _ => rfl) (fun _ _ _ _ _ _ _ _ => rfl)
  have kr27 := kbinds_rev (p1 := "one") (p2 := "other") F27 (fun _ _ _ _ _ _ _ _ => rfl) (fun _ _ _ _ _ _ _ _ => rfl) (fun _ _ _ _ _ _ _ _ => rfl)
  have kr21 := kbinds_rev (p1 := "table") (p2 := "value") F21 (fun _ _ _ _ _ _ _ _ => rfl) (fun _ _ _ _ _ _ _ _ => rfl) (fun _ _ _ _ _ _ _ _ => rfl)
  have kr28 := kbinds_rev (p1 := "table") (p2 := "errors") F28 (fun _ _ _ _ _ _ _ _ => rfl) (fun _ _ _ _ _ _ _ _ => rfl) (fun _ _ _ _ _ _ _ _ => rfl)
  have kr23 := kbinds_rev (p1 := "table") (p2 := "total") F23 (fun _ _ _ _ _ _ _ _ => rfl) (fun _ _ _ _ _ _ _ _ => rfl) (fun _ _ _ _ _ _ _ _ => rfl)
  have kr29 := kbinds_rev3 (p1 := "table") (p2 := "reckoning") (p3 := "errors") F29 (fun _ _ _ _ _ _ _ _ _ => rfl) (fun _ _ _ _ _ _ _ _ _ => rfl) (fun _ _ _ _ _ _ _ _ _ => rfl) (fun _ _ _ _ _ _ _ _ _ => rfl)
  have kr30 := kbinds_rev3 (p1 := "table") (p2 := "reckoning") (p3 := "errors") F30 (fun _ _ _ _ _ _ _ _ _ => rfl) (fun _ _ _ _ _ _ _ _ _ => rfl) (fun _ _ _ _ _ _ _ _ _ => rfl) (fun _ _ _ _ _ _ _ _ _ => rfl)
  have y_isinstance := PySem.W.mg_none_of X G z_isinstance
  have y_int := PySem.W.mg_none_of X G z_int
  have y_bool := PySem.W.mg_none_of X G z_bool
  have y_str := PySem.W.mg_none_of X G z_str
  have y_tuple := PySem.W.mg_none_of X G z_tuple
  have y_list := PySem.W.mg_none_of X G z_list
  have y_len := PySem.W.mg_none_of X G z_len
  have y_abs := PySem.W.mg_none_of X G z_abs
  have y_range := PySem.W.mg_none_of X G z_range
  have y_zip := PySem.W.mg_none_of X G z_zip
  have y_all := PySem.W.mg_none_of X G z_all
  have y_any := PySem.W.mg_none_of X G z_any
  have y_repr := PySem.W.mg_none_of X G z_repr
  have y_enumerate := PySem.W.mg_none_of X G z_enumerate
  have y_sorted := PySem.W.mg_none_of X G z_sorted
  have y_set := PySem.W.mg_none_of X G z_set
  have gZ := PySem.W.mg_of X G aZ
  have gG := PySem.W.mg_of X G aG
  have gL := PySem.W.mg_of X G mL
  have gm1 := PySem.W.mg_of X G m1
  have gm2 := PySem.W.mg_of X G m2
  have gm3 := PySem.W.mg_of X G m3
  have hz : ∀ H, SqT K H zz (pV (0, 1)) := fun H => .inr ⟨_, _, _, zL, rfl, rfl, by show 2 ≤ sizeLine; decide, .cons ⟨_, rfl⟩ (.cons ⟨_, rfl⟩ .nil)⟩
  have oA : OexC K CA := ⟨⟨nmA, qA, EA, bsA, _, snA, subA, abA, colA, ddA, m0A, m1A, m2A, m3A, m5A, xLA, rfl⟩, saA, eCA, tCA, kCA⟩
  have oN : OexC K CN := ⟨⟨nmN, qN, EN, bsN, _, snN, subN, abN, colN, ddN, m0N, m1N, m2N, m3N, m5N, xLN, rfl⟩, saN, eCN, tCN, kCN⟩
  have eA : ErrC K mg "InvalidTable" CA fIA := ⟨PySem.W.mg_of X G aCA, oA, iIA, tIA⟩
  have eN : ErrC K mg "InvalidNumber" CN fIN := ⟨PySem.W.mg_of X G aCN, oN, iIN, tIN⟩
  have TC : TabC K CT := ⟨⟨pgT, hdT, poT, saT⟩, nkT, ntT⟩
  have gT := PySem.W.mg_of X G aT
  refine ⟨PySem.W.fnOf "law" "law" (defArgs s_law) (defBody s_law) (defScope s_law) .none kV50 dc50 pm50 an50 cd50 ct50, fun s v => .of_eq rfl, fun base _ _ => ?_⟩
  have T_is_an_integer := (ok_is_an_integer F0 y_isinstance y_int y_bool : FnOk l.prog w K mg base CX0 1 _ _ _ (spInt K))
  have C_is_an_integer : Cl l.prog w K mg base 1 "is_an_integer" (spInt K) := ⟨⟨f0, _, _, T_is_an_integer, g0, F0.kp, b0⟩⟩
  have T_is_number := (ok_is_number F1 C_is_an_integer : FnOk l.prog w K mg base CX0 2 _ _ _ (spNum K))
  have C_is_number : Cl l.prog w K mg base 2 "is_number" (spNum K) := ⟨⟨f1, _, _, T_is_number, g1, F1.kp, b1⟩⟩
  have T_is_number_below := (ok_is_number_below F2 C_is_number : FnOk l.prog w K mg base CX0 3 _ _ _ spBelow)
  have C_is_number_below : Cl l.prog w K mg base 3 "is_number_below" spBelow := ⟨⟨f2, _, _, T_is_number_below, g2, F2.kp, b2⟩⟩
  have T_are_numbers_below := (ok_are_numbers_below F6 C_is_number_below y_isinstance y_tuple y_all : FnOk l.prog w K mg base CX0 4 _ _ _ (spNumsBelow K))
  have C_are_numbers_below : Cl l.prog w K mg base 4 "are_numbers_below" (spNumsBelow K) := ⟨⟨f6, _, _, T_are_numbers_below, g6, F6.kp, b6⟩⟩
  have T_is_ascending := (ok_is_ascending F7 y_all y_zip : FnOk l.prog w K mg base CX0 1 _ _ _ (spAsc K))
  have C_is_ascending : Cl l.prog w K mg base 1 "is_ascending" (spAsc K) := ⟨⟨f7, _, _, T_is_ascending, g7, F7.kp, b7⟩⟩
  have T_is_lot_below := (ok_is_lot_below F8 C_are_numbers_below C_is_ascending : FnOk l.prog w K mg base CX0 5 _ _ _ (spLot K))
  have C_is_lot_below : Cl l.prog w K mg base 5 "is_lot_below" (spLot K) := ⟨⟨f8, _, _, T_is_lot_below, g8, F8.kp, b8⟩⟩
  have T_totals_with := (ok_totals_with F17 TC y_enumerate y_tuple : FnOk l.prog w K mg base CX0 1 _ _ _ (spTotalsWith K CT))
  have C_totals_with : Cl l.prog w K mg base 1 "totals_with" (spTotalsWith K CT) := ⟨⟨f17, _, _, T_totals_with, g17, F17.kp, b17⟩⟩
  have TXt : FnOk l.prog w K mg base (L2.CX l.prog w) 6 _ _ _ (spCheckTotals K) := ok_check_totals F16 C_is_lot_below gm3 eA (ok_initT FIA oA nwA) bIA y_isinstance y_tuple y_len y_enumerate
  have T_check_totals := (fn_calm TXt : FnOk l.prog w K mg base CX0 6 _ _ _ (fun vs H Q _ => spCheckTotals K vs H Q E0))
  have C_check_totals : Cl l.prog w K mg base 6 "check_totals" (fun vs H Q _ => spCheckTotals K vs H Q E0) := ⟨⟨f16, _, _, T_check_totals, g16, F16.kp, b16⟩⟩
  have T_is_name := (ok_is_name F3 ⟨_, gL⟩ gm1 y_isinstance y_str y_len y_all : FnOk l.prog w K mg base CX0 1 _ _ _ spName)
  have C_is_name : Cl l.prog w K mg base 1 "is_name" spName := ⟨⟨f3, _, _, T_is_name, g3, F3.kp, b3⟩⟩
  have T_are_names := (ok_are_names F5 C_is_name y_isinstance y_tuple y_all : FnOk l.prog w K mg base CX0 2 _ _ _ (spNames K))
  have C_are_names : Cl l.prog w K mg base 2 "are_names" (spNames K) := ⟨⟨f5, _, _, T_are_names, g5, F5.kp, b5⟩⟩
  have TXk : FnOk l.prog w K mg base (L2.CX l.prog w) 3 _ _ _ (spCheckKinds K) := ok_check_kinds F15 C_are_names C_is_ascending gm2 eA (ok_initT FIA oA nwA) bIA y_isinstance y_tuple y_len
  have T_check_kinds := (fn_calm TXk : FnOk l.prog w K mg base CX0 3 _ _ _ (fun vs H Q _ => spCheckKinds K vs H Q E0))
  have C_check_kinds : Cl l.prog w K mg base 3 "check_kinds" (fun vs H Q _ => spCheckKinds K vs H Q E0) := ⟨⟨f15, _, _, T_check_kinds, g15, F15.kp, b15⟩⟩
  have T_Table : MkT l.prog w K mg base 7 "Table" CT (spInitT K CT) := ⟨⟨fT, _, _, ⟨mkT, iT, jT, kcT⟩, ok_init_Table FT TC C_check_kinds C_check_totals y_len, gT, bT⟩⟩
  have T_is_beyond := (ok_is_beyond F24 y_any y_abs : FnOk l.prog w K mg base CX0 1 _ _ _ (spBeyond K))
  have C_is_beyond : Cl l.prog w K mg base 1 "is_beyond" (spBeyond K) := ⟨⟨f24, _, _, T_is_beyond, g24, F24.kp, b24⟩⟩
  have CK_is_beyond_reckoning : ClK l.prog w K mg base 1 "is_beyond" ["reckoning"] (spBeyond K) := ⟨⟨f24, _, _, T_is_beyond, g24, F24.kp, kb24⟩⟩
  have T_agreements := (ok_agreements F25 y_enumerate y_tuple y_abs : FnOk l.prog w K mg base CX0 1 _ _ _ (spTwo K agrL))
  have C_agreements : Cl l.prog w K mg base 1 "agreements" (spTwo K agrL) := ⟨⟨f25, _, _, T_agreements, g25, F25.kp, b25⟩⟩
  have CR_agreements : ClR l.prog w K mg base 1 "agreements" ["other", "one"] (spTwo K agrL) := ⟨⟨f25, _, _, T_agreements, g25, F25.kp, kr25⟩⟩
  have T_clashes := (ok_clashes F26 y_enumerate y_tuple y_abs : FnOk l.prog w K mg base CX0 1 _ _ _ (spTwo K claL))
  have C_clashes : Cl l.prog w K mg base 1 "clashes" (spTwo K claL) := ⟨⟨f26, _, _, T_clashes, g26, F26.kp, b26⟩⟩
  have CR_clashes : ClR l.prog w K mg base 1 "clashes" ["other", "one"] (spTwo K claL) := ⟨⟨f26, _, _, T_clashes, g26, F26.kp, kr26⟩⟩
  have T_difference_of := (ok_difference_of F27 y_zip y_tuple : FnOk l.prog w K mg base CX0 1 _ _ _ (spTwo K difL))
  have C_difference_of : Cl l.prog w K mg base 1 "difference_of" (spTwo K difL) := ⟨⟨f27, _, _, T_difference_of, g27, F27.kp, b27⟩⟩
  have CR_difference_of : ClR l.prog w K mg base 1 "difference_of" ["other", "one"] (spTwo K difL) := ⟨⟨f27, _, _, T_difference_of, g27, F27.kp, kr27⟩⟩
  have T_classes_of := (ok_classes_of F18 TC C_totals_with y_range y_len y_tuple : FnOk l.prog w K mg base CX0 2 _ _ _ (spClasses K CT))
  have C_classes_of : Cl l.prog w K mg base 2 "classes_of" (spClasses K CT) := ⟨⟨f18, _, _, T_classes_of, g18, F18.kp, b18⟩⟩
  have T_class_numbers := (ok_class_numbers F19 TC C_classes_of y_enumerate y_range y_len y_tuple : FnOk l.prog w K mg base CX0 3 _ _ _ (spNumbers K CT))
  have C_class_numbers : Cl l.prog w K mg base 3 "class_numbers" (spNumbers K CT) := ⟨⟨f19, _, _, T_class_numbers, g19, F19.kp, b19⟩⟩
  have T_is_tuple_of := (ok_is_tuple_of F4 y_isinstance y_tuple y_len : FnOk l.prog w K mg base CX0 1 _ _ _ (spTup K))
  have C_is_tuple_of : Cl l.prog w K mg base 1 "is_tuple_of" (spTup K) := ⟨⟨f4, _, _, T_is_tuple_of, g4, F4.kp, b4⟩⟩
  have T_added := (ok_added F10 gG : FnOk l.prog w K mg base CX0 1 _ _ _ (spAdd K))
  have C_added : Cl l.prog w K mg base 1 "added" (spAdd K) := ⟨⟨f10, _, _, T_added, g10, F10.kp, b10⟩⟩
  have TXf : FnOk l.prog w K mg base (L2.CX l.prog w) 3 _ _ _ (spFrac CN) := ok_fraction_of F9 gG eN (ok_initN FIN oN nwN) bIN
  have T_fraction_of := (fn_calm TXf : FnOk l.prog w K mg base CX0 3 _ _ _ (fun vs H Q _ => spFrac CN vs H Q E0))
  have C_fraction_of : Cl l.prog w K mg base 3 "fraction_of" (fun vs H Q _ => spFrac CN vs H Q E0) := ⟨⟨f9, _, _, T_fraction_of, g9, F9.kp, b9⟩⟩
  have T_timed := (ok_timed F11 C_fraction_of : FnOk l.prog w K mg base CX0 4 _ _ _ (spTimed K))
  have C_timed : Cl l.prog w K mg base 4 "timed" (spTimed K) := ⟨⟨f11, _, _, T_timed, g11, F11.kp, b11⟩⟩
  have T__law_heap := (ok__law_heapF F32 y_int y_abs : FnOk l.prog w K mg base CX0 1 _ _ _ (spHeapF K))
  have C__law_heap : Cl l.prog w K mg base 1 "_law_heap" (spHeapF K) := ⟨⟨f32, _, _, T__law_heap, g32, F32.kp, b32⟩⟩
  have T__law_draw := (ok__law_draw F33 y_int : FnOk l.prog w K mg base CX0 1 _ _ _ spDraw)
  have C__law_draw : Cl l.prog w K mg base 1 "_law_draw" spDraw := ⟨⟨f33, _, _, T__law_draw, g33, F33.kp, b33⟩⟩
  have T__law_pick := (ok__law_pick F34 C__law_draw y_len : FnOk l.prog w K mg base CX0 2 _ _ _ (spPick K))
  have C__law_pick : Cl l.prog w K mg base 2 "_law_pick" (spPick K) := ⟨⟨f34, _, _, T__law_pick, g34, F34.kp, b34⟩⟩
  have TS__law_pick := (ok__law_pickS F34 C__law_draw y_len : FnOk l.prog w K mg base CX0 2 _ _ _ spPickS)
  have CS__law_pick : Cl l.prog w K mg base 2 "_law_pick" spPickS := ⟨⟨f34, _, _, TS__law_pick, g34, F34.kp, b34⟩⟩
  have T_sum_of := (ok_sum_of F12 C_added gZ hz : FnOk l.prog w K mg base CX0 2 _ _ _ (spSumL K))
  have C_sum_of : Cl l.prog w K mg base 2 "sum_of" (spSumL K) := ⟨⟨f12, _, _, T_sum_of, g12, F12.kp, b12⟩⟩
  have T_weighed := (ok_weighed F14 C_sum_of C_timed y_zip : FnOk l.prog w K mg base CX0 5 _ _ _ (spWeighedL K))
  have C_weighed : Cl l.prog w K mg base 5 "weighed" (spWeighedL K) := ⟨⟨f14, _, _, T_weighed, g14, F14.kp, b14⟩⟩
  have T_is_small_sum := (ok_is_small_sum F13 gZ hz y_abs : FnOk l.prog w K mg base CX0 1 _ _ _ (spSmallSum K))
  have C_is_small_sum : Cl l.prog w K mg base 1 "is_small_sum" (spSmallSum K) := ⟨⟨f13, _, _, T_is_small_sum, g13, F13.kp, b13⟩⟩
  have T_totals_by_classes := (ok_totals_by_classes F20 TC C_class_numbers y_tuple y_sorted y_set : FnOk l.prog w K mg base CX0 4 _ _ _ (spTBC K CT))
  have C_totals_by_classes : Cl l.prog w K mg base 4 "totals_by_classes" (spTBC K CT) := ⟨⟨f20, _, _, T_totals_by_classes, g20, F20.kp, b20⟩⟩
  have T_total_reckonings := (ok_total_reckonings F22 C_classes_of C_totals_by_classes y_tuple y_range y_len y_int : FnOk l.prog w K mg base CX0 5 _ _ _ (spTotRecs K CT))
  have C_total_reckonings : Cl l.prog w K mg base 5 "total_reckonings" (spTotRecs K CT) := ⟨⟨f22, _, _, T_total_reckonings, g22, F22.kp, b22⟩⟩
  have T_total_reckoning := (ok_total_reckoning F23 C_total_reckonings : FnOk l.prog w K mg base CX0 6 _ _ _ (spTotRec K CT))
  have C_total_reckoning : Cl l.prog w K mg base 6 "total_reckoning" (spTotRec K CT) := ⟨⟨f23, _, _, T_total_reckoning, g23, F23.kp, b23⟩⟩
  have CR_total_reckoning : ClR l.prog w K mg base 6 "total_reckoning" ["total", "table"] (spTotRec K CT) := ⟨⟨f23, _, _, T_total_reckoning, g23, F23.kp, kr23⟩⟩
  have T_is_reckoning := (ok_is_reckoning F21 C_classes_of C_is_tuple_of C_is_an_integer y_len y_all : FnOk l.prog w K mg base CX0 3 _ _ _ (spIsReck K CT))
  have C_is_reckoning : Cl l.prog w K mg base 3 "is_reckoning" (spIsReck K CT) := ⟨⟨f21, _, _, T_is_reckoning, g21, F21.kp, b21⟩⟩
  have CR_is_reckoning : ClR l.prog w K mg base 3 "is_reckoning" ["value", "table"] (spIsReck K CT) := ⟨⟨f21, _, _, T_is_reckoning, g21, F21.kp, kr21⟩⟩
  have T_class_errors := (ok_class_errors F28 C_classes_of C_sum_of y_tuple : FnOk l.prog w K mg base CX0 3 _ _ _ (spClassErrs K CT))
  have C_class_errors : Cl l.prog w K mg base 3 "class_errors" (spClassErrs K CT) := ⟨⟨f28, _, _, T_class_errors, g28, F28.kp, b28⟩⟩
  have CR_class_errors : ClR l.prog w K mg base 3 "class_errors" ["errors", "table"] (spClassErrs K CT) := ⟨⟨f28, _, _, T_class_errors, g28, F28.kp, kr28⟩⟩
  have T_reckoned := (ok_reckoned F29 C_weighed C_class_errors : FnOk l.prog w K mg base CX0 6 _ _ _ (spReckoned K CT))
  have C_reckoned : Cl l.prog w K mg base 6 "reckoned" (spReckoned K CT) := ⟨⟨f29, _, _, T_reckoned, g29, F29.kp, b29⟩⟩
  have CR_reckoned : ClR l.prog w K mg base 6 "reckoned" ["errors", "reckoning", "table"] (spReckoned K CT) := ⟨⟨f29, _, _, T_reckoned, g29, F29.kp, kr29⟩⟩
  have T_is_off_by := (ok_is_off_by F31 C_is_small_sum y_zip : FnOk l.prog w K mg base CX0 2 _ _ _ (spOffBy K))
  have C_is_off_by : Cl l.prog w K mg base 2 "is_off_by" (spOffBy K) := ⟨⟨f31, _, _, T_is_off_by, g31, F31.kp, b31⟩⟩
  have T_is_off := (ok_is_off F30 C_is_off_by C_class_errors : FnOk l.prog w K mg base CX0 4 _ _ _ (spOff K CT))
  have C_is_off : Cl l.prog w K mg base 4 "is_off" (spOff K CT) := ⟨⟨f30, _, _, T_is_off, g30, F30.kp, b30⟩⟩
  have CR_is_off : ClR l.prog w K mg base 4 "is_off" ["errors", "reckoning", "table"] (spOff K CT) := ⟨⟨f30, _, _, T_is_off, g30, F30.kp, kr30⟩⟩
  have T__law_shuffled := (ok__law_shuffled F35 C__law_draw y_len y_list y_range : FnOk l.prog w K mg base CX0 2 _ _ _ (spShuffled K))
  have C__law_shuffled : Cl l.prog w K mg base 2 "_law_shuffled" (spShuffled K) := ⟨⟨f35, _, _, T__law_shuffled, g35, F35.kp, b35⟩⟩
  have T__law_names := (ok__law_names F36 C__law_draw CS__law_pick y_len y_int y_range y_tuple y_sorted : FnOk l.prog w K mg base CX0 3 _ _ _ (spLawNames K))
  have C__law_names : Cl l.prog w K mg base 3 "_law_names" (spLawNames K) := ⟨⟨f36, _, _, T__law_names, g36, F36.kp, b36⟩⟩
  have T__law_blocks := (ok__law_blocks F37 C__law_draw C__law_pick y_len y_int y_range y_list : FnOk l.prog w K mg base CX0 3 _ _ _ spBlocks)
  have C__law_blocks : Cl l.prog w K mg base 3 "_law_blocks" spBlocks := ⟨⟨f37, _, _, T__law_blocks, g37, F37.kp, b37⟩⟩
  have T__law_tied := (ok__law_tied F38 C__law_draw C__law_pick C__law_shuffled y_len y_range y_sorted : FnOk l.prog w K mg base CX0 3 _ _ _ spTied)
  have C__law_tied : Cl l.prog w K mg base 3 "_law_tied" spTied := ⟨⟨f38, _, _, T__law_tied, g38, F38.kp, b38⟩⟩
  have T__law_totals := (ok__law_totals F39 C__law_draw C__law_pick C__law_shuffled C__law_blocks C__law_tied y_len y_int y_range y_sorted y_tuple : FnOk l.prog w K mg base CX0 4 _ _ _ (spTotals K))
  have C__law_totals : Cl l.prog w K mg base 4 "_law_totals" (spTotals K) := ⟨⟨f39, _, _, T__law_totals, g39, F39.kp, b39⟩⟩
  have T__law_reduced := (ok__law_reduced F42 y_int y_abs : FnOk l.prog w K mg base CX0 1 _ _ _ spReduced)
  have C__law_reduced : Cl l.prog w K mg base 1 "_law_reduced" spReduced := ⟨⟨f42, _, _, T__law_reduced, g42, F42.kp, b42⟩⟩
  have T__law_sum := (ok__law_sum F43 C__law_reduced y_len y_range : FnOk l.prog w K mg base CX0 2 _ _ _ (spLawSum K))
  have C__law_sum : Cl l.prog w K mg base 2 "_law_sum" (spLawSum K) := ⟨⟨f43, _, _, T__law_sum, g43, F43.kp, b43⟩⟩
  have T__law_vector := (ok__law_vector F41 y_int y_tuple : FnOk l.prog w K mg base CX0 1 _ _ _ (spVector K))
  have C__law_vector : Cl l.prog w K mg base 1 "_law_vector" (spVector K) := ⟨⟨f41, _, _, T__law_vector, g41, F41.kp, b41⟩⟩
  have T__law_row := (ok__law_row F45 C__law_pick y_range y_tuple : FnOk l.prog w K mg base CX0 3 _ _ _ spRow)
  have C__law_row : Cl l.prog w K mg base 3 "_law_row" spRow := ⟨⟨f45, _, _, T__law_row, g45, F45.kp, b45⟩⟩
  have T__law_fraction := (ok__law_fraction F44 C__law_draw C__law_pick C__law_reduced : FnOk l.prog w K mg base CX0 3 _ _ _ spFraction)
  have C__law_fraction : Cl l.prog w K mg base 3 "_law_fraction" spFraction := ⟨⟨f44, _, _, T__law_fraction, g44, F44.kp, b44⟩⟩
  have T__law_classes := (ok__law_classes F40 y_len y_range : FnOk l.prog w K mg base CX0 1 _ _ _ (spLawClasses K))
  have C__law_classes : Cl l.prog w K mg base 1 "_law_classes" (spLawClasses K) := ⟨⟨f40, _, _, T__law_classes, g40, F40.kp, b40⟩⟩
  have G__law_two_right : ClG l.prog w K mg base 2 "_law_two_right" (spTwoRight K) := ⟨⟨f46, _, _, ok__law_two_right F46 C_agreements C_clashes C_difference_of C_is_beyond CR_agreements CR_clashes CR_difference_of CK_is_beyond_reckoning y_repr y_tuple y_range y_len y_any, g46, F46.kp, b46⟩⟩
  have G__law_reckoned_right : ClG l.prog w K mg base 7 "_law_reckoned_right" (spReckRight K CT) := ⟨⟨f47, _, _, ok__law_reckoned_right F47 C__law_sum C_reckoned C_is_off CR_reckoned CR_is_off y_repr y_abs, g47, F47.kp, b47⟩⟩
  have G__law_values_right : ClG l.prog w K mg base 4 "_law_values_right" (spValues K CT) := ⟨⟨f48, _, _, ok__law_values_right F48 C__law_row C__law_draw C__law_pick C_is_reckoning CR_is_reckoning y_repr y_isinstance y_tuple y_int y_bool y_len y_all y_list, g48, F48.kp, b48⟩⟩
  have G__law_table_right : ClG l.prog w K mg base 9 "_law_table_right" spTableRight := ⟨⟨f49, _, _, ok__law_table_right F49 TC T_Table C__law_totals C__law_names C__law_classes C__law_fraction C__law_sum C_class_errors CR_class_errors C__law_vector C_total_reckoning CR_total_reckoning C_reckoned C__law_row C__law_pick G__law_two_right G__law_reckoned_right G__law_values_right y_repr y_tuple y_len y_range, g49, F49.kp, b49⟩⟩
  exact ok_law F50 TC T_Table C__law_heap C__law_draw C__law_pick G__law_table_right C_total_reckoning C_reckoned C_is_reckoning C_is_beyond y_range y_int y_len
end K14
open PySem PySem.W PyProof.Rows
set_option maxHeartbeats 0 in
theorem PySem.Challenge.cw_centsatonce_k14_whole_reckonings_and_the_holds : PySem.Challenge.rw_centsatonce_k14_whole_reckonings_and_the.Holds := by
  w_on; o_law; k_head; (case hw => w_witness2)
  k_fill
  refine VG.walk_G (l := PySem.Challenge.rw_centsatonce_k14_whole_reckonings_and_the) (n := 63) (k := 10) (x := "script") (sp := fun w => FR.spLaw _) rfl (by decide) rfl ⟨rfl, by decide, by decide⟩ (fun w h Y => PySem.W.kIn_of Y) ?F (fun _ _ a ns hl _ _ hS => ⟨a, ns, rfl, hS, hl, fun _ => rfl⟩)
  case F =>
    intro w mg fa h KX G hmg
    refine' K14.all_mk KX G hmg ?a0 ?l0 ?c0 ?k0 ?a1 ?l1 ?c1 ?k1 ?a2 ?l2 ?c2 ?k2 ?a3 ?l3 ?c3 ?k3 ?a4 ?l4 ?c4 ?k4 ?a5 ?l5 ?c5 ?k5 ?a6 ?l6 ?c6 ?k6 ?a7 ?l7 ?c7 ?k7 ?a8 ?l8 ?c8 ?k8 ?a9 ?l9 ?c9 ?k9 ?a10 ?l10 ?c10 ?k10 ?a11 ?l11 ?c11 ?k11 ?a12 ?l12 ?c12 ?k12 ?a13 ?l13 ?c13 ?k13 ?a14 ?l14 ?c14 ?k14 ?a15 ?l15 ?c15 ?k15 ?a16 ?l16 ?c16 ?k16 ?a17 ?l17 ?c17 ?k17 ?a18 ?l18 ?c18 ?k18 ?a19 ?l19 ?c19 ?k19 ?a20 ?l20 ?c20 ?k20 ?a21 ?l21 ?c21 ?k21 ?a22 ?l22 ?c22 ?k22 ?a23 ?l23 ?c23 ?k23 ?a24 ?l24 ?c24 ?k24 ?a25 ?l25 ?c25 ?k25 ?a26 ?l26 ?c26 ?k26 ?a27 ?l27 ?c27 ?k27 ?a28 ?l28 ?c28 ?k28 ?a29 ?l29 ?c29 ?k29 ?a30 ?l30 ?c30 ?k30 ?a31 ?l31 ?c31 ?k31 ?a32 ?l32 ?c32 ?k32 ?a33 ?l33 ?c33 ?k33 ?a34 ?l34 ?c34 ?k34 ?a35 ?l35 ?c35 ?k35 ?a36 ?l36 ?c36 ?k36 ?a37 ?l37 ?c37 ?k37 ?a38 ?l38 ?c38 ?k38 ?a39 ?l39 ?c39 ?k39 ?a40 ?l40 ?c40 ?k40 ?a41 ?l41 ?c41 ?k41 ?a42 ?l42 ?c42 ?k42 ?a43 ?l43 ?c43 ?k43 ?a44 ?l44 ?c44 ?k44 ?a45 ?l45 ?c45 ?k45 ?a46 ?l46 ?c46 ?k46 ?a47 ?l47 ?c47 ?k47 ?a48 ?l48 ?c48 ?k48 ?a49 ?l49 ?c49 ?k49 ?a50 ?l50 ?c50 ?k50 ?aCA ?xLA ?saA ?nwA ?iIA ?tIA ?lIA ?cIA ?kIA ?kCA ?eCA ?tCA ?aCN ?xLN ?saN ?nwN ?iIN ?tIN ?lIN ?cIN ?kIN ?kCN ?eCN ?tCN ?aT ?iT ?jT ?lT ?cT ?kT ?pgT ?hdT ?poT ?saT ?mkT ?kcT ?nkT ?ntT ?mL ?m1 ?m2 ?m3 ?aZ ?zL ?aG ?z_isinstance ?z_int ?z_bool ?z_str ?z_tuple ?z_list ?z_len ?z_abs ?z_range ?z_zip ?z_all ?z_any ?z_repr ?z_enumerate ?z_sorted ?z_set
    (case a0 => k_is); (case l0 => k_is); (case c0 => k_is); (case k0 => k_is); (case a1 => k_is); (case l1 => k_is); (case c1 => k_is); (case k1 => k_is); (case a2 => k_is); (case l2 => k_is); (case c2 => k_is); (case k2 => k_is); (case a3 => k_is); (case l3 => k_is); (case c3 => k_is); (case k3 => k_is); (case a4 => k_is); (case l4 => k_is); (case c4 => k_is); (case k4 => k_is); (case a5 => k_is); (case l5 => k_is); (case c5 => k_is); (case k5 => k_is); (case a6 => k_is); (case l6 => k_is); (case c6 => k_is); (case k6 => k_is); (case a7 => k_is); (case l7 => k_is); (case c7 => k_is); (case k7 => k_is); (case a8 => k_is); (case l8 => k_is); (case c8 => k_is); (case k8 => k_is); (case a9 => k_is); (case l9 => k_is); (case c9 => k_is); (case k9 => k_is); (case a10 => k_is); (case l10 => k_is); (case c10 => k_is); (case k10 => k_is); (case a11 => k_is); (case l11 => k_is); (case c11 => k_is); (case k11 => k_is); (case a12 => k_is); (case l12 => k_is); (case c12 => k_is); (case k12 => k_is); (case a13 => k_is); (case l13 => k_is); (case c13 => k_is); (case k13 => k_is); (case a14 => k_is); (case l14 => k_is); (case c14 => k_is); (case k14 => k_is); (case a15 => k_is); (case l15 => k_is); (case c15 => k_is); (case k15 => k_is); (case a16 => k_is); (case l16 => k_is); (case c16 => k_is); (case k16 => k_is); (case a17 => k_is); (case l17 => k_is); (case c17 => k_is); (case k17 => k_is); (case a18 => k_is); (case l18 => k_is); (case c18 => k_is); (case k18 => k_is); (case a19 => k_is); (case l19 => k_is); (case c19 => k_is); (case k19 => k_is); (case a20 => k_is); (case l20 => k_is); (case c20 => k_is); (case k20 => k_is); (case a21 => k_is); (case l21 => k_is); (case c21 => k_is); (case k21 => k_is); (case a22 => k_is); (case l22 => k_is); (case c22 => k_is); (case k22 => k_is); (case a23 => k_is); (case l23 => k_is); (case c23 => k_is); (case k23 => k_is); (case a24 => k_is); (case l24 => k_is); (case c24 => k_is); (case k24 => k_is); (case a25 => k_is); (case l25 => k_is); (case c25 => k_is); (case k25 => k_is); (case a26 => k_is); (case l26 => k_is); (case c26 => k_is); (case k26 => k_is); (case a27 => k_is); (case l27 => k_is); (case c27 => k_is); (case k27 => k_is); (case a28 => k_is); (case l28 => k_is); (case c28 => k_is); (case k28 => k_is); (case a29 => k_is); (case l29 => k_is); (case c29 => k_is); (case k29 => k_is); (case a30 => k_is); (case l30 => k_is); (case c30 => k_is); (case k30 => k_is); (case a31 => k_is); (case l31 => k_is); (case c31 => k_is); (case k31 => k_is); (case a32 => k_is); (case l32 => k_is); (case c32 => k_is); (case k32 => k_is); (case a33 => k_is); (case l33 => k_is); (case c33 => k_is); (case k33 => k_is); (case a34 => k_is); (case l34 => k_is); (case c34 => k_is); (case k34 => k_is); (case a35 => k_is); (case l35 => k_is); (case c35 => k_is); (case k35 => k_is); (case a36 => k_is); (case l36 => k_is); (case c36 => k_is); (case k36 => k_is); (case a37 => k_is); (case l37 => k_is); (case c37 => k_is); (case k37 => k_is); (case a38 => k_is); (case l38 => k_is); (case c38 => k_is); (case k38 => k_is); (case a39 => k_is); (case l39 => k_is); (case c39 => k_is); (case k39 => k_is); (case a40 => k_is); (case l40 => k_is); (case c40 => k_is); (case k40 => k_is); (case a41 => k_is); (case l41 => k_is); (case c41 => k_is); (case k41 => k_is); (case a42 => k_is); (case l42 => k_is); (case c42 => k_is); (case k42 => k_is); (case a43 => k_is); (case l43 => k_is); (case c43 => k_is); (case k43 => k_is); (case a44 => k_is); (case l44 => k_is); (case c44 => k_is); (case k44 => k_is); (case a45 => k_is); (case l45 => k_is); (case c45 => k_is); (case k45 => k_is); (case a46 => k_is); (case l46 => k_is); (case c46 => k_is); (case k46 => k_is); (case a47 => k_is); (case l47 => k_is); (case c47 => k_is); (case k47 => k_is); (case a48 => k_is); (case l48 => k_is); (case c48 => k_is); (case k48 => k_is); (case a49 => k_is); (case l49 => k_is); (case c49 => k_is); (case k49 => k_is); (case a50 => k_is); (case l50 => k_is); (case c50 => k_is); (case k50 => k_is); (case aCA => k_is); (case xLA => k_is); (case saA => k_is); (case nwA => k_is); (case iIA => k_is); (case tIA => k_is); (case lIA => k_is); (case cIA => k_is); (case kIA => k_is); (case kCA => k_is); (case eCA => k_is); (case tCA => k_is); (case aCN => k_is); (case xLN => k_is); (case saN => k_is); (case nwN => k_is); (case iIN => k_is); (case tIN => k_is); (case lIN => k_is); (case cIN => k_is); (case kIN => k_is); (case kCN => k_is); (case eCN => k_is); (case tCN => k_is); (case aT => k_is); (case iT => k_is); (case jT => k_is); (case lT => k_is); (case cT => k_is); (case kT => k_is); (case pgT => k_is); (case hdT => k_is); (case poT => k_is); (case saT => k_is); (case mkT => k_is); (case kcT => k_is); (case nkT => k_is); (case ntT => k_is); (case mL => k_is); (case m1 => k_is); (case m2 => k_is); (case m3 => k_is); (case aZ => k_is); (case zL => k_is); (case aG => k_is); (case z_isinstance => k_is); (case z_int => k_is); (case z_bool => k_is); (case z_str => k_is); (case z_tuple => k_is); (case z_list => k_is); (case z_len => k_is); (case z_abs => k_is); (case z_range => k_is); (case z_zip => k_is); (case z_all => k_is); (case z_any => k_is); (case z_repr => k_is); (case z_enumerate => k_is); (case z_sorted => k_is); (case z_set => k_is)
