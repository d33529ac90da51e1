import PyProof.Rows.All
import Wide.All
import OpenK.AllK
import Wide.FinOn
import PyProof.ReprReads
import PyProof.ReprRoads
import PyProof.StrOps2
import HandS.ForMost
import HandS.Walk
import HandS.Style
import HandS.TupAny
import HandS.EndBits
import HandS.IsInst
import HandS.Gcd
import HandS.Wide
import HandS.Zip
import HandS.ForExc
import HandS.ExcInit
import KE.KExcIs
import HandS.ExcIs
import HandS.ExcField
import HandS.Deep
import HandS.FStrTup
import KE.GoesEnum
import HandS.Iter
import HandS.Dict
import HandS.SetKeys
import PyProof.DictMoreH
import KE.KDictWalk
import HandS.SetFor
import HandS.Strs
import HandS.Conv
import HandS.TupMul
import HandS.DictComp
import HandS.RevRange
import PyProof.WalksMore
import HandS.RaiseMore
import HandS.Flow
import HandS.EndTab
import PyProof.ReprLen
import HandS.TupSets
import HandS.TupLe
import HandS.SortOrd
import PyProof.SetRoads
import HandS.List
import PyProof.Rows.SortStr
import HandS.OwnEq
import HandS.TryOnly
import HandS.Codes
import HandS.Defaults
import KE.GoesNew
import KE.KeyNested
import KE.SortData
import KE.KDictKeyed
import PyProof.DictRoadsH
import PySem.Challenge.RW_centsatonce_k04_whole_classes_alone_coun
set_option Elab.async false
set_option linter.all false
set_option maxRecDepth 100000
set_option maxHeartbeats 8000000
set_option exponentiation.threshold 10000
namespace VG
open PySem PySem.Spec PyProof.Rows L2
structure FnG (P : Program) (w : World) (K : PySem.W.Frag) (mg : Str → Option Value) (base : Heap) (k : Nat) (f : Addr) (fd : FuncData) (ps : List Str) (sp : Sp) : Prop where
  len : ∀ vs H Q E, sp vs H Q E → vs.length = ps.length
  run : ∀ (A : Around) (outer : List Env) (s : Shared) (H : Hp) (args : Args) (us : List Value) (vs : List V) (Q : VK) (E : XK),
    A.guards = some [] → Room k A → Env0 P w K mg base A outer s H → BindsTo s fd args (ps.zip us) → Vals vs us → sp vs H Q E →
    codeAny (model P w) A (.call (.ref f) args) (CR CX0 outer P w H s Q E) s
section
variable {P : Program} {w : World} {K : PySem.W.Frag} {mg : Str → Option Value} {base : Heap}
theorem fnG_of {k : Nat} {f : Addr} {x qual : Str} {st : Stmt} {fd : FuncData} {N ps : List Str} {sp : Sp} (F : Fun K x qual st f fd) (S : FnScope N ps (defScope st))
    (hlen : ∀ vs H Q E, sp vs H Q E → vs.length = ps.length)
    (hb : ∀ (cdv : Value) (A : Around) (outer : List Env) (s : Shared) (H : Hp) (vs : List V) (Q : VK) (E : XK), A.guards = some [] →
      Room k (A.deeper (envOfC qual (defScope st) s.heap.objs.size f cdv)) → sp vs H Q E →
      ∃ t, PSs (cxOf CX0 P w K mg base N qual (defScope st) f cdv A outer s H E).nox (defBody st) t ∧ t { nx := fun _ H' => Q .non H', rt := Q } (start N vs) H) :
    FnG P w K mg base (k + 1) f fd ps sp := by
  obtain ⟨oc, od, kV, doc, pm, an, cdv, ct, osl, rfl, lk, hcd⟩ := F.ex
  constructor
  · exact hlen
  · intro A outer s H args us vs Q E hg hr e0 hbi r hsp
    have nl := hlen _ _ _ _ hsp
    have inK : K.In s.heap := e0.mod.kin.keeps fun b o z => (e0.bs b o z).1
    have noL : s.heap.NoLimit := e0.mod.nolimit.keeps fun b o z => (e0.bs b o z).1
    have kinds : ∀ y ∈ ps.zip us, (defScope st).names.lookup y.1 = some .local ∨
        ((defScope st).names.lookup y.1 = some .cell ∧ ((cellsFrom (s.heap.objs.size + 1) (defScope st).names []).lookup y.1).isSome = true) := by
      intro y hy
      obtain ⟨n, v⟩ := y
      cases S.par n (List.of_mem_zip hy).1 with
      | inl q => exact Or.inl q
      | inr q => exact Or.inr ⟨q, PySem.W.cellsFrom_some _ _ _ (.inl q)⟩
    apply codeAny_call_function hr.depth (inK _ _ lk) rfl S.co S.gen rfl (PySem.W.codeRec_of inK hcd) (hbi _ _ _ _ _)
    apply wpAny_newFunctionEnv_cells S.kind kinds
    intro env he s1 xx
    subst he
    refine And.intro (noL.keeps xx.toInCall.keep) (codeAny_func ?_)
    obtain ⟨t, ht, hq⟩ := hb cdv A outer s H vs Q E hg (hr.deeper _) hsp
    have I := inv_start (CX := CX0) (P := P) (w := w) (E := E) S hr.hd e0 nl r xx
    apply wpAny_mono (ht.nox.run [] s1 (start N vs) H _ I hq)
    · intro fl s' hs
      cases fl with
      | ret u =>
        obtain ⟨v, σ', H', J, rv, q⟩ := hs
        exact ⟨v, H', J.os, J.bare, J.base, J.hok, rv, q⟩
      | next =>
        obtain ⟨σ', H', J, q⟩ := hs
        exact ⟨V.non, H', J.os, J.bare, J.base, J.hok, rfl, q⟩
      | brk =>
        obtain ⟨_, _, _, q⟩ := hs
        exact False.elim q
      | cont =>
        obtain ⟨_, _, _, q⟩ := hs
        exact False.elim q
    · intro e s' hs
      exact hs
end
theorem law_callG {P : Program} {w : World} {K : PySem.W.Frag} {mg mb : Str → Option Value} {k : Nat} {fa a : Addr} {fd : FuncData} {x : Str} {sp : Sp} {s₁ : Shared} {vs : List Value} {ns : List Int}
    (KX : K.In s₁.heap) (hns : s₁.heap.Ns mainGlobals mg) (hb : s₁.heap.Ns builtinsNs mb) (hbb : ∀ x : Str, x ≠ "__name__" → mb x = bootBuiltins x) (hlim : s₁.heap.NoLimit) (hg : s₁.gens = #[])
    (ha : s₁.heap.get? a = some { cls := .type "list", data := .seq vs.toArray }) (hi : IntsAre vs ns) (hl : ns.length ≤ sizeLine) (hr : Room k callerA)
    (F : ∀ base : Heap, K.In base → base.Ns mainGlobals mg → FnG P w K mg base k fa fd [x] sp) (hbind : ∀ (s : Shared) (u : Value), BindsTo s fd ⟨[u], []⟩ [(x, u)])
    (hsp : ∀ H : Hp, Only H → SqL K H a (ns.map V.int) → sp [.ref a] H (fun v _ => v = .bl true) fun _ _ _ => False) :
    codeAny (model P w) callerA (.call (.ref fa) ⟨[.ref a], []⟩) (fun r s' => r = .ok (.ret (.bool true)) ∧ OldK s₁.heap s'.heap ∧ s'.os = s₁.os ∧ AllBare s'.gens) s₁ := by
  have rv := vals_ints hi
  have nV := hi.length
  have main : ∀ H : Hp, Only H → SqL K H a (ns.map V.int) → HOk P w H s₁.heap → (∀ b, H b ≠ none → b = a) → (H a ≠ none → K.lookup a = none) →
      codeAny (model P w) callerA (.call (.ref fa) ⟨[.ref a], []⟩) (fun r s' => r = .ok (.ret (.bool true)) ∧ OldK s₁.heap s'.heap ∧ s'.os = s₁.os ∧ AllBare s'.gens) s₁ := by
    intro H hO hS hok hA hK
    have only : ∀ {b : Addr}, b ≠ a → H b = none := by
      intro b hne
      cases q : H b with
      | none => rfl
      | some u => exact absurd (hA b (by rw [q]; exact Option.some_ne_none u)) hne
    have nsK : ∀ {b : Addr} {m : Str → Option Value}, s₁.heap.Ns b m → (hidT s₁.heap H).Ns b m := by
      intro b m z
      obtain ⟨o, es, ep, e, d, r⟩ := z
      refine ⟨o, es, ep, hidT_get e (only ?_), d, r⟩
      intro z
      subst z
      rw [ha] at e
      cases e
      cases d
    have inB : K.In (hidT s₁.heap H) := by
      intro b o e
      refine hidT_get (KX b o e) ?_
      cases q : H b with
      | none => rfl
      | some u =>
        have hb2 : b = a := hA b (by rw [q]; exact Option.some_ne_none u)
        subst hb2
        have := hK (by rw [q]; exact Option.some_ne_none u)
        rw [this] at e
        cases e
    have hM : Mod K mg (hidT s₁.heap H) := ⟨inB, nsK hns, ⟨mb, nsK hb, hbb⟩, by
      obtain ⟨mc, h1, h2⟩ := hlim
      exact ⟨mc, nsK h1, h2⟩⟩
    have e0 : Env0 P w K mg (hidT s₁.heap H) callerA [] s₁ H :=
      ⟨rfl, hM, fun b o e => of_hidT e, Nat.le_of_eq (hidT_size _ _), trivial, fun b hb => absurd (show b ∈ ([] : List Addr) from hb) List.not_mem_nil, hok, .of_eq hg⟩
    have run := (F _ inB (nsK hns)).run callerA [] s₁ H ⟨[.ref a], []⟩ [.ref a] [.ref a] _ _ rfl hr e0 (hbind s₁ (.ref a)) (.cons rfl .nil) (hsp H hO hS)
    apply codeAny_mono run
    intro r s' h
    match r, h with
    | .ok (.ret u), h =>
      obtain ⟨v, H', os, bare, un, hok', r', q⟩ := h
      have q' : v = .bl true := q
      subst q'
      have r2 : u = Value.bool true := r'
      subst r2
      refine ⟨rfl, OldK.of_keep ?_, os, bare⟩
      intro b o e
      cases q : H b with
      | none => exact un.keep b o e q (fun z => absurd (show b ∈ ([] : List Addr) from z) List.not_mem_nil) List.not_mem_nil
      | some u =>
        rcases hO b with z | ⟨ob, xs, z⟩
        · rw [q] at z
          cases z
        · have z2 := un.frzs b ob _ z
          have w1 := (hok b _ z).1
          have w2 := (hok' b _ z2).1
          rw [e] at w1
          cases w1
          exact w2
  cases hk : K.lookup a with
  | some o =>
    have e := KX a o hk
    rw [ha] at e
    cases e
    refine main (fun _ => none) (fun _ => .inl rfl) (.inr ⟨_, vs.toArray, _, hk, rfl, rfl, rfl, ?_, ?_⟩) (fun b u z => ?_) (fun b z => absurd rfl z) (fun z => absurd rfl z)
    · rw [List.size_toArray, nV]
      exact hl
    · simpa using rv
    · exact absurd (show (none : Option HO) = some u from z) (Option.some_ne_none u).symm
  | none =>
    refine main (fun b => if b = a then some (.frz { cls := .type "list", data := .seq vs.toArray } (.lst (ns.map V.int))) else none) ?_ (.inl (.inr ⟨{ cls := .type "list", data := .seq vs.toArray }, if_pos rfl⟩)) ?_ ?_ (fun _ => hk)
    · intro b
      by_cases hb : b = a
      · exact .inr ⟨_, _, if_pos hb⟩
      · exact .inl (if_neg hb)
    · intro b u z
      by_cases hb : b = a
      · subst hb
        have z' := (if_pos rfl).symm.trans z
        cases z'
        refine ⟨ha, ?_, vs, _, rv, ha⟩
        rw [List.length_map]
        exact hl
      · have z' := (if_neg hb).symm.trans z
        cases z'
    · intro b z
      by_cases hb : b = a
      · exact hb
      · exact absurd (if_neg hb) z
theorem walk_G {l : PySem.W.OpenLaw} {n k : Nat} {q : Program} {loose : List Str} {XP : (Str → Option Value) → Heap → Prop} {YP : World → Heap → Prop} {d : DefRec} {K : Params → PySem.W.Frag} {sp : World → Sp} {x : Str}
    (hn : l.most = some n) (hn2 : n ≤ sizeLine) (hdf : d.params.defaults = []) (hr : Room k callerA)
    (hY : ∀ (w : World) (h : Heap), YP w h → (K w.params).In h)
    (F : ∀ (w : World) (mg : Str → Option Value) (fa : Addr) (h : Heap), (K w.params).In h → h.Ns mainGlobals mg → mg d.name = some (.ref fa) →
      ∃ fd : FuncData, (∀ (s : Shared) (u : Value), BindsTo s fd ⟨[u], []⟩ [(x, u)]) ∧
        ∀ base : Heap, (K w.params).In base → base.Ns mainGlobals mg → FnG l.prog w (K w.params) mg base k fa fd [x] (sp w))
    (hsp : ∀ (w : World) (H : Hp) (a : Addr) (ns : List Int), ns.length ≤ n → (∀ z ∈ ns, Builtin.Int.intBits z ≤ 1048576) → Only H → SqL (K w.params) H a (ns.map V.int) → sp w [.ref a] H (fun v _ => v = .bl true) fun _ _ _ => False) :
    PySem.W.WalkO q loose XP YP l.row.toRowW d [] (fun f vs => PySem.call f vs) := by
  apply Att.attach_callB hn hdf
  intro w s₀ s₁ mg mb fa o pm cd doc a vs ns G Y ho hd hcd hmg hobj hints hlen hbits hg
  have KX := hY w _ Y
  obtain ⟨fd, hb, hF⟩ := F w mg fa _ KX G.T.g hmg
  exact law_callG KX G.T.g G.T.b G.T.builtins G.T.nolimit hg hobj hints (Nat.le_trans hlen hn2) hr hF hb fun H hO hS => hsp w H a ns hlen hbits hO hS
end VG
namespace VG
open PySem PySem.Spec PyProof.Rows L2
section
variable {X : Cx} {st : Stmt} {rest : List Stmt} {t u : TS}
def tCut (t u : TS) : TS := fun D σ H => ∃ J : L2.St → Hp → Prop, t { D with nx := J } σ H ∧ ∀ σ' H', J σ' H' → u D σ' H'
theorem pss_cut (h1 : PS X st t) (h2 : PSs X rest u) : PSs X (st :: rest) (tCut t u) := by
  constructor
  intro pins s σ H D I h
  obtain ⟨J, a, b⟩ := h
  apply wpAny_execs_cons
  apply thn (h1.run pins s σ H { D with nx := J } I a)
  intro f s1 q
  cases f with
  | next =>
    obtain ⟨σ', H', I', q⟩ := q
    exact h2.run pins s1 σ' H' D I' (b σ' H' q)
  | ret v => exact q
  | brk => exact q
  | cont => exact q
end
section
variable {X : Cx} {e : Expr} {c : TT} {te : TE}
def tMeetE (te : TE) : TE := fun σ H Q => ∃ J : V → Hp → Prop, te σ H J ∧ ∀ v H', J v H' → Q v H'
theorem pe_meet (h : PE X e te) : PE X e (tMeetE te) := by
  constructor
  intro pins s σ H Q I hh
  obtain ⟨J, a, b⟩ := hh
  apply thn (h.run pins s σ H J I a)
  intro d s1 q
  obtain ⟨v, H', I', r, q⟩ := q
  exact ⟨v, H', I', r, b _ _ q⟩
end
structure Cl (P : Program) (w : World) (K : PySem.W.Frag) (mg : Str → Option Value) (base : Heap) (k : Nat) (x : Str) (sp : Sp) : Prop where
  ex : ∃ (f : Addr) (fd : FuncData) (ps : List Str), FnOk P w K mg base CX0 k f fd ps sp ∧ mg x = some (.ref f) ∧ PySem.W.keepIn K (.ref f) = true ∧ Binds K fd ps []
section
variable {X : Cx} {k j : Nat} {x : Str} {sp : Sp} {p pos : Pos} {e : Expr} {es : List Expr} {t : TA}
theorem pe_cl (c : Cl X.prog X.w X.K X.mg X.base k x sp) (hr : Room j X.A) (hk : k ≤ j) (hg : Gl X x) (ha : PA X (e :: es) t)
    (h1 : (x == ("__debug__" : Str)) = false := by decide) (h2 : starEach (e :: es) X.env = (false, eval e X.env) :: starEach es X.env := by rfl)
    (h3 : (backTo pos (starEach es X.env)).any (·.1) = false := by rfl) : PE X (.Call (.Name x p) (e :: es) [] pos) (tCall sp [] E0 t) :=
  let ⟨_, _, _, F, m, kp, b⟩ := c.ex
  pe_call F (hr.mono hk) hg m kp b .nil pass0 ha h1 h2 h3
/-- a module's name that holds a text -/
theorem pe_gs {z : Str} (hg : Gl X x) (h : ∃ u, X.mg x = some (.str z u)) (h1 : (x == ("__debug__" : Str)) = false := by decide) :
    PE X (.Name x pos) (tC (.str z)) := by
  obtain ⟨u, m⟩ := h
  exact pe_glob (v := .str z) hg m ⟨u, rfl⟩ h1
/-- repr of data, where no repr is under way -/
def rRepr (K : PySem.W.Frag) : List V → Hp → VK → Prop := fun xs H Q =>
  ∃ a d, xs = [.ref a] ∧ Dp K H (.ref a) d ∧ d.showable = true ∧ d.hasDict = false ∧ d.depth ≤ 60 ∧ d.shown.length ≤ sizeLine ∧ Q (.str d.shown) H
theorem cr_repr (hg : X.A.guards = some []) (hu : X.A.units + 64 < cLine) : CallR X (.builtin "repr") (rRepr X.K) := by
  intro pins s σ H vs us Q I r h
  obtain ⟨a, d, rfl, hd, h1, h2, h3, h4, q⟩ := h
  rw [Vals.ref1 r]
  obtain ⟨as, rd⟩ := Dp.reads I d (.ref a) (.ref a) hd rfl
  refine repr_of_reads' rd h1 (PyData.noDict_hsm h2) hg (by omega) (fun _ _ z => z) (fun h' u tk hk => ?_) h4
  exact ⟨.str d.shown, H, I.kept hk, ⟨u, rfl⟩, q⟩
end
end VG
namespace VG
open PySem PySem.Spec PyProof.Rows L2
structure ClK (P : Program) (w : World) (K : PySem.W.Frag) (mg : Str → Option Value) (base : Heap) (k : Nat) (x : Str) (ks : List Str) (sp : Sp) : Prop where
  ex : ∃ (f : Addr) (fd : FuncData) (ps : List Str), FnOk P w K mg base CX0 k f fd ps sp ∧ mg x = some (.ref f) ∧ PySem.W.keepIn K (.ref f) = true ∧ KBinds K fd ps ks (fun us ws => us ++ ws) (fun vs zs => vs ++ zs)
section
variable {X : Cx} {k j : Nat} {x : Str} {sp : Sp} {p pos : Pos} {kws : List Keyword} {ks : List Str} {tk : TA}
def tCallK0 (sp : Sp) (tk : TA) : TE := fun σ H Q => tk σ H fun zs H2 => sp zs H2 Q E0
theorem pe_clk0 (c : ClK X.prog X.w X.K X.mg X.base k x ks sp) (hr : Room j X.A) (hk : k ≤ j) (hg : Gl X x) (hkw : PK X kws tk)
    (h1 : (backToKw pos (keywordEach kws X.env)).all (·.1.isSome) = true := by rfl) (h2 : (backToKw pos (keywordEach kws X.env)).filterMap (·.1) = ks := by rfl)
    (h3 : (x == ("__debug__" : Str)) = false := by decide) (h4 : ((backTo pos (starEach [] X.env)).any (·.1) || (backToKw pos (keywordEach kws X.env)).any (·.1.isNone)) = false := by rfl) :
    PE X (.Call (.Name x p) [] kws pos) (tCallK0 sp tk) := by
  obtain ⟨f, fd, ps, F, m, kp, b⟩ := c.ex
  constructor
  intro pins s σ H Q I h
  apply wpAny_Call_Name_kw
  apply ld_glob I hg m _ h3
  apply PySem.W.callWith_KW0 (h₀ := X.base) I.ok.mod.kin kp h1 _ h4
  apply thn (hkw.run pos pins s σ H _ I h)
  intro ws s2 hh
  obtain ⟨zs, H2, I2, rz, q2⟩ := hh
  refine And.intro I2.kIn ?_
  rw [h2]
  exact run_fnk (us := []) (vs := []) F (hr.mono hk) b pass0 I2 .nil rz q2
end
section
variable {P : Program} {w : World} {K : PySem.W.Frag} {mg : Str → Option Value} {base : Heap}
/-- one parameter, given by position or by its name -/
theorem kbinds_one {x qual p : Str} {st : Stmt} {f : Addr} {fd : FuncData} (F : Fun K x qual st f fd)
    (h1 : ∀ (kV doc pm : Value) (an : Option Addr) (cdv ct u : Value), bindArgs (PySem.W.fnOf x qual (defArgs st) (defBody st) (defScope st) .none kV doc pm an cdv ct) ⟨[u], []⟩ = pure [(p, u)])
    (h2 : ∀ (kV doc pm : Value) (an : Option Addr) (cdv ct u : Value), bindArgs (PySem.W.fnOf x qual (defArgs st) (defBody st) (defScope st) .none kV doc pm an cdv ct) ⟨[], [(p, u)]⟩ = pure [(p, u)]) :
    KBinds K fd [p] [p] (fun us ws => us ++ ws) (fun vs zs => vs ++ zs) := by
  obtain ⟨oc, od, kV, doc, pm, an, cdv, ct, osl, rfl, lk, hcd⟩ := F.ex
  constructor
  · intro s us ws _ hl
    match us, ws, hl with
    | [u], [], _ => exact .of_eq (h1 kV doc pm an cdv ct u)
    | [], [u], _ => exact .of_eq (h2 kV doc pm an cdv ct u)
    | [], [], hl => cases hl
    | [], _ :: _ :: _, hl => cases hl
    | [_], _ :: _, hl => cases hl
    | _ :: _ :: _, ws, hl =>
      simp at hl
  · intro vs us zs ws r1 r2
    exact r1.append r2
end
end VG
namespace M2
def g (a b : Int) : Nat := Nat.gcd a.natAbs b.natAbs
/-- bottom above 0, no common divisor -/
def Low (a b : Int) : Prop := 0 < b ∧ g a b = 1
theorem Low.pos {a b : Int} (h : Low a b) : 0 < b := h.1
/-- fraction_of of the text, for a bottom that is not 0 -/
def mk (a b : Int) : Int × Int :=
  let s : Int := if b < 0 then -(g a b : Int) else (g a b : Int)
  (a.fdiv s, b.fdiv s)
theorem g_pos {a b : Int} (h : b ≠ 0) : 0 < g a b := Nat.gcd_pos_of_pos_right _ (Int.natAbs_pos.mpr h)
theorem dvd_l (a b : Int) : (g a b : Int) ∣ a := Int.ofNat_dvd_left.mpr (Nat.gcd_dvd_left _ _)
theorem dvd_r (a b : Int) : (g a b : Int) ∣ b := Int.ofNat_dvd_left.mpr (Nat.gcd_dvd_right _ _)
/-- dividing both by the greatest common divisor -/
theorem div_low {a b : Int} (h : 0 < b) : Low (a / (g a b : Int)) (b / (g a b : Int)) := by
  have gp := g_pos (a := a) (b := b) (by omega)
  obtain ⟨x, hx⟩ := dvd_l a b
  obtain ⟨y, hy⟩ := dvd_r a b
  have gne : (g a b : Int) ≠ 0 := by omega
  have ex : a / (g a b : Int) = x := by rw [Int.ediv_eq_of_eq_mul_right gne hx]
  have ey : b / (g a b : Int) = y := by rw [Int.ediv_eq_of_eq_mul_right gne hy]
  rw [ex, ey]
  have ax : a.natAbs = g a b * x.natAbs := by
    have := congrArg Int.natAbs hx
    rwa [Int.natAbs_mul, Int.natAbs_natCast] at this
  have by' : b.natAbs = g a b * y.natAbs := by
    have := congrArg Int.natAbs hy
    rwa [Int.natAbs_mul, Int.natAbs_natCast] at this
  constructor
  · rcases Int.lt_or_le 0 y with z | z
    · exact z
    · exfalso
      have : (g a b : Int) * y ≤ 0 := Int.mul_nonpos_of_nonneg_of_nonpos (by omega) z
      omega
  · have e : g a b = g a b * g x y := by
      have : Nat.gcd (g a b * x.natAbs) (g a b * y.natAbs) = g a b * Nat.gcd x.natAbs y.natAbs := Nat.gcd_mul_left _ _ _
      unfold g at this ⊢
      rw [← this]
      show Nat.gcd a.natAbs b.natAbs = _
      unfold g at ax by'
      rw [← ax, ← by']
    have e2 : g a b * 1 = g a b * g x y := by rw [Nat.mul_one]; exact e
    exact (Nat.eq_of_mul_eq_mul_left gp e2).symm
theorem g_neg (a b : Int) : g (-a) (-b) = g a b := by
  unfold g
  rw [Int.natAbs_neg, Int.natAbs_neg]
theorem mk_pos {a b : Int} (h : 0 < b) : mk a b = (a / (g a b : Int), b / (g a b : Int)) := by
  have gp := g_pos (a := a) (b := b) (by omega)
  unfold mk
  rw [if_neg (by omega)]
  show (a.fdiv (g a b : Int), b.fdiv (g a b : Int)) = _
  rw [Int.fdiv_eq_ediv_of_nonneg _ (by omega), Int.fdiv_eq_ediv_of_nonneg _ (by omega)]
theorem mk_neg {a b : Int} (h : b < 0) : mk a b = mk (-a) (-b) := by
  have gp := g_pos (a := a) (b := b) (by omega)
  rw [mk_pos (by omega : 0 < -b)]
  unfold mk
  rw [if_pos h, g_neg]
  show (a.fdiv (-(g a b : Int)), b.fdiv (-(g a b : Int))) = _
  obtain ⟨x, hx⟩ := dvd_l a b
  obtain ⟨y, hy⟩ := dvd_r a b
  have gne : (g a b : Int) ≠ 0 := by omega
  have e1 : a = -(g a b : Int) * -x := by rw [Int.neg_mul_neg]; exact hx
  have e2 : b = -(g a b : Int) * -y := by rw [Int.neg_mul_neg]; exact hy
  have e3 : -a = (g a b : Int) * -x := by rw [Int.mul_neg, ← hx]
  have e4 : -b = (g a b : Int) * -y := by rw [Int.mul_neg, ← hy]
  have n : -(g a b : Int) ≠ 0 := by omega
  have f1 : a.fdiv (-(g a b : Int)) = -x := by
    have : (-(g a b : Int) * -x).fdiv (-(g a b : Int)) = -x := Int.mul_fdiv_cancel_left _ n
    rw [← e1] at this
    exact this
  have f2 : b.fdiv (-(g a b : Int)) = -y := by
    have : (-(g a b : Int) * -y).fdiv (-(g a b : Int)) = -y := Int.mul_fdiv_cancel_left _ n
    rw [← e2] at this
    exact this
  rw [f1, f2, Int.ediv_eq_of_eq_mul_right gne e3, Int.ediv_eq_of_eq_mul_right gne e4]
theorem mk_low {a b : Int} (h : b ≠ 0) : Low (mk a b).1 (mk a b).2 := by
  rcases Int.lt_or_lt_of_ne h with z | z
  · rw [mk_neg z, mk_pos (by omega)]
    exact div_low (by omega)
  · rw [mk_pos z]
    exact div_low z
/-- it is the same fraction -/
theorem mk_eq {a b : Int} (h : b ≠ 0) : (mk a b).1 * b = a * (mk a b).2 := by
  have key : ∀ a b : Int, 0 < b → (mk a b).1 * b = a * (mk a b).2 := by
    intro a b hb
    rw [mk_pos hb]
    show a / (g a b : Int) * b = a * (b / (g a b : Int))
    obtain ⟨x, hx⟩ := dvd_l a b
    obtain ⟨y, hy⟩ := dvd_r a b
    have gne : (g a b : Int) ≠ 0 := by
      have := g_pos (a := a) (b := b) (by omega)
      omega
    rw [Int.ediv_eq_of_eq_mul_right gne hx, Int.ediv_eq_of_eq_mul_right gne hy]
    calc x * b = x * ((g a b : Int) * y) := by rw [← hy]
      _ = ((g a b : Int) * x) * y := by rw [← Int.mul_assoc, Int.mul_comm x]
      _ = a * y := by rw [← hx]
  rcases Int.lt_or_lt_of_ne h with z | z
  · rw [mk_neg z]
    have := key (-a) (-b) (by omega)
    rw [Int.mul_neg, Int.neg_mul] at this
    omega
  · exact key a b z
theorem natAbs_div_le (a : Int) {d : Int} (h : 0 < d) : (a / d).natAbs ≤ a.natAbs := Int.natAbs_ediv_le_natAbs a d
/-- in lowest terms there is just one pair -/
theorem low_eq {a b c d : Int} (h1 : Low a b) (h2 : Low c d) (h : a * d = c * b) : a = c ∧ b = d := by
  have e : a.natAbs * d.natAbs = c.natAbs * b.natAbs := by rw [← Int.natAbs_mul, ← Int.natAbs_mul, h]
  have c1 : Nat.Coprime a.natAbs b.natAbs := h1.2
  have c2 : Nat.Coprime c.natAbs d.natAbs := h2.2
  have d1 : b.natAbs ∣ d.natAbs := c1.symm.dvd_of_dvd_mul_left ⟨c.natAbs, by rw [e, Nat.mul_comm]⟩
  have d2 : d.natAbs ∣ b.natAbs := c2.symm.dvd_of_dvd_mul_left ⟨a.natAbs, by rw [← e, Nat.mul_comm]⟩
  have eb : b.natAbs = d.natAbs := Nat.dvd_antisymm d1 d2
  have hb := h1.1
  have hd := h2.1
  have ebd : b = d := by omega
  subst ebd
  exact ⟨Int.eq_of_mul_eq_mul_right (by omega) h, rfl⟩
/-- added of the text -/
def add (p q : Int × Int) : Int × Int :=
  let s : Int := g p.2 q.2
  let rest := p.2 / s
  let high := p.1 * (q.2 / s) + q.1 * rest
  let common : Int := g high s
  (high / common, rest * (q.2 / common))
end M2
namespace FR
open PySem PySem.Spec PyProof.Rows L2 VG
abbrev Q2 := Int × Int
def pV (p : Q2) : List V := [.int p.1, .int p.2]
def Bt (n : Nat) (p : Q2) : Prop := p.1.natAbs < 2 ^ n ∧ p.2.natAbs < 2 ^ n
theorem Bt.mono {m n : Nat} {p : Q2} (h : Bt m p) (hm : m ≤ n) : Bt n p := ⟨Nat.lt_of_lt_of_le h.1 (Nat.pow_le_pow_right (by decide) hm), Nat.lt_of_lt_of_le h.2 (Nat.pow_le_pow_right (by decide) hm)⟩
theorem same_upd {H : Hp} {p : Addr} {o : HO} (h : H p = none) : Same H (upd H p o) := fun b x e => by
  rw [upd_ne (ne_of_none e h)]
  exact e
theorem seqT {K : PySem.W.Frag} {H H' : Hp} {a : Addr} {xs : List V} (e : Same H H') (h : SqT K H a xs) : SqT K H' a xs := by
  rcases h with (h | ⟨o, h⟩) | h
  · exact .inl (.inl (e _ _ h))
  · exact .inl (.inr ⟨o, e _ _ h⟩)
  · exact .inr h
theorem tyT {K : PySem.W.Frag} {H : Hp} {a : Addr} {xs : List V} (h : SqT K H a xs) : TyX K H (.ref a) (.type "tuple") := by
  rcases h with (h | ⟨o, h⟩) | ⟨o, its, n, h1, h2, h3⟩
  · exact .base (.tup h)
  · exact .fTuple h
  · exact .kTuple h1 h2
theorem kb1 {K : PySem.W.Frag} : PySem.W.kitOne K (.type "int") (.type "int") = some true := kit_ty (by decide +kernel)
theorem kb2 {K : PySem.W.Frag} : PySem.W.kitOne K (.type "int") (.type "bool") = some false := kit_ty (by decide +kernel)
def Frs (K : PySem.W.Frag) (H : Hp) : List V → List Q2 → Prop
  | [], [] => True
  | v :: vs, p :: ps => (∃ t, v = .ref t ∧ SqT K H t (pV p)) ∧ Frs K H vs ps
  | _, _ => False
theorem Frs.mono {K : PySem.W.Frag} {H H' : Hp} (e : Same H H') : ∀ {vs : List V} {ps : List Q2}, Frs K H vs ps → Frs K H' vs ps
  | [], [], _ => trivial
  | _ :: _, _ :: _, ⟨⟨t, e1, h⟩, r⟩ => ⟨⟨t, e1, seqT e h⟩, r.mono e⟩
  | [], _ :: _, h => h.elim
  | _ :: _, [], h => h.elim
theorem Frs.len {K : PySem.W.Frag} {H : Hp} : ∀ {vs : List V} {ps : List Q2}, Frs K H vs ps → vs.length = ps.length
  | [], [], _ => rfl
  | _ :: _, _ :: _, h => by rw [List.length_cons, List.length_cons, h.2.len]
  | [], _ :: _, h => h.elim
  | _ :: _, [], h => h.elim
theorem Frs.get {K : PySem.W.Frag} {H : Hp} : ∀ {vs : List V} {ps : List Q2} {i : Nat} {v : V}, Frs K H vs ps → vs[i]? = some v → ∃ t p, v = .ref t ∧ ps[i]? = some p ∧ SqT K H t (pV p)
  | [], [], _, _, _, h => by simp at h
  | a :: _, p :: _, 0, v, h, e => by
    have e1 : a = v := Option.some.inj e
    subst e1
    obtain ⟨t, e2, q⟩ := h.1
    exact ⟨t, p, e2, rfl, q⟩
  | _ :: vs, _ :: ps, i + 1, v, h, e => h.2.get (i := i) e
  | [], _ :: _, _, _, h, _ => h.elim
  | _ :: _, [], _, _, h, _ => h.elim
theorem Frs.snoc {K : PySem.W.Frag} {H : Hp} {t : Addr} {p : Q2} (hv : SqT K H t (pV p)) : ∀ {vs : List V} {ps : List Q2}, Frs K H vs ps → Frs K H (vs ++ [.ref t]) (ps ++ [p])
  | [], [], _ => ⟨⟨t, rfl, hv⟩, trivial⟩
  | _ :: _, _ :: _, h => ⟨h.1, h.2.snoc hv⟩
  | [], _ :: _, h => h.elim
  | _ :: _, [], h => h.elim
/-- what a value is to is_fraction: a whole number, or none -/
def Part (K : PySem.W.Frag) (H : Hp) (x : V) (o : Option Int) : Prop :=
  (∃ a, x = .int a ∧ o = some a) ∨ (o = none ∧ ∃ (ty : String) (b1 b2 : Bool), TyX K H x (.type ty) ∧ kitB ty "int" = some b1 ∧ kitB ty "bool" = some b2 ∧ (b1 && !b2) = false)
def okFr : Option Int → Option Int → Bool
  | some a, some b => decide (0 < b) && decide (M2.g a b = 1)
  | _, _ => false
section
variable {P : Program} {w : World} {K : PySem.W.Frag} {mg : Str → Option Value} {base : Heap}
def spInt (K : PySem.W.Frag) : Sp := fun vs H Q _ => ∃ (v : V) (o : Option Int), vs = [v] ∧ Part K H v o ∧ Q (.bl o.isSome) H
def neg (p : Q2) : Q2 := (-p.1, p.2)
end
theorem at0 (x y : V) : atI [x, y] 0 = some x := rfl
theorem at1 (x y : V) : atI [x, y] 1 = some y := rfl
theorem mulW {i j : Int} (h1 : i.natAbs < 2 ^ 400000) (h2 : j.natAbs < 2 ^ 400000) : CMulW i j := wide_mul h1 h2 (by decide) (by decide) (by decide)
theorem up {n m : Nat} {x : Nat} (h : x < 2 ^ n) (hm : n ≤ m) : x < 2 ^ m := Nat.lt_of_lt_of_le h (Nat.pow_le_pow_right (by decide) hm)
end FR
namespace VG
open PySem PySem.Spec PyProof.Rows L2
theorem walk_zipT {K : PySem.W.Frag} {a b : Addr} {xs ys : List V} {n : Nat} (hn : n = min xs.length ys.length) : Walk (RZ.ItzT K a b) n (fun H => SqT K H a xs ∧ SqT K H b ys) (YPair (fun i => xs[i]?) (fun i => ys[i]?)) := by
  constructor
  · intro i H hi hG
    have h1 : i < xs.length := by omega
    have h2 : i < ys.length := by omega
    exact ⟨xs, ys, xs[i], ys[i], hG.1, hG.2, List.getElem?_eq_getElem h1, List.getElem?_eq_getElem h2⟩
  · intro H hG
    exact ⟨xs, ys, hG.1, hG.2, by omega⟩
  · intro i H v H' hi hG hy
    obtain ⟨T, x, y, e1, e2, e3, e4, e5⟩ := hy
    exact ⟨T, x, y, e1, e2, e3, e4 xs hG.1, e5 ys hG.2⟩
/-- a def that may let errors out, where it lets none -/
theorem fn_calm {P : Program} {w : World} {K : PySem.W.Frag} {mg : Str → Option Value} {base : Heap} {k : Nat} {f : Addr} {fd : FuncData} {ps : List Str} {sp : Sp} (F : FnOk P w K mg base (L2.CX P w) k f fd ps sp) :
    FnOk P w K mg base CX0 k f fd ps (fun vs H Q _ => sp vs H Q E0) := by
  constructor
  · intro vs H Q E h
    exact F.len vs H Q E0 h
  · intro A outer s H args us vs Q E hr e0 hb hv hs
    apply codeAny_mono (F.run A outer s H args us vs Q E0 hr e0 hb hv hs)
    intro r s' hh
    match r, hh with
    | .ok (.ret u), hh => exact hh
    | .ok .next, hh => exact hh
    | .ok .brk, hh => exact hh
    | .ok .cont, hh => exact hh
    | .error e, hh =>
      obtain ⟨_, _, _, _, _, _, _, _, _, _, _, _, h⟩ := hh
      exact h.elim
/-- what the written part says of an own error's class with an __init__ -/
structure ErrC (K : PySem.W.Frag) (mg : Str → Option Value) (x : Str) (C fI : Addr) : Prop where
  gC : mg x = some (.ref C)
  o : OexC K C
  iC : PySem.W.findIn K (.ref C) "__init__" = some (some (.ref fI))
  tI : PySem.W.typeIn K (.ref fI) = some (.type "function")
end VG
namespace FR
open PySem PySem.Spec PyProof.Rows L2 VG
theorem seqT_upd {K : PySem.W.Frag} {H : Hp} {D t : Addr} {xs ys : List V} {zs : List V} (hD : H D = some (.lst ys)) (h : SqT K H t xs) : SqT K (upd H D (.lst zs)) t xs := by
  rcases h with (h | ⟨o, h⟩) | h
  · refine .inl (.inl ?_)
    rw [upd_ne (by intro e; subst e; rw [hD] at h; cases h)]
    exact h
  · refine .inl (.inr ⟨o, ?_⟩)
    rw [upd_ne (by intro e; subst e; rw [hD] at h; cases h)]
    exact h
  · exact .inr h
theorem Frs.upd {K : PySem.W.Frag} {H : Hp} {D : Addr} {ys zs : List V} (hD : H D = some (.lst ys)) : ∀ {vs : List V} {ps : List Q2}, Frs K H vs ps → Frs K (L2.upd H D (.lst zs)) vs ps
  | [], [], _ => trivial
  | _ :: _, _ :: _, ⟨⟨t, e1, h⟩, r⟩ => ⟨⟨t, e1, seqT_upd hD h⟩, r.upd hD⟩
  | [], _ :: _, h => h.elim
  | _ :: _, [], h => h.elim
section
variable {P : Program} {w : World} {K : PySem.W.Frag} {mg : Str → Option Value} {base : Heap}
def spInitW (K : PySem.W.Frag) (C : Addr) (fld : Str) : Sp := fun vs H Q _ => ∃ (a : Addr) (v : V), vs = [.ref a, v] ∧ H a = some (exo a C none) ∧ ∀ dx, H dx = none → dx ≠ a → Q .non (upd (upd H dx (exd dx [(fld, v)])) a (exo a C (some dx)))
end
end FR
namespace VG
open PySem PySem.Spec PyProof.Rows L2
structure ClG (P : Program) (w : World) (K : PySem.W.Frag) (mg : Str → Option Value) (base : Heap) (k : Nat) (x : Str) (sp : Sp) : Prop where
  ex : ∃ (f : Addr) (fd : FuncData) (ps : List Str), FnG P w K mg base k f fd ps sp ∧ mg x = some (.ref f) ∧ PySem.W.keepIn K (.ref f) = true ∧ Binds K fd ps []
section
variable {X : Cx} {k j : Nat} {x : Str} {sp : Sp} {p pos : Pos} {e : Expr} {es : List Expr} {t : TA}
theorem run_clg {f : Addr} {fd : FuncData} {ps : List Str} {pins : List (Addr × Obj)} {σ : L2.St} {H : Hp} {s : Shared} {Q : VK} {us : List Value} {vs : List V} (F : FnG X.prog X.w X.K X.mg X.base k f fd ps sp) (hg : X.A.guards = some []) (hr : Room k X.A)
    (hb : Binds X.K fd ps []) (I : Inv X pins σ H s) (r : Vals vs us) (h : sp vs H Q E0) : wpAny (model X.prog X.w) X.A (call (.ref f) us) (EP X pins σ Q) X.xe s := by
  have hl : us.length = ps.length := by
    rw [← r.length]
    exact F.len _ _ _ _ h
  have hb2 := hb s us I.kIn (by rw [List.append_nil]; exact hl)
  rw [List.append_nil] at hb2
  apply wpAny_call
  apply codeAny_mono (F.run X.A X.stack s H ⟨us, []⟩ us vs Q E0 hg hr I.env0 hb2 r h)
  intro rr s' hq
  match rr, hq with
  | .ok (.ret u), hq => exact I.after hq
theorem pe_clg (c : ClG X.prog X.w X.K X.mg X.base k x sp) (hgd : X.A.guards = some []) (hr : Room j X.A) (hk : k ≤ j) (hg : Gl X x) (ha : PA X (e :: es) t)
    (h1 : (x == ("__debug__" : Str)) = false := by decide) (h2 : starEach (e :: es) X.env = (false, eval e X.env) :: starEach es X.env := by rfl)
    (h3 : (backTo pos (starEach es X.env)).any (·.1) = false := by rfl) : PE X (.Call (.Name x p) (e :: es) [] pos) (tCall sp [] E0 t) := by
  obtain ⟨f, fd, ps, F, m, kp, b⟩ := c.ex
  constructor
  intro pins s σ H Q I h
  apply wpAny_Call_Name_kw
  apply ld_glob I hg m _ h1
  apply PySem.W.callWith_K (h₀ := X.base) I.ok.mod.kin kp _ h2 h3
  apply thn (ha.run pos pins s σ H _ I h)
  intro us s1 hh
  obtain ⟨vs, H1, I1, r, q⟩ := hh
  refine And.intro I1.kIn ?_
  exact run_clg F hgd (hr.mono hk) b I1 r (by rw [← List.append_nil vs]; exact q)
end
end VG
namespace HD
open PySem PySem.Spec PyProof.Rows L2 VG
def Hd (p q : Addr) (H : Hp) : Prop := ∃ (cs : List Int) (st : Int), H p = some (.lst [.ref q, .int st]) ∧ H q = some (.lst (cs.map V.int)) ∧ cs.length ≤ 63 ∧ 0 ≤ st ∧ st < 2147483647
def Keep (p q : Addr) (H H' : Hp) : Prop := ∀ b o, b ≠ p → b ≠ q → H b = some o → H' b = some o
theorem Keep.refl (p q : Addr) (H : Hp) : Keep p q H H := fun _ _ _ _ h => h
theorem Keep.trans {p q : Addr} {H H1 H2 : Hp} (a : Keep p q H H1) (b : Keep p q H1 H2) : Keep p q H H2 := fun x o n1 n2 h => b x o n1 n2 (a x o n1 n2 h)
theorem Keep.new {p q n : Addr} {o : HO} {H : Hp} (h : H n = none) : Keep p q H (upd H n o) := fun b x _ _ e => by
  rw [upd_ne (ne_of_none e h)]
  exact e
theorem Keep.at1 {p q : Addr} {o : HO} {H : Hp} : Keep p q H (upd H p o) := fun b x h _ e => by
  rw [upd_ne h]
  exact e
theorem Keep.at2 {p q : Addr} {o : HO} {H : Hp} : Keep p q H (upd H q o) := fun b x _ h e => by
  rw [upd_ne h]
  exact e
theorem Hd.ne {p q : Addr} {H : Hp} (h : Hd p q H) : p ≠ q := by
  obtain ⟨cs, st, h1, h2, _⟩ := h
  intro e
  subst e
  rw [h1] at h2
  cases cs with
  | nil => cases h2
  | cons c r => cases h2
theorem Hd.new {p q n : Addr} {o : HO} {H : Hp} (h : Hd p q H) (hn : H n = none) : Hd p q (upd H n o) := by
  obtain ⟨cs, st, h1, h2, h3⟩ := h
  exact ⟨cs, st, by rw [upd_ne (ne_of_none h1 hn)]; exact h1, by rw [upd_ne (ne_of_none h2 hn)]; exact h2, h3⟩
theorem Hd.neOf {p q n : Addr} {o : HO} {H : Hp} (h : Hd p q H) (hn : H n = some o) (ho : ∀ xs, o ≠ .lst xs) : n ≠ p ∧ n ≠ q := by
  obtain ⟨cs, st, h1, h2, _⟩ := h
  constructor
  · intro e
    subst e
    rw [h1] at hn
    exact ho _ (Option.some.inj hn).symm
  · intro e
    subst e
    rw [h2] at hn
    exact ho _ (Option.some.inj hn).symm
theorem Hd.free {p q n : Addr} {H : Hp} (h : Hd p q H) (hn : H n = none) : n ≠ p ∧ n ≠ q := by
  obtain ⟨cs, st, h1, h2, _⟩ := h
  exact ⟨(ne_of_none h1 hn).symm, (ne_of_none h2 hn).symm⟩
theorem dpAll_ints (K : PySem.W.Frag) (H : Hp) : ∀ cs : List Int, DpAll K H (cs.map V.int) (cs.map PyData.int)
  | [] => .nil
  | c :: cs => .cons (.int c) (dpAll_ints K H cs)
theorem dp_ints {K : PySem.W.Frag} {H : Hp} {q : Addr} {cs : List Int} (h : SqL K H q (cs.map V.int)) : Dp K H (.ref q) (.list (cs.map PyData.int)) := .lst h (dpAll_ints K H cs)
theorem lay_ints : ∀ cs : List Int, PyData.canLayAll0 (cs.map PyData.int) = true
  | [] => rfl
  | c :: cs => by
    show (PyData.canLay0 (.int c) && PyData.canLayAll0 (cs.map PyData.int)) = true
    rw [lay_ints cs]
    rfl
theorem depth_ints : ∀ cs : List Int, PyData.depthAll (cs.map PyData.int) = 0
  | [] => rfl
  | c :: cs => by
    show max (PyData.depth (.int c)) (PyData.depthAll (cs.map PyData.int)) = 0
    rw [depth_ints cs]
    rfl
theorem shaped_ints (cs : List Int) : SeqAt.shaped (.list (cs.map PyData.int)) = true := by
  unfold SeqAt.shaped
  rw [Bool.and_eq_true]
  refine ⟨?_, decide_eq_true ?_⟩
  · show PyData.canLayAll0 (cs.map PyData.int) = true
    exact lay_ints cs
  · show PyData.depthAll (cs.map PyData.int) + 1 ≤ 64
    rw [depth_ints]
    decide
theorem shaped_nil : SeqAt.shaped (.list []) = true := by decide +kernel
theorem eqv_nil (cs : List Int) : PyData.eqv (.list (cs.map PyData.int)) (.list []) = decide (cs = []) := by
  cases cs with
  | nil => rfl
  | cons c r => rfl
section
variable {P : Program} {w : World} {K : PySem.W.Frag} {mg : Str → Option Value} {base : Heap}
/-- a draw: some number below many -/
def spDraw : Sp := fun vs H Q _ => ∃ (p q : Addr) (many : Int), vs = [.ref p, .int many] ∧ Hd p q H ∧ 0 < many ∧ many < 1073741824 ∧ ∀ (H' : Hp) (r : Int), Hd p q H' → Keep p q H H' → 0 ≤ r → r < many → Q (.int r) H'
/-- one of some -/
def spPick (K : PySem.W.Frag) : Sp := fun vs H Q _ => ∃ (p q l : Addr) (xs : List V), vs = [.ref p, .ref l] ∧ Hd p q H ∧ H l = some (.lst xs) ∧ l ≠ p ∧ l ≠ q ∧ xs ≠ [] ∧ xs.length < 1000000 ∧ ∀ (H' : Hp) (v : V), Hd p q H' → Keep p q H H' → v ∈ xs → Q v H'
end
theorem same_put {H H' : Hp} {L : Addr} {o : HO} (h : Same H H') (n : H L = none) : Same H (upd H' L o) := fun b x e => by
  rw [upd_ne (ne_of_none e n)]
  exact h b x e
theorem _root_.HD.Hd.same {p q : Addr} {H H' : Hp} (h : Hd p q H) (s : Same H H') : Hd p q H' := by
  obtain ⟨cs, st, h1, h2, h3⟩ := h
  exact ⟨cs, st, s _ _ h1, s _ _ h2, h3⟩
theorem snocL {α : Type} (cs : List α) (h : cs ≠ []) : ∃ c0 c, cs = c0 ++ [c] := ⟨cs.dropLast, cs.getLast h, (List.dropLast_concat_getLast h).symm⟩
theorem fmod_lt (a : Int) {m : Int} (h : 0 < m) : 0 ≤ a.fmod m ∧ a.fmod m < m := ⟨Int.fmod_nonneg_of_pos a h, Int.fmod_lt_of_pos a h⟩
end HD
namespace K2
open PySem PySem.Spec PyProof.Rows L2 VG FR HD
theorem cut_ints (ns : List Int) (lo hi : Option Int) : ∃ ms : List Int, cutV (ns.map V.int) lo hi = ms.map V.int ∧ ms.length ≤ ns.length := by
  refine ⟨(ns.drop (HT.sIx (ns.map V.int).length 0 lo)).take (HT.sIx (ns.map V.int).length (ns.map V.int).length hi - HT.sIx (ns.map V.int).length 0 lo), ?_, ?_⟩
  · unfold cutV
    rw [List.map_take, List.map_drop]
  · rw [List.length_take, List.length_drop]
    omega
end K2
namespace FR
open PySem PySem.Spec PyProof.Rows L2 VG HD
theorem seqTK {K : PySem.W.Frag} {H H' : Hp} {p q t : Addr} {xs : List V} (hd : Hd p q H) (kp : Keep p q H H') (h : SqT K H t xs) : SqT K H' t xs := by
  rcases h with (h | ⟨o, h⟩) | h
  · have n := hd.neOf h (fun ys z => by cases z)
    exact .inl (.inl (kp _ _ n.1 n.2 h))
  · have n := hd.neOf h (fun ys z => by cases z)
    exact .inl (.inr ⟨o, kp _ _ n.1 n.2 h⟩)
  · exact .inr h
/-- Euclid's steps -/
theorem half {x y : Nat} (h : y < x) (h0 : 0 < y) : 2 * (x % y) < x := by
  have h1 := Nat.mod_lt x h0
  have h2 := Nat.div_add_mod x y
  have h3 : 1 ≤ x / y := (Nat.one_le_div_iff h0).mpr (Nat.le_of_lt h)
  have h4 : y * 1 ≤ y * (x / y) := Nat.mul_le_mul_left y h3
  omega
/-- before the i-th step -/
def Eu (g0 : Nat) (i x y : Nat) : Prop := Nat.gcd x y = g0 ∧ y * 2 ^ (i / 2) < 2 ^ 900 ∧ (1 ≤ i → y < x ∧ x * 2 ^ ((i - 1) / 2) < 2 ^ 900)
theorem Eu.step {g0 i x y : Nat} (h : Eu g0 i x y) (h0 : 0 < y) : Eu g0 (i + 1) y (x % y) := by
  obtain ⟨h1, h2, h3⟩ := h
  have hm := Nat.mod_lt x h0
  refine ⟨?_, ?_, fun _ => ⟨hm, ?_⟩⟩
  · rw [← h1, Nat.gcd_comm x y, Nat.gcd_rec y x, Nat.gcd_comm]
  · by_cases hi : 1 ≤ i
    · obtain ⟨h4, h5⟩ := h3 hi
      have h6 := half h4 h0
      have e : (i + 1) / 2 = (i - 1) / 2 + 1 := by omega
      rw [e, Nat.pow_succ]
      have h7 : 2 * (x % y) * 2 ^ ((i - 1) / 2) < x * 2 ^ ((i - 1) / 2) := Nat.mul_lt_mul_of_pos_right h6 (Nat.two_pow_pos _)
      have h8 : x % y * (2 ^ ((i - 1) / 2) * 2) = 2 * (x % y) * 2 ^ ((i - 1) / 2) := by
        simp only [Nat.mul_comm, Nat.mul_left_comm, Nat.mul_assoc]
      omega
    · have e : i = 0 := by omega
      subst e
      show x % y * 1 < 2 ^ 900
      have h2' : y * 1 < 2 ^ 900 := h2
      omega
  · show y * 2 ^ ((i + 1 - 1) / 2) < 2 ^ 900
    rw [Nat.add_sub_cancel]
    exact h2
end FR
namespace VG
open PySem PySem.Spec PyProof.Rows L2
structure ClR (P : Program) (w : World) (K : PySem.W.Frag) (mg : Str → Option Value) (base : Heap) (k : Nat) (x : Str) (ks : List Str) (sp : Sp) : Prop where
  ex : ∃ (f : Addr) (fd : FuncData) (ps : List Str), FnOk P w K mg base CX0 k f fd ps sp ∧ mg x = some (.ref f) ∧ PySem.W.keepIn K (.ref f) = true ∧ KBinds K fd ps ks (fun us ws => us ++ ws.reverse) (fun vs zs => vs ++ zs.reverse)
section
variable {X : Cx} {k j : Nat} {x : Str} {sp : Sp} {p pos : Pos} {kws : List Keyword} {ks : List Str} {tk : TA}
def tCallKR (sp : Sp) (tk : TA) : TE := fun σ H Q => tk σ H fun zs H2 => sp zs.reverse H2 Q E0
theorem pe_clr (c : ClR X.prog X.w X.K X.mg X.base k x ks sp) (hr : Room j X.A) (hk : k ≤ j) (hg : Gl X x) (hkw : PK X kws tk)
    (h1 : (backToKw pos (keywordEach kws X.env)).all (·.1.isSome) = true := by rfl) (h2 : (backToKw pos (keywordEach kws X.env)).filterMap (·.1) = ks := by rfl)
    (h3 : (x == ("__debug__" : Str)) = false := by decide) (h4 : ((backTo pos (starEach [] X.env)).any (·.1) || (backToKw pos (keywordEach kws X.env)).any (·.1.isNone)) = false := by rfl) :
    PE X (.Call (.Name x p) [] kws pos) (tCallKR sp tk) := by
  obtain ⟨f, fd, ps, F, m, kp, b⟩ := c.ex
  constructor
  intro pins s σ H Q I h
  apply wpAny_Call_Name_kw
  apply ld_glob I hg m _ h3
  apply PySem.W.callWith_KW0 (h₀ := X.base) I.ok.mod.kin kp h1 _ h4
  apply thn (hkw.run pos pins s σ H _ I h)
  intro ws s2 hh
  obtain ⟨zs, H2, I2, rz, q2⟩ := hh
  refine And.intro I2.kIn ?_
  rw [h2]
  exact run_fnk (us := []) (vs := []) F (hr.mono hk) b pass0 I2 .nil rz q2
end
theorem vals_rev : ∀ {zs : List V} {ws : List Value}, Vals zs ws → Vals zs.reverse ws.reverse
  | _, _, .nil => .nil
  | _, _, .cons r rr => by
    rw [List.reverse_cons, List.reverse_cons]
    exact (vals_rev rr).append (.cons r .nil)
section
variable {P : Program} {w : World} {K : PySem.W.Frag} {mg : Str → Option Value} {base : Heap}
theorem kbinds_rev {x qual p1 p2 : Str} {st : Stmt} {f : Addr} {fd : FuncData} (F : Fun K x qual st f fd)
    (h0 : ∀ (kV doc pm : Value) (an : Option Addr) (cdv ct u v : Value), bindArgs (PySem.W.fnOf x qual (defArgs st) (defBody st) (defScope st) .none kV doc pm an cdv ct) ⟨[u, v], []⟩ = pure [(p1, u), (p2, v)])
    (h2 : ∀ (kV doc pm : Value) (an : Option Addr) (cdv ct u v : Value), bindArgs (PySem.W.fnOf x qual (defArgs st) (defBody st) (defScope st) .none kV doc pm an cdv ct) ⟨[], [(p2, v), (p1, u)]⟩ = pure [(p1, u), (p2, v)])
    (h1 : ∀ (kV doc pm : Value) (an : Option Addr) (cdv ct u v : Value), bindArgs (PySem.W.fnOf x qual (defArgs st) (defBody st) (defScope st) .none kV doc pm an cdv ct) ⟨[u], [(p2, v)]⟩ = pure [(p1, u), (p2, v)]) :
    KBinds K fd [p1, p2] [p2, p1] (fun us ws => us ++ ws.reverse) (fun vs zs => vs ++ zs.reverse) := by
  obtain ⟨oc, od, kV, doc, pm, an, cdv, ct, osl, rfl, lk, hcd⟩ := F.ex
  constructor
  · intro s us ws _ hl
    match us, ws, hl with
    | [], [v, u], _ => exact .of_eq (h2 kV doc pm an cdv ct u v)
    | [u], [v], _ => exact .of_eq (h1 kV doc pm an cdv ct u v)
    | [u, v], [], _ => exact .of_eq (h0 kV doc pm an cdv ct u v)
    | [], [], hl => cases hl
    | [], [_], hl => cases hl
    | [], _ :: _ :: _ :: _, hl => simp at hl
    | [_], [], hl => cases hl
    | [_], _ :: _ :: _, hl => simp at hl
    | [_, _], _ :: _, hl => simp at hl
    | _ :: _ :: _ :: _, ws, hl => simp at hl
  · intro vs us zs ws r1 r2
    exact r1.append (vals_rev r2)
end
end VG
namespace M2
end M2
namespace FR
open PySem PySem.Spec PyProof.Rows L2 VG HD
def dQ (p : Q2) : PyData := .tuple [.int p.1, .int p.2]
theorem sqt {K : PySem.W.Frag} {H : Hp} {t : Addr} {xs : List V} (h : H t = some (.tup xs)) : SqT K H t xs := .inl (.inl h)
end FR
namespace FR
open PySem PySem.Spec PyProof.Rows L2 VG HD
end FR
namespace FR
open PySem PySem.Spec PyProof.Rows L2 VG HD
theorem ite_eq {c : Bool} (b : Bool) {A B : Prop} (e : c = b) (h : if b = true then A else B) : if c = true then A else B := by
  rw [e]
  exact h
end FR
namespace VG
open PySem PySem.Spec PyProof.Rows L2
/-- a call, in a try, of a def that may let an own error out -/
structure ClX (P : Program) (w : World) (K : PySem.W.Frag) (mg : Str → Option Value) (base : Heap) (k : Nat) (x : Str) (sp : Sp) : Prop where
  ex : ∃ (f : Addr) (fd : FuncData) (ps : List Str), FnOk P w K mg base (L2.CX P w) k f fd ps sp ∧ mg x = some (.ref f) ∧ PySem.W.keepIn K (.ref f) = true ∧ Binds K fd ps []
section
variable {X : Cx} {k j : Nat} {x : Str} {sp : Sp} {p pos : Pos} {e : Expr} {es : List Expr} {t : TA} {W : WX}
theorem pe_clx (c : ClX X.prog X.w X.K X.mg X.base k x sp) (hr : Room j X.A) (hk : k ≤ j) (tk : Takes X W) (hg : Gl X x) (ha : PA X (e :: es) t)
    (h1 : (x == ("__debug__" : Str)) = false := by decide) (h2 : starEach (e :: es) X.env = (false, eval e X.env) :: starEach es X.env := by rfl)
    (h3 : (backTo pos (starEach es X.env)).any (·.1) = false := by rfl) : PE X (.Call (.Name x p) (e :: es) [] pos) (tCallS sp (WE W) t) :=
  let ⟨_, _, _, F, m, kp, b⟩ := c.ex
  pe_callS F (hr.mono hk) hg m kp b (fun σ => passAt tk σ) ha h1 h2 h3
end
end VG
namespace FR
open PySem PySem.Spec PyProof.Rows L2 VG HD
end FR
namespace VG
open PySem PySem.Spec PyProof.Rows L2
theorem units65 {k : Nat} {A : Around} (hr : Room k A) : A.units + 65 < cLine := by
  have := hr.un
  omega
end VG
namespace FR
/-- each q is t over B -/
def Ov (B : Int) : List Q2 → List Int → Prop
  | [], [] => True
  | q :: qs, t :: ts => (M2.Low q.1 q.2 ∧ q.1 * B = t * q.2) ∧ Ov B qs ts
  | _, _ => False
open PySem PySem.Spec PyProof.Rows L2 VG HD
end FR
namespace FR
open PySem PySem.Spec PyProof.Rows L2 VG HD
theorem Frs.keep {K : PySem.W.Frag} {H H' : Hp} {p q : Addr} (hd : Hd p q H) (kp : Keep p q H H') : ∀ {vs : List V} {ps : List Q2}, Frs K H vs ps → Frs K H' vs ps
  | [], [], _ => trivial
  | _ :: _, _ :: _, ⟨⟨t, e1, h⟩, r⟩ => ⟨⟨t, e1, seqTK hd kp h⟩, Frs.keep hd kp r⟩
  | [], _ :: _, h => h.elim
  | _ :: _, [], h => h.elim
theorem hd_put {p q D : Addr} {H : Hp} {o : HO} (h : Hd p q H) (n1 : D ≠ p) (n2 : D ≠ q) : Hd p q (L2.upd H D o) := by
  obtain ⟨cs, st, h1, h2, h3⟩ := h
  exact ⟨cs, st, by rw [upd_ne n1.symm]; exact h1, by rw [upd_ne n2.symm]; exact h2, h3⟩
end FR
namespace VG
open PySem PySem.Spec PyProof.Rows L2 HT
end VG
namespace FR
open PySem PySem.Spec PyProof.Rows L2 VG HD
theorem tyX_mono {K : PySem.W.Frag} {H H' : Hp} (e : Same H H') {v : V} {ty : String} (h : TyX K H v (.type ty)) : TyX K H' v (.type ty) := by
  cases h with
  | base b =>
    cases b with
    | non => exact .base .non
    | bl x => exact .base (.bl x)
    | int i => exact .base (.int i)
    | str x => exact .base (.str x)
    | flt x => exact .base (.flt x)
    | lst h => exact .base (.lst (e _ _ h))
    | frz h => exact .base (.frz (e _ _ h))
    | tup h => exact .base (.tup (e _ _ h))
    | dK h => exact .base (.dK (e _ _ h))
    | dT h => exact .base (.dT (e _ _ h))
  | byt b => exact .byt b
  | set h => exact .set (e _ _ h)
  | kList a b => exact .kList a b
  | kTuple a b => exact .kTuple a b
  | kDict a b => exact .kDict a b
  | fTuple h => exact .fTuple (e _ _ h)
  | fDict h => exact .fDict (e _ _ h)
theorem part_mono {K : PySem.W.Frag} {H H' : Hp} (e : Same H H') {v : V} {o : Option Int} (h : Part K H v o) : Part K H' v o := by
  rcases h with h | ⟨h1, ty, b1, b2, t, h2⟩
  · exact .inl h
  · exact .inr ⟨h1, ty, b1, b2, tyX_mono e t, h2⟩
/-- what is_fraction says of a value -/
def OddV (K : PySem.W.Frag) (H : Hp) (v : V) (r : Bool) : Prop :=
  (∃ ty : String, TyX K H v (.type ty) ∧ kitB ty "tuple" = some false ∧ r = false) ∨ (∃ t xs, v = .ref t ∧ SqT K H t xs ∧ xs.length ≠ 2 ∧ r = false) ∨
  ∃ t x y o1 o2, v = .ref t ∧ SqT K H t [x, y] ∧ Part K H x o1 ∧ Part K H y o2 ∧ r = okFr o1 o2 ∧ ∀ b, o2 = some b → b.natAbs < 2 ^ 900
theorem OddV.mono {K : PySem.W.Frag} {H H' : Hp} (e : Same H H') {v : V} {r : Bool} (h : OddV K H v r) : OddV K H' v r := by
  rcases h with ⟨ty, a, b⟩ | ⟨t, xs, a, b, c⟩ | ⟨t, x, y, o1, o2, a, b, c, d, f⟩
  · exact .inl ⟨ty, tyX_mono e a, b⟩
  · exact .inr (.inl ⟨t, xs, a, seqT e b, c⟩)
  · exact .inr (.inr ⟨t, x, y, o1, o2, a, seqT e b, part_mono e c, part_mono e d, f⟩)
def frz (p q : Addr) (H : Hp) : Hp := fun b => if b = p ∨ b = q then none else H b
theorem frz_at {p q t : Addr} {H : Hp} {o : HO} (h : H t = some o) (n : t ≠ p ∧ t ≠ q) : frz p q H t = some o := by
  unfold frz
  rw [if_neg (fun z => z.elim n.1 n.2)]
  exact h
theorem frz_keep {p q : Addr} {H H' : Hp} (h : Keep p q H H') : Same (frz p q H) H' := fun b o e => by
  unfold frz at e
  by_cases z : b = p ∨ b = q
  · rw [if_pos z] at e
    cases e
  · rw [if_neg z] at e
    exact h b o (fun y => z (.inl y)) (fun y => z (.inr y)) e
theorem kitN1 : kitB "NoneType" "int" = some false := by decide +kernel
theorem kitN2 : kitB "NoneType" "bool" = some false := by decide +kernel
theorem kitB1 : kitB "bool" "int" = some true := by decide +kernel
theorem kitB2 : kitB "bool" "bool" = some true := by decide +kernel
theorem kitS1 : kitB "str" "int" = some false := by decide +kernel
theorem kitS2 : kitB "str" "bool" = some false := by decide +kernel
theorem kitT1 : kitB "tuple" "int" = some false := by decide +kernel
theorem kitT2 : kitB "tuple" "bool" = some false := by decide +kernel
theorem all_cons {P : V → Prop} {x : V} {xs : List V} (h : P x) (t : ∀ v ∈ xs, P v) : ∀ v ∈ x :: xs, P v := fun v hv => by
  rcases List.mem_cons.mp hv with z | z
  · rw [z]; exact h
  · exact t v z
theorem all_nil {P : V → Prop} : ∀ v ∈ ([] : List V), P v := fun v hv => by cases hv
end FR
namespace FR
open PySem PySem.Spec PyProof.Rows L2 VG HD
def spLaw (K : PySem.W.Frag) : Sp := fun vs H Q _ => ∃ (a : Addr) (ns : List Int), vs = [.ref a] ∧ SqL K H a (ns.map V.int) ∧ ns.length ≤ 63 ∧ ∀ H', Q (.bl true) H'
end FR
namespace CK
open PySem PySem.Spec PyProof.Rows L2 VG FR
def spNum (K : PySem.W.Frag) : Sp := fun vs H Q _ => ∃ a : Int, vs = [.int a] ∧ Q (.bl (decide (0 ≤ a))) H
def spBelow : Sp := fun vs H Q _ => ∃ a n : Int, vs = [.int a, .int n] ∧ Q (.bl (decide (0 ≤ a ∧ a < n))) H
/-- numbers below, all of them right -/
def spNumsBelow (K : PySem.W.Frag) : Sp := fun vs H Q _ => ∃ (t : Addr) (cs : List Int) (n : Int), vs = [.ref t, .int n] ∧ SqT K H t (cs.map V.int) ∧ cs.length ≤ 1000 ∧ (∀ c ∈ cs, 0 ≤ c ∧ c < n) ∧ ∀ H', Same H H' → Q (.bl true) H'
def Asc : List Int → Prop
  | a :: b :: r => a < b ∧ Asc (b :: r)
  | _ => True
def LtV (x y : V) : Prop := (∃ a b : Int, x = .int a ∧ y = .int b ∧ a < b) ∨ ∃ a b : Str, x = .str a ∧ y = .str b ∧ a.cps.toList < b.cps.toList
def AscV (xs : List V) : Prop := ∀ (i : Nat) (x y : V), xs[i]? = some x → xs[i + 1]? = some y → LtV x y
def spAsc (K : PySem.W.Frag) : Sp := fun vs H Q _ => ∃ (t : Addr) (xs : List V), vs = [.ref t] ∧ SqT K H t xs ∧ xs.length ≤ 1000 ∧ AscV xs ∧ ∀ H', Same H H' → Q (.bl true) H'
def spLot (K : PySem.W.Frag) : Sp := fun vs H Q _ => ∃ (t : Addr) (cs : List Int) (n : Int), vs = [.ref t, .int n] ∧ SqT K H t (cs.map V.int) ∧ cs.length ≤ 1000 ∧ (∀ c ∈ cs, 0 ≤ c ∧ c < n) ∧ Asc cs ∧ ∀ H', Same H H' → Q (.bl true) H'
theorem Asc.get : ∀ {cs : List Int} {i : Nat} {a b : Int}, Asc cs → cs[i]? = some a → cs[i + 1]? = some b → a < b
  | [], _, _, _, _, h, _ => by simp at h
  | [_], 0, _, _, _, _, h => by simp at h
  | [_], _ + 1, _, _, _, h, _ => by simp at h
  | x :: y :: r, 0, a, b, h, ha, hb => by
    have e1 : x = a := Option.some.inj ha
    have e2 : y = b := Option.some.inj hb
    subst e1 e2
    exact h.1
  | x :: y :: r, i + 1, a, b, h, ha, hb => Asc.get (cs := y :: r) (i := i) h.2 ha hb
theorem asc_ints {cs : List Int} (h : Asc cs) : AscV (cs.map V.int) := by
  intro i x y hx hy
  rw [List.getElem?_map] at hx hy
  obtain ⟨a, ea, rfl⟩ := Option.map_eq_some_iff.mp hx
  obtain ⟨b, eb, rfl⟩ := Option.map_eq_some_iff.mp hy
  exact .inl ⟨a, b, rfl, rfl, h.get ea eb⟩
theorem cut1 {xs : List V} : cutV xs (some 1) none = xs.drop 1 := by
  unfold cutV
  have e : HT.sIx xs.length 0 (some 1) = min 1 xs.length := HT.sIx_nat xs.length 0 1
  rw [e, HT.sIx_none]
  cases xs with
  | nil => rfl
  | cons x xs =>
    have : min 1 (x :: xs).length = 1 := by rw [List.length_cons]; omega
    rw [this]
    exact List.take_of_length_le (by rw [List.length_drop]; omega)
end CK
namespace VG
open PySem PySem.Spec PyProof.Rows L2
theorem meets_enum1 {v : Value} {o : Obj} {H : Heap → Prop} (B : Begins v o H) :
    Meets (Builtin.«enumerate.__new__» ⟨[.type "enumerate", v], []⟩) (fun _ R s => H s.heap ∧
      R (.ok (.ret (.ref (s.heap.push o).objs.size))) { s with heap := (s.heap.push o).push { cls := .type "enumerate", data := .fields #[.none, .bool false, .ref s.heap.objs.size, rawInt 0, .none, .none] } }) :=
  .of_wp fun prog w A R s h => by
    obtain ⟨hp, g, d, tk, os⟩ := s
    obtain ⟨h1, h⟩ := h
    have hsub := sub_enumerate
    have it1 : ∀ {A' : Around} {E : Value → Shared → Prop} {Q : Value → Shared → Prop}, Q (.ref hp.objs.size) ⟨hp.push o, g, d, tk, os⟩ → wpAny (model prog w) A' (pyIter v) Q E ⟨hp, g, d, tk, os⟩ :=
      fun q => B.iter prog w _ _ ⟨hp, g, d, tk, os⟩ _ h1 q
    wp_walk using it1
    refine wpAny_stack_any fun st => wpAny_pure ?_
    split
    · rename_i c _ _ _ _ _
      cases (c == Value.type "enumerate")
      · wp_walk using it1
        exact ⟨_, rfl, h⟩
      · wp_walk using it1
        exact ⟨_, rfl, h⟩
    · wp_walk using it1
      exact ⟨_, rfl, h⟩
section
variable {prog : Program} {w : World} {A : Around} {E : Value → Shared → Prop} {s : Shared}
theorem enum1 {v : Value} {o : Obj} {H : Heap → Prop} {Q : Value → Shared → Prop} (B : Begins v o H) (h1 : H s.heap)
    (h : ∀ h', IsEnum h' (s.heap.objs.size + 1) s.heap.objs.size 0 .none → h'.get? s.heap.objs.size = some o → (∀ b o, s.heap.get? b = some o → h'.get? b = some o) → Q (.ref (s.heap.objs.size + 1)) { s with heap := h' }) :
    wpAny (model prog w) A (call (.type "enumerate") [v]) Q E s := by
  refine callType_new F.called_enumerate (by decide) (F.typeCall_enumerate_1 _) (F.newCall_enumerate_1 _) (fun obj => F.args_object_init_2 obj _) F.entry_enumerate_new (meets_enum1 B) ⟨h1, ?_⟩
  have hz : (s.heap.push o).objs.size = s.heap.objs.size + 1 := Heap.size_push ..
  show _ ∧ _
  rw [hz]
  have he : IsEnum ((s.heap.push o).push { cls := .type "enumerate", data := .fields #[.none, .bool false, .ref s.heap.objs.size, rawInt 0, .none, .none] }) (s.heap.objs.size + 1) s.heap.objs.size 0 .none := by
    have q := Heap.get?_push_size (s.heap.push o) (o := { cls := .type "enumerate", data := .fields #[.none, .bool false, .ref s.heap.objs.size, rawInt 0, .none, .none] }) rfl
    rw [hz] at q
    exact q
  exact ⟨⟨_, he, rfl⟩, h _ he (Heap.get?_push_of_some _ (Heap.get?_push_size _ B.free)) fun b o x => Heap.get?_push_of_some _ (Heap.get?_push_of_some _ x)⟩
end
/-- the tuple at a, each item in a new pair behind its index -/
def IteT (K : PySem.W.Frag) (a : Addr) : It :=
  ⟨fun i H => ∃ (xs : List V) (x : V), SqT K H a xs ∧ xs[i]? = some x, fun i H v H' => ∃ T x, v = .ref T ∧ H T = none ∧ H' = upd H T (.tup [.int (i : Nat), x]) ∧ ∀ xs, SqT K H a xs → xs[i]? = some x, fun i H => ∃ xs : List V, SqT K H a xs ∧ xs.length ≤ i⟩
theorem turn_enumT {P : Program} {w : World} {K : PySem.W.Frag} {elts : List Expr} {kk : Nat} {tpos : Pos} (a e it : Addr) :
    Turn P w K (.Tuple elts kk tpos) (IteT K a) [e, it] e (fun i h => (∃ old, IsEnum h e it ((i : Nat) : Int) old) ∧ h.IsTupleIter it a i ∧ e ≠ it ∧ a ≠ it ∧ e ≠ a) where
  mem := by simp
  obj := fun i h st b hb => by
    obtain ⟨⟨old, he⟩, ⟨o, ho, hc, hd⟩, _⟩ := st
    have e' : b = e ∨ b = it := by simpa using hb
    rcases e' with z | z
    · subst z
      exact ⟨_, he, fun v q => nomatch q⟩
    · subst z
      exact ⟨o, ho, fun v q => by rw [hd] at q; cases q⟩
  keep := fun i h h' st k => let ⟨⟨old, he⟩, hi, r⟩ := st; ⟨⟨old, k e (by simp) _ he⟩, hi.at fun o q => k it (by simp) o q, r⟩
  item := by
    intro X hP hw hK hc i pins s σ H E I hf st hg
    subst hP hw hK
    obtain ⟨⟨old, he⟩, hit, hne, hai, hea⟩ := st
    obtain ⟨xs, x, hq, hx⟩ := hg
    obtain ⟨its, rv, p, hz⟩ := I.tuple hq
    obtain ⟨u, hu, ru⟩ := rv.get hx
    have hel : e < s.heap.objs.size := Heap.lt_size he
    have hil : it < s.heap.objs.size := by obtain ⟨_, q, _⟩ := hit; exact Heap.lt_size q
    have hd := I.ok.hd hc
    have hlt : i < its.toArray.size := by
      have := (List.getElem?_eq_some_iff.mp hu).1
      simpa using this
    have st0 : s.heap.IsTupleIter it a i ∧ s.heap.IsTuple a its.toArray := ⟨hit, p⟩
    have nin : e ∉ [it, a] := fun z => by
      rcases List.mem_cons.mp z with z | z
      · exact hne z
      · exact hea (List.mem_singleton.mp z)
    refine wpAny_pyNext_enum_itemD (fp := [it, a]) (n := its.toArray.size) (P := fun i v => its.toArray[i]? = some v) (St := fun i h => h.IsTupleIter it a i ∧ h.IsTuple a its.toArray) (Draws.tuple (A := X.A.in1) (show X.A.in1.handled = none from hd) it a hai its.toArray) he st0 hlt hne nin fun u' h' tk hP' ho st' hT hsz hk => ?_
    have eu : u' = u := by
      have h1 : its.toArray[i]? = some u' := hP'
      have h2 : its.toArray[i]? = some u := by simpa using hu
      rw [h1] at h2
      exact Option.some.inj h2
    subst eu
    refine ⟨_, rfl, wpAny_letOwnedTupleGo_enum (s := { s with heap := h', toks := tk + 1 }) ho fun h'' he' sb => ?_⟩
    have hT2 : h''.get? s.heap.objs.size = some { cls := .type "tuple", data := .seq #[.int i tk, u'] } := (sb.2 _ (Nat.ne_of_gt hel)).trans hT
    have new : ObjOk X.prog X.w (upd H s.heap.objs.size (.tup [.int (i : Nat), x])) h'' s.heap.objs.size (.tup [.int (i : Nat), x]) :=
      ⟨by show 2 ≤ sizeLine; decide, [.int i tk, u'], .cons ⟨_, rfl⟩ (.cons ru .nil), ⟨_, hT2, rfl, _, rfl⟩⟩
    have I1 : Inv X pins σ (upd H s.heap.objs.size (.tup [.int (i : Nat), x])) { s with heap := h'', toks := tk + 1 } :=
      I.turnedNew (ch := [e, it]) (fun b ob hb q => (sb.2 b (fun z => hb (by simp [z]))).trans (hk b ob (fun z => hb (by simp [z])) (fun z => hb (by simp [z])) q)) hf (Nat.le_refl _) new
    refine ⟨.ref s.heap.objs.size, _, I1, rfl, ⟨_, x, rfl, I.hok.fresh (Nat.le_refl _), rfl, fun ys hy => by rw [I.tuple_inj hy hq]; exact hx⟩, ⟨⟨u', ?_⟩, st'.1.at fun o q => (sb.2 it (Ne.symm hne)).trans q, hne, hai, hea⟩, fun b hb => ?_⟩
    · have e1 : ((i + 1 : Nat) : Int) = (i : Int) + 1 := by omega
      rw [e1]
      exact he'
    · have hb' : b < s.heap.objs.size := by
        have e' : b = e ∨ b = it := by simpa using hb
        rcases e' with z | z
        · rw [z]; exact hel
        · rw [z]; exact hil
      rw [upd_ne (Nat.ne_of_lt hb')]
      exact (hf b hb).1
  done := by
    intro X hP hw hK hc i pins s σ H E I hf st hg
    subst hP hw hK
    obtain ⟨⟨old, he⟩, hit, hne, hai, hea⟩ := st
    obtain ⟨xs, hq, hx⟩ := hg
    obtain ⟨its, rv, p, hz⟩ := I.tuple hq
    obtain ⟨f0, f1, f2, f3, f4, f5⟩ := hf it (by simp)
    have hl := rv.length
    have hT : s.TypeIs (.ref e) "enumerate" := ⟨_, he, rfl⟩
    unfold pyNext
    refine wpAny_bind (wpAny_attempt (wpAny_callSpecial?_slot (name := Str.ofString "__next__") hT F.slot_enumerate_next (wpAny_call_entry F.slot_enumerate_next hT F.entry_enumerate_next ?_ (F.args_enumerate_next_1 _))))
    show wpAny _ _ (field (.ref e) 2 >>= _) _ _ _
    refine wpAny_bind (wpAny_field he rfl (x := .ref it) rfl ?_)
    refine wpAny_bind (wpAny_nextOf_tuple_end (I.ok.hd hc) hit p (by simp; omega) fun h' x' he' hx' => ?_)
    obtain ⟨o, ho, hc'⟩ := hx'
    refine wpAny_bind (wpAny_isInstance (T := "StopIteration") (b := true) ⟨o, ho, hc'⟩ isSubtype_stop ?_)
    exact wpAny_pure ⟨rfl, I.turned (t' := s.toks) (fun b o hb q => he' b o hb q) f0 f1 f3 f4 f5⟩
  self := fun A i s Q E st h => let ⟨⟨_, he⟩, _⟩ := st; wpAny_pyIter_enum he h
def iEnumT (K : PySem.W.Frag) (ta : TA) : TI := fun σ H R => ta σ H fun vs H1 => ∃ a xs, vs = [.ref a] ∧ SqT K H1 a xs ∧ R (IteT K a) H1
theorem pi_enumT {X : Cx} {e : Expr} {ta : TA} {p pos tpos : Pos} {elts : List Expr} {kk : Nat} (hg : Gl X "enumerate") (hm : X.mg "enumerate" = none) (ha : PA X [e] ta) (hs : starEach [e] X.env = [(false, eval e X.env)] := by rfl) :
    PI X (.Tuple elts kk tpos) (.Call (.Name "enumerate" p) [e] [] pos) (iEnumT X.K ta) := by
  refine ⟨fun pins s σ H R I h => ?_⟩
  refine Call_ (ld_blt I hg hm boot_enumerate (PyProof.Rows.callWith_type1 (thn (ha.run pos pins s σ H _ I h) fun us s1 ⟨vs, H1, I1, r1, q1⟩ => ?_) hs rfl))
  obtain ⟨a, xs, rfl, hq, q⟩ := q1
  cases r1 with
  | cons r rr =>
    cases rr
    cases r
    obtain ⟨its, rv, p', hz⟩ := I1.tuple hq
    have hal : a < s1.heap.objs.size := by obtain ⟨_, q, _⟩ := id p'; exact Heap.lt_size q
    refine enum1 (begins_tuple a its.toArray) p' fun h' he ho hk => wpAny_pyIter_enum he ?_
    have I2 : Inv X pins σ H1 { s1 with heap := h' } := I1.kept (t' := s1.toks) hk
    refine ⟨s1.heap.objs.size + 1, [s1.heap.objs.size + 1, s1.heap.objs.size], _, _, H1, rfl, I2, turn_enumT a (s1.heap.objs.size + 1) s1.heap.objs.size, ⟨⟨.none, he⟩, ⟨_, ho, rfl, rfl⟩, Nat.succ_ne_self _, Nat.ne_of_lt hal, Nat.ne_of_gt (Nat.lt_succ_of_lt hal)⟩, fun b hb => ?_, q⟩
    have hle : s1.heap.objs.size ≤ b := by
      have e' : b = s1.heap.objs.size + 1 ∨ b = s1.heap.objs.size := by simpa using hb
      rcases e' with z | z
      · rw [z]; exact Nat.le_add_right _ _
      · rw [z]; exact Nat.le_refl _
    exact I1.fpOk hle (I1.hok.fresh hle)
theorem walk_enumT {K : PySem.W.Frag} {a : Addr} {xs : List V} : Walk (IteT K a) xs.length (fun H => SqT K H a xs) (fun i H v H' => ∃ T x, v = .ref T ∧ H T = none ∧ H' = L2.upd H T (.tup [.int (i : Nat), x]) ∧ xs[i]? = some x) := by
  constructor
  · intro i H hi hG
    exact ⟨xs, xs[i], hG, List.getElem?_eq_getElem hi⟩
  · intro H hG
    exact ⟨xs, hG, Nat.le_refl _⟩
  · intro i H v H' hi hG hy
    obtain ⟨T, x, e1, e2, e3, e4⟩ := hy
    exact ⟨T, x, e1, e2, e3, e4 xs hG⟩
end VG
namespace CK
open PySem PySem.Spec PyProof.Rows L2 VG FR
/-- references to tuples of integers -/
def Tots (K : PySem.W.Frag) (H : Hp) : List V → List (List Int) → Prop
  | [], [] => True
  | v :: vs, c :: cs => (∃ t, v = .ref t ∧ SqT K H t (c.map V.int)) ∧ Tots K H vs cs
  | _, _ => False
theorem Tots.mono {K : PySem.W.Frag} {H H' : Hp} (e : Same H H') : ∀ {vs : List V} {cs : List (List Int)}, Tots K H vs cs → Tots K H' vs cs
  | [], [], _ => trivial
  | _ :: _, _ :: _, ⟨⟨t, e1, h⟩, r⟩ => ⟨⟨t, e1, seqT e h⟩, r.mono e⟩
  | [], _ :: _, h => h.elim
  | _ :: _, [], h => h.elim
theorem Tots.len {K : PySem.W.Frag} {H : Hp} : ∀ {vs : List V} {cs : List (List Int)}, Tots K H vs cs → vs.length = cs.length
  | [], [], _ => rfl
  | _ :: _, _ :: _, h => by rw [List.length_cons, List.length_cons, h.2.len]
  | [], _ :: _, h => h.elim
  | _ :: _, [], h => h.elim
theorem Tots.get {K : PySem.W.Frag} {H : Hp} : ∀ {vs : List V} {cs : List (List Int)} {i : Nat} {v : V}, Tots K H vs cs → vs[i]? = some v → ∃ t c, v = .ref t ∧ cs[i]? = some c ∧ SqT K H t (c.map V.int)
  | [], [], _, _, _, h => by simp at h
  | a :: _, c :: _, 0, v, h, e => by
    have e1 : a = v := Option.some.inj e
    subst e1
    obtain ⟨t, e2, q⟩ := h.1
    exact ⟨t, c, e2, rfl, q⟩
  | _ :: vs, _ :: cs, i + 1, v, h, e => h.2.get (i := i) e
  | [], _ :: _, _, _, h, _ => h.elim
  | _ :: _, [], _, _, h, _ => h.elim
/-- what the written part says of the class Table -/
structure TabC (K : PySem.W.Frag) (C : Addr) : Prop where
  c : Cls K C
  nk : NoAttr K C "kinds"
  nt : NoAttr K C "totals"
/-- a table: its names, its totals -/
def Tab (K : PySem.W.Frag) (C : Addr) (H : Hp) (a : Addr) (ks : List Str) (ts : List (List Int)) : Prop :=
  ∃ (dx k t : Addr) (xs : List V), H a = some (.ins C dx [((("kinds" : String) : Str), .ref k), ((("totals" : String) : Str), .ref t)]) ∧ SqT K H k (ks.map V.str) ∧ SqT K H t xs ∧ Tots K H xs ts
theorem Tab.mono {K : PySem.W.Frag} {C a : Addr} {H H' : Hp} {ks : List Str} {ts : List (List Int)} (e : Same H H') (h : Tab K C H a ks ts) : Tab K C H' a ks ts := by
  obtain ⟨dx, k, t, xs, h1, h2, h3, h4⟩ := h
  exact ⟨dx, k, t, xs, e _ _ h1, seqT e h2, seqT e h3, h4.mono e⟩
/-- the totals in which a kind lies -/
def twF (ts : List (List Int)) (kind : Int) (i : Nat) : List Int := ((List.range i).filter fun j => (ts.getD j []).contains kind).map fun j => ((j : Nat) : Int)
def totsWith (ts : List (List Int)) (kind : Int) : List Int := twF ts kind ts.length
def spTotalsWith (K : PySem.W.Frag) (C : Addr) : Sp := fun vs H Q _ => ∃ (a : Addr) (ks : List Str) (ts : List (List Int)) (kind : Int), vs = [.ref a, .int kind] ∧ Tab K C H a ks ts ∧ ts.length ≤ 1000 ∧ ∀ H' u, Same H H' → H u = none → H' u = some (.tup ((totsWith ts kind).map V.int)) → Q (.ref u) H'
theorem twF_yes {ts : List (List Int)} {kind : Int} {i : Nat} {c : List Int} (e : ts[i]? = some c) (h : c.contains kind = true) : twF ts kind (i + 1) = twF ts kind i ++ [(i : Int)] := by
  unfold twF
  have g : ts.getD i [] = c := by rw [List.getD_eq_getElem?_getD, e]; rfl
  rw [List.range_succ, List.filter_append, List.map_append]
  have e2 : [i].filter (fun j => (ts.getD j []).contains kind) = [i] := by simp only [List.filter_cons, g, h, if_true, List.filter_nil]
  rw [e2]
  rfl
theorem twF_no {ts : List (List Int)} {kind : Int} {i : Nat} {c : List Int} (e : ts[i]? = some c) (h : c.contains kind = false) : twF ts kind (i + 1) = twF ts kind i := by
  unfold twF
  have g : ts.getD i [] = c := by rw [List.getD_eq_getElem?_getD, e]; rfl
  rw [List.range_succ, List.filter_append, List.map_append]
  have e2 : [i].filter (fun j => (ts.getD j []).contains kind) = [] := by simp only [List.filter_cons, g, h, if_false, List.filter_nil, Bool.false_eq_true]
  rw [e2]
  exact List.append_nil _
theorem twF_len (ts : List (List Int)) (kind : Int) (i : Nat) : (twF ts kind i).length ≤ i := by
  unfold twF
  rw [List.length_map]
  exact Nat.le_trans (List.length_filter_le _ _) (by rw [List.length_range]; exact Nat.le_refl _)
theorem inV_ints (k : Int) : ∀ cs : List Int, inV (.int k) (cs.map V.int) = cs.contains k
  | [] => rfl
  | c :: cs => by
    have ih := inV_ints k cs
    unfold inV at ih ⊢
    rw [List.map_cons, List.any_cons, ih, List.contains_cons]
    congr 1
    show (c == k) = (k == c)
    rw [Bool.eq_iff_iff, beq_iff_eq, beq_iff_eq]
    exact ⟨Eq.symm, Eq.symm⟩
theorem flat_ints : ∀ cs : List Int, (cs.map V.int).all flatV = true
  | [] => rfl
  | c :: cs => by
    rw [List.map_cons, List.all_cons, flat_ints cs]
    rfl
end CK
namespace CK
open PySem PySem.Spec PyProof.Rows L2 VG FR
def LotOk (n : Int) (c : List Int) : Prop := c.length ≤ 1000 ∧ (∀ x ∈ c, 0 ≤ x ∧ x < n) ∧ Asc c
def spCheckTotals (K : PySem.W.Frag) : Sp := fun vs H Q _ => ∃ (t : Addr) (xs : List V) (ts : List (List Int)) (n : Int), vs = [.ref t, .int n] ∧ SqT K H t xs ∧ Tots K H xs ts ∧ ts.length ≤ 12 ∧ (∀ c ∈ ts, LotOk n c) ∧ ∀ H', Same H H' → Q .non H'
end CK
namespace CK
open PySem PySem.Spec PyProof.Rows L2 VG FR
abbrev cLETTERS : Str := "abcdefghijklmnopqrstuvwxyz"
theorem in_letters (c : Nat) : c ∈ cLETTERS.cps.toList ↔ 97 ≤ c ∧ c ≤ 122 := by
  have e : cLETTERS.cps.toList = (List.range 26).map (· + 97) := by decide +kernel
  rw [e, List.mem_map]
  constructor
  · rintro ⟨a, ha, rfl⟩
    have := List.mem_range.mp ha
    omega
  · intro h
    exact ⟨c - 97, List.mem_range.mpr (by omega), by omega⟩
def NameOk (z : Str) : Prop := 1 ≤ z.cps.size ∧ z.cps.size ≤ 6 ∧ ∀ c ∈ z.cps.toList, 97 ≤ c ∧ c ≤ 122
def spName : Sp := fun vs H Q _ => ∃ z : Str, vs = [.str z] ∧ NameOk z ∧ ∀ H', Same H H' → Q (.bl true) H'
def spNames (K : PySem.W.Frag) : Sp := fun vs H Q _ => ∃ (t : Addr) (ks : List Str), vs = [.ref t] ∧ SqT K H t (ks.map V.str) ∧ ks.length ≤ 1000 ∧ (∀ z ∈ ks, NameOk z) ∧ ∀ H', Same H H' → Q (.bl true) H'
def AscS (ks : List Str) : Prop := ∀ (i : Nat) (a b : Str), ks[i]? = some a → ks[i + 1]? = some b → a.cps.toList < b.cps.toList
theorem asc_strs {ks : List Str} (h : AscS ks) : AscV (ks.map V.str) := by
  intro i x y hx hy
  rw [List.getElem?_map] at hx hy
  obtain ⟨a, ea, rfl⟩ := Option.map_eq_some_iff.mp hx
  obtain ⟨b, eb, rfl⟩ := Option.map_eq_some_iff.mp hy
  exact .inr ⟨a, b, rfl, rfl, h i a b ea eb⟩
def KindsOk (ks : List Str) : Prop := 1 ≤ ks.length ∧ ks.length ≤ 12 ∧ (∀ z ∈ ks, NameOk z) ∧ AscS ks
def spCheckKinds (K : PySem.W.Frag) : Sp := fun vs H Q _ => ∃ (t : Addr) (ks : List Str), vs = [.ref t] ∧ SqT K H t (ks.map V.str) ∧ KindsOk ks ∧ ∀ H', Same H H' → Q .non H'
end CK
namespace CK
open PySem PySem.Spec PyProof.Rows L2 VG FR
/-- __init__ of a right table, at a new instance -/
def spInitT (K : PySem.W.Frag) (C : Addr) : Sp := fun vs H Q _ => ∃ (a dx k t : Addr) (ks : List Str) (xs : List V) (ts : List (List Int)), vs = [.ref a, .ref k, .ref t] ∧ H a = some (.ins C dx []) ∧ SqT K H k (ks.map V.str) ∧ KindsOk ks ∧ SqT K H t xs ∧ Tots K H xs ts ∧ ts.length ≤ 12 ∧
  (∀ c ∈ ts, LotOk ks.length c) ∧ ∀ H', (∀ b o, b ≠ a → H b = some o → H' b = some o) → H' a = some (.ins C dx [((("kinds" : String) : Str), .ref k), ((("totals" : String) : Str), .ref t)]) → Q .non H'
end CK
namespace CK
open PySem PySem.Spec PyProof.Rows L2 VG FR
/-- the numbers below i at which something holds -/
def pick (P : Nat → Bool) (i : Nat) : List Int := ((List.range i).filter P).map fun j => ((j : Nat) : Int)
theorem pick_yes {P : Nat → Bool} {i : Nat} (h : P i = true) : pick P (i + 1) = pick P i ++ [(i : Int)] := by
  unfold pick
  rw [List.range_succ, List.filter_append, List.map_append]
  have e2 : [i].filter P = [i] := by simp only [List.filter_cons, h, if_true, List.filter_nil]
  rw [e2]
  rfl
theorem pick_no {P : Nat → Bool} {i : Nat} (h : P i = false) : pick P (i + 1) = pick P i := by
  unfold pick
  rw [List.range_succ, List.filter_append, List.map_append]
  have e2 : [i].filter P = [] := by simp only [List.filter_cons, h, if_false, List.filter_nil, Bool.false_eq_true]
  rw [e2]
  exact List.append_nil _
theorem pick_len (P : Nat → Bool) (i : Nat) : (pick P i).length ≤ i := by
  unfold pick
  rw [List.length_map]
  exact Nat.le_trans (List.length_filter_le _ _) (by rw [List.length_range]; exact Nat.le_refl _)
def absI (a : Int) : Int := if a < 0 then -a else a
def agrP (one other : List Int) (j : Nat) : Bool := decide (absI (one.getD j 0) = 1) && decide (one.getD j 0 = other.getD j 0)
def agrL (cs ds : List Int) : List Int := pick (agrP cs ds) cs.length
def difL (cs ds : List Int) : List Int := (cs.zip ds).map fun x => x.1 - x.2
end CK
namespace VG
open PySem PySem.Spec PyProof.Rows L2
section
variable {X : Cx} {pins : List (Addr × Obj)} {σ : L2.St} {H : Hp} {s : Shared} {a b : Addr} {r : Value} {d : V} {k : List Key} {A : Around} {E : Value → Shared → Prop}
theorem d_setdT {kvs : List (List Key × V)} {Q : Value → Shared → Prop} (hu : A.units + 1 < cLine) (I : Inv X pins σ H s) (e : H a = some (.dT kvs)) (eb : H b = some (.tup (k.map kV))) (rd : RelV d r) (hl : kvs.length < sizeLine)
    (h1 : ∀ v, valV kvs k = some v → ∀ (w' : Value) (s' : Shared), Inv X pins σ H s' → RelV v w' → Q w' s') (h2 : valV kvs k = none → ∀ (w' : Value) (s' : Shared), Inv X pins σ (upd H a (.dT (putK kvs k d))) s' → RelV d w' → Q w' s') :
    wpAny (model X.prog X.w) A (call (.builtin "dict.setdefault") [.ref a, .ref b, r]) Q E s := by
  obtain ⟨z, hd, xs, rel, dd⟩ := dt_of I.hok e
  have hz : xs.length ≤ sizeLine := by
    rw [← Paired.length rel]
    exact z
  have hl2 : (putK kvs k d).length ≤ sizeLine := by
    have := length_putK kvs k d
    omega
  refine call_setdefault_heap (hsz := hz) (tupleKind_room_in1 hu) (key_of I.hok eb) hd dd (fun p hp => ?_) (fun hn h' dd' hs => ?_)
  · have q := rel.val k
    rw [hp] at q
    cases q0 : valV kvs k with
    | none =>
      rw [q0] at q
      exact (show False from q).elim
    | some v0 =>
      rw [q0] at q
      exact h1 v0 q0 _ _ (I.tok _) q
  · have q := rel.val k
    rw [hn] at q
    cases q0 : valV kvs k with
    | some v0 =>
      rw [q0] at q
      exact (show False from q).elim
    | none =>
      obtain ⟨qo, es, ep, hq, g2, g3, g4, _, g5⟩ := dd'
      refine h2 q0 _ _ (d_write I (by rw [e]; exact True.intro) hs ⟨qo, hq⟩ ⟨hl2, hd, _, (rel.put k eb rd).keeps fun c ys ec => ?_, qo, es, ep, hq, g2, g3, g4, g5⟩) rd
      rw [upd_ne (ne_of ec e (fun z => nomatch z))]
      exact ec
end
def tDSetT (td ty tx : TE) : TE := fun σ H Q => td σ H fun x H1 => ∃ a, x = .ref a ∧ IsD H1 a ∧ ty σ H1 fun y H2 => tx σ H2 fun z H3 => ∃ (kvs : List (List Key × V)) (k : List Key) (b : Addr), H3 a = some (.dT kvs) ∧ y = .ref b ∧ H3 b = some (.tup (k.map kV)) ∧ kvs.length < sizeLine ∧
  (∀ v, valV kvs k = some v → Q v H3) ∧ (valV kvs k = none → Q z (upd H3 a (.dT (putK kvs k z))))
section
variable {X : Cx} {o e f : Expr} {td ty tx : TE} {apos cpos : Pos}
theorem pe_dsetT (hu : X.A.units + 1 < cLine) (ho : PE X o td) (he : PE X e ty) (hf : PE X f tx) (m : M2 X o "setdefault" apos e f cpos) : PE X (.Call (.Attribute o "setdefault" apos) [e, f] [] cpos) (tDSetT td ty tx) := by
  refine ⟨fun pins s σ H Q I h => ?_⟩
  refine wpAny_Call_method m.base m.few m.line PySem.F.plainAttrs_dict PySem.F.slot_dict_setdefault PySem.F.type_dict_setdefault (thn (ho.run pins s σ H _ I h) fun u s1 ⟨x, H1, I1, rx, a, ex, d, q1⟩ => ?_)
  subst ex
  obtain rfl : u = Value.ref a := rx
  obtain ⟨t1, t2, _⟩ := isD_at I1 d
  refine ⟨t1, t2, ?_⟩
  rw [m.trees]
  refine Calls.callWith_builtin rfl (Calls.evalArgs_plain (Calls.spliced_cons (thn (he.run pins s1 σ H1 _ I1 q1) fun iv s2 ⟨y, H2, I2, ry, q2⟩ =>
    Calls.spliced_cons (thn (hf.run pins s2 σ H2 _ I2 q2) fun fv s3 ⟨z, H3, I3, rz, kvs, k, b, ea, ey, eb, hl, q3, q4⟩ => Calls.spliced_nil ?_))))
  subst ey
  obtain rfl : iv = Value.ref b := ry
  exact d_setdT hu I3 ea eb rz hl (fun v hv w' s4 I4 rw' => ⟨v, _, I4, rw', q3 v hv⟩) fun hn w' s4 I4 rw' => ⟨z, _, I4, rw', q4 hn⟩
end
end VG
namespace VG
open PySem PySem.Spec PyProof.Rows L2
section
variable {X : Cx} {pins : List (Addr × Obj)} {σ : L2.St} {H : Hp} {s : Shared} {d : Addr} {o : Obj}
theorem frzT2 {kvs : List (List Key × V)} (I : Inv X pins σ H s) (h : H d = some (.frz o (.dT kvs))) :
    (d == sysModules) = false ∧ s.heap.get? d = some o ∧ o.ExactDict ∧ ∃ (es : Array DictEntry) (ep : Nat), o.data = .dict es ep ∧ es.size = kvs.length ∧
      ∀ (i : Nat) (k : List Key) (v : V), kvs[i]? = some (k, v) → ∃ (en : DictEntry) (q : Addr), es[i]? = some en ∧ en.key = .ref q ∧ H q = some (.tup (k.map kV)) ∧ RelV v en.val := by
  obtain ⟨hd, z, hs, xs, pr, o', es, ep, ho, hx, hdt, he, _⟩ := I.hok d _ h
  rw [hd] at ho
  cases ho
  refine ⟨hs, hd, hx, es, ep, hdt, ?_, fun i k v e => ?_⟩
  · have l1 : es.size = xs.length := size_of_entries he
    have l2 : kvs.length = xs.length := Paired.length pr
    omega
  · obtain ⟨b, hb, e1, e2, e3⟩ := L2.paired_get pr e
    have q := entry_at he i
    rw [hb] at q
    exact ⟨_, b.2.1, q, rfl, e2, e3⟩
end
/-- the pairs, the key its own tuple, each pair a new one -/
def ItiT (d : Addr) (o : Obj) (kvs : List (List Key × V)) : It :=
  ⟨fun i H => H d = some (.frz o (.dT kvs)) ∧ i < kvs.length, fun i H x H' => ∃ (T : Addr) (k : List Key) (v : V) (q : Addr), kvs[i]? = some (k, v) ∧ x = .ref T ∧ H q = some (.tup (k.map kV)) ∧ H T = none ∧ H' = upd H T (.tup [.ref q, v]), fun i H => H d = some (.frz o (.dT kvs)) ∧ kvs.length ≤ i⟩
section
variable {P : Program} {w : World} {K : PySem.W.Frag} {d : Addr} {o : Obj} {es : Array DictEntry} {ep : Nat}
theorem turn_itemsT {kvs : List (List Key × V)} {elts : List Expr} {kk : Nat} {tpos : Pos} (it : Addr) (hod : o.data = .dict es ep) :
    Turn P w K (.Tuple elts kk tpos) (ItiT d o kvs) [it] it (fun i h => ∃ ok ov, IsItemIter h it d i kvs.length ep ok ov) where
  mem := by simp
  obj := fun i h st b hb => by
    have e : b = it := by simpa using hb
    subst e
    obtain ⟨ok, ov, e⟩ := st
    exact ⟨_, e, fun v z => nomatch z⟩
  keep := fun i h h' st k => let ⟨ok, ov, e⟩ := st; ⟨ok, ov, k it (by simp) _ e⟩
  item := by
    intro X hP hw hK hc i pins s σ H E I hf st hg
    subst hP hw hK
    obtain ⟨hd, hi⟩ := hg
    obtain ⟨hs, hgd, hx, es', ep', hdt, hsz, ent⟩ := frzT2 I hd
    obtain ⟨rfl, rfl⟩ := L2.dict_ep hod hdt
    obtain ⟨⟨k, v⟩, hkv⟩ : ∃ p, kvs[i]? = some p := ⟨kvs[i], List.getElem?_eq_getElem hi⟩
    obtain ⟨en, q, hen, hkey, hq, hv⟩ := ent i k v hkv
    obtain ⟨ok, ov, he⟩ := st
    have hlt : it < s.heap.objs.size := Heap.lt_size he
    have hie : i < es'.size := by omega
    have eget : es'[i] = en := by
      have z : es'[i]? = some es'[i] := Array.getElem?_eq_getElem hie
      rw [z] at hen
      exact Option.some.inj hen
    rw [← hsz] at he
    refine wpAny_pyNext_items_item_raw he ⟨o, hgd, hx, hdt⟩ hie fun h' ho hT hz hk => ?_
    rw [eget] at ho hT
    refine ⟨_, rfl, wpAny_letOwnedTupleGo_items (s := { s with heap := h' }) ho fun h'' he' sb => ?_⟩
    have hT2 : h''.get? s.heap.objs.size = some { cls := .type "tuple", data := .seq #[en.key, en.val] } := (sb.2 _ (Nat.ne_of_gt hlt)).trans hT
    have new : ObjOk X.prog X.w (upd H s.heap.objs.size (.tup [.ref q, v])) h'' s.heap.objs.size (.tup [.ref q, v]) :=
      ⟨by show 2 ≤ sizeLine; decide, [en.key, en.val], .cons hkey (.cons hv .nil), ⟨_, hT2, rfl, _, rfl⟩⟩
    have I1 : Inv X pins σ (upd H s.heap.objs.size (.tup [.ref q, v])) { s with heap := h'' } :=
      I.turnedNew (t' := s.toks) (ch := [it]) (fun b ob hb e => (sb.2 b (by simpa using hb)).trans (hk b ob (by simpa using hb) e)) hf (Nat.le_refl _) new
    refine ⟨.ref s.heap.objs.size, _, I1, rfl, ⟨_, k, v, q, hkv, rfl, hq, I.hok.fresh (Nat.le_refl _), rfl⟩, ⟨en.key, en.val, ?_⟩, fun b hb => ?_⟩
    · rw [← hsz]
      exact he'
    · have e : b = it := by simpa using hb
      rw [e, upd_ne (Nat.ne_of_lt hlt)]
      exact (hf it (by simp)).1
  done := by
    intro X hP hw hK hc i pins s σ H E I hf st hg
    subst hP hw hK
    obtain ⟨hd, hi⟩ := hg
    obtain ⟨f0, f1, f2, f3, f4, f5⟩ := hf it (by simp)
    obtain ⟨hs, hgd, hx, es', ep', hdt, hsz, ent⟩ := frzT2 I hd
    obtain ⟨rfl, rfl⟩ := L2.dict_ep hod hdt
    obtain ⟨ok, ov, he⟩ := st
    rw [← hsz] at he
    exact wpAny_pyNext_items_end_raw (I.ok.hd hc) he ⟨o, hgd, hx, hdt⟩ (by omega) fun h' eb => ⟨rfl, I.turned (t' := s.toks) (fun b ob hb e => eb b ob hb e) f0 f1 f3 f4 f5⟩
  self := fun A i s Q E st h => let ⟨_, _, e⟩ := st; PySem.W.kcp_self e h
end
def iItemsT (td : TE) : TI := fun σ H R => td σ H fun x H1 => ∃ d o kvs, x = .ref d ∧ H1 d = some (.frz o (.dT kvs)) ∧ R (ItiT d o kvs) H1
section
variable {X : Cx} {e : Expr} {td : TE} {apos cpos : Pos}
theorem pi_itemsT {elts : List Expr} {kk : Nat} {tpos : Pos} (he : PE X e td) (hbase : attributeBase e "items" X.env (eval e X.env) = eval e X.env := by rfl) (hline : (apos.endLine == cpos.line) = true := by rfl) :
    PI X (.Tuple elts kk tpos) (.Call (.Attribute e "items" apos) [] [] cpos) (iItemsT td) := by
  refine ⟨fun pins s σ H R I h => ?_⟩
  refine wpAny_Call_method (T := "dict") (id := "dict.items") hbase rfl hline F.plainAttrs_dict F.slot_dict_items F.type_dict_items (thn (he.run pins s σ H _ I h) fun u s1 ⟨x, H1, I1, rx, d, o, kvs, ex, hd, q⟩ => ?_)
  subst ex
  obtain rfl : u = Value.ref d := rx
  obtain ⟨hs, hgd, hx, es, ep, hdt, hsz, ent⟩ := frzT2 I1 hd
  have raw : s1.heap.DictRaw d es ep := ⟨o, hgd, hx, hdt⟩
  refine ⟨raw.typeIs, fun b eb => ?_, ?_⟩
  · cases eb
    exact ⟨o, hgd, hx.2.1⟩
  have I2 : Inv X pins σ H1 { s1 with heap := s1.heap.push { cls := .type "dict_items", data := .fields #[.ref d] } } := I1.kept (t' := s1.toks) fun b ob q => Heap.get?_push_of_some _ q
  have fin : wpAny (model X.prog X.w) X.A (pyIter (.ref s1.heap.objs.size)) (PIE X pins σ (.Tuple elts kk tpos) R) X.xe { s1 with heap := s1.heap.push { cls := .type "dict_items", data := .fields #[.ref d] } } := by
    refine wpAny_pyIter_items_raw (d := d) ⟨_, Heap.get?_push_size _ rfl, rfl, rfl⟩ (raw.at fun o e => Heap.get?_push_of_some _ e) (pi_one (tk := s1.toks) I2 _ (turn_itemsT _ hdt) ⟨.none, .none, ?_⟩ q)
    rw [hsz]
    exact Heap.get?_push_size _ rfl
  show wpAny _ _ (callWith cpos (.builtin "dict.items") [.ref d] [] []) _ X.xe s1
  exact method_meetsIn F.slot_dict_items F.entry_dict_items rfl (PySem.evalArgs_none ⟨rfl, raw.typeIs, F.args_dict_items_1 _, _, meets_dict_items_raw d hs, ⟨⟨es, ep, raw⟩, fin⟩⟩)
end
/-- truth, the written part told -/
def tTru (K : PySem.W.Frag) (ta : TE) : TT := fun σ H Q => ta σ H fun x H' => ∃ k, TruV K x H' k ∧ Q k H'
theorem pt_tru {X : Cx} {K : PySem.W.Frag} {a : Expr} {ta : TE} (hK : X.K = K) (ha : PE X a ta) (he : ∀ whole, isTrue a X.env whole = (do let v ← whole; standAt a.pos; holding [v] (truthy v))) : PT X a (tTru K ta) := by
  subst hK
  exact pt_truth ha he
/-- tuple(x), the written part told -/
def rTupOf (K : PySem.W.Frag) : List V → Hp → VK → Prop := fun xs H Q => ∃ p ys, xs = [.ref p] ∧ ((SqL K H p ys ∧ ∀ l, H l = none → Q (.ref l) (L2.upd H l (.tup ys))) ∨ SqT K H p ys ∧ Q (.ref p) H)
theorem call_tupK {X : Cx} : CallR X (.type "tuple") (rTupOf X.K) := call_tuple_of
theorem units1 {k : Nat} {A : Around} (hr : Room k A) : A.units + 1 < cLine := by
  have := hr.un
  omega
theorem walk_itemsT {d : Addr} {o : Obj} {kvs : List (List Key × V)} : Walk (ItiT d o kvs) kvs.length (fun H => H d = some (.frz o (.dT kvs))) (fun i H x H' => ∃ (T : Addr) (k : List Key) (v : V) (q : Addr), kvs[i]? = some (k, v) ∧ x = .ref T ∧ H q = some (.tup (k.map kV)) ∧ H T = none ∧ H' = L2.upd H T (.tup [.ref q, v])) := by
  constructor
  · intro i H hi hG
    exact ⟨hG, hi⟩
  · intro H hG
    exact ⟨hG, Nat.le_refl _⟩
  · intro i H v H' hi hG hy
    exact hy
end VG
namespace CK
open PySem PySem.Spec PyProof.Rows L2 VG FR
def kI (c : List Int) : List L2.Key := c.map fun x => (Sum.inl x : L2.Key)
theorem kI_inj {a b : List Int} (h : kI a = kI b) : a = b := by
  unfold kI at h
  induction a generalizing b with
  | nil =>
    cases b with
    | nil => rfl
    | cons y ys => cases h
  | cons x xs ih =>
    cases b with
    | nil => cases h
    | cons y ys =>
      rw [List.map_cons, List.map_cons] at h
      obtain ⟨h1, h2⟩ := List.cons.inj h
      rw [Sum.inl.inj h1, ih h2]
theorem kI_kV (c : List Int) : (kI c).map kV = c.map V.int := by
  unfold kI
  rw [List.map_map]
  rfl
/-- the keys in the sequence in which they come about -/
def keysOf (f : Nat → List Int) : Nat → List (List Int)
  | 0 => []
  | n + 1 => if f n ∈ keysOf f n then keysOf f n else keysOf f n ++ [f n]
theorem keys_mem (f : Nat → List Int) : ∀ {n j : Nat}, j < n → f j ∈ keysOf f n
  | n + 1, j, h => by
    unfold keysOf
    by_cases e : f n ∈ keysOf f n
    · rw [if_pos e]
      rcases Nat.lt_or_ge j n with z | z
      · exact keys_mem f z
      · have : j = n := by omega
        subst this
        exact e
    · rw [if_neg e]
      rcases Nat.lt_or_ge j n with z | z
      · exact List.mem_append_left _ (keys_mem f z)
      · have : j = n := by omega
        subst this
        exact List.mem_append_right _ (List.mem_singleton.mpr rfl)
theorem keys_nodup (f : Nat → List Int) : ∀ n, (keysOf f n).Nodup
  | 0 => List.nodup_nil
  | n + 1 => by
    unfold keysOf
    by_cases e : f n ∈ keysOf f n
    · rw [if_pos e]
      exact keys_nodup f n
    · rw [if_neg e]
      exact List.nodup_append.mpr ⟨keys_nodup f n, by simp, fun a ha b hb => by
        have : b = f n := List.mem_singleton.mp hb
        subst this
        exact fun z => e (z ▸ ha)⟩
theorem keys_len (f : Nat → List Int) : ∀ n, (keysOf f n).length ≤ n
  | 0 => Nat.le_refl _
  | n + 1 => by
    unfold keysOf
    have := keys_len f n
    split
    · omega
    · rw [List.length_append, List.length_singleton]
      omega
def memb (f : Nat → List Int) (c : List Int) (j : Nat) : Bool := decide (f j = c)
/-- the dict's entries -/
def mkKvs : List (List Int) → List Addr → List (List L2.Key × V)
  | c :: cs, l :: ls => (kI c, .ref l) :: mkKvs cs ls
  | _, _ => []
theorem mk_len : ∀ {cs : List (List Int)} {ls : List Addr}, cs.length = ls.length → (mkKvs cs ls).length = cs.length
  | [], [], _ => rfl
  | _ :: cs, _ :: ls, h => by
    show (mkKvs cs ls).length + 1 = cs.length + 1
    rw [mk_len (Nat.succ.inj h)]
  | [], _ :: _, h => by cases h
  | _ :: _, [], h => by cases h
theorem mk_val {c : List Int} : ∀ {cs : List (List Int)} {ls : List Addr} {v : V}, cs.length = ls.length → valV (mkKvs cs ls) (kI c) = some v → ∃ (i : Nat) (l : Addr), cs[i]? = some c ∧ ls[i]? = some l ∧ v = .ref l
  | [], [], v, _, h => by cases h
  | d :: cs, l :: ls, v, e, h => by
    by_cases q : kI d = kI c
    · have q2 := kI_inj q
      subst q2
      have : valV (mkKvs (d :: cs) (l :: ls)) (kI d) = some (.ref l) := valV_pos (p := (kI d, V.ref l)) rfl
      rw [this] at h
      exact ⟨0, l, rfl, rfl, (Option.some.inj h).symm⟩
    · have : valV (mkKvs (d :: cs) (l :: ls)) (kI c) = valV (mkKvs cs ls) (kI c) := valV_neg (p := (kI d, V.ref l)) q
      rw [this] at h
      obtain ⟨i, m, h1, h2, h3⟩ := mk_val (Nat.succ.inj e) h
      exact ⟨i + 1, m, h1, h2, h3⟩
  | [], _ :: _, _, h, _ => by cases h
  | _ :: _, [], _, h, _ => by cases h
theorem mk_none {c : List Int} : ∀ {cs : List (List Int)} {ls : List Addr}, cs.length = ls.length → valV (mkKvs cs ls) (kI c) = none → c ∉ cs
  | [], [], _, _ => List.not_mem_nil
  | d :: cs, l :: ls, e, h => by
    by_cases q : kI d = kI c
    · have : valV (mkKvs (d :: cs) (l :: ls)) (kI c) = some (.ref l) := valV_pos (p := (kI d, V.ref l)) q
      rw [this] at h
      cases h
    · have : valV (mkKvs (d :: cs) (l :: ls)) (kI c) = valV (mkKvs cs ls) (kI c) := valV_neg (p := (kI d, V.ref l)) q
      rw [this] at h
      have ih := mk_none (Nat.succ.inj e) h
      intro z
      rcases List.mem_cons.mp z with z | z
      · subst z
        exact q rfl
      · exact ih z
  | [], _ :: _, h, _ => by cases h
  | _ :: _, [], h, _ => by cases h
theorem mk_snoc {c : List Int} {l : Addr} : ∀ {cs : List (List Int)} {ls : List Addr}, cs.length = ls.length → mkKvs (cs ++ [c]) (ls ++ [l]) = mkKvs cs ls ++ [(kI c, .ref l)]
  | [], [], _ => rfl
  | d :: cs, m :: ls, e => by
    show (kI d, V.ref m) :: mkKvs (cs ++ [c]) (ls ++ [l]) = _
    rw [mk_snoc (Nat.succ.inj e)]
    rfl
  | [], _ :: _, h => by cases h
  | _ :: _, [], h => by cases h
theorem mk_put {c : List Int} {l : Addr} {cs : List (List Int)} {ls : List Addr} (e : cs.length = ls.length) (h : valV (mkKvs cs ls) (kI c) = none) : putK (mkKvs cs ls) (kI c) (.ref l) = mkKvs (cs ++ [c]) (ls ++ [l]) := by
  unfold putK
  rw [valV_any, h]
  rw [if_neg (by simp), mk_snoc e]
theorem mk_get : ∀ {cs : List (List Int)} {ls : List Addr} {i : Nat} {k : List L2.Key} {v : V}, cs.length = ls.length → (mkKvs cs ls)[i]? = some (k, v) → ∃ c l, cs[i]? = some c ∧ ls[i]? = some l ∧ k = kI c ∧ v = .ref l
  | [], [], _, _, _, _, h => by cases h
  | d :: cs, l :: ls, 0, k, v, e, h => by
    have q : (kI d, V.ref l) = (k, v) := Option.some.inj h
    obtain ⟨q1, q2⟩ := Prod.mk.inj q
    exact ⟨d, l, rfl, rfl, q1.symm, q2.symm⟩
  | d :: cs, l :: ls, i + 1, k, v, e, h => mk_get (i := i) (Nat.succ.inj e) h
  | [], _ :: _, _, _, _, h, _ => by cases h
  | _ :: _, [], _, _, _, h, _ => by cases h
end CK
namespace CK
open PySem PySem.Spec PyProof.Rows L2 VG FR
def fT (ts : List (List Int)) (j : Nat) : List Int := totsWith ts j
def classesL (ts : List (List Int)) (n : Nat) : List (List Int) := ((keysOf (fT ts) n).filter fun c => !c.isEmpty).map fun c => pick (memb (fT ts) c) n
def spClasses (K : PySem.W.Frag) (C : Addr) : Sp := fun vs H Q _ => ∃ (a : Addr) (ks : List Str) (ts : List (List Int)), vs = [.ref a] ∧ Tab K C H a ks ts ∧ ts.length ≤ 1000 ∧ ks.length ≤ 1000 ∧
  ∀ H' u xs, Same H H' → H u = none → H' u = some (.tup xs) → Tots K H' xs (classesL ts ks.length) → Q (.ref u) H'
/-- the groups in the heap, behind i kinds -/
structure Grp (H0 H : Hp) (D : Addr) (f : Nat → List Int) (i : Nat) (ls : List Addr) : Prop where
  d : H D = some (.dT (mkKvs (keysOf f i) ls))
  len : (keysOf f i).length = ls.length
  nd : ls.Nodup
  new : ∀ l ∈ ls, H0 l = none
  at_ : ∀ (j : Nat) (c : List Int) (l : Addr), (keysOf f i)[j]? = some c → ls[j]? = some l → H l = some (.lst ((pick (memb f c) i).map V.int))
theorem Grp.mono {H0 H H' : Hp} {D : Addr} {f : Nat → List Int} {i : Nat} {ls : List Addr} (g : Grp H0 H D f i ls) (e : Same H H') : Grp H0 H' D f i ls :=
  ⟨e _ _ g.d, g.len, g.nd, g.new, fun j c l h1 h2 => e _ _ (g.at_ j c l h1 h2)⟩
theorem pick_nil {P : Nat → Bool} {i : Nat} (h : ∀ j, j < i → P j = false) : pick P i = [] := by
  unfold pick
  have e : (List.range i).filter P = [] := List.filter_eq_nil_iff.mpr fun j hj => by
    rw [h j (List.mem_range.mp hj)]
    exact Bool.false_ne_true
  rw [e]
  rfl
theorem nodup_at {α : Type} : ∀ {l : List α} {i j : Nat} {x : α}, l.Nodup → l[i]? = some x → l[j]? = some x → i = j
  | [], _, _, _, _, h, _ => by simp at h
  | a :: l, 0, 0, _, _, _, _ => rfl
  | a :: l, 0, j + 1, x, n, h, k => by
    have e : a = x := Option.some.inj h
    subst e
    exact absurd (List.mem_of_getElem? (l := l) (i := j) k) (List.nodup_cons.mp n).1
  | a :: l, i + 1, 0, x, n, h, k => by
    have e : a = x := Option.some.inj k
    subst e
    exact absurd (List.mem_of_getElem? (l := l) (i := i) h) (List.nodup_cons.mp n).1
  | a :: l, i + 1, j + 1, x, n, h, k => by rw [nodup_at (l := l) (i := i) (j := j) (List.nodup_cons.mp n).2 h k]
/-- one more kind, of a group that is there -/
theorem Grp.old {H0 H : Hp} {D l : Addr} {f : Nat → List Int} {i j : Nat} {ls : List Addr} (g : Grp H0 H D f i ls) (h1 : (keysOf f i)[j]? = some (f i)) (h2 : ls[j]? = some l) :
    Grp H0 (L2.upd H l (.lst ((pick (memb f (f i)) i).map V.int ++ [V.int (i : Int)]))) D f (i + 1) ls := by
  have hl := g.at_ j _ l h1 h2
  have ek : keysOf f (i + 1) = keysOf f i := by
    show (if f i ∈ keysOf f i then keysOf f i else keysOf f i ++ [f i]) = _
    rw [if_pos (List.mem_of_getElem? h1)]
  refine ⟨?_, by rw [ek]; exact g.len, g.nd, g.new, ?_⟩
  · rw [ek, upd_ne (ne_of g.d hl (fun z => nomatch z))]
    exact g.d
  · intro m c l' k1 k2
    rw [ek] at k1
    by_cases e : m = j
    · subst e
      have e1 : c = f i := Option.some.inj (k1.symm.trans h1)
      have e2 : l' = l := Option.some.inj (k2.symm.trans h2)
      subst e1 e2
      rw [upd_same, pick_yes (by unfold memb; exact decide_eq_true rfl), List.map_append]
      rfl
    · have nl : l' ≠ l := fun z => by
        subst z
        exact e (nodup_at g.nd k2 h2)
      have nc : c ≠ f i := fun z => by
        subst z
        exact e (nodup_at (keys_nodup f i) k1 h1)
      rw [upd_ne nl, pick_no (by unfold memb; exact decide_eq_false (fun z => nc z.symm))]
      exact g.at_ m c l' k1 k2
/-- one more kind, of a new group -/
theorem Grp.fresh {H0 H : Hp} {D L : Addr} {f : Nat → List Int} {i : Nat} {ls : List Addr} (g : Grp H0 H D f i ls) (n : f i ∉ keysOf f i) (nL : H L = none) (n0 : H0 L = none) :
    Grp H0 (L2.upd (L2.upd (L2.upd H L (.lst [])) D (.dT (mkKvs (keysOf f i ++ [f i]) (ls ++ [L])))) L (.lst [V.int (i : Int)])) D f (i + 1) (ls ++ [L]) := by
  have ek : keysOf f (i + 1) = keysOf f i ++ [f i] := by
    show (if f i ∈ keysOf f i then keysOf f i else keysOf f i ++ [f i]) = _
    rw [if_neg n]
  have nDL : D ≠ L := ne_of_none g.d nL
  have there : ∀ l ∈ ls, l ≠ L ∧ l ≠ D := by
    intro l hl
    obtain ⟨j, ej⟩ := List.mem_iff_getElem?.mp hl
    have hj : j < (keysOf f i).length := by
      have := (List.getElem?_eq_some_iff.mp ej).1
      rw [g.len]
      exact this
    have h := g.at_ j _ l (List.getElem?_eq_getElem hj) ej
    exact ⟨ne_of_none h nL, ne_of h g.d (fun z => nomatch z)⟩
  refine ⟨?_, ?_, ?_, ?_, ?_⟩
  · rw [upd_ne nDL, upd_same, ek]
  · rw [ek, List.length_append, List.length_append, g.len]
    rfl
  · exact List.nodup_append.mpr ⟨g.nd, by simp, fun a ha b hb => by
      have : b = L := List.mem_singleton.mp hb
      subst this
      exact (there a ha).1⟩
  · intro l hl
    rcases List.mem_append.mp hl with z | z
    · exact g.new l z
    · have : l = L := List.mem_singleton.mp z
      subst this
      exact n0
  · intro j c l k1 k2
    rw [ek] at k1
    rcases Nat.lt_or_ge j ls.length with z | z
    · rw [List.getElem?_append_left (by rw [g.len]; exact z)] at k1
      rw [List.getElem?_append_left z] at k2
      have th := there l (List.mem_of_getElem? k2)
      have nc : f i ≠ c := fun q => n (q ▸ List.mem_of_getElem? k1)
      rw [upd_ne th.1, upd_ne th.2, upd_ne th.1, pick_no (by unfold memb; exact decide_eq_false nc)]
      exact g.at_ j c l k1 k2
    · rw [List.getElem?_append_right (by rw [g.len]; exact z)] at k1
      rw [List.getElem?_append_right z] at k2
      rw [g.len] at k1
      have j0 : j - ls.length = 0 := by
        have := (List.getElem?_eq_some_iff.mp k2).1
        rw [List.length_singleton] at this
        omega
      rw [j0] at k1 k2
      have e1 : f i = c := Option.some.inj k1
      have e2 : L = l := Option.some.inj k2
      subst e1 e2
      have p0 : pick (memb f (f i)) i = [] := pick_nil fun j hj => by
        unfold memb
        exact decide_eq_false (fun q => n (q ▸ keys_mem f hj))
      rw [upd_same, pick_yes (by unfold memb; exact decide_eq_true rfl), p0]
      rfl
end CK
namespace CK
open PySem PySem.Spec PyProof.Rows L2 VG FR
theorem seqT_unlock {K : PySem.W.Frag} {H : Hp} {D t : Addr} {od : Obj} {kvs : List (List L2.Key × V)} {o : HO} {xs : List V} (hD : H D = some (.frz od (.dT kvs))) (h : SqT K H t xs) : SqT K (L2.upd H D o) t xs := by
  rcases h with (h | ⟨o', h⟩) | h
  · exact .inl (.inl (by rw [upd_ne (ne_of h hD (fun z => nomatch z))]; exact h))
  · exact .inl (.inr ⟨o', by rw [upd_ne (ne_of h hD (fun z => by cases z))]; exact h⟩)
  · exact .inr h
theorem Tots.unlock {K : PySem.W.Frag} {H : Hp} {D : Addr} {od : Obj} {kvs : List (List L2.Key × V)} {o : HO} (hD : H D = some (.frz od (.dT kvs))) : ∀ {vs : List V} {cs : List (List Int)}, Tots K H vs cs → Tots K (L2.upd H D o) vs cs
  | [], [], _ => trivial
  | _ :: _, _ :: _, ⟨⟨t, e1, h⟩, r⟩ => ⟨⟨t, e1, seqT_unlock hD h⟩, Tots.unlock hD r⟩
  | [], _ :: _, h => h.elim
  | _ :: _, [], h => h.elim
theorem Tots.snoc {K : PySem.W.Frag} {H : Hp} {t : Addr} {c : List Int} (hv : SqT K H t (c.map V.int)) : ∀ {vs : List V} {cs : List (List Int)}, Tots K H vs cs → Tots K H (vs ++ [.ref t]) (cs ++ [c])
  | [], [], _ => ⟨⟨t, rfl, hv⟩, trivial⟩
  | _ :: _, _ :: _, h => ⟨h.1, Tots.snoc hv h.2⟩
  | [], _ :: _, h => h.elim
  | _ :: _, [], h => h.elim
theorem Tots.upd {K : PySem.W.Frag} {H : Hp} {D : Addr} {ys zs : List V} (hD : H D = some (.lst ys)) : ∀ {vs : List V} {cs : List (List Int)}, Tots K H vs cs → Tots K (L2.upd H D (.lst zs)) vs cs
  | [], [], _ => trivial
  | _ :: _, _ :: _, ⟨⟨t, e1, h⟩, r⟩ => ⟨⟨t, e1, seqT_upd hD h⟩, Tots.upd hD r⟩
  | [], _ :: _, h => h.elim
  | _ :: _, [], h => h.elim
/-- what has come about behind i groups -/
def outL (f : Nat → List Int) (n i : Nat) : List (List Int) := (((keysOf f n).take i).filter fun c => !c.isEmpty).map fun c => pick (memb f c) n
theorem out_yes {f : Nat → List Int} {n i : Nat} {c : List Int} (e : (keysOf f n)[i]? = some c) (h : (!c.isEmpty) = true) : outL f n (i + 1) = outL f n i ++ [pick (memb f c) n] := by
  unfold outL
  rw [List.take_add_one, e, List.filter_append, List.map_append]
  have e2 : (some c).toList.filter (fun c => !c.isEmpty) = [c] := by
    show [c].filter _ = _
    simp only [List.filter_cons, h, if_true, List.filter_nil]
  rw [e2]
  rfl
theorem out_no {f : Nat → List Int} {n i : Nat} {c : List Int} (e : (keysOf f n)[i]? = some c) (h : (!c.isEmpty) = false) : outL f n (i + 1) = outL f n i := by
  unfold outL
  rw [List.take_add_one, e, List.filter_append, List.map_append]
  have e2 : (some c).toList.filter (fun c => !c.isEmpty) = [] := by
    show [c].filter _ = _
    simp only [List.filter_cons, h, if_false, List.filter_nil, Bool.false_eq_true]
  rw [e2]
  exact List.append_nil _
end CK
namespace CK
open PySem PySem.Spec PyProof.Rows L2 VG FR
theorem seqT_at {K : PySem.W.Frag} {H : Hp} {D t : Addr} {o o0 : HO} {xs : List V} (hD : H D = some o0) (h1 : ∀ ys, HO.tup ys ≠ o0) (h2 : ∀ od ys, HO.frz od (.tup ys) ≠ o0) (h : SqT K H t xs) : SqT K (L2.upd H D o) t xs := by
  rcases h with (h | ⟨o', h⟩) | h
  · exact .inl (.inl (by rw [upd_ne (ne_of h hD (h1 _))]; exact h))
  · exact .inl (.inr ⟨o', by rw [upd_ne (ne_of h hD (h2 _ _))]; exact h⟩)
  · exact .inr h
theorem Tots.at_ {K : PySem.W.Frag} {H : Hp} {D : Addr} {o o0 : HO} (hD : H D = some o0) (h1 : ∀ ys, HO.tup ys ≠ o0) (h2 : ∀ od ys, HO.frz od (.tup ys) ≠ o0) : ∀ {vs : List V} {cs : List (List Int)}, Tots K H vs cs → Tots K (L2.upd H D o) vs cs
  | [], [], _ => trivial
  | _ :: _, _ :: _, ⟨⟨t, e1, h⟩, r⟩ => ⟨⟨t, e1, seqT_at hD h1 h2 h⟩, Tots.at_ hD h1 h2 r⟩
  | [], _ :: _, h => h.elim
  | _ :: _, [], h => h.elim
abbrev Nums := List (L2.Key × V)
def putRow (g : Nums) (at_ : Nat) (c : List Int) : Nums := c.foldl (fun g k => putK g (Sum.inl k : L2.Key) (V.int (at_ : Int))) g
def numF (cs : List (List Int)) : Nat → Nums
  | 0 => []
  | i + 1 => putRow (numF cs i) i (cs.getD i [])
/-- the number of a kind's class, None if it has none -/
def numV (cs : List (List Int)) (k : Int) : V := (valV (numF cs cs.length) (Sum.inl k : L2.Key)).getD .non
theorem row_len (at_ : Nat) : ∀ (c : List Int) (g : Nums), (putRow g at_ c).length ≤ g.length + c.length
  | [], g => Nat.le_refl _
  | k :: c, g => by
    have h := row_len at_ c (putK g (Sum.inl k : L2.Key) (V.int (at_ : Int)))
    have h2 := length_putK g (Sum.inl k : L2.Key) (V.int (at_ : Int))
    show (putRow (putK g _ _) at_ c).length ≤ _
    rw [List.length_cons]
    omega
theorem num_len {cs : List (List Int)} (h : ∀ c ∈ cs, c.length ≤ 1000) : ∀ i, i ≤ cs.length → (numF cs i).length ≤ i * 1000
  | 0, _ => Nat.le_refl _
  | i + 1, hi => by
    have ih := num_len h i (by omega)
    have hc : (cs.getD i []).length ≤ 1000 := by
      rw [List.getD_eq_getElem?_getD, List.getElem?_eq_getElem (by omega)]
      exact h _ (List.getElem_mem _)
    have := row_len i (cs.getD i []) (numF cs i)
    show (putRow (numF cs i) i (cs.getD i [])).length ≤ _
    rw [Nat.succ_mul]
    omega
theorem row_take {g : Nums} {at_ i : Nat} {c : List Int} {k : Int} (e : c[i]? = some k) : putRow g at_ (c.take (i + 1)) = putK (putRow g at_ (c.take i)) (Sum.inl k : L2.Key) (V.int (at_ : Int)) := by
  unfold putRow
  rw [List.take_add_one, e, List.foldl_append]
  rfl
theorem classes_len (ts : List (List Int)) (n : Nat) : (classesL ts n).length ≤ n ∧ ∀ c ∈ classesL ts n, c.length ≤ n := by
  constructor
  · unfold classesL
    rw [List.length_map]
    exact Nat.le_trans (List.length_filter_le _ _) (keys_len _ n)
  · intro c hc
    unfold classesL at hc
    obtain ⟨k, _, rfl⟩ := List.mem_map.mp hc
    exact pick_len _ n
def spNumbers (K : PySem.W.Frag) (C : Addr) : Sp := fun vs H Q _ => ∃ (a : Addr) (ks : List Str) (ts : List (List Int)), vs = [.ref a] ∧ Tab K C H a ks ts ∧ ts.length ≤ 1000 ∧ ks.length ≤ 1000 ∧
  ∀ H' u, Same H H' → H u = none → H' u = some (.tup ((List.range ks.length).map fun j => numV (classesL ts ks.length) ((j : Nat) : Int))) → Q (.ref u) H'
end CK
namespace VG
open PySem PySem.Spec PyProof.Rows L2
abbrev emptyS (w : World) : Obj := ⟨.type "set", none, .set #[] 0 (.fresh 0 0 (!w.params.followText "set-order")), #[]⟩
section
variable {P : Program} {w : World} {A : Around} {E : Value → Shared → Prop} {s : Shared}
set_option maxHeartbeats 6400000 in
theorem set_listI {l : Addr} {us : Array Value} (ks : List Int) {Q : Value → Shared → Prop} (calm : A.handled = none) (hl : s.heap.IsList l us) (hi : IntsAre us.toList ks) (room : ks.length + 1 < scanBound)
    (fin : ∀ (hp : Heap) (tk c : Nat), SetR w hp s.heap.objs.size (fun j => decide (j ∈ ks)) c → c ≤ ks.length → (∀ b o, s.heap.get? b = some o → hp.get? b = some o) → Q (.ref s.heap.objs.size) { s with heap := hp, toks := tk }) :
    wpAny (model P w) A (call (.type "set") [.ref l]) Q E s := by
  have size : us.size = ks.length := by have z := IntsAre.length hi; rw [Array.length_toList] at z; exact z
  obtain ⟨cc, tl, mro⟩ := F.called_set.mro; have made := F.called_set.made; have sub := F.called_set.sub
  refine wpAny_call (codeAny_of_tree ?_); show wpAny _ _ (callAny (.type "set") _) _ _ _
  refine wpAny_pure ⟨Code.quiet_builtin _ (by decide +kernel), codeAny_builtin F.entry_type_call ?_⟩; rw [Around.under_plain (weight_type_call_type "set" [.ref l] []) rfl]
  have nt := F.called_set.notType; have cr := F.called_set.canCreate; have tc := F.typeCall_set_1 (.ref l)
  repeat (any_goals (first | assumption | wp_step))
  refine codeAny_mono (code_set_led1 (.ref l) (E := E) (Q₁ := fun obj s₁ => obj = .ref s.heap.objs.size ∧ s₁ = { s with heap := s.heap.push (emptyS w) }) ⟨rfl, rfl⟩) fun r s₁ got => ?_
  match r, got with
  | .error e, got => exact got
  | .ok (.ret obj), got =>
    obtain ⟨rfl, rfl⟩ := got
    have new : (s.heap.push (emptyS w)).get? s.heap.objs.size = some (emptyS w) := Heap.get?_push_size _ rfl
    have ty : Shared.TypeIs { s with heap := s.heap.push (emptyS w) } (.ref s.heap.objs.size) "set" := ⟨_, new, rfl⟩
    have il := F.called_set.init.lookup; have ib := F.called_set.init.bind (.ref s.heap.objs.size)
    repeat (any_goals (first | assumption | wp_step))
    refine codeAny_mono (codeAny_call_builtin (R := wants (fun r t => r = .none ∧ ∃ hp tk c, t = { s with heap := hp, toks := tk } ∧ SetR w hp s.heap.objs.size (fun j => decide (j ∈ ks)) c ∧ c ≤ ks.length ∧
      (∀ b o, s.heap.get? b = some o → hp.get? b = some o)) E) F.called_set.init.plain F.entry_set_init (check_set_init_1 ty ?_)) fun r₂ t got2 => ?_
    · obtain ⟨⟨cls, dict, data, slots⟩, at_, hc, nl, hd⟩ := hl
      simp only at hc hd
      subst hc hd
      have at2 : (s.heap.push (emptyS w)).get? l = some { cls := .type "list", dict := dict, data := .seq us nl, slots := slots } := Heap.get?_push_of_some _ at_
      have hsls := F.sub_list_set; have hslf := F.sub_list_frozenset; have hne : (Value.type "list" == Value.type "dict") = false := by decide
      have isl : (s.heap.push (emptyS w)).IsList l us := ⟨_, at2, rfl, nl, rfl⟩
      unfold Builtin.«set.__init__» noKeywords Builtin.Frozenset.updateFrom; generalize hPI : pyIter = PI
      wp_walk
      subst hPI
      refine wpAny_pyIter_list isl ?_
      refine wpAny_bind (wpAny_runValue ?_)
      have ls : l < s.heap.objs.size := Heap.lt_size at_; have calm3 : A.in1.in1.in1.handled = none := by simp [calm]
      have ps : (s.heap.push (emptyS w)).objs.size = s.heap.objs.size + 1 := Heap.size_push ..
      have nI : l ≠ (s.heap.push (emptyS w)).objs.size := by rw [ps]; exact Nat.ne_of_lt (Nat.lt_succ_of_lt ls)
      have nS : s.heap.objs.size ∉ [(s.heap.push (emptyS w)).objs.size, l] := by
        rw [ps]
        intro z
        rcases List.mem_cons.mp z with z | z
        · exact Nat.ne_of_lt (Nat.lt_succ_self _) z
        · exact Nat.ne_of_gt ls (List.mem_singleton.mp z)
      have val : ∀ (i : Nat) (v : Value), us[i]? = some v → ∃ k t, ks[i]? = some k ∧ v = .int k t := by
        intro i v hv
        have il : i < ks.length := by rw [← size]; exact (Array.getElem?_eq_some_iff.mp hv).1
        obtain ⟨t, e⟩ := PyProof.Rows.IntsAre.int_at hi i v (by rw [Array.getElem?_toList]; exact hv)
        exact ⟨ks[i], t, List.getElem?_eq_getElem il, by rw [e, List.getD_eq_getElem?_getD, List.getElem?_eq_getElem il] <;> rfl⟩
      refine set_update_ints ((Walks.list calm3 _ l nI us).toS) s.heap.objs.size nS ks size room val (us.size - 0) 0 _ (by omega) (Nat.zero_le _) ⟨⟨_, Heap.get?_push_size _ rfl, rfl, rfl⟩, (isl.push _)⟩ ⟨0, Nat.le_refl 0, setR_new_at (Heap.get?_push_of_some _ new)⟩ ?_
      intro s' c' hm hc' hS'
      obtain ⟨hp, g2, d2, tk2, os2⟩ := s'
      have eg : g2 = s.gens := hm.gens; have ed : d2 = s.drawn := hm.drawn; have eo : os2 = s.os := hm.os
      subst eg ed eo
      refine wpAny_pure ?_
      show wpAny _ _ (ret Value.none) _ _ _
      refine wpAny_pure ⟨rfl, hp, tk2, c', rfl, hS', by rw [← size]; exact hc', fun b o e => ?_⟩
      have b0 : b < s.heap.objs.size := Heap.lt_size e
      refine hm.heap b o ?_ (Heap.get?_push_of_some _ (Heap.get?_push_of_some _ e))
      intro z
      rcases List.mem_cons.mp z with z | z
      · exact Nat.ne_of_lt b0 z
      · have z := List.mem_singleton.mp z
        rw [ps] at z
        exact Nat.ne_of_lt (Nat.lt_succ_of_lt b0) z
    · match r₂, got2 with
      | .error e, got2 => exact got2
      | .ok (.ret r), got2 =>
        obtain ⟨rfl, hp, tk, c, rfl, a1, a2, a3⟩ := got2
        repeat (any_goals (first | assumption | wp_step))
        exact fin _ _ _ a1 a2 a3
      | .ok .next, got2 => exact got2.elim
      | .ok .brk, got2 => exact got2.elim
      | .ok .cont, got2 => exact got2.elim
  | .ok .next, got => exact got.elim
  | .ok .brk, got => exact got.elim
  | .ok .cont, got => exact got.elim
end
section
variable {X : Cx}
def rSetL (K : PySem.W.Frag) (w : World) : List V → Hp → VK → Prop := fun vs H Q => ∃ (a : Addr) (ks : List Int), vs = [.ref a] ∧ SqL K H a (ks.map V.int) ∧ ks.length ≤ 1000 ∧ ∀ (p : Addr) (c : Nat), H p = none → c ≤ ks.length → Q (.ref p) (upd H p (SetO w p (fun j => decide (j ∈ ks)) c))
theorem cr_setL (hc : X.calm = true) : CallR X (.type "set") (rSetL X.K X.w) := by
  intro pins s σ H vs us Q I r h
  obtain ⟨a, ks, rfl, hS, hl, q⟩ := h
  rw [Vals.ref1 r]
  obtain ⟨its, rv, pl, hz⟩ := I.list hS
  have hi : IntsAre its.toArray.toList ks := ints_of_vals rv
  refine set_listI ks (I.ok.hd hc) pl.isList hi (by unfold scanBound; omega) fun hp tk c R hcn kp => ?_
  have fr : H s.heap.objs.size = none := I.hok.fresh (Nat.le_refl _)
  exact ⟨.ref _, upd H s.heap.objs.size (SetO X.w s.heap.objs.size (fun j => decide (j ∈ ks)) c), I.laid (t' := tk) kp (Nat.le_refl _) (setO_new R), rfl, q _ c fr hcn⟩
end
end VG
namespace VG
open PySem PySem.Spec PyProof.Rows L2
section
variable {X : Cx}
theorem cr_range1 : CallR X (.type "range") (fun vs H Q => ∃ j, vs = [V.int j] ∧ ∀ p, H p = none → Q (.ref p) (upd H p (.rng 0 j))) := by
  intro pins s σ H vs us Q I rv h
  obtain ⟨j, rfl, q⟩ := h
  obtain ⟨u1, rfl, ru⟩ := rv.one
  obtain ⟨t, rfl⟩ := ru
  refine call_range_1 ⟨.ref s.heap.objs.size, upd H s.heap.objs.size (.rng 0 j), I.laid (fun b o e => Heap.get?_push_of_some _ e) (Nat.le_refl _) ?new, rfl, q _ (I.hok.fresh (Nat.le_refl _))⟩
  exact ⟨_, _, _, Heap.get?_push_size _ rfl⟩
def rLenK (K : PySem.W.Frag) : List V → Hp → VK → Prop := fun xs H Q => ∃ p ys, xs = [V.ref p] ∧ (SqL K H p ys ∨ SqT K H p ys) ∧ Q (.int ys.length) H
theorem call_lenK : CallR X (.builtin "len") (rLenK X.K) := call_len_seq
def iRngV (te : TE) : TI := fun σ H R => te σ H fun x H1 => ∃ (a : Addr) (lo hi : Int), x = .ref a ∧ H1 a = some (.rng lo hi) ∧ (-(2 ^ 62) ≤ lo ∧ lo < 2 ^ 62 ∧ -(2 ^ 62) ≤ hi ∧ hi < 2 ^ 62) ∧ R (Itr lo (hi - lo).toNat) H1
theorem pi_rngV {tg e : Expr} {te : TE} (he : PE X e te) : PI X tg e (iRngV te) := by
  refine ⟨fun pins s σ H R I h => ?_⟩
  refine thn (he.run pins s σ H _ I h) fun v t1 ⟨x, H1, J1, rv, got⟩ => ?_
  obtain ⟨a, lo, hi, rfl, ha, ⟨b1, b2, b3, b4⟩, q⟩ := got
  cases rv
  obtain ⟨t, u, v2, at_⟩ := J1.hok a _ ha
  refine wpAny_pyIter_range at_ (small_one b1 b2 b3 b4) ?_
  refine ⟨t1.heap.objs.size, [t1.heap.objs.size], _, _, H1, rfl, J1.kept (t' := t1.toks) fun b o z => Heap.get?_push_of_some _ z, turn_range _ lo (hi - lo).toNat, ?_, fun b hb => ?_, q⟩
  · have z1 : lo + ((0 : Nat) : Int) * 1 = lo := by simp
    have z2 : (((hi - lo).toNat : Nat) : Int) - ((0 : Nat) : Int) = Builtin.Range.rangeSize lo hi 1 := by
      rw [rangeSize_one]
      split <;> omega
    show IsRangeIter _ _ (lo + ((0 : Nat) : Int) * 1) ((((hi - lo).toNat : Nat) : Int) - ((0 : Nat) : Int)) 1
    rw [z1, z2]
    exact Heap.get?_push_size _ rfl
  · obtain rfl : b = t1.heap.objs.size := by simpa using hb
    exact J1.fpOk (Nat.le_refl _) (J1.hok.fresh (Nat.le_refl _))
end
end VG
namespace M14
open M2
def Eqv (a b : Int × Int) : Prop := a.1 * b.2 = b.1 * a.2
theorem eqv_mk {a b : Int × Int} (ha : Low a.1 a.2) (hb : 0 < b.2) (h : Eqv a b) : a = mk b.1 b.2 := by
  have e := mk_eq (a := b.1) (b := b.2) (by omega)
  have l := mk_low (a := b.1) (b := b.2) (by omega)
  have h : a.1 * b.2 = b.1 * a.2 := h
  have c : a.1 * (mk b.1 b.2).2 = (mk b.1 b.2).1 * a.2 := by
    refine Int.eq_of_mul_eq_mul_right (a := b.2) (by omega) ?_
    grind
  have q := low_eq ha l c
  exact Prod.ext q.1 q.2
end M14
namespace M15
/-- no member twice, within a list or in two -/
def Apart (bs : List (List Int)) : Prop := bs.flatten.Nodup
theorem apart_get : ∀ {bs : List (List Int)} {i : Nat} {b : List Int}, Apart bs → bs[i]? = some b → b.Nodup
  | b :: bs, 0, c, h, e => by
    have : b = c := Option.some.inj e
    subst this
    exact (List.nodup_append.mp h).1
  | b :: bs, i + 1, c, h, e => apart_get (bs := bs) (i := i) (List.nodup_append.mp h).2.1 e
theorem apart_mem {bs : List (List Int)} {b : List Int} (h : Apart bs) (m : b ∈ bs) : b.Nodup := by
  obtain ⟨i, e⟩ := List.mem_iff_getElem?.mp m
  exact apart_get h e
theorem apart_two : ∀ {bs : List (List Int)} {i j : Nat} {a b : List Int}, Apart bs → bs[i]? = some a → bs[j]? = some b → i ≠ j → (a ++ b).Nodup
  | c :: bs, 0, 0, a, b, _, _, _, n => absurd rfl n
  | c :: bs, 0, j + 1, a, b, h, ha, hb, _ => by
    have e : c = a := Option.some.inj ha
    subst e
    have hb' : bs[j]? = some b := hb
    have ⟨h1, h2, h3⟩ := List.nodup_append.mp (show (c ++ bs.flatten).Nodup from h)
    exact List.nodup_append.mpr ⟨h1, apart_get (bs := bs) h2 hb', fun x hx y hy => h3 x hx y (List.mem_flatten.mpr ⟨b, List.mem_of_getElem? hb', hy⟩)⟩
  | c :: bs, i + 1, 0, a, b, h, ha, hb, _ => by
    have e : c = b := Option.some.inj hb
    subst e
    have ha' : bs[i]? = some a := ha
    have ⟨h1, h2, h3⟩ := List.nodup_append.mp (show (c ++ bs.flatten).Nodup from h)
    exact List.nodup_append.mpr ⟨apart_get (bs := bs) h2 ha', h1, fun x hx y hy z => h3 y hy x (List.mem_flatten.mpr ⟨a, List.mem_of_getElem? ha', hx⟩) z.symm⟩
  | c :: bs, i + 1, j + 1, a, b, h, ha, hb, n => apart_two (bs := bs) (i := i) (j := j) (List.nodup_append.mp (show (c ++ bs.flatten).Nodup from h)).2.1 ha hb (fun z => n (by rw [z]))
end M15
namespace CK
open PySem PySem.Spec PyProof.Rows L2 VG FR
def BtL : List Nat → List Q2 → Prop
  | n :: ns, p :: ps => Bt n p ∧ BtL ns ps
  | [], [] => True
  | _, _ => False
def bits (e : Nat) (ns : List Nat) : Nat := (ns.map (· + e)).sum
theorem BtL.len : ∀ {ns : List Nat} {ps : List Q2}, BtL ns ps → ns.length = ps.length
  | [], [], _ => rfl
  | _ :: _, _ :: _, h => by rw [List.length_cons, List.length_cons, h.2.len]
  | [], _ :: _, h => h.elim
  | _ :: _, [], h => h.elim
theorem BtL.get : ∀ {ns : List Nat} {ps : List Q2} {i : Nat} {p : Q2}, BtL ns ps → ps[i]? = some p → ∃ n, ns[i]? = some n ∧ Bt n p
  | n :: _, p :: _, 0, q, h, e => by
    have e1 : p = q := Option.some.inj e
    subst e1
    exact ⟨n, rfl, h.1⟩
  | _ :: ns, _ :: ps, i + 1, q, h, e => h.2.get (i := i) e
  | [], [], _, _, _, e => by cases e
  | [], _ :: _, _, _, h, _ => h.elim
  | _ :: _, [], _, _, h, _ => h.elim
theorem BtL.take : ∀ {ns : List Nat} {ps : List Q2} (i : Nat), BtL ns ps → BtL (ns.take i) (ps.take i)
  | [], [], i, h => by
    rw [List.take_nil, List.take_nil]
    trivial
  | _ :: _, _ :: _, 0, h => trivial
  | _ :: _, _ :: _, i + 1, h => ⟨h.1, h.2.take i⟩
  | [], _ :: _, _, h => h.elim
  | _ :: _, [], _, h => h.elim
end CK
namespace CK
open PySem PySem.Spec PyProof.Rows L2 VG FR
theorem mem_pick {P : Nat → Bool} {n : Nat} {x : Int} : x ∈ pick P n ↔ ∃ j : Nat, j < n ∧ P j = true ∧ x = (j : Int) := by
  unfold pick
  constructor
  · intro h
    obtain ⟨j, hj, rfl⟩ := List.mem_map.mp h
    have ⟨h1, h2⟩ := List.mem_filter.mp hj
    exact ⟨j, List.mem_range.mp h1, h2, rfl⟩
  · rintro ⟨j, h1, h2, rfl⟩
    exact List.mem_map.mpr ⟨j, List.mem_filter.mpr ⟨List.mem_range.mpr h1, h2⟩, rfl⟩
theorem pick_nodup (P : Nat → Bool) (n : Nat) : (pick P n).Nodup := by
  unfold pick
  refine List.pairwise_map.mpr ?_
  have h : (List.range n).Nodup := List.nodup_range
  exact (List.Pairwise.filter P h).imp fun z e => z (by omega)
theorem keys_from (f : Nat → List Int) : ∀ {n : Nat} {c : List Int}, c ∈ keysOf f n → ∃ j, j < n ∧ f j = c
  | n + 1, c, h => by
    unfold keysOf at h
    by_cases e : f n ∈ keysOf f n
    · rw [if_pos e] at h
      obtain ⟨j, h1, h2⟩ := keys_from f h
      exact ⟨j, by omega, h2⟩
    · rw [if_neg e] at h
      rcases List.mem_append.mp h with z | z
      · obtain ⟨j, h1, h2⟩ := keys_from f z
        exact ⟨j, by omega, h2⟩
      · exact ⟨n, by omega, (List.mem_singleton.mp z).symm⟩
def sgL (f : Nat → List Int) (n : Nat) : List (List Int) := (keysOf f n).filter fun c => !c.isEmpty
theorem sg_nodup (f : Nat → List Int) (n : Nat) : (sgL f n).Nodup := List.Pairwise.filter _ (keys_nodup f n)
theorem classes_eq (ts : List (List Int)) (n : Nat) : classesL ts n = (sgL (fT ts) n).map fun c => pick (memb (fT ts) c) n := rfl
theorem picks_apart (f : Nat → List Int) (n : Nat) : ∀ (ks : List (List Int)), ks.Nodup → M15.Apart (ks.map fun c => pick (memb f c) n)
  | [], _ => List.nodup_nil
  | c :: ks, h => by
    have ⟨h1, h2⟩ := List.nodup_cons.mp h
    show (pick (memb f c) n ++ (ks.map fun c => pick (memb f c) n).flatten).Nodup
    refine List.nodup_append.mpr ⟨pick_nodup _ _, picks_apart f n ks h2, fun x hx y hy e => ?_⟩
    obtain ⟨l, hl, hy⟩ := List.mem_flatten.mp hy
    obtain ⟨d, hd, rfl⟩ := List.mem_map.mp hl
    obtain ⟨i, i1, i2, i3⟩ := mem_pick.mp hx
    obtain ⟨j, j1, j2, j3⟩ := mem_pick.mp hy
    have e2 : i = j := by omega
    subst e2
    have q1 : f i = c := of_decide_eq_true i2
    have q2 : f i = d := of_decide_eq_true j2
    exact h1 (by rw [← q1, q2]; exact hd)
theorem classes_apart (ts : List (List Int)) (n : Nat) : M15.Apart (classesL ts n) := picks_apart _ _ _ (sg_nodup _ _)
theorem nodup_le {α : Type} [DecidableEq α] : ∀ (l D : List α), l.Nodup → (∀ x ∈ l, x ∈ D) → l.length ≤ D.length
  | [], _, _, _ => Nat.zero_le _
  | a :: l, D, h, s => by
    have ⟨h1, h2⟩ := List.nodup_cons.mp h
    have ha := s a List.mem_cons_self
    have ih := nodup_le l (D.erase a) h2 fun x hx => (List.mem_erase_of_ne (fun e => h1 (by rw [← e]; exact hx))).mpr (s x (List.mem_cons_of_mem _ hx))
    rw [List.length_erase_of_mem ha] at ih
    have := List.length_pos_of_mem ha
    rw [List.length_cons]
    omega
theorem classes_below {ts : List (List Int)} {n : Nat} {c : List Int} {x : Int} (hc : c ∈ classesL ts n) (hx : x ∈ c) : ∃ j : Nat, j < n ∧ x = (j : Int) := by
  rw [classes_eq] at hc
  obtain ⟨d, hd, rfl⟩ := List.mem_map.mp hc
  obtain ⟨j, j1, _, rfl⟩ := mem_pick.mp hx
  exact ⟨j, j1, rfl⟩
theorem mem_tw {ts : List (List Int)} {k : Int} {t : Nat} {c : List Int} (e : ts[t]? = some c) : (t : Int) ∈ totsWith ts k ↔ c.contains k = true := by
  have g : ts.getD t [] = c := by rw [List.getD_eq_getElem?_getD, e]; rfl
  have hl := (List.getElem?_eq_some_iff.mp e).1
  have h := mem_pick (P := fun j => (ts.getD j []).contains k) (n := ts.length) (x := (t : Int))
  have q : totsWith ts k = pick (fun j => (ts.getD j []).contains k) ts.length := rfl
  rw [q, h]
  constructor
  · rintro ⟨j, _, h2, h3⟩
    have : j = t := by omega
    subst this
    rw [g] at h2
    exact h2
  · intro z
    exact ⟨t, hl, by rw [g]; exact z, rfl⟩
/-- a kind of some total has a class, just one -/
theorem cls_one {ts : List (List Int)} {n j : Nat} {c : List Int} (hc : c ∈ ts) (hj : j < n) (hk : (j : Int) ∈ c) : ∃ a : Nat, ∃ cl, (classesL ts n)[a]? = some cl ∧ (j : Int) ∈ cl ∧ ∀ b d, (classesL ts n)[b]? = some d → (j : Int) ∈ d → b = a := by
  obtain ⟨t, et⟩ := List.mem_iff_getElem?.mp hc
  have ht : (t : Int) ∈ fT ts j := (mem_tw et).mpr (List.contains_iff_mem.mpr hk)
  have hs : fT ts j ∈ sgL (fT ts) n := List.mem_filter.mpr ⟨keys_mem _ hj, by
    cases h : fT ts j with
    | nil => rw [h] at ht; cases ht
    | cons _ _ => rfl⟩
  obtain ⟨a, ea⟩ := List.mem_iff_getElem?.mp hs
  refine ⟨a, pick (memb (fT ts) (fT ts j)) n, by rw [classes_eq, List.getElem?_map, ea]; rfl, mem_pick.mpr ⟨j, hj, decide_eq_true rfl, rfl⟩, fun b d hb hd => ?_⟩
  rw [classes_eq, List.getElem?_map] at hb
  obtain ⟨key, ek, rfl⟩ := Option.map_eq_some_iff.mp hb
  obtain ⟨i, i1, i2, i3⟩ := mem_pick.mp hd
  have : i = j := by omega
  subst this
  have q : fT ts i = key := of_decide_eq_true i2
  subst q
  exact nodup_at (sg_nodup _ _) ek ea
theorem row_val (at_ : Nat) (k : Int) : ∀ (c : List Int) (g : Nums), valV (putRow g at_ c) (Sum.inl k : L2.Key) = if k ∈ c then some (V.int (at_ : Int)) else valV g (Sum.inl k : L2.Key)
  | [], g => by simp [putRow]
  | x :: c, g => by
    have ih := row_val at_ k c (putK g (Sum.inl x : L2.Key) (V.int (at_ : Int)))
    show valV (putRow (putK g (Sum.inl x : L2.Key) (V.int (at_ : Int))) at_ c) _ = _
    rw [ih, valV_put]
    by_cases h1 : k ∈ c
    · rw [if_pos h1, if_pos (List.mem_cons_of_mem _ h1)]
    · rw [if_neg h1]
      by_cases h2 : k = x
      · subst h2
        rw [if_pos rfl, if_pos List.mem_cons_self]
      · rw [if_neg (fun z => h2 (Sum.inl.inj z)), if_neg (fun z => (List.mem_cons.mp z).elim h2 h1)]
theorem num_val {cs : List (List Int)} {k : Int} {a : Nat} (hk : k ∈ cs.getD a []) (only : ∀ b, b ≠ a → k ∉ cs.getD b []) : ∀ i, a < i → valV (numF cs i) (Sum.inl k : L2.Key) = some (V.int (a : Int))
  | 0, h => by omega
  | i + 1, h => by
    show valV (putRow (numF cs i) i (cs.getD i [])) _ = _
    rw [row_val]
    by_cases e : i = a
    · subst e
      rw [if_pos hk]
    · rw [if_neg (only i e)]
      exact num_val hk only i (by omega)
theorem num_of {cs : List (List Int)} {k : Int} {a : Nat} {cl : List Int} (ha : cs[a]? = some cl) (hk : k ∈ cl) (only : ∀ b d, cs[b]? = some d → k ∈ d → b = a) : numV cs k = .int (a : Int) := by
  have g : cs.getD a [] = cl := by rw [List.getD_eq_getElem?_getD, ha]; rfl
  unfold numV
  rw [num_val (a := a) (by rw [g]; exact hk) (fun b nb hb => ?_) cs.length (List.getElem?_eq_some_iff.mp ha).1]
  · rfl
  · rw [List.getD_eq_getElem?_getD] at hb
    cases hc : cs[b]? with
    | none => rw [hc] at hb; cases hb
    | some d =>
      rw [hc] at hb
      exact nb (only b d hc hb)
def headI (c : List Int) : Int := c.getD 0 0
theorem rec_iff {ts : List (List Int)} {n : Nat} {c cl : List Int} {a : Nat} (hc : c ∈ ts) (ok : ∀ x ∈ c, 0 ≤ x ∧ x < (n : Int)) (ha : (classesL ts n)[a]? = some cl) : (∃ k ∈ c, numV (classesL ts n) k = V.int (a : Int)) ↔ c.contains (headI cl) = true := by
  obtain ⟨t, et⟩ := List.mem_iff_getElem?.mp hc
  have ha' := ha
  rw [classes_eq, List.getElem?_map] at ha'
  obtain ⟨key, ek, e2⟩ := Option.map_eq_some_iff.mp ha'
  have hkey := (List.mem_filter.mp (List.mem_of_getElem? ek)).1
  obtain ⟨j1, l1, f1⟩ := keys_from _ hkey
  have ne : cl ≠ [] := by
    intro z
    have : (j1 : Int) ∈ cl := by rw [← e2]; exact mem_pick.mpr ⟨j1, l1, decide_eq_true f1, rfl⟩
    rw [z] at this
    cases this
  have hm : headI cl ∈ cl := by
    cases cl with
    | nil => exact absurd rfl ne
    | cons x r => exact List.mem_cons_self
  have hm2 := hm
  rw [← e2] at hm2
  obtain ⟨j0, l0, f0, e0⟩ := mem_pick.mp hm2
  have f0 : fT ts j0 = key := of_decide_eq_true f0
  rw [e2] at e0
  constructor
  · rintro ⟨k, hk, hn⟩
    have ⟨k0, k1⟩ := ok k hk
    obtain ⟨j, rfl⟩ := Int.eq_ofNat_of_zero_le k0
    obtain ⟨a2, cl2, g1, g2, g3⟩ := cls_one (n := n) hc (by omega) hk
    rw [num_of g1 g2 g3] at hn
    have : a2 = a := by have := V.int.inj hn; omega
    subst this
    have e3 : cl2 = cl := Option.some.inj (g1.symm.trans ha)
    subst e3
    rw [← e2] at g2
    obtain ⟨j', l', f', e'⟩ := mem_pick.mp g2
    have : j' = j := by omega
    subst this
    have f' : fT ts j' = key := of_decide_eq_true f'
    have z : (t : Int) ∈ fT ts j' := (mem_tw et).mpr (List.contains_iff_mem.mpr hk)
    rw [f', ← f0] at z
    rw [e0]
    exact (mem_tw et).mp z
  · intro z
    have hk := List.contains_iff_mem.mp z
    rw [e0] at hk
    obtain ⟨a2, cl2, g1, g2, g3⟩ := cls_one hc l0 hk
    refine ⟨(j0 : Int), hk, ?_⟩
    have : a = a2 := g3 a cl ha (by rw [← e0]; exact hm)
    subst this
    exact num_of g1 g2 g3
def numI (cs : List (List Int)) (k : Int) : Int := match numV cs k with
  | .int a => a
  | _ => 0
theorem num_int {ts : List (List Int)} {n : Nat} {c : List Int} {k : Int} (hc : c ∈ ts) (ok : ∀ x ∈ c, 0 ≤ x ∧ x < (n : Int)) (hk : k ∈ c) : numV (classesL ts n) k = V.int (numI (classesL ts n) k) := by
  have ⟨k0, k1⟩ := ok k hk
  obtain ⟨j, rfl⟩ := Int.eq_ofNat_of_zero_le k0
  obtain ⟨a2, cl2, g1, g2, g3⟩ := cls_one (n := n) hc (by omega) hk
  have e := num_of g1 g2 g3
  unfold numI
  rw [e]
end CK
namespace CK
open PySem PySem.Spec PyProof.Rows L2 VG FR
/-- entries that are integers, or not -/
def Parts (K : PySem.W.Frag) (H : Hp) : List V → List (Option Int) → Prop
  | x :: xs, o :: os => Part K H x o ∧ Parts K H xs os
  | [], [] => True
  | _, _ => False
theorem Parts.mono {K : PySem.W.Frag} {H H' : Hp} (e : Same H H') : ∀ {xs : List V} {os : List (Option Int)}, Parts K H xs os → Parts K H' xs os
  | [], [], _ => trivial
  | _ :: _, _ :: _, h => ⟨part_mono e h.1, h.2.mono e⟩
  | [], _ :: _, h => h.elim
  | _ :: _, [], h => h.elim
theorem Parts.len {K : PySem.W.Frag} {H : Hp} : ∀ {xs : List V} {os : List (Option Int)}, Parts K H xs os → xs.length = os.length
  | [], [], _ => rfl
  | _ :: _, _ :: _, h => by rw [List.length_cons, List.length_cons, h.2.len]
  | [], _ :: _, h => h.elim
  | _ :: _, [], h => h.elim
theorem Parts.get {K : PySem.W.Frag} {H : Hp} : ∀ {xs : List V} {os : List (Option Int)} {i : Nat} {x : V}, Parts K H xs os → xs[i]? = some x → ∃ o, os[i]? = some o ∧ Part K H x o
  | a :: _, o :: _, 0, x, h, e => by
    have e1 : a = x := Option.some.inj e
    subst e1
    exact ⟨o, rfl, h.1⟩
  | _ :: xs, _ :: os, i + 1, x, h, e => h.2.get (i := i) e
  | [], [], _, _, _, e => by cases e
  | [], _ :: _, _, _, h, _ => h.elim
  | _ :: _, [], _, _, h, _ => h.elim
/-- any value: no tuple, or a tuple with such entries -/
def AnyV (K : PySem.W.Frag) (H : Hp) (v : V) : Option (List (Option Int)) → Prop
  | none => ∃ ty : String, TyX K H v (.type ty) ∧ kitB ty "tuple" = some false
  | some os => ∃ p xs, v = .ref p ∧ SqT K H p xs ∧ Parts K H xs os ∧ os.length ≤ 1000
theorem AnyV.mono {K : PySem.W.Frag} {H H' : Hp} (e : Same H H') {v : V} : ∀ {o : Option (List (Option Int))}, AnyV K H v o → AnyV K H' v o
  | none, ⟨ty, h, k⟩ => ⟨ty, tyX_mono e h, k⟩
  | some _, ⟨p, xs, e1, h, r, l⟩ => ⟨p, xs, e1, seqT e h, r.mono e, l⟩
def EsOk (es : List Q2) : Prop := ∀ p ∈ es, M2.Low p.1 p.2 ∧ Bt 20 p
theorem BtL.all : ∀ {ns : List Nat} {ps : List Q2} {m : Nat}, BtL ns ps → (∀ n ∈ ns, n ≤ m) → ∀ p ∈ ps, Bt m p
  | [], [], _, _, _, p, hp => by cases hp
  | n :: ns, q :: ps, m, h, hn, p, hp => by
    rcases List.mem_cons.mp hp with z | z
    · rw [z]
      exact h.1.mono (hn n List.mem_cons_self)
    · exact BtL.all h.2 (fun k hk => hn k (List.mem_cons_of_mem _ hk)) p z
  | [], _ :: _, _, h, _, _, _ => h.elim
  | _ :: _, [], _, h, _, _, _ => h.elim
end CK
namespace CK
open PySem PySem.Spec PyProof.Rows L2 VG FR HD
def On (p q : Addr) (G H : Hp) : Prop := Hd p q H ∧ Same G H ∧ G p = none ∧ G q = none
theorem frz_p (p q : Addr) (H : Hp) : frz p q H p = none ∧ frz p q H q = none := by
  unfold frz
  exact ⟨if_pos (.inl rfl), if_pos (.inr rfl)⟩
theorem frz_le {p q : Addr} {H : Hp} : Same (frz p q H) H := frz_keep (Keep.refl p q H)
theorem frz_cases {p q b : Addr} {o : HO} {H : Hp} (h : frz p q H b = some o) : b ≠ p ∧ b ≠ q ∧ H b = some o := by
  unfold frz at h
  by_cases z : b = p ∨ b = q
  · rw [if_pos z] at h
    cases h
  · rw [if_neg z] at h
    exact ⟨fun y => z (.inl y), fun y => z (.inr y), h⟩
section
variable {p q : Addr} {G H H' : Hp}
theorem On.start (h : Hd p q H) : On p q (frz p q H) H := ⟨h, frz_le, (frz_p p q H).1, (frz_p p q H).2⟩
theorem On.hd (h : On p q G H) : Hd p q H := h.1
theorem On.le (h : On p q G H) : Same G H := h.2.1
theorem On.neP (h : On p q G H) {b : Addr} {o : HO} (e : G b = some o) : b ≠ p ∧ b ≠ q := ⟨fun z => (by rw [z, h.2.2.1] at e; cases e), fun z => (by rw [z, h.2.2.2] at e; cases e)⟩
theorem On.draw (h : On p q G H) (hd : Hd p q H') (k : Keep p q H H') : On p q G H' :=
  ⟨hd, fun b o e => k b o (h.neP e).1 (h.neP e).2 (h.le b o e), h.2.2⟩
theorem On.same (h : On p q G H) (s : Same H H') : On p q G H' := ⟨h.1.same s, h.le.trans s, h.2.2⟩
theorem On.new (h : On p q G H) {n : Addr} {o : HO} (hn : H n = none) : On p q G (L2.upd H n o) := h.same (same_upd hn)
theorem On.free (h : On p q G H) {n : Addr} (hn : H n = none) : n ≠ p ∧ n ≠ q ∧ G n = none := ⟨(h.1.free hn).1, (h.1.free hn).2, h.le.free hn⟩
theorem On.put (h : On p q G H) {D : Addr} {o : HO} (f : D ≠ p ∧ D ≠ q ∧ G D = none) : On p q G (L2.upd H D o) :=
  ⟨hd_put h.1 f.1 f.2.1, fun b x e => by rw [upd_ne (ne_of_none e f.2.2)]; exact h.le b x e, h.2.2⟩
theorem On.base (h : On p q G H) : On p q (frz p q H) H ∧ Same G (frz p q H) := ⟨.start h.1, fun b o e => frz_at (h.le b o e) (h.neP e)⟩
theorem On.keep (h : On p q (frz p q H) H') : Keep p q H H' := fun b o n1 n2 e => h.le b o (frz_at e ⟨n1, n2⟩)
theorem On.drop {G0 : Hp} (h : On p q G H) (s : Same G0 G) : On p q G0 H := ⟨h.1, s.trans h.le, s.free h.2.2.1, s.free h.2.2.2⟩
end
abbrev cALPH : Str := "acdefghijklnop"
def lastC (t : Nat) : Nat := cALPH.cps.toList.getD (t % 14) 0
theorem last_ok (t : Nat) : cALPH.cps.toList[t % 14]? = some (lastC t) ∧ 97 ≤ lastC t ∧ lastC t ≤ 122 := by
  have h : ∀ i : Fin 14, cALPH.cps.toList[i.1]? = some (cALPH.cps.toList.getD i.1 0) ∧ 97 ≤ cALPH.cps.toList.getD i.1 0 ∧ cALPH.cps.toList.getD i.1 0 ≤ 122 := by decide +kernel
  exact h ⟨t % 14, Nat.mod_lt _ (by decide)⟩
/-- a word of a turn -/
def Wd (t : Nat) (z : Str) : Prop := ∃ pre : List Nat, z.cps.toList = pre ++ [lastC t] ∧ pre.length ≤ 2 ∧ ∀ c ∈ pre, 97 ≤ c ∧ c ≤ 122
theorem Wd.name {t : Nat} {z : Str} (h : Wd t z) : NameOk z := by
  obtain ⟨pre, e, l, a⟩ := h
  have sz : z.cps.size = pre.length + 1 := by rw [← Array.length_toList, e, List.length_append]; rfl
  refine ⟨by omega, by omega, fun c hc => ?_⟩
  rw [e] at hc
  rcases List.mem_append.mp hc with q | q
  · exact a c q
  · have := List.mem_singleton.mp q
    subst this
    exact (last_ok t).2
theorem Wd.ne {i j : Nat} {z : Str} (h1 : Wd i z) (h2 : Wd j z) : lastC i = lastC j := by
  obtain ⟨a, e1, _⟩ := h1
  obtain ⟨b, e2, _⟩ := h2
  rw [e1] at e2
  have := (List.append_inj' e2 rfl).2
  exact (List.cons.inj this).1
theorem rising_step : ∀ (p : Str) (l : List Str) (i : Nat) (a b : Str), risingS p l = true → (p :: l)[i]? = some a → (p :: l)[i + 1]? = some b → ltCps b.cps.toList a.cps.toList = false
  | p, [], i, a, b, _, _, h => by simp at h
  | p, x :: r, 0, a, b, h, ha, hb => by
    have e1 : p = a := Option.some.inj ha
    have e2 : x = b := Option.some.inj hb
    subst e1 e2
    have h : (!ltCps x.cps.toList p.cps.toList && risingS x r) = true := h
    rw [Bool.and_eq_true] at h
    simpa using h.1
  | p, x :: r, i + 1, a, b, h, ha, hb => by
    have h : (!ltCps x.cps.toList p.cps.toList && risingS x r) = true := h
    rw [Bool.and_eq_true] at h
    exact rising_step x r i a b h.2 ha hb
theorem ascS_of {ks : List Str} (h : sortedS ks = true) (n : ks.Nodup) : AscS ks := by
  intro i a b ha hb
  have ne : a ≠ b := fun z => by
    subst z
    have := nodup_at n ha hb
    omega
  have le : ltCps b.cps.toList a.cps.toList = false := by
    cases ks with
    | nil => simp at ha
    | cons p l => exact rising_step p l i a b h ha hb
  rw [ltCps_eq] at le
  have le := of_decide_eq_false le
  have ne2 : a.cps.toList ≠ b.cps.toList := fun z => ne (by
    obtain ⟨x⟩ := a
    obtain ⟨y⟩ := b
    have e : x = y := Array.toList_inj.mp z
    rw [e])
  rcases Std.lt_trichotomy a.cps.toList b.cps.toList with z | z | z
  · exact z
  · exact absurd z ne2
  · exact absurd z le
def spLawNames (K : PySem.W.Frag) : Sp := fun vs H Q _ => ∃ (p q : Addr) (m : Nat), vs = [.ref p, .int m] ∧ Hd p q H ∧ 1 ≤ m ∧ m ≤ 12 ∧ ∀ (H' : Hp) (u : Addr) (ks : List Str), On p q (frz p q H) H' → H' u = some (.tup (ks.map V.str)) → KindsOk ks → ks.length = m → Q (.ref u) H'
end CK
namespace CK
open PySem PySem.Spec PyProof.Rows L2 VG FR HD
theorem fmod_nat (i : Nat) {m : Nat} (h : 0 < m) : ((i : Int)).fmod (m : Int) = ((i % m : Nat) : Int) := by
  rw [Int.fmod_eq_emod_of_nonneg _ (by omega)]
  rfl
end CK
namespace CK
open PySem PySem.Spec PyProof.Rows L2 VG FR HD
def asInts (ys : List V) : List Int := ys.map fun v => match v with
  | .int a => a
  | _ => 0
theorem as_ints : ∀ c : List Int, asInts (c.map V.int) = c
  | [] => rfl
  | a :: c => by
    show a :: asInts (c.map V.int) = a :: c
    rw [as_ints c]
def rd (G : Hp) (v : V) : List Int := match v with
  | .ref t => match G t with
    | some (.lst ys) => asInts ys
    | _ => []
  | _ => []
def LOk (G : Hp) (v : V) : Prop := ∃ (t : Addr) (c : List Int), v = .ref t ∧ G t = some (.lst (c.map V.int))
theorem rd_eq {G : Hp} {t : Addr} {c : List Int} (h : G t = some (.lst (c.map V.int))) : rd G (.ref t) = c := by
  show (match G t with
    | some (.lst ys) => asInts ys
    | _ => []) = c
  rw [h]
  exact as_ints c
theorem LOk.get {G : Hp} {v : V} (h : LOk G v) : ∃ t, v = .ref t ∧ G t = some (.lst ((rd G v).map V.int)) := by
  obtain ⟨t, c, rfl, e⟩ := h
  exact ⟨t, rfl, by rw [rd_eq e]; exact e⟩
theorem LOk.mono {G G' : Hp} (s : Same G G') {v : V} (h : LOk G v) : LOk G' v ∧ rd G' v = rd G v := by
  obtain ⟨t, c, rfl, e⟩ := h
  exact ⟨⟨t, c, rfl, s _ _ e⟩, by rw [rd_eq e, rd_eq (s _ _ e)]⟩
def Ls (G : Hp) (xs : List V) : Prop := ∀ v ∈ xs, LOk G v
theorem Ls.mono {G G' : Hp} (s : Same G G') {xs : List V} (h : Ls G xs) : Ls G' xs ∧ xs.map (rd G') = xs.map (rd G) :=
  ⟨fun v hv => ((h v hv).mono s).1, List.map_congr_left fun v hv => ((h v hv).mono s).2⟩
theorem Ls.perm {G : Hp} {xs ys : List V} (p : ys.Perm xs) (h : Ls G xs) : Ls G ys := fun v hv => h v (p.mem_iff.mp hv)
theorem asc_lt : ∀ {l : List Int} {a : Int}, Asc (a :: l) → ∀ x ∈ l, a < x
  | b :: l, a, h, x, hx => by
    rcases List.mem_cons.mp hx with z | z
    · rw [z]
      exact h.1
    · exact Int.lt_trans h.1 (asc_lt h.2 x z)
theorem asc_nodup : ∀ {l : List Int}, Asc l → l.Nodup
  | [], _ => List.nodup_nil
  | a :: l, h => by
    refine List.nodup_cons.mpr ⟨fun z => ?_, asc_nodup (l := l) ?_⟩
    · have := asc_lt h a z
      omega
    · cases l with
      | nil => trivial
      | cons b r => exact h.2
/-- a lot of numbers below m -/
def LotI (m : Nat) (c : List Int) : Prop := Asc c ∧ ∀ x ∈ c, 0 ≤ x ∧ x < (m : Int)
theorem below_len {m : Nat} {c : List Int} (n : c.Nodup) (h : ∀ x ∈ c, 0 ≤ x ∧ x < (m : Int)) : c.length ≤ m := by
  have z := nodup_le c ((List.range m).map fun (j : Nat) => (j : Int)) n fun x hx => by
    have ⟨h1, h2⟩ := h x hx
    obtain ⟨j, rfl⟩ := Int.eq_ofNat_of_zero_le h1
    exact List.mem_map.mpr ⟨j, List.mem_range.mpr (by omega), rfl⟩
  rw [List.length_map, List.length_range] at z
  exact z
theorem LotI.len {m : Nat} {c : List Int} (h : LotI m c) : c.length ≤ m := below_len (asc_nodup h.1) h.2
/-- lists at given places -/
def Blk (H : Hp) : List Addr → List (List Int) → Prop
  | t :: ts, b :: bs => H t = some (.lst (b.map V.int)) ∧ Blk H ts bs
  | [], [] => True
  | _, _ => False
theorem Blk.len {H : Hp} : ∀ {ts : List Addr} {bs : List (List Int)}, Blk H ts bs → ts.length = bs.length
  | [], [], _ => rfl
  | _ :: _, _ :: _, h => by rw [List.length_cons, List.length_cons, h.2.len]
  | [], _ :: _, h => h.elim
  | _ :: _, [], h => h.elim
theorem Blk.imp {H H' : Hp} : ∀ {ts : List Addr} {bs : List (List Int)}, (∀ t ∈ ts, ∀ o, H t = some o → H' t = some o) → Blk H ts bs → Blk H' ts bs
  | [], [], _, _ => trivial
  | t :: ts, b :: bs, k, h => ⟨k t List.mem_cons_self _ h.1, Blk.imp (fun u hu => k u (List.mem_cons_of_mem _ hu)) h.2⟩
  | [], _ :: _, _, h => h.elim
  | _ :: _, [], _, h => h.elim
theorem Blk.get {H : Hp} : ∀ {ts : List Addr} {bs : List (List Int)} {j : Nat} {t : Addr}, Blk H ts bs → ts[j]? = some t → ∃ b, bs[j]? = some b ∧ H t = some (.lst (b.map V.int))
  | a :: _, b :: _, 0, t, h, e => by
    have e1 : a = t := Option.some.inj e
    subst e1
    exact ⟨b, rfl, h.1⟩
  | _ :: ts, _ :: bs, j + 1, t, h, e => h.2.get (j := j) e
  | [], [], _, _, _, e => by cases e
  | [], _ :: _, _, _, h, _ => h.elim
  | _ :: _, [], _, _, h, _ => h.elim
theorem Blk.at_ {H : Hp} {ts : List Addr} {bs : List (List Int)} (h : Blk H ts bs) {t : Addr} (m : t ∈ ts) : ∃ b, b ∈ bs ∧ H t = some (.lst (b.map V.int)) := by
  obtain ⟨j, e⟩ := List.mem_iff_getElem?.mp m
  obtain ⟨b, e2, k⟩ := h.get e
  exact ⟨b, List.mem_of_getElem? e2, k⟩
theorem Blk.snoc {H : Hp} {t : Addr} {b : List Int} (k : H t = some (.lst (b.map V.int))) : ∀ {ts : List Addr} {bs : List (List Int)}, Blk H ts bs → Blk H (ts ++ [t]) (bs ++ [b])
  | [], [], _ => ⟨k, trivial⟩
  | _ :: _, _ :: _, h => ⟨h.1, h.2.snoc k⟩
  | [], _ :: _, h => h.elim
  | _ :: _, [], h => h.elim
theorem Blk.set {H : Hp} {c : List Int} : ∀ {ts : List Addr} {bs : List (List Int)} {j : Nat} {t : Addr}, ts.Nodup → ts[j]? = some t → Blk H ts bs → Blk (L2.upd H t (.lst (c.map V.int))) ts (bs.set j c)
  | a :: ts, b :: bs, 0, t, n, e, h => by
    have e1 : a = t := Option.some.inj e
    subst e1
    refine ⟨upd_same, Blk.imp (fun u hu o k => ?_) h.2⟩
    have : u ≠ a := fun z => (List.nodup_cons.mp n).1 (z ▸ hu)
    rw [upd_ne this]
    exact k
  | a :: ts, b :: bs, j + 1, t, n, e, h => by
    have ha : a ≠ t := fun z => (List.nodup_cons.mp n).1 (z ▸ List.mem_of_getElem? (l := ts) (i := j) e)
    refine ⟨by rw [upd_ne ha]; exact h.1, Blk.set (j := j) (List.nodup_cons.mp n).2 e h.2⟩
  | [], [], _, _, _, e, _ => by cases e
  | [], _ :: _, _, _, _, _, h => h.elim
  | _ :: _, [], _, _, _, _, h => h.elim
theorem Blk.ls {H : Hp} : ∀ {ts : List Addr} {bs : List (List Int)}, Blk H ts bs → Ls H (ts.map V.ref) ∧ (ts.map V.ref).map (rd H) = bs
  | [], [], _ => ⟨fun v h => (by cases h), rfl⟩
  | t :: ts, b :: bs, h => by
    have ih := h.2.ls
    refine ⟨fun v hv => ?_, ?_⟩
    · rcases List.mem_cons.mp hv with z | z
      · rw [z]
        exact ⟨t, b, rfl, h.1⟩
      · exact ih.1 v z
    · show rd H (.ref t) :: (ts.map V.ref).map (rd H) = b :: bs
      rw [ih.2, rd_eq h.1]
  | [], _ :: _, h => h.elim
  | _ :: _, [], h => h.elim
/-- blocks: lists without a common member, together the numbers below m -/
def BlocksOk (m : Nat) (bs : List (List Int)) : Prop := M15.Apart bs ∧ bs ≠ [] ∧ bs.length ≤ 12 ∧ ∀ b ∈ bs, ∀ x ∈ b, 0 ≤ x ∧ x < (m : Int)
end CK
namespace CK
open PySem PySem.Spec PyProof.Rows L2 VG FR HD
/-- a list at F that grows by new lists -/
def Gw (p q : Addr) (H : Hp) (F : Addr) (ts : List Addr) (bs : List (List Int)) : Prop := H F = some (.lst (ts.map V.ref)) ∧ Blk H ts bs ∧ ∀ t ∈ ts, t ≠ F ∧ t ≠ p ∧ t ≠ q
section
variable {p q F : Addr} {H H' : Hp} {ts : List Addr} {bs : List (List Int)}
theorem Gw.nil (h : H F = some (.lst [])) : Gw p q H F [] [] := ⟨h, trivial, fun t h => by cases h⟩
theorem Gw.same (h : Gw p q H F ts bs) (s : Same H H') : Gw p q H' F ts bs := ⟨s _ _ h.1, Blk.imp (fun t _ o k => s _ _ k) h.2.1, h.2.2⟩
theorem Gw.draw (h : Gw p q H F ts bs) (f : F ≠ p ∧ F ≠ q) (k : Keep p q H H') : Gw p q H' F ts bs :=
  ⟨k _ _ f.1 f.2 h.1, Blk.imp (fun t ht o e => k _ _ (h.2.2 t ht).2.1 (h.2.2 t ht).2.2 e) h.2.1, h.2.2⟩
theorem Gw.push (h : Gw p q H F ts bs) {t : Addr} {b : List Int} (e : H t = some (.lst (b.map V.int))) (n : t ≠ F ∧ t ≠ p ∧ t ≠ q) : Gw p q (L2.upd H F (.lst (ts.map V.ref ++ [.ref t]))) F (ts ++ [t]) (bs ++ [b]) := by
  refine ⟨by rw [upd_same, List.map_append]; rfl, Blk.snoc (by rw [upd_ne n.1]; exact e) (Blk.imp (fun u hu o k => by rw [upd_ne (h.2.2 u hu).1]; exact k) h.2.1), fun u hu => ?_⟩
  rcases List.mem_append.mp hu with z | z
  · exact h.2.2 u z
  · rw [List.mem_singleton.mp z]
    exact n
theorem Gw.ls (h : Gw p q H F ts bs) : Ls (frz p q H) (ts.map V.ref) ∧ (ts.map V.ref).map (rd (frz p q H)) = bs :=
  (Blk.imp (fun t ht o k => frz_at k ⟨(h.2.2 t ht).2.1, (h.2.2 t ht).2.2⟩) h.2.1).ls
theorem Gw.len (h : Gw p q H F ts bs) : ts.length = bs.length := h.2.1.len
end
def Distinct (m : Nat) (c : List Int) : Prop := c.Nodup ∧ ∀ x ∈ c, 0 ≤ x ∧ x < (m : Int)
theorem Distinct.len {m : Nat} {c : List Int} (h : Distinct m c) : c.length ≤ m := below_len h.1 h.2
theorem BlocksOk.one {m : Nat} {bs : List (List Int)} (h : BlocksOk m bs) {b : List Int} (hb : b ∈ bs) : Distinct m b := ⟨M15.apart_mem h.1 hb, h.2.2.2 b hb⟩
end CK
namespace CK
open PySem PySem.Spec PyProof.Rows L2 VG FR HD
def Fs (m : Nat) (G : Hp) (ys : List V) : Prop := ∀ v ∈ ys, LOk G v ∧ LotI m (rd G v)
theorem Fs.mono {m : Nat} {G G' : Hp} (s : Same G G') {ys : List V} (h : Fs m G ys) : Fs m G' ys := fun v hv => by
  have e := (h v hv).1.mono s
  exact ⟨e.1, by rw [e.2]; exact (h v hv).2⟩
theorem Fs.sub {m : Nat} {G : Hp} {xs ys : List V} (h : Fs m G xs) (k : ∀ v ∈ ys, v ∈ xs) : Fs m G ys := fun v hv => h v (k v hv)
/-- the state of the drawn totals: blocks at B, totals at F -/
def InF (p q : Addr) (G : Hp) (m : Nat) (B F : Addr) (H : Hp) : Prop := On p q G H ∧ (B ≠ p ∧ B ≠ q) ∧ (F ≠ p ∧ F ≠ q) ∧ ∃ xs ys, H B = some (.lst xs) ∧ H F = some (.lst ys) ∧ Ls (frz p q H) xs ∧ BlocksOk m (xs.map (rd (frz p q H))) ∧ Fs m (frz p q H) ys ∧ ys.length ≤ 40
theorem InF.step {p q B F F2 : Addr} {G H H2 : Hp} {m : Nat} {zs : List V} (h : InF p q G m B F H) (on : On p q (frz p q H) H2) (f : F2 ≠ p ∧ F2 ≠ q) (e : H2 F2 = some (.lst zs)) (k : Fs m (frz p q H2) zs) (l : zs.length ≤ 40) : InF p q G m B F2 H2 := by
  obtain ⟨o, b, _, xs, ys, h1, h2, h3, h4, h5, h6⟩ := h
  have s := on.base.2
  have ls := h3.mono s
  exact ⟨on.drop (o.base.2), b, f, xs, zs, on.le _ _ (frz_at h1 b), e, ls.1, by rw [ls.2]; exact h4, k, l⟩
theorem keep_frz {p q : Addr} {H : Hp} : Keep p q H (frz p q H) := fun b o n1 n2 e => frz_at e ⟨n1, n2⟩
theorem Tots.frz {K : PySem.W.Frag} {p q : Addr} {H : Hp} (hd : Hd p q H) : ∀ {vs : List V} {cs : List (List Int)}, Tots K H vs cs → Tots K (frz p q H) vs cs
  | [], [], _ => trivial
  | _ :: _, _ :: _, ⟨⟨t, e, h⟩, r⟩ => ⟨⟨t, e, seqTK hd keep_frz h⟩, r.frz hd⟩
  | [], _ :: _, h => h.elim
  | _ :: _, [], h => h.elim
theorem asc_pw : ∀ {l : List Int}, l.Pairwise (· < ·) → Asc l
  | [], _ => trivial
  | [_], _ => trivial
  | a :: b :: r, h => by
    have ⟨h1, h2⟩ := List.pairwise_cons.mp h
    exact ⟨h1 b List.mem_cons_self, asc_pw h2⟩
end CK
namespace CK
open PySem PySem.Spec PyProof.Rows L2 VG FR HD
end CK
namespace CK
open PySem PySem.Spec PyProof.Rows L2 VG FR HD
theorem eqvAll_ints : ∀ a b : List Int, PyData.eqvAll (a.map PyData.int) (b.map PyData.int) = decide (a = b)
  | [], [] => by simp [PyData.eqvAll]
  | [], _ :: _ => by simp [PyData.eqvAll]
  | _ :: _, [] => by simp [PyData.eqvAll]
  | x :: a, y :: b => by
    have ih := eqvAll_ints a b
    rw [List.map_cons, List.map_cons, PyData.eqvAll, ih, PyData.eqv]
    by_cases h : x = y
    · subst h
      by_cases k : a = b
      · subst k
        simp
      · simp [k]
    · simp [h]
theorem eqv_ints (a b : List Int) : PyData.eqv (.list (a.map PyData.int)) (.list (b.map PyData.int)) = decide (a = b) := by
  rw [PyData.eqv]
  exact eqvAll_ints a b
def dL (cs : List (List Int)) : List PyData := cs.map fun c => .list (c.map PyData.int)
theorem dpBlk {K : PySem.W.Frag} {H : Hp} : ∀ {ts : List Addr} {bs : List (List Int)}, Blk H ts bs → DpAll K H (ts.map V.ref) (dL bs)
  | [], [], _ => .nil
  | _ :: _, _ :: _, h => .cons (dp_ints (.inl (.inl h.1))) (dpBlk h.2)
  | [], _ :: _, h => h.elim
  | _ :: _, [], h => h.elim
theorem shaped_dL (cs : List (List Int)) : SeqAt.shaped (.list (dL cs)) = true := by
  have h : ∀ cs : List (List Int), PyData.canLayAll0 (dL cs) = true ∧ PyData.depthAll (dL cs) ≤ 1 := by
    intro cs
    induction cs with
    | nil => exact ⟨rfl, Nat.zero_le _⟩
    | cons c cs ih =>
      refine ⟨?_, ?_⟩
      · show (PyData.canLayAll0 (c.map PyData.int) && PyData.canLayAll0 (dL cs)) = true
        rw [ih.1, lay_ints]
        rfl
      · show max (PyData.depthAll (c.map PyData.int) + 1) (PyData.depthAll (dL cs)) ≤ 1
        rw [depth_ints]
        omega
  have ⟨h1, h2⟩ := h cs
  unfold SeqAt.shaped
  rw [Bool.and_eq_true]
  refine ⟨h1, decide_eq_true ?_⟩
  show PyData.depthAll (dL cs) + 1 ≤ 64
  omega
theorem sg_succ (f : Nat → List Int) (i : Nat) : sgL f (i + 1) = if f i = [] ∨ f i ∈ sgL f i then sgL f i else sgL f i ++ [f i] := by
  have e : sgL f (i + 1) = (if f i ∈ keysOf f i then keysOf f i else keysOf f i ++ [f i]).filter fun c => !c.isEmpty := rfl
  rw [e]
  by_cases h : f i = []
  · rw [show (if f i = [] ∨ f i ∈ sgL f i then sgL f i else sgL f i ++ [f i]) = sgL f i from if_pos (.inl h)]
    by_cases k : f i ∈ keysOf f i
    · rw [if_pos k]
      rfl
    · rw [if_neg k, List.filter_append, h]
      show _ ++ [] = _
      exact List.append_nil _
  · have he : (!(f i).isEmpty) = true := by
      cases hc : f i with
      | nil => exact absurd hc h
      | cons _ _ => rfl
    by_cases k : f i ∈ keysOf f i
    · have ks : f i ∈ sgL f i := List.mem_filter.mpr ⟨k, he⟩
      rw [if_pos k, show (if f i = [] ∨ f i ∈ sgL f i then sgL f i else sgL f i ++ [f i]) = sgL f i from if_pos (.inr ks)]
      rfl
    · have nk : ¬ (f i = [] ∨ f i ∈ sgL f i) := fun z => z.elim h fun y => k (List.mem_filter.mp y).1
      rw [if_neg k, if_neg nk, List.filter_append]
      show sgL f i ++ _ = sgL f i ++ _
      congr 1
      rw [List.filter_cons, he]
      rfl
def pk (f : Nat → List Int) (i : Nat) (sg : List (List Int)) : List (List Int) := sg.map fun c => pick (memb f c) i
/-- groups and their signs while they grow: H is the heap of before -/
def ClsW (H H' : Hp) (S F : Addr) (ss fs : List Addr) (sg bs : List (List Int)) : Prop := Same H H' ∧ H' S = some (.lst (ss.map V.ref)) ∧ Blk H' ss sg ∧ H' F = some (.lst (fs.map V.ref)) ∧ Blk H' fs bs ∧ fs.Nodup ∧
  (∀ t ∈ fs, t ≠ S ∧ t ≠ F ∧ H t = none) ∧ (∀ t ∈ ss, t ≠ S ∧ t ≠ F ∧ H t = none) ∧ ∀ t ∈ fs, t ∉ ss
theorem ClsW.same {H H1 H2 : Hp} {S F : Addr} {ss fs : List Addr} {sg bs : List (List Int)} (h : ClsW H H1 S F ss fs sg bs) (s : Same H1 H2) : ClsW H H2 S F ss fs sg bs :=
  ⟨h.1.trans s, s _ _ h.2.1, Blk.imp (fun t _ o k => s t o k) h.2.2.1, s _ _ h.2.2.2.1, Blk.imp (fun t _ o k => s t o k) h.2.2.2.2.1, h.2.2.2.2.2⟩
/-- a new sign, a new group -/
theorem ClsW.add {H H6 H7 H8 : Hp} {S F L T : Addr} {ss fs : List Addr} {sg bs : List (List Int)} {c : List Int} (h : ClsW H H6 S F ss fs sg bs) (nS : H S = none) (nF : H F = none) (kL : H6 L = some (.lst (c.map V.int))) (nL : L ≠ S ∧ L ≠ F ∧ H L = none) (Lf : L ∉ fs)
    (e7 : H7 = L2.upd H6 S (.lst (ss.map V.ref ++ [.ref L]))) (nT : H7 T = none) (e8 : H8 = L2.upd H7 T (.lst [])) (nSF : S ≠ F) :
    ClsW H (L2.upd H8 F (.lst (fs.map V.ref ++ [.ref T]))) S F (ss ++ [L]) (fs ++ [T]) (sg ++ [c]) (bs ++ [[]]) ∧ (L2.upd H8 F (.lst (fs.map V.ref ++ [.ref T]))) L = some (.lst (c.map V.int)) := by
  obtain ⟨sm, eS, bS, eF, bF, nd, avF, avS, dis⟩ := h
  have keep7 : ∀ t, t ≠ S → ∀ o, H6 t = some o → H7 t = some o := fun t n o k => by rw [e7, upd_ne n]; exact k
  have keep : ∀ t, t ≠ S → t ≠ F → ∀ o, H6 t = some o → (L2.upd H8 F (.lst (fs.map V.ref ++ [.ref T]))) t = some o := fun t n1 n2 o k => by
    rw [upd_ne n2, e8]
    exact same_upd nT _ _ (keep7 t n1 o k)
  have T0 : ∀ t, t ≠ S → H6 t ≠ none → t ≠ T := fun t n k z => by
    subst z
    cases e : H6 t with
    | none => exact k e
    | some o => rw [keep7 t n o e] at nT; cases nT
  have h7S : H7 S = some (.lst (ss.map V.ref ++ [.ref L])) := by rw [e7, upd_same]
  have nTS : T ≠ S := fun z => by subst z; rw [h7S] at nT; cases nT
  have nTF : T ≠ F := (T0 F nSF.symm (by rw [eF]; exact Option.some_ne_none _)).symm
  have HT : H T = none := by
    cases e : H T with
    | none => rfl
    | some o => exact absurd rfl (T0 T nTS (by rw [sm _ _ e]; exact Option.some_ne_none _))
  have inS : ∀ t ∈ ss, H6 t ≠ none := fun t ht => by obtain ⟨b, _, k⟩ := bS.at_ ht; rw [k]; exact Option.some_ne_none _
  have inF : ∀ t ∈ fs, H6 t ≠ none := fun t ht => by obtain ⟨b, _, k⟩ := bF.at_ ht; rw [k]; exact Option.some_ne_none _
  refine ⟨⟨fun b o e => keep b (fun z => by rw [z, nS] at e; cases e) (fun z => by rw [z, nF] at e; cases e) o (sm _ _ e), ?_, ?_, ?_, ?_, ?_, ?_, ?_, ?_⟩, keep L nL.1 nL.2.1 _ kL⟩
  · rw [upd_ne nSF, e8]
    rw [same_upd nT _ _ h7S, List.map_append]
    rfl
  · exact Blk.snoc (keep L nL.1 nL.2.1 _ kL) (Blk.imp (fun t ht o k => keep t (avS t ht).1 (avS t ht).2.1 o k) bS)
  · rw [upd_same, List.map_append]
    rfl
  · exact Blk.snoc (by rw [upd_ne nTF, e8, upd_same]; rfl) (Blk.imp (fun t ht o k => keep t (avF t ht).1 (avF t ht).2.1 o k) bF)
  · exact List.nodup_append.mpr ⟨nd, by simp, fun x hx y hy e => by
      have := List.mem_singleton.mp hy
      subst this
      exact T0 x (avF x hx).1 (inF x hx) e⟩
  · intro t ht
    rcases List.mem_append.mp ht with z | z
    · exact avF t z
    · rw [List.mem_singleton.mp z]
      exact ⟨nTS, nTF, HT⟩
  · intro t ht
    rcases List.mem_append.mp ht with z | z
    · exact avS t z
    · rw [List.mem_singleton.mp z]
      exact nL
  · intro t ht hs
    rcases List.mem_append.mp ht with z | z
    · rcases List.mem_append.mp hs with y | y
      · exact dis t z y
      · rw [List.mem_singleton.mp y] at z
        exact Lf z
    · have et := List.mem_singleton.mp z
      subst et
      rcases List.mem_append.mp hs with y | y
      · exact T0 t nTS (inS t y) rfl
      · exact T0 L nL.1 (by rw [kL]; exact Option.some_ne_none _) (List.mem_singleton.mp y).symm
/-- one more kind in a group -/
theorem ClsW.put {H H6 : Hp} {S F t : Addr} {ss fs : List Addr} {sg bs : List (List Int)} {j : Nat} {b : List Int} (h : ClsW H H6 S F ss fs sg bs) (et : fs[j]? = some t) : ClsW H (L2.upd H6 t (.lst (b.map V.int))) S F ss fs sg (bs.set j b) := by
  obtain ⟨sm, eS, bS, eF, bF, nd, avF, avS, dis⟩ := h
  have ht := List.mem_of_getElem? et
  have av := avF t ht
  refine ⟨fun x o e => ?_, ?_, ?_, ?_, Blk.set nd et bF, nd, avF, avS, dis⟩
  · rw [upd_ne (ne_of_none e av.2.2)]
    exact sm _ _ e
  · rw [upd_ne av.1.symm]
    exact eS
  · exact Blk.imp (fun u hu o k => by rw [upd_ne (fun z : u = t => dis t ht (by rw [← z]; exact hu))]; exact k) bS
  · rw [upd_ne av.2.1.symm]
    exact eF
end CK
namespace VG
open PySem PySem.Spec PyProof.Rows L2
abbrev tupO (items : Array Value) (n : Nat) (dd : Option Addr) (sl : Array (Option Value)) : Obj := ⟨.type "tuple", dd, .seq items n, sl⟩
theorem tup_once (l : Addr) (items : Array Value) (n : Nat) (dd : Option Addr) (sl : Array (Option Value)) (u : Tok) (ne : (items.isEmpty || (1 : Int) == 1) = true) :
    Meets (Builtin.«tuple.__mul__» ⟨[.ref l, .int 1 u], []⟩) (fun _ R s => s.heap.get? l = some (tupO items n dd sl) ∧ R (.ok (.ret (Value.ref l))) s) := .of_wp fun prog w A R s h => by
  obtain ⟨hp, g, d, tk, os⟩ := s; obtain ⟨hl, h⟩ := h
  have f1 := AutoSeq1.idx_int
  wp_walk using wpAny_loadPart' hl
  repeat (first
    | (refine wpAny_ite_true (decide_eq_true ne) ?_; wp_walk using wpAny_loadPart' hl)
    | (refine wpAny_ite_true rfl ?_; wp_walk using wpAny_loadPart' hl)
    | (refine wpAny_ite_false rfl ?_; wp_walk using wpAny_loadPart' hl))
  exact ⟨_, rfl, h⟩
theorem tup_none (l : Addr) (items : Array Value) (n : Nat) (dd : Option Addr) (sl : Array (Option Value)) (u : Tok) (ne : (items.isEmpty || (0 : Int) == 1) = false) :
    Meets (Builtin.«tuple.__mul__» ⟨[.ref l, .int 0 u], []⟩) (fun _ R s => s.heap.get? l = some (tupO items n dd sl) ∧ R (.ok (.ret (Value.ref s.heap.objs.size))) { s with heap := s.heap.push { cls := Value.type "tuple", data := Data.seq #[] } }) := .of_wp fun prog w A R s h => by
  obtain ⟨hp, g, d, tk, os⟩ := s; obtain ⟨hl, h⟩ := h
  have f1 := AutoSeq1.idx_int
  wp_walk using wpAny_loadPart' hl
  repeat (first
    | (refine wpAny_ite_false (decide_eq_false (by rw [ne]; exact Bool.false_ne_true)) ?_; wp_walk using wpAny_loadPart' hl)
    | (refine wpAny_ite_true rfl ?_; wp_walk using wpAny_loadPart' hl)
    | (refine wpAny_ite_false rfl ?_; wp_walk using wpAny_loadPart' hl))
  exact ⟨_, rfl, h⟩
section
variable {X : Cx}
def rRepA (K : PySem.W.Frag) : R2 := fun x y H Q => ∃ (l : Addr) (k : Nat) (xs : List V), x = .ref l ∧ y = .int k ∧ SqT K H l xs ∧ xs ≠ [] ∧ k ≤ 1000 ∧ xs.length ≤ 1000 ∧ ∀ p H', Same H H' → SqT K H' p (List.replicate k xs).flatten → Q (.ref p) H'
theorem op_repA : OpR X (binaryOp .Mult) (rRepA X.K) := by
  intro pins s σ H x y v u Q I rx ry h
  obtain ⟨l, k, xs, rfl, rfl, hT, hne, hk, hz, q⟩ := h
  by_cases k2 : 2 ≤ k
  · refine op_repT pins s σ H _ _ v u Q I rx ry ⟨l, (k : Int), xs, rfl, rfl, hT, hne, by omega, by omega, hz, fun p np => ?_⟩
    rw [Int.toNat_natCast]
    exact q p _ (fun b o e => by rw [upd_ne (ne_of_none e np)]; exact e) (.inl (.inl upd_same))
  cases rx
  obtain ⟨t, rfl⟩ := ry
  obtain ⟨its, r, ⟨⟨cls, dd, data, sl⟩, ho, hc, n, hd⟩, hs⟩ := I.tuple hT
  simp only at hc hd
  subst hc hd
  have hn : its ≠ [] := fun e => by
    have hle := r.length
    rw [e] at hle
    exact hne (List.eq_nil_of_length_eq_zero hle)
  have hi : its.toArray.isEmpty = false := by
    cases its with
    | nil => exact absurd rfl hn
    | cons a b => rfl
  by_cases k1 : k = 1
  · subst k1
    refine wpAny_binaryOp_repeat_ref (T := "tuple") (U := "int") (by decide) ⟨_, ho, rfl⟩ (fun s' => typeIs_int s' _ t) noFill_tuple_mul F.fills_int_mul F.slot_int_rmul repeat_tuple F.slot_int_index.lookup
      (call_meets F.slot_int_rmul (typeIs_int s _ t) F.entry_int_rmul (F.args_int_rmul_2 _ _) (int_rmul_tuple _ t l its.toArray n dd sl) ⟨ho, rfl, ⟨_, ho, rfl⟩, call_meets F.slot_tuple_mul ⟨_, ho, rfl⟩ F.entry_tuple_mul (F.args_tuple_mul_2 _ _)
        (tup_once l its.toArray n dd sl t (by rw [hi]; rfl)) ⟨ho, ?_⟩⟩)
    refine ⟨.ref l, H, I, rfl, q l H (Same.refl _) ?_⟩
    have e : (List.replicate 1 xs).flatten = xs := by simp
    rw [e]
    exact hT
  · have k0 : k = 0 := by omega
    subst k0
    refine wpAny_binaryOp_repeat_ref (T := "tuple") (U := "int") (by decide) ⟨_, ho, rfl⟩ (fun s' => typeIs_int s' _ t) noFill_tuple_mul F.fills_int_mul F.slot_int_rmul repeat_tuple F.slot_int_index.lookup
      (call_meets F.slot_int_rmul (typeIs_int s _ t) F.entry_int_rmul (F.args_int_rmul_2 _ _) (int_rmul_tuple _ t l its.toArray n dd sl) ⟨ho, rfl, ⟨_, ho, rfl⟩, call_meets F.slot_tuple_mul ⟨_, ho, rfl⟩ F.entry_tuple_mul (F.args_tuple_mul_2 _ _)
        (tup_none l its.toArray n dd sl t (by rw [hi]; rfl)) ⟨ho, ?_⟩⟩)
    have np := I.hok.fresh (Nat.le_refl s.heap.objs.size)
    refine ⟨.ref s.heap.objs.size, _, I.laid (t' := s.toks) (o := .tup []) (fun b ob e => Heap.get?_push_of_some _ e) (Nat.le_refl _) ⟨Nat.zero_le _, [], .nil, IsTup.new _ _⟩, rfl, q _ _ (fun b o e => by rw [upd_ne (ne_of_none e np)]; exact e) (.inl (.inl upd_same))⟩
end
section
variable {X : Cx}
def rCatM (K : PySem.W.Frag) : R2 := fun x y H Q => ∃ a b xs ys, x = .ref a ∧ y = .ref b ∧ SqT K H a xs ∧ SqT K H b ys ∧ xs.length + ys.length ≤ sizeLine ∧ ∀ t H', Same H H' → SqT K H' t (xs ++ ys) → Q (.ref t) H'
theorem op_catM : OpR X (binaryOp .Add) (rCatM X.K) := by
  intro pins s σ H x y v u Q I rx ry h
  obtain ⟨a, b, xs, ys, rfl, rfl, ha, hb, hl, q⟩ := h
  refine op_catA pins s σ H _ _ v u Q I rx ry ⟨a, b, xs, ys, rfl, rfl, ha, hb, hl, fun e => q b H (Same.refl _) ?_, fun _ e => q a H (Same.refl _) ?_, fun _ _ p np => q p _ (fun b o e => by rw [upd_ne (ne_of_none e np)]; exact e) (.inl (.inl upd_same))⟩
  · subst e
    exact hb
  · subst e
    rw [List.append_nil]
    exact ha
end
end VG
namespace CK
open PySem PySem.Spec PyProof.Rows L2 VG FR HD
def Shn (d : PyData) (k B : Nat) : Prop := d.showable = true ∧ d.hasDict = false ∧ d.depth ≤ k ∧ d.shown.length ≤ B
theorem shn_all {k B : Nat} : ∀ ds : List PyData, (∀ d ∈ ds, Shn d k B) → PyData.showableAll ds = true ∧ PyData.hasDictAll ds = false ∧ PyData.depthAll ds ≤ k ∧ piled (PyData.shownAll ds) ≤ (B + 2) * ds.length
  | [], _ => ⟨by simp [PyData.showableAll], by simp [PyData.hasDictAll], by simp [PyData.depthAll], by simp [PyData.shownAll, piled]⟩
  | d :: ds, h => by
    have ⟨a1, a2, a3, a4⟩ := h d List.mem_cons_self
    have ⟨b1, b2, b3, b4⟩ := shn_all ds fun e he => h e (List.mem_cons_of_mem _ he)
    refine ⟨?_, ?_, ?_, ?_⟩
    · rw [PyData.showableAll, a1, b1]
      rfl
    · rw [PyData.hasDictAll, a2, b2]
      rfl
    · rw [PyData.depthAll]
      omega
    · rw [PyData.shownAll, piled_cons, List.length_cons, Nat.mul_succ]
      omega
theorem shn_tup {k B n : Nat} {ds : List PyData} (h : ∀ d ∈ ds, Shn d k B) (hn : ds.length ≤ n) : Shn (.tuple ds) (k + 1) ((B + 2) * n + 2) := by
  have ⟨b1, b2, b3, b4⟩ := shn_all ds h
  refine ⟨?_, ?_, ?_, ?_⟩
  · rw [PyData.showable]
    exact b1
  · rw [PyData.hasDict]
    exact b2
  · rw [PyData.depth]
    omega
  · show (tupleText (PyData.shownAll ds)).length ≤ _
    have e := fmt_text (PyData.shownAll ds)
    have m : (B + 2) * ds.length ≤ (B + 2) * n := Nat.mul_le_mul_left _ hn
    omega
theorem shn_int {a : Int} {k : Nat} (k0 : 0 < k) (h : a.natAbs < 2 ^ k) (hk : k ≤ 1900) : Shn (.int a) 0 (k + 1) := by
  have l2 : a.natAbs.log2 < k := by
    by_cases h0 : a.natAbs = 0
    · rw [h0]
      exact Nat.lt_of_le_of_lt (Nat.le_of_eq (by decide)) k0
    · exact (Nat.log2_lt h0).mpr h
  refine ⟨?_, by rw [PyData.hasDict], by simp [PyData.depth], ?_⟩
  · rw [PyData.showable]
    exact decide_eq_true (by omega)
  · show (Str.ofString (toString a)).length ≤ _
    rw [PySem.ofString_length]
    exact int_text_length_le k0 l2
def dI (c : List Int) : PyData := .tuple (c.map PyData.int)
theorem shn_dI {c : List Int} {n : Nat} (h : ∀ x ∈ c, x.natAbs < 2 ^ 24) (hn : c.length ≤ n) : Shn (dI c) 1 (27 * n + 2) := shn_tup (k := 0) (B := 25) (fun d hd => by
  obtain ⟨x, hx, rfl⟩ := List.mem_map.mp hd
  exact shn_int (by decide) (h x hx) (by decide)) (by rw [List.length_map]; exact hn)
theorem dp_I {K : PySem.W.Frag} {H : Hp} {t : Addr} {c : List Int} (h : SqT K H t (c.map V.int)) : Dp K H (.ref t) (dI c) := .tup h (dpAll_ints K H c)
theorem Shn.r {d : PyData} {k B : Nat} (s : Shn d k B) (hk : k ≤ 60 := by decide) (hB : B ≤ 16777216 := by decide) : d.showable = true ∧ d.hasDict = false ∧ d.depth ≤ 60 ∧ d.shown.length ≤ sizeLine :=
  ⟨s.1, s.2.1, Nat.le_trans s.2.2.1 hk, Nat.le_trans s.2.2.2 (Nat.le_trans hB (by decide))⟩
theorem shaped_dI (c : List Int) : SeqAt.shaped (dI c) = true := by
  unfold SeqAt.shaped
  rw [Bool.and_eq_true]
  refine ⟨?_, decide_eq_true ?_⟩
  · show PyData.canLayAll0 (c.map PyData.int) = true
    exact lay_ints c
  · show PyData.depthAll (c.map PyData.int) + 1 ≤ 64
    rw [depth_ints]
    decide
theorem eqv_dI (a b : List Int) : PyData.eqv (dI a) (dI b) = decide (a = b) := by
  show PyData.eqv (.tuple (a.map PyData.int)) (.tuple (b.map PyData.int)) = _
  rw [PyData.eqv]
  exact eqvAll_ints a b
def bT (b : Bool) : Str := if b = true then (("True" : String) : Str) else (("False" : String) : Str)
end CK
namespace CK
open PySem PySem.Spec PyProof.Rows L2 VG FR HD
theorem Parts.ints {K : PySem.W.Frag} {H : Hp} : ∀ c : List Int, Parts K H (c.map V.int) (c.map some)
  | [] => trivial
  | a :: c => ⟨.inl ⟨a, rfl, rfl⟩, Parts.ints c⟩
theorem kitT1 : kitB "tuple" "int" = some false := by decide +kernel
theorem kitT2 : kitB "tuple" "bool" = some false := by decide +kernel
theorem kNT : kitB "NoneType" "tuple" = some false := by decide +kernel
theorem kIT : kitB "int" "tuple" = some false := by decide +kernel
theorem kST : kitB "str" "tuple" = some false := by decide +kernel
theorem kLT : kitB "list" "tuple" = some false := by decide +kernel
theorem kDT : kitB "dict" "tuple" = some false := by decide +kernel
theorem part_tup {K : PySem.W.Frag} {H : Hp} {t : Addr} {xs : List V} (h : SqT K H t xs) : Part K H (.ref t) none := .inr ⟨rfl, "tuple", false, false, tyT h, kitT1, kitT2, rfl⟩
theorem part_bl {K : PySem.W.Frag} {H : Hp} (b : Bool) : Part K H (.bl b) none := .inr ⟨rfl, "bool", true, true, .base (.bl b), kitB1, kitB2, rfl⟩
theorem AnyV.tup {K : PySem.W.Frag} {H : Hp} {t : Addr} {xs : List V} {os : List (Option Int)} (h : SqT K H t xs) (k : Parts K H xs os) (l : os.length ≤ 1000) : ∃ o, AnyV K H (.ref t) o := ⟨some os, t, xs, rfl, h, k, l⟩
end CK
namespace CK
open FR
end CK
namespace VG
open PySem PySem.Spec PyProof.Rows L2
structure MkT (P : Program) (w : World) (K : PySem.W.Frag) (mg : Str → Option Value) (base : Heap) (k : Nat) (x : Str) (C : Addr) (sp : Sp) : Prop where
  ex : ∃ (f : Addr) (fd : FuncData) (ps : List Str), Mk K C f ∧ FnOk P w K mg base CX0 k f fd ps sp ∧ mg x = some (.ref C) ∧ Binds K fd ps []
section
variable {X : Cx} {k j : Nat} {x : Str} {sp : Sp} {p pos : Pos} {e : Expr} {es : List Expr} {t : TA} {C : Addr}
theorem pe_mt (c : MkT X.prog X.w X.K X.mg X.base k x C sp) (hr : Room j X.A) (hk : k + 1 ≤ j) (hg : Gl X x) (ha : PA X (e :: es) t)
    (h1 : (x == ("__debug__" : Str)) = false := by decide) (h2 : starEach (e :: es) X.env = (false, eval e X.env) :: starEach es X.env := by rfl)
    (h3 : (backTo pos (starEach es X.env)).any (·.1) = false := by rfl) : PE X (.Call (.Name x p) (e :: es) [] pos) (tMake C sp [] E0 t) :=
  let ⟨_, _, _, M, F, m, b⟩ := c.ex
  pe_make M F (hr.mono hk) hg m b .nil pass0 ha h1 h2 h3
end
end VG
namespace CK
open PySem PySem.Spec PyProof.Rows L2 VG FR HD
theorem Tab.frz {K : PySem.W.Frag} {C a p q : Addr} {H : Hp} {ks : List Str} {ts : List (List Int)} (hd : Hd p q H) (h : Tab K C H a ks ts) : Tab K C (frz p q H) a ks ts := by
  obtain ⟨dx, k, t, xs, h1, h2, h3, h4⟩ := h
  obtain ⟨_, _, e1, e2, _⟩ := id hd
  have n1 : a ≠ p := fun z => by rw [z, e1] at h1; cases h1
  have n2 : a ≠ q := fun z => by rw [z, e2] at h1; cases h1
  exact ⟨dx, k, t, xs, frz_at h1 ⟨n1, n2⟩, seqTK hd keep_frz h2, seqTK hd keep_frz h3, h4.frz hd⟩
theorem tab_made {K : PySem.W.Frag} {C k t x dx : Addr} {H : Hp} {ks : List Str} {xs : List V} {ts : List (List Int)} {Qf : Hp → Prop} {E : XK} (hk : SqT K H k (ks.map V.str)) (ok : KindsOk ks) (ht : SqT K H t xs) (hT : Tots K H xs ts) (hl : ts.length ≤ 12) (hc : ∀ c ∈ ts, LotOk ks.length c) (nx : H x = none) (nd : H dx = none) (ne : dx ≠ x)
    (fin : ∀ H', Same H H' → Tab K C H' x ks ts → H x = none → Qf H') : spInitT K C (.ref x :: ([.ref k, .ref t] ++ [])) (L2.upd (L2.upd H dx (.own x)) x (.ins C dx [])) (fun v H2 => v = .non ∧ Qf H2) E := by
  have s1 := same_upd (o := .own x) nd
  have nx1 : L2.upd H dx (.own x) x = none := by rw [upd_ne ne.symm]; exact nx
  have s2 := s1.trans (same_upd (o := .ins C dx []) nx1)
  refine ⟨x, dx, k, t, ks, xs, ts, rfl, upd_same, seqT s2 hk, ok, seqT s2 ht, hT.mono s2, hl, hc, fun H' kp hx => ⟨rfl, ?_⟩⟩
  have s3 : Same H H' := fun b o e => kp b o (ne_of_none e nx) (s2 b o e)
  exact fin H' s3 ⟨dx, k, t, xs, hx, seqT s3 hk, seqT s3 ht, hT.mono s3⟩ nx
theorem dpAll_tots {K : PySem.W.Frag} {H : Hp} : ∀ {vs : List V} {ts : List (List Int)}, Tots K H vs ts → DpAll K H vs (ts.map dI)
  | [], [], _ => .nil
  | _ :: _, _ :: _, ⟨⟨t, e1, h⟩, r⟩ => by
    subst e1
    exact .cons (dp_I h) (dpAll_tots r)
  | [], _ :: _, h => h.elim
  | _ :: _, [], h => h.elim
theorem cls_ne {ts : List (List Int)} {n : Nat} : ∀ d ∈ classesL ts n, d ≠ [] := by
  intro d hd z
  rw [classes_eq] at hd
  obtain ⟨key, hk, rfl⟩ := List.mem_map.mp hd
  obtain ⟨j, l1, f1⟩ := keys_from _ (List.mem_filter.mp hk).1
  have : (j : Int) ∈ pick (memb (fT ts) key) n := mem_pick.mpr ⟨j, l1, decide_eq_true f1, rfl⟩
  rw [z] at this
  cases this
/-- a row that was told or drawn -/
def RwOk (n : Nat) (G : Hp) (v : V) : Prop := ∃ (t : Addr) (c : List Int), v = .ref t ∧ G t = some (.tup (c.map V.int)) ∧ c.length = n ∧ ∀ x ∈ c, x.natAbs ≤ 5
theorem RwOk.mono {n : Nat} {G G' : Hp} {v : V} (s : Same G G') (h : RwOk n G v) : RwOk n G' v := by
  obtain ⟨t, c, e, k, l, z⟩ := h
  exact ⟨t, c, e, s _ _ k, l, z⟩
theorem RwOk.updL {n : Nat} {p q D : Addr} {H : Hp} {zs : List V} {o : HO} {v : V} (h : RwOk n (frz p q H) v) (k : H D = some (.lst zs)) : RwOk n (frz p q (L2.upd H D o)) v := by
  obtain ⟨t, c, e, kt, l, z⟩ := h
  obtain ⟨n1, n2, kt⟩ := frz_cases kt
  have ne : t ≠ D := fun y => by rw [y, k] at kt; cases kt
  exact ⟨t, c, e, frz_at (by rw [upd_ne ne]; exact kt) ⟨n1, n2⟩, l, z⟩
end CK
namespace CK
open PySem PySem.Spec PyProof.Rows L2 VG FR HD
def spHeapF (K : PySem.W.Frag) : Sp := fun vs H Q _ => ∃ (a : Addr) (ns : List Int), vs = [.ref a] ∧ SqL K H a (ns.map V.int) ∧ ns.length ≤ 63 ∧ ∀ H' p q, Hd p q H' → Same H H' → H p = none → H q = none → Q (.ref p) H'
end CK
namespace CK
open PySem PySem.Spec PyProof.Rows L2 VG FR HD
theorem es1 : EsOk [((9, 2) : Q2)] := by
  intro p hp
  have : p = ((9, 2) : Q2) := by simpa using hp
  rw [this]
  exact ⟨⟨by decide, by decide⟩, ⟨by decide, by decide⟩⟩
end CK
namespace VG
open PySem PySem.Spec PyProof.Rows L2
end VG
namespace CK
open PySem PySem.Spec PyProof.Rows L2 VG FR HD
inductive Stp where
  | tot (t : Nat) (s : Int)
  | less (c i j : Nat)
def stV : Stp → List V
  | .tot t s => [.str "total", .int t, .int s]
  | .less c i j => [.str "less", .int c, .int i, .int j]
def Sts (K : PySem.W.Frag) (H : Hp) : List V → List Stp → Prop
  | [], [] => True
  | v :: vs, c :: cs => (∃ t, v = .ref t ∧ SqT K H t (stV c)) ∧ Sts K H vs cs
  | _, _ => False
theorem Sts.mono {K : PySem.W.Frag} {H H' : Hp} (e : Same H H') : ∀ {vs : List V} {cs : List Stp}, Sts K H vs cs → Sts K H' vs cs
  | [], [], _ => trivial
  | _ :: _, _ :: _, ⟨⟨t, e1, h⟩, r⟩ => ⟨⟨t, e1, seqT e h⟩, r.mono e⟩
  | [], _ :: _, h => h.elim
  | _ :: _, [], h => h.elim
theorem Sts.len {K : PySem.W.Frag} {H : Hp} : ∀ {vs : List V} {cs : List Stp}, Sts K H vs cs → vs.length = cs.length
  | [], [], _ => rfl
  | _ :: _, _ :: _, h => by rw [List.length_cons, List.length_cons, h.2.len]
  | [], _ :: _, h => h.elim
  | _ :: _, [], h => h.elim
theorem Sts.get {K : PySem.W.Frag} {H : Hp} : ∀ {vs : List V} {cs : List Stp} {i : Nat} {v : V}, Sts K H vs cs → vs[i]? = some v → ∃ t c, v = .ref t ∧ cs[i]? = some c ∧ SqT K H t (stV c)
  | [], [], _, _, h, e => by simp at e
  | a :: _, c :: _, 0, v, h, e => by
    have e1 : a = v := Option.some.inj e
    subst e1
    obtain ⟨t, e2, q⟩ := h.1
    exact ⟨t, c, e2, rfl, q⟩
  | _ :: vs, _ :: cs, i + 1, v, h, e => h.2.get (i := i) e
  | [], _ :: _, _, _, h, _ => h.elim
  | _ :: _, [], _, _, h, _ => h.elim
theorem Sts.snoc {K : PySem.W.Frag} {H : Hp} {t : Addr} {c : Stp} (hv : SqT K H t (stV c)) : ∀ {vs : List V} {cs : List Stp}, Sts K H vs cs → Sts K H (vs ++ [.ref t]) (cs ++ [c])
  | [], [], _ => ⟨⟨t, rfl, hv⟩, trivial⟩
  | _ :: _, _ :: _, h => ⟨h.1, h.2.snoc hv⟩
  | [], _ :: _, h => h.elim
  | _ :: _, [], h => h.elim
theorem Sts.upd {K : PySem.W.Frag} {H : Hp} {D : Addr} {ys zs : List V} (hD : H D = some (.lst ys)) : ∀ {vs : List V} {cs : List Stp}, Sts K H vs cs → Sts K (L2.upd H D (.lst zs)) vs cs
  | [], [], _ => trivial
  | _ :: _, _ :: _, ⟨⟨t, e1, h⟩, r⟩ => ⟨⟨t, e1, seqT_upd hD h⟩, r.upd hD⟩
  | [], _ :: _, h => h.elim
  | _ :: _, [], h => h.elim
def oppL (cs : List Int) : List Int := cs.map fun a => -a
def beyB (cs : List Int) : Bool := cs.any fun c => decide (absI c > 1)
/-- the reckoning of a step -/
def recOf (bs known : List (List Int)) : Stp → List Int
  | .tot t s => if s = 1 then bs.getD t [] else oppL (bs.getD t [])
  | .less _ i j => difL (known.getD i []) (known.getD j [])
/-- a step that a derivation may have -/
def StOk (nb nk : Nat) : Stp → Prop
  | .tot t s => t < nb ∧ (s = 1 ∨ s = -1)
  | .less _ i j => i < nk ∧ j < nk
def along (bs : List (List Int)) : List Stp → List (List Int) → List (List Int)
  | [], known => known
  | s :: ss, known => along bs ss (known ++ [recOf bs known s])
/-- all rows have so many entries -/
def Rws (n : Nat) (bs : List (List Int)) : Prop := ∀ c ∈ bs, c.length = n
theorem Rws.getD {n : Nat} {bs : List (List Int)} (h : Rws n bs) {i : Nat} (hi : i < bs.length) : bs[i]? = some (bs.getD i []) ∧ (bs.getD i []).length = n := by
  have e : bs[i]? = some bs[i] := List.getElem?_eq_getElem hi
  have g : bs.getD i [] = bs[i] := by rw [List.getD_eq_getElem?_getD, e]; rfl
  exact ⟨by rw [g]; exact e, by rw [g]; exact h _ (List.getElem_mem hi)⟩
/-- the steps of a right derivation (what asks of agreements left out) -/
def DerOk (nb : Nat) (steps : List Stp) : Prop := ∀ i s, steps[i]? = some s → StOk nb i s
theorem along_len (bs : List (List Int)) : ∀ (ss : List Stp) (kn : List (List Int)), (along bs ss kn).length = kn.length + ss.length
  | [], kn => rfl
  | s :: ss, kn => by
    show (along bs ss (kn ++ [recOf bs kn s])).length = _
    rw [along_len bs ss]
    simp only [List.length_append, List.length_cons, List.length_nil]
    omega
end CK
namespace CK
open PySem PySem.Spec PyProof.Rows L2 VG FR HD
end CK
namespace CK
open PySem PySem.Spec PyProof.Rows L2 VG FR HD
end CK
namespace CK
open PySem PySem.Spec PyProof.Rows L2 VG FR HD
mutual
inductive Dv (K : PySem.W.Frag) (H : Hp) : V → PyData → Prop
  | non : Dv K H .non .none
  | bl (b : Bool) : Dv K H (.bl b) (.bool b)
  | int (i : Int) : Dv K H (.int i) (.int i)
  | str (x : Str) : Dv K H (.str x) (.str x)
  | lst {a : Addr} {xs : List V} {ds : List PyData} : H a = some (.lst xs) → DvAll K H xs ds → Dv K H (.ref a) (.list ds)
  | tup {a : Addr} {xs : List V} {ds : List PyData} : SqT K H a xs → DvAll K H xs ds → Dv K H (.ref a) (.tuple ds)
inductive DvAll (K : PySem.W.Frag) (H : Hp) : List V → List PyData → Prop
  | nil : DvAll K H [] []
  | cons {v : V} {vs : List V} {d : PyData} {ds : List PyData} : Dv K H v d → DvAll K H vs ds → DvAll K H (v :: vs) (d :: ds)
end
mutual
theorem Dv.mono {K : PySem.W.Frag} {H H' : Hp} (e : Same H H') : ∀ {v : V} {d : PyData}, Dv K H v d → Dv K H' v d
  | _, _, .non => .non
  | _, _, .bl b => .bl b
  | _, _, .int i => .int i
  | _, _, .str x => .str x
  | _, _, .lst h r => .lst (e _ _ h) (DvAll.mono e r)
  | _, _, .tup h r => .tup (seqT e h) (DvAll.mono e r)
theorem DvAll.mono {K : PySem.W.Frag} {H H' : Hp} (e : Same H H') : ∀ {vs : List V} {ds : List PyData}, DvAll K H vs ds → DvAll K H' vs ds
  | _, _, .nil => .nil
  | _, _, .cons h r => .cons (Dv.mono e h) (DvAll.mono e r)
end
theorem DvAll.len {K : PySem.W.Frag} {H : Hp} : ∀ {vs : List V} {ds : List PyData}, DvAll K H vs ds → vs.length = ds.length
  | _, _, .nil => rfl
  | _, _, .cons _ r => by rw [List.length_cons, List.length_cons, r.len]
theorem at00 (x : V) (xs : List V) : atI (x :: xs) 0 = some x := atI_nat (j := 0) rfl
def intO : PyData → Option Int
  | .int a => some a
  | _ => none
def isTupD : PyData → Bool
  | .tuple _ => true
  | _ => false
theorem kLI : kitB "list" "int" = some false := by decide +kernel
theorem kLB : kitB "list" "bool" = some false := by decide +kernel
theorem kBT : kitB "bool" "tuple" = some false := by decide +kernel
theorem Dv.part {K : PySem.W.Frag} {H : Hp} {v : V} {d : PyData} (h : Dv K H v d) : Part K H v (intO d) := by
  cases h with
  | non => exact .inr ⟨rfl, "NoneType", false, false, .base .non, kitN1, kitN2, rfl⟩
  | bl b => exact part_bl b
  | int i => exact .inl ⟨i, rfl, rfl⟩
  | str x => exact .inr ⟨rfl, "str", false, false, .base (.str _), kitS1, kitS2, rfl⟩
  | lst h r => exact .inr ⟨rfl, "list", false, false, .base (.lst h), kLI, kLB, rfl⟩
  | tup h r => exact part_tup h
theorem Dv.noTup {K : PySem.W.Frag} {H : Hp} {v : V} {d : PyData} (h : Dv K H v d) (n : isTupD d = false) : ∃ ty : String, TyX K H v (.type ty) ∧ kitB ty "tuple" = some false := by
  cases h with
  | non => exact ⟨"NoneType", .base .non, kNT⟩
  | bl b => exact ⟨"bool", .base (.bl b), kBT⟩
  | int i => exact ⟨"int", .base (.int i), kIT⟩
  | str x => exact ⟨"str", .base (.str x), kST⟩
  | lst h r => exact ⟨"list", .base (.lst h), kLT⟩
  | tup h r => cases n
theorem Dv.isT {K : PySem.W.Frag} {H : Hp} {v : V} {ds : List PyData} (h : Dv K H v (.tuple ds)) : ∃ a xs, v = .ref a ∧ SqT K H a xs ∧ DvAll K H xs ds := by
  cases h with
  | tup h r => exact ⟨_, _, rfl, h, r⟩
def numO : Option Int → Bool
  | some a => decide (0 ≤ a)
  | none => false
def belowO (n : Int) : Option Int → Bool
  | some a => decide (0 ≤ a ∧ a < n)
  | none => false
def spNumA (K : PySem.W.Frag) : Sp := fun vs H Q _ => ∃ (v : V) (o : Option Int), vs = [v] ∧ Part K H v o ∧ Q (.bl (numO o)) H
def spBelowA (K : PySem.W.Frag) : Sp := fun vs H Q _ => ∃ (v : V) (o : Option Int) (n : Int), vs = [v, .int n] ∧ Part K H v o ∧ Q (.bl (belowO n o)) H
end CK
namespace CK
open PySem PySem.Spec PyProof.Rows L2 VG FR HD
end CK
namespace CK
open PySem PySem.Spec PyProof.Rows L2 VG FR HD
def shortD : PyData → Prop
  | .tuple ds => ds.length ≤ 1000
  | _ => True
theorem DvAll.get {K : PySem.W.Frag} {H : Hp} : ∀ {xs : List V} {ds : List PyData} {i : Nat} {x : V}, DvAll K H xs ds → xs[i]? = some x → ∃ d, ds[i]? = some d ∧ Dv K H x d
  | _, _, i, x, .nil, e => by simp at e
  | _, _, 0, x, .cons h _, e => by
    have e1 := Option.some.inj e
    subst e1
    exact ⟨_, rfl, h⟩
  | _, _, i + 1, x, .cons _ r, e => r.get (i := i) e
end CK
namespace CK
open PySem PySem.Spec PyProof.Rows L2 VG FR HD
end CK
namespace CK
open PySem PySem.Spec PyProof.Rows L2 VG FR HD
theorem shaped_nil2 : SeqAt.shaped (.tuple []) = true := by decide
end CK
namespace CK
open PySem PySem.Spec PyProof.Rows L2 VG FR HD
theorem Sts.append {K : PySem.W.Frag} {H : Hp} : ∀ {xs ys : List V} {a b : List Stp}, Sts K H xs a → Sts K H ys b → Sts K H (xs ++ ys) (a ++ b)
  | [], _, [], _, _, h => h
  | _ :: _, _, _ :: _, _, h1, h2 => ⟨h1.1, h1.2.append h2⟩
  | [], _, _ :: _, _, h, _ => h.elim
  | _ :: _, _, [], _, h, _ => h.elim
end CK
namespace CK
open PySem PySem.Spec PyProof.Rows L2 VG FR HD
def refsIn (x : Nat) : Option Stp → Bool
  | some (.less _ i j) => decide (x = i) || decide (x = j)
  | _ => false
def nz (steps : List Stp) : Nat → Nat → Bool
  | 0, x => decide (x + 1 = steps.length)
  | k + 1, x => nz steps k x || (nz steps k (steps.length - 1 - k) && refsIn x steps[steps.length - 1 - k]?)
def tk (k : Nat) : L2.Key × V := ((Sum.inl (k : Int) : L2.Key), .bl true)
/-- refs lie below -/
def Below' (steps : List Stp) : Prop := ∀ (i c a b : Nat), steps[i]? = some (Stp.less c a b) → a < i ∧ b < i
end CK
namespace CK
open PySem PySem.Spec PyProof.Rows L2 VG FR HD
theorem along_app (bs : List (List Int)) : ∀ (ss tt : List Stp) (kn : List (List Int)), along bs (ss ++ tt) kn = along bs tt (along bs ss kn)
  | [], _, _ => rfl
  | s :: ss, tt, kn => along_app bs ss tt (kn ++ [recOf bs kn s])
theorem along_pre (bs : List (List Int)) : ∀ (ss : List Stp) (kn : List (List Int)), ∃ r, along bs ss kn = kn ++ r
  | [], kn => ⟨[], (List.append_nil kn).symm⟩
  | s :: ss, kn => by
    obtain ⟨r, e⟩ := along_pre bs ss (kn ++ [recOf bs kn s])
    exact ⟨recOf bs kn s :: r, by show along bs ss (kn ++ [recOf bs kn s]) = _; rw [e]; simp⟩
theorem along_len0 (bs : List (List Int)) (ss : List Stp) : (along bs ss []).length = ss.length := by
  rw [along_len, List.length_nil, Nat.zero_add]
theorem along_takeE (bs : List (List Int)) (ss : List Stp) (i : Nat) : (along bs ss []).take i = along bs (ss.take i) [] := by
  obtain ⟨r, e⟩ := along_pre bs (ss.drop i) (along bs (ss.take i) [])
  rw [← along_app, List.take_append_drop] at e
  by_cases hi : i ≤ ss.length
  · have l : (along bs (ss.take i) []).length = i := by rw [along_len0, List.length_take]; omega
    rw [e, List.take_left' l]
  · rw [List.take_of_length_le (by rw [along_len0]; omega), List.take_of_length_le (by omega)]
theorem getD_take {R : List (List Int)} {a i : Nat} (h : a < i) : (R.take i).getD a [] = R.getD a [] := by
  rw [List.getD_eq_getElem?_getD, List.getD_eq_getElem?_getD, List.getElem?_take, if_pos h]
def RStp (nb many : Nat) (R : List (List Int)) (i : Nat) : Stp → Prop
  | .tot t s => t < nb ∧ (s = 1 ∨ s = -1)
  | .less c a b => c < many ∧ a < i ∧ b < i ∧ beyB (R.getD a []) = false ∧ beyB (R.getD b []) = false ∧ (agrL (R.getD a []) (R.getD b [])).contains (c : Int) = true
def RD (bs : List (List Int)) (many : Nat) (steps : List Stp) : Prop := ∀ i s, steps[i]? = some s → RStp bs.length many (along bs steps []) i s
theorem RD.below {bs : List (List Int)} {many : Nat} {steps : List Stp} (h : RD bs many steps) : Below' steps := fun i c a b e => ⟨(h i _ e).2.1, (h i _ e).2.2.1⟩
theorem RD.ok {bs : List (List Int)} {many : Nat} {steps : List Stp} (h : RD bs many steps) : DerOk bs.length steps := fun i s e => by
  have r := h i s e
  cases s with
  | tot t s => exact r
  | less c a b => exact ⟨r.2.1, r.2.2.1⟩
theorem RStp.take {nb many i : Nat} {R : List (List Int)} : ∀ {s : Stp}, RStp nb many (R.take i) i s ↔ RStp nb many R i s
  | .tot t s => Iff.rfl
  | .less c a b => by
    constructor
    · rintro ⟨h1, h2, h3, h4, h5, h6⟩
      rw [getD_take h2] at h4 h6
      rw [getD_take h3] at h5 h6
      exact ⟨h1, h2, h3, h4, h5, h6⟩
    · rintro ⟨h1, h2, h3, h4, h5, h6⟩
      refine ⟨h1, h2, h3, ?_, ?_, ?_⟩
      · rw [getD_take h2]; exact h4
      · rw [getD_take h3]; exact h5
      · rw [getD_take h2, getD_take h3]; exact h6
theorem RD.take {bs : List (List Int)} {many : Nat} {steps : List Stp} (h : RD bs many steps) (k : Nat) : RD bs many (steps.take k) := fun i s e => by
  have hi : i < k := by
    have := (List.getElem?_eq_some_iff.mp e).1
    rw [List.length_take] at this
    omega
  rw [List.getElem?_take, if_pos hi] at e
  have r := RStp.take.mpr (h i s e)
  rw [along_takeE] at r
  refine RStp.take.mp ?_
  rw [along_takeE, List.take_take, show min i k = i from by omega]
  exact r
theorem RD.more {bs : List (List Int)} {many : Nat} {steps : List Stp} (h : RD bs many steps) {s : Stp} (hs : RStp bs.length many (along bs steps []) steps.length s) : RD bs many (steps ++ [s]) := fun i x e => by
  refine RStp.take.mp ?_
  rw [along_takeE]
  by_cases hi : i < steps.length
  · rw [List.getElem?_append_left hi] at e
    rw [List.take_append_of_le_length (by omega), ← along_takeE]
    exact RStp.take.mpr (h i x e)
  · have hi2 : i = steps.length := by
      have := (List.getElem?_eq_some_iff.mp e).1
      rw [List.length_append] at this
      simp only [List.length_cons, List.length_nil] at this
      omega
    subst hi2
    rw [List.getElem?_append_right (Nat.le_refl _), Nat.sub_self] at e
    have e := Option.some.inj e
    subst e
    rw [List.take_left]
    exact hs
end CK
namespace CK
open PySem PySem.Spec PyProof.Rows L2 VG FR HD
end CK
namespace CK
open PySem PySem.Spec PyProof.Rows L2 VG FR HD
theorem Sts.keep {K : PySem.W.Frag} {H H' : Hp} {p q : Addr} (hd : Hd p q H) (kp : Keep p q H H') : ∀ {vs : List V} {cs : List Stp}, Sts K H vs cs → Sts K H' vs cs
  | [], [], _ => trivial
  | _ :: _, _ :: _, ⟨⟨t, e1, h⟩, r⟩ => ⟨⟨t, e1, seqTK hd kp h⟩, r.keep hd kp⟩
  | [], _ :: _, h => h.elim
  | _ :: _, [], h => h.elim
theorem Tots.keep {K : PySem.W.Frag} {H H' : Hp} {p q : Addr} (hd : Hd p q H) (kp : Keep p q H H') : ∀ {vs : List V} {cs : List (List Int)}, Tots K H vs cs → Tots K H' vs cs
  | [], [], _ => trivial
  | _ :: _, _ :: _, ⟨⟨t, e1, h⟩, r⟩ => ⟨⟨t, e1, seqTK hd kp h⟩, Tots.keep hd kp r⟩
  | [], _ :: _, h => h.elim
  | _ :: _, [], h => h.elim
theorem shaped_tots (ts : List (List Int)) : SeqAt.shaped (.list (ts.map dI)) = true := by
  have h : PyData.canLayAll0 (ts.map dI) = true ∧ PyData.depthAll (ts.map dI) ≤ 1 := by
    induction ts with
    | nil => exact ⟨rfl, Nat.zero_le _⟩
    | cons t ts ih =>
      refine ⟨?_, ?_⟩
      · show (PyData.canLay0 (dI t) && PyData.canLayAll0 (ts.map dI)) = true
        rw [ih.1, Bool.and_true]
        exact PySem.W.ke_canLayAll0 t
      · show max (PyData.depthAll (t.map PyData.int) + 1) (PyData.depthAll (ts.map dI)) ≤ 1
        rw [PySem.W.ke_depthAll]
        exact Nat.max_le.mpr ⟨Nat.le_refl _, ih.2⟩
  unfold SeqAt.shaped
  have e1 : PyData.canLay0 (.list (ts.map dI)) = true := h.1
  have e2 : PyData.depth (.list (ts.map dI)) ≤ 64 := by
    show PyData.depthAll _ + 1 ≤ 64
    have := h.2
    omega
  rw [e1, decide_eq_true e2]
  rfl
end CK
namespace VG
open PySem PySem.Spec PyProof.Rows L2
end VG
namespace CK
open PySem PySem.Spec PyProof.Rows L2 VG FR HD
end CK
namespace CK
open PySem PySem.Spec PyProof.Rows L2 VG FR HD
def Gd (n : Nat) (d : PyData) : Prop := d.canLay0 = true ∧ d.depth ≤ n
theorem gd_all {n : Nat} : ∀ {ds : List PyData}, (∀ d ∈ ds, Gd n d) → PyData.canLayAll0 ds = true ∧ PyData.depthAll ds ≤ n
  | [], _ => ⟨rfl, Nat.zero_le _⟩
  | d :: ds, h => by
    have ⟨a1, a2⟩ := h d List.mem_cons_self
    have ⟨b1, b2⟩ := gd_all (ds := ds) fun e he => h e (List.mem_cons_of_mem _ he)
    refine ⟨?_, ?_⟩
    · show (PyData.canLay0 d && PyData.canLayAll0 ds) = true
      rw [a1, b1]
      rfl
    · show max (PyData.depth d) (PyData.depthAll ds) ≤ n
      omega
theorem gd_tup {n : Nat} {ds : List PyData} (h : ∀ d ∈ ds, Gd n d) : Gd (n + 1) (.tuple ds) := ⟨(gd_all h).1, Nat.succ_le_succ (gd_all h).2⟩
theorem gd_lst {n : Nat} {ds : List PyData} (h : ∀ d ∈ ds, Gd n d) : Gd (n + 1) (.list ds) := ⟨(gd_all h).1, Nat.succ_le_succ (gd_all h).2⟩
theorem gd_int (n : Nat) (a : Int) : Gd n (.int a) := ⟨rfl, Nat.zero_le _⟩
theorem gd_str (n : Nat) {x : Str} (h : PyData.strOk x = true) : Gd n (.str x) := ⟨h, Nat.zero_le _⟩
theorem Gd.shaped {n : Nat} {d : PyData} (h : Gd n d) (hn : n ≤ 64) : SeqAt.shaped d = true := by
  unfold SeqAt.shaped
  rw [h.1, decide_eq_true (Nat.le_trans h.2 hn)]
  rfl
def smS : Stp → Prop
  | .tot t s => t < 2 ^ 24 ∧ s.natAbs < 2 ^ 24
  | .less c i j => c < 2 ^ 24 ∧ i < 2 ^ 24 ∧ j < 2 ^ 24
theorem RD.small {bs : List (List Int)} {many : Nat} {steps : List Stp} (h : RD bs many steps) (hb : bs.length ≤ 1000) (hm : many ≤ 1000) (hl : steps.length ≤ 1000) : ∀ s ∈ steps, smS s := fun s hs => by
  obtain ⟨i, hi, e⟩ := List.getElem_of_mem hs
  have r := h i s (by rw [List.getElem?_eq_getElem hi, e])
  cases s with
  | tot t s =>
    have := r.1
    have := r.2
    exact ⟨by omega, by omega⟩
  | less c a b =>
    have := r.1
    have := r.2.1
    have := r.2.2.1
    exact ⟨by omega, by omega, by omega⟩
end CK
namespace CK
open PySem PySem.Spec PyProof.Rows L2 VG FR HD
end CK
namespace CK
open PySem PySem.Spec PyProof.Rows L2 VG FR HD
/-- lists of ints, none of them D -/
def LsD (D : Addr) (H : Hp) : List V → List (List Int) → Prop
  | [], [] => True
  | v :: vs, c :: cs => (∃ t, v = .ref t ∧ t ≠ D ∧ H t = some (.lst (c.map V.int))) ∧ LsD D H vs cs
  | _, _ => False
theorem LsD.mono {D : Addr} {H H' : Hp} (e : Same H H') : ∀ {vs : List V} {cs : List (List Int)}, LsD D H vs cs → LsD D H' vs cs
  | [], [], _ => trivial
  | _ :: _, _ :: _, ⟨⟨t, e1, n, h⟩, r⟩ => ⟨⟨t, e1, n, e _ _ h⟩, r.mono e⟩
  | [], _ :: _, h => h.elim
  | _ :: _, [], h => h.elim
theorem LsD.len {D : Addr} {H : Hp} : ∀ {vs : List V} {cs : List (List Int)}, LsD D H vs cs → vs.length = cs.length
  | [], [], _ => rfl
  | _ :: _, _ :: _, h => by rw [List.length_cons, List.length_cons, h.2.len]
  | [], _ :: _, h => h.elim
  | _ :: _, [], h => h.elim
theorem LsD.snoc {D : Addr} {H : Hp} {t : Addr} {c : List Int} (n : t ≠ D) (h : H t = some (.lst (c.map V.int))) : ∀ {vs : List V} {cs : List (List Int)}, LsD D H vs cs → LsD D H (vs ++ [.ref t]) (cs ++ [c])
  | [], [], _ => ⟨⟨t, rfl, n, h⟩, trivial⟩
  | _ :: _, _ :: _, q => ⟨q.1, q.2.snoc n h⟩
  | [], _ :: _, q => q.elim
  | _ :: _, [], q => q.elim
theorem LsD.upd {D : Addr} {H : Hp} {o : HO} : ∀ {vs : List V} {cs : List (List Int)}, LsD D H vs cs → LsD D (L2.upd H D o) vs cs
  | [], [], _ => trivial
  | _ :: _, _ :: _, ⟨⟨t, e1, n, h⟩, r⟩ => ⟨⟨t, e1, n, by rw [upd_ne n]; exact h⟩, r.upd⟩
  | [], _ :: _, h => h.elim
  | _ :: _, [], h => h.elim
theorem LsD.get {D : Addr} {H : Hp} : ∀ {vs : List V} {cs : List (List Int)} {i : Nat}, LsD D H vs cs → i < cs.length → ∃ t, vs[i]? = some (.ref t) ∧ H t = some (.lst ((cs.getD i []).map V.int))
  | v :: _, _ :: _, 0, h, _ => by
    obtain ⟨t, e, _, q⟩ := h.1
    exact ⟨t, congrArg some e, q⟩
  | _ :: vs, _ :: cs, i + 1, h, l => h.2.get (i := i) (by simpa using l)
  | [], [], _, _, l => by simp at l
  | [], _ :: _, _, h, _ => h.elim
  | _ :: _, [], _, h, _ => h.elim
end CK
namespace CK
open PySem PySem.Spec PyProof.Rows L2 VG FR HD
end CK
namespace VG
open PySem PySem.Spec PyProof.Rows L2 HT
end VG
namespace CK
open PySem PySem.Spec PyProof.Rows L2 VG FR HD
def Lv (K : PySem.W.Frag) (G : Hp) (n : Nat) (v : V) : Prop := ∃ e, Dv K G v e ∧ Gd n e ∧ shortD e ∧ ∀ ds, e = .tuple ds → ∀ x ∈ ds, shortD x
theorem Lv.mono {K : PySem.W.Frag} {G G' : Hp} {n : Nat} {v : V} (s : Same G G') (h : Lv K G n v) : Lv K G' n v := by
  obtain ⟨e, h1, h2⟩ := h
  exact ⟨e, h1.mono s, h2⟩
end CK
namespace CK
open PySem PySem.Spec PyProof.Rows L2 VG FR HD
theorem gd_dI (c : List Int) : Gd 1 (dI c) := gd_tup fun d hd => by
  obtain ⟨x, _, rfl⟩ := List.mem_map.mp hd
  exact gd_int 0 x
end CK
namespace CK
open PySem PySem.Spec PyProof.Rows L2 VG FR HD
end CK
namespace CK
open PySem PySem.Spec PyProof.Rows L2 VG FR HD
def k0 : List Str := ["a"]
end CK
namespace VG
open PySem PySem.Spec PyProof.Rows L2
end VG
namespace CK
open PySem PySem.Spec PyProof.Rows L2 VG FR HD
end CK
namespace VG
open PySem PySem.Spec PyProof.Rows L2
/-- a heap without tables: what is told of it outlives the making of lambdas -/
def NoTbl (G : Hp) : Prop := ∀ b ps, G b ≠ some (.tbl ps)
theorem NoTbl.over {G H H' : Hp} (n : NoTbl G) (s : Same G H) (e : LamX.ExtN H H') : Same G H' := fun b o h =>
  e b o (s b o h) fun ps z => n b ps (by rw [h, z])
theorem tabs_same {T : List (Addr × Str)} {H H' : Hp} (t : LamX.Tabs T H) (s : Same H H') : LamX.Tabs T H' := t.ext s
/-- a heap but for its tables -/
noncomputable def offT (H : Hp) : Hp := fun b => match H b with
  | some (.tbl _) => none
  | o => o
theorem offT_no (H : Hp) : NoTbl (offT H) := fun b ps h => by
  unfold offT at h
  split at h
  · cases h
  · rename_i n
    exact n ps h
theorem offT_same (H : Hp) : Same (offT H) H := fun b o h => by
  unfold offT at h
  split at h
  · cases h
  · exact h
end VG
namespace CK
open PySem PySem.Spec PyProof.Rows L2 VG FR HD
mutual
inductive Ov (K : PySem.W.Frag) (H : Hp) : V → PyData → Prop
  | non : Ov K H .non .none
  | bl (b : Bool) : Ov K H (.bl b) (.bool b)
  | int (i : Int) : Ov K H (.int i) (.int i)
  | str (x : Str) : Ov K H (.str x) (.str x)
  | dct {a : Addr} : H a = some (.dK []) → Ov K H (.ref a) (.dict [])
  | lst {a : Addr} {xs : List V} {ds : List PyData} : H a = some (.lst xs) → OvAll K H xs ds → Ov K H (.ref a) (.list ds)
  | tup {a : Addr} {xs : List V} {ds : List PyData} : SqT K H a xs → OvAll K H xs ds → Ov K H (.ref a) (.tuple ds)
inductive OvAll (K : PySem.W.Frag) (H : Hp) : List V → List PyData → Prop
  | nil : OvAll K H [] []
  | cons {v : V} {vs : List V} {d : PyData} {ds : List PyData} : Ov K H v d → OvAll K H vs ds → OvAll K H (v :: vs) (d :: ds)
end
mutual
theorem Ov.mono {K : PySem.W.Frag} {H H' : Hp} (e : Same H H') : ∀ {v : V} {d : PyData}, Ov K H v d → Ov K H' v d
  | _, _, .non => .non
  | _, _, .bl b => .bl b
  | _, _, .int i => .int i
  | _, _, .str x => .str x
  | _, _, .dct h => .dct (e _ _ h)
  | _, _, .lst h r => .lst (e _ _ h) (OvAll.mono e r)
  | _, _, .tup h r => .tup (seqT e h) (OvAll.mono e r)
theorem OvAll.mono {K : PySem.W.Frag} {H H' : Hp} (e : Same H H') : ∀ {vs : List V} {ds : List PyData}, OvAll K H vs ds → OvAll K H' vs ds
  | _, _, .nil => .nil
  | _, _, .cons h r => .cons (Ov.mono e h) (OvAll.mono e r)
end
theorem OvAll.len {K : PySem.W.Frag} {H : Hp} : ∀ {vs : List V} {ds : List PyData}, OvAll K H vs ds → vs.length = ds.length
  | _, _, .nil => rfl
  | _, _, .cons _ r => by rw [List.length_cons, List.length_cons, r.len]
theorem OvAll.get {K : PySem.W.Frag} {H : Hp} : ∀ {xs : List V} {ds : List PyData} {i : Nat} {x : V}, OvAll K H xs ds → xs[i]? = some x → ∃ d, ds[i]? = some d ∧ Ov K H x d
  | _, _, _, _, .nil, e => by simp at e
  | _, _, 0, _, .cons h _, e => by
    have e1 := Option.some.inj e
    subst e1
    exact ⟨_, rfl, h⟩
  | _, _, i + 1, _, .cons _ r, e => r.get (i := i) e
theorem Ov.ints {K : PySem.W.Frag} {H : Hp} {a : Addr} {cs : List Int} (h : SqT K H a (cs.map V.int)) : Ov K H (.ref a) (.tuple (cs.map PyData.int)) := by
  refine .tup h ?_
  clear h
  induction cs with
  | nil => exact .nil
  | cons c r ih => exact .cons (.int c) ih
theorem kDI : kitB "dict" "int" = some false := by decide +kernel
theorem kDB : kitB "dict" "bool" = some false := by decide +kernel
theorem Ov.part {K : PySem.W.Frag} {H : Hp} {v : V} {d : PyData} (h : Ov K H v d) : Part K H v (intO d) := by
  cases h with
  | non => exact .inr ⟨rfl, "NoneType", false, false, .base .non, kitN1, kitN2, rfl⟩
  | bl b => exact part_bl b
  | int i => exact .inl ⟨i, rfl, rfl⟩
  | str x => exact .inr ⟨rfl, "str", false, false, .base (.str _), kitS1, kitS2, rfl⟩
  | dct h => exact .inr ⟨rfl, "dict", false, false, .base (.dK h), kDI, kDB, rfl⟩
  | lst h r => exact .inr ⟨rfl, "list", false, false, .base (.lst h), kLI, kLB, rfl⟩
  | tup h r => exact part_tup h
theorem Ov.noTup {K : PySem.W.Frag} {H : Hp} {v : V} {d : PyData} (h : Ov K H v d) (n : isTupD d = false) : ∃ ty : String, TyX K H v (.type ty) ∧ kitB ty "tuple" = some false := by
  cases h with
  | non => exact ⟨"NoneType", .base .non, kNT⟩
  | bl b => exact ⟨"bool", .base (.bl b), kBT⟩
  | int i => exact ⟨"int", .base (.int i), kIT⟩
  | str x => exact ⟨"str", .base (.str x), kST⟩
  | dct h => exact ⟨"dict", .base (.dK h), kDT⟩
  | lst h r => exact ⟨"list", .base (.lst h), kLT⟩
  | tup h r => cases n
theorem Ov.isT {K : PySem.W.Frag} {H : Hp} {v : V} {ds : List PyData} (h : Ov K H v (.tuple ds)) : ∃ a xs, v = .ref a ∧ SqT K H a xs ∧ OvAll K H xs ds := by
  cases h with
  | tup h r => exact ⟨_, _, rfl, h, r⟩
/-- numbers below n -/
def numsBD (n : Int) : PyData → Bool
  | .tuple ds => ds.all fun d => belowO n (intO d)
  | _ => false
/-- each less than the next -/
def ascB (cs : List Int) : Bool := (cs.zip (cs.drop 1)).all fun p => decide (p.1 < p.2)
def intsD : PyData → List Int
  | .tuple ds => ds.map fun d => (intO d).getD 0
  | _ => []
def lotD (n : Int) (d : PyData) : Bool := numsBD n d && ascB (intsD d)
def nameB (z : Str) : Bool := decide (1 ≤ z.length ∧ z.length ≤ 6) && z.cps.toList.all fun c => decide (c ∈ cLETTERS.cps.toList)
def nameD : PyData → Bool
  | .str z => nameB z
  | _ => false
def namesD : PyData → Bool
  | .tuple ds => ds.all nameD
  | _ => false
def spNumsA (K : PySem.W.Frag) : Sp := fun vs H Q _ => ∃ (v : V) (d : PyData) (n : Int), vs = [v, .int n] ∧ Ov K H v d ∧ shortD d ∧ ∀ H', Same H H' → Q (.bl (numsBD n d)) H'
def spAscA (K : PySem.W.Frag) : Sp := fun vs H Q _ => ∃ (t : Addr) (cs : List Int), vs = [.ref t] ∧ SqT K H t (cs.map V.int) ∧ cs.length ≤ 1000 ∧ ∀ H', Same H H' → Q (.bl (ascB cs)) H'
def spLotA (K : PySem.W.Frag) : Sp := fun vs H Q _ => ∃ (v : V) (d : PyData) (n : Int), vs = [v, .int n] ∧ Ov K H v d ∧ shortD d ∧ ∀ H', Same H H' → Q (.bl (lotD n d)) H'
theorem nums_ints {K : PySem.W.Frag} {H : Hp} {n : Int} : ∀ {xs : List V} {ds : List PyData}, OvAll K H xs ds → (ds.all fun d => belowO n (intO d)) = true → xs = (intsD (.tuple ds)).map V.int
  | _, _, .nil, _ => rfl
  | _, _, .cons h r, e => by
    rw [List.all_cons, Bool.and_eq_true] at e
    cases h with
    | int i => exact congrArg (V.int i :: ·) (nums_ints r e.2)
    | _ => cases e.1
end CK
namespace CK
open PySem PySem.Spec PyProof.Rows L2 VG FR HD
def shortS : PyData → Prop
  | .str z => z.length ≤ 1000
  | _ => True
def tupD (n : Nat) : PyData → Bool
  | .tuple ds => decide (ds.length = n)
  | _ => false
end CK
namespace CK
open PySem PySem.Spec PyProof.Rows L2 VG FR HD
/-- the totals that are left of the first i -/
def leftT (ts : List (List Int)) (os : List Int) (i : Nat) : List (List Int) := ((List.range i).filter fun (j : Nat) => !os.contains (j : Int)).map fun j => ts.getD j []
theorem leftT_len (ts : List (List Int)) (os : List Int) (i : Nat) : (leftT ts os i).length ≤ i := by
  unfold leftT
  rw [List.length_map]
  exact Nat.le_trans (List.length_filter_le _ _) (by rw [List.length_range]; exact Nat.le_refl _)
theorem leftT_yes {ts : List (List Int)} {os : List Int} {i : Nat} {c : List Int} (e : ts[i]? = some c) (h : os.contains (i : Int) = false) : leftT ts os (i + 1) = leftT ts os i ++ [c] := by
  unfold leftT
  rw [List.range_succ, List.filter_append, List.map_append]
  have e2 : [i].filter (fun (j : Nat) => !os.contains (j : Int)) = [i] := by simp only [List.filter_cons, h, Bool.not_false, if_true, List.filter_nil]
  rw [e2]
  simp [e]
theorem leftT_no {ts : List (List Int)} {os : List Int} {i : Nat} (h : os.contains (i : Int) = true) : leftT ts os (i + 1) = leftT ts os i := by
  unfold leftT
  rw [List.range_succ, List.filter_append, List.map_append]
  have e2 : [i].filter (fun (j : Nat) => !os.contains (j : Int)) = [] := by simp only [List.filter_cons, h, Bool.not_true, Bool.false_eq_true, if_false, List.filter_nil]
  rw [e2]
  simp
theorem leftT_mem {ts : List (List Int)} {os : List Int} {i : Nat} (hi : i ≤ ts.length) {c : List Int} (h : c ∈ leftT ts os i) : c ∈ ts := by
  unfold leftT at h
  obtain ⟨j, hj, rfl⟩ := List.mem_map.mp h
  have := List.mem_range.mp (List.mem_filter.mp hj).1
  have hj2 : j < ts.length := by omega
  rw [List.getD_eq_getElem?_getD, List.getElem?_eq_getElem hj2]
  exact List.getElem_mem hj2
/-- a table that can be -/
structure TabOk (ks : List Str) (ts : List (List Int)) : Prop where
  kinds : KindsOk ks
  len : ts.length ≤ 12
  lots : ∀ c ∈ ts, LotOk (ks.length : Int) c
def spTabNew (K : PySem.W.Frag) (C : Addr) (H : Hp) (Q : VK) (ks : List Str) (ts : List (List Int)) : Prop := ∀ H' u, Same H H' → H u = none → Tab K C H' u ks ts → Q (.ref u) H'
def spWithout (K : PySem.W.Frag) (C : Addr) : Sp := fun vs H Q _ => ∃ (a o : Addr) (os : List Int) (ks : List Str) (ts : List (List Int)), vs = [.ref a, .ref o] ∧ Tab K C H a ks ts ∧ TabOk ks ts ∧ SqT K H o (os.map V.int) ∧ os.length ≤ 1000 ∧
  spTabNew K C H Q ks (leftT ts os ts.length)
def spWith (K : PySem.W.Frag) (C R : Addr) : Sp := fun vs H Q E => ∃ (a : Addr) (v : V) (d : PyData) (ks : List Str) (ts : List (List Int)), vs = [.ref a, v] ∧ Tab K C H a ks ts ∧ TabOk ks ts ∧ Ov K H v d ∧ shortD d ∧
  (lotD (ks.length : Int) d = true → ts.length < 12 → spTabNew K C H Q ks (ts ++ [intsD d])) ∧
  (∀ w : Str, (lotD (ks.length : Int) d = false ∧ w = "total") ∨ (lotD (ks.length : Int) d = true ∧ 12 ≤ ts.length ∧ w = "size") → ∀ H' x, Same H H' → H x = none → H' x = some (.xd [((("word" : String) : Str), .str w)]) → E (.ref R) (some x) H')
theorem asc_of : ∀ {cs : List Int}, ascB cs = true → Asc cs
  | [], _ => trivial
  | [_], _ => trivial
  | a :: b :: r, h => by
    have h : (decide (a < b) && ascB (b :: r)) = true := h
    rw [Bool.and_eq_true] at h
    exact ⟨of_decide_eq_true h.1, asc_of h.2⟩
theorem below_of {n : Int} : ∀ {ds : List PyData}, (ds.all fun d => belowO n (intO d)) = true → ∀ x ∈ intsD (.tuple ds), 0 ≤ x ∧ x < n
  | [], _, x, hx => by cases hx
  | d :: ds, h, x, hx => by
    rw [List.all_cons, Bool.and_eq_true] at h
    have hx : x ∈ (intO d).getD 0 :: intsD (.tuple ds) := hx
    rcases List.mem_cons.mp hx with e | m
    · have h1 := h.1
      cases q : intO d with
      | none => rw [q] at h1; cases h1
      | some i =>
        rw [q] at h1 e
        subst e
        exact of_decide_eq_true h1
    · exact below_of h.2 x m
theorem lot_of {n : Int} {ds : List PyData} (h : lotD n (.tuple ds) = true) (sh : ds.length ≤ 1000) : LotOk n (intsD (.tuple ds)) := by
  have h : (numsBD n (.tuple ds) && ascB (intsD (.tuple ds))) = true := h
  rw [Bool.and_eq_true] at h
  exact ⟨by show (ds.map _).length ≤ 1000; rw [List.length_map]; exact sh, below_of h.1, asc_of h.2⟩
theorem raised {K : PySem.W.Frag} {R : Addr} {w : Str} {σ : L2.St} {H : Hp} {E : XK} (h : ∀ H' x, Same H H' → H x = none → H' x = some (.xd [((("word" : String) : Str), .str w)]) → E (.ref R) (some x) H') :
    tMkO R (spInitW K R (("word" : String) : Str)) [] (tCons (tC (V.str w)) tNil) σ H fun cls d H' => E cls d H' := by
  refine ⟨by show 1 ≤ 1000; decide, fun x nx => ?_⟩
  refine ⟨x, _, rfl, upd_same, fun dx n ne => ⟨rfl, dx, [((("word" : String) : Str), V.str w)], upd_same, ?_, ?_, ?_⟩⟩
  · rw [upd_ne ne, upd_same]
  · rw [upd_ne ne] at n
    exact n
  · rw [upd_ne ne] at n
    refine h _ dx (fun y o hy => ?_) n upd_same
    have hyd : y ≠ dx := ne_of_none hy n
    have hyx : y ≠ x := ne_of_none hy nx
    rw [upd_ne hyd, del_ne hyx, upd_ne hyx, upd_ne hyd, upd_ne hyx]
    exact hy
end CK
namespace VG
open PySem PySem.Spec PyProof.Rows L2
def rTupIx (K : PySem.W.Frag) : V → List V → Hp → VK → Prop := fun x xs H Q => ∃ (p : Addr) (cs : List Int) (k : Int) (j : Nat), x = .ref p ∧ xs = [.int k] ∧ SqT K H p (cs.map V.int) ∧ cs[j]? = some k ∧ (∀ m, m < j → cs[m]? ≠ some k) ∧ Q (.int (j : Nat)) H
section
variable {X : Cx}
theorem mt_tup_indexI : MtR X "tuple.index" (rTupIx X.K) := by
  rintro pins s σ H _ _ _ us Q I rx rs ⟨p, cs, k, j, rfl, rfl, isT, atJ, before, told⟩
  cases rx
  obtain ⟨_, rfl, tok, rfl⟩ := vals1 rs
  obtain ⟨us, rel, obj, len⟩ := I.tuple isT
  obtain ⟨⟨cl, dct, da, slots⟩, at1, isTup, many, isSeq⟩ := obj
  simp only at isTup isSeq
  subst isTup isSeq
  have size : us.toArray.size = cs.length := by
    rw [List.size_toArray, ← rel.length, List.length_map]
  have jIn : j < us.toArray.size := by
    have := (List.getElem?_eq_some_iff.mp atJ).1
    omega
  have each : ∀ (m : Nat) (lt : m < us.toArray.size), ∃ (i : Int) (t : Tok), cs[m]? = some i ∧ us.toArray[m] = Value.int i t := by
    intro m lt
    have ltC : m < cs.length := by omega
    obtain ⟨u, eu, t, et⟩ := rel.get (i := m) (x := .int cs[m]) (by simp [ltC])
    refine ⟨cs[m], t, List.getElem?_eq_getElem ltC, ?_⟩
    have e2 := (List.getElem?_eq_some_iff.mp eu).2
    rw [← et, ← e2]
    simp
  have flat : (cs.map V.int).all flatV = true := by
    rw [List.all_map]
    exact List.all_eq_true.mpr fun _ _ => rfl
  refine call_meets PySem.F.slot_tuple_index ⟨_, at1, rfl⟩ PySem.F.entry_tuple_index (PySem.F.args_tuple_index_2 _ _)
    (TI.tuple_indexAt p us.toArray many dct slots (.int k tok) (eqU (.int k)) j jIn ?hit ?miss)
    ⟨at1, fun u mem => mem_eqAt (x := .int k) ⟨tok, rfl⟩ rfl rel flat u (by simpa using mem), ⟨.int (j : Nat), H, I.tok _, ⟨_, rfl⟩, told⟩⟩
  case hit =>
    obtain ⟨i, t, e1, e2⟩ := each j jIn
    rw [atJ] at e1
    cases e1
    rw [e2]
    exact beq_self_eq_true k
  case miss =>
    intro m lt ltj
    obtain ⟨i, t, e1, e2⟩ := each m lt
    rw [e2]
    have ne : i ≠ k := fun z => before m ltj (by rw [e1, z])
    show (i == k) = false
    exact beq_false_of_ne ne
end
end VG
namespace VG
open PySem PySem.Spec PyProof.Rows L2 FR
/-- a tuple of the run, its object told: no dict of its own -/
def TupO (H : Hp) (p : Addr) (xs : List V) : Prop := ∃ ob : Obj, H p = some (.frz ob (.tup xs)) ∧ ob.cls = .type "tuple" ∧ ob.dict = none
theorem TupO.seq {K : PySem.W.Frag} {H : Hp} {p : Addr} {xs : List V} (t : TupO H p xs) : SqT K H p xs :=
  let ⟨ob, e, _, _⟩ := t
  .inl (.inr ⟨ob, e⟩)
theorem TupO.mono {H H' : Hp} {p : Addr} {xs : List V} (t : TupO H p xs) (e : Same H H') : TupO H' p xs :=
  let ⟨ob, e1, e2, e3⟩ := t
  ⟨ob, e _ _ e1, e2, e3⟩
def rTupF (K : PySem.W.Frag) : List V → Hp → VK → Prop := fun xs H Q => ∃ (p : Addr) (ys : List V), xs = [.ref p] ∧ SqL K H p ys ∧ ∀ l H', Same H H' → H l = none → TupO H' l ys → Q (.ref l) H'
def tTM (r : V → List V → Hp → VK → Prop) (to : TE) (t : TA) : TE := fun σ H Q => to σ H fun x H1 => (∃ p xs, x = .ref p ∧ TupO H1 p xs) ∧ t σ H1 fun ys H2 => r x ys H2 Q
section
variable {X : Cx}
theorem call_tupF : CallR X (.type "tuple") (rTupF X.K) := by
  rintro pins s σ H _ us Q I vals ⟨p, ys, rfl, isL, told⟩
  obtain ⟨_, rfl, isRef⟩ := vals1 vals
  cases isRef
  obtain ⟨its, rel, obj, short⟩ := I.list isL
  have many := rel.length
  refine call_tuple_list obj.isList (fun h2 kept => ?_) (by simp only [List.size_toArray] <;> omega)
  have J : Inv X pins σ H { s with heap := h2 } := I.kept (t' := s.toks) kept
  have new : H h2.objs.size = none := J.hok.fresh (Nat.le_refl _)
  have J2 : Inv X pins σ (L2.upd H h2.objs.size (.frz { cls := .type "tuple", data := .seq its.toArray } (.tup ys))) { s with heap := h2.push { cls := .type "tuple", data := .seq its.toArray } } := by
    refine J.laid (t' := s.toks) (fun b o e => Heap.get?_push_of_some _ e) (Nat.le_refl _) ?_
    exact ⟨Heap.get?_push_size _ rfl, short, its, rel, IsTup.new _ _⟩
  exact ⟨.ref h2.objs.size, _, J2, rfl, told _ _ (same_upd new) new ⟨_, upd_same, rfl, rfl⟩⟩
variable {o e : Expr} {es : List Expr} {to : TE} {t : TA} {name : Str} {apos cpos : Pos} {id : String} {r : V → List V → Hp → VK → Prop}
theorem pe_tm (attrs : PlainAttrs "tuple") (slot : Slot "tuple" name id) (isM : typeOf (.builtin id) = pure (.type "method_descriptor")) (does : MtR X id r) (obj : PE X o to) (args : PA X (e :: es) t)
    (b1 : attributeBase o name X.env (eval o X.env) = eval o X.env := by rfl)
    (b2 : ((backTo cpos (starEach (e :: es) X.env)).all (fun x => !x.1) && (backToKw cpos (keywordEach [] X.env)).all (fun x => x.1.isSome) && decide ((e :: es).length + ([] : List Keyword).length + (if ([] : List Keyword).isEmpty then 0 else 1) < 30)) = true := by rfl)
    (b3 : (apos.endLine == cpos.line) = true := by rfl) (b4 : starEach (e :: es) X.env = (false, eval e X.env) :: starEach es X.env := by rfl) (b5 : (backTo cpos (starEach es X.env)).any (·.1) = false := by rfl) :
    PE X (.Call (.Attribute o name apos) (e :: es) [] cpos) (tTM r to t) := by
  constructor
  intro pins s σ H Q I told
  apply wpAny_Call_method_late b1 b2 b3 rfl
  apply thn (obj.run pins s σ H _ I told)
  rintro v s1 ⟨x, H1, J, rel, ⟨p, xs, rfl, ob, at1, cl, nd⟩, q⟩
  cases rel
  have got := (J.hok p _ at1).1
  refine ⟨"tuple", id, attrs, slot, isM, ⟨ob, got, cl⟩, fun a z => ?_, ?_⟩
  · cases z
    exact ⟨ob, got, nd⟩
  have run := args.run cpos pins s1 σ H1 _ J q
  rw [b4] at run ⊢
  refine Calls.callWith_builtin (by show (false || (backTo cpos (starEach es X.env)).any (·.1)) = false; rw [b5] <;> rfl) (Calls.evalArgs_plain ?_)
  exact thn run fun ws s2 ⟨vs, H2, J2, rel2, q2⟩ => does pins s2 σ H2 (.ref p) vs (.ref p) ws Q J2 rfl rel2 q2
end
end VG
namespace CK
open PySem PySem.Spec PyProof.Rows L2 VG FR HD
/-- the kinds that are left, of the first i -/
def leftK (os : List Int) (i : Nat) : List Int := ((List.range i).filter fun (j : Nat) => !os.contains (j : Int)).map fun (j : Nat) => (j : Int)
theorem leftK_len (os : List Int) (i : Nat) : (leftK os i).length ≤ i := by
  unfold leftK
  rw [List.length_map]
  exact Nat.le_trans (List.length_filter_le _ _) (by rw [List.length_range]; exact Nat.le_refl _)
theorem leftK_yes {os : List Int} {i : Nat} (h : os.contains (i : Int) = false) : leftK os (i + 1) = leftK os i ++ [(i : Int)] := by
  unfold leftK
  rw [List.range_succ, List.filter_append, List.map_append]
  have e2 : [i].filter (fun (j : Nat) => !os.contains (j : Int)) = [i] := by simp only [List.filter_cons, h, Bool.not_false, if_true, List.filter_nil]
  rw [e2]
  rfl
theorem leftK_no {os : List Int} {i : Nat} (h : os.contains (i : Int) = true) : leftK os (i + 1) = leftK os i := by
  unfold leftK
  rw [List.range_succ, List.filter_append, List.map_append]
  have e2 : [i].filter (fun (j : Nat) => !os.contains (j : Int)) = [] := by simp only [List.filter_cons, h, Bool.not_true, Bool.false_eq_true, if_false, List.filter_nil]
  rw [e2]
  simp
theorem leftK_mem {os : List Int} {i : Nat} {x : Int} (h : x ∈ leftK os i) : ∃ j : Nat, j < i ∧ x = (j : Int) := by
  unfold leftK at h
  obtain ⟨j, hj, rfl⟩ := List.mem_map.mp h
  exact ⟨j, List.mem_range.mp (List.mem_filter.mp hj).1, rfl⟩
/-- the place of a number -/
def plc (ls : List Int) (x : Int) : Int := ((ls.idxOf x : Nat) : Int)
theorem plc_at {ls : List Int} {x : Int} (h : x ∈ ls) : ls[ls.idxOf x]? = some x := by
  have := List.idxOf_lt_length_iff.mpr h
  rw [List.getElem?_eq_getElem this, List.getElem_idxOf]
theorem plc_first : ∀ {ls : List Int} {x : Int} {m : Nat}, m < ls.idxOf x → ls[m]? ≠ some x
  | [], x, m, hm => by simp at hm
  | a :: ls, x, m, hm => by
    intro e
    rw [List.idxOf_cons] at hm
    cases q : (a == x) with
    | true => rw [q] at hm; simp at hm
    | false =>
      rw [q] at hm
      cases m with
      | zero =>
        have e1 : a = x := Option.some.inj e
        rw [e1] at q
        simp at q
      | succ m =>
        have hm : m + 1 < ls.idxOf x + 1 := hm
        exact plc_first (ls := ls) (x := x) (m := m) (by omega) e
def newT (ls c : List Int) : List Int := (c.filter fun x => ls.contains x).map (plc ls)
theorem newT_add {ls c : List Int} {j : Nat} {x : Int} (e : c[j]? = some x) : newT ls (c.take (j + 1)) = newT ls (c.take j) ++ (if ls.contains x = true then [plc ls x] else []) := by
  unfold newT
  rw [List.take_add_one, e, List.filter_append, List.map_append]
  show _ ++ ([x].filter fun x => ls.contains x).map (plc ls) = _
  cases q : ls.contains x with
  | true => simp only [List.filter_cons, q, if_true, List.filter_nil, List.map_cons, List.map_nil]
  | false => simp only [List.filter_cons, q, Bool.false_eq_true, if_false, List.filter_nil, List.map_nil]
theorem newT_len (ls c : List Int) (j : Nat) : (newT ls (c.take j)).length ≤ c.length := by
  unfold newT
  rw [List.length_map]
  refine Nat.le_trans (List.length_filter_le _ _) ?_
  rw [List.length_take]
  omega
def spLess2 (K : PySem.W.Frag) (C R : Addr) : Sp := fun vs H Q E => ∃ (a o : Addr) (os : List Int) (ks : List Str) (ts : List (List Int)), vs = [.ref a, .ref o] ∧ Tab K C H a ks ts ∧ TabOk ks ts ∧ SqT K H o (os.map V.int) ∧ os.length ≤ 1000 ∧
  (leftK os ks.length ≠ [] → TabOk ((leftK os ks.length).map fun x => ks.getD x.toNat Str.empty) (ts.map (newT (leftK os ks.length))) ∧ spTabNew K C H Q ((leftK os ks.length).map fun x => ks.getD x.toNat Str.empty) (ts.map (newT (leftK os ks.length)))) ∧
  (leftK os ks.length = [] → ∀ H' x, Same H H' → H x = none → H' x = some (.xd [((("word" : String) : Str), .str (("kinds" : String) : Str))]) → E (.ref R) (some x) H')
end CK
namespace CK
open PySem PySem.Spec PyProof.Rows L2 VG FR HD
/-- totals by classes: for each total its classes, ascending -/
structure ByCls (ts : List (List Int)) (n : Nat) (ls : List (List Int)) : Prop where
  len : ls.length = ts.length
  rel : ∀ (j : Nat) c l, ts[j]? = some c → ls[j]? = some l → ∀ x : Int, x ∈ l ↔ ∃ k ∈ c, numV (classesL ts n) k = .int x
  asc : ∀ l ∈ ls, l.length ≤ 1000 ∧ l.Pairwise (· < ·)
def spTBC2 (K : PySem.W.Frag) (C : Addr) : Sp := fun vs H Q _ => ∃ (a : Addr) (ks : List Str) (ts : List (List Int)), vs = [.ref a] ∧ Tab K C H a ks ts ∧ ts.length ≤ 1000 ∧ ks.length ≤ 1000 ∧ (∀ c ∈ ts, c.length ≤ 60 ∧ ∀ x ∈ c, 0 ≤ x ∧ x < (ks.length : Int)) ∧
  ∀ H' u xs ls, Same H H' → H' u = some (.tup xs) → Tots K H' xs ls → ByCls ts ks.length ls → Q (.ref u) H'
/-- the names of the classes: those of their first kinds -/
def clsN (ks : List Str) (cs : List (List Int)) : List Str := cs.map fun c => ks.getD (c.getD 0 0).toNat Str.empty
def spMerged (K : PySem.W.Frag) (C R : Addr) : Sp := fun vs H Q E => ∃ (a : Addr) (ks : List Str) (ts : List (List Int)), vs = [.ref a] ∧ Tab K C H a ks ts ∧ TabOk ks ts ∧
  (classesL ts ks.length ≠ [] → ∀ ls, ByCls ts ks.length ls → TabOk (clsN ks (classesL ts ks.length)) ls ∧ spTabNew K C H Q (clsN ks (classesL ts ks.length)) ls) ∧
  (classesL ts ks.length = [] → ∀ H' x, Same H H' → H x = none → H' x = some (.xd [((("word" : String) : Str), .str (("kinds" : String) : Str))]) → E (.ref R) (some x) H')
/-- an ascending lot below n has at most n entries -/
theorem lot_small {n : Nat} {c : List Int} (h : LotOk (n : Int) c) : c.length ≤ n := by
  have pw : ∀ (c : List Int) (lo : Int), Asc c → (∀ x ∈ c, lo ≤ x ∧ x < (n : Int)) → (c.length : Int) ≤ (n : Int) - lo ∨ c = [] := by
    intro c
    induction c with
    | nil => intro lo _ _; exact .inr rfl
    | cons x r ih =>
      intro lo ha hb
      left
      have hx := hb x List.mem_cons_self
      cases r with
      | nil => simp; omega
      | cons y r2 =>
        have ha2 : x < y ∧ Asc (y :: r2) := ha
        have asc_all : ∀ (y : Int) (r : List Int), Asc (y :: r) → ∀ z ∈ y :: r, y ≤ z := by
          intro y r
          induction r generalizing y with
          | nil => intro _ z hz; rw [List.mem_singleton.mp hz]; exact Int.le_refl _
          | cons w r3 ih3 =>
            intro h3 z hz
            have h3 : y < w ∧ Asc (w :: r3) := h3
            rcases List.mem_cons.mp hz with e | m
            · rw [e]; exact Int.le_refl _
            · have := ih3 w h3.2 z m
              omega
        rcases ih (x + 1) ha2.2 (fun z hz => ⟨by have := asc_all y r2 ha2.2 z hz; omega, (hb z (List.mem_cons_of_mem _ hz)).2⟩) with q | q
        · rw [List.length_cons]
          omega
        · cases q
  rcases pw c 0 h.2.2 h.2.1 with q | q
  · omega
  · rw [q]; exact Nat.zero_le _
theorem TabOk.low {ks : List Str} {ts : List (List Int)} (h : TabOk ks ts) : ∀ c ∈ ts, c.length ≤ 60 ∧ ∀ x ∈ c, 0 ≤ x ∧ x < (ks.length : Int) := fun c hc =>
  ⟨by have := lot_small (h.lots c hc); have := h.kinds.2.1; omega, (h.lots c hc).2.1⟩
end CK
namespace CK
open PySem PySem.Spec PyProof.Rows L2 VG FR HD
end CK
namespace CK
open PySem PySem.Spec PyProof.Rows L2 VG FR HD
def dS1 (ks : List Str) : PyData := .tuple (ks.map PyData.str)
def dT1 (ts : List (List Int)) : PyData := .tuple (ts.map dI)
theorem dpAll_strs {K : PySem.W.Frag} {H : Hp} : ∀ (ks : List Str), DpAll K H (ks.map V.str) (ks.map PyData.str)
  | [] => .nil
  | k :: r => .cons (.str k) (dpAll_strs r)
theorem tup_either {K : PySem.W.Frag} {H : Hp} {k : Addr} {xs : List V} {Q : VK} (h : SqL K H k xs ∨ SqT K H k xs) (fin : ∀ H' u, Same H H' → SqT K H' u xs → Q (.ref u) H') :
    ∃ p ys, ([V.ref k] : List V) = [V.ref p] ∧ ((SqL K H p ys ∧ ∀ l, H l = none → Q (.ref l) (L2.upd H l (.tup ys))) ∨ (SqT K H p ys ∧ Q (.ref p) H)) := by
  rcases h with h | h
  · exact ⟨k, xs, rfl, .inl ⟨h, fun l nl => fin _ l (same_upd nl) (sqt upd_same)⟩⟩
  · exact ⟨k, xs, rfl, .inr ⟨h, fin H k (Same.refl _) h⟩⟩
def rTupE (K : PySem.W.Frag) : List V → Hp → VK → Prop := fun vs H Q => ∃ (k : Addr) (xs : List V), vs = [.ref k] ∧ (SqL K H k xs ∨ SqT K H k xs) ∧ ∀ H' u, Same H H' → SqT K H' u xs → Q (.ref u) H'
theorem call_tupE {X : Cx} : CallR X (.type "tuple") (rTupE X.K) := fun pins s σ H vs us Q I rv h => by
  obtain ⟨k, xs, rfl, h1, h2⟩ := h
  exact call_tuple_of pins s σ H _ us Q I rv (tup_either h1 h2)
end CK
namespace CK
open PySem PySem.Spec PyProof.Rows L2 VG FR HD
theorem Shn.more {d : PyData} {k B k2 B2 : Nat} (h : Shn d k B) (hk : k ≤ k2) (hB : B ≤ B2) : Shn d k2 B2 := ⟨h.1, h.2.1, Nat.le_trans h.2.2.1 hk, Nat.le_trans h.2.2.2 hB⟩
theorem shn_word {z : Str} (h : NameOk z) : Shn (.str z) 0 300 := by
  refine ⟨by simp [PyData.showable], by simp [PyData.hasDict], by simp [PyData.depth], ?_⟩
  have ls : (PyData.str z).leavesShort 8 = true := by
    show (z.cps.toList.all fun c => decide (c < 16 ^ 8)) = true
    rw [List.all_eq_true]
    intro c hc
    have := (h.2.2 c hc).2
    exact decide_eq_true (by omega)
  have := PyData.shown_le 8 (by decide) (.str z) ls
  have h6 := h.2.1
  have w : (PyData.str z).weight ≤ 6 * 4 + 5 := by
    simp [PyData.weight]
    have : z.length = z.cps.size := rfl
    omega
  have m : (8 + 2) * (PyData.str z).weight ≤ (8 + 2) * 29 := Nat.mul_le_mul_left _ w
  omega
theorem shn_table {ks : List Str} {ts : List (List Int)} (ok : TabOk ks ts) : Shn (.tuple [dS1 ks, dT1 ts]) 3 10000 := by
  have h1 : Shn (dS1 ks) 1 ((300 + 2) * 12 + 2) := shn_tup (k := 0) (B := 300) (fun d hd => by
    obtain ⟨z, hz, rfl⟩ := List.mem_map.mp hd
    exact shn_word (ok.kinds.2.2.1 z hz)) (by rw [List.length_map]; exact ok.kinds.2.1)
  have h2 : Shn (dT1 ts) 2 ((326 + 2) * 12 + 2) := shn_tup (k := 1) (B := 326) (fun d hd => by
    obtain ⟨c, hc, rfl⟩ := List.mem_map.mp hd
    have hl := ok.lots c hc
    have := lot_small hl
    have k12 := ok.kinds.2.1
    refine shn_dI (n := 12) (fun x hx => ?_) (by omega)
    have ⟨x0, x1⟩ := hl.2.1 x hx
    have : (2 : Nat) ^ 24 = 16777216 := by decide
    omega) (by rw [List.length_map]; exact ok.len)
  refine (shn_tup (k := 2) (B := 3938) (n := 2) (ds := [dS1 ks, dT1 ts]) (fun d hd => ?_) (by show 2 ≤ 2; decide)).more (Nat.le_refl _) (by decide)
  rcases List.mem_cons.mp hd with e | m
  · rw [e]
    exact h1.more (by decide) (by decide)
  · rw [List.mem_singleton.mp m]
    exact h2.more (by decide) (by decide)
end CK
namespace CK
open PySem PySem.Spec PyProof.Rows L2 VG FR HD
def hd0 (c : List Int) : Int := c.getD 0 0
theorem pick_add (P : Nat → Bool) (n : Nat) : pick P (n + 1) = pick P n ++ (if P n = true then [(n : Int)] else []) := by
  unfold pick
  rw [List.range_succ, List.filter_append, List.map_append]
  cases h : P n with
  | true =>
    have e : [n].filter P = [n] := by simp only [List.filter_cons, h, if_true, List.filter_nil]
    rw [e]
    rfl
  | false =>
    have e : [n].filter P = [] := by simp only [List.filter_cons, h, Bool.false_eq_true, if_false, List.filter_nil]
    rw [e]
    rfl
theorem hd0_app {a b : List Int} (h : a ≠ []) : hd0 (a ++ b) = hd0 a := by
  cases a with
  | nil => exact absurd rfl h
  | cons x r => rfl
theorem pick_ne {f : Nat → List Int} {n : Nat} {c : List Int} (h : c ∈ keysOf f n) : pick (memb f c) n ≠ [] := by
  obtain ⟨j, hj, e⟩ := keys_from f h
  intro z
  have m : ((j : Nat) : Int) ∈ pick (memb f c) n := mem_pick.mpr ⟨j, hj, decide_eq_true e, rfl⟩
  rw [z] at m
  cases m
theorem head_keep {f : Nat → List Int} {n : Nat} {c : List Int} (h : c ∈ keysOf f n) : hd0 (pick (memb f c) (n + 1)) = hd0 (pick (memb f c) n) := by
  rw [pick_add, hd0_app (pick_ne h)]
theorem heads_asc (f : Nat → List Int) : ∀ n, ((keysOf f n).Pairwise fun a b => hd0 (pick (memb f a) n) < hd0 (pick (memb f b) n)) ∧ ∀ c ∈ keysOf f n, hd0 (pick (memb f c) n) < (n : Int)
  | 0 => ⟨List.Pairwise.nil, fun c h => by cases h⟩
  | n + 1 => by
    obtain ⟨i1, i2⟩ := heads_asc f n
    unfold keysOf
    by_cases e : f n ∈ keysOf f n
    · rw [if_pos e]
      refine ⟨List.Pairwise.imp_of_mem (fun ha hb h => ?_) i1, fun c h => ?_⟩
      · rw [head_keep ha, head_keep hb]
        exact h
      · rw [head_keep h]
        have := i2 c h
        omega
    · rw [if_neg e]
      have new : hd0 (pick (memb f (f n)) (n + 1)) = (n : Int) := by
        have z : pick (memb f (f n)) n = [] := pick_nil fun j hj => decide_eq_false fun q => e (by rw [← q]; exact keys_mem f hj)
        rw [pick_add, z, if_pos (show memb f (f n) n = true from decide_eq_true rfl)]
        rfl
      refine ⟨List.pairwise_append.mpr ⟨List.Pairwise.imp_of_mem (fun ha hb h => ?_) i1, List.pairwise_singleton _ _, fun a ha b hb => ?_⟩, fun c h => ?_⟩
      · rw [head_keep ha, head_keep hb]
        exact h
      · rw [List.mem_singleton.mp hb, new, head_keep ha]
        exact i2 a ha
      · rcases List.mem_append.mp h with m | m
        · rw [head_keep m]
          have := i2 c m
          omega
        · rw [List.mem_singleton.mp m, new]
          omega
theorem cls_heads (ts : List (List Int)) (n : Nat) : (classesL ts n).Pairwise fun a b => hd0 a < hd0 b := by
  rw [classesL]
  exact List.pairwise_map.mpr ((heads_asc (fT ts) n).1.filter _)
theorem asc_far {ks : List Str} (h : AscS ks) : ∀ (d i : Nat) (a b : Str), ks[i]? = some a → ks[i + d + 1]? = some b → a.cps.toList < b.cps.toList
  | 0, i, a, b, ha, hb => h i a b ha hb
  | d + 1, i, a, b, ha, hb => by
    have lt : i + d + 1 < ks.length := by
      have := (List.getElem?_eq_some_iff.mp hb).1
      omega
    have hm : ks[i + d + 1]? = some ks[i + d + 1] := List.getElem?_eq_getElem lt
    exact List.lt_trans (asc_far h d i a _ ha hm) (h (i + d + 1) _ b hm hb)
theorem cls_first {ts : List (List Int)} {n : Nat} {c : List Int} (h : c ∈ classesL ts n) : ∃ j : Nat, j < n ∧ hd0 c = (j : Int) := by
  have ne := cls_ne c h
  cases c with
  | nil => exact absurd rfl ne
  | cons x r =>
    obtain ⟨j, hj, e⟩ := classes_below h List.mem_cons_self
    exact ⟨j, hj, e⟩
theorem nameD_at {ks : List Str} {j : Nat} (h : j < ks.length) : ks[j]? = some (ks.getD j Str.empty) := by
  rw [List.getD_eq_getElem?_getD, List.getElem?_eq_getElem h]
  rfl
theorem cls_names {ks : List Str} {ts : List (List Int)} (ok : KindsOk ks) (ne : classesL ts ks.length ≠ []) : KindsOk (clsN ks (classesL ts ks.length)) := by
  have ⟨cl1, _⟩ := classes_len ts ks.length
  have k12 := ok.2.1
  refine ⟨?_, ?_, fun z hz => ?_, fun i a b ha hb => ?_⟩
  · unfold clsN
    rw [List.length_map]
    exact List.length_pos_iff.mpr ne
  · unfold clsN
    rw [List.length_map]
    omega
  · obtain ⟨c, hc, rfl⟩ := List.mem_map.mp hz
    obtain ⟨j, hj, e⟩ := cls_first hc
    show NameOk (ks.getD (hd0 c).toNat Str.empty)
    rw [e]
    exact ok.2.2.1 _ (List.mem_of_getElem? (nameD_at (j := j) hj))
  · unfold clsN at ha hb
    rw [List.getElem?_map] at ha hb
    obtain ⟨c, ec, rfl⟩ := Option.map_eq_some_iff.mp ha
    obtain ⟨d, ed, rfl⟩ := Option.map_eq_some_iff.mp hb
    obtain ⟨i1, e1⟩ := List.getElem?_eq_some_iff.mp ec
    obtain ⟨i2, e2⟩ := List.getElem?_eq_some_iff.mp ed
    have lt := List.pairwise_iff_getElem.mp (cls_heads ts ks.length) i (i + 1) i1 i2 (by omega)
    rw [e1, e2] at lt
    obtain ⟨j, hj, ej⟩ := cls_first (List.mem_of_getElem? ec)
    obtain ⟨k, hk, ek⟩ := cls_first (List.mem_of_getElem? ed)
    show (ks.getD (hd0 c).toNat Str.empty).cps.toList < (ks.getD (hd0 d).toNat Str.empty).cps.toList
    rw [ej, ek] at lt ⊢
    have jk : j < k := by omega
    exact asc_far ok.2.2.2 (k - j - 1) j _ _ (nameD_at (j := j) hj) (by
      have e3 : j + (k - j - 1) + 1 = k := by omega
      rw [e3]
      exact nameD_at (j := k) hk)
end CK
namespace CK
open PySem PySem.Spec PyProof.Rows L2 VG FR HD
/-- a merged table can be -/
theorem merged_ok {ks : List Str} {ts ls : List (List Int)} (ok : TabOk ks ts) (ne : classesL ts ks.length ≠ []) (by_ : ByCls ts ks.length ls) : TabOk (clsN ks (classesL ts ks.length)) ls := by
  refine ⟨cls_names ok.kinds ne, by rw [by_.len]; exact ok.len, fun l hl => ?_⟩
  obtain ⟨small, pw⟩ := by_.asc l hl
  refine ⟨small, fun x hx => ?_, asc_pw pw⟩
  obtain ⟨j, ej⟩ := List.mem_iff_getElem?.mp hl
  have lt : j < ts.length := by
    have := (List.getElem?_eq_some_iff.mp ej).1
    have := by_.len
    omega
  have ec : ts[j]? = some ts[j] := List.getElem?_eq_getElem lt
  generalize ts[j] = c at ec
  have hc := List.mem_of_getElem? ec
  obtain ⟨k, hk, e⟩ := (by_.rel j c l ec ej x).mp hx
  have ⟨k0, k1⟩ := (ok.lots c hc).2.1 k hk
  obtain ⟨i, rfl⟩ := Int.eq_ofNat_of_zero_le k0
  obtain ⟨a, cl, g1, g2, g3⟩ := cls_one (n := ks.length) hc (by omega) hk
  rw [num_of g1 g2 g3] at e
  have e := V.int.inj e
  have la := (List.getElem?_eq_some_iff.mp g1).1
  unfold clsN
  rw [List.length_map]
  omega
end CK
namespace CK
open PySem PySem.Spec PyProof.Rows L2 VG FR HD
/-- names of ascending numbers -/
theorem names_of {ks : List Str} {ls : List Int} (ok : KindsOk ks) (ne : ls ≠ []) (asc : ls.Pairwise (· < ·)) (low : ∀ x ∈ ls, ∃ j : Nat, j < ks.length ∧ x = (j : Int)) (short : ls.length ≤ ks.length) : KindsOk (ls.map fun x => ks.getD x.toNat Str.empty) := by
  have k12 := ok.2.1
  refine ⟨?_, ?_, fun z hz => ?_, fun i a b ha hb => ?_⟩
  · rw [List.length_map]
    exact List.length_pos_iff.mpr ne
  · rw [List.length_map]
    omega
  · obtain ⟨c, hc, rfl⟩ := List.mem_map.mp hz
    obtain ⟨j, hj, rfl⟩ := low c hc
    exact ok.2.2.1 _ (List.mem_of_getElem? (nameD_at (j := j) hj))
  · rw [List.getElem?_map] at ha hb
    obtain ⟨c, ec, rfl⟩ := Option.map_eq_some_iff.mp ha
    obtain ⟨d, ed, rfl⟩ := Option.map_eq_some_iff.mp hb
    obtain ⟨i1, e1⟩ := List.getElem?_eq_some_iff.mp ec
    obtain ⟨i2, e2⟩ := List.getElem?_eq_some_iff.mp ed
    have lt := List.pairwise_iff_getElem.mp asc i (i + 1) i1 i2 (by omega)
    rw [e1, e2] at lt
    obtain ⟨j, hj, rfl⟩ := low c (List.mem_of_getElem? ec)
    obtain ⟨k, hk, rfl⟩ := low d (List.mem_of_getElem? ed)
    have jk : j < k := by omega
    exact asc_far ok.2.2.2 (k - j - 1) j _ _ (nameD_at (j := j) hj) (by
      have e3 : j + (k - j - 1) + 1 = k := by omega
      rw [e3]
      exact nameD_at (j := k) hk)
theorem leftK_asc (os : List Int) (n : Nat) : (leftK os n).Pairwise (· < ·) := by
  unfold leftK
  refine List.pairwise_map.mpr ?_
  have h : (List.range n).Pairwise (· < ·) := List.pairwise_lt_range
  exact (List.Pairwise.filter _ h).imp fun z => by omega
theorem plc_mono {ls : List Int} (asc : ls.Pairwise (· < ·)) {x y : Int} (hx : x ∈ ls) (hy : y ∈ ls) (lt : x < y) : plc ls x < plc ls y := by
  unfold plc
  have ix := List.idxOf_lt_length_iff.mpr hx
  have iy := List.idxOf_lt_length_iff.mpr hy
  have ex : ls[ls.idxOf x] = x := List.getElem_idxOf ix
  have ey : ls[ls.idxOf y] = y := List.getElem_idxOf iy
  rcases Nat.lt_trichotomy (ls.idxOf x) (ls.idxOf y) with h | h | h
  · omega
  · exfalso
    have : x = y := by
      rw [← ex, ← ey]
      congr 1
    omega
  · exfalso
    have := List.pairwise_iff_getElem.mp asc _ _ iy ix h
    rw [ex, ey] at this
    omega
theorem pw_of_asc : ∀ {l : List Int}, Asc l → l.Pairwise (· < ·)
  | [], _ => List.Pairwise.nil
  | [a], _ => List.pairwise_singleton _ _
  | a :: b :: r, h => by
    have h : a < b ∧ Asc (b :: r) := h
    have ih := pw_of_asc h.2
    refine List.Pairwise.cons (fun z hz => ?_) ih
    rcases List.mem_cons.mp hz with e | m
    · rw [e]
      exact h.1
    · have := (List.pairwise_cons.mp ih).1 z m
      omega
theorem newT_lot {ls c : List Int} {n : Int} (asc : ls.Pairwise (· < ·)) (h : LotOk n c) : LotOk (ls.length : Int) (newT ls c) := by
  refine ⟨?_, fun x hx => ?_, asc_pw ?_⟩
  · have := newT_len ls c c.length
    rw [List.take_length] at this
    have := h.1
    omega
  · obtain ⟨y, hy, rfl⟩ := List.mem_map.mp hx
    have m : y ∈ ls := List.contains_iff_mem.mp (List.mem_filter.mp hy).2
    have := List.idxOf_lt_length_iff.mpr m
    unfold plc
    omega
  · unfold newT
    refine List.pairwise_map.mpr (List.Pairwise.imp_of_mem (fun {a b} ha hb lt => ?_) ((pw_of_asc h.2.2).filter _))
    exact plc_mono asc (List.contains_iff_mem.mp (List.mem_filter.mp ha).2) (List.contains_iff_mem.mp (List.mem_filter.mp hb).2) lt
/-- a table without some kinds can be -/
theorem less_ok {ks : List Str} {ts : List (List Int)} {os : List Int} (ok : TabOk ks ts) (ne : leftK os ks.length ≠ []) :
    TabOk ((leftK os ks.length).map fun x => ks.getD x.toNat Str.empty) (ts.map (newT (leftK os ks.length))) := by
  have asc := leftK_asc os ks.length
  refine ⟨names_of ok.kinds ne asc (fun x hx => leftK_mem hx) (leftK_len os ks.length), by rw [List.length_map]; exact ok.len, fun l hl => ?_⟩
  obtain ⟨c, hc, rfl⟩ := List.mem_map.mp hl
  rw [List.length_map]
  exact newT_lot asc (ok.lots c hc)
end CK
namespace TU
open PySem PyProof.Rows
/-- the order of tuples of integers -/
def lexI : List Int → List Int → Bool
  | [], [] => false
  | [], _ :: _ => true
  | _ :: _, [] => false
  | x :: xs, y :: ys => if x = y then lexI xs ys else decide (x < y)
theorem lexI_asym : ∀ (a b : List Int), lexI a b = true → lexI b a = false
  | [], [], h => by cases h
  | [], _ :: _, _ => rfl
  | _ :: _, [], h => by cases h
  | x :: xs, y :: ys, h => by
    show (if y = x then lexI ys xs else decide (y < x)) = false
    have h : (if x = y then lexI xs ys else decide (x < y)) = true := h
    by_cases e : x = y
    · rw [if_pos e] at h
      rw [if_pos e.symm]
      exact lexI_asym xs ys h
    · rw [if_neg e] at h
      rw [if_neg (Ne.symm e)]
      have := of_decide_eq_true h
      exact decide_eq_false (by omega)
theorem lexI_tr : ∀ (a b c : List Int), lexI b a = false → lexI c b = false → lexI c a = false
  | [], _, [], _, _ => rfl
  | [], [], _ :: _, _, h => by first | exact h | rfl
  | [], _ :: _, _ :: _, _, _ => rfl
  | _ :: _, [], _, h, _ => by cases h
  | _ :: _, _ :: _, [], _, h => by cases h
  | x :: xs, y :: ys, z :: zs, h1, h2 => by
    have h1 : (if y = x then lexI ys xs else decide (y < x)) = false := h1
    have h2 : (if z = y then lexI zs ys else decide (z < y)) = false := h2
    show (if z = x then lexI zs xs else decide (z < x)) = false
    by_cases e1 : y = x
    · rw [if_pos e1] at h1
      by_cases e2 : z = y
      · rw [if_pos e2] at h2
        rw [if_pos (e2.trans e1)]
        exact lexI_tr xs ys zs h1 h2
      · rw [if_neg e2] at h2
        rw [if_neg (by rw [← e1]; exact e2), ← e1]
        exact h2
    · rw [if_neg e1] at h1
      have := of_decide_eq_false h1
      by_cases e2 : z = y
      · rw [if_neg (by rw [e2]; exact e1), e2]
        exact h1
      · rw [if_neg e2] at h2
        have := of_decide_eq_false h2
        rw [if_neg (by omega)]
        exact decide_eq_false (by omega)
theorem lexI_total : ∀ (a b : List Int), lexI a b = false → lexI b a = false → a = b
  | [], [], _, _ => rfl
  | [], _ :: _, h, _ => by cases h
  | _ :: _, [], _, h => by cases h
  | x :: xs, y :: ys, h1, h2 => by
    have h1 : (if x = y then lexI xs ys else decide (x < y)) = false := h1
    have h2 : (if y = x then lexI ys xs else decide (y < x)) = false := h2
    by_cases e : x = y
    · rw [if_pos e] at h1
      rw [if_pos e.symm] at h2
      rw [e, lexI_total xs ys h1 h2]
    · rw [if_neg e] at h1
      rw [if_neg (Ne.symm e)] at h2
      have := of_decide_eq_false h1
      have := of_decide_eq_false h2
      omega
theorem swo (k : Value → List Int) : SrtO.Swo fun v u => lexI (k v) (k u) := ⟨fun x y h => lexI_asym _ _ h, fun x y z h1 h2 => lexI_tr _ _ _ h1 h2⟩
/-- as the model walks: from place i on, k places left -/
theorem lexI_at : ∀ (xs ys pre pre2 : List Int), pre.length = pre2.length → Ob.lexAt (fun j => decide ((pre ++ xs).getD j 0 = (pre2 ++ ys).getD j 0)) (fun j => decide ((pre ++ xs).getD j 0 < (pre2 ++ ys).getD j 0)) (decide (xs.length < ys.length)) pre.length (min xs.length ys.length) = lexI xs ys
  | [], [], _, _, _ => rfl
  | [], _ :: ys, _, _, _ => by
    show Ob.lexAt _ _ (decide (0 < ys.length + 1)) _ (min 0 (ys.length + 1)) = true
    rw [Nat.zero_min]
    exact decide_eq_true (Nat.succ_pos _)
  | _ :: xs, [], _, _, _ => by
    show Ob.lexAt _ _ (decide (xs.length + 1 < 0)) _ (min (xs.length + 1) 0) = false
    rw [Nat.min_zero]
    exact decide_eq_false (Nat.not_lt_zero _)
  | x :: xs, y :: ys, pre, pre2, hl => by
    have e1 : (pre ++ x :: xs).getD pre.length 0 = x := by simp [List.getD_eq_getElem?_getD]
    have e2 : (pre2 ++ y :: ys).getD pre.length 0 = y := by rw [hl]; simp [List.getD_eq_getElem?_getD]
    show Ob.lexAt _ _ (decide (xs.length + 1 < ys.length + 1)) pre.length (min (xs.length + 1) (ys.length + 1)) = if x = y then lexI xs ys else decide (x < y)
    rw [show min (xs.length + 1) (ys.length + 1) = min xs.length ys.length + 1 by omega, Ob.lexAt_succ]
    simp only [e1, e2, decide_eq_true_eq]
    by_cases e : x = y
    · rw [if_pos e, if_pos e]
      have ih := lexI_at xs ys (pre ++ [x]) (pre2 ++ [y]) (by rw [List.length_append, List.length_append, hl]; rfl)
      rw [List.append_assoc, List.append_assoc, List.length_append] at ih
      rw [show decide (xs.length + 1 < ys.length + 1) = decide (xs.length < ys.length) from decide_eq_decide.mpr (by omega)]
      exact ih
    · rw [if_neg e, if_neg e]
theorem lexI_0 (xs ys : List Int) : Ob.lexAt (fun j => decide (xs.getD j 0 = ys.getD j 0)) (fun j => decide (xs.getD j 0 < ys.getD j 0)) (decide (xs.length < ys.length)) 0 (min xs.length ys.length) = lexI xs ys := lexI_at xs ys [] [] rfl
section
variable {prog : Program} {w : World} {A : Around} {E : Value → Shared → Prop} {s : Shared} {Q : Bool → Shared → Prop}
theorem lex_walk {b fin : Bool} {xs ys : List Value} {ns ms : List Int} (i : Nat) (hx : IntsAre xs ns) (hy : IntsAre ys ms) (hf : fin = decide (ns.length < ms.length)) (h : Q (lexI ns ms) s) : PySem.W.KatLex prog w A b fin Q (xs.zip ys) i s := by
  induction hx generalizing ys ms i with
  | nil =>
    cases hy with
    | nil =>
      have e : fin = false := by rw [hf]; rfl
      rw [e]
      exact PySem.W.kat_nil h
    | cons q u hy =>
      have e : fin = true := by rw [hf]; exact decide_eq_true (Nat.succ_pos _)
      rw [e]
      exact PySem.W.kat_nil h
  | @cons p t xs ns hx ih =>
    cases hy with
    | nil =>
      have e : fin = false := by rw [hf]; exact decide_eq_false (Nat.not_lt_zero _)
      rw [e]
      exact PySem.W.kat_nil h
    | @cons q u ys ms hy =>
      have hf' : fin = decide (ns.length < ms.length) := by
        rw [hf]
        exact decide_eq_decide.mpr (by rw [List.length_cons, List.length_cons]; omega)
      replace h : Q (if p = q then lexI ns ms else decide (p < q)) s := h
      show PySem.W.KatLex prog w A b fin Q ((Value.int p t, Value.int q u) :: xs.zip ys) i s
      refine PySem.W.kat_cons (wpAny_eqBool_int ?_)
      by_cases e : p = q
      · rw [if_pos e] at h
        subst e
        rw [beq_self_eq_true]
        refine PySem.W.kat_yes ?_
        exact ih (i + 1) hy hf' h
      · rw [if_neg e] at h
        rw [show (p == q) = false from beq_eq_false_iff_ne.mpr e]
        exact PySem.W.kat_no (TS.oneLt_ints _ h)
end
section
variable {prog : Program} {w : World} {A : Around} {E : Value → Shared → Prop} {s : Shared}
/-- two tuples, by < -/
theorem rc_lt {a b : Addr} {xs ys : Array Value} {ns ms : List Int} (ha : IsTup s.heap a xs) (hb : IsTup s.heap b ys) (i1 : IntsAre xs.toList ns) (i2 : IntsAre ys.toList ms) (hu : A.units < cLine) : Ob.RcOp .Lt A s (.ref a) (.ref b) (lexI ns ms) := by
  have e1 : xs.size = ns.length := by rw [← i1.length, Array.length_toList]
  have e2 : ys.size = ms.length := by rw [← i2.length, Array.length_toList]
  have at1 : ∀ j (h1 : j < xs.size), ∃ t, xs[j] = .int (ns.getD j 0) t := fun j h1 => PyProof.Rows.IntsAre.int_at i1 _ _ (by simp [h1])
  have at2 : ∀ j (h1 : j < ys.size), ∃ t, ys[j] = .int (ms.getD j 0) t := fun j h1 => PyProof.Rows.IntsAre.int_at i2 _ _ (by simp [h1])
  have R := Ob.RcOp.tuples_lt (A := A) (s := s) (e := fun j => decide (ns.getD j 0 = ms.getD j 0)) (r := fun j => decide (ns.getD j 0 < ms.getD j 0)) ha hb hu (fun j h1 h2 => by
    obtain ⟨t, et⟩ := at1 j h1
    obtain ⟨t', et'⟩ := at2 j h2
    rw [et, et']
    have z : (ns.getD j 0 == ms.getD j 0) = decide (ns.getD j 0 = ms.getD j 0) := by
      by_cases q : ns.getD j 0 = ms.getD j 0
      · rw [decide_eq_true q]; exact beq_iff_eq.mpr q
      · rw [decide_eq_false q]; exact beq_eq_false_iff_ne.mpr q
    rw [← z]
    exact SeqAt.EqAt.int_int _ _ _ _) (fun j h1 h2 _ => by
    obtain ⟨t, et⟩ := at1 j h1
    obtain ⟨t', et'⟩ := at2 j h2
    rw [et, et']
    exact Ob.RcOp.lt_int _ _ _ _)
  rw [e1, e2, lexI_0] at R
  exact R
/-- two tuples, as a sort of values of one type asks -/
theorem one_lt {a b : Addr} {xs ys : Array Value} {ns ms : List Int} {Q : Bool → Shared → Prop} (ha : IsTup s.heap a xs) (hb : IsTup s.heap b ys) (i1 : IntsAre xs.toList ns) (i2 : IntsAre ys.toList ms) (hu : A.units < cLine) (h : Q (lexI ns ms) s) (f : Bool) :
    wpAny (model prog w) A (oneLt' f (.ref a) (.ref b)) Q E s := by
  have e1 : xs.size = ns.length := by rw [← i1.length, Array.length_toList]
  have e2 : ys.size = ms.length := by rw [← i2.length, Array.length_toList]
  cases f with
  | false =>
    rw [oneLt'_eq]
    simp only [Bool.false_eq_true, if_false]
    exact wpAny_bind (rc_lt ha hb i1 i2 hu prog w E _ (wpAny_truthy_bool h))
  | true =>
    have at1 : ∀ j (h1 : j < xs.size), ∃ t, xs[j] = .int (ns.getD j 0) t := fun j h1 => PyProof.Rows.IntsAre.int_at i1 _ _ (by simp [h1])
    have at2 : ∀ j (h1 : j < ys.size), ∃ t, ys[j] = .int (ms.getD j 0) t := fun j h1 => PyProof.Rows.IntsAre.int_at i2 _ _ (by simp [h1])
    obtain ⟨⟨cls, dd, data, sl⟩, ho, hc, n, hd⟩ := id ha
    obtain ⟨⟨cls2, dd2, data2, sl2⟩, ho2, hc2, n2, hd2⟩ := id hb
    simp only at hc hd hc2 hd2
    subst hc hd hc2 hd2
    rw [oneLt'_eq]
    simp only [if_true]
    refine wpAny_bind (wpAny_cRoomFor hu ?_)
    refine wpAny_bind (wpAny_callSpecialIfBound?_slot (T := "tuple") ⟨_, ho, rfl⟩ F.slot_tuple_lt (call_meets F.slot_tuple_lt ⟨_, ho, rfl⟩ F.entry_tuple_lt (F.args_tuple_lt_2 _ _)
      (Ob.tuple_ltAt a b xs ys n n2 dd dd2 sl sl2 (fun j => decide (ns.getD j 0 = ms.getD j 0)) (fun j => decide (ns.getD j 0 < ms.getD j 0))) ⟨ho, ho2, fun j h1 h2 => ?_, fun j h1 h2 _ => ?_, ?_⟩))
    · obtain ⟨t, et⟩ := at1 j h1
      obtain ⟨t', et'⟩ := at2 j h2
      rw [et, et']
      have z : (ns.getD j 0 == ms.getD j 0) = decide (ns.getD j 0 = ms.getD j 0) := by
        by_cases q : ns.getD j 0 = ms.getD j 0
        · rw [decide_eq_true q]; exact beq_iff_eq.mpr q
        · rw [decide_eq_false q]; exact beq_eq_false_iff_ne.mpr q
      rw [← z]
      exact SeqAt.EqAt.int_int _ _ _ _
    · obtain ⟨t, et⟩ := at1 j h1
      obtain ⟨t', et'⟩ := at2 j h2
      rw [et, et']
      exact Ob.RcOp.lt_int _ _ _ _
    · rw [e1, e2, lexI_0]
      exact wpAny_truthy_bool h
/-- what is sorted: tuples of integers -/
def AllT (h : Heap) (vs : List Value) : Prop := ∀ v ∈ vs, ∃ ns, TS.TupInts h v ns
theorem AllT.keeps {h h' : Heap} {vs : List Value} (x : AllT h vs) (k : ∀ b o, h.get? b = some o → o.cls = .type "tuple" → h'.get? b = some o) : AllT h' vs := fun v hv =>
  let ⟨ns, t⟩ := x v hv; ⟨ns, t.keeps k⟩
/-- the first items -/
theorem firsts : ∀ (vs : List Value), AllT s.heap vs → ∃ fs : List (Option Value), fs.length = vs.length ∧ (∀ f, some f ∈ fs → ∃ n t, f = Value.int n t) ∧
    (∀ (Q : List (Option Value) → Shared → Prop) (E : Value → Shared → Prop), Q fs s → wpAny (model prog w) A (vs.mapM firstOfTuple') Q E s) ∧
    ((∀ f ∈ fs, f ≠ none) → ∃ gs, fs = gs.map some ∧ PySem.W.KatTups s.heap vs gs)
  | [], _ => by
    refine ⟨[], rfl, ?_, ?_, ?_⟩
    · intro f h
      cases h
    · intro Q E h
      rw [List.mapM_nil]
      exact wpAny_pure h
    · intro _
      exact ⟨[], rfl, PySem.W.KatTups.nil⟩
  | v :: vs, x => by
    obtain ⟨fs, l1, l2, l3, l4⟩ := firsts vs fun u hu => x u (List.mem_cons_of_mem _ hu)
    obtain ⟨ns, ⟨a, xs, rfl, ⟨o, ho, hc, n, hd⟩, i⟩⟩ := x v List.mem_cons_self
    refine ⟨xs[0]? :: fs, by rw [List.length_cons, l1, List.length_cons], fun f hf => ?_, fun Q E h => ?_, fun hn => ?_⟩
    · rcases List.mem_cons.mp hf with e | hf
      · have : f ∈ xs.toList := by
          have e2 : xs.toList[0]? = some f := by simpa using e.symm
          exact List.mem_of_getElem? e2
        exact i.all f this
      · exact l2 f hf
    · rw [List.mapM_cons]
      refine wpAny_bind ?_
      rw [PySem.W.kas_first_eq]
      refine wpAny_bind (PySem.W.Looks.here (show PySem.W.Looks (model prog w) s.heap (typeOf (.ref a)) o.cls from (PySem.W.Looks.ld ho).andThen .now) ?_)
      rw [hc, if_neg (by first | decide | simp)]
      refine wpAny_bind (listItems_at ho hd (wpAny_pure ?_))
      exact wpAny_bind (l3 (fun bs s' => wpAny (model prog w) A (pure (xs[0]? :: bs)) Q E s') E (wpAny_pure h))
    · obtain ⟨gs, e, k⟩ := l4 fun f hf => hn f (List.mem_cons_of_mem _ hf)
      have h0 := hn _ List.mem_cons_self
      cases q : xs[0]? with
      | none => exact absurd q h0
      | some g => exact ⟨g :: gs, by rw [e]; rfl, PySem.W.KatTups.cons ho hc hd q k⟩
/-- all are tuples -/
theorem types : ∀ (vs : List Value), AllT s.heap vs → ∀ Q : List Value → Shared → Prop, Q (vs.map fun _ => Value.type "tuple") s → wpAny (model prog w) A (vs.mapM typeOf) Q E s
  | [], _, Q, h => by rw [List.mapM_nil]; exact wpAny_pure h
  | v :: vs, x, Q, h => by
    obtain ⟨ns, ⟨a, xs, rfl, ⟨o, ho, hc, n, hd⟩, i⟩⟩ := x v List.mem_cons_self
    rw [List.mapM_cons]
    refine wpAny_bind (PySem.W.Looks.here (show PySem.W.Looks (model prog w) s.heap (typeOf (.ref a)) o.cls from (PySem.W.Looks.ld ho).andThen .now) ?_)
    rw [hc]
    exact wpAny_bind (types vs (fun u hu => x u (List.mem_cons_of_mem _ hu)) (fun bs s' => wpAny (model prog w) A (pure (Value.type "tuple" :: bs)) Q E s') (wpAny_pure h))
theorem cmp {vs : List Value} {k : Value → List Int} (κ : SortKind) (hκ : κ = general' ∨ κ = oneType' ∨ ∃ b, κ = tuples' b) (x : ∀ v ∈ vs, TS.TupInts s.heap v (k v)) (hu : A.units < cLine) : SrtO.Cmp prog w A s κ (fun p => p.1 ∈ vs) (SrtO.lt2 fun v u => lexI (k v) (k u)) := by
  intro p q hp hq
  have h1 := x _ hp
  have h2 := x _ hq
  show wpAny (model prog w) A (keyLt' κ p.1 q.1) (fun r s' => s' = s ∧ r = lexI (k p.1) (k q.1)) (fun _ _ => False) s
  obtain ⟨a, xs, e1, ha, i1⟩ := h1
  obtain ⟨b, ys, e2, hb, i2⟩ := h2
  rw [e1, e2]
  rw [e1] at i1
  rw [e2] at i2
  rcases hκ with rfl | rfl | ⟨c, rfl⟩
  · exact one_lt (Q := fun r s' => s' = s ∧ r = lexI (k (.ref a)) (k (.ref b))) ha hb i1 i2 hu ⟨rfl, rfl⟩ false
  · exact one_lt (Q := fun r s' => s' = s ∧ r = lexI (k (.ref a)) (k (.ref b))) ha hb i1 i2 hu ⟨rfl, rfl⟩ true
  · obtain ⟨o, ho, hc, n, hd⟩ := ha
    obtain ⟨o', ho', hc', n', hd'⟩ := hb
    refine PySem.W.kat_lt ho hd ho' hd' ?_
    refine lex_walk 0 i1 i2 ?_ ⟨rfl, rfl⟩
    rw [← i1.length, ← i2.length, Array.length_toList, Array.length_toList]
theorem sortable {a : Addr} {vs : List Value} {k : Value → List Int} (h2 : 2 ≤ vs.length) (x : ∀ v ∈ vs, TS.TupInts s.heap v (k v)) (ha : ∀ o, s.heap.get? a = some o → o.cls ≠ .type "tuple") (hu : A.units < cLine) : SrtO.SortableO prog w A s a vs fun v u => lexI (k v) (k u) := by
  intro h' keep
  have x' : ∀ v ∈ vs, TS.TupInts h' v (k v) := fun v hv => (x v hv).keeps fun b o e c => keep b o (fun z => by subst z; exact ha o e c) e
  have al : AllT h' vs := fun v hv => ⟨_, x' v hv⟩
  obtain ⟨fs, l1, l2, l3, l4⟩ := firsts (prog := prog) (w := w) (A := A) (s := { s with heap := h' }) vs al
  by_cases hn : ∀ f ∈ fs, f ≠ none
  · obtain ⟨gs, e, kt⟩ := l4 hn
    refine ⟨tuples' (Value.type "int" != Value.type "tuple"), fun Q E hq => ?_, cmp _ (.inr (.inr ⟨_, rfl⟩)) x' hu⟩
    refine PySem.W.kat_kind (T := Value.type "int") kt ?_ (fun f hf => ?_) rfl hq
    · have : gs.length = fs.length := by rw [e, List.length_map]
      omega
    · obtain ⟨n, t, rfl⟩ := l2 f (by rw [e]; exact List.mem_map.mpr ⟨f, hf, rfl⟩)
      exact PySem.W.Looks.of_pure rfl
  · have hall : (fs.toArray.all fun x => x.isSome) = false := by
      cases q : fs.toArray.all fun x => x.isSome with
      | false => rfl
      | true =>
        refine absurd (fun f hf => ?_) hn
        have q2 : fs.all (fun x => x.isSome) = true := by simpa using q
        have := List.all_eq_true.mp q2 f hf
        intro z
        rw [z] at this
        cases this
    have kk : ∀ (c : Bool), ((fs.toArray[0]?.bind id).isSome = c) → ∀ (Q : SortKind → Shared → Prop) (E : Value → Shared → Prop), Q (if c = true then general' else oneType') { s with heap := h' } → wpAny (model prog w) A (keyKind' vs.toArray) Q E { s with heap := h' } := by
      intro c hc Q E hq
      rw [keyKind'_eq, List.mapM_toArray, map_eq_pure_bind]
      refine wpAny_bind (wpAny_bind (l3 _ E (wpAny_pure ?_)))
      rw [if_neg (by rw [hall]; exact Bool.false_ne_true)]
      cases c with
      | true =>
        rw [if_pos hc]
        exact wpAny_pure hq
      | false =>
        rw [if_neg (by rw [hc]; exact Bool.false_ne_true)]
        rw [oneTypeOnly'_eq, List.mapM_toArray, map_eq_pure_bind]
        refine wpAny_bind (wpAny_bind (wpAny_bind (types vs al _ (wpAny_pure ?_))))
        have hall2 : ((List.map (fun _ => Value.type "tuple") vs).toArray.all fun x => x == Value.type "tuple") = true := by
          simp only [List.all_toArray, List.all_map, List.all_eq_true]
          intro _ _
          rfl
        have h0 : (List.map (fun _ => Value.type "tuple") vs).toArray[0]? = some (Value.type "tuple") := by
          cases vs with
          | nil => exact absurd h2 (by show ¬ 2 ≤ 0; decide)
          | cons _ _ => simp
        rw [h0]
        simp only [hall2, if_true]
        exact wpAny_pure (wpAny_pure hq)
    cases hc : (fs.toArray[0]?.bind id).isSome with
    | true => exact ⟨general', kk true hc, cmp _ (.inl rfl) x' hu⟩
    | false => exact ⟨oneType', kk false hc, cmp _ (.inr (.inl rfl)) x' hu⟩
end
end TU
namespace L2
open PySem PySem.Spec PyProof.Rows
theorem ord_rows {L : List (Addr × List Int)} : ∀ vs : List Value, (∀ v ∈ vs, ∃ q ∈ L, v = Value.ref q.1) → ∃ L1 : List (Addr × List Int), vs = L1.map (fun q => Value.ref q.1) ∧ ∀ q ∈ L1, q ∈ L
  | [], _ => ⟨[], rfl, fun q hq => by cases hq⟩
  | v :: vs, hv => by
    obtain ⟨q, hq, e⟩ := hv v List.mem_cons_self
    obtain ⟨L1, e1, hs⟩ := ord_rows vs fun u hu => hv u (List.mem_cons_of_mem _ hu)
    refine ⟨q :: L1, by rw [List.map_cons, e, e1], fun r hr => ?_⟩
    rcases List.mem_cons.mp hr with z | z
    · rw [z]; exact hq
    · exact hs r z
theorem sorted_setU {P : Program} {w : World} {A : Around} {E : Value → Shared → Prop} {s : Shared} {a : Addr} {L : List (Addr × List Int)} {es : Array (Int × Value)} {ep : Nat} {t : SetTable} {Q : Value → Shared → Prop} (R : SetTR P w s.heap a L es ep t) (hh : A.handled = none) (hu : A.units + 20 < cLine)
    (hQ : ∀ s' p (out : Array Value) (c : Nat) (L' : List (Addr × List Int)), (∀ b o, s.heap.get? b = some o → s'.heap.get? b = some o) → s'.gens = s.gens → s'.os = s.os → s.heap.objs.size ≤ p →
      s'.heap.get? p = some (seqObj "list" out c) → out.toList = L'.map (fun q => Value.ref q.1) → L'.Perm L → L'.Pairwise (fun q r => TU.lexI r.2 q.2 = false) → Q (.ref p) s') :
    wpAny (model P w) A (call (.builtin "sorted") [.ref a]) Q E s := by
  obtain ⟨o, ho, hex, hd⟩ := R.ob
  have hsz := R.size
  have hfew := R.few
  refine Calls.call_function_entry kind_sorted plain_sorted entry_sorted (args_sorted1 _) ?_
  unfold Builtin.«sorted»
  refine wpAny_bind (m := checkCount "sorted" 1 1 _) (wpAny_pure ?_)
  refine wpAny_bind (collect_set (A := A.in1) hh ⟨o, ho, hex.1, hd⟩ R.fits (by unfold scanBound; omega) R.tab.ris R.led fun s1 vs k1 hz g1 o1 pm => ?_)
  have hes : es.toList.map (·.2) = L.map fun q => Value.ref q.1 := by
    rw [R.rows]
    unfold rowsOf
    rw [List.map_map] <;> rfl
  rw [hes] at pm
  have one : ∀ q ∈ L, ∀ r ∈ L, q.1 = r.1 → q = r := fun q hq r hr e => by
    have a1 := R.tup q hq
    have a2 := R.tup r hr
    rw [e] at a1
    have e2 : q.2 = r.2 := a1.inj a2
    exact Prod.ext e e2
  have perm_of : ∀ L1 : List (Addr × List Int), (∀ q ∈ L1, q ∈ L) → (L1.map (fun q => Value.ref q.1)).Perm (L.map fun q => Value.ref q.1) → L1.Perm L := by
    intro L1 hs pm1
    have nL : L.Nodup := nodup_of_map R.nd
    have nref : (L.map fun q => Value.ref q.1).Nodup := by
      refine List.pairwise_map.mpr (List.Pairwise.imp_of_mem (fun {q r} hq hr hne e => ?_) nL)
      injection e with e
      exact hne (one q hq r hr e)
    have n1 : L1.Nodup := nodup_of_map (pm1.nodup_iff.mpr nref)
    refine (List.perm_ext_iff_of_nodup n1 nL).mpr fun q => ⟨hs q, fun hq => ?_⟩
    have hm : Value.ref q.1 ∈ L1.map (fun q => Value.ref q.1) := pm1.mem_iff.mpr (List.mem_map.mpr ⟨q, hq, rfl⟩)
    obtain ⟨r, hr, e⟩ := List.mem_map.mp hm
    injection e with e
    rw [← one r (hs r hr) q hq e]
    exact hr
  have hvl : vs.length < 64 := by rw [pm.length_eq, List.length_map]; exact hfew
  refine wpAny_bind (wpAny_newList ?_ (by rw [sizeLine_eq]; omega))
  have hoL : (s1.heap.push (seqObj "list" vs.toArray 0)).get? s1.heap.objs.size = some (seqObj "list" vs.toArray 0) := Heap.get?_push_size _ rfl
  have tk : ∀ q ∈ L, TS.TupInts (s1.heap.push (seqObj "list" vs.toArray 0)) (.ref q.1) q.2 := fun q hq => tupInts_of (P := P) (w := w) (isT_keep (R.tup q hq) fun b u e => Heap.get?_push_of_some _ (k1 b u e))
  have x : ∀ v ∈ vs, TS.TupInts (s1.heap.push (seqObj "list" vs.toArray 0)) v (TS.intsOf (s1.heap.push (seqObj "list" vs.toArray 0)) v) := fun v hv => by
    obtain ⟨q, hq, e⟩ := List.mem_map.mp (pm.mem_iff.mp hv)
    have := tk q hq
    rw [← e, this.ints]
    exact this
  have notTup : ∀ (h' : Heap) o', h'.get? s1.heap.objs.size = some (seqObj "list" vs.toArray 0) → h'.get? s1.heap.objs.size = some o' → o'.cls ≠ .type "tuple" := fun h' o' z e c => by
    rw [z] at e
    have e' : seqObj "list" vs.toArray 0 = o' := Option.some.inj e
    rw [← e'] at c
    have c' : Value.type "list" = Value.type "tuple" := c
    injection c' with c''
    exact absurd c'' (by decide)
  refine wpAny_bind (wpAny_holding (wpAny_call_entry slot_list_sort ⟨_, hoL, rfl⟩ entry_list_sort (SrtO.list_sort_ord (s := { s1 with heap := s1.heap.push (seqObj "list" vs.toArray 0) }) (ltv := fun v u => TU.lexI (TS.intsOf (s1.heap.push (seqObj "list" vs.toArray 0)) v) (TS.intsOf (s1.heap.push (seqObj "list" vs.toArray 0)) u))
    (TU.swo _) hoL (by rw [sizeLine_eq]; omega) (fun h2 => TU.sortable h2 x (fun o' e => notTup _ o' hoL e) (by simp only [PyProof.Rows.units_in1]; omega)) fun out a2 a1 => ⟨_, rfl, ?_⟩) (args_list_sort _)))
  obtain ⟨c, hc⟩ := sortedHeap_at (vs := vs) (out := out.toArray) hoL
  have pmo : out.Perm vs := a1.perm
  obtain ⟨L', e', hs'⟩ := ord_rows (L := L) out fun v hv => by
    obtain ⟨q, hq, e⟩ := List.mem_map.mp (pm.mem_iff.mp (pmo.mem_iff.mp hv))
    exact ⟨q, hq, e.symm⟩
  have pL : L'.Perm L := perm_of L' hs' (by rw [← e']; exact pmo.trans pm)
  have pw : L'.Pairwise (fun q r => TU.lexI r.2 q.2 = false) := by
    rw [e'] at a2
    refine List.Pairwise.imp_of_mem (fun {q r} hq hr hle => ?_) (List.pairwise_map.mp a2)
    have f1 : TS.intsOf (s1.heap.push (seqObj "list" vs.toArray 0)) (.ref q.1) = q.2 := (tk q (hs' q hq)).ints
    have f2 : TS.intsOf (s1.heap.push (seqObj "list" vs.toArray 0)) (.ref r.1) = r.2 := (tk r (hs' r hr)).ints
    rw [← f1, ← f2]
    exact hle
  refine wpAny_pure ⟨_, rfl, hQ _ s1.heap.objs.size out.toArray c L' (fun b u e => ?_) g1 o1 hz hc (by simpa using e') pL pw⟩
  have q := k1 b u e
  have hlt := Heap.lt_size q
  show (sortedHeap (s1.heap.push (seqObj "list" vs.toArray 0)) s1.heap.objs.size vs out.toArray).get? b = some u
  rw [sortedHeap_old (Nat.ne_of_lt hlt) (by rw [size_push']; exact Nat.lt_succ_of_lt hlt)]
  exact Heap.get?_push_of_some _ q
section
variable {X : Cx}
/-- sorted(set of tuples of integers) -/
def rSortedU (K : PySem.W.Frag) (P : Program) (w : World) : List V → Hp → VK → Prop := fun vs H Q => ∃ (a : Addr) (L : List (Addr × List Int)), vs = [V.ref a] ∧ H a = some (SetTO P w a L) ∧ (∀ p ∈ L, SqT K H p.1 (p.2.map V.int)) ∧
  ∀ (L' : List (Addr × List Int)) (p : Addr), L'.Perm L → (L'.map (·.2)).Nodup → L'.length < 64 → L'.Pairwise (fun q r => TU.lexI r.2 q.2 = false) → H p = none → Q (.ref p) (upd H p (.lst (L'.map fun q => V.ref q.1)))
theorem cr_sortedU (hc : X.calm = true) (hu : X.A.units + 20 < cLine) : CallR X (.builtin "sorted") (rSortedU X.K X.prog X.w) := by
  intro pins s σ H vs us Q I r h
  obtain ⟨a, L, rfl, ha, hk, q⟩ := h
  have R0 : SetT0 X.prog X.w s.heap a L := (I.hok a _ ha).1
  obtain ⟨es, ep, t, R⟩ := R0.full fun p hp => I.isT (hk p hp)
  rw [Vals.ref1 r]
  refine sorted_setU R (I.ok.hd hc) hu fun s' p out c L' k g o hp hg hout pm pw => ?_
  have hfew : L'.length < 64 := by rw [pm.length_eq]; exact R.few
  have hlen : (L'.map fun q => V.ref q.1).length ≤ sizeLine := by rw [List.length_map, sizeLine_eq]; omega
  have hn : H p = none := I.hok.fresh hp
  have hv : Vals (L'.map fun q => V.ref q.1) out.toList := by rw [hout]; exact vals_of_refs L'
  have J : Inv X pins σ (upd H p (.lst (L'.map fun q => V.ref q.1))) { s with heap := s'.heap, gens := s'.gens, drawn := s'.drawn, toks := s'.toks } :=
    I.call (ch := []) (Un.laid k hp hn) (I.hok.laid k hp ⟨hlen, out.toList, c, hv, hg⟩) (by rw [g]; exact I.bare) (fun _ z => nomatch z)
  have e : s' = { s with heap := s'.heap, gens := s'.gens, drawn := s'.drawn, toks := s'.toks } := by
    cases s'
    cases s
    cases o
    rfl
  rw [e]
  exact ⟨.ref p, _, J, rfl, q L' p pm ((pm.map (·.2)).nodup_iff.mpr R.nd) hfew pw hn⟩
end
end L2
namespace CK
open PySem PySem.Spec PyProof.Rows L2 VG FR HD
/-- ascending rows -/
def LexAsc (l : List (List Int)) : Prop := l.Pairwise fun a b => TU.lexI a b = true
theorem lexI_self (a : List Int) : TU.lexI a a = false := by
  cases h : TU.lexI a a with
  | false => rfl
  | true => exact absurd (TU.lexI_asym a a h) (by rw [h]; exact Bool.noConfusion)
theorem LexAsc.nodup {l : List (List Int)} (h : LexAsc l) : l.Nodup := List.Pairwise.imp (fun {a b} q e => by rw [e, lexI_self] at q; cases q) h
theorem lexAsc_of {l : List (List Int)} (nd : l.Nodup) (h : l.Pairwise fun a b => TU.lexI b a = false) : LexAsc l := by
  refine List.Pairwise.imp (fun {a b} q => ?_) (List.Pairwise.and h nd)
  obtain ⟨h1, h2⟩ := q
  cases e : TU.lexI a b with
  | true => rfl
  | false => exact absurd (TU.lexI_total a b e h1) h2
theorem LexAsc.first {a b : List Int} {l m : List (List Int)} (ha : LexAsc (a :: l)) (hb : LexAsc (b :: m)) (h : ∀ c, c ∈ a :: l ↔ c ∈ b :: m) : a = b := by
  have ha' := (List.pairwise_cons.mp ha).1
  have hb' := (List.pairwise_cons.mp hb).1
  rcases List.mem_cons.mp ((h a).mp List.mem_cons_self) with e | m1
  · exact e
  · rcases List.mem_cons.mp ((h b).mpr List.mem_cons_self) with e | m2
    · exact e.symm
    · have q := TU.lexI_asym _ _ (hb' a m1)
      rw [ha' b m2] at q
      cases q
theorem LexAsc.uniq : ∀ {l m : List (List Int)}, LexAsc l → LexAsc m → (∀ c, c ∈ l ↔ c ∈ m) → l = m
  | [], [], _, _, _ => rfl
  | [], b :: m, _, _, h => by have := (h b).mpr List.mem_cons_self; cases this
  | a :: l, [], _, _, h => by have := (h a).mp List.mem_cons_self; cases this
  | a :: l, b :: m, ha, hb, h => by
    have e := ha.first hb h
    subst e
    have n1 := (List.nodup_cons.mp ha.nodup).1
    have n2 := (List.nodup_cons.mp hb.nodup).1
    have h2 : ∀ c, c ∈ l ↔ c ∈ m := fun c => ⟨fun hc => by
      rcases List.mem_cons.mp ((h c).mp (List.mem_cons_of_mem _ hc)) with e | m1
      · rw [e] at hc; exact absurd hc n1
      · exact m1, fun hc => by
      rcases List.mem_cons.mp ((h c).mpr (List.mem_cons_of_mem _ hc)) with e | m1
      · rw [e] at hc; exact absurd hc n2
      · exact m1⟩
    rw [LexAsc.uniq (List.pairwise_cons.mp ha).2 (List.pairwise_cons.mp hb).2 h2]
/-- the rows of a core -/
def CoreR (ls os : List (List Int)) : Prop := LexAsc os ∧ ∀ c, c ∈ os ↔ c ∈ ls ∧ c ≠ []
theorem core_ok {ks : List Str} {ls os : List (List Int)} (ok : TabOk ks ls) (h : CoreR ls os) : TabOk ks os :=
  ⟨ok.kinds, by have := nodup_le os ls h.1.nodup fun x hx => ((h.2 x).mp hx).1; have := ok.len; omega, fun c hc => ok.lots c ((h.2 c).mp hc).1⟩
def spCore (K : PySem.W.Frag) (C R : Addr) : Sp := fun vs H Q E => ∃ (a : Addr) (ks : List Str) (ts : List (List Int)), vs = [.ref a] ∧ Tab K C H a ks ts ∧ TabOk ks ts ∧
  (classesL ts ks.length ≠ [] → ∀ ls os, ByCls ts ks.length ls → CoreR ls os → spTabNew K C H Q (clsN ks (classesL ts ks.length)) os) ∧
  (classesL ts ks.length = [] → ∀ H' x, Same H H' → H x = none → H' x = some (.xd [((("word" : String) : Str), .str (("kinds" : String) : Str))]) → E (.ref R) (some x) H')
theorem tots_refs {K : PySem.W.Frag} {H : Hp} : ∀ (ps : List (Addr × List Int)), (∀ p ∈ ps, SqT K H p.1 (p.2.map V.int)) → Tots K H (ps.map fun p => V.ref p.1) (ps.map (·.2))
  | [], _ => trivial
  | p :: ps, h => by
    have ih := tots_refs ps fun q hq => h q (List.mem_cons_of_mem _ hq)
    exact ⟨⟨p.1, rfl, h p List.mem_cons_self⟩, ih⟩
end CK
namespace VG
open PySem PySem.Spec PyProof.Rows L2
/-- the keys of some texts -/
def inS (ks : List Str) : Key → Bool := fun k => decide (∃ x ∈ ks, k = .inr x)
end VG
namespace PyProof.Rows
open PySem
end PyProof.Rows
namespace L2
open PySem PySem.Spec PyProof.Rows
end L2
namespace CK
open PySem PySem.Spec PyProof.Rows L2 VG FR HD
/-- totals by new numbers -/
structure RenR (ps : List Int) (ts rs : List (List Int)) : Prop where
  len : rs.length = ts.length
  rel : ∀ (j : Nat) c r, ts[j]? = some c → rs[j]? = some r → (∀ x : Int, x ∈ r ↔ ∃ k ∈ c, ps[k.toNat]? = some x) ∧ r.Pairwise (· < ·)
theorem ascI_uniq {a b : List Int} (ha : a.Pairwise (· < ·)) (hb : b.Pairwise (· < ·)) (h : ∀ x, x ∈ a ↔ x ∈ b) : a = b := by
  have na : a.Nodup := ha.imp fun z => by omega
  have nb : b.Nodup := hb.imp fun z => by omega
  exact List.Perm.eq_of_pairwise (le := fun a b : Int => a ≤ b) (fun a b _ _ h1 h2 => by omega) (ha.imp fun z => by omega) (hb.imp fun z => by omega) ((List.perm_ext_iff_of_nodup na nb).mpr h)
theorem RenR.uniq {ps : List Int} {ts rs qs : List (List Int)} (h1 : RenR ps ts rs) (h2 : RenR ps ts qs) : rs = qs := by
  refine List.ext_getElem? fun j => ?_
  by_cases lt : j < ts.length
  · have l1 := h1.len
    have l2 := h2.len
    have e1 : ts[j]? = some ts[j] := List.getElem?_eq_getElem lt
    have e2 : rs[j]? = some rs[j] := List.getElem?_eq_getElem (by omega)
    have e3 : qs[j]? = some qs[j] := List.getElem?_eq_getElem (by omega)
    obtain ⟨a1, a2⟩ := h1.rel j _ _ e1 e2
    obtain ⟨b1, b2⟩ := h2.rel j _ _ e1 e3
    rw [e2, e3, ascI_uniq a2 b2 fun x => (a1 x).trans (b1 x).symm]
  · have l1 := h1.len
    have l2 := h2.len
    rw [List.getElem?_eq_none (by omega), List.getElem?_eq_none (by omega)]
def strD : PyData → Str
  | .str z => z
  | _ => Str.empty
def strsD : PyData → List Str
  | .tuple ds => ds.map strD
  | _ => []
def renB (n : Nat) (d : PyData) : Bool := tupD n d && namesD d && decide (strsD d).Nodup
end CK
namespace CK
open PySem PySem.Spec PyProof.Rows L2 VG FR HD
theorem pk_head {f : Nat → List Int} {i a : Nat} {c : List Int} (h : (sgL f i)[a]? = some c) : ∃ (j : Nat) (r : List Int), (pk f i (sgL f i))[a]? = some ((j : Int) :: r) ∧ j < i ∧ f j = c := by
  have hk : c ∈ keysOf f i := (List.mem_filter.mp (List.mem_of_getElem? h)).1
  have ne := pick_ne hk
  have e : (pk f i (sgL f i))[a]? = some (pick (memb f c) i) := by
    unfold pk
    rw [List.getElem?_map, h]
    rfl
  cases q : pick (memb f c) i with
  | nil => exact absurd q ne
  | cons x r =>
    have m : x ∈ pick (memb f c) i := by rw [q]; exact List.mem_cons_self
    obtain ⟨j, j1, j2, j3⟩ := mem_pick.mp m
    exact ⟨j, r, by rw [e, q, j3], j1, of_decide_eq_true j2⟩
/-- found classes and kinds' numbers while they grow: H is the heap of before -/
def FndW (H H' : Hp) (F N : Addr) (fs : List Addr) (bs : List (List Int)) (ns : List V) : Prop := Same H H' ∧ H' F = some (.lst (fs.map V.ref)) ∧ Blk H' fs bs ∧ H' N = some (.lst ns) ∧ fs.Nodup ∧ ∀ t ∈ fs, t ≠ F ∧ t ≠ N ∧ H t = none
theorem FndW.same {H H1 H2 : Hp} {F N : Addr} {fs : List Addr} {bs : List (List Int)} {ns : List V} (h : FndW H H1 F N fs bs ns) (s : Same H1 H2) : FndW H H2 F N fs bs ns :=
  ⟨h.1.trans s, s _ _ h.2.1, Blk.imp (fun t _ o k => s t o k) h.2.2.1, s _ _ h.2.2.2.1, h.2.2.2.2⟩
theorem FndW.add {H H6 : Hp} {F N T : Addr} {fs : List Addr} {bs : List (List Int)} {ns : List V} (h : FndW H H6 F N fs bs ns) (nF : H F = none) (nFN : F ≠ N) (nT : H6 T = none) :
    FndW H (L2.upd (L2.upd H6 T (.lst [])) F (.lst (fs.map V.ref ++ [.ref T]))) F N (fs ++ [T]) (bs ++ [[]]) ns := by
  obtain ⟨sm, eF, bF, eN, nd, av⟩ := h
  have sT := same_upd (o := .lst []) nT
  have nTF : T ≠ F := fun z => by subst z; rw [eF] at nT; cases nT
  have nTN : T ≠ N := fun z => by subst z; rw [eN] at nT; cases nT
  have HT : H T = none := sm.free nT
  have inF : ∀ t ∈ fs, H6 t ≠ none := fun t ht => by obtain ⟨b, _, k⟩ := bF.at_ ht; rw [k]; exact Option.some_ne_none _
  refine ⟨HD.same_put (sm.trans sT) nF, by rw [upd_same, List.map_append]; rfl, ?_, ?_, ?_, fun t ht => ?_⟩
  · exact Blk.snoc (by rw [upd_ne nTF, upd_same]; rfl) (Blk.imp (fun t ht o k => by rw [upd_ne (av t ht).1]; exact sT _ _ k) bF)
  · rw [upd_ne nFN.symm]
    exact sT _ _ eN
  · exact List.nodup_append.mpr ⟨nd, by simp, fun x hx y hy e => by
      have := List.mem_singleton.mp hy
      subst this
      subst e
      exact inF x hx nT⟩
  · rcases List.mem_append.mp ht with z | z
    · exact av t z
    · rw [List.mem_singleton.mp z]
      exact ⟨nTF, nTN, HT⟩
theorem FndW.put {H H6 : Hp} {F N t : Addr} {fs : List Addr} {bs : List (List Int)} {ns : List V} {j : Nat} {b : List Int} (h : FndW H H6 F N fs bs ns) (et : fs[j]? = some t) : FndW H (L2.upd H6 t (.lst (b.map V.int))) F N fs (bs.set j b) ns := by
  obtain ⟨sm, eF, bF, eN, nd, av⟩ := h
  have a := av t (List.mem_of_getElem? et)
  exact ⟨HD.same_put sm a.2.2, by rw [upd_ne a.1.symm]; exact eF, Blk.set nd et bF, by rw [upd_ne a.2.1.symm]; exact eN, nd, av⟩
theorem FndW.num {H H6 : Hp} {F N : Addr} {fs : List Addr} {bs : List (List Int)} {ns : List V} {v : V} (h : FndW H H6 F N fs bs ns) (nN : H N = none) (nFN : F ≠ N) : FndW H (L2.upd H6 N (.lst (ns ++ [v]))) F N fs bs (ns ++ [v]) := by
  obtain ⟨sm, eF, bF, eN, nd, av⟩ := h
  exact ⟨HD.same_put sm nN, by rw [upd_ne nFN]; exact eF, Blk.imp (fun t ht o k => by rw [upd_ne (av t ht).2.1]; exact k) bF, upd_same, nd, av⟩
end CK
namespace VG
open PySem PySem.Spec PyProof.Rows L2
/-- a text, once or not at all -/
def rMul01 : V → V → Hp → VK → Prop := fun x y H Q => ∃ (z : Str) (b : Bool), x = .str z ∧ y = .int (if b = true then 1 else 0) ∧ Q (.str (if b = true then z else Str.empty)) H
theorem op_mul01 {X : Cx} : OpR X (binaryOp .Mult) rMul01 := by
  intro pins s σ H x y v u Q I rx ry h
  obtain ⟨z, b, rfl, rfl, q⟩ := h
  obtain ⟨t, rfl⟩ := rx
  obtain ⟨t', rfl⟩ := ry
  cases b with
  | true => exact P.mul_str (by decide) (fun _ e => by cases e) (fun _ e => by cases e) ⟨.str z, H, I, ⟨t, rfl⟩, q⟩
  | false => exact P.mul_str_none (by decide) (by decide) ⟨.str Str.empty, H, I.tok _, ⟨_, rfl⟩, q⟩
end VG
namespace CK
open PySem PySem.Spec PyProof.Rows L2 VG FR HD
abbrev cABC : Str := "abcdefghijklmnopqrstuvwxyz"
theorem ixN_nat {n j : Nat} (h : j < n) : ixN n (j : Int) = some j := by
  unfold ixN
  rw [if_pos (by omega), if_pos (by omega), Int.toNat_natCast]
def fronts : List Str := [("" : String), ("" : String), ("b" : String), ("zz" : String), ("mnopu" : String)]
def lett (j : Nat) : Nat := cABC.cps.toList.getD ((7 * j + 3) % 26) 0
def baseN (fr : Str) (j : Nat) : Str := fr ++ (⟨#[lett j]⟩ : Str)
def endO (b : Bool) : Str := if b = true then (("o" : String) : Str) else Str.empty
def namesL (fr : Str) (m a : Nat) (b : Bool) : List Str := ((List.range m).map (baseN fr)).set a (baseN fr a ++ endO b)
def nmB (z : Str) : Bool := decide (1 ≤ z.cps.size) && decide (z.cps.size ≤ 6) && z.cps.toList.all fun c => decide (97 ≤ c ∧ c ≤ 122)
theorem names_all : (fronts.all fun fr => (List.range 12).all fun a => [true, false].all fun b => (b && decide (6 ≤ (baseN fr a).length)) || (decide ((namesL fr 12 a b).map fun z => z.cps.toList).Nodup && (namesL fr 12 a b).all nmB)) = true := by decide +kernel
theorem ok_of_B {z : Str} (h : nmB z = true) : NameOk z := by
  unfold nmB at h
  rw [Bool.and_eq_true, Bool.and_eq_true] at h
  exact ⟨of_decide_eq_true h.1.1, of_decide_eq_true h.1.2, fun c hc => of_decide_eq_true (List.all_eq_true.mp h.2 c hc)⟩
theorem names_fine {fr : Str} (hf : fr ∈ fronts) {m a : Nat} (hm : m ≤ 12) (ha : a < m) {b : Bool} (hb : b = true → (baseN fr a).length < 6) : (namesL fr m a b).Nodup ∧ ∀ z ∈ namesL fr m a b, NameOk z := by
  have h := List.all_eq_true.mp (List.all_eq_true.mp (List.all_eq_true.mp names_all fr hf) a (List.mem_range.mpr (by omega))) b (by cases b <;> simp)
  rw [Bool.or_eq_true] at h
  have h2 : (decide ((namesL fr 12 a b).map fun z => z.cps.toList).Nodup && (namesL fr 12 a b).all nmB) = true := by
    rcases h with h | h
    · rw [Bool.and_eq_true] at h
      have := hb h.1
      have := of_decide_eq_true h.2
      omega
    · exact h
  rw [Bool.and_eq_true] at h2
  have e : namesL fr m a b = (namesL fr 12 a b).take m := by
    refine List.ext_getElem? fun j => ?_
    unfold namesL
    by_cases jm : j < m
    · rw [List.getElem?_take_of_lt jm]
      by_cases ja : a = j
      · subst ja
        rw [List.getElem?_set_self (by rw [List.length_map, List.length_range]; exact ha), List.getElem?_set_self (by rw [List.length_map, List.length_range]; omega)]
      · rw [List.getElem?_set_ne ja, List.getElem?_set_ne ja, List.getElem?_map, List.getElem?_map, List.getElem?_range jm, List.getElem?_range (by omega)]
    · rw [List.getElem?_eq_none (by rw [List.length_set, List.length_map, List.length_range]; omega), List.getElem?_eq_none (by rw [List.length_take]; omega)]
  have nd : (namesL fr 12 a b).Nodup := List.Pairwise.imp (fun {x y} h e => h (by rw [e])) (List.pairwise_map.mp (of_decide_eq_true h2.1))
  rw [e]
  exact ⟨nd.sublist (List.take_sublist _ _), fun z hz => ok_of_B (List.all_eq_true.mp h2.2 z (List.mem_of_mem_take hz))⟩
theorem lett_at (j : Nat) (h : j < 12) : cABC.cps.toList[(7 * j + 3) % 26]? = some (lett j) := by
  have all : ∀ i : Fin 12, cABC.cps.toList[(7 * i.1 + 3) % 26]? = some (lett i.1) := by decide +kernel
  exact all ⟨j, h⟩
theorem front_len {fr : Str} (h : fr ∈ fronts) : fr.length ≤ 5 := by
  have all : (fronts.all fun z => decide (z.length ≤ 5)) = true := by decide +kernel
  exact of_decide_eq_true (List.all_eq_true.mp all fr h)
end CK
namespace CK
open PySem PySem.Spec PyProof.Rows L2 VG FR HD
theorem eqvB_nil (bs : List (List Int)) : PyData.eqv (.list (dL bs)) (.list (([] : List Int).map PyData.int)) = decide (bs = []) := by
  cases bs with
  | nil => rfl
  | cons b r => rfl
theorem twF_lot {bs : List (List Int)} {k : Int} {n : Nat} (h : n ≤ 12) : LotOk (n : Int) (twF bs k n) := by
  refine ⟨by have := twF_len bs k n; omega, fun x hx => ?_, asc_pw ?_⟩
  · unfold twF at hx
    obtain ⟨j, hj, rfl⟩ := List.mem_map.mp hx
    have := List.mem_range.mp (List.mem_filter.mp hj).1
    omega
  · unfold twF
    refine List.pairwise_map.mpr ?_
    have h : (List.range n).Pairwise (· < ·) := List.pairwise_lt_range
    exact (List.Pairwise.filter _ h).imp fun z => by omega
theorem Tots.set {K : PySem.W.Frag} {H : Hp} {t : Addr} {c : List Int} (ht : SqT K H t (c.map V.int)) : ∀ {xs : List V} {ts : List (List Int)} (i : Nat), Tots K H xs ts → Tots K H (xs.set i (.ref t)) (ts.set i c)
  | [], [], _, _ => trivial
  | _ :: _, _ :: _, 0, h => ⟨⟨t, rfl, ht⟩, h.2⟩
  | _ :: xs, _ :: ts, i + 1, h => ⟨h.1, Tots.set ht (xs := xs) (ts := ts) i h.2⟩
def spLawTots (K : PySem.W.Frag) : Sp := fun vs H Q _ => ∃ (p q : Addr) (n m : Nat), vs = [.ref p, .int n, .int m] ∧ Hd p q H ∧ n ≤ 12 ∧ m ≤ 12 ∧
  ∀ (H' : Hp) (u : Addr) (xs : List V) (ts : List (List Int)), On p q (frz p q H) H' → H' u = some (.tup xs) → Tots K H' xs ts → ts.length = m → (∀ c ∈ ts, LotOk (n : Int) c) → Q (.ref u) H'
/-- rows that are drawn: R lists them -/
def RowsW (p q : Addr) (G H : Hp) (R : Addr) (rs : List Addr) (bs : List (List Int)) : Prop := On p q G H ∧ H R = some (.lst (rs.map V.ref)) ∧ Blk H rs bs ∧ ∀ t ∈ rs, t ≠ p ∧ t ≠ q ∧ t ≠ R
theorem RowsW.draw {p q : Addr} {G H H' : Hp} {R : Addr} {rs : List Addr} {bs : List (List Int)} (h : RowsW p q G H R rs bs) (fR : R ≠ p ∧ R ≠ q) (hd : Hd p q H') (k : Keep p q H H') : RowsW p q G H' R rs bs :=
  ⟨h.1.draw hd k, k R _ fR.1 fR.2 h.2.1, Blk.imp (fun t ht o e => k t o (h.2.2.2 t ht).1 (h.2.2.2 t ht).2.1 e) h.2.2.1, h.2.2.2⟩
theorem RowsW.same {p q : Addr} {G H H' : Hp} {R : Addr} {rs : List Addr} {bs : List (List Int)} (h : RowsW p q G H R rs bs) (s : Same H H') : RowsW p q G H' R rs bs :=
  ⟨h.1.same s, s _ _ h.2.1, Blk.imp (fun t _ o e => s t o e) h.2.2.1, h.2.2.2⟩
theorem RowsW.put {p q : Addr} {G H : Hp} {R D : Addr} {o : HO} {rs : List Addr} {bs : List (List Int)} (h : RowsW p q G H R rs bs) (f : D ≠ p ∧ D ≠ q ∧ G D = none) (nR : R ≠ D) (nD : ∀ t ∈ rs, t ≠ D) : RowsW p q G (L2.upd H D o) R rs bs :=
  ⟨h.1.put f, by rw [upd_ne nR]; exact h.2.1, Blk.imp (fun t ht o e => by rw [upd_ne (nD t ht)]; exact e) h.2.2.1, h.2.2.2⟩
/-- one more row -/
theorem RowsW.add {p q : Addr} {G H : Hp} {R r : Addr} {rs : List Addr} {bs : List (List Int)} {b : List Int} (h : RowsW p q G H R rs bs) (fR : R ≠ p ∧ R ≠ q ∧ G R = none) (kr : H r = some (.lst (b.map V.int))) (nr : r ≠ p ∧ r ≠ q ∧ r ≠ R) : RowsW p q G (L2.upd H R (.lst (rs.map V.ref ++ [.ref r]))) R (rs ++ [r]) (bs ++ [b]) := by
  refine ⟨h.1.put fR, by rw [upd_same, List.map_append]; rfl, Blk.snoc (by rw [upd_ne nr.2.2]; exact kr) (Blk.imp (fun t ht o e => by rw [upd_ne (h.2.2.2 t ht).2.2]; exact e) h.2.2.1), fun t ht => ?_⟩
  rcases List.mem_append.mp ht with z | z
  · exact h.2.2.2 t z
  · rw [List.mem_singleton.mp z]
    exact nr
end CK
namespace CK
open PySem PySem.Spec PyProof.Rows L2 VG FR HD
theorem strOk_name {z : Str} (h : NameOk z) : PyData.strOk z = true := by
  unfold PyData.strOk
  rw [← Array.all_toList, List.all_eq_true]
  intro c hc
  have := (h.2.2 c hc).2
  exact decide_eq_true (by omega)
theorem gd_dS1 {ks : List Str} (h : ∀ z ∈ ks, NameOk z) : Gd 1 (dS1 ks) := gd_tup fun d hd => by
  obtain ⟨z, hz, rfl⟩ := List.mem_map.mp hd
  exact gd_str 0 (strOk_name (h z hz))
theorem gd_dT1 (ts : List (List Int)) : Gd 2 (dT1 ts) := gd_tup fun d hd => by
  obtain ⟨c, _, rfl⟩ := List.mem_map.mp hd
  exact gd_dI c
/-- two equal tables -/
def TabEq (K : PySem.W.Frag) (C : Addr) (a b : Addr) (H : Hp) : Prop := ∃ ks ts, Tab K C H a ks ts ∧ Tab K C H b ks ts ∧ ∀ z ∈ ks, NameOk z
structure EqC (P : Program) (w : World) (K : PySem.W.Frag) (mg : Str → Option Value) (base : Heap) (C : Addr) : Prop where
  ex : ∃ (f : Addr) (fd : FuncData), FnOk P w K mg base CX0 1 f fd ["self", "other"] (spEq (TabEq K C)) ∧ PySem.W.findIn K (.ref C) "__eq__" = some (some (.ref f)) ∧ PySem.W.isFn K (.ref f) = true ∧ Binds K fd ["self", "other"] []
/-- a == b of two equal tables -/
def rEqT (K : PySem.W.Frag) (C : Addr) : R2 := fun x y H Q => ∃ (a b : Addr) (ks : List Str) (ts : List (List Int)), x = .ref a ∧ y = .ref b ∧ Tab K C H a ks ts ∧ Tab K C H b ks ts ∧ (∀ z ∈ ks, NameOk z) ∧ ∀ H', Same H H' → Q (.bl true) H'
theorem op_eqTab {X : Cx} {C : Addr} (h : EqC X.prog X.w X.K X.mg X.base C) (hr : Room 1 X.A) : OpR X (compareOp .Eq) (rEqT X.K C) := by
  obtain ⟨f, fd, F, m1, m2, b⟩ := h.ex
  have R := op_eqG (rcG_ins (E := E0) F m1 m2 b pass0) hr
  intro pins s σ H x y v u Q I rx ry h
  obtain ⟨p, q, ks, ts, rfl, rfl, hp, hq, hn, fin⟩ := h
  have ⟨dx, _, _, _, o1, _⟩ := hp
  have ⟨dy, _, _, _, o2, _⟩ := hq
  exact R pins s σ H _ _ v u Q I rx ry ⟨⟨p, q, dx, dy, _, _, rfl, rfl, o1, o2, ks, ts, hp, hq, hn⟩, fun H' e => fin H' e⟩
end CK
namespace CK
open PySem PySem.Spec PyProof.Rows L2 VG FR HD
def IntV (v : V) : Prop := (∃ i : Int, v = .int i ∧ i.natAbs < 2 ^ 24) ∨ v = .non
theorem num_intV {ts : List (List Int)} {n : Nat} (hn : n ≤ 12) (k : Int) : IntV (numV (classesL ts n) k) := by
  have ⟨cl1, _⟩ := classes_len ts n
  generalize classesL ts n = cs at cl1
  have key : ∀ i, i ≤ cs.length → valV (numF cs i) (Sum.inl k : L2.Key) = Option.none ∨ ∃ a : Nat, a < i ∧ valV (numF cs i) (Sum.inl k : L2.Key) = some (V.int (a : Int)) := by
    intro i
    induction i with
    | zero => intro _; exact .inl rfl
    | succ i ih =>
      intro hi
      have e : valV (numF cs (i + 1)) (Sum.inl k : L2.Key) = if k ∈ cs.getD i [] then some (V.int (i : Int)) else valV (numF cs i) (Sum.inl k : L2.Key) := row_val i k (cs.getD i []) (numF cs i)
      rw [e]
      by_cases h : k ∈ cs.getD i []
      · rw [if_pos h]
        exact .inr ⟨i, by omega, rfl⟩
      · rw [if_neg h]
        rcases ih (by omega) with z | ⟨a, ha, z⟩
        · exact .inl z
        · exact .inr ⟨a, by omega, z⟩
  unfold numV
  rcases key cs.length (Nat.le_refl _) with z | ⟨a, ha, z⟩
  · rw [z]
    exact .inr rfl
  · rw [z]
    have : (2 : Nat) ^ 24 = 16777216 := by decide
    exact .inl ⟨(a : Int), rfl, by omega⟩
/-- a class meets a total -/
def meet (c cl : List Int) : Bool := cl.any fun k => c.contains k
theorem headI_mem {cl : List Int} (h : cl ≠ []) : headI cl ∈ cl := by
  cases cl with
  | nil => exact absurd rfl h
  | cons x r => exact List.mem_cons_self
theorem meet_head {ts : List (List Int)} {n : Nat} {c cl : List Int} {a : Nat} (hc : c ∈ ts) (ok : ∀ x ∈ c, 0 ≤ x ∧ x < (n : Int)) (ha : (classesL ts n)[a]? = some cl) : meet c cl = c.contains (headI cl) := by
  have ne := cls_ne cl (List.mem_of_getElem? ha)
  rw [Bool.eq_iff_iff]
  unfold meet
  rw [List.any_eq_true]
  constructor
  · rintro ⟨k, hk, e⟩
    have kc := List.contains_iff_mem.mp e
    obtain ⟨k0, k1⟩ := ok k kc
    obtain ⟨j, rfl⟩ := Int.eq_ofNat_of_zero_le k0
    obtain ⟨b, d, e1, e2, e3⟩ := cls_one (n := n) hc (by omega) kc
    have ab : a = b := e3 a cl ha hk
    subst ab
    exact (rec_iff hc ok ha).mp ⟨(j : Int), kc, num_of e1 e2 e3⟩
  · intro e
    exact ⟨headI cl, headI_mem ne, e⟩
/-- the classes of a total -/
def rowC (cs : List (List Int)) (c : List Int) (i : Nat) : List Int := ((List.range i).filter fun a => meet c (cs.getD a [])).map fun a => ((a : Nat) : Int)
theorem rowC_yes {cs : List (List Int)} {c cl : List Int} {i : Nat} (e : cs[i]? = some cl) (h : meet c cl = true) : rowC cs c (i + 1) = rowC cs c i ++ [(i : Int)] := by
  unfold rowC
  have g : cs.getD i [] = cl := by rw [List.getD_eq_getElem?_getD, e]; rfl
  rw [List.range_succ, List.filter_append, List.map_append]
  have e2 : [i].filter (fun a => meet c (cs.getD a [])) = [i] := by simp only [List.filter_cons, g, h, if_true, List.filter_nil]
  rw [e2]
  rfl
theorem rowC_no {cs : List (List Int)} {c cl : List Int} {i : Nat} (e : cs[i]? = some cl) (h : meet c cl = false) : rowC cs c (i + 1) = rowC cs c i := by
  unfold rowC
  have g : cs.getD i [] = cl := by rw [List.getD_eq_getElem?_getD, e]; rfl
  rw [List.range_succ, List.filter_append, List.map_append]
  have e2 : [i].filter (fun a => meet c (cs.getD a [])) = [] := by simp only [List.filter_cons, g, h, if_false, List.filter_nil, Bool.false_eq_true]
  rw [e2]
  exact List.append_nil _
theorem rowC_len (cs : List (List Int)) (c : List Int) (i : Nat) : (rowC cs c i).length ≤ i := by
  unfold rowC
  rw [List.length_map]
  exact Nat.le_trans (List.length_filter_le _ _) (by rw [List.length_range]; exact Nat.le_refl _)
theorem rowC_mem {cs : List (List Int)} {c : List Int} {x : Int} {i : Nat} : x ∈ rowC cs c i ↔ ∃ a : Nat, a < i ∧ meet c (cs.getD a []) = true ∧ x = (a : Int) := by
  unfold rowC
  rw [List.mem_map]
  constructor
  · rintro ⟨a, ha, e⟩
    obtain ⟨h1, h2⟩ := List.mem_filter.mp ha
    exact ⟨a, List.mem_range.mp h1, h2, e.symm⟩
  · rintro ⟨a, h1, h2, e⟩
    exact ⟨a, List.mem_filter.mpr ⟨List.mem_range.mpr h1, h2⟩, e.symm⟩
theorem rowC_asc (cs : List (List Int)) (c : List Int) (i : Nat) : (rowC cs c i).Pairwise (· < ·) := by
  unfold rowC
  refine List.pairwise_map.mpr ?_
  have h : (List.range i).Pairwise (· < ·) := List.pairwise_lt_range
  exact (List.Pairwise.filter _ h).imp fun z => by omega
theorem byCls_rows {ts : List (List Int)} {n : Nat} (hn : n ≤ 12) (ok : ∀ c ∈ ts, LotOk (n : Int) c) : ByCls ts n (ts.map fun c => rowC (classesL ts n) c (classesL ts n).length) := by
  have ⟨cl1, _⟩ := classes_len ts n
  refine ⟨List.length_map .., fun j c l ec el x => ?_, fun l hl => ?_⟩
  · rw [List.getElem?_map, ec] at el
    have el : rowC (classesL ts n) c (classesL ts n).length = l := Option.some.inj el
    subst el
    have hc := List.mem_of_getElem? ec
    have okc := (ok c hc).2.1
    rw [rowC_mem]
    constructor
    · rintro ⟨a, ha, hm, rfl⟩
      have e : (classesL ts n)[a]? = some (classesL ts n)[a] := List.getElem?_eq_getElem ha
      have g : (classesL ts n).getD a [] = (classesL ts n)[a] := by rw [List.getD_eq_getElem?_getD, e]; rfl
      rw [g, meet_head hc okc e] at hm
      exact (rec_iff hc okc e).mpr hm
    · rintro ⟨k, hk, e⟩
      obtain ⟨k0, k1⟩ := okc k hk
      obtain ⟨i, rfl⟩ := Int.eq_ofNat_of_zero_le k0
      obtain ⟨a, cl, e1, e2, e3⟩ := cls_one (n := n) hc (by omega) hk
      rw [num_of e1 e2 e3] at e
      injection e with e
      have la := (List.getElem?_eq_some_iff.mp e1).1
      have g : (classesL ts n).getD a [] = cl := by rw [List.getD_eq_getElem?_getD, e1]; rfl
      refine ⟨a, la, ?_, e.symm⟩
      rw [g]
      exact List.any_eq_true.mpr ⟨_, e2, List.contains_iff_mem.mpr hk⟩
  · obtain ⟨c, hc, rfl⟩ := List.mem_map.mp hl
    have := rowC_len (classesL ts n) c (classesL ts n).length
    exact ⟨by omega, rowC_asc _ _ _⟩
theorem ByCls.uniq {ts : List (List Int)} {n : Nat} {ls ms : List (List Int)} (h1 : ByCls ts n ls) (h2 : ByCls ts n ms) : ls = ms := by
  refine List.ext_getElem? fun j => ?_
  have l1 := h1.len
  have l2 := h2.len
  by_cases lt : j < ts.length
  · have e1 : ts[j]? = some ts[j] := List.getElem?_eq_getElem lt
    have e2 : ls[j]? = some ls[j] := List.getElem?_eq_getElem (by omega)
    have e3 : ms[j]? = some ms[j] := List.getElem?_eq_getElem (by omega)
    rw [e2, e3, ascI_uniq (h1.asc _ (List.mem_of_getElem? e2)).2 (h2.asc _ (List.mem_of_getElem? e3)).2 fun x => (h1.rel j _ _ e1 e2 x).trans (h2.rel j _ _ e1 e3 x).symm]
  · rw [List.getElem?_eq_none (by omega), List.getElem?_eq_none (by omega)]
theorem shn_dT1 {cs : List (List Int)} (h : cs.length ≤ 12) (hl : ∀ c ∈ cs, c.length ≤ 12 ∧ ∀ x ∈ c, ∃ j : Nat, j < 12 ∧ x = (j : Int)) : Shn (dT1 cs) 2 ((326 + 2) * 12 + 2) := shn_tup (k := 1) (B := 326) (fun d hd => by
  obtain ⟨c, hc, rfl⟩ := List.mem_map.mp hd
  have ⟨h1, h2⟩ := hl c hc
  refine shn_dI (n := 12) (fun x hx => ?_) h1
  obtain ⟨j, hj, rfl⟩ := h2 x hx
  have : (2 : Nat) ^ 24 = 16777216 := by decide
  omega) (by rw [List.length_map]; exact h)
theorem dp_T1 {K : PySem.W.Frag} {H : Hp} {t : Addr} {xs : List V} {ts : List (List Int)} (h : SqT K H t xs) (hT : Tots K H xs ts) : Dp K H (.ref t) (dT1 ts) := .tup h (dpAll_tots hT)
theorem eqv_T1 (ts : List (List Int)) : PyData.eqv (dT1 ts) (dT1 ts) = true := SeqAt.eqv_refl _ (gd_dT1 ts).1
theorem shp_T1 (ts : List (List Int)) : SeqAt.shaped (dT1 ts) = true := (gd_dT1 ts).shaped (by decide)
end CK
namespace CK
open PySem PySem.Spec PyProof.Rows L2 VG FR HD
theorem pick_asc (P : Nat → Bool) (n : Nat) : (pick P n).Pairwise (· < ·) := by
  unfold pick
  refine List.pairwise_map.mpr ?_
  have h : (List.range n).Pairwise (· < ·) := List.pairwise_lt_range
  exact (List.Pairwise.filter _ h).imp fun z => by omega
end CK
namespace CK
open PySem PySem.Spec PyProof.Rows L2 VG FR HD
theorem tabs_put {T : List (Addr × Str)} {H : Hp} {D : Addr} {xs : List V} {o : HO} (t : LamX.Tabs T H) (h : H D = some (.lst xs)) : LamX.Tabs T (L2.upd H D o) := fun p hp => by
  obtain ⟨ps, h1, h2, h3⟩ := t p hp
  refine ⟨ps, ?_, h2, fun pos cv hc => ?_⟩
  · rw [upd_ne (fun z => by rw [z, h] at h1; cases h1)]
    exact h1
  · obtain ⟨c, e1, e2⟩ := h3 pos cv hc
    refine ⟨c, e1, ?_⟩
    rw [upd_ne (fun z => by rw [z, h] at e2; cases e2)]
    exact e2
theorem any_dI (c : List Int) : ∀ cs : List (List Int), (cs.map dI).any (fun z => PyData.eqv z (dI c)) = decide (c ∈ cs)
  | [] => by simp
  | d :: cs => by
    have ih := any_dI c cs
    rw [List.map_cons, List.any_cons, ih, eqv_dI]
    by_cases h : d = c
    · subst h
      simp
    · have : ¬ c = d := fun z => h z.symm
      simp [h, this]
/-- what once becomes -/
def OnceOf (L : List (List Int)) (os : List (List Int)) : Prop := LexAsc os ∧ ∀ c, c ∈ os ↔ c ∈ L ∧ c ≠ []
theorem OnceOf.skip {L os : List (List Int)} {c : List Int} (h : OnceOf L os) (e : c = [] ∨ c ∈ os) : OnceOf (L ++ [c]) os := by
  refine ⟨h.1, fun x => ?_⟩
  rw [h.2 x, List.mem_append]
  constructor
  · intro ⟨a, b⟩
    exact ⟨.inl a, b⟩
  · rintro ⟨a | a, b⟩
    · exact ⟨a, b⟩
    · have := List.mem_singleton.mp a
      subst this
      rcases e with e | e
      · exact absurd e b
      · exact (h.2 x).mp e
theorem OnceOf.add {L os : List (List Int)} {c : List Int} (h : OnceOf L os) (up : ∀ x ∈ L, TU.lexI c x = false) (n : c ≠ []) (no : c ∉ os) : OnceOf (L ++ [c]) (os ++ [c]) := by
  refine ⟨List.pairwise_append.mpr ⟨h.1, List.pairwise_singleton _ _, fun a ha b hb => ?_⟩, fun x => ?_⟩
  · have := List.mem_singleton.mp hb
    subst this
    cases q : TU.lexI a b with
    | true => rfl
    | false => exact absurd ((TU.lexI_total a b q (up a ((h.2 a).mp ha).1)) ▸ ha) no
  · rw [List.mem_append, List.mem_append, h.2 x]
    constructor
    · rintro (⟨a, b⟩ | a)
      · exact ⟨.inl a, b⟩
      · exact ⟨.inr a, by rw [List.mem_singleton.mp a]; exact n⟩
    · rintro ⟨a | a, b⟩
      · exact .inl ⟨a, b⟩
      · exact .inr a
end CK
namespace CK
open PySem PySem.Spec PyProof.Rows L2 VG FR HD
noncomputable def GB (p q : Addr) (H : Hp) : Hp := offT (frz p q H)
theorem gb_at {p q b : Addr} {H : Hp} {o : HO} (h : H b = some o) (n : b ≠ p ∧ b ≠ q) (nt : ∀ ps, o ≠ .tbl ps) : GB p q H b = some o := by
  unfold GB offT
  rw [frz_at h n]
  cases o <;> first | rfl | exact absurd rfl (nt _)
theorem gb_same (p q : Addr) (H : Hp) : Same (GB p q H) H := (offT_same _).trans frz_le
theorem gb_cases {p q b : Addr} {H : Hp} {o : HO} (h : GB p q H b = some o) : b ≠ p ∧ b ≠ q ∧ H b = some o ∧ ∀ ps, o ≠ .tbl ps := by
  have h1 := offT_same _ _ _ h
  have h2 := frz_cases h1
  exact ⟨h2.1, h2.2.1, h2.2.2, fun ps z => offT_no _ b ps (by rw [← z]; exact h)⟩
theorem gb_le {p q : Addr} {G H : Hp} (nG : NoTbl G) (gp : G p = none) (gq : G q = none) (s : Same G H) : Same G (GB p q H) := fun b o h =>
  gb_at (s _ _ h) ⟨(fun z => by rw [z, gp] at h; cases h), (fun z => by rw [z, gq] at h; cases h)⟩ fun ps z => nG b ps (by rw [← z]; exact h)
def OnT (T : List (Addr × Str)) (p q : Addr) (G H : Hp) : Prop := On p q G H ∧ LamX.Tabs T H ∧ NoTbl G
section
variable {T : List (Addr × Str)} {p q : Addr} {G H H' : Hp}
theorem OnT.start (h : Hd p q H) (t : LamX.Tabs T H) : OnT T p q (GB p q H) H := ⟨⟨h, gb_same p q H, by
  cases e : GB p q H p with
  | none => rfl
  | some o => exact absurd rfl (gb_cases e).1, by
  cases e : GB p q H q with
  | none => rfl
  | some o => exact absurd rfl (gb_cases e).2.1⟩, t, offT_no _⟩
theorem OnT.hd (h : OnT T p q G H) : Hd p q H := h.1.hd
theorem OnT.le (h : OnT T p q G H) : Same G H := h.1.le
theorem OnT.base (h : OnT T p q G H) : OnT T p q (GB p q H) H ∧ Same G (GB p q H) := ⟨.start h.hd h.2.1, gb_le h.2.2 h.1.2.2.1 h.1.2.2.2 h.le⟩
theorem OnT.drop {G0 : Hp} (h : OnT T p q G H) (s : Same G0 G) (n : NoTbl G0) : OnT T p q G0 H := ⟨h.1.drop s, h.2.1, n⟩
theorem OnT.same (h : OnT T p q G H) (s : Same H H') : OnT T p q G H' := ⟨h.1.same s, tabs_same h.2.1 s, h.2.2⟩
theorem OnT.new (h : OnT T p q G H) {n : Addr} {o : HO} (hn : H n = none) : OnT T p q G (L2.upd H n o) := h.same (same_upd hn)
theorem OnT.draw (h : OnT T p q G H) (hd : Hd p q H') (k : Keep p q H H') : OnT T p q G H' := by
  refine ⟨h.1.draw hd k, fun x hx => ?_, h.2.2⟩
  obtain ⟨ps, h1, h2, h3⟩ := h.2.1 x hx
  obtain ⟨cs, st, e1, e2, _⟩ := h.hd
  refine ⟨ps, k _ _ (fun z => by rw [z, e1] at h1; cases h1) (fun z => by rw [z, e2] at h1; cases h1) h1, h2, fun pos cv hc => ?_⟩
  obtain ⟨c, e3, e4⟩ := h3 pos cv hc
  exact ⟨c, e3, k _ _ (fun z => by rw [z, e1] at e4; cases e4) (fun z => by rw [z, e2] at e4; cases e4) e4⟩
theorem OnT.put (h : OnT T p q G H) {D : Addr} {xs : List V} {o : HO} (hD : H D = some (.lst xs)) (f : D ≠ p ∧ D ≠ q ∧ G D = none) : OnT T p q G (L2.upd H D o) := ⟨h.1.put f, tabs_put h.2.1 hD, h.2.2⟩
theorem OnT.free (h : OnT T p q G H) {n : Addr} (hn : H n = none) : n ≠ p ∧ n ≠ q ∧ G n = none := h.1.free hn
end
theorem intsD_ints (cs : List Int) : intsD (.tuple (cs.map PyData.int)) = cs := by
  show (cs.map PyData.int).map (fun d => (intO d).getD 0) = cs
  rw [List.map_map]
  exact (List.map_congr_left fun x _ => rfl).trans (List.map_id cs)
theorem nums_of {n : Int} {cs : List Int} (h : ∀ x ∈ cs, 0 ≤ x ∧ x < n) : numsBD n (.tuple (cs.map PyData.int)) = true := by
  show ((cs.map PyData.int).all fun d => belowO n (intO d)) = true
  rw [List.all_map, List.all_eq_true]
  intro x hx
  exact decide_eq_true (h x hx)
theorem ascB_of : ∀ {cs : List Int}, Asc cs → ascB cs = true
  | [], _ => rfl
  | [_], _ => rfl
  | a :: b :: r, h => by
    have h : a < b ∧ Asc (b :: r) := h
    have ih := ascB_of h.2
    show (decide (a < b) && ascB (b :: r)) = true
    rw [decide_eq_true h.1, ih]
    rfl
theorem lotD_of {n : Int} {cs : List Int} (h : LotOk n cs) : lotD n (.tuple (cs.map PyData.int)) = true := by
  unfold lotD
  rw [nums_of h.2.1, intsD_ints, ascB_of h.2.2]
  rfl
theorem more_ok {ks : List Str} {ts : List (List Int)} {c : List Int} (ok : TabOk ks ts) (h : LotOk (ks.length : Int) c) (l : ts.length < 12) : TabOk ks (ts ++ [c]) :=
  ⟨ok.kinds, by rw [List.length_append]; show ts.length + 1 ≤ 12; omega, fun d hd => by
    rcases List.mem_append.mp hd with z | z
    · exact ok.lots d z
    · rw [List.mem_singleton.mp z]
      exact h⟩
/-- a value that is no lot below n -/
def Wr (K : PySem.W.Frag) (n : Int) (H : Hp) (v : V) : Prop := ∃ d, Ov K H v d ∧ lotD n d = false ∧ shortD d
theorem Wr.mono {K : PySem.W.Frag} {n : Int} {H H' : Hp} {v : V} (s : Same H H') (h : Wr K n H v) : Wr K n H' v := let ⟨d, a, b, c⟩ := h; ⟨d, a.mono s, b, c⟩
end CK
namespace CK
open PySem PySem.Spec PyProof.Rows L2 VG FR HD
/-- some of the first i numbers -/
def Somes (i : Nat) (cs : List Int) : Prop := cs.Pairwise (· < ·) ∧ cs.length ≤ i ∧ ∀ x ∈ cs, 0 ≤ x ∧ x < (i : Int)
theorem Somes.nil : Somes 0 [] := ⟨List.Pairwise.nil, Nat.le_refl _, fun x h => by cases h⟩
theorem Somes.skip {i : Nat} {cs : List Int} (h : Somes i cs) : Somes (i + 1) cs := ⟨h.1, by have := h.2.1; omega, fun x hx => by have := h.2.2 x hx; omega⟩
theorem Somes.add {i : Nat} {cs : List Int} (h : Somes i cs) : Somes (i + 1) (cs ++ [(i : Int)]) := by
  refine ⟨List.pairwise_append.mpr ⟨h.1, List.pairwise_singleton _ _, fun a ha b hb => ?_⟩, by rw [List.length_append]; have := h.2.1; show cs.length + 1 ≤ i + 1; omega, fun x hx => ?_⟩
  · have := List.mem_singleton.mp hb
    subst this
    exact (h.2.2 a ha).2
  · rcases List.mem_append.mp hx with z | z
    · have := h.2.2 x z
      omega
    · have := List.mem_singleton.mp z
      omega
end CK
namespace CK
open PySem PySem.Spec PyProof.Rows L2 VG FR HD
/-- a value that is no tuple of n unlike names -/
def Wn (K : PySem.W.Frag) (n : Nat) (H : Hp) (v : V) : Prop := ∃ d, Ov K H v d ∧ renB n d = false ∧ shortD d ∧ ∀ ds, d = .tuple ds → ∀ x ∈ ds, shortS x
theorem Wn.mono {K : PySem.W.Frag} {n : Nat} {H H' : Hp} {v : V} (s : Same H H') (h : Wn K n H v) : Wn K n H' v := let ⟨d, a, b⟩ := h; ⟨d, a.mono s, b⟩
end CK
namespace CK
open PySem PySem.Spec PyProof.Rows L2 VG FR HD
def litI : List Int → TA
  | [] => tNil
  | c :: cs => tCons (tC (.int c)) (litI cs)
def litS : List Str → TA
  | [] => tNil
  | c :: cs => tCons (tC (.str c)) (litS cs)
def litT : List (List Int) → TA
  | [] => tNil
  | c :: cs => tCons (tTup (litI c)) (litT cs)
theorem litI_at : ∀ (cs : List Int) (σ : L2.St) (H : Hp) (R : List V → Hp → Prop), R (cs.map V.int) H → litI cs σ H R
  | [], _, _, _, h => h
  | c :: cs, σ, H, R, h => litI_at cs σ H (fun xs H2 => R (.int c :: xs) H2) h
theorem litS_at : ∀ (cs : List Str) (σ : L2.St) (H : Hp) (R : List V → Hp → Prop), R (cs.map V.str) H → litS cs σ H R
  | [], _, _, _, h => h
  | c :: cs, σ, H, R, h => litS_at cs σ H (fun xs H2 => R (.str c :: xs) H2) h
theorem lit_ints {cs : List Int} {σ : L2.St} {H : Hp} {Q : VK} (l : cs.length ≤ 1000) (h : ∀ H' z, Same H H' → H' z = some (.tup (cs.map V.int)) → Q (.ref z) H') : tTup (litI cs) σ H Q :=
  litI_at cs σ H _ ⟨by rw [List.length_map]; have : sizeLine = 16777216 := by decide
                       omega, fun p np => h _ p (same_upd np) upd_same⟩
theorem lit_strs {cs : List Str} {σ : L2.St} {H : Hp} {Q : VK} (l : cs.length ≤ 1000) (h : ∀ H' z, Same H H' → H' z = some (.tup (cs.map V.str)) → Q (.ref z) H') : tTup (litS cs) σ H Q :=
  litS_at cs σ H _ ⟨by rw [List.length_map]; have : sizeLine = 16777216 := by decide
                       omega, fun p np => h _ p (same_upd np) upd_same⟩
theorem litT_at {K : PySem.W.Frag} : ∀ (cs : List (List Int)) (σ : L2.St) (H : Hp) (R : List V → Hp → Prop), (∀ c ∈ cs, c.length ≤ 1000) → (∀ H' xs, Same H H' → Tots K H' xs cs → R xs H') → litT cs σ H R
  | [], _, H, _, _, h => h H [] (Same.refl _) trivial
  | c :: cs, σ, H, R, l, h => lit_ints (Q := fun x H1 => litT cs σ H1 fun xs H2 => R (x :: xs) H2) (l c List.mem_cons_self) fun H1 z s1 kz => litT_at (K := K) cs σ H1 (fun xs H2 => R (.ref z :: xs) H2) (fun d hd => l d (List.mem_cons_of_mem _ hd)) fun H2 xs s2 hX => h H2 (.ref z :: xs) (s1.trans s2) ⟨⟨z, rfl, sqt (s2 _ _ kz)⟩, hX⟩
theorem lit_tots {K : PySem.W.Frag} {cs : List (List Int)} {σ : L2.St} {H : Hp} {Q : VK} (l : cs.length ≤ 1000 ∧ ∀ c ∈ cs, c.length ≤ 1000) (h : ∀ H' z xs, Same H H' → H' z = some (.tup xs) → Tots K H' xs cs → Q (.ref z) H') : tTup (litT cs) σ H Q :=
  litT_at (K := K) cs σ H _ l.2 fun H1 xs s1 hX => ⟨by rw [hX.len]; have : sizeLine = 16777216 := by decide
                                                       have := l.1; omega, fun p np => h _ p xs (s1.trans (same_upd np)) upd_same (hX.mono (same_upd np))⟩
def kE : List Str := ["bun", "cup", "jam", "pie", "tea"]
def tE : List (List Int) := [[0, 2, 4], [], [2, 4], [3], [0, 2, 4]]
def cE : List (List Int) := [[0], [2, 4], [3]]
theorem asc_dec : ∀ ks : List Str, (ks.zip (ks.drop 1)).all (fun p => decide (p.1.cps.toList < p.2.cps.toList)) = true → AscS ks := by
  intro ks h i a b ha hb
  have hz : (ks.zip (ks.drop 1))[i]? = some (a, b) := by
    rw [List.getElem?_zip_eq_some]
    exact ⟨ha, by rw [List.getElem?_drop, Nat.add_comm]; exact hb⟩
  exact of_decide_eq_true (List.all_eq_true.mp h _ (List.mem_of_getElem? hz))
theorem kinds_dec {ks : List Str} (h1 : 1 ≤ ks.length ∧ ks.length ≤ 12) (h2 : ks.all nmB = true) (h3 : (ks.zip (ks.drop 1)).all (fun p => decide (p.1.cps.toList < p.2.cps.toList)) = true) : KindsOk ks :=
  ⟨h1.1, h1.2, fun z hz => ok_of_B (List.all_eq_true.mp h2 z hz), asc_dec ks h3⟩
def lotB (n : Int) (c : List Int) : Bool := decide (c.length ≤ 1000) && c.all (fun x => decide (0 ≤ x ∧ x < n)) && ascB c
theorem lot_dec {n : Int} {c : List Int} (h : lotB n c = true) : LotOk n c := by
  unfold lotB at h
  rw [Bool.and_eq_true, Bool.and_eq_true] at h
  exact ⟨of_decide_eq_true h.1.1, fun x hx => of_decide_eq_true (List.all_eq_true.mp h.1.2 x hx), asc_of h.2⟩
theorem okE : TabOk kE tE := ⟨kinds_dec (by decide) (by decide +kernel) (by decide +kernel), by decide, fun c hc => lot_dec (List.all_eq_true.mp (by decide +kernel : tE.all (lotB (kE.length : Int)) = true) c hc)⟩
def nE : List V := [.int 0, .non, .int 1, .int 2, .int 1]
def kF : List Str := ["a", "b"]
def kG : List Str := ["a"]
def tG : List (List Int) := [[]]
theorem okG : TabOk kG tG := ⟨kinds_dec (by decide) (by decide +kernel) (by decide +kernel), by decide, fun c hc => lot_dec (List.all_eq_true.mp (by decide +kernel : tG.all (lotB (kG.length : Int)) = true) c hc)⟩
end CK
namespace CK
open PySem PySem.Spec PyProof.Rows L2 VG FR HD
theorem at_asg {te : TE} {g : TG} {u : TS} {D : Ends} {σ : L2.St} {H : Hp} (h : te σ H fun x H1 => g x σ H1 (u D)) : tSeq (tAsg te g) u D σ H := h
theorem at_make {cls : Addr} {sp : Sp} {ys : List V} {E : XK} {ta : TA} {σ : L2.St} {H : Hp} {Q : VK} (h : ta σ H fun xs H1 => tMake cls sp ys E (fun _ H Q => Q xs H) σ H1 Q) : tMake cls sp ys E ta σ H Q := h
theorem at_cons {ta : TE} {tr : TA} {σ : L2.St} {H : Hp} {R : List V → Hp → Prop} (h : ta σ H fun x H1 => tr σ H1 fun xs H2 => R (x :: xs) H2) : tCons ta tr σ H R := h
theorem eqv_S1 {ks : List Str} (h : ∀ z ∈ ks, NameOk z) : PyData.eqv (dS1 ks) (dS1 ks) = true ∧ SeqAt.shaped (dS1 ks) = true := ⟨SeqAt.eqv_refl _ (gd_dS1 h).1, (gd_dS1 h).shaped (by decide)⟩
end CK
namespace M9
open M2 FR CK
def DL : Int := 21000000 * 999983
theorem DL_pos : 0 < DL := by decide
theorem DL_ne : DL ≠ 0 := by decide
def U (a : Int) : Int × Int := mk a DL
theorem U_low (a : Int) : Low (U a).1 (U a).2 := mk_low DL_ne
theorem U_eq (a : Int) : (U a).1 * DL = a * (U a).2 := mk_eq DL_ne
theorem U_of {p : Int × Int} {a : Int} (h : Low p.1 p.2) (e : p.1 * DL = a * p.2) : p = U a := M14.eqv_mk (b := (a, DL)) h DL_pos e
theorem low_neg {p : Int × Int} (h : Low p.1 p.2) : Low (-p.1) p.2 := ⟨h.1, by
  have := h.2
  unfold g at this ⊢
  rw [Int.natAbs_neg]
  exact this⟩
theorem neg_U (a : Int) : neg (U a) = U (-a) := by
  refine U_of (p := neg (U a)) (low_neg (U_low a)) ?_
  have e := U_eq a
  show -(U a).1 * DL = -a * (U a).2
  rw [Int.neg_mul, Int.neg_mul, e]
def un (p : Int × Int) : Int := p.1 * (DL / p.2)
theorem U_un {p : Int × Int} (h : Low p.1 p.2) (d : p.2 ∣ DL) : U (un p) = p := by
  refine (U_of h ?_).symm
  obtain ⟨c, hc⟩ := d
  have pp := h.1
  unfold un
  rw [hc, Int.mul_ediv_cancel_left _ (by omega)]
  grind
theorem U_floor (a : Int) : (U a).1 / (U a).2 = a / DL := by
  have e := U_eq a
  have p := (U_low a).1
  have d := DL_pos
  generalize (U a).1 = x at *
  generalize (U a).2 = y at *
  generalize DL = k at *
  have h1 : x * k / (y * k) = x / y := Int.mul_ediv_mul_of_pos_left x y d
  have h2 : a * y / (k * y) = a / k := Int.mul_ediv_mul_of_pos_left a k p
  rw [← h1, ← h2, e, Int.mul_comm k y]
/-- the wholes next to an amount of a parts -/
def choU (a : Int) : List Int := if a / DL = -(-a / DL) then [a / DL] else [a / DL, -(-a / DL)]
theorem cho_ex (a : Int) : -(-a / DL) = if a / DL * DL = a then a / DL else a / DL + 1 := by
  have d := DL_pos
  split
  · rename_i h
    have : -a = -(a / DL) * DL := by rw [Int.neg_mul, h]
    rw [this, Int.mul_ediv_cancel _ DL_ne]
    omega
  · rename_i h
    have m1 := Int.mul_ediv_add_emod a DL
    have m2 := Int.emod_nonneg a DL_ne
    have m3 := Int.emod_lt_of_pos a d
    have m4 : a % DL ≠ 0 := fun z => h (by rw [z, Int.add_zero, Int.mul_comm] at m1; exact m1)
    have e : -a = (DL - a % DL) + -(a / DL + 1) * DL := by grind
    rw [e, Int.add_mul_ediv_right _ _ DL_ne, Int.ediv_eq_zero_of_lt (by omega) (by omega)]
    omega
theorem cho_near {a n : Int} (h : n ∈ choU a) : (n * DL - a).natAbs < DL.natAbs := by
  have d := DL_pos
  have m1 := Int.mul_ediv_add_emod a DL
  have m2 := Int.emod_nonneg a DL_ne
  have m3 := Int.emod_lt_of_pos a d
  have c := cho_ex a
  have key : n = a / DL ∨ (n = a / DL + 1 ∧ a % DL ≠ 0) := by
    unfold choU at h
    split at h
    · exact .inl (by simpa using h)
    · rename_i q
      rcases List.mem_cons.mp h with z | z
      · exact .inl z
      · have z := List.mem_singleton.mp z
        rw [c] at z q
        split at z
        · exact .inl z
        · rename_i t
          exact .inr ⟨z, fun y => t (by rw [y, Int.add_zero, Int.mul_comm] at m1; exact m1)⟩
  rcases key with rfl | ⟨rfl, y⟩
  · have : a / DL * DL - a = -(a % DL) := by grind
    rw [this]
    omega
  · have : (a / DL + 1) * DL - a = DL - a % DL := by grind
    rw [this]
    omega
end M9
namespace CK
open PySem PySem.Spec PyProof.Rows L2 VG FR HD M9
def EU (K : PySem.W.Frag) (H : Hp) (a : Addr) (es : List Int) : Prop := ∃ xs, SqT K H a xs ∧ Frs K H xs (es.map U)
theorem EU.mono {K : PySem.W.Frag} {H H' : Hp} {a : Addr} {es : List Int} (s : Same H H') (h : EU K H a es) : EU K H' a es := by
  obtain ⟨xs, h1, h2⟩ := h
  exact ⟨xs, seqT s h1, h2.mono s⟩
/-- a line: its kind, its amount, its whole -/
abbrev Line := Nat × Q2 × Int
def LineAt (K : PySem.W.Frag) (H : Hp) (v : V) (r : Line) : Prop := ∃ t s, v = .ref t ∧ SqT K H t [.int r.1, .ref s, .int r.2.2] ∧ SqT K H s (pV r.2.1)
def Lines (K : PySem.W.Frag) (H : Hp) : List V → List Line → Prop
  | [], [] => True
  | v :: vs, r :: rs => LineAt K H v r ∧ Lines K H vs rs
  | _, _ => False
theorem LineAt.mono {K : PySem.W.Frag} {H H' : Hp} (s : Same H H') {v : V} {r : Line} (h : LineAt K H v r) : LineAt K H' v r := by
  obtain ⟨t, u, e, h1, h2⟩ := h
  exact ⟨t, u, e, seqT s h1, seqT s h2⟩
theorem Lines.mono {K : PySem.W.Frag} {H H' : Hp} (s : Same H H') : ∀ {vs : List V} {rs : List Line}, Lines K H vs rs → Lines K H' vs rs
  | [], [], _ => trivial
  | _ :: _, _ :: _, h => ⟨h.1.mono s, h.2.mono s⟩
  | [], _ :: _, h => h.elim
  | _ :: _, [], h => h.elim
theorem Lines.len {K : PySem.W.Frag} {H : Hp} : ∀ {vs : List V} {rs : List Line}, Lines K H vs rs → vs.length = rs.length
  | [], [], _ => rfl
  | _ :: _, _ :: _, h => by rw [List.length_cons, List.length_cons, h.2.len]
  | [], _ :: _, h => h.elim
  | _ :: _, [], h => h.elim
theorem Lines.get {K : PySem.W.Frag} {H : Hp} : ∀ {vs : List V} {rs : List Line} {i : Nat} {v : V}, Lines K H vs rs → vs[i]? = some v → ∃ r, rs[i]? = some r ∧ LineAt K H v r
  | [], [], _, _, _, h => by simp at h
  | a :: _, r :: _, 0, v, h, e => by
    have e1 : a = v := Option.some.inj e
    subst e1
    exact ⟨r, rfl, h.1⟩
  | _ :: vs, _ :: rs, i + 1, v, h, e => h.2.get (i := i) e
  | [], _ :: _, _, _, h, _ => h.elim
  | _ :: _, [], _, _, h, _ => h.elim
/-- an amount that the laws draw: small, in lowest terms, of the common bottom -/
structure AmtOk (p : Q2) : Prop where
  low : M2.Low p.1 p.2
  dvd : p.2 ∣ DL
  top : p.1.natAbs ≤ 1000000
def lineU (p : Q2) (n : Int) : Int := n * DL - un p
structure LineOk (m : Nat) (r : Line) : Prop where
  kind : r.1 < m
  amt : AmtOk r.2.1
  whole : r.2.2.natAbs ≤ 1000001
  near : (lineU r.2.1 r.2.2).natAbs < 2 ^ 45
def addAt (es : List Int) (k : Nat) (d : Int) : List Int := es.set k (es.getD k 0 + d)
def behU (es : List Int) (r : Line) : List Int := addAt es r.1 (lineU r.2.1 r.2.2)
def errU (m : Nat) (rs : List Line) : List Int := rs.foldl behU (List.replicate m 0)
/-- none further off than so many lines are -/
def Within (n : Nat) (es : List Int) : Prop := ∀ e ∈ es, e.natAbs ≤ n * 2 ^ 45
theorem Within.mono {m n : Nat} (h : m ≤ n) {es : List Int} (w : Within m es) : Within n es := fun e he => Nat.le_trans (w e he) (Nat.mul_le_mul_right _ h)
end CK
namespace CK
open PySem PySem.Spec PyProof.Rows L2 VG FR HD M9
theorem Frs.updL {K : PySem.W.Frag} {H : Hp} {D : Addr} {ys zs : List V} (hD : H D = some (.lst ys)) : ∀ {vs : List V} {ps : List Q2}, Frs K H vs ps → Frs K (L2.upd H D (.lst zs)) vs ps
  | [], [], _ => trivial
  | _ :: _, _ :: _, ⟨⟨t, e1, h⟩, r⟩ => ⟨⟨t, e1, seqT_upd hD h⟩, Frs.updL hD r⟩
  | [], _ :: _, h => h.elim
  | _ :: _, [], h => h.elim
theorem EU.updL {K : PySem.W.Frag} {H : Hp} {D a : Addr} {ys zs : List V} {es : List Int} (hD : H D = some (.lst ys)) (h : EU K H a es) : EU K (L2.upd H D (.lst zs)) a es := by
  obtain ⟨xs, h1, h2⟩ := h
  exact ⟨xs, seqT_upd hD h1, Frs.updL hD h2⟩
/-- errors, one behind another -/
def EUs (K : PySem.W.Frag) (H : Hp) : List V → List (List Int) → Prop
  | [], [] => True
  | v :: vs, e :: es => (∃ u, v = .ref u ∧ EU K H u e) ∧ EUs K H vs es
  | _, _ => False
theorem EUs.mono {K : PySem.W.Frag} {H H' : Hp} (s : Same H H') : ∀ {vs : List V} {rs : List (List Int)}, EUs K H vs rs → EUs K H' vs rs
  | [], [], _ => trivial
  | _ :: _, _ :: _, ⟨⟨u, e, h⟩, r⟩ => ⟨⟨u, e, h.mono s⟩, EUs.mono s r⟩
  | [], _ :: _, h => h.elim
  | _ :: _, [], h => h.elim
theorem EUs.updL {K : PySem.W.Frag} {H : Hp} {D : Addr} {ys zs : List V} (hD : H D = some (.lst ys)) : ∀ {vs : List V} {rs : List (List Int)}, EUs K H vs rs → EUs K (L2.upd H D (.lst zs)) vs rs
  | [], [], _ => trivial
  | _ :: _, _ :: _, ⟨⟨u, e, h⟩, r⟩ => ⟨⟨u, e, h.updL hD⟩, EUs.updL hD r⟩
  | [], _ :: _, h => h.elim
  | _ :: _, [], h => h.elim
theorem EUs.snoc {K : PySem.W.Frag} {H : Hp} {u : Addr} {e : List Int} (hv : EU K H u e) : ∀ {vs : List V} {rs : List (List Int)}, EUs K H vs rs → EUs K H (vs ++ [.ref u]) (rs ++ [e])
  | [], [], _ => ⟨⟨u, rfl, hv⟩, trivial⟩
  | _ :: _, _ :: _, h => ⟨h.1, EUs.snoc hv h.2⟩
  | [], _ :: _, h => h.elim
  | _ :: _, [], h => h.elim
theorem EUs.len {K : PySem.W.Frag} {H : Hp} : ∀ {vs : List V} {rs : List (List Int)}, EUs K H vs rs → vs.length = rs.length
  | [], [], _ => rfl
  | _ :: _, _ :: _, h => by rw [List.length_cons, List.length_cons, EUs.len h.2]
  | [], _ :: _, h => h.elim
  | _ :: _, [], h => h.elim
theorem EUs.get {K : PySem.W.Frag} {H : Hp} : ∀ {vs : List V} {rs : List (List Int)} {i : Nat} {v : V}, EUs K H vs rs → vs[i]? = some v → ∃ u r, v = .ref u ∧ rs[i]? = some r ∧ EU K H u r
  | [], [], _, _, _, h => by simp at h
  | a :: _, r :: _, 0, v, h, e => by
    have e1 : a = v := Option.some.inj e
    subst e1
    obtain ⟨u, e2, q⟩ := h.1
    exact ⟨u, r, e2, rfl, q⟩
  | _ :: vs, _ :: rs, i + 1, v, h, e => EUs.get (i := i) h.2 e
  | [], _ :: _, _, _, h, _ => h.elim
  | _ :: _, [], _, _, h, _ => h.elim
theorem frs_snoc {K : PySem.W.Frag} {H : Hp} {t : Addr} {p : Q2} {vs : List V} {ps : List Q2} (hv : SqT K H t (pV p)) (h : Frs K H vs ps) : Frs K H (vs ++ [.ref t]) (ps ++ [p]) := Frs.snoc hv h
/-- how the errors of totals change with a line -/
def behT (ts : List (List Int)) (xs : List Int) (k : Int) (d : Int) : List Int := (ts.zip xs).map fun p => if p.1.contains k then p.2 + d else p.2
theorem asc_len : ∀ {c : List Int} {a n : Int}, Asc c → (∀ x ∈ c, a ≤ x ∧ x < n) → (c.length : Int) ≤ max 0 (n - a)
  | [], a, n, _, _ => by simp; omega
  | x :: xs, a, n, h, hb => by
    have h1 := hb x List.mem_cons_self
    have t : Asc xs := match xs, h with
      | [], _ => trivial
      | _ :: _, h => h.2
    have ih := asc_len (a := x + 1) (n := n) t fun y hy => ⟨by have := asc_lt h y hy; omega, (hb y (List.mem_cons_of_mem _ hy)).2⟩
    rw [List.length_cons]
    omega
theorem lot_len {m : Nat} {c : List Int} (h : LotOk (m : Int) c) : c.length ≤ m := by
  have := asc_len (a := 0) (n := (m : Int)) h.2.2 h.2.1
  omega
def smallU (es : List Int) : Bool := es.all fun e => decide (-DL < e ∧ e < DL)
def DayIn (K : PySem.W.Frag) (H : Hp) (d : Addr) (m : Nat) (rs : List Line) : Prop := ∃ xs, SqT K H d xs ∧ Lines K H xs rs ∧ (∀ r ∈ rs, LineOk m r) ∧ rs.length ≤ 900
theorem DayIn.mono {K : PySem.W.Frag} {H H' : Hp} {d : Addr} {m : Nat} {rs : List Line} (s : Same H H') (h : DayIn K H d m rs) : DayIn K H' d m rs := by
  obtain ⟨xs, h1, h2, h3⟩ := h
  exact ⟨xs, seqT s h1, h2.mono s, h3⟩
end CK
namespace CK
open PySem PySem.Spec PyProof.Rows L2 VG FR HD M9
end CK
namespace CK
open PySem PySem.Spec PyProof.Rows L2 VG FR HD M9
def choQ (p : Q2) : List Int := if p.1 / p.2 = -(-p.1 / p.2) then [p.1 / p.2] else [p.1 / p.2, -(-p.1 / p.2)]
theorem cho_U (a : Int) : choQ (U a) = choU a := by
  unfold choQ choU
  have e : -(U a).1 / (U a).2 = -a / DL := by
    have := U_floor (-a)
    rw [← neg_U] at this
    exact this
  rw [U_floor, e]
end CK
namespace CK
open PySem PySem.Spec PyProof.Rows L2 VG FR HD M9
end CK
namespace CK
open PySem PySem.Spec PyProof.Rows L2 VG FR HD M9
theorem cho_whole {a : Int} {n : Int} (ha : a.natAbs ≤ 1000000 * DL.natAbs) (h : n ∈ choU a) : n.natAbs ≤ 1000001 := by
  have c := cho_near h
  have d := DL_pos
  have h1 : (n * DL).natAbs ≤ a.natAbs + DL.natAbs := by
    have := Int.natAbs_add_le (n * DL - a) a
    rw [Int.sub_add_cancel] at this
    omega
  rw [Int.natAbs_mul] at h1
  have h2 : n.natAbs * DL.natAbs ≤ 1000001 * DL.natAbs := by omega
  exact Nat.le_of_mul_le_mul_right h2 (by omega)
theorem un_le {p : Q2} (low : M2.Low p.1 p.2) (t : p.1.natAbs ≤ 1000000) : (un p).natAbs ≤ 1000000 * DL.natAbs := by
  unfold un
  rw [Int.natAbs_mul]
  exact Nat.mul_le_mul t (M2.natAbs_div_le DL low.1)
end CK
namespace CK
open PySem PySem.Spec PyProof.Rows L2 VG FR HD M9
end CK
namespace CK
open PySem PySem.Spec PyProof.Rows L2 VG FR HD M9
end CK
namespace CK
open PySem PySem.Spec PyProof.Rows L2 VG FR HD M9
/-- the law's totals: a tuple of lots -/
def TotsIn (K : PySem.W.Frag) (H : Hp) (t : Addr) (m : Nat) (ts : List (List Int)) : Prop := ∃ xs, SqT K H t xs ∧ Tots K H xs ts ∧ ts.length ≤ 12 ∧ ∀ c ∈ ts, LotOk (m : Int) c
theorem TotsIn.mono {K : PySem.W.Frag} {H H' : Hp} {t : Addr} {m : Nat} {ts : List (List Int)} (s : Same H H') (h : TotsIn K H t m ts) : TotsIn K H' t m ts := by
  obtain ⟨xs, h1, h2, h3⟩ := h
  exact ⟨xs, seqT s h1, h2.mono s, h3⟩
theorem rep_one (v : V) : ∀ n : Nat, (List.replicate n [v]).flatten = List.replicate n v
  | 0 => rfl
  | n + 1 => by
    rw [List.replicate_succ, List.flatten_cons, rep_one v n, List.replicate_succ]
    rfl
end CK
namespace CK
open PySem PySem.Spec PyProof.Rows L2 VG FR HD M9
end CK
namespace CK
open PySem PySem.Spec PyProof.Rows L2 VG FR HD M9
theorem same_of {H H' : Hp} {z : Addr} {o : HO} (n : H z = none) (e : L2.upd H z o = H') : Same H H' := e ▸ same_upd n
theorem at_of {H H' : Hp} {z : Addr} {o : HO} (e : L2.upd H z o = H') : H' z = some o := e ▸ upd_same
theorem Tots.take {K : PySem.W.Frag} {H : Hp} : ∀ {xs : List V} {ts : List (List Int)} (n : Nat), Tots K H xs ts → Tots K H (xs.take n) (ts.take n)
  | [], [], 0, _ => trivial
  | [], [], _ + 1, _ => trivial
  | _ :: _, _ :: _, 0, _ => trivial
  | _ :: _, _ :: _, n + 1, h => ⟨h.1, Tots.take n h.2⟩
/-- totals as they are drawn: D lists them -/
structure TotW (K : PySem.W.Frag) (p q : Addr) (G : Hp) (n : Nat) (H : Hp) (D : Addr) (xs : List V) (ts : List (List Int)) (i : Nat) : Prop where
  on : On p q G H
  lst : H D = some (.lst xs)
  tots : Tots K H xs ts
  len : ts.length = i
  ok : ∀ c ∈ ts, LotOk (n : Int) c
section
variable {K : PySem.W.Frag} {p q : Addr} {G H H' : Hp} {n : Nat} {D : Addr} {xs : List V} {ts : List (List Int)} {i : Nat}
theorem TotW.draw (h : TotW K p q G n H D xs ts i) (fD : D ≠ p ∧ D ≠ q) (hd : Hd p q H') (k : Keep p q H H') : TotW K p q G n H' D xs ts i :=
  ⟨h.on.draw hd k, k D _ fD.1 fD.2 h.lst, h.tots.keep h.on.hd k, h.len, h.ok⟩
theorem TotW.same (h : TotW K p q G n H D xs ts i) (s : Same H H') : TotW K p q G n H' D xs ts i := ⟨h.on.same s, s _ _ h.lst, h.tots.mono s, h.len, h.ok⟩
theorem TotW.put (h : TotW K p q G n H D xs ts i) {S : Addr} {ys zs : List V} (f : S ≠ p ∧ S ≠ q ∧ G S = none) (ne : D ≠ S) (k : H S = some (.lst ys)) : TotW K p q G n (L2.upd H S (.lst zs)) D xs ts i :=
  ⟨h.on.put f, by rw [upd_ne ne]; exact h.lst, h.tots.upd k, h.len, h.ok⟩
theorem TotW.add (h : TotW K p q G n H D xs ts i) {t : Addr} {c : List Int} (f : D ≠ p ∧ D ≠ q ∧ G D = none) (ht : SqT K H t (c.map V.int)) (hc : LotOk (n : Int) c) : TotW K p q G n (L2.upd H D (.lst (xs ++ [.ref t]))) D (xs ++ [.ref t]) (ts ++ [c]) (i + 1) :=
  ⟨h.on.put f, upd_same, Tots.upd h.lst (Tots.snoc ht h.tots), by rw [List.length_append, h.len]; rfl, fun d hd => (List.mem_append.mp hd).elim (h.ok d) fun z => by rw [List.mem_singleton.mp z]; exact hc⟩
end
end CK
namespace CK
open PySem PySem.Spec PyProof.Rows L2 VG FR HD M9
end CK
namespace VG
open PySem PySem.Spec PyProof.Rows L2
end VG
namespace CK
open PySem PySem.Spec PyProof.Rows L2 VG FR HD M9
theorem EU.keep {K : PySem.W.Frag} {H H' : Hp} {p q a : Addr} {es : List Int} (hd : Hd p q H) (kp : Keep p q H H') (h : EU K H a es) : EU K H' a es := by
  obtain ⟨xs, h1, h2⟩ := h
  exact ⟨xs, seqTK hd kp h1, h2.keep hd kp⟩
theorem LineAt.keep {K : PySem.W.Frag} {H H' : Hp} {p q : Addr} (hd : Hd p q H) (kp : Keep p q H H') {v : V} {r : Line} (h : LineAt K H v r) : LineAt K H' v r := by
  obtain ⟨t, s, e, h1, h2⟩ := h
  exact ⟨t, s, e, seqTK hd kp h1, seqTK hd kp h2⟩
theorem Lines.keep {K : PySem.W.Frag} {H H' : Hp} {p q : Addr} (hd : Hd p q H) (kp : Keep p q H H') : ∀ {vs : List V} {rs : List Line}, Lines K H vs rs → Lines K H' vs rs
  | [], [], _ => trivial
  | _ :: _, _ :: _, h => ⟨h.1.keep hd kp, Lines.keep hd kp h.2⟩
  | [], _ :: _, h => h.elim
  | _ :: _, [], h => h.elim
theorem Lines.updL {K : PySem.W.Frag} {H : Hp} {D : Addr} {ys zs : List V} (hD : H D = some (.lst ys)) : ∀ {vs : List V} {rs : List Line}, Lines K H vs rs → Lines K (L2.upd H D (.lst zs)) vs rs
  | [], [], _ => trivial
  | _ :: _, _ :: _, h => ⟨by
    obtain ⟨t, s, e, h1, h2⟩ := h.1
    exact ⟨t, s, e, seqT_upd hD h1, seqT_upd hD h2⟩, Lines.updL hD h.2⟩
  | [], _ :: _, h => h.elim
  | _ :: _, [], h => h.elim
theorem Lines.snoc {K : PySem.W.Frag} {H : Hp} {v : V} {r : Line} (hv : LineAt K H v r) : ∀ {vs : List V} {rs : List Line}, Lines K H vs rs → Lines K H (vs ++ [v]) (rs ++ [r])
  | [], [], _ => ⟨hv, trivial⟩
  | _ :: _, _ :: _, h => ⟨h.1, Lines.snoc hv h.2⟩
  | [], _ :: _, h => h.elim
  | _ :: _, [], h => h.elim
theorem line_of {m k : Nat} {p : Q2} {n : Int} (hk : k < m) (ha : AmtOk p) (hn : n ∈ choQ p) : LineOk m (k, p, n) := by
  have hc2 : n ∈ choU (un p) := by
    rw [← cho_U, U_un ha.low ha.dvd]
    exact hn
  exact ⟨hk, ha, cho_whole (un_le ha.low ha.top) hc2, Nat.lt_of_lt_of_le (cho_near hc2) (by decide)⟩
/-- a day as it is drawn: D lists its lines, e the errors behind them -/
structure DayW (K : PySem.W.Frag) (p q : Addr) (G : Hp) (m : Nat) (H : Hp) (D e : Addr) (xs : List V) (rs : List Line) (i : Nat) : Prop where
  on : On p q G H
  lst : H D = some (.lst xs)
  lines : Lines K H xs rs
  len : rs.length = i
  ok : ∀ r ∈ rs, LineOk m r
  err : EU K H e (errU m rs)
section
variable {K : PySem.W.Frag} {p q : Addr} {G H H' : Hp} {m : Nat} {D e : Addr} {xs : List V} {rs : List Line} {i : Nat}
theorem DayW.draw (h : DayW K p q G m H D e xs rs i) (fD : D ≠ p ∧ D ≠ q) (hd : Hd p q H') (k : Keep p q H H') : DayW K p q G m H' D e xs rs i :=
  ⟨h.on.draw hd k, k D _ fD.1 fD.2 h.lst, h.lines.keep h.on.hd k, h.len, h.ok, h.err.keep h.on.hd k⟩
theorem DayW.same (h : DayW K p q G m H D e xs rs i) (s : Same H H') : DayW K p q G m H' D e xs rs i := ⟨h.on.same s, s _ _ h.lst, h.lines.mono s, h.len, h.ok, h.err.mono s⟩
theorem DayW.put (h : DayW K p q G m H D e xs rs i) {S : Addr} {ys zs : List V} (f : S ≠ p ∧ S ≠ q ∧ G S = none) (ne : D ≠ S) (k : H S = some (.lst ys)) : DayW K p q G m (L2.upd H S (.lst zs)) D e xs rs i :=
  ⟨h.on.put f, by rw [upd_ne ne]; exact h.lst, h.lines.updL k, h.len, h.ok, h.err.updL k⟩
end
end CK
namespace VG
open PySem PySem.Spec PyProof.Rows L2
end VG
namespace CK
open PySem PySem.Spec PyProof.Rows L2 VG FR HD
section
variable {X : Cx} {pins : List (Addr × Obj)} {σ : L2.St} {H : Hp} {s : Shared}
mutual
theorem Ov.reads (I : Inv X pins σ H s) : ∀ (d : PyData) (v : V) (u : Value), Ov X.K H v d → RelV v u → ∃ as, Reads s.heap u d as
  | .none, _, _, h, r => by
    cases h
    cases r
    exact ⟨[], Reads.none⟩
  | .bool b, _, _, h, r => by
    cases h
    cases r
    exact ⟨[], Reads.bool b⟩
  | .int i, _, _, h, r => by
    cases h
    obtain ⟨t, rfl⟩ := r
    exact ⟨[], Reads.int i t⟩
  | .str x, _, _, h, r => by
    cases h
    obtain ⟨t, rfl⟩ := r
    exact ⟨[], Reads.str x t⟩
  | .list ds, _, _, h, r => by
    cases h with
    | @lst a xs _ hs ha =>
      cases r
      obtain ⟨its, rv, ⟨o, n, ho, hc, _, hd⟩, _⟩ := I.list (show SqL X.K H a xs from .inl (.inl hs))
      obtain ⟨as, hr⟩ := Ov.readsAll I ds _ its ha rv
      exact ⟨a :: as, Reads.list ho hc hd hr⟩
  | .tuple ds, _, _, h, r => by
    cases h with
    | tup hs ha =>
      cases r
      obtain ⟨its, rv, ⟨o, ho, hc, n, hd⟩, _⟩ := I.tuple hs
      obtain ⟨as, hr⟩ := Ov.readsAll I ds _ its ha rv
      exact ⟨as, Reads.tuple ho hc hd hr⟩
  | .dict kvs, _, _, h, r => by
    cases h with
    | @dct a hs =>
      cases r
      obtain ⟨_, ns, vs, rel, o, es, ep, ho, hx, hd, _, prs, _⟩ := dk_of I.hok hs
      have v0 : vs = [] := by
        cases rel
        rfl
      subst v0
      have e0 : es.toList = [] := List.eq_nil_of_length_eq_zero prs.length
      exact ⟨[a], Reads.dict (h := s.heap) (kvs := []) (as := []) (bs := []) ho hx.1 hd (by rw [e0]; exact ReadsAll.nil) (by rw [e0]; exact ReadsAll.nil)⟩
theorem Ov.readsAll (I : Inv X pins σ H s) : ∀ (ds : List PyData) (vs : List V) (us : List Value), OvAll X.K H vs ds → Vals vs us → ∃ as, ReadsAll s.heap us ds as
  | [], _, _, h, r => by
    cases h
    cases r
    exact ⟨[], ReadsAll.nil⟩
  | d :: ds, _, _, h, r => by
    cases h with
    | cons h1 h2 =>
      cases r with
      | cons r1 r2 =>
        obtain ⟨as, q1⟩ := Ov.reads I d _ _ h1 r1
        obtain ⟨bs, q2⟩ := Ov.readsAll I ds _ _ h2 r2
        exact ⟨as ++ bs, ReadsAll.cons q1 q2⟩
end
end
def ShO (k B : Nat) (d : PyData) : Prop := d.showable = true ∧ d.depth ≤ k ∧ d.shown.length ≤ B
theorem ShO.mono {k B k' B' : Nat} {d : PyData} (h : ShO k B d) (hk : k ≤ k') (hB : B ≤ B') : ShO k' B' d := ⟨h.1, Nat.le_trans h.2.1 hk, Nat.le_trans h.2.2 hB⟩
theorem Shn.o {k B : Nat} {d : PyData} (h : Shn d k B) : ShO k B d := ⟨h.1, h.2.2.1, h.2.2.2⟩
end CK
namespace CK
open PySem PySem.Spec PyProof.Rows L2 VG FR HD M9
/-- how a refusal is told: the line or the day, and where -/
def E9 (IL ID : Addr) (Q : VK) : XK := fun cls d H' =>
  (cls = .ref IL ∧ ∃ (dd : Addr) (v : V), d = some dd ∧ H' dd = some (.xd [("at", v)]) ∧ ∀ H2 u, Same H' H2 → H2 u = some (.tup [.str ("line" : String), v]) → Q (.ref u) H2) ∨
    (cls = .ref ID ∧ ∃ (dd : Addr) (v : V), d = some dd ∧ H' dd = some (.xd [("at", v)]) ∧ ∀ H2 u, Same H' H2 → H2 u = some (.tup [.str ("day" : String), v]) → Q (.ref u) H2)
end CK
namespace CK
open PySem PySem.Spec PyProof.Rows L2 VG FR HD M9
end CK
namespace CK
open PySem PySem.Spec PyProof.Rows L2 VG FR HD M9
/-- what was heard of one -/
def HeardIs (K : PySem.W.Frag) (H : Hp) (z : Str) : Option Int → V → Prop
  | none, w => w = .non
  | some i, w => ∃ u, w = .ref u ∧ SqT K H u [.str z, .int i]
theorem HeardIs.mono {K : PySem.W.Frag} {H H' : Hp} {z : Str} (s : Same H H') : ∀ {o : Option Int} {w : V}, HeardIs K H z o w → HeardIs K H' z o w
  | none, _, h => h
  | some _, _, ⟨u, e, h⟩ => ⟨u, e, seqT s h⟩
theorem seqT_off {K : PySem.W.Frag} {H : Hp} {t : Addr} {xs : List V} (h : SqT K H t xs) : SqT K (offT H) t xs := by
  rcases h with h | h
  · rcases h with h | ⟨ob, h⟩
    · exact .inl (.inl (by unfold offT; rw [h]))
    · exact .inl (.inr ⟨ob, by unfold offT; rw [h]⟩)
  · exact .inr h
theorem offT_over {H H' : Hp} (e : LamX.ExtN H H') : Same (offT H) H' := (offT_no H).over (offT_same H) e
theorem HeardIs.ext {K : PySem.W.Frag} {H H' : Hp} {z : Str} (e : LamX.ExtN H H') : ∀ {o : Option Int} {w : V}, HeardIs K H z o w → HeardIs K H' z o w
  | none, _, h => h
  | some _, _, ⟨u, e1, h⟩ => ⟨u, e1, seqT (offT_over e) (seqT_off h)⟩
theorem HeardIs.updL {K : PySem.W.Frag} {H : Hp} {z : Str} {D : Addr} {ys zs : List V} (hD : H D = some (.lst ys)) : ∀ {o : Option Int} {w : V}, HeardIs K H z o w → HeardIs K (L2.upd H D (.lst zs)) z o w
  | none, _, h => h
  | some _, _, ⟨u, e, h⟩ => ⟨u, e, seqT_upd hD h⟩
theorem E9.line {IL ID x : Addr} {Q : VK} {i : Int} {H : Hp} (hx : H x = some (.xd [((("at" : String) : Str), .int i)])) (h : ∀ H2 u, Same H H2 → H2 u = some (.tup [.str ("line" : String), .int i]) → Q (.ref u) H2) : E9 IL ID Q (.ref IL) (some x) H := .inl ⟨rfl, x, .int i, rfl, hx, h⟩
end CK
namespace CK
open PySem PySem.Spec PyProof.Rows L2 VG FR HD M9
end CK
namespace CK
open PySem PySem.Spec PyProof.Rows L2 VG FR HD M9
/-- values of which something is so -/
def AllP (K : PySem.W.Frag) (F : Hp) (P : PyData → Prop) (vs : List V) : Prop := ∀ v ∈ vs, ∃ d, Ov K F v d ∧ P d
theorem AllP.mono {K : PySem.W.Frag} {F F' : Hp} {P : PyData → Prop} {vs : List V} (s : Same F F') (h : AllP K F P vs) : AllP K F' P vs := fun v hv => by
  obtain ⟨d, a, b⟩ := h v hv
  exact ⟨d, a.mono s, b⟩
/-- pairs, the first of A, the second of B -/
def PrsIn (K : PySem.W.Frag) (H : Hp) (A B ws : List V) : Prop := ∀ w ∈ ws, ∃ z x y, w = .ref z ∧ SqT K H z [x, y] ∧ x ∈ A ∧ y ∈ B
section
variable {K : PySem.W.Frag} {H H' : Hp} {A B ws : List V}
theorem PrsIn.mono (s : Same H H') (h : PrsIn K H A B ws) : PrsIn K H' A B ws := fun w hw => by
  obtain ⟨z, x, y, e, h1, h2⟩ := h w hw
  exact ⟨z, x, y, e, seqT s h1, h2⟩
theorem PrsIn.keep {p q : Addr} (h : PrsIn K H A B ws) (hd : Hd p q H) (kp : Keep p q H H') : PrsIn K H' A B ws := fun w hw => by
  obtain ⟨z, x, y, e, h1, h2⟩ := h w hw
  exact ⟨z, x, y, e, seqTK hd kp h1, h2⟩
theorem PrsIn.updL {D : Addr} {ys zs : List V} (hD : H D = some (.lst ys)) (h : PrsIn K H A B ws) : PrsIn K (L2.upd H D (.lst zs)) A B ws := fun w hw => by
  obtain ⟨z, x, y, e, h1, h2⟩ := h w hw
  exact ⟨z, x, y, e, seqT_upd hD h1, h2⟩
theorem PrsIn.add {z : Addr} {x y : V} (h : PrsIn K H A B ws) (hz : SqT K H z [x, y]) (hx : x ∈ A) (hy : y ∈ B) : PrsIn K H A B (ws ++ [.ref z]) := fun w hw => (List.mem_append.mp hw).elim (h w) fun e => ⟨z, x, y, List.mem_singleton.mp e, hz, hx, hy⟩
end
end CK
namespace CK
open PySem PySem.Spec PyProof.Rows L2 VG FR HD M9
def lineP (r : Line) : PyData := .tuple [.int (r.1 : Int), dQ r.2.1, .int r.2.2]
theorem OvAll.take {K : PySem.W.Frag} {H : Hp} : ∀ {vs : List V} {ds : List PyData} (n : Nat), OvAll K H vs ds → OvAll K H (vs.take n) (ds.take n)
  | _, _, 0, h => by rw [List.take_zero, List.take_zero]; exact .nil
  | _, _, _ + 1, .nil => .nil
  | _, _, n + 1, .cons a r => .cons a (r.take n)
theorem OvAll.drop {K : PySem.W.Frag} {H : Hp} : ∀ {vs : List V} {ds : List PyData} (n : Nat), OvAll K H vs ds → OvAll K H (vs.drop n) (ds.drop n)
  | _, _, 0, h => h
  | _, _, _ + 1, .nil => .nil
  | _, _, n + 1, .cons a r => r.drop n
/-- days of which one item is another one of B -/
def RowsIn (K : PySem.W.Frag) (H : Hp) (xs : List V) (a : Nat) (B ws : List V) : Prop := ∀ w ∈ ws, ∃ z y, w = .ref z ∧ SqT K H z (xs.take a ++ [y] ++ xs.drop (a + 1)) ∧ y ∈ B
section
variable {K : PySem.W.Frag} {H H' : Hp} {xs B ws : List V} {a : Nat}
theorem RowsIn.mono (s : Same H H') (h : RowsIn K H xs a B ws) : RowsIn K H' xs a B ws := fun w hw => by
  obtain ⟨z, y, e, h1, h2⟩ := h w hw
  exact ⟨z, y, e, seqT s h1, h2⟩
theorem RowsIn.keep {p q : Addr} (h : RowsIn K H xs a B ws) (hd : Hd p q H) (kp : Keep p q H H') : RowsIn K H' xs a B ws := fun w hw => by
  obtain ⟨z, y, e, h1, h2⟩ := h w hw
  exact ⟨z, y, e, seqTK hd kp h1, h2⟩
theorem RowsIn.updL {D : Addr} {ys zs : List V} (hD : H D = some (.lst ys)) (h : RowsIn K H xs a B ws) : RowsIn K (L2.upd H D (.lst zs)) xs a B ws := fun w hw => by
  obtain ⟨z, y, e, h1, h2⟩ := h w hw
  exact ⟨z, y, e, seqT_upd hD h1, h2⟩
theorem RowsIn.add {z : Addr} {y : V} (h : RowsIn K H xs a B ws) (hz : SqT K H z (xs.take a ++ [y] ++ xs.drop (a + 1))) (hy : y ∈ B) : RowsIn K H xs a B (ws ++ [.ref z]) := fun w hw => (List.mem_append.mp hw).elim (h w) fun e => ⟨z, y, List.mem_singleton.mp e, hz, hy⟩
end
end CK
namespace CK
open PySem PySem.Spec PyProof.Rows L2 VG FR HD M9
end CK
namespace CK
open PySem PySem.Spec PyProof.Rows L2 VG FR HD M9
theorem seqT_ext {K : PySem.W.Frag} {F F' : Hp} (e : LamX.ExtN F F') {t : Addr} {xs : List V} (h : SqT K F t xs) : SqT K F' t xs := by
  rcases h with h | h
  · rcases h with h | ⟨ob, h⟩
    · exact .inl (.inl (e _ _ h fun _ z => by cases z))
    · exact .inl (.inr ⟨ob, e _ _ h fun _ z => by cases z⟩)
  · exact .inr h
mutual
theorem Ov.ext {K : PySem.W.Frag} {F F' : Hp} (e : LamX.ExtN F F') : ∀ {v : V} {d : PyData}, Ov K F v d → Ov K F' v d
  | _, _, .non => .non
  | _, _, .bl b => .bl b
  | _, _, .int i => .int i
  | _, _, .str x => .str x
  | _, _, .dct h => .dct (e _ _ h fun _ z => by cases z)
  | _, _, .lst h r => .lst (e _ _ h fun _ z => by cases z) (OvAll.ext e r)
  | _, _, .tup h r => .tup (seqT_ext e h) (OvAll.ext e r)
theorem OvAll.ext {K : PySem.W.Frag} {F F' : Hp} (e : LamX.ExtN F F') : ∀ {vs : List V} {ds : List PyData}, OvAll K F vs ds → OvAll K F' vs ds
  | _, _, .nil => .nil
  | _, _, .cons h r => .cons (Ov.ext e h) (OvAll.ext e r)
end
theorem sqL_gb {K : PySem.W.Frag} {p q a : Addr} {H H' : Hp} {xs : List V} (np : H p = none) (nq : H q = none) (s : Same H H') (h : SqL K H a xs) : SqL K (GB p q H') a xs := by
  rcases h with h | h
  · rcases h with h | ⟨ob, h⟩
    · exact .inl (.inl (gb_at (s _ _ h) ⟨ne_of_none h np, ne_of_none h nq⟩ fun _ z => by cases z))
    · exact .inl (.inr ⟨ob, gb_at (s _ _ h) ⟨ne_of_none h np, ne_of_none h nq⟩ fun _ z => by cases z⟩)
  · exact .inr h
def kX : List Str := ["cup", "jam", "tea"]
def tX : List (List Int) := [[0, 1, 2], [0, 2], [1, 2]]
theorem okX : TabOk kX tX := ⟨kinds_dec (by decide) (by decide +kernel) (by decide +kernel), by decide, fun c hc => lot_dec (List.all_eq_true.mp (by decide +kernel : tX.all (lotB (kX.length : Int)) = true) c hc)⟩
end CK
namespace CK
open PySem PySem.Spec PyProof.Rows L2 VG FR HD M9
end CK
namespace CK
open PySem PySem.Spec PyProof.Rows L2 VG FR HD M9
def LR {α : Type} (R : V → α → Prop) : List V → List α → Prop
  | [], [] => True
  | v :: vs, r :: rs => R v r ∧ LR R vs rs
  | _, _ => False
theorem LR.imp {α : Type} {R R' : V → α → Prop} (h : ∀ v r, R v r → R' v r) : ∀ {vs : List V} {rs : List α}, LR R vs rs → LR R' vs rs
  | [], [], _ => trivial
  | _ :: _, _ :: _, q => ⟨h _ _ q.1, LR.imp h q.2⟩
  | [], _ :: _, q => q.elim
  | _ :: _, [], q => q.elim
theorem LR.len {α : Type} {R : V → α → Prop} : ∀ {vs : List V} {rs : List α}, LR R vs rs → vs.length = rs.length
  | [], [], _ => rfl
  | _ :: _, _ :: _, q => by rw [List.length_cons, List.length_cons, LR.len q.2]
  | [], _ :: _, q => q.elim
  | _ :: _, [], q => q.elim
theorem LR.get {α : Type} {R : V → α → Prop} : ∀ {vs : List V} {rs : List α} {i : Nat} {v : V}, LR R vs rs → vs[i]? = some v → ∃ r, rs[i]? = some r ∧ R v r
  | [], [], _, _, _, h => by simp at h
  | a :: _, r :: _, 0, v, h, e => by
    have e1 : a = v := Option.some.inj e
    subst e1
    exact ⟨r, rfl, h.1⟩
  | _ :: vs, _ :: rs, i + 1, v, h, e => LR.get (i := i) h.2 e
  | [], _ :: _, _, _, h, _ => h.elim
  | _ :: _, [], _, _, h, _ => h.elim
theorem LR.append {α : Type} {R : V → α → Prop} : ∀ {vs : List V} {rs : List α} {ws : List V} {ss : List α}, LR R vs rs → LR R ws ss → LR R (vs ++ ws) (rs ++ ss)
  | [], [], _, _, _, q => q
  | _ :: _, _ :: _, _, _, p, q => ⟨p.1, LR.append p.2 q⟩
  | [], _ :: _, _, _, h, _ => h.elim
  | _ :: _, [], _, _, h, _ => h.elim
theorem LR.map {α β : Type} {R : V → α → Prop} {R' : V → β → Prop} {f : V → V} {g : α → β} (h : ∀ v r, R v r → R' (f v) (g r)) : ∀ {vs : List V} {rs : List α}, LR R vs rs → LR R' (vs.map f) (rs.map g)
  | [], [], _ => trivial
  | _ :: _, _ :: _, q => ⟨h _ _ q.1, LR.map h q.2⟩
  | [], _ :: _, q => q.elim
  | _ :: _, [], q => q.elim
theorem LR.take {α : Type} {R : V → α → Prop} : ∀ {vs : List V} {rs : List α} (n : Nat), LR R vs rs → LR R (vs.take n) (rs.take n)
  | _, _, 0, _ => trivial
  | [], [], _ + 1, _ => trivial
  | _ :: _, _ :: _, n + 1, q => ⟨q.1, LR.take n q.2⟩
  | [], _ :: _, _ + 1, q => q.elim
  | _ :: _, [], _ + 1, q => q.elim
abbrev Told := Nat × Q2
def TdAt (K : PySem.W.Frag) (H : Hp) (v : V) (l : Told) : Prop := ∃ t s, v = .ref t ∧ SqT K H t [.int l.1, .ref s] ∧ SqT K H s (pV l.2)
theorem TdAt.mono {K : PySem.W.Frag} {H H' : Hp} (s : Same H H') {v : V} {l : Told} (h : TdAt K H v l) : TdAt K H' v l := by
  obtain ⟨t, u, e, h1, h2⟩ := h
  exact ⟨t, u, e, seqT s h1, seqT s h2⟩
structure TdOk (m : Nat) (l : Told) : Prop where
  kind : l.1 < m
  amt : AmtOk l.2
def ToldIn (K : PySem.W.Frag) (H : Hp) (a : Addr) (m : Nat) (ls : List Told) : Prop := ∃ xs, SqT K H a xs ∧ LR (TdAt K H) xs ls ∧ ∀ l ∈ ls, TdOk m l
theorem ToldIn.mono {K : PySem.W.Frag} {H H' : Hp} (s : Same H H') {a : Addr} {m : Nat} {ls : List Told} (h : ToldIn K H a m ls) : ToldIn K H' a m ls := by
  obtain ⟨xs, h1, h2, h3⟩ := h
  exact ⟨xs, seqT s h1, h2.imp fun _ _ q => q.mono s, h3⟩
def DayT (K : PySem.W.Frag) (H : Hp) (d : Addr) (rs : List Line) : Prop := ∃ xs, SqT K H d xs ∧ Lines K H xs rs
theorem DayT.mono {K : PySem.W.Frag} {H H' : Hp} (s : Same H H') {d : Addr} {rs : List Line} (h : DayT K H d rs) : DayT K H' d rs := by
  obtain ⟨xs, h1, h2⟩ := h
  exact ⟨xs, seqT s h1, h2.mono s⟩
theorem DayT.updL {K : PySem.W.Frag} {H : Hp} {D d : Addr} {ys zs : List V} {rs : List Line} (hD : H D = some (.lst ys)) (h : DayT K H d rs) : DayT K (L2.upd H D (.lst zs)) d rs := by
  obtain ⟨xs, h1, h2⟩ := h
  exact ⟨xs, seqT_upd hD h1, Lines.updL hD h2⟩
def DayV (K : PySem.W.Frag) (H : Hp) (v : V) (rs : List Line) : Prop := ∃ d, v = .ref d ∧ DayT K H d rs
theorem DayV.mono {K : PySem.W.Frag} {H H' : Hp} (s : Same H H') {v : V} {rs : List Line} (h : DayV K H v rs) : DayV K H' v rs := by
  obtain ⟨d, e, h⟩ := h
  exact ⟨d, e, h.mono s⟩
theorem DayV.updL {K : PySem.W.Frag} {H : Hp} {D : Addr} {v : V} {ys zs : List V} {rs : List Line} (hD : H D = some (.lst ys)) (h : DayV K H v rs) : DayV K (L2.upd H D (.lst zs)) v rs := by
  obtain ⟨d, e, h⟩ := h
  exact ⟨d, e, h.updL hD⟩
abbrev KSt := List Line × List Int
def KAt (K : PySem.W.Frag) (H : Hp) (v : V) (st : KSt) : Prop := ∃ t d e, v = .ref t ∧ SqT K H t [.ref d, .ref e] ∧ DayT K H d st.1 ∧ EU K H e st.2
theorem KAt.mono {K : PySem.W.Frag} {H H' : Hp} (s : Same H H') {v : V} {st : KSt} (h : KAt K H v st) : KAt K H' v st := by
  obtain ⟨t, d, e, r, h1, h2, h3⟩ := h
  exact ⟨t, d, e, r, seqT s h1, h2.mono s, h3.mono s⟩
theorem KAt.updL {K : PySem.W.Frag} {H : Hp} {D : Addr} {v : V} {ys zs : List V} {st : KSt} (hD : H D = some (.lst ys)) (h : KAt K H v st) : KAt K (L2.upd H D (.lst zs)) v st := by
  obtain ⟨t, d, e, r, h1, h2, h3⟩ := h
  exact ⟨t, d, e, r, seqT_upd hD h1, h2.updL hD, h3.updL hD⟩
def oneK (ts : List (List Int)) (l : Told) (st : KSt) (n : Int) : List KSt := if smallU (behT ts st.2 (l.1 : Int) (lineU l.2 n)) then [(st.1 ++ [(l.1, l.2, n)], behT ts st.2 (l.1 : Int) (lineU l.2 n))] else []
def dayK (ts : List (List Int)) (l : Told) (st : KSt) : List KSt := (choQ l.2).flatMap (oneK ts l st)
def stepK (ts : List (List Int)) (found : List KSt) (l : Told) : List KSt := found.flatMap (dayK ts l)
def runK (ts : List (List Int)) (ls : List Told) : List KSt := ls.foldl (stepK ts) [([], List.replicate ts.length 0)]
def keptU (ts : List (List Int)) (ls : List Told) : List (List Line) := (runK ts ls).map (·.1)
structure KOk (m n : Nat) (ts : List (List Int)) (st : KSt) : Prop where
  len : st.2.length = ts.length
  near : ∀ x ∈ st.2, -DL < x ∧ x < DL
  many : st.1.length = n
  lines : ∀ r ∈ st.1, LineOk m r
theorem behT_len {ts : List (List Int)} {es : List Int} {k d : Int} (h : es.length = ts.length) : (behT ts es k d).length = ts.length := by
  unfold behT
  rw [List.length_map, List.length_zip]
  omega
theorem small_mem {es : List Int} (h : smallU es = true) : ∀ x ∈ es, -DL < x ∧ x < DL := fun x hx => of_decide_eq_true (List.all_eq_true.mp h x hx)
theorem KOk.one {m n : Nat} {ts : List (List Int)} {st : KSt} {l : Told} {z : Int} (h : KOk m n ts st) (hl : TdOk m l) (hz : z ∈ choQ l.2) : ∀ x ∈ oneK ts l st z, KOk m (n + 1) ts x := fun x hx => by
  unfold oneK at hx
  split at hx
  · rename_i hs
    rw [List.mem_singleton.mp hx]
    refine ⟨behT_len h.len, small_mem hs, by rw [List.length_append, h.many]; rfl, fun r hr => ?_⟩
    rcases List.mem_append.mp hr with q | q
    · exact h.lines r q
    · rw [List.mem_singleton.mp q]
      exact line_of hl.kind hl.amt hz
  · cases hx
def DaysT (K : PySem.W.Frag) (H : Hp) (a : Addr) (ds : List (List Line)) : Prop := ∃ xs, SqT K H a xs ∧ LR (DayV K H) xs ds
theorem DaysT.mono {K : PySem.W.Frag} {H H' : Hp} (s : Same H H') {a : Addr} {ds : List (List Line)} (h : DaysT K H a ds) : DaysT K H' a ds := by
  obtain ⟨xs, h1, h2⟩ := h
  exact ⟨xs, seqT s h1, h2.imp fun _ _ q => q.mono s⟩
end CK
namespace CK
open PySem PySem.Spec PyProof.Rows L2 VG FR HD M9
/-- a small amount -/
structure AmtS (p : Q2) : Prop where
  ok : AmtOk p
  top : p.1.natAbs ≤ 40
  bot : p.2 ≤ 6
end CK
namespace CK
open PySem PySem.Spec PyProof.Rows L2 VG FR HD M9
/-- a line of a small amount, rounded -/
structure RowS (m : Nat) (r : Line) : Prop where
  kind : r.1 < m
  amt : AmtS r.2.1
  whole : r.2.2 ∈ choQ r.2.1
theorem RowS.ok {m : Nat} {r : Line} (h : RowS m r) : LineOk m r := line_of h.kind h.amt.ok h.whole
structure TdS (m : Nat) (l : Told) : Prop where
  kind : l.1 < m
  amt : AmtS l.2
end CK
namespace CK
open PySem PySem.Spec PyProof.Rows L2 VG FR HD M9
end CK
namespace VG
open PySem PySem.Spec PyProof.Rows L2
end VG
namespace CK
open PySem PySem.Spec PyProof.Rows L2 VG FR HD M9
theorem lay_map {α : Type} {f : α → PyData} {k : Nat} (h : ∀ x, (f x).canLay0 = true ∧ (f x).depth ≤ k) : ∀ l : List α, PyData.canLayAll0 (l.map f) = true ∧ PyData.depthAll (l.map f) ≤ k
  | [] => ⟨by simp [PyData.canLayAll0], by simp [PyData.depthAll]⟩
  | x :: l => by
    have ⟨a, b⟩ := h x
    have ⟨c, d⟩ := lay_map h l
    refine ⟨?_, ?_⟩
    · rw [List.map_cons, PyData.canLayAll0, a, c]
      rfl
    · rw [List.map_cons, PyData.depthAll]
      omega
end CK
namespace CK
open PySem PySem.Spec PyProof.Rows L2 VG FR HD M9
theorem LR.dropLast {α : Type} {R : V → α → Prop} {vs : List V} {rs : List α} (h : LR R vs rs) : LR R vs.dropLast rs.dropLast := by
  rw [List.dropLast_eq_take, List.dropLast_eq_take, h.len]
  exact h.take _
theorem DayT.frz {K : PySem.W.Frag} {p q : Addr} {H : Hp} (hd : Hd p q H) {d : Addr} {rs : List Line} (h : DayT K H d rs) : DayT K (frz p q H) d rs := by
  obtain ⟨xs, h1, h2⟩ := h
  refine ⟨xs, seqTK hd keep_frz h1, ?_⟩
  have key : ∀ (vs : List V) (rs : List Line), Lines K H vs rs → Lines K (FR.frz p q H) vs rs := by
    intro vs
    induction vs with
    | nil =>
      intro rs h
      cases rs with
      | nil => trivial
      | cons r rs => exact h.elim
    | cons v vs ih =>
      intro rs h
      cases rs with
      | nil => exact h.elim
      | cons r rs =>
        obtain ⟨⟨t, s, e, a, b⟩, c⟩ := h
        exact ⟨⟨t, s, e, seqTK hd keep_frz a, seqTK hd keep_frz b⟩, ih rs c⟩
  exact key xs rs h2
theorem DayV.frz {K : PySem.W.Frag} {p q : Addr} {H : Hp} (hd : Hd p q H) {v : V} {rs : List Line} (h : DayV K H v rs) : DayV K (FR.frz p q H) v rs := by
  obtain ⟨d, e, h⟩ := h
  exact ⟨d, e, h.frz hd⟩
theorem DaysT.frz {K : PySem.W.Frag} {p q : Addr} {H : Hp} (hd : Hd p q H) {a : Addr} {ds : List (List Line)} (h : DaysT K H a ds) : DaysT K (FR.frz p q H) a ds := by
  obtain ⟨xs, h1, h2⟩ := h
  exact ⟨xs, seqTK hd keep_frz h1, h2.imp fun _ _ q => q.frz hd⟩
/-- told lines of small amounts -/
def SmallIn (K : PySem.W.Frag) (H : Hp) (a : Addr) (m : Nat) (ls : List Told) : Prop := ∃ xs, SqT K H a xs ∧ LR (TdAt K H) xs ls ∧ ∀ l ∈ ls, TdS m l
theorem SmallIn.mono {K : PySem.W.Frag} {H H' : Hp} (s : Same H H') {a : Addr} {m : Nat} {ls : List Told} (h : SmallIn K H a m ls) : SmallIn K H' a m ls := by
  obtain ⟨xs, h1, h2, h3⟩ := h
  exact ⟨xs, seqT s h1, h2.imp fun _ _ q => q.mono s, h3⟩
end CK
namespace DS
open PySem PySem.Spec PyProof.Rows L2 VG FR CK HD M9 TU Srt
def LineIs (h : Heap) (v : Value) (l : Told) (n : Int) : Prop := ∃ (t u : Addr) (T1 T2 T3 T4 : Tok), v = .ref t ∧ h.IsTuple t #[.int (l.1 : Int) T1, .ref u, .int n T2] ∧ h.IsTuple u #[.int l.2.1 T3, .int l.2.2 T4]
inductive LinesAre (h : Heap) : List Value → List Told → List Int → Prop
  | nil : LinesAre h [] [] []
  | cons {v : Value} {vs : List Value} {l : Told} {fr : List Told} {n : Int} {ns : List Int} : LineIs h v l n → LinesAre h vs fr ns → LinesAre h (v :: vs) (l :: fr) (n :: ns)
def DayIs (h : Heap) (v : Value) (fr : List Told) (ns : List Int) : Prop := ∃ (a : Addr) (xs : Array Value), v = .ref a ∧ h.IsTuple a xs ∧ LinesAre h xs.toList fr ns
abbrev Kp (h h' : Heap) : Prop := ∀ b o, h.get? b = some o → o.cls = .type "tuple" → h'.get? b = some o
theorem tup_keeps {h h' : Heap} {a : Addr} {xs : Array Value} (k : Kp h h') (x : h.IsTuple a xs) : h'.IsTuple a xs := by
  obtain ⟨o, ho, hc, r⟩ := x
  exact ⟨o, k _ _ ho hc, hc, r⟩
theorem LineIs.keeps {h h' : Heap} (k : Kp h h') {v : Value} {l : Told} {n : Int} (x : LineIs h v l n) : LineIs h' v l n := by
  obtain ⟨t, u, T1, T2, T3, T4, e, a, b⟩ := x
  exact ⟨t, u, T1, T2, T3, T4, e, tup_keeps k a, tup_keeps k b⟩
theorem LinesAre.keeps {h h' : Heap} (k : Kp h h') : ∀ {vs : List Value} {fr : List Told} {ns : List Int}, LinesAre h vs fr ns → LinesAre h' vs fr ns
  | _, _, _, .nil => .nil
  | _, _, _, .cons a r => .cons (a.keeps k) (r.keeps k)
theorem DayIs.keeps {h h' : Heap} (k : Kp h h') {v : Value} {fr : List Told} {ns : List Int} (x : DayIs h v fr ns) : DayIs h' v fr ns := by
  obtain ⟨a, xs, e, t, r⟩ := x
  exact ⟨a, xs, e, tup_keeps k t, r.keeps k⟩
section
variable {prog : Program} {w : World} {A : Around} {E : Value → Shared → Prop} {s : Shared}
theorem amt_reads {h : Heap} {u : Addr} {p : Q2} {T3 T4 : Tok} (b : h.IsTuple u #[.int p.1 T3, .int p.2 T4]) : ∃ as, Reads h (.ref u) (dQ p) as := by
  obtain ⟨o, ho, hc, m, hd⟩ := b
  exact ⟨_, Reads.tuple ho hc hd (ReadsAll.cons (Reads.int _ _) (ReadsAll.cons (Reads.int _ _) ReadsAll.nil))⟩
theorem LineIs.reads {h : Heap} {v : Value} {l : Told} {n : Int} (x : LineIs h v l n) : ∃ as, Reads h v (lineP (l.1, l.2, n)) as := by
  obtain ⟨t, u, T1, T2, T3, T4, rfl, ⟨o, ho, hc, m, hd⟩, b⟩ := x
  obtain ⟨as, r⟩ := amt_reads b
  exact ⟨_, Reads.tuple ho hc hd (ReadsAll.cons (Reads.int _ _) (ReadsAll.cons r (ReadsAll.cons (Reads.int _ _) ReadsAll.nil)))⟩
theorem LinesAre.size {h : Heap} : ∀ {vs : List Value} {fr : List Told} {ns : List Int}, LinesAre h vs fr ns → vs.length = fr.length ∧ ns.length = fr.length
  | _, _, _, .nil => ⟨rfl, rfl⟩
  | _, _, _, .cons _ r => by
    have := r.size
    simp only [List.length_cons]
    omega
end
end DS
namespace L2
open PySem PySem.Spec PyProof.Rows VG FR CK HD M9
def whole (rs : List Line) : List Int := rs.map fun r => r.2.2
end L2
namespace CK
open PySem PySem.Spec PyProof.Rows L2 VG FR HD M9
theorem low_neg {a b : Int} (h : M2.Low a b) : M2.Low (0 - a) b := by
  obtain ⟨h1, h2⟩ := h
  refine ⟨h1, ?_⟩
  unfold M2.g at h2 ⊢
  rw [Int.zero_sub, Int.natAbs_neg]
  exact h2
end CK
namespace CK
open PySem PySem.Spec PyProof.Rows L2 VG FR HD M9 TU
end CK
namespace VG
open PySem PySem.Spec PyProof.Rows L2
end VG
namespace CK
open PySem PySem.Spec PyProof.Rows L2 VG FR HD M9 TU
theorem TdAt.updL {K : PySem.W.Frag} {H : Hp} {D : Addr} {v : V} {ys zs : List V} {l : Told} (hD : H D = some (.lst ys)) (h : TdAt K H v l) : TdAt K (L2.upd H D (.lst zs)) v l := by
  obtain ⟨t, u, e, h1, h2⟩ := h
  exact ⟨t, u, e, seqT_upd hD h1, seqT_upd hD h2⟩
theorem LR.reverse {α : Type} {R : V → α → Prop} : ∀ {vs : List V} {rs : List α}, LR R vs rs → LR R vs.reverse rs.reverse
  | [], [], _ => trivial
  | v :: vs, r :: rs, h => by
    rw [List.reverse_cons, List.reverse_cons]
    exact (LR.reverse h.2).append (show LR R [v] [r] from ⟨h.1, trivial⟩)
  | [], _ :: _, h => h.elim
  | _ :: _, [], h => h.elim
theorem units20 {k : Nat} {A : Around} (hr : Room k A) : A.units + 20 < cLine := by
  have := hr.un
  omega
end CK
namespace CK
open PySem PySem.Spec PyProof.Rows L2 VG FR HD M9
theorem ex2 : keptU tX [] = [[]] := by decide +kernel
end CK
namespace VG
open PySem PySem.Spec PyProof.Rows L2
mutual
def Nums : NestedKey → Prop
  | .num _ => True
  | .tup ks => NumsA ks
  | .none => False
  | .text _ => False
def NumsA : List NestedKey → Prop
  | [] => True
  | k :: ks => Nums k ∧ NumsA ks
end
/-- b is such a tuple, not too deep -/
def KeyA (h : Heap) (k : NestedKey) (b : Addr) : Prop := NestedIs h k (.ref b) ∧ k.depth ≤ 8 ∧ Nums k
section
variable {P : Program} {w : World} {A : Around} {E : Value → Shared → Prop} {s : Shared}
/-- a question that a value answers so, wherever it is asked -/
def Says (P : Program) (w : World) (f : Value → Sem Bool) (b : Bool) (s : Shared) (v : Value) : Prop := ∀ (A : Around) (E : Value → Shared → Prop) (Q : Bool → Shared → Prop), Q b s → wpAny (model P w) A (f v) Q E s
theorem hash_tupN {n : Nat} {a : Addr} {o : Obj} {vs : Array Value} {m : Nat} (at_ : s.heap.get? a = some o) (oc : o.cls = .type "tuple") (od : o.data = .seq vs m) (all : ∀ v ∈ vs.toList, Says P w (hashByValue n) true s v) : Says P w (hashByValue (n + 1)) true s (.ref a) := fun A E Q fin => by
  unfold hashByValue
  refine wpAny_bind (wpAny_specialOf (T := "tuple") ⟨o, at_, oc⟩ F.slot_tuple_hash.lookup ?_)
  show wpAny _ _ (seqItems? (.ref a) >>= fun _ => _) _ _ s
  refine wpAny_bind (wpAny_seqItems at_ od (wpAny_bind ?_))
  show wpAny _ _ (forIn vs (none, ()) _) _ _ s
  rw [← Array.forIn_toList]
  refine wpAny_forIn_list _ (fun left r z => r.1 = none ∧ z = s ∧ ∀ v ∈ left, Says P w (hashByValue n) true s v) _ (fun v left r z got => ?_) (fun r z got => ?_) _ _ ⟨rfl, rfl, all⟩
  · obtain ⟨_, rfl, each⟩ := got
    refine wpAny_bind (each v List.mem_cons_self _ _ _ ?_)
    simp only [Bool.not_true, Bool.false_eq_true, if_false]
    exact wpAny_pure ⟨rfl, rfl, fun u m => each u (List.mem_cons_of_mem _ m)⟩
  · obtain ⟨r1, r2⟩ := r
    obtain ⟨z1, rfl, _⟩ := got
    simp only at z1
    subst z1
    exact wpAny_pure fin
theorem class_tupN {n : Nat} {a : Addr} {o : Obj} {vs : Array Value} {m : Nat} (at_ : s.heap.get? a = some o) (oc : o.cls = .type "tuple") (od : o.data = .seq vs m) (all : ∀ v ∈ vs.toList, Says P w (ofAClassStatement n) false s v) : Says P w (ofAClassStatement (n + 1)) false s (.ref a) := fun A E Q fin => by
  unfold ofAClassStatement
  refine wpAny_bind (wpAny_typeOf (T := "tuple") ⟨o, at_, oc⟩ ?_)
  dsimp only
  simp only [show (("tuple" : String) == "tuple") = true from by decide, if_true, Bool.not_true, Bool.false_eq_true, if_false]
  try refine wpAny_bind (wpAny_pure ?_)
  try simp only [Bool.not_true, Bool.false_eq_true, if_false]
  show wpAny _ _ (seqItems? (.ref a) >>= fun _ => _) _ _ s
  refine wpAny_bind (wpAny_seqItems at_ od ?_)
  dsimp only
  refine wpAny_bind ?_
  show wpAny _ _ (forIn vs (none, ()) _) _ _ s
  rw [← Array.forIn_toList]
  refine wpAny_forIn_list _ (fun left r z => r.1 = none ∧ z = s ∧ ∀ v ∈ left, Says P w (ofAClassStatement n) false s v) _ (fun v left r z got => ?_) (fun r z got => ?_) _ _ ⟨rfl, rfl, all⟩
  · obtain ⟨_, rfl, each⟩ := got
    refine wpAny_bind (each v List.mem_cons_self _ _ _ ?_)
    simp only [Bool.false_eq_true, if_false]
    exact wpAny_pure ⟨rfl, rfl, fun u m => each u (List.mem_cons_of_mem _ m)⟩
  · obtain ⟨r1, r2⟩ := r
    obtain ⟨z1, rfl, _⟩ := got
    simp only at z1
    subst z1
    exact wpAny_pure fin
theorem hash_val {n : Nat} {v : Value} (h : hashByValue n v = pure true) : Says P w (hashByValue n) true s v := fun A E Q fin => by
  rw [h]
  exact wpAny_pure fin
theorem class_val {n : Nat} {v : Value} (h : ofAClassStatement n v = pure false) : Says P w (ofAClassStatement n) false s v := fun A E Q fin => by
  rw [h]
  exact wpAny_pure fin
mutual
theorem says_hash : ∀ (k : NestedKey) (v : Value) (n : Nat), NestedIs s.heap k v → k.depth ≤ n → Nums k → Says P w (hashByValue n) true s v
  | .num i, _, n, x, _, _ => by cases x <;> exact hash_val (by cases n <;> rfl)
  | .tup ks, _, n, x, d, nm => by
    cases x with
    | tup a1 a2 a3 a4 =>
      simp only [NestedKey.depth] at d
      cases n with
      | zero => omega
      | succ n => exact hash_tupN a1 a2 a3 (says_hashes ks _ n a4 (by omega) nm)
theorem says_hashes : ∀ (ks : List NestedKey) (vs : List Value) (n : Nat), NestedAll s.heap ks vs → NestedKey.depthAll ks ≤ n → NumsA ks → ∀ v ∈ vs, Says P w (hashByValue n) true s v
  | [], _, n, x, _, _, v, m => by cases x; cases m
  | k :: ks, _, n, x, d, nm, v, m => by
    cases x with
    | cons x1 x2 =>
      simp only [NestedKey.depthAll] at d
      rcases List.mem_cons.mp m with e | m
      · rw [e]; exact says_hash k _ n x1 (by omega) nm.1
      · exact says_hashes ks _ n x2 (by omega) nm.2 v m
end
mutual
theorem says_class : ∀ (k : NestedKey) (v : Value) (n : Nat), NestedIs s.heap k v → k.depth ≤ n → Nums k → Says P w (ofAClassStatement n) false s v
  | .num i, _, n, x, _, _ => by cases x <;> exact class_val (by cases n <;> rfl)
  | .tup ks, _, n, x, d, nm => by
    cases x with
    | tup a1 a2 a3 a4 =>
      simp only [NestedKey.depth] at d
      cases n with
      | zero => omega
      | succ n => exact class_tupN a1 a2 a3 (says_classes ks _ n a4 (by omega) nm)
theorem says_classes : ∀ (ks : List NestedKey) (vs : List Value) (n : Nat), NestedAll s.heap ks vs → NestedKey.depthAll ks ≤ n → NumsA ks → ∀ v ∈ vs, Says P w (ofAClassStatement n) false s v
  | [], _, n, x, _, _, v, m => by cases x; cases m
  | k :: ks, _, n, x, d, nm, v, m => by
    cases x with
    | cons x1 x2 =>
      simp only [NestedKey.depthAll] at d
      rcases List.mem_cons.mp m with e | m
      · rw [e]; exact says_class k _ n x1 (by omega) nm.1
      · exact says_classes ks _ n x2 (by omega) nm.2 v m
end
/-- such a search shows nothing -/
theorem unseenN {k : NestedKey} {b : Addr} {Q : Bool → Shared → Prop} (x : KeyA s.heap k b) {ys : List Value} (all : ∀ y ∈ ys, ∃ k' c, y = Value.ref c ∧ KeyA s.heap k' c) (fin : Q false s) : wpAny (model P w) A (searchCouldBeSeen (.ref b) ys) Q E s := by
  unfold searchCouldBeSeen
  refine wpAny_bind ?_
  refine wpAny_forIn_list _ (fun left r z => r.1 = none ∧ z = s ∧ ∀ y ∈ left, ∃ k' c, y = Value.ref c ∧ KeyA s.heap k' c) _ (fun y left r z got => ?_) (fun r z got => ?_) _ _ ⟨rfl, rfl, all⟩
  · obtain ⟨_, rfl, each⟩ := got
    obtain ⟨k2, c, rfl, y⟩ := each y List.mem_cons_self
    have more : ∀ y ∈ left, ∃ k' c, y = Value.ref c ∧ KeyA z.heap k' c := fun u m => each u (List.mem_cons_of_mem _ m)
    dsimp only
    by_cases same : (b == c || (carriedByValue (.ref b) && carriedByValue (.ref c))) = true
    · exact wp_if_pos same (wpAny_pure ⟨rfl, rfl, more⟩)
    · refine wp_if_neg same (wpAny_bind (quiet_key _ _ 8 _ x.1 x.2.1 _ _ _ ?_))
      simp only [Bool.not_true, Bool.false_eq_true, if_false]
      refine wpAny_bind (quiet_key _ _ 8 _ y.1 y.2.1 _ _ _ ?_)
      simp only [Bool.not_true, Bool.false_eq_true, if_false]
      refine wpAny_bind (says_class _ _ 8 x.1 x.2.1 x.2.2 _ _ _ ?_)
      simp only [Bool.false_eq_true, if_false]
      refine wpAny_bind (says_class _ _ 8 y.1 y.2.1 y.2.2 _ _ _ ?_)
      simp only [Bool.false_eq_true, if_false]
      exact wpAny_pure ⟨rfl, rfl, more⟩
  · obtain ⟨r1, r2⟩ := r
    obtain ⟨z1, rfl, _⟩ := got
    simp only at z1
    subst z1
    exact wpAny_pure fin
/-- a set that holds the keys ks -/
structure NSet (w : World) (h0 h : Heap) (a : Addr) (ks : List NestedKey) (es : Array (Int × Value)) (ep : Nat) (t : SetTable) : Prop where
  ob : ∃ o, h.get? a = some o ∧ o.ExactSet ∧ o.data = .set es ep t
  size : es.size = ks.length
  tab : TabOk t (es.toList.map (·.1))
  good : ∀ r ∈ es.toList, ∃ k b, k ∈ ks ∧ r = (k.hash w, .ref b) ∧ KeyA h0 k b
  plain : t.plain = true
  led : w.params.followText "set-order" = true ∨ t.led = true
  room : es.size * 5 < t.mask * 3
variable {h0 : Heap} {a : Addr} {ks : List NestedKey} {es : Array (Int × Value)} {ep : Nat} {t : SetTable}
theorem NSet.fits {h : Heap} (N : NSet w h0 h a ks es ep t) : t.fits es.size = true := by
  have e := N.tab.sz
  have r := N.room
  rw [List.length_map, Array.length_toList] at e
  unfold SetTable.fits SetTable.fill
  rw [N.tab.dm, Bool.and_eq_true, beq_iff_eq, decide_eq_true_eq]
  show t.place.size = es.size ∧ t.place.size + 0 ≤ t.mask
  omega
theorem no_dummy (m : Nat) : ∀ (n : Nat) (p : SetTable.Probe), p.dummy = none → (nth m p n).dummy = none
  | 0, _, h => h
  | n + 1, p, h => no_dummy m n (adv m p) (by
    unfold adv
    split <;> exact h)
end
end VG
namespace VG
open PySem PySem.Spec PyProof.Rows L2
section
variable {P : Program} {w : World} {A : Around} {E : Value → Shared → Prop} {s : Shared}
theorem perm_at {α : Type} (l : List α) (p : Nat) (x : α) : (l.take p ++ x :: l.drop p).Perm (x :: l) := by
  have e : (l.take p ++ x :: l.drop p).Perm (x :: (l.take p ++ l.drop p)) := List.perm_middle
  rwa [List.take_append_drop] at e
theorem picked {α : Type} [Inhabited α] (es : Array α) {order : Array Nat} (pm : order.toList.Perm (List.range es.size)) : (order.filterMap (es[·]?)).toList = order.toList.map (fun i => es[i]!) := by
  have go : ∀ l : List Nat, (∀ i ∈ l, i < es.size) → l.filterMap (fun i => es[i]?) = l.map fun i => es[i]! := by
    intro l
    induction l with
    | nil => intro _; rfl
    | cons i l ih =>
      intro h
      have hi := h i List.mem_cons_self
      rw [List.filterMap_cons_some (Array.getElem?_eq_getElem hi), ih fun j m => h j (List.mem_cons_of_mem _ m), List.map_cons]
      congr 1
      simp [hi]
  rw [Array.toList_filterMap]
  exact go _ fun i m => List.mem_range.mp (pm.mem_iff.mp m)
variable {h0 : Heap} {a : Addr} {ks : List NestedKey} {es : Array (Int × Value)} {ep : Nat} {t : SetTable}
end
end VG
namespace VG
open PySem PySem.Spec PyProof.Rows L2
end VG
namespace VG
open PySem PySem.Spec PyProof.Rows L2
section
variable {X : Cx}
/-- the keys that values are -/
inductive KeysA (h : Heap) : List NestedKey → List Value → Prop
  | nil : KeysA h [] []
  | cons {k ks b us} : KeyA h k b → KeysA h ks us → KeysA h (k :: ks) (.ref b :: us)
theorem KeysA.get {h : Heap} : ∀ {ks : List NestedKey} {us : List Value} {i : Nat} {v : Value}, KeysA h ks us → us[i]? = some v → ∃ k b, ks[i]? = some k ∧ v = .ref b ∧ KeyA h k b
  | _, _, 0, _, .cons x _, e => by
    obtain rfl := Option.some.inj e
    exact ⟨_, _, rfl, rfl, x⟩
  | _, _, i + 1, _, .cons _ t, e => t.get (i := i) (by simpa using e)
  | _, _, i, _, .nil, e => by simp at e
theorem KeysA.len {h : Heap} : ∀ {ks : List NestedKey} {us : List Value}, KeysA h ks us → us.length = ks.length
  | _, _, .nil => rfl
  | _, _, .cons _ t => congrArg (· + 1) t.len
end
end VG
namespace VG
open PySem PySem.Spec PyProof.Rows L2
abbrev NRow := NestedKey × Addr
def rowN (w : World) (p : NRow) : Int × Value := (p.1.hash w, .ref p.2)
def KeysAt (h : Heap) (L : List NRow) : Prop := ∀ p ∈ L, KeyA h p.1 p.2
/-- a set of the rows L, its own object alone -/
structure NSL (w : World) (h : Heap) (a : Addr) (L : List NRow) (es : Array (Int × Value)) (ep : Nat) (t : SetTable) : Prop where
  ob : ∃ o, h.get? a = some o ∧ o.ExactSet ∧ o.data = .set es ep t
  rows : es.toList = L.map (rowN w)
  tab : TabOk t (L.map fun p => p.1.hash w)
  nd : (L.map (·.1)).Nodup
  plain : t.plain = true
  led : w.params.followText "set-order" = true ∨ t.led = true
  room : L.length * 5 < t.mask * 3
section
variable {P : Program} {w : World} {A : Around} {E : Value → Shared → Prop} {s : Shared} {a : Addr} {L : List NRow} {es : Array (Int × Value)} {ep : Nat} {t : SetTable}
theorem NSL.size {h : Heap} (N : NSL w h a L es ep t) : es.size = L.length := by
  have e := congrArg List.length N.rows
  rwa [Array.length_toList, List.length_map] at e
theorem NSL.fits {h : Heap} (N : NSL w h a L es ep t) : t.fits es.size = true := by
  have e := N.tab.sz
  have r := N.room
  have z := N.size
  rw [List.length_map] at e
  unfold SetTable.fits SetTable.fill
  rw [N.tab.dm, Bool.and_eq_true, beq_iff_eq, decide_eq_true_eq]
  show t.place.size = es.size ∧ t.place.size + 0 ≤ t.mask
  omega
theorem NSL.row {h : Heap} (N : NSL w h a L es ep t) {i : Nat} {p : NRow} (e : L[i]? = some p) : es[i]? = some (p.1.hash w, .ref p.2) := by
  rw [← Array.getElem?_toList, N.rows, List.getElem?_map, e]
  rfl
/-- the search: there, or at an empty slot -/
theorem searchL (N : NSL w s.heap a L es ep t) (kl : KeysAt s.heap L) {x : Addr} {k : NestedKey} (key : KeyA s.heap k x) (u8 : A.units + 8 < cLine) {K : Nat} (bound : K < 10 * SetTable.turns t.mask)
    (free : way t.mask (k.hash w) K ∉ t.place.toList) (full : ∀ c, c < K → way t.mask (k.hash w) c ∈ t.place.toList) {Q : SetFound → Shared → Prop} (inn : k ∈ L.map (·.1) → Q (.there none) s) (out : k ∉ L.map (·.1) → Q (.free (way t.mask (k.hash w) K) false) s) :
    ∀ (f c : Nat) (st : Option SetTable.Probe), st.getD (t.probeStart (k.hash w)) = nth t.mask (runAt t.mask (SetTable.bits (k.hash w) % (t.mask + 1)) (SetTable.bits (k.hash w))) c → c ≤ K → K - c < f →
      (∀ (i : Nat) p, L[i]? = some p → p.1 = k → ∃ d, c ≤ d ∧ d < K ∧ t.place.toList[i]? = some (way t.mask (k.hash w) d)) → wpAny (model P w) A (setSearchFrom a (.ref x) (k.hash w) true f st) Q E s
  | 0, c, st, _, _, lt, _ => absurd lt (Nat.not_lt_zero _)
  | f + 1, c, st, e0, le, lt, ahead => by
    obtain ⟨o, at_, ex, od⟩ := N.ob
    generalize hp : runAt t.mask (SetTable.bits (k.hash w) % (t.mask + 1)) (SetTable.bits (k.hash w)) = p0 at e0
    have wy : ∀ q, way t.mask (k.hash w) q = (nth t.mask p0 q).j := fun q => by rw [← hp]
    have sh : ∀ q, nth t.mask (nth t.mask p0 c) q = nth t.mask p0 (c + q) := fun q => (nth_add t.mask c p0 q).symm
    have dn : (nth t.mask p0 c).dummy = none := no_dummy _ _ _ (by rw [← hp]; rfl)
    have hsh : ∀ (i : Nat) p, L[i]? = some p → ((es[i]?.map (·.1)).getD 0) = p.1.hash w := fun i p e => by
      rw [N.row e]
      rfl
    rw [setSearchFrom_succ]
    refine wpAny_bind (wpAny_setState_of at_ od N.fits ?_)
    dsimp only
    refine wp_if_neg (by unfold SetTable.gaveWay; rw [mask_odd N.tab.mok]; decide) ?_
    try refine wpAny_bind (wpAny_pure ?_)
    have two := go_spec t N.tab.ris N.tab.dm (fun i => (es[i]?.map (·.1)).getD 0) (k.hash w) (10 * SetTable.turns t.mask) (K - c) (nth t.mask p0 c) dn (by omega)
      (fun q lq => by rw [sh, ← wy]; exact full (c + q) (by omega)) (by rw [sh, ← wy, show c + (K - c) = K by omega]; exact free)
    rw [← e0] at two
    rcases two with ⟨q, i, lq, hi, same, no, found⟩ | ⟨no, none_⟩
    · rw [show t.probe (fun i => (es[i]?.map (·.1)).getD 0) (k.hash w) (st.getD (t.probeStart (k.hash w))) = _ from found]
      dsimp only
      rw [e0, sh] at hi
      have il : i < L.length := by
        have l1 := (List.getElem?_eq_some_iff.mp hi).1
        have l2 := N.tab.sz
        rw [List.length_map] at l2
        rw [Array.length_toList] at l1
        omega
      obtain ⟨p, ep_⟩ : ∃ p, L[i]? = some p := ⟨_, List.getElem?_eq_getElem il⟩
      have pm : p ∈ L := List.mem_of_getElem? ep_
      have rest : wpAny (model P w) A (searchRest a (.ref x) (k.hash w) true f es t (nth t.mask (st.getD (t.probeStart (k.hash w))) q).j i (nth t.mask (st.getD (t.probeStart (k.hash w))) (q + 1))) Q E s := by
        rw [e0, sh, sh]
        unfold searchRest
        rw [N.row ep_]
        dsimp only
        refine wpAny_bind (wpAny_holding ((nestedKind P w).eqBool (x := p.1) (y := k) u8 ⟨(kl p pm).1, (kl p pm).2.1⟩ ⟨key.1, key.2.1⟩ (wpAny_bind (wpAny_setState_of at_ od N.fits ?_))))
        dsimp only
        by_cases pk : p.1 = k
        · exact wp_if_pos (by simp [pk]) (wpAny_pure (inn (List.mem_map.mpr ⟨p, pm, pk⟩)))
        · refine wp_if_neg (by simp [pk]) ?_
          try refine wpAny_bind (wpAny_pure ?_)
          rw [sameMem]
          dsimp only
          have live : t.slot (nth t.mask p0 (c + q)).j = .live i := slot_live N.tab.ris hi
          simp only [if_true, live, N.row ep_]
          refine wpAny_bind (wpAny_isSame_ref_self (wpAny_bind (wpAny_pure ?_)))
          simp only [if_true]
          refine wp_if_neg (by simp [pk]) ?_
          refine searchL N kl key u8 bound free full inn out f (c + (q + 1)) _ (by rw [hp]; rfl) (by omega) (by omega) fun i2 p2 e2 k2 => ?_
          obtain ⟨d, d1, d2, d3⟩ := ahead i2 p2 e2 k2
          refine ⟨d, ?_, d2, d3⟩
          rcases Nat.lt_trichotomy d (c + q) with y | y | y
          · have no2 := no (d - c) i2 (by omega)
            rw [e0, sh, show c + (d - c) = d by omega, ← wy] at no2
            exact absurd ((hsh i2 p2 e2).trans (congrArg (NestedKey.hash w) k2)) (no2 d3)
          · exfalso
            rw [y, wy] at d3
            have l2 := slot_live N.tab.ris d3
            rw [live] at l2
            injection l2 with l2
            rw [← l2, ep_] at e2
            exact pk ((congrArg Prod.fst (Option.some.inj e2)).trans k2)
          · omega
      by_cases ld : t.led = true
      · refine wp_if_neg (by simp [ld]) ?_
        try refine wpAny_bind (wpAny_pure ?_)
        exact rest
      · refine wp_if_pos (by simp [ld]) (wpAny_bind (unseenN key (fun y m => ?_) (wp_if_neg (by decide) ?_)))
        · obtain ⟨r, mr, rfl⟩ := List.mem_map.mp m
          have mr1 : r ∈ es ∧ r.1 = k.hash w := by simpa using mr
          have mr2 : r ∈ es.toList := by simpa using mr1.1
          rw [N.rows] at mr2
          obtain ⟨p3, m3, e3⟩ := List.mem_map.mp mr2
          exact ⟨p3.1, p3.2, by rw [← e3]; rfl, kl p3 m3⟩
        · try refine wpAny_bind (wpAny_pure ?_)
          exact rest
    · rw [show t.probe (fun i => (es[i]?.map (·.1)).getD 0) (k.hash w) (st.getD (t.probeStart (k.hash w))) = _ from none_]
      dsimp only
      rw [e0, sh, ← wy, show c + (K - c) = K by omega]
      refine wpAny_pure (out fun m => ?_)
      obtain ⟨p2, m2, k2⟩ := List.mem_map.mp m
      obtain ⟨i2, hi2, e2⟩ := List.getElem_of_mem m2
      have e2' : L[i2]? = some p2 := by rw [List.getElem?_eq_getElem hi2, e2]
      obtain ⟨d, d1, d2, d3⟩ := ahead i2 p2 e2' k2
      have no2 := no (d - c) i2 (by omega)
      rw [e0, sh, show c + (d - c) = d by omega, ← wy] at no2
      exact no2 d3 ((hsh i2 p2 e2').trans (congrArg (NestedKey.hash w) k2))
theorem search_any (N : NSL w s.heap a L es ep t) (kl : KeysAt s.heap L) {x : Addr} {k : NestedKey} (key : KeyA s.heap k x) (u8 : A.units + 8 < cLine) {Q : SetFound → Shared → Prop} (inn : k ∈ L.map (·.1) → Q (.there none) s)
    (out : ∀ K, k ∉ L.map (·.1) → way t.mask (k.hash w) K ∉ t.place.toList → (∀ c, c < K → way t.mask (k.hash w) c ∈ t.place.toList) → Q (.free (way t.mask (k.hash w) K) false) s) : wpAny (model P w) A (setSearch a (.ref x) (k.hash w) true) Q E s := by
  have r := N.room
  obtain ⟨K, bound, free, full⟩ := N.tab.first (by rw [List.length_map]; omega) (k.hash w)
  have few : 10 * SetTable.turns t.mask ≤ 1420 := by
    unfold SetTable.turns
    rcases N.tab.mok with e | e | e <;> omega
  refine searchL N kl key u8 bound free full inn (fun n => out K n free full) 100000 0 none rfl (Nat.zero_le _) (by omega) fun i p e pk => ?_
  have hi : (L.map fun p => p.1.hash w)[i]? = some (k.hash w) := by rw [List.getElem?_map, e, ← pk]; rfl
  have il : i < t.place.toList.length := by
    have l1 := (List.getElem?_eq_some_iff.mp e).1
    have l2 := N.tab.sz
    rw [List.length_map] at l2
    rw [Array.length_toList]
    omega
  have hj := List.getElem?_eq_getElem il
  obtain ⟨d, d1, d2⟩ := N.tab.before free hi hj
  exact ⟨d, Nat.zero_le _, d1, by rw [hj, d2]⟩
instance : Inhabited NRow := ⟨(.none, 0)⟩
/-- laid anew, larger -/
theorem relayL {o : Obj} (at_ : s.heap.get? a = some o) (ex : o.ExactSet) (od : o.data = .set es ep t) (rows : es.toList = L.map (rowN w)) (place : t.place.size = es.size) (dm : t.dummies = #[]) (le : es.size ≤ t.mask)
    (nd : (L.map (·.1)).Nodup) (plain : t.plain = true) (led : w.params.followText "set-order" = true ∨ t.led = true) {wanted M : Nat}
    (sM : SetTable.sizeAbove wanted - 1 = M) (mok : MaskOk M) (s128 : SetTable.sizeAbove wanted ≤ 128) (room : L.length * 5 < M * 3) {Q : Unit → Shared → Prop}
    (fin : ∀ hp L' es' ep' t', Heap.SameBut a s.heap hp → NSL w hp a L' es' ep' t' → L'.Perm L → Q () { s with heap := hp }) : wpAny (model P w) A (setRelay a wanted) Q E s := by
  have fits : t.fits es.size = true := by
    unfold SetTable.fits SetTable.fill
    rw [dm, Bool.and_eq_true, beq_iff_eq, decide_eq_true_eq]
    show t.place.size = es.size ∧ t.place.size + 0 ≤ t.mask
    omega
  have esz : es.size = L.length := by
    have e := congrArg List.length rows
    rwa [Array.length_toList, List.length_map] at e
  have eM : M ≤ 127 := by rcases mok with e | e | e <;> omega
  obtain ⟨t2, order, e, pm, T, em, el, ep2, ed⟩ := relaid_ok t (hs := es.map (·.1)) (wanted := wanted) sM mok (by rw [Array.size_map]; omega)
  rw [Array.size_map] at pm
  have picks := picked es pm
  generalize hes2 : order.filterMap (es[·]?) = es2 at picks
  have ent : ∀ i, i < L.length → es[i]! = rowN w L[i]! := fun i hi => by
    have h1 : i < es.size := by omega
    have e1 : es.toList[i]? = some (rowN w L[i]) := by rw [rows, List.getElem?_map, List.getElem?_eq_getElem hi]; rfl
    have e2 : es[i]? = some (rowN w L[i]) := by rw [← Array.getElem?_toList]; exact e1
    have e3 : es[i]! = rowN w L[i] := (getElem!_pos es i h1).trans (Option.some.inj ((Array.getElem?_eq_getElem h1).symm.trans e2))
    have e4 : L[i]! = L[i] := by simp [hi]
    rw [e3, e4]
  have below : ∀ i ∈ order.toList, i < L.length := fun i m => by
    have := List.mem_range.mp (pm.mem_iff.mp m)
    omega
  have rows2 : es2.toList = (order.toList.map fun i => L[i]!).map (rowN w) := by
    rw [picks, List.map_map]
    exact List.map_congr_left fun i m => ent i (below i m)
  have pL : (order.toList.map fun i => L[i]!).Perm L := by
    have h1 : ((List.range L.length).map fun i => L[i]!) = L := by
      refine List.ext_getElem (by simp) fun i h1 h2 => ?_
      simp [h2]
    have h2 := pm.map fun i => L[i]!
    rw [esz, h1] at h2
    exact h2
  have T2 : TabOk t2 ((order.toList.map fun i => L[i]!).map fun p => p.1.hash w) := by
    rw [List.map_map]
    have e3 : (order.toList.map fun i => (es.map (·.1)).getD i 0) = order.toList.map ((fun p : NRow => p.1.hash w) ∘ fun i => L[i]!) := by
      refine List.map_congr_left fun i m => ?_
      have hi := below i m
      have h1 : i < es.size := by omega
      have e1 := ent i hi
      have e2 : es[i]! = es[i] := by simp [h1]
      show (es.map (·.1)).getD i 0 = (L[i]!).1.hash w
      have e4 : (es.map (·.1)).getD i 0 = (es[i]).1 := by simp [Array.getD_eq_getD_getElem?, h1]
      rw [e4, ← e2, e1]
      rfl
    rw [← e3]
    exact T
  generalize (order.toList.map fun i => L[i]!) = L2 at rows2 pL T2
  have sz2 : es2.size = es.size := by
    have l := congrArg List.length rows2
    rw [Array.length_toList, List.length_map, pL.length_eq] at l
    omega
  rw [setRelay_eq]
  refine wpAny_bind (wpAny_setState_of at_ od fits ?_)
  dsimp only
  refine wp_if_neg (by rw [sizeLine_eq]; omega) ?_
  try refine wpAny_bind (wpAny_pure ?_)
  rw [e]
  dsimp only
  rw [hes2]
  refine wpAny_bind (wp_if_neg (by rw [sz2]; simp) ?_)
  try refine wpAny_bind (wpAny_pure ?_)
  refine wpAny_pure ?_
  dsimp only
  refine wpAny_storeSet_of at_ od ?_ (by rw [sz2, sizeLine_eq]; omega)
  have sb : Heap.SameBut a s.heap (s.heap.update a (Obj.putSet es2 t2)) := Heap.SameBut.update ..
  exact fin _ L2 es2 (ep + 1) t2 sb ⟨⟨_, store_at at_ od, ⟨ex.1, ex.2.1, ex.2.2⟩, rfl⟩, rows2, T2, (pL.map (·.1)).nodup_iff.mpr nd, by rw [ep2]; exact plain, by rw [el]; exact led, by rw [pL.length_eq, em]; exact room⟩ pL
/-- a key put in -/
theorem addL (N : NSL w s.heap a L es ep t) (kl : KeysAt s.heap L) {x : Addr} {k : NestedKey} (key : KeyA s.heap k x) (u8 : A.units + 8 < cLine) (few : k ∉ L.map (·.1) → L.length ≤ 70) {Q : Bool → Shared → Prop}
    (fin : ∀ b hp L' es' ep' t', Heap.SameBut a s.heap hp → NSL w hp a L' es' ep' t' → (k ∈ L.map (·.1) → L' = L) → (k ∉ L.map (·.1) → L'.Perm ((k, x) :: L)) → Q b { s with heap := hp }) : wpAny (model P w) A (setAddHashed a (.ref x) (k.hash w)) Q E s := by
  obtain ⟨o, at_, ex, od⟩ := N.ob
  have nsz := N.size
  have nroom := N.room
  unfold setAddHashed
  refine wpAny_holding ?_
  rw [show (100000 : Nat) = 99999 + 1 from rfl, setAddHashedIn_succ]
  refine wpAny_bind (wpAny_setState_of at_ od N.fits ?_)
  dsimp only
  refine wp_if_neg (by simp [byScan, Value.scannable]) ?_
  try refine wpAny_bind (wpAny_pure ?_)
  refine wpAny_bind (search_any N kl key u8 (fun old => ?_) fun K new free full => ?_)
  · dsimp only
    exact wpAny_pure (fin false s.heap L es ep t (Heap.SameBut.refl a s.heap) N (fun _ => rfl) fun n => absurd old n)
  dsimp only
  refine wpAny_bind (wpAny_setState_of at_ od N.fits ?_)
  dsimp only
  obtain ⟨q1, q2, q3, q4, q5, q6, q7, q8, q9⟩ := N.tab.put free full
  have pl := q6.trans N.plain
  generalize t.put (way t.mask (k.hash w) K) = both at q1 q3 q4 q5 q6 q7 q8 q9 pl ⊢
  obtain ⟨t1, p⟩ := both
  dsimp only at q1 q3 q4 q5 q6 q7 q8 q9 pl ⊢
  subst q1
  have hsh := says_hash (P := P) (w := w) (s := s) k _ 8 key.1 key.2.1 key.2.2
  first
    | (refine wpAny_bind ?_; refine wp_if_pos pl ?_; refine hsh _ _ _ ?_)
    | refine wp_if_pos pl (wpAny_bind (hsh _ _ _ ?_))
  simp only [if_true]
  have into := SetTable.toList_insertAt es (SetTable.below t.place (way t.mask (k.hash w) K)) (k.hash w, Value.ref x)
  generalize hpp : SetTable.below t.place (way t.mask (k.hash w) K) = p at q2 q3 into ⊢
  generalize SetTable.insertAt es p (k.hash w, Value.ref x) = es1 at into ⊢
  have pm := perm_at L p (k, x)
  have rows1 : es1.toList = (L.take p ++ (k, x) :: L.drop p).map (rowN w) := by
    rw [into, N.rows, List.map_append, List.map_cons, List.map_take, List.map_drop]
    rfl
  have tab1 : TabOk t1 ((L.take p ++ (k, x) :: L.drop p).map fun p => p.1.hash w) := by
    rw [List.map_append, List.map_cons, List.map_take, List.map_drop]
    exact q3
  generalize L.take p ++ (k, x) :: L.drop p = L1 at pm rows1 tab1
  have len1 : L1.length = L.length + 1 := pm.length_eq
  have sz1 : es1.size = L.length + 1 := by
    have l := congrArg List.length rows1
    rw [Array.length_toList, List.length_map] at l
    omega
  have few1 := few new
  refine wpAny_bind (wpAny_storeSet_of at_ od ?_ (by rw [sz1, sizeLine_eq]; omega))
  have sb : Heap.SameBut a s.heap (s.heap.update a (Obj.putSet es1 t1)) := Heap.SameBut.update ..
  have at1 := store_at (es' := es1) (t' := t1) at_ od
  generalize s.heap.update a (Obj.putSet es1 t1) = h1 at sb at1 ⊢
  have nd1 : (L1.map (·.1)).Nodup := (pm.map (·.1)).nodup_iff.mpr (List.nodup_cons.mpr ⟨new, N.nd⟩)
  have led1 : w.params.followText "set-order" = true ∨ t1.led = true := by rw [q5]; exact N.led
  have fill : t1.fill = L1.length := by rw [q9, List.length_map, len1]
  by_cases fl : t1.tooFull = true
  · first
      | (refine wpAny_bind ?_; refine wp_if_pos (by simp [fl]) ?_)
      | (refine wp_if_pos (by simp [fl]) ?_; refine wpAny_bind ?_)
    have full5 : L1.length * 5 ≥ t1.mask * 3 := by
      have g := fl
      unfold SetTable.tooFull at g
      rwa [decide_eq_true_eq, fill] at g
    have place1 : t1.place.size = es1.size := by
      have g2 := tab1.sz
      rw [List.length_map] at g2
      omega
    have at_mask : (t.mask = 7 ∧ L.length = 4) ∨ (t.mask = 31 ∧ L.length = 18) := by
      rcases N.tab.mok with e | e | e
      · left; rw [q4, e] at full5; rw [e] at nroom; exact ⟨e, by omega⟩
      · right; rw [q4, e] at full5; rw [e] at nroom; exact ⟨e, by omega⟩
      · exfalso; rw [q4, e] at full5; omega
    have go : ∀ M, SetTable.sizeAbove (SetTable.grown (es.size + 1)) - 1 = M → MaskOk M → SetTable.sizeAbove (SetTable.grown (es.size + 1)) ≤ 128 → L1.length * 5 < M * 3 →
        wpAny (model P w) A (setRelay a (SetTable.grown (es.size + 1))) (fun _ z => wpAny (model P w) A (pure true) Q E z) E { s with heap := h1 } := fun M g1 g2 g3 g4 => by
      refine relayL (s := { s with heap := h1 }) (L := L1) at1 ⟨ex.1, ex.2.1, ex.2.2⟩ rfl rows1 place1 q3.dm (by rw [sz1, q4]; rcases at_mask with ⟨e, e2⟩ | ⟨e, e2⟩ <;> omega) nd1 pl led1 g1 g2 g3 g4 fun hp L2 es2 ep2 t2 sb2 N2 pm2 => ?_
      exact wpAny_pure (fin true hp L2 es2 ep2 t2 (sb.trans sb2) N2 (fun o => absurd o new) fun _ => pm2.trans pm)
    rw [← nsz] at at_mask
    rcases at_mask with ⟨_, e2⟩ | ⟨_, e2⟩
    · exact go 31 (by rw [e2, size_20]) (.inr (.inl rfl)) (by rw [e2, size_20]; decide) (by omega)
    · exact go 127 (by rw [e2, size_76]) (.inr (.inr rfl)) (by rw [e2, size_76]; decide) (by omega)
  · first
      | refine wp_if_neg (by simp [fl]) ?_
      | (refine wpAny_bind ?_; refine wp_if_neg (by simp [fl]) ?_; refine wpAny_pure ?_)
    refine wpAny_pure (fin true h1 L1 es1 (ep + 1) t1 sb ⟨⟨_, at1, ⟨ex.1, ex.2.1, ex.2.2⟩, rfl⟩, rows1, tab1, nd1, pl, led1, ?_⟩ (fun o => absurd o new) fun _ => pm)
    have g := fl
    unfold SetTable.tooFull at g
    rw [decide_eq_true_eq, fill] at g
    omega
end
end VG
namespace VG
open PySem PySem.Spec PyProof.Rows L2 FR
mutual
def NestV (K : PySem.W.Frag) (H : Hp) : NestedKey → V → Prop
  | .num i, v => v = .int i
  | .tup ks, v => ∃ a xs, v = .ref a ∧ SqT K H a xs ∧ NestVs K H ks xs
  | .none, _ => False
  | .text _, _ => False
def NestVs (K : PySem.W.Frag) (H : Hp) : List NestedKey → List V → Prop
  | [], [] => True
  | k :: ks, x :: xs => NestV K H k x ∧ NestVs K H ks xs
  | [], _ :: _ => False
  | _ :: _, [] => False
end
mutual
theorem NestV.mono {K : PySem.W.Frag} {H H' : Hp} (sm : Same H H') : ∀ {k : NestedKey} {v : V}, NestV K H k v → NestV K H' k v
  | .num _, _, h => h
  | .tup ks, _, h => by
    obtain ⟨a, xs, e, hs, hx⟩ := h
    exact ⟨a, xs, e, seqT sm hs, NestVs.mono sm hx⟩
  | .none, _, h => h.elim
  | .text _, _, h => h.elim
theorem NestVs.mono {K : PySem.W.Frag} {H H' : Hp} (sm : Same H H') : ∀ {ks : List NestedKey} {xs : List V}, NestVs K H ks xs → NestVs K H' ks xs
  | [], [], _ => trivial
  | _ :: _, _ :: _, h => ⟨NestV.mono sm h.1, NestVs.mono sm h.2⟩
  | [], _ :: _, h => h.elim
  | _ :: _, [], h => h.elim
end
mutual
theorem NestV.nums {K : PySem.W.Frag} {H : Hp} : ∀ {k : NestedKey} {v : V}, NestV K H k v → Nums k
  | .num _, _, _ => trivial
  | .tup ks, _, h => by
    obtain ⟨a, xs, e, hs, hx⟩ := h
    exact NestVs.nums hx
  | .none, _, h => h.elim
  | .text _, _, h => h.elim
theorem NestVs.nums {K : PySem.W.Frag} {H : Hp} : ∀ {ks : List NestedKey} {xs : List V}, NestVs K H ks xs → NumsA ks
  | [], [], _ => trivial
  | _ :: _, _ :: _, h => ⟨NestV.nums h.1, NestVs.nums h.2⟩
  | [], _ :: _, h => h.elim
  | _ :: _, [], h => h.elim
end
theorem nestVs_ints {K : PySem.W.Frag} {H : Hp} : ∀ ns : List Int, NestVs K H (ns.map .num) (ns.map V.int)
  | [] => trivial
  | _ :: ns => ⟨rfl, nestVs_ints ns⟩
theorem nestV_ints {K : PySem.W.Frag} {H : Hp} {a : Addr} {ns : List Int} (h : SqT K H a (ns.map V.int)) : NestV K H (.tup (ns.map .num)) (.ref a) := ⟨a, _, rfl, h, nestVs_ints ns⟩
section
variable {X : Cx} {pins : List (Addr × Obj)} {σ : L2.St} {H : Hp} {s : Shared}
mutual
theorem nest_is (I : Inv X pins σ H s) : ∀ {k : NestedKey} {v : V} {u : Value}, NestV X.K H k v → RelV v u → NestedIs s.heap k u
  | .num i, _, _, h, r => by
    obtain rfl := h
    obtain ⟨t, rfl⟩ := r
    exact .int i t
  | .tup ks, _, _, h, r => by
    obtain ⟨a, xs, rfl, hs, hx⟩ := h
    obtain rfl := r
    obtain ⟨its, rv, ⟨o, at_, oc, n, od⟩, _⟩ := I.tuple hs
    exact .tup at_ oc od (by simpa using nest_all I hx rv)
  | .none, _, _, h, _ => h.elim
  | .text _, _, _, h, _ => h.elim
theorem nest_all (I : Inv X pins σ H s) : ∀ {ks : List NestedKey} {vs : List V} {us : List Value}, NestVs X.K H ks vs → Vals vs us → NestedAll s.heap ks us
  | [], [], _, _, .nil => .nil
  | _ :: _, _ :: _, _, h, .cons r t => .cons (nest_is I h.1 r) (nest_all I h.2 t)
  | [], _ :: _, _, h, _ => h.elim
  | _ :: _, [], _, h, _ => h.elim
end
/-- at b stands the key k -/
def NestA (K : PySem.W.Frag) (H : Hp) (p : NRow) : Prop := NestV K H p.1 (.ref p.2) ∧ p.1.depth ≤ 8
theorem NestA.mono {K : PySem.W.Frag} {H H' : Hp} (sm : Same H H') {p : NRow} (h : NestA K H p) : NestA K H' p := ⟨h.1.mono sm, h.2⟩
theorem NestA.key (I : Inv X pins σ H s) {p : NRow} (h : NestA X.K H p) : KeyA s.heap p.1 p.2 := ⟨nest_is I h.1 rfl, h.2, h.1.nums⟩
end
end VG
namespace VG
open PySem PySem.Spec PyProof.Rows L2 FR
end VG
namespace VG
open PySem PySem.Spec PyProof.Rows L2 FR
/-- a key, the tuple that stands for it, its value -/
abbrev NEnt := NestedKey × Addr × V
def vOf : V → Value
  | .bl b => .bool b
  | .ref a => .ref a
  | _ => .none
def PlainV : V → Prop
  | .bl _ => True
  | .ref _ => True
  | _ => False
theorem rel_vOf : ∀ {v : V}, PlainV v → RelV v (vOf v)
  | .bl _, _ => rfl
  | .ref _, _ => rfl
  | .non, h => h.elim
  | .int _, h => h.elim
  | .str _, h => h.elim
  | .byt _, h => h.elim
  | .flt _, h => h.elim
  | .ty _, h => h.elim
theorem vOf_rel : ∀ {v : V} {u : Value}, PlainV v → RelV v u → u = vOf v
  | .bl _, _, _, r => r
  | .ref _, _, _, r => r
  | .non, _, h, _ => h.elim
  | .int _, _, h, _ => h.elim
  | .str _, _, h, _ => h.elim
  | .byt _, _, h, _ => h.elim
  | .flt _, _, h, _ => h.elim
  | .ty _, _, h, _ => h.elim
def rawN (y : NEnt) : NestedKey × Addr × Value := (y.1, y.2.1, vOf y.2.2)
def valN (ys : List NEnt) (k : NestedKey) : Option V := (ys.find? fun y => decide (y.1 = k)).map (·.2.2)
def putN (ys : List NEnt) (k : NestedKey) (b : Addr) (v : V) : List NEnt := if (valN ys k).isSome then ys.map fun y => if y.1 = k then (y.1, y.2.1, v) else y else ys ++ [(k, b, v)]
theorem find_raw (ys : List NEnt) (k : NestedKey) : atKey (ys.map rawN) k = (ys.find? fun y => decide (y.1 = k)).map fun y => (rawN y).2 := by
  unfold atKey
  rw [List.find?_map, Option.map_map]
  rfl
theorem some_raw (ys : List NEnt) (k : NestedKey) : (atKey (ys.map rawN) k).isSome = (valN ys k).isSome := by
  rw [find_raw]
  unfold valN
  rw [Option.isSome_map, Option.isSome_map]
theorem put_raw (ys : List NEnt) (k : NestedKey) (b : Addr) (v : V) : storedH (ys.map rawN) k b (vOf v) = (putN ys k b v).map rawN := by
  unfold storedH putN
  rw [some_raw]
  split
  · rw [List.map_map, List.map_map]
    refine List.map_congr_left fun y _ => ?_
    show putAt k (vOf v) (rawN y) = rawN (if y.1 = k then (y.1, y.2.1, v) else y)
    unfold putAt
    by_cases e : y.1 = k
    · rw [if_pos e]
      show (if y.1 = k then _ else _) = _
      rw [if_pos e]
      rfl
    · rw [if_neg e]
      show (if y.1 = k then _ else _) = _
      rw [if_neg e]
  · rw [List.map_append]
    rfl
theorem len_put (ys : List NEnt) (k : NestedKey) (b : Addr) (v : V) : (putN ys k b v).length ≤ ys.length + 1 := by
  unfold putN
  split
  · rw [List.length_map]
    omega
  · rw [List.length_append]
    exact Nat.le_refl _
theorem mem_put {ys : List NEnt} {k : NestedKey} {b : Addr} {v : V} {y : NEnt} (h : y ∈ putN ys k b v) : y = (k, b, v) ∨ y ∈ ys ∨ ∃ z ∈ ys, z.1 = k ∧ y = (k, z.2.1, v) := by
  unfold putN at h
  split at h
  · obtain ⟨z, mz, e⟩ := List.mem_map.mp h
    by_cases q : z.1 = k
    · rw [if_pos q] at e
      exact .inr (.inr ⟨z, mz, q, by rw [← e, q]⟩)
    · rw [if_neg q] at e
      exact .inr (.inl (e ▸ mz))
  · rcases List.mem_append.mp h with m | m
    · exact .inr (.inl m)
    · exact .inl (List.mem_singleton.mp m)
theorem valN_mem {ys : List NEnt} {k : NestedKey} {v : V} (h : valN ys k = some v) : ∃ b, (k, b, v) ∈ ys := by
  unfold valN at h
  obtain ⟨y, e, rfl⟩ := Option.map_eq_some_iff.mp h
  have m := List.mem_of_find?_eq_some e
  have q := List.find?_some e
  have q2 : y.1 = k := of_decide_eq_true q
  exact ⟨y.2.1, by rw [← q2]; exact m⟩
/-- the dict's own object -/
def NDict0 (P : Program) (w : World) (h : Heap) (d : Addr) (ys : List NEnt) : Prop :=
  (∃ o es ep, h.get? d = some o ∧ o.ExactDict ∧ o.data = .dict es ep ∧ es.toList = (ys.map rawN).map (entryOfKey (nestedKind P w)) ∧ ((ys.map rawN).map (·.1)).Nodup) ∧ (d == sysModules) = false ∧ ys.length ≤ sizeLine
def NDictO (P : Program) (w : World) (d : Addr) (ys : List NEnt) : HO := .ext fun h => NDict0 P w h d ys
/-- all keys stand -/
def NKeys (K : PySem.W.Frag) (H : Hp) (ys : List NEnt) : Prop := ∀ y ∈ ys, NestA K H (y.1, y.2.1) ∧ PlainV y.2.2
theorem NKeys.mono {K : PySem.W.Frag} {H H' : Hp} (sm : Same H H') {ys : List NEnt} (h : NKeys K H ys) : NKeys K H' ys := fun y m => ⟨(h y m).1.mono sm, (h y m).2⟩
theorem NKeys.put {K : PySem.W.Frag} {H : Hp} {ys : List NEnt} {k : NestedKey} {b : Addr} {v : V} (h : NKeys K H ys) (kb : NestA K H (k, b)) (pv : PlainV v) : NKeys K H (putN ys k b v) := fun y m => by
  rcases mem_put m with e | m | ⟨z, mz, e, rfl⟩
  · rw [e]; exact ⟨kb, pv⟩
  · exact h y m
  · have := (h z mz).1
    rw [e] at this
    exact ⟨this, pv⟩
/-- all but the one at d -/
def Off (d : Addr) (H : Hp) : Hp := fun a => if a = d then none else H a
theorem off_same (d : Addr) (H : Hp) : Same (Off d H) H := fun a o h => by
  unfold Off at h
  split at h
  · cases h
  · exact h
theorem off_upd (d : Addr) (H : Hp) (o : HO) : Off d (L2.upd H d o) = Off d H := by
  funext a
  unfold Off
  split
  · rfl
  · rename_i ne
    exact upd_ne ne
theorem off_at {d a : Addr} {H : Hp} {o : HO} (ne : a ≠ d) (h : H a = some o) : Off d H a = some o := by
  unfold Off
  rw [if_neg ne]
  exact h
theorem off_mono {d : Addr} {H H' : Hp} (h : Same H H') : Same (Off d H) (Off d H') := fun a o e => by
  unfold Off at e ⊢
  split at e
  · cases e
  · rename_i ne
    rw [if_neg ne]
    exact h a o e
/-- the dict at d holds ys -/
structure KnO (P : Program) (w : World) (K : PySem.W.Frag) (H : Hp) (d : Addr) (ys : List NEnt) : Prop where
  at_ : H d = some (NDictO P w d ys)
  keys : NKeys K (Off d H) ys
section
variable {X : Cx} {pins : List (Addr × Obj)} {σ : L2.St} {H : Hp} {s : Shared}
theorem KnO.full (I : Inv X pins σ H s) {d : Addr} {ys : List NEnt} (k : KnO X.prog X.w X.K H d ys) : s.heap.DictOfH (nestedKind X.prog X.w) d (ys.map rawN) ∧ (d == sysModules) = false ∧ ys.length ≤ sizeLine := by
  obtain ⟨⟨o, es, ep, a1, a2, a3, a4, a5⟩, b, c⟩ := (show NDict0 X.prog X.w s.heap d ys from (I.hok d _ k.at_).1)
  refine ⟨⟨o, es, ep, a1, a2, a3, a4, fun x m => ?_, a5⟩, b, c⟩
  obtain ⟨y, my, rfl⟩ := List.mem_map.mp m
  have ka := ((k.keys y my).1.mono (off_same d H)).key I
  exact ⟨ka.1, ka.2.1⟩
end
section
variable {X : Cx} {o i e value : Expr} {pos pos' tpos : Pos} {td ty tv : TE}
/-- {} -/
def tNNew (P : Program) (w : World) : TE := fun _ H Q => ∀ p, H p = none → Q (.ref p) (L2.upd H p (NDictO P w p []))
theorem pe_nnew : PE X (.Dict [] [] pos) (tNNew X.prog X.w) := ⟨fun pins s σ H Q I h => by
  refine wpAny_Dict_empty ⟨.ref s.heap.objs.size, L2.upd H s.heap.objs.size (NDictO X.prog X.w s.heap.objs.size []), I.laid (a := s.heap.objs.size) (o := NDictO X.prog X.w s.heap.objs.size []) (t' := s.toks) (fun _ _ q => Heap.get?_push_of_some _ q) (Nat.le_refl _) ?_, rfl, h _ (I.hok.fresh (Nat.le_refl _))⟩
  refine ⟨⟨⟨_, #[], 0, Heap.get?_push_size _ rfl, ⟨rfl, rfl, rfl⟩, rfl, rfl, List.nodup_nil⟩, beq_eq_false_iff_ne.mpr (Ne.symm (Nat.ne_of_lt I.big)), Nat.zero_le _⟩, ⟨_, Heap.get?_push_size _ rfl⟩, fun h1 h2 p k => ?_⟩
  obtain ⟨⟨o, es, ep, a1, r⟩, q⟩ := p
  exact ⟨⟨o, es, ep, k o a1, r⟩, q⟩⟩
def rNIn (P : Program) (w : World) (K : PySem.W.Frag) : V → V → Hp → VK → Prop := fun x y H Q => ∃ (d b : Addr) (ys : List NEnt) (k : NestedKey), x = .ref b ∧ y = .ref d ∧ KnO P w K H d ys ∧ NestA K H (k, b) ∧ Q (.bl (valN ys k).isSome) H
theorem op_nin (hu : X.A.units + 16 < cLine) : OpR X (compareOp .In) (rNIn X.prog X.w X.K) := by
  intro pins s σ H x y u v Q I rx ry h
  obtain ⟨d, b, ys, k, rfl, rfl, kn, kb, q⟩ := h
  obtain rfl := rx
  obtain rfl := ry
  have ka := kb.key I
  obtain ⟨full, dm, _⟩ := kn.full I
  refine wpAny_in_heap (knd := nestedKind X.prog X.w) (k := k) (show X.A.units + 1 + 8 < cLine by omega) ⟨ka.1, ka.2.1⟩ dm full ?_
  exact ⟨.bl (valN ys k).isSome, H, I.tok _, by rw [some_raw]; rfl, q⟩
/-- d[k] -/
def tNGet (P : Program) (w : World) (K : PySem.W.Frag) (td ty : TE) : TE := fun σ H Q => td σ H fun x H1 => ty σ H1 fun y H2 => ∃ (d b : Addr) (ys : List NEnt) (k : NestedKey) (v : V), x = .ref d ∧ y = .ref b ∧ KnO P w K H2 d ys ∧ NestA K H2 (k, b) ∧ valN ys k = some v ∧ Q v H2
theorem pe_nget (hu : X.A.units + 16 < cLine) (ho : PE X o td) (hi : PE X i ty) (hs : NoSl i) : PE X (.Subscript o i pos) (tNGet X.prog X.w X.K td ty) := by
  refine ⟨fun pins s σ H Q I h => ?_⟩
  refine subD_of PySem.F.slot_dict_getitem.lookup hs (thn (ho.run pins s σ H _ I h) fun u s1 ⟨x, H1, I1, rx, q1⟩ => thn (hi.run pins s1 σ H1 _ I1 q1) fun iv s2 ⟨y, H2, I2, ry, d, b, ys, k, v, ex, ey, kn, kb, hv, q2⟩ => ?_)
  subst ex ey
  obtain rfl : u = Value.ref d := rx
  obtain rfl : iv = Value.ref b := ry
  have ka := kb.key I2
  obtain ⟨full, dm, _⟩ := kn.full I2
  have fd : ∃ p, atKey (ys.map rawN) k = some p ∧ p.2 = vOf v ∧ PlainV v := by
    rw [find_raw]
    unfold valN at hv
    obtain ⟨y, e1, e2⟩ := Option.map_eq_some_iff.mp hv
    rw [e1]
    exact ⟨_, rfl, by rw [← e2]; rfl, by rw [← e2]; exact (kn.keys y (List.mem_of_find?_eq_some e1)).2⟩
  obtain ⟨p, e1, e2, pv⟩ := fd
  obtain ⟨p1, p2⟩ := p
  simp only at e2
  subst e2
  exact ⟨full.typeIs, wpAny_getItem_heap (knd := nestedKind X.prog X.w) (k := k) (show X.A.units + 1 + 8 < cLine by omega) ⟨ka.1, ka.2.1⟩ full e1 ⟨v, H2, I2.tok _, rel_vOf pv, q2⟩⟩
/-- d[k] = v -/
def sNPut (P : Program) (w : World) (K : PySem.W.Frag) (td ty tv : TE) : TS := fun D σ H => tv σ H fun v H1 => td σ H1 fun x H2 => ty σ H2 fun y H3 => ∃ (d b : Addr) (ys : List NEnt) (k : NestedKey), x = .ref d ∧ y = .ref b ∧ KnO P w K H3 d ys ∧ NestA K H3 (k, b) ∧ ys.length < sizeLine ∧ PlainV v ∧ D.nx σ (L2.upd H3 d (NDictO P w d (putN ys k b v)))
theorem ps_nput (hu : X.A.units + 16 < cLine) (ho : PE X o td) (hi : PE X i ty) (hv : PE X value tv) (hs : swapsWith value (some (.Subscript o i pos')) pos.line X.env = pure false) : PS X (.Assign [.Subscript o i pos'] value pos) (sNPut X.prog X.w X.K td ty tv) := by
  refine ⟨fun pins s σ H D I h => ?_⟩
  refine wpAny_Assign_Subscript (thn (hv.run pins s σ H _ I h) fun r s1 ⟨v, H1, I1, rv, q1⟩ => thn (ho.run pins s1 σ H1 _ I1 q1) fun u s2 ⟨x, H2, I2, rx, q2⟩ => thn (hi.run pins s2 σ H2 _ I2 q2) fun iv s3 ⟨y, H3, I3, ry, d, b, ys, k, ex, ey, kn, kb, few, pv, q3⟩ => ?_) hs
  subst ex ey
  obtain rfl : u = Value.ref d := rx
  obtain rfl : iv = Value.ref b := ry
  obtain rfl := vOf_rel pv rv
  have ka := kb.key I3
  obtain ⟨full, dm, len⟩ := kn.full I3
  refine wpAny_setItem_heap (knd := nestedKind X.prog X.w) (k := k) (hsz := by rw [List.length_map]; omega) (show X.A.units + 1 + 8 < cLine by omega) ⟨ka.1, ka.2.1⟩ full fun h' full' sb => ?_
  rw [put_raw] at full'
  obtain ⟨q, es, ep, a1, a2, a3, a4, _, a5⟩ := full'
  have lp := len_put ys k b v
  refine ⟨σ, L2.upd H3 d (NDictO X.prog X.w d (putN ys k b v)), d_write (ob := NDictO X.prog X.w d (putN ys k b v)) I3 (by rw [kn.at_]; exact True.intro) sb ⟨q, a1⟩ ⟨⟨⟨q, es, ep, a1, a2, a3, a4, a5⟩, dm, by omega⟩, ⟨q, a1⟩, fun h1 h2 p kp => ?_⟩, q3⟩
  obtain ⟨⟨o, es, ep, b1, r⟩, z⟩ := p
  exact ⟨⟨o, es, ep, kp o b1, r⟩, z⟩
end
/-- behind a store the dict is the new one, all else as before -/
theorem KnO.put {P : Program} {w : World} {K : PySem.W.Frag} {H : Hp} {d b : Addr} {ys : List NEnt} {k : NestedKey} {v : V} (kn : KnO P w K H d ys) (kb : NestA K (Off d H) (k, b)) (pv : PlainV v) : KnO P w K (L2.upd H d (NDictO P w d (putN ys k b v))) d (putN ys k b v) :=
  ⟨upd_same, by rw [off_upd]; exact kn.keys.put kb pv⟩
theorem KnO.new {P : Program} {w : World} {K : PySem.W.Frag} {H : Hp} {d : Addr} : KnO P w K (L2.upd H d (NDictO P w d [])) d [] := ⟨upd_same, fun y m => by cases m⟩
theorem KnO.same {P : Program} {w : World} {K : PySem.W.Frag} {H H' : Hp} {d : Addr} {ys : List NEnt} (kn : KnO P w K H d ys) (sm : Same H H') : KnO P w K H' d ys := ⟨sm _ _ kn.at_, kn.keys.mono (off_mono sm)⟩
end VG
namespace CK
open PySem PySem.Spec PyProof.Rows L2 VG FR HD M9
/-- all errors below a whole of u parts -/
def smallB (u : Int) (st : List Int) : Bool := st.all fun e => decide (-u < e ∧ e < u)
def addL (st step : List Int) : List Int := (st.zip step).map fun p => p.1 + p.2
/-- whether a state lasts, whatever comes of menus of lines, each with the steps from which one is chosen -/
def lasts (u : Int) : List (List (List (List Int))) → List Int → Bool
  | [], st => smallB u st
  | menu :: rest, st => smallB u st && menu.all fun opts => opts.any fun step => lasts u rest (addL st step)
/-- a move: which totals it changes, its part -/
abbrev Move := List Int × Int
def changesU (p u : Int) : List Int := if p = 0 then [0] else [-p, u - p]
def optsM (u : Int) (m : Move) : List (List Int) := (changesU m.2 u).map fun c => m.1.map (c * ·)
def gameM (u : Int) (A : List (List Move)) : List (List (List (List Int))) := A.map fun ms => ms.map (optsM u)
def playM (u : Int) (A : List (List Move)) (st : List Int) : Bool := lasts u (gameM u A) st
/-- what is noted: at n lines before the end, the state st -/
def keyM (n : Nat) (st : List Int) : NestedKey := .tup [.num n, .tup (st.map .num)]
theorem keyM_inj {n n' : Nat} {st st' : List Int} (h : keyM n st = keyM n' st') : n = n' ∧ st = st' := by
  simp only [keyM, NestedKey.tup.injEq, List.cons.injEq, NestedKey.num.injEq, and_true] at h
  obtain ⟨h1, h2⟩ := h
  refine ⟨by omega, ?_⟩
  exact (List.map_inj_right (fun _ _ e => by injection e)).mp h2
theorem keyM_depth (n : Nat) (st : List Int) : (keyM n st).depth ≤ 8 := by
  have g : NestedKey.depthAll (st.map .num) = 0 := by
    induction st with
    | nil => simp [NestedKey.depthAll]
    | cons a st ih => simp [NestedKey.depthAll, NestedKey.depth, ih]
  simp [keyM, NestedKey.depth, NestedKey.depthAll, g]
/-- all that is noted is so -/
def Noted (u : Int) (G : List (List Move)) (ys : List NEnt) : Prop := ∀ y ∈ ys, ∃ n st, y.1 = keyM n st ∧ n ≤ G.length ∧ y.2.2 = .bl (playM u (G.drop (G.length - n)) st)
theorem Noted.nil (u : Int) (G : List (List Move)) : Noted u G [] := fun y m => by cases m
theorem Noted.get {u : Int} {G : List (List Move)} {ys : List NEnt} (h : Noted u G ys) {n : Nat} {st : List Int} {v : V} (e : valN ys (keyM n st) = some v) : v = .bl (playM u (G.drop (G.length - n)) st) := by
  obtain ⟨b, m⟩ := valN_mem e
  obtain ⟨n2, st2, e1, _, e2⟩ := h _ m
  obtain ⟨rfl, rfl⟩ := keyM_inj e1
  exact e2
theorem Noted.put {u : Int} {G : List (List Move)} {ys : List NEnt} (h : Noted u G ys) {n : Nat} {st : List Int} {b : Addr} (le : n ≤ G.length) : Noted u G (putN ys (keyM n st) b (.bl (playM u (G.drop (G.length - n)) st))) := fun y m => by
  rcases mem_put m with e | m | ⟨z, mz, e, rfl⟩
  · rw [e]; exact ⟨n, st, rfl, le, rfl⟩
  · exact h y m
  · exact ⟨n, st, rfl, le, rfl⟩
def MoveAt (K : PySem.W.Frag) (H : Hp) (v : V) (m : Move) : Prop := ∃ t h, v = .ref t ∧ SqT K H t [.ref h, .int m.2] ∧ SqT K H h (m.1.map V.int)
theorem MoveAt.mono {K : PySem.W.Frag} {H H' : Hp} (s : Same H H') {v : V} {m : Move} (h : MoveAt K H v m) : MoveAt K H' v m := by
  obtain ⟨t, x, e, h1, h2⟩ := h
  exact ⟨t, x, e, seqT s h1, seqT s h2⟩
def MenuAt (K : PySem.W.Frag) (H : Hp) (v : V) (ms : List Move) : Prop := ∃ l xs, v = .ref l ∧ SqL K H l xs ∧ LR (MoveAt K H) xs ms
theorem seqLs {K : PySem.W.Frag} {H H' : Hp} {a : Addr} {xs : List V} (e : Same H H') (h : SqL K H a xs) : SqL K H' a xs := by
  rcases h with (h | ⟨o, h⟩) | h
  · exact .inl (.inl (e _ _ h))
  · exact .inl (.inr ⟨o, e _ _ h⟩)
  · exact .inr h
theorem MenuAt.mono {K : PySem.W.Frag} {H H' : Hp} (s : Same H H') {v : V} {ms : List Move} (h : MenuAt K H v ms) : MenuAt K H' v ms := by
  obtain ⟨l, xs, e, h1, h2⟩ := h
  exact ⟨l, xs, e, seqLs s h1, h2.imp fun _ _ q => q.mono s⟩
def AheadAt (K : PySem.W.Frag) (H : Hp) (a : Addr) (A : List (List Move)) : Prop := ∃ xs, SqL K H a xs ∧ LR (MenuAt K H) xs A
theorem AheadAt.mono {K : PySem.W.Frag} {H H' : Hp} (s : Same H H') {a : Addr} {A : List (List Move)} (h : AheadAt K H a A) : AheadAt K H' a A := by
  obtain ⟨xs, h1, h2⟩ := h
  exact ⟨xs, seqLs s h1, h2.imp fun _ _ q => q.mono s⟩
/-- hits are 0 or 1 -/
def MoveOk (u : Int) (m : Move) : Prop := (∀ x ∈ m.1, x = 0 ∨ x = 1) ∧ m.1.length ≤ 64 ∧ 0 ≤ m.2 ∧ m.2 < u
/-- what the calls want and leave: the dict d of notes, all else as before -/
structure Calls (P : Program) (w : World) (K : PySem.W.Frag) (u : Int) (G : List (List Move)) (H : Hp) (d : Addr) (ys : List NEnt) : Prop where
  kn : KnO P w K H d ys
  ok : Noted u G ys
/-- a list of states -/
def StateV (K : PySem.W.Frag) (H : Hp) (v : V) (st : List Int) : Prop := ∃ t, v = .ref t ∧ SqT K H t (st.map V.int)
def StatesAt (K : PySem.W.Frag) (H : Hp) (xs : List V) (sts : List (List Int)) : Prop := LR (StateV K H) xs sts
theorem StatesAt.mono {K : PySem.W.Frag} {H H' : Hp} (s : Same H H') {xs : List V} {sts : List (List Int)} (h : StatesAt K H xs sts) : StatesAt K H' xs sts := LR.imp (fun _ _ ⟨t, e, q⟩ => ⟨t, e, seqT s q⟩) h
theorem StatesAt.updL {K : PySem.W.Frag} {H : Hp} {D : Addr} {ys zs : List V} (hD : H D = some (.lst ys)) {xs : List V} {sts : List (List Int)} (h : StatesAt K H xs sts) : StatesAt K (L2.upd H D (.lst zs)) xs sts := LR.imp (fun _ _ ⟨t, e, q⟩ => ⟨t, e, seqT_upd hD q⟩) h
end CK
namespace CK
open PySem PySem.Spec PyProof.Rows L2 VG FR HD M9
theorem sqT_off {P : Program} {w : World} {K : PySem.W.Frag} {H : Hp} {d t : Addr} {ys : List NEnt} {xs : List V} (h : SqT K H t xs) (kd : H d = some (NDictO P w d ys)) : SqT K (Off d H) t xs := by
  rcases h with (h | ⟨o, h⟩) | h
  · exact .inl (.inl (off_at (fun e => by rw [e, kd] at h; cases h) h))
  · exact .inl (.inr ⟨o, off_at (fun e => by rw [e, kd] at h; cases h) h⟩)
  · exact .inr h
theorem sqL_off {P : Program} {w : World} {K : PySem.W.Frag} {H : Hp} {d t : Addr} {ys : List NEnt} {xs : List V} (h : SqL K H t xs) (kd : H d = some (NDictO P w d ys)) : SqL K (Off d H) t xs := by
  rcases h with (h | ⟨o, h⟩) | h
  · exact .inl (.inl (off_at (fun e => by rw [e, kd] at h; cases h) h))
  · exact .inl (.inr ⟨o, off_at (fun e => by rw [e, kd] at h; cases h) h⟩)
  · exact .inr h
theorem Calls.same {P : Program} {w : World} {K : PySem.W.Frag} {u : Int} {G : List (List Move)} {H H' : Hp} {d : Addr} {ys : List NEnt} (c : Calls P w K u G H d ys) (s : Same H H') : Calls P w K u G H' d ys := ⟨c.kn.same s, c.ok⟩
theorem key_at {K : PySem.W.Frag} {H : Hp} {T s : Addr} {n : Nat} {st : List Int} (h : SqT K H T [.int n, .ref s]) (hs : SqT K H s (st.map V.int)) : NestA K H (keyM n st, T) :=
  ⟨⟨T, _, rfl, h, rfl, nestV_ints hs, trivial⟩, keyM_depth n st⟩
theorem units16 {k : Nat} {A : Around} (hr : Room k A) : A.units + 16 < cLine := by
  have := units20 hr
  omega
end CK
namespace CK
open PySem PySem.Spec PyProof.Rows L2 VG FR HD M9
end CK
namespace CK
open PySem PySem.Spec PyProof.Rows L2 VG FR HD M9
end CK
namespace VG
open PySem PySem.Spec PyProof.Rows L2
/-- the inner walk of a comprehension with two for -/
def Inner (J1 : It) (g1 : TG) (tt1 : TT) (te : TE) (vs1 : List Nat) (σ2 : L2.St) (D : Addr) (Nx : Hp → Prop) (H4 : Hp) : Prop := ∃ W1 : Nat → Nat → Hp → Prop, (∃ m, W1 0 m H4) ∧ ∀ j k H, W1 j k H →
  (J1.stop j H ∧ Nx H) ∨ (J1.go j H ∧ ∃ Nx1 : Hp → Prop, (∀ H', Nx1 H' → ∃ k', k' < k ∧ W1 (j + 1) k' H') ∧ ∀ x H', J1.yld j H x H' → g1 x (wipe σ2 vs1) H' fun σ3 H5 => wipe σ3 vs1 = wipe σ2 vs1 ∧ tt1 σ3 H5 fun b H6 =>
    if b = true then te σ3 H6 fun y H7 => ∃ acc, H7 D = some (.lst acc) ∧ acc.length < sizeLine ∧ Nx1 (L2.upd H7 D (.lst (acc ++ [y]))) else Nx1 H6)
theorem inner_it {J1 : It} {n : Nat} {G : Hp → Prop} {Y : Nat → Hp → V → Hp → Prop} (w : Walk J1 n G Y) {g1 : TG} {tt1 : TT} {te : TE} {vs1 : List Nat} {σ2 : L2.St} {D : Addr} {Nx : Hp → Prop} {H4 : Hp} (Pv : Nat → Hp → Prop) (h0 : Pv 0 H4) (hG : ∀ i H, i ≤ n → Pv i H → G H)
    (hs : ∀ i x H H', i < n → Pv i H → Y i H x H' → g1 x (wipe σ2 vs1) H' fun σ3 H5 => wipe σ3 vs1 = wipe σ2 vs1 ∧ tt1 σ3 H5 fun b H6 =>
      if b = true then te σ3 H6 fun y H7 => ∃ acc, H7 D = some (.lst acc) ∧ acc.length < sizeLine ∧ Pv (i + 1) (L2.upd H7 D (.lst (acc ++ [y]))) else Pv (i + 1) H6) (hd : ∀ H, Pv n H → Nx H) : Inner J1 g1 tt1 te vs1 σ2 D Nx H4 := by
  refine ⟨fun i m H => m = n - i ∧ i ≤ n ∧ Pv i H, ⟨n, by simp, Nat.zero_le _, h0⟩, ?_⟩
  rintro i m H ⟨rfl, hi, p⟩
  have q := hG i H hi p
  by_cases hlt : i < n
  · exact .inr ⟨w.goes i H hlt q, Pv (i + 1), fun H' p' => ⟨n - (i + 1), by omega, rfl, hlt, p'⟩, fun x H' y => hs i x H H' hlt p (w.yields i H x H' hlt q y)⟩
  · have e : i = n := by omega
    subst e
    exact .inl ⟨w.stops H q, hd H p⟩
theorem lc2_it {J : It} {n : Nat} {G : Hp → Prop} {Y : Nat → Hp → V → Hp → Prop} (w : Walk J n G Y) {g g1 : TG} {tt tt1 : TT} {te : TE} {wi1 : TI} {vs vs1 : List Nat} {σ : L2.St} {H1 : Hp} {D : Addr} {Qd : Hp → Prop} (Pv : Nat → Hp → Prop) (h0 : Pv 0 (L2.upd H1 D (.lst []))) (hG : ∀ i H, i ≤ n → Pv i H → G H)
    (hs : ∀ i x H H', i < n → Pv i H → Y i H x H' → g x (wipe σ vs) H' fun σ2 H2 => wipe σ2 vs = wipe σ vs ∧ tt σ2 H2 fun b H3 =>
      if b = true then wi1 σ2 H3 fun J1 H4 => Inner J1 g1 tt1 te vs1 σ2 D (Pv (i + 1)) H4 else Pv (i + 1) H3) (hd : ∀ H, Pv n H → Qd H) :
    ∃ W : Nat → Nat → Hp → Prop, (∃ m, W 0 m (L2.upd H1 D (.lst []))) ∧ ∀ i m H, W i m H →
      (J.stop i H ∧ Qd H) ∨ (J.go i H ∧ ∃ Nx : Hp → Prop, (∀ H', Nx H' → ∃ m', m' < m ∧ W (i + 1) m' H') ∧ ∀ x H', J.yld i H x H' → g x (wipe σ vs) H' fun σ2 H2 => wipe σ2 vs = wipe σ vs ∧ tt σ2 H2 fun b H3 =>
        if b = true then wi1 σ2 H3 fun J1 H4 => Inner J1 g1 tt1 te vs1 σ2 D Nx H4 else Nx H3) := by
  refine ⟨fun i m H => m = n - i ∧ i ≤ n ∧ Pv i H, ⟨n, by simp, Nat.zero_le _, h0⟩, ?_⟩
  rintro i m H ⟨rfl, hi, p⟩
  have q := hG i H hi p
  by_cases hlt : i < n
  · exact .inr ⟨w.goes i H hlt q, Pv (i + 1), fun H' p' => ⟨n - (i + 1), by omega, rfl, hlt, p'⟩, fun x H' y => hs i x H H' hlt p (w.yields i H x H' hlt q y)⟩
  · have e : i = n := by omega
    subst e
    exact .inl ⟨w.stops H q, hd H p⟩
end VG
namespace CK
open PySem PySem.Spec PyProof.Rows L2 VG FR HD M9
theorem U_bot_dvd (a : Int) : (U a).2 ∣ DL := by
  have e := U_eq a
  have l := U_low a
  have h : (U a).2 ∣ (U a).1 * DL := ⟨a, by rw [e, Int.mul_comm]⟩
  have g : Nat.gcd (U a).1.natAbs (U a).2.natAbs = 1 := l.2
  have h2 : (U a).2.natAbs ∣ (U a).1.natAbs * DL.natAbs := by
    rw [← Int.natAbs_mul]
    exact Int.natAbs_dvd_natAbs.mpr h
  have h3 : (U a).2.natAbs ∣ DL.natAbs := Nat.Coprime.dvd_of_dvd_mul_left (Nat.coprime_comm.mp g) h2
  exact Int.natAbs_dvd_natAbs.mp h3
end CK
namespace CK
open PySem PySem.Spec PyProof.Rows L2 VG FR HD M9
def FrAt (K : PySem.W.Frag) (H : Hp) (v : V) (p : Q2) : Prop := ∃ t, v = .ref t ∧ SqT K H t (pV p)
theorem FrAt.mono {K : PySem.W.Frag} {H H' : Hp} (s : Same H H') {v : V} {p : Q2} (h : FrAt K H v p) : FrAt K H' v p := by
  obtain ⟨t, e, q⟩ := h
  exact ⟨t, e, seqT s q⟩
end CK
namespace CK
open PySem PySem.Spec PyProof.Rows L2 VG FR HD M9
/-- which totals a kind changes -/
def hitsOf (ts : List (List Int)) (k : Int) : List Int := ts.map fun c => if c.contains k then 1 else 0
def allMoves (ts : List (List Int)) (ns ps : List Int) : List Move := ns.flatMap fun n => ps.map fun p => (hitsOf ts n, p)
end CK
namespace CK
open PySem PySem.Spec PyProof.Rows L2 VG FR HD M9
/-- the menus have the same ways -/
inductive All2 {α β : Type} (R : α → β → Prop) : List α → List β → Prop
  | nil : All2 R [] []
  | cons {a b as bs} : R a b → All2 R as bs → All2 R (a :: as) (b :: bs)
/-- the moves of a menu are those of its lines -/
def MovesOf (u : Int) (ts : List (List Int)) (ns as : List Int) (ms : List Move) : Prop := ∃ ps : List Int, (∀ p ∈ ps, ∃ a ∈ as, p * (DL / u) = a % DL) ∧ (∀ a ∈ as, ∃ p ∈ ps, p * (DL / u) = a % DL) ∧ ∀ m, m ∈ ms ↔ m ∈ allMoves ts ns ps
def cntM (m : Nat) : Nat → Nat
  | 0 => 0
  | n + 1 => 1 + m * (2 * cntM m n)
end CK
namespace CK
open PySem PySem.Spec PyProof.Rows L2 VG FR HD M9
def FitG (m n : Nat) : Prop := n ≤ 12 ∧ m ^ n ≤ 5000
end CK
namespace CK
open PySem PySem.Spec PyProof.Rows L2 VG FR HD M9
theorem off_fresh {d : Addr} {H : Hp} {o : HO} (nd : H d = none) : Same H (VG.Off d (L2.upd H d o)) := fun a u h => by
  have ne : a ≠ d := fun e => by rw [e, nd] at h; cases h
  unfold VG.Off
  rw [if_neg ne, upd_ne ne]
  exact h
def kindsN (ns : List Int) : NestedKey := .tup (ns.map .num)
theorem kindsN_inj {p q : List Int} (h : kindsN p = kindsN q) : p = q := by
  simp only [kindsN, NestedKey.tup.injEq] at h
  exact (List.map_inj_right (fun _ _ e => by injection e)).mp h
/-- what is noted of kinds: their moves -/
def MenuFor (K : PySem.W.Frag) (H : Hp) (u : Int) (ts : List (List Int)) (as : List Int) (d : Nat) (v : V) (ns : List Int) (ms : List Move) : Prop := MenuAt K H v ms ∧ MovesOf u ts ns as ms ∧ (∀ m ∈ ms, MoveOk u m) ∧ ms.length ≤ ns.length * d
theorem MenuFor.mono {K : PySem.W.Frag} {H H' : Hp} (s : Same H H') {u : Int} {ts : List (List Int)} {as : List Int} {d : Nat} {v : V} {ns : List Int} {ms : List Move} (h : MenuFor K H u ts as d v ns ms) : MenuFor K H' u ts as d v ns ms := ⟨h.1.mono s, h.2⟩
def EntOk (K : PySem.W.Frag) (H : Hp) (u : Int) (ts : List (List Int)) (as : List Int) (d : Nat) (ys : List NEnt) : Prop := ∀ y ∈ ys, ∃ ns ms, y.1 = kindsN ns ∧ MenuFor K H u ts as d y.2.2 ns ms
theorem EntOk.mono {K : PySem.W.Frag} {H H' : Hp} (s : Same H H') {u : Int} {ts : List (List Int)} {as : List Int} {d : Nat} {ys : List NEnt} (h : EntOk K H u ts as d ys) : EntOk K H' u ts as d ys := fun y m => by
  obtain ⟨ns, ms, e, q⟩ := h y m
  exact ⟨ns, ms, e, q.mono s⟩
theorem EntOk.put {K : PySem.W.Frag} {H : Hp} {u : Int} {ts : List (List Int)} {as : List Int} {d : Nat} {ys : List NEnt} (h : EntOk K H u ts as d ys) {ns : List Int} {ms : List Move} {b : Addr} {v : V} (q : MenuFor K H u ts as d v ns ms) : EntOk K H u ts as d (putN ys (kindsN ns) b v) := fun y m => by
  rcases mem_put m with e | m | ⟨z, mz, e, rfl⟩
  · rw [e]; exact ⟨ns, ms, rfl, q⟩
  · exact h y m
  · exact ⟨ns, ms, rfl, q⟩
theorem EntOk.get {K : PySem.W.Frag} {H : Hp} {u : Int} {ts : List (List Int)} {as : List Int} {d : Nat} {ys : List NEnt} (h : EntOk K H u ts as d ys) {ns : List Int} {v : V} (e : valN ys (kindsN ns) = some v) : ∃ ms, MenuFor K H u ts as d v ns ms := by
  obtain ⟨b, m⟩ := valN_mem e
  obtain ⟨ns2, ms, e1, q⟩ := h _ m
  have e1 : kindsN ns = kindsN ns2 := e1
  have e2 : ns2 = ns := (kindsN_inj e1).symm
  rw [e2] at q
  exact ⟨ms, q⟩
theorem All2.snoc {α β : Type} {R : α → β → Prop} {a : α} {b : β} (h : R a b) : ∀ {as : List α} {bs : List β}, All2 R as bs → All2 R (as ++ [a]) (bs ++ [b])
  | _, _, .nil => .cons h .nil
  | _, _, .cons q t => .cons q (All2.snoc h t)
theorem All2.len {α β : Type} {R : α → β → Prop} : ∀ {as : List α} {bs : List β}, All2 R as bs → as.length = bs.length
  | _, _, .nil => rfl
  | _, _, .cons _ t => congrArg (· + 1) t.len
theorem All2.imp {α β : Type} {R S : α → β → Prop} (f : ∀ a b, R a b → S a b) : ∀ {as : List α} {bs : List β}, All2 R as bs → All2 S as bs
  | _, _, .nil => .nil
  | _, _, .cons h t => .cons (f _ _ h) (t.imp f)
end CK
namespace CK
open PySem PySem.Spec PyProof.Rows L2 VG FR HD M9
def CostOk (m n : Nat) : Prop := cntM m n ≤ 10000000
def rangeL (m : Nat) : List Int := (List.range m).map Int.ofNat
theorem range_len (m : Nat) : (rangeL m).length = m := by
  unfold rangeL
  rw [List.length_map, List.length_range]
theorem none_back {H H1 : Hp} {x : Addr} (s : Same H H1) (h : H1 x = none) : H x = none := by
  cases q : H x with
  | none => rfl
  | some o => rw [s x o q] at h; cases h
end CK
namespace CK
open PySem PySem.Spec PyProof.Rows L2 VG FR HD M9
def LstAt {α : Type} (K : PySem.W.Frag) (R : Hp → V → α → Prop) (H : Hp) (v : V) (as : List α) : Prop := ∃ l xs, v = .ref l ∧ SqL K H l xs ∧ LR (R H) xs as
theorem LstAt.mono {α : Type} {K : PySem.W.Frag} {R : Hp → V → α → Prop} (m : ∀ {H H' : Hp} {v a}, Same H H' → R H v a → R H' v a) {H H' : Hp} {v : V} {as : List α} (s : Same H H') (h : LstAt K R H v as) : LstAt K R H' v as := by
  obtain ⟨l, xs, e, h1, h2⟩ := h
  exact ⟨l, xs, e, seqLs s h1, LR.imp (fun _ _ q => m s q) h2⟩
def IntsL (K : PySem.W.Frag) (H : Hp) (v : V) (st : List Int) : Prop := ∃ t, v = .ref t ∧ SqL K H t (st.map V.int)
theorem IntsL.mono {K : PySem.W.Frag} {H H' : Hp} {v : V} {st : List Int} (s : Same H H') (h : IntsL K H v st) : IntsL K H' v st := by
  obtain ⟨t, e, q⟩ := h
  exact ⟨t, e, seqLs s q⟩
abbrev OptsL (K : PySem.W.Frag) := LstAt K (IntsL K)
abbrev MenuL (K : PySem.W.Frag) := LstAt K (OptsL K)
abbrev PlacesL (K : PySem.W.Frag) := LstAt K (MenuL K)
theorem OptsL.mono {K : PySem.W.Frag} {H H' : Hp} {v : V} {as : List (List Int)} (s : Same H H') (h : OptsL K H v as) : OptsL K H' v as := LstAt.mono (R := IntsL K) (fun s h => IntsL.mono s h) s h
theorem MenuL.mono {K : PySem.W.Frag} {H H' : Hp} {v : V} {as : List (List (List Int))} (s : Same H H') (h : MenuL K H v as) : MenuL K H' v as := LstAt.mono (R := OptsL K) (fun s h => OptsL.mono s h) s h
theorem PlacesL.mono {K : PySem.W.Frag} {H H' : Hp} {v : V} {as : List (List (List (List Int)))} (s : Same H H') (h : PlacesL K H v as) : PlacesL K H' v as := LstAt.mono (R := MenuL K) (fun s h => MenuL.mono s h) s h
def dLst {α : Type} (f : α → PyData) (as : List α) : PyData := .list (as.map f)
def dInts (st : List Int) : PyData := .list (st.map .int)
theorem dp_ints {K : PySem.W.Frag} {H : Hp} {v : V} {st : List Int} (h : IntsL K H v st) : Dp K H v (dInts st) := by
  obtain ⟨t, rfl, q⟩ := h
  refine .lst q ?_
  clear q
  induction st with
  | nil => exact .nil
  | cons a st ih => exact .cons (.int a) ih
theorem lay_lst {α : Type} {f : α → PyData} {k : Nat} (h : ∀ x, (f x).canLay0 = true ∧ (f x).depth ≤ k) (as : List α) : (dLst f as).canLay0 = true ∧ (dLst f as).depth ≤ k + 1 := by
  have ⟨a, b⟩ := lay_map h as
  refine ⟨?_, ?_⟩
  · unfold dLst
    rw [PyData.canLay0]
    exact a
  · unfold dLst
    rw [PyData.depth]
    omega
theorem lay_ints (st : List Int) : (dInts st).canLay0 = true ∧ (dInts st).depth ≤ 1 := lay_lst (f := PyData.int) (k := 0) (fun x => ⟨by simp [PyData.canLay0], by simp [PyData.depth]⟩) st
end CK
namespace CK
open PySem PySem.Spec PyProof.Rows L2 VG FR HD M9
theorem sqL_ne {K : PySem.W.Frag} {H : Hp} {D t : Addr} {o : HO} {xs : List V} (ne : t ≠ D) (h : SqL K H t xs) : SqL K (L2.upd H D o) t xs := by
  rcases h with (h | ⟨o2, h⟩) | h
  · exact .inl (.inl (by rw [upd_ne ne]; exact h))
  · exact .inl (.inr ⟨o2, by rw [upd_ne ne]; exact h⟩)
  · exact .inr h
/-- a list of integers, at a place of which F holds -/
def IntsN (K : PySem.W.Frag) (F : Addr → Prop) (H : Hp) (v : V) (st : List Int) : Prop := ∃ t, v = .ref t ∧ F t ∧ SqL K H t (st.map V.int)
theorem IntsN.mono {K : PySem.W.Frag} {F : Addr → Prop} {H H' : Hp} {v : V} {st : List Int} (s : Same H H') (h : IntsN K F H v st) : IntsN K F H' v st := by
  obtain ⟨t, e, n, q⟩ := h
  exact ⟨t, e, n, seqLs s q⟩
theorem IntsN.upd {K : PySem.W.Frag} {F : Addr → Prop} {D : Addr} (ne : ∀ a, F a → a ≠ D) {H : Hp} {o : HO} {v : V} {st : List Int} (h : IntsN K F H v st) : IntsN K F (L2.upd H D o) v st := by
  obtain ⟨t, e, n, q⟩ := h
  exact ⟨t, e, n, sqL_ne (ne t n) q⟩
theorem IntsN.L {K : PySem.W.Frag} {F : Addr → Prop} {H : Hp} {v : V} {st : List Int} (h : IntsN K F H v st) : IntsL K H v st := by
  obtain ⟨t, e, _, q⟩ := h
  exact ⟨t, e, q⟩
def LstN {α : Type} (K : PySem.W.Frag) (F : Addr → Prop) (R : Hp → V → α → Prop) (H : Hp) (v : V) (as : List α) : Prop := ∃ l xs, v = .ref l ∧ F l ∧ SqL K H l xs ∧ LR (R H) xs as
abbrev OptsN (K : PySem.W.Frag) (F : Addr → Prop) := LstN K F (IntsN K F)
abbrev MenuNw (K : PySem.W.Frag) (F : Addr → Prop) := LstN K F (OptsN K F)
section
variable {α : Type} {K : PySem.W.Frag} {F F' : Addr → Prop}
theorem LstN.mono {R : Hp → V → α → Prop} {H H' : Hp} (m : ∀ {v a}, R H v a → R H' v a) {v : V} {as : List α} (s : Same H H') (h : LstN K F R H v as) : LstN K F R H' v as := by
  obtain ⟨l, xs, e, n, h1, h2⟩ := h
  exact ⟨l, xs, e, n, seqLs s h1, LR.imp (fun _ _ q => m q) h2⟩
theorem LstN.upd {R : Hp → V → α → Prop} {H : Hp} {D : Addr} {o : HO} (ne : ∀ a, F a → a ≠ D) (m : ∀ {v a}, R H v a → R (L2.upd H D o) v a) {v : V} {as : List α} (h : LstN K F R H v as) : LstN K F R (L2.upd H D o) v as := by
  obtain ⟨l, xs, e, n, h1, h2⟩ := h
  exact ⟨l, xs, e, n, sqL_ne (ne l n) h1, LR.imp (fun _ _ q => m q) h2⟩
end
section
variable {K : PySem.W.Frag} {F F' : Addr → Prop} {H H' : Hp} {v : V}
theorem OptsN.mono {as : List (List Int)} (s : Same H H') (h : OptsN K F H v as) : OptsN K F H' v as := LstN.mono (R := IntsN K F) (fun h => IntsN.mono s h) s h
theorem OptsN.upd {D : Addr} {o : HO} {as : List (List Int)} (ne : ∀ a, F a → a ≠ D) (h : OptsN K F H v as) : OptsN K F (L2.upd H D o) v as := LstN.upd (R := IntsN K F) ne (fun h => IntsN.upd ne h) h
theorem MenuNw.mono {as : List (List (List Int))} (s : Same H H') (h : MenuNw K F H v as) : MenuNw K F H' v as := LstN.mono (R := OptsN K F) (fun h => OptsN.mono s h) s h
theorem MenuNw.upd {D : Addr} {o : HO} {as : List (List (List Int))} (ne : ∀ a, F a → a ≠ D) (h : MenuNw K F H v as) : MenuNw K F (L2.upd H D o) v as := LstN.upd (R := OptsN K F) ne (fun h => OptsN.upd ne h) h
end
end CK
namespace CK
open PySem PySem.Spec PyProof.Rows L2 VG FR HD M9
/-- a kind and an amount -/
def PairAt (K : PySem.W.Frag) (H : Hp) (v : V) (q : Int × Int) : Prop := ∃ t s, v = .ref t ∧ SqT K H t [.int q.1, .ref s] ∧ SqT K H s (pV (U q.2))
theorem PairAt.mono {K : PySem.W.Frag} {H H' : Hp} {v : V} {q : Int × Int} (s : Same H H') (h : PairAt K H v q) : PairAt K H' v q := by
  obtain ⟨t, x, e, h1, h2⟩ := h
  exact ⟨t, x, e, seqT s h1, seqT s h2⟩
abbrev PairsL (K : PySem.W.Frag) := LstAt K (PairAt K)
theorem PairsL.mono {K : PySem.W.Frag} {H H' : Hp} {v : V} {as : List (Int × Int)} (s : Same H H') (h : PairsL K H v as) : PairsL K H' v as := LstAt.mono (R := PairAt K) (fun s h => PairAt.mono s h) s h
end CK
namespace CK
open PySem PySem.Spec PyProof.Rows L2 VG FR HD M9
theorem PairAt.updL {K : PySem.W.Frag} {H : Hp} {D : Addr} {ys zs : List V} (hD : H D = some (.lst ys)) {v : V} {q : Int × Int} (h : PairAt K H v q) : PairAt K (L2.upd H D (.lst zs)) v q := by
  obtain ⟨t, x, e, h1, h2⟩ := h
  exact ⟨t, x, e, seqT_upd hD h1, seqT_upd hD h2⟩
end CK
namespace CK
open PySem PySem.Spec PyProof.Rows L2 VG FR HD M9
/-- amounts and errors that the law draws -/
structure NumF (a : Int) : Prop where
  size : a.natAbs ≤ 1000 * 2 ^ 45
  bot : (U a).2 ≤ 6
/-- a growing list of fractions, apart from the draws -/
structure FrL (K : PySem.W.Frag) (p q : Addr) (G H : Hp) (D : Addr) (as : List Int) : Prop where
  on : On p q G H
  ne : D ≠ p ∧ D ≠ q ∧ G D = none
  ls : ∃ vs, H D = some (.lst vs) ∧ Frs K H vs (as.map U)
  ok : ∀ a ∈ as, NumF a
theorem FrL.draw {K : PySem.W.Frag} {p q D : Addr} {G H H' : Hp} {as : List Int} (h : FrL K p q G H D as) (hd : Hd p q H') (kp : Keep p q H H') : FrL K p q G H' D as := by
  obtain ⟨vs, k, f⟩ := h.ls
  exact ⟨h.on.draw hd kp, h.ne, ⟨vs, kp _ _ h.ne.1 h.ne.2.1 k, Frs.keep h.on.hd kp f⟩, h.ok⟩
theorem FrL.same {K : PySem.W.Frag} {p q D : Addr} {G H H' : Hp} {as : List Int} (h : FrL K p q G H D as) (s : Same H H') : FrL K p q G H' D as := by
  obtain ⟨vs, k, f⟩ := h.ls
  exact ⟨h.on.same s, h.ne, ⟨vs, s _ _ k, f.mono s⟩, h.ok⟩
theorem FrL.add {K : PySem.W.Frag} {p q D u : Addr} {G H : Hp} {as : List Int} {a : Int} (h : FrL K p q G H D as) (hu : SqT K H u (pV (U a))) (ha : NumF a) : ∃ vs, H D = some (.lst vs) ∧ vs.length = as.length ∧ FrL K p q G (L2.upd H D (.lst (vs ++ [.ref u]))) D (as ++ [a]) := by
  obtain ⟨vs, k, f⟩ := h.ls
  have l := f.len
  rw [List.length_map] at l
  refine ⟨vs, k, l, h.on.put h.ne, h.ne, ⟨_, upd_same, ?_⟩, fun b m => ?_⟩
  · rw [List.map_append]
    exact Frs.updL k (frs_snoc hu f)
  · rcases List.mem_append.mp m with m | m
    · exact h.ok b m
    · have : b = a := by simpa using m
      rw [this]; exact ha
end CK
namespace CK
open PySem PySem.Spec PyProof.Rows L2 VG FR HD M9
end CK
namespace CK
open PySem PySem.Spec PyProof.Rows L2 VG FR HD M9
end CK
namespace CK
open PySem PySem.Spec PyProof.Rows L2 VG FR HD M9
def aT : List Int := [DL / 3]
def HIs (xs : List V) (H : Hp) (v : V) : Prop := ∃ t, v = .ref t ∧ H t = some (.tup xs)
theorem HIs.same {xs : List V} {H H' : Hp} {v : V} (s : Same H H') (h : HIs xs H v) : HIs xs H' v := let ⟨t, e, k⟩ := h; ⟨t, e, s _ _ k⟩
theorem HIs.ext {xs : List V} {H H' : Hp} {v : V} (s : LamX.ExtN H H') (h : HIs xs H v) : HIs xs H' v := let ⟨t, e, k⟩ := h; ⟨t, e, s t _ k (fun _ z => by cases z)⟩
theorem HIs.put {xs : List V} {H : Hp} {v : V} {L : Addr} {vs : List V} {o : HO} (k : H L = some (.lst vs)) (h : HIs xs H v) : HIs xs (L2.upd H L o) v := by
  obtain ⟨t, e, k2⟩ := h
  refine ⟨t, e, ?_⟩
  rw [upd_ne (fun z => by rw [z, k] at k2; cases k2)]
  exact k2
def HL (xs : List V) (L : Addr) (n : Nat) (H : Hp) : Prop := ∃ vs, H L = some (.lst vs) ∧ vs.length = n ∧ ∀ v ∈ vs, HIs xs H v
/-- a list of what was heard, beside the draws -/
structure LSt (T : List (Addr × Str)) (p q : Addr) (G : Hp) (xs : List V) (L : Addr) (n : Nat) (H : Hp) : Prop where
  on : OnT T p q G H
  fr : L ≠ p ∧ L ≠ q ∧ G L = none
  hl : HL xs L n H
theorem LSt.same {T : List (Addr × Str)} {p q : Addr} {G : Hp} {xs : List V} {L : Addr} {n : Nat} {H H' : Hp} (h : LSt T p q G xs L n H) (s : Same H H') : LSt T p q G xs L n H' := ⟨h.on.same s, h.fr, let ⟨vs, k, l, a⟩ := h.hl; ⟨vs, s _ _ k, l, fun v m => (a v m).same s⟩⟩
theorem LSt.start {T : List (Addr × Str)} {p q : Addr} {G : Hp} {xs : List V} {L : Addr} {H : Hp} {v : V} (on : OnT T p q G H) (nL : H L = none) (h : HIs xs H v) : LSt T p q G xs L 1 (L2.upd H L (.lst [v])) :=
  ⟨on.new nL, on.free nL, [v], upd_same, rfl, fun w m => by
    rw [List.mem_singleton.mp m]
    exact h.same (same_upd nL)⟩
theorem LSt.add {T : List (Addr × Str)} {p q : Addr} {G : Hp} {xs : List V} {L : Addr} {n : Nat} {H : Hp} {v : V} (h : LSt T p q G xs L n H) (hv : HIs xs H v) : ∃ vs, H L = some (.lst vs) ∧ vs.length = n ∧ LSt T p q G xs L (n + 1) (L2.upd H L (.lst (vs ++ [v]))) := by
  obtain ⟨vs, k, l, a⟩ := h.hl
  refine ⟨vs, k, l, h.on.put k h.fr, h.fr, _, upd_same, by rw [List.length_append, l]; rfl, fun w m => ?_⟩
  rcases List.mem_append.mp m with m | m
  · exact (a w m).put k
  · rw [List.mem_singleton.mp m]
    exact hv.put k
end CK
namespace CK
open PySem PySem.Spec PyProof.Rows L2 VG FR HD M9
theorem len_fits : ∀ l : Fin 13, ∀ n : Fin 5, (l.val < 4 ∨ (l.val = 4 ∧ n.val ≤ 3) ∨ n.val ≤ 2) → n.val ≤ 12 ∧ l.val ^ n.val ≤ 5000 ∧ cntM l.val n.val ≤ 10000000 := by decide +kernel
theorem fits {l n : Nat} (hl : l ≤ 12) (hn : n ≤ 4) (h : l < 4 ∨ (l = 4 ∧ n ≤ 3) ∨ n ≤ 2) : FitG l n ∧ CostOk l n := by
  have := len_fits ⟨l, by omega⟩ ⟨n, by omega⟩ h
  exact ⟨⟨this.1, this.2.1⟩, this.2.2⟩
end CK
namespace CK
open PySem PySem.Spec PyProof.Rows L2 VG FR HD M9
abbrev Mn := List (List (Int × Int))
def SubP (R : Int × Int → Int × Int → Prop) : Mn → Mn → Prop
  | [], _ => True
  | a :: as, b :: bs => (∀ p ∈ a, ∃ q ∈ b, R p q) ∧ SubP R as bs
  | _ :: _, [] => False
theorem SubP.imp {R S : Int × Int → Int × Int → Prop} (h : ∀ p q, R p q → S p q) : ∀ {A B : Mn}, SubP R A B → SubP S A B
  | [], _, _ => trivial
  | _ :: _, _ :: _, q => ⟨fun p m => by obtain ⟨x, mx, r⟩ := q.1 p m; exact ⟨x, mx, h p x r⟩, SubP.imp h q.2⟩
  | _ :: _, [], q => q.elim
theorem mem_range {m : Nat} {k : Int} : k ∈ rangeL m ↔ 0 ≤ k ∧ k < m := by
  unfold rangeL
  rw [List.mem_map]
  constructor
  · rintro ⟨i, hi, rfl⟩
    have := List.mem_range.mp hi
    have e : Int.ofNat i = (i : Int) := rfl
    omega
  · rintro ⟨h0, h1⟩
    refine ⟨k.toNat, List.mem_range.mpr (by omega), ?_⟩
    have e : Int.ofNat k.toNat = (k.toNat : Int) := rfl
    omega
abbrev NA := Nat × Int
end CK
namespace CK
open PySem PySem.Spec PyProof.Rows L2 VG FR HD M9
def spPickT (K : PySem.W.Frag) : Sp := fun vs H Q _ => ∃ (p q l : Addr) (xs : List V), vs = [.ref p, .ref l] ∧ Hd p q H ∧ SqT K H l xs ∧ xs ≠ [] ∧ xs.length < 1000000 ∧ ∀ (H' : Hp) (v : V), Hd p q H' → Keep p q H H' → v ∈ xs → Q v H'
end CK
namespace CK
open PySem PySem.Spec PyProof.Rows L2 VG FR HD M9
def NAt (K : PySem.W.Frag) (H : Hp) (v : V) (p : NA) : Prop := PairAt K H v ((p.1 : Int), p.2)
theorem NAt.mono {K : PySem.W.Frag} {H H' : Hp} {v : V} {p : NA} (s : Same H H') (h : NAt K H v p) : NAt K H' v p := PairAt.mono s h
theorem NAt.keep {K : PySem.W.Frag} {p q : Addr} {H H' : Hp} {v : V} {r : NA} (hd : Hd p q H) (k : Keep p q H H') (h : NAt K H v r) : NAt K H' v r := by
  obtain ⟨t, s, e, h1, h2⟩ := h
  exact ⟨t, s, e, seqTK hd k h1, seqTK hd k h2⟩
theorem NAt.updL {K : PySem.W.Frag} {H : Hp} {D : Addr} {ys zs : List V} (hD : H D = some (.lst ys)) {v : V} {r : NA} (h : NAt K H v r) : NAt K (L2.upd H D (.lst zs)) v r := PairAt.updL hD h
def ToldA (K : PySem.W.Frag) (H : Hp) (l : Addr) (ps : List NA) : Prop := ∃ xs, SqT K H l xs ∧ LR (NAt K H) xs ps
theorem ToldA.mono {K : PySem.W.Frag} {H H' : Hp} {l : Addr} {ps : List NA} (s : Same H H') (h : ToldA K H l ps) : ToldA K H' l ps := by
  obtain ⟨xs, h1, h2⟩ := h
  exact ⟨xs, seqT s h1, h2.imp fun _ _ q => q.mono s⟩
theorem NumF.amt {a : Int} (h : NumF a) : AmtOk (U a) := by
  refine ⟨U_low a, U_bot_dvd a, ?_⟩
  have e := U_eq a
  have l := (U_low a).1
  have h1 := h.size
  have h2 := h.bot
  have e2 : (U a).1.natAbs * DL.natAbs = a.natAbs * (U a).2.natAbs := by rw [← Int.natAbs_mul, ← Int.natAbs_mul, e]
  have h3 : a.natAbs * (U a).2.natAbs ≤ 1000 * 2 ^ 45 * 6 := Nat.mul_le_mul h1 (by omega)
  have d : DL.natAbs = 20999643000000 := by decide
  rw [d] at e2
  have : (1000 * 2 ^ 45 * 6 : Nat) = 211106232532992000 := by decide
  omega
abbrev T0 : List (Addr × Str) := []
end CK
namespace CK
open PySem PySem.Spec PyProof.Rows L2 VG FR HD M9
/-- how many lines are asked of l amounts and k kinds -/
structure Cond (l k n : Nat) : Prop where
  l3 : l ≤ 3
  k3 : k ≤ 3
  n4 : n ≤ 4
  few : l * k < 3 ∨ (l * k < 5 ∧ n ≤ 3) ∨ n ≤ 2
theorem Cond.less {l k n l' n' : Nat} (h : Cond l k n) (hl : l' ≤ l) (hn : n' ≤ n) : Cond l' k n' := by
  have h1 := h.l3
  have h2 := h.k3
  have h3 := h.n4
  have m := Nat.mul_le_mul_right k hl
  refine ⟨by omega, h2, by omega, ?_⟩
  rcases h.few with z | ⟨z, y⟩ | z <;> omega
end CK
namespace CK
open PySem PySem.Spec PyProof.Rows L2 VG FR HD M9
theorem Tots.drop {K : PySem.W.Frag} {H : Hp} : ∀ {xs : List V} {ts : List (List Int)} (n : Nat), Tots K H xs ts → Tots K H (xs.drop n) (ts.drop n)
  | _, _, 0, h => h
  | [], [], _ + 1, _ => trivial
  | _ :: _, _ :: _, n + 1, h => Tots.drop n h.2
  | [], _ :: _, _, h => h.elim
  | _ :: _, [], _, h => h.elim
end CK
namespace CK
open PySem PySem.Spec PyProof.Rows L2 VG FR HD M9
end CK
namespace CK
open PySem PySem.Spec PyProof.Rows L2 VG FR HD M9
def tK : List (List Int) := [[0], [1], [0, 1, 2]]
def nsK : List (List Int) := [[2, 0, 1, 2], [0, 2, 1, 2], [0, 1, 2, 0]]
theorem okK : TabOk kX tK := ⟨okX.kinds, by decide, fun c hc => lot_dec (List.all_eq_true.mp (by decide +kernel : tK.all (lotB (kX.length : Int)) = true) c hc)⟩
def tM : List (List Int) := [[0, 1], [0, 1, 2], [0, 2]]
def nM : List Int := [0, 1, 2, 0]
theorem okM : TabOk kX tM := ⟨okX.kinds, by decide, fun c hc => lot_dec (List.all_eq_true.mp (by decide +kernel : tM.all (lotB (kX.length : Int)) = true) c hc)⟩
end CK
namespace CK
open PySem PySem.Spec PyProof.Rows L2 VG FR HD M9
end CK
namespace CK
open PySem PySem.Spec PyProof.Rows L2 VG FR HD M9
def nN : List Nat := [0, 1, 2, 0]
end CK
namespace CK
open PySem PySem.Spec PyProof.Rows L2 VG FR HD M9
end CK
namespace K04
open PySem PySem.Spec PyProof.Rows L2 VG FR CK HD M9
open K2 (cut_ints)
def topS (i : Nat) : Stmt := PySem.Challenge.pw_centsatonce_k04_whole_classes_alone_coun.main.body.getD i (.Pass ⟨0, 0, 0, 0⟩)
abbrev s_is_an_integer : Stmt := topS 3
abbrev N_is_an_integer : List Str := ["value"]
theorem sc_is_an_integer : FnScope N_is_an_integer ["value"] (defScope s_is_an_integer) := ⟨rfl, rfl, rfl, by decide +kernel, rfl, by decide +kernel, by decide +kernel⟩
abbrev s_is_number : Stmt := topS 4
abbrev N_is_number : List Str := ["value"]
theorem sc_is_number : FnScope N_is_number ["value"] (defScope s_is_number) := ⟨rfl, rfl, rfl, by decide +kernel, rfl, by decide +kernel, by decide +kernel⟩
abbrev s_is_number_below : Stmt := topS 5
abbrev N_is_number_below : List Str := ["value", "many"]
theorem sc_is_number_below : FnScope N_is_number_below ["value", "many"] (defScope s_is_number_below) := ⟨rfl, rfl, rfl, by decide +kernel, rfl, by decide +kernel, by decide +kernel⟩
abbrev s_are_numbers_below : Stmt := topS 8
abbrev N_are_numbers_below : List Str := ["value", "many", "item"]
theorem sc_are_numbers_below : FnScope N_are_numbers_below ["value", "many"] (defScope s_are_numbers_below) := ⟨rfl, rfl, rfl, by decide +kernel, rfl, by decide +kernel, by decide +kernel⟩
abbrev s_is_ascending : Stmt := topS 9
abbrev N_is_ascending : List Str := ["some", "one", "other"]
theorem sc_is_ascending : FnScope N_is_ascending ["some"] (defScope s_is_ascending) := ⟨rfl, rfl, rfl, by decide +kernel, rfl, by decide +kernel, by decide +kernel⟩
abbrev s_is_lot_below : Stmt := topS 10
abbrev N_is_lot_below : List Str := ["value", "many"]
theorem sc_is_lot_below : FnScope N_is_lot_below ["value", "many"] (defScope s_is_lot_below) := ⟨rfl, rfl, rfl, by decide +kernel, rfl, by decide +kernel, by decide +kernel⟩
abbrev s_check_totals : Stmt := topS 20
abbrev N_check_totals : List Str := ["totals", "many", "at", "total"]
theorem sc_check_totals : FnScope N_check_totals ["totals", "many"] (defScope s_check_totals) := ⟨rfl, rfl, rfl, by decide +kernel, rfl, by decide +kernel, by decide +kernel⟩
abbrev s_is_name : Stmt := topS 6
abbrev N_is_name : List Str := ["value", "letter"]
theorem sc_is_name : FnScope N_is_name ["value"] (defScope s_is_name) := ⟨rfl, rfl, rfl, by decide +kernel, rfl, by decide +kernel, by decide +kernel⟩
abbrev s_are_names : Stmt := topS 7
abbrev N_are_names : List Str := ["value", "item"]
theorem sc_are_names : FnScope N_are_names ["value"] (defScope s_are_names) := ⟨rfl, rfl, rfl, by decide +kernel, rfl, by decide +kernel, by decide +kernel⟩
abbrev s_check_kinds : Stmt := topS 19
abbrev N_check_kinds : List Str := ["kinds"]
theorem sc_check_kinds : FnScope N_check_kinds ["kinds"] (defScope s_check_kinds) := ⟨rfl, rfl, rfl, by decide +kernel, rfl, by decide +kernel, by decide +kernel⟩
abbrev i_Table : Stmt := inClass (topS 18) 0
theorem sc_i_Table : FnScope ["self", "kinds", "totals"] ["self", "kinds", "totals"] (defScope i_Table) := ⟨rfl, rfl, rfl, by decide +kernel, rfl, by decide +kernel, by decide +kernel⟩
abbrev s__law_draw : Stmt := topS 39
abbrev N__law_draw : List Str := ["heap", "many", "rest"]
theorem sc__law_draw : FnScope N__law_draw ["heap", "many"] (defScope s__law_draw) := ⟨rfl, rfl, rfl, by decide +kernel, rfl, by decide +kernel, by decide +kernel⟩
abbrev s__law_pick : Stmt := topS 40
abbrev N__law_pick : List Str := ["heap", "some"]
theorem sc__law_pick : FnScope N__law_pick ["heap", "some"] (defScope s__law_pick) := ⟨rfl, rfl, rfl, by decide +kernel, rfl, by decide +kernel, by decide +kernel⟩
abbrev s__law_heap : Stmt := topS 38
abbrev N__law_heap : List Str := ["script", "cell", "cells", "stir"]
theorem sc__law_heap : FnScope N__law_heap ["script"] (defScope s__law_heap) := ⟨rfl, rfl, rfl, by decide +kernel, rfl, by decide +kernel, by decide +kernel⟩
abbrev s_totals_with : Stmt := topS 21
abbrev N_totals_with : List Str := ["table", "kind", "at", "total"]
theorem sc_totals_with : FnScope N_totals_with ["table", "kind"] (defScope s_totals_with) := ⟨rfl, rfl, rfl, by decide +kernel, rfl, by decide +kernel, by decide +kernel⟩
abbrev s_classes_of : Stmt := topS 22
abbrev N_classes_of : List Str := ["table", "by_totals", "kind", "totals", "kinds"]
theorem sc_classes_of : FnScope N_classes_of ["table"] (defScope s_classes_of) := ⟨rfl, rfl, rfl, by decide +kernel, rfl, by decide +kernel, by decide +kernel⟩
abbrev s_class_numbers : Stmt := topS 23
abbrev N_class_numbers : List Str := ["table", "numbers", "at", "kinds", "kind"]
theorem sc_class_numbers : FnScope N_class_numbers ["table"] (defScope s_class_numbers) := ⟨rfl, rfl, rfl, by decide +kernel, rfl, by decide +kernel, by decide +kernel⟩
section
variable {P : Program} {w : World} {K : PySem.W.Frag} {mg : Str → Option Value} {base : Heap}
theorem ok_is_an_integer {f : Addr} {fd : FuncData} (F : Fun K "is_an_integer" "is_an_integer" s_is_an_integer f fd) (z_isinstance : mg "isinstance" = none) (z_int : mg "int" = none) (z_bool : mg "bool" = none) :
    FnOk P w K mg base CX0 1 f fd ["value"] (spInt K) := by
  refine F.ok sc_is_an_integer (fun vs H Q E h => ?_) (fun cdv A outer s H vs Q E hr h => ?_)
  · obtain ⟨v, o, rfl, _⟩ := h
    rfl
  · obtain ⟨v, o, rfl, hp, q⟩ := h
    refine ⟨_, (pss_one (ps_ret (pe_and (pe_callB call_isi (by rfl) z_isinstance (by decide +kernel) (pa_cons (pv 0) (pa_cons (pe_bltn (v := .ty "int") (by rfl) z_int (by decide +kernel) rfl) pa_nil))) (pe_one (pe_not (pe_callB call_isi (by rfl) z_isinstance (by decide +kernel) (pa_cons (pv 0) (pa_cons (pe_bltn (v := .ty "bool") (by rfl) z_bool (by decide +kernel) rfl) pa_nil)))))))), ?_⟩
    rcases hp with ⟨a, rfl, rfl⟩ | ⟨rfl, ty, b1, b2, t, k1, k2, e⟩
    · refine ⟨_, rfl, _, _, _, _, true, rfl, .ty "int", .base (.int a), kb1, true, rfl, iteT ?_⟩
      exact ⟨_, rfl, _, _, _, _, false, rfl, .ty "bool", .base (.int a), kb2, _, rfl, q⟩
    · refine ⟨_, rfl, _, _, _, _, b1, rfl, .ty "int", t, kit_ty k1, b1, rfl, ?_⟩
      cases b1 with
      | false => exact iteF q
      | true =>
        refine iteT ⟨_, rfl, _, _, _, _, b2, rfl, .ty "bool", t, kit_ty k2, _, rfl, ?_⟩
        have e2 : (!b2) = false := e
        rw [e2]
        exact q
theorem ok_is_number {f : Addr} {fd : FuncData} (F : Fun K "is_number" "is_number" s_is_number f fd) (C_is_an_integer : Cl P w K mg base 1 "is_an_integer" (spInt K)) : FnOk P w K mg base CX0 2 f fd ["value"] (spNum K) := by
  refine F.ok sc_is_number (fun vs H Q E h => ?_) (fun cdv A outer s H vs Q E hr h => ?_)
  · obtain ⟨_, rfl, _⟩ := h
    rfl
  · obtain ⟨a, rfl, q⟩ := h
    refine ⟨_, (pss_one (ps_ret (pe_and (pe_cl C_is_an_integer hr (by decide) rfl (pa_cons (pv 0) pa_nil)) (pe_one (pe_cmpR op_ge (pv 0) pe_int (nomark _)))))), ?_⟩
    refine ⟨_, rfl, _, some a, rfl, .inl ⟨_, rfl, rfl⟩, true, rfl, iteT ?_⟩
    exact ⟨_, rfl, _, _, rfl, rfl, q⟩
theorem ok_is_number_below {f : Addr} {fd : FuncData} (F : Fun K "is_number_below" "is_number_below" s_is_number_below f fd) (C_is_number : Cl P w K mg base 2 "is_number" (spNum K)) : FnOk P w K mg base CX0 3 f fd ["value", "many"] spBelow := by
  refine F.ok sc_is_number_below (fun vs H Q E h => ?_) (fun cdv A outer s H vs Q E hr h => ?_)
  · obtain ⟨_, _, rfl, _⟩ := h
    rfl
  · obtain ⟨a, n, rfl, q⟩ := h
    refine ⟨_, (pss_one (ps_ret (pe_and (pe_cl C_is_number hr (by decide) rfl (pa_cons (pv 0) pa_nil)) (pe_one (pe_cmpR op_lt (pv 0) (pv 1) (nomark _)))))), ?_⟩
    refine ⟨_, rfl, a, rfl, _, rfl, ite2 (fun e => ?_) (fun e => ?_)⟩
    · have ha := of_decide_eq_true e
      refine ⟨_, rfl, _, rfl, _, _, rfl, rfl, ?_⟩
      have e2 : decide (a < n) = decide (0 ≤ a ∧ a < n) := decide_eq_decide.mpr ⟨fun z => ⟨ha, z⟩, fun z => z.2⟩
      show Q (.bl (decide (a < n))) H
      rw [e2]
      exact q
    · have ha : ¬ 0 ≤ a := fun z => e (decide_eq_true z)
      have e1 : decide (0 ≤ a ∧ a < n) = false := decide_eq_false (fun z => ha z.1)
      rw [e1] at q
      exact q
theorem ok_are_numbers_below {f : Addr} {fd : FuncData} (F : Fun K "are_numbers_below" "are_numbers_below" s_are_numbers_below f fd) (C_is_number_below : Cl P w K mg base 3 "is_number_below" spBelow) (z_isinstance : mg "isinstance" = none) (z_tuple : mg "tuple" = none) (z_all : mg "all" = none) :
    FnOk P w K mg base CX0 4 f fd ["value", "many"] (spNumsBelow K) := by
  refine F.ok sc_are_numbers_below (fun vs H Q E h => ?_) (fun cdv A outer s H vs Q E hr h => ?_)
  · obtain ⟨_, _, _, rfl, _⟩ := h
    rfl
  · obtain ⟨t, cs, n, rfl, hS, hl, hc, fin⟩ := h
    refine ⟨_, (pss_one (ps_ret (pe_and (pe_callB call_isi (by rfl) z_isinstance (by decide +kernel) (pa_cons (pv 0) (pa_cons (pe_bltn (v := .ty "tuple") (by rfl) z_tuple (by decide +kernel) rfl) pa_nil))) (pe_one (pe_callB (cr_all rfl) (by rfl) z_all (by decide +kernel) (pa_cons (pe_lc (own := [("item", 2)]) (by rfl) sc_are_numbers_below.nd (pi_tup (pv 0)) (blkOk_by (own := [("item", 2)]) (N := N_are_numbers_below) (sc := defScope s_are_numbers_below) (by decide +kernel)) (fun _ _ _ _ _ => (pg_name (i := 2) sc_are_numbers_below.nd rfl (.inl rfl))) (fun _ _ _ _ _ => pts_nil) (fun _ _ _ _ _ => (pe_cl C_is_number_below hr (by decide) rfl (pa_cons (pv 2) (pa_cons (pv 1) pa_nil))))) pa_nil)))))), ?_⟩
    refine ⟨_, rfl, _, _, _, _, true, rfl, .ty "tuple", tyT hS, kit_ty (by decide +kernel), true, rfl, iteT ?_⟩
    refine ⟨_, rfl, t, rfl, ⟨_, hS⟩, fun D nD => ?_⟩
    refine lc_it (walk_tup (K := K) (a := t) (xs := cs.map V.int)) (fun i H' => Same H H' ∧ ∃ bs : List Bool, bs.length = i ∧ bs.all id = true ∧ H' D = some (.lst (bs.map V.bl))) ⟨same_upd nD, [], rfl, rfl, upd_same⟩ (fun i H' _ h => seqT h.1 hS) ?_ ?_
    · rintro i v H1 H2 hi ⟨sm, bs, el, ea, hD⟩ ⟨e2, ex⟩
      subst e2
      rw [List.getElem?_map] at ex
      obtain ⟨c, ec, rfl⟩ := Option.map_eq_some_iff.mp ex
      have ⟨c0, c1⟩ := hc c (List.mem_of_getElem? ec)
      refine ⟨rfl, _, rfl, _, rfl, c, n, rfl, ?_⟩
      have il : i < cs.length := (List.getElem?_eq_some_iff.mp ec).1
      rw [decide_eq_true (⟨c0, c1⟩ : 0 ≤ c ∧ c < n)]
      refine ⟨bs.map V.bl, hD, ?_, HD.same_put sm nD, bs ++ [true], by rw [List.length_append, el]; rfl, ?_, ?_⟩
      · rw [List.length_map]
        have : sizeLine = 16777216 := by decide
        omega
      · rw [List.all_append, ea]
        rfl
      · rw [upd_same, List.map_append]
        rfl
    · rintro H1 ⟨sm, bs, el, ea, hD⟩
      refine ⟨D, bs, rfl, .inl (.inl hD), ?_⟩
      rw [ea]
      exact fin H1 sm
theorem ok_is_ascending {f : Addr} {fd : FuncData} (F : Fun K "is_ascending" "is_ascending" s_is_ascending f fd) (z_all : mg "all" = none) (z_zip : mg "zip" = none) : FnOk P w K mg base CX0 1 f fd ["some"] (spAsc K) := by
  refine F.ok sc_is_ascending (fun vs H Q E h => ?_) (fun cdv A outer s H vs Q E hr h => ?_)
  · obtain ⟨_, _, rfl, _⟩ := h
    rfl
  · obtain ⟨t, xs, rfl, hS, hl, hasc, fin⟩ := h
    refine ⟨_, (pss_one (ps_ret (pe_callB (cr_all rfl) (by rfl) z_all (by decide +kernel) (pa_cons (pe_lc (own := [("one", 1), ("other", 2)]) (by rfl) sc_is_ascending.nd (RZ.pi_zipA (by rfl) z_zip (pa_cons (pv 0) (pa_cons (pe_meet (pe_slice sl_tupA (pv 0) (po_some pe_int) po_none)) pa_nil))) (blkOk_by (own := [("one", 1), ("other", 2)]) (N := N_is_ascending) (sc := defScope s_is_ascending) (by decide +kernel)) (fun _ _ _ _ _ => (show PG _ _ (gTup K 2 _) from pg_tup rfl (pgs_cons (pg_name (i := 1) sc_is_ascending.nd rfl (.inl rfl)) (pgs_cons (pg_name (i := 2) sc_is_ascending.nd rfl (.inl rfl)) pgs_nil)))) (fun _ _ _ _ _ => pts_nil) (fun _ _ _ _ _ => (pe_cmpR (op_lt.or op_lt_str) (pv 1) (pv 2) (nomark _)))) pa_nil)))), ?_⟩
    refine ⟨_, rfl, fun v H' => ∃ u, v = .ref u ∧ Same H H' ∧ SqT K H' u (xs.drop 1), ?_, ?_⟩
    · refine ⟨_, rfl, 1, rfl, ?_⟩
      refine ⟨t, xs, rfl, hS, fun z => ?_, fun z u nu => ?_⟩
      · have e : HT.sIx xs.length 0 (some 1) = min 1 xs.length := HT.sIx_nat xs.length 0 1
        have e0 : xs.length = 0 := by
          have := z.1
          rw [e] at this
          omega
        have x0 : xs = [] := List.eq_nil_of_length_eq_zero e0
        subst x0
        exact ⟨t, rfl, Same.refl _, hS⟩
      · refine ⟨u, rfl, same_upd nu, ?_⟩
        have h := sqt (K := K) (upd_same (H := H) (a := u) (o := .tup (cutV xs (some 1) none)))
        rw [cut1] at h ⊢
        exact h
    rintro v H1 ⟨u, rfl, sm1, hU⟩
    have hS1 := seqT sm1 hS
    refine ⟨t, u, xs, xs.drop 1, rfl, .inr ⟨hS1, hU, fun D nD => ?_⟩⟩
    refine lc_it (walk_zipT (K := K) (a := t) (b := u) (xs := xs) (ys := xs.drop 1) (n := xs.length - 1) (by rw [List.length_drop]; omega)) (fun i H' => Same H1 H' ∧ ∃ bs : List Bool, bs.length = i ∧ bs.all id = true ∧ H' D = some (.lst (bs.map V.bl))) ⟨same_upd nD, [], rfl, rfl, upd_same⟩ (fun i H' _ h => ⟨seqT h.1 hS1, seqT h.1 hU⟩) ?_ ?_
    · rintro i v H2 H3 hi ⟨sm, bs, el, ea, hD⟩ ⟨T, x, y, rfl, nT, rfl, ex, ey⟩
      have ey2 : xs[i + 1]? = some y := by
        have z : (xs.drop 1)[i]? = some y := ey
        rw [List.getElem?_drop, Nat.add_comm] at z
        exact z
      have sT := same_upd (o := .tup [x, y]) nT
      have hlt := hasc i x y ex ey2
      have fin2 : ∃ acc : List V, (L2.upd H2 T (.tup [x, y])) D = some (.lst acc) ∧ acc.length < sizeLine ∧ Same H1 (L2.upd (L2.upd H2 T (.tup [x, y])) D (.lst (acc ++ [V.bl true]))) ∧ ∃ bs : List Bool, bs.length = i + 1 ∧ bs.all id = true ∧ (L2.upd (L2.upd H2 T (.tup [x, y])) D (.lst (acc ++ [V.bl true]))) D = some (.lst (bs.map V.bl)) := by
        refine ⟨bs.map V.bl, sT _ _ hD, ?_, HD.same_put (sm.trans sT) nD, bs ++ [true], by rw [List.length_append, el]; rfl, ?_, ?_⟩
        · have : sizeLine = 16777216 := by decide
          rw [List.length_map]
          omega
        · rw [List.all_append, ea]
          rfl
        · rw [upd_same, List.map_append]
          rfl
      obtain ⟨acc, f1, f2, f3, f4⟩ := fin2
      refine ⟨T, _, rfl, .inl (.inl upd_same), rfl, _, _, rfl, _, _, rfl, rfl, rfl, _, rfl, _, rfl, ?_⟩
      rcases hlt with ⟨a, b, rfl, rfl, ab⟩ | ⟨a, b, rfl, rfl, ab⟩
      · refine .inl ⟨_, _, rfl, rfl, acc, f1, f2, ?_⟩
        have e : decide (a < b) = true := decide_eq_true ab
        simp only [e]
        exact ⟨f3, f4⟩
      · refine .inr ⟨a, b, rfl, rfl, acc, f1, f2, ?_⟩
        have e : decide (a.cps.toList < b.cps.toList) = true := decide_eq_true ab
        rw [e]
        exact ⟨f3, f4⟩
    · rintro H2 ⟨sm, bs, el, ea, hD⟩
      refine ⟨D, bs, rfl, .inl (.inl hD), ?_⟩
      rw [ea]
      exact fin H2 (sm1.trans sm)
theorem ok_is_lot_below {f : Addr} {fd : FuncData} (F : Fun K "is_lot_below" "is_lot_below" s_is_lot_below f fd) (C_are_numbers_below : Cl P w K mg base 4 "are_numbers_below" (spNumsBelow K)) (C_is_ascending : Cl P w K mg base 1 "is_ascending" (spAsc K)) :
    FnOk P w K mg base CX0 5 f fd ["value", "many"] (spLot K) := by
  refine F.ok sc_is_lot_below (fun vs H Q E h => ?_) (fun cdv A outer s H vs Q E hr h => ?_)
  · obtain ⟨_, _, _, rfl, _⟩ := h
    rfl
  · obtain ⟨t, cs, n, rfl, hS, hl, hc, ha, fin⟩ := h
    refine ⟨_, (pss_one (ps_ret (pe_and (pe_cl C_are_numbers_below hr (by decide) rfl (pa_cons (pv 0) (pa_cons (pv 1) pa_nil))) (pe_one (pe_cl C_is_ascending hr (by decide) rfl (pa_cons (pv 0) pa_nil)))))), ?_⟩
    refine ⟨_, rfl, _, rfl, t, cs, n, rfl, hS, hl, hc, fun H1 sm => ⟨true, rfl, iteT ?_⟩⟩
    exact ⟨_, rfl, t, _, rfl, seqT sm hS, by rw [List.length_map]; exact hl, asc_ints ha, fun H2 sm2 => fin H2 (sm.trans sm2)⟩
theorem ok_check_totals {f fi Ci : Addr} {fd fdi : FuncData} {tk : Tok} (F : Fun K "check_totals" "check_totals" s_check_totals f fd) (C_is_lot_below : Cl P w K mg base 5 "is_lot_below" (spLot K)) (m_MOST_TOTALS : mg "MOST_TOTALS" = some (.int 12 tk))
    (e_InvalidTable : ErrC K mg "InvalidTable" Ci fi) (i_InvalidTable : FnOk P w K mg base CX0 1 fi fdi ["self", "at"] (spInitW K Ci "at")) (b_InvalidTable : Binds K fdi ["self", "at"] [])
    (z_isinstance : mg "isinstance" = none) (z_tuple : mg "tuple" = none) (z_len : mg "len" = none) (z_enumerate : mg "enumerate" = none) :
    FnOk P w K mg base (L2.CX P w) 6 f fd ["totals", "many"] (spCheckTotals K) := by
  refine F.okX sc_check_totals (fun vs H Q E h => ?_) (fun cdv A outer s H vs Q E hr h => ?_)
  · obtain ⟨_, _, _, _, rfl, _⟩ := h
    rfl
  · obtain ⟨t, xs, ts, n, rfl, hS, hT, hl, ho, fin⟩ := h
    refine ⟨_, (pss_cons (ps_if (PW.pt (pw_or (pt_not (pt_val (pe_callB call_isi (by rfl) z_isinstance (by decide +kernel) (pa_cons (pv 0) (pa_cons (pe_bltn (v := .ty "tuple") (by rfl) z_tuple (by decide +kernel) rfl) pa_nil))))) (pw_or1 (pt_cmpR op_gt (pe_callB call_len_seq (by rfl) z_len (by decide +kernel) (pa_cons (pv 0) pa_nil)) (pe_glob (v := .int 12) rfl m_MOST_TOTALS ⟨_, rfl⟩) (nomark _)))))
      (pss_one (ps_raise rfl (takes_of rfl rfl rfl rfl) (pmk_oex e_InvalidTable.o e_InvalidTable.iC e_InvalidTable.tI i_InvalidTable (hr.mono (by decide)) b_InvalidTable .nil pass0 rfl e_InvalidTable.gC (pa_cons (pe_un un_neg pe_int) pa_nil))))
      pss_nil)
    (pss_one (ps_for (passes_of rfl) rfl (pi_enumT (by rfl) z_enumerate (pa_cons (pv 0) pa_nil)) (pg_tup rfl (pgs_cons (pg_name (i := 2) sc_check_totals.nd rfl (.inl rfl)) (pgs_cons (pg_name (i := 3) sc_check_totals.nd rfl (.inl rfl)) pgs_nil)))
      (pss_one (ps_if (pt_not (pt_val (pe_cl C_is_lot_below hr (by decide) rfl (pa_cons (pv 3) (pa_cons (pv 1) pa_nil)))))
        (pss_one (ps_raise rfl (takes_of rfl rfl rfl rfl) (pmk_oex e_InvalidTable.o e_InvalidTable.iC e_InvalidTable.tI i_InvalidTable (hr.mono (by decide)) b_InvalidTable .nil pass0 rfl e_InvalidTable.gC (pa_cons (pv 2) pa_nil))))
        pss_nil))))), ?_⟩
    have lx := hT.len
    refine ⟨_, rfl, _, _, _, _, true, rfl, .ty "tuple", tyT hS, kit_ty (by decide +kernel), true, rfl, iteF ?_⟩
    refine ⟨_, rfl, t, _, rfl, .inr hS, _, _, rfl, rfl, _, rfl, ite2 (fun z => ?_) (fun z => ?_)⟩
    · have : (xs.length : Int) > 12 := of_decide_eq_true z
      omega
    refine ⟨_, rfl, t, xs, rfl, hS, ?_⟩
    refine for_it (walk_enumT (K := K) (a := t) (xs := xs)) (fun i σ H' => Same H H' ∧ ∃ y2 y3 : Option V, σ = [some (.ref t), some (.int n), y2, y3]) ⟨Same.refl _, _, _, rfl⟩ (fun i σ H' _ h => seqT h.1 hS) ?_ ?_
    · rintro i v σ H2 H3 hi ⟨sm, y2, y3, rfl⟩ ⟨U, x, rfl, nU, rfl, ex⟩
      obtain ⟨u, c, rfl, ec, hu⟩ := hT.get ex
      have sU := same_upd (o := .tup [.int (i : Nat), .ref u]) nU
      have ok := ho c (List.mem_of_getElem? ec)
      refine ⟨U, _, rfl, .inl (.inl upd_same), rfl, _, _, rfl, _, _, rfl, rfl, ?_⟩
      refine ⟨_, rfl, _, rfl, u, c, n, rfl, seqT (sm.trans sU) hu, ok.1, ok.2.1, ok.2.2, fun H4 s4 => ⟨true, rfl, iteF ?_⟩⟩
      exact ⟨(sm.trans sU).trans s4, _, _, rfl⟩
    · rintro σ H2 ⟨sm, y2, y3, rfl⟩
      exact fin H2 sm
theorem ok_is_name {f : Addr} {fd : FuncData} {tk : Tok} (F : Fun K "is_name" "is_name" s_is_name f fd) (m_LETTERS : ∃ u, mg "LETTERS" = some (.str cLETTERS u)) (m_LONGEST_NAME : mg "LONGEST_NAME" = some (.int 6 tk))
    (z_isinstance : mg "isinstance" = none) (z_str : mg "str" = none) (z_len : mg "len" = none) (z_all : mg "all" = none) : FnOk P w K mg base CX0 1 f fd ["value"] spName := by
  refine F.ok sc_is_name (fun vs H Q E h => ?_) (fun cdv A outer s H vs Q E hr h => ?_)
  · obtain ⟨_, rfl, _⟩ := h
    rfl
  · obtain ⟨z, rfl, ⟨n1, n2, n3⟩, fin⟩ := h
    refine ⟨_, (pss_cons (ps_if (PW.pt (pw_or (pt_not (pt_val (pe_callB call_isi (by rfl) z_isinstance (by decide +kernel) (pa_cons (pv 0) (pa_cons (pe_bltn (v := .ty "str") (by rfl) z_str (by decide +kernel) rfl) pa_nil))))) (pw_or1 (pt_not (pt_chain op_le op_le pe_int (pe_callB call_len_str (by rfl) z_len (by decide +kernel) (pa_cons (pv 0) pa_nil)) (pe_glob (v := .int 6) rfl m_LONGEST_NAME ⟨_, rfl⟩))))))
      (pss_one (ps_ret pe_bl))
      pss_nil)
    (pss_one (ps_ret (pe_callB (cr_all rfl) (by rfl) z_all (by decide +kernel) (pa_cons (pe_lc (own := [("letter", 1)]) (by rfl) sc_is_name.nd (pi_str (pv 0)) (blkOk_by (own := [("letter", 1)]) (N := N_is_name) (sc := defScope s_is_name) (by decide +kernel)) (fun _ _ _ _ _ => (pg_name (i := 1) sc_is_name.nd rfl (.inl rfl))) (fun _ _ _ _ _ => pts_nil) (fun _ _ _ _ _ => (pe_cmpR op_in_sign (pv 1) (pe_gs rfl m_LETTERS) rfl))) pa_nil))))), ?_⟩
    refine ⟨_, rfl, _, _, _, _, true, rfl, .ty "str", .base (.str z), kit_ty (by decide +kernel), true, rfl, iteF ?_⟩
    have zl : z.length = z.cps.size := rfl
    refine ⟨_, rfl, z, rfl, ?_, _, _, rfl, rfl, _, rfl, ite_eq true (decide_eq_true (by show (1 : Int) ≤ (z.length : Nat); omega)) (iteT ?_)⟩
    · have : sizeLine = 16777216 := by decide
      omega
    refine ⟨_, _, rfl, rfl, _, rfl, ite_eq false ?_ (iteF ?_)⟩
    · have e : decide (((z.length : Nat) : Int) ≤ 6) = true := decide_eq_true (by omega)
      rw [e]
      rfl
    refine ⟨_, rfl, z, rfl, fun D nD => ?_⟩
    refine lc_it (walk_str (z := z)) (fun i H' => Same H H' ∧ ∃ bs : List Bool, bs.length = i ∧ bs.all id = true ∧ H' D = some (.lst (bs.map V.bl))) ⟨same_upd nD, [], rfl, rfl, upd_same⟩ (fun _ _ _ _ => trivial) ?_ ?_
    · rintro i v H2 H3 hi ⟨sm, bs, el, ea, hD⟩ ⟨e2, c, ec, rfl⟩
      subst e2
      have cm : c ∈ z.cps.toList := by
        have q : z.cps.toList[i]? = some c := by rw [Array.getElem?_toList]; exact ec
        exact List.mem_of_getElem? q
      refine ⟨rfl, _, rfl, c, _, rfl, rfl, ?_⟩
      rw [decide_eq_true ((in_letters c).mpr (n3 c cm))]
      refine ⟨bs.map V.bl, hD, ?_, HD.same_put sm nD, bs ++ [true], by rw [List.length_append, el]; rfl, ?_, ?_⟩
      · rw [List.length_map]
        have : sizeLine = 16777216 := by decide
        omega
      · rw [List.all_append, ea]
        rfl
      · rw [upd_same, List.map_append]
        rfl
    · rintro H2 ⟨sm, bs, el, ea, hD⟩
      refine ⟨D, bs, rfl, .inl (.inl hD), ?_⟩
      rw [ea]
      exact fin H2 sm
theorem ok_are_names {f : Addr} {fd : FuncData} (F : Fun K "are_names" "are_names" s_are_names f fd) (C_is_name : Cl P w K mg base 1 "is_name" spName) (z_isinstance : mg "isinstance" = none) (z_tuple : mg "tuple" = none) (z_all : mg "all" = none) :
    FnOk P w K mg base CX0 2 f fd ["value"] (spNames K) := by
  refine F.ok sc_are_names (fun vs H Q E h => ?_) (fun cdv A outer s H vs Q E hr h => ?_)
  · obtain ⟨_, _, rfl, _⟩ := h
    rfl
  · obtain ⟨t, ks, rfl, hS, hl, hc, fin⟩ := h
    refine ⟨_, (pss_one (ps_ret (pe_and (pe_callB call_isi (by rfl) z_isinstance (by decide +kernel) (pa_cons (pv 0) (pa_cons (pe_bltn (v := .ty "tuple") (by rfl) z_tuple (by decide +kernel) rfl) pa_nil))) (pe_one (pe_callB (cr_all rfl) (by rfl) z_all (by decide +kernel) (pa_cons (pe_lc (own := [("item", 1)]) (by rfl) sc_are_names.nd (pi_tup (pv 0)) (blkOk_by (own := [("item", 1)]) (N := N_are_names) (sc := defScope s_are_names) (by decide +kernel)) (fun _ _ _ _ _ => (pg_name (i := 1) sc_are_names.nd rfl (.inl rfl))) (fun _ _ _ _ _ => pts_nil) (fun _ _ _ _ _ => (pe_cl C_is_name hr (by decide) rfl (pa_cons (pv 1) pa_nil)))) pa_nil)))))), ?_⟩
    refine ⟨_, rfl, _, _, _, _, true, rfl, .ty "tuple", tyT hS, kit_ty (by decide +kernel), true, rfl, iteT ?_⟩
    refine ⟨_, rfl, t, rfl, ⟨_, hS⟩, fun D nD => ?_⟩
    refine lc_it (walk_tup (K := K) (a := t) (xs := ks.map V.str)) (fun i H' => Same H H' ∧ ∃ bs : List Bool, bs.length = i ∧ bs.all id = true ∧ H' D = some (.lst (bs.map V.bl))) ⟨same_upd nD, [], rfl, rfl, upd_same⟩ (fun i H' _ h => seqT h.1 hS) ?_ ?_
    · rintro i v H1 H2 hi ⟨sm, bs, el, ea, hD⟩ ⟨e2, ex⟩
      subst e2
      rw [List.getElem?_map] at ex
      obtain ⟨z, ec, rfl⟩ := Option.map_eq_some_iff.mp ex
      have il : i < ks.length := (List.getElem?_eq_some_iff.mp ec).1
      refine ⟨rfl, _, rfl, z, rfl, hc z (List.mem_of_getElem? ec), fun H3 s3 => ?_⟩
      have sm3 := sm.trans s3
      refine ⟨bs.map V.bl, s3 _ _ hD, ?_, HD.same_put sm3 nD, bs ++ [true], by rw [List.length_append, el]; rfl, ?_, ?_⟩
      · rw [List.length_map]
        have : sizeLine = 16777216 := by decide
        omega
      · rw [List.all_append, ea]
        rfl
      · rw [upd_same, List.map_append]
        rfl
    · rintro H1 ⟨sm, bs, el, ea, hD⟩
      refine ⟨D, bs, rfl, .inl (.inl hD), ?_⟩
      rw [ea]
      exact fin H1 sm
theorem ok_check_kinds {f fi Ci : Addr} {fd fdi : FuncData} {tk : Tok} (F : Fun K "check_kinds" "check_kinds" s_check_kinds f fd) (C_are_names : Cl P w K mg base 2 "are_names" (spNames K)) (C_is_ascending : Cl P w K mg base 1 "is_ascending" (spAsc K)) (m_MOST_KINDS : mg "MOST_KINDS" = some (.int 12 tk))
    (e_InvalidTable : ErrC K mg "InvalidTable" Ci fi) (i_InvalidTable : FnOk P w K mg base CX0 1 fi fdi ["self", "at"] (spInitW K Ci "at")) (b_InvalidTable : Binds K fdi ["self", "at"] [])
    (z_isinstance : mg "isinstance" = none) (z_tuple : mg "tuple" = none) (z_len : mg "len" = none) :
    FnOk P w K mg base (L2.CX P w) 3 f fd ["kinds"] (spCheckKinds K) := by
  refine F.okX sc_check_kinds (fun vs H Q E h => ?_) (fun cdv A outer s H vs Q E hr h => ?_)
  · obtain ⟨_, _, rfl, _⟩ := h
    rfl
  · obtain ⟨t, ks, rfl, hS, ⟨l1, l2, l3, l4⟩, fin⟩ := h
    refine ⟨_, (pss_cons (ps_if (PW.pt (pw_or (pt_not (pt_val (pe_callB call_isi (by rfl) z_isinstance (by decide +kernel) (pa_cons (pv 0) (pa_cons (pe_bltn (v := .ty "tuple") (by rfl) z_tuple (by decide +kernel) rfl) pa_nil))))) (pw_or1 (pt_not (pt_chain op_le op_le pe_int (pe_callB call_len_seq (by rfl) z_len (by decide +kernel) (pa_cons (pv 0) pa_nil)) (pe_glob (v := .int 12) rfl m_MOST_KINDS ⟨_, rfl⟩))))))
      (pss_one (ps_raise rfl (takes_of rfl rfl rfl rfl) (pmk_oex e_InvalidTable.o e_InvalidTable.iC e_InvalidTable.tI i_InvalidTable (hr.mono (by decide)) b_InvalidTable .nil pass0 rfl e_InvalidTable.gC (pa_cons (pe_un un_neg pe_int) pa_nil))))
      pss_nil)
    (pss_one (ps_if (PW.pt (pw_or (pt_not (pt_val (pe_cl C_are_names hr (by decide) rfl (pa_cons (pv 0) pa_nil)))) (pw_or1 (pt_not (pt_val (pe_cl C_is_ascending hr (by decide) rfl (pa_cons (pv 0) pa_nil)))))))
      (pss_one (ps_raise rfl (takes_of rfl rfl rfl rfl) (pmk_oex e_InvalidTable.o e_InvalidTable.iC e_InvalidTable.tI i_InvalidTable (hr.mono (by decide)) b_InvalidTable .nil pass0 rfl e_InvalidTable.gC (pa_cons (pe_un un_neg pe_int) pa_nil))))
      pss_nil))), ?_⟩
    have ll : (ks.map V.str).length = ks.length := List.length_map _
    refine ⟨_, rfl, _, _, _, _, true, rfl, .ty "tuple", tyT hS, kit_ty (by decide +kernel), true, rfl, iteF ?_⟩
    refine ⟨_, rfl, t, _, rfl, .inr hS, _, _, rfl, rfl, _, rfl, ite_eq true (decide_eq_true (by omega)) (iteT ?_)⟩
    refine ⟨_, _, rfl, rfl, _, rfl, ite_eq false ?_ (iteF ?_)⟩
    · have e : decide ((((ks.map V.str).length : Nat) : Int) ≤ 12) = true := decide_eq_true (by omega)
      rw [e]
      rfl
    refine ⟨_, rfl, t, ks, rfl, hS, by omega, l3, fun H1 s1 => ⟨true, rfl, iteF ?_⟩⟩
    refine ⟨_, rfl, t, _, rfl, seqT s1 hS, by omega, asc_strs l4, fun H2 s2 => ⟨true, rfl, iteF ?_⟩⟩
    exact fin H2 (s1.trans s2)
theorem ok_init_Table {f C : Addr} {fd : FuncData} (F : Fun K "__init__" "Table.__init__" i_Table f fd) (T : TabC K C) (C_check_kinds : Cl P w K mg base 3 "check_kinds" (fun vs H Q _ => spCheckKinds K vs H Q E0)) (C_check_totals : Cl P w K mg base 6 "check_totals" (fun vs H Q _ => spCheckTotals K vs H Q E0))
    (z_len : mg "len" = none) : FnOk P w K mg base CX0 7 f fd ["self", "kinds", "totals"] (spInitT K C) := by
  refine F.ok sc_i_Table (fun vs H Q E h => ?_) (fun cdv A outer s H vs Q E hr h => ?_)
  · obtain ⟨_, _, _, _, _, _, _, rfl, _⟩ := h
    rfl
  · obtain ⟨a, dx, k, t, ks, xs, ts, rfl, ha, hk, ok, ht, hT, hl, hc, fin⟩ := h
    refine ⟨_, (pss_cons (ps_expr (pe_cl C_check_kinds hr (by decide) rfl (pa_cons (pv 1) pa_nil)))
      (pss_cons (ps_expr (pe_cl C_check_totals hr (by decide) rfl (pa_cons (pv 2) (pa_cons (pe_callB call_len_seq (by rfl) z_len (by decide +kernel) (pa_cons (pv 1) pa_nil)) pa_nil))))
      (pss_cons (ps_fld (pv 0) (pv 1) (by rfl))
      (pss_one (ps_fld (pv 0) (pv 2) (by rfl)))))), ?_⟩
    refine ⟨_, rfl, k, ks, rfl, hk, ok, fun H1 s1 => ?_⟩
    have hk1 := seqT s1 hk
    have e : ((ks.map V.str).length : Int) = (ks.length : Nat) := by rw [List.length_map]
    refine ⟨_, rfl, _, rfl, k, _, rfl, .inr hk1, t, xs, ts, _, rfl, seqT s1 ht, hT.mono s1, hl, fun c h => by rw [e]; exact hc c h, fun H2 s2 => ?_⟩
    have s12 := s1.trans s2
    refine ⟨_, rfl, _, rfl, a, C, dx, [], rfl, s12 _ _ ha, T.c, T.nk, by decide, ?_⟩
    refine ⟨_, rfl, _, rfl, a, C, dx, _, rfl, upd_same, T.c, T.nt, by show 1 < 1000; decide, ?_⟩
    refine fin _ (fun b o nb hb => ?_) ?_
    · rw [upd_ne nb, upd_ne nb]
      exact s12 b o hb
    · rw [upd_same]
      rfl
theorem ok__law_draw {f : Addr} {fd : FuncData} (F : Fun K "_law_draw" "_law_draw" s__law_draw f fd) (z_int : mg "int" = none) :
    FnOk P w K mg base CX0 1 f fd ["heap", "many"] spDraw := by
  refine F.ok sc__law_draw (fun vs H Q E h => ?_) (fun cdv A outer s H vs Q E hr h => ?_)
  · obtain ⟨p, q, many, rfl, _⟩ := h
    rfl
  · obtain ⟨p, q, many, rfl, hd, m0, m1, fin⟩ := h
    refine ⟨_, (pss_cut (ps_while PassesOwn.never (PW.pt (pw_and (pt_cmpR (op_neD hr.units) (pe_ix ix_list (pv 0) pe_int (fun _ _ => rfl)) (pe_lst pa_nil) (nomark _)) (pw_and1 (pt_cmpR op_eq (pe_ix ix_list (pe_ix ix_list (pv 0) pe_int (fun _ _ => rfl)) (pe_un un_neg pe_int) (fun _ _ => rfl)) pe_int (nomark _)))))
      (pss_one (ps_expr (pe_bm0 PySem.F.plainAttrs_list PySem.F.slot_list_pop PySem.F.type_list_pop mt_pop (pe_ix ix_list (pv 0) pe_int (fun _ _ => rfl))))))
    (pss_cons (ps_if (pt_cmpR (op_neD hr.units) (pe_ix ix_list (pv 0) pe_int (fun _ _ => rfl)) (pe_lst pa_nil) (nomark _))
      (pss_cons (ps_set (i := 2) sc__law_draw.nd rfl (.inl rfl) (pe_bm0 PySem.F.plainAttrs_list PySem.F.slot_list_pop PySem.F.type_list_pop mt_pop (pe_ix ix_list (pv 0) pe_int (fun _ _ => rfl))))
      (pss_cons (ps_expr (pe_bm PySem.F.plainAttrs_list PySem.F.slot_list_append PySem.F.type_list_append mt_append (pe_ix ix_list (pv 0) pe_int (fun _ _ => rfl)) (pa_cons (pe_op op_fdivN (pv 2) (pv 1)) pa_nil)))
      (pss_one (ps_ret (pe_op op_modN (pe_callTy call_int1 (by rfl) z_int (by decide +kernel) (pa_cons (pv 2) pa_nil)) (pv 1))))))
      pss_nil)
    (pss_cons (ps_asg (pe_op op_modN (pe_callTy call_int1 (by rfl) z_int (by decide +kernel) (pa_cons (pe_op op_add (pe_op op_mul (pe_ix ix_list (pv 0) pe_int (fun _ _ => rfl)) pe_int) pe_int) pa_nil)) pe_int) (pg_sub (pv 0) pe_int set_list))
    (pss_one (ps_ret (pe_op op_modN (pe_callTy call_int1 (by rfl) z_int (by decide +kernel) (pa_cons (pe_op op_fdivN (pe_ix ix_list (pv 0) pe_int (fun _ _ => rfl)) pe_int) pa_nil)) (pv 1))))))), ?_⟩
    obtain ⟨cs, st, h1, h2, h3, h4, h5⟩ := hd
    have at0 : ∀ x y : V, atI [x, y] 0 = some x := fun _ _ => rfl
    have at1 : ∀ x y : V, atI [x, y] 1 = some y := fun _ _ => rfl
    refine ⟨fun σ H' => σ = [some (.ref p), some (.int many), none] ∧ Keep p q H H' ∧ ∃ cs : List Int, H' p = some (.lst [.ref q, .int st]) ∧ H' q = some (.lst (cs.map V.int)) ∧ cs.length ≤ 63, ?_, ?_⟩
    · -- the loop
      refine ⟨fun m σ H' => ∃ cs : List Int, m = cs.length ∧ σ = [some (.ref p), some (.int many), none] ∧ Keep p q H H' ∧ H' p = some (.lst [.ref q, .int st]) ∧ H' q = some (.lst (cs.map V.int)) ∧ cs.length ≤ 63,
        ⟨_, cs, rfl, rfl, Keep.refl _ _ _, h1, h2, h3⟩, ?_⟩
      rintro m σ H1 ⟨cs, rfl, rfl, kp, h1, h2, h3⟩
      refine ⟨_, rfl, p, _, 0, .ref q, rfl, rfl, .inl (.inl h1), at0 _ _, Nat.zero_le _, fun l nl => ?_⟩
      have n1 : p ≠ l := ne_of_none h1 nl
      have n2 : q ≠ l := ne_of_none h2 nl
      have g1 : (upd H1 l (.lst [])) p = some (.lst [.ref q, .int st]) := by
        rw [upd_ne n1]
        exact h1
      have g2 : (upd H1 l (.lst [])) q = some (.lst (cs.map V.int)) := by
        rw [upd_ne n2]
        exact h2
      have kp1 : Keep p q H (upd H1 l (.lst [])) := kp.trans (Keep.new nl)
      refine ⟨_, .list [], dp_ints (.inl (.inl g2)), .lst (.inl (.inl upd_same)) .nil, shaped_ints _, shaped_nil, _, rfl, ?_⟩
      rw [eqv_nil]
      by_cases hc : cs = []
      · rw [decide_eq_true hc]
        refine iteF ⟨rfl, kp1, cs, g1, g2, h3⟩
      · rw [decide_eq_false hc]
        refine iteT ?_
        obtain ⟨c0, c, rfl⟩ := snocL cs hc
        have gl : atI ((c0 ++ [c]).map V.int) (-1) = some (.int c) := by
          rw [List.map_append]
          exact atI_last _ _
        refine ⟨_, rfl, p, _, 0, .ref q, rfl, rfl, .inl (.inl g1), at0 _ _, 1, rfl, q, _, -1, _, rfl, rfl, .inl (.inl g2), gl, rfl, _, rfl, ite2 (fun e => ?_) (fun e => ?_)⟩
        · refine ⟨fun σ' H'' => σ' = [some (.ref p), some (.int many), none] ∧ Keep p q H H'' ∧ H'' p = some (.lst [.ref q, .int st]) ∧ H'' q = some (.lst (c0.map V.int)), fun σ' H'' hN => ?_, ?_⟩
          · obtain ⟨e1, e2, e3, e4⟩ := hN
            rw [List.length_append, List.length_cons, List.length_nil] at h3
            exact ⟨c0.length, by rw [List.length_append, List.length_cons, List.length_nil]; omega, c0, rfl, e1, e2, e3, e4, by omega⟩
          · refine ⟨_, rfl, p, _, 0, .ref q, rfl, rfl, .inl (.inl g1), at0 _ _, .inl ⟨rfl, _, .inl (.inl g2)⟩, q, _, .int c, rfl, rfl, g2, ?_, rfl, kp1.trans Keep.at2, ?_, ?_⟩
            · rw [List.map_append, List.length_append, List.getElem?_append_right (by simp)]
              simp
            · rw [upd_ne (show p ≠ q from Hd.ne (H := upd H1 l (.lst [])) ⟨_, _, g1, g2, h3, h4, h5⟩)]
              exact g1
            · rw [upd_same, List.map_append]
              simp
        · exact ⟨rfl, kp1, _, g1, g2, h3⟩
    · rintro σ H1 ⟨rfl, kp, cs, h1, h2, h3⟩
      refine ⟨_, rfl, p, _, 0, .ref q, rfl, rfl, .inl (.inl h1), at0 _ _, Nat.zero_le _, fun l nl => ?_⟩
      have n1 : p ≠ l := ne_of_none h1 nl
      have n2 : q ≠ l := ne_of_none h2 nl
      have g1 : (upd H1 l (.lst [])) p = some (.lst [.ref q, .int st]) := by
        rw [upd_ne n1]
        exact h1
      have g2 : (upd H1 l (.lst [])) q = some (.lst (cs.map V.int)) := by
        rw [upd_ne n2]
        exact h2
      have kp1 : Keep p q H (upd H1 l (.lst [])) := kp.trans (Keep.new nl)
      have hpq : p ≠ q := Hd.ne (H := upd H1 l (.lst [])) ⟨_, _, g1, g2, h3, h4, h5⟩
      refine ⟨_, .list [], dp_ints (.inl (.inl g2)), .lst (.inl (.inl upd_same)) .nil, shaped_ints _, shaped_nil, _, rfl, ?_⟩
      rw [eqv_nil]
      by_cases hc : cs = []
      · -- from the number
        rw [decide_eq_true hc]
        refine iteF ?_
        have b1 : -(2 ^ 64) < st ∧ st < 2 ^ 64 := ⟨by omega, by omega⟩
        have fm := fmod_lt (st * 48271 + 17) (m := 2147483647) (by decide)
        refine ⟨_, rfl, p, _, 1, .int st, rfl, rfl, .inl (.inl g1), at1 _ _, _, _, rfl, rfl, .inl b1, _, _, rfl, rfl, .inl ⟨_, rfl, _, _, rfl, rfl, by show (2147483647 : Int) ≠ 0; decide, ?_⟩⟩
        refine ⟨_, rfl, p, _, 1, 1, rfl, rfl, g1, rfl, ?_⟩
        have g3 : (upd (upd H1 l (.lst [])) p (.lst ([V.ref q, V.int st].set 1 (V.int ((st * 48271 + 17).fmod 2147483647))))) p = some (.lst [.ref q, .int ((st * 48271 + 17).fmod 2147483647)]) := upd_same
        refine ⟨_, rfl, p, _, 1, .int ((st * 48271 + 17).fmod 2147483647), rfl, rfl, .inl (.inl g3), at1 _ _, _, _, rfl, rfl, ⟨by decide, by decide⟩, .inl ⟨_, rfl, _, rfl, _, _, rfl, rfl, by omega, ?_⟩⟩
        have fm2 := fmod_lt (((st * 48271 + 17).fmod 2147483647).fdiv 32) m0
        refine fin _ _ ⟨cs, _, g3, ?_, h3, fm.1, fm.2⟩ (kp1.trans Keep.at1) fm2.1 fm2.2
        rw [upd_ne hpq.symm]
        exact g2
      · rw [decide_eq_false hc]
        refine iteT ?_
        obtain ⟨c0, c, rfl⟩ := snocL cs hc
        have gp : (List.map V.int (c0 ++ [c]))[(List.map V.int (c0 ++ [c])).length - 1]? = some (.int c) := by
          rw [List.map_append, List.length_append, List.getElem?_append_right (by simp)]
          simp
        refine ⟨_, rfl, p, _, 0, .ref q, rfl, rfl, .inl (.inl g1), at0 _ _, .inl ⟨rfl, _, .inl (.inl g2)⟩, q, _, .int c, rfl, rfl, g2, gp, ?_⟩
        have dl : (List.map V.int (c0 ++ [c])).dropLast = c0.map V.int := by
          rw [List.map_append]
          simp
        rw [dl]
        have g3 : (upd (upd H1 l (.lst [])) q (.lst (c0.map V.int))) p = some (.lst [.ref q, .int st]) := by
          rw [upd_ne hpq]
          exact g1
        have g4 : (upd (upd H1 l (.lst [])) q (.lst (c0.map V.int))) q = some (.lst (c0.map V.int)) := upd_same
        refine ⟨_, rfl, p, _, 0, .ref q, rfl, rfl, .inl (.inl g3), at0 _ _, .inl ⟨rfl, _, .inl (.inl g4)⟩, _, rfl, _, rfl, _, _, rfl, rfl, ⟨by omega, by omega⟩, q, _, _, rfl, rfl, g4, ?_, ?_⟩
        · rw [List.length_append, List.length_cons, List.length_nil] at h3
          rw [List.length_map]
          exact small1000 (by omega)
        · refine ⟨_, rfl, .inl ⟨_, rfl, _, rfl, _, _, rfl, rfl, by omega, ?_⟩⟩
          have fm := fmod_lt c m0
          refine fin _ _ ⟨c0 ++ [c.fdiv many], st, ?_, ?_, ?_, h4, h5⟩ ((kp1.trans Keep.at2).trans Keep.at2) fm.1 fm.2
          · rw [upd_ne hpq]
            exact g3
          · rw [upd_same, List.map_append]
            rfl
          · rw [List.length_append, List.length_cons, List.length_nil] at h3 ⊢
            exact h3
theorem ok__law_pick {f : Addr} {fd : FuncData} (F : Fun K "_law_pick" "_law_pick" s__law_pick f fd) (C__law_draw : Cl P w K mg base 1 "_law_draw" spDraw) (z_len : mg "len" = none) :
    FnOk P w K mg base CX0 2 f fd ["heap", "some"] (spPick K) := by
  refine F.ok sc__law_pick (fun vs H Q E h => ?_) (fun cdv A outer s H vs Q E hr h => ?_)
  · obtain ⟨p, q, l, xs, rfl, _⟩ := h
    rfl
  · obtain ⟨p, q, l, xs, rfl, hd, hl, n1, n2, hx, hz, fin⟩ := h
    refine ⟨_, (pss_one (ps_ret (pe_ix ix_list (pv 1) (pe_cl C__law_draw hr (by decide) rfl (pa_cons (pv 0) (pa_cons (pe_callB call_len_seq (by rfl) z_len (by decide +kernel) (pa_cons (pv 1) pa_nil)) pa_nil))) (fun _ _ => rfl)))), ?_⟩
    have h0 : 0 < xs.length := List.length_pos_iff.mpr hx
    refine ⟨_, rfl, _, rfl, _, rfl, l, xs, rfl, .inl (.inl (.inl hl)), p, q, _, rfl, hd, by omega, by omega, fun H' r hd' kp r0 r1 => ?_⟩
    have hl' := kp l _ n1 n2 hl
    obtain ⟨j, rfl⟩ := Int.eq_ofNat_of_zero_le r0
    have hj : j < xs.length := by omega
    refine ⟨l, xs, _, xs[j], rfl, rfl, .inl (.inl hl'), atI_nat (List.getElem?_eq_getElem hj), ?_⟩
    exact fin _ _ hd' kp (List.getElem_mem hj)
theorem ok__law_heapF {f : Addr} {fd : FuncData} (F : Fun K "_law_heap" "_law_heap" s__law_heap f fd) (z_int : mg "int" = none) (z_abs : mg "abs" = none) :
    FnOk P w K mg base CX0 1 f fd ["script"] (spHeapF K) := by
  refine F.ok sc__law_heap (fun vs H Q E h => ?_) (fun cdv A outer s H vs Q E hr h => ?_)
  · obtain ⟨a, ns, rfl, _⟩ := h
    rfl
  · obtain ⟨a, ns, rfl, hS, hn, fin⟩ := h
    refine ⟨_, (pss_cons (ps_par (i := 2) (j := 3) (by rfl) sc__law_heap.nd rfl rfl (by decide) rfl rfl (pa_cons (pe_lc (own := [("cell", 1)]) (by rfl) sc__law_heap.nd (pi_list (pe_slice sl_list (pv 0) po_none (po_some pe_int))) (blkOk_by (own := [("cell", 1)]) (N := N__law_heap) (sc := defScope s__law_heap) (by decide +kernel)) (fun _ _ _ _ _ => (pg_name (i := 1) sc__law_heap.nd rfl (.inl rfl))) (fun _ _ _ _ _ => pts_nil) (fun _ _ _ _ _ => (pe_op op_add (pe_op op_mul pe_int (pe_callB call_abs (by rfl) z_abs (by decide +kernel) (pa_cons (pv 1) pa_nil))) (pe_callTy call_int1 (by rfl) z_int (by decide +kernel) (pa_cons (pe_cmpR op_lt (pv 1) pe_int (nomark _)) pa_nil))))) (pa_cons pe_int pa_nil)) (by rfl))
    (pss_cut (ps_for PassesOwn.never rfl (pi_list (pv 2)) (pg_name (i := 1) sc__law_heap.nd rfl (.inl rfl))
      (pss_one (ps_set (i := 3) sc__law_heap.nd rfl (.inl rfl) (pe_op op_modN (pe_callTy call_int1 (by rfl) z_int (by decide +kernel) (pa_cons (pe_op op_add (pe_op op_add (pe_op op_mul (pv 3) pe_int) (pe_op op_modN (pe_callTy call_int1 (by rfl) z_int (by decide +kernel) (pa_cons (pv 1) pa_nil)) pe_int)) pe_int) pa_nil)) pe_int))))
    (pss_one (ps_ret (pe_lst (pa_cons (pe_revL (pe_lc (own := [("cell", 1)]) (by rfl) sc__law_heap.nd (pi_list (pv 2)) (blkOk_by (own := [("cell", 1)]) (N := N__law_heap) (sc := defScope s__law_heap) (by decide +kernel)) (fun _ _ _ _ _ => (pg_name (i := 1) sc__law_heap.nd rfl (.inl rfl))) (fun _ _ _ _ _ => (pts_one (pt_cmpR op_ge (pv 1) (pe_op op_pow pe_int pe_int) (nomark _)))) (fun _ _ _ _ _ => (pv 1)))) (pa_cons (pv 3) pa_nil))))))), ?_⟩
    obtain ⟨ms, em, hm⟩ := cut_ints ns none (some 60)
    refine ⟨_, rfl, _, rfl, a, _, rfl, hS, fun c nc => ?_⟩
    rw [em]
    have s1 : Same H (upd H c (.lst (ms.map V.int))) := FR.same_upd nc
    refine ⟨c, rfl, ⟨_, .inl (.inl upd_same)⟩, fun D nD => ?_⟩
    have ncD : c ≠ D := ne_of_none upd_same nD
    refine lc_it (walk_list (K := K) (a := c) (xs := ms.map V.int)) (fun i H' => Same H H' ∧ H' c = some (.lst (ms.map V.int)) ∧ ∃ cs : List Int, cs.length = i ∧ H' D = some (.lst (cs.map V.int))) ?_ ?_ ?_ ?_
    · exact ⟨s1.trans (FR.same_upd nD), by rw [upd_ne ncD]; exact upd_same, [], rfl, upd_same⟩
    · rintro i H' _ ⟨_, h2, _⟩
      exact .inl (.inl h2)
    · rintro i x H1 H' hi ⟨sm, hc, cs, el, hD⟩ ⟨rfl, ex⟩
      rw [List.length_map] at hi
      rw [List.getElem?_map, List.getElem?_eq_getElem hi] at ex
      have e1 : V.int ms[i] = x := Option.some.inj ex
      subst e1
      refine ⟨rfl, _, rfl, _, rfl, _, _, rfl, rfl, .inl ⟨by decide, by decide⟩, _, rfl, _, _, rfl, rfl, .inr ⟨_, rfl, _, _, rfl, rfl, ?_⟩⟩
      refine ⟨cs.map V.int, hD, ?_, ?_, ?_, ?_⟩
      · rw [List.length_map]
        exact small1000 (by omega)
      · have nH : H D = none := s1.free nD
        exact HD.same_put sm nH
      · rw [upd_ne ncD]
        exact hc
      · refine ⟨cs ++ [2 * (if ms[i] < 0 then -ms[i] else ms[i]) + (if decide (ms[i] < 0) = true then 1 else 0)], by rw [List.length_append, el]; rfl, ?_⟩
        rw [upd_same, List.map_append]
        rfl
    · rintro H1 ⟨sm, hc, cs, el, hD⟩
      rw [List.length_map] at el
      have hcs : cs.length ≤ 63 := by omega
      refine ⟨_, _, rfl, ?_⟩
      -- the loop over the cells
      refine ⟨fun σ H' => H' = H1 ∧ ∃ (y1 : Option V) (st : Int), σ = [some (.ref a), y1, some (.ref D), some (.int st)] ∧ 0 ≤ st ∧ st < 2147483647, ?_, ?_⟩
      · refine ⟨_, rfl, D, rfl, ⟨_, .inl (.inl hD)⟩, ?_⟩
        refine for_it (walk_list (K := K) (a := D) (xs := cs.map V.int)) (fun i σ H' => H' = H1 ∧ ∃ (y1 : Option V) (st : Int), σ = [some (.ref a), y1, some (.ref D), some (.int st)] ∧ 0 ≤ st ∧ st < 2147483647) ?_ ?_ ?_ ?_
        · exact ⟨rfl, _, 40031, rfl, by decide, by decide⟩
        · rintro i σ H' _ ⟨rfl, _⟩
          exact .inl (.inl hD)
        · rintro i x σ H' H'' hi ⟨rfl, y1, st, rfl, h1, h2⟩ ⟨rfl, ex⟩
          rw [List.length_map] at hi
          rw [List.getElem?_map, List.getElem?_eq_getElem hi] at ex
          have e1 : V.int cs[i] = x := Option.some.inj ex
          subst e1
          have fm := fmod_lt (st * 69621 + (cs[i]).fmod 2147483563 + 29) (m := 2147483647) (by decide)
          refine ⟨_, rfl, _, _, rfl, rfl, .inl ⟨by omega, by omega⟩, _, rfl, .inl ⟨_, rfl, _, _, rfl, rfl, by show (2147483563 : Int) ≠ 0; decide, _, _, rfl, rfl, _, _, rfl, rfl, .inl ⟨_, rfl, _, _, rfl, rfl, by show (2147483647 : Int) ≠ 0; decide, ?_⟩⟩⟩
          exact ⟨rfl, _, _, rfl, fm.1, fm.2⟩
        · rintro σ H' ⟨rfl, h⟩
          exact ⟨rfl, h⟩
      · rintro σ H' ⟨rfl, y1, st, rfl, h1, h2⟩
        refine ⟨_, rfl, D, rfl, ⟨_, .inl (.inl hD)⟩, fun B nB => ?_⟩
        have nDB : D ≠ B := ne_of_none hD nB
        refine lc_it (walk_list (K := K) (a := D) (xs := cs.map V.int)) (fun i H2 => Same H H2 ∧ H2 D = some (.lst (cs.map V.int)) ∧ ∃ ds : List Int, ds.length ≤ i ∧ H2 B = some (.lst (ds.map V.int))) ?_ ?_ ?_ ?_
        · exact ⟨sm.trans (FR.same_upd nB), by rw [upd_ne nDB]; exact hD, [], Nat.le_refl _, upd_same⟩
        · rintro i H2 _ ⟨_, g2, _⟩
          exact .inl (.inl g2)
        · rintro i x H2 H3 hi ⟨sm2, hD2, ds, el2, hB⟩ ⟨rfl, ex⟩
          rw [List.length_map] at hi
          rw [List.getElem?_map, List.getElem?_eq_getElem hi] at ex
          have e1 : V.int cs[i] = x := Option.some.inj ex
          subst e1
          refine ⟨rfl, _, rfl, _, _, rfl, rfl, ⟨by decide, by decide, by decide⟩, _, _, rfl, rfl, _, rfl, ite2 (fun e => ?_) (fun e => ?_)⟩
          · refine ⟨_, rfl, ds.map V.int, hB, ?_, HD.same_put sm2 (sm.free nB), ?_, ?_⟩
            · rw [List.length_map]
              exact small1000 (by omega)
            · rw [upd_ne nDB]
              exact hD2
            · refine ⟨ds ++ [cs[i]], by rw [List.length_append, List.length_cons, List.length_nil]; omega, ?_⟩
              rw [upd_same, List.map_append]
              rfl
          · exact ⟨sm2, hD2, ds, by omega, hB⟩
        · rintro H2 ⟨sm2, hD2, ds, el2, hB⟩
          rw [List.length_map] at el2
          refine ⟨B, _, rfl, .inl (.inl hB), fun q nq => ?_⟩
          refine ⟨_, rfl, by show 2 ≤ sizeLine; decide, fun p np => ?_⟩
          have npq : q ≠ p := ne_of_none upd_same np
          refine fin _ p q ⟨ds.reverse, st, upd_same, ?_, ?_, h1, h2⟩ ((sm2.trans (FR.same_upd nq)).trans (FR.same_upd np)) ((sm2.trans (FR.same_upd nq)).free np) (sm2.free nq)
          · rw [upd_ne npq, upd_same, List.map_reverse]
          · rw [List.length_reverse]
            omega
theorem ok__law_pickT {f : Addr} {fd : FuncData} (F : Fun K "_law_pick" "_law_pick" s__law_pick f fd) (C__law_draw : Cl P w K mg base 1 "_law_draw" spDraw) (z_len : mg "len" = none) :
    FnOk P w K mg base CX0 2 f fd ["heap", "some"] (spPickT K) := by
  refine F.ok sc__law_pick (fun vs H Q E h => ?_) (fun cdv A outer s H vs Q E hr h => ?_)
  · obtain ⟨p, q, l, xs, rfl, _⟩ := h
    rfl
  · obtain ⟨p, q, l, xs, rfl, hd, hl, hx, hz, fin⟩ := h
    refine ⟨_, (pss_one (ps_ret (pe_ix (show IxR _ (rIxT K) from ix_tup) (pv 1) (pe_cl C__law_draw hr (by decide) rfl (pa_cons (pv 0) (pa_cons (pe_callB call_len_seq (by rfl) z_len (by decide +kernel) (pa_cons (pv 1) pa_nil)) pa_nil))) (fun _ _ => rfl)))), ?_⟩
    have h0 : 0 < xs.length := List.length_pos_iff.mpr hx
    refine ⟨_, rfl, _, rfl, _, rfl, l, xs, rfl, .inr hl, p, q, _, rfl, hd, by omega, by omega, fun H' r hd' kp r0 r1 => ?_⟩
    have hl' := seqTK hd kp hl
    obtain ⟨j, rfl⟩ := Int.eq_ofNat_of_zero_le r0
    have hj : j < xs.length := by omega
    refine ⟨l, xs, _, xs[j], rfl, rfl, hl', atI_nat (List.getElem?_eq_getElem hj), ?_⟩
    exact fin _ _ hd' kp (List.getElem_mem hj)
theorem ok_totals_with {f C : Addr} {fd : FuncData} (F : Fun K "totals_with" "totals_with" s_totals_with f fd) (T : TabC K C) (z_enumerate : mg "enumerate" = none) (z_tuple : mg "tuple" = none) : FnOk P w K mg base CX0 1 f fd ["table", "kind"] (spTotalsWith K C) := by
  refine F.ok sc_totals_with (fun vs H Q E h => ?_) (fun cdv A outer s H vs Q E hr h => ?_)
  · obtain ⟨_, _, _, _, rfl, _⟩ := h
    rfl
  · obtain ⟨a, ks, ts, kind, rfl, ⟨dx, k, t, xs, hO, hK, hS, hT⟩, hl, fin⟩ := h
    refine ⟨_, (pss_one (ps_ret (pe_callTy call_tuple_of (by rfl) z_tuple (by decide +kernel) (pa_cons (pe_lc (own := [("at", 2), ("total", 3)]) (by rfl) sc_totals_with.nd (pi_enumT (by rfl) z_enumerate (pa_cons (pe_fld (pv 0) (by rfl)) pa_nil)) (blkOk_by (own := [("at", 2), ("total", 3)]) (N := N_totals_with) (sc := defScope s_totals_with) (by decide +kernel)) (fun _ _ _ _ _ => (show PG _ _ (gTup K 2 _) from pg_tup rfl (pgs_cons (pg_name (i := 2) sc_totals_with.nd rfl (.inl rfl)) (pgs_cons (pg_name (i := 3) sc_totals_with.nd rfl (.inl rfl)) pgs_nil)))) (fun _ _ _ _ _ => (pts_one (pt_cmpR (show OpR _ (compareOp .In) (rIn K false) from op_in_seq) (pv 1) (pv 3) rfl))) (fun _ _ _ _ _ => (pv 2))) pa_nil)))), ?_⟩
    have lx := hT.len
    refine ⟨_, rfl, a, C, dx, _, .ref t, rfl, hO, T.c, T.nt, rfl, t, xs, rfl, hS, fun D nD => ?_⟩
    refine lc_it (walk_enumT (K := K) (a := t) (xs := xs)) (fun i H' => Same H H' ∧ H' D = some (.lst ((twF ts kind i).map V.int))) ⟨same_upd nD, upd_same⟩ (fun i H' _ h => seqT h.1 hS) ?_ ?_
    · rintro i v H2 H3 hi ⟨sm, hD⟩ ⟨U, x, rfl, nU, rfl, ex⟩
      obtain ⟨u, c, rfl, ec, hu⟩ := hT.get ex
      have sU := same_upd (o := .tup [.int (i : Nat), .ref u]) nU
      refine ⟨U, _, rfl, .inl (.inl upd_same), rfl, _, _, rfl, _, _, rfl, rfl, rfl, ?_⟩
      have sm2 := sm.trans sU
      refine ⟨_, rfl, _, rfl, u, c.map V.int, rfl, .inr (seqT sm2 hu), rfl, flat_ints c, _, rfl, ?_⟩
      have hD2 := sU _ _ hD
      rw [inV_ints]
      cases hc : c.contains kind with
      | true =>
        refine iteT ⟨_, rfl, _, hD2, ?_, HD.same_put sm2 nD, ?_⟩
        · have := twF_len ts kind i
          have z : sizeLine = 16777216 := by decide
          have : i < xs.length := hi
          rw [List.length_map]
          omega
        · rw [upd_same, twF_yes ec hc, List.map_append]
          rfl
      | false =>
        refine iteF ⟨sm2, ?_⟩
        rw [twF_no ec hc]
        exact hD2
    · rintro H2 ⟨sm, hD⟩
      rw [lx] at hD
      refine ⟨D, _, rfl, .inl ⟨.inl (.inl hD), fun u nu => ?_⟩⟩
      exact fin _ u (sm.trans (same_upd nu)) (sm.free nu) upd_same
theorem ok_classes_of {f C : Addr} {fd : FuncData} (F : Fun K "classes_of" "classes_of" s_classes_of f fd) (T : TabC K C) (C_totals_with : Cl P w K mg base 1 "totals_with" (spTotalsWith K C)) (z_range : mg "range" = none) (z_len : mg "len" = none) (z_tuple : mg "tuple" = none) :
    FnOk P w K mg base CX0 2 f fd ["table"] (spClasses K C) := by
  refine F.ok sc_classes_of (fun vs H Q E h => ?_) (fun cdv A outer s H vs Q E hr h => ?_)
  · obtain ⟨_, _, _, rfl, _⟩ := h
    rfl
  · obtain ⟨a, ks, ts, rfl, hTab, lt, lk, fin⟩ := h
    refine ⟨_, (pss_cons (ps_set (i := 1) sc_classes_of.nd rfl (.inl rfl) pe_dnewT)
    (pss_cut (ps_for PassesOwn.never rfl (pi_range1 (by rfl) z_range (pa_cons (pe_callB call_len_seq (by rfl) z_len (by decide +kernel) (pa_cons (pe_fld (pv 0) (by rfl)) pa_nil)) pa_nil)) (pg_name (i := 2) sc_classes_of.nd rfl (.inl rfl))
      (pss_one (ps_expr (pe_bm PySem.F.plainAttrs_list PySem.F.slot_list_append PySem.F.type_list_append mt_append (pe_dsetT (units1 hr) (pv 1) (pe_cl C_totals_with hr (by decide) rfl (pa_cons (pv 0) (pa_cons (pv 2) pa_nil))) (pe_lst pa_nil) ⟨rfl, rfl, rfl, rfl⟩) (pa_cons (pv 2) pa_nil)))))
    (pss_one (ps_ret (pe_callTy call_tuple_of (by rfl) z_tuple (by decide +kernel) (pa_cons (pe_lock (pe_lc (own := [("totals", 3), ("kinds", 4)]) (by rfl) sc_classes_of.nd (pi_itemsT (pv 1)) (blkOk_by (own := [("totals", 3), ("kinds", 4)]) (N := N_classes_of) (sc := defScope s_classes_of) (by decide +kernel)) (fun _ _ _ _ _ => (show PG _ _ (gTup K 2 _) from pg_tup rfl (pgs_cons (pg_name (i := 3) sc_classes_of.nd rfl (.inl rfl)) (pgs_cons (pg_name (i := 4) sc_classes_of.nd rfl (.inl rfl)) pgs_nil)))) (fun _ _ _ _ _ => (pts_one (pt_tru (K := K) rfl (pv 3) (by intro _; rfl)))) (fun _ _ _ _ _ => (pe_callTy (show CallR _ (.type "tuple") (rTupOf K) from call_tupK) (by rfl) z_tuple (by decide +kernel) (pa_cons (pv 4) pa_nil))))) pa_nil)))))), ?_⟩
    refine fun D nD => ?_
    have sD := same_upd (o := .dT []) nD
    obtain ⟨dx, k, t, xs, hO, hK, hS, hT⟩ := hTab
    have hTab : Tab K C H a ks ts := ⟨dx, k, t, xs, hO, hK, hS, hT⟩
    have aD : a ≠ D := ne_of_none hO nD
    refine ⟨fun σ H' => ∃ (y2 : Option V) (ls : List Addr), σ = [some (.ref a), some (.ref D), y2, none, none] ∧ Same H H' ∧ Grp H H' D (fT ts) ks.length ls, ?_, ?_⟩
    · refine ⟨_, rfl, a, C, dx, _, .ref k, rfl, sD _ _ hO, T.c, T.nk, rfl, k, _, rfl, .inr (seqT sD hK), _, rfl, by rw [List.length_map]; omega, by rw [List.length_map]; omega, ?_⟩
      refine for_it (walk_range (lo := 0) (n := (ks.map V.str).length)) (fun i σ H' => ∃ (y2 : Option V) (ls : List Addr), σ = [some (.ref a), some (.ref D), y2, none, none] ∧ Same H H' ∧ Grp H H' D (fT ts) i ls) ?_ (fun _ _ _ _ _ => trivial) ?_ ?_
      · exact ⟨none, [], rfl, sD, ⟨upd_same, rfl, List.nodup_nil, (fun l hl => by cases hl), (fun j c l h => by cases h)⟩⟩
      · rintro i v σ Ha Hb hi ⟨y2, ls, rfl, sm, g⟩ ⟨e, rfl⟩
        subst e
        refine ⟨_, rfl, D, rfl, .inr ⟨_, .inl g.d⟩, ?_⟩
        refine ⟨_, rfl, _, rfl, a, ks, ts, _, rfl, hTab.mono sm, lt, fun H2 u s2 nu hu => ?_⟩
        refine ⟨by show 0 ≤ sizeLine; decide, fun L nL => ?_⟩
        have g2 := g.mono s2
        have sm2 := sm.trans s2
        have sL := same_upd (o := .lst []) nL
        have g3 := g2.mono sL
        have sm3 := sm2.trans sL
        have e0 : (0 : Int) + (i : Nat) = (i : Nat) := Int.zero_add _
        rw [e0] at hu
        have hi2 : i < ks.length := by
          have : i < (ks.map V.str).length := hi
          rw [List.length_map] at this
          exact this
        have small : ∀ n : Nat, n ≤ 1000 → n < sizeLine := fun n hn => by
          have : sizeLine = 16777216 := by decide
          omega
        refine ⟨_, kI (fT ts i), u, g3.d, rfl, ?_, ?_, fun v hv => ?_, fun hn => ?_⟩
        · rw [kI_kV]
          exact sL _ _ hu
        · rw [mk_len g.len]
          have := keys_len (fT ts) i
          exact small _ (by omega)
        · obtain ⟨j, l, k1, k2, rfl⟩ := mk_val g.len hv
          have hl := g3.at_ j _ l k1 k2
          refine ⟨.inl ⟨rfl, _, .inl (.inl hl)⟩, _, rfl, l, _, _, rfl, rfl, hl, ?_, ?_⟩
          · have := pick_len (memb (fT ts) (fT ts i)) i
            rw [List.length_map]
            exact small _ (by omega)
          · have gg := g3.old k1 k2
            rw [← e0] at gg
            refine ⟨_, ls, rfl, ?_, gg⟩
            intro b o hb
            have nb : b ≠ l := ne_of_none hb (g.new l (List.mem_of_getElem? k2))
            rw [upd_ne nb]
            exact sm3 b o hb
        · have nk := mk_none g.len hn
          have nDL : D ≠ L := ne_of_none g2.d nL
          have hLL : (L2.upd (L2.upd H2 L (.lst [])) D (.dT (putK (mkKvs (keysOf (fT ts) i) ls) (kI (fT ts i)) (.ref L)))) L = some (.lst []) := by
            rw [upd_ne nDL.symm, upd_same]
          refine ⟨.inl ⟨rfl, _, .inl (.inl hLL)⟩, _, rfl, L, _, _, rfl, rfl, hLL, by show 0 < sizeLine; decide, ?_⟩
          rw [mk_put g.len hn]
          have gg := g2.fresh nk nL (sm2.free nL)
          rw [← e0] at gg
          refine ⟨_, ls ++ [L], rfl, ?_, gg⟩
          intro b o hb
          have nbL : b ≠ L := ne_of_none (sm2 b o hb) nL
          have nbD : b ≠ D := ne_of_none hb nD
          rw [upd_ne nbL, upd_ne nbD, upd_ne nbL]
          exact sm2 b o hb
      · rintro σ H' ⟨y2, ls, rfl, sm, g⟩
        rw [List.length_map] at g
        exact ⟨y2, ls, rfl, sm, g⟩
    · rintro σ H1 ⟨y2, ls, rfl, sm, g⟩
      refine ⟨D, _, g.d, trivial, fun od => ?_⟩
      have g1 := g
      have hfr : (L2.upd H1 D (.frz od (.dT (mkKvs (keysOf (fT ts) ks.length) ls)))) D = some (.frz od (.dT (mkKvs (keysOf (fT ts) ks.length) ls))) := upd_same
      have lists : ∀ (j : Nat) (c : List Int) (l : Addr), (keysOf (fT ts) ks.length)[j]? = some c → ls[j]? = some l → (L2.upd H1 D (.frz od (.dT (mkKvs (keysOf (fT ts) ks.length) ls)))) l = some (.lst ((pick (memb (fT ts) c) ks.length).map V.int)) := by
        intro j c l k1 k2
        have h := g.at_ j c l k1 k2
        rw [upd_ne (ne_of h g.d (fun z => nomatch z))]
        exact h
      have keepF : ∀ (b : Addr) (o : HO), H b = some o → (L2.upd H1 D (.frz od (.dT (mkKvs (keysOf (fT ts) ks.length) ls)))) b = some o := by
        intro b o hb
        rw [upd_ne (ne_of_none hb nD)]
        exact sm b o hb
      generalize L2.upd H1 D (.frz od (.dT (mkKvs (keysOf (fT ts) ks.length) ls))) = HF at hfr lists keepF ⊢
      refine ⟨_, rfl, D, od, _, rfl, hfr, fun M nM => ?_⟩
      have kl := keys_len (fT ts) ks.length
      refine lc_it (walk_itemsT (d := D) (o := od) (kvs := mkKvs (keysOf (fT ts) ks.length) ls)) (fun i H' => Same HF H' ∧ ∃ xs, H' M = some (.lst xs) ∧ Tots K H' xs (outL (fT ts) ks.length i) ∧ xs.length ≤ i) ⟨same_upd nM, [], upd_same, trivial, Nat.le_refl _⟩ (fun i H' _ h => h.1 _ _ hfr) ?_ ?_
      · rintro i v H2 H3 hi ⟨sm2, xs2, hM, hx, hl2⟩ ⟨U, kk, v', q, hkv, rfl, hq, nU, rfl⟩
        obtain ⟨c, l, k1, k2, rfl, rfl⟩ := mk_get g.len hkv
        have sU := same_upd (o := .tup [.ref q, .ref l]) nU
        have sm3 := sm2.trans sU
        have il : i < (keysOf (fT ts) ks.length).length := (List.getElem?_eq_some_iff.mp k1).1
        rw [kI_kV] at hq
        refine ⟨U, _, rfl, .inl (.inl upd_same), rfl, _, _, rfl, _, _, rfl, rfl, rfl, ?_⟩
        refine ⟨_, rfl, _, .inr (.inl ⟨_, sqt (sU _ _ hq), rfl⟩), ?_⟩
        have em : (!(c.map V.int).isEmpty) = !c.isEmpty := by cases c <;> rfl
        rw [em]
        cases hc : !c.isEmpty with
        | true =>
          refine iteT ⟨_, rfl, l, _, rfl, .inl ⟨.inl (.inl (sm3 _ _ (lists i c l k1 k2))), fun u nu => ?_⟩⟩
          have su := same_upd (o := .tup ((pick (memb (fT ts) c) ks.length).map V.int)) nu
          have hM2 := su _ _ (sU _ _ hM)
          refine ⟨_, hM2, ?_, HD.same_put (sm3.trans su) nM, xs2 ++ [.ref u], upd_same, ?_, by rw [List.length_append]; exact Nat.succ_le_succ hl2⟩
          · have : sizeLine = 16777216 := by decide
            omega
          · rw [out_yes k1 hc]
            exact Tots.upd hM2 (Tots.snoc (sqt upd_same) (hx.mono (sU.trans su)))
        | false =>
          refine iteF ⟨sm3, xs2, sU _ _ hM, ?_, by omega⟩
          rw [out_no k1 hc]
          exact hx.mono sU
      · rintro H2 ⟨sm2, xs2, hM, hx, hl2⟩
        have h2D := sm2 _ _ hfr
        refine ⟨h2D, ?_⟩
        have nMD : M ≠ D := ne_of hM h2D (fun z => nomatch z)
        have hM2 : (L2.upd H2 D (.dT (mkKvs (keysOf (fT ts) ks.length) ls))) M = some (.lst xs2) := by
          rw [upd_ne nMD]
          exact hM
        refine ⟨M, xs2, rfl, .inl ⟨.inl (.inl hM2), fun u nu => ?_⟩⟩
        have su := same_upd (o := .tup xs2) nu
        refine fin _ u xs2 (fun b o hb => ?_) ?_ upd_same ?_
        · have nb : b ≠ D := ne_of_none hb nD
          refine su _ _ ?_
          rw [upd_ne nb]
          exact sm2 _ _ (keepF b o hb)
        · cases hu : H u with
          | none => rfl
          | some o =>
            have nb : u ≠ D := ne_of_none hu nD
            have := sm2 _ _ (keepF u o hu)
            rw [upd_ne nb, this] at nu
            cases nu
        · have eo : outL (fT ts) ks.length (mkKvs (keysOf (fT ts) ks.length) ls).length = classesL ts ks.length := by
            unfold outL classesL
            rw [mk_len g.len, List.take_of_length_le (Nat.le_refl _)]
          rw [eo] at hx
          exact (Tots.unlock h2D hx).mono su
theorem ok_class_numbers {f C : Addr} {fd : FuncData} (F : Fun K "class_numbers" "class_numbers" s_class_numbers f fd) (T : TabC K C) (C_classes_of : Cl P w K mg base 2 "classes_of" (spClasses K C)) (z_enumerate : mg "enumerate" = none) (z_range : mg "range" = none) (z_len : mg "len" = none) (z_tuple : mg "tuple" = none) :
    FnOk P w K mg base CX0 3 f fd ["table"] (spNumbers K C) := by
  refine F.ok sc_class_numbers (fun vs H Q E h => ?_) (fun cdv A outer s H vs Q E hr h => ?_)
  · obtain ⟨_, _, _, rfl, _⟩ := h
    rfl
  · obtain ⟨a, ks, ts, rfl, hTab, lt, lk, fin⟩ := h
    refine ⟨_, (pss_cons (ps_set (i := 1) sc_class_numbers.nd rfl (.inr rfl) pe_dnewK)
    (pss_cut (ps_for PassesOwn.never rfl (pi_enumT (by rfl) z_enumerate (pa_cons (pe_cl C_classes_of hr (by decide) rfl (pa_cons (pv 0) pa_nil)) pa_nil)) (pg_tup rfl (pgs_cons (pg_name (i := 2) sc_class_numbers.nd rfl (.inl rfl)) (pgs_cons (pg_name (i := 3) sc_class_numbers.nd rfl (.inl rfl)) pgs_nil)))
      (pss_one (ps_for PassesOwn.never rfl (pi_tup (pv 3)) (pg_name (i := 4) sc_class_numbers.nd rfl (.inl rfl))
        (pss_one (ps_dput (units1 hr) (pv 1) (pv 4) (pv 2) (by rfl))))))
    (pss_one (ps_ret (pe_callTy call_tuple_of (by rfl) z_tuple (by decide +kernel) (pa_cons (pe_lc (own := [("kind", 4)]) (by rfl) sc_class_numbers.nd (pi_range1 (by rfl) z_range (pa_cons (pe_callB call_len_seq (by rfl) z_len (by decide +kernel) (pa_cons (pe_fld (pv 0) (by rfl)) pa_nil)) pa_nil)) (blkOk_by (own := [("kind", 4)]) (N := N_class_numbers) (sc := defScope s_class_numbers) (by decide +kernel)) (fun _ _ _ _ _ => (pg_name (i := 4) sc_class_numbers.nd rfl (.inl rfl))) (fun _ _ _ _ _ => pts_nil) (fun _ _ _ _ _ => (pe_dget1 (units1 hr) (pv 1) (pv 4) ⟨rfl, rfl, rfl, rfl⟩))) pa_nil)))))), ?_⟩
    refine fun D nD => ?_
    have sD := same_upd (o := .dK []) nD
    have ⟨cl1, cl2⟩ := classes_len ts ks.length
    generalize hcs : classesL ts ks.length = cs at cl1 cl2 fin
    refine ⟨fun σ H' => (∃ y2 y3 y4 : Option V, σ = [some (.ref a), some (.ref D), y2, y3, y4]) ∧ Same H H' ∧ H' D = some (.dK (numF cs cs.length)), ?_, ?_⟩
    · refine ⟨_, rfl, a, ks, ts, rfl, hTab.mono sD, lt, lk, fun H1 u xs s1 nu hu hx => ?_⟩
      rw [hcs] at hx
      have lx := hx.len
      have sm1 := sD.trans s1
      refine ⟨u, xs, rfl, sqt hu, ?_⟩
      have hD1 := s1 _ _ (upd_same (H := H) (a := D) (o := .dK []))
      refine for_it (walk_enumT (K := K) (a := u) (xs := xs)) (fun i σ H' => (∃ y2 y3 y4 : Option V, σ = [some (.ref a), some (.ref D), y2, y3, y4]) ∧ Same H H' ∧ H' D = some (.dK (numF cs i)) ∧ SqT K H' u xs ∧ Tots K H' xs cs) ⟨⟨_, _, _, rfl⟩, sm1, hD1, sqt hu, hx⟩ (fun i σ H' _ h => h.2.2.2.1) ?_ ?_
      · rintro i v σ H2 H3 hi ⟨⟨y2, y3, y4, rfl⟩, sm2, hD2, hS2, hT2⟩ ⟨U, x, rfl, nU, rfl, ex⟩
        obtain ⟨tt, c, rfl, ec, ht⟩ := hT2.get ex
        have sU := same_upd (o := .tup [.int (i : Nat), .ref tt]) nU
        have ic : i < cs.length := (List.getElem?_eq_some_iff.mp ec).1
        have lc := cl2 c (List.mem_of_getElem? ec)
        have gd : cs.getD i [] = c := by rw [List.getD_eq_getElem?_getD, ec]; rfl
        have nl := num_len (cs := cs) (fun c hc => Nat.le_trans (cl2 c hc) lk) i (by omega)
        refine ⟨U, _, rfl, .inl (.inl upd_same), rfl, _, _, rfl, _, _, rfl, rfl, ?_⟩
        refine ⟨_, rfl, tt, rfl, ⟨_, seqT sU ht⟩, ?_⟩
        refine for_it (walk_tup (K := K) (a := tt) (xs := c.map V.int)) (fun j σ H' => (∃ y4 : Option V, σ = [some (.ref a), some (.ref D), some (.int (i : Nat)), some (.ref tt), y4]) ∧ Same H H' ∧ H' D = some (.dK (putRow (numF cs i) i (c.take j))) ∧ SqT K H' u xs ∧ Tots K H' xs cs ∧ SqT K H' tt (c.map V.int)) ⟨⟨_, rfl⟩, sm2.trans sU, sU _ _ hD2, seqT sU hS2, hT2.mono sU, seqT sU ht⟩ (fun j σ H' _ h => h.2.2.2.2.2) ?_ ?_
        · rintro j v σ H4 H5 hj ⟨⟨y4', rfl⟩, sm4, hD4, hS4, hT4, ht4⟩ ⟨e5, ex5⟩
          subst e5
          rw [List.getElem?_map] at ex5
          obtain ⟨kk, ek, rfl⟩ := Option.map_eq_some_iff.mp ex5
          have jl : j < c.length := (List.getElem?_eq_some_iff.mp ek).1
          have rl := row_len i (c.take j) (numF cs i)
          have n1 : ∀ (g : Nums) (ys : List V), HO.tup ys ≠ HO.dK g := fun g ys z => nomatch z
          have n2 : ∀ (g : Nums) (od : Obj) (ys : List V), HO.frz od (.tup ys) ≠ HO.dK g := fun g od ys z => nomatch z
          refine ⟨_, rfl, _, rfl, _, rfl, D, _, rfl, DPut.k (k := (Sum.inl kk : L2.Key)) hD4 ?_, ?_⟩
          · have : sizeLine = 16777216 := by decide
            rw [List.length_take] at rl
            have h3 : i * 1000 ≤ 1000 * 1000 := Nat.mul_le_mul_right _ (by omega)
            omega
          · refine ⟨⟨_, rfl⟩, ?_, ?_, seqT_at hD4 (n1 _) (n2 _) hS4, Tots.at_ hD4 (n1 _) (n2 _) hT4, seqT_at hD4 (n1 _) (n2 _) ht4⟩
            · intro b o hb
              rw [upd_ne (ne_of_none hb nD)]
              exact sm4 b o hb
            · rw [upd_same, row_take ek]
        · rintro σ H4 ⟨⟨y4', rfl⟩, sm4, hD4, hS4, hT4, ht4⟩
          rw [List.take_of_length_le (by rw [List.length_map]; exact Nat.le_refl _)] at hD4
          refine ⟨⟨_, _, _, rfl⟩, sm4, ?_, hS4, hT4⟩
          rw [hD4]
          show some (HO.dK (putRow (numF cs i) i c)) = some (HO.dK (putRow (numF cs i) i (cs.getD i [])))
          rw [gd]
      · rintro σ H2 ⟨⟨y2, y3, y4, rfl⟩, sm2, hD2, hS2, hT2⟩
        rw [lx] at hD2
        exact ⟨⟨_, _, _, rfl⟩, sm2, hD2⟩
    · rintro σ H2 ⟨⟨y2, y3, y4, rfl⟩, sm2, hD2⟩
      have hTab2 := hTab.mono sm2
      obtain ⟨dx, k, t, ys, hO, hK, hS, hT⟩ := hTab2
      refine ⟨_, rfl, a, C, dx, _, .ref k, rfl, hO, T.c, T.nk, rfl, k, _, rfl, .inr hK, _, rfl, by rw [List.length_map]; omega, by rw [List.length_map]; omega, fun M nM => ?_⟩
      refine lc_it (walk_range (lo := 0) (n := (ks.map V.str).length)) (fun i H' => Same H2 H' ∧ H' M = some (.lst ((List.range i).map fun j => numV cs ((j : Nat) : Int)))) ⟨same_upd nM, upd_same⟩ (fun _ _ _ _ => trivial) ?_ ?_
      · rintro i v H3 H4 hi ⟨sm3, hM⟩ ⟨e, rfl⟩
        subst e
        have e0 : (0 : Int) + (i : Nat) = (i : Nat) := Int.zero_add _
        have il : i < ks.length := by
          have : i < (ks.map V.str).length := hi
          rw [List.length_map] at this
          exact this
        have hD3 := sm3 _ _ hD2
        refine ⟨rfl, _, rfl, D, rfl, .inl ⟨_, .inl hD3⟩, _, rfl, _, DGet.k (k := (Sum.inl (0 + (i : Nat)) : L2.Key)) hD3, ?_⟩
        refine ⟨_, hM, ?_, HD.same_put sm3 nM, ?_⟩
        · rw [List.length_map, List.length_range]
          have : sizeLine = 16777216 := by decide
          omega
        · rw [upd_same, List.range_succ, List.map_append, e0]
          rfl
      · rintro H3 ⟨sm3, hM⟩
        rw [List.length_map] at hM
        refine ⟨M, _, rfl, .inl ⟨.inl (.inl hM), fun u nu => ?_⟩⟩
        have sall := sm2.trans (sm3.trans (same_upd (o := .tup ((List.range ks.length).map fun j => numV cs ((j : Nat) : Int))) nu))
        exact fin _ u sall ((sm2.trans sm3).free nu) upd_same
end
end K04
namespace K04
open PySem PySem.Spec PyProof.Rows L2 VG FR CK HD M9
open K2 (cut_ints)
abbrev s_totals_by_classes : Stmt := topS 24
abbrev N_totals_by_classes : List Str := ["table", "numbers", "total", "kind"]
theorem sc_totals_by_classes : FnScope N_totals_by_classes ["table"] (defScope s_totals_by_classes) := ⟨rfl, rfl, rfl, by decide +kernel, rfl, by decide +kernel, by decide +kernel⟩
abbrev s_without_totals : Stmt := topS 25
abbrev N_without_totals : List Str := ["table", "totals", "left", "at", "total"]
theorem sc_without_totals : FnScope N_without_totals ["table", "totals"] (defScope s_without_totals) := ⟨rfl, rfl, rfl, by decide +kernel, rfl, by decide +kernel, by decide +kernel⟩
abbrev s_with_total : Stmt := topS 26
abbrev N_with_total : List Str := ["table", "total"]
theorem sc_with_total : FnScope N_with_total ["table", "total"] (defScope s_with_total) := ⟨rfl, rfl, rfl, by decide +kernel, rfl, by decide +kernel, by decide +kernel⟩
abbrev s_without_kinds : Stmt := topS 27
abbrev N_without_kinds : List Str := ["table", "kinds", "left", "names", "totals", "total", "kind"]
theorem sc_without_kinds : FnScope N_without_kinds ["table", "kinds"] (defScope s_without_kinds) := ⟨rfl, rfl, rfl, by decide +kernel, rfl, by decide +kernel, by decide +kernel⟩
abbrev s_merged : Stmt := topS 28
abbrev N_merged : List Str := ["table", "classes", "kinds"]
theorem sc_merged : FnScope N_merged ["table"] (defScope s_merged) := ⟨rfl, rfl, rfl, by decide +kernel, rfl, by decide +kernel, by decide +kernel⟩
abbrev s_core_of : Stmt := topS 29
abbrev N_core_of : List Str := ["table", "whole", "total"]
theorem sc_core_of : FnScope N_core_of ["table"] (defScope s_core_of) := ⟨rfl, rfl, rfl, by decide +kernel, rfl, by decide +kernel, by decide +kernel⟩
abbrev s__law_names : Stmt := topS 41
abbrev N__law_names : List Str := ["heap", "many", "letters", "front", "found", "at"]
theorem sc__law_names : FnScope N__law_names ["heap", "many"] (defScope s__law_names) := ⟨rfl, rfl, rfl, by decide +kernel, rfl, by decide +kernel, by decide +kernel⟩
abbrev s__law_totals : Stmt := topS 42
abbrev N__law_totals : List Str := ["heap", "kinds", "many", "share", "rows", "kind", "at", "row", "turn", "found"]
theorem sc__law_totals : FnScope N__law_totals ["heap", "kinds", "many"] (defScope s__law_totals) := ⟨rfl, rfl, rfl, by decide +kernel, rfl, by decide +kernel, by decide +kernel⟩
section
variable {P : Program} {w : World} {K : PySem.W.Frag} {mg : Str → Option Value} {base : Heap}
theorem ok_is_numberA {f : Addr} {fd : FuncData} (F : Fun K "is_number" "is_number" s_is_number f fd) (C_is_an_integer : Cl P w K mg base 1 "is_an_integer" (spInt K)) : FnOk P w K mg base CX0 2 f fd ["value"] (spNumA K) := by
  refine F.ok sc_is_number (fun vs H Q E h => ?_) (fun cdv A outer s H vs Q E hr h => ?_)
  · obtain ⟨_, _, rfl, _⟩ := h
    rfl
  · obtain ⟨v, o, rfl, hp, q⟩ := h
    refine ⟨_, (pss_one (ps_ret (pe_and (pe_cl C_is_an_integer hr (by decide) rfl (pa_cons (pv 0) pa_nil)) (pe_one (pe_cmpR op_ge (pv 0) pe_int (nomark _)))))), ?_⟩
    refine ⟨_, rfl, v, o, rfl, hp, o.isSome, rfl, ?_⟩
    cases o with
    | none => exact iteF q
    | some a =>
      rcases hp with ⟨b, rfl, e⟩ | ⟨e, _⟩
      · have e := Option.some.inj e
        subst e
        exact iteT ⟨_, rfl, _, _, rfl, rfl, q⟩
      · cases e
theorem ok_is_number_belowA {f : Addr} {fd : FuncData} (F : Fun K "is_number_below" "is_number_below" s_is_number_below f fd) (C_is_number : Cl P w K mg base 2 "is_number" (spNumA K)) : FnOk P w K mg base CX0 3 f fd ["value", "many"] (spBelowA K) := by
  refine F.ok sc_is_number_below (fun vs H Q E h => ?_) (fun cdv A outer s H vs Q E hr h => ?_)
  · obtain ⟨_, _, _, rfl, _⟩ := h
    rfl
  · obtain ⟨v, o, n, rfl, hp, q⟩ := h
    refine ⟨_, (pss_one (ps_ret (pe_and (pe_cl C_is_number hr (by decide) rfl (pa_cons (pv 0) pa_nil)) (pe_one (pe_cmpR op_lt (pv 0) (pv 1) (nomark _)))))), ?_⟩
    refine ⟨_, rfl, v, o, rfl, hp, numO o, rfl, ?_⟩
    cases o with
    | none => exact iteF q
    | some a =>
      rcases hp with ⟨b, rfl, e⟩ | ⟨e, _⟩
      · have e := Option.some.inj e
        subst e
        show if decide (0 ≤ a) = true then _ else _
        by_cases ha : 0 ≤ a
        · rw [decide_eq_true ha]
          refine iteT ⟨_, rfl, _, rfl, _, _, rfl, rfl, ?_⟩
          have e2 : decide (a < n) = decide (0 ≤ a ∧ a < n) := decide_eq_decide.mpr ⟨fun z => ⟨ha, z⟩, fun z => z.2⟩
          show Q (.bl (decide (a < n))) H
          rw [e2]
          exact q
        · rw [decide_eq_false ha]
          have e1 : belowO n (some a) = false := decide_eq_false (fun z => ha z.1)
          rw [e1] at q
          exact iteF q
      · cases e
theorem ok_are_numbers_belowA {f : Addr} {fd : FuncData} (F : Fun K "are_numbers_below" "are_numbers_below" s_are_numbers_below f fd) (C_is_number_below : Cl P w K mg base 3 "is_number_below" (spBelowA K)) (z_isinstance : mg "isinstance" = none) (z_tuple : mg "tuple" = none) (z_all : mg "all" = none) :
    FnOk P w K mg base CX0 4 f fd ["value", "many"] (spNumsA K) := by
  refine F.ok sc_are_numbers_below (fun vs H Q E h => ?_) (fun cdv A outer s H vs Q E hr h => ?_)
  · obtain ⟨_, _, _, rfl, _⟩ := h
    rfl
  · obtain ⟨v, d, n, rfl, hd, sh, fin⟩ := h
    refine ⟨_, (pss_one (ps_ret (pe_and (pe_callB call_isi (by rfl) z_isinstance (by decide +kernel) (pa_cons (pv 0) (pa_cons (pe_bltn (v := .ty "tuple") (by rfl) z_tuple (by decide +kernel) rfl) pa_nil))) (pe_one (pe_callB (cr_all rfl) (by rfl) z_all (by decide +kernel) (pa_cons (pe_lc (own := [("item", 2)]) (by rfl) sc_are_numbers_below.nd (pi_tup (pv 0)) (blkOk_by (own := [("item", 2)]) (N := N_are_numbers_below) (sc := defScope s_are_numbers_below) (by decide +kernel)) (fun _ _ _ _ _ => (pg_name (i := 2) sc_are_numbers_below.nd rfl (.inl rfl))) (fun _ _ _ _ _ => pts_nil) (fun _ _ _ _ _ => (pe_cl C_is_number_below hr (by decide) rfl (pa_cons (pv 2) (pa_cons (pv 1) pa_nil))))) pa_nil)))))), ?_⟩
    cases hT : isTupD d with
    | false =>
      obtain ⟨ty, T, k⟩ := hd.noTup hT
      have q := fin H (Same.refl _)
      have e : numsBD n d = false := by
        cases d with
        | tuple ds => cases hT
        | _ => rfl
      rw [e] at q
      exact ⟨_, rfl, _, _, _, _, false, rfl, .ty "tuple", T, kit_ty k, false, rfl, iteF q⟩
    | true =>
      cases d with
      | tuple ds =>
        obtain ⟨p, xs, rfl, hS, hA⟩ := hd.isT
        have lx := hA.len
        have sh : ds.length ≤ 1000 := sh
        refine ⟨_, rfl, _, _, _, _, true, rfl, .ty "tuple", tyT hS, kit_ty (by decide +kernel), true, rfl, iteT ?_⟩
        refine ⟨_, rfl, p, rfl, ⟨_, hS⟩, fun D nD => ?_⟩
        refine lc_it (walk_tup (K := K) (a := p) (xs := xs)) (fun i H' => Same H H' ∧ H' D = some (.lst (((ds.take i).map fun d => belowO n (intO d)).map V.bl))) ⟨same_upd nD, upd_same⟩ (fun i H' _ h => seqT h.1 hS) ?_ ?_
        · rintro i x H1 H2 hi ⟨sm, hD⟩ ⟨rfl, ex⟩
          obtain ⟨d, ed, hx⟩ := hA.get ex
          have il : i < ds.length := (List.getElem?_eq_some_iff.mp ed).1
          refine ⟨rfl, _, rfl, _, rfl, x, intO d, n, rfl, (hx.mono sm).part, _, hD, ?_, HD.same_put sm nD, ?_⟩
          · rw [List.length_map, List.length_map, List.length_take]
            have : sizeLine = 16777216 := by decide
            omega
          · rw [upd_same, List.take_add_one, ed, List.map_append, List.map_append]
            rfl
        · rintro H1 ⟨sm, hD⟩
          rw [lx, List.take_length] at hD
          refine ⟨D, _, rfl, .inl (.inl hD), ?_⟩
          have e : (ds.map fun d => belowO n (intO d)).all id = numsBD n (.tuple ds) := by
            rw [List.all_map]
            rfl
          rw [e]
          exact fin H1 sm
      | _ => cases hT
theorem ok_is_ascendingA {f : Addr} {fd : FuncData} (F : Fun K "is_ascending" "is_ascending" s_is_ascending f fd) (z_all : mg "all" = none) (z_zip : mg "zip" = none) : FnOk P w K mg base CX0 1 f fd ["some"] (spAscA K) := by
  refine F.ok sc_is_ascending (fun vs H Q E h => ?_) (fun cdv A outer s H vs Q E hr h => ?_)
  · obtain ⟨_, _, rfl, _⟩ := h
    rfl
  · obtain ⟨t, cs, rfl, hS, hl, fin⟩ := h
    refine ⟨_, (pss_one (ps_ret (pe_callB (cr_all rfl) (by rfl) z_all (by decide +kernel) (pa_cons (pe_lc (own := [("one", 1), ("other", 2)]) (by rfl) sc_is_ascending.nd (RZ.pi_zipA (by rfl) z_zip (pa_cons (pv 0) (pa_cons (pe_meet (pe_slice sl_tupA (pv 0) (po_some pe_int) po_none)) pa_nil))) (blkOk_by (own := [("one", 1), ("other", 2)]) (N := N_is_ascending) (sc := defScope s_is_ascending) (by decide +kernel)) (fun _ _ _ _ _ => (show PG _ _ (gTup K 2 _) from pg_tup rfl (pgs_cons (pg_name (i := 1) sc_is_ascending.nd rfl (.inl rfl)) (pgs_cons (pg_name (i := 2) sc_is_ascending.nd rfl (.inl rfl)) pgs_nil)))) (fun _ _ _ _ _ => pts_nil) (fun _ _ _ _ _ => (pe_cmpR (op_lt.or op_lt_str) (pv 1) (pv 2) (nomark _)))) pa_nil)))), ?_⟩
    refine ⟨_, rfl, fun v H' => ∃ u, v = .ref u ∧ Same H H' ∧ SqT K H' u ((cs.drop 1).map V.int), ?_, ?_⟩
    · refine ⟨_, rfl, 1, rfl, ?_⟩
      refine ⟨t, cs.map V.int, rfl, hS, fun z => ?_, fun z u nu => ?_⟩
      · have e : HT.sIx (cs.map V.int).length 0 (some 1) = min 1 (cs.map V.int).length := HT.sIx_nat _ 0 1
        have e0 : (cs.map V.int).length = 0 := by
          have := z.1
          rw [e] at this
          omega
        rw [List.length_map] at e0
        have x0 : cs = [] := List.eq_nil_of_length_eq_zero e0
        subst x0
        exact ⟨t, rfl, Same.refl _, hS⟩
      · refine ⟨u, rfl, same_upd nu, ?_⟩
        have h := sqt (K := K) (upd_same (H := H) (a := u) (o := .tup (cutV (cs.map V.int) (some 1) none)))
        rw [cut1] at h ⊢
        rw [List.map_drop]
        exact h
    rintro v H1 ⟨u, rfl, sm1, hU⟩
    have hS1 := seqT sm1 hS
    refine ⟨t, u, cs.map V.int, (cs.drop 1).map V.int, rfl, .inr ⟨hS1, hU, fun D nD => ?_⟩⟩
    refine lc_it (walk_zipT (K := K) (a := t) (b := u) (xs := cs.map V.int) (ys := (cs.drop 1).map V.int) (n := cs.length - 1) (by rw [List.length_map, List.length_map, List.length_drop]; omega)) (fun i H' => Same H1 H' ∧ H' D = some (.lst ((((cs.zip (cs.drop 1)).take i).map fun p => decide (p.1 < p.2)).map V.bl))) ⟨same_upd nD, upd_same⟩ (fun i H' _ h => ⟨seqT h.1 hS1, seqT h.1 hU⟩) ?_ ?_
    · rintro i v H2 H3 hi ⟨sm, hD⟩ ⟨T, x, y, rfl, nT, rfl, ex, ey⟩
      have ex : (cs.map V.int)[i]? = some x := ex
      have ey : ((cs.drop 1).map V.int)[i]? = some y := ey
      rw [List.getElem?_map] at ex ey
      obtain ⟨a, ea, rfl⟩ := Option.map_eq_some_iff.mp ex
      obtain ⟨b, eb, rfl⟩ := Option.map_eq_some_iff.mp ey
      have sT := same_upd (o := .tup [V.int a, V.int b]) nT
      refine ⟨T, _, rfl, .inl (.inl upd_same), rfl, _, _, rfl, _, _, rfl, rfl, rfl, _, rfl, _, rfl, ?_⟩
      have il : i < cs.length := (List.getElem?_eq_some_iff.mp ea).1
      refine .inl ⟨_, _, rfl, rfl, _, sT _ _ hD, ?_, HD.same_put (sm.trans sT) nD, ?_⟩
      · rw [List.length_map, List.length_map, List.length_take]
        have : sizeLine = 16777216 := by decide
        omega
      · have ez : (cs.zip (cs.drop 1))[i]? = some (a, b) := List.getElem?_zip_eq_some.mpr ⟨ea, eb⟩
        rw [upd_same, List.take_add_one, ez, List.map_append, List.map_append]
        rfl
    · rintro H2 ⟨sm, hD⟩
      have lz : (cs.zip (cs.drop 1)).length = cs.length - 1 := by rw [List.length_zip, List.length_drop]; omega
      rw [← lz, List.take_length] at hD
      refine ⟨D, _, rfl, .inl (.inl hD), ?_⟩
      have e : ((cs.zip (cs.drop 1)).map fun p => decide (p.1 < p.2)).all id = ascB cs := by
        rw [List.all_map]
        rfl
      rw [e]
      exact fin H2 (sm1.trans sm)
theorem ok_is_lot_belowA {f : Addr} {fd : FuncData} (F : Fun K "is_lot_below" "is_lot_below" s_is_lot_below f fd) (C_are_numbers_below : Cl P w K mg base 4 "are_numbers_below" (spNumsA K)) (C_is_ascending : Cl P w K mg base 1 "is_ascending" (spAscA K)) :
    FnOk P w K mg base CX0 5 f fd ["value", "many"] (spLotA K) := by
  refine F.ok sc_is_lot_below (fun vs H Q E h => ?_) (fun cdv A outer s H vs Q E hr h => ?_)
  · obtain ⟨_, _, _, rfl, _⟩ := h
    rfl
  · obtain ⟨v, d, n, rfl, hd, sh, fin⟩ := h
    refine ⟨_, (pss_one (ps_ret (pe_and (pe_cl C_are_numbers_below hr (by decide) rfl (pa_cons (pv 0) (pa_cons (pv 1) pa_nil))) (pe_one (pe_cl C_is_ascending hr (by decide) rfl (pa_cons (pv 0) pa_nil)))))), ?_⟩
    refine ⟨_, rfl, _, rfl, v, d, n, rfl, hd, sh, fun H1 sm => ⟨numsBD n d, rfl, ?_⟩⟩
    cases e : numsBD n d with
    | false =>
      refine iteF ?_
      have q := fin H1 sm
      unfold lotD at q
      rw [e] at q
      exact q
    | true =>
      refine iteT ?_
      cases d with
      | tuple ds =>
        obtain ⟨p, xs, rfl, hS, hA⟩ := hd.isT
        have ei := nums_ints hA e
        have sh : ds.length ≤ 1000 := sh
        rw [ei] at hS
        refine ⟨_, rfl, p, intsD (.tuple ds), rfl, seqT sm hS, ?_, fun H2 s2 => ?_⟩
        · show (ds.map _).length ≤ 1000
          rw [List.length_map]
          exact sh
        · have q := fin H2 (sm.trans s2)
          unfold lotD at q
          rw [e] at q
          exact q
      | _ => cases e
theorem ok_without_totals {f C : Addr} {fd : FuncData} (F : Fun K "without_totals" "without_totals" s_without_totals f fd) (T : TabC K C) (T_Table : MkT P w K mg base 7 "Table" C (spInitT K C)) (z_enumerate : mg "enumerate" = none) (z_tuple : mg "tuple" = none) :
    FnOk P w K mg base CX0 9 f fd ["table", "totals"] (spWithout K C) := by
  refine F.ok sc_without_totals (fun vs H Q E h => ?_) (fun cdv A outer s H vs Q E hr h => ?_)
  · obtain ⟨_, _, _, _, _, rfl, _⟩ := h
    rfl
  · obtain ⟨a, o, os, ks, ts, rfl, ⟨dx, k, t, xs, hO, hK, hS, hT⟩, ok, ho, lo, fin⟩ := h
    refine ⟨_, (pss_cons (ps_setLc (i := 2) (own := [("at", 3), ("total", 4)]) (by rfl) sc_without_totals.nd rfl rfl (sw_true rfl rfl rfl (by decide +kernel)) (pi_enumT (by rfl) z_enumerate (pa_cons (pe_fld (pv 0) (by rfl)) pa_nil)) (blkOk_by (own := [("at", 3), ("total", 4)]) (N := N_without_totals) (sc := defScope s_without_totals) (by decide +kernel)) (fun _ _ _ _ _ => (show PG _ _ (gTup K 2 _) from pg_tup rfl (pgs_cons (pg_name (i := 3) sc_without_totals.nd rfl (.inl rfl)) (pgs_cons (pg_name (i := 4) sc_without_totals.nd rfl (.inl rfl)) pgs_nil)))) (fun _ _ _ _ _ => (pts_one (pt_cmpR (show OpR _ (compareOp .NotIn) (rIn K true) from op_notIn_seq) (pv 3) (pv 1) rfl))) (fun _ _ _ _ _ => (pv 4)))
    (pss_one (ps_ret (pe_mt T_Table hr (by decide) rfl (pa_cons (pe_fld (pv 0) (by rfl)) (pa_cons (pe_callTy call_tuple_of (by rfl) z_tuple (by decide +kernel) (pa_cons (pv 2) pa_nil)) pa_nil)))))), ?_⟩
    have lx := hT.len
    have l12 := ok.len
    have big : sizeLine = 16777216 := by decide
    refine ⟨_, rfl, a, C, dx, _, .ref t, rfl, hO, T.c, T.nt, rfl, t, xs, rfl, hS, fun D nD => ?_⟩
    refine lc_it (walk_enumT (K := K) (a := t) (xs := xs)) (fun i H' => Same H H' ∧ ∃ ys, H' D = some (.lst ys) ∧ Tots K H ys (leftT ts os i)) ⟨same_upd nD, [], upd_same, trivial⟩ (fun i H' _ h => seqT h.1 hS) ?_ ?_
    · rintro i v H2 H3 hi ⟨sm, ys, hD, hY⟩ ⟨U, x, rfl, nU, rfl, ex⟩
      obtain ⟨u, c, rfl, ec, hu⟩ := hT.get ex
      have sU := same_upd (o := .tup [.int (i : Nat), .ref u]) nU
      refine ⟨U, _, rfl, .inl (.inl upd_same), rfl, _, _, rfl, _, _, rfl, rfl, rfl, ?_⟩
      have sm2 := sm.trans sU
      refine ⟨_, rfl, _, rfl, o, os.map V.int, rfl, .inr (seqT sm2 ho), rfl, flat_ints os, _, rfl, ?_⟩
      have hD2 := sU _ _ hD
      rw [inV_ints]
      cases hc : os.contains (i : Int) with
      | false =>
        refine iteT ⟨_, rfl, ys, hD2, ?_, HD.same_put sm2 nD, ys ++ [.ref u], upd_same, ?_⟩
        · have := leftT_len ts os i
          have := hY.len
          have : i < xs.length := hi
          omega
        · rw [leftT_yes ec hc]
          exact hY.snoc hu
      | true =>
        refine iteF ⟨sm2, ys, hD2, ?_⟩
        rw [leftT_no hc]
        exact hY
    · rintro H2 ⟨sm, ys, hD, hY⟩
      rw [lx] at hY
      refine ⟨_, rfl, a, C, dx, _, .ref k, rfl, sm _ _ hO, T.c, T.nk, rfl, ?_⟩
      refine ⟨_, rfl, D, ys, rfl, .inl ⟨.inl (.inl hD), fun t2 nt => ?_⟩⟩
      have sT := same_upd (o := .tup ys) nt
      have kT := upd_same (H := H2) (a := t2) (o := .tup ys)
      have s3 := sm.trans sT
      generalize L2.upd H2 t2 (.tup ys) = H3 at sT kT s3 ⊢
      refine fun x dx2 nx nd ne => tab_made (seqT s3 hK) ok.kinds (sqt kT) (hY.mono s3) (by have := leftT_len ts os ts.length; omega) (fun c hc => ok.lots c (leftT_mem (Nat.le_refl _) hc)) nx nd ne fun H4 s4 tab4 na => ?_
      exact fin H4 x (s3.trans s4) (s3.free na) tab4
theorem ok_with_total {f fi C R : Addr} {fd fdi : FuncData} {tk : Tok} (F : Fun K "with_total" "with_total" s_with_total f fd) (T : TabC K C) (T_Table : MkT P w K mg base 7 "Table" C (spInitT K C)) (C_is_lot_below : Cl P w K mg base 5 "is_lot_below" (spLotA K))
    (e_Refused : ErrC K mg "Refused" R fi) (i_Refused : FnOk P w K mg base CX0 1 fi fdi ["self", "word"] (spInitW K R "word")) (b_Refused : Binds K fdi ["self", "word"] []) (m_MOST_TOTALS : mg "MOST_TOTALS" = some (.int 12 tk)) (z_len : mg "len" = none) :
    FnOk P w K mg base (L2.CX P w) 9 f fd ["table", "total"] (spWith K C R) := by
  refine F.okX sc_with_total (fun vs H Q E h => ?_) (fun cdv A outer s H vs Q E hr h => ?_)
  · obtain ⟨_, _, _, _, _, rfl, _⟩ := h
    rfl
  · obtain ⟨a, v, d, ks, ts, rfl, ⟨dx, k, t, xs, hO, hK, hS, hT⟩, ok, hd, sh, fin, err⟩ := h
    refine ⟨_, (pss_cons (ps_if (pt_not (pt_val (pe_cl C_is_lot_below hr (by decide) rfl (pa_cons (pv 1) (pa_cons (pe_callB call_len_seq (by rfl) z_len (by decide +kernel) (pa_cons (pe_fld (pv 0) (by rfl)) pa_nil)) pa_nil)))))
      (pss_one (ps_raise rfl (takes_of rfl rfl rfl rfl) (pmk_oex e_Refused.o e_Refused.iC e_Refused.tI i_Refused (hr.mono (by decide)) b_Refused .nil pass0 rfl e_Refused.gC (pa_cons pe_str pa_nil))))
      pss_nil)
    (pss_cons (ps_if (pt_cmpR op_ge (pe_callB call_len_seq (by rfl) z_len (by decide +kernel) (pa_cons (pe_fld (pv 0) (by rfl)) pa_nil)) (pe_glob (v := .int 12) rfl m_MOST_TOTALS ⟨_, rfl⟩) (nomark _))
      (pss_one (ps_raise rfl (takes_of rfl rfl rfl rfl) (pmk_oex e_Refused.o e_Refused.iC e_Refused.tI i_Refused (hr.mono (by decide)) b_Refused .nil pass0 rfl e_Refused.gC (pa_cons pe_str pa_nil))))
      pss_nil)
    (pss_one (ps_ret (pe_mt T_Table hr (by decide) rfl (pa_cons (pe_fld (pv 0) (by rfl)) (pa_cons (pe_op op_catM (pe_fld (pv 0) (by rfl)) (pe_tup (pa_cons (pv 1) pa_nil))) pa_nil))))))), ?_⟩
    have lx := hT.len
    have l12 := ok.len
    have big : sizeLine = 16777216 := by decide
    refine ⟨_, rfl, _, rfl, a, C, dx, _, .ref k, rfl, hO, T.c, T.nk, rfl, k, ks.map V.str, rfl, .inr hK, ?_⟩
    rw [List.length_map]
    refine ⟨v, d, _, rfl, hd, sh, fun H1 s1 => ⟨_, rfl, ?_⟩⟩
    cases hl : lotD (ks.length : Int) d with
    | false => exact iteT (raised fun H' x s2 nx hx => err _ (.inl ⟨hl, rfl⟩) H' x (s1.trans s2) (s1.free nx) hx)
    | true =>
      refine iteF ?_
      refine ⟨_, rfl, a, C, dx, _, .ref t, rfl, s1 _ _ hO, T.c, T.nt, rfl, t, xs, rfl, .inr (seqT s1 hS), ?_⟩
      refine ⟨_, _, rfl, rfl, _, rfl, ?_⟩
      by_cases h12 : 12 ≤ ts.length
      · refine ite_eq true (decide_eq_true (by omega)) (iteT ?_)
        exact raised fun H' x s2 nx hx => err _ (.inr ⟨hl, h12, rfl⟩) H' x (s1.trans s2) (s1.free nx) hx
      · refine ite_eq false (decide_eq_false (by omega)) (iteF ?_)
        -- the new table
        cases d with
        | tuple ds =>
          obtain ⟨p, ys, rfl, hP, hA⟩ := hd.isT
          have hl2 : (numsBD (ks.length : Int) (.tuple ds) && ascB (intsD (.tuple ds))) = true := hl
          rw [Bool.and_eq_true] at hl2
          have ei := nums_ints hA hl2.1
          rw [ei] at hP
          have hO1 := s1 _ _ hO
          refine ⟨_, rfl, a, C, dx, _, .ref k, rfl, hO1, T.c, T.nk, rfl, ?_⟩
          refine ⟨_, rfl, a, C, dx, _, .ref t, rfl, hO1, T.c, T.nt, rfl, ?_⟩
          refine ⟨_, rfl, by show 1 ≤ sizeLine; decide, fun z nz => ?_⟩
          have sz := same_upd (o := .tup [V.ref p]) nz
          have kz := upd_same (H := H1) (a := z) (o := .tup [V.ref p])
          have s3 := s1.trans sz
          generalize L2.upd H1 z (.tup [V.ref p]) = H3 at sz kz s3 ⊢
          refine ⟨t, z, xs, [V.ref p], rfl, rfl, seqT s3 hS, sqt kz, by show xs.length + 1 ≤ sizeLine; omega, fun t2 H4 s4 kt => ?_⟩
          have s5 := s3.trans s4
          refine fun x dx2 nx nd ne => tab_made (seqT s5 hK) ok.kinds kt ((hT.mono s5).snoc (seqT s5 hP)) (by rw [List.length_append]; show ts.length + 1 ≤ 12; omega) (fun c hc => ?_) nx nd ne fun H5 s6 tab na => ?_
          · rcases List.mem_append.mp hc with m | m
            · exact ok.lots c m
            · rw [List.mem_singleton.mp m]
              exact lot_of hl sh
          · exact fin hl (by omega) H5 x (s5.trans s6) (s5.free na) tab
        | _ => cases hl
theorem ok_without_kinds {f fi C R : Addr} {fd fdi : FuncData} (F : Fun K "without_kinds" "without_kinds" s_without_kinds f fd) (T : TabC K C) (T_Table : MkT P w K mg base 7 "Table" C (spInitT K C))
    (e_Refused : ErrC K mg "Refused" R fi) (i_Refused : FnOk P w K mg base CX0 1 fi fdi ["self", "word"] (spInitW K R "word")) (b_Refused : Binds K fdi ["self", "word"] []) (z_len : mg "len" = none) (z_range : mg "range" = none) (z_tuple : mg "tuple" = none) :
    FnOk P w K mg base (L2.CX P w) 9 f fd ["table", "kinds"] (spLess2 K C R) := by
  refine F.okX sc_without_kinds (fun vs H Q E h => ?_) (fun cdv A outer s H vs Q E hr h => ?_)
  · obtain ⟨_, _, _, _, _, rfl, _⟩ := h
    rfl
  · obtain ⟨a, o, os, ks, ts, rfl, ⟨dx, k, t, xs, hO, hK, hS, hT⟩, ok, ho, lo, fin, err⟩ := h
    refine ⟨_, (pss_cons (ps_set (i := 2) sc_without_kinds.nd rfl (.inr rfl) (pe_callTy call_tupF (by rfl) z_tuple (by decide +kernel) (pa_cons (pe_lc (own := [("kind", 6)]) (by rfl) sc_without_kinds.nd (pi_range1 (by rfl) z_range (pa_cons (pe_callB call_len_seq (by rfl) z_len (by decide +kernel) (pa_cons (pe_fld (pv 0) (by rfl)) pa_nil)) pa_nil)) (blkOk_by (own := [("kind", 6)]) (N := N_without_kinds) (sc := defScope s_without_kinds) (by decide +kernel)) (fun _ _ _ _ _ => (pg_name (i := 6) sc_without_kinds.nd rfl (.inl rfl))) (fun _ _ _ _ _ => (pts_one (pt_cmpR (show OpR _ (compareOp .NotIn) (rIn K true) from op_notIn_seq) (pv 6) (pv 1) rfl))) (fun _ _ _ _ _ => (pv 6))) pa_nil)))
    (pss_cons (ps_if (pt_not (pt_truth (pv 2) (by intro _; rfl)))
      (pss_one (ps_raise rfl (takes_of rfl rfl rfl rfl) (pmk_oex e_Refused.o e_Refused.iC e_Refused.tI i_Refused (hr.mono (by decide)) b_Refused .nil pass0 rfl e_Refused.gC (pa_cons pe_str pa_nil))))
      pss_nil)
    (pss_cons (ps_set (i := 3) sc_without_kinds.nd rfl (.inl rfl) (pe_callTy call_tupF (by rfl) z_tuple (by decide +kernel) (pa_cons (pe_lc (own := [("kind", 6)]) (by rfl) sc_without_kinds.nd (pi_tup (pv 2)) (blkOk_by (own := [("kind", 6)]) (N := N_without_kinds) (sc := defScope s_without_kinds) (by decide +kernel)) (fun _ _ _ _ _ => (pg_name (i := 6) sc_without_kinds.nd rfl (.inl rfl))) (fun _ _ _ _ _ => pts_nil) (fun _ _ _ _ _ => (pe_ix (show IxR _ (rIxT K) from ix_tup) (show PE _ _ (tFld K (tVar 0) _) from pe_fld (pv 0) (by rfl)) (pv 6) (fun _ _ => rfl)))) pa_nil)))
    (pss_cons (ps_setLc (i := 4) (own := [("total", 5)]) (by rfl) sc_without_kinds.nd rfl rfl (sw_true rfl rfl rfl (by decide +kernel)) (pi_tup (pe_fld (pv 0) (by rfl))) (blkOk_by (own := [("total", 5)]) (N := N_without_kinds) (sc := defScope s_without_kinds) (by decide +kernel)) (fun _ _ _ _ _ => (pg_name (i := 5) sc_without_kinds.nd rfl (.inl rfl))) (fun _ _ _ _ _ => pts_nil) (fun _ _ _ _ _ => (pe_callTy (show CallR _ (.type "tuple") (rTupOf K) from call_tupK) (by rfl) z_tuple (by decide +kernel) (pa_cons (pe_lc (own := [("kind", 6)]) (by rfl) sc_without_kinds.nd (show PI _ _ _ (iTup K _) from pi_tup (pv 5)) (blkOk_by (own := [("kind", 6)]) (N := N_without_kinds) (sc := { kind := .function, names := [((".0" : String), .local), (("total" : String), .local), (("tuple" : String), .globalImplicit), (("left" : String), .cell)], isGenerator := false, isCoroutine := false }) (by decide +kernel)) (fun _ _ _ _ _ => (pg_name (i := 6) sc_without_kinds.nd rfl (.inl rfl))) (fun _ _ _ _ _ => (pts_one (pt_cmpR (show OpR _ (compareOp .In) (rIn K false) from op_in_seq) (pv 6) (pv 2) rfl))) (fun _ _ _ _ _ => (show PE _ _ (tTM (rTupIx K) (tVar 2) (tCons (tVar 6) tNil)) from pe_tm PySem.F.plainAttrs_tuple PySem.F.slot_tuple_index PySem.F.type_tuple_index mt_tup_indexI (pv 2) (pa_cons (pv 6) pa_nil)))) pa_nil))))
    (pss_one (ps_ret (pe_mt T_Table hr (by decide) rfl (pa_cons (pv 3) (pa_cons (pe_callTy call_tupF (by rfl) z_tuple (by decide +kernel) (pa_cons (pv 4) pa_nil)) pa_nil))))))))), ?_⟩
    have lx := hT.len
    have l12 := ok.len
    have big : sizeLine = 16777216 := by decide
    have k12 := ok.kinds.2.1
    refine ⟨_, rfl, a, C, dx, _, .ref k, rfl, hO, T.c, T.nk, rfl, k, _, rfl, .inr hK, _, rfl, by rw [List.length_map]; omega, by rw [List.length_map]; omega, fun M nM => ?_⟩
    refine lc_it (walk_range (lo := 0) (n := (ks.map V.str).length)) (fun i H' => Same H H' ∧ H' M = some (.lst ((leftK os i).map V.int))) ⟨same_upd nM, upd_same⟩ (fun _ _ _ _ => trivial) ?_ ?_
    · rintro i v H3 H4 hi ⟨sm3, hM⟩ ⟨e, rfl⟩
      subst e
      have e0 : (0 : Int) + (i : Nat) = (i : Nat) := Int.zero_add _
      refine ⟨rfl, _, rfl, _, rfl, o, os.map V.int, rfl, .inr (seqT sm3 ho), rfl, flat_ints os, _, rfl, ?_⟩
      have ev : inV (V.int (0 + (i : Int))) (os.map V.int) = os.contains (i : Int) := by rw [e0, inV_ints]
      cases hc : os.contains (i : Int) with
      | false =>
        rw [hc] at ev
        refine ite_eq true (by show (!inV (V.int (0 + (i : Int))) (os.map V.int)) = true; rw [ev]; rfl) (iteT ?_)
        refine ⟨_, rfl, _, hM, ?_, HD.same_put sm3 nM, ?_⟩
        · have := leftK_len os i
          have il : i < (ks.map V.str).length := hi
          rw [List.length_map] at il
          rw [List.length_map]
          omega
        · rw [upd_same, leftK_yes hc, List.map_append]
          show some (HO.lst (_ ++ [V.int (0 + (i : Int))])) = _
          rw [e0]
          rfl
      | true =>
        rw [hc] at ev
        refine ite_eq false (by show (!inV (V.int (0 + (i : Int))) (os.map V.int)) = false; rw [ev]; rfl) (iteF ⟨sm3, ?_⟩)
        rw [leftK_no hc]
        exact hM
    · rintro H3 ⟨sm3, hM⟩
      rw [List.length_map] at hM
      refine ⟨M, _, rfl, .inl (.inl hM), fun u H1 s31 nu hU => ?_⟩
      have s1 := sm3.trans s31
      have nu := sm3.free nu
      have mem := fun x (h : x ∈ leftK os ks.length) => leftK_mem h
      have lenL := leftK_len os ks.length
      clear hM s31 sm3 nM
      generalize leftK os ks.length = LK at hU fin err mem lenL ⊢
      refine ⟨_, rfl, !(LK.map V.int).isEmpty, .inr (.inl ⟨_, hU.seq, rfl⟩), ?_⟩
      cases LK with
      | nil => exact iteT (raised fun H' x s2 nx hx => err rfl H' x (s1.trans s2) (s1.free nx) hx)
      | cons l0 lr =>
        refine iteF ?_
        obtain ⟨okN, fin⟩ := fin (by simp)
        generalize l0 :: lr = LK at hU okN fin mem lenL
        have hO1 := s1 _ _ hO
        have hK1 := seqT s1 hK
        have hS1 := seqT s1 hS
        have hT1 := hT.mono s1
        -- the names
        refine ⟨_, rfl, u, rfl, ⟨_, hU.seq⟩, fun D nD => ?_⟩
        refine lc_it (walk_tup (K := K) (a := u) (xs := LK.map V.int)) (fun i H' => Same H1 H' ∧ H' D = some (.lst (((LK.take i).map fun x => ks.getD x.toNat Str.empty).map V.str))) ⟨same_upd nD, upd_same⟩ (fun i H' _ h => (hU.mono h.1).seq) ?_ ?_
        · rintro i v H2 H3 hi ⟨sm, hD⟩ ⟨rfl, ex⟩
          rw [List.getElem?_map] at ex
          obtain ⟨x, el, rfl⟩ := Option.map_eq_some_iff.mp ex
          obtain ⟨j, hj, rfl⟩ := mem x (List.mem_of_getElem? el)
          have ej : ks[j]? = some (ks.getD j Str.empty) := by
            rw [List.getD_eq_getElem?_getD, List.getElem?_eq_getElem hj]
            rfl
          refine ⟨rfl, _, rfl, a, C, dx, _, .ref k, rfl, sm _ _ hO1, T.c, T.nk, rfl, _, rfl, k, _, _, .str (ks.getD j Str.empty), rfl, rfl, seqT sm hK1, atI_nat (j := j) (by rw [List.getElem?_map, ej]; rfl), _, hD, ?_, HD.same_put sm nD, ?_⟩
          · rw [List.length_map, List.length_map, List.length_take]
            omega
          · rw [upd_same, List.take_add_one, el, List.map_append, List.map_append]
            rfl
        · rintro H2 ⟨sm, hD⟩
          rw [List.length_map, List.take_length] at hD
          refine ⟨D, _, rfl, .inl (.inl hD), fun n2 H3 s23 n3 hN => ?_⟩
          have s13 := sm.trans s23
          clear hD sm s23 nD n3
          have hO3 := s13 _ _ hO1
          have hS3 := seqT s13 hS1
          have hT3 := hT1.mono s13
          have hU3 := hU.mono s13
          refine ⟨_, rfl, a, C, dx, _, .ref t, rfl, hO3, T.c, T.nt, rfl, t, rfl, ⟨_, hS3⟩, fun D2 nD2 => ?_⟩
          refine lc_it (walk_tup (K := K) (a := t) (xs := xs)) (fun i H' => Same H3 H' ∧ ∃ ys, H' D2 = some (.lst ys) ∧ Tots K H' ys ((ts.take i).map (newT LK))) ⟨same_upd nD2, [], upd_same, trivial⟩ (fun i H' _ h => seqT h.1 hS3) ?_ ?_
          · rintro i v H4 H5 hi ⟨sm4, ys, hD, hY⟩ ⟨rfl, ex⟩
            obtain ⟨tt, c, rfl, ec, ht⟩ := hT3.get ex
            have okc := ok.lots c (List.mem_of_getElem? ec)
            have ht4 := seqT sm4 ht
            refine ⟨rfl, _, rfl, tt, rfl, ⟨_, ht4⟩, fun L nL => ?_⟩
            refine lc_it (walk_tup (K := K) (a := tt) (xs := c.map V.int)) (fun i H' => Same H5 H' ∧ H' L = some (.lst ((newT LK (c.take i)).map V.int))) ⟨same_upd nL, upd_same⟩ (fun i H' _ h => seqT h.1 ht4) ?_ ?_
            · rintro j v H6 H7 hj ⟨sm6, hL⟩ ⟨rfl, ex2⟩
              rw [List.getElem?_map] at ex2
              obtain ⟨x, exx, rfl⟩ := Option.map_eq_some_iff.mp ex2
              have hU7 := hU3.mono (sm4.trans sm6)
              refine ⟨rfl, _, rfl, _, rfl, u, LK.map V.int, rfl, .inr hU7.seq, rfl, flat_ints LK, _, rfl, ?_⟩
              rw [inV_ints]
              have na := newT_add (ls := LK) exx
              cases hc : LK.contains x with
              | true =>
                have hx : x ∈ LK := by simpa using hc
                rw [hc, if_pos rfl] at na
                refine iteT ⟨_, rfl, ⟨u, _, rfl, hU7⟩, _, rfl, u, LK, x, LK.idxOf x, rfl, rfl, hU7.seq, plc_at hx, fun m hm => plc_first hm, _, hL, ?_, HD.same_put sm6 nL, ?_⟩
                · have := newT_len LK c j
                  have := okc.1
                  rw [List.length_map]
                  omega
                · rw [upd_same, na, List.map_append]
                  rfl
              | false =>
                rw [hc, if_neg Bool.false_ne_true, List.append_nil] at na
                refine iteF ⟨sm6, ?_⟩
                rw [na]
                exact hL
            · rintro H6 ⟨sm6, hL⟩
              rw [List.length_map, List.take_length] at hL
              refine ⟨L, _, rfl, .inl ⟨.inl (.inl hL), fun r nr => ?_⟩⟩
              have sr := same_upd (o := .tup ((newT LK c).map V.int)) nr
              have s46 := sm6.trans sr
              have hD6 := s46 _ _ hD
              refine ⟨ys, hD6, ?_, HD.same_put (sm4.trans s46) nD2, ys ++ [.ref r], upd_same, ?_⟩
              · have := hY.len
                rw [List.length_map, List.length_take] at this
                omega
              · rw [List.take_add_one, ec, List.map_append]
                exact Tots.upd hD6 (Tots.snoc (sqt upd_same) (hY.mono s46))
          · rintro H4 ⟨sm4, ys, hD, hY⟩
            rw [lx, List.take_length] at hY
            refine ⟨_, rfl, _, rfl, D2, ys, rfl, .inl (.inl hD), fun t2 H5 s5 nt hT2 => ?_⟩
            have s35 := sm4.trans s5
            refine fun x dx2 nx nd ne => tab_made (hN.mono s35).seq okN.kinds hT2.seq (hY.mono s5) okN.len okN.lots nx nd ne fun H6 s6 tab na => ?_
            have sA := ((s1.trans s13).trans s35).trans s6
            exact fin H6 x sA (((s1.trans s13).trans s35).free na) tab
theorem ok_totals_by_classes2 {f C : Addr} {fd : FuncData} (F : Fun K "totals_by_classes" "totals_by_classes" s_totals_by_classes f fd) (T : TabC K C) (C_class_numbers : Cl P w K mg base 3 "class_numbers" (spNumbers K C)) (z_tuple : mg "tuple" = none) (z_sorted : mg "sorted" = none) (z_set : mg "set" = none) :
    FnOk P w K mg base CX0 4 f fd ["table"] (spTBC2 K C) := by
  refine F.ok sc_totals_by_classes (fun vs H Q E h => ?_) (fun cdv A outer s H vs Q E hr h => ?_)
  · obtain ⟨_, _, _, rfl, _⟩ := h
    rfl
  · obtain ⟨a, ks, ts, rfl, hTab, lt, lk, ok, fin⟩ := h
    refine ⟨_, (pss_cons (ps_set (i := 1) sc_totals_by_classes.nd rfl (.inr rfl) (pe_cl C_class_numbers hr (by decide) rfl (pa_cons (pv 0) pa_nil)))
    (pss_one (ps_ret (pe_callTy call_tuple_of (by rfl) z_tuple (by decide +kernel) (pa_cons (pe_lc (own := [("total", 2)]) (by rfl) sc_totals_by_classes.nd (pi_tup (pe_fld (pv 0) (by rfl))) (blkOk_by (own := [("total", 2)]) (N := N_totals_by_classes) (sc := defScope s_totals_by_classes) (by decide +kernel)) (fun _ _ _ _ _ => (pg_name (i := 2) sc_totals_by_classes.nd rfl (.inl rfl))) (fun _ _ _ _ _ => pts_nil) (fun _ _ _ _ _ => (pe_callTy (show CallR _ (.type "tuple") (rTupOf K) from call_tupK) (by rfl) z_tuple (by decide +kernel) (pa_cons (pe_callB (show CallR _ (.builtin "sorted") (rSortedSet w) from cr_sortedSet rfl) (by rfl) z_sorted (by decide +kernel) (pa_cons (pe_callTy (show CallR _ (.type "set") (rSetL K w) from cr_setL rfl) (by rfl) z_set (by decide +kernel) (pa_cons (pe_lc (own := [("kind", 3)]) (by rfl) sc_totals_by_classes.nd (show PI _ _ _ (iTup K _) from pi_tup (pv 2)) (blkOk_by (own := [("kind", 3)]) (N := N_totals_by_classes) (sc := { kind := .function, names := [((".0" : String), .local), (("total" : String), .local), (("tuple" : String), .globalImplicit), (("sorted" : String), .globalImplicit), (("set" : String), .globalImplicit), (("numbers" : String), .cell)], isGenerator := false, isCoroutine := false }) (by decide +kernel)) (fun _ _ _ _ _ => (pg_name (i := 3) sc_totals_by_classes.nd rfl (.inl rfl))) (fun _ _ _ _ _ => pts_nil) (fun _ _ _ _ _ => (pe_ix (show IxR _ (rIxT K) from ix_tup) (pv 1) (pv 3) (fun _ _ => rfl)))) pa_nil)) pa_nil)) pa_nil)))) pa_nil))))), ?_⟩
    refine ⟨_, rfl, a, ks, ts, rfl, hTab, lt, lk, fun H1 u s1 nu hu => ?_⟩
    have hTab1 := hTab.mono s1
    obtain ⟨dx, k, t, ys, hO, hK, hS, hT⟩ := hTab1
    have ly := hT.len
    generalize hcs : classesL ts ks.length = cs at hu fin
    refine ⟨_, rfl, a, C, dx, _, .ref t, rfl, hO, T.c, T.nt, rfl, t, rfl, ⟨_, hS⟩, fun D nD => ?_⟩
    refine lc_it (walk_tup (K := K) (a := t) (xs := ys)) (fun i H' => Same H1 H' ∧ ∃ xs ls, H' D = some (.lst xs) ∧ Tots K H' xs ls ∧ ls.length = i ∧ (∀ (j : Nat) c l, ts[j]? = some c → ls[j]? = some l → ∀ x : Int, x ∈ l ↔ ∃ k ∈ c, numV cs k = .int x) ∧ ∀ l ∈ ls, l.length ≤ 1000 ∧ l.Pairwise (· < ·)) ⟨same_upd nD, [], [], upd_same, trivial, rfl, fun j c l _ h => by simp at h, fun l h => by cases h⟩ (fun i H' _ h => seqT h.1 hS) ?_ ?_
    · rintro i v H2 H3 hi ⟨sm2, xs, ls, hD, hx, hl, rel, small⟩ ⟨rfl, ex⟩
      obtain ⟨tt, c, rfl, ec, ht⟩ := hT.get ex
      have hcm := List.mem_of_getElem? ec
      have okc := ok c hcm
      refine ⟨rfl, _, rfl, tt, rfl, ⟨_, seqT sm2 ht⟩, fun L nL => ?_⟩
      have sL := same_upd (o := .lst []) nL
      refine lc_it (walk_tup (K := K) (a := tt) (xs := c.map V.int)) (fun i H' => Same H3 H' ∧ H' L = some (.lst (((c.map (numI cs)).take i).map V.int))) ⟨sL, upd_same⟩ (fun i H' _ h => seqT (sm2.trans h.1) ht) ?_ ?_
      · rintro j v H4 H5 hj ⟨sm4, hL⟩ ⟨rfl, ex2⟩
        rw [List.getElem?_map] at ex2
        obtain ⟨kk, ek, rfl⟩ := Option.map_eq_some_iff.mp ex2
        have kin := List.mem_of_getElem? ek
        have ⟨k0, k1⟩ := okc.2 kk kin
        have hu4 := (sm2.trans sm4) _ _ hu
        obtain ⟨m, rfl⟩ := Int.eq_ofNat_of_zero_le k0
        have hat : atI ((List.range ks.length).map fun j => numV cs ((j : Nat) : Int)) ((m : Nat) : Int) = some (.int (numI cs (m : Int))) := by
          refine atI_nat ?_
          rw [List.getElem?_map, List.getElem?_range (by omega)]
          show some (numV cs (m : Int)) = _
          rw [← hcs, num_int hcm okc.2 kin]
        refine ⟨rfl, _, rfl, _, rfl, u, _, _, _, rfl, rfl, .inl (.inl hu4), hat, _, hL, ?_, HD.same_put sm4 nL, ?_⟩
        · rw [List.length_map, List.length_take, List.length_map]
          have : sizeLine = 16777216 := by decide
          have := okc.1
          omega
        · rw [upd_same, List.take_add_one, List.getElem?_map, ek, List.map_append]
          rfl
      · rintro H4 ⟨sm4, hL⟩
        rw [List.take_of_length_le (by rw [List.length_map, List.length_map]; exact Nat.le_refl _)] at hL
        refine ⟨L, c.map (numI cs), rfl, .inl (.inl hL), by rw [List.length_map]; omega, fun p cnt np hcn => ?_⟩
        have sp := same_upd (o := SetO w p (fun j => decide (j ∈ c.map (numI cs))) cnt) np
        refine ⟨p, _, cnt, rfl, upd_same, by have := okc.1; rw [List.length_map] at hcn; omega, fun ns q pw mem ln nq => ?_⟩
        have sq := same_upd (o := .lst (ns.map V.int)) nq
        refine ⟨q, _, rfl, .inl ⟨.inl (.inl upd_same), fun r nr => ?_⟩⟩
        have sr := same_upd (o := .tup (ns.map V.int)) nr
        have s35 := ((sm4.trans sp).trans sq).trans sr
        have hD5 := s35 _ _ hD
        refine ⟨xs, hD5, ?_, HD.same_put (sm2.trans s35) nD, xs ++ [.ref r], ls ++ [ns], upd_same, ?_, by rw [List.length_append, hl]; rfl, ?_, ?_⟩
        · have := hx.len
          have : sizeLine = 16777216 := by decide
          have : i < ys.length := hi
          omega
        · exact Tots.upd hD5 (Tots.snoc (sqt upd_same) (hx.mono s35))
        · intro j c' l h1 h2 x
          rcases Nat.lt_or_ge j ls.length with z | z
          · rw [List.getElem?_append_left z] at h2
            exact rel j c' l h1 h2 x
          · rw [List.getElem?_append_right z] at h2
            have j0 : j - ls.length = 0 := by
              have := (List.getElem?_eq_some_iff.mp h2).1
              rw [List.length_singleton] at this
              omega
            rw [j0] at h2
            have e1 : ns = l := Option.some.inj h2
            have ji : j = i := by omega
            subst e1 ji
            have e2 : c' = c := Option.some.inj (h1.symm.trans ec)
            subst e2
            rw [mem x, decide_eq_true_eq, List.mem_map]
            constructor
            · rintro ⟨k, hk, e⟩
              refine ⟨k, hk, ?_⟩
              rw [← hcs] at e ⊢
              rw [num_int hcm okc.2 hk, e]
            · rintro ⟨k, hk, e⟩
              refine ⟨k, hk, ?_⟩
              rw [← hcs] at e ⊢
              rw [num_int hcm okc.2 hk] at e
              exact V.int.inj e
        · intro l hl2
          rcases List.mem_append.mp hl2 with z | z
          · exact small l z
          · have := List.mem_singleton.mp z
            subst this
            have := okc.1
            rw [List.length_map] at hcn
            exact ⟨by omega, pw⟩
    · rintro H2 ⟨sm2, xs, ls, hD, hx, hl, rel, small⟩
      refine ⟨D, xs, rfl, .inl ⟨.inl (.inl hD), fun r nr => ?_⟩⟩
      have sr := same_upd (o := .tup xs) nr
      exact fin _ r xs ls (s1.trans (sm2.trans sr)) upd_same (hx.mono sr) ⟨by omega, by rw [hcs]; exact rel, small⟩
theorem ok_merged {f fi C R : Addr} {fd fdi : FuncData} (F : Fun K "merged" "merged" s_merged f fd) (T : TabC K C) (T_Table : MkT P w K mg base 7 "Table" C (spInitT K C)) (C_classes_of : Cl P w K mg base 2 "classes_of" (spClasses K C)) (C_totals_by_classes : Cl P w K mg base 4 "totals_by_classes" (spTBC2 K C))
    (e_Refused : ErrC K mg "Refused" R fi) (i_Refused : FnOk P w K mg base CX0 1 fi fdi ["self", "word"] (spInitW K R "word")) (b_Refused : Binds K fdi ["self", "word"] []) (z_tuple : mg "tuple" = none) :
    FnOk P w K mg base (L2.CX P w) 9 f fd ["table"] (spMerged K C R) := by
  refine F.okX sc_merged (fun vs H Q E h => ?_) (fun cdv A outer s H vs Q E hr h => ?_)
  · obtain ⟨_, _, _, rfl, _⟩ := h
    rfl
  · obtain ⟨a, ks, ts, rfl, hTab, ok, fin, err⟩ := h
    refine ⟨_, (pss_cons (ps_set (i := 1) sc_merged.nd rfl (.inl rfl) (pe_cl C_classes_of hr (by decide) rfl (pa_cons (pv 0) pa_nil)))
    (pss_cons (ps_if (pt_not (pt_truth (pv 1) (by intro _; rfl)))
      (pss_one (ps_raise rfl (takes_of rfl rfl rfl rfl) (pmk_oex e_Refused.o e_Refused.iC e_Refused.tI i_Refused (hr.mono (by decide)) b_Refused .nil pass0 rfl e_Refused.gC (pa_cons pe_str pa_nil))))
      pss_nil)
    (pss_one (ps_ret (pe_mt T_Table hr (by decide) rfl (pa_cons (pe_callTy call_tuple_of (by rfl) z_tuple (by decide +kernel) (pa_cons (pe_lc (own := [("kinds", 2)]) (by rfl) sc_merged.nd (pi_tup (pv 1)) (blkOk_by (own := [("kinds", 2)]) (N := N_merged) (sc := defScope s_merged) (by decide +kernel)) (fun _ _ _ _ _ => (pg_name (i := 2) sc_merged.nd rfl (.inl rfl))) (fun _ _ _ _ _ => pts_nil) (fun _ _ _ _ _ => (pe_ix (show IxR _ (rIxT K) from ix_tup) (show PE _ _ (tFld K (tVar 0) _) from pe_fld (pv 0) (by rfl)) (pe_ix (show IxR _ (rIxT K) from ix_tup) (pv 2) pe_int (fun _ _ => rfl)) (fun _ _ => rfl)))) pa_nil)) (pa_cons (pe_cl C_totals_by_classes hr (by decide) rfl (pa_cons (pv 0) pa_nil)) pa_nil))))))), ?_⟩
    have l12 := ok.len
    have big : sizeLine = 16777216 := by decide
    have k12 := ok.kinds.2.1
    refine ⟨_, rfl, a, ks, ts, rfl, hTab, by omega, by omega, fun H1 cl us s1 ncl kcl hu => ?_⟩
    have lu := hu.len
    have hTab1 := hTab.mono s1
    have ⟨cl1, cl2⟩ := classes_len ts ks.length
    refine ⟨_, rfl, !us.isEmpty, .inr (.inl ⟨_, sqt kcl, rfl⟩), ?_⟩
    by_cases hne : classesL ts ks.length = []
    · have e : us = [] := List.eq_nil_of_length_eq_zero (by rw [lu, hne]; rfl)
      subst e
      exact iteT (raised fun H' x s2 nx hx => err hne H' x (s1.trans s2) (s1.free nx) hx)
    · have e : us.isEmpty = false := by
        cases us with
        | nil => exact absurd (List.eq_nil_of_length_eq_zero lu.symm) hne
        | cons _ _ => rfl
      rw [e]
      refine iteF ?_
      have fin := fin hne
      obtain ⟨dx, k, t, xs, hO, hK, hS, hT⟩ := hTab1
      refine ⟨_, rfl, cl, rfl, ⟨_, sqt kcl⟩, fun D nD => ?_⟩
      refine lc_it (walk_tup (K := K) (a := cl) (xs := us)) (fun i H' => Same H1 H' ∧ H' D = some (.lst ((clsN ks ((classesL ts ks.length).take i)).map V.str))) ⟨same_upd nD, upd_same⟩ (fun i H' _ h => seqT h.1 (sqt kcl)) ?_ ?_
      · rintro i v H2 H3 hi ⟨sm, hD⟩ ⟨rfl, ex⟩
        obtain ⟨tt, c, rfl, ec, ht⟩ := hu.get ex
        have hcm := List.mem_of_getElem? ec
        have cne := cls_ne c hcm
        cases c with
        | nil => exact absurd rfl cne
        | cons c0 cr =>
          obtain ⟨j, hj, rfl⟩ := classes_below hcm List.mem_cons_self
          have ej : ks[j]? = some (ks.getD j Str.empty) := by
            rw [List.getD_eq_getElem?_getD, List.getElem?_eq_getElem hj]
            rfl
          refine ⟨rfl, _, rfl, a, C, dx, _, .ref k, rfl, sm _ _ hO, T.c, T.nk, rfl, _, rfl, tt, _, _, .int (j : Int), rfl, rfl, seqT sm ht, at00 _ _, k, _, _, .str (ks.getD j Str.empty), rfl, rfl, seqT sm hK, atI_nat (j := j) (by rw [List.getElem?_map, ej]; rfl), _, hD, ?_, HD.same_put sm nD, ?_⟩
          · unfold clsN
            rw [List.length_map, List.length_map, List.length_take]
            omega
          · unfold clsN
            rw [upd_same, List.take_add_one, ec, List.map_append, List.map_append]
            rfl
      · rintro H2 ⟨sm, hD⟩
        rw [lu, List.take_length] at hD
        refine ⟨D, _, rfl, .inl ⟨.inl (.inl hD), fun n2 nn => ?_⟩⟩
        have sn := same_upd (o := .tup ((clsN ks (classesL ts ks.length)).map V.str)) nn
        have kn := upd_same (H := H2) (a := n2) (o := .tup ((clsN ks (classesL ts ks.length)).map V.str))
        have s13 := s1.trans (sm.trans sn)
        generalize L2.upd H2 n2 (.tup ((clsN ks (classesL ts ks.length)).map V.str)) = H3 at sn kn s13 ⊢
        refine ⟨_, rfl, a, ks, ts, rfl, hTab.mono s13, by omega, by omega, ok.low, fun H4 r zs ls s4 kr hz by_ => ?_⟩
        obtain ⟨okN, fin⟩ := fin ls by_
        refine fun x dx2 nx nd ne => tab_made (seqT s4 (sqt kn)) okN.kinds (sqt kr) hz okN.len okN.lots nx nd ne fun H5 s5 tab na => ?_
        exact fin H5 x (s13.trans (s4.trans s5)) ((s13.trans s4).free na) tab
theorem ok_core_of {f C R : Addr} {fd : FuncData} (F : Fun K "core_of" "core_of" s_core_of f fd) (T : TabC K C) (T_Table : MkT P w K mg base 7 "Table" C (spInitT K C)) (C_merged : ClX P w K mg base 9 "merged" (spMerged K C R)) (z_tuple : mg "tuple" = none) (z_sorted : mg "sorted" = none) (z_set : mg "set" = none) :
    FnOk P w K mg base (L2.CX P w) 11 f fd ["table"] (spCore K C R) := by
  refine F.okX sc_core_of (fun vs H Q E h => ?_) (fun cdv A outer s H vs Q E hr h => ?_)
  · obtain ⟨_, _, _, rfl, _⟩ := h
    rfl
  · obtain ⟨a, ks, ts, rfl, hTab, ok, fin, err⟩ := h
    refine ⟨_, (pss_cons (ps_set (i := 1) sc_core_of.nd rfl (.inl rfl) (pe_clx C_merged hr (by decide) (takes_of rfl rfl rfl rfl) rfl (pa_cons (pv 0) pa_nil)))
    (pss_one (ps_ret (pe_mt T_Table hr (by decide) rfl (pa_cons (pe_fld (pv 1) (by rfl)) (pa_cons (pe_callTy call_tuple_of (by rfl) z_tuple (by decide +kernel) (pa_cons (pe_callB (cr_sortedU rfl (Nat.lt_of_le_of_lt (Nat.add_le_add_left (by decide) _) hr.units)) (by rfl) z_sorted (by decide +kernel) (pa_cons (pe_callTy (cr_setOfT rfl hr.units) (by rfl) z_set (by decide +kernel) (pa_cons (pe_lc (own := [("total", 2)]) (by rfl) sc_core_of.nd (pi_tup (pe_fld (pv 1) (by rfl))) (blkOk_by (own := [("total", 2)]) (N := N_core_of) (sc := defScope s_core_of) (by decide +kernel)) (fun _ _ _ _ _ => (pg_name (i := 2) sc_core_of.nd rfl (.inl rfl))) (fun _ _ _ _ _ => (pts_one (pt_tru (K := K) rfl (pv 2) (by intro _; rfl)))) (fun _ _ _ _ _ => (pv 2))) pa_nil)) pa_nil)) pa_nil)) pa_nil)))))), ?_⟩
    have big : sizeLine = 16777216 := by decide
    refine ⟨_, rfl, a, ks, ts, rfl, hTab, ok, fun hne ls by_ => ⟨merged_ok ok hne by_, fun H1 m s1 nm hM => ?_⟩, fun hz H' x s1 nx hx => err hz H' x s1 nx hx⟩
    have okM := merged_ok ok hne by_
    have fin := fin hne ls
    generalize clsN ks (classesL ts ks.length) = ns at hM okM fin
    obtain ⟨dx, k, t, xs, hO, hK, hS, hT⟩ := hM
    have lx := hT.len
    have l12 := okM.len
    refine ⟨_, rfl, m, C, dx, _, .ref k, rfl, hO, T.c, T.nk, rfl, ?_⟩
    refine ⟨_, rfl, m, C, dx, _, .ref t, rfl, hO, T.c, T.nt, rfl, t, rfl, ⟨_, hS⟩, fun D nD => ?_⟩
    refine lc_it (walk_tup (K := K) (a := t) (xs := xs)) (fun i H' => Same H1 H' ∧ ∃ ps : List (Addr × List Int), H' D = some (.lst (ps.map fun p => V.ref p.1)) ∧ (∀ p ∈ ps, SqT K H1 p.1 (p.2.map V.int)) ∧ ps.map (·.2) = (ls.take i).filter (fun c => !c.isEmpty) ∧ ps.length ≤ i) ⟨same_upd nD, [], upd_same, (by intro _ h; cases h), rfl, Nat.le_refl _⟩ (fun i H' _ h => seqT h.1 hS) ?_ ?_
    · rintro i v H2 H3 hi ⟨sm, ps, hD, hp, eq, lp⟩ ⟨rfl, ex⟩
      obtain ⟨tt, c, rfl, ec, ht⟩ := hT.get ex
      refine ⟨rfl, _, rfl, !(c.map V.int).isEmpty, .inr (.inl ⟨_, seqT sm ht, rfl⟩), ?_⟩
      have tk : (ls.take (i + 1)).filter (fun c => !c.isEmpty) = (ls.take i).filter (fun c => !c.isEmpty) ++ ([c].filter fun c => !c.isEmpty) := by rw [List.take_add_one, ec, List.filter_append]; rfl
      cases c with
      | nil =>
        refine iteF ⟨sm, ps, hD, hp, ?_, by omega⟩
        rw [tk, eq]
        simp
      | cons c0 cr =>
        refine iteT ⟨_, rfl, _, hD, ?_, HD.same_put sm nD, ps ++ [(tt, c0 :: cr)], ?_, fun p hm => ?_, ?_, ?_⟩
        · rw [List.length_map]
          have : i < xs.length := hi
          omega
        · rw [upd_same, List.map_append]
          rfl
        · rcases List.mem_append.mp hm with z | z
          · exact hp p z
          · rw [List.mem_singleton.mp z]
            exact ht
        · rw [tk, List.map_append, eq]
          rfl
        · rw [List.length_append]
          show ps.length + 1 ≤ i + 1
          omega
    · rintro H2 ⟨sm, ps, hD, hp, eq, lp⟩
      rw [lx, List.take_length] at eq
      refine ⟨D, ps, rfl, .inl (.inl hD), fun p hm => seqT sm (hp p hm), by omega, fun b L nb sub all => ?_⟩
      have sb : Same H2 (L2.upd H2 b (SetTO P w b L)) := same_upd nb
      have s13 := sm.trans sb
      refine ⟨b, L, rfl, upd_same, fun p hm => seqT s13 (hp p (sub p hm)), fun L' q pm nd few pw nq => ?_⟩
      have sq : Same (L2.upd H2 b (SetTO P w b L)) (L2.upd (L2.upd H2 b (SetTO P w b L)) q (.lst (L'.map fun q => V.ref q.1))) := same_upd nq
      have s14 := s13.trans sq
      refine ⟨q, _, rfl, .inl ⟨.inl (.inl upd_same), fun r nr => ?_⟩⟩
      have sr : Same (L2.upd (L2.upd H2 b (SetTO P w b L)) q (.lst (L'.map fun q => V.ref q.1))) (L2.upd (L2.upd (L2.upd H2 b (SetTO P w b L)) q (.lst (L'.map fun q => V.ref q.1))) r (.tup (L'.map fun q => V.ref q.1))) := same_upd nr
      have s15 := s14.trans sr
      have core : CoreR ls (L'.map (·.2)) := by
        refine ⟨lexAsc_of nd (List.pairwise_map.mpr pw), fun c => ?_⟩
        have e1 : c ∈ L'.map (·.2) ↔ c ∈ L.map (·.2) := (pm.map (·.2)).mem_iff
        have e2 : c ∈ L.map (·.2) ↔ c ∈ ps.map (·.2) := ⟨fun h => by
          obtain ⟨p, h1, h2⟩ := List.mem_map.mp h
          exact List.mem_map.mpr ⟨p, sub p h1, h2⟩, fun h => by
          obtain ⟨p, h1, h2⟩ := List.mem_map.mp h
          rw [← h2]
          exact all p h1⟩
        rw [e1, e2, eq, List.mem_filter]
        cases c with
        | nil => simp
        | cons x y => simp
      have okC := core_ok okM core
      have inH : ∀ p ∈ L', SqT K (L2.upd (L2.upd (L2.upd H2 b (SetTO P w b L)) q (.lst (L'.map fun q => V.ref q.1))) r (.tup (L'.map fun q => V.ref q.1))) p.1 (p.2.map V.int) := fun p hm => seqT s15 (hp p (sub p (pm.mem_iff.mp hm)))
      refine fun x dx2 nx nd2 ne => tab_made (seqT s15 hK) okC.kinds (sqt upd_same) (tots_refs L' inH) okC.len okC.lots nx nd2 ne fun H6 s6 tab na => ?_
      exact fin _ by_ core H6 x (s1.trans (s15.trans s6)) ((s1.trans s15).free na) tab
theorem ok__law_names {f : Addr} {fd : FuncData} (F : Fun K "_law_names" "_law_names" s__law_names f fd) (C__law_draw : Cl P w K mg base 1 "_law_draw" spDraw) (C__law_pick : Cl P w K mg base 2 "_law_pick" (spPick K))
    (z_len : mg "len" = none) (z_int : mg "int" = none) (z_range : mg "range" = none) (z_tuple : mg "tuple" = none) (z_sorted : mg "sorted" = none) :
    FnOk P w K mg base CX0 3 f fd ["heap", "many"] (spLawNames K) := by
  refine F.ok sc__law_names (fun vs H Q E h => ?_) (fun cdv A outer s H vs Q E hr h => ?_)
  · obtain ⟨p, q, m, rfl, _⟩ := h
    rfl
  · obtain ⟨p, q, m, rfl, hd, m0, m1, fin⟩ := h
    refine ⟨_, (pss_cons (ps_par3 (i := 2) (j := 3) (l := 4) (by rfl) sc__law_names.nd rfl rfl rfl (by decide) (by decide) (by decide) rfl rfl rfl (pa_cons pe_str (pa_cons (pe_cl C__law_pick hr (by decide) rfl (pa_cons (pv 0) (pa_cons (pe_lst (pa_cons pe_str (pa_cons pe_str (pa_cons pe_str (pa_cons pe_str (pa_cons pe_str pa_nil)))))) pa_nil))) (pa_cons (pe_lst pa_nil) pa_nil))) (by rfl))
    (pss_cut (ps_for PassesOwn.never rfl (pi_range1 (by rfl) z_range (pa_cons (pv 1) pa_nil)) (pg_name (i := 5) sc__law_names.nd rfl (.inl rfl))
      (pss_one (ps_expr (pe_bm PySem.F.plainAttrs_list PySem.F.slot_list_append PySem.F.type_list_append mt_append (pv 4) (pa_cons (pe_op op_add_str (pv 3) (pe_item_str (pv 2) (pe_op op_modN (pe_callTy call_int1 (by rfl) z_int (by decide +kernel) (pa_cons (pe_op op_add (pe_op op_mulW pe_int (pv 5)) pe_int) pa_nil)) pe_int) (fun _ _ => rfl))) pa_nil)))))
    (pss_cons (ps_set (i := 5) sc__law_names.nd rfl (.inl rfl) (pe_cl C__law_draw hr (by decide) rfl (pa_cons (pv 0) (pa_cons (pv 1) pa_nil))))
    (pss_cons (ps_asg (pe_op op_add_str (pe_ix ix_list (pv 4) (pv 5) (fun _ _ => rfl)) (pe_op op_mul01 pe_str (pe_callTy call_int1 (by rfl) z_int (by decide +kernel) (pa_cons (pe_meet (pe_and (pe_cmpR op_lt (pe_callB call_len_str (by rfl) z_len (by decide +kernel) (pa_cons (pe_ix ix_list (pv 4) (pv 5) (fun _ _ => rfl)) pa_nil)) pe_int (nomark _)) (pe_one (pe_cmpR op_eq (pe_cl C__law_draw hr (by decide) rfl (pa_cons (pv 0) (pa_cons pe_int pa_nil))) pe_int (nomark _))))) pa_nil)))) (pg_sub (pv 4) (pv 5) set_list))
    (pss_one (ps_ret (pe_callTy call_tuple_of (by rfl) z_tuple (by decide +kernel) (pa_cons (pe_callB cr_sortedS (by rfl) z_sorted (by decide +kernel) (pa_cons (pv 4) pa_nil)) pa_nil)))))))), ?_⟩
    have big : sizeLine = 16777216 := by decide
    have on0 := On.start hd
    refine ⟨_, rfl, by show 5 ≤ sizeLine; decide, fun L nL => ?_⟩
    have fL := on0.free nL
    have on1 := on0.new (o := .lst [.str ("" : String), .str ("" : String), .str ("b" : String), .str ("zz" : String), .str ("mnopu" : String)]) nL
    refine ⟨p, q, L, _, rfl, on1.hd, upd_same, fL.1, fL.2.1, by simp, by show 5 < 1000000; decide, fun H2 v hd2 kp2 hv => ?_⟩
    have on2 := on1.draw hd2 kp2
    obtain ⟨fr, hfr, rfl⟩ : ∃ fr ∈ fronts, v = V.str fr := by
      have e : ([.str ("" : String), .str ("" : String), .str ("b" : String), .str ("zz" : String), .str ("mnopu" : String)] : List V) = fronts.map V.str := rfl
      rw [e] at hv
      obtain ⟨z, hz, e⟩ := List.mem_map.mp hv
      exact ⟨z, hz, e.symm⟩
    refine ⟨by show 0 ≤ sizeLine; exact Nat.zero_le _, fun D nD => ?_⟩
    have fD := on2.free nD
    have on3 := on2.new (o := .lst []) nD
    have hD := upd_same (H := H2) (a := D) (o := .lst [])
    generalize L2.upd H2 D (.lst []) = H3 at on3 hD ⊢
    clear on1 on2 kp2 hd2 hv nD nL
    generalize frz p q H = G at *
    refine ⟨_, _, _, rfl, ?_⟩
    have fl5 := front_len hfr
    refine ⟨fun σ H' => (∃ y5 : Option V, σ = [some (.ref p), some (.int m), some (.str cABC), some (.str fr), some (.ref D), y5]) ∧ On p q G H' ∧ H' D = some (.lst (((List.range m).map (baseN fr)).map V.str)), ?_, ?_⟩
    · refine ⟨_, rfl, _, rfl, by omega, by omega, ?_⟩
      refine for_it (walk_range (lo := 0) (n := ((m : Nat) : Int).toNat)) (fun i σ H' => (∃ y5 : Option V, σ = [some (.ref p), some (.int m), some (.str cABC), some (.str fr), some (.ref D), y5]) ∧ On p q G H' ∧ H' D = some (.lst (((List.range i).map (baseN fr)).map V.str))) ⟨⟨_, rfl⟩, on3, hD⟩ (fun _ _ _ _ _ => trivial) ?_ ?_
      · rintro i x σ H4 H5 hi ⟨⟨y5, rfl⟩, on4, kD⟩ ⟨rfl, rfl⟩
        have hi2 : i < m := by have : i < ((m : Nat) : Int).toNat := hi; omega
        have e0 : (0 : Int) + (i : Nat) = (i : Nat) := Int.zero_add _
        show gName 5 (V.int ((0 : Int) + ((i : Nat) : Int))) _ _ _
        rw [e0]
        have hmod : ((7 : Int) * (i : Int) + 3).fmod 26 = (((7 * i + 3) % 26 : Nat) : Int) := by
          have := fmod_nat (7 * i + 3) (m := 26) (by decide)
          rw [← this]
          congr 1
        have hm2 : (7 * i + 3) % 26 < 26 := Nat.mod_lt _ (by decide)
        refine ⟨_, rfl, .inl ⟨rfl, _, .inl (.inl kD)⟩, _, rfl, _, rfl, _, rfl, _, _, rfl, rfl, mulW (up (n := 40) (by decide) (by decide)) (up (n := 40) (by omega) (by decide)), _, _, rfl, rfl, .inl ⟨_, rfl, _, _, rfl, rfl, by show (26 : Int) ≠ 0; decide, cABC, _, lett i, rfl, rfl, ?_, ?_, ?_, ?_, ?_⟩⟩
        · rw [hmod]; omega
        · rw [hmod, show ((2 : Int) ^ 63) = 9223372036854775808 from by decide]
          omega
        · rw [hmod, show cABC.length = 26 from by decide +kernel]
          omega
        · rw [hmod, Int.toNat_natCast, ← Array.getElem?_toList]
          exact lett_at i (by omega)
        refine ⟨_, _, rfl, rfl, by show fr.length + 1 ≤ sizeLine; omega, D, _, _, rfl, rfl, kD, by rw [List.length_map, List.length_map, List.length_range]; omega, ⟨_, rfl⟩, on4.put fD, ?_⟩
        rw [upd_same, List.range_succ, List.map_append, List.map_append]
        rfl
      · rintro σ H4 ⟨⟨y5, rfl⟩, on4, kD⟩
        rw [Int.toNat_natCast] at kD
        exact ⟨⟨_, rfl⟩, on4, kD⟩
    clear hD on3
    rintro σ H4 ⟨⟨y5, rfl⟩, on4, kD⟩
    refine ⟨_, rfl, _, rfl, p, q, _, rfl, on4.hd, by omega, by omega, fun H5 r hd5 kp5 r0 r1 => ?_⟩
    have on5 := on4.draw hd5 kp5
    have kD5 := kp5 D _ fD.1 fD.2.1 kD
    obtain ⟨a, rfl⟩ := Int.eq_ofNat_of_zero_le r0
    have ha : a < m := by omega
    have eat : (((List.range m).map (baseN fr)).map V.str)[a]? = some (.str (baseN fr a)) := by
      rw [List.getElem?_map, List.getElem?_map, List.getElem?_range ha]
      rfl
    have lb : (baseN fr a).length = fr.length + 1 := by
      show (fr.cps ++ #[lett a]).size = fr.cps.size + 1
      rw [Array.size_append]
      rfl
    refine ⟨_, rfl, _, rfl, D, _, _, _, rfl, rfl, .inl (.inl kD5), atI_nat eat, ?_⟩
    have last : ∀ (H6 : Hp) (b : Bool), (b = true → (baseN fr a).length < 6) → On p q G H6 → H6 D = some (.lst (((List.range m).map (baseN fr)).map V.str)) →
        ∀ u S : Addr, ∀ ys : List Str, ys.Perm (namesL fr m a b) → sortedS ys = true → ∀ H7, On p q G H7 → H7 u = some (.tup (ys.map V.str)) → Q (.ref u) H7 := fun H6 b hb on6 k6 u S ys pm so H7 on7 ku => by
      have ⟨nd, ok⟩ := names_fine hfr m1 ha hb
      have lp := pm.length_eq
      have ll : (namesL fr m a b).length = m := by unfold namesL; rw [List.length_set, List.length_map, List.length_range]
      exact fin _ u ys on7 ku ⟨by omega, by omega, fun z hz => ok z (pm.mem_iff.mp hz), ascS_of so (pm.nodup_iff.mpr nd)⟩ (by omega)
    refine ⟨fun v H' => ∃ b : Bool, v = .bl b ∧ (b = true → (baseN fr a).length < 6) ∧ On p q G H' ∧ H' D = some (.lst (((List.range m).map (baseN fr)).map V.str)), ?_, ?_⟩
    · refine ⟨_, rfl, _, rfl, D, _, _, _, rfl, rfl, .inl (.inl kD5), atI_nat eat, _, rfl, by omega, _, _, rfl, rfl, ?_⟩
      by_cases h6 : (baseN fr a).length < 6
      · refine ⟨_, rfl, ite_eq true (decide_eq_true (by omega)) (iteT ?_)⟩
        refine ⟨_, rfl, p, q, _, rfl, on5.hd, by decide, by decide, fun H6 r hd6 kp6 r0 r1 => ⟨rfl, _, rfl, fun _ => h6, on5.draw hd6 kp6, kp6 D _ fD.1 fD.2.1 kD5⟩⟩
      · refine ⟨_, rfl, ite_eq false (decide_eq_false (by omega)) (iteF ?_)⟩
        exact ⟨_, rfl, fun z => Bool.noConfusion z, on5, kD5⟩
    · rintro _ H6 ⟨b, rfl, hb, on6, k6⟩
      refine .inr ⟨b, rfl, _, b, rfl, rfl, _, _, rfl, rfl, ?_, ?_⟩
      · have : (if b = true then (("o" : String) : Str) else Str.empty).length ≤ 1 := by cases b <;> decide
        omega
      have ea : ixN (((List.range m).map (baseN fr)).map V.str).length (a : Int) = some a := ixN_nat (by rw [List.length_map, List.length_map, List.length_range]; exact ha)
      refine ⟨_, rfl, _, rfl, D, _, _, a, rfl, rfl, k6, ea, ?_⟩
      have eset : (((List.range m).map (baseN fr)).map V.str).set a (V.str (baseN fr a ++ endO b)) = (namesL fr m a b).map V.str := by
        unfold namesL
        rw [List.map_set]
      have k7 : (L2.upd H6 D (.lst ((((List.range m).map (baseN fr)).map V.str).set a (V.str (baseN fr a ++ endO b))))) D = some (.lst ((namesL fr m a b).map V.str)) := by rw [upd_same, eset]
      have on7 : On p q G (L2.upd H6 D (.lst ((((List.range m).map (baseN fr)).map V.str).set a (V.str (baseN fr a ++ endO b))))) := on6.put fD
      refine ⟨_, rfl, D, namesL fr m a b, rfl, .inl (.inl k7), by unfold namesL; rw [List.length_set, List.length_map, List.length_range]; omega, fun ys S pm so nS => ?_⟩
      have on8 := on7.new (o := .lst (ys.map V.str)) nS
      refine ⟨S, _, rfl, .inl ⟨.inl (.inl upd_same), fun u nu => ?_⟩⟩
      have on9 := on8.new (o := .tup (ys.map V.str)) nu
      exact last H6 b hb on6 k6 u S ys pm so _ on9 upd_same
theorem ok__law_totals {f : Addr} {fd : FuncData} (F : Fun K "_law_totals" "_law_totals" s__law_totals f fd) (C__law_draw : Cl P w K mg base 1 "_law_draw" spDraw) (C__law_pick : Cl P w K mg base 2 "_law_pick" (spPick K))
    (z_len : mg "len" = none) (z_range : mg "range" = none) (z_tuple : mg "tuple" = none) :
    FnOk P w K mg base CX0 3 f fd ["heap", "kinds", "many"] (spLawTots K) := by
  refine F.ok sc__law_totals (fun vs H Q E h => ?_) (fun cdv A outer s H vs Q E hr h => ?_)
  · obtain ⟨p, q, n, m, rfl, _⟩ := h
    rfl
  · obtain ⟨p, q, n, m, rfl, hd, n12, m12, fin⟩ := h
    refine ⟨_, (pss_cons (ps_asg (pe_tup (pa_cons (pe_cl C__law_pick hr (by decide) rfl (pa_cons (pv 0) (pa_cons (pe_lst (pa_cons pe_int (pa_cons pe_int (pa_cons pe_int (pa_cons pe_int pa_nil))))) pa_nil))) (pa_cons (pe_lst pa_nil) pa_nil))) (pg_tup rfl (pgs_cons (pg_name (i := 3) sc__law_totals.nd rfl (.inr rfl)) (pgs_cons (pg_name (i := 4) sc__law_totals.nd rfl (.inr rfl)) pgs_nil))))
    (pss_cut (ps_for PassesOwn.never rfl (pi_range1 (by rfl) z_range (pa_cons (pv 1) pa_nil)) (pg_name (i := 5) sc__law_totals.nd rfl (.inl rfl))
      (pss_cons (ps_setLc (i := 7) (own := [("at", 6)]) (by rfl) sc__law_totals.nd rfl rfl (sw_true rfl rfl rfl (by decide +kernel)) (pi_range1 (by rfl) z_range (pa_cons (pv 2) pa_nil)) (blkOk_by (own := [("at", 6)]) (N := N__law_totals) (sc := defScope s__law_totals) (by decide +kernel)) (fun _ _ _ _ _ => (pg_name (i := 6) sc__law_totals.nd rfl (.inl rfl))) (fun _ _ _ _ _ => (pts_one (pt_cmpR op_eq (pe_cl C__law_draw hr (by decide) rfl (pa_cons (pv 0) (pa_cons (pv 3) pa_nil))) pe_int (nomark _)))) (fun _ _ _ _ _ => (pv 6)))
      (pss_cons (ps_set (i := 8) sc__law_totals.nd rfl (.inl rfl) (pe_cl C__law_draw hr (by decide) rfl (pa_cons (pv 0) (pa_cons pe_int pa_nil))))
      (pss_one (ps_expr (pe_bm PySem.F.plainAttrs_list PySem.F.slot_list_append PySem.F.type_list_append mt_append (pv 4) (pa_cons (pe_meet (pe_ifExp (PW.pt (pw_and (pt_cmpR (op_neD hr.units) (pv 4) (pe_lst pa_nil) (nomark _)) (pw_and1 (pt_cmpR op_eq (pv 8) pe_int (nomark _))))) (pe_ix ix_list (pv 4) (pe_cl C__law_draw hr (by decide) rfl (pa_cons (pv 0) (pa_cons (pe_callB call_len_seq (by rfl) z_len (by decide +kernel) (pa_cons (pv 4) pa_nil)) pa_nil))) (fun _ _ => rfl)) (pe_ifExp (PW.pt (pw_and (pt_cmpR op_eq (pv 8) pe_int (nomark _)) (pw_and1 (pt_cmpR op_eq (pe_cl C__law_draw hr (by decide) rfl (pa_cons (pv 0) (pa_cons pe_int pa_nil))) pe_int (nomark _))))) (pe_lst pa_nil) (pv 7)))) pa_nil)))))))
    (pss_cons (ps_setLc (i := 9) (own := [("at", 6)]) (by rfl) sc__law_totals.nd rfl rfl (sw_true rfl rfl rfl (by decide +kernel)) (pi_range1 (by rfl) z_range (pa_cons (pv 2) pa_nil)) (blkOk_by (own := [("at", 6)]) (N := N__law_totals) (sc := defScope s__law_totals) (by decide +kernel)) (fun _ _ _ _ _ => (pg_name (i := 6) sc__law_totals.nd rfl (.inr rfl))) (fun _ _ _ _ _ => pts_nil) (fun _ _ _ _ _ => (pe_callTy (show CallR _ (.type "tuple") (rTupOf K) from call_tupK) (by rfl) z_tuple (by decide +kernel) (pa_cons (pe_lc (own := [("kind", 5)]) (by rfl) sc__law_totals.nd (pi_range1 (by rfl) z_range (pa_cons (pv 1) pa_nil)) (blkOk_by (own := [("kind", 5)]) (N := N__law_totals) (sc := { kind := .function, names := [((".0" : String), .local), (("at" : String), .cell), (("tuple" : String), .globalImplicit), (("range" : String), .globalImplicit), (("kinds" : String), .cell), (("rows" : String), .cell)], isGenerator := false, isCoroutine := false }) (by decide +kernel)) (fun _ _ _ _ _ => (pg_name (i := 5) sc__law_totals.nd rfl (.inl rfl))) (fun _ _ _ _ _ => (pts_one (pt_cmpR (show OpR _ (compareOp .In) (rIn K false) from op_in_seq) (pv 6) (pe_ix (show IxR _ (rIxL K) from ix_list) (pv 4) (pv 5) (fun _ _ => rfl)) rfl))) (fun _ _ _ _ _ => (pv 5))) pa_nil))))
    (pss_cut (ps_for PassesOwn.never rfl (pi_range1 (by rfl) z_range (pa_cons (pv 2) pa_nil)) (pg_name (i := 6) sc__law_totals.nd rfl (.inl rfl))
      (pss_one (ps_asg (pe_meet (pe_ifExp (pt_cmpR op_eq (pe_cl C__law_draw hr (by decide) rfl (pa_cons (pv 0) (pa_cons pe_int pa_nil))) pe_int (nomark _)) (pe_ix ix_list (pv 9) (pe_cl C__law_draw hr (by decide) rfl (pa_cons (pv 0) (pa_cons (pv 2) pa_nil))) (fun _ _ => rfl)) (pe_ix ix_list (pv 9) (pv 6) (fun _ _ => rfl)))) (pg_sub (pv 9) (pv 6) set_list))))
    (pss_one (ps_ret (pe_callTy call_tuple_of (by rfl) z_tuple (by decide +kernel) (pa_cons (pv 9) pa_nil)))))))), ?_⟩
    have big : sizeLine = 16777216 := by decide
    have on0 := On.start hd
    refine ⟨_, rfl, by show 4 ≤ sizeLine; decide, fun L nL => ?_⟩
    have fL := on0.free nL
    have on1 := on0.new (o := .lst [.int 2, .int 2, .int 3, .int 4]) nL
    refine ⟨p, q, L, _, rfl, on1.hd, upd_same, fL.1, fL.2.1, by simp, by show 4 < 1000000; decide, fun H2 v hd2 kp2 hv => ?_⟩
    have on2 := on1.draw hd2 kp2
    obtain ⟨share, rfl, sh0, sh1⟩ : ∃ i : Int, v = .int i ∧ 0 < i ∧ i < 1073741824 := by
      simp only [List.mem_cons, List.not_mem_nil, or_false] at hv
      rcases hv with e | e | e | e
      · exact ⟨2, e, by decide, by decide⟩
      · exact ⟨2, e, by decide, by decide⟩
      · exact ⟨3, e, by decide, by decide⟩
      · exact ⟨4, e, by decide, by decide⟩
    refine ⟨by show 0 ≤ sizeLine; exact Nat.zero_le _, fun R nR => ?_⟩
    have fR := on2.free nR
    have on3 := on2.new (o := .lst []) nR
    have kR := upd_same (H := H2) (a := R) (o := .lst [])
    generalize L2.upd H2 R (.lst []) = H3 at on3 kR ⊢
    refine ⟨by show 2 ≤ sizeLine; decide, fun T nT => ?_⟩
    have on4 := on3.new (o := .tup [.int share, .ref R]) nT
    have kR4 := same_upd (o := .tup [.int share, .ref R]) nT _ _ kR
    refine ⟨T, _, rfl, sqt upd_same, rfl, _, _, rfl, _, _, rfl, rfl, ?_⟩
    generalize L2.upd H3 T (.tup [.int share, .ref R]) = H4 at on4 kR4 ⊢
    clear on1 on2 on3 kp2 hd2 hv nL nT kR
    generalize frz p q H = G at *
    refine ⟨fun σ H' => (∃ y5 y6 y7 y8 : Option V, σ = [some (.ref p), some (.int n), some (.int m), some (.int share), some (.ref R), y5, y6, y7, y8, none]) ∧ ∃ rs bs, RowsW p q G H' R rs bs ∧ rs.length = n, ?_, ?_⟩
    · refine ⟨_, rfl, _, rfl, by omega, by omega, ?_⟩
      refine for_it (walk_range (lo := 0) (n := ((n : Nat) : Int).toNat)) (fun i σ H' => (∃ y5 y6 y7 y8 : Option V, σ = [some (.ref p), some (.int n), some (.int m), some (.int share), some (.ref R), y5, y6, y7, y8, none]) ∧ ∃ rs bs, RowsW p q G H' R rs bs ∧ rs.length = i) ⟨⟨_, _, _, _, rfl⟩, [], [], ⟨on4, kR4, trivial, fun t h => by cases h⟩, rfl⟩ (fun _ _ _ _ _ => trivial) ?_ ?_
      · rintro i x σ H5 H6 hi ⟨⟨y5, y6, y7, y8, rfl⟩, rs, bs, W, lr⟩ ⟨rfl, rfl⟩
        have hi2 : i < n := by have : i < ((n : Nat) : Int).toNat := hi; omega
        -- a row
        refine ⟨_, rfl, _, rfl, by omega, by omega, fun D nD => ?_⟩
        have fD := W.1.free nD
        have nRD : R ≠ D := ne_of_none W.2.1 nD
        have rsD : ∀ t ∈ rs, t ≠ D := fun t ht z => by
          obtain ⟨b, _, k⟩ := W.2.2.1.at_ ht
          rw [z, nD] at k
          cases k
        refine lc_it (walk_range (lo := 0) (n := ((m : Nat) : Int).toNat)) (fun j H' => RowsW p q G H' R rs bs ∧ ∃ c : List Int, H' D = some (.lst (c.map V.int)) ∧ c.length ≤ j) ⟨W.same (same_upd nD), [], upd_same, Nat.le_refl _⟩ (fun _ _ _ _ => trivial) ?_ ?_
        · rintro j x H7 H8 hj ⟨W7, c, kD, lc⟩ ⟨rfl, rfl⟩
          have hj2 : j < m := by have : j < ((m : Nat) : Int).toNat := hj; omega
          refine ⟨rfl, _, rfl, _, rfl, p, q, _, rfl, W7.1.hd, sh0, sh1, fun H9 r hd9 kp9 r0 r1 => ?_⟩
          have W9 := W7.draw ⟨fR.1, fR.2.1⟩ hd9 kp9
          have kD9 := kp9 D _ fD.1 fD.2.1 kD
          refine ⟨rfl, _, rfl, ite2 (fun _ => ?_) (fun _ => ⟨W9, c, kD9, by omega⟩)⟩
          refine ⟨_, rfl, _, kD9, by rw [List.length_map]; omega, W9.put fD nRD rsD, c ++ [(0 : Int) + (j : Nat)], by rw [upd_same, List.map_append]; rfl, by rw [List.length_append]; show c.length + 1 ≤ j + 1; omega⟩
        rintro H7 ⟨W7, c, kD, lc⟩
        -- the turn
        refine ⟨_, rfl, p, q, _, rfl, W7.1.hd, by decide, by decide, fun H8 turn hd8 kp8 t0 t1 => ?_⟩
        have W8 := W7.draw ⟨fR.1, fR.2.1⟩ hd8 kp8
        have kD8 := kp8 D _ fD.1 fD.2.1 kD
        have lb := W8.2.2.1.len
        refine ⟨_, rfl, .inl ⟨rfl, _, .inl (.inl W8.2.1)⟩, ?_⟩
        refine ⟨fun v H' => ∃ (r : Addr) (b : List Int), v = .ref r ∧ RowsW p q G H' R rs bs ∧ H' r = some (.lst (b.map V.int)) ∧ r ≠ p ∧ r ≠ q ∧ r ≠ R, ?_, ?_⟩
        · refine ⟨_, rfl, by show 0 ≤ sizeLine; exact Nat.zero_le _, fun Z nZ => ?_⟩
          have sZ := same_upd (o := .lst []) nZ
          have W9 := W8.same sZ
          have kD9 := sZ _ _ kD8
          refine ⟨_, _, .lst (.inl (.inl W9.2.1)) (dpBlk W9.2.2.1), dp_ints (K := K) (cs := []) (.inl (.inl upd_same)), shaped_dL bs, shaped_nil, _, rfl, ?_⟩
          rw [eqvB_nil]
          by_cases b0 : bs = []
          · rw [decide_eq_true b0]
            refine iteF ?_
            refine ⟨_, rfl, rfl, _, rfl, ite2 (fun _ => ?_) (fun _ => ?_)⟩
            · refine ⟨_, rfl, p, q, _, rfl, W9.1.hd, by decide, by decide, fun H10 r hd10 kp10 r0 r1 => ?_⟩
              have W10 := W9.draw ⟨fR.1, fR.2.1⟩ hd10 kp10
              have kD10 := kp10 D _ fD.1 fD.2.1 kD9
              refine ⟨rfl, _, rfl, ite2 (fun _ => ?_) (fun _ => ?_)⟩
              · refine ⟨by show 0 ≤ sizeLine; exact Nat.zero_le _, fun E2 nE => ?_⟩
                have fE := W10.1.free nE
                exact ⟨E2, [], rfl, W10.same (same_upd nE), upd_same, fE.1, fE.2.1, (ne_of_none W10.2.1 nE).symm⟩
              · exact ⟨_, rfl, D, c, rfl, W10, kD10, fD.1, fD.2.1, nRD.symm⟩
            · exact ⟨_, rfl, D, c, rfl, W9, kD9, fD.1, fD.2.1, nRD.symm⟩
          · rw [decide_eq_false b0]
            refine iteT ⟨_, rfl, rfl, _, rfl, ite2 (fun _ => ?_) (fun _ => ?_)⟩
            · have l0 : 0 < rs.length := by
                have := List.length_pos_iff.mpr b0
                omega
              refine ⟨_, rfl, _, rfl, _, rfl, R, _, rfl, .inl (.inl (.inl W9.2.1)), p, q, _, rfl, W9.1.hd, by rw [List.length_map]; omega, by rw [List.length_map]; omega, fun H10 r hd10 kp10 r0 r1 => ?_⟩
              have W10 := W9.draw ⟨fR.1, fR.2.1⟩ hd10 kp10
              obtain ⟨k, rfl⟩ := Int.eq_ofNat_of_zero_le r0
              rw [List.length_map] at r1
              have ek : rs[k]? = some rs[k] := List.getElem?_eq_getElem (by omega)
              generalize rs[k] = t at ek
              obtain ⟨b, eb, kt⟩ := W10.2.2.1.get ek
              exact ⟨R, _, _, _, rfl, rfl, .inl (.inl W10.2.1), atI_nat (v := V.ref t) (by rw [List.getElem?_map, ek]; rfl), t, b, rfl, W10, kt, W10.2.2.2 t (List.mem_of_getElem? ek)⟩
            · refine ⟨_, rfl, rfl, _, rfl, ite2 (fun _ => ?_) (fun _ => ?_)⟩
              · refine ⟨_, rfl, p, q, _, rfl, W9.1.hd, by decide, by decide, fun H10 r hd10 kp10 r0 r1 => ?_⟩
                have W10 := W9.draw ⟨fR.1, fR.2.1⟩ hd10 kp10
                have kD10 := kp10 D _ fD.1 fD.2.1 kD9
                refine ⟨rfl, _, rfl, ite2 (fun _ => ?_) (fun _ => ?_)⟩
                · refine ⟨by show 0 ≤ sizeLine; exact Nat.zero_le _, fun E2 nE => ?_⟩
                  have fE := W10.1.free nE
                  exact ⟨E2, [], rfl, W10.same (same_upd nE), upd_same, fE.1, fE.2.1, (ne_of_none W10.2.1 nE).symm⟩
                · exact ⟨_, rfl, D, c, rfl, W10, kD10, fD.1, fD.2.1, nRD.symm⟩
              · exact ⟨_, rfl, D, c, rfl, W9, kD9, fD.1, fD.2.1, nRD.symm⟩
        · rintro _ H9 ⟨r, b, rfl, W9, kr, nr⟩
          refine ⟨R, _, _, rfl, rfl, W9.2.1, by rw [List.length_map]; omega, ⟨_, _, _, _, rfl⟩, rs ++ [r], bs ++ [b], W9.add fR kr nr, by rw [List.length_append, lr]; rfl⟩
      · rintro σ H5 ⟨⟨y5, y6, y7, y8, rfl⟩, rs, bs, W, lr⟩
        exact ⟨⟨_, _, _, _, rfl⟩, rs, bs, W, by omega⟩
    clear on4 kR4
    rintro σ H5 ⟨⟨y5, y6, y7, y8, rfl⟩, rs, bs, W, lr⟩
    have lb := W.2.2.1.len
    have nRn := W.2.1
    -- the totals
    refine ⟨_, rfl, _, rfl, by omega, by omega, fun D nD => ?_⟩
    have fD := W.1.free nD
    have nRD : R ≠ D := ne_of_none W.2.1 nD
    have s0 := same_upd (o := .lst []) nD
    refine lc_it (walk_range (lo := 0) (n := ((m : Nat) : Int).toNat)) (fun i H' => Same H5 H' ∧ ∃ xs ts, H' D = some (.lst xs) ∧ Tots K H' xs ts ∧ ts.length = i ∧ ∀ c ∈ ts, LotOk (n : Int) c) ⟨s0, [], [], upd_same, trivial, rfl, fun c h => by cases h⟩ (fun _ _ _ _ => trivial) ?_ ?_
    · rintro i x H6 H7 hi ⟨s6, xs, ts, kD, hX, lt, ok⟩ ⟨rfl, rfl⟩
      have hi2 : i < m := by have : i < ((m : Nat) : Int).toNat := hi; omega
      have z1 : (0 : Int) + (i : Nat) = ((i : Nat) : Int) := Int.zero_add _
      refine ⟨rfl, _, rfl, _, rfl, by omega, by omega, fun L2 nL2 => ?_⟩
      refine lc_it (walk_range (lo := 0) (n := ((n : Nat) : Int).toNat)) (fun j H' => Same H7 H' ∧ H' L2 = some (.lst ((twF bs (i : Int) j).map V.int))) ⟨same_upd nL2, upd_same⟩ (fun _ _ _ _ => trivial) ?_ ?_
      · rintro j x H8 H9 hj ⟨s8, kL⟩ ⟨rfl, rfl⟩
        have hj2 : j < n := by have : j < ((n : Nat) : Int).toNat := hj; omega
        have ek : rs[j]? = some rs[j] := List.getElem?_eq_getElem (by omega)
        generalize rs[j] = t at ek
        obtain ⟨b, eb, kt⟩ := W.2.2.1.get ek
        have z2 : (0 : Int) + (j : Nat) = ((j : Nat) : Int) := Int.zero_add _
        refine ⟨rfl, _, rfl, _, rfl, _, rfl, R, _, _, _, rfl, rfl, .inl (.inl ((s6.trans s8) _ _ W.2.1)), by rw [z2]; exact atI_nat (v := V.ref t) (by rw [List.getElem?_map, ek]; rfl), t, b.map V.int, rfl, .inl (.inl (.inl ((s6.trans s8) _ _ kt))), rfl, CK.flat_ints b, _, rfl, ?_⟩
        rw [inV_ints, z1]
        cases hk : b.contains ((i : Nat) : Int) with
        | true =>
          refine iteT ⟨_, rfl, _, kL, ?_, HD.same_put s8 nL2, ?_⟩
          · have := twF_len bs (i : Int) j
            rw [List.length_map]
            omega
          · rw [upd_same, twF_yes eb hk]
            show some (HO.lst ((twF bs (i : Int) j).map V.int ++ [V.int ((0 : Int) + (j : Nat))])) = _
            rw [z2, List.map_append]
            rfl
        | false =>
          refine iteF ⟨s8, ?_⟩
          rw [twF_no eb hk]
          exact kL
      · rintro H8 ⟨s8, kL⟩
        rw [Int.toNat_natCast] at kL
        refine ⟨L2, _, rfl, .inl ⟨.inl (.inl kL), fun r nr => ?_⟩⟩
        have sr := same_upd (o := .tup ((twF bs (i : Int) n).map V.int)) nr
        have s68 := s8.trans sr
        have lx := hX.len
        refine ⟨xs, s68 _ _ kD, by omega, HD.same_put (s6.trans s68) nD, xs ++ [.ref r], ts ++ [twF bs (i : Int) n], upd_same, Tots.upd (s68 _ _ kD) (Tots.snoc (sqt upd_same) (hX.mono s68)), by rw [List.length_append, lt]; rfl, fun c hc => ?_⟩
        rcases List.mem_append.mp hc with z | z
        · exact ok c z
        · rw [List.mem_singleton.mp z]
          exact twF_lot n12
    rintro H6 ⟨s6, xs, ts, kD, hX, lt, ok⟩
    rw [Int.toNat_natCast] at lt
    have on6 := W.1.same s6
    have fD : D ≠ p ∧ D ≠ q ∧ G D = none := fD
    clear W nRn s6
    refine ⟨fun σ H' => (∃ y5 y6 : Option V, σ = [some (.ref p), some (.int n), some (.int m), some (.int share), some (.ref R), y5, y6, y7, y8, some (.ref D)]) ∧ On p q G H' ∧ ∃ xs ts, H' D = some (.lst xs) ∧ Tots K H' xs ts ∧ ts.length = m ∧ ∀ c ∈ ts, LotOk (n : Int) c, ?_, ?_⟩
    · refine ⟨_, rfl, _, rfl, by omega, by omega, ?_⟩
      refine for_it (walk_range (lo := 0) (n := ((m : Nat) : Int).toNat)) (fun i σ H' => (∃ y5 y6 : Option V, σ = [some (.ref p), some (.int n), some (.int m), some (.int share), some (.ref R), y5, y6, y7, y8, some (.ref D)]) ∧ On p q G H' ∧ ∃ xs ts, H' D = some (.lst xs) ∧ Tots K H' xs ts ∧ ts.length = m ∧ ∀ c ∈ ts, LotOk (n : Int) c) ⟨⟨_, _, rfl⟩, on6, xs, ts, kD, hX, lt, ok⟩ (fun _ _ _ _ _ => trivial) ?_ ?_
      · clear on6 kD hX lt ok
        rintro i x σ H7 H8 hi ⟨⟨y5, y6, rfl⟩, on7, xs, ts, kD, hX, lt, ok⟩ ⟨rfl, rfl⟩
        have hi2 : i < m := by have : i < ((m : Nat) : Int).toNat := hi; omega
        have z1 : (0 : Int) + (i : Nat) = ((i : Nat) : Int) := Int.zero_add _
        show gName 6 (V.int ((0 : Int) + ((i : Nat) : Int))) _ _ _
        rw [z1]
        have lx := hX.len
        have pick : ∀ (H' : Hp) (k : Nat), k < m → Tots K H' xs ts → ∃ t c, xs[k]? = some (.ref t) ∧ ts[k]? = some c ∧ SqT K H' t (c.map V.int) := fun H' k hk h => by
          have e : xs[k]? = some xs[k] := List.getElem?_eq_getElem (by omega)
          obtain ⟨t, c, e1, e2, e3⟩ := h.get e
          exact ⟨t, c, by rw [e, e1], e2, e3⟩
        refine ⟨fun v H' => ∃ (t : Addr) (c : List Int), v = .ref t ∧ c ∈ ts ∧ On p q G H' ∧ H' D = some (.lst xs) ∧ Tots K H' xs ts ∧ SqT K H' t (c.map V.int), ?_, ?_⟩
        · refine ⟨_, rfl, p, q, _, rfl, on7.hd, by decide, by decide, fun H9 r hd9 kp9 r0 r1 => ?_⟩
          have on9 := on7.draw hd9 kp9
          have kD9 := kp9 D _ fD.1 fD.2.1 kD
          have hX9 := Tots.keep on7.hd kp9 hX
          refine ⟨rfl, _, rfl, ite2 (fun _ => ?_) (fun _ => ?_)⟩
          · refine ⟨_, rfl, _, rfl, _, rfl, p, q, _, rfl, on9.hd, by omega, by omega, fun H10 k hd10 kp10 k0 k1 => ?_⟩
            have on10 := on9.draw hd10 kp10
            have kD10 := kp10 D _ fD.1 fD.2.1 kD9
            have hX10 := Tots.keep on9.hd kp10 hX9
            obtain ⟨k, rfl⟩ := Int.eq_ofNat_of_zero_le k0
            obtain ⟨t, c, e1, e2, e3⟩ := pick H10 k (by omega) hX10
            exact ⟨D, _, _, _, rfl, rfl, .inl (.inl kD10), atI_nat e1, t, c, rfl, List.mem_of_getElem? e2, on10, kD10, hX10, e3⟩
          · obtain ⟨t, c, e1, e2, e3⟩ := pick H9 i hi2 hX9
            exact ⟨_, rfl, _, rfl, D, _, _, _, rfl, rfl, .inl (.inl kD9), atI_nat e1, t, c, rfl, List.mem_of_getElem? e2, on9, kD9, hX9, e3⟩
        · rintro _ H9 ⟨t, c, rfl, hc, on9, kD9, hX9, ht⟩
          refine ⟨_, rfl, _, rfl, D, xs, _, i, rfl, rfl, kD9, ixN_nat (by omega), ⟨_, _, rfl⟩, on9.put fD, xs.set i (.ref t), ts.set i c, upd_same, Tots.upd kD9 (Tots.set ht i hX9), by rw [List.length_set]; exact lt, fun d hd => ?_⟩
          rcases List.mem_or_eq_of_mem_set hd with z | z
          · exact ok d z
          · rw [z]
            exact ok c hc
      · rintro σ H7 ⟨⟨y5, y6, rfl⟩, on7, xs, ts, kD, hX, lt, ok⟩
        exact ⟨⟨_, _, rfl⟩, on7, xs, ts, kD, hX, lt, ok⟩
    · clear on6 kD hX lt ok
      rintro σ H7 ⟨⟨y5, y6, rfl⟩, on7, xs, ts, kD, hX, lt, ok⟩
      refine ⟨_, rfl, D, _, rfl, .inl ⟨.inl (.inl kD), fun u nu => ?_⟩⟩
      have su := same_upd (o := .tup xs) nu
      exact fin _ u xs ts (on7.new nu) upd_same (hX.mono su) lt ok
end
end K04
namespace CK
open PySem PySem.Spec PyProof.Rows L2 VG FR HD M9
inductive Rch (lots : List (List Int)) (s : Int) : Int → Prop
  | refl : Rch lots s s
  | step {a b : Int} {l : List Int} : Rch lots s a → l ∈ lots → a ∈ l → b ∈ l → Rch lots s b
theorem Rch.trans {lots : List (List Int)} {s a b : Int} (h : Rch lots s a) (g : Rch lots a b) : Rch lots s b := by
  induction g with
  | refl => exact h
  | step _ m1 m2 m3 ih => exact .step ih m1 m2 m3
theorem Rch.symm {lots : List (List Int)} {s a : Int} (h : Rch lots s a) : Rch lots a s := by
  induction h with
  | refl => exact .refl
  | step _ m1 m2 m3 ih => exact (Rch.step .refl m1 m3 m2).trans ih
structure IsPiece (lots : List (List Int)) (s : Int) (P : List Int) : Prop where
  asc : P.Pairwise (· < ·)
  mem : ∀ x, x ∈ P ↔ Rch lots s x
theorem asc_ext : ∀ {a b : List Int}, a.Pairwise (· < ·) → b.Pairwise (· < ·) → (∀ x, x ∈ a ↔ x ∈ b) → a = b
  | [], [], _, _, _ => rfl
  | [], y :: b, _, _, h => absurd ((h y).mpr List.mem_cons_self) List.not_mem_nil
  | x :: a, [], _, _, h => absurd ((h x).mp List.mem_cons_self) List.not_mem_nil
  | x :: a, y :: b, ha, hb, h => by
    have ⟨a1, a2⟩ := List.pairwise_cons.mp ha
    have ⟨b1, b2⟩ := List.pairwise_cons.mp hb
    have e : x = y := by
      have p := (h x).mp List.mem_cons_self
      have q := (h y).mpr List.mem_cons_self
      rcases List.mem_cons.mp p with p | p
      · exact p
      · rcases List.mem_cons.mp q with q | q
        · exact q.symm
        · have := a1 y q
          have := b1 x p
          omega
    subst e
    rw [asc_ext a2 b2 fun z => ⟨fun m => by
      rcases List.mem_cons.mp ((h z).mp (List.mem_cons_of_mem _ m)) with e | m2
      · have := a1 z m
        omega
      · exact m2, fun m => by
      rcases List.mem_cons.mp ((h z).mpr (List.mem_cons_of_mem _ m)) with e | m2
      · have := b1 z m
        omega
      · exact m2⟩]
theorem IsPiece.uniq {lots : List (List Int)} {s : Int} {P Q : List Int} (h : IsPiece lots s P) (g : IsPiece lots s Q) : P = Q := asc_ext h.asc g.asc fun x => (h.mem x).trans (g.mem x).symm
theorem IsPiece.self {lots : List (List Int)} {s : Int} {P : List Int} (h : IsPiece lots s P) : s ∈ P := (h.mem s).mpr .refl
/-- the piece of any of its own -/
theorem IsPiece.move {lots : List (List Int)} {s t : Int} {P : List Int} (h : IsPiece lots s P) (m : t ∈ P) : IsPiece lots t P := ⟨h.asc, fun x => by
  have r := (h.mem t).mp m
  rw [h.mem x]
  exact ⟨fun q => r.symm.trans q, fun q => r.trans q⟩⟩
def meetsB (l P : List Int) : Bool := l.any fun x => P.contains x
theorem meets_iff {l P : List Int} : meetsB l P = true ↔ ∃ x ∈ l, x ∈ P := by
  unfold meetsB
  rw [List.any_eq_true]
  constructor
  · rintro ⟨x, h1, h2⟩
    exact ⟨x, h1, List.contains_iff_mem.mp h2⟩
  · rintro ⟨x, h1, h2⟩
    exact ⟨x, h1, List.contains_iff_mem.mpr h2⟩
/-- all that is reached in one step -/
def wide1 (lots : List (List Int)) (P : List Int) : List Int := (lots.filter fun l => meetsB l P).flatten
theorem closed_rch {lots : List (List Int)} {s : Int} {P : List Int} (h0 : s ∈ P) (h : ∀ x ∈ wide1 lots P, x ∈ P) {x : Int} (r : Rch lots s x) : x ∈ P := by
  induction r with
  | refl => exact h0
  | step _ m1 m2 m3 ih => exact h _ (List.mem_flatten.mpr ⟨_, List.mem_filter.mpr ⟨m1, meets_iff.mpr ⟨_, m2, ih⟩⟩, m3⟩)
theorem wide_rch {lots : List (List Int)} {s : Int} {P : List Int} (h : ∀ x ∈ P, Rch lots s x) : ∀ x ∈ wide1 lots P, Rch lots s x := fun x m => by
  obtain ⟨l, ml, mx⟩ := List.mem_flatten.mp m
  obtain ⟨m1, m2⟩ := List.mem_filter.mp ml
  obtain ⟨y, y1, y2⟩ := meets_iff.mp m2
  exact .step (h y y2) m1 y1 mx
theorem piece_of {lots : List (List Int)} {s : Int} {P : List Int} (a : P.Pairwise (· < ·)) (h0 : s ∈ P) (h1 : ∀ x ∈ P, Rch lots s x) (h2 : ∀ x ∈ wide1 lots P, x ∈ P) : IsPiece lots s P := ⟨a, fun x => ⟨h1 x, closed_rch h0 h2⟩⟩
/-- lots of numbers below m -/
def LotsB (lots : List (List Int)) (m : Nat) : Prop := ∀ l ∈ lots, l.length ≤ 12 ∧ ∀ x ∈ l, 0 ≤ x ∧ x < (m : Int)
theorem Rch.low {lots : List (List Int)} {m : Nat} (h : LotsB lots m) {s x : Int} (hs : 0 ≤ s ∧ s < (m : Int)) (r : Rch lots s x) : 0 ≤ x ∧ x < (m : Int) := by
  cases r with
  | refl => exact hs
  | step _ m1 _ m3 => exact (h _ m1).2 _ m3
theorem asc_few {P : List Int} {m : Nat} (a : P.Pairwise (· < ·)) (h : ∀ x ∈ P, 0 ≤ x ∧ x < (m : Int)) : P.length ≤ m := by
  have key : ∀ (P : List Int) (lo : Int), P.Pairwise (· < ·) → (∀ x ∈ P, lo ≤ x ∧ x < (m : Int)) → (P.length : Int) ≤ max 0 ((m : Int) - lo) := by
    intro P
    induction P with
    | nil => intro lo _ _; simp; omega
    | cons x P ih =>
      intro lo a h
      have ⟨a1, a2⟩ := List.pairwise_cons.mp a
      have hx := h x List.mem_cons_self
      have := ih (x + 1) a2 fun y my => ⟨by have := a1 y my; omega, (h y (List.mem_cons_of_mem _ my)).2⟩
      rw [List.length_cons]
      omega
  have := key P 0 a h
  omega
/-- all pieces -/
structure Pieces (lots : List (List Int)) (m : Nat) (Ps : List (List Int)) : Prop where
  lex : LexAsc Ps
  mem : ∀ P, P ∈ Ps ↔ ∃ s : Int, 0 ≤ s ∧ s < (m : Int) ∧ IsPiece lots s P
theorem Pieces.uniq {lots : List (List Int)} {m : Nat} {A B : List (List Int)} (h : Pieces lots m A) (g : Pieces lots m B) : A = B := LexAsc.uniq h.lex g.lex fun P => (h.mem P).trans (g.mem P).symm
def spMeets (K : PySem.W.Frag) : Sp := fun vs H Q _ => ∃ (a b : Addr) (l P : List Int), vs = [.ref a, .ref b] ∧ SqT K H a (l.map V.int) ∧ SqT K H b (P.map V.int) ∧ l.length ≤ 1000 ∧ ∀ H', Same H H' → Q (.bl (meetsB l P)) H'
def spPieceFrom (K : PySem.W.Frag) : Sp := fun vs H Q _ => ∃ (t : Addr) (xs : List V) (lots : List (List Int)) (m : Nat) (s : Int), vs = [.ref t, .int s] ∧ SqT K H t xs ∧ Tots K H xs lots ∧ lots.length ≤ 12 ∧ LotsB lots m ∧ m ≤ 12 ∧ 0 ≤ s ∧ s < (m : Int) ∧
  ∀ H' u P, Same H H' → SqT K H' u (P.map V.int) → IsPiece lots s P → Q (.ref u) H'
end CK
namespace VG
open PySem PySem.Spec PyProof.Rows L2
section
variable {X : Cx}
theorem setR_few {w : World} {h : Heap} {a : Addr} {S : Int → Bool} {n : Nat} (R : SetR w h a S n) {D : List Int} (hD : ∀ k, S k = true → k ∈ D) : n ≤ D.length := by
  obtain ⟨o, es, ep, t, ho, _, _, _, nd, mem, _, _, hn, _⟩ := R
  have := CK.nodup_le (es.toList.map keyOf) D nd fun k hk => hD k ((mem k).mpr hk)
  rw [List.length_map, Array.length_toList] at this
  omega
def rSetLb (K : PySem.W.Frag) (w : World) : List V → Hp → VK → Prop := fun vs H Q => ∃ (a : Addr) (ks D : List Int), vs = [.ref a] ∧ SqL K H a (ks.map V.int) ∧ ks.length ≤ 1000 ∧ (∀ k ∈ ks, k ∈ D) ∧ ∀ (p : Addr) (c : Nat), H p = none → c ≤ D.length → Q (.ref p) (L2.upd H p (SetO w p (fun j => decide (j ∈ ks)) c))
theorem cr_setLb (hc : X.calm = true) : CallR X (.type "set") (rSetLb X.K X.w) := by
  intro pins s σ H vs us Q I r h
  obtain ⟨a, ks, D, rfl, hS, hl, hD, q⟩ := h
  rw [Vals.ref1 r]
  obtain ⟨its, rv, pl, hz⟩ := I.list hS
  have hi : IntsAre its.toArray.toList ks := ints_of_vals rv
  refine set_listI ks (I.ok.hd hc) pl.isList hi (by unfold scanBound; omega) fun hp tk c R hcn kp => ?_
  have fr : H s.heap.objs.size = none := I.hok.fresh (Nat.le_refl _)
  exact ⟨.ref _, L2.upd H s.heap.objs.size (SetO X.w s.heap.objs.size (fun j => decide (j ∈ ks)) c), I.laid (t' := tk) kp (Nat.le_refl _) (setO_new R), rfl, q _ c fr (setR_few R fun k hk => hD k (of_decide_eq_true hk))⟩
end
end VG
namespace K04
open PySem PySem.Spec PyProof.Rows L2 VG FR CK HD M9
abbrev s_meets : Stmt := topS 31
abbrev N_meets : List Str := ["total", "piece", "number"]
theorem sc_meets : FnScope N_meets ["total", "piece"] (defScope s_meets) := ⟨rfl, rfl, rfl, by decide +kernel, rfl, by decide +kernel, by decide +kernel⟩
abbrev s_piece_from : Stmt := topS 32
abbrev N_piece_from : List Str := ["totals", "start", "piece", "reached", "wider", "total", "number"]
theorem sc_piece_from : FnScope N_piece_from ["totals", "start"] (defScope s_piece_from) := ⟨rfl, rfl, rfl, by decide +kernel, rfl, by decide +kernel, by decide +kernel⟩
section
variable {P : Program} {w : World} {K : PySem.W.Frag} {mg : Str → Option Value} {base : Heap}
theorem ok_meets {f : Addr} {fd : FuncData} (F : Fun K "meets" "meets" s_meets f fd) (z_any : mg "any" = none) : FnOk P w K mg base CX0 1 f fd ["total", "piece"] (spMeets K) := by
  refine F.ok sc_meets (fun vs H Q E h => ?_) (fun cdv A outer s H vs Q E hr h => ?_)
  · obtain ⟨_, _, _, _, rfl, _⟩ := h
    rfl
  · obtain ⟨a, b, l, P, rfl, hA, hB, few, fin⟩ := h
    refine ⟨_, (pss_one (ps_ret (pe_callB (cr_any rfl) (by rfl) z_any (by decide +kernel) (pa_cons (pe_lc (own := [("number", 2)]) (by rfl) sc_meets.nd (pi_tup (pv 0)) (blkOk_by (own := [("number", 2)]) (N := N_meets) (sc := defScope s_meets) (by decide +kernel)) (fun _ _ _ _ _ => (pg_name (i := 2) sc_meets.nd rfl (.inl rfl))) (fun _ _ _ _ _ => pts_nil) (fun _ _ _ _ _ => (pe_cmpR (show OpR _ (compareOp .In) (rIn K false) from op_in_seq) (pv 2) (pv 1) rfl))) pa_nil)))), ?_⟩
    refine ⟨_, rfl, a, rfl, ⟨_, hA⟩, fun D nD => ?_⟩
    refine lc_it (walk_tup (K := K) (a := a) (xs := l.map V.int)) (fun i H' => Same H H' ∧ H' D = some (.lst (((l.take i).map fun x => P.contains x).map V.bl))) ⟨same_upd nD, upd_same⟩ (fun i H' _ h => seqT h.1 hA) ?_ ?_
    · rintro i v H1 H2 hi ⟨s1, kD⟩ ⟨rfl, ev⟩
      rw [List.getElem?_map] at ev
      obtain ⟨x, ex, rfl⟩ := Option.map_eq_some_iff.mp ev
      refine ⟨rfl, _, rfl, _, rfl, b, P.map V.int, rfl, .inr (seqT s1 hB), rfl, flat_ints P, ?_⟩
      rw [inV_ints]
      refine ⟨_, kD, ?_, HD.same_put s1 nD, ?_⟩
      · rw [List.length_map, List.length_map, List.length_take]
        have : sizeLine = 16777216 := by decide
        omega
      · rw [upd_same, List.take_add_one, ex, List.map_append, List.map_append]
        rfl
    · rintro H1 ⟨s1, kD⟩
      rw [List.length_map, List.take_length] at kD
      refine ⟨D, _, rfl, .inl (.inl kD), ?_⟩
      have e : (l.map fun x => P.contains x).all (fun _ => true) = true := by simp
      have e2 : (l.map fun x => P.contains x).any id = meetsB l P := by
        unfold meetsB
        rw [List.any_map]
        rfl
      rw [e2]
      exact fin H1 s1
theorem ok_piece_from {f : Addr} {fd : FuncData} (F : Fun K "piece_from" "piece_from" s_piece_from f fd) (C_meets : Cl P w K mg base 1 "meets" (spMeets K)) (z_tuple : mg "tuple" = none) (z_sorted : mg "sorted" = none) (z_set : mg "set" = none) (z_list : mg "list" = none) : FnOk P w K mg base CX0 2 f fd ["totals", "start"] (spPieceFrom K) := by
  refine F.ok sc_piece_from (fun vs H Q E h => ?_) (fun cdv A outer s H vs Q E hr h => ?_)
  · obtain ⟨_, _, _, _, _, rfl, _⟩ := h
    rfl
  · obtain ⟨t, xs, lots, m, st, rfl, hT, hX, t12, lb, m12, s0, s1, fin⟩ := h
    refine ⟨_, (pss_cons (ps_set (i := 2) sc_piece_from.nd rfl (.inr rfl) (pe_tup (pa_cons (pv 1) pa_nil)))
    (pss_one (ps_while PassesOwn.never (pt_val pe_bl)
      (pss_cons (ps_setLc2 (i := 3) (own := [("total", 5), ("number", 6)]) (vs1 := [6]) (by rfl) sc_piece_from.nd rfl rfl (sw_true rfl rfl rfl (by decide +kernel)) (pi_tup (pv 0)) (blkOk_by (own := [("total", 5), ("number", 6)]) (N := N_piece_from) (sc := defScope s_piece_from) (by decide +kernel)) (by decide) (fun _ _ _ _ _ => (pg_name (i := 5) sc_piece_from.nd rfl (.inl rfl))) (fun _ _ _ _ _ => (pts_one (pt_val (pe_cl C_meets hr (by decide) rfl (pa_cons (pv 5) (pa_cons (pv 2) pa_nil)))))) (fun _ _ _ _ _ => (show PI _ _ _ (iTup K _) from pi_tup (pv 5))) (fun _ _ _ _ _ => (pg_name (i := 6) sc_piece_from.nd rfl (.inl rfl))) (fun _ _ _ _ _ => pts_nil) (fun _ _ _ _ _ => (pv 6)))
      (pss_cons (ps_set (i := 4) sc_piece_from.nd rfl (.inl rfl) (pe_callTy call_tupE (by rfl) z_tuple (by decide +kernel) (pa_cons (pe_callB (cr_sortedSet rfl) (by rfl) z_sorted (by decide +kernel) (pa_cons (pe_callTy (cr_setLb rfl) (by rfl) z_set (by decide +kernel) (pa_cons (pe_op op_cat (pv 3) (pe_callTy call_list_of (by rfl) z_list (by decide +kernel) (pa_cons (pv 2) pa_nil))) pa_nil)) pa_nil)) pa_nil)))
      (pss_cons (ps_if (pt_cmpR (op_eqD hr.units) (pv 4) (pv 2) (nomark _))
        (pss_one (ps_ret (pv 2)))
        pss_nil)
      (pss_one (ps_set (i := 2) sc_piece_from.nd rfl (.inr rfl) (pv 4))))))))), ?_⟩
    have big : sizeLine = 16777216 := by decide
    have lx := hX.len
    refine ⟨_, rfl, by show 1 ≤ sizeLine; decide, fun pa0 np0 => ?_⟩
    generalize eH1 : L2.upd H pa0 _ = H1
    have sm1 := same_of np0 eH1
    have kp0 : H1 pa0 = some (.tup (([st] : List Int).map V.int)) := at_of eH1
    clear eH1 np0
    have low : ∀ P : List Int, (∀ x ∈ P, Rch lots st x) → ∀ x ∈ P, 0 ≤ x ∧ x < (m : Int) := fun P h x mx => (h x mx).low lb ⟨s0, s1⟩
    refine ⟨fun n σ H' => ∃ (pa : Addr) (P : List Int) (y3 y4 : Option V), σ = [some (.ref t), some (.int st), some (.ref pa), y3, y4, none, none] ∧ Same H H' ∧ SqT K H' pa (P.map V.int) ∧ P.Pairwise (· < ·) ∧ st ∈ P ∧ (∀ x ∈ P, Rch lots st x) ∧ n + P.length = 13, ⟨12, pa0, [st], none, none, rfl, sm1, .inl (.inl kp0), by simp, by simp, fun x mx => by rw [List.mem_singleton.mp mx]; exact .refl, rfl⟩, ?_⟩
    clear kp0 sm1 pa0
    rintro n σ H2 ⟨pa, P, y3, y4, rfl, s2, hP, asc, h0, hr', hn⟩
    have hlow := low P hr'
    have few := asc_few asc hlow
    refine ⟨_, rfl, ?_⟩
    refine iteT ⟨fun σ' H' => ∃ n' < n, ∃ (pa : Addr) (P : List Int) (y3 y4 : Option V), σ' = [some (.ref t), some (.int st), some (.ref pa), y3, y4, none, none] ∧ Same H H' ∧ SqT K H' pa (P.map V.int) ∧ P.Pairwise (· < ·) ∧ st ∈ P ∧ (∀ x ∈ P, Rch lots st x) ∧ n' + P.length = 13, fun σ' H' h => h, ?_⟩
    -- reached
    have hT2 := seqT s2 hT
    have hX2 := hX.mono s2
    refine ⟨_, rfl, t, rfl, ⟨_, hT2⟩, fun D nD => ?_⟩
    have flen : ∀ i, (wide1 (lots.take i) P).length ≤ i * 12 := fun i => by
      have key : ∀ L : List (List Int), (∀ l ∈ L, l.length ≤ 12) → (wide1 L P).length ≤ L.length * 12 := by
        intro L
        induction L with
        | nil => intro _; exact Nat.zero_le _
        | cons l L ih =>
          intro h
          have h1 := h l List.mem_cons_self
          have ih := ih fun x mx => h x (List.mem_cons_of_mem _ mx)
          unfold wide1 at ih ⊢
          rw [List.filter_cons]
          split
          · rw [List.flatten_cons, List.length_append, List.length_cons]
            omega
          · rw [List.length_cons]
            omega
      have := key (lots.take i) fun l ml => (lb l (List.mem_of_mem_take ml)).1
      rw [List.length_take] at this
      have : min i lots.length * 12 ≤ i * 12 := Nat.mul_le_mul_right _ (Nat.min_le_left _ _)
      omega
    refine lc2_it (walk_tup (K := K) (a := t) (xs := xs)) (fun i H' => Same H2 H' ∧ H' D = some (.lst ((wide1 (lots.take i) P).map V.int))) ⟨same_upd nD, upd_same⟩ (fun i H' _ h => seqT h.1 hT2) ?_ ?_
    · rintro i v H3 H4 hi ⟨s3, kD⟩ ⟨rfl, ev⟩
      obtain ⟨tl, l, rfl, el, htl⟩ := hX2.get ev
      have ml := List.mem_of_getElem? el
      have l12 := (lb l ml).1
      have hi2 : i < xs.length := hi
      refine ⟨rfl, _, rfl, _, rfl, tl, pa, l, P, rfl, seqT s3 htl, seqT s3 hP, by omega, fun H5 s5 => ⟨_, rfl, ?_⟩⟩
      have e1 : wide1 (lots.take (i + 1)) P = wide1 (lots.take i) P ++ (if meetsB l P = true then l else []) := by
        unfold wide1
        rw [List.take_add_one, el, List.filter_append, List.flatten_append]
        congr 1
        show (List.filter _ [l]).flatten = _
        rw [List.filter_cons]
        split <;> simp
      have kD5 := s5 _ _ kD
      have s35 := s3.trans s5
      have fl := flen i
      cases hm : meetsB l P with
      | false =>
        rw [hm, if_neg Bool.false_ne_true, List.append_nil] at e1
        refine iteF ⟨s35, ?_⟩
        rw [e1]
        exact kD5
      | true =>
        rw [hm, if_pos rfl] at e1
        refine iteT ⟨_, rfl, tl, rfl, ⟨_, seqT s35 htl⟩, ?_⟩
        refine inner_it (walk_tup (K := K) (a := tl) (xs := l.map V.int)) (fun j H' => Same H2 H' ∧ H' D = some (.lst ((wide1 (lots.take i) P ++ l.take j).map V.int))) ⟨s35, by rw [List.take_zero, List.append_nil]; exact kD5⟩ (fun j H' _ h => seqT h.1 htl) ?_ ?_
        · rintro j v H6 H7 hj ⟨s6, kD6⟩ ⟨rfl, ew⟩
          rw [List.getElem?_map] at ew
          obtain ⟨x, ex, rfl⟩ := Option.map_eq_some_iff.mp ew
          refine ⟨rfl, _, rfl, _, kD6, ?_, HD.same_put s6 nD, ?_⟩
          · rw [List.length_map, List.length_append, List.length_take]
            omega
          · rw [upd_same, List.take_add_one, ex, ← List.append_assoc, List.map_append (l₂ := Option.toList _)]
            rfl
        · rintro H6 ⟨s6, kD6⟩
          rw [List.length_map, List.take_length, ← e1] at kD6
          exact ⟨s6, kD6⟩
    rintro H3 ⟨s3, kD⟩
    rw [lx, List.take_length] at kD
    have fl := flen lots.length
    rw [List.take_length] at fl
    -- wider
    refine ⟨_, rfl, _, rfl, pa, P.map V.int, rfl, .inr (seqT s3 hP), fun S nS => ?_⟩
    generalize eH4 : L2.upd H3 S _ = H4
    have s4 := same_of nS eH4
    have kS := at_of eH4
    clear eH4
    refine ⟨D, S, _, _, rfl, rfl, s4 _ _ kD, kS, by rw [List.length_map, List.length_map]; omega, fun R nR => ?_⟩
    generalize eH5 : L2.upd H4 R _ = H5
    have s5 := same_of nR eH5
    have kR : H5 R = some (.lst ((wide1 lots P ++ P).map V.int)) := by
      rw [List.map_append]
      exact at_of eH5
    clear eH5
    refine ⟨R, wide1 lots P ++ P, rangeL m, rfl, .inl (.inl kR), by rw [List.length_append]; omega, fun x mx => ?_, fun q cnt nq hcn => ?_⟩
    · rcases List.mem_append.mp mx with z | z
      · exact mem_range.mpr ((wide_rch hr' x z).low lb ⟨s0, s1⟩)
      · exact mem_range.mpr (hlow x z)
    generalize eH6 : L2.upd H5 q _ = H6
    have s6 := same_of nq eH6
    have kq := at_of eH6
    clear eH6
    refine ⟨q, _, cnt, rfl, kq, by rw [range_len] at hcn; omega, fun ns r pw mem ln nr => ?_⟩
    generalize eH7 : L2.upd H6 r _ = H7
    have s7 := same_of nr eH7
    have kr := at_of eH7
    clear eH7
    refine ⟨r, _, rfl, .inl (.inl (.inl kr)), fun H8 wi s8 hw => ?_⟩
    have s28 := s3.trans (s4.trans (s5.trans (s6.trans (s7.trans s8))))
    have hP8 := seqT s28 hP
    have hmem : ∀ x, x ∈ ns ↔ x ∈ wide1 lots P ∨ x ∈ P := fun x => by
      rw [mem x, decide_eq_true_eq, List.mem_append]
    have sub : ∀ x ∈ P, x ∈ ns := fun x mx => (hmem x).mpr (.inr mx)
    have hrn : ∀ x ∈ ns, Rch lots st x := fun x mx => by
      rcases (hmem x).mp mx with z | z
      · exact wide_rch hr' x z
      · exact hr' x z
    refine ⟨_, rfl, _, rfl, dI ns, dI P, .tup hw (dpAll_ints K H8 ns), .tup hP8 (dpAll_ints K H8 P), (gd_dI ns).shaped (by decide), (gd_dI P).shaped (by decide), ?_⟩
    rw [eqv_dI]
    by_cases e : ns = P
    · rw [decide_eq_true e]
      refine ⟨_, rfl, iteT ⟨_, rfl, ?_⟩⟩
      exact fin H8 pa P (s2.trans s28) hP8 (piece_of asc h0 hr' fun x mx => by rw [← e]; exact (hmem x).mpr (.inl mx))
    · rw [decide_eq_false e]
      refine ⟨_, rfl, iteF ?_⟩
      have lt : P.length < ns.length := by
        have le := nodup_le P ns (asc.imp fun h => by omega) sub
        rcases Nat.lt_or_ge P.length ns.length with z | z
        · exact z
        · exfalso
          refine e (asc_ext pw asc fun x => ⟨fun mx => ?_, sub x⟩)
          by_cases h : x ∈ P
          · exact h
          · have := nodup_le (x :: P) ns (List.nodup_cons.mpr ⟨h, asc.imp fun h => by omega⟩) fun y my => by
              rcases List.mem_cons.mp my with e | my
              · rw [e]; exact mx
              · exact sub y my
            rw [List.length_cons] at this
            omega
      have f2 := asc_few pw (low ns hrn)
      refine ⟨_, rfl, 13 - ns.length, by omega, wi, ns, _, _, rfl, s2.trans s28, hw, pw, sub st h0, hrn, by omega⟩
end
end K04
namespace CK
open PySem PySem.Spec PyProof.Rows L2 VG FR HD M9
/-- the totals by classes -/
def lotsC (ts : List (List Int)) (n : Nat) : List (List Int) := ts.map fun c => rowC (classesL ts n) c (classesL ts n).length
theorem lotsC_len (ts : List (List Int)) (n : Nat) : (lotsC ts n).length = ts.length := List.length_map _
theorem lotsC_low (ts : List (List Int)) {n : Nat} (hn : n ≤ 12) : LotsB (lotsC ts n) (classesL ts n).length := fun l ml => by
  obtain ⟨c, mc, rfl⟩ := List.mem_map.mp ml
  have h1 := rowC_len (classesL ts n) c (classesL ts n).length
  have h2 := (classes_len ts n).1
  refine ⟨by omega, fun x mx => ?_⟩
  obtain ⟨a, ha, _, rfl⟩ := rowC_mem.mp mx
  omega
theorem byCls_uniq {ts ls : List (List Int)} {n : Nat} (hn : n ≤ 12) (ok : ∀ c ∈ ts, LotOk (n : Int) c) (h : ByCls ts n ls) : ls = lotsC ts n := by
  have g : ByCls ts n (lotsC ts n) := byCls_rows hn ok
  refine List.ext_getElem? fun j => ?_
  by_cases lt : j < ts.length
  · have l1 : j < ls.length := by rw [h.len]; exact lt
    have l2 : j < (lotsC ts n).length := by rw [g.len]; exact lt
    have e0 : ts[j]? = some ts[j] := List.getElem?_eq_getElem lt
    have e1 : ls[j]? = some ls[j] := List.getElem?_eq_getElem l1
    have e2 : (lotsC ts n)[j]? = some (lotsC ts n)[j] := List.getElem?_eq_getElem l2
    rw [e1, e2]
    congr 1
    exact asc_ext (h.asc _ (List.getElem_mem l1)).2 (g.asc _ (List.getElem_mem l2)).2 fun x => (h.rel j _ _ e0 e1 x).trans (g.rel j _ _ e0 e2 x).symm
  · rw [List.getElem?_eq_none (by rw [h.len]; omega), List.getElem?_eq_none (by rw [g.len]; omega)]
def spPiecesOf (K : PySem.W.Frag) (C : Addr) : Sp := fun vs H Q _ => ∃ (a : Addr) (ks : List Str) (ts : List (List Int)), vs = [.ref a] ∧ Tab K C H a ks ts ∧ TabOk ks ts ∧
  ∀ H' u xs Ps, Same H H' → SqT K H' u xs → Tots K H' xs Ps → Pieces (lotsC ts ks.length) (classesL ts ks.length).length Ps → Q (.ref u) H'
/-- a row of classes -/
structure PcOk (ts : List (List Int)) (n : Nat) (P : List Int) : Prop where
  asc : P.Pairwise (· < ·)
  low : ∀ x ∈ P, 0 ≤ x ∧ x < ((classesL ts n).length : Int)
theorem PcOk.few {ts : List (List Int)} {n : Nat} {P : List Int} (h : PcOk ts n P) (hn : n ≤ 12) : P.length ≤ 12 := by
  have := asc_few h.asc h.low
  have := (classes_len ts n).1
  omega
def totP (ls : List (List Int)) (P : List Int) : List Int := pick (fun j => meetsB (ls.getD j []) P) ls.length
def kdsP (ts : List (List Int)) (n : Nat) (P : List Int) : List Int := pick (fun k => P.any fun x => ((classesL ts n).getD x.toNat []).contains (k : Int)) n
theorem mem_kdsP {ts : List (List Int)} {n : Nat} {P : List Int} {k : Int} : k ∈ kdsP ts n P ↔ ∃ x ∈ P, k ∈ (classesL ts n).getD x.toNat [] := by
  unfold kdsP
  rw [mem_pick]
  constructor
  · rintro ⟨j, _, h, rfl⟩
    obtain ⟨x, mx, hx⟩ := List.any_eq_true.mp h
    exact ⟨x, mx, List.contains_iff_mem.mp hx⟩
  · rintro ⟨x, mx, hx⟩
    have mc : (classesL ts n).getD x.toNat [] ∈ classesL ts n := by
      rw [List.getD_eq_getElem?_getD] at hx ⊢
      cases e : (classesL ts n)[x.toNat]? with
      | none => rw [e] at hx; cases hx
      | some c => exact List.mem_of_getElem? e
    obtain ⟨j, hj, rfl⟩ := classes_below mc hx
    exact ⟨j, hj, List.any_eq_true.mpr ⟨x, mx, List.contains_iff_mem.mpr hx⟩, rfl⟩
theorem classes_only {ts : List (List Int)} {n i j : Nat} {c d : List Int} {k : Int} (e1 : (classesL ts n)[i]? = some c) (e2 : (classesL ts n)[j]? = some d) (h1 : k ∈ c) (h2 : k ∈ d) : i = j := by
  by_cases e : i = j
  · exact e
  · exact absurd rfl ((List.nodup_append.mp (M15.apart_two (classes_apart ts n) e1 e2 e)).2.2 k h1 k h2)
/-- the kinds of some classes, put in sequence -/
theorem kds_nodup {ts : List (List Int)} {n : Nat} : ∀ {P : List Int}, P.Pairwise (· < ·) → (∀ x ∈ P, 0 ≤ x) → (P.flatMap fun x => (classesL ts n).getD x.toNat []).Nodup
  | [], _, _ => List.Pairwise.nil
  | x :: P, h, l0 => by
    have ⟨a1, a2⟩ := List.pairwise_cons.mp h
    rw [List.flatMap_cons]
    refine List.nodup_append.mpr ⟨?_, kds_nodup a2 fun y my => l0 y (List.mem_cons_of_mem _ my), fun p hp q hq e => ?_⟩
    · rw [List.getD_eq_getElem?_getD]
      cases e : (classesL ts n)[x.toNat]? with
      | none => exact List.Pairwise.nil
      | some c =>
        have mc := List.mem_of_getElem? e
        rw [classes_eq] at mc
        obtain ⟨d, _, rfl⟩ := List.mem_map.mp mc
        exact pick_nodup _ _
    · subst e
      obtain ⟨y, my, hy⟩ := List.mem_flatMap.mp hq
      have xy := a1 y my
      have x0 := l0 x List.mem_cons_self
      rw [List.getD_eq_getElem?_getD] at hp hy
      cases e1 : (classesL ts n)[x.toNat]? with
      | none => rw [e1] at hp; cases hp
      | some c =>
        cases e2 : (classesL ts n)[y.toNat]? with
        | none => rw [e2] at hy; cases hy
        | some d =>
          rw [e1] at hp
          rw [e2] at hy
          have := classes_only e1 e2 hp hy
          omega
theorem kds_sorted {ts : List (List Int)} {n : Nat} {P ns : List Int} (h : P.Pairwise (· < ·)) (l0 : ∀ x ∈ P, 0 ≤ x) (pm : ns.Perm (P.flatMap fun x => (classesL ts n).getD x.toNat [])) (le : ns.Pairwise (· ≤ ·)) : ns = kdsP ts n P := by
  have nd := kds_nodup (ts := ts) (n := n) h l0
  refine asc_ext ?_ (pick_asc _ _) fun k => ?_
  · have nd2 := pm.nodup_iff.mpr nd
    exact (List.pairwise_and_iff.mpr ⟨le, nd2⟩).imp fun ⟨h1, h2⟩ => by omega
  · rw [pm.mem_iff, mem_kdsP, List.mem_flatMap]
def spPieceTots (K : PySem.W.Frag) (C : Addr) : Sp := fun vs H Q _ => ∃ (a pa : Addr) (ks : List Str) (ts : List (List Int)) (P : List Int), vs = [.ref a, .ref pa] ∧ Tab K C H a ks ts ∧ TabOk ks ts ∧ SqT K H pa (P.map V.int) ∧ PcOk ts ks.length P ∧
  ∀ H' u, Same H H' → SqT K H' u ((totP (lotsC ts ks.length) P).map V.int) → Q (.ref u) H'
def spPieceKds (K : PySem.W.Frag) (C : Addr) : Sp := fun vs H Q _ => ∃ (a pa : Addr) (ks : List Str) (ts : List (List Int)) (P : List Int), vs = [.ref a, .ref pa] ∧ Tab K C H a ks ts ∧ TabOk ks ts ∧ SqT K H pa (P.map V.int) ∧ PcOk ts ks.length P ∧
  ∀ H' u, Same H H' → SqT K H' u ((kdsP ts ks.length P).map V.int) → Q (.ref u) H'
end CK
namespace K04
open PySem PySem.Spec PyProof.Rows L2 VG FR CK HD M9
abbrev s_pieces_of : Stmt := topS 33
abbrev N_pieces_of : List Str := ["table", "totals", "every", "number"]
theorem sc_pieces_of : FnScope N_pieces_of ["table"] (defScope s_pieces_of) := ⟨rfl, rfl, rfl, by decide +kernel, rfl, by decide +kernel, by decide +kernel⟩
abbrev s_piece_totals : Stmt := topS 34
abbrev N_piece_totals : List Str := ["table", "piece", "totals", "at", "total"]
theorem sc_piece_totals : FnScope N_piece_totals ["table", "piece"] (defScope s_piece_totals) := ⟨rfl, rfl, rfl, by decide +kernel, rfl, by decide +kernel, by decide +kernel⟩
abbrev s_piece_kinds : Stmt := topS 35
abbrev N_piece_kinds : List Str := ["table", "piece", "classes", "number", "kind"]
theorem sc_piece_kinds : FnScope N_piece_kinds ["table", "piece"] (defScope s_piece_kinds) := ⟨rfl, rfl, rfl, by decide +kernel, rfl, by decide +kernel, by decide +kernel⟩
section
variable {P : Program} {w : World} {K : PySem.W.Frag} {mg : Str → Option Value} {base : Heap}
theorem ok_pieces_of {f C : Addr} {fd : FuncData} (F : Fun K "pieces_of" "pieces_of" s_pieces_of f fd) (C_totals_by_classes : Cl P w K mg base 4 "totals_by_classes" (spTBC2 K C)) (C_classes_of : Cl P w K mg base 2 "classes_of" (spClasses K C)) (C_piece_from : Cl P w K mg base 2 "piece_from" (spPieceFrom K)) (z_len : mg "len" = none) (z_range : mg "range" = none) (z_tuple : mg "tuple" = none) (z_sorted : mg "sorted" = none) (z_set : mg "set" = none) : FnOk P w K mg base CX0 5 f fd ["table"] (spPiecesOf K C) := by
  refine F.ok sc_pieces_of (fun vs H Q E h => ?_) (fun cdv A outer s H vs Q E hr h => ?_)
  · obtain ⟨_, _, _, rfl, _⟩ := h
    rfl
  · obtain ⟨a, ks, ts, rfl, hTab, ok, fin⟩ := h
    refine ⟨_, (pss_cons (ps_set (i := 1) sc_pieces_of.nd rfl (.inr rfl) (pe_cl C_totals_by_classes hr (by decide) rfl (pa_cons (pv 0) pa_nil)))
    (pss_cons (ps_set (i := 2) sc_pieces_of.nd rfl (.inl rfl) (pe_callTy cr_range1 (by rfl) z_range (by decide +kernel) (pa_cons (pe_callB call_len_seq (by rfl) z_len (by decide +kernel) (pa_cons (pe_cl C_classes_of hr (by decide) rfl (pa_cons (pv 0) pa_nil)) pa_nil)) pa_nil)))
    (pss_one (ps_ret (pe_callTy call_tupE (by rfl) z_tuple (by decide +kernel) (pa_cons (pe_callB (cr_sortedU rfl (Nat.lt_of_le_of_lt (Nat.add_le_add_left (by decide) _) hr.units)) (by rfl) z_sorted (by decide +kernel) (pa_cons (pe_callTy (cr_setOfT rfl hr.units) (by rfl) z_set (by decide +kernel) (pa_cons (pe_lc (own := [("number", 3)]) (by rfl) sc_pieces_of.nd (pi_rngV (pv 2)) (blkOk_by (own := [("number", 3)]) (N := N_pieces_of) (sc := defScope s_pieces_of) (by decide +kernel)) (fun _ _ _ _ _ => (pg_name (i := 3) sc_pieces_of.nd rfl (.inl rfl))) (fun _ _ _ _ _ => pts_nil) (fun _ _ _ _ _ => (pe_cl C_piece_from hr (by decide) rfl (pa_cons (pv 1) (pa_cons (pv 3) pa_nil))))) pa_nil)) pa_nil)) pa_nil)))))), ?_⟩
    have big : sizeLine = 16777216 := by decide
    have k12 := ok.kinds.2.1
    have t12 := ok.len
    refine ⟨_, rfl, a, ks, ts, rfl, hTab, by omega, by omega, ok.low, fun H1 tl xs ls s1 ktl hX by_ => ?_⟩
    have els := byCls_uniq k12 ok.lots by_
    subst els
    refine ⟨_, rfl, a, ks, ts, rfl, hTab.mono s1, by omega, by omega, fun H2 u2 xs2 s2 nu2 ku2 hX2 => ?_⟩
    have l2 := hX2.len
    have cl12 := (classes_len ts ks.length).1
    refine ⟨u2, xs2, rfl, .inr (sqt ku2), _, rfl, fun rg nrg => ?_⟩
    generalize eH3 : L2.upd H2 rg _ = H3
    have s3 := same_of nrg eH3
    have krg := at_of eH3
    clear eH3
    rw [l2] at krg
    have low := lotsC_low ts k12
    have ll := lotsC_len ts ks.length
    have s13 := s2.trans s3
    have hS3 : SqT K H3 tl xs := sqt (s13 _ _ ktl)
    have hX3 := hX.mono s13
    generalize hm : (classesL ts ks.length).length = m at *
    generalize lotsC ts ks.length = lots at *
    refine ⟨_, rfl, rg, 0, (m : Int), rfl, krg, by omega, fun D nD => ?_⟩
    refine lc_it (walk_range (lo := 0) (n := ((m : Int) - 0).toNat)) (fun i H' => Same H3 H' ∧ ∃ ps : List (Addr × List Int), H' D = some (.lst (ps.map fun p => V.ref p.1)) ∧ (∀ p ∈ ps, SqT K H' p.1 (p.2.map V.int)) ∧ ps.length = i ∧ ∀ P, P ∈ ps.map (·.2) ↔ ∃ s : Int, 0 ≤ s ∧ s < (i : Int) ∧ IsPiece lots s P) ⟨same_upd nD, [], upd_same, (by intro _ h; cases h), rfl, fun P => ⟨(fun h => (by cases h)), (fun ⟨s, h1, h2, _⟩ => absurd h2 (by omega))⟩⟩ (fun _ _ _ _ => trivial) ?_ ?_
    · rintro i v H4 H5 hi ⟨s4, ps, kD, hps, lps, hmem⟩ ⟨rfl, rfl⟩
      have hi2 : i < m := by have : i < ((m : Int) - 0).toNat := hi; omega
      refine ⟨rfl, _, rfl, _, rfl, tl, xs, lots, m, _, rfl, seqT s4 hS3, hX3.mono s4, by omega, low, by omega, by omega, by omega, fun H6 u P s6 hu hP => ?_⟩
      have kD6 := s6 _ _ kD
      refine ⟨_, kD6, by rw [List.length_map]; omega, HD.same_put (s4.trans s6) nD, ps ++ [(u, P)], by rw [upd_same, List.map_append]; rfl, fun p hm => ?_, by rw [List.length_append, lps]; rfl, fun R => ?_⟩
      · refine seqT_upd kD6 ?_
        rcases List.mem_append.mp hm with z | z
        · exact seqT s6 (hps p z)
        · rw [List.mem_singleton.mp z]
          exact hu
      · rw [List.map_append, List.mem_append, hmem R]
        rw [Int.zero_add] at hP
        constructor
        · rintro (⟨s, h1, h2, h3⟩ | h)
          · exact ⟨s, h1, by omega, h3⟩
          · have e : R = P := List.mem_singleton.mp h
            rw [e]
            exact ⟨(i : Int), by omega, by omega, hP⟩
        · rintro ⟨s, h1, h2, h3⟩
          by_cases e : s = (i : Int)
          · right
            rw [e] at h3
            exact List.mem_singleton.mpr (h3.uniq hP)
          · exact .inl ⟨s, h1, by omega, h3⟩
    rintro H4 ⟨s4, ps, kD, hps, lps, hmem⟩
    have lps : ps.length = ((m : Int) - 0).toNat := lps
    refine ⟨D, ps, rfl, .inl (.inl kD), hps, by omega, fun b L nb sub all => ?_⟩
    have sb : Same H4 (L2.upd H4 b (SetTO P w b L)) := same_upd nb
    refine ⟨b, L, rfl, upd_same, fun p hm => seqT sb (hps p (sub p hm)), fun L' q pm nd few pw nq => ?_⟩
    have s6 : Same (L2.upd H4 b (SetTO P w b L)) (L2.upd (L2.upd H4 b (SetTO P w b L)) q (.lst (L'.map fun q => V.ref q.1))) := same_upd nq
    refine ⟨q, _, rfl, .inl (.inl (.inl upd_same)), fun H7 u s7 hu => ?_⟩
    have s47 := sb.trans (s6.trans s7)
    refine fin H7 u _ (L'.map (·.2)) (s1.trans (s13.trans (s4.trans s47))) hu (tots_refs L' fun p hm => seqT s47 (hps p (sub p (pm.mem_iff.mp hm)))) ⟨lexAsc_of nd (List.pairwise_map.mpr pw), fun R => ?_⟩
    have e1 : R ∈ L'.map (·.2) ↔ R ∈ L.map (·.2) := (pm.map (·.2)).mem_iff
    have e2 : R ∈ L.map (·.2) ↔ R ∈ ps.map (·.2) := ⟨fun h => by
      obtain ⟨p, h1, h2⟩ := List.mem_map.mp h
      exact List.mem_map.mpr ⟨p, sub p h1, h2⟩, fun h => by
      obtain ⟨p, h1, h2⟩ := List.mem_map.mp h
      rw [← h2]
      exact all p h1⟩
    rw [e1, e2, hmem R]
    constructor
    · rintro ⟨s, h1, h2, h3⟩
      exact ⟨s, h1, by omega, h3⟩
    · rintro ⟨s, h1, h2, h3⟩
      exact ⟨s, h1, by omega, h3⟩
theorem ok_piece_totals {f C : Addr} {fd : FuncData} (F : Fun K "piece_totals" "piece_totals" s_piece_totals f fd) (C_totals_by_classes : Cl P w K mg base 4 "totals_by_classes" (spTBC2 K C)) (C_meets : Cl P w K mg base 1 "meets" (spMeets K)) (z_tuple : mg "tuple" = none) (z_enumerate : mg "enumerate" = none) : FnOk P w K mg base CX0 5 f fd ["table", "piece"] (spPieceTots K C) := by
  refine F.ok sc_piece_totals (fun vs H Q E h => ?_) (fun cdv A outer s H vs Q E hr h => ?_)
  · obtain ⟨_, _, _, _, _, rfl, _⟩ := h
    rfl
  · obtain ⟨a, pa, ks, ts, R, rfl, hTab, ok, hP, pc, fin⟩ := h
    refine ⟨_, (pss_cons (ps_set (i := 2) sc_piece_totals.nd rfl (.inl rfl) (pe_cl C_totals_by_classes hr (by decide) rfl (pa_cons (pv 0) pa_nil)))
    (pss_one (ps_ret (pe_callTy call_tupE (by rfl) z_tuple (by decide +kernel) (pa_cons (pe_lc (own := [("at", 3), ("total", 4)]) (by rfl) sc_piece_totals.nd (pi_enumT (by rfl) z_enumerate (pa_cons (pv 2) pa_nil)) (blkOk_by (own := [("at", 3), ("total", 4)]) (N := N_piece_totals) (sc := defScope s_piece_totals) (by decide +kernel)) (fun _ _ _ _ _ => (show PG _ _ (gTup K 2 _) from pg_tup rfl (pgs_cons (pg_name (i := 3) sc_piece_totals.nd rfl (.inl rfl)) (pgs_cons (pg_name (i := 4) sc_piece_totals.nd rfl (.inl rfl)) pgs_nil)))) (fun _ _ _ _ _ => (pts_one (pt_val (pe_cl C_meets hr (by decide) rfl (pa_cons (pv 4) (pa_cons (pv 1) pa_nil)))))) (fun _ _ _ _ _ => (pv 3))) pa_nil))))), ?_⟩
    have big : sizeLine = 16777216 := by decide
    have k12 := ok.kinds.2.1
    have t12 := ok.len
    have ll := lotsC_len ts ks.length
    refine ⟨_, rfl, a, ks, ts, rfl, hTab, by omega, by omega, ok.low, fun H1 tl xs ls s1 ktl hX by_ => ?_⟩
    have els := byCls_uniq k12 ok.lots by_
    subst els
    have low := lotsC_low ts k12
    have lx := hX.len
    have hP1 := seqT s1 hP
    refine ⟨_, rfl, tl, xs, rfl, sqt ktl, fun D nD => ?_⟩
    refine lc_it (walk_enumT (K := K) (a := tl) (xs := xs)) (fun i H' => Same H1 H' ∧ H' D = some (.lst ((pick (fun j => meetsB ((lotsC ts ks.length).getD j []) R) i).map V.int))) ⟨same_upd nD, upd_same⟩ (fun i H' _ h => sqt (h.1 _ _ ktl)) ?_ ?_
    · rintro i v H2 H3 hi ⟨s2, kD⟩ ⟨U, x, rfl, nU, rfl, ex⟩
      obtain ⟨u, l, rfl, el, hu⟩ := hX.get ex
      have sU := same_upd (o := .tup [.int (i : Nat), .ref u]) nU
      refine ⟨U, _, rfl, .inl (.inl upd_same), rfl, _, _, rfl, _, _, rfl, rfl, rfl, ?_⟩
      have s3 := s2.trans sU
      have ml := List.mem_of_getElem? el
      have l12 := (low l ml).1
      have kD3 := sU _ _ kD
      refine ⟨_, rfl, _, rfl, u, pa, l, R, rfl, seqT s3 hu, seqT s3 hP1, by omega, fun H4 s4 => ⟨_, rfl, ?_⟩⟩
      have kD4 := s4 _ _ kD3
      have eg : (lotsC ts ks.length).getD i [] = l := by rw [List.getD_eq_getElem?_getD, el]; rfl
      have pl := pick_len (fun j => meetsB ((lotsC ts ks.length).getD j []) R) i
      have hi2 : i < xs.length := hi
      cases hm : meetsB l R with
      | true =>
        refine iteT ⟨_, rfl, _, kD4, by rw [List.length_map]; omega, HD.same_put (s3.trans s4) nD, ?_⟩
        rw [upd_same, pick_yes (by rw [eg]; exact hm), List.map_append]
        rfl
      | false =>
        refine iteF ⟨s3.trans s4, ?_⟩
        rw [pick_no (by rw [eg]; exact hm)]
        exact kD4
    · rintro H2 ⟨s2, kD⟩
      rw [lx] at kD
      refine ⟨D, _, rfl, .inl (.inl (.inl kD)), fun H3 u s3 hu => ?_⟩
      exact fin H3 u (s1.trans (s2.trans s3)) hu
theorem ok_piece_kinds {f C : Addr} {fd : FuncData} (F : Fun K "piece_kinds" "piece_kinds" s_piece_kinds f fd) (C_classes_of : Cl P w K mg base 2 "classes_of" (spClasses K C)) (z_tuple : mg "tuple" = none) (z_sorted : mg "sorted" = none) : FnOk P w K mg base CX0 3 f fd ["table", "piece"] (spPieceKds K C) := by
  refine F.ok sc_piece_kinds (fun vs H Q E h => ?_) (fun cdv A outer s H vs Q E hr h => ?_)
  · obtain ⟨_, _, _, _, _, rfl, _⟩ := h
    rfl
  · obtain ⟨a, pa, ks, ts, R, rfl, hTab, ok, hP, pc, fin⟩ := h
    refine ⟨_, (pss_cons (ps_set (i := 2) sc_piece_kinds.nd rfl (.inr rfl) (pe_cl C_classes_of hr (by decide) rfl (pa_cons (pv 0) pa_nil)))
    (pss_one (ps_ret (pe_callTy call_tupE (by rfl) z_tuple (by decide +kernel) (pa_cons (pe_callB cr_sorted (by rfl) z_sorted (by decide +kernel) (pa_cons (pe_lc2 (own := [("number", 3), ("kind", 4)]) (vs1 := [4]) (by rfl) sc_piece_kinds.nd (pi_tup (pv 1)) (blkOk_by (own := [("number", 3), ("kind", 4)]) (N := N_piece_kinds) (sc := defScope s_piece_kinds) (by decide +kernel)) (by decide) (fun _ _ _ _ _ => (pg_name (i := 3) sc_piece_kinds.nd rfl (.inl rfl))) (fun _ _ _ _ _ => pts_nil) (fun _ _ _ _ _ => (show PI _ _ _ (iTup K _) from pi_tup (pe_ix (show IxR _ (rIxT K) from ix_tup) (pv 2) (pv 3) (fun _ _ => rfl)))) (fun _ _ _ _ _ => (pg_name (i := 4) sc_piece_kinds.nd rfl (.inl rfl))) (fun _ _ _ _ _ => pts_nil) (fun _ _ _ _ _ => (pv 4))) pa_nil)) pa_nil))))), ?_⟩
    have big : sizeLine = 16777216 := by decide
    have k12 := ok.kinds.2.1
    have t12 := ok.len
    refine ⟨_, rfl, a, ks, ts, rfl, hTab, by omega, by omega, fun H1 u1 xs s1 nu1 ku1 hX => ?_⟩
    have lx := hX.len
    have hP1 := seqT s1 hP
    have cl := classes_len ts ks.length
    refine ⟨_, rfl, pa, rfl, ⟨_, hP1⟩, fun D nD => ?_⟩
    have few : ∀ i, ((R.take i).flatMap fun x => (classesL ts ks.length).getD x.toNat []).length ≤ ks.length := fun i => by
      have nd : ((R.take i).flatMap fun x => (classesL ts ks.length).getD x.toNat []).Nodup := kds_nodup (List.Pairwise.sublist (List.take_sublist _ _) pc.asc) fun x mx => (pc.low x (List.mem_of_mem_take mx)).1
      have := nodup_le _ (rangeL ks.length) nd fun k mk => by
        obtain ⟨x, mx, hx⟩ := List.mem_flatMap.mp mk
        obtain ⟨j, hj, _, rfl⟩ := mem_pick.mp ((mem_kdsP (ts := ts) (n := ks.length) (P := R)).mpr ⟨x, List.mem_of_mem_take mx, hx⟩)
        exact mem_range.mpr (by omega)
      rw [range_len] at this
      exact this
    refine lc2_it (walk_tup (K := K) (a := pa) (xs := R.map V.int)) (fun i H' => Same H1 H' ∧ H' D = some (.lst (((R.take i).flatMap fun x => (classesL ts ks.length).getD x.toNat []).map V.int))) ⟨same_upd nD, upd_same⟩ (fun i H' _ h => seqT h.1 hP1) ?_ ?_
    · rintro i v H2 H3 hi ⟨s2, kD⟩ ⟨rfl, ev⟩
      rw [List.getElem?_map] at ev
      obtain ⟨x, ex, rfl⟩ := Option.map_eq_some_iff.mp ev
      have ⟨x0, x1⟩ := pc.low x (List.mem_of_getElem? ex)
      obtain ⟨c, rfl⟩ := Int.eq_ofNat_of_zero_le x0
      have hc : c < (classesL ts ks.length).length := by omega
      have ec : (classesL ts ks.length)[c]? = some (classesL ts ks.length)[c] := List.getElem?_eq_getElem hc
      generalize (classesL ts ks.length)[c] = l at ec
      have hcx : c < xs.length := by omega
      have exc : xs[c]? = some xs[c] := List.getElem?_eq_getElem hcx
      obtain ⟨tl, l', e1, e2, htl⟩ := hX.get exc
      rw [ec] at e2
      have e2 : l = l' := Option.some.inj e2
      subst e2
      have eg : (classesL ts ks.length).getD ((c : Int)).toNat [] = l := by rw [Int.toNat_natCast, List.getD_eq_getElem?_getD, ec]; rfl
      have fl : (R.take (i + 1)).flatMap (fun x => (classesL ts ks.length).getD x.toNat []) = (R.take i).flatMap (fun x => (classesL ts ks.length).getD x.toNat []) ++ l := by
        rw [List.take_add_one, ex, List.flatMap_append]
        congr 1
        show List.flatMap _ [(c : Int)] = l
        rw [List.flatMap_cons, List.flatMap_nil, List.append_nil]
        exact eg
      have fw := few (i + 1)
      rw [fl, List.length_append] at fw
      have ku2 := s2 _ _ ku1
      have e3 : atI xs (c : Int) = some (.ref tl) := atI_nat (by rw [exc, e1])
      refine ⟨rfl, _, rfl, _, rfl, u1, xs, _, _, rfl, rfl, .inl (.inl ku2), e3, tl, rfl, ⟨_, seqT s2 htl⟩, ?_⟩
      refine inner_it (walk_tup (K := K) (a := tl) (xs := l.map V.int)) (fun j H' => Same H1 H' ∧ H' D = some (.lst (((R.take i).flatMap (fun x => (classesL ts ks.length).getD x.toNat []) ++ l.take j).map V.int))) ⟨s2, by rw [List.take_zero, List.append_nil]; exact kD⟩ (fun j H' _ h => seqT h.1 htl) ?_ ?_
      · rintro j v H4 H5 hj ⟨s4, kD4⟩ ⟨rfl, ew⟩
        rw [List.getElem?_map] at ew
        obtain ⟨k, ek, rfl⟩ := Option.map_eq_some_iff.mp ew
        refine ⟨rfl, _, rfl, _, kD4, ?_, HD.same_put s4 nD, ?_⟩
        · rw [List.length_map, List.length_append, List.length_take]
          omega
        · rw [upd_same, List.take_add_one, ek, ← List.append_assoc, List.map_append (l₂ := Option.toList _)]
          rfl
      · rintro H4 ⟨s4, kD4⟩
        rw [List.length_map, List.take_length, ← fl] at kD4
        exact ⟨s4, kD4⟩
    rintro H2 ⟨s2, kD⟩
    rw [List.length_map, List.take_length] at kD
    have fw := few R.length
    rw [List.take_length] at fw
    refine ⟨D, _, rfl, .inl (.inl kD), by omega, fun ns r pm le nr => ?_⟩
    generalize eH3 : L2.upd H2 r _ = H3
    have s3 := same_of nr eH3
    have kr := at_of eH3
    clear eH3
    refine ⟨r, _, rfl, .inl (.inl (.inl kr)), fun H4 u s4 hu => ?_⟩
    rw [kds_sorted pc.asc (fun x mx => (pc.low x mx).1) pm le] at hu
    exact fin H4 u (s1.trans (s2.trans (s3.trans s4))) hu
end
end K04
namespace CK
open PySem PySem.Spec PyProof.Rows L2 VG FR HD M9
theorem mem_leftK {os : List Int} {n : Nat} {x : Int} : x ∈ leftK os n ↔ ∃ j : Nat, j < n ∧ x = (j : Int) ∧ os.contains (j : Int) = false := by
  unfold leftK
  rw [List.mem_map]
  constructor
  · rintro ⟨j, hj, rfl⟩
    obtain ⟨h1, h2⟩ := List.mem_filter.mp hj
    exact ⟨j, List.mem_range.mp h1, rfl, by simpa using h2⟩
  · rintro ⟨j, h1, rfl, h2⟩
    exact ⟨j, List.mem_filter.mpr ⟨List.mem_range.mpr h1, by rw [h2]; rfl⟩, rfl⟩
theorem leftK_two {K : List Int} {n : Nat} (h : K.Pairwise (· < ·)) (l : ∀ x ∈ K, 0 ≤ x ∧ x < (n : Int)) : leftK (leftK K n) n = K := by
  refine asc_ext (leftK_asc _ _) h fun x => ?_
  rw [mem_leftK]
  constructor
  · rintro ⟨j, hj, rfl, hn⟩
    cases q : K.contains (j : Int) with
    | true => exact List.contains_iff_mem.mp q
    | false =>
      have : (leftK K n).contains (j : Int) = true := List.contains_iff_mem.mpr (mem_leftK.mpr ⟨j, hj, rfl, q⟩)
      rw [hn] at this
      cases this
  · intro mx
    have ⟨x0, x1⟩ := l x mx
    obtain ⟨j, rfl⟩ := Int.eq_ofNat_of_zero_le x0
    refine ⟨j, by omega, rfl, ?_⟩
    cases q : (leftK K n).contains (j : Int) with
    | false => rfl
    | true =>
      obtain ⟨i, _, e, hi⟩ := mem_leftK.mp (List.contains_iff_mem.mp q)
      have e : j = i := by omega
      subst e
      have := List.contains_iff_mem.mpr mx
      rw [hi] at this
      cases this
theorem leftT_two {T : List Int} {ts : List (List Int)} (h : T.Pairwise (· < ·)) (l : ∀ x ∈ T, 0 ≤ x ∧ x < (ts.length : Int)) : leftT ts (leftK T ts.length) ts.length = T.map fun x => ts.getD x.toNat [] := by
  have e := leftK_two h l
  have e2 : leftT ts (leftK T ts.length) ts.length = (leftK (leftK T ts.length) ts.length).map fun x => ts.getD x.toNat [] := by
    unfold leftT
    rw [show leftK (leftK T ts.length) ts.length = ((List.range ts.length).filter fun (j : Nat) => !(leftK T ts.length).contains (j : Int)).map fun (j : Nat) => (j : Int) from rfl, List.map_map]
    exact List.map_congr_left fun j _ => rfl
  rw [e2, e]
def pcK (ks : List Str) (ts : List (List Int)) (P : List Int) : List Str := (kdsP ts ks.length P).map fun x => ks.getD x.toNat Str.empty
def pcT (ts : List (List Int)) (n : Nat) (P : List Int) : List (List Int) := (totP (lotsC ts n) P).map fun j => newT (kdsP ts n P) (ts.getD j.toNat [])
def spPieceTab (K : PySem.W.Frag) (C : Addr) : Sp := fun vs H Q _ => ∃ (a pa : Addr) (ks : List Str) (ts : List (List Int)) (P : List Int), vs = [.ref a, .ref pa] ∧ Tab K C H a ks ts ∧ TabOk ks ts ∧ SqT K H pa (P.map V.int) ∧ PcOk ts ks.length P ∧ P ≠ [] ∧
  (TabOk (pcK ks ts P) (pcT ts ks.length P) → spTabNew K C H Q (pcK ks ts P) (pcT ts ks.length P))
theorem totP_low {ts : List (List Int)} {n : Nat} {P : List Int} : ∀ x ∈ totP (lotsC ts n) P, 0 ≤ x ∧ x < (ts.length : Int) := fun x mx => by
  obtain ⟨j, hj, _, rfl⟩ := mem_pick.mp mx
  rw [lotsC_len] at hj
  omega
theorem kdsP_low {ts : List (List Int)} {n : Nat} {P : List Int} : ∀ x ∈ kdsP ts n P, 0 ≤ x ∧ x < (n : Int) := fun x mx => by
  obtain ⟨j, hj, _, rfl⟩ := mem_pick.mp mx
  omega
theorem kdsP_asc (ts : List (List Int)) (n : Nat) (P : List Int) : (kdsP ts n P).Pairwise (· < ·) := pick_asc _ _
theorem totP_asc (ls : List (List Int)) (P : List Int) : (totP ls P).Pairwise (· < ·) := pick_asc _ _
theorem kdsP_ne {ts : List (List Int)} {n : Nat} {P : List Int} (h : PcOk ts n P) (ne : P ≠ []) : kdsP ts n P ≠ [] := by
  cases P with
  | nil => exact absurd rfl ne
  | cons x P =>
    have ⟨x0, x1⟩ := h.low x List.mem_cons_self
    have lt : x.toNat < (classesL ts n).length := by omega
    have mc : (classesL ts n).getD x.toNat [] ∈ classesL ts n := by
      rw [List.getD_eq_getElem?_getD, List.getElem?_eq_getElem lt]
      exact List.getElem_mem lt
    have cn := cls_ne _ mc
    intro e
    cases q : (classesL ts n).getD x.toNat [] with
    | nil => exact cn q
    | cons k r =>
      have : k ∈ kdsP ts n (x :: P) := mem_kdsP.mpr ⟨x, List.mem_cons_self, by rw [q]; exact List.mem_cons_self⟩
      rw [e] at this
      cases this
end CK
namespace K04
open PySem PySem.Spec PyProof.Rows L2 VG FR CK HD M9
abbrev s_piece_table : Stmt := topS 36
abbrev N_piece_table : List Str := ["table", "piece", "kinds", "totals", "others", "spare", "kind", "at"]
theorem sc_piece_table : FnScope N_piece_table ["table", "piece"] (defScope s_piece_table) := ⟨rfl, rfl, rfl, by decide +kernel, rfl, by decide +kernel, by decide +kernel⟩
section
variable {P : Program} {w : World} {K : PySem.W.Frag} {mg : Str → Option Value} {base : Heap}
theorem ok_piece_table {f C R : Addr} {fd : FuncData} (F : Fun K "piece_table" "piece_table" s_piece_table f fd) (T : TabC K C) (C_piece_kinds : Cl P w K mg base 3 "piece_kinds" (spPieceKds K C)) (C_piece_totals : Cl P w K mg base 5 "piece_totals" (spPieceTots K C)) (C_without_kinds : Cl P w K mg base 9 "without_kinds" (fun vs H Q _ => spLess2 K C R vs H Q E0)) (C_without_totals : Cl P w K mg base 9 "without_totals" (spWithout K C)) (z_len : mg "len" = none) (z_range : mg "range" = none) (z_tuple : mg "tuple" = none) : FnOk P w K mg base CX0 10 f fd ["table", "piece"] (spPieceTab K C) := by
  refine F.ok sc_piece_table (fun vs H Q E h => ?_) (fun cdv A outer s H vs Q E hr h => ?_)
  · obtain ⟨_, _, _, _, _, rfl, _⟩ := h
    rfl
  · obtain ⟨a, pa, ks, ts, R0, rfl, hTab, ok, hP, pc, ne, fin⟩ := h
    refine ⟨_, (pss_cons (ps_set (i := 2) sc_piece_table.nd rfl (.inr rfl) (pe_cl C_piece_kinds hr (by decide) rfl (pa_cons (pv 0) (pa_cons (pv 1) pa_nil))))
    (pss_cons (ps_set (i := 3) sc_piece_table.nd rfl (.inr rfl) (pe_cl C_piece_totals hr (by decide) rfl (pa_cons (pv 0) (pa_cons (pv 1) pa_nil))))
    (pss_cons (ps_set (i := 4) sc_piece_table.nd rfl (.inl rfl) (pe_callTy call_tupE (by rfl) z_tuple (by decide +kernel) (pa_cons (pe_lc (own := [("kind", 6)]) (by rfl) sc_piece_table.nd (pi_range1 (by rfl) z_range (pa_cons (pe_callB call_len_seq (by rfl) z_len (by decide +kernel) (pa_cons (pe_fld (pv 0) (by rfl)) pa_nil)) pa_nil)) (blkOk_by (own := [("kind", 6)]) (N := N_piece_table) (sc := defScope s_piece_table) (by decide +kernel)) (fun _ _ _ _ _ => (pg_name (i := 6) sc_piece_table.nd rfl (.inl rfl))) (fun _ _ _ _ _ => (pts_one (pt_cmpR (show OpR _ (compareOp .NotIn) (rIn K true) from op_notIn_seq) (pv 6) (pv 2) rfl))) (fun _ _ _ _ _ => (pv 6))) pa_nil)))
    (pss_cons (ps_set (i := 5) sc_piece_table.nd rfl (.inl rfl) (pe_callTy call_tupE (by rfl) z_tuple (by decide +kernel) (pa_cons (pe_lc (own := [("at", 7)]) (by rfl) sc_piece_table.nd (pi_range1 (by rfl) z_range (pa_cons (pe_callB call_len_seq (by rfl) z_len (by decide +kernel) (pa_cons (pe_fld (pv 0) (by rfl)) pa_nil)) pa_nil)) (blkOk_by (own := [("at", 7)]) (N := N_piece_table) (sc := defScope s_piece_table) (by decide +kernel)) (fun _ _ _ _ _ => (pg_name (i := 7) sc_piece_table.nd rfl (.inl rfl))) (fun _ _ _ _ _ => (pts_one (pt_cmpR (show OpR _ (compareOp .NotIn) (rIn K true) from op_notIn_seq) (pv 7) (pv 3) rfl))) (fun _ _ _ _ _ => (pv 7))) pa_nil)))
    (pss_one (ps_ret (pe_cl C_without_kinds hr (by decide) rfl (pa_cons (pe_cl C_without_totals hr (by decide) rfl (pa_cons (pv 0) (pa_cons (pv 5) pa_nil))) (pa_cons (pv 4) pa_nil))))))))), ?_⟩
    have big : sizeLine = 16777216 := by decide
    have k12 := ok.kinds.2.1
    have t12 := ok.len
    have klen : (ks.map V.str).length = ks.length := List.length_map _
    refine ⟨_, rfl, _, rfl, a, pa, ks, ts, R0, rfl, hTab, ok, hP, pc, fun H1 u1 s1 hu1 => ?_⟩
    refine ⟨_, rfl, _, rfl, a, pa, ks, ts, R0, rfl, hTab.mono s1, ok, seqT s1 hP, pc, fun H2 u2 s2 hu2 => ?_⟩
    have hu12 := seqT s2 hu1
    have kl := (asc_few (pick_asc _ _) (kdsP_low (ts := ts) (n := ks.length) (P := R0)))
    have tl := (asc_few (pick_asc _ _) (totP_low (ts := ts) (n := ks.length) (P := R0)))
    obtain ⟨dx, kk, tt, ys, hO, hK, hS, hTs⟩ := id (hTab.mono (s1.trans s2))
    refine ⟨_, rfl, a, C, dx, _, .ref kk, rfl, hO, T.c, T.nk, rfl, kk, _, rfl, .inr hK, _, rfl, by rw [klen]; omega, by rw [klen]; omega, fun D nD => ?_⟩
    rw [klen]
    refine lc_it (walk_range (lo := 0) (n := ((ks.length : Nat) : Int).toNat)) (fun i H' => Same H2 H' ∧ H' D = some (.lst ((leftK (kdsP ts ks.length R0) i).map V.int))) ⟨same_upd nD, upd_same⟩ (fun _ _ _ _ => trivial) ?_ ?_
    · rintro i v H3 H4 hi ⟨s3, kD⟩ ⟨e, rfl⟩
      subst e
      have hi2 : i < ks.length := by have : i < ((ks.length : Nat) : Int).toNat := hi; omega
      have e0 : (0 : Int) + (i : Nat) = (i : Nat) := Int.zero_add _
      refine ⟨rfl, _, rfl, _, rfl, u1, _, rfl, .inr (seqT s3 hu12), rfl, flat_ints _, _, rfl, ?_⟩
      have ev : inV (V.int (0 + (i : Int))) ((kdsP ts ks.length R0).map V.int) = (kdsP ts ks.length R0).contains (i : Int) := by rw [e0, inV_ints]
      have ll := leftK_len (kdsP ts ks.length R0) i
      cases hc : (kdsP ts ks.length R0).contains (i : Int) with
      | false =>
        rw [hc] at ev
        refine ite_eq true (by show (!inV (V.int (0 + (i : Int))) ((kdsP ts ks.length R0).map V.int)) = true; rw [ev]; rfl) (iteT ?_)
        refine ⟨_, rfl, _, kD, by rw [List.length_map]; omega, HD.same_put s3 nD, ?_⟩
        rw [upd_same, leftK_yes hc, List.map_append]
        show some (HO.lst (_ ++ [V.int (0 + (i : Int))])) = _
        rw [e0]
        rfl
      | true =>
        rw [hc] at ev
        refine ite_eq false (by show (!inV (V.int (0 + (i : Int))) ((kdsP ts ks.length R0).map V.int)) = false; rw [ev]; rfl) (iteF ⟨s3, ?_⟩)
        rw [leftK_no hc]
        exact kD
    rintro H3 ⟨s3, kD⟩
    rw [Int.toNat_natCast] at kD
    refine ⟨D, _, rfl, .inl (.inl (.inl kD)), fun H4 u3 s4 hu3 => ?_⟩
    have s24 := s3.trans s4
    clear kD nD hO hK hS hTs
    obtain ⟨dx, kk, tt, ys, hO, hK, hS, hTs⟩ := id (hTab.mono (s1.trans (s2.trans s24)))
    have ly := hTs.len
    have hu24 := seqT s24 hu2
    refine ⟨_, rfl, a, C, dx, _, .ref tt, rfl, hO, T.c, T.nt, rfl, tt, _, rfl, .inr hS, _, rfl, by omega, by omega, fun D nD => ?_⟩
    rw [ly]
    refine lc_it (walk_range (lo := 0) (n := ((ts.length : Nat) : Int).toNat)) (fun i H' => Same H4 H' ∧ H' D = some (.lst ((leftK (totP (lotsC ts ks.length) R0) i).map V.int))) ⟨same_upd nD, upd_same⟩ (fun _ _ _ _ => trivial) ?_ ?_
    · rintro i v H5 H6 hi ⟨s3, kD⟩ ⟨e, rfl⟩
      subst e
      have hi2 : i < ts.length := by have : i < ((ts.length : Nat) : Int).toNat := hi; omega
      have e0 : (0 : Int) + (i : Nat) = (i : Nat) := Int.zero_add _
      refine ⟨rfl, _, rfl, _, rfl, u2, _, rfl, .inr (seqT s3 hu24), rfl, flat_ints _, _, rfl, ?_⟩
      have ev : inV (V.int (0 + (i : Int))) ((totP (lotsC ts ks.length) R0).map V.int) = (totP (lotsC ts ks.length) R0).contains (i : Int) := by rw [e0, inV_ints]
      have ll := leftK_len (totP (lotsC ts ks.length) R0) i
      cases hc : (totP (lotsC ts ks.length) R0).contains (i : Int) with
      | false =>
        rw [hc] at ev
        refine ite_eq true (by show (!inV (V.int (0 + (i : Int))) ((totP (lotsC ts ks.length) R0).map V.int)) = true; rw [ev]; rfl) (iteT ?_)
        refine ⟨_, rfl, _, kD, by rw [List.length_map]; omega, HD.same_put s3 nD, ?_⟩
        rw [upd_same, leftK_yes hc, List.map_append]
        show some (HO.lst (_ ++ [V.int (0 + (i : Int))])) = _
        rw [e0]
        rfl
      | true =>
        rw [hc] at ev
        refine ite_eq false (by show (!inV (V.int (0 + (i : Int))) ((totP (lotsC ts ks.length) R0).map V.int)) = false; rw [ev]; rfl) (iteF ⟨s3, ?_⟩)
        rw [leftK_no hc]
        exact kD
    rintro H5 ⟨s5, kD⟩
    rw [Int.toNat_natCast] at kD
    refine ⟨D, _, rfl, .inl (.inl (.inl kD)), fun H6 u4 s6 hu4 => ?_⟩
    have s46 := s5.trans s6
    have s06 := s1.trans (s2.trans (s24.trans s46))
    refine ⟨_, rfl, _, rfl, a, u4, _, ks, ts, rfl, hTab.mono s06, ok, hu4, by have := leftK_len (totP (lotsC ts ks.length) R0) ts.length; omega, fun H7 tb s7 nb hTb => ?_⟩
    rw [leftT_two (totP_asc _ _) totP_low] at hTb
    have okT : TabOk ks ((totP (lotsC ts ks.length) R0).map fun x => ts.getD x.toNat []) := ⟨ok.kinds, by rw [List.length_map]; have tl : (totP (lotsC ts ks.length) R0).length ≤ ts.length := tl; omega, fun c mc => by
      obtain ⟨x, mx, rfl⟩ := List.mem_map.mp mc
      have ⟨x0, x1⟩ := totP_low x mx
      have lt : x.toNat < ts.length := by omega
      rw [List.getD_eq_getElem?_getD, List.getElem?_eq_getElem lt]
      exact ok.lots _ (List.getElem_mem lt)⟩
    have lk := leftK_two (kdsP_asc ts ks.length R0) kdsP_low
    have less := less_ok (os := leftK (kdsP ts ks.length R0) ks.length) okT (by rw [lk]; exact kdsP_ne pc ne)
    refine ⟨_, rfl, tb, u3, _, ks, _, rfl, hTb, okT, seqT (s46.trans s7) hu3, by have := leftK_len (kdsP ts ks.length R0) ks.length; omega, fun _ => ?_, fun e => ?_⟩
    · rw [lk, List.map_map] at less ⊢
      exact ⟨less, fun H8 x s8 nx tab => fin less H8 x (s06.trans (s7.trans s8)) (none_back (s06.trans s7) nx) tab⟩
    · rw [lk] at e
      exact absurd e (kdsP_ne pc ne)
end
end K04
namespace CK
open PySem PySem.Spec PyProof.Rows L2 VG FR HD M9
def shiftS (row : List Int) (c : Int) (st : List Int) : List Int := (List.range st.length).map fun (j : Nat) => if row.contains (j : Int) then st.getD j 0 + c else st.getD j 0
def canW (rows : List (List Int)) (steps : List Int) : Nat → List Int → Bool
  | 0, _ => true
  | n + 1, st => rows.all fun row => steps.all fun s => [6 - s, 0 - s].any fun c => smallB 6 (shiftS row c st) && canW rows steps n (shiftS row c st)
def okC (rows : List (List Int)) (steps : List Int) (n : Nat) (st row : List Int) (c : Int) : Bool := smallB 6 (shiftS row c st) && canW rows steps n (shiftS row c st)
def stepOk (rows : List (List Int)) (steps : List Int) (n : Nat) (st row : List Int) (s : Int) : Bool := [6 - s, 0 - s].any (okC rows steps n st row)
def rowOk (rows : List (List Int)) (steps : List Int) (n : Nat) (st row : List Int) : Bool := steps.all (stepOk rows steps n st row)
theorem shiftS_take {row : List Int} {c : Int} {st : List Int} {i : Nat} (h : i < st.length) : (shiftS row c st).take (i + 1) = (shiftS row c st).take i ++ [if row.contains (i : Int) then st.getD i 0 + c else st.getD i 0] := by
  have e : (shiftS row c st)[i]? = some (if row.contains (i : Int) then st.getD i 0 + c else st.getD i 0) := by
    unfold shiftS
    rw [List.getElem?_map, List.getElem?_range h]
    rfl
  rw [List.take_add_one, e]
  rfl
theorem all_small (st : List Int) : (st.map fun e => decide (0 - 6 < e) && decide (e < 6)).all id = smallB 6 st := by
  unfold smallB
  rw [List.all_map]
  congr 1
  funext e
  show (decide (0 - 6 < e) && decide (e < 6)) = decide (-6 < e ∧ e < 6)
  rw [← Bool.decide_and]
  exact decide_eq_decide.mpr (by omega)
theorem shiftS_len (row : List Int) (c : Int) (st : List Int) : (shiftS row c st).length = st.length := by
  unfold shiftS
  rw [List.length_map, List.length_range]
def costW (r : Nat) : Nat → Nat
  | 0 => 0
  | n + 1 => 1 + r * (2 * costW r n)
def NotedW (rows : List (List Int)) (steps : List Int) (ys : List NEnt) : Prop := ∀ y ∈ ys, ∃ n st, y.1 = keyM n st ∧ y.2.2 = .bl (canW rows steps n st)
theorem NotedW.get {rows : List (List Int)} {steps : List Int} {ys : List NEnt} (h : NotedW rows steps ys) {n : Nat} {st : List Int} {v : V} (e : valN ys (keyM n st) = some v) : v = .bl (canW rows steps n st) := by
  obtain ⟨b, m⟩ := valN_mem e
  obtain ⟨n2, st2, e1, e2⟩ := h _ m
  obtain ⟨rfl, rfl⟩ := keyM_inj e1
  exact e2
theorem NotedW.put {rows : List (List Int)} {steps : List Int} {ys : List NEnt} (h : NotedW rows steps ys) {n : Nat} {st : List Int} {b : Addr} : NotedW rows steps (putN ys (keyM n st) b (.bl (canW rows steps n st))) := fun y m => by
  rcases mem_put m with e | m | ⟨z, mz, e, rfl⟩
  · rw [e]; exact ⟨n, st, rfl, rfl⟩
  · exact h y m
  · exact ⟨n, st, rfl, rfl⟩
structure CallsW (P : Program) (w : World) (K : PySem.W.Frag) (rows : List (List Int)) (steps : List Int) (H : Hp) (d : Addr) (ys : List NEnt) : Prop where
  kn : KnO P w K H d ys
  ok : NotedW rows steps ys
theorem CallsW.same {P : Program} {w : World} {K : PySem.W.Frag} {rows : List (List Int)} {steps : List Int} {H H' : Hp} {d : Addr} {ys : List NEnt} (c : CallsW P w K rows steps H d ys) (s : Same H H') : CallsW P w K rows steps H' d ys := ⟨c.kn.same s, c.ok⟩
def RowsL (K : PySem.W.Frag) (H : Hp) (a : Addr) (rows : List (List Int)) : Prop := ∃ xs, SqL K H a xs ∧ LR (IntsL K H) xs rows
theorem RowsL.mono {K : PySem.W.Frag} {H H' : Hp} {a : Addr} {rows : List (List Int)} (s : Same H H') (h : RowsL K H a rows) : RowsL K H' a rows := by
  obtain ⟨xs, h1, h2⟩ := h
  exact ⟨xs, seqLs s h1, LR.imp (fun _ _ q => IntsL.mono s q) h2⟩
def spCan (P : Program) (w : World) (K : PySem.W.Frag) (n : Nat) : Sp := fun vs H Q _ => ∃ (rl sl t d : Addr) (rows : List (List Int)) (steps st : List Int) (m : Nat) (ys : List NEnt), vs = [.ref rl, .ref sl, .ref t, .int m, .ref d] ∧ m < n ∧ RowsL K (Off d H) rl rows ∧ SqL K (Off d H) sl (steps.map V.int) ∧ SqT K (Off d H) t (st.map V.int) ∧ st.length ≤ 64 ∧ (∀ r ∈ rows, r.length ≤ 1000) ∧
  CallsW P w K rows steps H d ys ∧ ys.length + costW (rows.length * steps.length) m ≤ 16000000 ∧
  ∀ H' ys', Same (Off d H) (Off d H') → CallsW P w K rows steps H' d ys' → ys'.length ≤ ys.length + costW (rows.length * steps.length) m → Q (.bl (canW rows steps m st)) H'
end CK
namespace K04
open PySem PySem.Spec PyProof.Rows L2 VG FR CK HD M9
abbrev s__law_can : Stmt := topS 47
abbrev N__law_can : List Str := ["rows", "steps", "state", "left", "known", "key", "good", "row", "step", "held", "shift", "told", "at", "one"]
theorem sc__law_can : FnScope N__law_can ["rows", "steps", "state", "left", "known"] (defScope s__law_can) := ⟨rfl, rfl, rfl, by decide +kernel, rfl, by decide +kernel, by decide +kernel⟩
section
variable {P : Program} {w : World} {K : PySem.W.Frag} {mg : Str → Option Value} {base : Heap}
theorem ok__law_can {f : Addr} {fd : FuncData} {k n : Nat} (F : Fun K "_law_can" "_law_can" s__law_can f fd) (C__law_can : Cl P w K mg base k "_law_can" (spCan P w K n)) (z_tuple : mg "tuple" = none) (z_range : mg "range" = none) (z_len : mg "len" = none) (z_all : mg "all" = none) : FnOk P w K mg base CX0 (k + 1) f fd ["rows", "steps", "state", "left", "known"] (spCan P w K (n + 1)) := by
  refine F.ok sc__law_can (fun vs H Q E h => ?_) (fun cdv A outer s H vs Q E hr h => ?_)
  · obtain ⟨_, _, _, _, _, _, _, _, _, rfl, _⟩ := h
    rfl
  · obtain ⟨rl, sl, t, d, rows, steps, st, m, ys, rfl, ln, hR, hS, hT, l64, rlen, cl, cost, fin⟩ := h
    refine ⟨_, (pss_cons (ps_if (pt_cmpR op_eq (pv 3) pe_int (nomark _))
      (pss_one (ps_ret pe_bl))
      pss_nil)
    (pss_cons (ps_set (i := 5) sc__law_can.nd rfl (.inl rfl) (pe_tup (pa_cons (pv 3) (pa_cons (pv 2) pa_nil))))
    (pss_cons (ps_if (pt_cmpR (show OpR _ (compareOp .In) (rNIn P w K) from op_nin (units16 hr)) (pv 5) (pv 4) rfl)
      (pss_one (ps_ret (pe_nget (units16 hr) (pv 4) (pv 5) (fun _ _ => rfl))))
      pss_nil)
    (pss_cons (ps_set (i := 6) sc__law_can.nd rfl (.inl rfl) pe_bl)
    (pss_cut (ps_for PassesOwn.never rfl (pi_list (pv 0)) (pg_name (i := 7) sc__law_can.nd rfl (.inr rfl))
      (pss_one (ps_for PassesOwn.never rfl (pi_list (pv 1)) (pg_name (i := 8) sc__law_can.nd rfl (.inl rfl))
        (pss_cons (ps_set (i := 9) sc__law_can.nd rfl (.inl rfl) (pe_not (pv 6)))
        (pss_cut (ps_for PassesOwn.never rfl (pi_list (pe_lst (pa_cons (pe_op op_sub pe_int (pv 8)) (pa_cons (pe_op op_sub pe_int (pv 8)) pa_nil)))) (pg_name (i := 10) sc__law_can.nd rfl (.inr rfl))
          (pss_cons (ps_set (i := 11) sc__law_can.nd rfl (.inl rfl) (pe_callTy call_tupE (by rfl) z_tuple (by decide +kernel) (pa_cons (pe_lc (own := [("at", 12)]) (by rfl) sc__law_can.nd (pi_range1 (by rfl) z_range (pa_cons (pe_callB call_len_seq (by rfl) z_len (by decide +kernel) (pa_cons (pv 2) pa_nil)) pa_nil)) (blkOk_by (own := [("at", 12)]) (N := N__law_can) (sc := defScope s__law_can) (by decide +kernel)) (fun _ _ _ _ _ => (pg_name (i := 12) sc__law_can.nd rfl (.inl rfl))) (fun _ _ _ _ _ => pts_nil) (fun _ _ _ _ _ => (pe_ifExp (pt_cmpR (show OpR _ (compareOp .In) (rIn K false) from op_in_seq) (pv 12) (pv 7) rfl) (pe_op op_add (pe_ix (show IxR _ (rIxT K) from ix_tup) (pv 2) (pv 12) (fun _ _ => rfl)) (pv 10)) (pe_ix (show IxR _ (rIxT K) from ix_tup) (pv 2) (pv 12) (fun _ _ => rfl))))) pa_nil)))
          (pss_one (ps_if (PW.pt (pw_and (pt_not (pt_val (pv 9))) (pw_and1 (pt_val (pe_callB (cr_all rfl) (by rfl) z_all (by decide +kernel) (pa_cons (pe_lc (own := [("one", 13)]) (by rfl) sc__law_can.nd (pi_tup (pv 11)) (blkOk_by (own := [("one", 13)]) (N := N__law_can) (sc := defScope s__law_can) (by decide +kernel)) (fun _ _ _ _ _ => (pg_name (i := 13) sc__law_can.nd rfl (.inl rfl))) (fun _ _ _ _ _ => pts_nil) (fun _ _ _ _ _ => (pe_chain op_lt op_lt (pe_op op_sub pe_int pe_int) (pv 13) pe_int))) pa_nil))))))
            (pss_one (ps_set (i := 9) sc__law_can.nd rfl (.inl rfl) (pe_cl C__law_can hr (Nat.le_refl _) rfl (pa_cons (pv 0) (pa_cons (pv 1) (pa_cons (pv 11) (pa_cons (pe_op op_sub (pv 3) pe_int) (pa_cons (pv 4) pa_nil))))))))
            pss_nil))))
        (pss_one (ps_set (i := 6) sc__law_can.nd rfl (.inl rfl) (pe_and (pv 6) (pe_one (pv 9))))))))))
    (pss_cons (ps_nput (units16 hr) (pv 4) (pv 5) (pv 6) (by rfl))
    (pss_one (ps_ret (pv 6))))))))), ?_⟩
    have big : sizeLine = 16777216 := by decide
    refine ⟨_, rfl, rfl, _, rfl, ite2 (fun z => ?_) (fun z => ?_)⟩
    · have m0 : m = 0 := by
        have := V.int.inj (of_decide_eq_true z)
        omega
      subst m0
      exact fin H ys (Same.refl _) cl (Nat.le_add_right _ _)
    have m1 : m ≠ 0 := fun e => z (by rw [e]; rfl)
    obtain ⟨m', rfl⟩ : ∃ m', m = m' + 1 := ⟨m - 1, by omega⟩
    clear z m1
    refine ⟨_, rfl, _, rfl, by show 2 ≤ sizeLine; decide, fun T nT => ?_⟩
    generalize eH1 : L2.upd H T _ = H1
    have s1 := same_of nT eH1
    have kT := at_of eH1
    clear eH1
    have s1' := off_mono (d := d) s1
    have cl1 := cl.same s1
    have kd1 := cl1.kn.at_
    have hT1 := seqT s1' hT
    have hR1 := hR.mono s1'
    have hS1 := seqLs s1' hS
    have ky1 : NestA K (Off d H1) (keyM (m' + 1) st, T) := key_at (sqT_off (.inl (.inl kT)) kd1) hT1
    have so1 := off_same d H1
    have fin1 : ∀ H' ys', Same (Off d H1) (Off d H') → CallsW P w K rows steps H' d ys' → ys'.length ≤ ys.length + costW (rows.length * steps.length) (m' + 1) → Q (.bl (canW rows steps (m' + 1) st)) H' := fun H' ys' s => fin H' ys' (s1'.trans s)
    have cm : costW (rows.length * steps.length) (m' + 1) = 1 + rows.length * steps.length * (2 * costW (rows.length * steps.length) m') := rfl
    clear fin s1 s1' cl hT hR hS nT kT
    refine ⟨_, rfl, _, rfl, d, T, ys, _, rfl, rfl, cl1.kn, ky1.mono so1, ?_⟩
    cases hv : valN ys (keyM (m' + 1) st) with
    | some v =>
      refine ⟨_, rfl, iteT ⟨_, rfl, _, rfl, d, T, ys, keyM (m' + 1) st, v, rfl, rfl, cl1.kn, ky1.mono so1, hv, ?_⟩⟩
      have e := cl1.ok.get hv
      rw [e]
      exact fin1 H1 ys (Same.refl _) cl1 (Nat.le_add_right _ _)
    | none =>
      refine ⟨_, rfl, iteF ?_⟩
      generalize hc : costW (rows.length * steps.length) m' = c at cm
      have bnd : ∀ q, q ≤ rows.length * steps.length * 2 → q * c ≤ rows.length * steps.length * (2 * c) := fun q h => by
        rw [← Nat.mul_assoc]
        exact Nat.mul_le_mul_right c h
      refine ⟨fun σ H' => (∃ y7 y8 y9 y10 y11 : Option V, σ = [some (.ref rl), some (.ref sl), some (.ref t), some (.int ((m' + 1 : Nat) : Int)), some (.ref d), some (.ref T), some (.bl (canW rows steps (m' + 1) st)), y7, y8, y9, y10, y11, none, none]) ∧ ∃ ys', Same (Off d H1) (Off d H') ∧ CallsW P w K rows steps H' d ys' ∧ ys'.length ≤ ys.length + rows.length * steps.length * (2 * c), ?_, ?_⟩
      · obtain ⟨rx, hRx, hRs⟩ := hR1
        have lrx := LR.len hRs
        refine ⟨_, rfl, rl, rfl, ⟨_, seqLs so1 hRx⟩, ?_⟩
        refine for_it (walk_list (K := K) (a := rl) (xs := rx)) (fun i σ H' => (∃ y7 y8 y9 y10 y11 : Option V, σ = [some (.ref rl), some (.ref sl), some (.ref t), some (.int ((m' + 1 : Nat) : Int)), some (.ref d), some (.ref T), some (.bl ((rows.take i).all (rowOk rows steps m' st))), y7, y8, y9, y10, y11, none, none]) ∧ ∃ ys', Same (Off d H1) (Off d H') ∧ CallsW P w K rows steps H' d ys' ∧ ys'.length ≤ ys.length + i * steps.length * 2 * c)
          ⟨⟨_, _, _, _, _, rfl⟩, ys, Same.refl _, cl1, by omega⟩ (fun i σ H' _ h => ?_) ?_ ?_
        · obtain ⟨_, _, s, _⟩ := h
          exact seqLs (s.trans (off_same d H')) hRx
        · rintro i v σ H2 H3 hi ⟨⟨y7, y8, y9, y10, y11, rfl⟩, ys2, s2, cl2, l2⟩ ⟨rfl, ev⟩
          obtain ⟨row, er, tr, rfl, htr⟩ := LR.get hRs ev
          have ir : i < rows.length := by omega
          have isl : (i + 1) * steps.length ≤ rows.length * steps.length := Nat.mul_le_mul_right _ ir
          rw [Nat.succ_mul] at isl
          have rl1000 := rlen row (List.mem_of_getElem? er)
          refine ⟨_, rfl, sl, rfl, ⟨_, seqLs (s2.trans (off_same d H3)) hS1⟩, ?_⟩
          refine for_it (walk_list (K := K) (a := sl) (xs := steps.map V.int)) (fun j σ H' => (∃ y8 y9 y10 y11 : Option V, σ = [some (.ref rl), some (.ref sl), some (.ref t), some (.int ((m' + 1 : Nat) : Int)), some (.ref d), some (.ref T), some (.bl ((rows.take i).all (rowOk rows steps m' st) && (steps.take j).all (stepOk rows steps m' st row))), some (.ref tr), y8, y9, y10, y11, none, none]) ∧ ∃ ys', Same (Off d H1) (Off d H') ∧ CallsW P w K rows steps H' d ys' ∧ ys'.length ≤ ys.length + (i * steps.length + j) * 2 * c)
            ⟨⟨_, _, _, _, by rw [List.take_zero, List.all_nil, Bool.and_true]; rfl⟩, ys2, s2, cl2, l2⟩ (fun j σ H' _ h => ?_) ?_ ?_
          · obtain ⟨_, _, s, _⟩ := h
            exact seqLs (s.trans (off_same d H')) hS1
          · clear s2 cl2 l2 ys2
            rintro j v σ H4 H5 hj ⟨⟨y8, y9, y10, y11, rfl⟩, ys4, s4, cl4, l4⟩ ⟨rfl, ew⟩
            rw [List.getElem?_map] at ew
            obtain ⟨sp, es, rfl⟩ := Option.map_eq_some_iff.mp ew
            have jl : j < steps.length := by rw [List.length_map] at hj; exact hj
            have en : ((rows.take i).all (rowOk rows steps m' st) && (steps.take (j + 1)).all (stepOk rows steps m' st row)) = ((rows.take i).all (rowOk rows steps m' st) && (steps.take j).all (stepOk rows steps m' st row) && stepOk rows steps m' st row sp) := by
              rw [List.take_add_one, es, List.all_append]
              show (_ && (_ && (stepOk rows steps m' st row sp && true))) = _
              rw [Bool.and_true, Bool.and_assoc]
            rw [en]
            generalize ((rows.take i).all (rowOk rows steps m' st) && (steps.take j).all (stepOk rows steps m' st row)) = gd
            refine ⟨_, rfl, _, rfl, ?_⟩
            refine ⟨fun σ H' => (∃ y10 y11 : Option V, σ = [some (.ref rl), some (.ref sl), some (.ref t), some (.int ((m' + 1 : Nat) : Int)), some (.ref d), some (.ref T), some (.bl gd), some (.ref tr), some (.int sp), some (.bl (!gd || stepOk rows steps m' st row sp)), y10, y11, none, none]) ∧ ∃ ys', Same (Off d H1) (Off d H') ∧ CallsW P w K rows steps H' d ys' ∧ ys'.length ≤ ys.length + (i * steps.length + j + 1) * 2 * c, ?_, ?_⟩
            · refine ⟨_, rfl, _, _, rfl, rfl, _, rfl, _, _, rfl, rfl, by show 2 ≤ sizeLine; decide, fun L nL => ?_⟩
              generalize eH6 : L2.upd H5 L _ = H6
              have s6 := same_of nL eH6
              have kL : H6 L = some (.lst ([6 - sp, 0 - sp].map V.int)) := at_of eH6
              clear eH6
              have cl6 := cl4.same s6
              have s6' := s4.trans (off_mono (d := d) s6)
              have kL6 : SqL K (Off d H6) L ([6 - sp, 0 - sp].map V.int) := sqL_off (.inl (.inl kL)) cl6.kn.at_
              refine ⟨L, rfl, ⟨_, .inl (.inl kL)⟩, ?_⟩
              refine for_it (walk_list (K := K) (a := L) (xs := [6 - sp, 0 - sp].map V.int)) (fun l σ H' => (∃ y10 y11 : Option V, σ = [some (.ref rl), some (.ref sl), some (.ref t), some (.int ((m' + 1 : Nat) : Int)), some (.ref d), some (.ref T), some (.bl gd), some (.ref tr), some (.int sp), some (.bl (!gd || ([6 - sp, 0 - sp].take l).any (okC rows steps m' st row))), y10, y11, none, none]) ∧ Same (Off d H6) (Off d H') ∧ ∃ ys', CallsW P w K rows steps H' d ys' ∧ ys'.length ≤ ys.length + ((i * steps.length + j) * 2 + l) * c)
                ⟨⟨_, _, by rw [List.take_zero, List.any_nil, Bool.or_false]; rfl⟩, Same.refl _, ys4, cl6, l4⟩ (fun l σ H' _ h => ?_) ?_ ?_
              · exact seqLs (h.2.1.trans (off_same d H')) kL6
              · clear cl4 cl6 l4 ys4 kL nL
                rintro l v σ H7 H8 hl ⟨⟨y10, y11, rfl⟩, s8, ys8, cl8, l8⟩ ⟨rfl, ex⟩
                rw [List.getElem?_map] at ex
                obtain ⟨sh, esh, rfl⟩ := Option.map_eq_some_iff.mp ex
                have l2 : l < 2 := by
                  have := (List.getElem?_eq_some_iff.mp esh).1
                  exact this
                have an : ([6 - sp, 0 - sp].take (l + 1)).any (okC rows steps m' st row) = (([6 - sp, 0 - sp].take l).any (okC rows steps m' st row) || okC rows steps m' st row sh) := by
                  rw [List.take_add_one, esh, List.any_append]
                  show (_ || (okC rows steps m' st row sh || false)) = _
                  rw [Bool.or_false]
                have s18 := s6'.trans s8
                have so8 := off_same d H8
                have hT8 := seqT (s18.trans so8) hT1
                -- the state behind
                have lst : (st.map V.int).length = st.length := List.length_map _
                refine ⟨_, rfl, t, _, rfl, .inr hT8, _, rfl, by rw [lst]; omega, by rw [lst]; omega, fun D nD => ?_⟩
                rw [lst]
                refine lc_it (walk_range (lo := 0) (n := ((st.length : Nat) : Int).toNat)) (fun i H' => Same H8 H' ∧ H' D = some (.lst (((shiftS row sh st).take i).map V.int))) ⟨same_upd nD, upd_same⟩ (fun _ _ _ _ => trivial) ?_ ?_
                · rintro q v H9 H10 hq ⟨s9, kD⟩ ⟨e, rfl⟩
                  subst e
                  have hq2 : q < st.length := by have : q < ((st.length : Nat) : Int).toNat := hq; omega
                  have e0 : (0 : Int) + (q : Nat) = (q : Nat) := Int.zero_add _
                  have hT9 := seqT s9 hT8
                  have eq : st[q]? = some (st.getD q 0) := by rw [List.getD_eq_getElem?_getD, List.getElem?_eq_getElem hq2]; rfl
                  have eat : atI (st.map V.int) ((0 : Int) + (q : Nat)) = some (.int (st.getD q 0)) := by
                    rw [e0]
                    exact atI_nat (by rw [List.getElem?_map, eq]; rfl)
                  have htr9 := seqLs (s18.trans (so8.trans s9)) htr
                  refine ⟨rfl, _, rfl, _, rfl, tr, row.map V.int, rfl, .inl htr9, rfl, flat_ints row, _, rfl, ?_⟩
                  have ev : inV (V.int (0 + (q : Int))) (row.map V.int) = row.contains (q : Int) := by rw [e0, inV_ints]
                  have tk := shiftS_take (row := row) (c := sh) hq2
                  have put : ∀ z : Int, z = (if row.contains (q : Int) then st.getD q 0 + sh else st.getD q 0) → ∃ acc, H10 D = some (.lst acc) ∧ acc.length < sizeLine ∧ Same H8 (L2.upd H10 D (.lst (acc ++ [.int z]))) ∧ L2.upd H10 D (.lst (acc ++ [.int z])) D = some (.lst (((shiftS row sh st).take (q + 1)).map V.int)) := fun z ez => by
                    refine ⟨_, kD, ?_, HD.same_put s9 nD, ?_⟩
                    · rw [List.length_map, List.length_take]
                      omega
                    · rw [upd_same, tk, ← ez, List.map_append]
                      rfl
                  cases hc : row.contains (q : Int) with
                  | true =>
                    rw [hc] at ev
                    refine ite_eq true (by show inV (V.int (0 + (q : Int))) (row.map V.int) = true; exact ev) (iteT ?_)
                    exact ⟨_, rfl, _, rfl, t, _, _, _, rfl, rfl, hT9, eat, _, rfl, _, _, rfl, rfl, put _ (by rw [hc]; rfl)⟩
                  | false =>
                    rw [hc] at ev
                    refine ite_eq false (by show inV (V.int (0 + (q : Int))) (row.map V.int) = false; exact ev) (iteF ?_)
                    exact ⟨_, rfl, _, rfl, t, _, _, _, rfl, rfl, hT9, eat, put _ (by rw [hc]; rfl)⟩
                rintro H9 ⟨s9, kD⟩
                rw [Int.toNat_natCast, ← shiftS_len row sh st, List.take_length] at kD
                refine ⟨D, _, rfl, .inl (.inl (.inl kD)), fun H10 u s10 hu => ?_⟩
                have s810 := s9.trans s10
                have cl10 := cl8.same s810
                have s8' := s8.trans (off_mono (d := d) s810)
                have hl := shiftS_len row sh st
                clear kD nD s9 s10 cl8 s18 so8 hT8
                -- held
                refine ⟨_, rfl, _, rfl, ?_⟩
                rw [an]
                have l8' : ys8.length ≤ ys.length + ((i * steps.length + j) * 2 + (l + 1)) * c := by
                  have := Nat.mul_le_mul_right c (show (i * steps.length + j) * 2 + l ≤ (i * steps.length + j) * 2 + (l + 1) by omega)
                  omega
                generalize ([6 - sp, 0 - sp].take l).any (okC rows steps m' st row) = ho
                have og : ∀ x y : Bool, (!gd || (x || y)) = ((!gd || x) || y) := fun x y => (Bool.or_assoc _ _ _).symm
                rw [og]
                cases hh : (!gd || ho) with
                | true =>
                  rw [Bool.true_or]
                  exact iteF ⟨⟨_, _, rfl⟩, s8', ys8, cl10, l8'⟩
                | false =>
                  rw [Bool.false_or]
                  refine iteT ⟨_, rfl, u, rfl, ⟨_, hu⟩, fun D nD => ?_⟩
                  refine lc_it (walk_tup (K := K) (a := u) (xs := (shiftS row sh st).map V.int)) (fun q H' => Same H10 H' ∧ H' D = some (.lst ((((shiftS row sh st).map fun e => decide (0 - 6 < e) && decide (e < 6)).take q).map V.bl))) ⟨same_upd nD, upd_same⟩ (fun q H' _ h => seqT h.1 hu) ?_ ?_
                  · rintro q v H11 H12 hq ⟨s11, kD⟩ ⟨rfl, eq⟩
                    rw [List.getElem?_map] at eq
                    obtain ⟨e, ee, rfl⟩ := Option.map_eq_some_iff.mp eq
                    have put : ∀ b : Bool, b = (decide (0 - 6 < e) && decide (e < 6)) → ∃ acc, H12 D = some (.lst acc) ∧ acc.length < sizeLine ∧ Same H10 (L2.upd H12 D (.lst (acc ++ [.bl b]))) ∧ L2.upd H12 D (.lst (acc ++ [.bl b])) D = some (.lst ((((shiftS row sh st).map fun e => decide (0 - 6 < e) && decide (e < 6)).take (q + 1)).map V.bl)) := fun b eb => by
                      refine ⟨_, kD, ?_, HD.same_put s11 nD, ?_⟩
                      · rw [List.length_map, List.length_take, List.length_map]
                        omega
                      · rw [upd_same, List.take_add_one, List.getElem?_map, ee, List.map_append, eb]
                        rfl
                    refine ⟨rfl, _, _, rfl, rfl, _, rfl, _, _, rfl, rfl, _, rfl, ?_⟩
                    cases h1 : decide ((0 : Int) - 6 < e) with
                    | true =>
                      refine iteT ⟨_, _, rfl, rfl, ?_⟩
                      exact put _ (by rw [h1, Bool.true_and])
                    | false =>
                      refine iteF ?_
                      exact put _ (by rw [h1, Bool.false_and])
                  rintro H11 ⟨s11, kD⟩
                  rw [List.length_map, ← List.length_map (f := fun e => decide ((0 : Int) - 6 < e) && decide (e < 6)), List.take_length] at kD
                  refine ⟨D, _, rfl, .inl (.inl kD), _, rfl, ?_⟩
                  rw [all_small]
                  have cl11 := cl10.same s11
                  have s11' := s8'.trans (off_mono (d := d) s11)
                  have hu11 := seqT s11 hu
                  clear kD nD cl10
                  cases sm : smallB 6 (shiftS row sh st) with
                  | false =>
                    have e : okC rows steps m' st row sh = false := by
                      unfold okC
                      rw [sm, Bool.false_and]
                    rw [e]
                    exact iteF ⟨⟨_, _, rfl⟩, s11', ys8, cl11, l8'⟩
                  | true =>
                    have e : okC rows steps m' st row sh = canW rows steps m' (shiftS row sh st) := by
                      unfold okC
                      rw [sm, Bool.true_and]
                    rw [e]
                    have t11 := s6'.trans s11'
                    have bb := bnd ((i * steps.length + j) * 2 + (l + 1)) (by omega)
                    have bx : ((i * steps.length + j) * 2 + (l + 1)) * c = ((i * steps.length + j) * 2 + l) * c + c := by rw [← Nat.add_assoc, Nat.succ_mul]
                    refine iteT ⟨_, rfl, _, rfl, _, rfl, _, rfl, _, _, rfl, rfl, _, rfl, rl, sl, u, d, rows, steps, shiftS row sh st, m', ys8, ?_, by omega, ⟨rx, seqLs t11 hRx, LR.imp (fun _ _ q => IntsL.mono t11 q) hRs⟩, seqLs t11 hS1, sqT_off hu11 cl11.kn.at_, by omega, rlen, cl11, by rw [hc]; omega, fun H12 ys12 s12 cl12 l12 => ?_⟩
                    · show [V.ref rl, V.ref sl, V.ref u, V.int (((m' + 1 : Nat) : Int) - 1), V.ref d] ++ [] = _
                      rw [show (((m' + 1 : Nat) : Int) - 1) = (m' : Int) by omega]
                      rfl
                    · rw [hc] at l12
                      exact ⟨⟨_, _, rfl⟩, s11'.trans s12, ys12, cl12, by omega⟩
              · rintro σ H7 ⟨⟨y10, y11, rfl⟩, s7, ys7, cl7, l7⟩
                refine ⟨⟨y10, y11, rfl⟩, ys7, s6'.trans s7, cl7, ?_⟩
                have l7 : ys7.length ≤ ys.length + ((i * steps.length + j) * 2 + 2) * c := l7
                rw [show (i * steps.length + j + 1) * 2 = (i * steps.length + j) * 2 + 2 by omega]
                exact l7
            · rintro σ H6 ⟨⟨y10, y11, rfl⟩, ys6, s6, cl6, l6⟩
              refine ⟨_, rfl, _, rfl, ?_⟩
              cases gd with
              | false => exact iteF ⟨⟨_, _, _, _, rfl⟩, ys6, s6, cl6, l6⟩
              | true => exact iteT ⟨_, rfl, ⟨_, _, _, _, rfl⟩, ys6, s6, cl6, l6⟩
          · rintro σ H4 ⟨⟨y8, y9, y10, y11, rfl⟩, ys4, s4, cl4, l4⟩
            rw [List.length_map, List.take_length] at *
            have e : (rows.take (i + 1)).all (rowOk rows steps m' st) = ((rows.take i).all (rowOk rows steps m' st) && steps.all (stepOk rows steps m' st row)) := by
              rw [List.take_add_one, er, List.all_append]
              show (_ && (rowOk rows steps m' st row && true)) = _
              rw [Bool.and_true]
              rfl
            refine ⟨⟨some (.ref tr), y8, y9, y10, y11, ?_⟩, ys4, s4, cl4, ?_⟩
            · rw [e]
            · rw [Nat.succ_mul]
              exact l4
        · rintro σ H2 ⟨⟨y7, y8, y9, y10, y11, rfl⟩, ys2, s2, cl2, l2⟩
          rw [lrx] at l2
          refine ⟨⟨y7, y8, y9, y10, y11, by rw [lrx, List.take_length]; rfl⟩, ys2, s2, cl2, ?_⟩
          rw [← Nat.mul_assoc]
          exact l2
      · rintro σ H2 ⟨⟨y7, y8, y9, y10, y11, rfl⟩, ys2, s2, cl2, l2⟩
        have ky2 := ky1.mono s2
        refine ⟨_, rfl, _, rfl, _, rfl, d, T, ys2, keyM (m' + 1) st, rfl, rfl, cl2.kn, ky2.mono (off_same d H2), by omega, trivial, _, rfl, ?_⟩
        refine fin1 _ (putN ys2 (keyM (m' + 1) st) T (.bl (canW rows steps (m' + 1) st))) (by rw [off_upd]; exact s2) ⟨cl2.kn.put ky2 trivial, cl2.ok.put⟩ ?_
        have := len_put ys2 (keyM (m' + 1) st) T (.bl (canW rows steps (m' + 1) st))
        omega
end
end K04
namespace CK
open PySem PySem.Spec PyProof.Rows L2 VG FR HD M9
def rowK (ts : List (List Int)) (k : Nat) : List Int := pick (fun j => (ts.getD j []).contains (k : Int)) ts.length
def keptW (ts : List (List Int)) (m : Nat) (steps : List Int) (n : Nat) : Bool := canW ((List.range m).map (rowK ts)) steps n (List.replicate ts.length 0)
def spKeptW (K : PySem.W.Frag) (C : Addr) : Sp := fun vs H Q _ => ∃ (a sl : Addr) (ks : List Str) (ts : List (List Int)) (steps : List Int) (n : Nat), vs = [.ref a, .ref sl, .int n] ∧ Tab K C H a ks ts ∧ TabOk ks ts ∧ SqL K H sl (steps.map V.int) ∧ n ≤ 4 ∧ costW (ks.length * steps.length) n ≤ 16000000 ∧
  ∀ H', Same H H' → Q (.bl (keptW ts ks.length steps n)) H'
end CK
namespace K04
open PySem PySem.Spec PyProof.Rows L2 VG FR CK HD M9
abbrev s__law_kept : Stmt := topS 48
abbrev N__law_kept : List Str := ["table", "steps", "length", "rows", "kind", "at"]
theorem sc__law_kept : FnScope N__law_kept ["table", "steps", "length"] (defScope s__law_kept) := ⟨rfl, rfl, rfl, by decide +kernel, rfl, by decide +kernel, by decide +kernel⟩
section
variable {P : Program} {w : World} {K : PySem.W.Frag} {mg : Str → Option Value} {base : Heap}
theorem ok__law_can0 {f : Addr} {fd : FuncData} (F : Fun K "_law_can" "_law_can" s__law_can f fd) : FnOk P w K mg base CX0 1 f fd ["rows", "steps", "state", "left", "known"] (spCan P w K 0) := by
  refine F.ok sc__law_can (fun vs H Q E h => ?_) (fun cdv A outer s H vs Q E hr h => ?_)
  · obtain ⟨_, _, _, _, _, _, _, _, _, rfl, _⟩ := h
    rfl
  · obtain ⟨_, _, _, _, _, _, _, _, _, _, lt, _⟩ := h
    exact absurd lt (Nat.not_lt_zero _)
theorem can_chain {f : Addr} {fd : FuncData} (F : Fun K "_law_can" "_law_can" s__law_can f fd) (c : ∀ {k sp}, FnOk P w K mg base CX0 k f fd ["rows", "steps", "state", "left", "known"] sp → Cl P w K mg base k "_law_can" sp) (z_tuple : mg "tuple" = none) (z_range : mg "range" = none) (z_len : mg "len" = none) (z_all : mg "all" = none) : ∀ n, Cl P w K mg base (n + 1) "_law_can" (spCan P w K n)
  | 0 => c (ok__law_can0 F)
  | n + 1 => c (ok__law_can F (can_chain F c z_tuple z_range z_len z_all n) z_tuple z_range z_len z_all)
theorem ok__law_kept {f C : Addr} {fd : FuncData} (F : Fun K "_law_kept" "_law_kept" s__law_kept f fd) (T : TabC K C) (C__law_can : Cl P w K mg base 6 "_law_can" (spCan P w K 5)) (z_len : mg "len" = none) (z_range : mg "range" = none) : FnOk P w K mg base CX0 7 f fd ["table", "steps", "length"] (spKeptW K C) := by
  refine F.ok sc__law_kept (fun vs H Q E h => ?_) (fun cdv A outer s H vs Q E hr h => ?_)
  · obtain ⟨_, _, _, _, _, _, rfl, _⟩ := h
    rfl
  · obtain ⟨a, sl, ks, ts, steps, n, rfl, hTab, ok, hS, n4, cost, fin⟩ := h
    refine ⟨_, (pss_cons (ps_setLc (i := 3) (own := [("kind", 4)]) (by rfl) sc__law_kept.nd rfl rfl (sw_true rfl rfl rfl (by decide +kernel)) (pi_range1 (by rfl) z_range (pa_cons (pe_callB call_len_seq (by rfl) z_len (by decide +kernel) (pa_cons (pe_fld (pv 0) (by rfl)) pa_nil)) pa_nil)) (blkOk_by (own := [("kind", 4)]) (N := N__law_kept) (sc := defScope s__law_kept) (by decide +kernel)) (fun _ _ _ _ _ => (pg_name (i := 4) sc__law_kept.nd rfl (.inr rfl))) (fun _ _ _ _ _ => pts_nil) (fun _ _ _ _ _ => (pe_lc (own := [("at", 5)]) (by rfl) sc__law_kept.nd (pi_range1 (by rfl) z_range (pa_cons (pe_callB (show CallR _ (.builtin "len") (rLenK K) from call_lenK) (by rfl) z_len (by decide +kernel) (pa_cons (show PE _ _ (tFld K (tVar 0) _) from pe_fld (pv 0) (by rfl)) pa_nil)) pa_nil)) (blkOk_by (own := [("at", 5)]) (N := N__law_kept) (sc := { kind := .function, names := [((".0" : String), .local), (("kind" : String), .cell), (("range" : String), .globalImplicit), (("len" : String), .globalImplicit), (("table" : String), .cell)], isGenerator := false, isCoroutine := false }) (by decide +kernel)) (fun _ _ _ _ _ => (pg_name (i := 5) sc__law_kept.nd rfl (.inl rfl))) (fun _ _ _ _ _ => (pts_one (pt_cmpR (show OpR _ (compareOp .In) (rIn K false) from op_in_seq) (pv 4) (pe_ix (show IxR _ (rIxT K) from ix_tup) (show PE _ _ (tFld K (tVar 0) _) from pe_fld (pv 0) (by rfl)) (pv 5) (fun _ _ => rfl)) rfl))) (fun _ _ _ _ _ => (pv 5)))))
    (pss_one (ps_ret (pe_cl C__law_can hr (by decide) rfl (pa_cons (pv 3) (pa_cons (pv 1) (pa_cons (pe_op (show OpR _ (binaryOp .Mult) (rRepA K) from op_repA) (pe_tup (pa_cons pe_int pa_nil)) (pe_callB call_len_seq (by rfl) z_len (by decide +kernel) (pa_cons (pe_fld (pv 0) (by rfl)) pa_nil))) (pa_cons (pv 2) (pa_cons pe_nnew pa_nil))))))))), ?_⟩
    have big : sizeLine = 16777216 := by decide
    have k12 := ok.kinds.2.1
    have t12 := ok.len
    have klen : (ks.map V.str).length = ks.length := List.length_map _
    obtain ⟨dx, kk, tt, ys, hO, hK, hT, hTs⟩ := id hTab
    have ly := hTs.len
    refine ⟨_, rfl, a, C, dx, _, .ref kk, rfl, hO, T.c, T.nk, rfl, kk, _, rfl, .inr hK, _, rfl, by rw [klen]; omega, by rw [klen]; omega, fun D nD => ?_⟩
    rw [klen]
    refine lc_it (walk_range (lo := 0) (n := ((ks.length : Nat) : Int).toNat)) (fun i H' => Same H H' ∧ ∃ vs, H' D = some (.lst vs) ∧ LR (IntsN K (fun a => a ≠ D) H') vs ((List.range i).map (rowK ts))) ⟨same_upd nD, [], upd_same, trivial⟩ (fun _ _ _ _ => trivial) ?_ ?_
    · rintro i v H1 H2 hi ⟨s1, vs, kD, hv⟩ ⟨e, rfl⟩
      subst e
      have hi2 : i < ks.length := by have : i < ((ks.length : Nat) : Int).toNat := hi; omega
      have e0 : (0 : Int) + (i : Nat) = (i : Nat) := Int.zero_add _
      have lv := LR.len hv
      rw [List.length_map, List.length_range] at lv
      have hO1 := s1 _ _ hO
      have hT1 := seqT s1 hT
      have hTs1 := hTs.mono s1
      refine ⟨rfl, _, rfl, a, C, dx, _, .ref tt, rfl, hO1, T.c, T.nt, rfl, tt, _, rfl, .inr hT1, _, rfl, by omega, by omega, fun L nL => ?_⟩
      rw [ly]
      have neL : L ≠ D := fun e => by rw [e, kD] at nL; cases nL
      refine lc_it (walk_range (lo := 0) (n := ((ts.length : Nat) : Int).toNat)) (fun j H' => Same H2 H' ∧ H' L = some (.lst ((pick (fun j => (ts.getD j []).contains (i : Int)) j).map V.int))) ⟨same_upd nL, upd_same⟩ (fun _ _ _ _ => trivial) ?_ ?_
      · rintro j v H3 H4 hj ⟨s3, kL⟩ ⟨e, rfl⟩
        subst e
        have hj2 : j < ts.length := by have : j < ((ts.length : Nat) : Int).toNat := hj; omega
        have ej : (0 : Int) + (j : Nat) = (j : Nat) := Int.zero_add _
        have ey : ys[j]? = some ys[j] := List.getElem?_eq_getElem (by omega)
        obtain ⟨tl, c, e1, ec, htl⟩ := hTs1.get ey
        have eat : atI ys ((0 : Int) + (j : Nat)) = some (.ref tl) := by
          rw [ej]
          exact atI_nat (by rw [ey, e1])
        have eg : ts.getD j [] = c := by rw [List.getD_eq_getElem?_getD, ec]; rfl
        refine ⟨rfl, _, rfl, _, rfl, a, C, dx, _, .ref tt, rfl, s3 _ _ hO1, T.c, T.nt, rfl, _, rfl, tt, _, _, _, rfl, rfl, seqT s3 hT1, eat, tl, c.map V.int, rfl, .inr (seqT s3 htl), rfl, flat_ints c, _, rfl, ?_⟩
        have ev : inV (V.int (0 + (i : Int))) (c.map V.int) = c.contains (i : Int) := by rw [e0, inV_ints]
        have pl := pick_len (fun j => (ts.getD j []).contains (i : Int)) j
        cases hc : c.contains (i : Int) with
        | true =>
          rw [hc] at ev
          refine ite_eq true (by show inV (V.int (0 + (i : Int))) (c.map V.int) = true; exact ev) (iteT ?_)
          refine ⟨_, rfl, _, kL, by rw [List.length_map]; omega, HD.same_put s3 nL, ?_⟩
          rw [upd_same, pick_yes (by rw [eg]; exact hc), List.map_append]
          show some (HO.lst (_ ++ [V.int (0 + (j : Int))])) = _
          rw [ej]
          rfl
        | false =>
          rw [hc] at ev
          refine ite_eq false (by show inV (V.int (0 + (i : Int))) (c.map V.int) = false; exact ev) (iteF ⟨s3, ?_⟩)
          rw [pick_no (by rw [eg]; exact hc)]
          exact kL
      · rintro H3 ⟨s3, kL⟩
        rw [Int.toNat_natCast] at kL
        have kD3 := s3 _ _ kD
        refine ⟨vs, kD3, by omega, HD.same_put (s1.trans s3) nD, vs ++ [.ref L], upd_same, ?_⟩
        rw [List.range_succ, List.map_append]
        exact LR.imp (fun _ _ q => IntsN.upd (fun _ n => n) q) (LR.append (LR.imp (fun _ _ q => IntsN.mono s3 q) hv) (show LR (IntsN K (fun a => a ≠ D) H3) [.ref L] [rowK ts i] from ⟨⟨L, rfl, neL, .inl (.inl kL)⟩, trivial⟩))
    rintro H1 ⟨s1, vs, kD, hv⟩
    rw [Int.toNat_natCast] at hv
    have hO1 := s1 _ _ hO
    have hT1 := seqT s1 hT
    refine ⟨_, rfl, _, rfl, by show 1 ≤ sizeLine; decide, fun z nz => ?_⟩
    generalize eH2 : L2.upd H1 z _ = H2
    have s2 := same_of nz eH2
    have kz := at_of eH2
    clear eH2
    refine ⟨_, rfl, a, C, dx, _, .ref tt, rfl, s2 _ _ hO1, T.c, T.nt, rfl, tt, _, rfl, .inr (seqT s2 hT1), z, ys.length, [.int 0], rfl, rfl, .inl (.inl kz), by simp, by omega, by decide, fun st H3 s3 hst => ?_⟩
    rw [rep_one, ly] at hst
    refine ⟨_, rfl, fun d nd => ?_⟩
    have s13 := s2.trans s3
    have sf := off_fresh (o := NDictO P w d []) nd
    have hD3 : SqL K H3 D vs := .inl (.inl (s13 _ _ kD))
    refine ⟨D, sl, st, d, (List.range ks.length).map (rowK ts), steps, List.replicate ts.length 0, n, [], rfl, by omega, ⟨vs, seqLs sf hD3, LR.imp (fun _ _ q => IntsL.mono (s13.trans sf) (IntsN.L q)) hv⟩, seqLs (s1.trans (s13.trans sf)) hS, ?_, by rw [List.length_replicate]; omega, fun r mr => ?_, ⟨KnO.new, fun y m => by cases m⟩, ?_, fun H' ys' s _ _ => fin H' (s1.trans (s13.trans (sf.trans (s.trans (off_same d H')))))⟩
    · rw [List.map_replicate]
      exact seqT sf hst
    · obtain ⟨k, _, rfl⟩ := List.mem_map.mp mr
      have := pick_len (fun j => (ts.getD j []).contains (k : Int)) ts.length
      show (pick _ _).length ≤ 1000
      omega
    · rw [List.length_map, List.length_range]
      show 0 + _ ≤ _
      omega
end
end K04
namespace CK
open PySem PySem.Spec PyProof.Rows L2 VG FR HD M9
def smA (L : List Nat) (g : Nat → Int) : Bool := L.all fun j => decide (-6 < g j ∧ g j < 6)
def stp (hit : Nat → Nat → Bool) (k : Nat) (c : Int) (g : Nat → Int) (j : Nat) : Int := if hit j k = true then g j + c else g j
def canA (L : List Nat) (hit : Nat → Nat → Bool) (ks : List Nat) (steps : List Int) : Nat → (Nat → Int) → Bool
  | 0, _ => true
  | d + 1, g => ks.all fun k => steps.all fun s => [6 - s, 0 - s].any fun c => smA L (stp hit k c g) && canA L hit ks steps d (stp hit k c g)
theorem canA_iff {L : List Nat} {hit : Nat → Nat → Bool} {ks : List Nat} {steps : List Int} {d : Nat} {g : Nat → Int} : canA L hit ks steps (d + 1) g = true ↔ ∀ k ∈ ks, ∀ s ∈ steps, ∃ c, (c = 6 - s ∨ c = 0 - s) ∧ smA L (stp hit k c g) = true ∧ canA L hit ks steps d (stp hit k c g) = true := by
  show (ks.all fun k => steps.all fun s => [6 - s, 0 - s].any fun c => smA L (stp hit k c g) && canA L hit ks steps d (stp hit k c g)) = true ↔ _
  rw [List.all_eq_true]
  refine forall_congr' fun k => forall_congr' fun hk => ?_
  rw [List.all_eq_true]
  refine forall_congr' fun s => forall_congr' fun hs => ?_
  rw [List.any_eq_true]
  constructor
  · rintro ⟨c, mc, h⟩
    rw [Bool.and_eq_true] at h
    exact ⟨c, by simpa using mc, h⟩
  · rintro ⟨c, mc, h⟩
    exact ⟨c, by simpa using mc, by rw [Bool.and_eq_true]; exact h⟩
theorem canA_mono {L : List Nat} {hit : Nat → Nat → Bool} {ks : List Nat} {steps : List Int} : ∀ {d : Nat} {g : Nat → Int}, canA L hit ks steps (d + 1) g = true → canA L hit ks steps d g = true
  | 0, _, _ => rfl
  | d + 1, g, h => canA_iff.mpr fun k hk s hs => by
    obtain ⟨c, mc, h1, h2⟩ := canA_iff.mp h k hk s hs
    exact ⟨c, mc, h1, canA_mono h2⟩
theorem smA_iff {L : List Nat} {g : Nat → Int} : smA L g = true ↔ ∀ j ∈ L, -6 < g j ∧ g j < 6 := by
  unfold smA
  rw [List.all_eq_true]
  exact forall_congr' fun j => forall_congr' fun _ => decide_eq_true_iff
/-- one set of totals by another -/
def RelG (L L' : List Nat) (hit' : Nat → Nat → Bool) (ks' : List Nat) (ψ : Nat → Nat) (g g' : Nat → Int) : Prop := ∀ j ∈ L', (ψ j ∈ L ∧ g' j = g (ψ j)) ∨ (g' j = 0 ∧ ∀ k ∈ ks', hit' j k = false)
theorem RelG.small {L L' : List Nat} {hit' : Nat → Nat → Bool} {ks' : List Nat} {ψ : Nat → Nat} {g g' : Nat → Int} (h : RelG L L' hit' ks' ψ g g') (s : smA L g = true) : smA L' g' = true := smA_iff.mpr fun j mj => by
  rcases h j mj with ⟨m, e⟩ | ⟨e, _⟩
  · rw [e]
    exact smA_iff.mp s _ m
  · rw [e]
    decide
theorem like_can {L L' : List Nat} {hit hit' : Nat → Nat → Bool} {ks ks' : List Nat} {steps : List Int} {ψ : Nat → Nat} (H2 : ∀ k' ∈ ks', (∃ k ∈ ks, ∀ j ∈ L', ψ j ∈ L → hit' j k' = hit (ψ j) k) ∨ ∀ j ∈ L', hit' j k' = false) : ∀ {d : Nat} {g g' : Nat → Int}, RelG L L' hit' ks' ψ g g' → smA L g = true → canA L hit ks steps d g = true → canA L' hit' ks' steps d g' = true
  | 0, _, _, _, _, _ => rfl
  | d + 1, g, g', r, sm, h => canA_iff.mpr fun k' hk' s hs => by
    rcases H2 k' hk' with ⟨k, hk, e⟩ | e
    · obtain ⟨c, mc, h1, h2⟩ := canA_iff.mp h k hk s hs
      have r2 : RelG L L' hit' ks' ψ (stp hit k c g) (stp hit' k' c g') := fun j mj => by
        rcases r j mj with ⟨m, e1⟩ | ⟨e1, e2⟩
        · refine .inl ⟨m, ?_⟩
          unfold stp
          rw [e j mj m, e1]
        · refine .inr ⟨?_, e2⟩
          unfold stp
          rw [e2 k' hk', if_neg Bool.false_ne_true, e1]
      exact ⟨c, mc, r2.small h1, like_can H2 r2 h1 h2⟩
    · have r2 : RelG L L' hit' ks' ψ g (stp hit' k' (6 - s) g') := fun j mj => by
        have z : stp hit' k' (6 - s) g' j = g' j := by
          unfold stp
          rw [e j mj, if_neg Bool.false_ne_true]
        rw [z]
        exact r j mj
      exact ⟨6 - s, .inl rfl, r2.small sm, like_can H2 r2 sm (canA_mono h)⟩
/-- apart ones together -/
theorem join_can {L : List Nat} {hit : Nat → Nat → Bool} {ks : List Nat} {steps : List Int} {Ps : List (List Nat × List Nat)} (hL : ∀ P ∈ Ps, ∀ j ∈ P.1, j ∈ L)
    (hk : ∀ k ∈ ks, (∃ P ∈ Ps, k ∈ P.2 ∧ (∀ j ∈ L, hit j k = true → j ∈ P.1) ∧ ∀ Q ∈ Ps, (∃ j ∈ Q.1, hit j k = true) → Q = P) ∨ ∀ j ∈ L, hit j k = false) : ∀ {d : Nat} {g : Nat → Int}, smA L g = true → (∀ P ∈ Ps, canA P.1 hit P.2 steps d g = true) → canA L hit ks steps d g = true
  | 0, _, _, _ => rfl
  | d + 1, g, sm, h => canA_iff.mpr fun k mk s hs => by
    have same : ∀ (Q : List Nat × List Nat) (c : Int), (∀ j ∈ Q.1, hit j k = false) → (∀ j ∈ Q.1, j ∈ L) → canA Q.1 hit Q.2 steps (d + 1) g = true → canA Q.1 hit Q.2 steps d (stp hit k c g) = true := fun Q c no sub hq => by
      refine like_can (ψ := id) (fun k' hk' => .inl ⟨k', hk', fun j _ _ => rfl⟩) (fun j mj => .inl ⟨mj, ?_⟩) (smA_iff.mpr fun j mj => smA_iff.mp sm j (sub j mj)) (canA_mono hq)
      unfold stp
      rw [no j mj, if_neg Bool.false_ne_true]
      rfl
    rcases hk k mk with ⟨P, mP, kP, h1, h2⟩ | no
    · obtain ⟨c, mc, h3, h4⟩ := canA_iff.mp (h P mP) k kP s hs
      have sm2 : smA L (stp hit k c g) = true := smA_iff.mpr fun j mj => by
        cases e : hit j k with
        | true => exact smA_iff.mp h3 j (h1 j mj e)
        | false =>
          unfold stp
          rw [e, if_neg Bool.false_ne_true]
          exact smA_iff.mp sm j mj
      refine ⟨c, mc, sm2, join_can hL hk sm2 fun Q mQ => ?_⟩
      by_cases e : ∃ j ∈ Q.1, hit j k = true
      · rw [h2 Q mQ e]
        exact h4
      · refine same Q c (fun j mj => ?_) (hL Q mQ) (h Q mQ)
        cases q : hit j k with
        | false => rfl
        | true => exact absurd ⟨j, mj, q⟩ e
    · have sm2 : smA L (stp hit k (6 - s) g) = true := smA_iff.mpr fun j mj => by
        unfold stp
        rw [no j mj, if_neg Bool.false_ne_true]
        exact smA_iff.mp sm j mj
      exact ⟨6 - s, .inl rfl, sm2, join_can hL hk sm2 fun Q mQ => same Q (6 - s) (fun j mj => no j (hL Q mQ j mj)) (hL Q mQ) (h Q mQ)⟩
def hitT (ts : List (List Int)) (j k : Nat) : Bool := (ts.getD j []).contains (k : Int)
theorem shift_map (ts : List (List Int)) (k : Nat) (c : Int) (g : Nat → Int) : shiftS (rowK ts k) c ((List.range ts.length).map g) = (List.range ts.length).map (stp (hitT ts) k c g) := by
  unfold shiftS
  rw [List.length_map, List.length_range]
  refine List.map_congr_left fun j mj => ?_
  have hj := List.mem_range.mp mj
  have e : ((List.range ts.length).map g).getD j 0 = g j := by
    rw [List.getD_eq_getElem?_getD, List.getElem?_map, List.getElem?_range hj]
    rfl
  rw [e]
  have e2 : (rowK ts k).contains (j : Int) = hitT ts j k := by
    rw [Bool.eq_iff_iff, List.contains_iff_mem]
    unfold rowK
    rw [mem_pick]
    constructor
    · rintro ⟨i, _, h, e⟩
      have : j = i := by omega
      rw [this]
      exact h
    · intro h
      exact ⟨j, hj, h, rfl⟩
  rw [e2]
  unfold stp
  cases hitT ts j k <;> rfl
theorem small_map (n : Nat) (g : Nat → Int) : smallB 6 ((List.range n).map g) = smA (List.range n) g := by
  unfold smallB smA
  rw [List.all_map]
  rfl
theorem can_map (ts : List (List Int)) (m : Nat) (steps : List Int) : ∀ (d : Nat) (g : Nat → Int), canW ((List.range m).map (rowK ts)) steps d ((List.range ts.length).map g) = canA (List.range ts.length) (hitT ts) (List.range m) steps d g
  | 0, _ => rfl
  | d + 1, g => by
    show (((List.range m).map (rowK ts)).all fun row => steps.all fun s => [6 - s, 0 - s].any fun c => smallB 6 (shiftS row c ((List.range ts.length).map g)) && canW ((List.range m).map (rowK ts)) steps d (shiftS row c ((List.range ts.length).map g))) = ((List.range m).all fun k => steps.all fun s => [6 - s, 0 - s].any fun c => smA (List.range ts.length) (stp (hitT ts) k c g) && canA (List.range ts.length) (hitT ts) (List.range m) steps d (stp (hitT ts) k c g))
    rw [List.all_map]
    congr 1
    funext k
    show (steps.all fun s => [6 - s, 0 - s].any fun c => smallB 6 (shiftS (rowK ts k) c ((List.range ts.length).map g)) && canW ((List.range m).map (rowK ts)) steps d (shiftS (rowK ts k) c ((List.range ts.length).map g))) = _
    congr 1
    funext s
    congr 1
    funext c
    rw [shift_map, small_map, can_map ts m steps d]
theorem kept_can (ts : List (List Int)) (m : Nat) (steps : List Int) (d : Nat) : keptW ts m steps d = canA (List.range ts.length) (hitT ts) (List.range m) steps d fun _ => 0 := by
  unfold keptW
  rw [← can_map]
  congr 1
  exact List.ext_getElem? fun j => by
    by_cases h : j < ts.length
    · rw [List.getElem?_replicate, if_pos h, List.getElem?_map, List.getElem?_range h]
      rfl
    · rw [List.getElem?_eq_none (by rw [List.length_replicate]; omega), List.getElem?_eq_none (by rw [List.length_map, List.length_range]; omega)]
theorem sm0 (L : List Nat) : smA L (fun _ => 0) = true := smA_iff.mpr fun _ _ => by decide
/-- from one table to another -/
theorem kept_like {ts ts' : List (List Int)} {m m' : Nat} {steps : List Int} {d : Nat} (ψ : Nat → Nat) (h1 : ∀ j, j < ts'.length → ψ j < ts.length ∨ ∀ k, k < m' → hitT ts' j k = false)
    (h2 : ∀ k', k' < m' → (∃ k, k < m ∧ ∀ j, j < ts'.length → ψ j < ts.length → hitT ts' j k' = hitT ts (ψ j) k) ∨ ∀ j, j < ts'.length → hitT ts' j k' = false) (h : keptW ts m steps d = true) : keptW ts' m' steps d = true := by
  rw [kept_can] at h ⊢
  refine like_can (ψ := ψ) (fun k' hk' => ?_) (fun j mj => ?_) (sm0 _) h
  · rcases h2 k' (List.mem_range.mp hk') with ⟨k, hk, e⟩ | e
    · exact .inl ⟨k, List.mem_range.mpr hk, fun j mj mp => e j (List.mem_range.mp mj) (List.mem_range.mp mp)⟩
    · exact .inr fun j mj => e j (List.mem_range.mp mj)
  · rcases h1 j (List.mem_range.mp mj) with e | e
    · exact .inl ⟨List.mem_range.mpr e, rfl⟩
    · exact .inr ⟨rfl, fun k mk => e k (List.mem_range.mp mk)⟩
theorem hit_app {ts us : List (List Int)} {j : Nat} (h : j < ts.length) (k : Nat) : hitT (ts ++ us) j k = hitT ts j k := by
  unfold hitT
  rw [List.getD_eq_getElem?_getD, List.getD_eq_getElem?_getD, List.getElem?_append_left h]
theorem hit_last (ts : List (List Int)) (c : List Int) (k : Nat) : hitT (ts ++ [c]) ts.length k = c.contains (k : Int) := by
  unfold hitT
  rw [List.getD_eq_getElem?_getD, List.getElem?_append_right (Nat.le_refl _), Nat.sub_self]
  rfl
/-- a further total that is empty or there already -/
theorem kept_more {ts : List (List Int)} {c : List Int} (hc : c = [] ∨ c ∈ ts) (m : Nat) (steps : List Int) (d : Nat) : keptW (ts ++ [c]) m steps d = keptW ts m steps d := by
  rw [Bool.eq_iff_iff]
  constructor
  · refine kept_like id (fun j hj => .inl (by rw [List.length_append]; show j < ts.length + 1; omega)) fun k hk => .inl ⟨k, hk, fun j hj _ => (hit_app hj k).symm⟩
  · rcases hc with rfl | mc
    · refine kept_like (fun j => j) (fun j hj => ?_) fun k hk => .inl ⟨k, hk, fun j hj hp => hit_app hp k⟩
      rw [List.length_append] at hj
      have hj : j < ts.length + 1 := hj
      by_cases e : j < ts.length
      · exact .inl e
      · have : j = ts.length := by omega
        subst this
        exact .inr fun k _ => by rw [hit_last]; rfl
    · obtain ⟨i, hi⟩ := List.mem_iff_getElem?.mp mc
      have il := (List.getElem?_eq_some_iff.mp hi).1
      refine kept_like (fun j => if j < ts.length then j else i) (fun j hj => .inl (by show (if j < ts.length then j else i) < ts.length; split <;> omega)) fun k hk => .inl ⟨k, hk, fun j hj _ => ?_⟩
      rw [List.length_append] at hj
      have hj : j < ts.length + 1 := hj
      by_cases e : j < ts.length
      · rw [if_pos e]
        exact hit_app e k
      · have : j = ts.length := by omega
        subst this
        rw [if_neg (Nat.lt_irrefl _), hit_last]
        unfold hitT
        rw [List.getD_eq_getElem?_getD, hi]
        rfl
theorem cls_alike {ts : List (List Int)} {n a : Nat} {cl c : List Int} {k k2 : Int} (ha : (classesL ts n)[a]? = some cl) (hk : k ∈ cl) (hk2 : k2 ∈ cl) (hc : c ∈ ts) : k ∈ c ↔ k2 ∈ c := by
  rw [classes_eq, List.getElem?_map] at ha
  obtain ⟨key, _, rfl⟩ := Option.map_eq_some_iff.mp ha
  obtain ⟨i, _, h1, rfl⟩ := mem_pick.mp hk
  obtain ⟨i2, _, h2, rfl⟩ := mem_pick.mp hk2
  have e1 : fT ts i = key := of_decide_eq_true h1
  have e2 : fT ts i2 = key := of_decide_eq_true h2
  obtain ⟨t, et⟩ := List.mem_iff_getElem?.mp hc
  have q1 : (t : Int) ∈ fT ts i ↔ c.contains (i : Int) = true := mem_tw et
  have q2 : (t : Int) ∈ fT ts i2 ↔ c.contains (i2 : Int) = true := mem_tw et
  rw [← List.contains_iff_mem, ← List.contains_iff_mem, ← q1, ← q2, e1, e2]
/-- classes for kinds -/
theorem kept_merged {ts ls : List (List Int)} {n : Nat} (ok : ∀ c ∈ ts, LotOk (n : Int) c) (h : ByCls ts n ls) (steps : List Int) (d : Nat) : keptW ls (classesL ts n).length steps d = keptW ts n steps d := by
  have key : ∀ (j a : Nat) (cl : List Int), j < ts.length → (classesL ts n)[a]? = some cl → ∀ k ∈ cl, hitT ls j a = (ts.getD j []).contains k := fun j a cl hj ha k hk => by
    have ec : ts[j]? = some ts[j] := List.getElem?_eq_getElem hj
    have hjl : j < ls.length := by rw [h.len]; exact hj
    have el : ls[j]? = some ls[j] := List.getElem?_eq_getElem hjl
    have hc := List.mem_of_getElem? ec
    have r := h.rel j _ _ ec el (a : Int)
    unfold hitT
    rw [List.getD_eq_getElem?_getD, List.getD_eq_getElem?_getD, ec, el]
    show ls[j].contains (a : Int) = ts[j].contains k
    rw [Bool.eq_iff_iff, List.contains_iff_mem, r]
    constructor
    · rintro ⟨k2, m2, e2⟩
      have ⟨k0, k1⟩ := (ok _ hc).2.1 k2 m2
      obtain ⟨i, rfl⟩ := Int.eq_ofNat_of_zero_le k0
      obtain ⟨b, cl2, g1, g2, g3⟩ := cls_one (n := n) hc (by omega) m2
      rw [num_of g1 g2 g3] at e2
      have e3 : b = a := by have := V.int.inj e2; omega
      subst e3
      rw [ha] at g1
      have g1 : cl = cl2 := Option.some.inj g1
      subst g1
      exact List.contains_iff_mem.mpr ((cls_alike ha hk g2 hc).mpr m2)
    · intro hk2
      have mk := List.contains_iff_mem.mp hk2
      have ⟨k0, k1⟩ := (ok _ hc).2.1 k mk
      obtain ⟨i, rfl⟩ := Int.eq_ofNat_of_zero_le k0
      obtain ⟨b, cl2, g1, g2, g3⟩ := cls_one (n := n) hc (by omega) mk
      have : a = b := classes_only ha g1 hk g2
      subst this
      exact ⟨(i : Int), mk, num_of g1 g2 g3⟩
  rw [Bool.eq_iff_iff]
  constructor
  · refine kept_like id (fun j hj => .inl (by show j < ls.length; rw [h.len]; exact hj)) fun k hk => ?_
    by_cases e : ∃ (a : Nat) (cl : List Int), (classesL ts n)[a]? = some cl ∧ (k : Int) ∈ cl
    · obtain ⟨a, cl, ha, mk⟩ := e
      exact .inl ⟨a, (List.getElem?_eq_some_iff.mp ha).1, fun j hj _ => (key j a cl hj ha k mk).symm⟩
    · refine .inr fun j hj => ?_
      cases q : hitT ts j k with
      | false => rfl
      | true =>
        unfold hitT at q
        rw [List.getD_eq_getElem?_getD, List.getElem?_eq_getElem hj] at q
        obtain ⟨a, cl, ha, mk, _⟩ := cls_one (n := n) (List.getElem_mem hj) hk (List.contains_iff_mem.mp q)
        exact absurd ⟨a, cl, ha, mk⟩ e
  · refine kept_like id (fun j hj => .inl (by show j < ts.length; rw [← h.len]; exact hj)) fun a ha => .inl ?_
    have ea : (classesL ts n)[a]? = some (classesL ts n)[a] := List.getElem?_eq_getElem ha
    generalize (classesL ts n)[a] = cl at ea
    have mc := List.mem_of_getElem? ea
    cases cl with
    | nil => exact absurd rfl (cls_ne _ mc)
    | cons x r =>
      obtain ⟨i, hi, e⟩ := classes_below mc (List.mem_cons_self (a := x) (l := r))
      refine ⟨i, hi, fun j hj _ => ?_⟩
      rw [key j a _ (by rw [← h.len]; exact hj) ea x List.mem_cons_self, e]
      rfl
/-- rows once, none empty -/
theorem kept_core {ls os : List (List Int)} (h : CoreR ls os) (m : Nat) (steps : List Int) (d : Nat) : keptW os m steps d = keptW ls m steps d := by
  have at_ : ∀ {a b : List (List Int)} {i j : Nat} (k : Nat), a.getD i [] = b.getD j [] → hitT a i k = hitT b j k := fun k e => by
    unfold hitT
    rw [e]
  rw [Bool.eq_iff_iff]
  constructor
  · refine kept_like (fun j => os.idxOf (ls.getD j [])) (fun j hj => ?_) fun k hk => .inl ⟨k, hk, fun j hj hp => at_ k ?_⟩
    · have ec : ls[j]? = some ls[j] := List.getElem?_eq_getElem hj
      have eg : ls.getD j [] = ls[j] := by rw [List.getD_eq_getElem?_getD, ec]; rfl
      rw [eg]
      by_cases e : ls[j] = []
      · refine .inr fun k _ => ?_
        unfold hitT
        rw [eg, e]
        rfl
      · exact .inl (List.idxOf_lt_length_iff.mpr ((h.2 _).mpr ⟨List.getElem_mem hj, e⟩))
    · have hp : os.idxOf (ls.getD j []) < os.length := hp
      rw [List.getD_eq_getElem?_getD (l := os), List.getElem?_eq_getElem hp, List.getElem_idxOf]
      rfl
  · refine kept_like (fun j => ls.idxOf (os.getD j [])) (fun j hj => .inl ?_) fun k hk => .inl ⟨k, hk, fun j hj hp => at_ k ?_⟩
    · have ec : os[j]? = some os[j] := List.getElem?_eq_getElem hj
      have eg : os.getD j [] = os[j] := by rw [List.getD_eq_getElem?_getD, ec]; rfl
      rw [eg]
      exact List.idxOf_lt_length_iff.mpr ((h.2 _).mp (List.getElem_mem hj)).1
    · have hp : ls.idxOf (os.getD j []) < ls.length := hp
      rw [List.getD_eq_getElem?_getD (l := ls), List.getElem?_eq_getElem hp, List.getElem_idxOf]
      rfl
end CK
namespace CK
open PySem PySem.Spec PyProof.Rows L2 VG FR HD M9
theorem piece_is {lots : List (List Int)} {m : Nat} (h : LotsB lots m) {s : Int} (hs : 0 ≤ s ∧ s < (m : Int)) : ∃ P, IsPiece lots s P := by
  classical
  refine ⟨(rangeL m).filter fun x => decide (Rch lots s x), List.Pairwise.filter _ ?_, fun x => ?_⟩
  · unfold rangeL
    rw [List.pairwise_map]
    exact List.pairwise_lt_range.imp fun h => by
      rename_i a b
      show Int.ofNat a < Int.ofNat b
      exact Int.ofNat_lt.mpr h
  · rw [List.mem_filter, decide_eq_true_eq, mem_range]
    exact ⟨fun h => h.2, fun r => ⟨r.low h hs, r⟩⟩
def tn (ts : List (List Int)) (n : Nat) (P : List Int) : List Nat := (totP (lotsC ts n) P).map Int.toNat
def kn (ts : List (List Int)) (n : Nat) (P : List Int) : List Nat := (kdsP ts n P).map Int.toNat
theorem mem_tn {ts : List (List Int)} {n : Nat} {P : List Int} {j : Nat} : j ∈ tn ts n P ↔ j < ts.length ∧ meetsB ((lotsC ts n).getD j []) P = true := by
  unfold tn
  rw [List.mem_map]
  constructor
  · rintro ⟨x, mx, rfl⟩
    obtain ⟨i, hi, h, rfl⟩ := mem_pick.mp mx
    rw [lotsC_len] at hi
    exact ⟨by rw [Int.toNat_natCast]; exact hi, by rw [Int.toNat_natCast]; exact h⟩
  · rintro ⟨h1, h2⟩
    exact ⟨(j : Int), mem_pick.mpr ⟨j, by rw [lotsC_len]; exact h1, h2, rfl⟩, rfl⟩
theorem mem_kn {ts : List (List Int)} {n : Nat} {P : List Int} {k : Nat} : k ∈ kn ts n P ↔ (k : Int) ∈ kdsP ts n P := by
  unfold kn
  rw [List.mem_map]
  constructor
  · rintro ⟨x, mx, rfl⟩
    have := kdsP_low x mx
    rw [Int.toNat_of_nonneg this.1]
    exact mx
  · intro h
    exact ⟨(k : Int), h, rfl⟩
theorem asc_nodup4 {K : List Int} (h : K.Pairwise (· < ·)) : K.Nodup := h.imp fun h => by omega
theorem idx_get4 {K : List Int} (h : K.Nodup) {i : Nat} (hi : i < K.length) : K.idxOf K[i] = i := by
  have l : K.idxOf K[i] < K.length := List.idxOf_lt_length_iff.mpr (List.getElem_mem hi)
  have e : K[K.idxOf K[i]] = K[i] := List.getElem_idxOf l
  exact (List.getElem_inj h).mp e
theorem newT_has {K c : List Int} (hK : K.Nodup) {i : Nat} (hi : i < K.length) : (newT K c).contains (i : Int) = c.contains K[i] := by
  rw [Bool.eq_iff_iff, List.contains_iff_mem, List.contains_iff_mem]
  unfold newT
  rw [List.mem_map]
  constructor
  · rintro ⟨x, mx, e⟩
    obtain ⟨m1, m2⟩ := List.mem_filter.mp mx
    have mK := List.contains_iff_mem.mp m2
    unfold plc at e
    have e : K.idxOf x = i := by omega
    have : K[i] = x := by
      have l : K.idxOf x < K.length := List.idxOf_lt_length_iff.mpr mK
      have g : K[K.idxOf x] = x := List.getElem_idxOf l
      simp only [e] at g
      exact g
    rw [this]
    exact m1
  · intro h
    refine ⟨K[i], List.mem_filter.mpr ⟨h, List.contains_iff_mem.mpr (List.getElem_mem hi)⟩, ?_⟩
    unfold plc
    rw [idx_get4 hK hi]
theorem pcT_len (ts : List (List Int)) (n : Nat) (P : List Int) : (pcT ts n P).length = (totP (lotsC ts n) P).length := List.length_map _
theorem hit_pc {ts : List (List Int)} {n : Nat} {P : List Int} {i k : Nat} (hi : i < (totP (lotsC ts n) P).length) (hk : k < (kdsP ts n P).length) : hitT (pcT ts n P) i k = hitT ts ((totP (lotsC ts n) P)[i]).toNat ((kdsP ts n P)[k]).toNat := by
  have lo := kdsP_low _ (List.getElem_mem hk)
  unfold hitT pcT
  rw [List.getD_eq_getElem?_getD, List.getElem?_map, List.getElem?_eq_getElem hi]
  show (newT (kdsP ts n P) (ts.getD ((totP (lotsC ts n) P)[i]).toNat [])).contains (k : Int) = _
  rw [newT_has (asc_nodup4 (kdsP_asc _ _ _)) hk, Int.toNat_of_nonneg lo.1]
/-- a piece's table, and the piece in its place -/
theorem kept_piece (ts : List (List Int)) (n : Nat) (P : List Int) (steps : List Int) (d : Nat) : keptW (pcT ts n P) (kdsP ts n P).length steps d = canA (tn ts n P) (hitT ts) (kn ts n P) steps d fun _ => 0 := by
  rw [kept_can, pcT_len, Bool.eq_iff_iff]
  have tno := asc_nodup4 (totP_asc (lotsC ts n) P)
  have kno := asc_nodup4 (kdsP_asc ts n P)
  constructor
  · refine like_can (ψ := fun j => (totP (lotsC ts n) P).idxOf (j : Int)) (fun k' hk' => .inl ?_) (fun j mj => .inl ⟨?_, rfl⟩) (sm0 _)
    · have mk := mem_kn.mp hk'
      have l := List.idxOf_lt_length_iff.mpr mk
      refine ⟨(kdsP ts n P).idxOf (k' : Int), List.mem_range.mpr l, fun j mj mp => ?_⟩
      have hp := List.mem_range.mp mp
      rw [hit_pc hp l]
      have e1 : (kdsP ts n P)[(kdsP ts n P).idxOf (k' : Int)] = (k' : Int) := List.getElem_idxOf l
      have e2 : (totP (lotsC ts n) P)[(totP (lotsC ts n) P).idxOf (j : Int)] = (j : Int) := List.getElem_idxOf hp
      rw [e1, e2]
      rfl
    · refine List.mem_range.mpr (List.idxOf_lt_length_iff.mpr ?_)
      obtain ⟨h1, h2⟩ := mem_tn.mp mj
      exact mem_pick.mpr ⟨j, by rw [lotsC_len]; exact h1, h2, rfl⟩
  · refine like_can (ψ := fun i => ((totP (lotsC ts n) P).getD i 0).toNat) (fun k' hk' => .inl ?_) (fun i mi => .inl ⟨?_, rfl⟩) (sm0 _)
    · have hk := List.mem_range.mp hk'
      refine ⟨((kdsP ts n P)[k']).toNat, List.mem_map.mpr ⟨_, List.getElem_mem hk, rfl⟩, fun i mi _ => ?_⟩
      have hi := List.mem_range.mp mi
      rw [hit_pc hi hk, List.getD_eq_getElem?_getD, List.getElem?_eq_getElem hi]
      rfl
    · have hi := List.mem_range.mp mi
      refine List.mem_map.mpr ⟨(totP (lotsC ts n) P)[i], List.getElem_mem hi, ?_⟩
      show (totP (lotsC ts n) P)[i].toNat = ((totP (lotsC ts n) P).getD i 0).toNat
      rw [List.getD_eq_getElem?_getD, List.getElem?_eq_getElem hi]
      rfl
theorem kept_pieces {ts : List (List Int)} {n : Nat} (hn : n ≤ 12) (ok : ∀ c ∈ ts, LotOk (n : Int) c) {Ps : List (List Int)} (h : Pieces (lotsC ts n) (classesL ts n).length Ps) (steps : List Int) (d : Nat) : (Ps.all fun P => keptW (pcT ts n P) (kdsP ts n P).length steps d) = keptW ts n steps d := by
  have by_ : ByCls ts n (lotsC ts n) := byCls_rows hn ok
  have low := lotsC_low ts hn
  rw [Bool.eq_iff_iff, List.all_eq_true]
  constructor
  · intro hp
    rw [kept_can]
    refine join_can (Ps := Ps.map fun P => (tn ts n P, kn ts n P)) (fun p mp j mj => ?_) (fun k mk => ?_) (sm0 _) fun p mp => ?_
    · obtain ⟨P, _, rfl⟩ := List.mem_map.mp mp
      exact List.mem_range.mpr (mem_tn.mp mj).1
    · have kn_ := List.mem_range.mp mk
      -- a total that the kind is in has its class
      have cls : ∀ {a : Nat} {cl : List Int}, (classesL ts n)[a]? = some cl → (k : Int) ∈ cl → ∀ j, j < ts.length → hitT ts j k = true → (a : Int) ∈ (lotsC ts n).getD j [] := fun {a cl} ha hk j hj q => by
        have ec : ts[j]? = some ts[j] := List.getElem?_eq_getElem hj
        have hjl : j < (lotsC ts n).length := by rw [lotsC_len]; exact hj
        have el : (lotsC ts n)[j]? = some (lotsC ts n)[j] := List.getElem?_eq_getElem hjl
        unfold hitT at q
        rw [List.getD_eq_getElem?_getD, ec] at q
        have q : (k : Int) ∈ ts[j] := List.contains_iff_mem.mp q
        rw [List.getD_eq_getElem?_getD, el]
        refine (by_.rel j _ _ ec el (a : Int)).mpr ⟨(k : Int), q, ?_⟩
        obtain ⟨b, cl2, g1, g2, g3⟩ := cls_one (n := n) (List.getElem_mem hj) kn_ q
        have e : a = b := g3 a cl ha hk
        rw [e]
        exact num_of g1 g2 g3
      by_cases e : ∃ (a : Nat) (cl : List Int), (classesL ts n)[a]? = some cl ∧ (k : Int) ∈ cl
      · obtain ⟨a, cl, ha, hk⟩ := e
        have al := (List.getElem?_eq_some_iff.mp ha).1
        obtain ⟨P, hP⟩ := piece_is low (s := (a : Int)) ⟨by omega, by omega⟩
        have mP : P ∈ Ps := (h.mem P).mpr ⟨(a : Int), by omega, by omega, hP⟩
        have aP := hP.self
        refine .inl ⟨(tn ts n P, kn ts n P), List.mem_map.mpr ⟨P, mP, rfl⟩, mem_kn.mpr (mem_kdsP.mpr ⟨(a : Int), aP, ?_⟩), fun j mj q => ?_, fun p mp q => ?_⟩
        · rw [Int.toNat_natCast, List.getD_eq_getElem?_getD, ha]
          exact hk
        · have hj := List.mem_range.mp mj
          exact mem_tn.mpr ⟨hj, meets_iff.mpr ⟨(a : Int), cls ha hk j hj q, aP⟩⟩
        · obtain ⟨R, mR, rfl⟩ := List.mem_map.mp mp
          obtain ⟨j, mj, q⟩ := q
          obtain ⟨hj, mt⟩ := mem_tn.mp mj
          obtain ⟨y, y1, y2⟩ := meets_iff.mp mt
          obtain ⟨s, s0, s1, hR⟩ := (h.mem R).mp mR
          have hjl : j < (lotsC ts n).length := by rw [lotsC_len]; exact hj
          have ml : (lotsC ts n).getD j [] ∈ lotsC ts n := by
            rw [List.getD_eq_getElem?_getD, List.getElem?_eq_getElem hjl]
            exact List.getElem_mem hjl
          have aR : (a : Int) ∈ R := (hR.mem _).mpr (.step ((hR.mem y).mp y2) ml y1 (cls ha hk j hj q))
          rw [(hR.move aR).uniq hP]
      · refine .inr fun j mj => ?_
        have hj := List.mem_range.mp mj
        cases q : hitT ts j k with
        | false => rfl
        | true =>
          unfold hitT at q
          rw [List.getD_eq_getElem?_getD, List.getElem?_eq_getElem hj] at q
          obtain ⟨a, cl, ha, mk, _⟩ := cls_one (n := n) (List.getElem_mem hj) kn_ (List.contains_iff_mem.mp q)
          exact absurd ⟨a, cl, ha, mk⟩ e
    · obtain ⟨P, mP, rfl⟩ := List.mem_map.mp mp
      have := hp P mP
      rw [kept_piece] at this
      exact this
  · intro hw P mP
    rw [kept_piece]
    rw [kept_can] at hw
    refine like_can (ψ := id) (fun k' hk' => .inl ⟨k', ?_, fun _ _ _ => rfl⟩) (fun j mj => .inl ⟨List.mem_range.mpr (mem_tn.mp mj).1, rfl⟩) (sm0 _) hw
    have := kdsP_low _ (mem_kn.mp hk')
    exact List.mem_range.mpr (by omega)
end CK
namespace CK
open PySem PySem.Spec PyProof.Rows L2 VG FR HD M9
theorem lot_filter {n : Int} {c : List Int} (p : Int → Bool) (h : LotOk n c) : LotOk n (c.filter p) :=
  ⟨Nat.le_trans (List.length_filter_le _ _) h.1, fun x mx => h.2.1 x (List.mem_filter.mp mx).1, asc_pw (List.Pairwise.filter _ (pw_of_asc h.2.2))⟩
end CK
namespace K04
open PySem PySem.Spec PyProof.Rows L2 VG FR CK HD M9
abbrev s__law_parted : Stmt := topS 43
abbrev N__law_parted : List Str := ["heap", "kinds", "many", "sides", "totals", "side", "own", "kind", "total", "at"]
theorem sc__law_parted : FnScope N__law_parted ["heap", "kinds", "many"] (defScope s__law_parted) := ⟨rfl, rfl, rfl, by decide +kernel, rfl, by decide +kernel, by decide +kernel⟩
section
variable {P : Program} {w : World} {K : PySem.W.Frag} {mg : Str → Option Value} {base : Heap}
theorem ok__law_parted {f : Addr} {fd : FuncData} (F : Fun K "_law_parted" "_law_parted" s__law_parted f fd) (C__law_draw : Cl P w K mg base 1 "_law_draw" spDraw) (C__law_pick : Cl P w K mg base 2 "_law_pick" (spPick K)) (C__law_totals : Cl P w K mg base 3 "_law_totals" (spLawTots K)) (z_range : mg "range" = none) (z_tuple : mg "tuple" = none) : FnOk P w K mg base CX0 4 f fd ["heap", "kinds", "many"] (spLawTots K) := by
  refine F.ok sc__law_parted (fun vs H Q E h => ?_) (fun cdv A outer s H vs Q E hr h => ?_)
  · obtain ⟨_, _, _, _, rfl, _⟩ := h
    rfl
  · obtain ⟨p, q, n, m, rfl, hd, n12, m12, fin⟩ := h
    refine ⟨_, (pss_cons (ps_asg (pe_tup (pa_cons (pe_cl C__law_pick hr (by decide) rfl (pa_cons (pv 0) (pa_cons (pe_lst (pa_cons pe_int (pa_cons pe_int (pa_cons pe_int (pa_cons pe_int pa_nil))))) pa_nil))) (pa_cons (pe_cl C__law_totals hr (by decide) rfl (pa_cons (pv 0) (pa_cons (pv 1) (pa_cons (pv 2) pa_nil)))) pa_nil))) (pg_tup rfl (pgs_cons (pg_name (i := 3) sc__law_parted.nd rfl (.inr rfl)) (pgs_cons (pg_name (i := 4) sc__law_parted.nd rfl (.inr rfl)) pgs_nil))))
    (pss_cons (ps_set (i := 5) sc__law_parted.nd rfl (.inr rfl) (pe_lc (own := [("kind", 7)]) (by rfl) sc__law_parted.nd (pi_range1 (by rfl) z_range (pa_cons (pv 1) pa_nil)) (blkOk_by (own := [("kind", 7)]) (N := N__law_parted) (sc := defScope s__law_parted) (by decide +kernel)) (fun _ _ _ _ _ => (pg_name (i := 7) sc__law_parted.nd rfl (.inl rfl))) (fun _ _ _ _ _ => pts_nil) (fun _ _ _ _ _ => (pe_cl C__law_draw hr (by decide) rfl (pa_cons (pv 0) (pa_cons (pv 3) pa_nil))))))
    (pss_cons (ps_set (i := 6) sc__law_parted.nd rfl (.inr rfl) (pe_lc (own := [("total", 8)]) (by rfl) sc__law_parted.nd (pi_tup (pv 4)) (blkOk_by (own := [("total", 8)]) (N := N__law_parted) (sc := defScope s__law_parted) (by decide +kernel)) (fun _ _ _ _ _ => (pg_name (i := 8) sc__law_parted.nd rfl (.inl rfl))) (fun _ _ _ _ _ => pts_nil) (fun _ _ _ _ _ => (pe_cl C__law_draw hr (by decide) rfl (pa_cons (pv 0) (pa_cons (pv 3) pa_nil))))))
    (pss_one (ps_ret (pe_callTy call_tuple_of (by rfl) z_tuple (by decide +kernel) (pa_cons (pe_lc (own := [("at", 9)]) (by rfl) sc__law_parted.nd (pi_range1 (by rfl) z_range (pa_cons (pv 2) pa_nil)) (blkOk_by (own := [("at", 9)]) (N := N__law_parted) (sc := defScope s__law_parted) (by decide +kernel)) (fun _ _ _ _ _ => (pg_name (i := 9) sc__law_parted.nd rfl (.inr rfl))) (fun _ _ _ _ _ => pts_nil) (fun _ _ _ _ _ => (pe_callTy (show CallR _ (.type "tuple") (rTupE K) from call_tupE) (by rfl) z_tuple (by decide +kernel) (pa_cons (pe_lc (own := [("kind", 7)]) (by rfl) sc__law_parted.nd (show PI _ _ _ (iTup K _) from pi_tup (pe_ix (show IxR _ (rIxT K) from ix_tup) (pv 4) (pv 9) (fun _ _ => rfl))) (blkOk_by (own := [("kind", 7)]) (N := N__law_parted) (sc := { kind := .function, names := [((".0" : String), .local), (("at" : String), .cell), (("tuple" : String), .globalImplicit), (("own" : String), .cell), (("side" : String), .cell), (("totals" : String), .cell)], isGenerator := false, isCoroutine := false }) (by decide +kernel)) (fun _ _ _ _ _ => (pg_name (i := 7) sc__law_parted.nd rfl (.inl rfl))) (fun _ _ _ _ _ => (pts_one (pt_cmpR op_eq (pe_ix (show IxR _ (rIxL K) from ix_list) (pv 5) (pv 7) (fun _ _ => rfl)) (pe_ix (show IxR _ (rIxL K) from ix_list) (pv 6) (pv 9) (fun _ _ => rfl)) (nomark _)))) (fun _ _ _ _ _ => (pv 7))) pa_nil)))) pa_nil))))))), ?_⟩
    have big : sizeLine = 16777216 := by decide
    have on0 := On.start hd
    generalize frz p q H = G at *
    refine ⟨_, rfl, by show 4 ≤ sizeLine; decide, fun L nL => ?_⟩
    have fL := on0.free nL
    have on1 := on0.new (o := .lst [.int 1, .int 2, .int 2, .int 3]) nL
    refine ⟨p, q, L, _, rfl, on1.hd, upd_same, fL.1, fL.2.1, by simp, by show 4 < 1000000; decide, fun H2 v hd2 kp2 hv => ?_⟩
    have on2 := on1.draw hd2 kp2
    obtain ⟨b, rfl, b1, b3⟩ : ∃ b : Int, v = .int b ∧ 1 ≤ b ∧ b ≤ 3 := by
      simp only [List.mem_cons, List.not_mem_nil, or_false] at hv
      rcases hv with e | e | e | e <;> exact ⟨_, e, by decide, by decide⟩
    clear on0 on1 hd2 kp2 hv nL fL
    refine ⟨_, rfl, _, rfl, _, rfl, p, q, n, m, rfl, on2.hd, n12, m12, fun H3 t xs ts on3' kt hX lt okT => ?_⟩
    have on3 := on2.draw on3'.hd on3'.keep
    have kt3 : SqT K (frz p q H3) t xs := .inl (.inl (frz_at kt (on3.hd.neOf kt (fun ys z => by cases z))))
    have hX3 := hX.frz on3.hd
    have GB := on3.base.2
    have on4 := On.start on3.hd
    generalize frz p q H3 = B at *
    have fin2 : ∀ (H' : Hp) (u : Addr) (xs : List V) (ts : List (List Int)), On p q B H' → H' u = some (.tup xs) → Tots K H' xs ts → ts.length = m → (∀ c ∈ ts, LotOk (n : Int) c) → Q (.ref u) H' := fun H' u xs ts o => fin H' u xs ts (o.drop GB)
    clear fin on3 on3' on2 kt hX GB
    refine ⟨by show 2 ≤ sizeLine; decide, fun T5 nT5 => ?_⟩
    generalize eH5 : L2.upd H3 T5 _ = H5
    have s5 := same_of nT5 eH5
    have k5 := at_of eH5
    clear eH5
    refine ⟨T5, _, rfl, .inl (.inl k5), rfl, _, _, rfl, _, _, rfl, rfl, ?_⟩
    have on5 := on4.same s5
    clear on4 k5 s5 nT5
    -- side
    refine ⟨_, rfl, _, rfl, by omega, by omega, fun D nD => ?_⟩
    have fD := on5.free nD
    refine lc_it (walk_range (lo := 0) (n := ((n : Nat) : Int).toNat)) (fun i H' => On p q B H' ∧ ∃ ss : List Int, ss.length = i ∧ H' D = some (.lst (ss.map V.int))) ⟨on5.new nD, [], rfl, upd_same⟩ (fun _ _ _ _ => trivial) ?_ ?_
    · clear on5 nD
      rintro i v H6 H7 hi ⟨on6, ss, ls, kD⟩ ⟨rfl, rfl⟩
      have hi2 : i < ((n : Nat) : Int).toNat := hi
      refine ⟨rfl, _, rfl, _, rfl, p, q, _, rfl, on6.hd, by omega, by omega, fun H8 r hd8 kp8 r0 r1 => ?_⟩
      have on8 := on6.draw hd8 kp8
      refine ⟨_, kp8 _ _ fD.1 fD.2.1 kD, by rw [List.length_map]; omega, on8.put fD, ss ++ [r], by rw [List.length_append, ls]; rfl, by rw [upd_same, List.map_append]; rfl⟩
    clear on5 nD
    rintro H6 ⟨on6, ss, ls, kD⟩
    rw [Int.toNat_natCast] at ls
    -- own
    refine ⟨_, rfl, t, rfl, ⟨_, seqT on6.le kt3⟩, fun O nO => ?_⟩
    have fO := on6.free nO
    have nDO : D ≠ O := fun e => by rw [e, nO] at kD; cases kD
    have lx := hX3.len
    refine lc_it (walk_tup (K := K) (a := t) (xs := xs)) (fun i H' => On p q B H' ∧ H' D = some (.lst (ss.map V.int)) ∧ ∃ os : List Int, os.length = i ∧ H' O = some (.lst (os.map V.int))) ⟨on6.new nO, by rw [upd_ne nDO]; exact kD, [], rfl, upd_same⟩ (fun i H' _ h => seqT h.1.le kt3) ?_ ?_
    · clear on6 nO kD
      rintro i v H7 H8 hi ⟨on7, kD, os, los, kO⟩ ⟨rfl, ev⟩
      have hi2 : i < xs.length := hi
      refine ⟨rfl, _, rfl, _, rfl, p, q, _, rfl, on7.hd, by omega, by omega, fun H9 r hd9 kp9 r0 r1 => ?_⟩
      have on9 := on7.draw hd9 kp9
      refine ⟨_, kp9 _ _ fO.1 fO.2.1 kO, by rw [List.length_map]; omega, on9.put fO, by rw [upd_ne nDO]; exact kp9 _ _ fD.1 fD.2.1 kD, os ++ [r], by rw [List.length_append, los]; rfl, by rw [upd_same, List.map_append]; rfl⟩
    clear on6 nO kD
    rintro H7 ⟨on7, kD, os, los, kO⟩
    -- the totals cut
    have kt7 := seqT on7.le kt3
    have hX7 := hX3.mono on7.le
    let cut : Nat → List Int → List Int := fun at_ c => c.filter fun k => decide (ss.getD k.toNat 0 = os.getD at_ 0)
    refine ⟨_, rfl, _, rfl, by omega, by omega, fun M nM => ?_⟩
    have fM := on7.free nM
    refine lc_it (walk_range (lo := 0) (n := ((m : Nat) : Int).toNat)) (fun i H' => Same H7 H' ∧ ∃ zs ls, H' M = some (.lst zs) ∧ Tots K H' zs ls ∧ ls.length = i ∧ ∀ c ∈ ls, LotOk (n : Int) c) ⟨same_upd nM, [], [], upd_same, trivial, rfl, fun c m => by cases m⟩ (fun _ _ _ _ => trivial) ?_ ?_
    · rintro i v H8 H9 hi ⟨s8, zs, ls8, kM, hz, ll, okl⟩ ⟨rfl, rfl⟩
      have hi2 : i < m := by have : i < ((m : Nat) : Int).toNat := hi; omega
      have e0 : (0 : Int) + (i : Nat) = (i : Nat) := Int.zero_add _
      have ex : xs[i]? = some xs[i] := List.getElem?_eq_getElem (by omega)
      obtain ⟨tl, c, e1, ec, htl⟩ := hX7.get ex
      have okc := okT c (List.mem_of_getElem? ec)
      have cl := lot_len okc
      have eat : atI xs ((0 : Int) + (i : Nat)) = some (.ref tl) := by
        rw [e0]
        exact atI_nat (by rw [ex, e1])
      refine ⟨rfl, _, rfl, _, rfl, t, _, _, _, rfl, rfl, seqT s8 kt7, eat, tl, rfl, ⟨_, seqT s8 htl⟩, fun L nL => ?_⟩
      refine lc_it (walk_tup (K := K) (a := tl) (xs := c.map V.int)) (fun j H' => Same H9 H' ∧ H' L = some (.lst ((cut i (c.take j)).map V.int))) ⟨same_upd nL, upd_same⟩ (fun j H' _ h => seqT (s8.trans h.1) htl) ?_ ?_
      · rintro j v H10 H11 hj ⟨s10, kL⟩ ⟨rfl, ew⟩
        rw [List.getElem?_map] at ew
        obtain ⟨k, ek, rfl⟩ := Option.map_eq_some_iff.mp ew
        have ⟨k0, k1⟩ := okc.2.1 k (List.mem_of_getElem? ek)
        obtain ⟨kk, rfl⟩ := Int.eq_ofNat_of_zero_le k0
        have es : ss[kk]? = some (ss.getD kk 0) := by rw [List.getD_eq_getElem?_getD, List.getElem?_eq_getElem (by omega)]; rfl
        have eo : os[i]? = some (os.getD i 0) := by rw [List.getD_eq_getElem?_getD, List.getElem?_eq_getElem (by omega)]; rfl
        have a1 : atI (ss.map V.int) (kk : Int) = some (.int (ss.getD kk 0)) := atI_nat (by rw [List.getElem?_map, es]; rfl)
        have a2 : atI (os.map V.int) ((0 : Int) + (i : Nat)) = some (.int (os.getD i 0)) := by
          rw [e0]
          exact atI_nat (by rw [List.getElem?_map, eo]; rfl)
        have s911 := s8.trans s10
        have fl : cut i (c.take (j + 1)) = cut i (c.take j) ++ (if decide (ss.getD kk 0 = os.getD i 0) = true then [(kk : Int)] else []) := by
          show List.filter _ _ = List.filter _ _ ++ _
          rw [List.take_add_one, ek, List.filter_append]
          congr 1
          show List.filter _ [(kk : Int)] = _
          rw [List.filter_cons, List.filter_nil]
          rfl
        have lc : (cut i (c.take j)).length ≤ 12 := Nat.le_trans (List.length_filter_le _ _) (by rw [List.length_take]; omega)
        refine ⟨rfl, _, rfl, _, rfl, D, _, _, _, rfl, rfl, .inl (.inl (s911 _ _ kD)), a1, _, rfl, _, rfl, O, _, _, _, rfl, rfl, .inl (.inl (s911 _ _ kO)), a2, rfl, _, rfl, ite2 (fun z => ?_) (fun z => ?_)⟩
        · have z2 : ss.getD kk 0 = os.getD i 0 := V.int.inj (of_decide_eq_true z)
          refine ⟨_, rfl, _, kL, by rw [List.length_map]; omega, HD.same_put s10 nL, ?_⟩
          rw [upd_same, fl, decide_eq_true z2, List.map_append]
          rfl
        · have z2 : ¬ ss.getD kk 0 = os.getD i 0 := fun e => z (decide_eq_true (by rw [e]))
          refine ⟨s10, ?_⟩
          rw [fl, decide_eq_false z2]
          simp only [Bool.false_eq_true, if_false, List.append_nil]
          exact kL
      · rintro H10 ⟨s10, kL⟩
        rw [List.length_map, List.take_length] at kL
        refine ⟨L, _, rfl, .inl (.inl (.inl kL)), fun H11 u s11 hu => ?_⟩
        have s911 := s10.trans s11
        have kM11 := s911 _ _ kM
        have lz := hz.len
        refine ⟨zs, kM11, by omega, HD.same_put (s8.trans s911) nM, zs ++ [.ref u], ls8 ++ [cut i c], upd_same, Tots.upd kM11 (Tots.snoc hu (hz.mono s911)), by rw [List.length_append, ll]; rfl, fun d md => ?_⟩
        rcases List.mem_append.mp md with z | z
        · exact okl d z
        · rw [List.mem_singleton.mp z]
          exact lot_filter _ okc
    · rintro H8 ⟨s8, zs, ls8, kM, hz, ll, okl⟩
      rw [Int.toNat_natCast] at ll
      refine ⟨M, zs, rfl, .inl ⟨.inl (.inl kM), fun u nu => ?_⟩⟩
      exact fin2 _ u zs ls8 ((on7.same s8).new nu) upd_same (hz.mono (same_upd nu)) ll okl
end
end K04
namespace CK
open PySem PySem.Spec PyProof.Rows L2 VG FR HD M9
def fndL (ts : List (List Int)) (m i : Nat) : List (List Int) := (sgL (fT ts) i).map fun c => pick (memb (fT ts) c) m
theorem fnd_head {ts : List (List Int)} {m i a : Nat} {c : List Int} (hi : i ≤ m) (h : (sgL (fT ts) i)[a]? = some c) : ∃ (j : Nat) (r : List Int), pick (memb (fT ts) c) m = (j : Int) :: r ∧ j < m ∧ fT ts j = c := by
  obtain ⟨j, r, _, h1, h2⟩ := pk_head h
  have mj : (j : Int) ∈ pick (memb (fT ts) c) m := mem_pick.mpr ⟨j, by omega, decide_eq_true h2, rfl⟩
  cases q : pick (memb (fT ts) c) m with
  | nil => rw [q] at mj; cases mj
  | cons x r =>
    have mx : x ∈ pick (memb (fT ts) c) m := by rw [q]; exact List.mem_cons_self
    obtain ⟨j, j1, j2, rfl⟩ := mem_pick.mp mx
    exact ⟨j, r, rfl, j1, of_decide_eq_true j2⟩
theorem fnd_len (ts : List (List Int)) (m i : Nat) : (fndL ts m i).length ≤ i := by
  unfold fndL
  rw [List.length_map]
  exact Nat.le_trans (List.length_filter_le _ _) (keys_len _ _)
theorem fnd_old {ts : List (List Int)} {m i : Nat} (h : fT ts i = [] ∨ fT ts i ∈ sgL (fT ts) i) : fndL ts m (i + 1) = fndL ts m i := by
  unfold fndL
  rw [sg_succ, if_pos h]
theorem fnd_new {ts : List (List Int)} {m i : Nat} (h : ¬ (fT ts i = [] ∨ fT ts i ∈ sgL (fT ts) i)) : fndL ts m (i + 1) = fndL ts m i ++ [pick (memb (fT ts) (fT ts i)) m] := by
  unfold fndL
  rw [sg_succ, if_neg h, List.map_append]
  rfl
theorem fnd_end (ts : List (List Int)) (m : Nat) : fndL ts m m = classesL ts m := (classes_eq ts m).symm
theorem any_eq (sg : List (List Int)) (c : List Int) : (sg.map fun d => decide (d = c)).any id = decide (c ∈ sg) := by
  rw [Bool.eq_iff_iff, List.any_map, List.any_eq_true, decide_eq_true_eq]
  constructor
  · rintro ⟨d, h1, h2⟩
    have : d = c := of_decide_eq_true h2
    rw [← this]
    exact h1
  · intro h
    exact ⟨c, h, decide_eq_true rfl⟩
def spLawCls4 (K : PySem.W.Frag) : Sp := fun vs H Q _ => ∃ (l : Addr) (m : Nat) (xs : List V) (ts : List (List Int)), vs = [.int m, .ref l] ∧ SqT K H l xs ∧ Tots K H xs ts ∧ ts.length ≤ 12 ∧ m ≤ 12 ∧ (∀ c ∈ ts, LotOk (m : Int) c) ∧
  ∀ (H' : Hp) (r f d : Addr), Same H H' → H' r = some (.tup [.ref f, .ref d]) → RowsL K H' f (classesL ts m) → RowsL K H' d (lotsC ts m) → Q (.ref r) H'
end CK
namespace K04
open PySem PySem.Spec PyProof.Rows L2 VG FR CK HD M9
abbrev s__law_classes : Stmt := topS 44
abbrev N__law_classes : List Str := ["kinds", "totals", "kind", "rows", "found", "total", "at", "other", "some"]
theorem sc__law_classes : FnScope N__law_classes ["kinds", "totals"] (defScope s__law_classes) := ⟨rfl, rfl, rfl, by decide +kernel, rfl, by decide +kernel, by decide +kernel⟩
section
variable {P : Program} {w : World} {K : PySem.W.Frag} {mg : Str → Option Value} {base : Heap}
theorem ok__law_classes {f : Addr} {fd : FuncData} (F : Fun K "_law_classes" "_law_classes" s__law_classes f fd) (z_len : mg "len" = none) (z_range : mg "range" = none) (z_any : mg "any" = none) : FnOk P w K mg base CX0 1 f fd ["kinds", "totals"] (spLawCls4 K) := by
  refine F.ok sc__law_classes (fun vs H Q E h => ?_) (fun cdv A outer s H vs Q E hr h => ?_)
  · obtain ⟨_, _, _, _, rfl, _⟩ := h
    rfl
  · obtain ⟨l, m, xs, ts, rfl, hX, hT, lt, lm, okT, fin⟩ := h
    refine ⟨_, (pss_cons (ps_asg (pe_tup (pa_cons (pe_lc (own := [("kind", 2)]) (by rfl) sc__law_classes.nd (pi_range1 (by rfl) z_range (pa_cons (pv 0) pa_nil)) (blkOk_by (own := [("kind", 2)]) (N := N__law_classes) (sc := defScope s__law_classes) (by decide +kernel)) (fun _ _ _ _ _ => (pg_name (i := 2) sc__law_classes.nd rfl (.inr rfl))) (fun _ _ _ _ _ => pts_nil) (fun _ _ _ _ _ => (pe_lc (own := [("at", 6)]) (by rfl) sc__law_classes.nd (pi_range1 (by rfl) z_range (pa_cons (pe_callB (show CallR _ (.builtin "len") (rLenK K) from call_lenK) (by rfl) z_len (by decide +kernel) (pa_cons (pv 1) pa_nil)) pa_nil)) (blkOk_by (own := [("at", 6)]) (N := N__law_classes) (sc := { kind := .function, names := [((".0" : String), .local), (("kind" : String), .cell), (("range" : String), .globalImplicit), (("len" : String), .globalImplicit), (("totals" : String), .cell)], isGenerator := false, isCoroutine := false }) (by decide +kernel)) (fun _ _ _ _ _ => (pg_name (i := 6) sc__law_classes.nd rfl (.inl rfl))) (fun _ _ _ _ _ => (pts_one (pt_cmpR (show OpR _ (compareOp .In) (rIn K false) from op_in_seq) (pv 2) (pe_ix (show IxR _ (rIxT K) from ix_tup) (pv 1) (pv 6) (fun _ _ => rfl)) rfl))) (fun _ _ _ _ _ => (pv 6))))) (pa_cons (pe_lst pa_nil) pa_nil))) (pg_tup rfl (pgs_cons (pg_name (i := 3) sc__law_classes.nd rfl (.inr rfl)) (pgs_cons (pg_name (i := 4) sc__law_classes.nd rfl (.inr rfl)) pgs_nil))))
    (pss_cut (ps_for PassesOwn.never rfl (pi_range1 (by rfl) z_range (pa_cons (pv 0) pa_nil)) (pg_name (i := 2) sc__law_classes.nd rfl (.inr rfl))
      (pss_one (ps_if (PW.pt (pw_and (pt_cmpR (op_neD hr.units) (pe_ix ix_list (pv 3) (pv 2) (fun _ _ => rfl)) (pe_lst pa_nil) (nomark _)) (pw_and1 (pt_not (pt_val (pe_callB (cr_any rfl) (by rfl) z_any (by decide +kernel) (pa_cons (pe_lc (own := [("some", 8)]) (by rfl) sc__law_classes.nd (pi_list (pv 4)) (blkOk_by (own := [("some", 8)]) (N := N__law_classes) (sc := defScope s__law_classes) (by decide +kernel)) (fun _ _ _ _ _ => (pg_name (i := 8) sc__law_classes.nd rfl (.inl rfl))) (fun _ _ _ _ _ => pts_nil) (fun _ _ _ _ _ => (pe_cmpR (show OpR _ (compareOp .Eq) (rEqD K) from op_eqD hr.units) (pe_ix (show IxR _ (rIxL K) from ix_list) (pv 3) (pe_ix (show IxR _ (rIxL K) from ix_list) (pv 8) pe_int (fun _ _ => rfl)) (fun _ _ => rfl)) (pe_ix (show IxR _ (rIxL K) from ix_list) (pv 3) (pv 2) (fun _ _ => rfl)) (nomark _)))) pa_nil)))))))
        (pss_one (ps_expr (pe_bm PySem.F.plainAttrs_list PySem.F.slot_list_append PySem.F.type_list_append mt_append (pv 4) (pa_cons (pe_lc (own := [("other", 7)]) (by rfl) sc__law_classes.nd (pi_range1 (by rfl) z_range (pa_cons (pv 0) pa_nil)) (blkOk_by (own := [("other", 7)]) (N := N__law_classes) (sc := defScope s__law_classes) (by decide +kernel)) (fun _ _ _ _ _ => (pg_name (i := 7) sc__law_classes.nd rfl (.inl rfl))) (fun _ _ _ _ _ => (pts_one (pt_cmpR (show OpR _ (compareOp .Eq) (rEqD K) from op_eqD hr.units) (pe_ix (show IxR _ (rIxL K) from ix_list) (pv 3) (pv 7) (fun _ _ => rfl)) (pe_ix (show IxR _ (rIxL K) from ix_list) (pv 3) (pv 2) (fun _ _ => rfl)) (nomark _)))) (fun _ _ _ _ _ => (pv 7))) pa_nil))))
        pss_nil)))
    (pss_one (ps_ret (pe_tup (pa_cons (pv 4) (pa_cons (pe_lc (own := [("total", 5)]) (by rfl) sc__law_classes.nd (pi_tup (pv 1)) (blkOk_by (own := [("total", 5)]) (N := N__law_classes) (sc := defScope s__law_classes) (by decide +kernel)) (fun _ _ _ _ _ => (pg_name (i := 5) sc__law_classes.nd rfl (.inr rfl))) (fun _ _ _ _ _ => pts_nil) (fun _ _ _ _ _ => (pe_lc (own := [("at", 6)]) (by rfl) sc__law_classes.nd (pi_range1 (by rfl) z_range (pa_cons (pe_callB (show CallR _ (.builtin "len") (rLenK K) from call_lenK) (by rfl) z_len (by decide +kernel) (pa_cons (pv 4) pa_nil)) pa_nil)) (blkOk_by (own := [("at", 6)]) (N := N__law_classes) (sc := { kind := .function, names := [((".0" : String), .local), (("total" : String), .cell), (("range" : String), .globalImplicit), (("len" : String), .globalImplicit), (("found" : String), .cell)], isGenerator := false, isCoroutine := false }) (by decide +kernel)) (fun _ _ _ _ _ => (pg_name (i := 6) sc__law_classes.nd rfl (.inl rfl))) (fun _ _ _ _ _ => (pts_one (pt_cmpR (show OpR _ (compareOp .In) (rIn K false) from op_in_seq) (pe_ix (show IxR _ (rIxL K) from ix_list) (pe_ix (show IxR _ (rIxL K) from ix_list) (pv 4) (pv 6) (fun _ _ => rfl)) pe_int (fun _ _ => rfl)) (pv 5) rfl))) (fun _ _ _ _ _ => (pv 6))))) pa_nil))))))), ?_⟩
    have big : sizeLine = 16777216 := by decide
    have lx := hT.len
    refine ⟨_, rfl, _, rfl, by omega, by omega, fun R nR => ?_⟩
    refine lc_it (walk_range (lo := 0) (n := ((m : Nat) : Int).toNat)) (fun i H' => Same H H' ∧ ∃ vs, H' R = some (.lst vs) ∧ LR (IntsN K (fun a => a ≠ R) H') vs ((List.range i).map (rowK ts))) ⟨same_upd nR, [], upd_same, trivial⟩ (fun _ _ _ _ => trivial) ?_ ?_
    · rintro i v H1 H2 hi ⟨s1, vs, kR, hv⟩ ⟨e, rfl⟩
      subst e
      have hi2 : i < m := by have : i < ((m : Nat) : Int).toNat := hi; omega
      have e0 : (0 : Int) + (i : Nat) = (i : Nat) := Int.zero_add _
      have lv := LR.len hv
      rw [List.length_map, List.length_range] at lv
      have hX1 := seqT s1 hX
      have hT1 := hT.mono s1
      refine ⟨rfl, _, rfl, l, xs, rfl, .inr hX1, _, rfl, by omega, by omega, fun L nL => ?_⟩
      rw [lx]
      have neL : L ≠ R := fun e => by rw [e, kR] at nL; cases nL
      refine lc_it (walk_range (lo := 0) (n := ((ts.length : Nat) : Int).toNat)) (fun j H' => Same H2 H' ∧ H' L = some (.lst ((pick (fun j => (ts.getD j []).contains (i : Int)) j).map V.int))) ⟨same_upd nL, upd_same⟩ (fun _ _ _ _ => trivial) ?_ ?_
      · rintro j v H3 H4 hj ⟨s3, kL⟩ ⟨e, rfl⟩
        subst e
        have hj2 : j < ts.length := by have : j < ((ts.length : Nat) : Int).toNat := hj; omega
        have ej : (0 : Int) + (j : Nat) = (j : Nat) := Int.zero_add _
        have ey : xs[j]? = some xs[j] := List.getElem?_eq_getElem (by omega)
        obtain ⟨tl, c, e1, ec, htl⟩ := hT1.get ey
        have eat : atI xs ((0 : Int) + (j : Nat)) = some (.ref tl) := by
          rw [ej]
          exact atI_nat (by rw [ey, e1])
        have eg : ts.getD j [] = c := by rw [List.getD_eq_getElem?_getD, ec]; rfl
        refine ⟨rfl, _, rfl, _, rfl, _, rfl, l, _, _, _, rfl, rfl, seqT s3 hX1, eat, tl, c.map V.int, rfl, .inr (seqT s3 htl), rfl, flat_ints c, _, rfl, ?_⟩
        have ev : inV (V.int (0 + (i : Int))) (c.map V.int) = c.contains (i : Int) := by rw [e0, inV_ints]
        have pl := pick_len (fun j => (ts.getD j []).contains (i : Int)) j
        cases hc : c.contains (i : Int) with
        | true =>
          rw [hc] at ev
          refine ite_eq true (by show inV (V.int (0 + (i : Int))) (c.map V.int) = true; exact ev) (iteT ?_)
          refine ⟨_, rfl, _, kL, by rw [List.length_map]; omega, HD.same_put s3 nL, ?_⟩
          rw [upd_same, pick_yes (by rw [eg]; exact hc), List.map_append]
          show some (HO.lst (_ ++ [V.int (0 + (j : Int))])) = _
          rw [ej]
          rfl
        | false =>
          rw [hc] at ev
          refine ite_eq false (by show inV (V.int (0 + (i : Int))) (c.map V.int) = false; exact ev) (iteF ⟨s3, ?_⟩)
          rw [pick_no (by rw [eg]; exact hc)]
          exact kL
      · rintro H3 ⟨s3, kL⟩
        rw [Int.toNat_natCast] at kL
        have kR3 := s3 _ _ kR
        refine ⟨vs, kR3, by omega, HD.same_put (s1.trans s3) nR, vs ++ [.ref L], upd_same, ?_⟩
        rw [List.range_succ, List.map_append]
        exact LR.imp (fun _ _ q => IntsN.upd (fun _ n => n) q) (LR.append (LR.imp (fun _ _ q => IntsN.mono s3 q) hv) (show LR (IntsN K (fun a => a ≠ R) H3) [.ref L] [rowK ts i] from ⟨⟨L, rfl, neL, .inl (.inl kL)⟩, trivial⟩))
    rintro H1 ⟨s1, vs, kR, hv⟩
    rw [Int.toNat_natCast] at hv
    have lv := LR.len hv
    rw [List.length_map, List.length_range] at lv
    have rowAt : ∀ j, j < m → ∃ t, vs[j]? = some (.ref t) ∧ SqL K H1 t ((fT ts j).map V.int) := fun j hj => by
      have e : vs[j]? = some vs[j] := List.getElem?_eq_getElem (by omega)
      obtain ⟨b, eb, t, et, _, k⟩ := LR.get hv e
      rw [List.getElem?_map, List.getElem?_range hj] at eb
      have eb : rowK ts j = b := Option.some.inj eb
      subst eb
      exact ⟨t, by rw [e, et], k⟩
    have hX1 := seqT s1 hX
    have hT1 := hT.mono s1
    have fin := fun (H' : Hp) (r f d : Addr) (s : Same H1 H') => fin H' r f d (s1.trans s)
    clear hX hT s1 nR hv
    have kR1 : SqL K H1 R vs := .inl (.inl kR)
    refine ⟨by show 0 ≤ sizeLine; exact Nat.zero_le _, fun Fd nF => ?_⟩
    generalize eH2 : L2.upd H1 Fd _ = H2
    have s2 := same_of nF eH2
    have kF2 := at_of eH2
    clear eH2
    refine ⟨by show 2 ≤ sizeLine; decide, fun T nT => ?_⟩
    generalize eH3 : L2.upd H2 T _ = H3
    have s3 := same_of nT eH3
    have kT := at_of eH3
    clear eH3
    have kF3 := s3 _ _ kF2
    refine ⟨T, _, rfl, .inl (.inl kT), rfl, _, _, rfl, _, _, rfl, rfl, ?_⟩
    refine ⟨fun σ H' => (∃ y2 : Option V, σ = [some (.int m), some (.ref l), y2, some (.ref R), some (.ref Fd), none, none, none, none]) ∧ Same H1 H' ∧ ∃ ys, H' Fd = some (.lst ys) ∧ LR (IntsN K (fun a => a ≠ Fd) H') ys (classesL ts m), ?_, ?_⟩
    · refine ⟨_, rfl, _, rfl, by omega, by omega, ?_⟩
      refine for_it (walk_range (lo := 0) (n := ((m : Nat) : Int).toNat)) (fun i σ H' => (∃ y2 : Option V, σ = [some (.int m), some (.ref l), y2, some (.ref R), some (.ref Fd), none, none, none, none]) ∧ Same H1 H' ∧ ∃ ys, H' Fd = some (.lst ys) ∧ LR (IntsN K (fun a => a ≠ Fd) H') ys (fndL ts m i)) ⟨⟨_, rfl⟩, s2.trans s3, [], kF3, trivial⟩ (fun _ _ _ _ _ => trivial) ?_ ?_
      · rintro i x σ H4 H5 hi ⟨⟨y2, rfl⟩, s4, ys, kF, hys⟩ ⟨rfl, rfl⟩
        have hi2 : i < m := by have : i < ((m : Nat) : Int).toNat := hi; omega
        have z1 : (0 : Int) + (i : Nat) = ((i : Nat) : Int) := Int.zero_add _
        show gName 2 (V.int ((0 : Int) + ((i : Nat) : Int))) _ _ _
        rw [z1]
        obtain ⟨ri, eri, kri⟩ := rowAt i hi2
        have ly := LR.len hys
        have fl := fnd_len ts m i
        refine ⟨_, rfl, _, rfl, R, _, _, _, rfl, rfl, seqLs s4 kR1, atI_nat eri, ?_⟩
        refine ⟨by show 0 ≤ sizeLine; exact Nat.zero_le _, fun Z nZ => ?_⟩
        generalize eH6 : L2.upd _ Z _ = H6
        have s6 := same_of nZ eH6
        have kZ := at_of eH6
        clear eH6
        have s46 := s4.trans s6
        refine ⟨_, _, HD.dp_ints (K := K) (seqLs s46 kri), HD.dp_ints (K := K) (cs := []) (.inl (.inl kZ)), shaped_ints _, shaped_nil, _, rfl, ?_⟩
        rw [show PyData.eqv (.list ((fT ts i).map PyData.int)) (.list (([] : List Int).map PyData.int)) = decide (fT ts i = []) from eqv_nil _]
        by_cases c0 : fT ts i = []
        · rw [decide_eq_true c0]
          refine iteF ⟨⟨_, rfl⟩, s46, ys, s6 _ _ kF, ?_⟩
          rw [fnd_old (.inl c0)]
          exact LR.imp (fun _ _ q => IntsN.mono s6 q) hys
        · rw [decide_eq_false c0]
          refine iteT ?_
          have kF6 := s6 _ _ kF
          have hys6 := LR.imp (fun _ _ q => IntsN.mono s6 q) hys
          refine ⟨_, rfl, Fd, rfl, ⟨_, .inl (.inl kF6)⟩, fun B nB => ?_⟩
          refine lc_it (walk_list (K := K) (a := Fd) (xs := ys)) (fun k H' => Same H6 H' ∧ H' B = some (.lst ((((sgL (fT ts) i).take k).map fun d => decide (d = fT ts i)).map V.bl))) ⟨same_upd nB, upd_same⟩ (fun k H' _ h => .inl (.inl (h.1 _ _ kF6))) ?_ ?_
          · rintro k v H7 H8 hk ⟨s7, kB⟩ ⟨rfl, ev⟩
            obtain ⟨d', ed0, t, rfl, nt, kt⟩ := LR.get hys6 ev
            unfold fndL at ed0
            rw [List.getElem?_map] at ed0
            obtain ⟨d, ed, rfl⟩ := Option.map_eq_some_iff.mp ed0
            clear ed0
            obtain ⟨j, r, ej, jm, fj⟩ := fnd_head (m := m) (Nat.le_of_lt hi2) ed
            obtain ⟨rj, erj, krj⟩ := rowAt j jm
            rw [fj] at krj
            rw [ej] at kt
            have s47 := s46.trans s7
            have hk2 : k < ys.length := hk
            refine ⟨rfl, _, rfl, _, rfl, t, _, _, .int (j : Int), rfl, rfl, seqLs s7 kt, at00 _ _, R, _, _, _, rfl, rfl, seqLs s47 kR1, atI_nat erj, ?_⟩
            refine ⟨_, rfl, _, rfl, R, _, _, _, rfl, rfl, seqLs s47 kR1, atI_nat eri, ?_⟩
            refine ⟨_, _, HD.dp_ints (K := K) (seqLs s47 krj), HD.dp_ints (K := K) (seqLs s47 kri), shaped_ints _, shaped_ints _, ?_⟩
            rw [eqv_ints]
            refine ⟨_, kB, ?_, HD.same_put s7 nB, ?_⟩
            · rw [List.length_map, List.length_map, List.length_take]
              omega
            · rw [upd_same, List.take_add_one, ed, List.map_append, List.map_append]
              rfl
          · rintro H7 ⟨s7, kB⟩
            have lsg : ys.length = (sgL (fT ts) i).length := by rw [ly]; exact List.length_map _
            rw [lsg, List.take_length] at kB
            refine ⟨B, _, rfl, .inl (.inl kB), ?_⟩
            rw [any_eq]
            have s47 := s46.trans s7
            refine ⟨_, rfl, ?_⟩
            by_cases cm : fT ts i ∈ sgL (fT ts) i
            · rw [decide_eq_true cm]
              refine iteF ⟨⟨_, rfl⟩, s47, ys, s7 _ _ kF6, ?_⟩
              rw [fnd_old (.inr cm)]
              exact LR.imp (fun _ _ q => IntsN.mono s7 q) hys6
            · rw [decide_eq_false cm]
              refine iteT ?_
              have kF7 := s7 _ _ kF6
              refine ⟨_, rfl, .inl ⟨rfl, _, .inl (.inl kF7)⟩, _, rfl, _, rfl, by omega, by omega, fun D nD => ?_⟩
              refine lc_it (walk_range (lo := 0) (n := ((m : Nat) : Int).toNat)) (fun k H' => Same H7 H' ∧ H' D = some (.lst ((pick (memb (fT ts) (fT ts i)) k).map V.int))) ⟨same_upd nD, upd_same⟩ (fun _ _ _ _ => trivial) ?_ ?_
              · rintro k v H8 H9 hk ⟨s8, kD⟩ ⟨rfl, rfl⟩
                have hk2 : k < m := by have : k < ((m : Nat) : Int).toNat := hk; omega
                have zk : (0 : Int) + (k : Nat) = ((k : Nat) : Int) := Int.zero_add _
                obtain ⟨rk, erk, krk⟩ := rowAt k hk2
                have s48 := s47.trans s8
                have pl := pick_len (memb (fT ts) (fT ts i)) k
                refine ⟨rfl, _, rfl, _, rfl, R, _, _, _, rfl, rfl, seqLs s48 kR1, by rw [zk]; exact atI_nat erk, _, rfl, _, rfl, R, _, _, _, rfl, rfl, seqLs s48 kR1, atI_nat eri, ?_⟩
                refine ⟨_, _, HD.dp_ints (K := K) (seqLs s48 krk), HD.dp_ints (K := K) (seqLs s48 kri), shaped_ints _, shaped_ints _, _, rfl, ?_⟩
                rw [eqv_ints]
                by_cases e : fT ts k = fT ts i
                · rw [decide_eq_true e]
                  refine iteT ⟨_, rfl, _, kD, by rw [List.length_map]; omega, HD.same_put s8 nD, ?_⟩
                  rw [upd_same, pick_yes (decide_eq_true e), List.map_append]
                  show some (HO.lst (_ ++ [V.int (0 + (k : Int))])) = _
                  rw [zk]
                  rfl
                · rw [decide_eq_false e]
                  refine iteF ⟨s8, ?_⟩
                  rw [pick_no (decide_eq_false e)]
                  exact kD
              · rintro H8 ⟨s8, kD⟩
                rw [Int.toNat_natCast] at kD
                have kF8 := s8 _ _ kF7
                have nDF : D ≠ Fd := fun e => by rw [e, kF7] at nD; cases nD
                refine ⟨Fd, _, _, rfl, rfl, kF8, by omega, ⟨_, rfl⟩, HD.same_put (s47.trans s8) nF, ys ++ [.ref D], upd_same, ?_⟩
                rw [fnd_new (by rintro (h | h); exact c0 h; exact cm h)]
                exact LR.imp (fun _ _ q => IntsN.upd (fun _ n => n) q) (LR.append (LR.imp (fun _ _ q => IntsN.mono (s7.trans s8) q) hys6) (show LR (IntsN K (fun a => a ≠ Fd) H8) [.ref D] [pick (memb (fT ts) (fT ts i)) m] from ⟨⟨D, rfl, nDF, .inl (.inl kD)⟩, trivial⟩))
      · rintro σ H4 ⟨y2, s4, ys, kF, hys⟩
        rw [Int.toNat_natCast, fnd_end] at hys
        exact ⟨y2, s4, ys, kF, hys⟩
    rintro σ H4 ⟨⟨y2, rfl⟩, s4, ys, kF, hys⟩
    have cl := classes_len ts m
    have ly := LR.len hys
    have hX4 := seqT s4 hX1
    have hT4 := hT1.mono s4
    refine ⟨_, rfl, _, rfl, l, rfl, ⟨_, hX4⟩, fun D nD => ?_⟩
    refine lc_it (walk_tup (K := K) (a := l) (xs := xs)) (fun i H' => Same H4 H' ∧ ∃ zs, H' D = some (.lst zs) ∧ LR (IntsN K (fun a => a ≠ D) H') zs ((lotsC ts m).take i)) ⟨same_upd nD, [], upd_same, trivial⟩ (fun i H' _ h => seqT h.1 hX4) ?_ ?_
    · rintro i v H5 H6 hi ⟨s5, zs, kD, hz⟩ ⟨rfl, ev⟩
      obtain ⟨tl, c, rfl, ec, htl⟩ := hT4.get ev
      have mc := List.mem_of_getElem? ec
      have okc := okT c mc
      have hi2 : i < xs.length := hi
      have lz := LR.len hz
      rw [List.length_take, lotsC_len] at lz
      have kF5 := s5 _ _ kF
      have hys5 := LR.imp (fun _ _ q => IntsN.mono s5 q) hys
      refine ⟨rfl, _, rfl, Fd, _, rfl, .inl (.inl (.inl kF5)), _, rfl, by omega, by omega, fun L nL => ?_⟩
      have neL : L ≠ D := fun e => by rw [e, kD] at nL; cases nL
      refine lc_it (walk_range (lo := 0) (n := ((ys.length : Nat) : Int).toNat)) (fun j H' => Same H6 H' ∧ H' L = some (.lst ((rowC (classesL ts m) c j).map V.int))) ⟨same_upd nL, upd_same⟩ (fun _ _ _ _ => trivial) ?_ ?_
      · rintro j v H7 H8 hj ⟨s7, kL⟩ ⟨rfl, rfl⟩
        have hj2 : j < ys.length := by have : j < ((ys.length : Nat) : Int).toNat := hj; omega
        have ej : (0 : Int) + (j : Nat) = (j : Nat) := Int.zero_add _
        have ey : ys[j]? = some ys[j] := List.getElem?_eq_getElem hj2
        obtain ⟨cl', ecl, t, et, _, kt⟩ := LR.get hys5 ey
        rw [et] at ey
        have hne := cls_ne cl' (List.mem_of_getElem? ecl)
        have hd : ∃ x r, cl' = x :: r := by
          cases cl' with
          | nil => exact absurd rfl hne
          | cons x r => exact ⟨x, r, rfl⟩
        obtain ⟨x, r, rfl⟩ := hd
        have hm := meet_head mc okc.2.1 ecl
        have rl := rowC_len (classesL ts m) c j
        have eat : atI ys ((0 : Int) + (j : Nat)) = some (.ref t) := by rw [ej]; exact atI_nat ey
        refine ⟨rfl, _, rfl, _, rfl, Fd, _, _, _, rfl, rfl, .inl (.inl (s7 _ _ kF5)), eat, t, _, _, .int x, rfl, rfl, seqLs s7 kt, at00 _ _, _, rfl, tl, c.map V.int, rfl, .inr (seqT (s5.trans s7) htl), rfl, flat_ints c, _, rfl, ?_⟩
        rw [inV_ints]
        cases hc : c.contains x with
        | true =>
          refine iteT ⟨_, rfl, _, kL, by rw [List.length_map]; omega, HD.same_put s7 nL, ?_⟩
          rw [upd_same, rowC_yes ecl (by rw [hm]; exact hc), List.map_append]
          show some (HO.lst (_ ++ [V.int (0 + (j : Int))])) = _
          rw [ej]
          rfl
        | false =>
          refine iteF ⟨s7, ?_⟩
          rw [rowC_no ecl (by rw [hm]; exact hc)]
          exact kL
      · rintro H7 ⟨s7, kL⟩
        rw [Int.toNat_natCast, ly] at kL
        have kD7 := s7 _ _ kD
        refine ⟨zs, kD7, by omega, HD.same_put (s5.trans s7) nD, zs ++ [.ref L], upd_same, ?_⟩
        have el : (lotsC ts m)[i]? = some (rowC (classesL ts m) c (classesL ts m).length) := by
          unfold lotsC
          rw [List.getElem?_map, ec]
          rfl
        rw [List.take_add_one, el]
        exact LR.imp (fun _ _ q => IntsN.upd (fun _ n => n) q) (LR.append (LR.imp (fun _ _ q => IntsN.mono s7 q) hz) (show LR (IntsN K (fun a => a ≠ D) H7) [.ref L] [rowC (classesL ts m) c (classesL ts m).length] from ⟨⟨L, rfl, neL, .inl (.inl kL)⟩, trivial⟩))
    · rintro H5 ⟨s5, zs, kD, hz⟩
      rw [lx, ← lotsC_len ts m, List.take_length] at hz
      refine ⟨by show 2 ≤ sizeLine; decide, fun r nr => ?_⟩
      have sr := same_upd (o := .tup [.ref Fd, .ref D]) nr
      exact fin _ r Fd D (s4.trans (s5.trans sr)) upd_same ⟨ys, .inl (.inl (sr _ _ (s5 _ _ kF))), LR.imp (fun _ _ q => IntsL.mono (s5.trans sr) (IntsN.L q)) hys⟩ ⟨zs, .inl (.inl (sr _ _ kD)), LR.imp (fun _ _ q => IntsL.mono sr (IntsN.L q)) hz⟩
end
end K04
namespace CK
open PySem PySem.Spec PyProof.Rows L2 VG FR HD M9
def growL (S l : List Int) : List Int := if meetsB l S = true then S ++ l.filter (fun x => !S.contains x) else S
theorem grow_same {S l : List Int} (h : (growL S l).length = S.length) : growL S l = S ∧ (meetsB l S = true → ∀ x ∈ l, x ∈ S) := by
  unfold growL at h ⊢
  split
  · rename_i hm
    rw [if_pos hm, List.length_append] at h
    have e : l.filter (fun x => !S.contains x) = [] := List.eq_nil_of_length_eq_zero (by omega)
    refine ⟨by rw [e, List.append_nil], fun _ x mx => ?_⟩
    have := List.filter_eq_nil_iff.mp e x mx
    exact List.contains_iff_mem.mp (by simpa using this)
  · rename_i hm
    exact ⟨rfl, fun z => absurd z hm⟩
theorem grow_len (S l : List Int) : S.length ≤ (growL S l).length := by
  unfold growL
  split
  · rw [List.length_append]
    omega
  · exact Nat.le_refl _
theorem grows_len : ∀ (ls : List (List Int)) (S : List Int), S.length ≤ (ls.foldl growL S).length
  | [], _ => Nat.le_refl _
  | l :: ls, S => Nat.le_trans (grow_len S l) (grows_len ls (growL S l))
theorem grows_same : ∀ (ls : List (List Int)) (S : List Int), (ls.foldl growL S).length = S.length → ls.foldl growL S = S ∧ ∀ l ∈ ls, meetsB l S = true → ∀ x ∈ l, x ∈ S
  | [], _, _ => ⟨rfl, fun l m => by cases m⟩
  | l :: ls, S, h => by
    have h : (ls.foldl growL (growL S l)).length = S.length := h
    have h1 := grow_len S l
    have h2 := grows_len ls (growL S l)
    have ⟨e, c⟩ := grow_same (S := S) (l := l) (by omega)
    rw [e] at h
    have ⟨e2, c2⟩ := grows_same ls S h
    refine ⟨by show ls.foldl growL (growL S l) = S; rw [e, e2], fun l' m => ?_⟩
    rcases List.mem_cons.mp m with rfl | m
    · exact c
    · exact c2 l' m
def ClosedS (lots : List (List Int)) (S : List Int) : Prop := ∀ l ∈ lots, meetsB l S = true → ∀ x ∈ l, x ∈ S
theorem grow_closed {S l : List Int} (h : meetsB l S = true → ∀ x ∈ l, x ∈ S) : growL S l = S := by
  unfold growL
  split
  · rename_i hm
    have e : l.filter (fun x => !S.contains x) = [] := List.filter_eq_nil_iff.mpr fun x mx => by
      have := List.contains_iff_mem.mpr (h hm x mx)
      rw [this]
      exact Bool.noConfusion
    rw [e, List.append_nil]
  · rfl
theorem grows_closed : ∀ {ls : List (List Int)} {S : List Int}, ClosedS ls S → ls.foldl growL S = S
  | [], _, _ => rfl
  | l :: ls, S, h => by
    show ls.foldl growL (growL S l) = S
    rw [grow_closed (h l List.mem_cons_self)]
    exact grows_closed fun l' m => h l' (List.mem_cons_of_mem _ m)
structure GoodS (lots : List (List Int)) (s : Int) (S : List Int) : Prop where
  nd : S.Nodup
  rch : ∀ x ∈ S, Rch lots s x
  self : s ∈ S
theorem GoodS.grow {lots : List (List Int)} {s : Int} {S l : List Int} (h : GoodS lots s S) (ml : l ∈ lots) (nd : l.Nodup) : GoodS lots s (growL S l) := by
  unfold growL
  split
  · rename_i hm
    obtain ⟨y, y1, y2⟩ := meets_iff.mp hm
    refine ⟨List.nodup_append.mpr ⟨h.nd, nd.sublist List.filter_sublist, fun a ha b hb e => ?_⟩, fun x mx => ?_, List.mem_append_left _ h.self⟩
    · subst e
      have := (List.mem_filter.mp hb).2
      rw [List.contains_iff_mem.mpr ha] at this
      cases this
    · rcases List.mem_append.mp mx with z | z
      · exact h.rch x z
      · exact .step (h.rch y y2) ml y1 (List.mem_filter.mp z).1
  · exact h
theorem goodS_few {lots : List (List Int)} {m : Nat} (low : LotsB lots m) {s : Int} (hs : 0 ≤ s ∧ s < (m : Int)) {S : List Int} (h : GoodS lots s S) : S.length ≤ m := by
  have := nodup_le S (rangeL m) h.nd fun x mx => mem_range.mpr ((h.rch x mx).low low hs)
  rw [range_len] at this
  exact this
/-- one round more -/
theorem round_next {lots : List (List Int)} {S : List Int} {k : Nat} (h : ClosedS lots S ∨ k + 1 ≤ S.length) : ClosedS lots (lots.foldl growL S) ∨ k + 1 + 1 ≤ (lots.foldl growL S).length := by
  rcases h with h | h
  · rw [grows_closed h]
    exact .inl h
  · by_cases e : (lots.foldl growL S).length = S.length
    · have ⟨e1, c⟩ := grows_same lots S e
      rw [e1]
      exact .inl c
    · have := grows_len lots S
      exact .inr (by omega)
theorem piece_end {lots : List (List Int)} {s : Int} {S P : List Int} (h : GoodS lots s S) (c : ClosedS lots S) (pm : P.Perm S) (le : P.Pairwise (· ≤ ·)) : IsPiece lots s P := by
  have nd : P.Nodup := pm.nodup_iff.mpr h.nd
  refine piece_of ((List.pairwise_and_iff.mpr ⟨le, nd⟩).imp fun ⟨h1, h2⟩ => by omega) (pm.mem_iff.mpr h.self) (fun x mx => h.rch x (pm.mem_iff.mp mx)) fun x mx => ?_
  obtain ⟨l, ml, hx⟩ := List.mem_flatten.mp mx
  obtain ⟨m1, m2⟩ := List.mem_filter.mp ml
  obtain ⟨y, y1, y2⟩ := meets_iff.mp m2
  exact pm.mem_iff.mpr (c l m1 (meets_iff.mpr ⟨y, y1, pm.mem_iff.mp y2⟩) x hx)
theorem lex_less {Q P : List Int} {i s : Int} (aQ : Q.Pairwise (· < ·)) (mQ : s ∈ Q) (lt : s < i) (hP : ∀ x ∈ P, i ≤ x) (ne : P ≠ []) : TU.lexI Q P = true := by
  cases P with
  | nil => exact absurd rfl ne
  | cons p P =>
    have hp := hP p List.mem_cons_self
    cases Q with
    | nil => cases mQ
    | cons q Q =>
      have hq : q ≤ s := by
        rcases List.mem_cons.mp mQ with e | z
        · omega
        · have := (List.pairwise_cons.mp aQ).1 s z
          omega
      show (if q = p then TU.lexI Q P else decide (q < p)) = true
      rw [if_neg (by omega), decide_eq_true_eq]
      omega
/-- pieces found so far -/
structure PcsI (lots : List (List Int)) (i : Nat) (Ps : List (List Int)) : Prop where
  lex : LexAsc Ps
  mem : ∀ P, P ∈ Ps ↔ ∃ s : Int, 0 ≤ s ∧ s < (i : Int) ∧ IsPiece lots s P
theorem PcsI.skip {lots : List (List Int)} {i : Nat} {Ps : List (List Int)} (h : PcsI lots i Ps) {P : List Int} (hP : IsPiece lots (i : Int) P) (mP : P ∈ Ps) : PcsI lots (i + 1) Ps := ⟨h.lex, fun R => by
  rw [h.mem R]
  constructor
  · rintro ⟨s, h1, h2, h3⟩
    exact ⟨s, h1, by omega, h3⟩
  · rintro ⟨s, h1, h2, h3⟩
    by_cases e : s = (i : Int)
    · rw [e] at h3
      rw [h3.uniq hP]
      exact (h.mem P).mp mP
    · exact ⟨s, h1, by omega, h3⟩⟩
theorem PcsI.add {lots : List (List Int)} {m i : Nat} (low : LotsB lots m) (hi : i < m) {Ps : List (List Int)} (h : PcsI lots i Ps) {P : List Int} (hP : IsPiece lots (i : Int) P) (nP : P ∉ Ps) : PcsI lots (i + 1) (Ps ++ [P]) := by
  refine ⟨List.pairwise_append.mpr ⟨h.lex, List.pairwise_singleton _ _, fun Q mQ R mR => ?_⟩, fun R => ?_⟩
  · rw [List.mem_singleton.mp mR]
    obtain ⟨s, s0, s1, hQ⟩ := (h.mem Q).mp mQ
    refine lex_less hQ.asc hQ.self s1 (fun x mx => ?_) (fun e => by have := hP.self; rw [e] at this; cases this)
    have xl := ((hP.mem x).mp mx).low low ⟨by omega, by omega⟩
    rcases Int.lt_or_le x (i : Int) with z | z
    · exact absurd ((h.mem P).mpr ⟨x, xl.1, z, hP.move mx⟩) nP
    · exact z
  · rw [List.mem_append, h.mem R]
    constructor
    · rintro (⟨s, h1, h2, h3⟩ | z)
      · exact ⟨s, h1, by omega, h3⟩
      · rw [List.mem_singleton.mp z]
        exact ⟨(i : Int), by omega, by omega, hP⟩
    · rintro ⟨s, h1, h2, h3⟩
      by_cases e : s = (i : Int)
      · rw [e] at h3
        exact .inr (List.mem_singleton.mpr (h3.uniq hP))
      · exact .inl ⟨s, h1, by omega, h3⟩
def spLawPcs (K : PySem.W.Frag) : Sp := fun vs H Q _ => ∃ (l : Addr) (m : Nat) (lots : List (List Int)), vs = [.ref l, .int m] ∧ RowsL K H l lots ∧ lots.length ≤ 12 ∧ LotsB lots m ∧ (∀ c ∈ lots, c.Pairwise (· < ·)) ∧ m ≤ 12 ∧
  ∀ (H' : Hp) (D : Addr) (ps : List (Addr × List Int)), Same H H' → H' D = some (.lst (ps.map fun p => V.ref p.1)) → (∀ p ∈ ps, SqT K H' p.1 (p.2.map V.int)) → Pieces lots m (ps.map (·.2)) → Q (.ref D) H'
end CK
namespace K04
open PySem PySem.Spec PyProof.Rows L2 VG FR CK HD M9
abbrev s__law_pieces : Stmt := topS 45
abbrev N__law_pieces : List Str := ["lots", "many", "found", "first", "some", "turn", "lot", "piece", "one"]
theorem sc__law_pieces : FnScope N__law_pieces ["lots", "many"] (defScope s__law_pieces) := ⟨rfl, rfl, rfl, by decide +kernel, rfl, by decide +kernel, by decide +kernel⟩
section
variable {P : Program} {w : World} {K : PySem.W.Frag} {mg : Str → Option Value} {base : Heap}
theorem ok__law_pieces {f : Addr} {fd : FuncData} (F : Fun K "_law_pieces" "_law_pieces" s__law_pieces f fd) (z_any : mg "any" = none) (z_range : mg "range" = none) (z_tuple : mg "tuple" = none) (z_sorted : mg "sorted" = none) : FnOk P w K mg base CX0 1 f fd ["lots", "many"] (spLawPcs K) := by
  refine F.ok sc__law_pieces (fun vs H Q E h => ?_) (fun cdv A outer s H vs Q E hr h => ?_)
  · obtain ⟨_, _, _, rfl, _⟩ := h
    rfl
  · obtain ⟨l, m, lots, rfl, ⟨xs, hX, hL⟩, l12, low, ascL, m12, fin⟩ := h
    refine ⟨_, (pss_cons (ps_set (i := 2) sc__law_pieces.nd rfl (.inl rfl) (pe_lst pa_nil))
    (pss_cut (ps_for PassesOwn.never rfl (pi_range1 (by rfl) z_range (pa_cons (pv 1) pa_nil)) (pg_name (i := 3) sc__law_pieces.nd rfl (.inl rfl))
      (pss_cons (ps_set (i := 4) sc__law_pieces.nd rfl (.inr rfl) (pe_lst (pa_cons (pv 3) pa_nil)))
      (pss_cut (ps_for PassesOwn.never rfl (pi_range1 (by rfl) z_range (pa_cons (pv 1) pa_nil)) (pg_name (i := 5) sc__law_pieces.nd rfl (.inl rfl))
        (pss_one (ps_for PassesOwn.never rfl (pi_list (pv 0)) (pg_name (i := 6) sc__law_pieces.nd rfl (.inl rfl))
          (pss_one (ps_if (pt_val (pe_callB (cr_any rfl) (by rfl) z_any (by decide +kernel) (pa_cons (pe_lc (own := [("one", 8)]) (by rfl) sc__law_pieces.nd (pi_list (pv 6)) (blkOk_by (own := [("one", 8)]) (N := N__law_pieces) (sc := defScope s__law_pieces) (by decide +kernel)) (fun _ _ _ _ _ => (pg_name (i := 8) sc__law_pieces.nd rfl (.inl rfl))) (fun _ _ _ _ _ => pts_nil) (fun _ _ _ _ _ => (pe_cmpR (show OpR _ (compareOp .In) (rIn K false) from op_in_seq) (pv 8) (pv 4) rfl))) pa_nil)))
            (pss_one (ps_set (i := 4) sc__law_pieces.nd rfl (.inr rfl) (pe_op op_cat (pv 4) (pe_lc (own := [("one", 8)]) (by rfl) sc__law_pieces.nd (pi_list (pv 6)) (blkOk_by (own := [("one", 8)]) (N := N__law_pieces) (sc := defScope s__law_pieces) (by decide +kernel)) (fun _ _ _ _ _ => (pg_name (i := 8) sc__law_pieces.nd rfl (.inl rfl))) (fun _ _ _ _ _ => (pts_one (pt_cmpR (show OpR _ (compareOp .NotIn) (rIn K true) from op_notIn_seq) (pv 8) (pv 4) rfl))) (fun _ _ _ _ _ => (pv 8))))))
            pss_nil)))))
      (pss_cons (ps_set (i := 7) sc__law_pieces.nd rfl (.inl rfl) (pe_callTy call_tupE (by rfl) z_tuple (by decide +kernel) (pa_cons (pe_callB cr_sorted (by rfl) z_sorted (by decide +kernel) (pa_cons (pv 4) pa_nil)) pa_nil)))
      (pss_one (ps_set (i := 2) sc__law_pieces.nd rfl (.inl rfl) (pe_op op_cat (pv 2) (pe_ifExp (pt_cmpR (op_notInD (units65 hr)) (pv 7) (pv 2) rfl) (pe_lst (pa_cons (pv 7) pa_nil)) (pe_lst pa_nil)))))))))
    (pss_one (ps_ret (pv 2))))), ?_⟩
    have big : sizeLine = 16777216 := by decide
    have lx := LR.len hL
    refine ⟨by show 0 ≤ sizeLine; exact Nat.zero_le _, fun D0 nD0 => ?_⟩
    generalize eH1 : L2.upd H D0 _ = H1
    have s1 := same_of nD0 eH1
    have kD0 := at_of eH1
    clear eH1
    refine ⟨fun σ H' => (∃ y3 y4 y5 y6 y7 : Option V, ∃ D : Addr, ∃ ps : List (Addr × List Int), σ = [some (.ref l), some (.int m), some (.ref D), y3, y4, y5, y6, y7, none] ∧ H' D = some (.lst (ps.map fun p => V.ref p.1)) ∧ (∀ p ∈ ps, SqT K H' p.1 (p.2.map V.int)) ∧ Pieces lots m (ps.map (·.2))) ∧ Same H H', ?_, ?_⟩
    · refine ⟨_, rfl, _, rfl, by omega, by omega, ?_⟩
      refine for_it (walk_range (lo := 0) (n := ((m : Nat) : Int).toNat)) (fun i σ H' => (∃ y3 y4 y5 y6 y7 : Option V, ∃ D : Addr, ∃ ps : List (Addr × List Int), σ = [some (.ref l), some (.int m), some (.ref D), y3, y4, y5, y6, y7, none] ∧ H' D = some (.lst (ps.map fun p => V.ref p.1)) ∧ (∀ p ∈ ps, SqT K H' p.1 (p.2.map V.int)) ∧ ps.length ≤ i ∧ PcsI lots i (ps.map (·.2))) ∧ Same H H') ⟨⟨none, none, none, none, none, D0, [], rfl, kD0, (by intro _ h; cases h), Nat.le_refl _, List.Pairwise.nil, fun P => ⟨(fun h => by cases h), fun ⟨s, h1, h2, _⟩ => absurd h2 (by omega)⟩⟩, s1⟩ (fun _ _ _ _ _ => trivial) ?_ ?_
      · rintro i x σ H2 H3 hi ⟨⟨y3, y4, y5, y6, y7, D, ps, rfl, kD, hps, lps, inv⟩, s2⟩ ⟨rfl, rfl⟩
        have hi2 : i < m := by have : i < ((m : Nat) : Int).toNat := hi; omega
        have z1 : (0 : Int) + (i : Nat) = ((i : Nat) : Int) := Int.zero_add _
        have hs : 0 ≤ (i : Int) ∧ (i : Int) < (m : Int) := ⟨by omega, by omega⟩
        show gName 3 (V.int ((0 : Int) + ((i : Nat) : Int))) _ _ _
        rw [z1]
        refine ⟨_, rfl, by show 1 ≤ sizeLine; decide, fun S0 nS0 => ?_⟩
        generalize eH4 : L2.upd _ S0 _ = H4
        have s4 := same_of nS0 eH4
        have kS0 : H4 S0 = some (.lst (([(i : Int)] : List Int).map V.int)) := at_of eH4
        clear eH4
        have s24 := s2.trans s4
        have kD4 := s4 _ _ kD
        have hps4 := fun p mp => seqT s4 (hps p mp)
        clear kD hps s4 s2 nS0
        refine ⟨fun σ H' => (∃ y5 y6 : Option V, ∃ so : Addr, ∃ S : List Int, σ = [some (.ref l), some (.int m), some (.ref D), some (.int i), some (.ref so), y5, y6, y7, none] ∧ H' so = some (.lst (S.map V.int)) ∧ GoodS lots (i : Int) S ∧ ClosedS lots S) ∧ Same H4 H', ?_, ?_⟩
        · refine ⟨_, rfl, _, rfl, by omega, by omega, ?_⟩
          refine for_it (walk_range (lo := 0) (n := ((m : Nat) : Int).toNat)) (fun k σ H' => (∃ y5 y6 : Option V, ∃ so : Addr, ∃ S : List Int, σ = [some (.ref l), some (.int m), some (.ref D), some (.int i), some (.ref so), y5, y6, y7, none] ∧ H' so = some (.lst (S.map V.int)) ∧ GoodS lots (i : Int) S ∧ (ClosedS lots S ∨ k + 1 ≤ S.length)) ∧ Same H4 H') ⟨⟨_, _, S0, [(i : Int)], rfl, kS0, ⟨List.nodup_cons.mpr ⟨List.not_mem_nil, List.nodup_nil⟩, fun x mx => by rw [List.mem_singleton.mp mx]; exact .refl, List.mem_cons_self⟩, .inr (Nat.le_refl _)⟩, fun _ _ h => h⟩ (fun _ _ _ _ _ => trivial) ?_ ?_
          · rintro k x σ H5 H6 hk ⟨⟨y5, y6, so, S, rfl, kS, good, cl⟩, s5⟩ ⟨rfl, rfl⟩
            show gName 5 _ _ _ _
            have s25 := s24.trans s5
            have hX5 := seqLs s25 hX
            have hL5 := LR.imp (fun _ _ q => IntsL.mono s25 q) hL
            refine ⟨_, rfl, l, rfl, ⟨_, hX5⟩, ?_⟩
            refine for_it (walk_list (K := K) (a := l) (xs := xs)) (fun j σ H' => (∃ y5 y6 : Option V, ∃ so : Addr, σ = [some (.ref l), some (.int m), some (.ref D), some (.int i), some (.ref so), y5, y6, y7, none] ∧ H' so = some (.lst (((lots.take j).foldl growL S).map V.int)) ∧ GoodS lots (i : Int) ((lots.take j).foldl growL S)) ∧ Same H6 H') ⟨⟨_, _, so, rfl, kS, good⟩, fun _ _ h => h⟩ (fun j σ H' _ h => seqLs h.2 hX5) ?_ ?_
            · rintro j v σ H7 H8 hj ⟨⟨y5, y6, so, rfl, kS, good⟩, s7⟩ ⟨rfl, ev⟩
              obtain ⟨c, ec, t, rfl, kt⟩ := LR.get hL5 ev
              have mc := List.mem_of_getElem? ec
              have c12 := (low c mc).1
              have nd : c.Nodup := (ascL c mc).imp fun h => by omega
              have few := goodS_few low hs good
              have e1 : (lots.take (j + 1)).foldl growL S = growL ((lots.take j).foldl growL S) c := by
                rw [List.take_add_one, ec, List.foldl_append]
                rfl
              have good2 := good.grow mc nd
              generalize (lots.take j).foldl growL S = S1 at *
              rw [e1]
              have kt7 := seqLs s7 kt
              show gName 6 (V.ref t) _ _ _
              refine ⟨_, rfl, t, rfl, ⟨_, kt7⟩, fun B nB => ?_⟩
              refine lc_it (walk_list (K := K) (a := t) (xs := c.map V.int)) (fun q H' => Same H8 H' ∧ H' B = some (.lst (((c.take q).map fun x => S1.contains x).map V.bl))) ⟨same_upd nB, upd_same⟩ (fun q H' _ h => seqLs h.1 kt7) ?_ ?_
              · rintro q v H9 H10 hq ⟨s9, kB⟩ ⟨rfl, ew⟩
                rw [List.getElem?_map] at ew
                obtain ⟨x, ex, rfl⟩ := Option.map_eq_some_iff.mp ew
                refine ⟨rfl, _, rfl, _, rfl, so, S1.map V.int, rfl, .inl (.inl (.inl (s9 _ _ kS))), rfl, flat_ints S1, ?_⟩
                rw [inV_ints]
                refine ⟨_, kB, ?_, HD.same_put s9 nB, ?_⟩
                · rw [List.length_map, List.length_map, List.length_take]
                  omega
                · rw [upd_same, List.take_add_one, ex, List.map_append, List.map_append]
                  rfl
              · rintro H9 ⟨s9, kB⟩
                rw [List.length_map, List.take_length] at kB
                refine ⟨B, _, rfl, .inl (.inl kB), ?_⟩
                have e2 : (c.map fun x => S1.contains x).any id = meetsB c S1 := by
                  unfold meetsB
                  rw [List.any_map]
                  rfl
                rw [e2]
                refine ⟨_, rfl, ?_⟩
                have kS9 := s9 _ _ kS
                have s79 := s7.trans s9
                cases hm : meetsB c S1 with
                | false =>
                  refine iteF ⟨⟨_, _, so, rfl, ?_, good2⟩, s79⟩
                  unfold growL
                  rw [hm, if_neg Bool.false_ne_true]
                  exact kS9
                | true =>
                  have kt9 := seqLs s79 kt
                  have eg : growL S1 c = S1 ++ c.filter (fun x => !S1.contains x) := by
                    unfold growL
                    rw [if_pos hm]
                  refine iteT ⟨_, rfl, _, rfl, t, rfl, ⟨_, kt9⟩, fun G nG => ?_⟩
                  refine lc_it (walk_list (K := K) (a := t) (xs := c.map V.int)) (fun q H' => Same H9 H' ∧ H' G = some (.lst (((c.take q).filter fun x => !S1.contains x).map V.int))) ⟨same_upd nG, upd_same⟩ (fun q H' _ h => seqLs h.1 kt9) ?_ ?_
                  · rintro q v H10 H11 hq ⟨s10, kG⟩ ⟨rfl, ew⟩
                    rw [List.getElem?_map] at ew
                    obtain ⟨x, ex, rfl⟩ := Option.map_eq_some_iff.mp ew
                    refine ⟨rfl, _, rfl, _, rfl, so, S1.map V.int, rfl, .inl (.inl (.inl (s10 _ _ kS9))), rfl, flat_ints S1, _, rfl, ?_⟩
                    rw [inV_ints]
                    have tk : (c.take (q + 1)).filter (fun x => !S1.contains x) = (c.take q).filter (fun x => !S1.contains x) ++ (if (!S1.contains x) = true then [x] else []) := by
                      rw [List.take_add_one, ex, List.filter_append]
                      congr 1
                      show List.filter _ [x] = _
                      rw [List.filter_cons, List.filter_nil]
                    have fl : ((c.take q).filter fun x => !S1.contains x).length ≤ 12 := Nat.le_trans (List.length_filter_le _ _) (by rw [List.length_take]; omega)
                    cases hx : S1.contains x with
                    | true =>
                      refine iteF ⟨s10, ?_⟩
                      rw [tk, hx]
                      simp only [Bool.not_true, Bool.false_eq_true, if_false, List.append_nil]
                      exact kG
                    | false =>
                      refine iteT ⟨_, rfl, _, kG, by rw [List.length_map]; omega, HD.same_put s10 nG, ?_⟩
                      rw [upd_same, tk, hx, List.map_append]
                      rfl
                  · rintro H10 ⟨s10, kG⟩
                    rw [List.length_map, List.take_length] at kG
                    have fl : (c.filter fun x => !S1.contains x).length ≤ 12 := Nat.le_trans (List.length_filter_le _ _) c12
                    refine ⟨so, G, _, _, rfl, rfl, s10 _ _ kS9, kG, by rw [List.length_map, List.length_map]; omega, fun Z nZ => ?_⟩
                    refine ⟨⟨_, _, Z, rfl, ?_, good2⟩, (s79.trans s10).trans (same_upd nZ)⟩
                    rw [upd_same, eg, List.map_append]
            · rintro σ H7 ⟨⟨y5, y6, so, rfl, kS, good⟩, s7⟩
              rw [lx, List.take_length] at kS good
              exact ⟨⟨_, _, so, _, rfl, kS, good, round_next cl⟩, s5.trans s7⟩
          · rintro σ H5 ⟨⟨y5, y6, so, S, rfl, kS, good, cl⟩, s5⟩
            rw [Int.toNat_natCast] at cl
            refine ⟨⟨_, _, so, S, rfl, kS, good, ?_⟩, s5⟩
            rcases cl with z | z
            · exact z
            · have := goodS_few low hs good
              omega
        rintro σ H5 ⟨⟨y5, y6, so, S, rfl, kS, good, cl⟩, s5⟩
        have few := goodS_few low hs good
        refine ⟨_, rfl, so, S, rfl, .inl (.inl kS), by omega, fun ns r pm le nr => ?_⟩
        generalize eH6 : L2.upd H5 r _ = H6
        have s6 := same_of nr eH6
        have kr := at_of eH6
        clear eH6
        refine ⟨r, _, rfl, .inl (.inl (.inl kr)), fun H7 u s7 hu => ?_⟩
        have hP := piece_end good cl pm le
        clear good cl pm le few kr nr
        have s47 := s5.trans (s6.trans s7)
        have kD7 := s47 _ _ kD4
        have hps7 := fun p mp => seqT s47 (hps4 p mp)
        have s27 := s24.trans s47
        clear s5 s6 s7 s47 s24 kD4 hps4 kS
        have dps : DpAll K H7 (ps.map fun p => V.ref p.1) ((ps.map Prod.snd).map dI) := dpAll_tots (tots_refs ps hps7)
        refine ⟨_, rfl, _, rfl, _, rfl, _, _, dp_I hu, .lst (.inl (.inl kD7)) dps, shaped_dI _, shaped_tots _, _, rfl, ?_⟩
        rw [any_dI]
        by_cases c2 : ns ∈ ps.map Prod.snd
        · rw [decide_eq_true c2]
          refine iteF ⟨by show 0 ≤ sizeLine; exact Nat.zero_le _, fun o no => ?_⟩
          have so := same_upd (o := .lst []) no
          refine ⟨D, o, _, _, rfl, rfl, so _ _ kD7, upd_same, by rw [List.length_map]; show ps.length + 0 ≤ sizeLine; omega, fun p2 np2 => ?_⟩
          have sp2 := same_upd (o := .lst ((ps.map fun p => V.ref p.1) ++ [])) np2
          refine ⟨⟨_, _, _, _, _, p2, ps, rfl, by rw [upd_same, List.append_nil], fun p mp => seqT (so.trans sp2) (hps7 p mp), by omega, inv.skip hP c2⟩, s27.trans (so.trans sp2)⟩
        · rw [decide_eq_false c2]
          refine iteT ⟨_, rfl, by show 1 ≤ sizeLine; decide, fun o no => ?_⟩
          have so := same_upd (o := .lst [V.ref u]) no
          refine ⟨D, o, _, _, rfl, rfl, so _ _ kD7, upd_same, by rw [List.length_map]; show ps.length + 1 ≤ sizeLine; omega, fun p2 np2 => ?_⟩
          have sp2 := same_upd (o := .lst ((ps.map fun p => V.ref p.1) ++ [V.ref u])) np2
          refine ⟨⟨_, _, _, _, _, p2, ps ++ [(u, ns)], rfl, by rw [upd_same, List.map_append]; rfl, fun p mp => ?_, by rw [List.length_append]; show ps.length + 1 ≤ i + 1; omega, ?_⟩, s27.trans (so.trans sp2)⟩
          · rcases List.mem_append.mp mp with z | z
            · exact seqT (so.trans sp2) (hps7 p z)
            · rw [List.mem_singleton.mp z]
              exact seqT (so.trans sp2) hu
          · rw [List.map_append]
            exact inv.add low hi2 hP c2
      · rintro σ H2 ⟨⟨y3, y4, y5, y6, y7, D, ps, rfl, kD, hps, lps, inv⟩, s2⟩
        rw [Int.toNat_natCast] at inv
        exact ⟨⟨_, _, _, _, _, D, ps, rfl, kD, hps, ⟨inv.lex, inv.mem⟩⟩, s2⟩
    rintro σ H2 ⟨⟨y3, y4, y5, y6, y7, D, ps, rfl, kD, hps, inv⟩, s2⟩
    exact ⟨_, rfl, fin H2 D ps s2 kD hps inv⟩
end
end K04
namespace CK
open PySem PySem.Spec PyProof.Rows L2 VG FR HD M9
theorem Pieces.pc {ts : List (List Int)} {n : Nat} (hn : n ≤ 12) {Ps : List (List Int)} (h : Pieces (lotsC ts n) (classesL ts n).length Ps) {P : List Int} (m : P ∈ Ps) : PcOk ts n P ∧ P ≠ [] ∧ ∀ x ∈ P, IsPiece (lotsC ts n) x P := by
  obtain ⟨s, s0, s1, hP⟩ := (h.mem P).mp m
  exact ⟨⟨hP.asc, fun x mx => ((hP.mem x).mp mx).low (lotsC_low ts hn) ⟨s0, s1⟩⟩, (fun e => by have := hP.self; rw [e] at this; cases this), fun x mx => hP.move mx⟩
theorem Pieces.few {lots : List (List Int)} {m : Nat} {Ps : List (List Int)} (h : Pieces lots m Ps) : Ps.length ≤ m := by
  classical
  have := nodup_le Ps ((rangeL m).map fun s => if q : ∃ P, IsPiece lots s P then Classical.choose q else []) h.lex.nodup fun P mP => by
    obtain ⟨s, s0, s1, hP⟩ := (h.mem P).mp mP
    refine List.mem_map.mpr ⟨s, mem_range.mpr ⟨s0, s1⟩, ?_⟩
    have q : ∃ P, IsPiece lots s P := ⟨P, hP⟩
    rw [dif_pos q]
    exact (Classical.choose_spec q).uniq hP
  rw [List.length_map, range_len] at this
  exact this
/-- a piece's total has kinds of the piece alone -/
theorem tot_in {ts : List (List Int)} {n : Nat} (hn : n ≤ 12) (ok : ∀ c ∈ ts, LotOk (n : Int) c) {P : List Int} (h : ∀ x ∈ P, IsPiece (lotsC ts n) x P) {j : Nat} {c : List Int} (e : ts[j]? = some c) (mj : (j : Int) ∈ totP (lotsC ts n) P) : ∀ k ∈ c, k ∈ kdsP ts n P := fun k hk => by
  have by_ : ByCls ts n (lotsC ts n) := byCls_rows hn ok
  have mc := List.mem_of_getElem? e
  have ⟨k0, k1⟩ := (ok c mc).2.1 k hk
  obtain ⟨i, rfl⟩ := Int.eq_ofNat_of_zero_le k0
  obtain ⟨a, cl, g1, g2, g3⟩ := cls_one (n := n) mc (by omega) hk
  obtain ⟨j2, hj, hm, ej⟩ := mem_pick.mp mj
  have : j = j2 := by omega
  subst this
  have el : (lotsC ts n)[j]? = some (lotsC ts n)[j] := List.getElem?_eq_getElem hj
  rw [List.getD_eq_getElem?_getD, el] at hm
  obtain ⟨y, y1, y2⟩ := meets_iff.mp (show meetsB (lotsC ts n)[j] P = true from hm)
  have ha : (a : Int) ∈ (lotsC ts n)[j] := (by_.rel j _ _ e el (a : Int)).mpr ⟨(i : Int), hk, num_of g1 g2 g3⟩
  have hP := h y y2
  have aP : (a : Int) ∈ P := (hP.mem _).mpr (.step ((hP.mem y).mp y2) (List.getElem_mem hj) y1 ha)
  refine mem_kdsP.mpr ⟨(a : Int), aP, ?_⟩
  rw [Int.toNat_natCast, List.getD_eq_getElem?_getD, g1]
  exact g2
theorem newT_all {K c : List Int} (h : ∀ k ∈ c, k ∈ K) : newT K c = c.map (plc K) := by
  unfold newT
  rw [List.filter_eq_self.mpr fun k mk => List.contains_iff_mem.mpr (h k mk)]
theorem flat_few {ts : List (List Int)} {n : Nat} {R : List Int} (pc : PcOk ts n R) (i : Nat) : ((R.take i).flatMap fun x => (classesL ts n).getD x.toNat []).length ≤ n := by
  have nd : ((R.take i).flatMap fun x => (classesL ts n).getD x.toNat []).Nodup := kds_nodup (List.Pairwise.sublist (List.take_sublist _ _) pc.asc) fun x mx => (pc.low x (List.mem_of_mem_take mx)).1
  have := nodup_le _ (rangeL n) nd fun k mk => by
    obtain ⟨x, mx, hx⟩ := List.mem_flatMap.mp mk
    obtain ⟨j, hj, _, rfl⟩ := mem_pick.mp ((mem_kdsP (ts := ts) (n := n) (P := R)).mpr ⟨x, List.mem_of_mem_take mx, hx⟩)
    exact mem_range.mpr (by omega)
  rw [range_len] at this
  exact this
theorem lotsC_asc (ts : List (List Int)) (n : Nat) : ∀ c ∈ lotsC ts n, c.Pairwise (· < ·) := fun c mc => by
  obtain ⟨d, _, rfl⟩ := List.mem_map.mp mc
  exact rowC_asc _ _ _
theorem shn_low {c : List Int} {n : Nat} (hn : n ≤ 12) (a : c.Pairwise (· < ·)) (l : ∀ x ∈ c, 0 ≤ x ∧ x < (n : Int)) : Shn (dI c) 1 326 := shn_dI (n := 12) (fun x mx => by
  have := l x mx
  have : (2 : Nat) ^ 24 = 16777216 := by decide
  omega) (by have := asc_few a l; omega)
theorem eqv_self (c : List Int) : PyData.eqv (dI c) (dI c) = true := by rw [eqv_dI]; exact decide_eq_true rfl
theorem eqv_int1 (a b : Int) : PyData.eqv (.int a) (.int b) = decide (a = b) := by
  rw [PyData.eqv]
  by_cases h : a = b
  · subst h; simp
  · simp [h]
theorem idx_first {K : List Int} {k : Int} {m : Nat} (h : m < K.idxOf k) (e : K[m]? = some k) : False := by
  have hm := (List.getElem?_eq_some_iff.mp e)
  obtain ⟨h1, h2⟩ := hm
  exact absurd (List.not_of_lt_findIdx (p := fun x => x == k) (xs := K) (by exact h)) (by rw [h2]; simp)
def spPcsRight (K : PySem.W.Frag) (C : Addr) : Sp := fun vs H Q _ => ∃ (a : Addr) (ks : List Str) (ts : List (List Int)), vs = [.ref a] ∧ Tab K C H a ks ts ∧ TabOk ks ts ∧ ∀ H', Same H H' → Q (.bl true) H'
end CK
namespace K04
open PySem PySem.Spec PyProof.Rows L2 VG FR CK HD M9
abbrev s__law_pieces_right : Stmt := topS 46
abbrev N__law_pieces_right : List Str := ["table", "kinds", "totals", "classes", "lots", "due", "piece", "one", "some", "left", "told", "rows", "at", "kind"]
theorem sc__law_pieces_right : FnScope N__law_pieces_right ["table"] (defScope s__law_pieces_right) := ⟨rfl, rfl, rfl, by decide +kernel, rfl, by decide +kernel, by decide +kernel⟩
section
variable {P : Program} {w : World} {K : PySem.W.Frag} {mg : Str → Option Value} {base : Heap}
theorem ok__law_pieces_right {f C : Addr} {fd : FuncData} (F : Fun K "_law_pieces_right" "_law_pieces_right" s__law_pieces_right f fd) (TC : TabC K C) (m_Table : mg "Table" = some (.ref C)) (isT : ∀ (H : Hp) (a dx : Addr) (fs : List (Str × V)), H a = some (.ins C dx fs) → TyX K H (.ref a) (.ref C)) (kT : PySem.W.kitOne K (.ref C) (.ref C) = some true) (EQ : EqC P w K mg base C)
    (C__law_classes : Cl P w K mg base 1 "_law_classes" (spLawCls4 K)) (C__law_pieces : Cl P w K mg base 1 "_law_pieces" (spLawPcs K)) (C_pieces_of : Cl P w K mg base 5 "pieces_of" (spPiecesOf K C)) (CK_pieces_of_table : ClK P w K mg base 5 "pieces_of" ["table"] (spPiecesOf K C))
    (C_piece_totals : Cl P w K mg base 5 "piece_totals" (spPieceTots K C)) (CR_piece_totals : ClR P w K mg base 5 "piece_totals" ["piece", "table"] (spPieceTots K C)) (C_piece_kinds : Cl P w K mg base 3 "piece_kinds" (spPieceKds K C)) (CR_piece_kinds : ClR P w K mg base 3 "piece_kinds" ["piece", "table"] (spPieceKds K C))
    (C_piece_table : Cl P w K mg base 10 "piece_table" (spPieceTab K C)) (CR_piece_table : ClR P w K mg base 10 "piece_table" ["piece", "table"] (spPieceTab K C))
    (z_len : mg "len" = none) (z_repr : mg "repr" = none) (z_tuple : mg "tuple" = none) (z_range : mg "range" = none) (z_any : mg "any" = none) (z_list : mg "list" = none) (z_sorted : mg "sorted" = none) (z_isinstance : mg "isinstance" = none) : FnG P w K mg base 11 f fd ["table"] (spPcsRight K C) := by
  refine fnG_of F sc__law_pieces_right (fun vs H Q E h => ?_) (fun cdv A outer s H vs Q E hg hr h => ?_)
  · obtain ⟨_, _, _, rfl, _⟩ := h
    rfl
  · obtain ⟨a, ks, ts, rfl, hTab, ok, fin⟩ := h
    refine ⟨_, (pss_cons (ps_asg (pe_tup (pa_cons (pe_fld (pv 0) (by rfl)) (pa_cons (pe_fld (pv 0) (by rfl)) pa_nil))) (pg_tup rfl (pgs_cons (pg_name (i := 1) sc__law_pieces_right.nd rfl (.inr rfl)) (pgs_cons (pg_name (i := 2) sc__law_pieces_right.nd rfl (.inr rfl)) pgs_nil))))
    (pss_cons (ps_asg (pe_cl C__law_classes hr (by decide) rfl (pa_cons (pe_callB call_len_seq (by rfl) z_len (by decide +kernel) (pa_cons (pv 1) pa_nil)) (pa_cons (pv 2) pa_nil))) (pg_tup rfl (pgs_cons (pg_name (i := 3) sc__law_pieces_right.nd rfl (.inl rfl)) (pgs_cons (pg_name (i := 4) sc__law_pieces_right.nd rfl (.inr rfl)) pgs_nil))))
    (pss_cons (ps_set (i := 5) sc__law_pieces_right.nd rfl (.inl rfl) (pe_cl C__law_pieces hr (by decide) rfl (pa_cons (pv 4) (pa_cons (pe_callB call_len_seq (by rfl) z_len (by decide +kernel) (pa_cons (pv 3) pa_nil)) pa_nil))))
    (pss_cons (ps_if (PW.pt (pw_or (pt_cmpR op_ne (pe_callB (cr_repr hg hr.units) (by rfl) z_repr (by decide +kernel) (pa_cons (pe_cl C_pieces_of hr (by decide) rfl (pa_cons (pv 0) pa_nil)) pa_nil)) (pe_callB (cr_repr hg hr.units) (by rfl) z_repr (by decide +kernel) (pa_cons (pe_callTy call_tupE (by rfl) z_tuple (by decide +kernel) (pa_cons (pv 5) pa_nil)) pa_nil)) (nomark _)) (pw_or1 (pt_cmpR (op_neD hr.units) (pe_clk0 CK_pieces_of_table hr (by decide) rfl (pk_cons (pv 0) pk_nil)) (pe_callTy call_tupE (by rfl) z_tuple (by decide +kernel) (pa_cons (pv 5) pa_nil)) (nomark _)))))
      (pss_one (ps_ret pe_bl))
      pss_nil)
    (pss_cut (ps_for PassesOwn.never rfl (pi_list (pv 5)) (pg_name (i := 6) sc__law_pieces_right.nd rfl (.inr rfl))
      (pss_cons (ps_set (i := 8) sc__law_pieces_right.nd rfl (.inl rfl) (pe_callTy call_tupE (by rfl) z_tuple (by decide +kernel) (pa_cons (pe_lc (own := [("at", 12)]) (by rfl) sc__law_pieces_right.nd (pi_range1 (by rfl) z_range (pa_cons (pe_callB call_len_seq (by rfl) z_len (by decide +kernel) (pa_cons (pv 2) pa_nil)) pa_nil)) (blkOk_by (own := [("at", 12)]) (N := N__law_pieces_right) (sc := defScope s__law_pieces_right) (by decide +kernel)) (fun _ _ _ _ _ => (pg_name (i := 12) sc__law_pieces_right.nd rfl (.inl rfl))) (fun _ _ _ _ _ => (pts_one (pt_val (pe_callB (show CallR _ (.builtin "any") (rAny K) from cr_any rfl) (by rfl) z_any (by decide +kernel) (pa_cons (pe_lc (own := [("one", 7)]) (by rfl) sc__law_pieces_right.nd (show PI _ _ _ (iList K _) from pi_list (pe_ix (show IxR _ (rIxL K) from ix_list) (pv 4) (pv 12) (fun _ _ => rfl))) (blkOk_by (own := [("one", 7)]) (N := N__law_pieces_right) (sc := { kind := .function, names := [((".0" : String), .local), (("at" : String), .local), (("any" : String), .globalImplicit), (("lots" : String), .cell), (("piece" : String), .cell)], isGenerator := false, isCoroutine := false }) (by decide +kernel)) (fun _ _ _ _ _ => (pg_name (i := 7) sc__law_pieces_right.nd rfl (.inl rfl))) (fun _ _ _ _ _ => pts_nil) (fun _ _ _ _ _ => (pe_cmpR (show OpR _ (compareOp .In) (rIn K false) from op_in_seq) (pv 7) (pv 6) rfl))) pa_nil))))) (fun _ _ _ _ _ => (pv 12))) pa_nil)))
      (pss_cons (ps_set (i := 9) sc__law_pieces_right.nd rfl (.inr rfl) (pe_lst pa_nil))
      (pss_cut (ps_for PassesOwn.never rfl (pi_tup (pv 6)) (pg_name (i := 7) sc__law_pieces_right.nd rfl (.inl rfl))
        (pss_one (ps_set (i := 9) sc__law_pieces_right.nd rfl (.inr rfl) (pe_op op_cat (pv 9) (pe_callTy call_list_of (by rfl) z_list (by decide +kernel) (pa_cons (pe_ix ix_list (pv 3) (pv 7) (fun _ _ => rfl)) pa_nil))))))
      (pss_cons (ps_set (i := 9) sc__law_pieces_right.nd rfl (.inr rfl) (pe_callB cr_sorted (by rfl) z_sorted (by decide +kernel) (pa_cons (pv 9) pa_nil)))
      (pss_cons (ps_if (PW.pt (pw_or (pt_cmpR op_ne (pe_callB (cr_repr hg hr.units) (by rfl) z_repr (by decide +kernel) (pa_cons (pe_cl C_piece_totals hr (by decide) rfl (pa_cons (pv 0) (pa_cons (pv 6) pa_nil))) pa_nil)) (pe_callB (cr_repr hg hr.units) (by rfl) z_repr (by decide +kernel) (pa_cons (pv 8) pa_nil)) (nomark _)) (pw_or1 (pt_cmpR (op_neD hr.units) (pe_clr CR_piece_totals hr (by decide) rfl (pk_cons (pv 6) (pk_cons (pv 0) pk_nil))) (pv 8) (nomark _)))))
        (pss_one (ps_ret pe_bl))
        pss_nil)
      (pss_cons (ps_if (PW.pt (pw_or (pt_cmpR op_ne (pe_callB (cr_repr hg hr.units) (by rfl) z_repr (by decide +kernel) (pa_cons (pe_cl C_piece_kinds hr (by decide) rfl (pa_cons (pv 0) (pa_cons (pv 6) pa_nil))) pa_nil)) (pe_callB (cr_repr hg hr.units) (by rfl) z_repr (by decide +kernel) (pa_cons (pe_callTy call_tupE (by rfl) z_tuple (by decide +kernel) (pa_cons (pv 9) pa_nil)) pa_nil)) (nomark _)) (pw_or1 (pt_cmpR (op_neD hr.units) (pe_clr CR_piece_kinds hr (by decide) rfl (pk_cons (pv 6) (pk_cons (pv 0) pk_nil))) (pe_callTy call_tupE (by rfl) z_tuple (by decide +kernel) (pa_cons (pv 9) pa_nil)) (nomark _)))))
        (pss_one (ps_ret pe_bl))
        pss_nil)
      (pss_cons (ps_par (i := 10) (j := 11) (by rfl) sc__law_pieces_right.nd rfl rfl (by decide) rfl rfl (pa_cons (pe_cl C_piece_table hr (by decide) rfl (pa_cons (pv 0) (pa_cons (pv 6) pa_nil))) (pa_cons (pe_lc (own := [("at", 12)]) (by rfl) sc__law_pieces_right.nd (pi_tup (pv 8)) (blkOk_by (own := [("at", 12)]) (N := N__law_pieces_right) (sc := defScope s__law_pieces_right) (by decide +kernel)) (fun _ _ _ _ _ => (pg_name (i := 12) sc__law_pieces_right.nd rfl (.inl rfl))) (fun _ _ _ _ _ => pts_nil) (fun _ _ _ _ _ => (pe_callTy (show CallR _ (.type "tuple") (rTupE K) from call_tupE) (by rfl) z_tuple (by decide +kernel) (pa_cons (pe_lc (own := [("kind", 13)]) (by rfl) sc__law_pieces_right.nd (show PI _ _ _ (iTup K _) from pi_tup (pe_ix (show IxR _ (rIxT K) from ix_tup) (pv 2) (pv 12) (fun _ _ => rfl))) (blkOk_by (own := [("kind", 13)]) (N := N__law_pieces_right) (sc := { kind := .function, names := [((".0" : String), .local), (("at" : String), .local), (("tuple" : String), .globalImplicit), (("left" : String), .cell), (("totals" : String), .cell)], isGenerator := false, isCoroutine := false }) (by decide +kernel)) (fun _ _ _ _ _ => (pg_name (i := 13) sc__law_pieces_right.nd rfl (.inl rfl))) (fun _ _ _ _ _ => pts_nil) (fun _ _ _ _ _ => (show PE _ _ (tBM K "list" (rIndexD K) _ _) from pe_bm PySem.F.plainAttrs_list PySem.F.slot_list_index PySem.F.type_list_index (mt_indexD (units65 hr)) (pv 9) (pa_cons (pv 13) pa_nil)))) pa_nil)))) pa_nil)) (by rfl))
      (pss_cons (ps_if (PW.pt (pw_or (pt_not (pt_val (pe_callB call_isi (by rfl) z_isinstance (by decide +kernel) (pa_cons (pv 10) (pa_cons (pe_glob (v := .ref C) rfl m_Table rfl) pa_nil))))) (pw_or1 (pt_cmpR op_ne (pe_callB (cr_repr hg hr.units) (by rfl) z_repr (by decide +kernel) (pa_cons (pe_tup (pa_cons (pe_fld (pv 10) (by rfl)) (pa_cons (pe_fld (pv 10) (by rfl)) pa_nil))) pa_nil)) (pe_callB (cr_repr hg hr.units) (by rfl) z_repr (by decide +kernel) (pa_cons (pe_tup (pa_cons (pe_callTy call_tupE (by rfl) z_tuple (by decide +kernel) (pa_cons (pe_lc (own := [("kind", 13)]) (by rfl) sc__law_pieces_right.nd (pi_list (pv 9)) (blkOk_by (own := [("kind", 13)]) (N := N__law_pieces_right) (sc := defScope s__law_pieces_right) (by decide +kernel)) (fun _ _ _ _ _ => (pg_name (i := 13) sc__law_pieces_right.nd rfl (.inl rfl))) (fun _ _ _ _ _ => pts_nil) (fun _ _ _ _ _ => (pe_ix (show IxR _ (rIxT K) from ix_tup) (pv 1) (pv 13) (fun _ _ => rfl)))) pa_nil)) (pa_cons (pe_callTy call_tupE (by rfl) z_tuple (by decide +kernel) (pa_cons (pv 11) pa_nil)) pa_nil))) pa_nil)) (nomark _)))))
        (pss_one (ps_ret pe_bl))
        pss_nil)
      (pss_one (ps_if (pt_not (pt_cmpR (op_eqTab EQ (hr.mono (by decide))) (pe_clr CR_piece_table hr (by decide) rfl (pk_cons (pv 6) (pk_cons (pv 0) pk_nil))) (pv 10) (nomark _)))
        (pss_one (ps_ret pe_bl))
        pss_nil)))))))))))
    (pss_one (ps_ret pe_bl))))))), ?_⟩
    have big : sizeLine = 16777216 := by decide
    have k12 := ok.kinds.2.1
    have t12 := ok.len
    have klen : (ks.map V.str).length = ks.length := List.length_map _
    obtain ⟨dx, kk, tt, ys, hO, hK, hS, hT⟩ := id hTab
    have ly := hT.len
    refine ⟨_, rfl, a, C, dx, _, .ref kk, rfl, hO, TC.c, TC.nk, rfl, ?_⟩
    refine ⟨_, rfl, a, C, dx, _, .ref tt, rfl, hO, TC.c, TC.nt, rfl, ?_⟩
    refine ⟨by show 2 ≤ sizeLine; decide, fun z nz => ?_⟩
    generalize eH1 : L2.upd H z _ = H1
    have s1 := same_of nz eH1
    have kz := at_of eH1
    clear eH1
    refine ⟨z, _, rfl, .inl (.inl kz), rfl, _, _, rfl, _, _, rfl, rfl, ?_⟩
    have hK1 := seqT s1 hK
    have hS1 := seqT s1 hS
    have hT1 := hT.mono s1
    refine ⟨_, rfl, kk, _, rfl, .inr hK1, _, rfl, tt, ks.length, ys, ts, by rw [klen]; rfl, hS1, hT1, t12, k12, ok.lots, fun H2 r fc fl s2 kr hC hL => ?_⟩
    refine ⟨r, _, rfl, .inl (.inl kr), rfl, _, _, rfl, _, _, rfl, rfl, ?_⟩
    obtain ⟨cx, kcx, hcx⟩ := hC
    have lcx := LR.len hcx
    have low := lotsC_low ts k12
    have cl := classes_len ts ks.length
    have ll := lotsC_len ts ks.length
    have s02 := s1.trans s2
    refine ⟨_, rfl, _, rfl, fc, cx, rfl, .inl kcx, fl, (classesL ts ks.length).length, lotsC ts ks.length, by rw [lcx]; rfl, hL, by omega, low, lotsC_asc ts ks.length, by omega, fun H3 D ps s3 kD hps hPs => ?_⟩
    have psl := hPs.few
    have pcs := fun (P : List Int) (m : P ∈ ps.map (·.2)) => hPs.pc k12 m
    have s03 := s02.trans s3
    obtain ⟨lxs, klx, hlx⟩ := hL
    have hlx3 := LR.imp (fun _ _ q => IntsL.mono s3 q) hlx
    have hcx3 := LR.imp (fun _ _ q => IntsL.mono s3 q) hcx
    have klx3 := seqLs s3 klx
    have kcx3 := seqLs s3 kcx
    have llx := LR.len hlx
    have tab3 := hTab.mono s03
    have hK3 := seqT (s2.trans s3) hK1
    have hS3 := seqT (s2.trans s3) hS1
    have hT3 := hT1.mono (s2.trans s3)
    have hX3 : Tots K H3 (ps.map fun p => V.ref p.1) (ps.map (·.2)) := tots_refs ps hps
    have fin := fun (H' : Hp) (s : Same H3 H') => fin H' (s03.trans s)
    clear hlx hcx klx kcx hTab hK1 hS1 hT1 hK hS hT s1 s2 s3 s02 s03 kz kr nz hO
    have shP : Shn (dT1 (ps.map (·.2))) 2 ((326 + 2) * 12 + 2) := shn_dT1 (by omega) fun c hc => by
      have pc := (pcs c hc).1
      refine ⟨pc.few k12, fun x hx => ?_⟩
      have ⟨x0, x1⟩ := pc.low x hx
      obtain ⟨j, rfl⟩ := Int.eq_ofNat_of_zero_le x0
      exact ⟨j, by omega, rfl⟩
    have eP := eqv_T1 (ps.map (·.2))
    have pP := shp_T1 (ps.map (·.2))
    have lps : ps.length ≤ 12 := by
      rw [List.length_map] at psl
      omega
    -- all pieces
    refine ⟨_, rfl, a, ks, ts, rfl, tab3, ok, fun H4 u us Us s4 hu hU hPu => ?_⟩
    have eU := hPu.uniq hPs
    subst eU
    refine ⟨u, _, rfl, dp_T1 hu hU, shP.r.1, shP.r.2.1, shP.r.2.2.1, shP.r.2.2.2, ?_⟩
    refine ⟨_, rfl, D, _, rfl, .inl (.inl (.inl (s4 _ _ kD))), fun H5 v s5 hv => ?_⟩
    have s45 := s4.trans s5
    refine ⟨v, _, rfl, dp_T1 hv (hX3.mono s45), shP.r.1, shP.r.2.1, shP.r.2.2.1, shP.r.2.2.2, rfl, ?_⟩
    refine ⟨_, rfl, ite_eq false (by rw [decide_eq_true rfl]; rfl) (iteF ?_)⟩
    clear hu hU hPu hv s4 s5
    refine ⟨_, rfl, a, ks, ts, rfl, tab3.mono s45, ok, fun H6 u us Us s6 hu hU hPu => ?_⟩
    have eU := hPu.uniq hPs
    subst eU
    have s46 := s45.trans s6
    refine ⟨_, rfl, D, _, rfl, .inl (.inl (.inl (s46 _ _ kD))), fun H7 v s7 hv => ?_⟩
    have s47 := s46.trans s7
    refine ⟨_, _, dp_T1 (seqT s7 hu) (hU.mono s7), dp_T1 hv (hX3.mono s47), pP, pP, _, rfl, ?_⟩
    rw [eP]
    refine iteF ?_
    clear hu hU hPu hv s45 s6 s46 s7
    refine ⟨fun σ H' => (∃ y6 y7 y8 y9 y10 y11 : Option V, σ = [some (.ref a), some (.ref kk), some (.ref tt), some (.ref fc), some (.ref fl), some (.ref D), y6, y7, y8, y9, y10, y11, none, none]) ∧ Same H3 H', ?_, ?_⟩
    · refine ⟨_, rfl, D, rfl, ⟨_, .inl (.inl (s47 _ _ kD))⟩, ?_⟩
      refine for_it (walk_list (K := K) (a := D) (xs := ps.map fun p => V.ref p.1)) (fun i σ H' => (∃ y6 y7 y8 y9 y10 y11 : Option V, σ = [some (.ref a), some (.ref kk), some (.ref tt), some (.ref fc), some (.ref fl), some (.ref D), y6, y7, y8, y9, y10, y11, none, none]) ∧ Same H3 H') ⟨⟨_, _, _, _, _, _, rfl⟩, s47⟩ (fun i σ H' _ h => .inl (.inl (h.2 _ _ kD))) ?_ ?_
      · rintro i v σ H8 H9 hi ⟨⟨y6, y7, y8, y9, y10, y11, rfl⟩, s8⟩ ⟨rfl, ev⟩
        rw [List.getElem?_map] at ev
        obtain ⟨⟨pa, R⟩, ep, rfl⟩ := Option.map_eq_some_iff.mp ev
        have mp := List.mem_of_getElem? ep
        have mR : R ∈ ps.map (·.2) := List.mem_map.mpr ⟨_, mp, rfl⟩
        obtain ⟨pc, ne, isP⟩ := pcs R mR
        have hR : SqT K H3 pa (R.map V.int) := hps _ mp
        clear ev ep mp mR
        show gName 6 (V.ref pa) _ _ _
        have c12 := pc.few k12
        -- some
        refine ⟨_, rfl, tt, _, rfl, .inr (seqT s8 hS3), _, rfl, by omega, by omega, fun L nL => ?_⟩
        rw [ly]
        refine lc_it (walk_range (lo := 0) (n := ((ts.length : Nat) : Int).toNat)) (fun j H' => Same H9 H' ∧ H' L = some (.lst ((pick (fun j => meetsB ((lotsC ts ks.length).getD j []) R) j).map V.int))) ⟨same_upd nL, upd_same⟩ (fun _ _ _ _ => trivial) ?_ ?_
        · rintro j x H10 H11 hj ⟨s10, kL⟩ ⟨rfl, rfl⟩
          have hj2 : j < ts.length := by have : j < ((ts.length : Nat) : Int).toNat := hj; omega
          have zj : (0 : Int) + (j : Nat) = ((j : Nat) : Int) := Int.zero_add _
          have el : lxs[j]? = some lxs[j] := List.getElem?_eq_getElem (by omega)
          obtain ⟨lot, elot, t, et, kt⟩ := LR.get hlx3 el
          rw [et] at el
          have lot12 := (low lot (List.mem_of_getElem? elot)).1
          have eg : (lotsC ts ks.length).getD j [] = lot := by rw [List.getD_eq_getElem?_getD, elot]; rfl
          have sA := s8.trans s10
          have eat : atI lxs ((0 : Int) + (j : Nat)) = some (.ref t) := by rw [zj]; exact atI_nat el
          have pl := pick_len (fun j => meetsB ((lotsC ts ks.length).getD j []) R) j
          refine ⟨rfl, _, rfl, _, rfl, fl, _, _, _, rfl, rfl, seqLs sA klx3, eat, t, rfl, ⟨_, seqLs sA kt⟩, fun B nB => ?_⟩
          refine lc_it (walk_list (K := K) (a := t) (xs := lot.map V.int)) (fun q H' => Same H11 H' ∧ H' B = some (.lst (((lot.take q).map fun x => R.contains x).map V.bl))) ⟨same_upd nB, upd_same⟩ (fun q H' _ h => seqLs (sA.trans h.1) kt) ?_ ?_
          · rintro q v H12 H13 hq ⟨s12, kB⟩ ⟨rfl, ew⟩
            rw [List.getElem?_map] at ew
            obtain ⟨x, ex, rfl⟩ := Option.map_eq_some_iff.mp ew
            refine ⟨rfl, _, rfl, _, rfl, pa, R.map V.int, rfl, .inr (seqT (sA.trans s12) hR), rfl, flat_ints R, ?_⟩
            rw [inV_ints]
            refine ⟨_, kB, ?_, HD.same_put s12 nB, ?_⟩
            · rw [List.length_map, List.length_map, List.length_take]
              omega
            · rw [upd_same, List.take_add_one, ex, List.map_append, List.map_append]
              rfl
          · rintro H12 ⟨s12, kB⟩
            rw [List.length_map, List.take_length] at kB
            refine ⟨B, _, rfl, .inl (.inl kB), ?_⟩
            have e2 : (lot.map fun x => R.contains x).any id = meetsB lot R := by
              unfold meetsB
              rw [List.any_map]
              rfl
            rw [e2]
            refine ⟨_, rfl, ?_⟩
            have kL12 := s12 _ _ kL
            cases hm : meetsB lot R with
            | true =>
              refine iteT ⟨_, rfl, _, kL12, by rw [List.length_map]; omega, HD.same_put (s10.trans s12) nL, ?_⟩
              rw [upd_same, pick_yes (by rw [eg]; exact hm), List.map_append]
              show some (HO.lst (_ ++ [V.int (0 + (j : Int))])) = _
              rw [zj]
              rfl
            | false =>
              refine iteF ⟨s10.trans s12, ?_⟩
              rw [pick_no (by rw [eg]; exact hm)]
              exact kL12
        rintro H10 ⟨s10, kL⟩
        rw [Int.toNat_natCast] at kL
        rw [← ll] at kL
        have kL : H10 L = some (.lst ((totP (lotsC ts ks.length) R).map V.int)) := kL
        refine ⟨L, _, rfl, .inl (.inl (.inl kL)), fun H11 so s11 hso => ?_⟩
        have s3b := s8.trans (s10.trans s11)
        clear kL nL s10 s11 s8
        -- left
        refine ⟨by show 0 ≤ sizeLine; exact Nat.zero_le _, fun W0 nW0 => ?_⟩
        generalize eH12 : L2.upd H11 W0 _ = H12
        have s12 := same_of nW0 eH12
        have kW0 := at_of eH12
        clear eH12
        refine ⟨fun σ H' => (∃ y7 : Option V, ∃ W : Addr, σ = [some (.ref a), some (.ref kk), some (.ref tt), some (.ref fc), some (.ref fl), some (.ref D), some (.ref pa), y7, some (.ref so), some (.ref W), y10, y11, none, none] ∧ H' W = some (.lst ((R.flatMap fun x => (classesL ts ks.length).getD x.toNat []).map V.int))) ∧ Same H12 H', ?_, ?_⟩
        · refine ⟨_, rfl, pa, rfl, ⟨_, seqT (s3b.trans s12) hR⟩, ?_⟩
          refine for_it (walk_tup (K := K) (a := pa) (xs := R.map V.int)) (fun q σ H' => (∃ y7 : Option V, ∃ W : Addr, σ = [some (.ref a), some (.ref kk), some (.ref tt), some (.ref fc), some (.ref fl), some (.ref D), some (.ref pa), y7, some (.ref so), some (.ref W), y10, y11, none, none] ∧ H' W = some (.lst (((R.take q).flatMap fun x => (classesL ts ks.length).getD x.toNat []).map V.int))) ∧ Same H12 H') ⟨⟨_, W0, rfl, kW0⟩, fun _ _ h => h⟩ (fun q σ H' _ h => seqT ((s3b.trans s12).trans h.2) hR) ?_ ?_
          · rintro q v σ H13 H14 hq ⟨⟨y7, W, rfl, kW⟩, s13⟩ ⟨rfl, ew⟩
            rw [List.getElem?_map] at ew
            obtain ⟨x, ex, rfl⟩ := Option.map_eq_some_iff.mp ew
            show gName 7 (V.int x) _ _ _
            have ⟨x0, x1⟩ := pc.low x (List.mem_of_getElem? ex)
            obtain ⟨c, rfl⟩ := Int.eq_ofNat_of_zero_le x0
            have ecx : cx[c]? = some cx[c] := List.getElem?_eq_getElem (by omega)
            obtain ⟨cl1, ecl, t, et, kt⟩ := LR.get hcx3 ecx
            rw [et] at ecx
            have sA := (s3b.trans s12).trans s13
            have lcl := cl.2 cl1 (List.mem_of_getElem? ecl)
            have fw := flat_few pc q
            have fe : (R.take (q + 1)).flatMap (fun x => (classesL ts ks.length).getD x.toNat []) = (R.take q).flatMap (fun x => (classesL ts ks.length).getD x.toNat []) ++ cl1 := by
              rw [List.take_add_one, ex, List.flatMap_append]
              congr 1
              show List.flatMap _ [(c : Int)] = cl1
              rw [List.flatMap_cons, List.flatMap_nil, List.append_nil, Int.toNat_natCast, List.getD_eq_getElem?_getD, ecl]
              rfl
            refine ⟨_, rfl, _, rfl, _, rfl, fc, cx, _, _, rfl, rfl, seqLs sA kcx3, atI_nat ecx, t, _, rfl, .inl (seqLs sA kt), fun l nl => ?_⟩
            have sl := same_upd (o := .lst (cl1.map V.int)) nl
            refine ⟨W, l, _, _, rfl, rfl, sl _ _ kW, upd_same, by rw [List.length_map, List.length_map]; omega, fun p np => ?_⟩
            have sp := same_upd (o := .lst (((R.take q).flatMap fun x => (classesL ts ks.length).getD x.toNat []).map V.int ++ cl1.map V.int)) np
            refine ⟨⟨_, p, rfl, ?_⟩, (s13.trans sl).trans sp⟩
            rw [upd_same, fe, List.map_append]
          · rintro σ H13 ⟨⟨y7, W, rfl, kW⟩, s13⟩
            rw [List.length_map, List.take_length] at kW
            exact ⟨⟨_, W, rfl, kW⟩, s13⟩
        rintro σ H13 ⟨⟨y7, W, rfl, kW⟩, s13⟩
        have fw := flat_few pc R.length
        rw [List.take_length] at fw
        refine ⟨_, rfl, W, _, rfl, .inl (.inl kW), by omega, fun ns p pm pw np => ?_⟩
        have ens := kds_sorted pc.asc (fun x mx => (pc.low x mx).1) pm pw
        subst ens
        generalize eH14 : L2.upd H13 p _ = H14
        have s14 := same_of np eH14
        have kp : H14 p = some (.lst ((kdsP ts ks.length R).map V.int)) := at_of eH14
        clear eH14
        have sT := s12.trans (s13.trans s14)
        have hso14 := seqT sT hso
        have s3c := s3b.trans sT
        clear kW kW0 nW0 s12 s13 s14 sT pm pw np hso s3b fw
        have tlow := totP_low (ts := ts) (n := ks.length) (P := R)
        have klow := kdsP_low (ts := ts) (n := ks.length) (P := R)
        have shS := shn_low t12 (totP_asc (lotsC ts ks.length) R) tlow
        have shK := shn_low k12 (kdsP_asc ts ks.length R) klow
        have tlen := asc_few (totP_asc (lotsC ts ks.length) R) tlow
        have kl := asc_few (kdsP_asc ts ks.length R) klow
        have inK := fun (j : Nat) (c : List Int) => tot_in k12 ok.lots isP (j := j) (c := c)
        have epcT : pcT ts ks.length R = (totP (lotsC ts ks.length) R).map fun j => newT (kdsP ts ks.length R) (ts.getD j.toNat []) := rfl
        have epcK : pcK ks ts R = (kdsP ts ks.length R).map fun x => ks.getD x.toNat Str.empty := rfl
        generalize hTP : totP (lotsC ts ks.length) R = TP at hso14 tlow shS tlen inK epcT
        generalize hKD : kdsP ts ks.length R = KD at kp klow shK kl inK epcT epcK
        have eS := eqv_self TP
        have eK := eqv_self KD
        -- the totals
        refine ⟨_, rfl, _, rfl, a, pa, ks, ts, R, rfl, tab3.mono s3c, ok, seqT s3c hR, pc, fun H15 u s15 hu => ?_⟩
        rw [hTP] at hu
        refine ⟨u, _, rfl, dp_I hu, shS.r.1, shS.r.2.1, shS.r.2.2.1, shS.r.2.2.2, ?_⟩
        have hso15 := seqT s15 hso14
        refine ⟨_, rfl, so, _, rfl, dp_I hso15, shS.r.1, shS.r.2.1, shS.r.2.2.1, shS.r.2.2.2, rfl, ?_⟩
        refine ⟨_, rfl, ite_eq false (by rw [decide_eq_true rfl]; rfl) (iteF ?_)⟩
        have s3d := s3c.trans s15
        refine ⟨_, rfl, _, rfl, a, pa, ks, ts, R, rfl, tab3.mono s3d, ok, seqT s3d hR, pc, fun H16 u2 s16 hu2 => ?_⟩
        rw [hTP] at hu2
        have hso16 := seqT s16 hso15
        refine ⟨_, rfl, _, _, dp_I hu2, dp_I hso16, shaped_dI _, shaped_dI _, _, rfl, ?_⟩
        rw [eS]
        refine iteF ?_
        have s3e := s3d.trans s16
        have kp16 := s16 _ _ (s15 _ _ kp)
        clear hu hu2 hso14 hso15 kp s3c s3d s15 s16
        -- the kinds
        refine ⟨_, rfl, _, rfl, a, pa, ks, ts, R, rfl, tab3.mono s3e, ok, seqT s3e hR, pc, fun H17 u s17 hu => ?_⟩
        rw [hKD] at hu
        refine ⟨u, _, rfl, dp_I hu, shK.r.1, shK.r.2.1, shK.r.2.2.1, shK.r.2.2.2, ?_⟩
        refine ⟨_, rfl, p, _, rfl, .inl (.inl (.inl (s17 _ _ kp16))), fun H18 v s18 hv => ?_⟩
        refine ⟨v, _, rfl, dp_I hv, shK.r.1, shK.r.2.1, shK.r.2.2.1, shK.r.2.2.2, rfl, ?_⟩
        refine ⟨_, rfl, ite_eq false (by rw [decide_eq_true rfl]; rfl) (iteF ?_)⟩
        have sA := s17.trans s18
        have s3f := s3e.trans sA
        have kp18 := sA _ _ kp16
        have hso18 := seqT sA hso16
        clear hu hv s17 s18 sA s3e kp16 hso16
        refine ⟨_, rfl, _, rfl, a, pa, ks, ts, R, rfl, tab3.mono s3f, ok, seqT s3f hR, pc, fun H19 u s19 hu => ?_⟩
        rw [hKD] at hu
        refine ⟨_, rfl, p, _, rfl, .inl (.inl (.inl (s19 _ _ kp18))), fun H20 v s20 hv => ?_⟩
        refine ⟨_, _, dp_I (seqT s20 hu), dp_I hv, shaped_dI _, shaped_dI _, _, rfl, ?_⟩
        rw [eK]
        refine iteF ?_
        have sA := s19.trans s20
        have s3g := s3f.trans sA
        have kp20 := sA _ _ kp18
        have hso20 := seqT sA hso18
        clear hu hv s19 s20 sA s3f kp18 hso18
        -- the table
        refine ⟨_, rfl, _, rfl, a, pa, ks, ts, R, rfl, tab3.mono s3g, ok, seqT s3g hR, pc, ne, fun okN H21 td s21 _ tabN => ?_⟩
        have s3h := s3g.trans s21
        have kp21 := s21 _ _ kp20
        have hso21 := seqT s21 hso20
        clear kp20 hso20 s21 s3g
        have eN : ∀ j ∈ TP, newT KD (ts.getD j.toNat []) = (ts.getD j.toNat []).map (plc KD) := fun j mj => newT_all fun k hk => by
          have ⟨j0, j1⟩ := tlow j mj
          obtain ⟨q, rfl⟩ := Int.eq_ofNat_of_zero_le j0
          have eq : ts[q]? = some ts[q] := List.getElem?_eq_getElem (by omega)
          rw [Int.toNat_natCast, List.getD_eq_getElem?_getD, eq] at hk
          exact inK q ts[q] eq mj k hk
        refine ⟨_, rfl, so, rfl, ⟨_, hso21⟩, fun G nG => ?_⟩
        refine lc_it (walk_tup (K := K) (a := so) (xs := TP.map V.int)) (fun q H' => Same H21 H' ∧ ∃ zs, H' G = some (.lst zs) ∧ Tots K H' zs ((TP.take q).map fun j => newT KD (ts.getD j.toNat []))) ⟨same_upd nG, [], upd_same, trivial⟩ (fun q H' _ h => seqT h.1 hso21) ?_ ?_
        · rintro q v H22 H23 hq ⟨s22, zs, kG, hz⟩ ⟨rfl, ew⟩
          rw [List.getElem?_map] at ew
          obtain ⟨j, ej, rfl⟩ := Option.map_eq_some_iff.mp ew
          have mj := List.mem_of_getElem? ej
          have eNj := eN j mj
          have ⟨j0, j1⟩ := tlow j mj
          obtain ⟨jn, rfl⟩ := Int.eq_ofNat_of_zero_le j0
          have ey : ys[jn]? = some ys[jn] := List.getElem?_eq_getElem (by omega)
          obtain ⟨tl, c, e1, ec, htl⟩ := hT3.get ey
          have okc := ok.lots c (List.mem_of_getElem? ec)
          have cl12 := lot_len okc
          have eg : ts.getD ((jn : Int)).toNat [] = c := by rw [Int.toNat_natCast, List.getD_eq_getElem?_getD, ec]; rfl
          rw [eg] at eNj
          have inc := inK jn c ec mj
          have sA := s3h.trans s22
          have lz := hz.len
          rw [List.length_map, List.length_take] at lz
          refine ⟨rfl, _, rfl, _, rfl, tt, _, _, _, rfl, rfl, seqT sA hS3, atI_nat (by rw [ey, e1]), tl, rfl, ⟨_, seqT sA htl⟩, fun L nL => ?_⟩
          refine lc_it (walk_tup (K := K) (a := tl) (xs := c.map V.int)) (fun b H' => Same H23 H' ∧ H' L = some (.lst (((c.take b).map (plc KD)).map V.int))) ⟨same_upd nL, upd_same⟩ (fun b H' _ h => seqT (sA.trans h.1) htl) ?_ ?_
          · rintro b v H24 H25 hb ⟨s24, kL⟩ ⟨rfl, ex⟩
            rw [List.getElem?_map] at ex
            obtain ⟨k, ek, rfl⟩ := Option.map_eq_some_iff.mp ex
            have mk := inc k (List.mem_of_getElem? ek)
            have pat := plc_at mk
            have kp25 := s24 _ _ (s22 _ _ kp21)
            refine ⟨rfl, _, rfl, .inl ⟨rfl, _, .inl (.inl kp25)⟩, _, rfl, p, _, .int k, KD.map PyData.int, KD.idxOf k, .int k, rfl, rfl, HD.dp_ints (K := K) (.inl (.inl kp25)), .int k, shaped_ints KD, rfl, by rw [List.getElem?_map, pat]; rfl, by rw [eqv_int1]; exact decide_eq_true rfl, fun m' z' hm hz' => ?_, ?_⟩
            · rw [List.getElem?_map] at hz'
              obtain ⟨x, ex2, rfl⟩ := Option.map_eq_some_iff.mp hz'
              rw [eqv_int1]
              refine decide_eq_false fun e => ?_
              subst e
              have := idx_first hm ex2
              exact this.elim
            · refine ⟨_, kL, by rw [List.length_map, List.length_map, List.length_take]; omega, HD.same_put s24 nL, ?_⟩
              rw [upd_same, List.take_add_one, ek, List.map_append, List.map_append]
              rfl
          · rintro H24 ⟨s24, kL⟩
            rw [List.length_map, List.take_length, ← eNj] at kL
            refine ⟨L, _, rfl, .inl (.inl (.inl kL)), fun H25 u s25 hu => ?_⟩
            have sB := s24.trans s25
            have kG25 := sB _ _ kG
            refine ⟨zs, kG25, by omega, HD.same_put (s22.trans sB) nG, zs ++ [.ref u], upd_same, ?_⟩
            rw [List.take_add_one, ej, List.map_append]
            show Tots K _ _ (_ ++ [newT KD (ts.getD ((jn : Int)).toNat [])])
            rw [eg]
            exact Tots.upd kG25 (Tots.snoc hu (hz.mono sB))
        rintro H22 ⟨s22, zs, kG, hz⟩
        rw [List.length_map, List.take_length, ← epcT] at hz
        have sh := shn_table okN
        generalize hkN : pcK ks ts R = kN at okN tabN epcK sh
        generalize htN : pcT ts ks.length R = tN at okN tabN hz sh
        obtain ⟨dt, kn1, tn1, zs1, hO1, hK1, hS1, hT1⟩ := tabN.mono s22
        have s3i := s3h.trans s22
        have kp22 := s22 _ _ kp21
        clear hso21 kp21 nG
        refine ⟨_, _, rfl, ?_⟩
        refine ⟨_, rfl, _, _, _, _, true, rfl, .own C, isT _ td dt _ hO1, kT, true, rfl, iteF ?_⟩
        refine ⟨_, rfl, td, C, dt, _, .ref kn1, rfl, hO1, TC.c, TC.nk, rfl, ?_⟩
        refine ⟨_, rfl, td, C, dt, _, .ref tn1, rfl, hO1, TC.c, TC.nt, rfl, ?_⟩
        refine ⟨by show 2 ≤ sizeLine; decide, fun z nz => ?_⟩
        generalize eH23 : L2.upd H22 z _ = H23
        have s23 := same_of nz eH23
        have kz := at_of eH23
        clear eH23
        have d1 : Dp K H23 (.ref z) (.tuple [dS1 kN, dT1 tN]) := .tup (sqt kz) (.cons (.tup (seqT s23 hK1) (dpAll_strs _)) (.cons (.tup (seqT s23 hS1) (dpAll_tots (hT1.mono s23))) .nil))
        refine ⟨z, _, rfl, d1, sh.1, sh.2.1, by have := sh.2.2.1; omega, by have := sh.2.2.2; omega, ?_⟩
        have kp23 := s23 _ _ kp22
        have s3j := s3i.trans s23
        refine ⟨_, rfl, p, rfl, ⟨_, .inl (.inl kp23)⟩, fun B nB => ?_⟩
        refine lc_it (walk_list (K := K) (a := p) (xs := KD.map V.int)) (fun q H' => Same H23 H' ∧ H' B = some (.lst (((KD.take q).map fun x => ks.getD x.toNat Str.empty).map V.str))) ⟨same_upd nB, upd_same⟩ (fun q H' _ h => .inl (.inl (h.1 _ _ kp23))) ?_ ?_
        · rintro q v H24 H25 hq ⟨s24, kB⟩ ⟨rfl, ew⟩
          rw [List.getElem?_map] at ew
          obtain ⟨x, ex, rfl⟩ := Option.map_eq_some_iff.mp ew
          have ⟨x0, x1⟩ := klow x (List.mem_of_getElem? ex)
          obtain ⟨k, rfl⟩ := Int.eq_ofNat_of_zero_le x0
          have ek : ks[k]? = some ks[k] := List.getElem?_eq_getElem (by omega)
          have eg : ks.getD ((k : Int)).toNat Str.empty = ks[k] := by rw [Int.toNat_natCast, List.getD_eq_getElem?_getD, ek]; rfl
          refine ⟨rfl, _, rfl, _, rfl, kk, _, _, _, rfl, rfl, seqT (s3j.trans s24) hK3, atI_nat (by rw [List.getElem?_map, ek]; rfl), ?_⟩
          refine ⟨_, kB, by rw [List.length_map, List.length_map, List.length_take]; omega, HD.same_put s24 nB, ?_⟩
          rw [upd_same, List.take_add_one, ex, List.map_append, List.map_append]
          show some (HO.lst (_ ++ [V.str ks[k]])) = some (HO.lst (_ ++ [V.str (ks.getD ((k : Int)).toNat Str.empty)]))
          rw [eg]
        rintro H24 ⟨s24, kB⟩
        rw [List.length_map, List.take_length, ← epcK] at kB
        refine ⟨B, _, rfl, .inl (.inl (.inl kB)), fun H25 u s25 hu => ?_⟩
        have s2325 := s24.trans s25
        refine ⟨_, rfl, G, zs, rfl, .inl (.inl (.inl (s2325 _ _ (s23 _ _ kG)))), fun H26 v s26 hv => ?_⟩
        refine ⟨by show 2 ≤ sizeLine; decide, fun y ny => ?_⟩
        generalize eH27 : L2.upd H26 y _ = H27
        have s27 := same_of ny eH27
        have ky := at_of eH27
        clear eH27
        have d2 : Dp K H27 (.ref y) (.tuple [dS1 kN, dT1 tN]) := .tup (sqt ky) (.cons (.tup (seqT (s26.trans s27) hu) (dpAll_strs _)) (.cons (.tup (seqT s27 hv) (dpAll_tots (hz.mono (s23.trans (s2325.trans (s26.trans s27)))))) .nil))
        refine ⟨y, _, rfl, d2, sh.1, sh.2.1, by have := sh.2.2.1; omega, by have := sh.2.2.2; omega, rfl, ?_⟩
        refine ⟨_, rfl, ite_eq false (by rw [decide_eq_true rfl]; rfl) (iteF ?_)⟩
        have sB := s2325.trans (s26.trans s27)
        have s3k := s3j.trans sB
        have tabN2 := tabN.mono (s22.trans (s23.trans sB))
        refine ⟨_, rfl, _, rfl, a, pa, ks, ts, R, rfl, tab3.mono s3k, ok, seqT s3k hR, pc, ne, fun _ H28 u2 s28 _ tab2 => ?_⟩
        rw [hkN, htN] at tab2
        refine ⟨_, rfl, u2, td, _, _, rfl, rfl, tab2, tabN2.mono s28, okN.kinds.2.2.1, fun H29 s29 => ?_⟩
        exact ⟨_, rfl, iteF ⟨⟨_, _, _, _, _, _, rfl⟩, s3k.trans (s28.trans s29)⟩⟩
      · rintro σ H8 ⟨⟨y6, y7, y8, y9, y10, y11, rfl⟩, s8⟩
        exact ⟨⟨_, _, _, _, _, _, rfl⟩, s8⟩
    rintro σ H8 ⟨⟨y6, y7, y8, y9, y10, y11, rfl⟩, s8⟩
    exact fin H8 s8
end
end K04
namespace CK
open PySem PySem.Spec PyProof.Rows L2 VG FR HD M9
def inK (v : V) (c : List Int) : Bool := inV v (c.map V.int)
theorem inK_int (k : Int) (c : List Int) : inK (.int k) c = c.contains k := inV_ints _ _
theorem inK_non (c : List Int) : inK .non c = false := by
  unfold inK inV
  rw [List.any_map]
  induction c with
  | nil => rfl
  | cons x c ih => rw [List.any_cons, ih]; rfl
def stepE (ts : List (List Int)) (p : V × Int) (st : List Int) : List Int := (List.range st.length).map fun (j : Nat) => if inK p.1 (ts.getD j []) = true then st.getD j 0 + p.2 else st.getD j 0
theorem stepE_len (ts : List (List Int)) (p : V × Int) (st : List Int) : (stepE ts p st).length = st.length := by
  unfold stepE
  rw [List.length_map, List.length_range]
theorem stepE_take {ts : List (List Int)} {p : V × Int} {st : List Int} {i : Nat} (h : i < st.length) : (stepE ts p st).take (i + 1) = (stepE ts p st).take i ++ [if inK p.1 (ts.getD i []) = true then st.getD i 0 + p.2 else st.getD i 0] := by
  have e : (stepE ts p st)[i]? = some (if inK p.1 (ts.getD i []) = true then st.getD i 0 + p.2 else st.getD i 0) := by
    unfold stepE
    rw [List.getElem?_map, List.getElem?_range h]
    rfl
  rw [List.take_add_one, e]
  rfl
def stA (ts : List (List Int)) (ls : List (V × Int)) : List Int := ls.foldl (fun st p => stepE ts p st) (List.replicate ts.length 0)
theorem stA_snoc (ts : List (List Int)) (ls : List (V × Int)) (p : V × Int) : stA ts (ls ++ [p]) = stepE ts p (stA ts ls) := by
  unfold stA
  rw [List.foldl_append]
  rfl
theorem stA_len (ts : List (List Int)) (ls : List (V × Int)) : (stA ts ls).length = ts.length := by
  have key : ∀ (ls : List (V × Int)) (st : List Int), (ls.foldl (fun st p => stepE ts p st) st).length = st.length := by
    intro ls
    induction ls with
    | nil => intro st; rfl
    | cons p ls ih =>
      intro st
      show (ls.foldl (fun st p => stepE ts p st) (stepE ts p st)).length = _
      rw [ih, stepE_len]
  unfold stA
  rw [key, List.length_replicate]
def erA (ts : List (List Int)) (ls : List (V × Int)) : List (List Int) := (List.range ls.length).map fun q => stA ts (ls.take (q + 1))
theorem erA_take {ts : List (List Int)} {ls : List (V × Int)} {i : Nat} {p : V × Int} (e : ls[i]? = some p) : (erA ts ls).take (i + 1) = (erA ts ls).take i ++ [stepE ts p (stA ts (ls.take i))] := by
  have lt := (List.getElem?_eq_some_iff.mp e).1
  have e2 : (erA ts ls)[i]? = some (stepE ts p (stA ts (ls.take i))) := by
    unfold erA
    rw [List.getElem?_map, List.getElem?_range lt, ← stA_snoc]
    show some (stA ts (ls.take (i + 1))) = _
    rw [List.take_add_one, e]
    rfl
  rw [List.take_add_one, e2]
  rfl
theorem erA_len (ts : List (List Int)) (ls : List (V × Int)) : (erA ts ls).length = ls.length := by
  unfold erA
  rw [List.length_map, List.length_range]
def LnE (K : PySem.W.Frag) (H : Hp) (v : V) (p : V × Int) : Prop := ∃ t, v = .ref t ∧ SqT K H t [p.1, .int p.2]
theorem LnE.mono {K : PySem.W.Frag} {H H' : Hp} {v : V} {p : V × Int} (s : Same H H') (h : LnE K H v p) : LnE K H' v p := by
  obtain ⟨t, e, k⟩ := h
  exact ⟨t, e, seqT s k⟩
def spLawErrs (K : PySem.W.Frag) (C : Addr) : Sp := fun vs H Q _ => ∃ (a l : Addr) (ks : List Str) (ts : List (List Int)) (xs : List V) (ls : List (V × Int)), vs = [.ref a, .ref l] ∧ Tab K C H a ks ts ∧ ts.length ≤ 12 ∧ SqL K H l xs ∧ LR (LnE K H) xs ls ∧ ls.length ≤ 12 ∧ (∀ p ∈ ls, flatV p.1 = true) ∧
  ∀ (H' : Hp) (D : Addr) (zs : List V), Same H H' → H' D = some (.lst zs) → Tots K H' zs (erA ts ls) → Q (.ref D) H'
end CK
namespace K04
open PySem PySem.Spec PyProof.Rows L2 VG FR CK HD M9
abbrev s__law_errors : Stmt := topS 50
abbrev N__law_errors : List Str := ["table", "lines", "found", "state", "kind", "error", "at"]
theorem sc__law_errors : FnScope N__law_errors ["table", "lines"] (defScope s__law_errors) := ⟨rfl, rfl, rfl, by decide +kernel, rfl, by decide +kernel, by decide +kernel⟩
section
variable {P : Program} {w : World} {K : PySem.W.Frag} {mg : Str → Option Value} {base : Heap}
theorem ok__law_errors {f C : Addr} {fd : FuncData} (F : Fun K "_law_errors" "_law_errors" s__law_errors f fd) (TC : TabC K C) (z_len : mg "len" = none) (z_range : mg "range" = none) (z_tuple : mg "tuple" = none) : FnOk P w K mg base CX0 1 f fd ["table", "lines"] (spLawErrs K C) := by
  refine F.ok sc__law_errors (fun vs H Q E h => ?_) (fun cdv A outer s H vs Q E hr h => ?_)
  · obtain ⟨_, _, _, _, _, _, rfl, _⟩ := h
    rfl
  · obtain ⟨a, l, ks, ts, xs, ls, rfl, hTab, t12, hL, hX, l12, flat, fin⟩ := h
    refine ⟨_, (pss_cons (ps_asg (pe_tup (pa_cons (pe_lst pa_nil) (pa_cons (pe_op op_rep (pe_lst (pa_cons pe_int pa_nil)) (pe_callB call_len_seq (by rfl) z_len (by decide +kernel) (pa_cons (pe_fld (pv 0) (by rfl)) pa_nil))) pa_nil))) (pg_tup rfl (pgs_cons (pg_name (i := 2) sc__law_errors.nd rfl (.inl rfl)) (pgs_cons (pg_name (i := 3) sc__law_errors.nd rfl (.inr rfl)) pgs_nil))))
    (pss_cut (ps_for PassesOwn.never rfl (pi_list (pv 1)) (pg_tup rfl (pgs_cons (pg_name (i := 4) sc__law_errors.nd rfl (.inr rfl)) (pgs_cons (pg_name (i := 5) sc__law_errors.nd rfl (.inr rfl)) pgs_nil)))
      (pss_cons (ps_set (i := 3) sc__law_errors.nd rfl (.inr rfl) (pe_lc (own := [("at", 6)]) (by rfl) sc__law_errors.nd (pi_range1 (by rfl) z_range (pa_cons (pe_callB call_len_seq (by rfl) z_len (by decide +kernel) (pa_cons (pv 3) pa_nil)) pa_nil)) (blkOk_by (own := [("at", 6)]) (N := N__law_errors) (sc := defScope s__law_errors) (by decide +kernel)) (fun _ _ _ _ _ => (pg_name (i := 6) sc__law_errors.nd rfl (.inl rfl))) (fun _ _ _ _ _ => pts_nil) (fun _ _ _ _ _ => (pe_ifExp (pt_cmpR (show OpR _ (compareOp .In) (rIn K false) from op_in_seq) (pv 4) (pe_ix (show IxR _ (rIxT K) from ix_tup) (show PE _ _ (tFld K (tVar 0) _) from pe_fld (pv 0) (by rfl)) (pv 6) (fun _ _ => rfl)) rfl) (pe_op op_add (pe_ix (show IxR _ (rIxL K) from ix_list) (pv 3) (pv 6) (fun _ _ => rfl)) (pv 5)) (pe_ix (show IxR _ (rIxL K) from ix_list) (pv 3) (pv 6) (fun _ _ => rfl))))))
      (pss_one (ps_expr (pe_bm PySem.F.plainAttrs_list PySem.F.slot_list_append PySem.F.type_list_append mt_append (pv 2) (pa_cons (pe_callTy call_tupE (by rfl) z_tuple (by decide +kernel) (pa_cons (pv 3) pa_nil)) pa_nil))))))
    (pss_one (ps_ret (pv 2))))), ?_⟩
    have big : sizeLine = 16777216 := by decide
    obtain ⟨dx, kk, tt, ys, hO, hK, hS, hT⟩ := hTab
    have ly := hT.len
    have lx := LR.len hX
    refine ⟨by show 0 ≤ sizeLine; exact Nat.zero_le _, fun D nD => ?_⟩
    generalize eH1 : L2.upd H D _ = H1
    have s1 := same_of nD eH1
    have kD := at_of eH1
    clear eH1
    refine ⟨by show 1 ≤ sizeLine; decide, fun z nz => ?_⟩
    generalize eH2 : L2.upd H1 z _ = H2
    have s2 := same_of nz eH2
    have kz := at_of eH2
    clear eH2
    have s02 := s1.trans s2
    refine ⟨_, rfl, a, C, dx, _, .ref tt, rfl, s02 _ _ hO, TC.c, TC.nt, rfl, tt, _, rfl, .inr (seqT s02 hS), ?_⟩
    refine ⟨z, _, _, rfl, rfl, kz, by omega, by omega, by show 1 * _ ≤ _; omega, fun st nst => ?_⟩
    generalize eH3 : L2.upd H2 st _ = H3
    have s3 := same_of nst eH3
    have kst : H3 st = some (.lst ((stA ts []).map V.int)) := by
      rw [at_of eH3, Int.toNat_natCast, ly]
      congr 1
      show HO.lst _ = HO.lst ((List.replicate ts.length (0 : Int)).map V.int)
      congr 1
      rw [List.map_replicate]
      generalize ts.length = n
      induction n with
      | zero => rfl
      | succ n ih => rw [List.replicate_succ, List.flatten_cons, ih]; rfl
    clear eH3
    refine ⟨by show 2 ≤ sizeLine; decide, fun y ny => ?_⟩
    generalize eH4 : L2.upd H3 y _ = H4
    have s4 := same_of ny eH4
    have ky := at_of eH4
    clear eH4
    refine ⟨y, _, rfl, .inl (.inl ky), rfl, _, _, rfl, _, _, rfl, rfl, ?_⟩
    have s04 := s02.trans (s3.trans s4)
    have kD4 := s4 _ _ (s3 _ _ (s2 _ _ kD))
    have kst4 := s4 _ _ kst
    have nsD0 : st ≠ D := fun e => by rw [e, s2 _ _ kD] at nst; cases nst
    clear kD kst ky kz s2 s3 s4 s02
    refine ⟨fun σ H' => (∃ y3 y4 y5 : Option V, σ = [some (.ref a), some (.ref l), some (.ref D), y3, y4, y5, none]) ∧ Same H H' ∧ ∃ zs, H' D = some (.lst zs) ∧ Tots K H' zs (erA ts ls), ?_, ?_⟩
    · refine ⟨_, rfl, l, rfl, ⟨_, seqLs s04 hL⟩, ?_⟩
      refine for_it (walk_list (K := K) (a := l) (xs := xs)) (fun i σ H' => (∃ st : Addr, ∃ y4 y5 : Option V, σ = [some (.ref a), some (.ref l), some (.ref D), some (.ref st), y4, y5, none] ∧ H' st = some (.lst ((stA ts (ls.take i)).map V.int)) ∧ st ≠ D) ∧ Same H H' ∧ ∃ zs, H' D = some (.lst zs) ∧ Tots K H' zs ((erA ts ls).take i)) ⟨⟨st, _, _, rfl, kst4, nsD0⟩, s04, [], kD4, trivial⟩ (fun i σ H' _ h => seqLs h.2.1 hL) ?_ ?_
      · rintro i v σ H5 H6 hi ⟨⟨st, y4, y5, rfl, kst, nsD⟩, s5, zs, kD, hz⟩ ⟨rfl, ev⟩
        obtain ⟨p, ep, t, rfl, kt⟩ := LR.get hX ev
        have lp := stA_len ts (ls.take i)
        have fp := flat p (List.mem_of_getElem? ep)
        have lz := hz.len
        rw [List.length_take, erA_len] at lz
        have lt := (List.getElem?_eq_some_iff.mp ep).1
        have et := erA_take (ts := ts) ep
        have e3 : stA ts (ls.take (i + 1)) = stepE ts p (stA ts (ls.take i)) := by
          rw [← stA_snoc, List.take_add_one, ep]
          rfl
        rw [e3]
        generalize stA ts (ls.take i) = S at kst lp et
        have lS := stepE_len ts p S
        have tkS := fun (j : Nat) (h : j < S.length) => stepE_take (ts := ts) (p := p) (st := S) (i := j) h
        refine ⟨t, _, rfl, seqT s5 kt, rfl, _, _, rfl, _, _, rfl, rfl, ?_⟩
        obtain ⟨pk, pe⟩ := p
        refine ⟨_, rfl, st, _, rfl, .inl (.inl (.inl kst)), _, rfl, by omega, by rw [List.length_map]; omega, fun L nL => ?_⟩
        rw [List.length_map]
        refine lc_it (walk_range (lo := 0) (n := ((S.length : Nat) : Int).toNat)) (fun j H' => Same H6 H' ∧ H' L = some (.lst (((stepE ts (pk, pe) S).take j).map V.int))) ⟨same_upd nL, upd_same⟩ (fun _ _ _ _ => trivial) ?_ ?_
        · rintro j v H7 H8 hj ⟨s7, kL⟩ ⟨rfl, rfl⟩
          have hj2 : j < S.length := by have : j < ((S.length : Nat) : Int).toNat := hj; omega
          have zj : (0 : Int) + (j : Nat) = ((j : Nat) : Int) := Int.zero_add _
          have ey : ys[j]? = some ys[j] := List.getElem?_eq_getElem (by omega)
          obtain ⟨tl, c, e1, ec, htl⟩ := hT.get ey
          have eat : atI ys ((0 : Int) + (j : Nat)) = some (.ref tl) := by rw [zj]; exact atI_nat (by rw [ey, e1])
          have eS : S[j]? = some (S.getD j 0) := by rw [List.getD_eq_getElem?_getD, List.getElem?_eq_getElem hj2]; rfl
          have eatS : atI (S.map V.int) ((0 : Int) + (j : Nat)) = some (.int (S.getD j 0)) := by rw [zj]; exact atI_nat (by rw [List.getElem?_map, eS]; rfl)
          have eg : ts.getD j [] = c := by rw [List.getD_eq_getElem?_getD, ec]; rfl
          have tk := tkS j hj2
          rw [eg] at tk
          have s8 := s5.trans s7
          have kst8 := s7 _ _ kst
          have ll : ((stepE ts (pk, pe) S).take j).length ≤ 12 := by rw [List.length_take]; omega
          refine ⟨rfl, _, rfl, _, rfl, a, C, dx, _, .ref tt, rfl, s8 _ _ hO, TC.c, TC.nt, rfl, _, rfl, tt, _, _, _, rfl, rfl, seqT s8 hS, eat, tl, c.map V.int, rfl, .inr (seqT s8 htl), fp, flat_ints c, _, rfl, ?_⟩
          have ev : inV pk (c.map V.int) = inK pk c := rfl
          cases hk : inK pk c with
          | true =>
            refine ite_eq true (by show inV pk (c.map V.int) = true; rw [ev, hk]) (iteT ?_)
            refine ⟨_, rfl, _, rfl, st, _, _, _, rfl, rfl, .inl (.inl kst8), eatS, _, rfl, _, _, rfl, rfl, ?_⟩
            refine ⟨_, kL, by rw [List.length_map]; omega, HD.same_put s7 nL, ?_⟩
            rw [upd_same, tk, if_pos hk, List.map_append]
            rfl
          | false =>
            refine ite_eq false (by show inV pk (c.map V.int) = false; rw [ev, hk]) (iteF ?_)
            refine ⟨_, rfl, _, rfl, st, _, _, _, rfl, rfl, .inl (.inl kst8), eatS, ?_⟩
            refine ⟨_, kL, by rw [List.length_map]; omega, HD.same_put s7 nL, ?_⟩
            rw [upd_same, tk, if_neg (by rw [hk]; exact Bool.false_ne_true), List.map_append]
            rfl
        · rintro H7 ⟨s7, kL⟩
          rw [Int.toNat_natCast, ← lS, List.take_length] at kL
          have kD7 := s7 _ _ kD
          have nLD : L ≠ D := fun e => by rw [e, kD] at nL; cases nL
          refine ⟨_, rfl, .inl ⟨rfl, _, .inl (.inl kD7)⟩, _, rfl, L, _, rfl, .inl (.inl (.inl kL)), fun H8 u s8 hu => ?_⟩
          have kD8 := s8 _ _ kD7
          have kL8 := s8 _ _ kL
          refine ⟨D, _, _, rfl, rfl, kD8, by omega, ⟨L, _, _, rfl, by rw [upd_ne nLD]; exact kL8, nLD⟩, HD.same_put (s5.trans (s7.trans s8)) nD, zs ++ [.ref u], upd_same, ?_⟩
          rw [et]
          exact Tots.upd kD8 (Tots.snoc hu (hz.mono (s7.trans s8)))
      · rintro σ H5 ⟨⟨st, y4, y5, rfl, kst, nsD⟩, s5, zs, kD, hz⟩
        rw [lx, ← erA_len ts ls, List.take_length] at hz
        exact ⟨⟨_, _, _, rfl⟩, s5, zs, kD, hz⟩
    rintro σ H5 ⟨⟨y3, y4, y5, rfl⟩, s5, zs, kD, hz⟩
    exact ⟨_, rfl, fin H5 D zs s5 kD hz⟩
end
end K04
namespace CK
open PySem PySem.Spec PyProof.Rows L2 VG FR HD M9
theorem num_out {cs : List (List Int)} {k : Int} (none : ∀ (b : Nat) (d : List Int), cs[b]? = some d → k ∉ d) : numV cs k = .non := by
  have all : ∀ n, valV (numF cs n) (Sum.inl k : L2.Key) = Option.none := by
    intro n
    induction n with
    | zero => rfl
    | succ n ih =>
      show valV (putRow (numF cs n) n (cs.getD n [])) _ = _
      rw [row_val, if_neg, ih]
      intro hm
      rw [List.getD_eq_getElem?_getD] at hm
      cases hc : cs[n]? with
      | none => rw [hc] at hm; cases hm
      | some d =>
        rw [hc] at hm
        exact none n d hc hm
  unfold numV
  rw [all]
  rfl
theorem num_cases (ts : List (List Int)) (n : Nat) (k : Int) : (numV (classesL ts n) k = .non ∧ ∀ (b : Nat) (d : List Int), (classesL ts n)[b]? = some d → k ∉ d) ∨ ∃ (a : Nat) (cl : List Int), (classesL ts n)[a]? = some cl ∧ k ∈ cl ∧ numV (classesL ts n) k = .int (a : Int) := by
  by_cases e : ∃ (a : Nat) (cl : List Int), (classesL ts n)[a]? = some cl ∧ k ∈ cl
  · obtain ⟨a, cl, ha, hk⟩ := e
    exact .inr ⟨a, cl, ha, hk, num_of ha hk fun b d hb hd => classes_only hb ha hd hk⟩
  · have no : ∀ (b : Nat) (d : List Int), (classesL ts n)[b]? = some d → k ∉ d := fun b d hb hd => e ⟨b, d, hb, hd⟩
    exact .inl ⟨num_out no, no⟩
theorem num_rel {ts ls : List (List Int)} {n : Nat} (ok : ∀ c ∈ ts, LotOk (n : Int) c) (by_ : ByCls ts n ls) {j k : Nat} (hk : k < n) {c l : List Int} (ec : ts[j]? = some c) (el : ls[j]? = some l) : inK (numV (classesL ts n) (k : Int)) l = inK (.int (k : Int)) c := by
  have mc := List.mem_of_getElem? ec
  rw [inK_int]
  rcases num_cases ts n (k : Int) with ⟨e, no⟩ | ⟨a, cl, ha, hkc, e⟩
  · rw [e, inK_non]
    cases q : c.contains (k : Int) with
    | false => rfl
    | true =>
      obtain ⟨b, d, g1, g2, _⟩ := cls_one (n := n) mc hk (List.contains_iff_mem.mp q)
      exact absurd g2 (no b d g1)
  · rw [e, inK_int, Bool.eq_iff_iff, List.contains_iff_mem, List.contains_iff_mem, by_.rel j c l ec el (a : Int)]
    constructor
    · rintro ⟨k2, m2, e2⟩
      rcases num_cases ts n k2 with ⟨e3, _⟩ | ⟨b, d, g1, g2, g3⟩
      · rw [e3] at e2; cases e2
      · rw [g3] at e2
        have : b = a := by have := V.int.inj e2; omega
        subst this
        rw [ha] at g1
        have g1 : cl = d := Option.some.inj g1
        subst g1
        exact (cls_alike ha hkc g2 mc).mpr m2
    · intro h
      exact ⟨(k : Int), h, e⟩
theorem er_same {ts us : List (List Int)} {ls : List (V × Int)} {g : V × Int → V × Int} (hl : us.length = ts.length) (h : ∀ p ∈ ls, (g p).2 = p.2 ∧ ∀ j, j < ts.length → inK (g p).1 (us.getD j []) = inK p.1 (ts.getD j [])) : erA us (ls.map g) = erA ts ls := by
  have st : ∀ (ls : List (V × Int)) (s : List Int), s.length = ts.length → (∀ p ∈ ls, (g p).2 = p.2 ∧ ∀ j, j < ts.length → inK (g p).1 (us.getD j []) = inK p.1 (ts.getD j [])) → (ls.map g).foldl (fun st p => stepE us p st) s = ls.foldl (fun st p => stepE ts p st) s := by
    intro ls
    induction ls with
    | nil => intro s _ _; rfl
    | cons p ls ih =>
      intro s hs h
      have ⟨h1, h2⟩ := h p List.mem_cons_self
      have e : stepE us (g p) s = stepE ts p s := by
        unfold stepE
        refine List.map_congr_left fun j hj => ?_
        rw [h2 j (by have := List.mem_range.mp hj; omega), h1]
      show (ls.map g).foldl (fun st p => stepE us p st) (stepE us (g p) s) = ls.foldl (fun st p => stepE ts p st) (stepE ts p s)
      rw [e]
      exact ih _ (by rw [stepE_len, hs]) fun q mq => h q (List.mem_cons_of_mem _ mq)
  unfold erA
  rw [List.length_map]
  refine List.map_congr_left fun q _ => ?_
  unfold stA
  rw [← List.map_take, hl]
  exact st _ _ (List.length_replicate) fun p mp => h p (List.mem_of_mem_take mp)
def selT (TP : List Int) (st : List Int) : List Int := TP.map fun j => st.getD j.toNat 0
theorem er_sel {ts us : List (List Int)} {TP : List Int} {ls : List (V × Int)} {g : V × Int → V × Int} (low : ∀ x ∈ TP, 0 ≤ x ∧ x < (ts.length : Int)) (hl : us.length = TP.length) (h : ∀ p ∈ ls, (g p).2 = p.2 ∧ ∀ (i : Nat) (j : Int), TP[i]? = some j → inK (g p).1 (us.getD i []) = inK p.1 (ts.getD j.toNat [])) : erA us (ls.map g) = (erA ts ls).map (selT TP) := by
  have st : ∀ (ls : List (V × Int)) (s : List Int), s.length = ts.length → (∀ p ∈ ls, (g p).2 = p.2 ∧ ∀ (i : Nat) (j : Int), TP[i]? = some j → inK (g p).1 (us.getD i []) = inK p.1 (ts.getD j.toNat [])) → (ls.map g).foldl (fun st p => stepE us p st) (selT TP s) = selT TP (ls.foldl (fun st p => stepE ts p st) s) := by
    intro ls
    induction ls with
    | nil => intro s _ _; rfl
    | cons p ls ih =>
      intro s hs h
      have ⟨h1, h2⟩ := h p List.mem_cons_self
      have e : stepE us (g p) (selT TP s) = selT TP (stepE ts p s) := by
        refine List.ext_getElem? fun i => ?_
        unfold stepE selT
        rw [List.getElem?_map, List.getElem?_map, List.length_map]
        by_cases lt : i < TP.length
        · have ei : TP[i]? = some TP[i] := List.getElem?_eq_getElem lt
          have ⟨l0, l1⟩ := low _ (List.getElem_mem lt)
          have l2 : (TP[i]).toNat < s.length := by omega
          rw [List.getElem?_range lt, ei]
          show some _ = some _
          congr 1
          have e1 : (TP.map fun j => s.getD j.toNat 0).getD i 0 = s.getD (TP[i]).toNat 0 := by
            rw [List.getD_eq_getElem?_getD, List.getElem?_map, ei]
            rfl
          show (if inK (g p).1 (us.getD i []) = true then (TP.map fun j => s.getD j.toNat 0).getD i 0 + (g p).2 else (TP.map fun j => s.getD j.toNat 0).getD i 0) = _
          rw [h2 i _ ei, h1, e1]
          show _ = ((List.range s.length).map _).getD (TP[i]).toNat 0
          rw [List.getD_eq_getElem?_getD (l := List.map _ _), List.getElem?_map, List.getElem?_range l2]
          rfl
        · rw [List.getElem?_eq_none (by rw [List.length_range]; omega), List.getElem?_eq_none (by omega)]
          rfl
      show (ls.map g).foldl (fun st p => stepE us p st) (stepE us (g p) (selT TP s)) = selT TP (ls.foldl (fun st p => stepE ts p st) (stepE ts p s))
      rw [e]
      exact ih _ (by rw [stepE_len, hs]) fun q mq => h q (List.mem_cons_of_mem _ mq)
  have s0 : List.replicate us.length (0 : Int) = selT TP (List.replicate ts.length 0) := by
    unfold selT
    rw [hl]
    refine List.ext_getElem? fun i => ?_
    rw [List.getElem?_map, List.getElem?_replicate]
    by_cases lt : i < TP.length
    · rw [if_pos lt, List.getElem?_eq_getElem lt]
      show some 0 = some _
      congr 1
      have ⟨l0, l1⟩ := low _ (List.getElem_mem lt)
      show 0 = (List.replicate ts.length 0).getD (TP[i]).toNat 0
      rw [List.getD_eq_getElem?_getD, List.getElem?_replicate, if_pos (by omega)]
      rfl
    · rw [if_neg lt, List.getElem?_eq_none (by omega)]
      rfl
  unfold erA
  rw [List.length_map, List.map_map]
  refine List.map_congr_left fun q _ => ?_
  show stA us _ = selT TP (stA ts _)
  unfold stA
  rw [← List.map_take, s0]
  exact st _ _ (List.length_replicate) fun p mp => h p (List.mem_of_mem_take mp)
/-- lines of kinds -/
def lnV (L : List (Nat × Int)) : List (V × Int) := L.map fun p => (V.int (p.1 : Int), p.2)
def lnC (ts : List (List Int)) (n : Nat) (L : List (Nat × Int)) : List (V × Int) := L.map fun p => (numV (classesL ts n) (p.1 : Int), p.2)
def plV (KD : List Int) (k : Int) : V := if KD.contains k = true then .int (plc KD k) else .non
def lnP (KD : List Int) (L : List (Nat × Int)) : List (V × Int) := L.map fun p => (plV KD (p.1 : Int), p.2)
theorem er_cls {ts ls : List (List Int)} {n : Nat} (ok : ∀ c ∈ ts, LotOk (n : Int) c) (by_ : ByCls ts n ls) {L : List (Nat × Int)} (hL : ∀ p ∈ L, p.1 < n) : erA ls (lnC ts n L) = erA ts (lnV L) := by
  have e : lnC ts n L = (lnV L).map fun p => (match p.1 with | .int k => numV (classesL ts n) k | _ => .non, p.2) := by
    unfold lnC lnV
    rw [List.map_map]
    rfl
  rw [e]
  refine er_same by_.len fun p mp => ?_
  obtain ⟨q, mq, rfl⟩ := List.mem_map.mp mp
  refine ⟨rfl, fun j hj => ?_⟩
  have ec : ts[j]? = some ts[j] := List.getElem?_eq_getElem hj
  have hjl : j < ls.length := by rw [by_.len]; exact hj
  have el : ls[j]? = some ls[j] := List.getElem?_eq_getElem hjl
  rw [List.getD_eq_getElem?_getD, List.getD_eq_getElem?_getD, ec, el]
  exact num_rel ok by_ (hL q mq) ec el
theorem er_pc {ts : List (List Int)} {n : Nat} (hn : n ≤ 12) (ok : ∀ c ∈ ts, LotOk (n : Int) c) {P : List Int} (h : ∀ x ∈ P, IsPiece (lotsC ts n) x P) {L : List (Nat × Int)} : erA (pcT ts n P) (lnP (kdsP ts n P) L) = (erA ts (lnV L)).map (selT (totP (lotsC ts n) P)) := by
  have e : lnP (kdsP ts n P) L = (lnV L).map fun p => (match p.1 with | .int k => plV (kdsP ts n P) k | _ => .non, p.2) := by
    unfold lnP lnV
    rw [List.map_map]
    rfl
  rw [e]
  refine er_sel totP_low (pcT_len ts n P) fun p mp => ?_
  obtain ⟨q, mq, rfl⟩ := List.mem_map.mp mp
  refine ⟨rfl, fun i j ej => ?_⟩
  have ⟨j0, j1⟩ := totP_low (ts := ts) (n := n) (P := P) j (List.mem_of_getElem? ej)
  obtain ⟨jn, rfl⟩ := Int.eq_ofNat_of_zero_le j0
  have ec : ts[jn]? = some ts[jn] := List.getElem?_eq_getElem (by omega)
  have inc := tot_in hn ok h ec (List.mem_of_getElem? ej)
  have eu : (pcT ts n P).getD i [] = newT (kdsP ts n P) ts[jn] := by
    unfold pcT
    rw [List.getD_eq_getElem?_getD, List.getElem?_map, ej]
    show newT (kdsP ts n P) (ts.getD ((jn : Int)).toNat []) = _
    rw [Int.toNat_natCast, List.getD_eq_getElem?_getD, ec]
    rfl
  have eg : ts.getD ((jn : Int)).toNat [] = ts[jn] := by
    rw [Int.toNat_natCast, List.getD_eq_getElem?_getD, ec]
    rfl
  rw [eu, eg]
  show inK (plV (kdsP ts n P) (q.1 : Int)) _ = inK (.int (q.1 : Int)) _
  unfold plV
  rw [inK_int]
  cases m : (kdsP ts n P).contains (q.1 : Int) with
  | true =>
    have mk := List.contains_iff_mem.mp m
    have l := List.idxOf_lt_length_iff.mpr mk
    have e2 : (kdsP ts n P)[(kdsP ts n P).idxOf (q.1 : Int)] = (q.1 : Int) := List.getElem_idxOf l
    rw [if_pos rfl, inK_int]
    show (newT (kdsP ts n P) ts[jn]).contains (((kdsP ts n P).idxOf (q.1 : Int) : Nat) : Int) = _
    rw [newT_has (asc_nodup4 (kdsP_asc ts n P)) l, e2]
  | false =>
    rw [if_neg Bool.false_ne_true, inK_non]
    cases q2 : ts[jn].contains (q.1 : Int) with
    | false => rfl
    | true =>
      have := List.contains_iff_mem.mpr (inc _ (List.contains_iff_mem.mp q2))
      rw [m] at this
      cases this
end CK
namespace CK
open PySem PySem.Spec PyProof.Rows L2 VG FR HD M9
def LnR (H : Hp) (v : V) (p : V × Int) : Prop := ∃ t, v = .ref t ∧ H t = some (.tup [p.1, .int p.2])
theorem LnR.same {H H' : Hp} {v : V} {p : V × Int} (s : Same H H') (h : LnR H v p) : LnR H' v p := by
  obtain ⟨t, e, k⟩ := h
  exact ⟨t, e, s _ _ k⟩
theorem LnR.draw {p0 q0 : Addr} {H H' : Hp} {v : V} {p : V × Int} (hd : Hd p0 q0 H) (k : Keep p0 q0 H H') (h : LnR H v p) : LnR H' v p := by
  obtain ⟨t, e, kt⟩ := h
  obtain ⟨cs, st, h1, h2, _⟩ := hd
  exact ⟨t, e, k _ _ (fun z => by rw [z, h1] at kt; cases kt) (fun z => by rw [z, h2] at kt; cases kt) kt⟩
theorem LnR.upd {H : Hp} {D : Addr} {xs : List V} {o : HO} {v : V} {p : V × Int} (kD : H D = some (.lst xs)) (h : LnR H v p) : LnR (L2.upd H D o) v p := by
  obtain ⟨t, e, k⟩ := h
  exact ⟨t, e, by rw [upd_ne (fun z => by rw [z, kD] at k; cases k)]; exact k⟩
theorem LnR.E {K : PySem.W.Frag} {H : Hp} {v : V} {p : V × Int} (h : LnR H v p) : LnE K H v p := by
  obtain ⟨t, e, k⟩ := h
  exact ⟨t, e, .inl (.inl k)⟩
theorem LR.snocR {α : Type} {R : V → α → Prop} {vs : List V} {rs : List α} {v : V} {r : α} (h : LR R vs rs) (k : R v r) : LR R (vs ++ [v]) (rs ++ [r]) := LR.append h ⟨k, trivial⟩
theorem eqvT1_nil (cs : List (List Int)) : PyData.eqv (dT1 cs) (.tuple []) = decide (cs = []) := by
  cases cs with
  | nil => rfl
  | cons b r => rfl
theorem eqvL_self (cs : List (List Int)) : PyData.eqv (.list (cs.map dI)) (.list (cs.map dI)) = true := SeqAt.eqv_refl _ (gd_lst (n := 1) fun d hd => by
  obtain ⟨c, _, rfl⟩ := List.mem_map.mp hd
  exact gd_dI c).1
def spDayRight (K : PySem.W.Frag) (C : Addr) : Sp := fun vs H Q _ => ∃ (p q a : Addr) (G : Hp) (ks : List Str) (ts : List (List Int)), vs = [.ref p, .ref a] ∧ On p q G H ∧ Tab K C G a ks ts ∧ TabOk ks ts ∧ ∀ H', On p q G H' → Q (.bl true) H'
end CK
namespace K04
open PySem PySem.Spec PyProof.Rows L2 VG FR CK HD M9
abbrev s__law_day_right : Stmt := topS 51
abbrev N__law_day_right : List Str := ["heap", "table", "lines", "numbers", "due", "piece", "left", "totals", "some", "turn", "kind", "error", "state", "at"]
theorem sc__law_day_right : FnScope N__law_day_right ["heap", "table"] (defScope s__law_day_right) := ⟨rfl, rfl, rfl, by decide +kernel, rfl, by decide +kernel, by decide +kernel⟩
section
variable {P : Program} {w : World} {K : PySem.W.Frag} {mg : Str → Option Value} {base : Heap}
theorem ok__law_day_right {f C R : Addr} {fd : FuncData} (F : Fun K "_law_day_right" "_law_day_right" s__law_day_right f fd) (TC : TabC K C) (C__law_draw : Cl P w K mg base 1 "_law_draw" spDraw) (C__law_pick : Cl P w K mg base 2 "_law_pick" (spPick K)) (C_class_numbers : Cl P w K mg base 3 "class_numbers" (spNumbers K C)) (C__law_errors : Cl P w K mg base 1 "_law_errors" (spLawErrs K C)) (C_classes_of : Cl P w K mg base 2 "classes_of" (spClasses K C)) (C_merged : Cl P w K mg base 9 "merged" (fun vs H Q _ => spMerged K C R vs H Q E0))
    (C_pieces_of : Cl P w K mg base 5 "pieces_of" (spPiecesOf K C)) (C_piece_kinds : Cl P w K mg base 3 "piece_kinds" (spPieceKds K C)) (C_piece_totals : Cl P w K mg base 5 "piece_totals" (spPieceTots K C)) (C_piece_table : Cl P w K mg base 10 "piece_table" (spPieceTab K C))
    (z_range : mg "range" = none) (z_len : mg "len" = none) (z_list : mg "list" = none) (z_tuple : mg "tuple" = none) : FnOk P w K mg base CX0 11 f fd ["heap", "table"] (spDayRight K C) := by
  refine F.ok sc__law_day_right (fun vs H Q E h => ?_) (fun cdv A outer s H vs Q E hr h => ?_)
  · obtain ⟨_, _, _, _, _, _, rfl, _⟩ := h
    rfl
  · obtain ⟨p, q, a, G, ks, ts, rfl, on0, hTab, ok, fin⟩ := h
    refine ⟨_, (pss_cons (ps_setLc (i := 2) (own := [("turn", 9)]) (by rfl) sc__law_day_right.nd rfl rfl (sw_true rfl rfl rfl (by decide +kernel)) (pi_range1 (by rfl) z_range (pa_cons (pe_cl C__law_pick hr (by decide) rfl (pa_cons (pv 0) (pa_cons (pe_lst (pa_cons pe_int (pa_cons pe_int (pa_cons pe_int (pa_cons pe_int pa_nil))))) pa_nil))) pa_nil)) (blkOk_by (own := [("turn", 9)]) (N := N__law_day_right) (sc := defScope s__law_day_right) (by decide +kernel)) (fun _ _ _ _ _ => (pg_name (i := 9) sc__law_day_right.nd rfl (.inl rfl))) (fun _ _ _ _ _ => pts_nil) (fun _ _ _ _ _ => (pe_tup (pa_cons (pe_cl C__law_draw hr (by decide) rfl (pa_cons (pv 0) (pa_cons (pe_callB (show CallR _ (.builtin "len") (rLenK K) from call_lenK) (by rfl) z_len (by decide +kernel) (pa_cons (show PE _ _ (tFld K (tVar 1) _) from pe_fld (pv 1) (by rfl)) pa_nil)) pa_nil))) (pa_cons (pe_op op_sub (pe_cl C__law_draw hr (by decide) rfl (pa_cons (pv 0) (pa_cons pe_int pa_nil))) pe_int) pa_nil)))))
    (pss_cons (ps_asg (pe_tup (pa_cons (pe_cl C_class_numbers hr (by decide) rfl (pa_cons (pv 1) pa_nil)) (pa_cons (pe_cl C__law_errors hr (by decide) rfl (pa_cons (pv 1) (pa_cons (pv 2) pa_nil))) pa_nil))) (pg_tup rfl (pgs_cons (pg_name (i := 3) sc__law_day_right.nd rfl (.inr rfl)) (pgs_cons (pg_name (i := 4) sc__law_day_right.nd rfl (.inl rfl)) pgs_nil))))
    (pss_cut (ps_if (PW.pt (pw_and (pt_cmpR (op_neD hr.units) (pe_cl C_classes_of hr (by decide) rfl (pa_cons (pv 1) pa_nil)) (pe_tup pa_nil) (nomark _)) (pw_and1 (pt_cmpR (op_neD hr.units) (pe_cl C__law_errors hr (by decide) rfl (pa_cons (pe_cl C_merged hr (by decide) rfl (pa_cons (pv 1) pa_nil)) (pa_cons (pe_lc (own := [("kind", 10), ("error", 11)]) (by rfl) sc__law_day_right.nd (pi_list (pv 2)) (blkOk_by (own := [("kind", 10), ("error", 11)]) (N := N__law_day_right) (sc := defScope s__law_day_right) (by decide +kernel)) (fun _ _ _ _ _ => (show PG _ _ (gTup K 2 _) from pg_tup rfl (pgs_cons (pg_name (i := 10) sc__law_day_right.nd rfl (.inl rfl)) (pgs_cons (pg_name (i := 11) sc__law_day_right.nd rfl (.inl rfl)) pgs_nil)))) (fun _ _ _ _ _ => pts_nil) (fun _ _ _ _ _ => (pe_tup (pa_cons (pe_ix (show IxR _ (rIxT K) from ix_tup) (pv 3) (pv 10) (fun _ _ => rfl)) (pa_cons (pv 11) pa_nil))))) pa_nil))) (pv 4) (nomark _)))))
      (pss_one (ps_ret pe_bl))
      pss_nil)
    (pss_cut (ps_for PassesOwn.never rfl (pi_tup (pe_cl C_pieces_of hr (by decide) rfl (pa_cons (pv 1) pa_nil))) (pg_name (i := 5) sc__law_day_right.nd rfl (.inl rfl))
      (pss_cons (ps_asg (pe_tup (pa_cons (pe_callTy call_list_of (by rfl) z_list (by decide +kernel) (pa_cons (pe_cl C_piece_kinds hr (by decide) rfl (pa_cons (pv 1) (pa_cons (pv 5) pa_nil))) pa_nil)) (pa_cons (pe_cl C_piece_totals hr (by decide) rfl (pa_cons (pv 1) (pa_cons (pv 5) pa_nil))) pa_nil))) (pg_tup rfl (pgs_cons (pg_name (i := 6) sc__law_day_right.nd rfl (.inr rfl)) (pgs_cons (pg_name (i := 7) sc__law_day_right.nd rfl (.inr rfl)) pgs_nil))))
      (pss_cons (ps_setLc (i := 8) (own := [("kind", 10), ("error", 11)]) (by rfl) sc__law_day_right.nd rfl rfl (sw_true rfl rfl rfl (by decide +kernel)) (pi_list (pv 2)) (blkOk_by (own := [("kind", 10), ("error", 11)]) (N := N__law_day_right) (sc := defScope s__law_day_right) (by decide +kernel)) (fun _ _ _ _ _ => (show PG _ _ (gTup K 2 _) from pg_tup rfl (pgs_cons (pg_name (i := 10) sc__law_day_right.nd rfl (.inl rfl)) (pgs_cons (pg_name (i := 11) sc__law_day_right.nd rfl (.inl rfl)) pgs_nil)))) (fun _ _ _ _ _ => pts_nil) (fun _ _ _ _ _ => (pe_tup (pa_cons (pe_ifExp (pt_cmpR (show OpR _ (compareOp .In) (rIn K false) from op_in_seq) (pv 10) (pv 6) rfl) (show PE _ _ (tBM K "list" (rIndexD K) _ _) from pe_bm PySem.F.plainAttrs_list PySem.F.slot_list_index PySem.F.type_list_index (mt_indexD (units65 hr)) (pv 6) (pa_cons (pv 10) pa_nil)) pe_non) (pa_cons (pv 11) pa_nil)))))
      (pss_one (ps_if (pt_cmpR (op_neD hr.units) (pe_cl C__law_errors hr (by decide) rfl (pa_cons (pe_cl C_piece_table hr (by decide) rfl (pa_cons (pv 1) (pa_cons (pv 5) pa_nil))) (pa_cons (pv 8) pa_nil))) (pe_lc (own := [("state", 12)]) (by rfl) sc__law_day_right.nd (pi_list (pv 4)) (blkOk_by (own := [("state", 12)]) (N := N__law_day_right) (sc := defScope s__law_day_right) (by decide +kernel)) (fun _ _ _ _ _ => (pg_name (i := 12) sc__law_day_right.nd rfl (.inr rfl))) (fun _ _ _ _ _ => pts_nil) (fun _ _ _ _ _ => (pe_callTy (show CallR _ (.type "tuple") (rTupE K) from call_tupE) (by rfl) z_tuple (by decide +kernel) (pa_cons (pe_lc (own := [("at", 13)]) (by rfl) sc__law_day_right.nd (show PI _ _ _ (iTup K _) from pi_tup (pv 7)) (blkOk_by (own := [("at", 13)]) (N := N__law_day_right) (sc := { kind := .function, names := [((".0" : String), .local), (("state" : String), .cell), (("tuple" : String), .globalImplicit), (("totals" : String), .cell)], isGenerator := false, isCoroutine := false }) (by decide +kernel)) (fun _ _ _ _ _ => (pg_name (i := 13) sc__law_day_right.nd rfl (.inl rfl))) (fun _ _ _ _ _ => pts_nil) (fun _ _ _ _ _ => (pe_ix (show IxR _ (rIxT K) from ix_tup) (pv 12) (pv 13) (fun _ _ => rfl)))) pa_nil)))) (nomark _))
        (pss_one (ps_ret pe_bl))
        pss_nil)))))
    (pss_one (ps_ret pe_bl)))))), ?_⟩
    have big : sizeLine = 16777216 := by decide
    have k12 := ok.kinds.2.1
    have t12 := ok.len
    have k1 := ok.kinds.1
    have klen : (ks.map V.str).length = ks.length := List.length_map _
    obtain ⟨dx, kk, tt, ys, hO, hK, hS, hT⟩ := id hTab
    -- the lines
    refine ⟨_, rfl, by show 4 ≤ sizeLine; decide, fun L nL => ?_⟩
    have fL := on0.free nL
    have on1 := on0.new (o := .lst [.int 5, .int 12, .int 1, .int 0]) nL
    refine ⟨p, q, L, _, rfl, on1.hd, upd_same, fL.1, fL.2.1, by simp, by show 4 < 1000000; decide, fun H2 v hd2 kp2 hv => ?_⟩
    have on2 := on1.draw hd2 kp2
    obtain ⟨b, rfl, b1, b3⟩ : ∃ b : Int, v = .int b ∧ 0 ≤ b ∧ b ≤ 12 := by
      simp only [List.mem_cons, List.not_mem_nil, or_false] at hv
      rcases hv with e | e | e | e <;> exact ⟨_, e, by decide, by decide⟩
    clear on0 on1 hd2 kp2 hv nL fL
    refine ⟨_, rfl, by omega, by omega, fun D nD => ?_⟩
    have fD := on2.free nD
    refine lc_it (walk_range (lo := 0) (n := b.toNat)) (fun i H' => On p q G H' ∧ ∃ xs, ∃ Ls : List (Nat × Int), H' D = some (.lst xs) ∧ LR (LnR H') xs (lnV Ls) ∧ Ls.length = i ∧ ∀ z ∈ Ls, z.1 < ks.length) ⟨on2.new nD, [], [], upd_same, trivial, rfl, fun z m => by cases m⟩ (fun _ _ _ _ => trivial) ?_ ?_
    · clear on2 nD
      rintro i v H3 H4 hi ⟨on3, xs, Ls, kD, hX, li, lk⟩ ⟨rfl, rfl⟩
      have hi2 : i < b.toNat := hi
      refine ⟨rfl, _, rfl, _, rfl, a, C, dx, _, .ref kk, rfl, on3.le _ _ hO, TC.c, TC.nk, rfl, kk, _, rfl, .inr (seqT on3.le hK), ?_⟩
      refine ⟨p, q, _, rfl, on3.hd, by rw [klen]; omega, by rw [klen]; omega, fun H5 r hd5 kp5 r0 r1 => ?_⟩
      have on5 := on3.draw hd5 kp5
      refine ⟨_, rfl, p, q, _, rfl, on5.hd, by decide, by decide, fun H6 e hd6 kp6 e0 e1 => ?_⟩
      have on6 := on5.draw hd6 kp6
      refine ⟨_, _, rfl, rfl, by show 2 ≤ sizeLine; decide, fun t nt => ?_⟩
      obtain ⟨kr, rfl⟩ := Int.eq_ofNat_of_zero_le r0
      have kD6 := kp6 _ _ fD.1 fD.2.1 (kp5 _ _ fD.1 fD.2.1 kD)
      have hX6 := LR.imp (fun _ _ z => LnR.draw hd5 kp6 z) (LR.imp (fun _ _ z => LnR.draw on3.hd kp5 z) hX)
      have lx := LR.len hX
      have ll : (lnV Ls).length = Ls.length := List.length_map _
      generalize eH7 : L2.upd H6 t _ = H7
      have s7 := same_of nt eH7
      have kt := at_of eH7
      clear eH7
      have kD7 := s7 _ _ kD6
      refine ⟨_, kD7, by omega, (on6.same s7).put fD, _, Ls ++ [(kr, e - 5)], upd_same, ?_, by rw [List.length_append, li]; rfl, fun z mz => ?_⟩
      · unfold lnV
        rw [List.map_append]
        exact LR.imp (fun _ _ z => LnR.upd kD7 z) (LR.snocR (LR.imp (fun _ _ z => LnR.same s7 z) hX6) ⟨t, rfl, kt⟩)
      · rcases List.mem_append.mp mz with m | m
        · exact lk z m
        · rw [List.mem_singleton.mp m]
          rw [klen] at r1
          show kr < ks.length
          omega
    clear on2 nD
    rintro H1 ⟨on1, xs, Ls, kD, hX0, li, lk⟩
    have hX := LR.imp (fun _ _ z => LnR.E (K := K) z) hX0
    have tab1 := hTab.mono on1.le
    have fin := fun (H' : Hp) (s : Same H1 H') => fin H' (on1.same s)
    have l12 : Ls.length ≤ 12 := by omega
    have llV : (lnV Ls).length = Ls.length := List.length_map _
    have llC : (lnC ts ks.length Ls).length = Ls.length := List.length_map _
    have lx := LR.len hX
    have kD : SqL K H1 D xs := .inl (.inl kD)
    have nI := num_intV (ts := ts) k12
    have flatV_ : ∀ z ∈ lnV Ls, flatV z.1 = true := fun z mz => by
      obtain ⟨y, _, rfl⟩ := List.mem_map.mp mz
      rfl
    have flatC : ∀ z ∈ lnC ts ks.length Ls, flatV z.1 = true := fun z mz => by
      obtain ⟨y, _, rfl⟩ := List.mem_map.mp mz
      show flatV (numV (classesL ts ks.length) _) = true
      rcases nI (y.1 : Int) with ⟨z, e, _⟩ | e
      · rw [e]; rfl
      · rw [e]; rfl
    have erC := fun (ls : List (List Int)) (by_ : ByCls ts ks.length ls) => er_cls ok.lots by_ lk
    clear hX0 on1 hO hK hS hT hTab li
    -- numbers, due
    refine ⟨_, rfl, a, ks, ts, rfl, tab1, by omega, by omega, fun H2 nu s2 _ knu => ?_⟩
    refine ⟨_, rfl, _, rfl, a, D, ks, ts, xs, lnV Ls, rfl, tab1.mono s2, t12, seqLs s2 kD, LR.imp (fun _ _ z => LnE.mono s2 z) hX, by omega, flatV_, fun H3 E3 zs s3 kE hz => ?_⟩
    refine ⟨by show 2 ≤ sizeLine; decide, fun T nT => ?_⟩
    generalize eH4 : L2.upd H3 T _ = H4
    have s4 := same_of nT eH4
    have kT := at_of eH4
    clear eH4
    refine ⟨T, _, rfl, .inl (.inl kT), rfl, _, _, rfl, _, _, rfl, rfl, ?_⟩
    have s14 := s2.trans (s3.trans s4)
    have knu4 := s4 _ _ (s3 _ _ knu)
    have kE4 := s4 _ _ kE
    have hz4 := hz.mono s4
    have kD4 := seqLs s14 kD
    have hX4 := LR.imp (fun _ _ z => LnE.mono s14 z) hX
    have tab4 := tab1.mono s14
    have fin := fun (H' : Hp) (s : Same H4 H') => fin H' (s14.trans s)
    clear s2 s3 s4 knu kE hz kD hX tab1 s14 kT nT
    have pE := shaped_tots (erA ts (lnV Ls))
    have eE := eqvL_self (erA ts (lnV Ls))
    refine ⟨fun σ H' => σ = [some (.ref p), some (.ref a), some (.ref D), some (.ref nu), some (.ref E3), none, none, none, none, none, none, none, none, none] ∧ Same H4 H', ?_, ?_⟩
    · refine ⟨_, rfl, a, ks, ts, rfl, tab4, by omega, by omega, fun H5 u us s5 _ ku hU => ?_⟩
      refine ⟨by show 0 ≤ sizeLine; exact Nat.zero_le _, fun Z nZ => ?_⟩
      generalize eH6 : L2.upd H5 Z _ = H6
      have s6 := same_of nZ eH6
      have kZ := at_of eH6
      clear eH6
      have s46 := s5.trans s6
      refine ⟨_, .tuple [], dp_T1 (sqt (s6 _ _ ku)) (hU.mono s6), .tup (sqt kZ) .nil, shp_T1 _, shaped_nil2, _, rfl, ?_⟩
      rw [eqvT1_nil]
      by_cases c0 : classesL ts ks.length = []
      · rw [decide_eq_true c0]
        exact iteF ⟨rfl, s46⟩
      · rw [decide_eq_false c0]
        refine iteT ?_
        refine ⟨_, rfl, a, ks, ts, rfl, tab4.mono s46, ok, fun ne ls by_ => ⟨merged_ok ok ne by_, fun H7 m s7 _ tabm => ?_⟩, fun e => absurd e c0⟩
        have okm := merged_ok ok ne by_
        have s47 := s46.trans s7
        refine ⟨_, rfl, D, rfl, ⟨_, seqLs s47 kD4⟩, fun Ld nLd => ?_⟩
        refine lc_it (walk_list (K := K) (a := D) (xs := xs)) (fun i H' => Same H7 H' ∧ ∃ ws, H' Ld = some (.lst ws) ∧ LR (LnR H') ws ((lnC ts ks.length Ls).take i)) ⟨same_upd nLd, [], upd_same, trivial⟩ (fun i H' _ h => seqLs (s47.trans h.1) kD4) ?_ ?_
        · rintro i v H8 H9 hi ⟨s8, ws, kL, hw⟩ ⟨rfl, ev⟩
          obtain ⟨z, ez, t, rfl, kt⟩ := LR.get hX4 ev
          unfold lnV at ez
          rw [List.getElem?_map] at ez
          obtain ⟨y, ey, rfl⟩ := Option.map_eq_some_iff.mp ez
          have yk := lk y (List.mem_of_getElem? ey)
          have eC : (lnC ts ks.length Ls)[i]? = some (numV (classesL ts ks.length) (y.1 : Int), y.2) := by
            unfold lnC
            rw [List.getElem?_map, ey]
            rfl
          have s48 := s47.trans s8
          have lw := LR.len hw
          rw [List.length_take] at lw
          refine ⟨t, _, rfl, seqT s48 kt, rfl, _, _, rfl, _, _, rfl, rfl, rfl, ?_⟩
          refine ⟨_, rfl, _, rfl, nu, _, _, _, rfl, rfl, .inl (.inl (s48 _ _ knu4)), atI_nat (by rw [List.getElem?_map, List.getElem?_range yk]; rfl), _, rfl, by show 2 ≤ sizeLine; decide, fun t2 nt2 => ?_⟩
          generalize eH10 : L2.upd H9 t2 _ = H10
          have s10 := same_of nt2 eH10
          have kt2 := at_of eH10
          clear eH10
          have kL10 := s10 _ _ kL
          refine ⟨_, kL10, by omega, HD.same_put (s8.trans s10) nLd, _, upd_same, ?_⟩
          rw [List.take_add_one, eC]
          exact LR.imp (fun _ _ z => LnR.upd kL10 z) (LR.snocR (LR.imp (fun _ _ z => LnR.same s10 z) hw) ⟨t2, rfl, kt2⟩)
        · rintro H8 ⟨s8, ws, kL, hw⟩
          rw [lx, llV, ← llC, List.take_length] at hw
          refine ⟨m, Ld, clsN ks (classesL ts ks.length), ls, ws, lnC ts ks.length Ls, rfl, tabm.mono s8, okm.len, .inl (.inl kL), LR.imp (fun _ _ z => LnR.E z) hw, by omega, flatC, fun H9 E9 zs9 s9 kE9 hz9 => ?_⟩
          rw [erC ls by_] at hz9
          have s49 := s47.trans (s8.trans s9)
          refine ⟨_, rfl, _, _, .lst (.inl (.inl kE9)) (dpAll_tots hz9), .lst (.inl (.inl (s49 _ _ kE4))) (dpAll_tots (hz4.mono s49)), pE, pE, _, rfl, ?_⟩
          rw [eE]
          exact iteF ⟨rfl, s49⟩
    rintro σ H5 ⟨rfl, s5⟩
    clear knu4 erC flatC llC nI
    -- the pieces
    refine ⟨fun σ H' => (∃ y5 y6 y7 y8 : Option V, σ = [some (.ref p), some (.ref a), some (.ref D), some (.ref nu), some (.ref E3), y5, y6, y7, y8, none, none, none, none, none]) ∧ Same H4 H', ?_, ?_⟩
    · refine ⟨_, rfl, a, ks, ts, rfl, tab4.mono s5, ok, fun H6 u us Ps s6 hu hU hPs => ?_⟩
      have s46 := s5.trans s6
      refine ⟨u, rfl, ⟨_, hu⟩, ?_⟩
      refine for_it (walk_tup (K := K) (a := u) (xs := us)) (fun i σ H' => (∃ y5 y6 y7 y8 : Option V, σ = [some (.ref p), some (.ref a), some (.ref D), some (.ref nu), some (.ref E3), y5, y6, y7, y8, none, none, none, none, none]) ∧ Same H6 H') ⟨⟨_, _, _, _, rfl⟩, fun _ _ h => h⟩ (fun i σ H' _ h => seqT h.2 hu) ?_ ?_
      · rintro i v σ H7 H8 hi ⟨⟨y5, y6, y7, y8, rfl⟩, s7⟩ ⟨rfl, ev⟩
        obtain ⟨pa, R0, rfl, eR, hR⟩ := hU.get ev
        have mR := List.mem_of_getElem? eR
        obtain ⟨pc, ne, isP⟩ := hPs.pc k12 mR
        have s47 := s46.trans s7
        have hR7 := seqT s7 hR
        clear ev hU hPs eR mR s6 hR
        show gName 5 (V.ref pa) _ _ _
        have klow := kdsP_low (ts := ts) (n := ks.length) (P := R0)
        have tlow := totP_low (ts := ts) (n := ks.length) (P := R0)
        have kl := asc_few (kdsP_asc ts ks.length R0) klow
        have tl := asc_few (totP_asc (lotsC ts ks.length) R0) tlow
        have erP := er_pc k12 ok.lots isP (L := Ls)
        have llP : (lnP (kdsP ts ks.length R0) Ls).length = Ls.length := List.length_map _
        have tpc := pcT_len ts ks.length R0
        refine ⟨_, rfl, _, rfl, a, pa, ks, ts, R0, rfl, tab4.mono s47, ok, hR7, pc, fun H9 ku s9 hku => ?_⟩
        refine ⟨ku, _, rfl, .inr hku, fun lf nlf => ?_⟩
        generalize eH10 : L2.upd H9 lf _ = H10
        have s10 := same_of nlf eH10
        have klf := at_of eH10
        clear eH10
        have s8b := s9.trans s10
        have s4a := s47.trans s8b
        refine ⟨_, rfl, _, rfl, a, pa, ks, ts, R0, rfl, tab4.mono s4a, ok, seqT s8b hR7, pc, fun H11 tu s11 htu => ?_⟩
        refine ⟨by show 2 ≤ sizeLine; decide, fun T nT => ?_⟩
        generalize eH12 : L2.upd H11 T _ = H12
        have s12 := same_of nT eH12
        have kT := at_of eH12
        clear eH12
        refine ⟨T, _, rfl, .inl (.inl kT), rfl, _, _, rfl, _, _, rfl, rfl, ?_⟩
        have s1112 := s11.trans s12
        have s4b := s4a.trans s1112
        have s6c := s7.trans (s8b.trans s1112)
        have klf12 := s1112 _ _ klf
        have htu12 := seqT s12 htu
        have hR12 := seqT (s8b.trans s1112) hR7
        clear kT nT hku klf htu s9 s10 s8b s11 s12 s4a s1112 hR7
        -- the lines of the piece
        refine ⟨_, rfl, D, rfl, ⟨_, seqLs s4b kD4⟩, fun Ld nLd => ?_⟩
        refine lc_it (walk_list (K := K) (a := D) (xs := xs)) (fun i H' => Same H12 H' ∧ ∃ ws, H' Ld = some (.lst ws) ∧ LR (LnR H') ws ((lnP (kdsP ts ks.length R0) Ls).take i)) ⟨same_upd nLd, [], upd_same, trivial⟩ (fun i H' _ h => seqLs (s4b.trans h.1) kD4) ?_ ?_
        · rintro i v H13 H14 hi ⟨s13, ws, kL, hw⟩ ⟨rfl, ev⟩
          obtain ⟨z, ez, t, rfl, kt⟩ := LR.get hX4 ev
          unfold lnV at ez
          rw [List.getElem?_map] at ez
          obtain ⟨y, ey, rfl⟩ := Option.map_eq_some_iff.mp ez
          have eC : (lnP (kdsP ts ks.length R0) Ls)[i]? = some (plV (kdsP ts ks.length R0) (y.1 : Int), y.2) := by
            unfold lnP
            rw [List.getElem?_map, ey]
            rfl
          have s4c := s4b.trans s13
          have lw := LR.len hw
          rw [List.length_take] at lw
          have klf13 := s13 _ _ klf12
          generalize kdsP ts ks.length R0 = KD at *
          refine ⟨t, _, rfl, seqT s4c kt, rfl, _, _, rfl, _, _, rfl, rfl, rfl, ?_⟩
          refine ⟨_, rfl, _, rfl, lf, KD.map V.int, rfl, .inl (.inl (.inl klf13)), rfl, flat_ints KD, _, rfl, ?_⟩
          rw [inV_ints]
          have done : ∀ (v : V), v = plV KD (y.1 : Int) → ∀ t2, H14 t2 = none → ∃ xs, (L2.upd H14 t2 (.tup [v, .int y.2])) Ld = some (.lst xs) ∧ xs.length < sizeLine ∧ Same H12 (L2.upd (L2.upd H14 t2 (.tup [v, .int y.2])) Ld (.lst (xs ++ [.ref t2]))) ∧ ∃ ws, (L2.upd (L2.upd H14 t2 (.tup [v, .int y.2])) Ld (.lst (xs ++ [.ref t2]))) Ld = some (.lst ws) ∧ LR (LnR (L2.upd (L2.upd H14 t2 (.tup [v, .int y.2])) Ld (.lst (xs ++ [.ref t2])))) ws ((lnP KD Ls).take (i + 1)) := fun v ev t2 nt2 => by
            have s14 := same_upd (o := .tup [v, .int y.2]) nt2
            have kL10 := s14 _ _ kL
            refine ⟨ws, kL10, by omega, HD.same_put (s13.trans s14) nLd, _, upd_same, ?_⟩
            rw [List.take_add_one, eC, ← ev]
            exact LR.imp (fun _ _ z => LnR.upd kL10 z) (LR.snocR (LR.imp (fun _ _ z => LnR.same s14 z) hw) ⟨t2, rfl, upd_same⟩)
          cases hk : KD.contains (y.1 : Int) with
          | true =>
            have mk := List.contains_iff_mem.mp hk
            have pat := plc_at mk
            refine iteT ⟨_, rfl, .inl ⟨rfl, _, .inl (.inl klf13)⟩, _, rfl, lf, _, .int (y.1 : Int), KD.map PyData.int, KD.idxOf (y.1 : Int), .int (y.1 : Int), rfl, rfl, HD.dp_ints (K := K) (.inl (.inl klf13)), .int (y.1 : Int), shaped_ints KD, rfl, by rw [List.getElem?_map, pat]; rfl, by rw [eqv_int1]; exact decide_eq_true rfl, fun m' z' hm hz' => ?_, ?_⟩
            · rw [List.getElem?_map] at hz'
              obtain ⟨x, ex2, rfl⟩ := Option.map_eq_some_iff.mp hz'
              rw [eqv_int1]
              refine decide_eq_false fun e => ?_
              subst e
              exact (idx_first hm ex2).elim
            · refine ⟨_, rfl, by show 2 ≤ sizeLine; decide, fun t2 nt2 => ?_⟩
              refine done _ ?_ t2 nt2
              unfold plV
              rw [if_pos hk]
              rfl
          | false =>
            refine iteF ⟨_, rfl, by show 2 ≤ sizeLine; decide, fun t2 nt2 => ?_⟩
            refine done _ ?_ t2 nt2
            unfold plV
            rw [if_neg (by rw [hk]; exact Bool.false_ne_true)]
        rintro H13 ⟨s13, ws, kL, hw⟩
        rw [lx, llV, ← llP, List.take_length] at hw
        have flatP : ∀ z ∈ lnP (kdsP ts ks.length R0) Ls, flatV z.1 = true := fun z mz => by
          obtain ⟨y, _, rfl⟩ := List.mem_map.mp mz
          show flatV (plV _ _) = true
          unfold plV
          split <;> rfl
        have s4c := s4b.trans s13
        refine ⟨_, rfl, _, rfl, a, pa, ks, ts, R0, rfl, tab4.mono s4c, ok, seqT s13 hR12, pc, ne, fun okN H14 td s14 _ tabN => ?_⟩
        refine ⟨_, rfl, td, Ld, _, _, ws, lnP (kdsP ts ks.length R0) Ls, rfl, tabN, okN.len, .inl (.inl (s14 _ _ kL)), LR.imp (fun _ _ z => LnR.E (LnR.same s14 z)) hw, by omega, flatP, fun H15 E15 zs15 s15 kE15 hz15 => ?_⟩
        rw [erP] at hz15
        have s1315 := s14.trans s15
        have s4d := s4c.trans s1315
        have htu15 := seqT (s13.trans s1315) htu12
        have kE3 := s4d _ _ kE4
        have hzd := hz4.mono s4d
        clear tabN okN erP hw kL kE4 hz4 hX4 klf12 htu12 s14 s15 tpc
        have lzs := hzd.len
        have lER := erA_len ts (lnV Ls)
        have sel : ∀ st ∈ erA ts (lnV Ls), st.length = ts.length := fun st m => by
          obtain ⟨_, _, rfl⟩ := List.mem_map.mp m
          exact stA_len _ _
        generalize erA ts (lnV Ls) = ER at *
        generalize totP (lotsC ts ks.length) R0 = TP at *
        refine ⟨_, rfl, E3, rfl, ⟨_, .inl (.inl kE3)⟩, fun Lr nLr => ?_⟩
        refine lc_it (walk_list (K := K) (a := E3) (xs := zs)) (fun i H' => Same H15 H' ∧ ∃ ws, H' Lr = some (.lst ws) ∧ Tots K H' ws ((ER.map (selT TP)).take i)) ⟨same_upd nLr, [], upd_same, trivial⟩ (fun i H' _ h => .inl (.inl (h.1 _ _ kE3))) ?_ ?_
        · rintro i v H16 H17 hi ⟨s16, ws, kL, hw⟩ ⟨rfl, ev⟩
          obtain ⟨tl, st, rfl, est, htl⟩ := hzd.get ev
          have lst := sel st (List.mem_of_getElem? est)
          have htu16 := seqT s16 htu15
          have htl16 := seqT s16 htl
          have eM : (ER.map (selT TP))[i]? = some (selT TP st) := by rw [List.getElem?_map, est]; rfl
          have lw := hw.len
          rw [List.length_take, List.length_map] at lw
          have hi2 : i < zs.length := hi
          refine ⟨rfl, _, rfl, tu, rfl, ⟨_, htu16⟩, fun Lt nLt => ?_⟩
          refine lc_it (walk_tup (K := K) (a := tu) (xs := TP.map V.int)) (fun j H' => Same H17 H' ∧ H' Lt = some (.lst (((selT TP st).take j).map V.int))) ⟨same_upd nLt, upd_same⟩ (fun j H' _ h => seqT h.1 htu16) ?_ ?_
          · rintro j v H18 H19 hj ⟨s18, kLt⟩ ⟨rfl, ew⟩
            rw [List.getElem?_map] at ew
            obtain ⟨x, ex, rfl⟩ := Option.map_eq_some_iff.mp ew
            have ⟨x0, x1⟩ := tlow x (List.mem_of_getElem? ex)
            obtain ⟨xn, rfl⟩ := Int.eq_ofNat_of_zero_le x0
            have est2 : st[xn]? = some (st.getD xn 0) := by rw [List.getD_eq_getElem?_getD, List.getElem?_eq_getElem (by omega)]; rfl
            have eS : (selT TP st)[j]? = some (st.getD xn 0) := by
              unfold selT
              rw [List.getElem?_map, ex]
              rfl
            have lTP : ((selT TP st).take j).length ≤ 12 := by
              unfold selT
              rw [List.length_take, List.length_map]
              omega
            refine ⟨rfl, _, rfl, _, rfl, tl, _, _, _, rfl, rfl, seqT s18 htl16, atI_nat (by rw [List.getElem?_map, est2]; rfl), ?_⟩
            refine ⟨_, kLt, by rw [List.length_map]; omega, HD.same_put s18 nLt, ?_⟩
            rw [upd_same, List.take_add_one, eS, List.map_append]
            rfl
          · rintro H18 ⟨s18, kLt⟩
            have lsT : (selT TP st).length = TP.length := List.length_map _
            rw [List.length_map, ← lsT, List.take_length] at kLt
            refine ⟨Lt, _, rfl, .inl (.inl (.inl kLt)), fun H19 u2 s19 hu2 => ?_⟩
            have sB := s18.trans s19
            have kL19 := sB _ _ kL
            refine ⟨_, kL19, by omega, HD.same_put (s16.trans sB) nLr, _, upd_same, ?_⟩
            rw [List.take_add_one, eM]
            exact Tots.upd kL19 (Tots.snoc hu2 (hw.mono sB))
        rintro H16 ⟨s16, ws2, kL2, hw2⟩
        have lM : (ER.map (selT TP)).length = ER.length := List.length_map _
        rw [lzs, ← lM, List.take_length] at hw2
        refine ⟨_, _, .lst (.inl (.inl (s16 _ _ kE15))) (dpAll_tots (hz15.mono s16)), .lst (.inl (.inl kL2)) (dpAll_tots hw2), shaped_tots _, shaped_tots _, _, rfl, ?_⟩
        rw [eqvL_self]
        exact iteF ⟨⟨_, _, _, _, rfl⟩, s6c.trans (s13.trans (s1315.trans s16))⟩
      · rintro σ H7 ⟨y, s7⟩
        exact ⟨y, s46.trans s7⟩
    rintro σ H6 ⟨⟨y5, y6, y7, y8, rfl⟩, s6⟩
    exact fin H6 s6
end
end K04
namespace CK
open PySem PySem.Spec PyProof.Rows L2 VG FR HD M9
theorem costW_mono {r r' : Nat} (hr : r ≤ r') : ∀ {n n' : Nat}, n ≤ n' → costW r n ≤ costW r' n'
  | 0, n', _ => Nat.zero_le _
  | n + 1, 0, h => absurd h (by omega)
  | n + 1, n' + 1, h => by
    have ih := costW_mono hr (n := n) (n' := n') (by omega)
    show 1 + r * (2 * costW r n) ≤ 1 + r' * (2 * costW r' n')
    exact Nat.add_le_add_left (Nat.mul_le_mul hr (by omega)) 1
theorem cost_fine {k s n : Nat} (hk : k ≤ 5) (hs : s ≤ 2) (hn : n ≤ 4) : costW (k * s) n ≤ 16000000 := Nat.le_trans (costW_mono (r' := 10) (Nat.mul_le_mul hk hs) hn) (by decide)
theorem Tab.updL {K : PySem.W.Frag} {C a D : Addr} {H : Hp} {xs ys : List V} {ks : List Str} {ts : List (List Int)} (kD : H D = some (.lst xs)) (h : Tab K C H a ks ts) : Tab K C (L2.upd H D (.lst ys)) a ks ts := by
  obtain ⟨dx, k, t, zs, h1, h2, h3, h4⟩ := h
  exact ⟨dx, k, t, zs, by rw [upd_ne (fun e => by rw [e, kD] at h1; cases h1)]; exact h1, seqT_upd kD h2, seqT_upd kD h3, Tots.upd kD h4⟩
/-- a table that is kept as long -/
def OthOk (K : PySem.W.Frag) (C : Addr) (steps : List Int) (n : Nat) (b : Bool) (H : Hp) (v : V) : Prop := ∃ (m : Addr) (ks : List Str) (ts : List (List Int)), v = .ref m ∧ Tab K C H m ks ts ∧ TabOk ks ts ∧ ks.length ≤ 5 ∧ keptW ts ks.length steps n = b
theorem OthOk.mono {K : PySem.W.Frag} {C : Addr} {steps : List Int} {n : Nat} {b : Bool} {H H' : Hp} {v : V} (s : Same H H') (h : OthOk K C steps n b H v) : OthOk K C steps n b H' v := by
  obtain ⟨m, ks, ts, e, tab, r⟩ := h
  exact ⟨m, ks, ts, e, tab.mono s, r⟩
theorem OthOk.updL {K : PySem.W.Frag} {C D : Addr} {steps : List Int} {n : Nat} {b : Bool} {H : Hp} {xs ys : List V} {v : V} (kD : H D = some (.lst xs)) (h : OthOk K C steps n b H v) : OthOk K C steps n b (L2.upd H D (.lst ys)) v := by
  obtain ⟨m, ks, ts, e, tab, r⟩ := h
  exact ⟨m, ks, ts, e, tab.updL kD, r⟩
theorem OthOk.frz {K : PySem.W.Frag} {C p q : Addr} {steps : List Int} {n : Nat} {b : Bool} {H : Hp} {v : V} (hd : Hd p q H) (h : OthOk K C steps n b H v) : OthOk K C steps n b (frz p q H) v := by
  obtain ⟨m, ks, ts, e, tab, r⟩ := h
  exact ⟨m, ks, ts, e, tab.frz hd, r⟩
theorem all_true (n : Nat) : (List.replicate n true).all id = true := by
  rw [List.all_eq_true]
  intro x mx
  rw [(List.mem_replicate.mp mx).2]
  rfl
def spLawAlike (K : PySem.W.Frag) (C : Addr) : Sp := fun vs H Q _ => ∃ (p q a : Addr) (G : Hp) (ks : List Str) (ts : List (List Int)), vs = [.ref p, .ref a] ∧ On p q G H ∧ Tab K C G a ks ts ∧ TabOk ks ts ∧ ks.length ≤ 5 ∧ ts.length < 12 ∧ ∀ H', On p q G H' → Q (.bl true) H'
end CK
namespace K04
open PySem PySem.Spec PyProof.Rows L2 VG FR CK HD M9
abbrev s__law_alike : Stmt := topS 49
abbrev N__law_alike : List Str := ["heap", "table", "steps", "length", "due", "others", "other", "piece"]
theorem sc__law_alike : FnScope N__law_alike ["heap", "table"] (defScope s__law_alike) := ⟨rfl, rfl, rfl, by decide +kernel, rfl, by decide +kernel, by decide +kernel⟩
section
variable {P : Program} {w : World} {K : PySem.W.Frag} {mg : Str → Option Value} {base : Heap}
theorem ok__law_alike {f C R : Addr} {fd : FuncData} (F : Fun K "_law_alike" "_law_alike" s__law_alike f fd) (TC : TabC K C) (C__law_pick : Cl P w K mg base 2 "_law_pick" (spPick K)) (C__law_pickT : Cl P w K mg base 2 "_law_pick" (spPickT K)) (C__law_kept : Cl P w K mg base 7 "_law_kept" (spKeptW K C)) (C_with_total : Cl P w K mg base 9 "with_total" (fun vs H Q _ => spWith K C R vs H Q E0)) (C_classes_of : Cl P w K mg base 2 "classes_of" (spClasses K C))
    (C_merged : Cl P w K mg base 9 "merged" (fun vs H Q _ => spMerged K C R vs H Q E0)) (C_core_of : Cl P w K mg base 11 "core_of" (fun vs H Q _ => spCore K C R vs H Q E0)) (C_pieces_of : Cl P w K mg base 5 "pieces_of" (spPiecesOf K C)) (C_piece_table : Cl P w K mg base 10 "piece_table" (spPieceTab K C)) (z_all : mg "all" = none) : FnOk P w K mg base CX0 12 f fd ["heap", "table"] (spLawAlike K C) := by
  refine F.ok sc__law_alike (fun vs H Q E h => ?_) (fun cdv A outer s H vs Q E hr h => ?_)
  · obtain ⟨_, _, _, _, _, _, rfl, _⟩ := h
    rfl
  · obtain ⟨p, q, a, G, ks, ts, rfl, on0, hTab, ok, k5, tlt, fin⟩ := h
    refine ⟨_, (pss_cons (ps_asg (pe_tup (pa_cons (pe_cl C__law_pick hr (by decide) rfl (pa_cons (pv 0) (pa_cons (pe_lst (pa_cons (pe_lst (pa_cons pe_int pa_nil)) (pa_cons (pe_lst (pa_cons pe_int pa_nil)) (pa_cons (pe_lst (pa_cons pe_int pa_nil)) (pa_cons (pe_lst (pa_cons pe_int (pa_cons pe_int pa_nil))) pa_nil))))) pa_nil))) (pa_cons (pe_cl C__law_pick hr (by decide) rfl (pa_cons (pv 0) (pa_cons (pe_lst (pa_cons pe_int (pa_cons pe_int (pa_cons pe_int pa_nil)))) pa_nil))) pa_nil))) (pg_tup rfl (pgs_cons (pg_name (i := 2) sc__law_alike.nd rfl (.inr rfl)) (pgs_cons (pg_name (i := 3) sc__law_alike.nd rfl (.inr rfl)) pgs_nil))))
    (pss_cons (ps_asg (pe_tup (pa_cons (pe_cl C__law_kept hr (by decide) rfl (pa_cons (pv 1) (pa_cons (pv 2) (pa_cons (pv 3) pa_nil)))) (pa_cons (pe_lst (pa_cons (pe_cl C_with_total hr (by decide) rfl (pa_cons (pv 1) (pa_cons (pe_tup pa_nil) pa_nil))) pa_nil)) pa_nil))) (pg_tup rfl (pgs_cons (pg_name (i := 4) sc__law_alike.nd rfl (.inr rfl)) (pgs_cons (pg_name (i := 5) sc__law_alike.nd rfl (.inl rfl)) pgs_nil))))
    (pss_cut (ps_if (pt_cmpR (op_neD hr.units) (pe_cl C_classes_of hr (by decide) rfl (pa_cons (pv 1) pa_nil)) (pe_tup pa_nil) (nomark _))
      (pss_one (ps_set (i := 5) sc__law_alike.nd rfl (.inl rfl) (pe_op op_cat (pv 5) (pe_lst (pa_cons (pe_cl C_merged hr (by decide) rfl (pa_cons (pv 1) pa_nil)) (pa_cons (pe_cl C_core_of hr (by decide) rfl (pa_cons (pv 1) pa_nil)) pa_nil))))))
      pss_nil)
    (pss_cut (ps_if (pt_cmpR (op_neD hr.units) (pe_fld (pv 1) (by rfl)) (pe_tup pa_nil) (nomark _))
      (pss_one (ps_expr (pe_bm PySem.F.plainAttrs_list PySem.F.slot_list_append PySem.F.type_list_append mt_append (pv 5) (pa_cons (pe_cl C_with_total hr (by decide) rfl (pa_cons (pv 1) (pa_cons (pe_cl C__law_pickT hr (by decide) rfl (pa_cons (pv 0) (pa_cons (pe_fld (pv 1) (by rfl)) pa_nil))) pa_nil))) pa_nil))))
      pss_nil)
    (pss_cons (ps_if (pt_not (pt_val (pe_callB (cr_all rfl) (by rfl) z_all (by decide +kernel) (pa_cons (pe_lc (own := [("other", 6)]) (by rfl) sc__law_alike.nd (pi_list (pv 5)) (blkOk_by (own := [("other", 6)]) (N := N__law_alike) (sc := defScope s__law_alike) (by decide +kernel)) (fun _ _ _ _ _ => (pg_name (i := 6) sc__law_alike.nd rfl (.inl rfl))) (fun _ _ _ _ _ => pts_nil) (fun _ _ _ _ _ => (pe_cmpR (show OpR _ (compareOp .Eq) rEq from op_eq) (pe_cl C__law_kept hr (by decide) rfl (pa_cons (pv 6) (pa_cons (pv 2) (pa_cons (pv 3) pa_nil)))) (pv 4) (nomark _)))) pa_nil))))
      (pss_one (ps_ret pe_bl))
      pss_nil)
    (pss_one (ps_ret (pe_cmpR op_eq (pe_callB (cr_all rfl) (by rfl) z_all (by decide +kernel) (pa_cons (pe_lc (own := [("piece", 7)]) (by rfl) sc__law_alike.nd (pi_tup (pe_cl C_pieces_of hr (by decide) rfl (pa_cons (pv 1) pa_nil))) (blkOk_by (own := [("piece", 7)]) (N := N__law_alike) (sc := defScope s__law_alike) (by decide +kernel)) (fun _ _ _ _ _ => (pg_name (i := 7) sc__law_alike.nd rfl (.inl rfl))) (fun _ _ _ _ _ => pts_nil) (fun _ _ _ _ _ => (pe_cl C__law_kept hr (by decide) rfl (pa_cons (pe_cl C_piece_table hr (by decide) rfl (pa_cons (pv 1) (pa_cons (pv 7) pa_nil))) (pa_cons (pv 2) (pa_cons (pv 3) pa_nil)))))) pa_nil)) (pv 4) (nomark _))))))))), ?_⟩
    have big : sizeLine = 16777216 := by decide
    have k12 := ok.kinds.2.1
    have t12 := ok.len
    -- steps
    refine ⟨_, rfl, by show 1 ≤ sizeLine; decide, fun L1 n1 => ?_⟩
    have o1 := on0.new (o := .lst [.int 3]) n1
    have f1 := on0.free n1
    have e1 : (L2.upd H L1 (.lst [.int 3])) L1 = some (.lst [.int 3]) := upd_same
    generalize L2.upd H L1 _ = H1 at o1 e1 ⊢
    refine ⟨by show 1 ≤ sizeLine; decide, fun L2_ n2 => ?_⟩
    have o2 := o1.new (o := .lst [.int 2]) n2
    have f2 := o1.free n2
    have s2 := same_upd (o := .lst [.int 2]) n2
    have e2 : (L2.upd H1 L2_ (.lst [.int 2])) L2_ = some (.lst [.int 2]) := upd_same
    generalize L2.upd H1 L2_ _ = H2 at o2 e2 s2 ⊢
    refine ⟨by show 1 ≤ sizeLine; decide, fun L3 n3 => ?_⟩
    have o3 := o2.new (o := .lst [.int 3]) n3
    have f3 := o2.free n3
    have s3 := same_upd (o := .lst [.int 3]) n3
    have e3 : (L2.upd H2 L3 (.lst [.int 3])) L3 = some (.lst [.int 3]) := upd_same
    generalize L2.upd H2 L3 _ = H3 at o3 e3 s3 ⊢
    refine ⟨by show 2 ≤ sizeLine; decide, fun L4 n4 => ?_⟩
    have o4 := o3.new (o := .lst [.int 2, .int 3]) n4
    have f4 := o3.free n4
    have s4 := same_upd (o := .lst [.int 2, .int 3]) n4
    have e4 : (L2.upd H3 L4 (.lst [.int 2, .int 3])) L4 = some (.lst [.int 2, .int 3]) := upd_same
    generalize L2.upd H3 L4 _ = H4 at o4 e4 s4 ⊢
    refine ⟨by show 4 ≤ sizeLine; decide, fun LL nL => ?_⟩
    have o5 := o4.new (o := .lst [.ref L1, .ref L2_, .ref L3, .ref L4]) nL
    have f5 := o4.free nL
    have s5 := same_upd (o := .lst [.ref L1, .ref L2_, .ref L3, .ref L4]) nL
    have e5 : (L2.upd H4 LL (.lst [.ref L1, .ref L2_, .ref L3, .ref L4])) LL = some (.lst [.ref L1, .ref L2_, .ref L3, .ref L4]) := upd_same
    generalize L2.upd H4 LL _ = H5 at o5 e5 s5 ⊢
    refine ⟨p, q, LL, _, rfl, o5.hd, e5, f5.1, f5.2.1, by simp, by show 4 < 1000000; decide, fun H6 v hd6 kp6 hv => ?_⟩
    have o6 := o5.draw hd6 kp6
    obtain ⟨sl, steps, rfl, ksl, nsl, lst⟩ : ∃ (sl : Addr) (steps : List Int), v = .ref sl ∧ H6 sl = some (.lst (steps.map V.int)) ∧ (sl ≠ p ∧ sl ≠ q) ∧ steps.length ≤ 2 := by
      have s45 := s4.trans s5
      simp only [List.mem_cons, List.not_mem_nil, or_false] at hv
      rcases hv with e | e | e | e
      · exact ⟨L1, [3], e, kp6 _ _ f1.1 f1.2.1 ((s2.trans (s3.trans s45)) _ _ e1), ⟨f1.1, f1.2.1⟩, by decide⟩
      · exact ⟨L2_, [2], e, kp6 _ _ f2.1 f2.2.1 ((s3.trans s45) _ _ e2), ⟨f2.1, f2.2.1⟩, by decide⟩
      · exact ⟨L3, [3], e, kp6 _ _ f3.1 f3.2.1 (s45 _ _ e3), ⟨f3.1, f3.2.1⟩, by decide⟩
      · exact ⟨L4, [2, 3], e, kp6 _ _ f4.1 f4.2.1 (s5 _ _ e4), ⟨f4.1, f4.2.1⟩, by decide⟩
    clear on0 o1 o2 o3 o4 o5 e1 e2 e3 e4 e5 f1 f2 f3 f4 f5 s2 s3 s4 s5 n1 n2 n3 n4 nL hd6 kp6 hv
    -- length
    refine ⟨_, rfl, by show 3 ≤ sizeLine; decide, fun L nL => ?_⟩
    have o7 := o6.new (o := .lst [.int 3, .int 4, .int 2]) nL
    have f7 := o6.free nL
    have s7 := same_upd (o := .lst [.int 3, .int 4, .int 2]) nL
    refine ⟨p, q, L, _, rfl, o7.hd, upd_same, f7.1, f7.2.1, by simp, by show 3 < 1000000; decide, fun H8 v hd8 kp8 hv => ?_⟩
    have o8 := o7.draw hd8 kp8
    have ksl8 := kp8 _ _ nsl.1 nsl.2 (s7 _ _ ksl)
    obtain ⟨n, rfl, n4⟩ : ∃ n : Nat, v = .int (n : Int) ∧ n ≤ 4 := by
      simp only [List.mem_cons, List.not_mem_nil, or_false] at hv
      rcases hv with e | e | e
      · exact ⟨3, e, by decide⟩
      · exact ⟨4, e, by decide⟩
      · exact ⟨2, e, by decide⟩
    clear o6 o7 f7 s7 ksl hd8 kp8 hv nL
    refine ⟨by show 2 ≤ sizeLine; decide, fun T nT => ?_⟩
    generalize eH9 : L2.upd H8 T _ = H9
    have s9 := same_of nT eH9
    have kT := at_of eH9
    clear eH9
    refine ⟨T, _, rfl, .inl (.inl kT), rfl, _, _, rfl, _, _, rfl, rfl, ?_⟩
    have o9 := o8.same s9
    have ksl9 := s9 _ _ ksl8
    clear o8 ksl8 s9 kT nT
    have cost := fun {k : Nat} (h : k ≤ 5) => cost_fine h lst n4
    -- due, the table with an empty total
    refine ⟨_, rfl, _, rfl, _, rfl, a, sl, ks, ts, steps, n, rfl, hTab.mono o9.le, ok, .inl (.inl ksl9), n4, cost k5, fun H10 s10 => ?_⟩
    have o10 := o9.same s10
    have ksl10 := s10 _ _ ksl9
    refine ⟨_, rfl, by show 0 ≤ sizeLine; exact Nat.zero_le _, fun Z nZ => ?_⟩
    generalize eH11 : L2.upd H10 Z _ = H11
    have s11 := same_of nZ eH11
    have kZ := at_of eH11
    clear eH11
    have o11 := o10.same s11
    have okE : TabOk ks (ts ++ [[]]) := more_ok ok ⟨Nat.zero_le _, fun x m => (by cases m), trivial⟩ tlt
    refine ⟨a, .ref Z, .tuple [], ks, ts, rfl, hTab.mono o11.le, ok, .tup (sqt kZ) .nil, Nat.zero_le _, fun _ _ H12 m s12 _ tabm => ?_, fun w_ hw => ?_⟩
    · refine ⟨by show 1 ≤ sizeLine; decide, fun O nO => ?_⟩
      have tabm : Tab K C H12 m ks (ts ++ [[]]) := tabm
      have o12 := o11.same s12
      have fO := o12.free nO
      generalize eH13 : L2.upd H12 O _ = H13
      have s13 := same_of nO eH13
      have kO := at_of eH13
      clear eH13
      have o13 := o12.same s13
      refine ⟨by show 2 ≤ sizeLine; decide, fun T nT => ?_⟩
      generalize eH14 : L2.upd H13 T _ = H14
      have s14 := same_of nT eH14
      have kT := at_of eH14
      clear eH14
      have o14 := o13.same s14
      refine ⟨T, _, rfl, .inl (.inl kT), rfl, _, _, rfl, _, _, rfl, rfl, ?_⟩
      have ksl14 := s14 _ _ (s13 _ _ (s12 _ _ (s11 _ _ ksl10)))
      have kO14 := s14 _ _ kO
      have nOs : O ≠ sl := fun e => by rw [e, s12 _ _ (s11 _ _ ksl10)] at nO; cases nO
      have oth1 : OthOk K C steps n (keptW ts ks.length steps n) H14 (.ref m) := ⟨m, ks, ts ++ [[]], rfl, (tabm.mono s13).mono s14, okE, k5, kept_more (.inl rfl) _ _ _⟩
      clear tabm kT nT kO s10 s11 s12 s13 s14 ksl10 ksl9 o9 o10 o11 o12 o13 nO nZ kZ
      generalize hdue : keptW ts ks.length steps n = due at *
      -- merged and its core
      refine ⟨fun σ H' => ∃ (O : Addr) (os : List V), σ = [some (.ref p), some (.ref a), some (.ref sl), some (.int (n : Int)), some (.bl due), some (.ref O), none, none] ∧ (O ≠ p ∧ O ≠ q ∧ G O = none) ∧ O ≠ sl ∧ H' O = some (.lst os) ∧ os.length ≤ 3 ∧ (∀ v ∈ os, OthOk K C steps n due H' v) ∧ On p q G H' ∧ H' sl = some (.lst (steps.map V.int)), ?_, ?_⟩
      · refine ⟨_, rfl, a, ks, ts, rfl, hTab.mono o14.le, by omega, by omega, fun H15 u us s15 _ ku hU => ?_⟩
        refine ⟨by show 0 ≤ sizeLine; exact Nat.zero_le _, fun Z nZ => ?_⟩
        generalize eH16 : L2.upd H15 Z _ = H16
        have s16 := same_of nZ eH16
        have kZ := at_of eH16
        clear eH16
        have s1416 := s15.trans s16
        have o16 := o14.same s1416
        have kO16 := s1416 _ _ kO14
        have ksl16 := s1416 _ _ ksl14
        refine ⟨_, .tuple [], dp_T1 (sqt (s16 _ _ ku)) (hU.mono s16), .tup (sqt kZ) .nil, shp_T1 _, shaped_nil2, _, rfl, ?_⟩
        rw [eqvT1_nil]
        by_cases c0 : classesL ts ks.length = []
        · rw [decide_eq_true c0]
          exact iteF ⟨O, _, rfl, fO, nOs, kO16, by show 1 ≤ 3; decide, fun v mv => by rw [List.mem_singleton.mp mv]; exact oth1.mono s1416, o16, ksl16⟩
        · rw [decide_eq_false c0]
          refine iteT ?_
          have cl5 : (clsN ks (classesL ts ks.length)).length ≤ 5 := by
            have := (classes_len ts ks.length).1
            show ((classesL ts ks.length).map _).length ≤ 5
            rw [List.length_map]
            omega
          have cle : (clsN ks (classesL ts ks.length)).length = (classesL ts ks.length).length := List.length_map _
          refine ⟨_, rfl, _, rfl, a, ks, ts, rfl, hTab.mono o16.le, ok, fun ne ls by_ => ⟨merged_ok ok ne by_, fun H17 m1 s17 _ tab1 => ?_⟩, fun e => absurd e c0⟩
          have o17 := o16.same s17
          have okm := merged_ok ok ne by_
          have km := kept_merged ok.lots by_ steps n
          rw [hdue] at km
          refine ⟨_, rfl, a, ks, ts, rfl, hTab.mono o17.le, ok, fun ne2 ls2 os2 by2 core => fun H18 m2 s18 _ tab2 => ?_, fun e => absurd e c0⟩
          have els := ByCls.uniq by2 by_
          subst els
          have kc := kept_core core (classesL ts ks.length).length steps n
          rw [km] at kc
          refine ⟨by show 2 ≤ sizeLine; decide, fun N nN => ?_⟩
          generalize eH19 : L2.upd H18 N _ = H19
          have s19 := same_of nN eH19
          have kN := at_of eH19
          clear eH19
          have s1619 := s17.trans (s18.trans s19)
          refine ⟨O, N, _, _, rfl, rfl, s1619 _ _ kO16, kN, by show 1 + 2 ≤ sizeLine; decide, fun O2 nO2 => ?_⟩
          have o19 := o16.same s1619
          have f2 := o19.free nO2
          generalize eH20 : L2.upd H19 O2 _ = H20
          have s20 := same_of nO2 eH20
          have kO2 := at_of eH20
          clear eH20
          refine ⟨O2, _, rfl, f2, fun e => (by rw [e, s1619 _ _ ksl16] at nO2; cases nO2), kO2, by show 3 ≤ 3; decide, fun v mv => ?_, o19.same s20, s20 _ _ (s1619 _ _ ksl16)⟩
          rcases List.mem_append.mp mv with z | z
          · rw [List.mem_singleton.mp z]
            exact oth1.mono (s1416.trans (s1619.trans s20))
          · rcases List.mem_cons.mp z with rfl | z
            · exact ⟨m1, _, _, rfl, tab1.mono (s18.trans (s19.trans s20)), okm, cl5, by rw [cle]; exact km⟩
            · rw [List.mem_singleton.mp z]
              exact ⟨m2, _, _, rfl, tab2.mono (s19.trans s20), core_ok okm core, cl5, by rw [cle]; exact kc⟩
      clear oth1 kO14 o14 ksl14 fO
      rintro σ H15 ⟨O, os, rfl, fO, nOs, kO, lo, oth, o15, ksl⟩
      -- a total that is there
      refine ⟨fun σ H' => ∃ (O : Addr) (os : List V), σ = [some (.ref p), some (.ref a), some (.ref sl), some (.int (n : Int)), some (.bl due), some (.ref O), none, none] ∧ H' O = some (.lst os) ∧ os.length ≤ 4 ∧ (∀ v ∈ os, OthOk K C steps n due H' v) ∧ On p q G H' ∧ H' sl = some (.lst (steps.map V.int)), ?_, ?_⟩
      · have tab15 := hTab.mono o15.le
        obtain ⟨dx, kk, tt, ys, hO, hK, hS, hT⟩ := hTab
        have hO15 := o15.le _ _ hO
        have hS15 := seqT o15.le hS
        have hT15 := hT.mono o15.le
        have ly := hT.len
        refine ⟨_, rfl, a, C, dx, _, .ref tt, rfl, hO15, TC.c, TC.nt, rfl, ?_⟩
        refine ⟨by show 0 ≤ sizeLine; exact Nat.zero_le _, fun Z nZ => ?_⟩
        generalize eH16 : L2.upd H15 Z _ = H16
        have s16 := same_of nZ eH16
        have kZ := at_of eH16
        clear eH16
        have o16 := o15.same s16
        have kO16 := s16 _ _ kO
        have ksl16 := s16 _ _ ksl
        refine ⟨_, .tuple [], dp_T1 (seqT s16 hS15) (hT15.mono s16), .tup (sqt kZ) .nil, shp_T1 _, shaped_nil2, _, rfl, ?_⟩
        rw [eqvT1_nil]
        by_cases c0 : ts = []
        · rw [decide_eq_true c0]
          exact iteF ⟨O, os, rfl, kO16, by omega, fun v mv => (oth v mv).mono s16, o16, ksl16⟩
        · rw [decide_eq_false c0]
          have yne : ys ≠ [] := fun e => c0 (List.eq_nil_of_length_eq_zero (by rw [← ly, e]; rfl))
          refine iteT ⟨_, rfl, .inl ⟨rfl, _, .inl (.inl kO16)⟩, _, rfl, _, rfl, _, rfl, a, C, dx, _, .ref tt, rfl, o16.le _ _ hO, TC.c, TC.nt, rfl, ?_⟩
          refine ⟨p, q, tt, ys, rfl, o16.hd, seqT o16.le hS, yne, by omega, fun H17 v hd17 kp17 hv => ?_⟩
          have ob := o16.base.1.draw hd17 kp17
          have o17 := o16.draw hd17 kp17
          have kO17 := kp17 _ _ fO.1 fO.2.1 kO16
          have ksl17 := kp17 _ _ nsl.1 nsl.2 ksl16
          have oth17 := fun v mv => OthOk.mono ob.le (OthOk.frz o16.hd (OthOk.mono s16 (oth v mv)))
          obtain ⟨i, ei⟩ := List.mem_iff_getElem?.mp hv
          obtain ⟨tl, c, rfl, ec, htl⟩ := hT.get ei
          have mc := List.mem_of_getElem? ec
          have okc := ok.lots c mc
          refine ⟨a, .ref tl, _, ks, ts, rfl, Tab.mono o17.le ⟨dx, kk, tt, ys, hO, hK, hS, hT⟩, ok, Ov.ints (seqT o17.le htl), by show (c.map PyData.int).length ≤ 1000; rw [List.length_map]; exact okc.1, fun _ _ H18 m s18 _ tabm => ?_, fun w_ hw => ?_⟩
          · rw [intsD_ints] at tabm
            have okc2 := more_ok ok okc tlt
            have kO18 := s18 _ _ kO17
            have o18 := o17.same s18
            refine ⟨O, _, _, rfl, rfl, kO18, by omega, O, _, rfl, upd_same, by rw [List.length_append]; show os.length + 1 ≤ 4; omega, fun v mv => ?_, o18.put fO, ?_⟩
            · refine OthOk.updL kO18 ?_
              rcases List.mem_append.mp mv with z | z
              · exact (oth17 v z).mono s18
              · rw [List.mem_singleton.mp z]
                exact ⟨m, _, _, rfl, tabm, okc2, k5, by rw [kept_more (.inr mc)]; exact hdue⟩
            · rw [upd_ne nOs.symm]
              exact s18 _ _ ksl17
          · rcases hw with ⟨h, _⟩ | ⟨_, h, _⟩
            · rw [lotD_of okc] at h
              cases h
            · omega
      rintro σ H16 ⟨O, os, rfl, kO, lo, oth, o16, ksl⟩
      have tab16 := hTab.mono o16.le
      have fin := fun (H' : Hp) (s : Same H16 H') => fin H' (o16.same s)
      clear hTab o16
      refine ⟨_, rfl, O, rfl, ⟨_, .inl (.inl kO)⟩, fun B nB => ?_⟩
      refine lc_it (walk_list (K := K) (a := O) (xs := os)) (fun i H' => Same H16 H' ∧ H' B = some (.lst ((List.replicate i true).map V.bl))) ⟨same_upd nB, upd_same⟩ (fun i H' _ h => .inl (.inl (h.1 _ _ kO))) ?_ ?_
      · rintro i v H17 H18 hi ⟨s17, kB⟩ ⟨rfl, ev⟩
        have hi2 : i < os.length := hi
        obtain ⟨m, ks2, ts2, rfl, tab2, ok2, l5, kp⟩ := oth v (List.mem_of_getElem? ev)
        refine ⟨rfl, _, rfl, _, rfl, _, rfl, m, sl, ks2, ts2, steps, n, rfl, tab2.mono s17, ok2, .inl (.inl (s17 _ _ ksl)), n4, cost l5, fun H19 s19 => ?_⟩
        rw [kp]
        have kB19 := s19 _ _ kB
        refine ⟨_, rfl, rfl, _, kB19, by rw [List.length_map, List.length_replicate]; omega, HD.same_put (s17.trans s19) nB, ?_⟩
        rw [upd_same, decide_eq_true rfl, List.replicate_succ', List.map_append]
        rfl
      rintro H17 ⟨s17, kB⟩
      refine ⟨B, _, rfl, .inl (.inl kB), ?_⟩
      rw [all_true]
      refine ⟨_, rfl, iteF ?_⟩
      refine ⟨_, rfl, a, ks, ts, rfl, tab16.mono s17, ok, fun H18 u us Ps s18 hu hU hPs => ?_⟩
      have s1618 := s17.trans s18
      have tab18 := tab16.mono s1618
      have ksl18 := s1618 _ _ ksl
      refine ⟨u, rfl, ⟨_, hu⟩, fun B2 nB2 => ?_⟩
      have lu := hU.len
      have psl := hPs.few
      have clk := (classes_len ts ks.length).1
      refine lc_it (walk_tup (K := K) (a := u) (xs := us)) (fun i H' => Same H18 H' ∧ H' B2 = some (.lst (((Ps.take i).map fun R => keptW (pcT ts ks.length R) (kdsP ts ks.length R).length steps n).map V.bl))) ⟨same_upd nB2, upd_same⟩ (fun i H' _ h => seqT h.1 hu) ?_ ?_
      · rintro i v H19 H20 hi ⟨s19, kB2⟩ ⟨rfl, ev⟩
        obtain ⟨pa, R0, rfl, eR, hR⟩ := hU.get ev
        obtain ⟨pc, ne, isP⟩ := hPs.pc k12 (List.mem_of_getElem? eR)
        have kl := asc_few (kdsP_asc ts ks.length R0) (kdsP_low (ts := ts) (n := ks.length) (P := R0))
        have pl : (pcK ks ts R0).length = (kdsP ts ks.length R0).length := List.length_map _
        refine ⟨rfl, _, rfl, _, rfl, a, pa, ks, ts, R0, rfl, tab18.mono s19, ok, seqT s19 hR, pc, ne, fun okN H21 td s21 _ tabN => ?_⟩
        refine ⟨_, rfl, _, rfl, td, sl, _, _, steps, n, rfl, tabN, okN, .inl (.inl (s21 _ _ (s19 _ _ ksl18))), n4, cost (by omega), fun H22 s22 => ?_⟩
        rw [pl]
        have s1922 := s21.trans s22
        refine ⟨_, s1922 _ _ kB2, by rw [List.length_map, List.length_map, List.length_take]; omega, HD.same_put (s19.trans s1922) nB2, ?_⟩
        rw [upd_same, List.take_add_one, eR, List.map_append, List.map_append]
        rfl
      rintro H19 ⟨s19, kB2⟩
      rw [lu, List.take_length] at kB2
      refine ⟨B2, _, rfl, .inl (.inl kB2), ?_⟩
      have e : (Ps.map fun R => keptW (pcT ts ks.length R) (kdsP ts ks.length R).length steps n).all id = due := by
        rw [List.all_map, ← hdue, ← kept_pieces k12 ok.lots hPs steps n]
        rfl
      rw [e]
      refine ⟨_, rfl, rfl, ?_⟩
      rw [decide_eq_true rfl]
      exact fin H19 (s1618.trans s19)
    · rcases hw with ⟨h, _⟩ | ⟨_, h, _⟩
      · cases h
      · omega
end
end K04
namespace CK
open PySem PySem.Spec PyProof.Rows L2 VG FR HD M9
def rndS (lots : List (List Int)) : Nat → List Int → List Int
  | 0, S => S
  | k + 1, S => rndS lots k (lots.foldl growL S)
theorem grows_good {lots : List (List Int)} {s : Int} : ∀ {ls : List (List Int)} {S : List Int}, (∀ l ∈ ls, l ∈ lots ∧ l.Nodup) → GoodS lots s S → GoodS lots s (ls.foldl growL S)
  | [], _, _, h => h
  | l :: ls, S, m, h => grows_good (ls := ls) (S := growL S l) (fun x mx => m x (List.mem_cons_of_mem _ mx)) (h.grow (m l List.mem_cons_self).1 (m l List.mem_cons_self).2)
theorem rnd_good {lots : List (List Int)} {s : Int} (nd : ∀ l ∈ lots, l.Nodup) : ∀ (k i : Nat) {S : List Int}, GoodS lots s S → (ClosedS lots S ∨ i + 1 ≤ S.length) → GoodS lots s (rndS lots k S) ∧ (ClosedS lots (rndS lots k S) ∨ i + k + 1 ≤ (rndS lots k S).length)
  | 0, _, _, g, c => ⟨g, c⟩
  | k + 1, i, S, g, c => by
    have h := rnd_good nd k (i + 1) (S := lots.foldl growL S) (grows_good (fun l m => ⟨m, nd l m⟩) g) (round_next c)
    refine ⟨h.1, ?_⟩
    rcases h.2 with z | z
    · exact .inl z
    · exact .inr (by show i + (k + 1) + 1 ≤ (rndS lots k (lots.foldl growL S)).length; omega)
theorem piece_calc {lots : List (List Int)} {m : Nat} {s : Int} {P : List Int} (low : LotsB lots m) (asc : ∀ c ∈ lots, c.Pairwise (· < ·)) (hs : 0 ≤ s ∧ s < (m : Int)) (pm : P.Perm (rndS lots m [s])) (le : P.Pairwise (· ≤ ·)) : IsPiece lots s P := by
  have g0 : GoodS lots s [s] := ⟨List.nodup_cons.mpr ⟨List.not_mem_nil, List.nodup_nil⟩, fun x mx => by rw [List.mem_singleton.mp mx]; exact .refl, List.mem_cons_self⟩
  have ⟨g, c⟩ := rnd_good (fun l ml => (asc l ml).imp fun h => by omega) m 0 g0 (.inr (Nat.le_refl _))
  refine piece_end g ?_ pm le
  rcases c with z | z
  · exact z
  · have := goodS_few low hs g
    omega
def chkP (lots : List (List Int)) (m : Nat) (Ps : List (List Int)) : Bool :=
  (List.range m).all (fun (s : Nat) => Ps.any fun P => P.isPerm (rndS lots m [(s : Int)])) && Ps.all (fun P => decide (P.Pairwise (· ≤ ·)) && (List.range m).any fun (s : Nat) => P.isPerm (rndS lots m [(s : Int)])) && decide (Ps.Pairwise fun a b => TU.lexI a b = true)
theorem pieces_calc {lots : List (List Int)} {m : Nat} {Ps : List (List Int)} (low : LotsB lots m) (asc : ∀ c ∈ lots, c.Pairwise (· < ·)) (h : chkP lots m Ps = true) : Pieces lots m Ps := by
  unfold chkP at h
  rw [Bool.and_eq_true, Bool.and_eq_true] at h
  obtain ⟨⟨h1, h2⟩, h3⟩ := h
  have h2 := fun P mP => by
    have := List.all_eq_true.mp h2 P mP
    rw [Bool.and_eq_true] at this
    exact this
  refine ⟨(show Ps.Pairwise fun a b => TU.lexI a b = true from of_decide_eq_true h3), fun P => ⟨fun mP => ?_, ?_⟩⟩
  · obtain ⟨q1, q2⟩ := h2 P mP
    obtain ⟨s, ms, e⟩ := List.any_eq_true.mp q2
    have hs := List.mem_range.mp ms
    exact ⟨(s : Int), by omega, by omega, piece_calc low asc ⟨by omega, by omega⟩ (List.isPerm_iff.mp e) (of_decide_eq_true q1)⟩
  · rintro ⟨s, s0, s1, hP⟩
    obtain ⟨sn, rfl⟩ := Int.eq_ofNat_of_zero_le s0
    obtain ⟨R, mR, e⟩ := List.any_eq_true.mp (List.all_eq_true.mp h1 sn (List.mem_range.mpr (by omega)))
    have hR := piece_calc low asc ⟨s0, s1⟩ (List.isPerm_iff.mp e) (of_decide_eq_true (h2 R mR).1)
    rw [hP.uniq hR]
    exact mR
def kA4 : List Str := ["a", "b", "c", "d"]
def tA4 : List (List Int) := [[0, 1], [1, 2], [2, 3]]
theorem okA4 : TabOk kA4 tA4 := ⟨kinds_dec (by decide) (by decide +kernel) (by decide +kernel), by decide, fun c hc => lot_dec (List.all_eq_true.mp (by decide +kernel : tA4.all (lotB (kA4.length : Int)) = true) c hc)⟩
def kO5 : List Str := ["a", "b", "c", "d", "e"]
def tO5 : List (List Int) := [[0, 1], [1, 2, 3], [0, 2, 3], [4]]
theorem okO5 : TabOk kO5 tO5 := ⟨kinds_dec (by decide) (by decide +kernel) (by decide +kernel), by decide, fun c hc => lot_dec (List.all_eq_true.mp (by decide +kernel : tO5.all (lotB (kO5.length : Int)) = true) c hc)⟩
def pA4 : List (List Int) := [[0, 1, 2, 3]]
def pE5 : List (List Int) := [[0, 1], [2]]
def pO5 : List (List Int) := [[0, 1, 2], [3]]
theorem pcA4 : Pieces (lotsC tA4 kA4.length) (classesL tA4 kA4.length).length pA4 := pieces_calc (lotsC_low _ (by decide)) (lotsC_asc _ _) (by decide +kernel)
theorem pcE5 : Pieces (lotsC tE kE.length) (classesL tE kE.length).length pE5 := pieces_calc (lotsC_low _ (by decide)) (lotsC_asc _ _) (by decide +kernel)
theorem pcO5 : Pieces (lotsC tO5 kO5.length) (classesL tO5 kO5.length).length pO5 := pieces_calc (lotsC_low _ (by decide)) (lotsC_asc _ _) (by decide +kernel)
theorem pcG1 : Pieces (lotsC tG kG.length) (classesL tG kG.length).length [] := pieces_calc (lotsC_low _ (by decide)) (lotsC_asc _ _) (by decide +kernel)
def kP3 : List Str := ["bun", "jam", "tea"]
theorem pkE : pcK kE tE [0, 1] = kP3 := by decide +kernel
theorem ptE : pcT tE kE.length [2] = [[0]] := by decide +kernel
theorem kw1 : keptW tO5 kO5.length [3] 3 = false := by decide +kernel
theorem kw2 : keptW tO5 kO5.length [3] 2 = true := by decide +kernel
theorem kw3 : keptW (pcT tO5 kO5.length [3]) (pcK kO5 tO5 [3]).length [2, 3] 4 = true := by decide +kernel
theorem kw4 : keptW (pcT tO5 kO5.length [0, 1, 2]) (pcK kO5 tO5 [0, 1, 2]).length [3] 3 = false := by decide +kernel
theorem neO5 : classesL tO5 kO5.length ≠ [] := by decide +kernel
theorem kwc {ls os : List (List Int)} (by_ : ByCls tO5 kO5.length ls) (h : CoreR ls os) : keptW os (clsN kO5 (classesL tO5 kO5.length)).length [3] 3 = false := by
  have e : (clsN kO5 (classesL tO5 kO5.length)).length = (classesL tO5 kO5.length).length := List.length_map _
  rw [e, kept_core h, kept_merged okO5.lots by_, kw1]
end CK
namespace K04
open PySem PySem.Spec PyProof.Rows L2 VG FR CK HD M9
abbrev s_law : Stmt := topS 52
abbrev N_law : List Str := ["script", "heap", "turn", "many", "totals", "small", "wide", "table", "odd"]
theorem sc_law : FnScope N_law ["script"] (defScope s_law) := ⟨rfl, rfl, rfl, by decide +kernel, rfl, by decide +kernel, by decide +kernel⟩
section
variable {P : Program} {w : World} {K : PySem.W.Frag} {mg : Str → Option Value} {base : Heap}
theorem ok_law {f C R : Addr} {fd : FuncData} (F : Fun K "law" "law" s_law f fd) (TC : TabC K C) (T_Table : MkT P w K mg base 7 "Table" C (spInitT K C))
    (C__law_heap : Cl P w K mg base 1 "_law_heap" (spHeapF K)) (C__law_pick : Cl P w K mg base 2 "_law_pick" (spPick K)) (C__law_names : Cl P w K mg base 3 "_law_names" (spLawNames K)) (C__law_totals : Cl P w K mg base 3 "_law_totals" (spLawTots K)) (C__law_parted : Cl P w K mg base 4 "_law_parted" (spLawTots K))
    (G__law_pieces_right : ClG P w K mg base 11 "_law_pieces_right" (spPcsRight K C)) (C__law_alike : Cl P w K mg base 12 "_law_alike" (spLawAlike K C)) (C__law_day_right : Cl P w K mg base 11 "_law_day_right" (spDayRight K C)) (C_pieces_of : Cl P w K mg base 5 "pieces_of" (spPiecesOf K C)) (C_piece_table : Cl P w K mg base 10 "piece_table" (spPieceTab K C)) (C__law_kept : Cl P w K mg base 7 "_law_kept" (spKeptW K C)) (C_core_of : Cl P w K mg base 11 "core_of" (fun vs H Q _ => spCore K C R vs H Q E0))
    (z_len : mg "len" = none) (z_int : mg "int" = none) (z_range : mg "range" = none) : FnG P w K mg base 13 f fd ["script"] (spLaw K) := by
  refine fnG_of F sc_law (fun vs H Q E h => ?_) (fun cdv A outer s H vs Q E hg hr h => ?_)
  · obtain ⟨_, _, rfl, _⟩ := h
    rfl
  · obtain ⟨a, sc, rfl, hS0, l63, fin⟩ := h
    refine ⟨_, (pss_cons (ps_set (i := 1) sc_law.nd rfl (.inl rfl) (pe_cl C__law_heap hr (by decide) rfl (pa_cons (pv 0) pa_nil)))
    (pss_cut (ps_for PassesOwn.never rfl (pi_range1 (by rfl) z_range (pa_cons (pe_op op_add pe_int (pe_callTy call_int1 (by rfl) z_int (by decide +kernel) (pa_cons (pe_cmpR op_gt (pe_callB call_len_seq (by rfl) z_len (by decide +kernel) (pa_cons (pv 0) pa_nil)) pe_int (nomark _)) pa_nil))) pa_nil)) (pg_name (i := 2) sc_law.nd rfl (.inl rfl))
      (pss_cons (ps_par (i := 3) (j := 4) (by rfl) sc_law.nd rfl rfl (by decide) rfl rfl (pa_cons (pe_cl C__law_pick hr (by decide) rfl (pa_cons (pv 1) (pa_cons (pe_lst (pa_cons pe_int (pa_cons pe_int (pa_cons pe_int (pa_cons pe_int (pa_cons pe_int pa_nil)))))) pa_nil))) (pa_cons (pe_cl C__law_pick hr (by decide) rfl (pa_cons (pv 1) (pa_cons (pe_lst (pa_cons pe_int (pa_cons pe_int (pa_cons pe_int (pa_cons pe_int (pa_cons pe_int pa_nil)))))) pa_nil))) pa_nil)) (by rfl))
      (pss_cons (ps_set (i := 5) sc_law.nd rfl (.inl rfl) (pe_mt T_Table hr (by decide) rfl (pa_cons (pe_cl C__law_names hr (by decide) rfl (pa_cons (pv 1) (pa_cons (pv 3) pa_nil))) (pa_cons (pe_meet  (pe_ifExp (pt_cmpR op_ne (pv 2) pe_int (nomark _)) (pe_cl C__law_totals hr (by decide) rfl (pa_cons (pv 1) (pa_cons (pv 3) (pa_cons (pv 4) pa_nil)))) (pe_cl C__law_parted hr (by decide) rfl (pa_cons (pv 1) (pa_cons (pv 3) (pa_cons (pv 4) pa_nil)))))) pa_nil))))
      (pss_cons (ps_if (PW.pt (pw_or (pt_not (pt_val (pe_clg G__law_pieces_right hg hr (by decide) rfl (pa_cons (pv 5) pa_nil)))) (pw_or (pt_not (pt_val (pe_cl C__law_alike hr (by decide) rfl (pa_cons (pv 1) (pa_cons (pv 5) pa_nil))))) (pw_or1 (pt_not (pt_val (pe_cl C__law_day_right hr (by decide) rfl (pa_cons (pv 1) (pa_cons (pv 5) pa_nil)))))))))
        (pss_one (ps_ret pe_bl))
        pss_nil)
      (pss_cons (ps_set (i := 3) sc_law.nd rfl (.inl rfl) (pe_cl C__law_pick hr (by decide) rfl (pa_cons (pv 1) (pa_cons (pe_lst (pa_cons pe_int (pa_cons pe_int (pa_cons pe_int pa_nil)))) pa_nil))))
      (pss_cons (ps_set (i := 6) sc_law.nd rfl (.inl rfl) (pe_mt T_Table hr (by decide) rfl (pa_cons (pe_cl C__law_names hr (by decide) rfl (pa_cons (pv 1) (pa_cons (pv 3) pa_nil))) (pa_cons (pe_cl C__law_parted hr (by decide) rfl (pa_cons (pv 1) (pa_cons (pv 3) (pa_cons (pe_cl C__law_pick hr (by decide) rfl (pa_cons (pv 1) (pa_cons (pe_lst (pa_cons pe_int (pa_cons pe_int (pa_cons pe_int (pa_cons pe_int pa_nil))))) pa_nil))) pa_nil)))) pa_nil))))
      (pss_one (ps_if (PW.pt (pw_or (pt_not (pt_val (pe_clg G__law_pieces_right hg hr (by decide) rfl (pa_cons (pv 6) pa_nil)))) (pw_or1 (pt_not (pt_val (pe_cl C__law_day_right hr (by decide) rfl (pa_cons (pv 1) (pa_cons (pv 6) pa_nil))))))))
        (pss_one (ps_ret pe_bl))
        pss_nil))))))))
    (pss_cons (ps_if (pt_cmpR (op_neD hr.units) (pe_cl C_pieces_of hr (by decide) rfl (pa_cons (pe_mt T_Table hr (by decide) rfl (pa_cons (pe_tup (pa_cons pe_str (pa_cons pe_str (pa_cons pe_str (pa_cons pe_str pa_nil))))) (pa_cons (pe_tup (pa_cons (pe_tup (pa_cons pe_int (pa_cons pe_int pa_nil))) (pa_cons (pe_tup (pa_cons pe_int (pa_cons pe_int pa_nil))) (pa_cons (pe_tup (pa_cons pe_int (pa_cons pe_int pa_nil))) pa_nil)))) pa_nil))) pa_nil)) (pe_tup (pa_cons (pe_tup (pa_cons pe_int (pa_cons pe_int (pa_cons pe_int (pa_cons pe_int pa_nil))))) pa_nil)) (nomark _))
      (pss_one (ps_ret pe_bl))
      pss_nil)
    (pss_cons (ps_set (i := 7) sc_law.nd rfl (.inl rfl) (pe_mt T_Table hr (by decide) rfl (pa_cons (pe_tup (pa_cons pe_str (pa_cons pe_str (pa_cons pe_str (pa_cons pe_str (pa_cons pe_str pa_nil)))))) (pa_cons (pe_tup (pa_cons (pe_tup (pa_cons pe_int (pa_cons pe_int (pa_cons pe_int pa_nil)))) (pa_cons (pe_tup pa_nil) (pa_cons (pe_tup (pa_cons pe_int (pa_cons pe_int pa_nil))) (pa_cons (pe_tup (pa_cons pe_int pa_nil)) (pa_cons (pe_tup (pa_cons pe_int (pa_cons pe_int (pa_cons pe_int pa_nil)))) pa_nil)))))) pa_nil))))
    (pss_cons (ps_if (PW.pt (pw_or (pt_cmpR (op_neD hr.units) (pe_cl C_pieces_of hr (by decide) rfl (pa_cons (pv 7) pa_nil)) (pe_tup (pa_cons (pe_tup (pa_cons pe_int (pa_cons pe_int pa_nil))) (pa_cons (pe_tup (pa_cons pe_int pa_nil)) pa_nil))) (nomark _)) (pw_or (pt_cmpR (op_neD hr.units) (pe_fld (pe_cl C_piece_table hr (by decide) rfl (pa_cons (pv 7) (pa_cons (pe_tup (pa_cons pe_int (pa_cons pe_int pa_nil))) pa_nil))) (by rfl)) (pe_tup (pa_cons pe_str (pa_cons pe_str (pa_cons pe_str pa_nil)))) (nomark _)) (pw_or1 (pt_cmpR (op_neD hr.units) (pe_fld (pe_cl C_piece_table hr (by decide) rfl (pa_cons (pv 7) (pa_cons (pe_tup (pa_cons pe_int pa_nil)) pa_nil))) (by rfl)) (pe_tup (pa_cons (pe_tup (pa_cons pe_int pa_nil)) pa_nil)) (nomark _))))))
      (pss_one (ps_ret pe_bl))
      pss_nil)
    (pss_cons (ps_set (i := 8) sc_law.nd rfl (.inl rfl) (pe_mt T_Table hr (by decide) rfl (pa_cons (pe_tup (pa_cons pe_str (pa_cons pe_str (pa_cons pe_str (pa_cons pe_str (pa_cons pe_str pa_nil)))))) (pa_cons (pe_tup (pa_cons (pe_tup (pa_cons pe_int (pa_cons pe_int pa_nil))) (pa_cons (pe_tup (pa_cons pe_int (pa_cons pe_int (pa_cons pe_int pa_nil)))) (pa_cons (pe_tup (pa_cons pe_int (pa_cons pe_int (pa_cons pe_int pa_nil)))) (pa_cons (pe_tup (pa_cons pe_int pa_nil)) pa_nil))))) pa_nil))))
    (pss_cons (ps_if (PW.pt (pw_or (pt_cmpR (op_neD hr.units) (pe_cl C_pieces_of hr (by decide) rfl (pa_cons (pv 8) pa_nil)) (pe_tup (pa_cons (pe_tup (pa_cons pe_int (pa_cons pe_int (pa_cons pe_int pa_nil)))) (pa_cons (pe_tup (pa_cons pe_int pa_nil)) pa_nil))) (nomark _)) (pw_or (pt_val (pe_cl C__law_kept hr (by decide) rfl (pa_cons (pv 8) (pa_cons (pe_lst (pa_cons pe_int pa_nil)) (pa_cons pe_int pa_nil))))) (pw_or (pt_val (pe_cl C__law_kept hr (by decide) rfl (pa_cons (pe_cl C_core_of hr (by decide) rfl (pa_cons (pv 8) pa_nil)) (pa_cons (pe_lst (pa_cons pe_int pa_nil)) (pa_cons pe_int pa_nil))))) (pw_or1 (pt_not (pt_val (pe_cl C__law_kept hr (by decide) rfl (pa_cons (pv 8) (pa_cons (pe_lst (pa_cons pe_int pa_nil)) (pa_cons pe_int pa_nil)))))))))))
      (pss_one (ps_ret pe_bl))
      pss_nil)
    (pss_one (ps_ret (pe_and (pe_cl C__law_kept hr (by decide) rfl (pa_cons (pe_cl C_piece_table hr (by decide) rfl (pa_cons (pv 8) (pa_cons (pe_tup (pa_cons pe_int pa_nil)) pa_nil))) (pa_cons (pe_lst (pa_cons pe_int (pa_cons pe_int pa_nil))) (pa_cons pe_int pa_nil)))) (pe_and (pe_not (pe_cl C__law_kept hr (by decide) rfl (pa_cons (pe_cl C_piece_table hr (by decide) rfl (pa_cons (pv 8) (pa_cons (pe_tup (pa_cons pe_int (pa_cons pe_int (pa_cons pe_int pa_nil)))) pa_nil))) (pa_cons (pe_lst (pa_cons pe_int pa_nil)) (pa_cons pe_int pa_nil))))) (pe_one (pe_cmpR (op_eqD hr.units) (pe_cl C_pieces_of hr (by decide) rfl (pa_cons (pe_mt T_Table hr (by decide) rfl (pa_cons (pe_tup (pa_cons pe_str pa_nil)) (pa_cons (pe_tup (pa_cons (pe_tup pa_nil) pa_nil)) pa_nil))) pa_nil)) (pe_tup pa_nil) (nomark _)))))))))))))), ?_⟩
    have big : sizeLine = 16777216 := by decide
    refine ⟨_, rfl, a, sc, rfl, hS0, l63, fun H1 p q hd1 s1 np nq => ?_⟩
    have on0 : On p q (GB p q H1) H1 := (OnT.start (T := []) hd1 (fun x hx => by cases hx)).1
    have hS := sqL_gb np nq s1 hS0
    clear hS0 np nq s1 hd1
    generalize GB p q H1 = G at on0 hS
    refine ⟨fun σ H' => (∃ y2 y3 y4 y5 y6 : Option V, σ = [some (.ref a), some (.ref p), y2, y3, y4, y5, y6, none, none]) ∧ On p q G H', ?_, ?_⟩
    · refine ⟨_, rfl, a, sc.map V.int, rfl, .inl (on0.le.seq hS), _, _, rfl, rfl, .inr ⟨_, rfl, _, _, rfl, rfl, _, rfl, ?_, ?_, ?_⟩⟩
      · split <;> decide
      · split <;> decide
      · refine for_it (walk_range (lo := 0)) (fun i σ H' => (∃ y2 y3 y4 y5 y6 : Option V, σ = [some (.ref a), some (.ref p), y2, y3, y4, y5, y6, none, none]) ∧ On p q G H') ⟨⟨_, _, _, _, _, rfl⟩, on0⟩ (fun _ _ _ _ _ => trivial) ?_ ?_
        · clear on0
          rintro i x σ H2 H3 hi ⟨⟨y2, y3, y4, y5, y6, rfl⟩, on1⟩ ⟨rfl, rfl⟩
          -- how many kinds and totals
          refine ⟨_, rfl, by show 5 ≤ sizeLine; decide, fun L nL => ?_⟩
          have fL := on1.free nL
          have on2 := on1.new (o := .lst [.int 4, .int 3, .int 5, .int 2, .int 1]) nL
          refine ⟨p, q, L, _, rfl, on2.hd, upd_same, fL.1, fL.2.1, by simp, by show 5 < 1000000; decide, fun H4 v hd4 kp4 hv => ?_⟩
          have on4 := on2.draw hd4 kp4
          obtain ⟨m, rfl, m1, m5⟩ : ∃ m : Nat, v = .int m ∧ 1 ≤ m ∧ m ≤ 5 := by
            simp only [List.mem_cons, List.not_mem_nil, or_false] at hv
            rcases hv with e | e | e | e | e
            · exact ⟨4, e, by decide, by decide⟩
            · exact ⟨3, e, by decide, by decide⟩
            · exact ⟨5, e, by decide, by decide⟩
            · exact ⟨2, e, by decide, by decide⟩
            · exact ⟨1, e, by decide, by decide⟩
          clear on1 on2 nL fL hd4 kp4 hv
          refine ⟨_, rfl, by show 5 ≤ sizeLine; decide, fun L nL => ?_⟩
          have fL := on4.free nL
          have on5 := on4.new (o := .lst [.int 3, .int 3, .int 2, .int 4, .int 1]) nL
          refine ⟨p, q, L, _, rfl, on5.hd, upd_same, fL.1, fL.2.1, by simp, by show 5 < 1000000; decide, fun H6 v hd6 kp6 hv => ?_⟩
          have on6 := on5.draw hd6 kp6
          obtain ⟨mt, rfl, mt4⟩ : ∃ m : Nat, v = .int m ∧ m ≤ 4 := by
            simp only [List.mem_cons, List.not_mem_nil, or_false] at hv
            rcases hv with e | e | e | e | e
            · exact ⟨3, e, by decide⟩
            · exact ⟨3, e, by decide⟩
            · exact ⟨2, e, by decide⟩
            · exact ⟨4, e, by decide⟩
            · exact ⟨1, e, by decide⟩
          clear on4 on5 nL fL hd6 kp6 hv
          refine ⟨_, _, rfl, ?_⟩
          -- the small table
          refine ⟨_, rfl, _, rfl, p, q, m, rfl, on6.hd, m1, by omega, fun H7 u ks on7' ku okK lks => ?_⟩
          subst lks
          have on7 := on6.draw on7'.hd on7'.keep
          have ⟨on8, g8⟩ := on7.base
          have hK : SqT K (frz p q H7) u (ks.map V.str) := .inl (.inl (frz_at ku (on7.hd.neOf ku (fun ys z => by cases z))))
          have back : ∀ {H'}, On p q (frz p q H7) H' → On p q G H' := fun h => h.drop g8
          clear on6 on7 on7' ku g8
          generalize frz p q H7 = G1 at on8 hK back
          refine ⟨fun v H' => ∃ (t : Addr) (xs : List V) (ts : List (List Int)), v = .ref t ∧ On p q G1 H' ∧ H' t = some (.tup xs) ∧ Tots K H' xs ts ∧ ts.length = mt ∧ ∀ c ∈ ts, LotOk (ks.length : Int) c, ?_, ?_⟩
          · refine ⟨_, rfl, rfl, _, rfl, ite2 (fun _ => ?_) (fun _ => ?_)⟩
            · refine ⟨_, rfl, _, rfl, _, rfl, p, q, ks.length, mt, rfl, on8.hd, by omega, by omega, fun H9 t xs ts on9 kt hX lt okT => ?_⟩
              exact ⟨t, xs, ts, rfl, on8.draw on9.hd on9.keep, kt, hX, lt, okT⟩
            · refine ⟨_, rfl, _, rfl, _, rfl, p, q, ks.length, mt, rfl, on8.hd, by omega, by omega, fun H9 t xs ts on9 kt hX lt okT => ?_⟩
              exact ⟨t, xs, ts, rfl, on8.draw on9.hd on9.keep, kt, hX, lt, okT⟩
          clear on8
          rintro _ H9 ⟨t, xs, ts, rfl, on9, kt, hX, lt, okT⟩
          refine fun x dx nx nd ne => tab_made (seqT on9.le hK) okK (sqt kt) hX (by omega) okT nx nd ne fun H10 s10 tab _ => ?_
          have ok : TabOk ks ts := ⟨okK, by omega, okT⟩
          have on10 := back (on9.same s10)
          have ⟨on11, g11⟩ := on10.base
          have tabG := tab.frz on10.hd
          have back : ∀ {H'}, On p q (frz p q H10) H' → On p q G H' := fun h => h.drop g11
          clear on9 on10 kt hX nx nd ne tab s10 hK g11
          generalize frz p q H10 = G2 at on11 tabG back
          refine ⟨_, rfl, x, ks, ts, rfl, tabG.mono on11.le, ok, fun H12 s12 => ?_⟩
          refine ⟨_, rfl, iteF ?_⟩
          refine ⟨_, rfl, _, rfl, p, q, x, G2, ks, ts, rfl, on11.same s12, tabG, ok, m5, by omega, fun H13 on13 => ?_⟩
          refine ⟨_, rfl, iteF ?_⟩
          refine ⟨_, rfl, _, rfl, p, q, x, G2, ks, ts, rfl, on13, tabG, ok, fun H14 on14 => ?_⟩
          refine ⟨_, rfl, iteF ?_⟩
          have on1 := back on14
          clear on11 on13 on14 tabG back ok okT lt okK m1 m5 mt4 s12
          -- the wide table
          refine ⟨_, rfl, by show 3 ≤ sizeLine; decide, fun L nL => ?_⟩
          have fL := on1.free nL
          have on2 := on1.new (o := .lst [.int 12, .int 9, .int 7]) nL
          refine ⟨p, q, L, _, rfl, on2.hd, upd_same, fL.1, fL.2.1, by simp, by show 3 < 1000000; decide, fun H4 v hd4 kp4 hv => ?_⟩
          have on4 := on2.draw hd4 kp4
          obtain ⟨m, rfl, m1, m12⟩ : ∃ m : Nat, v = .int m ∧ 1 ≤ m ∧ m ≤ 12 := by
            simp only [List.mem_cons, List.not_mem_nil, or_false] at hv
            rcases hv with e | e | e
            · exact ⟨12, e, by decide, by decide⟩
            · exact ⟨9, e, by decide, by decide⟩
            · exact ⟨7, e, by decide, by decide⟩
          clear on1 on2 nL fL hd4 kp4 hv
          refine ⟨_, rfl, _, rfl, p, q, m, rfl, on4.hd, m1, m12, fun H7 u ks on7' ku okK lks => ?_⟩
          subst lks
          have on7 := on4.draw on7'.hd on7'.keep
          have ⟨on8, g8⟩ := on7.base
          have hK : SqT K (frz p q H7) u (ks.map V.str) := .inl (.inl (frz_at ku (on7.hd.neOf ku (fun ys z => by cases z))))
          have back : ∀ {H'}, On p q (frz p q H7) H' → On p q G H' := fun h => h.drop g8
          clear on4 on7 on7' ku g8
          generalize frz p q H7 = G1 at on8 hK back
          refine ⟨_, rfl, _, rfl, _, rfl, by show 4 ≤ sizeLine; decide, fun L nL => ?_⟩
          have fL := on8.free nL
          have on9 := on8.new (o := .lst [.int 6, .int 12, .int 4, .int 0]) nL
          refine ⟨p, q, L, _, rfl, on9.hd, upd_same, fL.1, fL.2.1, by simp, by show 4 < 1000000; decide, fun H10 v hd10 kp10 hv => ?_⟩
          have on10 := on9.draw hd10 kp10
          obtain ⟨mt, rfl, mt12⟩ : ∃ m : Nat, v = .int m ∧ m ≤ 12 := by
            simp only [List.mem_cons, List.not_mem_nil, or_false] at hv
            rcases hv with e | e | e | e
            · exact ⟨6, e, by decide⟩
            · exact ⟨12, e, by decide⟩
            · exact ⟨4, e, by decide⟩
            · exact ⟨0, e, by decide⟩
          clear on8 on9 nL fL hd10 kp10 hv
          refine ⟨p, q, ks.length, mt, rfl, on10.hd, m12, mt12, fun H11 t xs ts on11' kt hX lt okT => ?_⟩
          have on11 := on10.draw on11'.hd on11'.keep
          refine fun x dx nx nd ne => tab_made (seqT on11.le hK) okK (sqt kt) hX (by omega) okT nx nd ne fun H12 s12 tab _ => ?_
          have ok : TabOk ks ts := ⟨okK, by omega, okT⟩
          have on12 := back (on11.same s12)
          have ⟨on13, g13⟩ := on12.base
          have tabG := tab.frz on12.hd
          have back : ∀ {H'}, On p q (frz p q H12) H' → On p q G H' := fun h => h.drop g13
          clear on10 on11 on11' on12 kt hX nx nd ne tab s12 hK g13
          generalize frz p q H12 = G2 at on13 tabG back
          refine ⟨_, rfl, x, ks, ts, rfl, tabG.mono on13.le, ok, fun H14 s14 => ?_⟩
          refine ⟨_, rfl, iteF ?_⟩
          refine ⟨_, rfl, _, rfl, p, q, x, G2, ks, ts, rfl, on13.same s14, tabG, ok, fun H15 on15 => ?_⟩
          exact ⟨_, rfl, iteF ⟨⟨_, _, _, _, _, rfl⟩, back on15⟩⟩
        · rintro σ H2 h
          exact h
    rintro σ H2 ⟨⟨y2, y3, y4, y5, y6, rfl⟩, on2⟩
    clear on0 on2 hS
    dsimp only [tSeq, tIfS, tTest, tOp, tCall]
    refine at_cons (at_make (at_cons (lit_strs (cs := kA4) (by decide) fun H3 u s3 ku => ?_)))
    refine at_cons (lit_tots (K := K) (cs := tA4) ⟨by decide, by decide⟩ fun H4 t xs s4 kt hX => ?_)
    refine fun x dx nx nd ne => tab_made (sqt (s4 _ _ ku)) okA4.kinds (sqt kt) hX okA4.len okA4.lots nx nd ne fun H5 s5 tab na => ?_
    refine ⟨x, kA4, tA4, rfl, tab, okA4, fun H6 u us Ps s6 hu hU hPs => ?_⟩
    rw [hPs.uniq pcA4] at hU
    refine lit_tots (K := K) (cs := pA4) ⟨by decide, by decide⟩ fun H7 z zs s7 kz hZ => ?_
    refine ⟨_, _, dp_T1 (seqT s7 hu) (hU.mono s7), dp_T1 (sqt kz) hZ, shp_T1 _, shp_T1 _, _, rfl, ?_⟩
    rw [eqv_T1]
    refine iteF ?_
    clear ku kt hX s3 s4 s5 na nx nd ne tab hPs hu hU kz hZ s6 s7
    dsimp only [tNext]
    refine at_asg (at_make (at_cons (lit_strs (cs := kE) (by decide) fun H8 u s8 ku => ?_)))
    refine at_cons (lit_tots (K := K) (cs := tE) ⟨by decide, by decide⟩ fun H9 t xs s9 kt hX => ?_)
    refine fun x dx nx nd ne => tab_made (sqt (s9 _ _ ku)) okE.kinds (sqt kt) hX okE.len okE.lots nx nd ne fun H10 s10 tab na => ?_
    clear ku kt hX s8 s9 s10 na nx nd ne
    refine ⟨_, rfl, x, kE, tE, rfl, tab, okE, fun H11 u us Ps s11 hu hU hPs => ?_⟩
    rw [hPs.uniq pcE5] at hU
    refine lit_tots (K := K) (cs := pE5) ⟨by decide, by decide⟩ fun H12 z zs s12 kz hZ => ?_
    refine ⟨_, _, dp_T1 (seqT s12 hu) (hU.mono s12), dp_T1 (sqt kz) hZ, shp_T1 _, shp_T1 _, _, rfl, ?_⟩
    rw [eqv_T1]
    refine iteF ?_
    have tab12 := tab.mono (s11.trans s12)
    clear hPs hu hU kz hZ s11 s12 tab
    refine ⟨_, rfl, ?_⟩
    refine lit_ints (cs := [0, 1]) (by decide) fun H13 z s13 kz => ?_
    refine ⟨x, z, kE, tE, [0, 1], rfl, tab12.mono s13, okE, sqt kz, (pcE5.pc (by decide) (by decide)).1, (by decide), fun okN H14 td s14 _ tabN => ?_⟩
    rw [pkE] at tabN okN
    obtain ⟨dt, k1, t1, zs1, hO1, hK1, hS1, hT1⟩ := tabN
    refine ⟨td, C, dt, _, .ref k1, rfl, hO1, TC.c, TC.nk, rfl, ?_⟩
    refine lit_strs (cs := kP3) (by decide) fun H15 z2 s15 kz2 => ?_
    have eS := eqv_S1 okN.kinds.2.2.1
    refine ⟨dS1 kP3, dS1 kP3, .tup (seqT s15 hK1) (dpAll_strs _), .tup (sqt kz2) (dpAll_strs _), eS.2, eS.2, _, rfl, ?_⟩
    rw [eS.1]
    refine iteF ?_
    have tab15 := tab12.mono (s13.trans (s14.trans s15))
    clear tab12 s13 kz s14 hO1 hK1 hS1 hT1 s15 kz2 eS okN
    refine ⟨_, rfl, ?_⟩
    refine lit_ints (cs := [2]) (by decide) fun H16 z s16 kz => ?_
    refine ⟨x, z, kE, tE, [2], rfl, tab15.mono s16, okE, sqt kz, (pcE5.pc (by decide) (by decide)).1, (by decide), fun okN H17 td s17 _ tabN => ?_⟩
    rw [ptE] at tabN okN
    obtain ⟨dt, k1, t1, zs1, hO1, hK1, hS1, hT1⟩ := tabN
    refine ⟨td, C, dt, _, .ref t1, rfl, hO1, TC.c, TC.nt, rfl, ?_⟩
    refine lit_tots (K := K) (cs := [[0]]) ⟨by decide, by decide⟩ fun H18 z2 zs2 s18 kz2 hZ2 => ?_
    refine ⟨_, _, dp_T1 (seqT s18 hS1) (hT1.mono s18), dp_T1 (sqt kz2) hZ2, shp_T1 _, shp_T1 _, _, rfl, ?_⟩
    rw [eqv_T1]
    refine iteF ?_
    clear tab15 s16 kz s17 hO1 hK1 hS1 hT1 s18 kz2 hZ2 okN
    -- odd
    dsimp only [tNext]
    refine at_asg (at_make (at_cons (lit_strs (cs := kO5) (by decide) fun H19 u s19 ku => ?_)))
    refine at_cons (lit_tots (K := K) (cs := tO5) ⟨by decide, by decide⟩ fun H20 t xs s20 kt hX => ?_)
    refine fun x dx nx nd ne => tab_made (sqt (s20 _ _ ku)) okO5.kinds (sqt kt) hX okO5.len okO5.lots nx nd ne fun H21 s21 tab na => ?_
    clear ku kt hX s19 s20 s21 na nx nd ne
    refine ⟨_, rfl, x, kO5, tO5, rfl, tab, okO5, fun H22 u us Ps s22 hu hU hPs => ?_⟩
    rw [hPs.uniq pcO5] at hU
    refine lit_tots (K := K) (cs := pO5) ⟨by decide, by decide⟩ fun H23 z zs s23 kz hZ => ?_
    refine ⟨_, _, dp_T1 (seqT s23 hu) (hU.mono s23), dp_T1 (sqt kz) hZ, shp_T1 _, shp_T1 _, _, rfl, ?_⟩
    rw [eqv_T1]
    refine iteF ?_
    have tab23 := tab.mono (s22.trans s23)
    clear hPs hu hU kz hZ s22 s23 tab
    refine ⟨_, rfl, by show 1 ≤ sizeLine; decide, fun sl nsl => ?_⟩
    generalize eH24 : L2.upd H23 sl _ = H24
    have s24 := same_of nsl eH24
    have ksl := at_of eH24
    clear eH24
    refine ⟨x, sl, kO5, tO5, [3], 3, rfl, tab23.mono s24, okO5, .inl (.inl ksl), by decide, by decide, fun H25 s25 => ?_⟩
    rw [kw1]
    refine ⟨_, rfl, iteF ?_⟩
    have tab25 := tab23.mono (s24.trans s25)
    clear tab23 nsl s24 ksl s25
    refine ⟨_, rfl, x, kO5, tO5, rfl, tab25, okO5, fun ne ls os by_ core => fun H26 y s26 _ tabC => ?_, fun e => absurd e neO5⟩
    refine ⟨by show 1 ≤ sizeLine; decide, fun sl nsl => ?_⟩
    generalize eH27 : L2.upd H26 sl _ = H27
    have s27 := same_of nsl eH27
    have ksl := at_of eH27
    clear eH27
    refine ⟨y, sl, _, os, [3], 3, rfl, tabC.mono s27, core_ok (merged_ok okO5 ne by_) core, .inl (.inl ksl), by decide, by decide +kernel, fun H28 s28 => ?_⟩
    rw [kwc by_ core]
    refine ⟨_, rfl, iteF ?_⟩
    have tab28 := tab25.mono (s26.trans (s27.trans s28))
    clear tab25 nsl s26 s27 ksl s28 tabC
    refine ⟨_, rfl, by show 1 ≤ sizeLine; decide, fun sl nsl => ?_⟩
    generalize eH29 : L2.upd H28 sl _ = H29
    have s29 := same_of nsl eH29
    have ksl := at_of eH29
    clear eH29
    refine ⟨x, sl, kO5, tO5, [3], 2, rfl, tab28.mono s29, okO5, .inl (.inl ksl), by decide, by decide, fun H30 s30 => ?_⟩
    rw [kw2]
    refine ⟨_, rfl, iteF ?_⟩
    have tab30 := tab28.mono (s29.trans s30)
    clear tab28 nsl s29 ksl s30
    -- the end
    refine ⟨_, rfl, ?_⟩
    refine lit_ints (cs := [3]) (by decide) fun H31 z s31 kz => ?_
    refine ⟨x, z, kO5, tO5, [3], rfl, tab30.mono s31, okO5, sqt kz, (pcO5.pc (by decide) (by decide)).1, (by decide), fun okN H32 td s32 _ tabN => ?_⟩
    refine ⟨by show 2 ≤ sizeLine; decide, fun sl nsl => ?_⟩
    generalize eH33 : L2.upd H32 sl _ = H33
    have s33 := same_of nsl eH33
    have ksl := at_of eH33
    clear eH33
    refine ⟨td, sl, _, _, [2, 3], 4, rfl, tabN.mono s33, okN, .inl (.inl ksl), by decide, by decide +kernel, fun H34 s34 => ?_⟩
    rw [kw3]
    refine ⟨_, rfl, iteT ?_⟩
    have tab34 := tab30.mono (s31.trans (s32.trans (s33.trans s34)))
    clear tab30 nsl s31 kz s32 s33 ksl s34 tabN okN
    refine ⟨_, rfl, ?_⟩
    refine lit_ints (cs := [0, 1, 2]) (by decide) fun H35 z s35 kz => ?_
    refine ⟨x, z, kO5, tO5, [0, 1, 2], rfl, tab34.mono s35, okO5, sqt kz, (pcO5.pc (by decide) (by decide)).1, (by decide), fun okN H36 td s36 _ tabN => ?_⟩
    refine ⟨by show 1 ≤ sizeLine; decide, fun sl nsl => ?_⟩
    generalize eH37 : L2.upd H36 sl _ = H37
    have s37 := same_of nsl eH37
    have ksl := at_of eH37
    clear eH37
    refine ⟨td, sl, _, _, [3], 3, rfl, tabN.mono s37, okN, .inl (.inl ksl), by decide, by decide +kernel, fun H38 s38 => ?_⟩
    rw [kw4]
    refine ⟨_, rfl, _, rfl, iteT ?_⟩
    clear tab34 nsl s35 kz s36 s37 ksl s38 tabN okN
    dsimp only [tOp, tCall]
    refine at_cons (at_make (at_cons (lit_strs (cs := kG) (by decide) fun H39 u s39 ku => ?_)))
    refine at_cons (lit_tots (K := K) (cs := tG) ⟨by decide, by decide⟩ fun H40 t xs s40 kt hX => ?_)
    refine fun x dx nx nd ne => tab_made (sqt (s40 _ _ ku)) okG.kinds (sqt kt) hX okG.len okG.lots nx nd ne fun H41 s41 tab na => ?_
    refine ⟨x, kG, tG, rfl, tab, okG, fun H42 u us Ps s42 hu hU hPs => ?_⟩
    rw [hPs.uniq pcG1] at hU
    refine ⟨by show 0 ≤ sizeLine; exact Nat.zero_le _, fun Z nZ => ?_⟩
    generalize eH43 : L2.upd H42 Z _ = H43
    have s43 := same_of nZ eH43
    have kZ := at_of eH43
    clear eH43
    refine ⟨_, .tuple [], dp_T1 (seqT s43 hu) (hU.mono s43), .tup (sqt kZ) .nil, shp_T1 _, shaped_nil2, ?_⟩
    rw [eqvT1_nil, decide_eq_true rfl]
    exact fin H43
end
end K04
namespace K04
open PySem PySem.Spec PyProof.Rows L2 VG FR CK HD M9
abbrev i_InvalidTable : Stmt := inClass (topS 13) 0
abbrev i_Refused : Stmt := inClass (topS 14) 0
abbrev e_Table : Stmt := inClass (topS 18) 1
theorem sc_e_Table : FnScope ["self", "other"] ["self", "other"] (defScope e_Table) := ⟨rfl, rfl, rfl, by decide +kernel, rfl, by decide +kernel, by decide +kernel⟩
section
variable {P : Program} {w : World} {K : PySem.W.Frag} {mg : Str → Option Value} {base : Heap}
theorem ok_eq_Table {f C : Addr} {fd : FuncData} (F : Fun K "__eq__" "Table.__eq__" e_Table f fd) (TC : TabC K C) (m_Table : mg "Table" = some (.ref C)) (isT : ∀ (H : Hp) (a dx : Addr) (fs : List (Str × V)), H a = some (.ins C dx fs) → TyX K H (.ref a) (.ref C)) (kT : PySem.W.kitOne K (.ref C) (.ref C) = some true)
    (z_isinstance : mg "isinstance" = none) : FnOk P w K mg base CX0 1 f fd ["self", "other"] (spEq (TabEq K C)) := by
  refine F.ok sc_e_Table (fun vs H Q E h => ?_) (fun cdv A outer s H vs Q E hr h => ?_)
  · obtain ⟨_, _, rfl, _⟩ := h
    rfl
  · obtain ⟨a, b, rfl, ⟨ks, ts, ⟨dx, k, t, xs, hO, hK, hS, hT⟩, ⟨dy, k2, t2, ys, hO2, hK2, hS2, hT2⟩, hn⟩, fin⟩ := h
    refine ⟨_, (pss_one (ps_ret (pe_and (pe_callB call_isi (by rfl) z_isinstance (by decide +kernel) (pa_cons (pv 1) (pa_cons (pe_glob (v := .ref C) rfl m_Table rfl) pa_nil))) (pe_and (pe_cmpR (op_eqD hr.units) (pe_fld (pv 0) (by rfl)) (pe_fld (pv 1) (by rfl)) (nomark _)) (pe_one (pe_cmpR (op_eqD hr.units) (pe_fld (pv 0) (by rfl)) (pe_fld (pv 1) (by rfl)) (nomark _))))))), ?_⟩
    have g1 := (gd_dS1 hn)
    have g2 := (gd_dT1 ts)
    have e1 : PyData.eqv (dS1 ks) (dS1 ks) = true := SeqAt.eqv_refl _ g1.1
    have e2 : PyData.eqv (dT1 ts) (dT1 ts) = true := SeqAt.eqv_refl _ g2.1
    refine ⟨_, rfl, _, _, _, _, true, rfl, .own C, isT H b dy _ hO2, kT, true, rfl, iteT ?_⟩
    refine ⟨_, rfl, a, C, dx, _, .ref k, rfl, hO, TC.c, TC.nk, rfl, ?_⟩
    refine ⟨_, rfl, b, C, dy, _, .ref k2, rfl, hO2, TC.c, TC.nk, rfl, ?_⟩
    refine ⟨dS1 ks, dS1 ks, .tup hK (dpAll_strs ks), .tup hK2 (dpAll_strs ks), g1.shaped (by decide), g1.shaped (by decide), ?_⟩
    rw [e1]
    refine ⟨true, rfl, iteT ?_⟩
    refine ⟨_, rfl, a, C, dx, _, .ref t, rfl, hO, TC.c, TC.nt, rfl, ?_⟩
    refine ⟨_, rfl, b, C, dy, _, .ref t2, rfl, hO2, TC.c, TC.nt, rfl, ?_⟩
    refine ⟨dT1 ts, dT1 ts, .tup hS (dpAll_tots hT), .tup hS2 (dpAll_tots hT2), g2.shaped (by decide), g2.shaped (by decide), ?_⟩
    rw [e2]
    exact fin H (fun _ _ h => h)
end
theorem sc_initA : FnScope ["self", "at"] ["self", "at"] (defScope i_InvalidTable) := ⟨rfl, rfl, rfl, by decide +kernel, rfl, by decide +kernel, by decide +kernel⟩
theorem sc_initR : FnScope ["self", "word"] ["self", "word"] (defScope i_Refused) := ⟨rfl, rfl, rfl, by decide +kernel, rfl, by decide +kernel, by decide +kernel⟩
section
variable {P : Program} {w : World} {K : PySem.W.Frag} {mg : Str → Option Value} {base : Heap}
theorem ok_initA {f C : Addr} {fd : FuncData} (F : Fun K "__init__" "InvalidTable.__init__" i_InvalidTable f fd) (o : OexC K C) (hw : PySem.W.findIn K (.ref C) "at" = some none) :
    FnOk P w K mg base CX0 1 f fd ["self", "at"] (spInitW K C "at") := by
  refine F.ok sc_initA (fun vs H Q E h => ?_) (fun cdv A outer s H vs Q E hr h => ?_)
  · obtain ⟨_, _, rfl, _⟩ := h
    rfl
  · obtain ⟨a, v, rfl, ha, fin⟩ := h
    refine ⟨_, pss_one (ps_ost (pv 0) (pv 1)), ?_⟩
    exact ⟨_, rfl, _, rfl, a, C, rfl, o, hw, .inl ⟨ha, fun dx n ne => fin dx n ne⟩⟩
theorem ok_initR {f C : Addr} {fd : FuncData} (F : Fun K "__init__" "Refused.__init__" i_Refused f fd) (o : OexC K C) (hw : PySem.W.findIn K (.ref C) "word" = some none) :
    FnOk P w K mg base CX0 1 f fd ["self", "word"] (spInitW K C "word") := by
  refine F.ok sc_initR (fun vs H Q E h => ?_) (fun cdv A outer s H vs Q E hr h => ?_)
  · obtain ⟨_, _, rfl, _⟩ := h
    rfl
  · obtain ⟨a, v, rfl, ha, fin⟩ := h
    refine ⟨_, pss_one (ps_ost (pv 0) (pv 1)), ?_⟩
    exact ⟨_, rfl, _, rfl, a, C, rfl, o, hw, .inl ⟨ha, fun dx n ne => fin dx n ne⟩⟩
theorem kit_own {C D : Addr} {b : Bool} (h1 : PySem.W.isClsIn K D = true) (h2 : PySem.W.typeIn K (.ref D) = some (.type "type")) (h3 : PySem.W.subIn K (.ref C) (.ref D) = some b) (h4 : C = D → b = true) :
    PySem.W.kitOne K (.ref C) (.ref D) = some b := by
  unfold PySem.W.kitOne
  by_cases e : C = D
  · have hb := h4 e
    subst e
    subst hb
    rw [if_pos (by simp)]
  · rw [if_neg (by simp [e])]
    have e1 : (PySem.W.clsIn K D).isSome = true := h1
    show (if ((PySem.W.clsIn K D).isSome && PySem.W.typeIn K (.ref D) == some (.type "type")) = true then PySem.W.subIn K (.ref C) (.ref D) else none) = some b
    rw [e1, h2, h3]
    rfl
end
theorem all_mk {l : PySem.W.OpenLaw} {w : World} {K : PySem.W.Frag} {h : Heap} {mg : Str → Option Value} {fa : Addr} (X : K.In h) (G : h.Ns mainGlobals mg) (hfa : mg "law" = some (.ref fa))
    {f0 f1 f2 f3 f4 f5 f6 f7 f8 f9 f10 f11 f12 f13 f14 f15 f16 f17 f18 f19 f20 f21 f22 f23 f24 f25 f26 f27 f28 f29 f30 f31 f32 f33 f34 f35 f36 f37 f38 f39 : Addr}
    {od0 an0 od1 an1 od2 an2 od3 an3 od4 an4 od5 an5 od6 an6 od7 an7 od8 an8 od9 an9 od10 an10 od11 an11 od12 an12 od13 an13 od14 an14 od15 an15 od16 an16 od17 an17 od18 an18 od19 an19 od20 an20 od21 an21 od22 an22 od23 an23 od24 an24 od25 an25 od26 an26 od27 an27 od28 an28 od29 an29 od30 an30 od31 an31 od32 an32 od33 an33 od34 an34 od35 an35 od36 an36 od37 an37 od38 an38 od39 an39 : Option Addr} {sl0 sl1 sl2 sl3 sl4 sl5 sl6 sl7 sl8 sl9 sl10 sl11 sl12 sl13 sl14 sl15 sl16 sl17 sl18 sl19 sl20 sl21 sl22 sl23 sl24 sl25 sl26 sl27 sl28 sl29 sl30 sl31 sl32 sl33 sl34 sl35 sl36 sl37 sl38 sl39 : Array (Option Value)}
    {oc0 kV0 dc0 pm0 cd0 ct0 oc1 kV1 dc1 pm1 cd1 ct1 oc2 kV2 dc2 pm2 cd2 ct2 oc3 kV3 dc3 pm3 cd3 ct3 oc4 kV4 dc4 pm4 cd4 ct4 oc5 kV5 dc5 pm5 cd5 ct5 oc6 kV6 dc6 pm6 cd6 ct6 oc7 kV7 dc7 pm7 cd7 ct7 oc8 kV8 dc8 pm8 cd8 ct8 oc9 kV9 dc9 pm9 cd9 ct9 oc10 kV10 dc10 pm10 cd10 ct10 oc11 kV11 dc11 pm11 cd11 ct11 oc12 kV12 dc12 pm12 cd12 ct12 oc13 kV13 dc13 pm13 cd13 ct13 oc14 kV14 dc14 pm14 cd14 ct14 oc15 kV15 dc15 pm15 cd15 ct15 oc16 kV16 dc16 pm16 cd16 ct16 oc17 kV17 dc17 pm17 cd17 ct17 oc18 kV18 dc18 pm18 cd18 ct18 oc19 kV19 dc19 pm19 cd19 ct19 oc20 kV20 dc20 pm20 cd20 ct20 oc21 kV21 dc21 pm21 cd21 ct21 oc22 kV22 dc22 pm22 cd22 ct22 oc23 kV23 dc23 pm23 cd23 ct23 oc24 kV24 dc24 pm24 cd24 ct24 oc25 kV25 dc25 pm25 cd25 ct25 oc26 kV26 dc26 pm26 cd26 ct26 oc27 kV27 dc27 pm27 cd27 ct27 oc28 kV28 dc28 pm28 cd28 ct28 oc29 kV29 dc29 pm29 cd29 ct29 oc30 kV30 dc30 pm30 cd30 ct30 oc31 kV31 dc31 pm31 cd31 ct31 oc32 kV32 dc32 pm32 cd32 ct32 oc33 kV33 dc33 pm33 cd33 ct33 oc34 kV34 dc34 pm34 cd34 ct34 oc35 kV35 dc35 pm35 cd35 ct35 oc36 kV36 dc36 pm36 cd36 ct36 oc37 kV37 dc37 pm37 cd37 ct37 oc38 kV38 dc38 pm38 cd38 ct38 oc39 kV39 dc39 pm39 cd39 ct39 : Value}
    (a0 : PySem.W.nsIn K mainGlobals "is_an_integer" = some (some (.ref f0)))
    (l0 : K.lookup f0 = some ⟨oc0, od0, .func (PySem.W.fnOf "is_an_integer" "is_an_integer" (defArgs s_is_an_integer) (defBody s_is_an_integer) (defScope s_is_an_integer) .none kV0 dc0 pm0 an0 cd0 ct0), sl0⟩)
    (c0 : PySem.W.codeIn K cd0 "is_an_integer" = true) (k0 : PySem.W.keepIn K (.ref f0) = true)
    (a1 : PySem.W.nsIn K mainGlobals "is_number" = some (some (.ref f1)))
    (l1 : K.lookup f1 = some ⟨oc1, od1, .func (PySem.W.fnOf "is_number" "is_number" (defArgs s_is_number) (defBody s_is_number) (defScope s_is_number) .none kV1 dc1 pm1 an1 cd1 ct1), sl1⟩)
    (c1 : PySem.W.codeIn K cd1 "is_number" = true) (k1 : PySem.W.keepIn K (.ref f1) = true)
    (a2 : PySem.W.nsIn K mainGlobals "is_number_below" = some (some (.ref f2)))
    (l2 : K.lookup f2 = some ⟨oc2, od2, .func (PySem.W.fnOf "is_number_below" "is_number_below" (defArgs s_is_number_below) (defBody s_is_number_below) (defScope s_is_number_below) .none kV2 dc2 pm2 an2 cd2 ct2), sl2⟩)
    (c2 : PySem.W.codeIn K cd2 "is_number_below" = true) (k2 : PySem.W.keepIn K (.ref f2) = true)
    (a3 : PySem.W.nsIn K mainGlobals "is_name" = some (some (.ref f3)))
    (l3 : K.lookup f3 = some ⟨oc3, od3, .func (PySem.W.fnOf "is_name" "is_name" (defArgs s_is_name) (defBody s_is_name) (defScope s_is_name) .none kV3 dc3 pm3 an3 cd3 ct3), sl3⟩)
    (c3 : PySem.W.codeIn K cd3 "is_name" = true) (k3 : PySem.W.keepIn K (.ref f3) = true)
    (a4 : PySem.W.nsIn K mainGlobals "are_names" = some (some (.ref f4)))
    (l4 : K.lookup f4 = some ⟨oc4, od4, .func (PySem.W.fnOf "are_names" "are_names" (defArgs s_are_names) (defBody s_are_names) (defScope s_are_names) .none kV4 dc4 pm4 an4 cd4 ct4), sl4⟩)
    (c4 : PySem.W.codeIn K cd4 "are_names" = true) (k4 : PySem.W.keepIn K (.ref f4) = true)
    (a5 : PySem.W.nsIn K mainGlobals "are_numbers_below" = some (some (.ref f5)))
    (l5 : K.lookup f5 = some ⟨oc5, od5, .func (PySem.W.fnOf "are_numbers_below" "are_numbers_below" (defArgs s_are_numbers_below) (defBody s_are_numbers_below) (defScope s_are_numbers_below) .none kV5 dc5 pm5 an5 cd5 ct5), sl5⟩)
    (c5 : PySem.W.codeIn K cd5 "are_numbers_below" = true) (k5 : PySem.W.keepIn K (.ref f5) = true)
    (a6 : PySem.W.nsIn K mainGlobals "is_ascending" = some (some (.ref f6)))
    (l6 : K.lookup f6 = some ⟨oc6, od6, .func (PySem.W.fnOf "is_ascending" "is_ascending" (defArgs s_is_ascending) (defBody s_is_ascending) (defScope s_is_ascending) .none kV6 dc6 pm6 an6 cd6 ct6), sl6⟩)
    (c6 : PySem.W.codeIn K cd6 "is_ascending" = true) (k6 : PySem.W.keepIn K (.ref f6) = true)
    (a7 : PySem.W.nsIn K mainGlobals "is_lot_below" = some (some (.ref f7)))
    (l7 : K.lookup f7 = some ⟨oc7, od7, .func (PySem.W.fnOf "is_lot_below" "is_lot_below" (defArgs s_is_lot_below) (defBody s_is_lot_below) (defScope s_is_lot_below) .none kV7 dc7 pm7 an7 cd7 ct7), sl7⟩)
    (c7 : PySem.W.codeIn K cd7 "is_lot_below" = true) (k7 : PySem.W.keepIn K (.ref f7) = true)
    (a8 : PySem.W.nsIn K mainGlobals "check_kinds" = some (some (.ref f8)))
    (l8 : K.lookup f8 = some ⟨oc8, od8, .func (PySem.W.fnOf "check_kinds" "check_kinds" (defArgs s_check_kinds) (defBody s_check_kinds) (defScope s_check_kinds) .none kV8 dc8 pm8 an8 cd8 ct8), sl8⟩)
    (c8 : PySem.W.codeIn K cd8 "check_kinds" = true) (k8 : PySem.W.keepIn K (.ref f8) = true)
    (a9 : PySem.W.nsIn K mainGlobals "check_totals" = some (some (.ref f9)))
    (l9 : K.lookup f9 = some ⟨oc9, od9, .func (PySem.W.fnOf "check_totals" "check_totals" (defArgs s_check_totals) (defBody s_check_totals) (defScope s_check_totals) .none kV9 dc9 pm9 an9 cd9 ct9), sl9⟩)
    (c9 : PySem.W.codeIn K cd9 "check_totals" = true) (k9 : PySem.W.keepIn K (.ref f9) = true)
    (a10 : PySem.W.nsIn K mainGlobals "totals_with" = some (some (.ref f10)))
    (l10 : K.lookup f10 = some ⟨oc10, od10, .func (PySem.W.fnOf "totals_with" "totals_with" (defArgs s_totals_with) (defBody s_totals_with) (defScope s_totals_with) .none kV10 dc10 pm10 an10 cd10 ct10), sl10⟩)
    (c10 : PySem.W.codeIn K cd10 "totals_with" = true) (k10 : PySem.W.keepIn K (.ref f10) = true)
    (a11 : PySem.W.nsIn K mainGlobals "classes_of" = some (some (.ref f11)))
    (l11 : K.lookup f11 = some ⟨oc11, od11, .func (PySem.W.fnOf "classes_of" "classes_of" (defArgs s_classes_of) (defBody s_classes_of) (defScope s_classes_of) .none kV11 dc11 pm11 an11 cd11 ct11), sl11⟩)
    (c11 : PySem.W.codeIn K cd11 "classes_of" = true) (k11 : PySem.W.keepIn K (.ref f11) = true)
    (a12 : PySem.W.nsIn K mainGlobals "class_numbers" = some (some (.ref f12)))
    (l12 : K.lookup f12 = some ⟨oc12, od12, .func (PySem.W.fnOf "class_numbers" "class_numbers" (defArgs s_class_numbers) (defBody s_class_numbers) (defScope s_class_numbers) .none kV12 dc12 pm12 an12 cd12 ct12), sl12⟩)
    (c12 : PySem.W.codeIn K cd12 "class_numbers" = true) (k12 : PySem.W.keepIn K (.ref f12) = true)
    (a13 : PySem.W.nsIn K mainGlobals "totals_by_classes" = some (some (.ref f13)))
    (l13 : K.lookup f13 = some ⟨oc13, od13, .func (PySem.W.fnOf "totals_by_classes" "totals_by_classes" (defArgs s_totals_by_classes) (defBody s_totals_by_classes) (defScope s_totals_by_classes) .none kV13 dc13 pm13 an13 cd13 ct13), sl13⟩)
    (c13 : PySem.W.codeIn K cd13 "totals_by_classes" = true) (k13 : PySem.W.keepIn K (.ref f13) = true)
    (a14 : PySem.W.nsIn K mainGlobals "without_totals" = some (some (.ref f14)))
    (l14 : K.lookup f14 = some ⟨oc14, od14, .func (PySem.W.fnOf "without_totals" "without_totals" (defArgs s_without_totals) (defBody s_without_totals) (defScope s_without_totals) .none kV14 dc14 pm14 an14 cd14 ct14), sl14⟩)
    (c14 : PySem.W.codeIn K cd14 "without_totals" = true) (k14 : PySem.W.keepIn K (.ref f14) = true)
    (a15 : PySem.W.nsIn K mainGlobals "with_total" = some (some (.ref f15)))
    (l15 : K.lookup f15 = some ⟨oc15, od15, .func (PySem.W.fnOf "with_total" "with_total" (defArgs s_with_total) (defBody s_with_total) (defScope s_with_total) .none kV15 dc15 pm15 an15 cd15 ct15), sl15⟩)
    (c15 : PySem.W.codeIn K cd15 "with_total" = true) (k15 : PySem.W.keepIn K (.ref f15) = true)
    (a16 : PySem.W.nsIn K mainGlobals "without_kinds" = some (some (.ref f16)))
    (l16 : K.lookup f16 = some ⟨oc16, od16, .func (PySem.W.fnOf "without_kinds" "without_kinds" (defArgs s_without_kinds) (defBody s_without_kinds) (defScope s_without_kinds) .none kV16 dc16 pm16 an16 cd16 ct16), sl16⟩)
    (c16 : PySem.W.codeIn K cd16 "without_kinds" = true) (k16 : PySem.W.keepIn K (.ref f16) = true)
    (a17 : PySem.W.nsIn K mainGlobals "merged" = some (some (.ref f17)))
    (l17 : K.lookup f17 = some ⟨oc17, od17, .func (PySem.W.fnOf "merged" "merged" (defArgs s_merged) (defBody s_merged) (defScope s_merged) .none kV17 dc17 pm17 an17 cd17 ct17), sl17⟩)
    (c17 : PySem.W.codeIn K cd17 "merged" = true) (k17 : PySem.W.keepIn K (.ref f17) = true)
    (a18 : PySem.W.nsIn K mainGlobals "core_of" = some (some (.ref f18)))
    (l18 : K.lookup f18 = some ⟨oc18, od18, .func (PySem.W.fnOf "core_of" "core_of" (defArgs s_core_of) (defBody s_core_of) (defScope s_core_of) .none kV18 dc18 pm18 an18 cd18 ct18), sl18⟩)
    (c18 : PySem.W.codeIn K cd18 "core_of" = true) (k18 : PySem.W.keepIn K (.ref f18) = true)
    (a19 : PySem.W.nsIn K mainGlobals "meets" = some (some (.ref f19)))
    (l19 : K.lookup f19 = some ⟨oc19, od19, .func (PySem.W.fnOf "meets" "meets" (defArgs s_meets) (defBody s_meets) (defScope s_meets) .none kV19 dc19 pm19 an19 cd19 ct19), sl19⟩)
    (c19 : PySem.W.codeIn K cd19 "meets" = true) (k19 : PySem.W.keepIn K (.ref f19) = true)
    (a20 : PySem.W.nsIn K mainGlobals "piece_from" = some (some (.ref f20)))
    (l20 : K.lookup f20 = some ⟨oc20, od20, .func (PySem.W.fnOf "piece_from" "piece_from" (defArgs s_piece_from) (defBody s_piece_from) (defScope s_piece_from) .none kV20 dc20 pm20 an20 cd20 ct20), sl20⟩)
    (c20 : PySem.W.codeIn K cd20 "piece_from" = true) (k20 : PySem.W.keepIn K (.ref f20) = true)
    (a21 : PySem.W.nsIn K mainGlobals "pieces_of" = some (some (.ref f21)))
    (l21 : K.lookup f21 = some ⟨oc21, od21, .func (PySem.W.fnOf "pieces_of" "pieces_of" (defArgs s_pieces_of) (defBody s_pieces_of) (defScope s_pieces_of) .none kV21 dc21 pm21 an21 cd21 ct21), sl21⟩)
    (c21 : PySem.W.codeIn K cd21 "pieces_of" = true) (k21 : PySem.W.keepIn K (.ref f21) = true)
    (a22 : PySem.W.nsIn K mainGlobals "piece_totals" = some (some (.ref f22)))
    (l22 : K.lookup f22 = some ⟨oc22, od22, .func (PySem.W.fnOf "piece_totals" "piece_totals" (defArgs s_piece_totals) (defBody s_piece_totals) (defScope s_piece_totals) .none kV22 dc22 pm22 an22 cd22 ct22), sl22⟩)
    (c22 : PySem.W.codeIn K cd22 "piece_totals" = true) (k22 : PySem.W.keepIn K (.ref f22) = true)
    (a23 : PySem.W.nsIn K mainGlobals "piece_kinds" = some (some (.ref f23)))
    (l23 : K.lookup f23 = some ⟨oc23, od23, .func (PySem.W.fnOf "piece_kinds" "piece_kinds" (defArgs s_piece_kinds) (defBody s_piece_kinds) (defScope s_piece_kinds) .none kV23 dc23 pm23 an23 cd23 ct23), sl23⟩)
    (c23 : PySem.W.codeIn K cd23 "piece_kinds" = true) (k23 : PySem.W.keepIn K (.ref f23) = true)
    (a24 : PySem.W.nsIn K mainGlobals "piece_table" = some (some (.ref f24)))
    (l24 : K.lookup f24 = some ⟨oc24, od24, .func (PySem.W.fnOf "piece_table" "piece_table" (defArgs s_piece_table) (defBody s_piece_table) (defScope s_piece_table) .none kV24 dc24 pm24 an24 cd24 ct24), sl24⟩)
    (c24 : PySem.W.codeIn K cd24 "piece_table" = true) (k24 : PySem.W.keepIn K (.ref f24) = true)
    (a25 : PySem.W.nsIn K mainGlobals "_law_heap" = some (some (.ref f25)))
    (l25 : K.lookup f25 = some ⟨oc25, od25, .func (PySem.W.fnOf "_law_heap" "_law_heap" (defArgs s__law_heap) (defBody s__law_heap) (defScope s__law_heap) .none kV25 dc25 pm25 an25 cd25 ct25), sl25⟩)
    (c25 : PySem.W.codeIn K cd25 "_law_heap" = true) (k25 : PySem.W.keepIn K (.ref f25) = true)
    (a26 : PySem.W.nsIn K mainGlobals "_law_draw" = some (some (.ref f26)))
    (l26 : K.lookup f26 = some ⟨oc26, od26, .func (PySem.W.fnOf "_law_draw" "_law_draw" (defArgs s__law_draw) (defBody s__law_draw) (defScope s__law_draw) .none kV26 dc26 pm26 an26 cd26 ct26), sl26⟩)
    (c26 : PySem.W.codeIn K cd26 "_law_draw" = true) (k26 : PySem.W.keepIn K (.ref f26) = true)
    (a27 : PySem.W.nsIn K mainGlobals "_law_pick" = some (some (.ref f27)))
    (l27 : K.lookup f27 = some ⟨oc27, od27, .func (PySem.W.fnOf "_law_pick" "_law_pick" (defArgs s__law_pick) (defBody s__law_pick) (defScope s__law_pick) .none kV27 dc27 pm27 an27 cd27 ct27), sl27⟩)
    (c27 : PySem.W.codeIn K cd27 "_law_pick" = true) (k27 : PySem.W.keepIn K (.ref f27) = true)
    (a28 : PySem.W.nsIn K mainGlobals "_law_names" = some (some (.ref f28)))
    (l28 : K.lookup f28 = some ⟨oc28, od28, .func (PySem.W.fnOf "_law_names" "_law_names" (defArgs s__law_names) (defBody s__law_names) (defScope s__law_names) .none kV28 dc28 pm28 an28 cd28 ct28), sl28⟩)
    (c28 : PySem.W.codeIn K cd28 "_law_names" = true) (k28 : PySem.W.keepIn K (.ref f28) = true)
    (a29 : PySem.W.nsIn K mainGlobals "_law_totals" = some (some (.ref f29)))
    (l29 : K.lookup f29 = some ⟨oc29, od29, .func (PySem.W.fnOf "_law_totals" "_law_totals" (defArgs s__law_totals) (defBody s__law_totals) (defScope s__law_totals) .none kV29 dc29 pm29 an29 cd29 ct29), sl29⟩)
    (c29 : PySem.W.codeIn K cd29 "_law_totals" = true) (k29 : PySem.W.keepIn K (.ref f29) = true)
    (a30 : PySem.W.nsIn K mainGlobals "_law_parted" = some (some (.ref f30)))
    (l30 : K.lookup f30 = some ⟨oc30, od30, .func (PySem.W.fnOf "_law_parted" "_law_parted" (defArgs s__law_parted) (defBody s__law_parted) (defScope s__law_parted) .none kV30 dc30 pm30 an30 cd30 ct30), sl30⟩)
    (c30 : PySem.W.codeIn K cd30 "_law_parted" = true) (k30 : PySem.W.keepIn K (.ref f30) = true)
    (a31 : PySem.W.nsIn K mainGlobals "_law_classes" = some (some (.ref f31)))
    (l31 : K.lookup f31 = some ⟨oc31, od31, .func (PySem.W.fnOf "_law_classes" "_law_classes" (defArgs s__law_classes) (defBody s__law_classes) (defScope s__law_classes) .none kV31 dc31 pm31 an31 cd31 ct31), sl31⟩)
    (c31 : PySem.W.codeIn K cd31 "_law_classes" = true) (k31 : PySem.W.keepIn K (.ref f31) = true)
    (a32 : PySem.W.nsIn K mainGlobals "_law_pieces" = some (some (.ref f32)))
    (l32 : K.lookup f32 = some ⟨oc32, od32, .func (PySem.W.fnOf "_law_pieces" "_law_pieces" (defArgs s__law_pieces) (defBody s__law_pieces) (defScope s__law_pieces) .none kV32 dc32 pm32 an32 cd32 ct32), sl32⟩)
    (c32 : PySem.W.codeIn K cd32 "_law_pieces" = true) (k32 : PySem.W.keepIn K (.ref f32) = true)
    (a33 : PySem.W.nsIn K mainGlobals "_law_pieces_right" = some (some (.ref f33)))
    (l33 : K.lookup f33 = some ⟨oc33, od33, .func (PySem.W.fnOf "_law_pieces_right" "_law_pieces_right" (defArgs s__law_pieces_right) (defBody s__law_pieces_right) (defScope s__law_pieces_right) .none kV33 dc33 pm33 an33 cd33 ct33), sl33⟩)
    (c33 : PySem.W.codeIn K cd33 "_law_pieces_right" = true) (k33 : PySem.W.keepIn K (.ref f33) = true)
    (a34 : PySem.W.nsIn K mainGlobals "_law_can" = some (some (.ref f34)))
    (l34 : K.lookup f34 = some ⟨oc34, od34, .func (PySem.W.fnOf "_law_can" "_law_can" (defArgs s__law_can) (defBody s__law_can) (defScope s__law_can) .none kV34 dc34 pm34 an34 cd34 ct34), sl34⟩)
    (c34 : PySem.W.codeIn K cd34 "_law_can" = true) (k34 : PySem.W.keepIn K (.ref f34) = true)
    (a35 : PySem.W.nsIn K mainGlobals "_law_kept" = some (some (.ref f35)))
    (l35 : K.lookup f35 = some ⟨oc35, od35, .func (PySem.W.fnOf "_law_kept" "_law_kept" (defArgs s__law_kept) (defBody s__law_kept) (defScope s__law_kept) .none kV35 dc35 pm35 an35 cd35 ct35), sl35⟩)
    (c35 : PySem.W.codeIn K cd35 "_law_kept" = true) (k35 : PySem.W.keepIn K (.ref f35) = true)
    (a36 : PySem.W.nsIn K mainGlobals "_law_alike" = some (some (.ref f36)))
    (l36 : K.lookup f36 = some ⟨oc36, od36, .func (PySem.W.fnOf "_law_alike" "_law_alike" (defArgs s__law_alike) (defBody s__law_alike) (defScope s__law_alike) .none kV36 dc36 pm36 an36 cd36 ct36), sl36⟩)
    (c36 : PySem.W.codeIn K cd36 "_law_alike" = true) (k36 : PySem.W.keepIn K (.ref f36) = true)
    (a37 : PySem.W.nsIn K mainGlobals "_law_errors" = some (some (.ref f37)))
    (l37 : K.lookup f37 = some ⟨oc37, od37, .func (PySem.W.fnOf "_law_errors" "_law_errors" (defArgs s__law_errors) (defBody s__law_errors) (defScope s__law_errors) .none kV37 dc37 pm37 an37 cd37 ct37), sl37⟩)
    (c37 : PySem.W.codeIn K cd37 "_law_errors" = true) (k37 : PySem.W.keepIn K (.ref f37) = true)
    (a38 : PySem.W.nsIn K mainGlobals "_law_day_right" = some (some (.ref f38)))
    (l38 : K.lookup f38 = some ⟨oc38, od38, .func (PySem.W.fnOf "_law_day_right" "_law_day_right" (defArgs s__law_day_right) (defBody s__law_day_right) (defScope s__law_day_right) .none kV38 dc38 pm38 an38 cd38 ct38), sl38⟩)
    (c38 : PySem.W.codeIn K cd38 "_law_day_right" = true) (k38 : PySem.W.keepIn K (.ref f38) = true)
    (a39 : PySem.W.nsIn K mainGlobals "law" = some (some (.ref f39)))
    (l39 : K.lookup f39 = some ⟨oc39, od39, .func (PySem.W.fnOf "law" "law" (defArgs s_law) (defBody s_law) (defScope s_law) .none kV39 dc39 pm39 an39 cd39 ct39), sl39⟩)
    (c39 : PySem.W.codeIn K cd39 "law" = true) (k39 : PySem.W.keepIn K (.ref f39) = true)
    {Ct CA EA fIA : Addr} {nmA qA : Str} {bsA : List Value} {snA : List Str} {subA : List Value} {abA : Bool} {colA : Option Bool} {ddA : Option Addr} {m0A m1A m2A m3A m5A : Option Value}
    {odIA anIA : Option Addr} {slIA : Array (Option Value)} {ocIA kVIA dcIA pmIA cdIA ctIA : Value}
    (aCA : PySem.W.nsIn K mainGlobals "InvalidTable" = some (some (.ref CA)))
    (xLA : K.lookup CA = some (excClassObj nmA qA CA EA bsA [.ref Ct, .type "ValueError", .type "Exception", .type "BaseException", .type "object"] true snA subA abA colA ddA m0A m1A m2A m3A m5A "ValueError.__new__"))
    (saA : PySem.W.findIn K (.ref CA) "__setattr__" = some (some (.builtin "object.__setattr__"))) (nwA : PySem.W.findIn K (.ref CA) "at" = some none)
    (iIA : PySem.W.findIn K (.ref CA) "__init__" = some (some (.ref fIA))) (tIA : PySem.W.typeIn K (.ref fIA) = some (.type "function"))
    (lIA : K.lookup fIA = some ⟨ocIA, odIA, .func (PySem.W.fnOf "__init__" "InvalidTable.__init__" (defArgs i_InvalidTable) (defBody i_InvalidTable) (defScope i_InvalidTable) .none kVIA dcIA pmIA anIA cdIA ctIA), slIA⟩) (cIA : PySem.W.codeIn K cdIA "InvalidTable.__init__" = true) (kIA : PySem.W.keepIn K (.ref fIA) = true)
    (kCA : PySem.W.keepIn K (.ref CA) = true) (eCA : PySem.W.subIn K (.ref CA) (.type "BaseException") = some true) (tCA : PySem.W.typeIn K (.ref CA) = some (.type "type"))
    {CR ER fIR : Addr} {nmR qR : Str} {bsR : List Value} {snR : List Str} {subR : List Value} {abR : Bool} {colR : Option Bool} {ddR : Option Addr} {m0R m1R m2R m3R m5R : Option Value}
    {odIR anIR : Option Addr} {slIR : Array (Option Value)} {ocIR kVIR dcIR pmIR cdIR ctIR : Value}
    (aCR : PySem.W.nsIn K mainGlobals "Refused" = some (some (.ref CR)))
    (xLR : K.lookup CR = some (excClassObj nmR qR CR ER bsR [.ref Ct, .type "ValueError", .type "Exception", .type "BaseException", .type "object"] true snR subR abR colR ddR m0R m1R m2R m3R m5R "ValueError.__new__"))
    (saR : PySem.W.findIn K (.ref CR) "__setattr__" = some (some (.builtin "object.__setattr__"))) (nwR : PySem.W.findIn K (.ref CR) "word" = some none)
    (iIR : PySem.W.findIn K (.ref CR) "__init__" = some (some (.ref fIR))) (tIR : PySem.W.typeIn K (.ref fIR) = some (.type "function"))
    (lIR : K.lookup fIR = some ⟨ocIR, odIR, .func (PySem.W.fnOf "__init__" "Refused.__init__" (defArgs i_Refused) (defBody i_Refused) (defScope i_Refused) .none kVIR dcIR pmIR anIR cdIR ctIR), slIR⟩) (cIR : PySem.W.codeIn K cdIR "Refused.__init__" = true) (kIR : PySem.W.keepIn K (.ref fIR) = true)
    (kCR : PySem.W.keepIn K (.ref CR) = true) (eCR : PySem.W.subIn K (.ref CR) (.type "BaseException") = some true) (tCR : PySem.W.typeIn K (.ref CR) = some (.type "type"))
    {CT fT fE : Addr} {odT anT odE anE : Option Addr} {slT slE : Array (Option Value)} {ocT kVT dcT pmT cdT ctT ocE kVE dcE pmE cdE ctE : Value}  {tk1 tk2 tk3 tkL : Tok}
    (aT : PySem.W.nsIn K mainGlobals "Table" = some (some (.ref CT)))
    (iT : PySem.W.findIn K (.ref CT) "__init__" = some (some (.ref fT))) (jT : PySem.W.isFn K (.ref fT) = true)
    (lT : K.lookup fT = some ⟨ocT, odT, .func (PySem.W.fnOf "__init__" "Table.__init__" (defArgs i_Table) (defBody i_Table) (defScope i_Table) .none kVT dcT pmT anT cdT ctT), slT⟩) (cT : PySem.W.codeIn K cdT "Table.__init__" = true) (kT : PySem.W.keepIn K (.ref fT) = true)
    (iE : PySem.W.findIn K (.ref CT) "__eq__" = some (some (.ref fE))) (jE : PySem.W.isFn K (.ref fE) = true)
    (lE : K.lookup fE = some ⟨ocE, odE, .func (PySem.W.fnOf "__eq__" "Table.__eq__" (defArgs e_Table) (defBody e_Table) (defScope e_Table) .none kVE dcE pmE anE cdE ctE), slE⟩) (cE : PySem.W.codeIn K cdE "Table.__eq__" = true) (kE : PySem.W.keepIn K (.ref fE) = true)
    (pgT : PySem.W.plainGet K CT Str.empty = true) (hdT : PySem.W.hasDictIn K CT = true) (poT : PySem.W.plainOver K CT = true) (saT : PySem.W.findIn K (.ref CT) "__setattr__" = some (some (.builtin "object.__setattr__"))) (mkT : PySem.W.makesIn K CT = true) (kcT : PySem.W.keepIn K (.ref CT) = true)
    (nkT : PySem.W.findIn K (.ref CT) "kinds" = some none) (ntT : PySem.W.findIn K (.ref CT) "totals" = some none)
    (xn : PySem.W.specialIn K (.builtin "object.__class__") "__get__" = some (some (.builtin "getset_descriptor.__get__"))) (xt : PySem.W.takesIn K (.builtin "object.__class__") = some true)
    (xaT : PySem.W.findIn K (.ref CT) "__class__" = some (some (.builtin "object.__class__"))) (xmT : PySem.W.mroIn K CT (.type "object") = some true) (isT : PySem.W.isClsIn K CT = true) (tyT : PySem.W.typeIn K (.ref CT) = some (.type "type")) (suT : PySem.W.subIn K (.ref CT) (.ref CT) = some true)
    (mL : PySem.W.nsIn K mainGlobals "LETTERS" = some (some (.str cLETTERS tkL))) (m1 : PySem.W.nsIn K mainGlobals "LONGEST_NAME" = some (some (.int 6 tk1)))
    (m2 : PySem.W.nsIn K mainGlobals "MOST_KINDS" = some (some (.int 12 tk2))) (m3 : PySem.W.nsIn K mainGlobals "MOST_TOTALS" = some (some (.int 12 tk3)))
    (z_isinstance : PySem.W.nsIn K mainGlobals "isinstance" = some none)
    (z_int : PySem.W.nsIn K mainGlobals "int" = some none)
    (z_bool : PySem.W.nsIn K mainGlobals "bool" = some none)
    (z_str : PySem.W.nsIn K mainGlobals "str" = some none)
    (z_tuple : PySem.W.nsIn K mainGlobals "tuple" = some none)
    (z_list : PySem.W.nsIn K mainGlobals "list" = some none)
    (z_len : PySem.W.nsIn K mainGlobals "len" = some none)
    (z_abs : PySem.W.nsIn K mainGlobals "abs" = some none)
    (z_range : PySem.W.nsIn K mainGlobals "range" = some none)
    (z_zip : PySem.W.nsIn K mainGlobals "zip" = some none)
    (z_all : PySem.W.nsIn K mainGlobals "all" = some none)
    (z_any : PySem.W.nsIn K mainGlobals "any" = some none)
    (z_sum : PySem.W.nsIn K mainGlobals "sum" = some none)
    (z_repr : PySem.W.nsIn K mainGlobals "repr" = some none)
    (z_enumerate : PySem.W.nsIn K mainGlobals "enumerate" = some none)
    (z_sorted : PySem.W.nsIn K mainGlobals "sorted" = some none)
    (z_set : PySem.W.nsIn K mainGlobals "set" = some none)
    (z_max : PySem.W.nsIn K mainGlobals "max" = some none)
    : ∃ fd : FuncData, (∀ (s : Shared) (v : Value), BindsTo s fd ⟨[v], []⟩ [("script", v)]) ∧ ∀ base : Heap, K.In base → base.Ns mainGlobals mg → FnG l.prog w K mg base 13 fa fd ["script"] (spLaw K) := by
  have e := hfa.symm.trans (PySem.W.mg_of X G a39)
  cases e
  have F0 := fun_mk (st := s_is_an_integer) l0 c0 k0
  have F1 := fun_mk (st := s_is_number) l1 c1 k1
  have F2 := fun_mk (st := s_is_number_below) l2 c2 k2
  have F3 := fun_mk (st := s_is_name) l3 c3 k3
  have F4 := fun_mk (st := s_are_names) l4 c4 k4
  have F5 := fun_mk (st := s_are_numbers_below) l5 c5 k5
  have F6 := fun_mk (st := s_is_ascending) l6 c6 k6
  have F7 := fun_mk (st := s_is_lot_below) l7 c7 k7
  have F8 := fun_mk (st := s_check_kinds) l8 c8 k8
  have F9 := fun_mk (st := s_check_totals) l9 c9 k9
  have F10 := fun_mk (st := s_totals_with) l10 c10 k10
  have F11 := fun_mk (st := s_classes_of) l11 c11 k11
  have F12 := fun_mk (st := s_class_numbers) l12 c12 k12
  have F13 := fun_mk (st := s_totals_by_classes) l13 c13 k13
  have F14 := fun_mk (st := s_without_totals) l14 c14 k14
  have F15 := fun_mk (st := s_with_total) l15 c15 k15
  have F16 := fun_mk (st := s_without_kinds) l16 c16 k16
  have F17 := fun_mk (st := s_merged) l17 c17 k17
  have F18 := fun_mk (st := s_core_of) l18 c18 k18
  have F19 := fun_mk (st := s_meets) l19 c19 k19
  have F20 := fun_mk (st := s_piece_from) l20 c20 k20
  have F21 := fun_mk (st := s_pieces_of) l21 c21 k21
  have F22 := fun_mk (st := s_piece_totals) l22 c22 k22
  have F23 := fun_mk (st := s_piece_kinds) l23 c23 k23
  have F24 := fun_mk (st := s_piece_table) l24 c24 k24
  have F25 := fun_mk (st := s__law_heap) l25 c25 k25
  have F26 := fun_mk (st := s__law_draw) l26 c26 k26
  have F27 := fun_mk (st := s__law_pick) l27 c27 k27
  have F28 := fun_mk (st := s__law_names) l28 c28 k28
  have F29 := fun_mk (st := s__law_totals) l29 c29 k29
  have F30 := fun_mk (st := s__law_parted) l30 c30 k30
  have F31 := fun_mk (st := s__law_classes) l31 c31 k31
  have F32 := fun_mk (st := s__law_pieces) l32 c32 k32
  have F33 := fun_mk (st := s__law_pieces_right) l33 c33 k33
  have F34 := fun_mk (st := s__law_can) l34 c34 k34
  have F35 := fun_mk (st := s__law_kept) l35 c35 k35
  have F36 := fun_mk (st := s__law_alike) l36 c36 k36
  have F37 := fun_mk (st := s__law_errors) l37 c37 k37
  have F38 := fun_mk (st := s__law_day_right) l38 c38 k38
  have F39 := fun_mk (st := s_law) l39 c39 k39
  have FIA := fun_mk (st := i_InvalidTable) lIA cIA kIA
  have FIR := fun_mk (st := i_Refused) lIR cIR kIR
  have FT := fun_mk (st := i_Table) lT cT kT
  have FE := fun_mk (st := e_Table) lE cE kE
  have b0 := F0.binds (ps := ["value"]) fun _ _ _ _ _ _ us hl => match us, hl with | [_], _ => rfl
  have g0 := PySem.W.mg_of X G a0
  have b1 := F1.binds (ps := ["value"]) fun _ _ _ _ _ _ us hl => match us, hl with | [_], _ => rfl
  have g1 := PySem.W.mg_of X G a1
  have b2 := F2.binds (ps := ["value", "many"]) fun _ _ _ _ _ _ us hl => match us, hl with | [_, _], _ => rfl
  have g2 := PySem.W.mg_of X G a2
  have b3 := F3.binds (ps := ["value"]) fun _ _ _ _ _ _ us hl => match us, hl with | [_], _ => rfl
  have g3 := PySem.W.mg_of X G a3
  have b4 := F4.binds (ps := ["value"]) fun _ _ _ _ _ _ us hl => match us, hl with | [_], _ => rfl
  have g4 := PySem.W.mg_of X G a4
  have b5 := F5.binds (ps := ["value", "many"]) fun _ _ _ _ _ _ us hl => match us, hl with | [_, _], _ => rfl
  have g5 := PySem.W.mg_of X G a5
  have b6 := F6.binds (ps := ["some"]) fun _ _ _ _ _ _ us hl => match us, hl with | [_], _ => rfl
  have g6 := PySem.W.mg_of X G a6
  have b7 := F7.binds (ps := ["value", "many"]) fun _ _ _ _ _ _ us hl => match us, hl with | [_, _], _ => rfl
  have g7 := PySem.W.mg_of X G a7
  have b8 := F8.binds (ps := ["kinds"]) fun _ _ _ _ _ _ us hl => match us, hl with | [_], _ => rfl
  have g8 := PySem.W.mg_of X G a8
  have b9 := F9.binds (ps := ["totals", "many"]) fun _ _ _ _ _ _ us hl => match us, hl with | [_, _], _ => rfl
  have g9 := PySem.W.mg_of X G a9
  have b10 := F10.binds (ps := ["table", "kind"]) fun _ _ _ _ _ _ us hl => match us, hl with | [_, _], _ => rfl
  have g10 := PySem.W.mg_of X G a10
  have b11 := F11.binds (ps := ["table"]) fun _ _ _ _ _ _ us hl => match us, hl with | [_], _ => rfl
  have g11 := PySem.W.mg_of X G a11
  have b12 := F12.binds (ps := ["table"]) fun _ _ _ _ _ _ us hl => match us, hl with | [_], _ => rfl
  have g12 := PySem.W.mg_of X G a12
  have b13 := F13.binds (ps := ["table"]) fun _ _ _ _ _ _ us hl => match us, hl with | [_], _ => rfl
  have g13 := PySem.W.mg_of X G a13
  have b14 := F14.binds (ps := ["table", "totals"]) fun _ _ _ _ _ _ us hl => match us, hl with | [_, _], _ => rfl
  have g14 := PySem.W.mg_of X G a14
  have b15 := F15.binds (ps := ["table", "total"]) fun _ _ _ _ _ _ us hl => match us, hl with | [_, _], _ => rfl
  have g15 := PySem.W.mg_of X G a15
  have b16 := F16.binds (ps := ["table", "kinds"]) fun _ _ _ _ _ _ us hl => match us, hl with | [_, _], _ => rfl
  have g16 := PySem.W.mg_of X G a16
  have b17 := F17.binds (ps := ["table"]) fun _ _ _ _ _ _ us hl => match us, hl with | [_], _ => rfl
  have g17 := PySem.W.mg_of X G a17
  have b18 := F18.binds (ps := ["table"]) fun _ _ _ _ _ _ us hl => match us, hl with | [_], _ => rfl
  have g18 := PySem.W.mg_of X G a18
  have b19 := F19.binds (ps := ["total", "piece"]) fun _ _ _ _ _ _ us hl => match us, hl with | [_, _], _ => rfl
  have g19 := PySem.W.mg_of X G a19
  have b20 := F20.binds (ps := ["totals", "start"]) fun _ _ _ _ _ _ us hl => match us, hl with | [_, _], _ => rfl
  have g20 := PySem.W.mg_of X G a20
  have b21 := F21.binds (ps := ["table"]) fun _ _ _ _ _ _ us hl => match us, hl with | [_], _ => rfl
  have g21 := PySem.W.mg_of X G a21
  have b22 := F22.binds (ps := ["table", "piece"]) fun _ _ _ _ _ _ us hl => match us, hl with | [_, _], _ => rfl
  have g22 := PySem.W.mg_of X G a22
  have b23 := F23.binds (ps := ["table", "piece"]) fun _ _ _ _ _ _ us hl => match us, hl with | [_, _], _ => rfl
  have g23 := PySem.W.mg_of X G a23
  have b24 := F24.binds (ps := ["table", "piece"]) fun _ _ _ _ _ _ us hl => match us, hl with | [_, _], _ => rfl
  have g24 := PySem.W.mg_of X G a24
  have b25 := F25.binds (ps := ["script"]) fun _ _ _ _ _ _ us hl => match us, hl with | [_], _ => rfl
  have g25 := PySem.W.mg_of X G a25
  have b26 := F26.binds (ps := ["heap", "many"]) fun _ _ _ _ _ _ us hl => match us, hl with | [_, _], _ => rfl
  have g26 := PySem.W.mg_of X G a26
  have b27 := F27.binds (ps := ["heap", "some"]) fun _ _ _ _ _ _ us hl => match us, hl with | [_, _], _ => rfl
  have g27 := PySem.W.mg_of X G a27
  have b28 := F28.binds (ps := ["heap", "many"]) fun _ _ _ _ _ _ us hl => match us, hl with | [_, _], _ => rfl
  have g28 := PySem.W.mg_of X G a28
  have b29 := F29.binds (ps := ["heap", "kinds", "many"]) fun _ _ _ _ _ _ us hl => match us, hl with | [_, _, _], _ => rfl
  have g29 := PySem.W.mg_of X G a29
  have b30 := F30.binds (ps := ["heap", "kinds", "many"]) fun _ _ _ _ _ _ us hl => match us, hl with | [_, _, _], _ => rfl
  have g30 := PySem.W.mg_of X G a30
  have b31 := F31.binds (ps := ["kinds", "totals"]) fun _ _ _ _ _ _ us hl => match us, hl with | [_, _], _ => rfl
  have g31 := PySem.W.mg_of X G a31
  have b32 := F32.binds (ps := ["lots", "many"]) fun _ _ _ _ _ _ us hl => match us, hl with | [_, _], _ => rfl
  have g32 := PySem.W.mg_of X G a32
  have b33 := F33.binds (ps := ["table"]) fun _ _ _ _ _ _ us hl => match us, hl with | [_], _ => rfl
  have g33 := PySem.W.mg_of X G a33
  have b34 := F34.binds (ps := ["rows", "steps", "state", "left", "known"]) fun _ _ _ _ _ _ us hl => match us, hl with | [_, _, _, _, _], _ => rfl
  have g34 := PySem.W.mg_of X G a34
  have b35 := F35.binds (ps := ["table", "steps", "length"]) fun _ _ _ _ _ _ us hl => match us, hl with | [_, _, _], _ => rfl
  have g35 := PySem.W.mg_of X G a35
  have b36 := F36.binds (ps := ["heap", "table"]) fun _ _ _ _ _ _ us hl => match us, hl with | [_, _], _ => rfl
  have g36 := PySem.W.mg_of X G a36
  have b37 := F37.binds (ps := ["table", "lines"]) fun _ _ _ _ _ _ us hl => match us, hl with | [_, _], _ => rfl
  have g37 := PySem.W.mg_of X G a37
  have b38 := F38.binds (ps := ["heap", "table"]) fun _ _ _ _ _ _ us hl => match us, hl with | [_, _], _ => rfl
  have g38 := PySem.W.mg_of X G a38
  have bIA := FIA.binds (ps := ["self", "at"]) fun _ _ _ _ _ _ us hl => match us, hl with | [_, _], _ => rfl
  have bIR := FIR.binds (ps := ["self", "word"]) fun _ _ _ _ _ _ us hl => match us, hl with | [_, _], _ => rfl
  have bT := FT.binds (ps := ["self", "kinds", "totals"]) fun _ _ _ _ _ _ us hl => match us, hl with | [_, _, _], _ => rfl
  have bE := FE.binds (ps := ["self", "other"]) fun _ _ _ _ _ _ us hl => match us, hl with | [_, _], _ => rfl
  have kb21 := kbinds_one (p := "table") F21 (fun _ _ _ _ _ _ _ => rfl) (fun _ _ _ _ _ _ _ => rfl)
  have kr22 := kbinds_rev (p1 := "table") (p2 := "piece") F22 (fun _ _ _ _ _ _ _ _ => rfl) (fun _ _ _ _ _ _ _ _ => rfl) (fun _ _ _ _ _ _ _ _ => rfl)
  have kr23 := kbinds_rev (p1 := "table") (p2 := "piece") F23 (fun _ _ _ _ _ _ _ _ => rfl) (fun _ _ _ _ _ _ _ _ => rfl) (fun _ _ _ _ _ _ _ _ => rfl)
  have kr24 := kbinds_rev (p1 := "table") (p2 := "piece") F24 (fun _ _ _ _ _ _ _ _ => rfl) (fun _ _ _ _ _ _ _ _ => rfl) (fun _ _ _ _ _ _ _ _ => rfl)
  have y_isinstance := PySem.W.mg_none_of X G z_isinstance
  have y_int := PySem.W.mg_none_of X G z_int
  have y_bool := PySem.W.mg_none_of X G z_bool
  have y_str := PySem.W.mg_none_of X G z_str
  have y_tuple := PySem.W.mg_none_of X G z_tuple
  have y_list := PySem.W.mg_none_of X G z_list
  have y_len := PySem.W.mg_none_of X G z_len
  have y_abs := PySem.W.mg_none_of X G z_abs
  have y_range := PySem.W.mg_none_of X G z_range
  have y_zip := PySem.W.mg_none_of X G z_zip
  have y_all := PySem.W.mg_none_of X G z_all
  have y_any := PySem.W.mg_none_of X G z_any
  have y_sum := PySem.W.mg_none_of X G z_sum
  have y_repr := PySem.W.mg_none_of X G z_repr
  have y_enumerate := PySem.W.mg_none_of X G z_enumerate
  have y_sorted := PySem.W.mg_none_of X G z_sorted
  have y_set := PySem.W.mg_none_of X G z_set
  have y_max := PySem.W.mg_none_of X G z_max
  have gL := PySem.W.mg_of X G mL
  have gm1 := PySem.W.mg_of X G m1
  have gm2 := PySem.W.mg_of X G m2
  have gm3 := PySem.W.mg_of X G m3
  have oA : OexC K CA := ⟨⟨nmA, qA, EA, bsA, _, snA, subA, abA, colA, ddA, m0A, m1A, m2A, m3A, m5A, xLA, rfl⟩, saA, eCA, tCA, kCA⟩
  have eA : ErrC K mg "InvalidTable" CA fIA := ⟨PySem.W.mg_of X G aCA, oA, iIA, tIA⟩
  have oR : OexC K CR := ⟨⟨nmR, qR, ER, bsR, _, snR, subR, abR, colR, ddR, m0R, m1R, m2R, m3R, m5R, xLR, rfl⟩, saR, eCR, tCR, kCR⟩
  have eR : ErrC K mg "Refused" CR fIR := ⟨PySem.W.mg_of X G aCR, oR, iIR, tIR⟩
  have TC : TabC K CT := ⟨⟨pgT, hdT, poT, saT⟩, nkT, ntT⟩
  have gT := PySem.W.mg_of X G aT
  have tyX : ∀ (H : Hp) (a dx : Addr) (fs : List (Str × V)), H a = some (.ins CT dx fs) → TyX K H (.ref a) (.ref CT) := fun H a dx fs z => .base (.ins z TC.c xaT xn xt xmT)
  have kTT : PySem.W.kitOne K (.ref CT) (.ref CT) = some true := kit_own isT tyT suT (fun _ => rfl)
  refine ⟨PySem.W.fnOf "law" "law" (defArgs s_law) (defBody s_law) (defScope s_law) .none kV39 dc39 pm39 an39 cd39 ct39, fun s v => .of_eq rfl, fun base _ _ => ?_⟩
  have T_is_an_integer := (ok_is_an_integer F0 y_isinstance y_int y_bool : FnOk l.prog w K mg base CX0 1 _ _ _ (spInt K))
  have C_is_an_integer : Cl l.prog w K mg base 1 "is_an_integer" (spInt K) := ⟨⟨f0, _, _, T_is_an_integer, g0, F0.kp, b0⟩⟩
  have T_is_number := (ok_is_number F1 C_is_an_integer : FnOk l.prog w K mg base CX0 2 _ _ _ (spNum K))
  have C_is_number : Cl l.prog w K mg base 2 "is_number" (spNum K) := ⟨⟨f1, _, _, T_is_number, g1, F1.kp, b1⟩⟩
  have T_is_number_below := (ok_is_number_below F2 C_is_number : FnOk l.prog w K mg base CX0 3 _ _ _ spBelow)
  have C_is_number_below : Cl l.prog w K mg base 3 "is_number_below" spBelow := ⟨⟨f2, _, _, T_is_number_below, g2, F2.kp, b2⟩⟩
  have T_are_numbers_below := (ok_are_numbers_below F5 C_is_number_below y_isinstance y_tuple y_all : FnOk l.prog w K mg base CX0 4 _ _ _ (spNumsBelow K))
  have C_are_numbers_below : Cl l.prog w K mg base 4 "are_numbers_below" (spNumsBelow K) := ⟨⟨f5, _, _, T_are_numbers_below, g5, F5.kp, b5⟩⟩
  have T_is_ascending := (ok_is_ascending F6 y_all y_zip : FnOk l.prog w K mg base CX0 1 _ _ _ (spAsc K))
  have C_is_ascending : Cl l.prog w K mg base 1 "is_ascending" (spAsc K) := ⟨⟨f6, _, _, T_is_ascending, g6, F6.kp, b6⟩⟩
  have T_is_lot_below := (ok_is_lot_below F7 C_are_numbers_below C_is_ascending : FnOk l.prog w K mg base CX0 5 _ _ _ (spLot K))
  have C_is_lot_below : Cl l.prog w K mg base 5 "is_lot_below" (spLot K) := ⟨⟨f7, _, _, T_is_lot_below, g7, F7.kp, b7⟩⟩
  have TXt : FnOk l.prog w K mg base (L2.CX l.prog w) 6 _ _ _ (spCheckTotals K) := ok_check_totals F9 C_is_lot_below gm3 eA (ok_initA FIA oA nwA) bIA y_isinstance y_tuple y_len y_enumerate
  have T_check_totals := (fn_calm TXt : FnOk l.prog w K mg base CX0 6 _ _ _ (fun vs H Q _ => spCheckTotals K vs H Q E0))
  have C_check_totals : Cl l.prog w K mg base 6 "check_totals" (fun vs H Q _ => spCheckTotals K vs H Q E0) := ⟨⟨f9, _, _, T_check_totals, g9, F9.kp, b9⟩⟩
  have T_is_name := (ok_is_name F3 ⟨_, gL⟩ gm1 y_isinstance y_str y_len y_all : FnOk l.prog w K mg base CX0 1 _ _ _ spName)
  have C_is_name : Cl l.prog w K mg base 1 "is_name" spName := ⟨⟨f3, _, _, T_is_name, g3, F3.kp, b3⟩⟩
  have T_are_names := (ok_are_names F4 C_is_name y_isinstance y_tuple y_all : FnOk l.prog w K mg base CX0 2 _ _ _ (spNames K))
  have C_are_names : Cl l.prog w K mg base 2 "are_names" (spNames K) := ⟨⟨f4, _, _, T_are_names, g4, F4.kp, b4⟩⟩
  have TXk : FnOk l.prog w K mg base (L2.CX l.prog w) 3 _ _ _ (spCheckKinds K) := ok_check_kinds F8 C_are_names C_is_ascending gm2 eA (ok_initA FIA oA nwA) bIA y_isinstance y_tuple y_len
  have T_check_kinds := (fn_calm TXk : FnOk l.prog w K mg base CX0 3 _ _ _ (fun vs H Q _ => spCheckKinds K vs H Q E0))
  have C_check_kinds : Cl l.prog w K mg base 3 "check_kinds" (fun vs H Q _ => spCheckKinds K vs H Q E0) := ⟨⟨f8, _, _, T_check_kinds, g8, F8.kp, b8⟩⟩
  have T_Table : MkT l.prog w K mg base 7 "Table" CT (spInitT K CT) := ⟨⟨fT, _, _, ⟨mkT, iT, jT, kcT⟩, ok_init_Table FT TC C_check_kinds C_check_totals y_len, gT, bT⟩⟩
  have EQ : EqC l.prog w K mg base CT := ⟨⟨fE, _, ok_eq_Table FE TC gT tyX kTT y_isinstance, iE, jE, bE⟩⟩
  have T_totals_with := (ok_totals_with F10 TC y_enumerate y_tuple : FnOk l.prog w K mg base CX0 1 _ _ _ (spTotalsWith K CT))
  have C_totals_with : Cl l.prog w K mg base 1 "totals_with" (spTotalsWith K CT) := ⟨⟨f10, _, _, T_totals_with, g10, F10.kp, b10⟩⟩
  have T_classes_of := (ok_classes_of F11 TC C_totals_with y_range y_len y_tuple : FnOk l.prog w K mg base CX0 2 _ _ _ (spClasses K CT))
  have C_classes_of : Cl l.prog w K mg base 2 "classes_of" (spClasses K CT) := ⟨⟨f11, _, _, T_classes_of, g11, F11.kp, b11⟩⟩
  have T_class_numbers := (ok_class_numbers F12 TC C_classes_of y_enumerate y_range y_len y_tuple : FnOk l.prog w K mg base CX0 3 _ _ _ (spNumbers K CT))
  have C_class_numbers : Cl l.prog w K mg base 3 "class_numbers" (spNumbers K CT) := ⟨⟨f12, _, _, T_class_numbers, g12, F12.kp, b12⟩⟩
  have T_totals_by_classes := (ok_totals_by_classes2 F13 TC C_class_numbers y_tuple y_sorted y_set : FnOk l.prog w K mg base CX0 4 _ _ _ (spTBC2 K CT))
  have C_totals_by_classes : Cl l.prog w K mg base 4 "totals_by_classes" (spTBC2 K CT) := ⟨⟨f13, _, _, T_totals_by_classes, g13, F13.kp, b13⟩⟩
  have TA_is_number := (ok_is_numberA F1 C_is_an_integer : FnOk l.prog w K mg base CX0 2 _ _ _ (spNumA K))
  have CA_is_number : Cl l.prog w K mg base 2 "is_number" (spNumA K) := ⟨⟨f1, _, _, TA_is_number, g1, F1.kp, b1⟩⟩
  have TA_is_number_below := (ok_is_number_belowA F2 CA_is_number : FnOk l.prog w K mg base CX0 3 _ _ _ (spBelowA K))
  have CA_is_number_below : Cl l.prog w K mg base 3 "is_number_below" (spBelowA K) := ⟨⟨f2, _, _, TA_is_number_below, g2, F2.kp, b2⟩⟩
  have TA_are_numbers_below := (ok_are_numbers_belowA F5 CA_is_number_below y_isinstance y_tuple y_all : FnOk l.prog w K mg base CX0 4 _ _ _ (spNumsA K))
  have CA_are_numbers_below : Cl l.prog w K mg base 4 "are_numbers_below" (spNumsA K) := ⟨⟨f5, _, _, TA_are_numbers_below, g5, F5.kp, b5⟩⟩
  have TA_is_ascending := (ok_is_ascendingA F6 y_all y_zip : FnOk l.prog w K mg base CX0 1 _ _ _ (spAscA K))
  have CA_is_ascending : Cl l.prog w K mg base 1 "is_ascending" (spAscA K) := ⟨⟨f6, _, _, TA_is_ascending, g6, F6.kp, b6⟩⟩
  have TA_is_lot_below := (ok_is_lot_belowA F7 CA_are_numbers_below CA_is_ascending : FnOk l.prog w K mg base CX0 5 _ _ _ (spLotA K))
  have CA_is_lot_below : Cl l.prog w K mg base 5 "is_lot_below" (spLotA K) := ⟨⟨f7, _, _, TA_is_lot_below, g7, F7.kp, b7⟩⟩
  have T_without_totals := (ok_without_totals F14 TC T_Table y_enumerate y_tuple : FnOk l.prog w K mg base CX0 9 _ _ _ (spWithout K CT))
  have C_without_totals : Cl l.prog w K mg base 9 "without_totals" (spWithout K CT) := ⟨⟨f14, _, _, T_without_totals, g14, F14.kp, b14⟩⟩
  have iR := (ok_initR FIR oR nwR : FnOk l.prog w K mg base CX0 1 _ _ _ (spInitW K CR "word"))
  have TX_with_total : FnOk l.prog w K mg base (L2.CX l.prog w) 9 _ _ _ (spWith K CT CR) := ok_with_total F15 TC T_Table CA_is_lot_below eR iR bIR gm3 y_len
  have X_with_total : ClX l.prog w K mg base 9 "with_total" (spWith K CT CR) := ⟨⟨f15, _, _, TX_with_total, g15, F15.kp, b15⟩⟩
  have T_with_total := (fn_calm TX_with_total : FnOk l.prog w K mg base CX0 9 _ _ _ (fun vs H Q _ => spWith K CT CR vs H Q E0))
  have C_with_total : Cl l.prog w K mg base 9 "with_total" (fun vs H Q _ => spWith K CT CR vs H Q E0) := ⟨⟨f15, _, _, T_with_total, g15, F15.kp, b15⟩⟩
  have TX_without_kinds : FnOk l.prog w K mg base (L2.CX l.prog w) 9 _ _ _ (spLess2 K CT CR) := ok_without_kinds F16 TC T_Table eR iR bIR y_len y_range y_tuple
  have X_without_kinds : ClX l.prog w K mg base 9 "without_kinds" (spLess2 K CT CR) := ⟨⟨f16, _, _, TX_without_kinds, g16, F16.kp, b16⟩⟩
  have T_without_kinds := (fn_calm TX_without_kinds : FnOk l.prog w K mg base CX0 9 _ _ _ (fun vs H Q _ => spLess2 K CT CR vs H Q E0))
  have C_without_kinds : Cl l.prog w K mg base 9 "without_kinds" (fun vs H Q _ => spLess2 K CT CR vs H Q E0) := ⟨⟨f16, _, _, T_without_kinds, g16, F16.kp, b16⟩⟩
  have TX_merged : FnOk l.prog w K mg base (L2.CX l.prog w) 9 _ _ _ (spMerged K CT CR) := ok_merged F17 TC T_Table C_classes_of C_totals_by_classes eR iR bIR y_tuple
  have X_merged : ClX l.prog w K mg base 9 "merged" (spMerged K CT CR) := ⟨⟨f17, _, _, TX_merged, g17, F17.kp, b17⟩⟩
  have T_merged := (fn_calm TX_merged : FnOk l.prog w K mg base CX0 9 _ _ _ (fun vs H Q _ => spMerged K CT CR vs H Q E0))
  have C_merged : Cl l.prog w K mg base 9 "merged" (fun vs H Q _ => spMerged K CT CR vs H Q E0) := ⟨⟨f17, _, _, T_merged, g17, F17.kp, b17⟩⟩
  have TX_core_of : FnOk l.prog w K mg base (L2.CX l.prog w) 11 _ _ _ (spCore K CT CR) := ok_core_of F18 TC T_Table X_merged y_tuple y_sorted y_set
  have X_core_of : ClX l.prog w K mg base 11 "core_of" (spCore K CT CR) := ⟨⟨f18, _, _, TX_core_of, g18, F18.kp, b18⟩⟩
  have T_core_of := (fn_calm TX_core_of : FnOk l.prog w K mg base CX0 11 _ _ _ (fun vs H Q _ => spCore K CT CR vs H Q E0))
  have C_core_of : Cl l.prog w K mg base 11 "core_of" (fun vs H Q _ => spCore K CT CR vs H Q E0) := ⟨⟨f18, _, _, T_core_of, g18, F18.kp, b18⟩⟩
  have T_meets := (ok_meets F19 y_any : FnOk l.prog w K mg base CX0 1 _ _ _ (spMeets K))
  have C_meets : Cl l.prog w K mg base 1 "meets" (spMeets K) := ⟨⟨f19, _, _, T_meets, g19, F19.kp, b19⟩⟩
  have T_piece_from := (ok_piece_from F20 C_meets y_tuple y_sorted y_set y_list : FnOk l.prog w K mg base CX0 2 _ _ _ (spPieceFrom K))
  have C_piece_from : Cl l.prog w K mg base 2 "piece_from" (spPieceFrom K) := ⟨⟨f20, _, _, T_piece_from, g20, F20.kp, b20⟩⟩
  have T_pieces_of := (ok_pieces_of F21 C_totals_by_classes C_classes_of C_piece_from y_len y_range y_tuple y_sorted y_set : FnOk l.prog w K mg base CX0 5 _ _ _ (spPiecesOf K CT))
  have C_pieces_of : Cl l.prog w K mg base 5 "pieces_of" (spPiecesOf K CT) := ⟨⟨f21, _, _, T_pieces_of, g21, F21.kp, b21⟩⟩
  have CK_pieces_of_table : ClK l.prog w K mg base 5 "pieces_of" ["table"] (spPiecesOf K CT) := ⟨⟨f21, _, _, T_pieces_of, g21, F21.kp, kb21⟩⟩
  have T_piece_totals := (ok_piece_totals F22 C_totals_by_classes C_meets y_tuple y_enumerate : FnOk l.prog w K mg base CX0 5 _ _ _ (spPieceTots K CT))
  have C_piece_totals : Cl l.prog w K mg base 5 "piece_totals" (spPieceTots K CT) := ⟨⟨f22, _, _, T_piece_totals, g22, F22.kp, b22⟩⟩
  have CR_piece_totals : ClR l.prog w K mg base 5 "piece_totals" ["piece", "table"] (spPieceTots K CT) := ⟨⟨f22, _, _, T_piece_totals, g22, F22.kp, kr22⟩⟩
  have T_piece_kinds := (ok_piece_kinds F23 C_classes_of y_tuple y_sorted : FnOk l.prog w K mg base CX0 3 _ _ _ (spPieceKds K CT))
  have C_piece_kinds : Cl l.prog w K mg base 3 "piece_kinds" (spPieceKds K CT) := ⟨⟨f23, _, _, T_piece_kinds, g23, F23.kp, b23⟩⟩
  have CR_piece_kinds : ClR l.prog w K mg base 3 "piece_kinds" ["piece", "table"] (spPieceKds K CT) := ⟨⟨f23, _, _, T_piece_kinds, g23, F23.kp, kr23⟩⟩
  have T_piece_table := (ok_piece_table F24 TC C_piece_kinds C_piece_totals C_without_kinds C_without_totals y_len y_range y_tuple : FnOk l.prog w K mg base CX0 10 _ _ _ (spPieceTab K CT))
  have C_piece_table : Cl l.prog w K mg base 10 "piece_table" (spPieceTab K CT) := ⟨⟨f24, _, _, T_piece_table, g24, F24.kp, b24⟩⟩
  have CR_piece_table : ClR l.prog w K mg base 10 "piece_table" ["piece", "table"] (spPieceTab K CT) := ⟨⟨f24, _, _, T_piece_table, g24, F24.kp, kr24⟩⟩
  have T__law_heap := (ok__law_heapF F25 y_int y_abs : FnOk l.prog w K mg base CX0 1 _ _ _ (spHeapF K))
  have C__law_heap : Cl l.prog w K mg base 1 "_law_heap" (spHeapF K) := ⟨⟨f25, _, _, T__law_heap, g25, F25.kp, b25⟩⟩
  have T__law_draw := (ok__law_draw F26 y_int : FnOk l.prog w K mg base CX0 1 _ _ _ spDraw)
  have C__law_draw : Cl l.prog w K mg base 1 "_law_draw" spDraw := ⟨⟨f26, _, _, T__law_draw, g26, F26.kp, b26⟩⟩
  have T__law_pick := (ok__law_pick F27 C__law_draw y_len : FnOk l.prog w K mg base CX0 2 _ _ _ (spPick K))
  have C__law_pick : Cl l.prog w K mg base 2 "_law_pick" (spPick K) := ⟨⟨f27, _, _, T__law_pick, g27, F27.kp, b27⟩⟩
  have TP__law_pick := (ok__law_pickT F27 C__law_draw y_len : FnOk l.prog w K mg base CX0 2 _ _ _ (spPickT K))
  have C__law_pickT : Cl l.prog w K mg base 2 "_law_pick" (spPickT K) := ⟨⟨f27, _, _, TP__law_pick, g27, F27.kp, b27⟩⟩
  have T__law_names := (ok__law_names F28 C__law_draw C__law_pick y_len y_int y_range y_tuple y_sorted : FnOk l.prog w K mg base CX0 3 _ _ _ (spLawNames K))
  have C__law_names : Cl l.prog w K mg base 3 "_law_names" (spLawNames K) := ⟨⟨f28, _, _, T__law_names, g28, F28.kp, b28⟩⟩
  have T__law_totals := (ok__law_totals F29 C__law_draw C__law_pick y_len y_range y_tuple : FnOk l.prog w K mg base CX0 3 _ _ _ (spLawTots K))
  have C__law_totals : Cl l.prog w K mg base 3 "_law_totals" (spLawTots K) := ⟨⟨f29, _, _, T__law_totals, g29, F29.kp, b29⟩⟩
  have T__law_parted := (ok__law_parted F30 C__law_draw C__law_pick C__law_totals y_range y_tuple : FnOk l.prog w K mg base CX0 4 _ _ _ (spLawTots K))
  have C__law_parted : Cl l.prog w K mg base 4 "_law_parted" (spLawTots K) := ⟨⟨f30, _, _, T__law_parted, g30, F30.kp, b30⟩⟩
  have T__law_classes := (ok__law_classes F31 y_len y_range y_any : FnOk l.prog w K mg base CX0 1 _ _ _ (spLawCls4 K))
  have C__law_classes : Cl l.prog w K mg base 1 "_law_classes" (spLawCls4 K) := ⟨⟨f31, _, _, T__law_classes, g31, F31.kp, b31⟩⟩
  have T__law_pieces := (ok__law_pieces F32 y_any y_range y_tuple y_sorted : FnOk l.prog w K mg base CX0 1 _ _ _ (spLawPcs K))
  have C__law_pieces : Cl l.prog w K mg base 1 "_law_pieces" (spLawPcs K) := ⟨⟨f32, _, _, T__law_pieces, g32, F32.kp, b32⟩⟩
  have G__law_pieces_right : ClG l.prog w K mg base 11 "_law_pieces_right" (spPcsRight K CT) := ⟨⟨f33, _, _, ok__law_pieces_right F33 TC gT tyX kTT EQ C__law_classes C__law_pieces C_pieces_of CK_pieces_of_table C_piece_totals CR_piece_totals C_piece_kinds CR_piece_kinds C_piece_table CR_piece_table y_len y_repr y_tuple y_range y_any y_list y_sorted y_isinstance, g33, F33.kp, b33⟩⟩
  have C__law_can : Cl l.prog w K mg base 6 "_law_can" (spCan l.prog w K 5) := can_chain F34 (fun T => ⟨⟨f34, _, _, T, g34, F34.kp, b34⟩⟩) y_tuple y_range y_len y_all 5
  have T__law_kept := (ok__law_kept F35 TC C__law_can y_len y_range : FnOk l.prog w K mg base CX0 7 _ _ _ (spKeptW K CT))
  have C__law_kept : Cl l.prog w K mg base 7 "_law_kept" (spKeptW K CT) := ⟨⟨f35, _, _, T__law_kept, g35, F35.kp, b35⟩⟩
  have T__law_alike := (ok__law_alike F36 TC C__law_pick C__law_pickT C__law_kept C_with_total C_classes_of C_merged C_core_of C_pieces_of C_piece_table y_all : FnOk l.prog w K mg base CX0 12 _ _ _ (spLawAlike K CT))
  have C__law_alike : Cl l.prog w K mg base 12 "_law_alike" (spLawAlike K CT) := ⟨⟨f36, _, _, T__law_alike, g36, F36.kp, b36⟩⟩
  have T__law_errors := (ok__law_errors F37 TC y_len y_range y_tuple : FnOk l.prog w K mg base CX0 1 _ _ _ (spLawErrs K CT))
  have C__law_errors : Cl l.prog w K mg base 1 "_law_errors" (spLawErrs K CT) := ⟨⟨f37, _, _, T__law_errors, g37, F37.kp, b37⟩⟩
  have T__law_day_right := (ok__law_day_right F38 TC C__law_draw C__law_pick C_class_numbers C__law_errors C_classes_of C_merged C_pieces_of C_piece_kinds C_piece_totals C_piece_table y_range y_len y_list y_tuple : FnOk l.prog w K mg base CX0 11 _ _ _ (spDayRight K CT))
  have C__law_day_right : Cl l.prog w K mg base 11 "_law_day_right" (spDayRight K CT) := ⟨⟨f38, _, _, T__law_day_right, g38, F38.kp, b38⟩⟩
  exact ok_law F39 TC T_Table C__law_heap C__law_pick C__law_names C__law_totals C__law_parted G__law_pieces_right C__law_alike C__law_day_right C_pieces_of C_piece_table C__law_kept C_core_of y_len y_int y_range
end K04
open PySem PySem.W PyProof.Rows
set_option maxHeartbeats 0 in
theorem PySem.Challenge.cw_centsatonce_k04_whole_classes_alone_coun_holds : PySem.Challenge.rw_centsatonce_k04_whole_classes_alone_coun.Holds := by
  w_on; o_law; k_head; (case hw => w_witness2)
  k_fill
  refine VG.walk_G (l := PySem.Challenge.rw_centsatonce_k04_whole_classes_alone_coun) (n := 63) (k := 13) (x := "script") (sp := fun w => FR.spLaw _) rfl (by decide) rfl ⟨rfl, by decide, by decide⟩ (fun w h Y => PySem.W.kIn_of Y) ?F (fun _ _ a ns hl _ _ hS => ⟨a, ns, rfl, hS, hl, fun _ => rfl⟩)
  case F =>
    intro w mg fa h KX G hmg
    refine' K04.all_mk KX G hmg ?a0 ?l0 ?c0 ?k0 ?a1 ?l1 ?c1 ?k1 ?a2 ?l2 ?c2 ?k2 ?a3 ?l3 ?c3 ?k3 ?a4 ?l4 ?c4 ?k4 ?a5 ?l5 ?c5 ?k5 ?a6 ?l6 ?c6 ?k6 ?a7 ?l7 ?c7 ?k7 ?a8 ?l8 ?c8 ?k8 ?a9 ?l9 ?c9 ?k9 ?a10 ?l10 ?c10 ?k10 ?a11 ?l11 ?c11 ?k11 ?a12 ?l12 ?c12 ?k12 ?a13 ?l13 ?c13 ?k13 ?a14 ?l14 ?c14 ?k14 ?a15 ?l15 ?c15 ?k15 ?a16 ?l16 ?c16 ?k16 ?a17 ?l17 ?c17 ?k17 ?a18 ?l18 ?c18 ?k18 ?a19 ?l19 ?c19 ?k19 ?a20 ?l20 ?c20 ?k20 ?a21 ?l21 ?c21 ?k21 ?a22 ?l22 ?c22 ?k22 ?a23 ?l23 ?c23 ?k23 ?a24 ?l24 ?c24 ?k24 ?a25 ?l25 ?c25 ?k25 ?a26 ?l26 ?c26 ?k26 ?a27 ?l27 ?c27 ?k27 ?a28 ?l28 ?c28 ?k28 ?a29 ?l29 ?c29 ?k29 ?a30 ?l30 ?c30 ?k30 ?a31 ?l31 ?c31 ?k31 ?a32 ?l32 ?c32 ?k32 ?a33 ?l33 ?c33 ?k33 ?a34 ?l34 ?c34 ?k34 ?a35 ?l35 ?c35 ?k35 ?a36 ?l36 ?c36 ?k36 ?a37 ?l37 ?c37 ?k37 ?a38 ?l38 ?c38 ?k38 ?a39 ?l39 ?c39 ?k39 ?aCA ?xLA ?saA ?nwA ?iIA ?tIA ?lIA ?cIA ?kIA ?kCA ?eCA ?tCA ?aCR ?xLR ?saR ?nwR ?iIR ?tIR ?lIR ?cIR ?kIR ?kCR ?eCR ?tCR ?aT ?iT ?jT ?lT ?cT ?kT ?iE ?jE ?lE ?cE ?kE ?pgT ?hdT ?poT ?saT ?mkT ?kcT ?nkT ?ntT ?xn ?xt ?xaT ?xmT ?isT ?tyT ?suT ?mL ?m1 ?m2 ?m3 ?z_isinstance ?z_int ?z_bool ?z_str ?z_tuple ?z_list ?z_len ?z_abs ?z_range ?z_zip ?z_all ?z_any ?z_sum ?z_repr ?z_enumerate ?z_sorted ?z_set ?z_max
    (case a0 => k_is); (case l0 => k_is); (case c0 => k_is); (case k0 => k_is); (case a1 => k_is); (case l1 => k_is); (case c1 => k_is); (case k1 => k_is); (case a2 => k_is); (case l2 => k_is); (case c2 => k_is); (case k2 => k_is); (case a3 => k_is); (case l3 => k_is); (case c3 => k_is); (case k3 => k_is); (case a4 => k_is); (case l4 => k_is); (case c4 => k_is); (case k4 => k_is); (case a5 => k_is); (case l5 => k_is); (case c5 => k_is); (case k5 => k_is); (case a6 => k_is); (case l6 => k_is); (case c6 => k_is); (case k6 => k_is); (case a7 => k_is); (case l7 => k_is); (case c7 => k_is); (case k7 => k_is); (case a8 => k_is); (case l8 => k_is); (case c8 => k_is); (case k8 => k_is); (case a9 => k_is); (case l9 => k_is); (case c9 => k_is); (case k9 => k_is); (case a10 => k_is); (case l10 => k_is); (case c10 => k_is); (case k10 => k_is); (case a11 => k_is); (case l11 => k_is); (case c11 => k_is); (case k11 => k_is); (case a12 => k_is); (case l12 => k_is); (case c12 => k_is); (case k12 => k_is); (case a13 => k_is); (case l13 => k_is); (case c13 => k_is); (case k13 => k_is); (case a14 => k_is); (case l14 => k_is); (case c14 => k_is); (case k14 => k_is); (case a15 => k_is); (case l15 => k_is); (case c15 => k_is); (case k15 => k_is); (case a16 => k_is); (case l16 => k_is); (case c16 => k_is); (case k16 => k_is); (case a17 => k_is); (case l17 => k_is); (case c17 => k_is); (case k17 => k_is); (case a18 => k_is); (case l18 => k_is); (case c18 => k_is); (case k18 => k_is); (case a19 => k_is); (case l19 => k_is); (case c19 => k_is); (case k19 => k_is); (case a20 => k_is); (case l20 => k_is); (case c20 => k_is); (case k20 => k_is); (case a21 => k_is); (case l21 => k_is); (case c21 => k_is); (case k21 => k_is); (case a22 => k_is); (case l22 => k_is); (case c22 => k_is); (case k22 => k_is); (case a23 => k_is); (case l23 => k_is); (case c23 => k_is); (case k23 => k_is); (case a24 => k_is); (case l24 => k_is); (case c24 => k_is); (case k24 => k_is); (case a25 => k_is); (case l25 => k_is); (case c25 => k_is); (case k25 => k_is); (case a26 => k_is); (case l26 => k_is); (case c26 => k_is); (case k26 => k_is); (case a27 => k_is); (case l27 => k_is); (case c27 => k_is); (case k27 => k_is); (case a28 => k_is); (case l28 => k_is); (case c28 => k_is); (case k28 => k_is); (case a29 => k_is); (case l29 => k_is); (case c29 => k_is); (case k29 => k_is); (case a30 => k_is); (case l30 => k_is); (case c30 => k_is); (case k30 => k_is); (case a31 => k_is); (case l31 => k_is); (case c31 => k_is); (case k31 => k_is); (case a32 => k_is); (case l32 => k_is); (case c32 => k_is); (case k32 => k_is); (case a33 => k_is); (case l33 => k_is); (case c33 => k_is); (case k33 => k_is); (case a34 => k_is); (case l34 => k_is); (case c34 => k_is); (case k34 => k_is); (case a35 => k_is); (case l35 => k_is); (case c35 => k_is); (case k35 => k_is); (case a36 => k_is); (case l36 => k_is); (case c36 => k_is); (case k36 => k_is); (case a37 => k_is); (case l37 => k_is); (case c37 => k_is); (case k37 => k_is); (case a38 => k_is); (case l38 => k_is); (case c38 => k_is); (case k38 => k_is); (case a39 => k_is); (case l39 => k_is); (case c39 => k_is); (case k39 => k_is); (case aCA => k_is); (case xLA => k_is); (case saA => k_is); (case nwA => k_is); (case iIA => k_is); (case tIA => k_is); (case lIA => k_is); (case cIA => k_is); (case kIA => k_is); (case kCA => k_is); (case eCA => k_is); (case tCA => k_is); (case aCR => k_is); (case xLR => k_is); (case saR => k_is); (case nwR => k_is); (case iIR => k_is); (case tIR => k_is); (case lIR => k_is); (case cIR => k_is); (case kIR => k_is); (case kCR => k_is); (case eCR => k_is); (case tCR => k_is); (case aT => k_is); (case iT => k_is); (case jT => k_is); (case lT => k_is); (case cT => k_is); (case kT => k_is); (case iE => k_is); (case jE => k_is); (case lE => k_is); (case cE => k_is); (case kE => k_is); (case pgT => k_is); (case hdT => k_is); (case poT => k_is); (case saT => k_is); (case mkT => k_is); (case kcT => k_is); (case nkT => k_is); (case ntT => k_is); (case xn => k_is); (case xt => k_is); (case xaT => k_is); (case xmT => k_is); (case isT => k_is); (case tyT => k_is); (case suT => first | rfl | k_is); (case mL => k_is); (case m1 => k_is); (case m2 => k_is); (case m3 => k_is); (case z_isinstance => k_is); (case z_int => k_is); (case z_bool => k_is); (case z_str => k_is); (case z_tuple => k_is); (case z_list => k_is); (case z_len => k_is); (case z_abs => k_is); (case z_range => k_is); (case z_zip => k_is); (case z_all => k_is); (case z_any => k_is); (case z_sum => k_is); (case z_repr => k_is); (case z_enumerate => k_is); (case z_sorted => k_is); (case z_set => k_is); (case z_max => k_is)
