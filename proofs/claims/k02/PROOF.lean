import PyProof.Rows.All
import Wide.All
import OpenK.AllK
import Wide.FinOn
import PyProof.ReprReads
import PyProof.ReprRoads
import PyProof.StrOps2
import HandS.ForMost
import HandS.Walk
import HandS.Style
import HandS.TupAny
import HandS.EndBits
import HandS.IsInst
import HandS.Gcd
import HandS.Wide
import HandS.Zip
import HandS.ForExc
import HandS.ExcInit
import KE.KExcIs
import HandS.ExcIs
import HandS.ExcField
import HandS.Deep
import HandS.FStrTup
import PySem.Challenge.RW_centsatonce_k02_whole_fractions
set_option Elab.async false
set_option linter.all false
set_option maxRecDepth 100000
set_option maxHeartbeats 8000000
set_option exponentiation.threshold 10000
namespace VG
open PySem PySem.Spec PyProof.Rows L2

/-! a def whose caller shows no repr under way -/
structure FnG (P : Program) (w : World) (K : PySem.W.Frag) (mg : Str → Option Value) (base : Heap) (k : Nat) (f : Addr) (fd : FuncData) (ps : List Str) (sp : Sp) : Prop where
  len : ∀ vs H Q E, sp vs H Q E → vs.length = ps.length
  run : ∀ (A : Around) (outer : List Env) (s : Shared) (H : Hp) (args : Args) (us : List Value) (vs : List V) (Q : VK) (E : XK),
    A.guards = some [] → Room k A → Env0 P w K mg base A outer s H → BindsTo s fd args (ps.zip us) → Vals vs us → sp vs H Q E →
    codeAny (model P w) A (.call (.ref f) args) (CR CX0 outer P w H s Q E) s

section
variable {P : Program} {w : World} {K : PySem.W.Frag} {mg : Str → Option Value} {base : Heap}

theorem fnG_of {k : Nat} {f : Addr} {x qual : Str} {st : Stmt} {fd : FuncData} {N ps : List Str} {sp : Sp} (F : Fun K x qual st f fd) (S : FnScope N ps (defScope st))
    (hlen : ∀ vs H Q E, sp vs H Q E → vs.length = ps.length)
    (hb : ∀ (cdv : Value) (A : Around) (outer : List Env) (s : Shared) (H : Hp) (vs : List V) (Q : VK) (E : XK), A.guards = some [] →
      Room k (A.deeper (envOfC qual (defScope st) s.heap.objs.size f cdv)) → sp vs H Q E →
      ∃ t, PSs (cxOf CX0 P w K mg base N qual (defScope st) f cdv A outer s H E).nox (defBody st) t ∧ t { nx := fun _ H' => Q .non H', rt := Q } (start N vs) H) :
    FnG P w K mg base (k + 1) f fd ps sp := by
  obtain ⟨oc, od, kV, doc, pm, an, cdv, ct, osl, rfl, lk, hcd⟩ := F.ex
  constructor
  · exact hlen
  · intro A outer s H args us vs Q E hg hr e0 hbi r hsp
    have nl := hlen _ _ _ _ hsp
    have inK : K.In s.heap := e0.mod.kin.keeps fun b o z => (e0.bs b o z).1
    have noL : s.heap.NoLimit := e0.mod.nolimit.keeps fun b o z => (e0.bs b o z).1
    have kinds : ∀ y ∈ ps.zip us, (defScope st).names.lookup y.1 = some .local ∨
        ((defScope st).names.lookup y.1 = some .cell ∧ ((cellsFrom (s.heap.objs.size + 1) (defScope st).names []).lookup y.1).isSome = true) := by
      intro y hy
      obtain ⟨n, v⟩ := y
      cases S.par n (List.of_mem_zip hy).1 with
      | inl q => exact Or.inl q
      | inr q => exact Or.inr ⟨q, PySem.W.cellsFrom_some _ _ _ (.inl q)⟩
    apply codeAny_call_function hr.depth (inK _ _ lk) rfl S.co S.gen rfl (PySem.W.codeRec_of inK hcd) (hbi _ _ _ _ _)
    apply wpAny_newFunctionEnv_cells S.kind kinds
    intro env he s1 xx
    subst he
    refine And.intro (noL.keeps xx.toInCall.keep) (codeAny_func ?_)
    obtain ⟨t, ht, hq⟩ := hb cdv A outer s H vs Q E hg (hr.deeper _) hsp
    have I := inv_start (CX := CX0) (P := P) (w := w) (E := E) S hr.hd e0 nl r xx
    apply wpAny_mono (ht.nox.run [] s1 (start N vs) H _ I hq)
    · intro fl s' hs
      cases fl with
      | ret u =>
        obtain ⟨v, σ', H', J, rv, q⟩ := hs
        exact ⟨v, H', J.os, J.bare, J.base, J.hok, rv, q⟩
      | next =>
        obtain ⟨σ', H', J, q⟩ := hs
        exact ⟨V.non, H', J.os, J.bare, J.base, J.hok, rfl, q⟩
      | brk =>
        obtain ⟨_, _, _, q⟩ := hs
        exact False.elim q
      | cont =>
        obtain ⟨_, _, _, q⟩ := hs
        exact False.elim q
    · intro e s' hs
      exact hs
end

/-! the law's own call, over FnG -/
theorem law_callG {P : Program} {w : World} {K : PySem.W.Frag} {mg mb : Str → Option Value} {k : Nat} {fa a : Addr} {fd : FuncData} {x : Str} {sp : Sp} {s₁ : Shared} {vs : List Value} {ns : List Int}
    (KX : K.In s₁.heap) (hns : s₁.heap.Ns mainGlobals mg) (hb : s₁.heap.Ns builtinsNs mb) (hbb : ∀ x : Str, x ≠ "__name__" → mb x = bootBuiltins x) (hlim : s₁.heap.NoLimit) (hg : s₁.gens = #[])
    (ha : s₁.heap.get? a = some { cls := .type "list", data := .seq vs.toArray }) (hi : IntsAre vs ns) (hl : ns.length ≤ sizeLine) (hr : Room k callerA)
    (F : ∀ base : Heap, K.In base → base.Ns mainGlobals mg → FnG P w K mg base k fa fd [x] sp) (hbind : ∀ (s : Shared) (u : Value), BindsTo s fd ⟨[u], []⟩ [(x, u)])
    (hsp : ∀ H : Hp, Only H → SqL K H a (ns.map V.int) → sp [.ref a] H (fun v _ => v = .bl true) fun _ _ _ => False) :
    codeAny (model P w) callerA (.call (.ref fa) ⟨[.ref a], []⟩) (fun r s' => r = .ok (.ret (.bool true)) ∧ OldK s₁.heap s'.heap ∧ s'.os = s₁.os ∧ AllBare s'.gens) s₁ := by
  have rv := vals_ints hi
  have nV := hi.length
  have main : ∀ H : Hp, Only H → SqL K H a (ns.map V.int) → HOk P w H s₁.heap → (∀ b, H b ≠ none → b = a) → (H a ≠ none → K.lookup a = none) →
      codeAny (model P w) callerA (.call (.ref fa) ⟨[.ref a], []⟩) (fun r s' => r = .ok (.ret (.bool true)) ∧ OldK s₁.heap s'.heap ∧ s'.os = s₁.os ∧ AllBare s'.gens) s₁ := by
    intro H hO hS hok hA hK
    have only : ∀ {b : Addr}, b ≠ a → H b = none := by
      intro b hne
      cases q : H b with
      | none => rfl
      | some u => exact absurd (hA b (by rw [q]; exact Option.some_ne_none u)) hne
    have nsK : ∀ {b : Addr} {m : Str → Option Value}, s₁.heap.Ns b m → (hidT s₁.heap H).Ns b m := by
      intro b m z
      obtain ⟨o, es, ep, e, d, r⟩ := z
      refine ⟨o, es, ep, hidT_get e (only ?_), d, r⟩
      intro z
      subst z
      rw [ha] at e
      cases e
      cases d
    have inB : K.In (hidT s₁.heap H) := by
      intro b o e
      refine hidT_get (KX b o e) ?_
      cases q : H b with
      | none => rfl
      | some u =>
        have hb2 : b = a := hA b (by rw [q]; exact Option.some_ne_none u)
        subst hb2
        have := hK (by rw [q]; exact Option.some_ne_none u)
        rw [this] at e
        cases e
    have hM : Mod K mg (hidT s₁.heap H) := ⟨inB, nsK hns, ⟨mb, nsK hb, hbb⟩, by
      obtain ⟨mc, h1, h2⟩ := hlim
      exact ⟨mc, nsK h1, h2⟩⟩
    have e0 : Env0 P w K mg (hidT s₁.heap H) callerA [] s₁ H :=
      ⟨rfl, hM, fun b o e => of_hidT e, Nat.le_of_eq (hidT_size _ _), trivial, fun b hb => absurd (show b ∈ ([] : List Addr) from hb) List.not_mem_nil, hok, .of_eq hg⟩
    have run := (F _ inB (nsK hns)).run callerA [] s₁ H ⟨[.ref a], []⟩ [.ref a] [.ref a] _ _ rfl hr e0 (hbind s₁ (.ref a)) (.cons rfl .nil) (hsp H hO hS)
    apply codeAny_mono run
    intro r s' h
    match r, h with
    | .ok (.ret u), h =>
      obtain ⟨v, H', os, bare, un, hok', r', q⟩ := h
      have q' : v = .bl true := q
      subst q'
      have r2 : u = Value.bool true := r'
      subst r2
      refine ⟨rfl, OldK.of_keep ?_, os, bare⟩
      intro b o e
      cases q : H b with
      | none => exact un.keep b o e q (fun z => absurd (show b ∈ ([] : List Addr) from z) List.not_mem_nil) List.not_mem_nil
      | some u =>
        rcases hO b with z | ⟨ob, xs, z⟩
        · rw [q] at z
          cases z
        · have z2 := un.frzs b ob _ z
          have w1 := (hok b _ z).1
          have w2 := (hok' b _ z2).1
          rw [e] at w1
          cases w1
          exact w2
  cases hk : K.lookup a with
  | some o =>
    have e := KX a o hk
    rw [ha] at e
    cases e
    refine main (fun _ => none) (fun _ => .inl rfl) (.inr ⟨_, vs.toArray, _, hk, rfl, rfl, rfl, ?_, ?_⟩) (fun b u z => ?_) (fun b z => absurd rfl z) (fun z => absurd rfl z)
    · rw [List.size_toArray, nV]
      exact hl
    · simpa using rv
    · exact absurd (show (none : Option HO) = some u from z) (Option.some_ne_none u).symm
  | none =>
    refine main (fun b => if b = a then some (.frz { cls := .type "list", data := .seq vs.toArray } (.lst (ns.map V.int))) else none) ?_ (.inl (.inr ⟨{ cls := .type "list", data := .seq vs.toArray }, if_pos rfl⟩)) ?_ ?_ (fun _ => hk)
    · intro b
      by_cases hb : b = a
      · exact .inr ⟨_, _, if_pos hb⟩
      · exact .inl (if_neg hb)
    · intro b u z
      by_cases hb : b = a
      · subst hb
        have z' := (if_pos rfl).symm.trans z
        cases z'
        refine ⟨ha, ?_, vs, _, rv, ha⟩
        rw [List.length_map]
        exact hl
      · have z' := (if_neg hb).symm.trans z
        cases z'
    · intro b z
      by_cases hb : b = a
      · exact hb
      · exact absurd (if_neg hb) z

theorem walk_G {l : PySem.W.OpenLaw} {n k : Nat} {q : Program} {loose : List Str} {XP : (Str → Option Value) → Heap → Prop} {YP : World → Heap → Prop} {d : DefRec} {K : Params → PySem.W.Frag} {sp : World → Sp} {x : Str}
    (hn : l.most = some n) (hn2 : n ≤ sizeLine) (hdf : d.params.defaults = []) (hr : Room k callerA)
    (hY : ∀ (w : World) (h : Heap), YP w h → (K w.params).In h)
    (F : ∀ (w : World) (mg : Str → Option Value) (fa : Addr) (h : Heap), (K w.params).In h → h.Ns mainGlobals mg → mg d.name = some (.ref fa) →
      ∃ fd : FuncData, (∀ (s : Shared) (u : Value), BindsTo s fd ⟨[u], []⟩ [(x, u)]) ∧
        ∀ base : Heap, (K w.params).In base → base.Ns mainGlobals mg → FnG l.prog w (K w.params) mg base k fa fd [x] (sp w))
    (hsp : ∀ (w : World) (H : Hp) (a : Addr) (ns : List Int), ns.length ≤ n → (∀ z ∈ ns, Builtin.Int.intBits z ≤ 1048576) → Only H → SqL (K w.params) H a (ns.map V.int) → sp w [.ref a] H (fun v _ => v = .bl true) fun _ _ _ => False) :
    PySem.W.WalkO q loose XP YP l.row.toRowW d [] (fun f vs => PySem.call f vs) := by
  apply Att.attach_callB hn hdf
  intro w s₀ s₁ mg mb fa o pm cd doc a vs ns G Y ho hd hcd hmg hobj hints hlen hbits hg
  have KX := hY w _ Y
  obtain ⟨fd, hb, hF⟩ := F w mg fa _ KX G.T.g hmg
  exact law_callG KX G.T.g G.T.b G.T.builtins G.T.nolimit hg hobj hints (Nat.le_trans hlen hn2) hr hF hb fun H hO hS => hsp w H a ns hlen hbits hO hS
end VG


namespace VG
open PySem PySem.Spec PyProof.Rows L2

/-! a statement whose ways meet in one word J -/
section
variable {X : Cx} {st : Stmt} {rest : List Stmt} {t u : TS}
def tCut (t u : TS) : TS := fun D σ H => ∃ J : L2.St → Hp → Prop, t { D with nx := J } σ H ∧ ∀ σ' H', J σ' H' → u D σ' H'
theorem pss_cut (h1 : PS X st t) (h2 : PSs X rest u) : PSs X (st :: rest) (tCut t u) := by
  constructor
  intro pins s σ H D I h
  obtain ⟨J, a, b⟩ := h
  apply wpAny_execs_cons
  apply thn (h1.run pins s σ H { D with nx := J } I a)
  intro f s1 q
  cases f with
  | next =>
    obtain ⟨σ', H', I', q⟩ := q
    exact h2.run pins s1 σ' H' D I' (b σ' H' q)
  | ret v => exact q
  | brk => exact q
  | cont => exact q
end

/-! a test, an expression whose ways meet in one word J -/
section
variable {X : Cx} {e : Expr} {c : TT} {te : TE}
def tMeet (c : TT) : TT := fun σ H Q => ∃ J : Bool → Hp → Prop, c σ H J ∧ ∀ b H', J b H' → Q b H'
theorem pt_meet (h : PT X e c) : PT X e (tMeet c) := by
  constructor
  intro pins s σ H Q I hh
  obtain ⟨J, a, b⟩ := hh
  apply thn (h.run pins s σ H J I a)
  intro d s1 q
  obtain ⟨H', I', q⟩ := q
  exact ⟨H', I', b _ _ q⟩
def tMeetE (te : TE) : TE := fun σ H Q => ∃ J : V → Hp → Prop, te σ H J ∧ ∀ v H', J v H' → Q v H'
theorem pe_meet (h : PE X e te) : PE X e (tMeetE te) := by
  constructor
  intro pins s σ H Q I hh
  obtain ⟨J, a, b⟩ := hh
  apply thn (h.run pins s σ H J I a)
  intro d s1 q
  obtain ⟨v, H', I', r, q⟩ := q
  exact ⟨v, H', I', r, b _ _ q⟩
end

/-! a def that is called by its name, all its facts in one -/
structure Cl (P : Program) (w : World) (K : PySem.W.Frag) (mg : Str → Option Value) (base : Heap) (k : Nat) (x : Str) (sp : Sp) : Prop where
  ex : ∃ (f : Addr) (fd : FuncData) (ps : List Str), FnOk P w K mg base CX0 k f fd ps sp ∧ mg x = some (.ref f) ∧ PySem.W.keepIn K (.ref f) = true ∧ Binds K fd ps []

section
variable {X : Cx} {k j : Nat} {x : Str} {sp : Sp} {p pos : Pos} {e : Expr} {es : List Expr} {t : TA}
theorem pe_cl (c : Cl X.prog X.w X.K X.mg X.base k x sp) (hr : Room j X.A) (hk : k ≤ j) (hg : Gl X x) (ha : PA X (e :: es) t)
    (h1 : (x == ("__debug__" : Str)) = false := by decide) (h2 : starEach (e :: es) X.env = (false, eval e X.env) :: starEach es X.env := by rfl)
    (h3 : (backTo pos (starEach es X.env)).any (·.1) = false := by rfl) : PE X (.Call (.Name x p) (e :: es) [] pos) (tCall sp [] E0 t) :=
  let ⟨_, _, _, F, m, kp, b⟩ := c.ex
  pe_call F (hr.mono hk) hg m kp b .nil pass0 ha h1 h2 h3

/-- a module's name that holds a text -/
theorem pe_gs {z : Str} (hg : Gl X x) (h : ∃ u, X.mg x = some (.str z u)) (h1 : (x == ("__debug__" : Str)) = false := by decide) :
    PE X (.Name x pos) (tC (.str z)) := by
  obtain ⟨u, m⟩ := h
  exact pe_glob (v := .str z) hg m ⟨u, rfl⟩ h1

/-- repr of data, where no repr is under way -/
def rRepr (K : PySem.W.Frag) : List V → Hp → VK → Prop := fun xs H Q =>
  ∃ a d, xs = [.ref a] ∧ Dp K H (.ref a) d ∧ d.showable = true ∧ d.hasDict = false ∧ d.depth ≤ 60 ∧ d.shown.length ≤ sizeLine ∧ Q (.str d.shown) H
theorem cr_repr (hg : X.A.guards = some []) (hu : X.A.units + 64 < cLine) : CallR X (.builtin "repr") (rRepr X.K) := by
  intro pins s σ H vs us Q I r h
  obtain ⟨a, d, rfl, hd, h1, h2, h3, h4, q⟩ := h
  rw [Vals.ref1 r]
  obtain ⟨as, rd⟩ := Dp.reads I d (.ref a) (.ref a) hd rfl
  refine repr_of_reads' rd h1 (PyData.noDict_hsm h2) hg (by omega) (fun _ _ z => z) (fun h' u tk hk => ?_) h4
  exact ⟨.str d.shown, H, I.kept hk, ⟨u, rfl⟩, q⟩

/-- a text, n times -/
def repL (l : List Nat) : Nat → List Nat
  | 0 => []
  | n + 1 => l ++ repL l n
theorem repL_len (l : List Nat) : ∀ n, (repL l n).length = l.length * n
  | 0 => rfl
  | n + 1 => by
    show (l ++ repL l n).length = l.length * (n + 1)
    rw [List.length_append, repL_len l n, Nat.mul_succ, Nat.add_comm]
theorem fold_rep (a : Array Nat) : ∀ (n : Nat) (acc : Array Nat), ((List.replicate n a).foldl (· ++ ·) acc).toList = acc.toList ++ repL a.toList n
  | 0, acc => by simp [repL]
  | n + 1, acc => by
    rw [List.replicate_succ, List.foldl_cons, fold_rep a n]
    simp [repL]
theorem op_mulStr : OpR X (binaryOp .Mult) (fun x y H Q => ∃ (z : Str) (n : Nat), x = .str z ∧ y = .int n ∧ 1 ≤ n ∧ n ≤ 1000 ∧ 1 ≤ z.length ∧ z.length ≤ 1000 ∧
    Q (.str ⟨(repL z.cps.toList n).toArray⟩) H) := by
  intro pins s σ H x y v u Q I rx ry h
  obtain ⟨z, n, rfl, rfl, n2, n3, z1, z2, q⟩ := h
  obtain ⟨t, rfl⟩ := rx
  obtain ⟨t', rfl⟩ := ry
  have hlen : z.length * n ≤ 1000000 := Nat.le_trans (Nat.mul_le_mul z2 n3) (by decide)
  refine P.mul_str ?_ ?_ ?_ ?_
  · rw [decide_eq_false (by omega), decide_eq_false (by omega)]
    rfl
  · intro _ _ hh
    have e1 : (9223372036854775807 : Int) / (n : Int) ≥ 9223372036854775 := by
      refine Int.le_ediv_of_mul_le (by omega) ?_
      have : (n : Int) ≤ 1000 := by omega
      omega
    have e2 : ((2 : Int) ^ 63 - 1) = 9223372036854775807 := by decide
    rw [e2] at hh
    omega
  · intro _ _
    unfold PySem.Builtin.Str.tooLong
    rw [Int.toNat_natCast]
    have : z.length * n ≤ sizeLine := Nat.le_trans hlen (by decide)
    first
      | exact decide_eq_false (by omega)
      | (simp only [decide_eq_false_iff_not, gt_iff_lt, Nat.not_lt]; omega)
  · rw [if_neg (by omega)]
    by_cases hn1 : n = 1
    · subst hn1
      rw [if_pos (by rfl)]
      have e5 : (⟨(repL z.cps.toList 1).toArray⟩ : Str) = z := by
        show (⟨(z.cps.toList ++ []).toArray⟩ : Str) = z
        rw [List.append_nil]
      rw [e5] at q
      exact ⟨.str z, H, I, ⟨t, rfl⟩, q⟩
    have hc : (((n : Int) == 1) || (z.length == 0)) = false := by
      rw [Bool.or_eq_false_iff]
      exact ⟨beq_eq_false_iff_ne.mpr (by omega), beq_eq_false_iff_ne.mpr (by omega)⟩
    rw [hc, if_neg Bool.false_ne_true]
    have e3 := fold_rep z.cps n #[]
    rw [List.nil_append] at e3
    have e4 : (⟨(List.replicate ((n : Int)).toNat z.cps).foldl (· ++ ·) #[]⟩ : Str) = ⟨(repL z.cps.toList n).toArray⟩ := by
      rw [Int.toNat_natCast, ← e3]
    rw [e4]
    refine ⟨?_, ?_⟩
    · show ((repL z.cps.toList n).toArray).size ≤ sizeLine
      rw [List.size_toArray, repL_len, Array.length_toList]
      exact Nat.le_trans hlen (by decide)
    · exact ⟨.str _, H, I.tok _, ⟨_, rfl⟩, q⟩
end
end VG


namespace VG
open PySem PySem.Spec PyProof.Rows L2
/-! a call by keywords alone -/
structure ClK (P : Program) (w : World) (K : PySem.W.Frag) (mg : Str → Option Value) (base : Heap) (k : Nat) (x : Str) (ks : List Str) (sp : Sp) : Prop where
  ex : ∃ (f : Addr) (fd : FuncData) (ps : List Str), FnOk P w K mg base CX0 k f fd ps sp ∧ mg x = some (.ref f) ∧ PySem.W.keepIn K (.ref f) = true ∧ KBinds K fd ps ks (fun us ws => us ++ ws) (fun vs zs => vs ++ zs)
section
variable {X : Cx} {k j : Nat} {x : Str} {sp : Sp} {p pos : Pos} {kws : List Keyword} {ks : List Str} {tk : TA}
def tCallK0 (sp : Sp) (tk : TA) : TE := fun σ H Q => tk σ H fun zs H2 => sp zs H2 Q E0
theorem pe_clk0 (c : ClK X.prog X.w X.K X.mg X.base k x ks sp) (hr : Room j X.A) (hk : k ≤ j) (hg : Gl X x) (hkw : PK X kws tk)
    (h1 : (backToKw pos (keywordEach kws X.env)).all (·.1.isSome) = true := by rfl) (h2 : (backToKw pos (keywordEach kws X.env)).filterMap (·.1) = ks := by rfl)
    (h3 : (x == ("__debug__" : Str)) = false := by decide) (h4 : ((backTo pos (starEach [] X.env)).any (·.1) || (backToKw pos (keywordEach kws X.env)).any (·.1.isNone)) = false := by rfl) :
    PE X (.Call (.Name x p) [] kws pos) (tCallK0 sp tk) := by
  obtain ⟨f, fd, ps, F, m, kp, b⟩ := c.ex
  constructor
  intro pins s σ H Q I h
  apply wpAny_Call_Name_kw
  apply ld_glob I hg m _ h3
  apply PySem.W.callWith_KW0 (h₀ := X.base) I.ok.mod.kin kp h1 _ h4
  apply thn (hkw.run pos pins s σ H _ I h)
  intro ws s2 hh
  obtain ⟨zs, H2, I2, rz, q2⟩ := hh
  refine And.intro I2.kIn ?_
  rw [h2]
  exact run_fnk (us := []) (vs := []) F (hr.mono hk) b pass0 I2 .nil rz q2
end
section
variable {P : Program} {w : World} {K : PySem.W.Frag} {mg : Str → Option Value} {base : Heap}
/-- one parameter, given by position or by its name -/
theorem kbinds_one {x qual p : Str} {st : Stmt} {f : Addr} {fd : FuncData} (F : Fun K x qual st f fd)
    (h1 : ∀ (kV doc pm : Value) (an : Option Addr) (cdv ct u : Value), bindArgs (PySem.W.fnOf x qual (defArgs st) (defBody st) (defScope st) .none kV doc pm an cdv ct) ⟨[u], []⟩ = pure [(p, u)])
    (h2 : ∀ (kV doc pm : Value) (an : Option Addr) (cdv ct u : Value), bindArgs (PySem.W.fnOf x qual (defArgs st) (defBody st) (defScope st) .none kV doc pm an cdv ct) ⟨[], [(p, u)]⟩ = pure [(p, u)]) :
    KBinds K fd [p] [p] (fun us ws => us ++ ws) (fun vs zs => vs ++ zs) := by
  obtain ⟨oc, od, kV, doc, pm, an, cdv, ct, osl, rfl, lk, hcd⟩ := F.ex
  constructor
  · intro s us ws _ hl
    match us, ws, hl with
    | [u], [], _ => exact .of_eq (h1 kV doc pm an cdv ct u)
    | [], [u], _ => exact .of_eq (h2 kV doc pm an cdv ct u)
    | [], [], hl => cases hl
    | [], _ :: _ :: _, hl => cases hl
    | [_], _ :: _, hl => cases hl
    | _ :: _ :: _, ws, hl =>
      simp at hl
  · intro vs us zs ws r1 r2
    exact r1.append r2
end
end VG


namespace M2
/-! fractions as pairs of ints: top and bottom; the mathematics of lowest terms, by core Lean alone -/
def g (a b : Int) : Nat := Nat.gcd a.natAbs b.natAbs
/-- bottom above 0, no common divisor -/
def Low (a b : Int) : Prop := 0 < b ∧ g a b = 1
theorem Low.pos {a b : Int} (h : Low a b) : 0 < b := h.1
/-- fraction_of of the text, for a bottom that is not 0 -/
def mk (a b : Int) : Int × Int :=
  let s : Int := if b < 0 then -(g a b : Int) else (g a b : Int)
  (a.fdiv s, b.fdiv s)
theorem g_pos {a b : Int} (h : b ≠ 0) : 0 < g a b := Nat.gcd_pos_of_pos_right _ (Int.natAbs_pos.mpr h)
theorem dvd_l (a b : Int) : (g a b : Int) ∣ a := Int.ofNat_dvd_left.mpr (Nat.gcd_dvd_left _ _)
theorem dvd_r (a b : Int) : (g a b : Int) ∣ b := Int.ofNat_dvd_left.mpr (Nat.gcd_dvd_right _ _)
/-- dividing both by the greatest common divisor -/
theorem div_low {a b : Int} (h : 0 < b) : Low (a / (g a b : Int)) (b / (g a b : Int)) := by
  have gp := g_pos (a := a) (b := b) (by omega)
  obtain ⟨x, hx⟩ := dvd_l a b
  obtain ⟨y, hy⟩ := dvd_r a b
  have gne : (g a b : Int) ≠ 0 := by omega
  have ex : a / (g a b : Int) = x := by rw [Int.ediv_eq_of_eq_mul_right gne hx]
  have ey : b / (g a b : Int) = y := by rw [Int.ediv_eq_of_eq_mul_right gne hy]
  rw [ex, ey]
  have ax : a.natAbs = g a b * x.natAbs := by
    have := congrArg Int.natAbs hx
    rwa [Int.natAbs_mul, Int.natAbs_natCast] at this
  have by' : b.natAbs = g a b * y.natAbs := by
    have := congrArg Int.natAbs hy
    rwa [Int.natAbs_mul, Int.natAbs_natCast] at this
  constructor
  · rcases Int.lt_or_le 0 y with z | z
    · exact z
    · exfalso
      have : (g a b : Int) * y ≤ 0 := Int.mul_nonpos_of_nonneg_of_nonpos (by omega) z
      omega
  · have e : g a b = g a b * g x y := by
      have : Nat.gcd (g a b * x.natAbs) (g a b * y.natAbs) = g a b * Nat.gcd x.natAbs y.natAbs := Nat.gcd_mul_left _ _ _
      unfold g at this ⊢
      rw [← this]
      show Nat.gcd a.natAbs b.natAbs = _
      unfold g at ax by'
      rw [← ax, ← by']
    have e2 : g a b * 1 = g a b * g x y := by rw [Nat.mul_one]; exact e
    exact (Nat.eq_of_mul_eq_mul_left gp e2).symm
theorem g_neg (a b : Int) : g (-a) (-b) = g a b := by
  unfold g
  rw [Int.natAbs_neg, Int.natAbs_neg]
theorem mk_pos {a b : Int} (h : 0 < b) : mk a b = (a / (g a b : Int), b / (g a b : Int)) := by
  have gp := g_pos (a := a) (b := b) (by omega)
  unfold mk
  rw [if_neg (by omega)]
  show (a.fdiv (g a b : Int), b.fdiv (g a b : Int)) = _
  rw [Int.fdiv_eq_ediv_of_nonneg _ (by omega), Int.fdiv_eq_ediv_of_nonneg _ (by omega)]
theorem mk_neg {a b : Int} (h : b < 0) : mk a b = mk (-a) (-b) := by
  have gp := g_pos (a := a) (b := b) (by omega)
  rw [mk_pos (by omega : 0 < -b)]
  unfold mk
  rw [if_pos h, g_neg]
  show (a.fdiv (-(g a b : Int)), b.fdiv (-(g a b : Int))) = _
  obtain ⟨x, hx⟩ := dvd_l a b
  obtain ⟨y, hy⟩ := dvd_r a b
  have gne : (g a b : Int) ≠ 0 := by omega
  have e1 : a = -(g a b : Int) * -x := by rw [Int.neg_mul_neg]; exact hx
  have e2 : b = -(g a b : Int) * -y := by rw [Int.neg_mul_neg]; exact hy
  have e3 : -a = (g a b : Int) * -x := by rw [Int.mul_neg, ← hx]
  have e4 : -b = (g a b : Int) * -y := by rw [Int.mul_neg, ← hy]
  have n : -(g a b : Int) ≠ 0 := by omega
  have f1 : a.fdiv (-(g a b : Int)) = -x := by
    have : (-(g a b : Int) * -x).fdiv (-(g a b : Int)) = -x := Int.mul_fdiv_cancel_left _ n
    rw [← e1] at this
    exact this
  have f2 : b.fdiv (-(g a b : Int)) = -y := by
    have : (-(g a b : Int) * -y).fdiv (-(g a b : Int)) = -y := Int.mul_fdiv_cancel_left _ n
    rw [← e2] at this
    exact this
  rw [f1, f2, Int.ediv_eq_of_eq_mul_right gne e3, Int.ediv_eq_of_eq_mul_right gne e4]
theorem mk_low {a b : Int} (h : b ≠ 0) : Low (mk a b).1 (mk a b).2 := by
  rcases Int.lt_or_lt_of_ne h with z | z
  · rw [mk_neg z, mk_pos (by omega)]
    exact div_low (by omega)
  · rw [mk_pos z]
    exact div_low z
/-- it is the same fraction -/
theorem mk_eq {a b : Int} (h : b ≠ 0) : (mk a b).1 * b = a * (mk a b).2 := by
  have key : ∀ a b : Int, 0 < b → (mk a b).1 * b = a * (mk a b).2 := by
    intro a b hb
    rw [mk_pos hb]
    show a / (g a b : Int) * b = a * (b / (g a b : Int))
    obtain ⟨x, hx⟩ := dvd_l a b
    obtain ⟨y, hy⟩ := dvd_r a b
    have gne : (g a b : Int) ≠ 0 := by
      have := g_pos (a := a) (b := b) (by omega)
      omega
    rw [Int.ediv_eq_of_eq_mul_right gne hx, Int.ediv_eq_of_eq_mul_right gne hy]
    calc x * b = x * ((g a b : Int) * y) := by rw [← hy]
      _ = ((g a b : Int) * x) * y := by rw [← Int.mul_assoc, Int.mul_comm x]
      _ = a * y := by rw [← hx]
  rcases Int.lt_or_lt_of_ne h with z | z
  · rw [mk_neg z]
    have := key (-a) (-b) (by omega)
    rw [Int.mul_neg, Int.neg_mul] at this
    omega
  · exact key a b z
theorem natAbs_div_le (a : Int) {d : Int} (h : 0 < d) : (a / d).natAbs ≤ a.natAbs := Int.natAbs_ediv_le_natAbs a d
theorem mk_size {a b : Int} (h : b ≠ 0) : (mk a b).1.natAbs ≤ a.natAbs ∧ (mk a b).2.natAbs ≤ b.natAbs := by
  have key : ∀ a b : Int, 0 < b → (mk a b).1.natAbs ≤ a.natAbs ∧ (mk a b).2.natAbs ≤ b.natAbs := by
    intro a b hb
    rw [mk_pos hb]
    have gp := g_pos (a := a) (b := b) (by omega)
    exact ⟨natAbs_div_le a (by omega), natAbs_div_le b (by omega)⟩
  rcases Int.lt_or_lt_of_ne h with z | z
  · rw [mk_neg z]
    have := key (-a) (-b) (by omega)
    rwa [Int.natAbs_neg, Int.natAbs_neg] at this
  · exact key a b z
/-- in lowest terms there is just one pair -/
theorem low_eq {a b c d : Int} (h1 : Low a b) (h2 : Low c d) (h : a * d = c * b) : a = c ∧ b = d := by
  have e : a.natAbs * d.natAbs = c.natAbs * b.natAbs := by rw [← Int.natAbs_mul, ← Int.natAbs_mul, h]
  have c1 : Nat.Coprime a.natAbs b.natAbs := h1.2
  have c2 : Nat.Coprime c.natAbs d.natAbs := h2.2
  have d1 : b.natAbs ∣ d.natAbs := c1.symm.dvd_of_dvd_mul_left ⟨c.natAbs, by rw [e, Nat.mul_comm]⟩
  have d2 : d.natAbs ∣ b.natAbs := c2.symm.dvd_of_dvd_mul_left ⟨a.natAbs, by rw [← e, Nat.mul_comm]⟩
  have eb : b.natAbs = d.natAbs := Nat.dvd_antisymm d1 d2
  have hb := h1.1
  have hd := h2.1
  have ebd : b = d := by omega
  subst ebd
  exact ⟨Int.eq_of_mul_eq_mul_right (by omega) h, rfl⟩
/-- added of the text -/
def add (p q : Int × Int) : Int × Int :=
  let s : Int := g p.2 q.2
  let rest := p.2 / s
  let high := p.1 * (q.2 / s) + q.1 * rest
  let common : Int := g high s
  (high / common, rest * (q.2 / common))
theorem cop_dvd_l {a b c : Nat} (h : Nat.Coprime a b) (d : c ∣ a) : Nat.Coprime c b := Nat.Coprime.coprime_dvd_left d h
/-- the sum of two fractions in lowest terms, in lowest terms -/
theorem add_ok {p q : Int × Int} (hp : Low p.1 p.2) (hq : Low q.1 q.2) : Low (add p q).1 (add p q).2 ∧ (add p q).1 * (p.2 * q.2) = (p.1 * q.2 + q.1 * p.2) * (add p q).2 := by
  obtain ⟨a, b⟩ := p
  obtain ⟨c, d⟩ := q
  have hb : 0 < b := hp.1
  have hd : 0 < d := hq.1
  have gp := g_pos (a := b) (b := d) (by omega)
  obtain ⟨x, hx⟩ := dvd_l b d
  obtain ⟨y, hy⟩ := dvd_r b d
  have low := div_low (a := b) (b := d) hd
  have sne : (g b d : Int) ≠ 0 := by omega
  have ex : b / (g b d : Int) = x := Int.ediv_eq_of_eq_mul_right sne hx
  have ey : d / (g b d : Int) = y := Int.ediv_eq_of_eq_mul_right sne hy
  rw [ex, ey] at low
  have hxp : 0 < x := by
    rcases Int.lt_or_le 0 x with z | z
    · exact z
    · have : (g b d : Int) * x ≤ 0 := Int.mul_nonpos_of_nonneg_of_nonpos (by omega) z
      omega
  have hyp : 0 < y := low.1
  show Low ((a * (d / (g b d : Int)) + c * (b / (g b d : Int))) / (g (a * (d / (g b d : Int)) + c * (b / (g b d : Int))) (g b d : Int) : Int)) (b / (g b d : Int) * (d / (g (a * (d / (g b d : Int)) + c * (b / (g b d : Int))) (g b d : Int) : Int))) ∧
    (a * (d / (g b d : Int)) + c * (b / (g b d : Int))) / (g (a * (d / (g b d : Int)) + c * (b / (g b d : Int))) (g b d : Int) : Int) * (b * d) = (a * d + c * b) * (b / (g b d : Int) * (d / (g (a * (d / (g b d : Int)) + c * (b / (g b d : Int))) (g b d : Int) : Int)))
  rw [ex, ey]
  generalize hh : a * y + c * x = h
  generalize hs : (g b d : Int) = s at hx hy sne
  have hsp : 0 < s := by omega
  have kp := g_pos (a := h) (b := s) (by omega)
  obtain ⟨u, hu⟩ := dvd_l h s
  obtain ⟨v, hv⟩ := dvd_r h s
  have low2 := div_low (a := h) (b := s) hsp
  have kne : (g h s : Int) ≠ 0 := by omega
  have eu : h / (g h s : Int) = u := Int.ediv_eq_of_eq_mul_right kne hu
  have ev : s / (g h s : Int) = v := Int.ediv_eq_of_eq_mul_right kne hv
  rw [eu, ev] at low2
  have ed : d / (g h s : Int) = v * y := by
    refine Int.ediv_eq_of_eq_mul_right kne ?_
    rw [← Int.mul_assoc, ← hv, ← hy]
  rw [eu, ed]
  generalize (g h s : Int) = k at hu hv kne
  have hvp : 0 < v := low2.1
  -- the numbers without common divisors
  have cab : Nat.Coprime a.natAbs b.natAbs := hp.2
  have ccd : Nat.Coprime c.natAbs d.natAbs := hq.2
  have cxy : Nat.Coprime x.natAbs y.natAbs := low.2
  have cuv : Nat.Coprime u.natAbs v.natAbs := low2.2
  have dxb : x.natAbs ∣ b.natAbs := ⟨s.natAbs, by rw [hx, Int.natAbs_mul, Nat.mul_comm]⟩
  have dyd : y.natAbs ∣ d.natAbs := ⟨s.natAbs, by rw [hy, Int.natAbs_mul, Nat.mul_comm]⟩
  have duh : u.natAbs ∣ h.natAbs := ⟨k.natAbs, by rw [hu, Int.natAbs_mul, Nat.mul_comm]⟩
  have chx : Nat.Coprime h.natAbs x.natAbs := by
    have e : Int.gcd h x = Int.gcd (a * y) x := by
      rw [← hh]
      exact Int.gcd_add_mul_right_left _ _ _
    have e2 : Nat.Coprime (a * y).natAbs x.natAbs := by
      rw [Int.natAbs_mul]
      exact Nat.Coprime.mul_left (Nat.Coprime.coprime_dvd_right dxb cab) cxy.symm
    exact e.trans e2
  have chy : Nat.Coprime h.natAbs y.natAbs := by
    have e : Int.gcd h y = Int.gcd (c * x) y := by
      rw [← hh]
      exact Int.gcd_mul_right_add_left _ _ _
    have e2 : Nat.Coprime (c * x).natAbs y.natAbs := by
      rw [Int.natAbs_mul]
      exact Nat.Coprime.mul_left (Nat.Coprime.coprime_dvd_right dyd ccd) cxy
    exact e.trans e2
  refine ⟨⟨Int.mul_pos hxp (Int.mul_pos hvp hyp), ?_⟩, ?_⟩
  · show Nat.Coprime u.natAbs (x * (v * y)).natAbs
    rw [Int.natAbs_mul, Int.natAbs_mul]
    exact Nat.Coprime.mul_right (cop_dvd_l chx duh) (Nat.Coprime.mul_right cuv (cop_dvd_l chy duh))
  · have e1 : a * d + c * b = s * h := by
      rw [← hh, hx, hy, Int.mul_add]
      rw [show a * (s * y) = s * (a * y) by rw [← Int.mul_assoc, Int.mul_comm a s, Int.mul_assoc], show c * (s * x) = s * (c * x) by rw [← Int.mul_assoc, Int.mul_comm c s, Int.mul_assoc]]
    rw [e1, hu]
    have e2 : b * d = (s * x) * (s * y) := by rw [← hx, ← hy]
    rw [e2]
    have e3 : s * (k * u) * (x * (v * y)) = u * ((s * x) * ((k * v) * y)) := by
      simp only [Int.mul_assoc, Int.mul_comm, Int.mul_left_comm]
    rw [e3, ← hv]
theorem add_size {p q : Int × Int} (hp : Low p.1 p.2) (hq : Low q.1 q.2) {m n : Nat} (a1 : p.1.natAbs < 2 ^ m) (a2 : p.2.natAbs < 2 ^ m) (b1 : q.1.natAbs < 2 ^ n) (b2 : q.2.natAbs < 2 ^ n) :
    (add p q).1.natAbs < 2 ^ (m + n + 1) ∧ (add p q).2.natAbs < 2 ^ (m + n + 1) := by
  have hb := hp.1
  have hd := hq.1
  have gp := g_pos (a := p.2) (b := q.2) (by omega)
  have l1 : (p.2 / (g p.2 q.2 : Int)).natAbs ≤ p.2.natAbs := natAbs_div_le _ (by omega)
  have l2 : (q.2 / (g p.2 q.2 : Int)).natAbs ≤ q.2.natAbs := natAbs_div_le _ (by omega)
  have hp2 : 2 ^ (m + n + 1) = 2 ^ m * 2 ^ n + 2 ^ m * 2 ^ n := by
    rw [Nat.pow_succ, Nat.pow_add]
    omega
  have mul : ∀ {x y a b : Nat}, x < a → y < b → x * y < a * b := fun h1 h2 => Nat.mul_lt_mul'' h1 h2
  have hh : (p.1 * (q.2 / (g p.2 q.2 : Int)) + q.1 * (p.2 / (g p.2 q.2 : Int))).natAbs < 2 ^ (m + n + 1) := by
    have e1 := Int.natAbs_add_le (p.1 * (q.2 / (g p.2 q.2 : Int))) (q.1 * (p.2 / (g p.2 q.2 : Int)))
    rw [Int.natAbs_mul, Int.natAbs_mul] at e1
    have e2 := mul a1 (Nat.lt_of_le_of_lt l2 b2)
    have e3 := mul b1 (Nat.lt_of_le_of_lt l1 a2)
    rw [Nat.mul_comm (2 ^ n)] at e3
    omega
  have kp := g_pos (a := p.1 * (q.2 / (g p.2 q.2 : Int)) + q.1 * (p.2 / (g p.2 q.2 : Int))) (b := (g p.2 q.2 : Int)) (by omega)
  constructor
  · exact Nat.lt_of_le_of_lt (natAbs_div_le _ (by omega)) hh
  · show (p.2 / (g p.2 q.2 : Int) * (q.2 / (g (p.1 * (q.2 / (g p.2 q.2 : Int)) + q.1 * (p.2 / (g p.2 q.2 : Int))) (g p.2 q.2 : Int) : Int))).natAbs < _
    rw [Int.natAbs_mul]
    have e4 := natAbs_div_le q.2 (d := (g (p.1 * (q.2 / (g p.2 q.2 : Int)) + q.1 * (p.2 / (g p.2 q.2 : Int))) (g p.2 q.2 : Int) : Int)) (by omega)
    have e5 := mul (Nat.lt_of_le_of_lt l1 a2) (Nat.lt_of_le_of_lt e4 b2)
    omega
end M2


namespace FR
open PySem PySem.Spec PyProof.Rows L2 VG
/-! fractions in the heap -/
abbrev Q2 := Int × Int
def pV (p : Q2) : List V := [.int p.1, .int p.2]
def Bt (n : Nat) (p : Q2) : Prop := p.1.natAbs < 2 ^ n ∧ p.2.natAbs < 2 ^ n
theorem Bt.mono {m n : Nat} {p : Q2} (h : Bt m p) (hm : m ≤ n) : Bt n p := ⟨Nat.lt_of_lt_of_le h.1 (Nat.pow_le_pow_right (by decide) hm), Nat.lt_of_lt_of_le h.2 (Nat.pow_le_pow_right (by decide) hm)⟩
theorem same_upd {H : Hp} {p : Addr} {o : HO} (h : H p = none) : Same H (upd H p o) := fun b x e => by
  rw [upd_ne (ne_of_none e h)]
  exact e
theorem seqT {K : PySem.W.Frag} {H H' : Hp} {a : Addr} {xs : List V} (e : Same H H') (h : SqT K H a xs) : SqT K H' a xs := by
  rcases h with (h | ⟨o, h⟩) | h
  · exact .inl (.inl (e _ _ h))
  · exact .inl (.inr ⟨o, e _ _ h⟩)
  · exact .inr h
theorem tyT {K : PySem.W.Frag} {H : Hp} {a : Addr} {xs : List V} (h : SqT K H a xs) : TyX K H (.ref a) (.type "tuple") := by
  rcases h with (h | ⟨o, h⟩) | ⟨o, its, n, h1, h2, h3⟩
  · exact .base (.tup h)
  · exact .fTuple h
  · exact .kTuple h1 h2
theorem kb1 {K : PySem.W.Frag} : PySem.W.kitOne K (.type "int") (.type "int") = some true := kit_ty (by decide +kernel)
theorem kb2 {K : PySem.W.Frag} : PySem.W.kitOne K (.type "int") (.type "bool") = some false := kit_ty (by decide +kernel)
def Frs (K : PySem.W.Frag) (H : Hp) : List V → List Q2 → Prop
  | [], [] => True
  | v :: vs, p :: ps => (∃ t, v = .ref t ∧ SqT K H t (pV p)) ∧ Frs K H vs ps
  | _, _ => False
theorem Frs.mono {K : PySem.W.Frag} {H H' : Hp} (e : Same H H') : ∀ {vs : List V} {ps : List Q2}, Frs K H vs ps → Frs K H' vs ps
  | [], [], _ => trivial
  | _ :: _, _ :: _, ⟨⟨t, e1, h⟩, r⟩ => ⟨⟨t, e1, seqT e h⟩, r.mono e⟩
  | [], _ :: _, h => h.elim
  | _ :: _, [], h => h.elim
theorem Frs.len {K : PySem.W.Frag} {H : Hp} : ∀ {vs : List V} {ps : List Q2}, Frs K H vs ps → vs.length = ps.length
  | [], [], _ => rfl
  | _ :: _, _ :: _, h => by rw [List.length_cons, List.length_cons, h.2.len]
  | [], _ :: _, h => h.elim
  | _ :: _, [], h => h.elim
theorem Frs.get {K : PySem.W.Frag} {H : Hp} : ∀ {vs : List V} {ps : List Q2} {i : Nat} {v : V}, Frs K H vs ps → vs[i]? = some v → ∃ t p, v = .ref t ∧ ps[i]? = some p ∧ SqT K H t (pV p)
  | [], [], _, _, _, h => by simp at h
  | a :: _, p :: _, 0, v, h, e => by
    have e1 : a = v := Option.some.inj e
    subst e1
    obtain ⟨t, e2, q⟩ := h.1
    exact ⟨t, p, e2, rfl, q⟩
  | _ :: vs, _ :: ps, i + 1, v, h, e => h.2.get (i := i) e
  | [], _ :: _, _, _, h, _ => h.elim
  | _ :: _, [], _, _, h, _ => h.elim
theorem Frs.snoc {K : PySem.W.Frag} {H : Hp} {t : Addr} {p : Q2} (hv : SqT K H t (pV p)) : ∀ {vs : List V} {ps : List Q2}, Frs K H vs ps → Frs K H (vs ++ [.ref t]) (ps ++ [p])
  | [], [], _ => ⟨⟨t, rfl, hv⟩, trivial⟩
  | _ :: _, _ :: _, h => ⟨h.1, h.2.snoc hv⟩
  | [], _ :: _, h => h.elim
  | _ :: _, [], h => h.elim
def lessQ (p q : Q2) : Bool := decide (p.1 * q.2 < q.1 * p.2)
def bestF (lt : Q2 → Q2 → Bool) : Option (V × Q2) → List (V × Q2) → Option (V × Q2)
  | b, [] => b
  | none, x :: xs => bestF lt (some x) xs
  | some b, x :: xs => bestF lt (if lt x.2 b.2 = true then some x else some b) xs
def bestV (o : Option (V × Q2)) : V := match o with
  | none => .non
  | some x => x.1
/-- what a value is to is_fraction: a whole number, or none -/
def Part (K : PySem.W.Frag) (H : Hp) (x : V) (o : Option Int) : Prop :=
  (∃ a, x = .int a ∧ o = some a) ∨ (o = none ∧ ∃ (ty : String) (b1 b2 : Bool), TyX K H x (.type ty) ∧ kitB ty "int" = some b1 ∧ kitB ty "bool" = some b2 ∧ (b1 && !b2) = false)
def okFr : Option Int → Option Int → Bool
  | some a, some b => decide (0 < b) && decide (M2.g a b = 1)
  | _, _ => false
section
variable {P : Program} {w : World} {K : PySem.W.Frag} {mg : Str → Option Value} {base : Heap}
def spInt (K : PySem.W.Frag) : Sp := fun vs H Q _ => ∃ (v : V) (o : Option Int), vs = [v] ∧ Part K H v o ∧ Q (.bl o.isSome) H
def spTup (K : PySem.W.Frag) : Sp := fun vs H Q _ => ∃ (v : V) (n : Nat), vs = [v, .int n] ∧ ((∃ ty : String, TyX K H v (.type ty) ∧ kitB ty "tuple" = some false ∧ Q (.bl false) H) ∨ ∃ p xs, v = .ref p ∧ SqT K H p xs ∧ Q (.bl (decide (xs.length = n))) H)
def spIsFr (K : PySem.W.Frag) : Sp := fun vs H Q _ => ∃ v : V, vs = [v] ∧ ((∃ ty : String, TyX K H v (.type ty) ∧ kitB ty "tuple" = some false ∧ Q (.bl false) H) ∨ (∃ p xs, v = .ref p ∧ SqT K H p xs ∧ xs.length ≠ 2 ∧ Q (.bl false) H) ∨
  ∃ p x y o1 o2, v = .ref p ∧ SqT K H p [x, y] ∧ Part K H x o1 ∧ Part K H y o2 ∧ Q (.bl (okFr o1 o2)) H)
def spAdd (K : PySem.W.Frag) : Sp := fun vs H Q _ => ∃ (s t : Addr) (p q : Q2), vs = [.ref s, .ref t] ∧ SqT K H s (pV p) ∧ SqT K H t (pV q) ∧ M2.Low p.1 p.2 ∧ M2.Low q.1 q.2 ∧ Bt 3000 p ∧ Bt 3000 q ∧
  ∀ H' u, Same H H' → H u = none → H' u = some (.tup (pV (M2.add p q))) → Q (.ref u) H'
def neg (p : Q2) : Q2 := (-p.1, p.2)
def spOpp (K : PySem.W.Frag) : Sp := fun vs H Q _ => ∃ (s : Addr) (p : Q2), vs = [.ref s] ∧ SqT K H s (pV p) ∧ ∀ H' u, Same H H' → H u = none → H' u = some (.tup (pV (neg p))) → Q (.ref u) H'
def spTaken (K : PySem.W.Frag) : Sp := fun vs H Q _ => ∃ (s t : Addr) (p q : Q2), vs = [.ref s, .ref t] ∧ SqT K H s (pV p) ∧ SqT K H t (pV q) ∧ M2.Low p.1 p.2 ∧ M2.Low q.1 q.2 ∧ Bt 3000 p ∧ Bt 3000 q ∧
  ∀ H' u, Same H H' → H u = none → H' u = some (.tup (pV (M2.add p (neg q)))) → Q (.ref u) H'
def spLess (K : PySem.W.Frag) : Sp := fun vs H Q _ => ∃ (s t : Addr) (p q : Q2), vs = [.ref s, .ref t] ∧ SqT K H s (pV p) ∧ SqT K H t (pV q) ∧ Bt 3000 p ∧ Bt 3000 q ∧ Q (.bl (lessQ p q)) H
def spSmall (K : PySem.W.Frag) : Sp := fun vs H Q _ => ∃ (s : Addr) (p : Q2), vs = [.ref s] ∧ SqT K H s (pV p) ∧ Q (.bl (decide ((if p.1 < 0 then -p.1 else p.1) < p.2))) H
def spFloor (K : PySem.W.Frag) : Sp := fun vs H Q _ => ∃ (s : Addr) (p : Q2), vs = [.ref s] ∧ SqT K H s (pV p) ∧ 0 < p.2 ∧ Bt 3000 p ∧ Q (.int (p.1 / p.2)) H
def spCeil (K : PySem.W.Frag) : Sp := fun vs H Q _ => ∃ (s : Addr) (p : Q2), vs = [.ref s] ∧ SqT K H s (pV p) ∧ 0 < p.2 ∧ Bt 3000 p ∧ Q (.int (-(-p.1 / p.2))) H
def partQ (p : Q2) : Q2 := (p.1 - p.1 / p.2 * p.2, p.2)
def spPart (K : PySem.W.Frag) : Sp := fun vs H Q _ => ∃ (s : Addr) (p : Q2), vs = [.ref s] ∧ SqT K H s (pV p) ∧ 0 < p.2 ∧ Bt 3000 p ∧ ∀ H' u, Same H H' → H u = none → H' u = some (.tup (pV (partQ p))) → Q (.ref u) H'
def sumQ (ps : List Q2) : Q2 := ps.foldl M2.add (0, 1)
def spSum (K : PySem.W.Frag) : Sp := fun vs H Q _ => ∃ (s : Addr) (xs : List V) (ps : List Q2), vs = [.ref s] ∧ (SqT K H s xs ∨ SqL K H s xs) ∧ Frs K H xs ps ∧ ps.length ≤ 50 ∧ (∀ p ∈ ps, M2.Low p.1 p.2 ∧ Bt 45 p) ∧ ∀ H' u, Same H H' → SqT K H' u (pV (sumQ ps)) → Q (.ref u) H'
def spBest (K : PySem.W.Frag) (lt : Q2 → Q2 → Bool) : Sp := fun vs H Q _ => ∃ (s : Addr) (xs : List V) (ps : List Q2), vs = [.ref s] ∧ SqT K H s xs ∧ Frs K H xs ps ∧ (∀ p ∈ ps, Bt 3000 p) ∧ Q (bestV (bestF lt none (xs.zip ps))) H
end
theorem at0 (x y : V) : atI [x, y] 0 = some x := rfl
theorem at1 (x y : V) : atI [x, y] 1 = some y := rfl
theorem mulW {i j : Int} (h1 : i.natAbs < 2 ^ 400000) (h2 : j.natAbs < 2 ^ 400000) : CMulW i j := wide_mul h1 h2 (by decide) (by decide) (by decide)
theorem up {n m : Nat} {x : Nat} (h : x < 2 ^ n) (hm : n ≤ m) : x < 2 ^ m := Nat.lt_of_lt_of_le h (Nat.pow_le_pow_right (by decide) hm)
end FR
namespace K2
open PySem PySem.Spec PyProof.Rows L2 VG FR
def topS (i : Nat) : Stmt := PySem.Challenge.pw_centsatonce_k02_whole_fractions.main.body.getD i (.Pass ⟨0, 0, 0, 0⟩)
abbrev s_is_an_integer : Stmt := topS 2
abbrev N_is_an_integer : List Str := ["value"]
theorem sc_is_an_integer : FnScope N_is_an_integer ["value"] (defScope s_is_an_integer) := ⟨rfl, rfl, rfl, by decide +kernel, rfl, by decide +kernel, by decide +kernel⟩
abbrev s_is_tuple_of : Stmt := topS 3
abbrev N_is_tuple_of : List Str := ["value", "many"]
theorem sc_is_tuple_of : FnScope N_is_tuple_of ["value", "many"] (defScope s_is_tuple_of) := ⟨rfl, rfl, rfl, by decide +kernel, rfl, by decide +kernel, by decide +kernel⟩
abbrev s_is_fraction : Stmt := topS 11
abbrev N_is_fraction : List Str := ["value", "top", "bottom"]
theorem sc_is_fraction : FnScope N_is_fraction ["value"] (defScope s_is_fraction) := ⟨rfl, rfl, rfl, by decide +kernel, rfl, by decide +kernel, by decide +kernel⟩
abbrev s_added : Stmt := topS 12
abbrev N_added : List Str := ["one", "other", "top", "bottom", "more", "under", "shared", "rest", "high", "common"]
theorem sc_added : FnScope N_added ["one", "other"] (defScope s_added) := ⟨rfl, rfl, rfl, by decide +kernel, rfl, by decide +kernel, by decide +kernel⟩
abbrev s_opposite_of : Stmt := topS 13
abbrev N_opposite_of : List Str := ["one", "top", "bottom"]
theorem sc_opposite_of : FnScope N_opposite_of ["one"] (defScope s_opposite_of) := ⟨rfl, rfl, rfl, by decide +kernel, rfl, by decide +kernel, by decide +kernel⟩
abbrev s_taken : Stmt := topS 14
abbrev N_taken : List Str := ["one", "other"]
theorem sc_taken : FnScope N_taken ["one", "other"] (defScope s_taken) := ⟨rfl, rfl, rfl, by decide +kernel, rfl, by decide +kernel, by decide +kernel⟩
abbrev s_is_less : Stmt := topS 16
abbrev N_is_less : List Str := ["one", "other"]
theorem sc_is_less : FnScope N_is_less ["one", "other"] (defScope s_is_less) := ⟨rfl, rfl, rfl, by decide +kernel, rfl, by decide +kernel, by decide +kernel⟩
abbrev s_is_small : Stmt := topS 17
abbrev N_is_small : List Str := ["one"]
theorem sc_is_small : FnScope N_is_small ["one"] (defScope s_is_small) := ⟨rfl, rfl, rfl, by decide +kernel, rfl, by decide +kernel, by decide +kernel⟩
abbrev s_floor_of : Stmt := topS 18
abbrev N_floor_of : List Str := ["one"]
theorem sc_floor_of : FnScope N_floor_of ["one"] (defScope s_floor_of) := ⟨rfl, rfl, rfl, by decide +kernel, rfl, by decide +kernel, by decide +kernel⟩
abbrev s_ceiling_of : Stmt := topS 19
abbrev N_ceiling_of : List Str := ["one"]
theorem sc_ceiling_of : FnScope N_ceiling_of ["one"] (defScope s_ceiling_of) := ⟨rfl, rfl, rfl, by decide +kernel, rfl, by decide +kernel, by decide +kernel⟩
abbrev s_part_of : Stmt := topS 20
abbrev N_part_of : List Str := ["one", "top", "bottom"]
theorem sc_part_of : FnScope N_part_of ["one"] (defScope s_part_of) := ⟨rfl, rfl, rfl, by decide +kernel, rfl, by decide +kernel, by decide +kernel⟩
abbrev s_sum_of : Stmt := topS 21
abbrev N_sum_of : List Str := ["some", "total", "one"]
theorem sc_sum_of : FnScope N_sum_of ["some"] (defScope s_sum_of) := ⟨rfl, rfl, rfl, by decide +kernel, rfl, by decide +kernel, by decide +kernel⟩
abbrev s_least_of : Stmt := topS 23
abbrev N_least_of : List Str := ["some", "least", "one"]
theorem sc_least_of : FnScope N_least_of ["some"] (defScope s_least_of) := ⟨rfl, rfl, rfl, by decide +kernel, rfl, by decide +kernel, by decide +kernel⟩
abbrev s_greatest_of : Stmt := topS 24
abbrev N_greatest_of : List Str := ["some", "greatest", "one"]
theorem sc_greatest_of : FnScope N_greatest_of ["some"] (defScope s_greatest_of) := ⟨rfl, rfl, rfl, by decide +kernel, rfl, by decide +kernel, by decide +kernel⟩

section
variable {P : Program} {w : World} {K : PySem.W.Frag} {mg : Str → Option Value} {base : Heap}
theorem ok_is_an_integer {f : Addr} {fd : FuncData} (F : Fun K "is_an_integer" "is_an_integer" s_is_an_integer f fd) (z_isinstance : mg "isinstance" = none) (z_int : mg "int" = none) (z_bool : mg "bool" = none) :
    FnOk P w K mg base CX0 1 f fd ["value"] (spInt K) := by
  refine F.ok sc_is_an_integer (fun vs H Q E h => ?_) (fun cdv A outer s H vs Q E hr h => ?_)
  · obtain ⟨v, o, rfl, _⟩ := h
    rfl
  · obtain ⟨v, o, rfl, hp, q⟩ := h
    refine ⟨_, (pss_one (ps_ret (pe_and (pe_callB call_isi (by rfl) z_isinstance (by decide +kernel) (pa_cons (pv 0) (pa_cons (pe_bltn (v := .ty "int") (by rfl) z_int (by decide +kernel) rfl) pa_nil))) (pe_one (pe_not (pe_callB call_isi (by rfl) z_isinstance (by decide +kernel) (pa_cons (pv 0) (pa_cons (pe_bltn (v := .ty "bool") (by rfl) z_bool (by decide +kernel) rfl) pa_nil)))))))), ?_⟩
    rcases hp with ⟨a, rfl, rfl⟩ | ⟨rfl, ty, b1, b2, t, k1, k2, e⟩
    · refine ⟨_, rfl, _, _, _, _, true, rfl, .ty "int", .base (.int a), kb1, true, rfl, iteT ?_⟩
      exact ⟨_, rfl, _, _, _, _, false, rfl, .ty "bool", .base (.int a), kb2, _, rfl, q⟩
    · refine ⟨_, rfl, _, _, _, _, b1, rfl, .ty "int", t, kit_ty k1, b1, rfl, ?_⟩
      cases b1 with
      | false => exact iteF q
      | true =>
        refine iteT ⟨_, rfl, _, _, _, _, b2, rfl, .ty "bool", t, kit_ty k2, _, rfl, ?_⟩
        have e2 : (!b2) = false := e
        rw [e2]
        exact q
theorem ok_is_tuple_of {f : Addr} {fd : FuncData} (F : Fun K "is_tuple_of" "is_tuple_of" s_is_tuple_of f fd) (z_isinstance : mg "isinstance" = none) (z_tuple : mg "tuple" = none) (z_len : mg "len" = none) :
    FnOk P w K mg base CX0 1 f fd ["value", "many"] (spTup K) := by
  refine F.ok sc_is_tuple_of (fun vs H Q E h => ?_) (fun cdv A outer s H vs Q E hr h => ?_)
  · obtain ⟨v, o, rfl, _⟩ := h
    rfl
  · obtain ⟨v, n, rfl, h⟩ := h
    refine ⟨_, (pss_one (ps_ret (pe_and (pe_callB call_isi (by rfl) z_isinstance (by decide +kernel) (pa_cons (pv 0) (pa_cons (pe_bltn (v := .ty "tuple") (by rfl) z_tuple (by decide +kernel) rfl) pa_nil))) (pe_one (pe_cmpR op_eq (pe_callB call_len_seq (by rfl) z_len (by decide +kernel) (pa_cons (pv 0) pa_nil)) (pv 1) (nomark _)))))), ?_⟩
    rcases h with ⟨ty, t, k, q⟩ | ⟨p, xs, rfl, hS, q⟩
    · exact ⟨_, rfl, _, _, _, _, false, rfl, .ty "tuple", t, kit_ty k, false, rfl, iteF q⟩
    · refine ⟨_, rfl, _, _, _, _, true, rfl, .ty "tuple", tyT hS, kit_ty (by decide +kernel), true, rfl, iteT ⟨_, rfl, p, xs, rfl, .inr hS, _, rfl, rfl, ?_⟩⟩
      have e : decide (V.int (xs.length : Int) = V.int (n : Int)) = decide (xs.length = n) := by
        by_cases h : xs.length = n
        · rw [decide_eq_true h, decide_eq_true (by rw [h])]
        · rw [decide_eq_false h, decide_eq_false (fun z => h (by have := V.int.inj z; omega))]
      rw [e]
      exact q
theorem ok_is_fraction {f : Addr} {fd : FuncData} (F : Fun K "is_fraction" "is_fraction" s_is_fraction f fd) (C_is_an_integer : Cl P w K mg base 1 "is_an_integer" (spInt K)) (C_is_tuple_of : Cl P w K mg base 1 "is_tuple_of" (spTup K)) (m_gcd : mg "gcd" = some (.builtin "math.gcd")) :
    FnOk P w K mg base CX0 2 f fd ["value"] (spIsFr K) := by
  refine F.ok sc_is_fraction (fun vs H Q E h => ?_) (fun cdv A outer s H vs Q E hr h => ?_)
  · obtain ⟨v, rfl, _⟩ := h
    rfl
  · obtain ⟨v, rfl, h⟩ := h
    refine ⟨_, (pss_cons (ps_if (pt_not (pt_val (pe_cl C_is_tuple_of hr (by decide) rfl (pa_cons (pv 0) (pa_cons pe_int pa_nil)))))
      (pss_one (ps_ret pe_bl))
      pss_nil)
    (pss_cons (ps_asg (pv 0) (pg_tup rfl (pgs_cons (pg_name (i := 1) sc_is_fraction.nd rfl (.inl rfl)) (pgs_cons (pg_name (i := 2) sc_is_fraction.nd rfl (.inl rfl)) pgs_nil))))
    (pss_cons (ps_if (PW.pt (pw_or (pt_not (pt_val (pe_cl C_is_an_integer hr (by decide) rfl (pa_cons (pv 1) pa_nil)))) (pw_or1 (pt_not (pt_val (pe_cl C_is_an_integer hr (by decide) rfl (pa_cons (pv 2) pa_nil)))))))
      (pss_one (ps_ret pe_bl))
      pss_nil)
    (pss_one (ps_ret (pe_and (pe_cmpR op_gt (pv 2) pe_int (nomark _)) (pe_one (pe_cmpR op_eq (pe_callBfun cr_gcd rfl m_gcd (pa_cons (pv 1) (pa_cons (pv 2) pa_nil))) pe_int (nomark _))))))))), ?_⟩
    rcases h with ⟨ty, t, k, q⟩ | ⟨p, xs, rfl, hS, hl, q⟩ | ⟨p, x, y, o1, o2, rfl, hS, h1, h2, q⟩
    · exact ⟨_, rfl, v, 2, rfl, .inl ⟨ty, t, k, _, rfl, iteT q⟩⟩
    · refine ⟨_, rfl, _, 2, rfl, .inr ⟨p, xs, rfl, hS, _, rfl, ?_⟩⟩
      rw [decide_eq_false hl]
      exact iteT q
    · refine ⟨_, rfl, _, 2, rfl, .inr ⟨p, _, rfl, hS, _, rfl, ?_⟩⟩
      refine iteF ?_
      refine ⟨_, rfl, p, _, rfl, hS, rfl, _, _, rfl, _, _, rfl, rfl, ?_⟩
      refine ⟨_, rfl, x, o1, rfl, h1, _, rfl, ?_⟩
      rcases h1 with ⟨a, rfl, rfl⟩ | ⟨rfl, _⟩
      · refine iteF ⟨_, rfl, y, o2, rfl, h2, _, rfl, ?_⟩
        rcases h2 with ⟨b, rfl, rfl⟩ | ⟨rfl, _⟩
        · refine iteF ⟨_, rfl, _, _, rfl, rfl, _, rfl, ?_⟩
          have q2 : Q (.bl (decide (0 < b) && decide (M2.g a b = 1))) H := q
          by_cases hb : 0 < b
          · rw [decide_eq_true hb, Bool.true_and] at q2
            rw [decide_eq_true (show b > 0 from hb)]
            refine iteT ⟨_, rfl, _, rfl, a, b, rfl, rfl, ?_⟩
            have e : decide (V.int ((Nat.gcd a.natAbs b.natAbs : Nat) : Int) = V.int 1) = decide (M2.g a b = 1) := by
              by_cases h : M2.g a b = 1
              · rw [decide_eq_true h, decide_eq_true]
                show V.int ((M2.g a b : Nat) : Int) = V.int 1
                rw [h]
                rfl
              · rw [decide_eq_false h, decide_eq_false]
                intro z
                have z2 : ((M2.g a b : Nat) : Int) = 1 := V.int.inj z
                omega
            rw [e]
            exact q2
          · rw [decide_eq_false hb, Bool.false_and] at q2
            rw [decide_eq_false (show ¬ b > 0 from hb)]
            exact iteF q2
        · exact iteT q
      · have q2 : Q (.bl false) H := by
          cases o2 <;> exact q
        exact iteT (iteT q2)
theorem ok_added {f : Addr} {fd : FuncData} (F : Fun K "added" "added" s_added f fd) (m_gcd : mg "gcd" = some (.builtin "math.gcd")) :
    FnOk P w K mg base CX0 1 f fd ["one", "other"] (spAdd K) := by
  refine F.ok sc_added (fun vs H Q E h => ?_) (fun cdv A outer s H vs Q E hr h => ?_)
  · obtain ⟨_, _, _, _, rfl, _⟩ := h
    rfl
  · obtain ⟨s1, t1, p, q, rfl, h1, h2, lp, lq, bp, bq, fin⟩ := h
    refine ⟨_, (pss_cons (ps_asg (pv 0) (pg_tup rfl (pgs_cons (pg_name (i := 2) sc_added.nd rfl (.inl rfl)) (pgs_cons (pg_name (i := 3) sc_added.nd rfl (.inl rfl)) pgs_nil))))
    (pss_cons (ps_asg (pv 1) (pg_tup rfl (pgs_cons (pg_name (i := 4) sc_added.nd rfl (.inl rfl)) (pgs_cons (pg_name (i := 5) sc_added.nd rfl (.inl rfl)) pgs_nil))))
    (pss_cons (ps_set (i := 6) sc_added.nd rfl (.inl rfl) (pe_callBfun cr_gcd rfl m_gcd (pa_cons (pv 3) (pa_cons (pv 5) pa_nil))))
    (pss_cons (ps_set (i := 7) sc_added.nd rfl (.inl rfl) (pe_op op_fdivW (pv 3) (pv 6)))
    (pss_cons (ps_set (i := 8) sc_added.nd rfl (.inl rfl) (pe_op op_add (pe_op op_mulW (pv 2) (pe_op op_fdivW (pv 5) (pv 6))) (pe_op op_mulW (pv 4) (pv 7))))
    (pss_cons (ps_set (i := 9) sc_added.nd rfl (.inl rfl) (pe_callBfun cr_gcd rfl m_gcd (pa_cons (pv 8) (pa_cons (pv 6) pa_nil))))
    (pss_one (ps_ret (pe_tup (pa_cons (pe_op op_fdivW (pv 8) (pv 9)) (pa_cons (pe_op op_mulW (pv 7) (pe_op op_fdivW (pv 5) (pv 9))) pa_nil))))))))))), ?_⟩
    have hb := lp.1
    have hd := lq.1
    have gp := M2.g_pos (a := p.2) (b := q.2) (by omega)
    have gs : M2.g p.2 q.2 ≤ q.2.natAbs := Nat.gcd_le_right _ (by omega)
    have gb : ((M2.g p.2 q.2 : Nat) : Int).natAbs < 2 ^ 3000 := by
      rw [Int.natAbs_natCast]
      exact Nat.lt_of_le_of_lt gs bq.2
    have W1 : CDivW p.2 ((M2.g p.2 q.2 : Nat) : Int) := wide_div (by omega) gb (by decide) (by decide)
    have W2 : CDivW q.2 ((M2.g p.2 q.2 : Nat) : Int) := wide_div (by omega) gb (by decide) (by decide)
    have l1 : (p.2 / ((M2.g p.2 q.2 : Nat) : Int)).natAbs < 2 ^ 3000 := Nat.lt_of_le_of_lt (M2.natAbs_div_le _ (by omega)) bp.2
    have l2 : (q.2 / ((M2.g p.2 q.2 : Nat) : Int)).natAbs < 2 ^ 3000 := Nat.lt_of_le_of_lt (M2.natAbs_div_le _ (by omega)) bq.2
    refine ⟨_, rfl, s1, _, rfl, h1, rfl, _, _, rfl, _, _, rfl, rfl, ?_⟩
    refine ⟨_, rfl, t1, _, rfl, h2, rfl, _, _, rfl, _, _, rfl, rfl, ?_⟩
    refine ⟨_, rfl, _, rfl, p.2, q.2, rfl, ?_⟩
    refine ⟨_, rfl, _, rfl, _, _, rfl, rfl, W1, ?_⟩
    refine ⟨_, rfl, _, rfl, _, rfl, _, _, rfl, rfl, W2, _, _, rfl, rfl, mulW (up bp.1 (by decide)) (up l2 (by decide)), _, rfl, _, rfl, _, _, rfl, rfl, mulW (up bq.1 (by decide)) (up l1 (by decide)), _, _, rfl, rfl, ?_⟩
    refine ⟨_, rfl, _, rfl, _, _, rfl, ?_⟩
    have kp := M2.g_pos (a := p.1 * (q.2 / ((M2.g p.2 q.2 : Nat) : Int)) + q.1 * (p.2 / ((M2.g p.2 q.2 : Nat) : Int))) (b := ((M2.g p.2 q.2 : Nat) : Int)) (by omega)
    have ks : M2.g (p.1 * (q.2 / ((M2.g p.2 q.2 : Nat) : Int)) + q.1 * (p.2 / ((M2.g p.2 q.2 : Nat) : Int))) ((M2.g p.2 q.2 : Nat) : Int) ≤ ((M2.g p.2 q.2 : Nat) : Int).natAbs := Nat.gcd_le_right _ (by omega)
    have kb : ((M2.g (p.1 * (q.2 / ((M2.g p.2 q.2 : Nat) : Int)) + q.1 * (p.2 / ((M2.g p.2 q.2 : Nat) : Int))) ((M2.g p.2 q.2 : Nat) : Int) : Nat) : Int).natAbs < 2 ^ 3000 := by
      rw [Int.natAbs_natCast]
      exact Nat.lt_of_le_of_lt ks gb
    have W3 : ∀ x : Int, CDivW x ((M2.g (p.1 * (q.2 / ((M2.g p.2 q.2 : Nat) : Int)) + q.1 * (p.2 / ((M2.g p.2 q.2 : Nat) : Int))) ((M2.g p.2 q.2 : Nat) : Int) : Nat) : Int) := fun x => wide_div (by omega) kb (by decide) (by decide)
    have l3 : (q.2 / ((M2.g (p.1 * (q.2 / ((M2.g p.2 q.2 : Nat) : Int)) + q.1 * (p.2 / ((M2.g p.2 q.2 : Nat) : Int))) ((M2.g p.2 q.2 : Nat) : Int) : Nat) : Int)).natAbs < 2 ^ 3000 := Nat.lt_of_le_of_lt (M2.natAbs_div_le _ (by omega)) bq.2
    refine ⟨_, rfl, _, rfl, _, _, rfl, rfl, W3 _, _, rfl, _, rfl, _, rfl, _, _, rfl, rfl, W3 _, _, _, rfl, rfl, mulW (up l1 (by decide)) (up l3 (by decide)), by show 2 ≤ sizeLine; decide, fun u nu => ?_⟩
    exact fin _ u (same_upd nu) nu upd_same
theorem ok_opposite_of {f : Addr} {fd : FuncData} (F : Fun K "opposite_of" "opposite_of" s_opposite_of f fd) :
    FnOk P w K mg base CX0 1 f fd ["one"] (spOpp K) := by
  refine F.ok sc_opposite_of (fun vs H Q E h => ?_) (fun cdv A outer s H vs Q E hr h => ?_)
  · obtain ⟨_, _, rfl, _⟩ := h
    rfl
  · obtain ⟨s1, p, rfl, h1, fin⟩ := h
    refine ⟨_, (pss_cons (ps_asg (pv 0) (pg_tup rfl (pgs_cons (pg_name (i := 1) sc_opposite_of.nd rfl (.inl rfl)) (pgs_cons (pg_name (i := 2) sc_opposite_of.nd rfl (.inl rfl)) pgs_nil))))
    (pss_one (ps_ret (pe_tup (pa_cons (pe_un un_neg (pv 1)) (pa_cons (pv 2) pa_nil)))))), ?_⟩
    refine ⟨_, rfl, s1, _, rfl, h1, rfl, _, _, rfl, _, _, rfl, rfl, ?_⟩
    refine ⟨_, rfl, _, rfl, _, rfl, by show 2 ≤ sizeLine; decide, fun u nu => ?_⟩
    exact fin _ u (same_upd nu) nu upd_same
theorem ok_taken {f : Addr} {fd : FuncData} (F : Fun K "taken" "taken" s_taken f fd) (C_added : Cl P w K mg base 1 "added" (spAdd K)) (C_opposite_of : Cl P w K mg base 1 "opposite_of" (spOpp K)) :
    FnOk P w K mg base CX0 2 f fd ["one", "other"] (spTaken K) := by
  refine F.ok sc_taken (fun vs H Q E h => ?_) (fun cdv A outer s H vs Q E hr h => ?_)
  · obtain ⟨_, _, _, _, rfl, _⟩ := h
    rfl
  · obtain ⟨s1, t1, p, q, rfl, h1, h2, lp, lq, bp, bq, fin⟩ := h
    refine ⟨_, (pss_one (ps_ret (pe_cl C_added hr (by decide) rfl (pa_cons (pv 0) (pa_cons (pe_cl C_opposite_of hr (by decide) rfl (pa_cons (pv 1) pa_nil)) pa_nil))))), ?_⟩
    refine ⟨_, rfl, _, rfl, t1, q, rfl, h2, fun H1 u sm nu hu => ?_⟩
    have lq2 : M2.Low (neg q).1 (neg q).2 := ⟨lq.1, by
      have := lq.2
      unfold M2.g at this ⊢
      show Nat.gcd (-q.1).natAbs q.2.natAbs = 1
      rw [Int.natAbs_neg]
      exact this⟩
    have bq2 : Bt 3000 (neg q) := ⟨by show (-q.1).natAbs < _; rw [Int.natAbs_neg]; exact bq.1, bq.2⟩
    refine ⟨s1, u, p, neg q, rfl, seqT sm h1, .inl (.inl hu), lp, lq2, bp, bq2, fun H2 u2 sm2 nu2 hu2 => ?_⟩
    exact fin H2 u2 (sm.trans sm2) (sm.free nu2) hu2
theorem ok_is_less {f : Addr} {fd : FuncData} (F : Fun K "is_less" "is_less" s_is_less f fd) :
    FnOk P w K mg base CX0 1 f fd ["one", "other"] (spLess K) := by
  refine F.ok sc_is_less (fun vs H Q E h => ?_) (fun cdv A outer s H vs Q E hr h => ?_)
  · obtain ⟨_, _, _, _, rfl, _⟩ := h
    rfl
  · obtain ⟨s1, t1, p, q, rfl, h1, h2, bp, bq, fin⟩ := h
    refine ⟨_, (pss_one (ps_ret (pe_cmpR op_lt (pe_op op_mulW (pe_ix ix_tup (pv 0) pe_int (fun _ _ => rfl)) (pe_ix ix_tup (pv 1) pe_int (fun _ _ => rfl))) (pe_op op_mulW (pe_ix ix_tup (pv 1) pe_int (fun _ _ => rfl)) (pe_ix ix_tup (pv 0) pe_int (fun _ _ => rfl))) (nomark _)))), ?_⟩
    refine ⟨_, rfl, s1, _, _, _, rfl, rfl, h1, at0 _ _, _, rfl, t1, _, _, _, rfl, rfl, h2, at1 _ _, _, _, rfl, rfl, mulW (up bp.1 (by decide)) (up bq.2 (by decide)), _, rfl, t1, _, _, _, rfl, rfl, h2, at0 _ _, _, rfl, s1, _, _, _, rfl, rfl, h1, at1 _ _, _, _, rfl, rfl, mulW (up bq.1 (by decide)) (up bp.2 (by decide)), _, _, rfl, rfl, fin⟩
theorem ok_is_small {f : Addr} {fd : FuncData} (F : Fun K "is_small" "is_small" s_is_small f fd) (z_abs : mg "abs" = none) :
    FnOk P w K mg base CX0 1 f fd ["one"] (spSmall K) := by
  refine F.ok sc_is_small (fun vs H Q E h => ?_) (fun cdv A outer s H vs Q E hr h => ?_)
  · obtain ⟨_, _, rfl, _⟩ := h
    rfl
  · obtain ⟨s1, p, rfl, h1, fin⟩ := h
    refine ⟨_, (pss_one (ps_ret (pe_cmpR op_lt (pe_callB call_abs (by rfl) z_abs (by decide +kernel) (pa_cons (pe_ix ix_tup (pv 0) pe_int (fun _ _ => rfl)) pa_nil)) (pe_ix ix_tup (pv 0) pe_int (fun _ _ => rfl)) (nomark _)))), ?_⟩
    exact ⟨_, rfl, s1, _, _, _, rfl, rfl, h1, at0 _ _, _, rfl, _, rfl, s1, _, _, _, rfl, rfl, h1, at1 _ _, _, _, rfl, rfl, fin⟩
theorem ok_floor_of {f : Addr} {fd : FuncData} (F : Fun K "floor_of" "floor_of" s_floor_of f fd) :
    FnOk P w K mg base CX0 1 f fd ["one"] (spFloor K) := by
  refine F.ok sc_floor_of (fun vs H Q E h => ?_) (fun cdv A outer s H vs Q E hr h => ?_)
  · obtain ⟨_, _, rfl, _⟩ := h
    rfl
  · obtain ⟨s1, p, rfl, h1, hp, bp, fin⟩ := h
    refine ⟨_, (pss_one (ps_ret (pe_op op_fdivW (pe_ix ix_tup (pv 0) pe_int (fun _ _ => rfl)) (pe_ix ix_tup (pv 0) pe_int (fun _ _ => rfl))))), ?_⟩
    exact ⟨_, rfl, s1, _, _, _, rfl, rfl, h1, at0 _ _, _, rfl, s1, _, _, _, rfl, rfl, h1, at1 _ _, _, _, rfl, rfl, wide_div hp bp.2 (by decide) (by decide), fin⟩
theorem ok_ceiling_of {f : Addr} {fd : FuncData} (F : Fun K "ceiling_of" "ceiling_of" s_ceiling_of f fd) :
    FnOk P w K mg base CX0 1 f fd ["one"] (spCeil K) := by
  refine F.ok sc_ceiling_of (fun vs H Q E h => ?_) (fun cdv A outer s H vs Q E hr h => ?_)
  · obtain ⟨_, _, rfl, _⟩ := h
    rfl
  · obtain ⟨s1, p, rfl, h1, hp, bp, fin⟩ := h
    refine ⟨_, (pss_one (ps_ret (pe_un un_neg (pe_op op_fdivW (pe_un un_neg (pe_ix ix_tup (pv 0) pe_int (fun _ _ => rfl))) (pe_ix ix_tup (pv 0) pe_int (fun _ _ => rfl)))))), ?_⟩
    exact ⟨_, rfl, s1, _, _, _, rfl, rfl, h1, at0 _ _, _, rfl, _, rfl, s1, _, _, _, rfl, rfl, h1, at1 _ _, _, _, rfl, rfl, wide_div hp bp.2 (by decide) (by decide), _, rfl, fin⟩
theorem ok_part_of {f : Addr} {fd : FuncData} (F : Fun K "part_of" "part_of" s_part_of f fd) (C_floor_of : Cl P w K mg base 1 "floor_of" (spFloor K)) :
    FnOk P w K mg base CX0 2 f fd ["one"] (spPart K) := by
  refine F.ok sc_part_of (fun vs H Q E h => ?_) (fun cdv A outer s H vs Q E hr h => ?_)
  · obtain ⟨_, _, rfl, _⟩ := h
    rfl
  · obtain ⟨s1, p, rfl, h1, hp, bp, fin⟩ := h
    refine ⟨_, (pss_cons (ps_asg (pv 0) (pg_tup rfl (pgs_cons (pg_name (i := 1) sc_part_of.nd rfl (.inl rfl)) (pgs_cons (pg_name (i := 2) sc_part_of.nd rfl (.inl rfl)) pgs_nil))))
    (pss_one (ps_ret (pe_tup (pa_cons (pe_op op_sub (pv 1) (pe_op op_mulW (pe_cl C_floor_of hr (by decide) rfl (pa_cons (pv 0) pa_nil)) (pv 2))) (pa_cons (pv 2) pa_nil)))))), ?_⟩
    refine ⟨_, rfl, s1, _, rfl, h1, rfl, _, _, rfl, _, _, rfl, rfl, ?_⟩
    have l1 : (p.1 / p.2).natAbs < 2 ^ 3000 := Nat.lt_of_le_of_lt (M2.natAbs_div_le _ hp) bp.1
    refine ⟨_, rfl, _, rfl, s1, p, rfl, h1, hp, bp, _, rfl, _, _, rfl, rfl, mulW (up l1 (by decide)) (up bp.2 (by decide)), _, _, rfl, rfl, _, rfl, by show 2 ≤ sizeLine; decide, fun u nu => ?_⟩
    exact fin _ u (same_upd nu) nu upd_same
end
end K2


namespace VG
open PySem PySem.Spec PyProof.Rows L2
section
variable {X : Cx}
/-- // by a divisor of either sign -/
def CDivS (_ j : Int) : Prop := j ≠ 0 ∧ j.natAbs.log2 < 9000
theorem op_fdivS : OpR X (binaryOp .FloorDiv) (rI CDivS fun i j => .int (i.fdiv j)) := opI fun i j _ _ _ _ _ hc q => floordiv_int hc.1 q (.inl (PyProof.noPylong_of_log2 hc.2))
theorem wide_divS {i j : Int} {b : Nat} (h : j ≠ 0) (hb : j.natAbs < 2 ^ b) (h0 : 0 < b) (h9 : b ≤ 9000) : CDivS i j := ⟨h, Nat.lt_of_lt_of_le (PySem.Flt.log2_lt_of h0 hb) h9⟩
/-- over a name that holds a list or a tuple -/
def iAnyV (K : PySem.W.Frag) (i : Nat) : TI := fun σ H R => ∃ a, σ[i]? = some (some (V.ref a)) ∧ (((∃ xs, SqL K H a xs) ∧ R (Itl K a) H) ∨ ((∃ xs, SqT K H a xs) ∧ R (Itt K a) H))
theorem pi_any {i : Nat} {x : Str} {pos p2 : Pos} {y : Str} (h : PE X (.Name x pos) (tVar i)) : PI X (.Name y p2) (.Name x pos) (iAnyV X.K i) := by
  constructor
  intro pins s σ H R I hh
  obtain ⟨a, ea, q⟩ := hh
  rcases q with ⟨w, r⟩ | ⟨w, r⟩
  · exact (pi_list h).run pins s σ H R I ⟨_, ea, a, rfl, w, r⟩
  · exact (pi_tup h).run pins s σ H R I ⟨_, ea, a, rfl, w, r⟩
end
theorem walk_zipT {K : PySem.W.Frag} {a b : Addr} {xs ys : List V} {n : Nat} (hn : n = min xs.length ys.length) : Walk (RZ.ItzT K a b) n (fun H => SqT K H a xs ∧ SqT K H b ys) (YPair (fun i => xs[i]?) (fun i => ys[i]?)) := by
  constructor
  · intro i H hi hG
    have h1 : i < xs.length := by omega
    have h2 : i < ys.length := by omega
    exact ⟨xs, ys, xs[i], ys[i], hG.1, hG.2, List.getElem?_eq_getElem h1, List.getElem?_eq_getElem h2⟩
  · intro H hG
    exact ⟨xs, ys, hG.1, hG.2, by omega⟩
  · intro i H v H' hi hG hy
    obtain ⟨T, x, y, e1, e2, e3, e4, e5⟩ := hy
    exact ⟨T, x, y, e1, e2, e3, e4 xs hG.1, e5 ys hG.2⟩
/-- a def that may let errors out, where it lets none -/
theorem fn_calm {P : Program} {w : World} {K : PySem.W.Frag} {mg : Str → Option Value} {base : Heap} {k : Nat} {f : Addr} {fd : FuncData} {ps : List Str} {sp : Sp} (F : FnOk P w K mg base (L2.CX P w) k f fd ps sp) :
    FnOk P w K mg base CX0 k f fd ps (fun vs H Q _ => sp vs H Q E0) := by
  constructor
  · intro vs H Q E h
    exact F.len vs H Q E0 h
  · intro A outer s H args us vs Q E hr e0 hb hv hs
    apply codeAny_mono (F.run A outer s H args us vs Q E0 hr e0 hb hv hs)
    intro r s' hh
    match r, hh with
    | .ok (.ret u), hh => exact hh
    | .ok .next, hh => exact hh
    | .ok .brk, hh => exact hh
    | .ok .cont, hh => exact hh
    | .error e, hh =>
      obtain ⟨_, _, _, _, _, _, _, _, _, _, _, _, h⟩ := hh
      exact h.elim
/-- what the written part says of an own error's class with an __init__ -/
structure ErrC (K : PySem.W.Frag) (mg : Str → Option Value) (x : Str) (C fI : Addr) : Prop where
  gC : mg x = some (.ref C)
  o : OexC K C
  iC : PySem.W.findIn K (.ref C) "__init__" = some (some (.ref fI))
  tI : PySem.W.typeIn K (.ref fI) = some (.type "function")
end VG


namespace FR
open PySem PySem.Spec PyProof.Rows L2 VG
theorem mul_low {p q : Q2} (hp : 0 < p.2) (hq : 0 < q.2) : p.2 * q.2 ≠ 0 := Int.mul_ne_zero (by omega) (by omega)
theorem seqT_upd {K : PySem.W.Frag} {H : Hp} {D t : Addr} {xs ys : List V} {zs : List V} (hD : H D = some (.lst ys)) (h : SqT K H t xs) : SqT K (upd H D (.lst zs)) t xs := by
  rcases h with (h | ⟨o, h⟩) | h
  · refine .inl (.inl ?_)
    rw [upd_ne (by intro e; subst e; rw [hD] at h; cases h)]
    exact h
  · refine .inl (.inr ⟨o, ?_⟩)
    rw [upd_ne (by intro e; subst e; rw [hD] at h; cases h)]
    exact h
  · exact .inr h
theorem Frs.upd {K : PySem.W.Frag} {H : Hp} {D : Addr} {ys zs : List V} (hD : H D = some (.lst ys)) : ∀ {vs : List V} {ps : List Q2}, Frs K H vs ps → Frs K (L2.upd H D (.lst zs)) vs ps
  | [], [], _ => trivial
  | _ :: _, _ :: _, ⟨⟨t, e1, h⟩, r⟩ => ⟨⟨t, e1, seqT_upd hD h⟩, r.upd hD⟩
  | [], _ :: _, h => h.elim
  | _ :: _, [], h => h.elim
theorem sum_ok : ∀ (ps : List Q2) (a : Q2) (n : Nat), (∀ p ∈ ps, M2.Low p.1 p.2 ∧ Bt 45 p) → M2.Low a.1 a.2 → Bt n a → M2.Low (ps.foldl M2.add a).1 (ps.foldl M2.add a).2 ∧ Bt (n + 46 * ps.length) (ps.foldl M2.add a)
  | [], a, n, _, h1, h2 => ⟨h1, h2⟩
  | p :: ps, a, n, h, h1, h2 => by
    have ⟨lp, bp⟩ := h p List.mem_cons_self
    have sz := M2.add_size h1 lp h2.1 h2.2 bp.1 bp.2
    have ih := sum_ok ps (M2.add a p) (n + 45 + 1) (fun q hq => h q (List.mem_cons_of_mem _ hq)) (M2.add_ok h1 lp).1 sz
    rw [List.length_cons, List.foldl_cons]
    exact ⟨ih.1, ih.2.mono (by omega)⟩
section
variable {P : Program} {w : World} {K : PySem.W.Frag} {mg : Str → Option Value} {base : Heap}
def spInitW (K : PySem.W.Frag) (C : Addr) (fld : Str) : Sp := fun vs H Q _ => ∃ (a : Addr) (v : V), vs = [.ref a, v] ∧ H a = some (exo a C none) ∧ ∀ dx, H dx = none → dx ≠ a → Q .non (upd (upd H dx (exd dx [(fld, v)])) a (exo a C (some dx)))
/-- fraction_of: with a bottom of 0 it lets an error out -/
def spFrac (C : Addr) : Sp := fun vs H Q E => ∃ a b : Int, vs = [.int a, .int b] ∧ a.natAbs < 2 ^ 8000 ∧ b.natAbs < 2 ^ 8000 ∧ (b ≠ 0 → ∀ H' u, Same H H' → H u = none → H' u = some (.tup (pV (M2.mk a b))) → Q (.ref u) H') ∧
  (b = 0 → ∀ H' d, Same H H' → H d = none → H' d = some (.xd [((("word" : String) : Str), .str (("bottom" : String) : Str))]) → E (.ref C) (some d) H')
def timeQ (p q : Q2) : Q2 := M2.mk (p.1 * q.1) (p.2 * q.2)
def spTimed (K : PySem.W.Frag) : Sp := fun vs H Q _ => ∃ (s t : Addr) (p q : Q2), vs = [.ref s, .ref t] ∧ SqT K H s (pV p) ∧ SqT K H t (pV q) ∧ 0 < p.2 ∧ 0 < q.2 ∧ Bt 3000 p ∧ Bt 3000 q ∧
  ∀ H' u, Same H H' → H u = none → H' u = some (.tup (pV (timeQ p q))) → Q (.ref u) H'
def weighQ (ws : List Int) (ps : List Q2) : List Q2 := (ws.zip ps).map fun x => timeQ (x.1, 1) x.2
def spWeighed (K : PySem.W.Frag) : Sp := fun vs H Q _ => ∃ (s t : Addr) (ws : List Int) (xs : List V) (ps : List Q2), vs = [.ref s, .ref t] ∧ SqT K H s (ws.map V.int) ∧ SqT K H t xs ∧ Frs K H xs ps ∧ ps.length ≤ 50 ∧ ws.length = ps.length ∧ (∀ c ∈ ws, c.natAbs < 2 ^ 24) ∧
  (∀ p ∈ ps, M2.Low p.1 p.2 ∧ Bt 21 p) ∧ ∀ H' u, Same H H' → SqT K H' u (pV (sumQ (weighQ ws ps))) → Q (.ref u) H'
end
def gtQ (p q : Q2) : Bool := lessQ q p
theorem time_ok {p q : Q2} (hp : 0 < p.2) (hq : 0 < q.2) {m n : Nat} (bp : Bt m p) (bq : Bt n q) : M2.Low (timeQ p q).1 (timeQ p q).2 ∧ Bt (m + n) (timeQ p q) ∧ (timeQ p q).1 * (p.2 * q.2) = (p.1 * q.1) * (timeQ p q).2 := by
  have h0 := mul_low hp hq
  have sz := M2.mk_size (a := p.1 * q.1) h0
  refine ⟨M2.mk_low h0, ⟨Nat.lt_of_le_of_lt sz.1 (wide_lt bp.1 bq.1), Nat.lt_of_le_of_lt sz.2 (wide_lt bp.2 bq.2)⟩, M2.mk_eq h0⟩
end FR
namespace K2
open PySem PySem.Spec PyProof.Rows L2 VG FR
abbrev s_fraction_of : Stmt := topS 10
abbrev N_fraction_of : List Str := ["top", "bottom", "shared"]
theorem sc_fraction_of : FnScope N_fraction_of ["top", "bottom"] (defScope s_fraction_of) := ⟨rfl, rfl, rfl, by decide +kernel, rfl, by decide +kernel, by decide +kernel⟩
abbrev s_timed : Stmt := topS 15
abbrev N_timed : List Str := ["one", "other"]
theorem sc_timed : FnScope N_timed ["one", "other"] (defScope s_timed) := ⟨rfl, rfl, rfl, by decide +kernel, rfl, by decide +kernel, by decide +kernel⟩
abbrev s_weighed : Stmt := topS 22
abbrev N_weighed : List Str := ["weights", "some", "weight", "one"]
theorem sc_weighed : FnScope N_weighed ["weights", "some"] (defScope s_weighed) := ⟨rfl, rfl, rfl, by decide +kernel, rfl, by decide +kernel, by decide +kernel⟩

abbrev i_InvalidNumber : Stmt := inClass (topS 7) 0
theorem sc_init : FnScope ["self", "word"] ["self", "word"] (defScope i_InvalidNumber) := ⟨rfl, rfl, rfl, by decide +kernel, rfl, by decide +kernel, by decide +kernel⟩
section
variable {P : Program} {w : World} {K : PySem.W.Frag} {mg : Str → Option Value} {base : Heap}
theorem ok_init {f C : Addr} {fd : FuncData} (F : Fun K "__init__" "InvalidNumber.__init__" i_InvalidNumber f fd) (o : OexC K C) (hw : PySem.W.findIn K (.ref C) "word" = some none) :
    FnOk P w K mg base CX0 1 f fd ["self", "word"] (spInitW K C "word") := by
  refine F.ok sc_init (fun vs H Q E h => ?_) (fun cdv A outer s H vs Q E hr h => ?_)
  · obtain ⟨_, _, rfl, _⟩ := h
    rfl
  · obtain ⟨a, v, rfl, ha, fin⟩ := h
    refine ⟨_, pss_one (ps_ost (pv 0) (pv 1)), ?_⟩
    exact ⟨_, rfl, _, rfl, a, C, rfl, o, hw, .inl ⟨ha, fun dx n ne => fin dx n ne⟩⟩
theorem ok_fraction_of {f fi C : Addr} {fd fdi : FuncData} (F : Fun K "fraction_of" "fraction_of" s_fraction_of f fd) (m_gcd : mg "gcd" = some (.builtin "math.gcd")) (e_InvalidNumber : ErrC K mg "InvalidNumber" C fi)
    (i_InvalidNumber : FnOk P w K mg base CX0 1 fi fdi ["self", "word"] (spInitW K C "word")) (b_InvalidNumber : Binds K fdi ["self", "word"] []) :
    FnOk P w K mg base (L2.CX P w) 3 f fd ["top", "bottom"] (spFrac C) := by
  refine F.okX sc_fraction_of (fun vs H Q E h => ?_) (fun cdv A outer s H vs Q E hr h => ?_)
  · obtain ⟨_, _, rfl, _⟩ := h
    rfl
  · obtain ⟨a, b, rfl, sa, sb, fin, err⟩ := h
    refine ⟨_, (pss_cons (ps_if (pt_cmpR op_eq (pv 1) pe_int (nomark _))
      (pss_one (ps_raise rfl (takes_of rfl rfl rfl rfl) (pmk_oex e_InvalidNumber.o e_InvalidNumber.iC e_InvalidNumber.tI i_InvalidNumber hr b_InvalidNumber .nil pass0 rfl e_InvalidNumber.gC (pa_cons pe_str pa_nil))))
      pss_nil)
    (pss_cons (ps_set (i := 2) sc_fraction_of.nd rfl (.inl rfl) (pe_callBfun cr_gcd rfl m_gcd (pa_cons (pv 0) (pa_cons (pv 1) pa_nil))))
    (pss_cut (ps_if (pt_cmpR op_lt (pv 1) pe_int (nomark _))
      (pss_one (ps_set (i := 2) sc_fraction_of.nd rfl (.inl rfl) (pe_un un_neg (pv 2))))
      pss_nil)
    (pss_one (ps_ret (pe_tup (pa_cons (pe_op op_fdivS (pv 0) (pv 2)) (pa_cons (pe_op op_fdivS (pv 1) (pv 2)) pa_nil)))))))), ?_⟩
    refine ⟨_, rfl, rfl, _, rfl, ite2 (fun e => ?_) (fun e => ?_)⟩
    · have hb : b = 0 := V.int.inj (of_decide_eq_true e)
      refine ⟨by decide, fun x nx => ?_⟩
      refine ⟨x, _, rfl, upd_same, fun dx n ne => ⟨rfl, dx, [(("word" : Str), V.str ("bottom" : Str))], upd_same, ?_, ?_, ?_⟩⟩
      · rw [upd_ne ne, upd_same]
      · rw [upd_ne ne] at n
        exact n
      · rw [upd_ne ne] at n
        refine err hb _ dx (fun y o hy => ?_) n upd_same
        have hyd : y ≠ dx := ne_of_none hy n
        have hyx : y ≠ x := ne_of_none hy nx
        rw [upd_ne hyd, del_ne hyx, upd_ne hyx, upd_ne hyd, upd_ne hyx]
        exact hy
    · have hb : b ≠ 0 := fun z => e (decide_eq_true (by rw [z]))
      have gp := M2.g_pos (a := a) (b := b) hb
      have gs : M2.g a b ≤ b.natAbs := Nat.gcd_le_right _ (by omega)
      refine ⟨_, rfl, _, rfl, a, b, rfl, ?_⟩
      refine ⟨fun σ H' => H' = H ∧ σ = [some (.int a), some (.int b), some (.int (if b < 0 then -((M2.g a b : Nat) : Int) else ((M2.g a b : Nat) : Int)))], ?_, ?_⟩
      · refine ⟨_, rfl, _, _, rfl, rfl, _, rfl, ite2 (fun e => ?_) (fun e => ?_)⟩
        · refine ⟨_, rfl, _, rfl, rfl, ?_⟩
          rw [if_pos (of_decide_eq_true e)]
          rfl
        · refine ⟨rfl, ?_⟩
          rw [if_neg (fun z => e (decide_eq_true z))]
          rfl
      · rintro σ H' ⟨rfl, rfl⟩
        have hs : (if b < 0 then -((M2.g a b : Nat) : Int) else ((M2.g a b : Nat) : Int)) ≠ 0 ∧ (if b < 0 then -((M2.g a b : Nat) : Int) else ((M2.g a b : Nat) : Int)).natAbs < 2 ^ 8000 := by
          split
          · rw [Int.natAbs_neg, Int.natAbs_natCast]
            exact ⟨by omega, Nat.lt_of_le_of_lt gs sb⟩
          · rw [Int.natAbs_natCast]
            exact ⟨by omega, Nat.lt_of_le_of_lt gs sb⟩
        have W : ∀ x : Int, CDivS x (if b < 0 then -((M2.g a b : Nat) : Int) else ((M2.g a b : Nat) : Int)) := fun x => wide_divS hs.1 hs.2 (by decide) (by decide)
        refine ⟨_, rfl, _, rfl, _, _, rfl, rfl, W _, _, rfl, _, rfl, _, _, rfl, rfl, W _, by show 2 ≤ sizeLine; decide, fun u nu => ?_⟩
        exact fin hb _ u (same_upd nu) nu upd_same
theorem ok_timed {f C : Addr} {fd : FuncData} (F : Fun K "timed" "timed" s_timed f fd) (C_fraction_of : Cl P w K mg base 3 "fraction_of" (fun vs H Q _ => spFrac C vs H Q E0)) :
    FnOk P w K mg base CX0 4 f fd ["one", "other"] (spTimed K) := by
  refine F.ok sc_timed (fun vs H Q E h => ?_) (fun cdv A outer s H vs Q E hr h => ?_)
  · obtain ⟨_, _, _, _, rfl, _⟩ := h
    rfl
  · obtain ⟨s1, t1, p, q, rfl, h1, h2, pp, pq, bp, bq, fin⟩ := h
    refine ⟨_, (pss_one (ps_ret (pe_cl C_fraction_of hr (by decide) rfl (pa_cons (pe_op op_mulW (pe_ix ix_tup (pv 0) pe_int (fun _ _ => rfl)) (pe_ix ix_tup (pv 1) pe_int (fun _ _ => rfl))) (pa_cons (pe_op op_mulW (pe_ix ix_tup (pv 0) pe_int (fun _ _ => rfl)) (pe_ix ix_tup (pv 1) pe_int (fun _ _ => rfl))) pa_nil))))), ?_⟩
    have m1 := wide_lt bp.1 bq.1
    have m2 := wide_lt bp.2 bq.2
    refine ⟨_, rfl, s1, _, _, _, rfl, rfl, h1, at0 _ _, _, rfl, t1, _, _, _, rfl, rfl, h2, at0 _ _, _, _, rfl, rfl, mulW (up bp.1 (by decide)) (up bq.1 (by decide)), _, rfl, s1, _, _, _, rfl, rfl, h1, at1 _ _, _, rfl, t1, _, _, _, rfl, rfl, h2, at1 _ _, _, _, rfl, rfl, mulW (up bp.2 (by decide)) (up bq.2 (by decide)), ?_⟩
    refine ⟨_, _, rfl, up m1 (by decide), up m2 (by decide), fun _ H' u sm nu hu => fin H' u sm nu hu, fun z => absurd z (mul_low pp pq)⟩
theorem ok_sum_of {f zz : Addr} {fd : FuncData} (F : Fun K "sum_of" "sum_of" s_sum_of f fd) (C_added : Cl P w K mg base 1 "added" (spAdd K)) (m_ZERO : mg "ZERO" = some (.ref zz)) (hz : ∀ H, SqT K H zz (pV (0, 1))) :
    FnOk P w K mg base CX0 2 f fd ["some"] (spSum K) := by
  refine F.ok sc_sum_of (fun vs H Q E h => ?_) (fun cdv A outer s H vs Q E hr h => ?_)
  · obtain ⟨_, _, _, rfl, _⟩ := h
    rfl
  · obtain ⟨s1, xs, ps, rfl, hS, hF, hl, hp, fin⟩ := h
    refine ⟨_, (pss_cons (ps_set (i := 1) sc_sum_of.nd rfl (.inl rfl) (pe_glob (v := .ref zz) rfl m_ZERO rfl))
    (pss_cut (ps_for PassesOwn.never rfl (pi_any (pv 0)) (pg_name (i := 2) sc_sum_of.nd rfl (.inl rfl))
      (pss_one (ps_set (i := 1) sc_sum_of.nd rfl (.inl rfl) (pe_cl C_added hr (by decide) rfl (pa_cons (pv 1) (pa_cons (pv 2) pa_nil))))))
    (pss_one (ps_ret (pv 1))))), ?_⟩
    have lxs := hF.len
    refine ⟨fun σ H' => ∃ (u : Addr) (y : Option V), σ = [some (.ref s1), some (.ref u), y] ∧ Same H H' ∧ SqT K H' u (pV (sumQ ps)), ?_, ?_⟩
    · have go : ∀ (J : It), (Walk J xs.length (fun H' => Same H H') (fun i H v H' => H' = H ∧ xs[i]? = some v)) → ∀ (D : Ends), (∀ σ' H', (∃ (u : Addr) (y : Option V), σ' = [some (.ref s1), some (.ref u), y] ∧ Same H H' ∧ SqT K H' u (pV (sumQ ps))) → D.nx σ' H') →
          ∃ W : Nat → Nat → L2.St → Hp → Prop, (∃ m, W 0 m [some (V.ref s1), some (V.ref zz), none] H) ∧ ∀ i m σ H', W i m σ H' →
            (J.stop i H' ∧ D.nx σ H') ∨ (J.go i H' ∧ ∃ N : L2.St → Hp → Prop, (∀ σ' H'', N σ' H'' → ∃ m', m' < m ∧ W (i + 1) m' σ' H'') ∧ ∀ x H'', J.yld i H' x H'' → gName 2 x σ H'' fun σ2 H2 => tAsg (tCall (spAdd K) [] E0 (tCons (tVar 1) (tCons (tVar 2) tNil))) (gName 1) { D with nx := N, ct := N, bk := D.nx } σ2 H2) := by
        intro J wk D hD
        refine for_it wk (fun i σ H' => ∃ (u : Addr) (y : Option V), σ = [some (.ref s1), some (.ref u), y] ∧ Same H H' ∧ SqT K H' u (pV ((ps.take i).foldl M2.add (0, 1)))) ⟨zz, none, rfl, Same.refl _, hz H⟩ ?_ ?_ ?_
        · rintro i σ H' _ ⟨u, y, _, sm, _⟩
          exact sm
        · rintro i x σ H1 H2 hi ⟨u, y, rfl, sm, hu⟩ ⟨e2, ex⟩
          subst e2
          obtain ⟨t, p, rfl, ep, ht⟩ := hF.get ex
          have hpm := hp p (List.mem_of_getElem? ep)
          have so := sum_ok (ps.take i) (0, 1) 1 (fun q hq => hp q (List.mem_of_mem_take hq)) ⟨by decide, by decide⟩ ⟨by decide, by decide⟩
          have hti : (ps.take i).length ≤ 50 := by
            rw [List.length_take]
            omega
          refine ⟨_, rfl, _, rfl, u, t, _, p, rfl, hu, seqT sm ht, so.1, hpm.1, so.2.mono (by omega), hpm.2.mono (by decide), fun H3 v sm3 nv hv => ?_⟩
          refine ⟨v, _, rfl, sm.trans sm3, .inl (.inl ?_)⟩
          rw [hv, List.take_add_one, ep, List.foldl_append]
          rfl
        · rintro σ H' ⟨u, y, rfl, sm, hu⟩
          refine hD _ _ ⟨u, y, rfl, sm, ?_⟩
          rw [List.take_of_length_le (by rw [lxs]; exact Nat.le_refl _)] at hu
          exact hu
      rcases hS with hS | hS
      · exact ⟨s1, rfl, .inr ⟨⟨_, hS⟩, go _ (walk_tup.mono (fun H' sm => seqT sm hS) (fun i H1 x H2 _ _ h => h)) _ (fun _ _ h => h)⟩⟩
      · exact ⟨s1, rfl, .inl ⟨⟨_, hS⟩, go _ (walk_list.mono (fun H' sm => sm.seq hS) (fun i H1 x H2 _ _ h => h)) _ (fun _ _ h => h)⟩⟩
    · rintro σ H' ⟨u, y, rfl, sm, hu⟩
      exact ⟨_, rfl, fin H' u sm hu⟩
theorem ok_weighed {f : Addr} {fd : FuncData} (F : Fun K "weighed" "weighed" s_weighed f fd) (C_sum_of : Cl P w K mg base 2 "sum_of" (spSum K)) (C_timed : Cl P w K mg base 4 "timed" (spTimed K)) (z_zip : mg "zip" = none) :
    FnOk P w K mg base CX0 5 f fd ["weights", "some"] (spWeighed K) := by
  refine F.ok sc_weighed (fun vs H Q E h => ?_) (fun cdv A outer s H vs Q E hr h => ?_)
  · obtain ⟨_, _, _, _, _, rfl, _⟩ := h
    rfl
  · obtain ⟨s1, t1, ws, xs, ps, rfl, hW, hS, hF, hl, hlw, hw, hp, fin⟩ := h
    refine ⟨_, (pss_one (ps_ret (pe_cl C_sum_of hr (by decide) rfl (pa_cons (pe_lc (own := [("weight", 2), ("one", 3)]) (by rfl) sc_weighed.nd (RZ.pi_zipA (by rfl) z_zip (pa_cons (pv 0) (pa_cons (pv 1) pa_nil))) (blkOk_by (own := [("weight", 2), ("one", 3)]) (N := N_weighed) (sc := defScope s_weighed) (by decide +kernel)) (fun _ _ _ _ _ => (show PG _ _ (gTup K 2 _) from pg_tup rfl (pgs_cons (pg_name (i := 2) sc_weighed.nd rfl (.inl rfl)) (pgs_cons (pg_name (i := 3) sc_weighed.nd rfl (.inl rfl)) pgs_nil)))) (fun _ _ _ _ _ => pts_nil) (fun _ _ _ _ _ => (pe_cl C_timed hr (by decide) rfl (pa_cons (pe_tup (pa_cons (pv 2) (pa_cons pe_int pa_nil))) (pa_cons (pv 3) pa_nil))))) pa_nil)))), ?_⟩
    have lxs := hF.len
    refine ⟨_, rfl, _, rfl, s1, t1, _, xs, rfl, .inr ⟨hW, hS, fun D nD => ?_⟩⟩
    refine lc_it (walk_zipT (K := K) (a := s1) (b := t1) (xs := ws.map V.int) (ys := xs) (n := ps.length) (by rw [List.length_map]; omega)) (fun i H1 => Same H H1 ∧ ∃ vs, H1 D = some (.lst vs) ∧ Frs K H1 vs ((weighQ ws ps).take i) ∧ vs.length = i) ⟨same_upd nD, [], upd_same, trivial, rfl⟩ ?_ ?_ ?_
    · rintro i H1 _ ⟨sm, _⟩
      exact ⟨seqT sm hW, seqT sm hS⟩
    · rintro i x H1 H2 hi ⟨sm, vs, hD, hv, hlv⟩ ⟨T, c, v, rfl, nT, rfl, ec, ev⟩
      have hiw : i < ws.length := by omega
      have ec : (ws.map V.int)[i]? = some c := ec
      rw [List.getElem?_map, List.getElem?_eq_getElem hiw] at ec
      have ec2 : V.int ws[i] = c := Option.some.inj ec
      subst ec2
      obtain ⟨t, p, rfl, ep, ht⟩ := hF.get ev
      have sT := same_upd (o := .tup [V.int ws[i], V.ref t]) nT
      have hpm := hp p (List.mem_of_getElem? ep)
      have hwm := hw _ (List.getElem_mem hiw)
      refine ⟨T, _, rfl, .inl (.inl upd_same), rfl, _, _, rfl, _, _, rfl, rfl, rfl, ?_⟩
      refine ⟨_, rfl, by show 2 ≤ sizeLine; decide, fun o no => ?_⟩
      have so := same_upd (o := .tup [V.int ws[i], V.int 1]) no
      have smo := (sm.trans sT).trans so
      refine ⟨_, rfl, o, t, (ws[i], 1), p, rfl, .inl (.inl upd_same), seqT smo ht, show (0 : Int) < 1 by decide, hpm.1.1, ⟨up hwm (by decide), show (1 : Int).natAbs < 2 ^ 3000 by decide⟩, hpm.2.mono (by decide), fun H3 u sm3 nu hu => ?_⟩
      have sm13 := (sT.trans so).trans sm3
      refine ⟨vs, sm13 _ _ hD, ?_, ?_, ?_⟩
      · have : sizeLine = 16777216 := by decide
        omega
      · have nH : H D = none := nD
        intro y oo hy
        rw [upd_ne (ne_of_none hy nH)]
        exact sm13 _ _ (sm _ _ hy)
      · refine ⟨_, upd_same, ?_, by rw [List.length_append, hlv]; rfl⟩
        have eq : (weighQ ws ps)[i]? = some (timeQ (ws[i], 1) p) := by
          unfold weighQ
          have ez : (ws.zip ps)[i]? = some (ws[i], p) := List.getElem?_zip_eq_some.mpr ⟨List.getElem?_eq_getElem hiw, ep⟩
          rw [List.getElem?_map, ez]
          rfl
        rw [List.take_add_one, eq]
        have hD3 := sm13 _ _ hD
        exact Frs.upd hD3 (Frs.snoc (.inl (.inl hu)) (((hv.mono sT).mono so).mono sm3))
    · rintro H1 ⟨sm, vs, hD, hv, hlv⟩
      have lw : (weighQ ws ps).length = ps.length := by
        unfold weighQ
        rw [List.length_map, List.length_zip]
        omega
      rw [List.take_of_length_le (by omega)] at hv
      refine ⟨D, vs, weighQ ws ps, rfl, .inr (.inl (.inl hD)), hv, by omega, fun p hpm => ?_, fun H2 u sm2 hu => fin H2 u (sm.trans sm2) hu⟩
      unfold weighQ at hpm
      obtain ⟨x, hx, rfl⟩ := List.mem_map.mp hpm
      have h1 := hw x.1 (List.of_mem_zip hx).1
      have h2 := hp x.2 (List.of_mem_zip hx).2
      have := time_ok (p := (x.1, 1)) (q := x.2) (m := 24) (n := 21) (show (0 : Int) < 1 by decide) h2.1.1 ⟨h1, show (1 : Int).natAbs < 2 ^ 24 by decide⟩ h2.2
      exact ⟨this.1, this.2.1⟩
theorem ok_least_of {f : Addr} {fd : FuncData} (F : Fun K "least_of" "least_of" s_least_of f fd) (C_is_less : Cl P w K mg base 1 "is_less" (spLess K)) :
    FnOk P w K mg base CX0 2 f fd ["some"] (spBest K lessQ) := by
  refine F.ok sc_least_of (fun vs H Q E h => ?_) (fun cdv A outer s H vs Q E hr h => ?_)
  · obtain ⟨_, _, _, rfl, _⟩ := h
    rfl
  · obtain ⟨s1, xs, ps, rfl, hS, hF, hb, fin⟩ := h
    refine ⟨_, (pss_cons (ps_set (i := 1) sc_least_of.nd rfl (.inl rfl) pe_non)
    (pss_cut (ps_for PassesOwn.never rfl (pi_tup (pv 0)) (pg_name (i := 2) sc_least_of.nd rfl (.inl rfl))
      (pss_one (ps_if (PW.pt (pw_or (pt_cmpR op_isN (pv 1) pe_non (nomark _)) (pw_or1 (pt_val (pe_cl C_is_less hr (by decide) rfl (pa_cons (pv 2) (pa_cons (pv 1) pa_nil)))))))
        (pss_one (ps_set (i := 1) sc_least_of.nd rfl (.inl rfl) (pv 2)))
        pss_nil)))
    (pss_one (ps_ret (pv 1))))), ?_⟩
    have lxs := hF.len
    refine ⟨fun σ H' => ∃ y : Option V, H' = H ∧ σ = [some (.ref s1), some (bestV (bestF lessQ none (xs.zip ps))), y], ?_, ?_⟩
    · refine ⟨_, rfl, s1, rfl, ⟨_, hS⟩, ?_⟩
      refine for_it (walk_tup (K := K) (a := s1) (xs := xs)) (fun i σ H' => H' = H ∧ ∃ (y : Option V) (b : Option (V × Q2)), σ = [some (.ref s1), some (bestV b), y] ∧ bestF lessQ b ((xs.zip ps).drop i) = bestF lessQ none (xs.zip ps) ∧
        (∀ x, b = some x → (∃ t, x.1 = .ref t ∧ SqT K H t (pV x.2)) ∧ Bt 3000 x.2)) ⟨rfl, none, none, rfl, rfl, fun x z => nomatch z⟩ ?_ ?_ ?_
      · rintro i σ H' _ ⟨rfl, _⟩
        exact hS
      · rintro i v σ H1 H2 hi ⟨rfl, y, b, rfl, hfold, hbb⟩ ⟨e2, ex⟩
        subst e2
        obtain ⟨t, p, rfl, ep, ht⟩ := hF.get ex
        have hp := hb p (List.mem_of_getElem? ep)
        have ez : (xs.zip ps)[i]? = some (.ref t, p) := List.getElem?_zip_eq_some.mpr ⟨ex, ep⟩
        have hd : (xs.zip ps).drop i = (.ref t, p) :: (xs.zip ps).drop (i + 1) := by
          have hiz : i < (xs.zip ps).length := (List.getElem?_eq_some_iff.mp ez).1
          rw [List.drop_eq_getElem_cons hiz]
          congr 1
          exact Option.some.inj ((List.getElem?_eq_getElem hiz).symm.trans ez)
        rw [hd] at hfold
        cases b with
        | none =>
          refine ⟨_, rfl, rfl, _, rfl, ?_⟩
          refine iteT (iteT ⟨_, rfl, rfl, _, some (.ref t, p), rfl, hfold, fun x z => ?_⟩)
          cases z
          exact ⟨⟨t, rfl, ht⟩, hp⟩
        | some x =>
          obtain ⟨⟨u, hxu, hu⟩, hxb⟩ := hbb x rfl
          have e3 : (bestV (some x)) = .ref u := hxu
          refine ⟨_, rfl, rfl, _, rfl, ?_⟩
          have e4 : decide (bestV (some x) = V.non) = false := by
            rw [e3]
            rfl
          rw [e4]
          refine iteF ?_
          refine ⟨_, rfl, _, rfl, t, u, p, x.2, (by rw [e3]; rfl), ht, hu, hp, hxb, ?_⟩
          have hf2 : bestF lessQ (if lessQ p x.2 = true then some (V.ref t, p) else some x) ((xs.zip ps).drop (i + 1)) = bestF lessQ none (xs.zip ps) := hfold
          refine ⟨_, rfl, ?_⟩
          by_cases hl : lessQ p x.2 = true
          · rw [if_pos hl] at hf2
            have hl2 : lessQ p x.2 = true := hl
            rw [hl2]
            refine iteT ⟨_, rfl, rfl, _, some (.ref t, p), rfl, hf2, fun x z => ?_⟩
            cases z
            exact ⟨⟨t, rfl, ht⟩, hp⟩
          · rw [if_neg hl] at hf2
            have hl2 : lessQ p x.2 = false := by
              cases e : lessQ p x.2 with
              | false => rfl
              | true => exact absurd e hl
            rw [hl2]
            exact iteF ⟨rfl, _, some x, rfl, hf2, hbb⟩
      · rintro σ H' ⟨rfl, y, b, rfl, hfold, _⟩
        refine ⟨y, rfl, ?_⟩
        have e5 : (xs.zip ps).drop xs.length = [] := List.drop_eq_nil_of_le (by rw [List.length_zip]; omega)
        rw [e5] at hfold
        rw [← hfold]
        cases b <;> rfl
    · rintro σ H' ⟨y, rfl, rfl⟩
      exact ⟨_, rfl, fin⟩
theorem ok_greatest_of {f : Addr} {fd : FuncData} (F : Fun K "greatest_of" "greatest_of" s_greatest_of f fd) (C_is_less : Cl P w K mg base 1 "is_less" (spLess K)) :
    FnOk P w K mg base CX0 2 f fd ["some"] (spBest K gtQ) := by
  refine F.ok sc_greatest_of (fun vs H Q E h => ?_) (fun cdv A outer s H vs Q E hr h => ?_)
  · obtain ⟨_, _, _, rfl, _⟩ := h
    rfl
  · obtain ⟨s1, xs, ps, rfl, hS, hF, hb, fin⟩ := h
    refine ⟨_, (pss_cons (ps_set (i := 1) sc_greatest_of.nd rfl (.inl rfl) pe_non)
    (pss_cut (ps_for PassesOwn.never rfl (pi_tup (pv 0)) (pg_name (i := 2) sc_greatest_of.nd rfl (.inl rfl))
      (pss_one (ps_if (PW.pt (pw_or (pt_cmpR op_isN (pv 1) pe_non (nomark _)) (pw_or1 (pt_val (pe_cl C_is_less hr (by decide) rfl (pa_cons (pv 1) (pa_cons (pv 2) pa_nil)))))))
        (pss_one (ps_set (i := 1) sc_greatest_of.nd rfl (.inl rfl) (pv 2)))
        pss_nil)))
    (pss_one (ps_ret (pv 1))))), ?_⟩
    have lxs := hF.len
    refine ⟨fun σ H' => ∃ y : Option V, H' = H ∧ σ = [some (.ref s1), some (bestV (bestF gtQ none (xs.zip ps))), y], ?_, ?_⟩
    · refine ⟨_, rfl, s1, rfl, ⟨_, hS⟩, ?_⟩
      refine for_it (walk_tup (K := K) (a := s1) (xs := xs)) (fun i σ H' => H' = H ∧ ∃ (y : Option V) (b : Option (V × Q2)), σ = [some (.ref s1), some (bestV b), y] ∧ bestF gtQ b ((xs.zip ps).drop i) = bestF gtQ none (xs.zip ps) ∧
        (∀ x, b = some x → (∃ t, x.1 = .ref t ∧ SqT K H t (pV x.2)) ∧ Bt 3000 x.2)) ⟨rfl, none, none, rfl, rfl, fun x z => nomatch z⟩ ?_ ?_ ?_
      · rintro i σ H' _ ⟨rfl, _⟩
        exact hS
      · rintro i v σ H1 H2 hi ⟨rfl, y, b, rfl, hfold, hbb⟩ ⟨e2, ex⟩
        subst e2
        obtain ⟨t, p, rfl, ep, ht⟩ := hF.get ex
        have hp := hb p (List.mem_of_getElem? ep)
        have ez : (xs.zip ps)[i]? = some (.ref t, p) := List.getElem?_zip_eq_some.mpr ⟨ex, ep⟩
        have hd : (xs.zip ps).drop i = (.ref t, p) :: (xs.zip ps).drop (i + 1) := by
          have hiz : i < (xs.zip ps).length := (List.getElem?_eq_some_iff.mp ez).1
          rw [List.drop_eq_getElem_cons hiz]
          congr 1
          exact Option.some.inj ((List.getElem?_eq_getElem hiz).symm.trans ez)
        rw [hd] at hfold
        cases b with
        | none =>
          refine ⟨_, rfl, rfl, _, rfl, ?_⟩
          refine iteT (iteT ⟨_, rfl, rfl, _, some (.ref t, p), rfl, hfold, fun x z => ?_⟩)
          cases z
          exact ⟨⟨t, rfl, ht⟩, hp⟩
        | some x =>
          obtain ⟨⟨u, hxu, hu⟩, hxb⟩ := hbb x rfl
          have e3 : (bestV (some x)) = .ref u := hxu
          refine ⟨_, rfl, rfl, _, rfl, ?_⟩
          have e4 : decide (bestV (some x) = V.non) = false := by
            rw [e3]
            rfl
          rw [e4]
          refine iteF ?_
          refine ⟨_, rfl, _, rfl, u, t, x.2, p, (by rw [e3]; rfl), hu, ht, hxb, hp, ?_⟩
          have hf2 : bestF gtQ (if gtQ p x.2 = true then some (V.ref t, p) else some x) ((xs.zip ps).drop (i + 1)) = bestF gtQ none (xs.zip ps) := hfold
          refine ⟨_, rfl, ?_⟩
          by_cases hl : gtQ p x.2 = true
          · rw [if_pos hl] at hf2
            have hl2 : lessQ x.2 p = true := hl
            rw [hl2]
            refine iteT ⟨_, rfl, rfl, _, some (.ref t, p), rfl, hf2, fun x z => ?_⟩
            cases z
            exact ⟨⟨t, rfl, ht⟩, hp⟩
          · rw [if_neg hl] at hf2
            have hl2 : lessQ x.2 p = false := by
              cases e : lessQ x.2 p with
              | false => rfl
              | true => exact absurd e hl
            rw [hl2]
            exact iteF ⟨rfl, _, some x, rfl, hf2, hbb⟩
      · rintro σ H' ⟨rfl, y, b, rfl, hfold, _⟩
        refine ⟨y, rfl, ?_⟩
        have e5 : (xs.zip ps).drop xs.length = [] := List.drop_eq_nil_of_le (by rw [List.length_zip]; omega)
        rw [e5] at hfold
        rw [← hfold]
        cases b <;> rfl
    · rintro σ H' ⟨y, rfl, rfl⟩
      exact ⟨_, rfl, fin⟩
end
end K2


namespace VG
open PySem PySem.Spec PyProof.Rows L2
/-! a call of a def that wants no repr under way -/
structure ClG (P : Program) (w : World) (K : PySem.W.Frag) (mg : Str → Option Value) (base : Heap) (k : Nat) (x : Str) (sp : Sp) : Prop where
  ex : ∃ (f : Addr) (fd : FuncData) (ps : List Str), FnG P w K mg base k f fd ps sp ∧ mg x = some (.ref f) ∧ PySem.W.keepIn K (.ref f) = true ∧ Binds K fd ps []
section
variable {X : Cx} {k j : Nat} {x : Str} {sp : Sp} {p pos : Pos} {e : Expr} {es : List Expr} {t : TA}
theorem run_clg {f : Addr} {fd : FuncData} {ps : List Str} {pins : List (Addr × Obj)} {σ : L2.St} {H : Hp} {s : Shared} {Q : VK} {us : List Value} {vs : List V} (F : FnG X.prog X.w X.K X.mg X.base k f fd ps sp) (hg : X.A.guards = some []) (hr : Room k X.A)
    (hb : Binds X.K fd ps []) (I : Inv X pins σ H s) (r : Vals vs us) (h : sp vs H Q E0) : wpAny (model X.prog X.w) X.A (call (.ref f) us) (EP X pins σ Q) X.xe s := by
  have hl : us.length = ps.length := by
    rw [← r.length]
    exact F.len _ _ _ _ h
  have hb2 := hb s us I.kIn (by rw [List.append_nil]; exact hl)
  rw [List.append_nil] at hb2
  apply wpAny_call
  apply codeAny_mono (F.run X.A X.stack s H ⟨us, []⟩ us vs Q E0 hg hr I.env0 hb2 r h)
  intro rr s' hq
  match rr, hq with
  | .ok (.ret u), hq => exact I.after hq
theorem pe_clg (c : ClG X.prog X.w X.K X.mg X.base k x sp) (hgd : X.A.guards = some []) (hr : Room j X.A) (hk : k ≤ j) (hg : Gl X x) (ha : PA X (e :: es) t)
    (h1 : (x == ("__debug__" : Str)) = false := by decide) (h2 : starEach (e :: es) X.env = (false, eval e X.env) :: starEach es X.env := by rfl)
    (h3 : (backTo pos (starEach es X.env)).any (·.1) = false := by rfl) : PE X (.Call (.Name x p) (e :: es) [] pos) (tCall sp [] E0 t) := by
  obtain ⟨f, fd, ps, F, m, kp, b⟩ := c.ex
  constructor
  intro pins s σ H Q I h
  apply wpAny_Call_Name_kw
  apply ld_glob I hg m _ h1
  apply PySem.W.callWith_K (h₀ := X.base) I.ok.mod.kin kp _ h2 h3
  apply thn (ha.run pos pins s σ H _ I h)
  intro us s1 hh
  obtain ⟨vs, H1, I1, r, q⟩ := hh
  refine And.intro I1.kIn ?_
  exact run_clg F hgd (hr.mono hk) b I1 r (by rw [← List.append_nil vs]; exact q)
end
section
variable {X : Cx}
/-- repr of a truth value -/
theorem cr_reprB : CallR X (.builtin "repr") (fun xs H Q => ∃ b : Bool, xs = [.bl b] ∧ Q (.str (if b = true then (("True" : String) : Str) else (("False" : String) : Str))) H) := by
  intro pins s σ H vs us Q I r h
  obtain ⟨b, rfl, q⟩ := h
  cases r with
  | cons r1 r2 =>
    cases r2
    have e : _ = Value.bool b := r1
    subst e
    refine P.repr_of_bool ?_
    refine ⟨.str (if b = true then (("True" : String) : Str) else (("False" : String) : Str)), H, I.tok _, ⟨s.toks, ?_⟩, q⟩
    cases b <;> rfl
/-- is, of two truth values -/
theorem op_isB : OpR X (compareOp .Is) (fun x y H Q => ∃ a b : Bool, x = .bl a ∧ y = .bl b ∧ Q (.bl (decide (a = b))) H) := by
  intro pins s σ H x y v u Q I rx ry h
  obtain ⟨a, b, rfl, rfl, q⟩ := h
  have e1 : v = Value.bool a := rx
  have e2 : u = Value.bool b := ry
  subst e1 e2
  refine is_bool ?_
  refine ⟨.bl (decide (a = b)), H, I, ?_, q⟩
  show Value.bool _ = Value.bool _
  cases a <;> cases b <;> rfl
end
end VG


/-! the draws of a law: a list of numbers and one number more, from which all is drawn -/
namespace HD
open PySem PySem.Spec PyProof.Rows L2 VG
def Hd (p q : Addr) (H : Hp) : Prop := ∃ (cs : List Int) (st : Int), H p = some (.lst [.ref q, .int st]) ∧ H q = some (.lst (cs.map V.int)) ∧ cs.length ≤ 63 ∧ 0 ≤ st ∧ st < 2147483647
def Keep (p q : Addr) (H H' : Hp) : Prop := ∀ b o, b ≠ p → b ≠ q → H b = some o → H' b = some o
theorem Keep.refl (p q : Addr) (H : Hp) : Keep p q H H := fun _ _ _ _ h => h
theorem Keep.trans {p q : Addr} {H H1 H2 : Hp} (a : Keep p q H H1) (b : Keep p q H1 H2) : Keep p q H H2 := fun x o n1 n2 h => b x o n1 n2 (a x o n1 n2 h)
theorem Keep.of_same {p q : Addr} {H H1 : Hp} (a : Same H H1) : Keep p q H H1 := fun x o _ _ h => a x o h
theorem Keep.new {p q n : Addr} {o : HO} {H : Hp} (h : H n = none) : Keep p q H (upd H n o) := fun b x _ _ e => by
  rw [upd_ne (ne_of_none e h)]
  exact e
theorem Keep.at1 {p q : Addr} {o : HO} {H : Hp} : Keep p q H (upd H p o) := fun b x h _ e => by
  rw [upd_ne h]
  exact e
theorem Keep.at2 {p q : Addr} {o : HO} {H : Hp} : Keep p q H (upd H q o) := fun b x _ h e => by
  rw [upd_ne h]
  exact e
theorem Hd.ne {p q : Addr} {H : Hp} (h : Hd p q H) : p ≠ q := by
  obtain ⟨cs, st, h1, h2, _⟩ := h
  intro e
  subst e
  rw [h1] at h2
  cases cs with
  | nil => cases h2
  | cons c r => cases h2
theorem Hd.new {p q n : Addr} {o : HO} {H : Hp} (h : Hd p q H) (hn : H n = none) : Hd p q (upd H n o) := by
  obtain ⟨cs, st, h1, h2, h3⟩ := h
  exact ⟨cs, st, by rw [upd_ne (ne_of_none h1 hn)]; exact h1, by rw [upd_ne (ne_of_none h2 hn)]; exact h2, h3⟩
theorem Hd.neOf {p q n : Addr} {o : HO} {H : Hp} (h : Hd p q H) (hn : H n = some o) (ho : ∀ xs, o ≠ .lst xs) : n ≠ p ∧ n ≠ q := by
  obtain ⟨cs, st, h1, h2, _⟩ := h
  constructor
  · intro e
    subst e
    rw [h1] at hn
    exact ho _ (Option.some.inj hn).symm
  · intro e
    subst e
    rw [h2] at hn
    exact ho _ (Option.some.inj hn).symm
theorem Hd.free {p q n : Addr} {H : Hp} (h : Hd p q H) (hn : H n = none) : n ≠ p ∧ n ≠ q := by
  obtain ⟨cs, st, h1, h2, _⟩ := h
  exact ⟨(ne_of_none h1 hn).symm, (ne_of_none h2 hn).symm⟩

/-! lists of ints as data -/
theorem dpAll_ints (K : PySem.W.Frag) (H : Hp) : ∀ cs : List Int, DpAll K H (cs.map V.int) (cs.map PyData.int)
  | [] => .nil
  | c :: cs => .cons (.int c) (dpAll_ints K H cs)
theorem dp_ints {K : PySem.W.Frag} {H : Hp} {q : Addr} {cs : List Int} (h : SqL K H q (cs.map V.int)) : Dp K H (.ref q) (.list (cs.map PyData.int)) := .lst h (dpAll_ints K H cs)
theorem lay_ints : ∀ cs : List Int, PyData.canLayAll0 (cs.map PyData.int) = true
  | [] => rfl
  | c :: cs => by
    show (PyData.canLay0 (.int c) && PyData.canLayAll0 (cs.map PyData.int)) = true
    rw [lay_ints cs]
    rfl
theorem depth_ints : ∀ cs : List Int, PyData.depthAll (cs.map PyData.int) = 0
  | [] => rfl
  | c :: cs => by
    show max (PyData.depth (.int c)) (PyData.depthAll (cs.map PyData.int)) = 0
    rw [depth_ints cs]
    rfl
theorem shaped_ints (cs : List Int) : SeqAt.shaped (.list (cs.map PyData.int)) = true := by
  unfold SeqAt.shaped
  rw [Bool.and_eq_true]
  refine ⟨?_, decide_eq_true ?_⟩
  · show PyData.canLayAll0 (cs.map PyData.int) = true
    exact lay_ints cs
  · show PyData.depthAll (cs.map PyData.int) + 1 ≤ 64
    rw [depth_ints]
    decide
theorem shaped_nil : SeqAt.shaped (.list []) = true := by decide +kernel
theorem eqv_nil (cs : List Int) : PyData.eqv (.list (cs.map PyData.int)) (.list []) = decide (cs = []) := by
  cases cs with
  | nil => rfl
  | cons c r => rfl

section
variable {P : Program} {w : World} {K : PySem.W.Frag} {mg : Str → Option Value} {base : Heap}
/-- a draw: some number below many -/
def spDraw : Sp := fun vs H Q _ => ∃ (p q : Addr) (many : Int), vs = [.ref p, .int many] ∧ Hd p q H ∧ 0 < many ∧ many < 1073741824 ∧ ∀ (H' : Hp) (r : Int), Hd p q H' → Keep p q H H' → 0 ≤ r → r < many → Q (.int r) H'
/-- one of some -/
def spPick (K : PySem.W.Frag) : Sp := fun vs H Q _ => ∃ (p q l : Addr) (xs : List V), vs = [.ref p, .ref l] ∧ Hd p q H ∧ H l = some (.lst xs) ∧ l ≠ p ∧ l ≠ q ∧ xs ≠ [] ∧ xs.length < 1000000 ∧ ∀ (H' : Hp) (v : V), Hd p q H' → Keep p q H H' → v ∈ xs → Q v H'
end
theorem same_put {H H' : Hp} {L : Addr} {o : HO} (h : Same H H') (n : H L = none) : Same H (upd H' L o) := fun b x e => by
  rw [upd_ne (ne_of_none e n)]
  exact h b x e
theorem _root_.HD.Hd.same {p q : Addr} {H H' : Hp} (h : Hd p q H) (s : Same H H') : Hd p q H' := by
  obtain ⟨cs, st, h1, h2, h3⟩ := h
  exact ⟨cs, st, s _ _ h1, s _ _ h2, h3⟩
theorem snocL {α : Type} (cs : List α) (h : cs ≠ []) : ∃ c0 c, cs = c0 ++ [c] := ⟨cs.dropLast, cs.getLast h, (List.dropLast_concat_getLast h).symm⟩
theorem fmod_lt (a : Int) {m : Int} (h : 0 < m) : 0 ≤ a.fmod m ∧ a.fmod m < m := ⟨Int.fmod_nonneg_of_pos a h, Int.fmod_lt_of_pos a h⟩
end HD


namespace K2
open PySem PySem.Spec PyProof.Rows L2 VG HD
abbrev s__law_draw : Stmt := topS 27
abbrev N__law_draw : List Str := ["heap", "many", "rest"]
theorem sc__law_draw : FnScope N__law_draw ["heap", "many"] (defScope s__law_draw) := ⟨rfl, rfl, rfl, by decide +kernel, rfl, by decide +kernel, by decide +kernel⟩
abbrev s__law_pick : Stmt := topS 28
abbrev N__law_pick : List Str := ["heap", "some"]
theorem sc__law_pick : FnScope N__law_pick ["heap", "some"] (defScope s__law_pick) := ⟨rfl, rfl, rfl, by decide +kernel, rfl, by decide +kernel, by decide +kernel⟩
section
variable {P : Program} {w : World} {K : PySem.W.Frag} {mg : Str → Option Value} {base : Heap}
theorem ok__law_draw {f : Addr} {fd : FuncData} (F : Fun K "_law_draw" "_law_draw" s__law_draw f fd) (z_int : mg "int" = none) :
    FnOk P w K mg base CX0 1 f fd ["heap", "many"] spDraw := by
  refine F.ok sc__law_draw (fun vs H Q E h => ?_) (fun cdv A outer s H vs Q E hr h => ?_)
  · obtain ⟨p, q, many, rfl, _⟩ := h
    rfl
  · obtain ⟨p, q, many, rfl, hd, m0, m1, fin⟩ := h
    refine ⟨_, (pss_cut (ps_while PassesOwn.never (PW.pt (pw_and (pt_cmpR (op_neD hr.units) (pe_ix ix_list (pv 0) pe_int (fun _ _ => rfl)) (pe_lst pa_nil) (nomark _)) (pw_and1 (pt_cmpR op_eq (pe_ix ix_list (pe_ix ix_list (pv 0) pe_int (fun _ _ => rfl)) (pe_un un_neg pe_int) (fun _ _ => rfl)) pe_int (nomark _)))))
      (pss_one (ps_expr (pe_bm0 PySem.F.plainAttrs_list PySem.F.slot_list_pop PySem.F.type_list_pop mt_pop (pe_ix ix_list (pv 0) pe_int (fun _ _ => rfl))))))
    (pss_cons (ps_if (pt_cmpR (op_neD hr.units) (pe_ix ix_list (pv 0) pe_int (fun _ _ => rfl)) (pe_lst pa_nil) (nomark _))
      (pss_cons (ps_set (i := 2) sc__law_draw.nd rfl (.inl rfl) (pe_bm0 PySem.F.plainAttrs_list PySem.F.slot_list_pop PySem.F.type_list_pop mt_pop (pe_ix ix_list (pv 0) pe_int (fun _ _ => rfl))))
      (pss_cons (ps_expr (pe_bm PySem.F.plainAttrs_list PySem.F.slot_list_append PySem.F.type_list_append mt_append (pe_ix ix_list (pv 0) pe_int (fun _ _ => rfl)) (pa_cons (pe_op op_fdivN (pv 2) (pv 1)) pa_nil)))
      (pss_one (ps_ret (pe_op op_modN (pe_callTy call_int1 (by rfl) z_int (by decide +kernel) (pa_cons (pv 2) pa_nil)) (pv 1))))))
      pss_nil)
    (pss_cons (ps_asg (pe_op op_modN (pe_callTy call_int1 (by rfl) z_int (by decide +kernel) (pa_cons (pe_op op_add (pe_op op_mul (pe_ix ix_list (pv 0) pe_int (fun _ _ => rfl)) pe_int) pe_int) pa_nil)) pe_int) (pg_sub (pv 0) pe_int set_list))
    (pss_one (ps_ret (pe_op op_modN (pe_callTy call_int1 (by rfl) z_int (by decide +kernel) (pa_cons (pe_op op_fdivN (pe_ix ix_list (pv 0) pe_int (fun _ _ => rfl)) pe_int) pa_nil)) (pv 1))))))), ?_⟩
    obtain ⟨cs, st, h1, h2, h3, h4, h5⟩ := hd
    have at0 : ∀ x y : V, atI [x, y] 0 = some x := fun _ _ => rfl
    have at1 : ∀ x y : V, atI [x, y] 1 = some y := fun _ _ => rfl
    refine ⟨fun σ H' => σ = [some (.ref p), some (.int many), none] ∧ Keep p q H H' ∧ ∃ cs : List Int, H' p = some (.lst [.ref q, .int st]) ∧ H' q = some (.lst (cs.map V.int)) ∧ cs.length ≤ 63, ?_, ?_⟩
    · -- the loop
      refine ⟨fun m σ H' => ∃ cs : List Int, m = cs.length ∧ σ = [some (.ref p), some (.int many), none] ∧ Keep p q H H' ∧ H' p = some (.lst [.ref q, .int st]) ∧ H' q = some (.lst (cs.map V.int)) ∧ cs.length ≤ 63,
        ⟨_, cs, rfl, rfl, Keep.refl _ _ _, h1, h2, h3⟩, ?_⟩
      rintro m σ H1 ⟨cs, rfl, rfl, kp, h1, h2, h3⟩
      refine ⟨_, rfl, p, _, 0, .ref q, rfl, rfl, .inl (.inl h1), at0 _ _, Nat.zero_le _, fun l nl => ?_⟩
      have n1 : p ≠ l := ne_of_none h1 nl
      have n2 : q ≠ l := ne_of_none h2 nl
      have g1 : (upd H1 l (.lst [])) p = some (.lst [.ref q, .int st]) := by
        rw [upd_ne n1]
        exact h1
      have g2 : (upd H1 l (.lst [])) q = some (.lst (cs.map V.int)) := by
        rw [upd_ne n2]
        exact h2
      have kp1 : Keep p q H (upd H1 l (.lst [])) := kp.trans (Keep.new nl)
      refine ⟨_, .list [], dp_ints (.inl (.inl g2)), .lst (.inl (.inl upd_same)) .nil, shaped_ints _, shaped_nil, _, rfl, ?_⟩
      rw [eqv_nil]
      by_cases hc : cs = []
      · rw [decide_eq_true hc]
        refine iteF ⟨rfl, kp1, cs, g1, g2, h3⟩
      · rw [decide_eq_false hc]
        refine iteT ?_
        obtain ⟨c0, c, rfl⟩ := snocL cs hc
        have gl : atI ((c0 ++ [c]).map V.int) (-1) = some (.int c) := by
          rw [List.map_append]
          exact atI_last _ _
        refine ⟨_, rfl, p, _, 0, .ref q, rfl, rfl, .inl (.inl g1), at0 _ _, 1, rfl, q, _, -1, _, rfl, rfl, .inl (.inl g2), gl, rfl, _, rfl, ite2 (fun e => ?_) (fun e => ?_)⟩
        · refine ⟨fun σ' H'' => σ' = [some (.ref p), some (.int many), none] ∧ Keep p q H H'' ∧ H'' p = some (.lst [.ref q, .int st]) ∧ H'' q = some (.lst (c0.map V.int)), fun σ' H'' hN => ?_, ?_⟩
          · obtain ⟨e1, e2, e3, e4⟩ := hN
            rw [List.length_append, List.length_cons, List.length_nil] at h3
            exact ⟨c0.length, by rw [List.length_append, List.length_cons, List.length_nil]; omega, c0, rfl, e1, e2, e3, e4, by omega⟩
          · refine ⟨_, rfl, p, _, 0, .ref q, rfl, rfl, .inl (.inl g1), at0 _ _, .inl ⟨rfl, _, .inl (.inl g2)⟩, q, _, .int c, rfl, rfl, g2, ?_, rfl, kp1.trans Keep.at2, ?_, ?_⟩
            · rw [List.map_append, List.length_append, List.getElem?_append_right (by simp)]
              simp
            · rw [upd_ne (show p ≠ q from Hd.ne (H := upd H1 l (.lst [])) ⟨_, _, g1, g2, h3, h4, h5⟩)]
              exact g1
            · rw [upd_same, List.map_append]
              simp
        · exact ⟨rfl, kp1, _, g1, g2, h3⟩
    · rintro σ H1 ⟨rfl, kp, cs, h1, h2, h3⟩
      refine ⟨_, rfl, p, _, 0, .ref q, rfl, rfl, .inl (.inl h1), at0 _ _, Nat.zero_le _, fun l nl => ?_⟩
      have n1 : p ≠ l := ne_of_none h1 nl
      have n2 : q ≠ l := ne_of_none h2 nl
      have g1 : (upd H1 l (.lst [])) p = some (.lst [.ref q, .int st]) := by
        rw [upd_ne n1]
        exact h1
      have g2 : (upd H1 l (.lst [])) q = some (.lst (cs.map V.int)) := by
        rw [upd_ne n2]
        exact h2
      have kp1 : Keep p q H (upd H1 l (.lst [])) := kp.trans (Keep.new nl)
      have hpq : p ≠ q := Hd.ne (H := upd H1 l (.lst [])) ⟨_, _, g1, g2, h3, h4, h5⟩
      refine ⟨_, .list [], dp_ints (.inl (.inl g2)), .lst (.inl (.inl upd_same)) .nil, shaped_ints _, shaped_nil, _, rfl, ?_⟩
      rw [eqv_nil]
      by_cases hc : cs = []
      · -- from the number
        rw [decide_eq_true hc]
        refine iteF ?_
        have b1 : -(2 ^ 64) < st ∧ st < 2 ^ 64 := ⟨by omega, by omega⟩
        have fm := fmod_lt (st * 48271 + 17) (m := 2147483647) (by decide)
        refine ⟨_, rfl, p, _, 1, .int st, rfl, rfl, .inl (.inl g1), at1 _ _, _, _, rfl, rfl, .inl b1, _, _, rfl, rfl, .inl ⟨_, rfl, _, _, rfl, rfl, by show (2147483647 : Int) ≠ 0; decide, ?_⟩⟩
        refine ⟨_, rfl, p, _, 1, 1, rfl, rfl, g1, rfl, ?_⟩
        have g3 : (upd (upd H1 l (.lst [])) p (.lst ([V.ref q, V.int st].set 1 (V.int ((st * 48271 + 17).fmod 2147483647))))) p = some (.lst [.ref q, .int ((st * 48271 + 17).fmod 2147483647)]) := upd_same
        refine ⟨_, rfl, p, _, 1, .int ((st * 48271 + 17).fmod 2147483647), rfl, rfl, .inl (.inl g3), at1 _ _, _, _, rfl, rfl, ⟨by decide, by decide⟩, .inl ⟨_, rfl, _, rfl, _, _, rfl, rfl, by omega, ?_⟩⟩
        have fm2 := fmod_lt (((st * 48271 + 17).fmod 2147483647).fdiv 32) m0
        refine fin _ _ ⟨cs, _, g3, ?_, h3, fm.1, fm.2⟩ (kp1.trans Keep.at1) fm2.1 fm2.2
        rw [upd_ne hpq.symm]
        exact g2
      · rw [decide_eq_false hc]
        refine iteT ?_
        obtain ⟨c0, c, rfl⟩ := snocL cs hc
        have gp : (List.map V.int (c0 ++ [c]))[(List.map V.int (c0 ++ [c])).length - 1]? = some (.int c) := by
          rw [List.map_append, List.length_append, List.getElem?_append_right (by simp)]
          simp
        refine ⟨_, rfl, p, _, 0, .ref q, rfl, rfl, .inl (.inl g1), at0 _ _, .inl ⟨rfl, _, .inl (.inl g2)⟩, q, _, .int c, rfl, rfl, g2, gp, ?_⟩
        have dl : (List.map V.int (c0 ++ [c])).dropLast = c0.map V.int := by
          rw [List.map_append]
          simp
        rw [dl]
        have g3 : (upd (upd H1 l (.lst [])) q (.lst (c0.map V.int))) p = some (.lst [.ref q, .int st]) := by
          rw [upd_ne hpq]
          exact g1
        have g4 : (upd (upd H1 l (.lst [])) q (.lst (c0.map V.int))) q = some (.lst (c0.map V.int)) := upd_same
        refine ⟨_, rfl, p, _, 0, .ref q, rfl, rfl, .inl (.inl g3), at0 _ _, .inl ⟨rfl, _, .inl (.inl g4)⟩, _, rfl, _, rfl, _, _, rfl, rfl, ⟨by omega, by omega⟩, q, _, _, rfl, rfl, g4, ?_, ?_⟩
        · rw [List.length_append, List.length_cons, List.length_nil] at h3
          rw [List.length_map]
          exact small1000 (by omega)
        · refine ⟨_, rfl, .inl ⟨_, rfl, _, rfl, _, _, rfl, rfl, by omega, ?_⟩⟩
          have fm := fmod_lt c m0
          refine fin _ _ ⟨c0 ++ [c.fdiv many], st, ?_, ?_, ?_, h4, h5⟩ ((kp1.trans Keep.at2).trans Keep.at2) fm.1 fm.2
          · rw [upd_ne hpq]
            exact g3
          · rw [upd_same, List.map_append]
            rfl
          · rw [List.length_append, List.length_cons, List.length_nil] at h3 ⊢
            exact h3
theorem ok__law_pick {f : Addr} {fd : FuncData} (F : Fun K "_law_pick" "_law_pick" s__law_pick f fd) (C__law_draw : Cl P w K mg base 1 "_law_draw" spDraw) (z_len : mg "len" = none) :
    FnOk P w K mg base CX0 2 f fd ["heap", "some"] (spPick K) := by
  refine F.ok sc__law_pick (fun vs H Q E h => ?_) (fun cdv A outer s H vs Q E hr h => ?_)
  · obtain ⟨p, q, l, xs, rfl, _⟩ := h
    rfl
  · obtain ⟨p, q, l, xs, rfl, hd, hl, n1, n2, hx, hz, fin⟩ := h
    refine ⟨_, (pss_one (ps_ret (pe_ix ix_list (pv 1) (pe_cl C__law_draw hr (by decide) rfl (pa_cons (pv 0) (pa_cons (pe_callB call_len_seq (by rfl) z_len (by decide +kernel) (pa_cons (pv 1) pa_nil)) pa_nil))) (fun _ _ => rfl)))), ?_⟩
    have h0 : 0 < xs.length := List.length_pos_iff.mpr hx
    refine ⟨_, rfl, _, rfl, _, rfl, l, xs, rfl, .inl (.inl (.inl hl)), p, q, _, rfl, hd, by omega, by omega, fun H' r hd' kp r0 r1 => ?_⟩
    have hl' := kp l _ n1 n2 hl
    obtain ⟨j, rfl⟩ := Int.eq_ofNat_of_zero_le r0
    have hj : j < xs.length := by omega
    refine ⟨l, xs, _, xs[j], rfl, rfl, .inl (.inl hl'), atI_nat (List.getElem?_eq_getElem hj), ?_⟩
    exact fin _ _ hd' kp (List.getElem_mem hj)
end
abbrev s__law_heap : Stmt := topS 26
abbrev N__law_heap : List Str := ["script", "cell", "cells", "stir"]
theorem sc__law_heap : FnScope N__law_heap ["script"] (defScope s__law_heap) := ⟨rfl, rfl, rfl, by decide +kernel, rfl, by decide +kernel, by decide +kernel⟩
theorem cut_ints (ns : List Int) (lo hi : Option Int) : ∃ ms : List Int, cutV (ns.map V.int) lo hi = ms.map V.int ∧ ms.length ≤ ns.length := by
  refine ⟨(ns.drop (HT.sIx (ns.map V.int).length 0 lo)).take (HT.sIx (ns.map V.int).length (ns.map V.int).length hi - HT.sIx (ns.map V.int).length 0 lo), ?_, ?_⟩
  · unfold cutV
    rw [List.map_take, List.map_drop]
  · rw [List.length_take, List.length_drop]
    omega
section
variable {P : Program} {w : World} {K : PySem.W.Frag} {mg : Str → Option Value} {base : Heap}
def spHeap (K : PySem.W.Frag) : Sp := fun vs H Q _ => ∃ (a : Addr) (ns : List Int), vs = [.ref a] ∧ SqL K H a (ns.map V.int) ∧ ns.length ≤ 63 ∧ ∀ H' p q, Hd p q H' → Same H H' → Q (.ref p) H'
theorem ok__law_heap {f : Addr} {fd : FuncData} (F : Fun K "_law_heap" "_law_heap" s__law_heap f fd) (z_int : mg "int" = none) (z_abs : mg "abs" = none) :
    FnOk P w K mg base CX0 1 f fd ["script"] (spHeap K) := by
  refine F.ok sc__law_heap (fun vs H Q E h => ?_) (fun cdv A outer s H vs Q E hr h => ?_)
  · obtain ⟨a, ns, rfl, _⟩ := h
    rfl
  · obtain ⟨a, ns, rfl, hS, hn, fin⟩ := h
    refine ⟨_, (pss_cons (ps_par (i := 2) (j := 3) (by rfl) sc__law_heap.nd rfl rfl (by decide) rfl rfl (pa_cons (pe_lc (own := [("cell", 1)]) (by rfl) sc__law_heap.nd (pi_list (pe_slice sl_list (pv 0) po_none (po_some pe_int))) (blkOk_by (own := [("cell", 1)]) (N := N__law_heap) (sc := defScope s__law_heap) (by decide +kernel)) (fun _ _ _ _ _ => (pg_name (i := 1) sc__law_heap.nd rfl (.inl rfl))) (fun _ _ _ _ _ => pts_nil) (fun _ _ _ _ _ => (pe_op op_add (pe_op op_mul pe_int (pe_callB call_abs (by rfl) z_abs (by decide +kernel) (pa_cons (pv 1) pa_nil))) (pe_callTy call_int1 (by rfl) z_int (by decide +kernel) (pa_cons (pe_cmpR op_lt (pv 1) pe_int (nomark _)) pa_nil))))) (pa_cons pe_int pa_nil)) (by rfl))
    (pss_cut (ps_for PassesOwn.never rfl (pi_list (pv 2)) (pg_name (i := 1) sc__law_heap.nd rfl (.inl rfl))
      (pss_one (ps_set (i := 3) sc__law_heap.nd rfl (.inl rfl) (pe_op op_modN (pe_callTy call_int1 (by rfl) z_int (by decide +kernel) (pa_cons (pe_op op_add (pe_op op_add (pe_op op_mul (pv 3) pe_int) (pe_op op_modN (pe_callTy call_int1 (by rfl) z_int (by decide +kernel) (pa_cons (pv 1) pa_nil)) pe_int)) pe_int) pa_nil)) pe_int))))
    (pss_one (ps_ret (pe_lst (pa_cons (pe_revL (pe_lc (own := [("cell", 1)]) (by rfl) sc__law_heap.nd (pi_list (pv 2)) (blkOk_by (own := [("cell", 1)]) (N := N__law_heap) (sc := defScope s__law_heap) (by decide +kernel)) (fun _ _ _ _ _ => (pg_name (i := 1) sc__law_heap.nd rfl (.inl rfl))) (fun _ _ _ _ _ => (pts_one (pt_cmpR op_ge (pv 1) (pe_op op_pow pe_int pe_int) (nomark _)))) (fun _ _ _ _ _ => (pv 1)))) (pa_cons (pv 3) pa_nil))))))), ?_⟩
    obtain ⟨ms, em, hm⟩ := cut_ints ns none (some 60)
    refine ⟨_, rfl, _, rfl, a, _, rfl, hS, fun c nc => ?_⟩
    rw [em]
    have s1 : Same H (upd H c (.lst (ms.map V.int))) := FR.same_upd nc
    refine ⟨c, rfl, ⟨_, .inl (.inl upd_same)⟩, fun D nD => ?_⟩
    have ncD : c ≠ D := ne_of_none upd_same nD
    refine lc_it (walk_list (K := K) (a := c) (xs := ms.map V.int)) (fun i H' => Same H H' ∧ H' c = some (.lst (ms.map V.int)) ∧ ∃ cs : List Int, cs.length = i ∧ H' D = some (.lst (cs.map V.int))) ?_ ?_ ?_ ?_
    · exact ⟨s1.trans (FR.same_upd nD), by rw [upd_ne ncD]; exact upd_same, [], rfl, upd_same⟩
    · rintro i H' _ ⟨_, h2, _⟩
      exact .inl (.inl h2)
    · rintro i x H1 H' hi ⟨sm, hc, cs, el, hD⟩ ⟨rfl, ex⟩
      rw [List.length_map] at hi
      rw [List.getElem?_map, List.getElem?_eq_getElem hi] at ex
      have e1 : V.int ms[i] = x := Option.some.inj ex
      subst e1
      refine ⟨rfl, _, rfl, _, rfl, _, _, rfl, rfl, .inl ⟨by decide, by decide⟩, _, rfl, _, _, rfl, rfl, .inr ⟨_, rfl, _, _, rfl, rfl, ?_⟩⟩
      refine ⟨cs.map V.int, hD, ?_, ?_, ?_, ?_⟩
      · rw [List.length_map]
        exact small1000 (by omega)
      · have nH : H D = none := s1.free nD
        exact HD.same_put sm nH
      · rw [upd_ne ncD]
        exact hc
      · refine ⟨cs ++ [2 * (if ms[i] < 0 then -ms[i] else ms[i]) + (if decide (ms[i] < 0) = true then 1 else 0)], by rw [List.length_append, el]; rfl, ?_⟩
        rw [upd_same, List.map_append]
        rfl
    · rintro H1 ⟨sm, hc, cs, el, hD⟩
      rw [List.length_map] at el
      have hcs : cs.length ≤ 63 := by omega
      refine ⟨_, _, rfl, ?_⟩
      -- the loop over the cells
      refine ⟨fun σ H' => H' = H1 ∧ ∃ (y1 : Option V) (st : Int), σ = [some (.ref a), y1, some (.ref D), some (.int st)] ∧ 0 ≤ st ∧ st < 2147483647, ?_, ?_⟩
      · refine ⟨_, rfl, D, rfl, ⟨_, .inl (.inl hD)⟩, ?_⟩
        refine for_it (walk_list (K := K) (a := D) (xs := cs.map V.int)) (fun i σ H' => H' = H1 ∧ ∃ (y1 : Option V) (st : Int), σ = [some (.ref a), y1, some (.ref D), some (.int st)] ∧ 0 ≤ st ∧ st < 2147483647) ?_ ?_ ?_ ?_
        · exact ⟨rfl, _, 20021, rfl, by decide, by decide⟩
        · rintro i σ H' _ ⟨rfl, _⟩
          exact .inl (.inl hD)
        · rintro i x σ H' H'' hi ⟨rfl, y1, st, rfl, h1, h2⟩ ⟨rfl, ex⟩
          rw [List.length_map] at hi
          rw [List.getElem?_map, List.getElem?_eq_getElem hi] at ex
          have e1 : V.int cs[i] = x := Option.some.inj ex
          subst e1
          have fm := fmod_lt (st * 69621 + (cs[i]).fmod 2147483563 + 29) (m := 2147483647) (by decide)
          refine ⟨_, rfl, _, _, rfl, rfl, .inl ⟨by omega, by omega⟩, _, rfl, .inl ⟨_, rfl, _, _, rfl, rfl, by show (2147483563 : Int) ≠ 0; decide, _, _, rfl, rfl, _, _, rfl, rfl, .inl ⟨_, rfl, _, _, rfl, rfl, by show (2147483647 : Int) ≠ 0; decide, ?_⟩⟩⟩
          exact ⟨rfl, _, _, rfl, fm.1, fm.2⟩
        · rintro σ H' ⟨rfl, h⟩
          exact ⟨rfl, h⟩
      · rintro σ H' ⟨rfl, y1, st, rfl, h1, h2⟩
        refine ⟨_, rfl, D, rfl, ⟨_, .inl (.inl hD)⟩, fun B nB => ?_⟩
        have nDB : D ≠ B := ne_of_none hD nB
        refine lc_it (walk_list (K := K) (a := D) (xs := cs.map V.int)) (fun i H2 => Same H H2 ∧ H2 D = some (.lst (cs.map V.int)) ∧ ∃ ds : List Int, ds.length ≤ i ∧ H2 B = some (.lst (ds.map V.int))) ?_ ?_ ?_ ?_
        · exact ⟨sm.trans (FR.same_upd nB), by rw [upd_ne nDB]; exact hD, [], Nat.le_refl _, upd_same⟩
        · rintro i H2 _ ⟨_, g2, _⟩
          exact .inl (.inl g2)
        · rintro i x H2 H3 hi ⟨sm2, hD2, ds, el2, hB⟩ ⟨rfl, ex⟩
          rw [List.length_map] at hi
          rw [List.getElem?_map, List.getElem?_eq_getElem hi] at ex
          have e1 : V.int cs[i] = x := Option.some.inj ex
          subst e1
          refine ⟨rfl, _, rfl, _, _, rfl, rfl, ⟨by decide, by decide, by decide⟩, _, _, rfl, rfl, _, rfl, ite2 (fun e => ?_) (fun e => ?_)⟩
          · refine ⟨_, rfl, ds.map V.int, hB, ?_, HD.same_put sm2 (sm.free nB), ?_, ?_⟩
            · rw [List.length_map]
              exact small1000 (by omega)
            · rw [upd_ne nDB]
              exact hD2
            · refine ⟨ds ++ [cs[i]], by rw [List.length_append, List.length_cons, List.length_nil]; omega, ?_⟩
              rw [upd_same, List.map_append]
              rfl
          · exact ⟨sm2, hD2, ds, by omega, hB⟩
        · rintro H2 ⟨sm2, hD2, ds, el2, hB⟩
          rw [List.length_map] at el2
          refine ⟨B, _, rfl, .inl (.inl hB), fun q nq => ?_⟩
          refine ⟨_, rfl, by show 2 ≤ sizeLine; decide, fun p np => ?_⟩
          have npq : q ≠ p := ne_of_none upd_same np
          refine fin _ p q ⟨ds.reverse, st, upd_same, ?_, ?_, h1, h2⟩ ((sm2.trans (FR.same_upd nq)).trans (FR.same_upd np))
          · rw [upd_ne npq, upd_same, List.map_reverse]
          · rw [List.length_reverse]
            omega
end
end K2


namespace FR
open PySem PySem.Spec PyProof.Rows L2 VG HD
theorem seqTK {K : PySem.W.Frag} {H H' : Hp} {p q t : Addr} {xs : List V} (hd : Hd p q H) (kp : Keep p q H H') (h : SqT K H t xs) : SqT K H' t xs := by
  rcases h with (h | ⟨o, h⟩) | h
  · have n := hd.neOf h (fun ys z => by cases z)
    exact .inl (.inl (kp _ _ n.1 n.2 h))
  · have n := hd.neOf h (fun ys z => by cases z)
    exact .inl (.inr ⟨o, kp _ _ n.1 n.2 h⟩)
  · exact .inr h
/-- Euclid's steps -/
theorem half {x y : Nat} (h : y < x) (h0 : 0 < y) : 2 * (x % y) < x := by
  have h1 := Nat.mod_lt x h0
  have h2 := Nat.div_add_mod x y
  have h3 : 1 ≤ x / y := (Nat.one_le_div_iff h0).mpr (Nat.le_of_lt h)
  have h4 : y * 1 ≤ y * (x / y) := Nat.mul_le_mul_left y h3
  omega
/-- before the i-th step -/
def Eu (g0 : Nat) (i x y : Nat) : Prop := Nat.gcd x y = g0 ∧ y * 2 ^ (i / 2) < 2 ^ 900 ∧ (1 ≤ i → y < x ∧ x * 2 ^ ((i - 1) / 2) < 2 ^ 900)
theorem Eu.step {g0 i x y : Nat} (h : Eu g0 i x y) (h0 : 0 < y) : Eu g0 (i + 1) y (x % y) := by
  obtain ⟨h1, h2, h3⟩ := h
  have hm := Nat.mod_lt x h0
  refine ⟨?_, ?_, fun _ => ⟨hm, ?_⟩⟩
  · rw [← h1, Nat.gcd_comm x y, Nat.gcd_rec y x, Nat.gcd_comm]
  · by_cases hi : 1 ≤ i
    · obtain ⟨h4, h5⟩ := h3 hi
      have h6 := half h4 h0
      have e : (i + 1) / 2 = (i - 1) / 2 + 1 := by omega
      rw [e, Nat.pow_succ]
      have h7 : 2 * (x % y) * 2 ^ ((i - 1) / 2) < x * 2 ^ ((i - 1) / 2) := Nat.mul_lt_mul_of_pos_right h6 (Nat.two_pow_pos _)
      have h8 : x % y * (2 ^ ((i - 1) / 2) * 2) = 2 * (x % y) * 2 ^ ((i - 1) / 2) := by
        simp only [Nat.mul_comm, Nat.mul_left_comm, Nat.mul_assoc]
      omega
    · have e : i = 0 := by omega
      subst e
      show x % y * 1 < 2 ^ 900
      have h2' : y * 1 < 2 ^ 900 := h2
      omega
  · show y * 2 ^ ((i + 1 - 1) / 2) < 2 ^ 900
    rw [Nat.add_sub_cancel]
    exact h2
theorem Eu.bound {g0 i x y : Nat} (h : Eu g0 i x y) : i ≤ 1801 := by
  rcases Nat.lt_or_ge i 1802 with z | z
  · omega
  · exfalso
    obtain ⟨h4, h5⟩ := h.2.2 (by omega)
    have h6 : 2 ^ 900 ≤ 2 ^ ((i - 1) / 2) := Nat.pow_le_pow_right (by decide) (by omega)
    have h7 : 1 * 2 ^ ((i - 1) / 2) ≤ x * 2 ^ ((i - 1) / 2) := Nat.mul_le_mul_right _ (by omega)
    omega
section
def spCop : Sp := fun vs H Q _ => ∃ x y : Nat, vs = [.int x, .int y] ∧ y < 2 ^ 900 ∧ Q (.bl (decide (Nat.gcd x y = 1))) H
/-- the law's own judge, where it must say yes -/
def spIs (K : PySem.W.Frag) : Sp := fun vs H Q _ => ∃ (t : Addr) (p : Q2) (a b : Int), vs = [.ref t, .int a, .int b] ∧ SqT K H t (pV p) ∧ M2.Low p.1 p.2 ∧ p.1 * b = a * p.2 ∧ Bt 890 p ∧ a.natAbs < 2 ^ 8000 ∧ b.natAbs < 2 ^ 8000 ∧ ∀ H', Same H H' → Q (.bl true) H'
def spNumber : Sp := fun vs H Q _ => ∃ p q : Addr, vs = [.ref p] ∧ Hd p q H ∧ ∀ (H' : Hp) (n : Int), Hd p q H' → Keep p q H H' → n.natAbs ≤ 1000000 → Q (.int n) H'
def spFraction : Sp := fun vs H Q _ => ∃ p q : Addr, vs = [.ref p] ∧ Hd p q H ∧ ∀ (H' : Hp) (t : Addr) (a : Q2), Hd p q H' → Keep p q H H' → H' t = some (.tup (pV a)) → M2.Low a.1 a.2 → a.1.natAbs ≤ 1000000 → a.2.natAbs ≤ 1000000 → Q (.ref t) H'
end
end FR
namespace K2
open PySem PySem.Spec PyProof.Rows L2 VG FR HD
abbrev s__law_coprime : Stmt := topS 29
abbrev N__law_coprime : List Str := ["one", "other", "turn"]
theorem sc__law_coprime : FnScope N__law_coprime ["one", "other"] (defScope s__law_coprime) := ⟨rfl, rfl, rfl, by decide +kernel, rfl, by decide +kernel, by decide +kernel⟩
abbrev s__law_is : Stmt := topS 30
abbrev N__law_is : List Str := ["value", "top", "bottom", "one"]
theorem sc__law_is : FnScope N__law_is ["value", "top", "bottom"] (defScope s__law_is) := ⟨rfl, rfl, rfl, by decide +kernel, rfl, by decide +kernel, by decide +kernel⟩
abbrev s__law_number : Stmt := topS 31
abbrev N__law_number : List Str := ["heap", "most"]
theorem sc__law_number : FnScope N__law_number ["heap"] (defScope s__law_number) := ⟨rfl, rfl, rfl, by decide +kernel, rfl, by decide +kernel, by decide +kernel⟩
abbrev s__law_fraction : Stmt := topS 32
abbrev N__law_fraction : List Str := ["heap", "top", "bottom", "turn", "divisor"]
theorem sc__law_fraction : FnScope N__law_fraction ["heap"] (defScope s__law_fraction) := ⟨rfl, rfl, rfl, by decide +kernel, rfl, by decide +kernel, by decide +kernel⟩

section
variable {P : Program} {w : World} {K : PySem.W.Frag} {mg : Str → Option Value} {base : Heap}
theorem ok__law_coprime {f : Addr} {fd : FuncData} (F : Fun K "_law_coprime" "_law_coprime" s__law_coprime f fd) (z_int : mg "int" = none) (z_range : mg "range" = none) :
    FnOk P w K mg base CX0 1 f fd ["one", "other"] spCop := by
  refine F.ok sc__law_coprime (fun vs H Q E h => ?_) (fun cdv A outer s H vs Q E hr h => ?_)
  · obtain ⟨_, _, rfl, _⟩ := h
    rfl
  · obtain ⟨x, y, rfl, hy, fin⟩ := h
    refine ⟨_, (pss_cut (ps_for PassesOwn.never rfl (pi_range1 (by rfl) z_range (pa_cons pe_int pa_nil)) (pg_name (i := 2) sc__law_coprime.nd rfl (.inl rfl))
      (pss_cons (ps_if (pt_cmpR op_eq (pv 1) pe_int (nomark _))
        (pss_one (ps_ret (pe_cmpR op_eq (pv 0) pe_int (nomark _))))
        pss_nil)
      (pss_one (ps_par (i := 0) (j := 1) (by rfl) sc__law_coprime.nd rfl rfl (by decide) rfl rfl (pa_cons (pv 1) (pa_cons (pe_op op_modN (pe_callTy call_int1 (by rfl) z_int (by decide +kernel) (pa_cons (pv 0) pa_nil)) (pv 1)) pa_nil)) (by rfl)))))
    (pss_one (ps_ret pe_bl))), ?_⟩
    refine ⟨fun _ _ => False, ?_, fun _ _ z => z.elim⟩
    refine ⟨2000, rfl, by decide, by decide, ?_⟩
    refine for_it walk_range (fun i σ H' => H' = H ∧ ∃ (x' y' : Nat) (z : Option V), σ = [some (.int x'), some (.int y'), z] ∧ Eu (Nat.gcd x y) i x' y') ?_ (fun _ _ _ _ _ => trivial) ?_ ?_
    · exact ⟨rfl, x, y, none, rfl, rfl, by show y * 1 < 2 ^ 900; omega, fun z => absurd z (by decide)⟩
    · rintro i v σ H1 H2 hi ⟨rfl, x', y', z, rfl, eu⟩ ⟨e2, rfl⟩
      subst e2
      refine ⟨_, rfl, rfl, _, rfl, ite2 (fun e => ?_) (fun e => ?_)⟩
      · have e0 : y' = 0 := by
          have := V.int.inj (of_decide_eq_true e)
          omega
        subst e0
        have e1 := eu.1
        rw [Nat.gcd_zero_right] at e1
        refine ⟨_, rfl, rfl, ?_⟩
        have e3 : decide (V.int (x' : Int) = V.int 1) = decide (Nat.gcd x y = 1) := by
          by_cases h : Nat.gcd x y = 1
          · rw [decide_eq_true h, decide_eq_true (by rw [e1, h]; rfl)]
          · rw [decide_eq_false h, decide_eq_false (fun z => h (by have := V.int.inj z; omega))]
        rw [e3]
        exact fin
      · have h0 : 0 < y' := by
          rcases Nat.eq_zero_or_pos y' with z | z
          · subst z
            exact absurd (decide_eq_true rfl) e
          · exact z
        refine ⟨_, rfl, _, rfl, .inl ⟨_, rfl, _, rfl, _, _, rfl, rfl, by show (y' : Int) ≠ 0; omega, ?_⟩⟩
        refine ⟨_, _, rfl, rfl, y', x' % y', some (.int (0 + (i : Nat))), ?_, eu.step h0⟩
        have e4 : ((x' : Int)).fmod (y' : Int) = ((x' % y' : Nat) : Int) := by
          rw [Int.fmod_eq_emod_of_nonneg _ (by omega)]
          rfl
        rw [← e4]
        rfl
    · rintro σ H' ⟨_, x', y', z, _, eu⟩
      have := eu.bound
      omega
theorem ok__law_is {f : Addr} {fd : FuncData} (F : Fun K "_law_is" "_law_is" s__law_is f fd) (C__law_coprime : Cl P w K mg base 1 "_law_coprime" spCop) (z_isinstance : mg "isinstance" = none) (z_tuple : mg "tuple" = none) (z_int : mg "int" = none) (z_bool : mg "bool" = none)
    (z_len : mg "len" = none) (z_all : mg "all" = none) (z_abs : mg "abs" = none) : FnOk P w K mg base CX0 2 f fd ["value", "top", "bottom"] (spIs K) := by
  refine F.ok sc__law_is (fun vs H Q E h => ?_) (fun cdv A outer s H vs Q E hr h => ?_)
  · obtain ⟨_, _, _, _, rfl, _⟩ := h
    rfl
  · obtain ⟨t, p, a, b, rfl, hS, low, heq, bp, ba, bb, fin⟩ := h
    refine ⟨_, (pss_cons (ps_if (PW.pt (pw_or (pt_not (pt_val (pe_callB call_isi (by rfl) z_isinstance (by decide +kernel) (pa_cons (pv 0) (pa_cons (pe_bltn (v := .ty "tuple") (by rfl) z_tuple (by decide +kernel) rfl) pa_nil))))) (pw_or (pt_cmpR op_ne (pe_callB call_len_seq (by rfl) z_len (by decide +kernel) (pa_cons (pv 0) pa_nil)) pe_int (nomark _)) (pw_or1 (pt_not (pt_val (pe_callB (cr_all rfl) (by rfl) z_all (by decide +kernel) (pa_cons (pe_lc (own := [("one", 3)]) (by rfl) sc__law_is.nd (pi_tup (pv 0)) (blkOk_by (own := [("one", 3)]) (N := N__law_is) (sc := defScope s__law_is) (by decide +kernel)) (fun _ _ _ _ _ => (pg_name (i := 3) sc__law_is.nd rfl (.inl rfl))) (fun _ _ _ _ _ => pts_nil) (fun _ _ _ _ _ => (pe_and (pe_callB (show CallR _ (.builtin "isinstance") (rIsi K) from call_isi) (by rfl) z_isinstance (by decide +kernel) (pa_cons (pv 3) (pa_cons (pe_bltn (v := .ty "int") (by rfl) z_int (by decide +kernel) rfl) pa_nil))) (pe_one (pe_not (pe_callB (show CallR _ (.builtin "isinstance") (rIsi K) from call_isi) (by rfl) z_isinstance (by decide +kernel) (pa_cons (pv 3) (pa_cons (pe_bltn (v := .ty "bool") (by rfl) z_bool (by decide +kernel) rfl) pa_nil)))))))) pa_nil))))))))
      (pss_one (ps_ret pe_bl))
      pss_nil)
    (pss_one (ps_ret (pe_and (pe_cmpR op_gt (pe_ix ix_tup (pv 0) pe_int (fun _ _ => rfl)) pe_int (nomark _)) (pe_and (pe_cmpR op_eq (pe_op op_mulW (pe_ix ix_tup (pv 0) pe_int (fun _ _ => rfl)) (pv 2)) (pe_op op_mulW (pv 1) (pe_ix ix_tup (pv 0) pe_int (fun _ _ => rfl))) (nomark _)) (pe_one (pe_cl C__law_coprime hr (by decide) rfl (pa_cons (pe_callB call_abs (by rfl) z_abs (by decide +kernel) (pa_cons (pe_ix ix_tup (pv 0) pe_int (fun _ _ => rfl)) pa_nil)) (pa_cons (pe_ix ix_tup (pv 0) pe_int (fun _ _ => rfl)) pa_nil))))))))), ?_⟩
    refine ⟨_, rfl, _, _, _, _, true, rfl, .ty "tuple", tyT hS, kit_ty (by decide +kernel), true, rfl, iteF ?_⟩
    refine ⟨_, rfl, t, _, rfl, .inr hS, rfl, _, rfl, iteF ?_⟩
    refine ⟨_, rfl, t, rfl, ⟨_, hS⟩, fun D nD => ?_⟩
    refine lc_it (walk_tup (K := K) (a := t) (xs := pV p)) (fun i H' => Same H H' ∧ ∃ bs : List Bool, bs.length = i ∧ bs.all id = true ∧ H' D = some (.lst (bs.map V.bl))) ⟨same_upd nD, [], rfl, rfl, upd_same⟩ (fun i H' _ h => seqT h.1 hS) ?_ ?_
    · rintro i v H1 H2 hi ⟨sm, bs, hl, hb, hD⟩ ⟨e2, ex⟩
      subst e2
      have hv : ∃ n : Int, v = .int n := by
        have hi2 : i < 2 := hi
        match i, hi2, ex with
        | 0, _, ex => exact ⟨p.1, (Option.some.inj ex).symm⟩
        | 1, _, ex => exact ⟨p.2, (Option.some.inj ex).symm⟩
      obtain ⟨n, rfl⟩ := hv
      refine ⟨rfl, _, rfl, _, _, _, _, true, rfl, .ty "int", .base (.int n), kb1, true, rfl, iteT ?_⟩
      refine ⟨_, rfl, _, _, _, _, false, rfl, .ty "bool", .base (.int n), kb2, _, rfl, ?_⟩
      refine ⟨bs.map V.bl, hD, ?_, HD.same_put sm nD, bs ++ [true], by rw [List.length_append, hl]; rfl, ?_, ?_⟩
      · rw [List.length_map]
        have hi2 : i < 2 := hi
        have : sizeLine = 16777216 := by decide
        omega
      · rw [List.all_append, hb]
        rfl
      · rw [upd_same, List.map_append]
        rfl
    · rintro H1 ⟨sm, bs, hl, hb, hD⟩
      refine ⟨D, bs, rfl, .inl (.inl hD), true, by rw [hb], iteF ?_⟩
      have hS1 := seqT sm hS
      have hp := low.1
      refine ⟨_, rfl, t, _, _, _, rfl, rfl, hS1, at1 _ _, _, _, rfl, rfl, true, by show V.bl (decide (0 < p.2)) = _; rw [decide_eq_true hp], iteT ?_⟩
      refine ⟨_, rfl, t, _, _, _, rfl, rfl, hS1, at0 _ _, _, rfl, _, _, rfl, rfl, mulW (up bp.1 (by decide)) (up bb (by decide)), _, rfl, _, rfl, t, _, _, _, rfl, rfl, hS1, at1 _ _, _, _, rfl, rfl, mulW (up ba (by decide)) (up bp.2 (by decide)), rfl, true, ?_, iteT ?_⟩
      · show V.bl (decide (V.int (p.1 * b) = V.int (a * p.2))) = V.bl true
        rw [decide_eq_true (by rw [heq])]
      refine ⟨_, rfl, t, _, _, _, rfl, rfl, hS1, at0 _ _, _, rfl, _, rfl, t, _, _, _, rfl, rfl, hS1, at1 _ _, p.1.natAbs, p.2.natAbs, ?_, up bp.2 (by decide), ?_⟩
      · have e1 : (if p.1 < 0 then -p.1 else p.1) = (p.1.natAbs : Int) := by
          split <;> omega
        have e2 : p.2 = (p.2.natAbs : Int) := by omega
        show [V.int (if p.1 < 0 then -p.1 else p.1), V.int p.2] ++ [] = _
        rw [e1, ← e2]
        rfl
      · have e3 : Nat.gcd p.1.natAbs p.2.natAbs = 1 := low.2
        rw [decide_eq_true e3]
        exact fin H1 sm
theorem ok__law_number {f : Addr} {fd : FuncData} (F : Fun K "_law_number" "_law_number" s__law_number f fd) (C__law_draw : Cl P w K mg base 1 "_law_draw" spDraw) (C__law_pick : Cl P w K mg base 2 "_law_pick" (spPick K)) :
    FnOk P w K mg base CX0 3 f fd ["heap"] spNumber := by
  refine F.ok sc__law_number (fun vs H Q E h => ?_) (fun cdv A outer s H vs Q E hr h => ?_)
  · obtain ⟨_, _, rfl, _⟩ := h
    rfl
  · obtain ⟨p, q, rfl, hd, fin⟩ := h
    refine ⟨_, (pss_cons (ps_set (i := 1) sc__law_number.nd rfl (.inl rfl) (pe_cl C__law_pick hr (by decide) rfl (pa_cons (pv 0) (pa_cons (pe_lst (pa_cons pe_int (pa_cons pe_int (pa_cons pe_int (pa_cons pe_int (pa_cons pe_int (pa_cons pe_int pa_nil))))))) pa_nil))))
    (pss_one (ps_ret (pe_op op_sub (pe_cl C__law_draw hr (by decide) rfl (pa_cons (pv 0) (pa_cons (pe_op op_add (pe_op op_mulW pe_int (pv 1)) pe_int) pa_nil))) (pv 1))))), ?_⟩
    refine ⟨_, rfl, by show 6 ≤ sizeLine; decide, fun l nl => ?_⟩
    have fr := hd.free nl
    refine ⟨p, q, l, _, rfl, hd.new nl, upd_same, fr.1, fr.2, by simp, by show 6 < 1000000; decide, fun H1 v hd1 kp1 hv => ?_⟩
    have hv2 : ∃ k : Int, v = .int k ∧ 0 < k ∧ k ≤ 1000000 := by
      have : v = .int 7 ∨ v = .int 7 ∨ v = .int 3 ∨ v = .int 60 ∨ v = .int 1000 ∨ v = .int 1000000 := by simpa using hv
      rcases this with z | z | z | z | z | z <;> exact ⟨_, z, by decide, by decide⟩
    obtain ⟨k, rfl, k0, k1⟩ := hv2
    have P40 : (2 : Nat) ^ 40 = 1099511627776 := by decide
    have W : CMulW 2 k := wide_mul (a := 10) (b := 40) (by decide) (by omega) (by decide) (by decide) (by decide)
    refine ⟨_, rfl, _, rfl, _, _, rfl, rfl, W, _, _, rfl, rfl, ?_⟩
    refine ⟨p, q, _, rfl, hd1, by omega, by omega, fun H2 r hd2 kp2 r0 r1 => ?_⟩
    exact ⟨_, rfl, _, _, rfl, rfl, fin H2 _ hd2 ((Keep.trans (Keep.new nl) kp1).trans kp2) (by omega)⟩
theorem ok__law_fraction {f : Addr} {fd : FuncData} (F : Fun K "_law_fraction" "_law_fraction" s__law_fraction f fd) (C__law_number : Cl P w K mg base 3 "_law_number" spNumber) (C__law_pick : Cl P w K mg base 2 "_law_pick" (spPick K)) (C__law_coprime : Cl P w K mg base 1 "_law_coprime" spCop)
    (z_int : mg "int" = none) (z_range : mg "range" = none) (z_abs : mg "abs" = none) (z_max : mg "max" = none) : FnOk P w K mg base CX0 4 f fd ["heap"] spFraction := by
  refine F.ok sc__law_fraction (fun vs H Q E h => ?_) (fun cdv A outer s H vs Q E hr h => ?_)
  · obtain ⟨_, _, rfl, _⟩ := h
    rfl
  · obtain ⟨p, q, rfl, hd, fin⟩ := h
    refine ⟨_, (pss_cons (ps_par (i := 1) (j := 2) (by rfl) sc__law_fraction.nd rfl rfl (by decide) rfl rfl (pa_cons (pe_cl C__law_number hr (by decide) rfl (pa_cons (pv 0) pa_nil)) (pa_cons (pe_callB (call_max2 rfl) (by rfl) z_max (by decide +kernel) (pa_cons pe_int (pa_cons (pe_callB call_abs (by rfl) z_abs (by decide +kernel) (pa_cons (pe_cl C__law_number hr (by decide) rfl (pa_cons (pv 0) pa_nil)) pa_nil)) pa_nil))) pa_nil)) (by rfl))
    (pss_cons (ps_set (i := 2) sc__law_fraction.nd rfl (.inl rfl) (pe_cl C__law_pick hr (by decide) rfl (pa_cons (pv 0) (pa_cons (pe_lst (pa_cons (pv 2) (pa_cons (pv 2) (pa_cons (pv 2) (pa_cons pe_int (pa_cons pe_int (pa_cons pe_int pa_nil))))))) pa_nil))))
    (pss_cut (ps_for PassesOwn.never rfl (pi_range1 (by rfl) z_range (pa_cons pe_int pa_nil)) (pg_name (i := 3) sc__law_fraction.nd rfl (.inl rfl))
      (pss_one (ps_for PassesOwn.never rfl (pi_list (pe_lst (pa_cons pe_int (pa_cons pe_int (pa_cons pe_int (pa_cons pe_int (pa_cons pe_int (pa_cons pe_int pa_nil)))))))) (pg_name (i := 4) sc__law_fraction.nd rfl (.inl rfl))
        (pss_one (ps_if (PW.pt (pw_and (pt_cmpR op_eq (pe_op op_modN (pe_callTy call_int1 (by rfl) z_int (by decide +kernel) (pa_cons (pv 1) pa_nil)) (pv 4)) pe_int (nomark _)) (pw_and1 (pt_cmpR op_eq (pe_op op_modN (pe_callTy call_int1 (by rfl) z_int (by decide +kernel) (pa_cons (pv 2) pa_nil)) (pv 4)) pe_int (nomark _)))))
          (pss_one (ps_par (i := 1) (j := 2) (by rfl) sc__law_fraction.nd rfl rfl (by decide) rfl rfl (pa_cons (pe_callTy call_int1 (by rfl) z_int (by decide +kernel) (pa_cons (pe_op op_fdivW (pv 1) (pv 4)) pa_nil)) (pa_cons (pe_callTy call_int1 (by rfl) z_int (by decide +kernel) (pa_cons (pe_op op_fdivW (pv 2) (pv 4)) pa_nil)) pa_nil)) (by rfl)))
          pss_nil)))))
    (pss_one (ps_ret (pe_ifExp (pt_val (pe_cl C__law_coprime hr (by decide) rfl (pa_cons (pe_callB call_abs (by rfl) z_abs (by decide +kernel) (pa_cons (pv 1) pa_nil)) (pa_cons (pv 2) pa_nil)))) (pe_tup (pa_cons (pv 1) (pa_cons (pv 2) pa_nil))) (pe_tup (pa_cons (pe_callTy call_int1 (by rfl) z_int (by decide +kernel) (pa_cons (pe_op op_fdivW (pv 1) pe_int) pa_nil)) (pa_cons pe_int pa_nil))))))))), ?_⟩
    have P40 : (2 : Nat) ^ 40 = 1099511627776 := by decide
    refine ⟨_, rfl, p, q, rfl, hd, fun H1 a hd1 kp1 ha => ?_⟩
    refine ⟨_, rfl, p, q, rfl, hd1, fun H2 n hd2 kp2 hn => ?_⟩
    refine ⟨_, rfl, _, _, rfl, ?_⟩
    have hb0 : 1 ≤ (if (if n < 0 then -n else n) > 1 then (if n < 0 then -n else n) else 1) ∧ (if (if n < 0 then -n else n) > 1 then (if n < 0 then -n else n) else 1) ≤ 1000000 := by
      split <;> split <;> omega
    generalize (if (if n < 0 then -n else n) > 1 then (if n < 0 then -n else n) else 1) = b0 at hb0
    refine ⟨_, _, rfl, ?_⟩
    refine ⟨_, rfl, _, rfl, _, rfl, _, rfl, by show 6 ≤ sizeLine; decide, fun l nl => ?_⟩
    have fr := hd2.free nl
    refine ⟨p, q, l, _, rfl, hd2.new nl, upd_same, fr.1, fr.2, by simp, by show 6 < 1000000; decide, fun H3 v hd3 kp3 hv => ?_⟩
    have hv2 : ∃ k : Int, v = .int k ∧ 1 ≤ k ∧ k ≤ 1000000 := by
      have : v = .int b0 ∨ v = .int b0 ∨ v = .int b0 ∨ v = .int 1 ∨ v = .int 2 ∨ v = .int 3 := by simpa using hv
      rcases this with z | z | z | z | z | z
      · exact ⟨_, z, hb0.1, hb0.2⟩
      · exact ⟨_, z, hb0.1, hb0.2⟩
      · exact ⟨_, z, hb0.1, hb0.2⟩
      · exact ⟨_, z, by decide, by decide⟩
      · exact ⟨_, z, by decide, by decide⟩
      · exact ⟨_, z, by decide, by decide⟩
    obtain ⟨k, rfl, k0, k1⟩ := hv2
    have kp : Keep p q H H3 := ((kp1.trans kp2).trans (Keep.new nl)).trans kp3
    refine ⟨fun σ H' => ∃ (a b : Int) (y z : Option V), σ = [some (.ref p), some (.int a), some (.int b), y, z] ∧ a.natAbs ≤ 1000000 ∧ 1 ≤ b ∧ b ≤ 1000000 ∧ Keep p q H H' ∧ Hd p q H', ?_, ?_⟩
    · refine ⟨20, rfl, by decide, by decide, ?_⟩
      refine for_it walk_range (fun i σ H' => ∃ (a b : Int) (y z : Option V), σ = [some (.ref p), some (.int a), some (.int b), y, z] ∧ a.natAbs ≤ 1000000 ∧ 1 ≤ b ∧ b ≤ 1000000 ∧ Keep p q H H' ∧ Hd p q H') ⟨a, k, none, none, rfl, ha, k0, k1, kp, hd3⟩ (fun _ _ _ _ _ => trivial) ?_ (fun σ H' h => h)
      rintro i v σ H4 H5 hi ⟨a, b, y, z, rfl, ha, b0, b1, kp4, hd4⟩ ⟨e5, rfl⟩
      subst e5
      refine ⟨by show 6 ≤ sizeLine; decide, fun m nm => ?_⟩
      refine ⟨m, rfl, ⟨_, .inl (.inl upd_same)⟩, ?_⟩
      refine for_it (walk_list (K := K) (a := m) (xs := [.int 2, .int 3, .int 5, .int 7, .int 11, .int 13])) (fun j σ H' => H' m = some (.lst [.int 2, .int 3, .int 5, .int 7, .int 11, .int 13]) ∧ ∃ (a b : Int) (y z : Option V), σ = [some (.ref p), some (.int a), some (.int b), y, z] ∧ a.natAbs ≤ 1000000 ∧ 1 ≤ b ∧ b ≤ 1000000 ∧ Keep p q H H' ∧ Hd p q H') ?_ ?_ ?_ ?_
      · exact ⟨upd_same, a, b, _, z, rfl, ha, b0, b1, kp4.trans (Keep.new nm), hd4.new nm⟩
      · rintro j σ H' _ ⟨h, _⟩
        exact .inl (.inl h)
      · rintro j v σ H6 H7 hj ⟨hm, a, b, y, z, rfl, ha, b0, b1, kp6, hd6⟩ ⟨e7, ex⟩
        subst e7
        have hv : ∃ d : Int, v = .int d ∧ 2 ≤ d ∧ d ≤ 13 := by
          have hj2 : j < 6 := hj
          match j, hj2, ex with
          | 0, _, ex => exact ⟨2, (Option.some.inj ex).symm, by decide, by decide⟩
          | 1, _, ex => exact ⟨3, (Option.some.inj ex).symm, by decide, by decide⟩
          | 2, _, ex => exact ⟨5, (Option.some.inj ex).symm, by decide, by decide⟩
          | 3, _, ex => exact ⟨7, (Option.some.inj ex).symm, by decide, by decide⟩
          | 4, _, ex => exact ⟨11, (Option.some.inj ex).symm, by decide, by decide⟩
          | 5, _, ex => exact ⟨13, (Option.some.inj ex).symm, by decide, by decide⟩
        obtain ⟨d, rfl, d0, d1⟩ := hv
        have stay : ∀ y', ∃ (a_1 b_1 : Int) (y z : Option V), [some (V.ref p), some (V.int a), some (V.int b), y', some (V.int d)] = [some (.ref p), some (.int a_1), some (.int b_1), y, z] ∧ a_1.natAbs ≤ 1000000 ∧ 1 ≤ b_1 ∧ b_1 ≤ 1000000 ∧ Keep p q H H7 ∧ Hd p q H7 :=
          fun y' => ⟨a, b, y', _, rfl, ha, b0, b1, kp6, hd6⟩
        refine ⟨_, rfl, .inl ⟨_, rfl, _, rfl, _, _, rfl, rfl, by show d ≠ 0; omega, rfl, _, rfl, ite2 (fun e => ?_) (fun e => ?_)⟩⟩
        · refine ⟨_, rfl, .inl ⟨_, rfl, _, rfl, _, _, rfl, rfl, by show d ≠ 0; omega, rfl, _, rfl, ite2 (fun e2 => ?_) (fun e2 => ?_)⟩⟩
          · have hb : b.fmod d = 0 := V.int.inj (of_decide_eq_true e2)
            rw [Int.fmod_eq_emod_of_nonneg _ (by omega)] at hb
            have W : ∀ x : Int, CDivW x d := fun x => wide_div (b := 40) (by omega) (by omega) (by decide) (by decide)
            have la := M2.natAbs_div_le a (d := d) (by omega)
            have lb := M2.natAbs_div_le b (d := d) (by omega)
            have hb2 : 1 ≤ b / d := by
              have := Int.mul_ediv_add_emod b d
              rw [hb] at this
              rcases Int.lt_or_le 0 (b / d) with z | z
              · omega
              · have : d * (b / d) ≤ 0 := Int.mul_nonpos_of_nonneg_of_nonpos (by omega) z
                omega
            refine ⟨_, rfl, _, rfl, _, _, rfl, rfl, W _, .inl ⟨_, rfl, _, rfl, _, rfl, _, _, rfl, rfl, W _, .inl ⟨_, rfl, ?_⟩⟩⟩
            exact ⟨_, _, rfl, hm, a / d, b / d, _, _, rfl, by omega, hb2, by omega, kp6, hd6⟩
          · exact ⟨hm, stay _⟩
        · exact ⟨hm, stay _⟩
      · rintro σ H' ⟨_, h⟩
        exact h
    · rintro σ H4 ⟨a, b, y, z, rfl, ha, b0, b1, kp4, hd4⟩
      refine ⟨_, rfl, _, rfl, _, rfl, a.natAbs, b.natAbs, ?_, ?_, _, rfl, ite2 (fun e => ?_) (fun e => ?_)⟩
      · have e1 : (if a < 0 then -a else a) = (a.natAbs : Int) := by
          split <;> omega
        have e2 : b = (b.natAbs : Int) := by omega
        show [V.int (if a < 0 then -a else a), V.int b] ++ [] = _
        rw [e1, ← e2]
        rfl
      · have : (2 : Nat) ^ 40 ≤ 2 ^ 900 := Nat.pow_le_pow_right (by decide) (by decide)
        omega
      · have hg : Nat.gcd a.natAbs b.natAbs = 1 := of_decide_eq_true e
        refine ⟨_, rfl, _, rfl, by show 2 ≤ sizeLine; decide, fun t nt => ?_⟩
        exact fin _ t (a, b) (hd4.new nt) (kp4.trans (Keep.new nt)) upd_same ⟨by show 0 < b; omega, hg⟩ ha (by show b.natAbs ≤ _; omega)
      · have W : CDivW a 17 := wide_div (b := 40) (by decide) (by decide) (by decide) (by decide)
        have la := M2.natAbs_div_le a (d := 17) (by decide)
        refine ⟨_, rfl, _, _, rfl, rfl, W, .inl ⟨_, rfl, by show 2 ≤ sizeLine; decide, fun t nt => ?_⟩⟩
        exact fin _ t (a / 17, 1) (hd4.new nt) (kp4.trans (Keep.new nt)) upd_same ⟨by show (0 : Int) < 1; decide, Nat.gcd_one_right _⟩ (by show (a / 17).natAbs ≤ _; omega) (by show (1 : Int).natAbs ≤ 1000000; decide)
end
end K2


namespace VG
open PySem PySem.Spec PyProof.Rows L2
/-! two keywords, told the other way round -/
structure ClR (P : Program) (w : World) (K : PySem.W.Frag) (mg : Str → Option Value) (base : Heap) (k : Nat) (x : Str) (ks : List Str) (sp : Sp) : Prop where
  ex : ∃ (f : Addr) (fd : FuncData) (ps : List Str), FnOk P w K mg base CX0 k f fd ps sp ∧ mg x = some (.ref f) ∧ PySem.W.keepIn K (.ref f) = true ∧ KBinds K fd ps ks (fun us ws => us ++ ws.reverse) (fun vs zs => vs ++ zs.reverse)
section
variable {X : Cx} {k j : Nat} {x : Str} {sp : Sp} {p pos : Pos} {kws : List Keyword} {ks : List Str} {tk : TA}
def tCallKR (sp : Sp) (tk : TA) : TE := fun σ H Q => tk σ H fun zs H2 => sp zs.reverse H2 Q E0
theorem pe_clr (c : ClR X.prog X.w X.K X.mg X.base k x ks sp) (hr : Room j X.A) (hk : k ≤ j) (hg : Gl X x) (hkw : PK X kws tk)
    (h1 : (backToKw pos (keywordEach kws X.env)).all (·.1.isSome) = true := by rfl) (h2 : (backToKw pos (keywordEach kws X.env)).filterMap (·.1) = ks := by rfl)
    (h3 : (x == ("__debug__" : Str)) = false := by decide) (h4 : ((backTo pos (starEach [] X.env)).any (·.1) || (backToKw pos (keywordEach kws X.env)).any (·.1.isNone)) = false := by rfl) :
    PE X (.Call (.Name x p) [] kws pos) (tCallKR sp tk) := by
  obtain ⟨f, fd, ps, F, m, kp, b⟩ := c.ex
  constructor
  intro pins s σ H Q I h
  apply wpAny_Call_Name_kw
  apply ld_glob I hg m _ h3
  apply PySem.W.callWith_KW0 (h₀ := X.base) I.ok.mod.kin kp h1 _ h4
  apply thn (hkw.run pos pins s σ H _ I h)
  intro ws s2 hh
  obtain ⟨zs, H2, I2, rz, q2⟩ := hh
  refine And.intro I2.kIn ?_
  rw [h2]
  exact run_fnk (us := []) (vs := []) F (hr.mono hk) b pass0 I2 .nil rz q2
end
theorem vals_rev : ∀ {zs : List V} {ws : List Value}, Vals zs ws → Vals zs.reverse ws.reverse
  | _, _, .nil => .nil
  | _, _, .cons r rr => by
    rw [List.reverse_cons, List.reverse_cons]
    exact (vals_rev rr).append (.cons r .nil)
section
variable {P : Program} {w : World} {K : PySem.W.Frag} {mg : Str → Option Value} {base : Heap}
theorem kbinds_rev {x qual p1 p2 : Str} {st : Stmt} {f : Addr} {fd : FuncData} (F : Fun K x qual st f fd)
    (h0 : ∀ (kV doc pm : Value) (an : Option Addr) (cdv ct u v : Value), bindArgs (PySem.W.fnOf x qual (defArgs st) (defBody st) (defScope st) .none kV doc pm an cdv ct) ⟨[u, v], []⟩ = pure [(p1, u), (p2, v)])
    (h2 : ∀ (kV doc pm : Value) (an : Option Addr) (cdv ct u v : Value), bindArgs (PySem.W.fnOf x qual (defArgs st) (defBody st) (defScope st) .none kV doc pm an cdv ct) ⟨[], [(p2, v), (p1, u)]⟩ = pure [(p1, u), (p2, v)])
    (h1 : ∀ (kV doc pm : Value) (an : Option Addr) (cdv ct u v : Value), bindArgs (PySem.W.fnOf x qual (defArgs st) (defBody st) (defScope st) .none kV doc pm an cdv ct) ⟨[u], [(p2, v)]⟩ = pure [(p1, u), (p2, v)]) :
    KBinds K fd [p1, p2] [p2, p1] (fun us ws => us ++ ws.reverse) (fun vs zs => vs ++ zs.reverse) := by
  obtain ⟨oc, od, kV, doc, pm, an, cdv, ct, osl, rfl, lk, hcd⟩ := F.ex
  constructor
  · intro s us ws _ hl
    match us, ws, hl with
    | [], [v, u], _ => exact .of_eq (h2 kV doc pm an cdv ct u v)
    | [u], [v], _ => exact .of_eq (h1 kV doc pm an cdv ct u v)
    | [u, v], [], _ => exact .of_eq (h0 kV doc pm an cdv ct u v)
    | [], [], hl => cases hl
    | [], [_], hl => cases hl
    | [], _ :: _ :: _ :: _, hl => simp at hl
    | [_], [], hl => cases hl
    | [_], _ :: _ :: _, hl => simp at hl
    | [_, _], _ :: _, hl => simp at hl
    | _ :: _ :: _ :: _, ws, hl => simp at hl
  · intro vs us zs ws r1 r2
    exact r1.append (vals_rev r2)
end
end VG


namespace M2
theorem neg_low {p : Int × Int} (h : Low p.1 p.2) : Low (-p.1) p.2 := by
  refine ⟨h.1, ?_⟩
  have := h.2
  unfold g at this ⊢
  rw [Int.natAbs_neg]
  exact this
/-- what is taken and added again -/
theorem add_back {p q : Int × Int} (hp : Low p.1 p.2) (hq : Low q.1 q.2) : add (add p (-q.1, q.2)) q = p := by
  have h1 := add_ok (q := (-q.1, q.2)) hp (neg_low hq)
  have h2 := add_ok h1.1 hq
  have e1 : (add p (-q.1, q.2)).1 * (p.2 * q.2) = (p.1 * q.2 + -q.1 * p.2) * (add p (-q.1, q.2)).2 := h1.2
  generalize ha : add p (-q.1, q.2) = r at h1 h2 e1
  have e2 : (add r q).1 * (r.2 * q.2) = (r.1 * q.2 + q.1 * r.2) * (add r q).2 := h2.2
  have hr := h1.1.1
  have hq2 := hq.1
  have hp2 := hp.1
  have key : (add r q).1 * p.2 = p.1 * (add r q).2 := by
    have n : r.2 * q.2 * q.2 ≠ 0 := Int.mul_ne_zero (Int.mul_ne_zero (by omega) (by omega)) (by omega)
    apply Int.eq_of_mul_eq_mul_right n
    have s1 : (add r q).1 * p.2 * (r.2 * q.2 * q.2) = ((add r q).1 * (r.2 * q.2)) * (p.2 * q.2) := by
      simp only [Int.mul_assoc, Int.mul_comm, Int.mul_left_comm]
    have s2 : (r.1 * q.2 + q.1 * r.2) * (add r q).2 * (p.2 * q.2) = ((r.1 * (p.2 * q.2)) * q.2 + q.1 * r.2 * (p.2 * q.2)) * (add r q).2 := by
      grind
    have s3 : ((p.1 * q.2 + -q.1 * p.2) * r.2 * q.2 + q.1 * r.2 * (p.2 * q.2)) = p.1 * (r.2 * q.2 * q.2) := by
      have t1 : (p.1 * q.2 + -q.1 * p.2) * r.2 * q.2 = p.1 * (r.2 * q.2 * q.2) + -(q.1 * r.2 * (p.2 * q.2)) := by
        grind
      rw [t1]
      omega
    rw [s1, e2, s2, e1, s3]
    simp only [Int.mul_assoc, Int.mul_comm, Int.mul_left_comm]
  have ⟨a, b⟩ := low_eq h2.1 hp (by rw [key])
  exact Prod.ext a b
theorem shift_low {a b c : Int} (h : Low a b) (hc : c = 1 ∨ c = -1) : Low (a - b * c) b := by
  refine ⟨h.1, ?_⟩
  have h2 := h.2
  unfold g at h2 ⊢
  have h3 : Int.gcd a b = 1 := h2
  show Int.gcd (a - b * c) b = 1
  rw [Int.mul_comm b c, Int.gcd_sub_mul_right_left]
  exact h3
theorem one_low (a : Int) : Low a 1 := ⟨by decide, Nat.gcd_one_right _⟩
end M2
namespace FR
open PySem PySem.Spec PyProof.Rows L2 VG HD
def dQ (p : Q2) : PyData := .tuple [.int p.1, .int p.2]
theorem dpQ {K : PySem.W.Frag} {H : Hp} {t : Addr} {p : Q2} (h : SqT K H t (pV p)) : Dp K H (.ref t) (dQ p) := .tup h (.cons (.int _) (.cons (.int _) .nil))
theorem shQ (p : Q2) : SeqAt.shaped (dQ p) = true := rfl
theorem eqQ_self (p : Q2) : PyData.eqv (dQ p) (dQ p) = true := by
  simp [dQ, PyData.eqv, PyData.eqvAll]
theorem sqt {K : PySem.W.Frag} {H : Hp} {t : Addr} {xs : List V} (h : H t = some (.tup xs)) : SqT K H t xs := .inl (.inl h)
theorem bt45 {p : Q2} {n : Nat} (h1 : p.1.natAbs < 2 ^ 40) (h2 : p.2.natAbs < 2 ^ 40) (hn : 40 ≤ n) : Bt n p := (show Bt 40 p from ⟨h1, h2⟩).mono hn
end FR


namespace FR
open PySem PySem.Spec PyProof.Rows L2 VG HD
def spRight : Sp := fun vs H Q _ => ∃ p q : Addr, vs = [.ref p] ∧ Hd p q H ∧ ∀ H', Hd p q H' → Keep p q H H' → Q (.bl true) H'
theorem shownBB (x y : Bool) : (PyData.list [.bool x, .bool y]).shown.length ≤ sizeLine := by
  cases x <;> cases y <;> decide +kernel
theorem less_self (a : Q2) : lessQ a a = false := decide_eq_false (by omega)
theorem iteNe {x y : V} {A B : Prop} (e : x = y) (h : B) : if (!decide (x = y)) = true then A else B := by
  rw [decide_eq_true e]
  exact iteF h
/-- the sizes that the law draws -/
def Sm (p : Q2) : Prop := p.1.natAbs ≤ 2000000 ∧ p.2.natAbs ≤ 2000000
theorem Sm.bt {p : Q2} (h : Sm p) {n : Nat} (hn : 21 ≤ n := by decide) : Bt n p := by
  have : (2 : Nat) ^ 21 = 2097152 := by decide
  exact (show Bt 21 p from ⟨by have := h.1; omega, by have := h.2; omega⟩).mono hn
end FR
namespace K2
open PySem PySem.Spec PyProof.Rows L2 VG FR HD
abbrev s__law_two_right : Stmt := topS 35
abbrev N__law_two_right : List Str := ["heap", "one", "other", "top", "bottom", "cross"]
theorem sc__law_two_right : FnScope N__law_two_right ["heap"] (defScope s__law_two_right) := ⟨rfl, rfl, rfl, by decide +kernel, rfl, by decide +kernel, by decide +kernel⟩
section
variable {P : Program} {w : World} {K : PySem.W.Frag} {mg : Str → Option Value} {base : Heap}
theorem ok__law_two_right {f : Addr} {fd : FuncData} (F : Fun K "_law_two_right" "_law_two_right" s__law_two_right f fd)
    (C__law_fraction : Cl P w K mg base 4 "_law_fraction" spFraction) (C__law_pick : Cl P w K mg base 2 "_law_pick" (spPick K)) (C__law_is : Cl P w K mg base 2 "_law_is" (spIs K))
    (C_added : Cl P w K mg base 1 "added" (spAdd K)) (C_taken : Cl P w K mg base 2 "taken" (spTaken K)) (C_timed : Cl P w K mg base 4 "timed" (spTimed K)) (C_is_less : Cl P w K mg base 1 "is_less" (spLess K))
    (CR_added : ClR P w K mg base 1 "added" ["other", "one"] (spAdd K)) (CR_taken : ClR P w K mg base 2 "taken" ["other", "one"] (spTaken K)) (CR_timed : ClR P w K mg base 4 "timed" ["other", "one"] (spTimed K)) (CR_is_less : ClR P w K mg base 1 "is_less" ["other", "one"] (spLess K))
    (z_repr : mg "repr" = none) : FnG P w K mg base 5 f fd ["heap"] spRight := by
  refine fnG_of F sc__law_two_right (fun vs H Q E h => ?_) (fun cdv A outer s H vs Q E hg hr h => ?_)
  · obtain ⟨_, _, rfl, _⟩ := h
    rfl
  · obtain ⟨p, q, rfl, hd, fin⟩ := h
    refine ⟨_, (pss_cons (ps_par (i := 1) (j := 2) (by rfl) sc__law_two_right.nd rfl rfl (by decide) rfl rfl (pa_cons (pe_cl C__law_fraction hr (by decide) rfl (pa_cons (pv 0) pa_nil)) (pa_cons (pe_cl C__law_fraction hr (by decide) rfl (pa_cons (pv 0) pa_nil)) pa_nil)) (by rfl))
    (pss_cons (ps_set (i := 2) sc__law_two_right.nd rfl (.inl rfl) (pe_cl C__law_pick hr (by decide) rfl (pa_cons (pv 0) (pa_cons (pe_lst (pa_cons (pv 2) (pa_cons (pv 2) (pa_cons (pv 2) (pa_cons (pv 1) (pa_cons (pe_tup (pa_cons (pe_op op_sub pe_int (pe_ix ix_tup (pv 1) pe_int (fun _ _ => rfl))) (pa_cons (pe_ix ix_tup (pv 1) pe_int (fun _ _ => rfl)) pa_nil))) (pa_cons (pe_tup (pa_cons (pe_op op_sub (pe_ix ix_tup (pv 1) pe_int (fun _ _ => rfl)) (pe_op op_mulW (pe_ix ix_tup (pv 1) pe_int (fun _ _ => rfl)) (pe_meet (pe_ifExp (pt_cmpR op_gt (pe_ix ix_tup (pv 1) pe_int (fun _ _ => rfl)) pe_int (nomark _)) pe_int (pe_op op_sub pe_int pe_int))))) (pa_cons (pe_ix ix_tup (pv 1) pe_int (fun _ _ => rfl)) pa_nil))) pa_nil))))))) pa_nil))))
    (pss_cons (ps_par (i := 3) (j := 4) (by rfl) sc__law_two_right.nd rfl rfl (by decide) rfl rfl (pa_cons (pe_op op_mulW (pe_ix ix_tup (pv 1) pe_int (fun _ _ => rfl)) (pe_ix ix_tup (pv 2) pe_int (fun _ _ => rfl))) (pa_cons (pe_op op_mulW (pe_ix ix_tup (pv 1) pe_int (fun _ _ => rfl)) (pe_ix ix_tup (pv 2) pe_int (fun _ _ => rfl))) pa_nil)) (by rfl))
    (pss_cons (ps_set (i := 5) sc__law_two_right.nd rfl (.inl rfl) (pe_op op_mulW (pe_ix ix_tup (pv 2) pe_int (fun _ _ => rfl)) (pe_ix ix_tup (pv 1) pe_int (fun _ _ => rfl))))
    (pss_cons (ps_if (PW.pt (pw_or (pt_not (pt_val (pe_cl C__law_is hr (by decide) rfl (pa_cons (pe_cl C_added hr (by decide) rfl (pa_cons (pv 1) (pa_cons (pv 2) pa_nil))) (pa_cons (pe_op op_add (pv 3) (pv 5)) (pa_cons (pv 4) pa_nil)))))) (pw_or1 (pt_cmpR (op_neD hr.units) (pe_clr CR_added hr (by decide) rfl (pk_cons (pv 2) (pk_cons (pv 1) pk_nil))) (pe_cl C_added hr (by decide) rfl (pa_cons (pv 1) (pa_cons (pv 2) pa_nil))) (nomark _)))))
      (pss_one (ps_ret pe_bl))
      pss_nil)
    (pss_cons (ps_if (PW.pt (pw_or (pt_not (pt_val (pe_cl C__law_is hr (by decide) rfl (pa_cons (pe_cl C_taken hr (by decide) rfl (pa_cons (pv 1) (pa_cons (pv 2) pa_nil))) (pa_cons (pe_op op_sub (pv 3) (pv 5)) (pa_cons (pv 4) pa_nil)))))) (pw_or1 (pt_cmpR (op_neD hr.units) (pe_clr CR_taken hr (by decide) rfl (pk_cons (pv 2) (pk_cons (pv 1) pk_nil))) (pe_cl C_taken hr (by decide) rfl (pa_cons (pv 1) (pa_cons (pv 2) pa_nil))) (nomark _)))))
      (pss_one (ps_ret pe_bl))
      pss_nil)
    (pss_cons (ps_if (PW.pt (pw_or (pt_not (pt_val (pe_cl C__law_is hr (by decide) rfl (pa_cons (pe_cl C_timed hr (by decide) rfl (pa_cons (pv 1) (pa_cons (pv 2) pa_nil))) (pa_cons (pe_op op_mulW (pe_ix ix_tup (pv 1) pe_int (fun _ _ => rfl)) (pe_ix ix_tup (pv 2) pe_int (fun _ _ => rfl))) (pa_cons (pv 4) pa_nil)))))) (pw_or1 (pt_cmpR (op_neD hr.units) (pe_clr CR_timed hr (by decide) rfl (pk_cons (pv 2) (pk_cons (pv 1) pk_nil))) (pe_cl C_timed hr (by decide) rfl (pa_cons (pv 1) (pa_cons (pv 2) pa_nil))) (nomark _)))))
      (pss_one (ps_ret pe_bl))
      pss_nil)
    (pss_cons (ps_if (PW.pt (pw_or (pt_cmpR op_ne (pe_callB (cr_repr hg hr.units) (by rfl) z_repr (by decide +kernel) (pa_cons (pe_lst (pa_cons (pe_cl C_is_less hr (by decide) rfl (pa_cons (pv 1) (pa_cons (pv 2) pa_nil))) (pa_cons (pe_cl C_is_less hr (by decide) rfl (pa_cons (pv 2) (pa_cons (pv 1) pa_nil))) pa_nil))) pa_nil)) (pe_callB (cr_repr hg hr.units) (by rfl) z_repr (by decide +kernel) (pa_cons (pe_lst (pa_cons (pe_cmpR op_lt (pv 3) (pv 5) (nomark _)) (pa_cons (pe_cmpR op_lt (pv 5) (pv 3) (nomark _)) pa_nil))) pa_nil)) (nomark _)) (pw_or1 (pt_cmpR op_ne (pe_clr CR_is_less hr (by decide) rfl (pk_cons (pv 2) (pk_cons (pv 1) pk_nil))) (pe_cmpR op_lt (pv 3) (pv 5) (nomark _)) (nomark _)))))
      (pss_one (ps_ret pe_bl))
      pss_nil)
    (pss_one (ps_ret (pe_and (pe_cmpR (op_eqD hr.units) (pe_cl C_added hr (by decide) rfl (pa_cons (pe_cl C_taken hr (by decide) rfl (pa_cons (pv 1) (pa_cons (pv 2) pa_nil))) (pa_cons (pv 2) pa_nil))) (pv 1) (nomark _)) (pe_one (pe_cmpR op_isB (pe_cl C_is_less hr (by decide) rfl (pa_cons (pv 1) (pa_cons (pv 1) pa_nil))) pe_bl (nomark _)))))))))))))), ?_⟩
    refine ⟨_, rfl, p, q, rfl, hd, fun H1 t1 a hd1 kp1 ht1 la sa1 sa2 => ?_⟩
    refine ⟨_, rfl, p, q, rfl, hd1, fun H2 t2 b hd2 kp2 ht2 lb sb1 sb2 => ?_⟩
    have hA2 : SqT K H2 t1 (pV a) := seqTK hd1 kp2 (sqt ht1)
    have hB2 : SqT K H2 t2 (pV b) := sqt ht2
    refine ⟨_, _, rfl, ?_⟩
    refine ⟨_, rfl, _, rfl, _, rfl, _, rfl, _, rfl, _, rfl, t1, _, _, _, rfl, rfl, hA2, at0 _ _, _, _, rfl, rfl, _, rfl, t1, _, _, _, rfl, rfl, hA2, at1 _ _, by show 2 ≤ sizeLine; decide, fun t3 n3 => ?_⟩
    have hd3 := hd2.new (o := .tup [.int (0 - a.1), .int a.2]) n3
    have kp3 : Keep p q H2 _ := Keep.new (o := .tup [.int (0 - a.1), .int a.2]) n3
    have hA3 := seqTK hd2 kp3 hA2
    refine ⟨_, rfl, t1, _, _, _, rfl, rfl, hA3, at0 _ _, _, rfl, t1, _, _, _, rfl, rfl, hA3, at1 _ _, ?_⟩
    refine ⟨fun v H' => H' = upd H2 t3 (.tup [.int (0 - a.1), .int a.2]) ∧ ∃ c : Int, v = .int c ∧ (c = 1 ∨ c = -1), ?_, ?_⟩
    · refine ⟨_, rfl, t1, _, _, _, rfl, rfl, hA3, at0 _ _, _, _, rfl, rfl, _, rfl, ite2 (fun e => ?_) (fun e => ?_)⟩
      · exact ⟨rfl, _, rfl, .inl rfl⟩
      · exact ⟨_, _, rfl, rfl, rfl, _, rfl, .inr (by decide)⟩
    rintro v H3 ⟨rfl, c, rfl, hc⟩
    have cl : c.natAbs ≤ 1 := by omega
    have sA : a.1.natAbs < 2 ^ 40 ∧ a.2.natAbs < 2 ^ 40 := by
      have : (2 : Nat) ^ 40 = 1099511627776 := by decide
      omega
    have cs : c.natAbs < 2 ^ 40 := by
      have : (2 : Nat) ^ 40 = 1099511627776 := by decide
      omega
    refine ⟨_, _, rfl, rfl, mulW (up sA.2 (by decide)) (up cs (by decide)), _, _, rfl, rfl, _, rfl, t1, _, _, _, rfl, rfl, hA3, at1 _ _, by show 2 ≤ sizeLine; decide, fun t4 n4 => ?_⟩
    have hd4 := hd3.new (o := .tup [.int (a.1 - a.2 * c), .int a.2]) n4
    have kp4 : Keep p q _ _ := kp3.trans (Keep.new (o := .tup [.int (a.1 - a.2 * c), .int a.2]) n4)
    have hA4 := seqTK hd2 kp4 hA2
    have hB4 := seqTK hd2 kp4 hB2
    refine ⟨by show 6 ≤ sizeLine; decide, fun l nl => ?_⟩
    have nlp : l ≠ p ∧ l ≠ q := hd4.free nl
    have kp5 : Keep p q _ _ := kp4.trans (Keep.new (o := .lst [.ref t2, .ref t2, .ref t2, .ref t1, .ref t3, .ref t4]) nl)
    refine ⟨p, q, l, _, rfl, hd4.new nl, upd_same, nlp.1, nlp.2, by simp, by show 6 < 1000000; decide, fun H6 v hd6 kp6 hv => ?_⟩
    have kp7 := kp5.trans kp6
    have hA := seqTK hd2 kp7 hA2
    have hb : ∃ (t : Addr) (b : Q2), v = .ref t ∧ SqT K H6 t (pV b) ∧ M2.Low b.1 b.2 ∧ Sm b := by
      have : v = .ref t2 ∨ v = .ref t2 ∨ v = .ref t2 ∨ v = .ref t1 ∨ v = .ref t3 ∨ v = .ref t4 := by simpa using hv
      have s2 : ∃ (t : Addr) (b : Q2), V.ref t2 = .ref t ∧ SqT K H6 t (pV b) ∧ M2.Low b.1 b.2 ∧ Sm b := ⟨t2, b, rfl, seqTK hd2 kp7 hB2, lb, by unfold Sm; omega⟩
      rcases this with z | z | z | z | z | z
      · rw [z]; exact s2
      · rw [z]; exact s2
      · rw [z]; exact s2
      · rw [z]
        exact ⟨t1, a, rfl, hA, la, by unfold Sm; omega⟩
      · rw [z]
        have e : (0 : Int) - a.1 = -a.1 := by omega
        refine ⟨t3, (-a.1, a.2), rfl, ?_, M2.neg_low la, by show (-a.1).natAbs ≤ _ ∧ a.2.natAbs ≤ _; omega⟩
        have h0 : SqT K (upd H2 t3 (.tup [.int (0 - a.1), .int a.2])) t3 (pV (-a.1, a.2)) := by
          refine sqt ?_
          rw [upd_same, e]
          rfl
        exact seqTK hd3 ((Keep.new n4).trans ((Keep.new nl).trans kp6)) h0
      · rw [z]
        refine ⟨t4, (a.1 - a.2 * c, a.2), rfl, ?_, M2.shift_low la hc, ?_⟩
        · have h0 : SqT K (upd (upd H2 t3 (.tup [.int (0 - a.1), .int a.2])) t4 (.tup [.int (a.1 - a.2 * c), .int a.2])) t4 (pV (a.1 - a.2 * c, a.2)) := sqt upd_same
          exact seqTK hd4 ((Keep.new nl).trans kp6) h0
        · show (a.1 - a.2 * c).natAbs ≤ _ ∧ a.2.natAbs ≤ _
          rcases hc with z | z <;> subst z <;> omega
    obtain ⟨t5, b5, rfl, hB, lb5, sb5⟩ := hb
    have kpF := (kp1.trans kp2).trans kp7
    have sa : Sm a := by unfold Sm; omega
    clear sb1 sb2 lb ht2 hB2 hB4
    generalize b5 = b2 at hB lb5 sb5
    have m1 := mulW (up (sa.bt (n := 21)).1 (by decide)) (up (sb5.bt (n := 21)).2 (by decide))
    have m2 := mulW (up (sa.bt (n := 21)).2 (by decide)) (up (sb5.bt (n := 21)).2 (by decide))
    have m3 := mulW (up (sb5.bt (n := 21)).1 (by decide)) (up (sa.bt (n := 21)).2 (by decide))
    have m4 := mulW (up (sa.bt (n := 21)).1 (by decide)) (up (sb5.bt (n := 21)).1 (by decide))
    refine ⟨_, rfl, t1, _, _, _, rfl, rfl, hA, at0 _ _, _, rfl, t5, _, _, _, rfl, rfl, hB, at1 _ _, _, _, rfl, rfl, m1, _, rfl, t1, _, _, _, rfl, rfl, hA, at1 _ _, _, rfl, t5, _, _, _, rfl, rfl, hB, at1 _ _, _, _, rfl, rfl, m2, _, _, rfl, ?_⟩
    refine ⟨_, rfl, t5, _, _, _, rfl, rfl, hB, at0 _ _, _, rfl, t1, _, _, _, rfl, rfl, hA, at1 _ _, _, _, rfl, rfl, m3, ?_⟩
    have low1 := M2.add_ok la lb5
    have sa21 := sa.bt (n := 21)
    have sb21 := sb5.bt (n := 21)
    have low2 := M2.add_ok (q := neg b2) la (M2.neg_low lb5)
    have sz1 : Bt 43 (M2.add a b2) := M2.add_size la lb5 sa21.1 sa21.2 sb21.1 sb21.2
    have nb : Bt 21 (neg b2) := ⟨by show (-b2.1).natAbs < _; rw [Int.natAbs_neg]; exact sb5.bt.1, sb5.bt.2⟩
    have sz2 : Bt 43 (M2.add a (neg b2)) := M2.add_size (q := neg b2) (n := 21) la (M2.neg_low lb5) sa21.1 sa21.2 nb.1 nb.2
    have w1 : (a.1 * b2.2).natAbs < 2 ^ 42 := wide_lt sa21.1 sb21.2
    have w2 : (a.2 * b2.2).natAbs < 2 ^ 42 := wide_lt sa21.2 sb21.2
    have w3 : (b2.1 * a.2).natAbs < 2 ^ 42 := wide_lt sb21.1 sa21.2
    have w4 : (a.1 * b2.1).natAbs < 2 ^ 42 := wide_lt sa21.1 sb21.1
    have w5 : (a.1 * b2.2 + b2.1 * a.2).natAbs < 2 ^ 8000 := by
      have : (2 : Nat) ^ 43 ≤ 2 ^ 8000 := Nat.pow_le_pow_right (by decide) (by decide)
      have : (2 : Nat) ^ 43 = 2 ^ 42 + 2 ^ 42 := by decide
      omega
    have w6 : (a.1 * b2.2 - b2.1 * a.2).natAbs < 2 ^ 8000 := by
      have : (2 : Nat) ^ 43 ≤ 2 ^ 8000 := Nat.pow_le_pow_right (by decide) (by decide)
      have : (2 : Nat) ^ 43 = 2 ^ 42 + 2 ^ 42 := by decide
      omega
    -- added
    refine ⟨_, rfl, _, rfl, t1, t5, a, b2, rfl, hA, hB, la, lb5, sa.bt, sb5.bt, fun H7 u7 sm7 _ hu7 => ?_⟩
    refine ⟨_, rfl, _, rfl, _, _, rfl, rfl, _, rfl, u7, M2.add a b2, _, _, rfl, sqt hu7, low1.1, low1.2, sz1.mono (by decide), w5, up w2 (by decide), fun H8 sm8 => ⟨true, rfl, iteF ?_⟩⟩
    have S8 := sm7.trans sm8
    refine ⟨_, rfl, _, rfl, t1, t5, a, b2, rfl, seqT S8 hA, seqT S8 hB, la, lb5, sa.bt, sb5.bt, fun H9 u9 sm9 _ hu9 => ?_⟩
    have S9 := S8.trans sm9
    refine ⟨_, rfl, _, rfl, t1, t5, a, b2, rfl, seqT S9 hA, seqT S9 hB, la, lb5, sa.bt, sb5.bt, fun H10 u10 sm10 _ hu10 => ?_⟩
    have S10 := S9.trans sm10
    refine ⟨_, _, dpQ (seqT sm10 (sqt hu9)), dpQ (sqt hu10), shQ _, shQ _, _, rfl, ?_⟩
    rw [eqQ_self]
    refine iteF ?_
    -- taken
    have hA1 := seqT S10 hA
    have hB1 := seqT S10 hB
    refine ⟨_, rfl, _, rfl, t1, t5, a, b2, rfl, hA1, hB1, la, lb5, sa.bt, sb5.bt, fun H11 u11 sm11 _ hu11 => ?_⟩
    have q2 : (M2.add a (neg b2)).1 * (a.2 * b2.2) = (a.1 * b2.2 - b2.1 * a.2) * (M2.add a (neg b2)).2 := by
      have q3 : (M2.add a (neg b2)).1 * (a.2 * b2.2) = (a.1 * b2.2 + -b2.1 * a.2) * (M2.add a (neg b2)).2 := low2.2
      rw [q3, Int.neg_mul, ← Int.sub_eq_add_neg]
    refine ⟨_, rfl, _, rfl, _, _, rfl, rfl, _, rfl, u11, M2.add a (neg b2), _, _, rfl, sqt hu11, low2.1, q2, sz2.mono (by decide), w6, up w2 (by decide), fun H12 sm12 => ⟨true, rfl, iteF ?_⟩⟩
    have S12 := sm11.trans sm12
    refine ⟨_, rfl, _, rfl, t1, t5, a, b2, rfl, seqT S12 hA1, seqT S12 hB1, la, lb5, sa.bt, sb5.bt, fun H13 u13 sm13 _ hu13 => ?_⟩
    have S13 := S12.trans sm13
    refine ⟨_, rfl, _, rfl, t1, t5, a, b2, rfl, seqT S13 hA1, seqT S13 hB1, la, lb5, sa.bt, sb5.bt, fun H14 u14 sm14 _ hu14 => ?_⟩
    have S14 := S13.trans sm14
    refine ⟨_, _, dpQ (seqT sm14 (sqt hu13)), dpQ (sqt hu14), shQ _, shQ _, _, rfl, ?_⟩
    rw [eqQ_self]
    refine iteF ?_
    -- timed
    have hA2' := seqT S14 hA1
    have hB2' := seqT S14 hB1
    have tk := time_ok la.1 lb5.1 (sa.bt (n := 21)) (sb5.bt (n := 21))
    refine ⟨_, rfl, _, rfl, t1, t5, a, b2, rfl, hA2', hB2', la.1, lb5.1, sa.bt, sb5.bt, fun H15 u15 sm15 _ hu15 => ?_⟩
    have hA15 := seqT sm15 hA2'
    have hB15 := seqT sm15 hB2'
    refine ⟨_, rfl, t1, _, _, _, rfl, rfl, hA15, at0 _ _, _, rfl, t5, _, _, _, rfl, rfl, hB15, at0 _ _, _, _, rfl, rfl, m4, _, rfl, u15, timeQ a b2, _, _, rfl, sqt hu15, tk.1, tk.2.2, tk.2.1.mono (by decide), up w4 (by decide), up w2 (by decide), fun H16 sm16 => ⟨true, rfl, iteF ?_⟩⟩
    have S16 := sm15.trans sm16
    refine ⟨_, rfl, _, rfl, t1, t5, a, b2, rfl, seqT S16 hA2', seqT S16 hB2', la.1, lb5.1, sa.bt, sb5.bt, fun H17 u17 sm17 _ hu17 => ?_⟩
    have S17 := S16.trans sm17
    refine ⟨_, rfl, _, rfl, t1, t5, a, b2, rfl, seqT S17 hA2', seqT S17 hB2', la.1, lb5.1, sa.bt, sb5.bt, fun H18 u18 sm18 _ hu18 => ?_⟩
    have S18 := S17.trans sm18
    refine ⟨_, _, dpQ (seqT sm18 (sqt hu17)), dpQ (sqt hu18), shQ _, shQ _, _, rfl, ?_⟩
    rw [eqQ_self]
    refine iteF ?_
    -- is_less
    have hA18 := seqT S18 hA2'
    have hB18 := seqT S18 hB2'
    refine ⟨_, rfl, _, rfl, t1, t5, a, b2, rfl, hA18, hB18, sa.bt, sb5.bt, ?_⟩
    refine ⟨_, rfl, _, rfl, t5, t1, b2, a, rfl, hB18, hA18, sb5.bt, sa.bt, ?_⟩
    refine ⟨by show 2 ≤ sizeLine; decide, fun l1 nl1 => ?_⟩
    refine ⟨l1, .list [.bool (lessQ a b2), .bool (lessQ b2 a)], rfl, .lst (.inl (.inl upd_same)) (.cons (.bl _) (.cons (.bl _) .nil)), rfl, rfl, by show 1 ≤ 60; decide, shownBB _ _, ?_⟩
    refine ⟨_, rfl, _, rfl, _, _, rfl, rfl, _, rfl, _, rfl, _, _, rfl, rfl, by show 2 ≤ sizeLine; decide, fun l2 nl2 => ?_⟩
    refine ⟨l2, .list [.bool (lessQ a b2), .bool (lessQ b2 a)], rfl, .lst (.inl (.inl upd_same)) (.cons (.bl _) (.cons (.bl _) .nil)), rfl, rfl, by show 1 ≤ 60; decide, shownBB _ _, ?_⟩
    refine ⟨rfl, _, rfl, iteNe rfl ?_⟩
    have hA20 := seqT (same_upd (o := .lst [.bl (lessQ a b2), .bl (lessQ b2 a)]) nl2) (seqT (same_upd nl1) hA18)
    have hB20 := seqT (same_upd (o := .lst [.bl (lessQ a b2), .bl (lessQ b2 a)]) nl2) (seqT (same_upd nl1) hB18)
    refine ⟨_, rfl, _, rfl, t1, t5, a, b2, rfl, hA20, hB20, sa.bt, sb5.bt, ?_⟩
    refine ⟨_, rfl, _, rfl, _, _, rfl, rfl, rfl, _, rfl, iteNe rfl ?_⟩
    -- the end
    have low3 := M2.add_ok low2.1 lb5
    refine ⟨_, rfl, _, rfl, t1, t5, a, b2, rfl, hA20, hB20, la, lb5, sa.bt, sb5.bt, fun H21 u21 sm21 _ hu21 => ?_⟩
    refine ⟨_, rfl, u21, t5, M2.add a (neg b2), b2, rfl, sqt hu21, seqT sm21 hB20, low2.1, lb5, sz2.mono (by decide), sb5.bt, fun H22 u22 sm22 _ hu22 => ?_⟩
    have hA22 := seqT sm22 (seqT sm21 hA20)
    refine ⟨_, rfl, dQ (M2.add (M2.add a (neg b2)) b2), dQ a, dpQ (sqt hu22), dpQ hA22, shQ _, shQ _, true, ?_, iteT ?_⟩
    · have e : M2.add (M2.add a (neg b2)) b2 = a := M2.add_back la lb5
      rw [e, eqQ_self]
    refine ⟨_, rfl, _, rfl, t1, t1, a, a, rfl, hA22, hA22, sa.bt, sa.bt, ?_⟩
    have z := less_self a
    refine ⟨_, _, rfl, rfl, ?_⟩
    have e1 : decide (lessQ a a = false) = true := decide_eq_true z
    rw [e1]
    have S22 : Same H6 _ := S10.trans (S14.trans (S18.trans ((same_upd nl1).trans ((same_upd (o := .lst [.bl (lessQ a b2), .bl (lessQ b2 a)]) nl2).trans (sm21.trans sm22)))))
    exact fin _ (hd6.same S22) (kpF.trans (Keep.of_same S22))
end
end K2


namespace FR
open PySem PySem.Spec PyProof.Rows L2 VG HD
theorem ite_eq {c : Bool} (b : Bool) {A B : Prop} (e : c = b) (h : if b = true then A else B) : if c = true then A else B := by
  rw [e]
  exact h
theorem part_low {p : Q2} (h : M2.Low p.1 p.2) (k : Int) : M2.Low (p.1 - k * p.2) p.2 := by
  refine ⟨h.1, ?_⟩
  have h2 := h.2
  unfold M2.g at h2 ⊢
  have h3 : Int.gcd p.1 p.2 = 1 := h2
  show Int.gcd (p.1 - k * p.2) p.2 = 1
  rw [Int.gcd_sub_mul_right_left]
  exact h3
theorem floor_facts (a : Int) {b : Int} (h : 0 < b) : a / b * b ≤ a ∧ a < (a / b + 1) * b :=
  ⟨Int.ediv_mul_le a (by omega), by have := Int.lt_ediv_add_one_mul_self a h; exact this⟩
theorem ceil_facts (a : Int) {b : Int} (h : 0 < b) : (-(-a / b) - 1) * b < a ∧ a ≤ -(-a / b) * b := by
  have := floor_facts (-a) h
  generalize -a / b = k at this
  have e1 : (-k - 1) * b = -((k + 1) * b) := by grind
  have e2 : -k * b = -(k * b) := Int.neg_mul k b
  rw [e1, e2]
  omega
end FR
namespace K2
open PySem PySem.Spec PyProof.Rows L2 VG FR HD
abbrev s__law_one_right : Stmt := topS 36
abbrev N__law_one_right : List Str := ["heap", "one", "low", "high", "part", "whole"]
theorem sc__law_one_right : FnScope N__law_one_right ["heap"] (defScope s__law_one_right) := ⟨rfl, rfl, rfl, by decide +kernel, rfl, by decide +kernel, by decide +kernel⟩
section
variable {P : Program} {w : World} {K : PySem.W.Frag} {mg : Str → Option Value} {base : Heap}
theorem ok__law_one_right {f : Addr} {fd : FuncData} (F : Fun K "_law_one_right" "_law_one_right" s__law_one_right f fd)
    (C__law_fraction : Cl P w K mg base 4 "_law_fraction" spFraction) (C__law_pick : Cl P w K mg base 2 "_law_pick" (spPick K)) (C__law_draw : Cl P w K mg base 1 "_law_draw" spDraw) (C__law_is : Cl P w K mg base 2 "_law_is" (spIs K))
    (C_floor_of : Cl P w K mg base 1 "floor_of" (spFloor K)) (C_ceiling_of : Cl P w K mg base 1 "ceiling_of" (spCeil K)) (C_part_of : Cl P w K mg base 2 "part_of" (spPart K)) (C_opposite_of : Cl P w K mg base 1 "opposite_of" (spOpp K)) (C_is_small : Cl P w K mg base 1 "is_small" (spSmall K))
    (CK_floor_of_one : ClK P w K mg base 1 "floor_of" ["one"] (spFloor K)) (CK_ceiling_of_one : ClK P w K mg base 1 "ceiling_of" ["one"] (spCeil K)) (CK_part_of_one : ClK P w K mg base 2 "part_of" ["one"] (spPart K)) (CK_opposite_of_one : ClK P w K mg base 1 "opposite_of" ["one"] (spOpp K)) (CK_is_small_one : ClK P w K mg base 1 "is_small" ["one"] (spSmall K))
    (z_repr : mg "repr" = none) (z_isinstance : mg "isinstance" = none) (z_bool : mg "bool" = none) (z_int : mg "int" = none) : FnG P w K mg base 5 f fd ["heap"] spRight := by
  refine fnG_of F sc__law_one_right (fun vs H Q E h => ?_) (fun cdv A outer s H vs Q E hg hr h => ?_)
  · obtain ⟨_, _, rfl, _⟩ := h
    rfl
  · obtain ⟨p, q, rfl, hd, fin⟩ := h
    refine ⟨_, (pss_cons (ps_set (i := 1) sc__law_one_right.nd rfl (.inl rfl) (pe_cl C__law_pick hr (by decide) rfl (pa_cons (pv 0) (pa_cons (pe_lst (pa_cons (pe_cl C__law_fraction hr (by decide) rfl (pa_cons (pv 0) pa_nil)) (pa_cons (pe_cl C__law_fraction hr (by decide) rfl (pa_cons (pv 0) pa_nil)) (pa_cons (pe_tup (pa_cons (pe_op op_sub (pe_cl C__law_draw hr (by decide) rfl (pa_cons (pv 0) (pa_cons pe_int pa_nil))) pe_int) (pa_cons pe_int pa_nil))) (pa_cons (pe_tup (pa_cons pe_int (pa_cons pe_int pa_nil))) (pa_cons (pe_tup (pa_cons (pe_op op_sub pe_int pe_int) (pa_cons pe_int pa_nil))) (pa_cons (pe_tup (pa_cons pe_int (pa_cons pe_int pa_nil))) pa_nil))))))) pa_nil))))
    (pss_cons (ps_par3 (i := 2) (j := 3) (l := 4) (by rfl) sc__law_one_right.nd rfl rfl rfl (by decide) (by decide) (by decide) rfl rfl rfl (pa_cons (pe_cl C_floor_of hr (by decide) rfl (pa_cons (pv 1) pa_nil)) (pa_cons (pe_cl C_ceiling_of hr (by decide) rfl (pa_cons (pv 1) pa_nil)) (pa_cons (pe_cl C_part_of hr (by decide) rfl (pa_cons (pv 1) pa_nil)) pa_nil))) (by rfl))
    (pss_cut (ps_for PassesOwn.never rfl (pi_list (pe_lst (pa_cons (pv 2) (pa_cons (pv 3) pa_nil)))) (pg_name (i := 5) sc__law_one_right.nd rfl (.inl rfl))
      (pss_one (ps_if (PW.pt (pw_or (pt_val (pe_callB call_isi (by rfl) z_isinstance (by decide +kernel) (pa_cons (pv 5) (pa_cons (pe_bltn (v := .ty "bool") (by rfl) z_bool (by decide +kernel) rfl) pa_nil)))) (pw_or1 (pt_not (pt_val (pe_callB call_isi (by rfl) z_isinstance (by decide +kernel) (pa_cons (pv 5) (pa_cons (pe_bltn (v := .ty "int") (by rfl) z_int (by decide +kernel) rfl) pa_nil))))))))
        (pss_one (ps_ret pe_bl))
        pss_nil)))
    (pss_cons (ps_if (PW.pt (pw_or (pt_not (pt_chain op_le op_lt (pe_op op_mulW (pv 2) (pe_ix ix_tup (pv 1) pe_int (fun _ _ => rfl))) (pe_ix ix_tup (pv 1) pe_int (fun _ _ => rfl)) (pe_op op_mulW (pe_op op_add (pv 2) pe_int) (pe_ix ix_tup (pv 1) pe_int (fun _ _ => rfl))))) (pw_or1 (pt_not (pt_chain op_lt op_le (pe_op op_mulW (pe_op op_sub (pv 3) pe_int) (pe_ix ix_tup (pv 1) pe_int (fun _ _ => rfl))) (pe_ix ix_tup (pv 1) pe_int (fun _ _ => rfl)) (pe_op op_mulW (pv 3) (pe_ix ix_tup (pv 1) pe_int (fun _ _ => rfl))))))))
      (pss_one (ps_ret pe_bl))
      pss_nil)
    (pss_cons (ps_if (PW.pt (pw_or (pt_not (pt_val (pe_cl C__law_is hr (by decide) rfl (pa_cons (pv 4) (pa_cons (pe_op op_sub (pe_ix ix_tup (pv 1) pe_int (fun _ _ => rfl)) (pe_op op_mulW (pv 2) (pe_ix ix_tup (pv 1) pe_int (fun _ _ => rfl)))) (pa_cons (pe_ix ix_tup (pv 1) pe_int (fun _ _ => rfl)) pa_nil)))))) (pw_or1 (pt_not (pt_val (pe_cl C__law_is hr (by decide) rfl (pa_cons (pe_cl C_opposite_of hr (by decide) rfl (pa_cons (pv 1) pa_nil)) (pa_cons (pe_op op_sub pe_int (pe_ix ix_tup (pv 1) pe_int (fun _ _ => rfl))) (pa_cons (pe_ix ix_tup (pv 1) pe_int (fun _ _ => rfl)) pa_nil)))))))))
      (pss_one (ps_ret pe_bl))
      pss_nil)
    (pss_cons (ps_if (PW.pt (pw_or (pt_cmpR op_ne (pe_callB cr_reprB (by rfl) z_repr (by decide +kernel) (pa_cons (pe_cl C_is_small hr (by decide) rfl (pa_cons (pv 1) pa_nil)) pa_nil)) (pe_callB cr_reprB (by rfl) z_repr (by decide +kernel) (pa_cons (pe_meet (pe_chain op_lt op_lt (pe_op op_sub pe_int (pe_ix ix_tup (pv 1) pe_int (fun _ _ => rfl))) (pe_ix ix_tup (pv 1) pe_int (fun _ _ => rfl)) (pe_ix ix_tup (pv 1) pe_int (fun _ _ => rfl)))) pa_nil)) (nomark _)) (pw_or1 (pt_cmpR op_ne (pe_clk0 CK_is_small_one hr (by decide) rfl (pk_cons (pv 1) pk_nil)) (pe_cl C_is_small hr (by decide) rfl (pa_cons (pv 1) pa_nil)) (nomark _)))))
      (pss_one (ps_ret pe_bl))
      pss_nil)
    (pss_one (ps_ret (pe_cmpR (op_eqD hr.units) (pe_tup (pa_cons (pe_clk0 CK_floor_of_one hr (by decide) rfl (pk_cons (pv 1) pk_nil)) (pa_cons (pe_clk0 CK_ceiling_of_one hr (by decide) rfl (pk_cons (pv 1) pk_nil)) (pa_cons (pe_clk0 CK_part_of_one hr (by decide) rfl (pk_cons (pv 1) pk_nil)) (pa_cons (pe_clk0 CK_opposite_of_one hr (by decide) rfl (pk_cons (pv 1) pk_nil)) pa_nil))))) (pe_tup (pa_cons (pv 2) (pa_cons (pv 3) (pa_cons (pv 4) (pa_cons (pe_tup (pa_cons (pe_op op_sub pe_int (pe_ix ix_tup (pv 1) pe_int (fun _ _ => rfl))) (pa_cons (pe_ix ix_tup (pv 1) pe_int (fun _ _ => rfl)) pa_nil))) pa_nil))))) (nomark _)))))))))), ?_⟩
    refine ⟨_, rfl, _, rfl, p, q, rfl, hd, fun H1 t1 a hd1 kp1 ht1 la sa1 sa2 => ?_⟩
    refine ⟨_, rfl, p, q, rfl, hd1, fun H2 t2 b hd2 kp2 ht2 lb sb1 sb2 => ?_⟩
    refine ⟨_, rfl, p, q, 9, rfl, hd2, by decide, by decide, fun H3 r hd3 kp3 r0 r1 => ?_⟩
    refine ⟨_, _, rfl, rfl, by show 2 ≤ sizeLine; decide, fun t3 n3 => ?_⟩
    refine ⟨by show 2 ≤ sizeLine; decide, fun t4 n4 => ?_⟩
    refine ⟨_, _, rfl, rfl, by show 2 ≤ sizeLine; decide, fun t5 n5 => ?_⟩
    refine ⟨by show 2 ≤ sizeLine; decide, fun t6 n6 => ?_⟩
    have hA3 : SqT K H3 t1 (pV a) := seqTK hd1 (kp2.trans kp3) (sqt ht1)
    have hB3 : SqT K H3 t2 (pV b) := seqTK hd2 kp3 (sqt ht2)
    have hd6 := (((hd3.new (o := .tup [.int (r - 4), .int 1]) n3).new (o := .tup [.int 1, .int 1]) n4).new (o := .tup [.int (0 - 1), .int 1]) n5).new (o := .tup [.int 999999, .int 1000000]) n6
    refine ⟨by show 6 ≤ sizeLine; decide, fun l nl => ?_⟩
    have nlp : l ≠ p ∧ l ≠ q := hd6.free nl
    have S3 := same_upd (o := .tup [.int (r - 4), .int 1]) n3
    have S4 := same_upd (o := .tup [.int 1, .int 1]) n4
    have S5 := same_upd (o := .tup [.int (0 - 1), .int 1]) n5
    have S6 := same_upd (o := .tup [.int 999999, .int 1000000]) n6
    have S7 := same_upd (o := .lst [.ref t1, .ref t2, .ref t3, .ref t4, .ref t5, .ref t6]) nl
    have S57 := S6.trans S7
    have S47 := S5.trans S57
    have S37 := S4.trans S47
    have S27 := S3.trans S37
    have hd7 := hd6.new (o := .lst [.ref t1, .ref t2, .ref t3, .ref t4, .ref t5, .ref t6]) nl
    refine ⟨p, q, l, _, rfl, hd7, upd_same, nlp.1, nlp.2, by simp, by show 6 < 1000000; decide, fun H8 v hd8 kp8 hv => ?_⟩
    have hb : ∃ (t : Addr) (b : Q2), v = .ref t ∧ SqT K H8 t (pV b) ∧ M2.Low b.1 b.2 ∧ Sm b := by
      have : v = .ref t1 ∨ v = .ref t2 ∨ v = .ref t3 ∨ v = .ref t4 ∨ v = .ref t5 ∨ v = .ref t6 := by simpa using hv
      rcases this with z | z | z | z | z | z
      · rw [z]
        exact ⟨t1, a, rfl, seqTK hd7 kp8 (seqT S27 hA3), la, by unfold Sm; omega⟩
      · rw [z]
        exact ⟨t2, b, rfl, seqTK hd7 kp8 (seqT S27 hB3), lb, by unfold Sm; omega⟩
      · rw [z]
        exact ⟨t3, (r - 4, 1), rfl, seqTK hd7 kp8 (seqT S37 (sqt upd_same)), M2.one_low _, by show (r - 4).natAbs ≤ _ ∧ (1 : Int).natAbs ≤ _; omega⟩
      · rw [z]
        exact ⟨t4, (1, 1), rfl, seqTK hd7 kp8 (seqT S47 (sqt upd_same)), M2.one_low _, by unfold Sm; decide⟩
      · rw [z]
        exact ⟨t5, (-1, 1), rfl, seqTK hd7 kp8 (seqT S57 (sqt upd_same)), M2.one_low _, by unfold Sm; decide⟩
      · rw [z]
        exact ⟨t6, (999999, 1000000), rfl, seqTK hd7 kp8 (seqT S7 (sqt upd_same)), ⟨by decide, by decide +kernel⟩, by unfold Sm; decide⟩
    have kpF := ((kp1.trans kp2).trans kp3).trans ((Keep.of_same S27).trans kp8)
    obtain ⟨t, c, rfl, hC, lc, sc⟩ := hb
    clear hA3 hB3 S27 S37 S47 S57 S7 hv
    have c2 := lc.1
    have b21 := sc.bt (n := 21)
    have lo := M2.natAbs_div_le c.1 c2
    have hi := M2.natAbs_div_le (-c.1) c2
    rw [Int.natAbs_neg] at hi
    have ff := floor_facts c.1 c2
    have cf := ceil_facts c.1 c2
    refine ⟨_, rfl, t, c, rfl, hC, c2, sc.bt, _, rfl, t, c, rfl, hC, c2, sc.bt, _, rfl, t, c, rfl, hC, c2, sc.bt, fun H9 u9 sm9 _ hu9 => ?_⟩
    refine ⟨_, _, _, rfl, ?_⟩
    generalize hlo : c.1 / c.2 = low at lo ff
    generalize hhi : -c.1 / c.2 = hig at hi cf
    have pt : pV (partQ c) = [.int (c.1 - low * c.2), .int c.2] := by
      unfold pV partQ
      rw [hlo]
    rw [pt] at hu9
    refine ⟨fun σ H' => ∃ m, H9 m = none ∧ H' = upd H9 m (.lst [.int low, .int (-hig)]) ∧ ∃ y, σ = [some (.ref p), some (.ref t), some (.int low), some (.int (-hig)), some (.ref u9), y], ?_, ?_⟩
    · refine ⟨_, rfl, _, rfl, by show 2 ≤ sizeLine; decide, fun m nm => ?_⟩
      refine ⟨m, rfl, ⟨_, .inl (.inl upd_same)⟩, ?_⟩
      refine for_it (walk_list (K := K) (a := m) (xs := [.int low, .int (-hig)])) (fun j σ H' => H' = upd H9 m (.lst [.int low, .int (-hig)]) ∧ ∃ y, σ = [some (.ref p), some (.ref t), some (.int low), some (.int (-hig)), some (.ref u9), y]) ⟨rfl, _, rfl⟩ ?_ ?_ ?_
      · rintro j σ H' _ ⟨rfl, h⟩
        exact .inl (.inl upd_same)
      · rintro j v σ H10 H11 hj ⟨rfl, y, rfl⟩ ⟨e7, ex⟩
        subst e7
        have hv : ∃ d : Int, v = .int d := by
          have hj2 : j < 2 := hj
          match j, hj2, ex with
          | 0, _, ex => exact ⟨low, (Option.some.inj ex).symm⟩
          | 1, _, ex => exact ⟨-hig, (Option.some.inj ex).symm⟩
        obtain ⟨n, rfl⟩ := hv
        refine ⟨_, rfl, _, _, _, _, false, rfl, .ty "bool", .base (.int n), kb2, false, rfl, iteF ?_⟩
        refine ⟨_, rfl, _, _, _, _, true, rfl, .ty "int", .base (.int n), kb1, true, rfl, iteF ?_⟩
        exact ⟨rfl, _, rfl⟩
      · rintro σ H' ⟨rfl, h⟩
        exact ⟨m, nm, rfl, h⟩
    rintro σ H10 ⟨m, nm, rfl, y, rfl⟩
    have Sm10 := same_upd (o := .lst [.int low, .int (-hig)]) nm
    have hC10 := seqT (sm9.trans Sm10) hC
    have hU10 : SqT K _ u9 (pV (c.1 - low * c.2, c.2)) := seqT Sm10 (sqt hu9)
    have m1 : CMulW low c.2 := mulW (Nat.lt_of_le_of_lt lo (up b21.1 (by decide))) (up b21.2 (by decide))
    have p22 : (2 : Nat) ^ 22 = 4194304 := by decide
    have s1 := sc.1
    have m2 : CMulW (low + 1) c.2 := mulW (Nat.lt_of_lt_of_le (show (low + 1).natAbs < 2 ^ 22 by omega) (Nat.pow_le_pow_right (by decide) (by decide))) (up b21.2 (by decide))
    have m3 : CMulW (-hig - 1) c.2 := mulW (Nat.lt_of_lt_of_le (show (-hig - 1).natAbs < 2 ^ 22 by omega) (Nat.pow_le_pow_right (by decide) (by decide))) (up b21.2 (by decide))
    have m4 : CMulW (-hig) c.2 := mulW (Nat.lt_of_lt_of_le (show (-hig).natAbs < 2 ^ 22 by omega) (Nat.pow_le_pow_right (by decide) (by decide))) (up b21.2 (by decide))
    -- the two chains
    refine ⟨_, rfl, _, rfl, t, _, _, _, rfl, rfl, hC10, at1 _ _, _, _, rfl, rfl, m1, _, rfl, t, _, _, _, rfl, rfl, hC10, at0 _ _, _, _, rfl, rfl, _, rfl, ite_eq true (decide_eq_true ff.1) (iteT ?_)⟩
    refine ⟨_, rfl, _, _, rfl, rfl, _, rfl, t, _, _, _, rfl, rfl, hC10, at1 _ _, _, _, rfl, rfl, m2, _, _, rfl, rfl, _, rfl, ite_eq false (by rw [decide_eq_true ff.2]; rfl) (iteF ?_)⟩
    refine ⟨_, rfl, _, _, rfl, rfl, _, rfl, t, _, _, _, rfl, rfl, hC10, at1 _ _, _, _, rfl, rfl, m3, _, rfl, t, _, _, _, rfl, rfl, hC10, at0 _ _, _, _, rfl, rfl, _, rfl, ite_eq true (decide_eq_true cf.1) (iteT ?_)⟩
    refine ⟨_, rfl, _, rfl, t, _, _, _, rfl, rfl, hC10, at1 _ _, _, _, rfl, rfl, m4, _, _, rfl, rfl, _, rfl, ite_eq false (by rw [decide_eq_true cf.2]; rfl) (iteF ?_)⟩
    -- the part, the opposite
    have b890 : Bt 890 c := sc.bt
    have bt1 : (low * c.2).natAbs < 2 ^ 43 := wide_lt (Nat.lt_of_le_of_lt lo (up b21.1 (show 21 ≤ 22 by decide))) b21.2
    have bt2 : (c.1 - low * c.2).natAbs < 2 ^ 44 := by
      have : (2 : Nat) ^ 43 = 8796093022208 := by decide
      have : (2 : Nat) ^ 44 = 17592186044416 := by decide
      omega
    have b8 : c.2.natAbs < 2 ^ 8000 := up b21.2 (by decide)
    have b9 : (0 - c.1).natAbs < 2 ^ 8000 := by
      rw [Int.zero_sub, Int.natAbs_neg]
      exact up b21.1 (by decide)
    refine ⟨_, rfl, _, rfl, t, _, _, _, rfl, rfl, hC10, at0 _ _, _, rfl, _, rfl, t, _, _, _, rfl, rfl, hC10, at1 _ _, _, _, rfl, rfl, m1, _, _, rfl, rfl, _, rfl, t, _, _, _, rfl, rfl, hC10, at1 _ _, ?_⟩
    refine ⟨u9, (c.1 - low * c.2, c.2), _, _, rfl, hU10, part_low lc low, rfl, ⟨up bt2 (by decide), up b21.2 (by decide)⟩, up bt2 (by decide), b8, fun H11 sm11 => ⟨true, rfl, iteF ?_⟩⟩
    have hC11 := seqT sm11 hC10
    refine ⟨_, rfl, t, c, rfl, hC11, fun H12 u12 sm12 _ hu12 => ?_⟩
    have hC12 := seqT sm12 hC11
    refine ⟨_, rfl, t, _, _, _, rfl, rfl, hC12, at0 _ _, _, _, rfl, rfl, _, rfl, t, _, _, _, rfl, rfl, hC12, at1 _ _, ?_⟩
    refine ⟨u12, neg c, _, _, rfl, sqt hu12, M2.neg_low lc, by show -c.1 * c.2 = (0 - c.1) * c.2; rw [Int.zero_sub], ⟨by show (-c.1).natAbs < _; rw [Int.natAbs_neg]; exact b890.1, b890.2⟩, b9, b8, fun H13 sm13 => ⟨true, rfl, iteF ?_⟩⟩
    have S13 := sm12.trans sm13
    have hC13 := seqT S13 hC11
    -- small
    refine ⟨_, rfl, t, c, rfl, hC13, _, rfl, ?_⟩
    refine ⟨fun v H' => H' = H13 ∧ v = .bl (decide ((if c.1 < 0 then -c.1 else c.1) < c.2)), ?_, ?_⟩
    · refine ⟨_, rfl, t, _, _, _, rfl, rfl, hC13, at1 _ _, _, _, rfl, rfl, _, rfl, t, _, _, _, rfl, rfl, hC13, at0 _ _, _, _, rfl, rfl, _, rfl, ite2 (fun e => ?_) (fun e => ?_)⟩
      · have e1 := of_decide_eq_true e
        refine ⟨_, rfl, t, _, _, _, rfl, rfl, hC13, at1 _ _, _, _, rfl, rfl, rfl, ?_⟩
        have : (c.1 < c.2) = ((if c.1 < 0 then -c.1 else c.1) < c.2) := by
          apply propext
          split <;> omega
        simp only [this]
      · have e1 : ¬ 0 - c.2 < c.1 := fun z => e (decide_eq_true z)
        refine ⟨rfl, ?_⟩
        rw [decide_eq_false]
        split <;> omega
    rintro v H14 ⟨rfl, rfl⟩
    refine ⟨_, rfl, rfl, _, rfl, iteNe rfl ?_⟩
    refine ⟨_, rfl, t, c, rfl, hC13, _, rfl, t, c, rfl, hC13, rfl, _, rfl, iteNe rfl ?_⟩
    -- the end
    refine ⟨_, rfl, t, c, rfl, hC13, c2, sc.bt, _, rfl, t, c, rfl, hC13, c2, sc.bt, _, rfl, t, c, rfl, hC13, c2, sc.bt, fun H15 u15 sm15 _ hu15 => ?_⟩
    have hC15 := seqT sm15 hC13
    refine ⟨_, rfl, t, c, rfl, hC15, fun H16 u16 sm16 _ hu16 => ?_⟩
    have hC16 := seqT sm16 hC15
    have hN := sm16 _ _ hu15
    rw [hlo, hhi]
    refine ⟨by show 4 ≤ sizeLine; decide, fun w1 nw1 => ?_⟩
    have Sw1 := same_upd (o := .tup [.int low, .int (-hig), .ref u15, .ref u16]) nw1
    refine ⟨_, rfl, _, rfl, _, rfl, _, rfl, t, _, _, _, rfl, rfl, seqT Sw1 hC16, at0 _ _, _, _, rfl, rfl, _, rfl, t, _, _, _, rfl, rfl, seqT Sw1 hC16, at1 _ _, by show 2 ≤ sizeLine; decide, fun w2 nw2 => ?_⟩
    have Sw2 := same_upd (o := .tup [.int (0 - c.1), .int c.2]) nw2
    refine ⟨by show 4 ≤ sizeLine; decide, fun w3 nw3 => ?_⟩
    have Sw3 := same_upd (o := .tup [.int low, .int (-hig), .ref u9, .ref w2]) nw3
    have Sall := sm16.trans (Sw1.trans (Sw2.trans Sw3))
    have h9 := seqT (S13.trans (sm15.trans Sall)) (seqT sm11 hU10)
    have h15 := seqT (K := K) Sall (sqt hu15)
    have h16 := seqT (K := K) (Sw1.trans (Sw2.trans Sw3)) (sqt hu16)
    have hw1 := seqT (Sw2.trans Sw3) (sqt (K := K) (upd_same (H := H16) (a := w1) (o := .tup [.int low, .int (-hig), .ref u15, .ref u16])))
    have hw2 := seqT Sw3 (sqt (K := K) (upd_same (H := upd H16 w1 (.tup [.int low, .int (-hig), .ref u15, .ref u16])) (a := w2) (o := .tup [.int (0 - c.1), .int c.2])))
    have e0 : (0 : Int) - c.1 = -c.1 := Int.zero_sub _
    rw [e0] at hw2
    rw [pt] at h15
    refine ⟨.tuple [.int low, .int (-hig), dQ (c.1 - low * c.2, c.2), dQ (neg c)], .tuple [.int low, .int (-hig), dQ (c.1 - low * c.2, c.2), dQ (neg c)],
      .tup hw1 (.cons (.int _) (.cons (.int _) (.cons (dpQ h15) (.cons (dpQ h16) .nil)))), .tup (sqt upd_same) (.cons (.int _) (.cons (.int _) (.cons (dpQ h9) (.cons (dpQ hw2) .nil)))), rfl, rfl, ?_⟩
    have ev : PyData.eqv (.tuple [.int low, .int (-hig), dQ (c.1 - low * c.2, c.2), dQ (neg c)]) (.tuple [.int low, .int (-hig), dQ (c.1 - low * c.2, c.2), dQ (neg c)]) = true := by
      simp [dQ, PyData.eqv, PyData.eqvAll]
    rw [ev]
    have Z : Same H8 _ := sm9.trans (Sm10.trans (sm11.trans (S13.trans (sm15.trans Sall))))
    exact fin _ (hd8.same Z) (kpF.trans (Keep.of_same Z))
end
end K2


namespace VG
open PySem PySem.Spec PyProof.Rows L2
/-! isinstance of a caught error that has a field of its own -/
def rIsX (K : PySem.W.Frag) (a : Addr) (cls : Value) (d : Option Addr) : List V → Hp → VK → Prop := fun xs H Q =>
  ∃ (D dd : Addr) (fs : List (Str × V)) (c : V) (cv : Value) (b : Bool), cls = .ref D ∧ d = some dd ∧ H dd = some (.xd fs) ∧ ExcC K D ∧ xs = [.ref a, c] ∧ (∀ u, RelV c u → u = cv) ∧ PySem.W.kitOne K (.ref D) cv = some b ∧ Q (.bl b) H
theorem call_isX {X : Cx} {a : Addr} {oe : Obj} {cls : Value} {d : Option Addr} {pn : List (Addr × Obj)} (hz : Zc cls d oe) (hf : ∃ vs, oe.data = .fields vs) : CallR (X.suite a ((a, oe) :: pn)) (.builtin "isinstance") (rIsX X.K a cls d) := by
  intro pins s σ H xs us Q I r h
  obtain ⟨D, dd, fs, c, cv, b, rfl, rfl, ed, C, rfl, hcv, e, q⟩ := h
  cases r with
  | cons rx rr =>
    cases rr with
    | cons rt rr =>
      cases rr
      cases rx
      have ec := hcv _ rt
      subst ec
      obtain ⟨ha, _⟩ := I.pin (a, oe) (List.mem_append.mpr (.inl List.mem_cons_self))
      obtain ⟨vs, hd⟩ := hf
      have hx : ObjOk X.prog X.w H s.heap dd (.xd fs) := I.hok dd _ ed
      obtain ⟨mA, hns, hr⟩ := hx
      obtain ⟨od, ho, hl⟩ := lookIn_ns hns
      have J : PySem.W.InstAt s.heap a oe D (some od) := ⟨ha, hz.1, by unfold PySem.W.notCls; rw [hd] <;> rfl, by rw [hz.2]; exact ho⟩
      have hc : (PySem.W.clsIn X.K D).isSome = true := by
        obtain ⟨cd, hc, _⟩ := PySem.W.any_some C.hd
        rw [hc]
        rfl
      exact PySem.W.kia_one (PySem.W.kitx_exc hc C.hg C.hk C.hs C.ha C.hn C.ht C.hm) I.kIn J e (fun z => nomatch z) fun tk => ⟨.bl b, H, I.kept (t' := tk) fun _ _ z => z, rfl, q⟩
/-- a call, in a try, of a def that may let an own error out -/
structure ClX (P : Program) (w : World) (K : PySem.W.Frag) (mg : Str → Option Value) (base : Heap) (k : Nat) (x : Str) (sp : Sp) : Prop where
  ex : ∃ (f : Addr) (fd : FuncData) (ps : List Str), FnOk P w K mg base (L2.CX P w) k f fd ps sp ∧ mg x = some (.ref f) ∧ PySem.W.keepIn K (.ref f) = true ∧ Binds K fd ps []
section
variable {X : Cx} {k j : Nat} {x : Str} {sp : Sp} {p pos : Pos} {e : Expr} {es : List Expr} {t : TA} {W : WX}
theorem pe_clx (c : ClX X.prog X.w X.K X.mg X.base k x sp) (hr : Room j X.A) (hk : k ≤ j) (tk : Takes X W) (hg : Gl X x) (ha : PA X (e :: es) t)
    (h1 : (x == ("__debug__" : Str)) = false := by decide) (h2 : starEach (e :: es) X.env = (false, eval e X.env) :: starEach es X.env := by rfl)
    (h3 : (backTo pos (starEach es X.env)).any (·.1) = false := by rfl) : PE X (.Call (.Name x p) (e :: es) [] pos) (tCallS sp (WE W) t) :=
  let ⟨_, _, _, F, m, kp, b⟩ := c.ex
  pe_callS F (hr.mono hk) hg m kp b (fun σ => passAt tk σ) ha h1 h2 h3
end
end VG


namespace FR
open PySem PySem.Spec PyProof.Rows L2 VG HD
def spRefused : Sp := fun vs H Q _ => ∃ a : Int, vs = [.int a] ∧ a.natAbs < 2 ^ 8000 ∧ ∀ H', Same H H' → Q (.bl true) H'
end FR
namespace K2
open PySem PySem.Spec PyProof.Rows L2 VG FR HD
abbrev s__law_made_right : Stmt := topS 33
abbrev N__law_made_right : List Str := ["heap", "top", "bottom", "scale", "error", "told"]
theorem sc__law_made_right : FnScope N__law_made_right ["heap"] (defScope s__law_made_right) := ⟨rfl, rfl, rfl, by decide +kernel, rfl, by decide +kernel, by decide +kernel⟩
abbrev s__law_bottom_refused : Stmt := topS 34
abbrev N__law_bottom_refused : List Str := ["top", "error"]
theorem sc__law_bottom_refused : FnScope N__law_bottom_refused ["top"] (defScope s__law_bottom_refused) := ⟨rfl, rfl, rfl, by decide +kernel, rfl, by decide +kernel, by decide +kernel⟩
section
variable {P : Program} {w : World} {K : PySem.W.Frag} {mg : Str → Option Value} {base : Heap}
theorem ok__law_bottom_refused {f C : Addr} {fd : FuncData} (F : Fun K "_law_bottom_refused" "_law_bottom_refused" s__law_bottom_refused f fd)
    (X_fraction_of : ClX P w K mg base 3 "fraction_of" (spFrac C)) (m_InvalidNumber : mg "InvalidNumber" = some (.ref C)) (T_xf : XfC K C) (hno_word : PySem.W.findIn K (.ref C) "word" = some none) (te : PySem.W.exmOne K (.ref C) (.ref C) = some true) :
    FnOk P w K mg base CX0 4 f fd ["top"] spRefused := by
  refine F.ok sc__law_bottom_refused (fun vs H Q E h => ?_) (fun cdv A outer s H vs Q E hr h => ?_)
  · obtain ⟨_, rfl, _⟩ := h
    rfl
  · obtain ⟨a, rfl, sa, fin⟩ := h
    refine ⟨_, (pss_cons (ps_try_as (i := 1) (c := .ref C) rfl rfl sc__law_bottom_refused.nd rfl rfl ⟨rfl, by decide, .inl m_InvalidNumber⟩ takes0 (fun W pn xe tk _ => (pss_one (ps_expr (pe_clx X_fraction_of hr (by decide) tk rfl (pa_cons (pv 0) (pa_cons pe_int pa_nil))))))
      (fun a oe cls d pn hz hf => (pss_one (ps_ret (pe_cmpR op_eq (pe_xf T_xf hno_word hz hf (pv 1)) pe_str (nomark _))))))
    (pss_one (ps_ret pe_bl))), ?_⟩
    refine ⟨_, rfl, a, 0, rfl, sa, by decide, fun z => absurd rfl z, fun _ H' d sm hd hH => ?_⟩
    refine ⟨true, te, fun _ x hx => ?_, fun z => nomatch z⟩
    refine ⟨_, rfl, rfl, rfl, d, _, _, rfl, hH, rfl, rfl, ?_⟩
    have e : decide (V.str (("bottom" : String) : Str) = V.str (("bottom" : String) : Str)) = true := decide_eq_true rfl
    rw [e]
    exact fin _ sm
theorem ok__law_made_right {f C Ct Ci : Addr} {fd : FuncData} (F : Fun K "_law_made_right" "_law_made_right" s__law_made_right f fd)
    (C__law_number : Cl P w K mg base 3 "_law_number" spNumber) (C__law_pick : Cl P w K mg base 2 "_law_pick" (spPick K)) (C__law_is : Cl P w K mg base 2 "_law_is" (spIs K))
    (C_fraction_of : Cl P w K mg base 3 "fraction_of" (fun vs H Q _ => spFrac C vs H Q E0)) (CR_fraction_of : ClR P w K mg base 3 "fraction_of" ["bottom", "top"] (fun vs H Q _ => spFrac C vs H Q E0))
    (X_fraction_of : ClX P w K mg base 3 "fraction_of" (spFrac C)) (m_InvalidNumber : mg "InvalidNumber" = some (.ref C)) (m_TillError : mg "TillError" = some (.ref Ct)) (m_InvalidTable : mg "InvalidTable" = some (.ref Ci))
    (T_xf : XfC K C) (hno_word : PySem.W.findIn K (.ref C) "word" = some none) (te : PySem.W.exmOne K (.ref C) (.ref C) = some true) (exC : ExcC K C)
    (k1 : PySem.W.kitOne K (.ref C) (.ref Ct) = some true) (k2 : PySem.W.kitOne K (.ref C) (.ref Ci) = some false)
    (z_isinstance : mg "isinstance" = none) : FnOk P w K mg base CX0 4 f fd ["heap"] spRight := by
  refine F.ok sc__law_made_right (fun vs H Q E h => ?_) (fun cdv A outer s H vs Q E hr h => ?_)
  · obtain ⟨_, _, rfl, _⟩ := h
    rfl
  · obtain ⟨p, q, rfl, hd, fin⟩ := h
    refine ⟨_, (pss_cons (ps_par3 (i := 1) (j := 2) (l := 3) (by rfl) sc__law_made_right.nd rfl rfl rfl (by decide) (by decide) (by decide) rfl rfl rfl (pa_cons (pe_cl C__law_number hr (by decide) rfl (pa_cons (pv 0) pa_nil)) (pa_cons (pe_cl C__law_number hr (by decide) rfl (pa_cons (pv 0) pa_nil)) (pa_cons (pe_cl C__law_pick hr (by decide) rfl (pa_cons (pv 0) (pa_cons (pe_lst (pa_cons pe_int (pa_cons (pe_op op_sub pe_int pe_int) (pa_cons pe_int (pa_cons (pe_op op_sub pe_int pe_int) (pa_cons (pe_op op_pow pe_int pe_int) pa_nil)))))) pa_nil))) pa_nil))) (by rfl))
    (pss_cons (ps_if (pt_cmpR op_eq (pv 2) pe_int (nomark _))
      (pss_cons (ps_try_as (i := 4) (c := .ref C) rfl rfl sc__law_made_right.nd rfl rfl ⟨rfl, by decide, .inl m_InvalidNumber⟩ takes0 (fun W pn xe tk _ => (pss_one (ps_expr (pe_clx X_fraction_of hr (by decide) tk rfl (pa_cons (pv 1) (pa_cons (pv 2) pa_nil))))))
        (fun a oe cls d pn hz hf => (pss_one (ps_ret (pe_and (pe_cmpR op_eq (pe_xf T_xf hno_word hz hf (pv 4)) pe_str (nomark _)) (pe_and (pe_callB (show CallR _ (.builtin "isinstance") (rIsX K a cls d) from call_isX hz hf) (by rfl) z_isinstance (by decide +kernel) (pa_cons (pv 4) (pa_cons (pe_glob (v := .ref _) rfl m_TillError rfl) pa_nil))) (pe_one (pe_not (pe_callB (show CallR _ (.builtin "isinstance") (rIsX K a cls d) from call_isX hz hf) (by rfl) z_isinstance (by decide +kernel) (pa_cons (pv 4) (pa_cons (pe_glob (v := .ref _) rfl m_InvalidTable rfl) pa_nil)))))))))))
      (pss_one (ps_ret pe_bl)))
      pss_nil)
    (pss_cons (ps_set (i := 5) sc__law_made_right.nd rfl (.inl rfl) (pe_cl C_fraction_of hr (by decide) rfl (pa_cons (pe_op op_mulW (pv 1) (pv 3)) (pa_cons (pe_op op_mulW (pv 2) (pv 3)) pa_nil))))
    (pss_one (ps_ret (pe_and (pe_cl C__law_is hr (by decide) rfl (pa_cons (pv 5) (pa_cons (pv 1) (pa_cons (pv 2) pa_nil)))) (pe_one (pe_cmpR (op_eqD hr.units) (pe_clr CR_fraction_of hr (by decide) rfl (pk_cons (pv 2) (pk_cons (pv 1) pk_nil))) (pv 5) (nomark _))))))))), ?_⟩
    refine ⟨_, rfl, p, q, rfl, hd, fun H1 top hd1 kp1 h1 => ?_⟩
    refine ⟨_, rfl, p, q, rfl, hd1, fun H2 bot hd2 kp2 h2 => ?_⟩
    have kp12 := kp1.trans kp2
    refine ⟨_, rfl, _, _, rfl, rfl, _, _, rfl, rfl, ?_⟩
    refine ⟨_, _, rfl, rfl, ⟨by decide, by decide, by decide⟩, by show 5 ≤ sizeLine; decide, fun l nl => ?_⟩
    have nlp : l ≠ p ∧ l ≠ q := hd2.free nl
    refine ⟨p, q, l, _, rfl, hd2.new nl, upd_same, nlp.1, nlp.2, by simp, by show 5 < 1000000; decide, fun H3 v hd3 kp3 hv => ?_⟩
    have kp := (kp12.trans (Keep.new (o := _) nl)).trans kp3
    have hk : ∃ k : Int, v = .int k ∧ k ≠ 0 ∧ k.natAbs < 2 ^ 100 := by
      have : v = .int 1 ∨ v = .int (0 - 1) ∨ v = .int 12 ∨ v = .int (0 - 30) ∨ v = .int (10 ^ (30 : Int).toNat) := by simpa using hv
      rcases this with z | z | z | z | z <;> exact ⟨_, z, by decide, by decide⟩
    obtain ⟨k, rfl, k0, kb⟩ := hk
    clear hv
    refine ⟨_, _, _, rfl, ?_⟩
    have p20 : (2 : Nat) ^ 20 = 1048576 := by decide
    have t20 : top.natAbs < 2 ^ 20 := by omega
    have b20 : bot.natAbs < 2 ^ 20 := by omega
    refine ⟨_, rfl, rfl, _, rfl, ite2 (fun e => ?_) (fun e => ?_)⟩
    · have e0 : bot = 0 := V.int.inj (of_decide_eq_true e)
      subst e0
      refine ⟨_, rfl, _, rfl, top, 0, rfl, up t20 (by decide), by decide, fun z => absurd rfl z, fun _ H' d sm hd' hH => ?_⟩
      refine ⟨true, te, fun _ x hx => ?_, fun z => nomatch z⟩
      refine ⟨_, rfl, rfl, rfl, d, _, _, rfl, hH, rfl, rfl, ?_⟩
      have e : decide (V.str (("bottom" : String) : Str) = V.str (("bottom" : String) : Str)) = true := decide_eq_true rfl
      rw [e]
      refine ⟨true, rfl, iteT ?_⟩
      refine ⟨_, rfl, C, d, _, _, _, true, rfl, rfl, hH, exC, rfl, fun u r => r, k1, true, rfl, iteT ?_⟩
      refine ⟨_, rfl, C, d, _, _, _, false, rfl, rfl, hH, exC, rfl, fun u r => r, k2, _, rfl, ?_⟩
      exact fin H' (hd3.same sm) (kp.trans (Keep.of_same sm))
    · have hb : bot ≠ 0 := fun z => e (decide_eq_true (by rw [z]))
      have hbk : bot * k ≠ 0 := Int.mul_ne_zero hb k0
      have m1 : (top * k).natAbs < 2 ^ 120 := wide_lt t20 kb
      have m2 : (bot * k).natAbs < 2 ^ 120 := wide_lt b20 kb
      have lo := M2.mk_low (a := top * k) hbk
      have eq := M2.mk_eq (a := top * k) hbk
      have sz := M2.mk_size (a := top * k) hbk
      have lo2 := M2.mk_low (a := top) hb
      have eq2 := M2.mk_eq (a := top) hb
      have e1 : (M2.mk (top * k) (bot * k)).1 * bot = top * (M2.mk (top * k) (bot * k)).2 := by
        apply Int.eq_of_mul_eq_mul_right k0
        rw [Int.mul_assoc, eq]
        simp only [Int.mul_assoc, Int.mul_comm, Int.mul_left_comm]
      have same : M2.mk top bot = M2.mk (top * k) (bot * k) := by
        have key : (M2.mk top bot).1 * (M2.mk (top * k) (bot * k)).2 = (M2.mk (top * k) (bot * k)).1 * (M2.mk top bot).2 := by
          apply Int.eq_of_mul_eq_mul_right hb
          have z1 : (M2.mk top bot).1 * (M2.mk (top * k) (bot * k)).2 * bot = ((M2.mk top bot).1 * bot) * (M2.mk (top * k) (bot * k)).2 := by grind
          have z2 : (M2.mk (top * k) (bot * k)).1 * (M2.mk top bot).2 * bot = ((M2.mk (top * k) (bot * k)).1 * bot) * (M2.mk top bot).2 := by grind
          rw [z1, z2, eq2, e1]
          grind
        have ⟨a, b⟩ := M2.low_eq lo2 lo key
        exact Prod.ext a b
      have bt : Bt 890 (M2.mk (top * k) (bot * k)) := (show Bt 120 _ from ⟨Nat.lt_of_le_of_lt sz.1 m1, Nat.lt_of_le_of_lt sz.2 m2⟩).mono (by decide)
      refine ⟨_, rfl, _, rfl, _, _, rfl, rfl, mulW (up t20 (by decide)) (up kb (by decide)), _, rfl, _, rfl, _, _, rfl, rfl, mulW (up b20 (by decide)) (up kb (by decide)), ?_⟩
      refine ⟨_, _, rfl, up m1 (by decide), up m2 (by decide), fun _ H4 u sm4 nu hu => ?_, fun z => absurd z hbk⟩
      refine ⟨_, rfl, _, rfl, _, rfl, u, _, _, _, rfl, sqt hu, lo, e1, bt, up t20 (by decide), up b20 (by decide), fun H5 sm5 => ⟨true, rfl, iteT ?_⟩⟩
      refine ⟨_, rfl, _, rfl, top, bot, rfl, up t20 (by decide), up b20 (by decide), fun _ H6 u6 sm6 nu6 hu6 => ?_, fun z => absurd z hb⟩
      rw [same] at hu6
      refine ⟨_, rfl, _, _, dpQ (sqt hu6), dpQ (seqT (sm5.trans sm6) (sqt hu)), shQ _, shQ _, ?_⟩
      rw [eqQ_self]
      have Z := sm4.trans (sm5.trans sm6)
      exact fin H6 (hd3.same Z) (kp.trans (Keep.of_same Z))
end
end K2


namespace VG
open PySem PySem.Spec PyProof.Rows L2
section
variable {X : Cx}
/-- not in, of a tuple of data -/
def rNotInT (K : PySem.W.Frag) : R2 := fun x y H Q => ∃ d ds, Dp K H x d ∧ Dp K H y (.tuple ds) ∧ SeqAt.shaped d = true ∧ SeqAt.shaped (.tuple ds) = true ∧ Q (.bl (!ds.any fun z => PyData.eqv z d)) H
theorem op_notInT (hu : X.A.units + 65 < cLine) : OpR X (compareOp .NotIn) (rNotInT X.K) := by
  intro pins s σ H x y v u Q I rx ry h
  obtain ⟨d, ds, hd, he, sd, se, q⟩ := h
  obtain ⟨as, r1⟩ := Dp.reads I d x v hd rx
  obtain ⟨bs, r2⟩ := Dp.reads I (.tuple ds) y u he ry
  exact SeqAt.notIn_tuple_reads r2 r1 (SeqAt.canLay_of_shaped se) (SeqAt.canLay_of_shaped sd) (room_in_shaped sd hu) ⟨.bl _, H, I, rfl, q⟩
end
theorem units65 {k : Nat} {A : Around} (hr : Room k A) : A.units + 65 < cLine := by
  have := hr.un
  omega
end VG


namespace FR
/-- each q is t over B -/
def Ov (B : Int) : List Q2 → List Int → Prop
  | [], [] => True
  | q :: qs, t :: ts => (M2.Low q.1 q.2 ∧ q.1 * B = t * q.2) ∧ Ov B qs ts
  | _, _ => False
theorem fold_ov {B : Int} : ∀ (qs : List Q2) (ts : List Int) (a : Q2), M2.Low a.1 a.2 → Ov B qs ts → (qs.foldl M2.add a).1 * a.2 * B = (a.1 * B + a.2 * ts.sum) * (qs.foldl M2.add a).2
  | [], [], a, _, _ => by
    show a.1 * a.2 * B = (a.1 * B + a.2 * 0) * a.2
    grind
  | q :: qs, t :: ts, a, la, ⟨⟨lq, e⟩, h⟩ => by
    have ok := M2.add_ok la lq
    have ih := fold_ov qs ts (M2.add a q) ok.1 h
    rw [List.foldl_cons, List.sum_cons]
    generalize qs.foldl M2.add (M2.add a q) = R at ih
    generalize hb : M2.add a q = b at ih ok
    have n : b.2 * q.2 ≠ 0 := Int.mul_ne_zero (by have := ok.1.1; omega) (by have := lq.1; omega)
    apply Int.eq_of_mul_eq_mul_right n
    have e1 := ok.2
    generalize ts.sum = T at ih
    have s1 : R.1 * a.2 * B * (b.2 * q.2) = (R.1 * b.2 * B) * (a.2 * q.2) := by grind
    have s2 : (b.1 * B + b.2 * T) * R.2 * (a.2 * q.2) = (b.1 * (a.2 * q.2) * B + b.2 * T * (a.2 * q.2)) * R.2 := by grind
    have s3 : (a.1 * q.2 + q.1 * a.2) * b.2 * B = (a.1 * q.2 * B + (q.1 * B) * a.2) * b.2 := by grind
    rw [s1, ih, s2, e1, s3, e]
    grind
  | [], _ :: _, _, _, h => h.elim
  | _ :: _, [], _, _, h => h.elim
theorem sum_ov {B : Int} {qs : List Q2} {ts : List Int} (h : Ov B qs ts) : (sumQ qs).1 * B = ts.sum * (sumQ qs).2 := by
  have := fold_ov qs ts (0, 1) ⟨by decide, Nat.gcd_one_right _⟩ h
  show (qs.foldl M2.add (0, 1)).1 * B = ts.sum * (qs.foldl M2.add (0, 1)).2
  have e1 : (qs.foldl M2.add (0, 1)).1 * (1 : Int) * B = (qs.foldl M2.add (0, 1)).1 * B := by grind
  have e2 : ((0 : Int) * B + 1 * ts.sum) = ts.sum := by grind
  rw [← e1, ← e2]
  exact this
def topT (B : Int) (p : Q2) : Int := p.1 * (B / p.2)
def heavyT (B : Int) (x : Int × Q2) : Int := x.1 * x.2.1 * (B / x.2.2)
theorem ov_tops {B : Int} : ∀ ps : List Q2, (∀ p ∈ ps, M2.Low p.1 p.2 ∧ p.2 ∣ B) → Ov B ps (ps.map (topT B))
  | [], _ => trivial
  | p :: ps, h => by
    have ⟨l, d⟩ := h p List.mem_cons_self
    refine ⟨⟨l, ?_⟩, ov_tops ps fun q hq => h q (List.mem_cons_of_mem _ hq)⟩
    have := Int.ediv_mul_cancel d
    show p.1 * B = p.1 * (B / p.2) * p.2
    rw [Int.mul_assoc, this]
theorem ov_heavy {B : Int} : ∀ (ws : List Int) (ps : List Q2), (∀ c ∈ ws, c.natAbs < 2 ^ 24) → (∀ p ∈ ps, M2.Low p.1 p.2 ∧ Bt 21 p ∧ p.2 ∣ B) → ws.length = ps.length → Ov B (weighQ ws ps) ((ws.zip ps).map (heavyT B))
  | [], [], _, _, _ => trivial
  | c :: ws, p :: ps, hw, h, hl => by
    have ⟨l, b, d⟩ := h p List.mem_cons_self
    have cb := hw c List.mem_cons_self
    have tk := time_ok (p := (c, 1)) (q := p) (by show (0 : Int) < 1; decide) l.1 (m := 24) ⟨cb, by show (1 : Int).natAbs < 2 ^ 24; decide⟩ b
    refine ⟨⟨tk.1, ?_⟩, ov_heavy ws ps (fun q hq => hw q (List.mem_cons_of_mem _ hq)) (fun q hq => h q (List.mem_cons_of_mem _ hq)) (Nat.succ.inj hl)⟩
    have e1 := Int.ediv_mul_cancel d
    have e2 : (timeQ (c, 1) p).1 * (1 * p.2) = (c * p.1) * (timeQ (c, 1) p).2 := tk.2.2
    show (timeQ (c, 1) p).1 * B = c * p.1 * (B / p.2) * (timeQ (c, 1) p).2
    generalize B / p.2 = k at e1
    generalize timeQ (c, 1) p = r at e2
    rw [← e1]
    have s : r.1 * (k * p.2) = (r.1 * (1 * p.2)) * k := by grind
    rw [s, e2]
    grind
  | [], _ :: _, _, _, h => by cases h
  | _ :: _, [], _, _, h => by cases h
/-- the best of them -/
structure Tot (lt : Q2 → Q2 → Bool) : Prop where
  asym : ∀ a b : Q2, lt a b = true → lt b a = false
  tr : ∀ a b c : Q2, 0 < a.2 → 0 < b.2 → 0 < c.2 → lt a b = false → lt b c = false → lt a c = false
theorem tot_less : Tot lessQ := by
  constructor
  · intro a b h
    have := of_decide_eq_true h
    exact decide_eq_false (by omega)
  · intro a b c ha hb hc h1 h2
    have h1 := of_decide_eq_false h1
    have h2 := of_decide_eq_false h2
    refine decide_eq_false fun z => ?_
    -- b.1*a.2 ≤ a.1*b.2, c.1*b.2 ≤ b.1*c.2
    have g1 : b.1 * a.2 ≤ a.1 * b.2 := by omega
    have g2 : c.1 * b.2 ≤ b.1 * c.2 := by omega
    have p1 := Int.mul_le_mul_of_nonneg_right g1 (Int.le_of_lt hc)
    have p2 := Int.mul_le_mul_of_nonneg_right g2 (Int.le_of_lt ha)
    have p3 := Int.mul_lt_mul_of_pos_right z hb
    have e1 : b.1 * a.2 * c.2 = b.1 * c.2 * a.2 := by grind
    have e2 : a.1 * b.2 * c.2 = a.1 * c.2 * b.2 := by grind
    have e3 : c.1 * b.2 * a.2 = c.1 * a.2 * b.2 := by grind
    omega
theorem tot_gt : Tot gtQ := by
  constructor
  · intro a b h
    exact tot_less.asym b a h
  · intro a b c ha hb hc h1 h2
    exact tot_less.tr c b a hc hb ha h2 h1
open PySem PySem.Spec PyProof.Rows L2 VG HD
theorem best_some {lt : Q2 → Q2 → Bool} (T : Tot lt) : ∀ (l : List (V × Q2)) (b : V × Q2), 0 < b.2.2 → (∀ x ∈ l, 0 < x.2.2) → ∃ r, bestF lt (some b) l = some r ∧ r ∈ b :: l ∧ ∀ y ∈ b :: l, lt y.2 r.2 = false
  | [], b, _, _ => ⟨b, rfl, List.mem_cons_self, fun y hy => by
      have e : y = b := by simpa using hy
      subst e
      cases h : lt y.2 y.2
      · rfl
      · have := T.asym _ _ h
        rw [h] at this
        cases this⟩
  | x :: xs, b, hb, hx => by
    have px := hx x List.mem_cons_self
    have self : ∀ z : Q2, lt z z = false := fun z => by
      cases h : lt z z
      · rfl
      · have := T.asym _ _ h
        rw [h] at this
        cases this
    show ∃ r, bestF lt (if lt x.2 b.2 = true then some x else some b) xs = some r ∧ _
    by_cases h : lt x.2 b.2 = true
    · rw [if_pos h]
      obtain ⟨r, e, m, f⟩ := best_some T xs x px fun y hy => hx y (List.mem_cons_of_mem _ hy)
      refine ⟨r, e, List.mem_cons_of_mem _ m, fun y hy => ?_⟩
      rcases List.mem_cons.mp hy with z | z
      · subst z
        have pr : 0 < r.2.2 := by
          rcases List.mem_cons.mp m with z | z
          · rw [z]; exact px
          · exact hx _ (List.mem_cons_of_mem _ z)
        exact T.tr _ _ _ hb px pr (T.asym _ _ h) (f x List.mem_cons_self)
      · exact f y z
    · rw [if_neg h]
      obtain ⟨r, e, m, f⟩ := best_some T xs b hb fun y hy => hx y (List.mem_cons_of_mem _ hy)
      have h' : lt x.2 b.2 = false := Bool.eq_false_iff.mpr h
      refine ⟨r, e, ?_, fun y hy => ?_⟩
      · rcases List.mem_cons.mp m with z | z
        · rw [z]; exact List.mem_cons_self
        · exact List.mem_cons_of_mem _ (List.mem_cons_of_mem _ z)
      · have pr : 0 < r.2.2 := by
          rcases List.mem_cons.mp m with z | z
          · rw [z]; exact hb
          · exact hx _ (List.mem_cons_of_mem _ z)
        rcases List.mem_cons.mp hy with z | z
        · rw [z]; exact f b List.mem_cons_self
        rcases List.mem_cons.mp z with z | z
        · rw [z]
          exact T.tr _ _ _ px hb pr h' (f b List.mem_cons_self)
        · exact f y (List.mem_cons_of_mem _ z)
end FR


namespace FR
open PySem PySem.Spec PyProof.Rows L2 VG HD
theorem Frs.keep {K : PySem.W.Frag} {H H' : Hp} {p q : Addr} (hd : Hd p q H) (kp : Keep p q H H') : ∀ {vs : List V} {ps : List Q2}, Frs K H vs ps → Frs K H' vs ps
  | [], [], _ => trivial
  | _ :: _, _ :: _, ⟨⟨t, e1, h⟩, r⟩ => ⟨⟨t, e1, seqTK hd kp h⟩, Frs.keep hd kp r⟩
  | [], _ :: _, h => h.elim
  | _ :: _, [], h => h.elim
theorem hd_put {p q D : Addr} {H : Hp} {o : HO} (h : Hd p q H) (n1 : D ≠ p) (n2 : D ≠ q) : Hd p q (L2.upd H D o) := by
  obtain ⟨cs, st, h1, h2, h3⟩ := h
  exact ⟨cs, st, by rw [upd_ne n1.symm]; exact h1, by rw [upd_ne n2.symm]; exact h2, h3⟩
theorem log20 {n : Nat} (h : n ≤ 2000000) : n.log2 < 21 := by
  by_cases h0 : n = 0
  · subst h0
    decide
  · exact (Nat.log2_lt h0).mpr (by omega)
theorem int_shown {a : Int} (h : a.natAbs ≤ 2000000) : (PyData.shown (.int a)).length ≤ 22 := by
  have e := int_text_length_le (a := a) (k := 21) (by decide) (log20 h)
  show (Str.ofString (toString a)).length ≤ 22
  rw [PySem.ofString_length]
  exact e
theorem showQ {p : Q2} (h : Sm p) : (dQ p).showable = true ∧ (dQ p).hasDict = false ∧ (dQ p).depth ≤ 60 ∧ (dQ p).shown.length ≤ sizeLine := by
  refine ⟨?_, rfl, by show 1 ≤ 60; decide, ?_⟩
  · show (decide (p.1.natAbs.log2 < 1920) && (decide (p.2.natAbs.log2 < 1920) && true)) = true
    rw [decide_eq_true (Nat.lt_trans (log20 h.1) (by decide)), decide_eq_true (Nat.lt_trans (log20 h.2) (by decide))]
    rfl
  · show (tupleText [PyData.shown (.int p.1), PyData.shown (.int p.2)]).length ≤ _
    have e := fmt_text [PyData.shown (.int p.1), PyData.shown (.int p.2)]
    have e1 := int_shown h.1
    have e2 := int_shown h.2
    rw [piled_cons, piled_cons, piled_nil] at e
    have : sizeLine = 16777216 := by decide
    omega
theorem shaped_ps : ∀ ps : List Q2, SeqAt.shaped (.tuple (ps.map dQ)) = true := by
  intro ps
  have h : ∀ ps : List Q2, PyData.canLayAll0 (ps.map dQ) = true ∧ PyData.depthAll (ps.map dQ) ≤ 1 := by
    intro ps
    induction ps with
    | nil => exact ⟨rfl, Nat.zero_le _⟩
    | cons p ps ih =>
      refine ⟨?_, ?_⟩
      · show ((PyData.canLay0 (.int p.1) && (PyData.canLay0 (.int p.2) && true)) && PyData.canLayAll0 (ps.map dQ)) = true
        rw [ih.1]
        rfl
      · show max (PyData.depth (dQ p)) (PyData.depthAll (ps.map dQ)) ≤ 1
        have : PyData.depth (dQ p) = 1 := rfl
        omega
  have ⟨h1, h2⟩ := h ps
  unfold SeqAt.shaped
  rw [Bool.and_eq_true]
  refine ⟨h1, decide_eq_true ?_⟩
  show PyData.depthAll (ps.map dQ) + 1 ≤ 64
  omega
theorem dpAll_ps {K : PySem.W.Frag} {H : Hp} : ∀ {vs : List V} {ps : List Q2}, Frs K H vs ps → DpAll K H vs (ps.map dQ)
  | [], [], _ => .nil
  | _ :: _, _ :: _, ⟨⟨t, e1, h⟩, r⟩ => by
    subst e1
    exact .cons (dpQ h) (dpAll_ps r)
  | [], _ :: _, h => h.elim
  | _ :: _, [], h => h.elim
theorem eqN : PyData.eqv .none .none = true := by simp [PyData.eqv]
theorem eqT_nil (ps : List Q2) (h : ps ≠ []) : PyData.eqv (.tuple (ps.map dQ)) (.tuple []) = false := by
  match ps, h with
  | p :: ps, _ => simp [PyData.eqv, PyData.eqvAll]
theorem any_ps {q : Q2} : ∀ {ps : List Q2}, q ∈ ps → (ps.map dQ).any (fun z => PyData.eqv z (dQ q)) = true
  | p :: ps, h => by
    rw [List.map_cons, List.any_cons]
    rcases List.mem_cons.mp h with z | z
    · rw [z, eqQ_self]
      rfl
    · rw [any_ps z, Bool.or_true]
theorem in_shown {q : Q2} {ps : List Q2} (h : q ∈ ps) : inV (.str (dQ q).shown) (ps.map fun a => V.str (dQ a).shown) = true := by
  unfold inV
  refine List.any_eq_true.mpr ⟨_, List.mem_map.mpr ⟨q, h, rfl⟩, ?_⟩
  simp [eqV]
theorem best_of {K : PySem.W.Frag} {H : Hp} {lt : Q2 → Q2 → Bool} (T : Tot lt) {xs : List V} {ps : List Q2} (fr : Frs K H xs ps) (h : ∀ a ∈ ps, 0 < a.2) (n : ps ≠ []) :
    ∃ t q, bestV (bestF lt none (xs.zip ps)) = .ref t ∧ SqT K H t (pV q) ∧ q ∈ ps ∧ ∀ y ∈ ps, lt y q = false := by
  have hl := fr.len
  match xs, ps, n with
  | v :: vs, p :: ps, _ =>
    obtain ⟨r, e, m, f⟩ := best_some T (vs.zip ps) (v, p) (h p List.mem_cons_self) (fun x hx => h _ (List.mem_cons_of_mem _ (List.of_mem_zip hx).2))
    have m2 : r ∈ (v :: vs).zip (p :: ps) := m
    obtain ⟨i, ei⟩ := List.mem_iff_getElem?.mp m2
    have ⟨g1, g2⟩ := List.getElem?_zip_eq_some.mp ei
    obtain ⟨t, q, e1, e2, hq⟩ := fr.get g1
    have e3 : r.2 = q := Option.some.inj (g2.symm.trans e2)
    refine ⟨t, q, ?_, hq, List.mem_of_getElem? e2, fun y hy => ?_⟩
    · show bestV (bestF lt (some (v, p)) (vs.zip ps)) = _
      rw [e]
      exact e1
    · obtain ⟨j, ej⟩ := List.mem_iff_getElem?.mp hy
      have hj : j < (v :: vs).length := by
        have := (List.getElem?_eq_some_iff.mp ej).1
        omega
      have := f ((v :: vs)[j], y) (show ((v :: vs)[j], y) ∈ (v :: vs).zip (p :: ps) from List.mem_iff_getElem?.mpr ⟨j, List.getElem?_zip_eq_some.mpr ⟨List.getElem?_eq_getElem hj, ej⟩⟩)
      rw [← e3]
      exact this
  | [], _ :: _, _ => cases hl
end FR
namespace K2
open PySem PySem.Spec PyProof.Rows L2 VG FR HD
abbrev s__law_many_right : Stmt := topS 37
abbrev N__law_many_right : List Str := ["heap", "some", "one", "weights", "bottom", "tops", "heavy", "at", "low", "high", "turn"]
theorem sc__law_many_right : FnScope N__law_many_right ["heap"] (defScope s__law_many_right) := ⟨rfl, rfl, rfl, by decide +kernel, rfl, by decide +kernel, by decide +kernel⟩
section
variable {P : Program} {w : World} {K : PySem.W.Frag} {mg : Str → Option Value} {base : Heap}
theorem ok__law_many_right {f : Addr} {fd : FuncData} (F : Fun K "_law_many_right" "_law_many_right" s__law_many_right f fd)
    (C__law_fraction : Cl P w K mg base 4 "_law_fraction" spFraction) (C__law_pick : Cl P w K mg base 2 "_law_pick" (spPick K)) (C__law_number : Cl P w K mg base 3 "_law_number" spNumber) (C__law_is : Cl P w K mg base 2 "_law_is" (spIs K))
    (C_sum_of : Cl P w K mg base 2 "sum_of" (spSum K)) (C_weighed : Cl P w K mg base 5 "weighed" (spWeighed K)) (C_least_of : Cl P w K mg base 2 "least_of" (spBest K lessQ)) (C_greatest_of : Cl P w K mg base 2 "greatest_of" (spBest K gtQ))
    (CK_sum_of_some : ClK P w K mg base 2 "sum_of" ["some"] (spSum K)) (CR_weighed : ClR P w K mg base 5 "weighed" ["some", "weights"] (spWeighed K)) (CK_least_of_some : ClK P w K mg base 2 "least_of" ["some"] (spBest K lessQ)) (CK_greatest_of_some : ClK P w K mg base 2 "greatest_of" ["some"] (spBest K gtQ))
    (z_repr : mg "repr" = none) (z_tuple : mg "tuple" = none) (z_range : mg "range" = none) (z_len : mg "len" = none) (z_int : mg "int" = none) (z_all : mg "all" = none) : FnG P w K mg base 6 f fd ["heap"] spRight := by
  refine fnG_of F sc__law_many_right (fun vs H Q E h => ?_) (fun cdv A outer s H vs Q E hg hr h => ?_)
  · obtain ⟨_, _, rfl, _⟩ := h
    rfl
  · obtain ⟨p, q, rfl, hd, fin⟩ := h
    refine ⟨_, (pss_cons (ps_set (i := 1) sc__law_many_right.nd rfl (.inl rfl) (pe_callTy call_tuple_of (by rfl) z_tuple (by decide +kernel) (pa_cons (pe_lc (own := [("turn", 10)]) (by rfl) sc__law_many_right.nd (pi_range1 (by rfl) z_range (pa_cons (pe_cl C__law_pick hr (by decide) rfl (pa_cons (pv 0) (pa_cons (pe_lst (pa_cons pe_int (pa_cons pe_int (pa_cons pe_int (pa_cons pe_int (pa_cons pe_int (pa_cons pe_int pa_nil))))))) pa_nil))) pa_nil)) (blkOk_by (own := [("turn", 10)]) (N := N__law_many_right) (sc := defScope s__law_many_right) (by decide +kernel)) (fun _ _ _ _ _ => (pg_name (i := 10) sc__law_many_right.nd rfl (.inl rfl))) (fun _ _ _ _ _ => pts_nil) (fun _ _ _ _ _ => (pe_cl C__law_fraction hr (by decide) rfl (pa_cons (pv 0) pa_nil)))) pa_nil)))
    (pss_cons (ps_set (i := 3) sc__law_many_right.nd rfl (.inl rfl) (pe_callTy call_tuple_of (by rfl) z_tuple (by decide +kernel) (pa_cons (pe_lc (own := [("one", 2)]) (by rfl) sc__law_many_right.nd (pi_tup (pv 1)) (blkOk_by (own := [("one", 2)]) (N := N__law_many_right) (sc := defScope s__law_many_right) (by decide +kernel)) (fun _ _ _ _ _ => (pg_name (i := 2) sc__law_many_right.nd rfl (.inl rfl))) (fun _ _ _ _ _ => pts_nil) (fun _ _ _ _ _ => (pe_cl C__law_pick hr (by decide) rfl (pa_cons (pv 0) (pa_cons (pe_lst (pa_cons pe_int (pa_cons pe_int (pa_cons (pe_op op_sub pe_int pe_int) (pa_cons pe_int (pa_cons (pe_op op_sub pe_int pe_int) (pa_cons (pe_cl C__law_number hr (by decide) rfl (pa_cons (pv 0) pa_nil)) pa_nil))))))) pa_nil))))) pa_nil)))
    (pss_cons (ps_asg (pe_tup (pa_cons pe_int (pa_cons pe_int (pa_cons pe_int pa_nil)))) (pg_tup rfl (pgs_cons (pg_name (i := 4) sc__law_many_right.nd rfl (.inl rfl)) (pgs_cons (pg_name (i := 5) sc__law_many_right.nd rfl (.inl rfl)) (pgs_cons (pg_name (i := 6) sc__law_many_right.nd rfl (.inl rfl)) pgs_nil)))))
    (pss_cut (ps_for PassesOwn.never rfl (pi_tup (pv 1)) (pg_name (i := 2) sc__law_many_right.nd rfl (.inl rfl))
      (pss_one (ps_set (i := 4) sc__law_many_right.nd rfl (.inl rfl) (pe_op op_mulW (pv 4) (pe_ix ix_tup (pv 2) pe_int (fun _ _ => rfl))))))
    (pss_cut (ps_for PassesOwn.never rfl (pi_range1 (by rfl) z_range (pa_cons (pe_callB call_len_seq (by rfl) z_len (by decide +kernel) (pa_cons (pv 1) pa_nil)) pa_nil)) (pg_name (i := 7) sc__law_many_right.nd rfl (.inl rfl))
      (pss_cons (ps_set (i := 5) sc__law_many_right.nd rfl (.inl rfl) (pe_op op_add (pv 5) (pe_op op_mulW (pe_ix ix_tup (pe_ix ix_tup (pv 1) (pv 7) (fun _ _ => rfl)) pe_int (fun _ _ => rfl)) (pe_callTy call_int1 (by rfl) z_int (by decide +kernel) (pa_cons (pe_op op_fdivW (pv 4) (pe_ix ix_tup (pe_ix ix_tup (pv 1) (pv 7) (fun _ _ => rfl)) pe_int (fun _ _ => rfl))) pa_nil)))))
      (pss_one (ps_set (i := 6) sc__law_many_right.nd rfl (.inl rfl) (pe_op op_add (pv 6) (pe_op op_mulW (pe_op op_mulW (pe_ix ix_tup (pv 3) (pv 7) (fun _ _ => rfl)) (pe_ix ix_tup (pe_ix ix_tup (pv 1) (pv 7) (fun _ _ => rfl)) pe_int (fun _ _ => rfl))) (pe_callTy call_int1 (by rfl) z_int (by decide +kernel) (pa_cons (pe_op op_fdivW (pv 4) (pe_ix ix_tup (pe_ix ix_tup (pv 1) (pv 7) (fun _ _ => rfl)) pe_int (fun _ _ => rfl))) pa_nil))))))))
    (pss_cons (ps_if (PW.pt (pw_or (pt_not (pt_val (pe_cl C__law_is hr (by decide) rfl (pa_cons (pe_cl C_sum_of hr (by decide) rfl (pa_cons (pv 1) pa_nil)) (pa_cons (pv 5) (pa_cons (pv 4) pa_nil)))))) (pw_or1 (pt_cmpR (op_neD hr.units) (pe_clk0 CK_sum_of_some hr (by decide) rfl (pk_cons (pv 1) pk_nil)) (pe_cl C_sum_of hr (by decide) rfl (pa_cons (pv 1) pa_nil)) (nomark _)))))
      (pss_one (ps_ret pe_bl))
      pss_nil)
    (pss_cons (ps_if (PW.pt (pw_or (pt_not (pt_val (pe_cl C__law_is hr (by decide) rfl (pa_cons (pe_cl C_weighed hr (by decide) rfl (pa_cons (pv 3) (pa_cons (pv 1) pa_nil))) (pa_cons (pv 6) (pa_cons (pv 4) pa_nil)))))) (pw_or1 (pt_cmpR (op_neD hr.units) (pe_clr CR_weighed hr (by decide) rfl (pk_cons (pv 1) (pk_cons (pv 3) pk_nil))) (pe_cl C_weighed hr (by decide) rfl (pa_cons (pv 3) (pa_cons (pv 1) pa_nil))) (nomark _)))))
      (pss_one (ps_ret pe_bl))
      pss_nil)
    (pss_cons (ps_asg (pe_tup (pa_cons (pe_cl C_least_of hr (by decide) rfl (pa_cons (pv 1) pa_nil)) (pa_cons (pe_cl C_greatest_of hr (by decide) rfl (pa_cons (pv 1) pa_nil)) pa_nil))) (pg_tup rfl (pgs_cons (pg_name (i := 8) sc__law_many_right.nd rfl (.inr rfl)) (pgs_cons (pg_name (i := 9) sc__law_many_right.nd rfl (.inr rfl)) pgs_nil))))
    (pss_cons (ps_if (PW.pt (pw_or (pt_cmpR (op_neD hr.units) (pe_clk0 CK_least_of_some hr (by decide) rfl (pk_cons (pv 1) pk_nil)) (pv 8) (nomark _)) (pw_or1 (pt_cmpR (op_neD hr.units) (pe_clk0 CK_greatest_of_some hr (by decide) rfl (pk_cons (pv 1) pk_nil)) (pv 9) (nomark _)))))
      (pss_one (ps_ret pe_bl))
      pss_nil)
    (pss_cons (ps_if (pt_cmpR (op_eqD hr.units) (pv 1) (pe_tup pa_nil) (nomark _))
      (pss_one (ps_ret (pe_and (pe_cmpR op_isN (pv 8) pe_non (nomark _)) (pe_one (pe_cmpR op_isN (pv 9) pe_non (nomark _))))))
      pss_nil)
    (pss_cons (ps_if (PW.pt (pw_or (pt_cmpR (op_notInT (units65 hr)) (pv 8) (pv 1) rfl) (pw_or (pt_cmpR (op_notInT (units65 hr)) (pv 9) (pv 1) rfl) (pw_or1 (pt_cmpR op_notIn_seq (pe_callB (cr_repr hg hr.units) (by rfl) z_repr (by decide +kernel) (pa_cons (pv 8) pa_nil)) (pe_lc (own := [("one", 2)]) (by rfl) sc__law_many_right.nd (pi_tup (pv 1)) (blkOk_by (own := [("one", 2)]) (N := N__law_many_right) (sc := defScope s__law_many_right) (by decide +kernel)) (fun _ _ _ _ _ => (pg_name (i := 2) sc__law_many_right.nd rfl (.inl rfl))) (fun _ _ _ _ _ => pts_nil) (fun _ _ _ _ _ => (pe_callB (show CallR _ (.builtin "repr") (rRepr K) from cr_repr hg hr.units) (by rfl) z_repr (by decide +kernel) (pa_cons (pv 2) pa_nil)))) rfl)))))
      (pss_one (ps_ret pe_bl))
      pss_nil)
    (pss_one (ps_ret (pe_callB (cr_all rfl) (by rfl) z_all (by decide +kernel) (pa_cons (pe_lc (own := [("one", 2)]) (by rfl) sc__law_many_right.nd (pi_tup (pv 1)) (blkOk_by (own := [("one", 2)]) (N := N__law_many_right) (sc := defScope s__law_many_right) (by decide +kernel)) (fun _ _ _ _ _ => (pg_name (i := 2) sc__law_many_right.nd rfl (.inl rfl))) (fun _ _ _ _ _ => pts_nil) (fun _ _ _ _ _ => (pe_and (pe_cmpR op_le (pe_op op_mulW (pe_ix (show IxR _ (rIxT K) from ix_tup) (pv 8) pe_int (fun _ _ => rfl)) (pe_ix (show IxR _ (rIxT K) from ix_tup) (pv 2) pe_int (fun _ _ => rfl))) (pe_op op_mulW (pe_ix (show IxR _ (rIxT K) from ix_tup) (pv 2) pe_int (fun _ _ => rfl)) (pe_ix (show IxR _ (rIxT K) from ix_tup) (pv 8) pe_int (fun _ _ => rfl))) (nomark _)) (pe_one (pe_cmpR op_le (pe_op op_mulW (pe_ix (show IxR _ (rIxT K) from ix_tup) (pv 2) pe_int (fun _ _ => rfl)) (pe_ix (show IxR _ (rIxT K) from ix_tup) (pv 9) pe_int (fun _ _ => rfl))) (pe_op op_mulW (pe_ix (show IxR _ (rIxT K) from ix_tup) (pv 9) pe_int (fun _ _ => rfl)) (pe_ix (show IxR _ (rIxT K) from ix_tup) (pv 2) pe_int (fun _ _ => rfl))) (nomark _)))))) pa_nil))))))))))))))), ?_⟩
    -- some
    refine ⟨_, rfl, by show 6 ≤ sizeLine; decide, fun l nl => ?_⟩
    have nlp : l ≠ p ∧ l ≠ q := hd.free nl
    refine ⟨p, q, l, _, rfl, hd.new nl, upd_same, nlp.1, nlp.2, by simp, by show 6 < 1000000; decide, fun H1 v hd1 kp1 hv => ?_⟩
    have kpA := (Keep.new (o := _) nl).trans kp1
    have hv2 : ∃ k : Nat, v = .int k ∧ k ≤ 7 := by
      have : v = .int 2 ∨ v = .int 3 ∨ v = .int 0 ∨ v = .int 1 ∨ v = .int 5 ∨ v = .int 7 := by simpa using hv
      rcases this with z | z | z | z | z | z
      · exact ⟨2, z, by decide⟩
      · exact ⟨3, z, by decide⟩
      · exact ⟨0, z, by decide⟩
      · exact ⟨1, z, by decide⟩
      · exact ⟨5, z, by decide⟩
      · exact ⟨7, z, by decide⟩
    obtain ⟨n, rfl, hn⟩ := hv2
    clear hv
    refine ⟨_, rfl, by omega, by omega, fun D nD => ?_⟩
    have fD := hd1.free nD
    refine lc_it (walk_range (lo := 0) (n := ((n : Int)).toNat)) (fun i H5 => Hd p q H5 ∧ Keep p q H1 H5 ∧ ∃ (xs : List V) (ps : List Q2), ps.length = i ∧ Frs K H5 xs ps ∧ (∀ a ∈ ps, M2.Low a.1 a.2 ∧ a.1.natAbs ≤ 1000000 ∧ a.2.natAbs ≤ 1000000) ∧ H5 D = some (.lst xs)) ?_ (fun _ _ _ _ => trivial) ?_ ?_
    · exact ⟨hd1.new nD, Keep.new nD, [], [], rfl, trivial, fun y hy => absurd hy List.not_mem_nil, upd_same⟩
    · rintro j x H5 H6 hj ⟨hd5, kp5, xs, ps, el, fr, hps, hD⟩ ⟨e6, rfl⟩
      subst e6
      refine ⟨rfl, _, rfl, p, q, rfl, hd5, fun H7 t a hd7 kp7 ht la a1 a2 => ?_⟩
      have hD7 := kp7 D _ fD.1 fD.2 hD
      have fr7 := Frs.keep hd5 kp7 fr
      have hj7 : j < 7 := by
        have : j < ((n : Int)).toNat := hj
        omega
      have lx := fr.len
      refine ⟨_, hD7, ?_, hd_put hd7 fD.1 fD.2, ?_, xs ++ [.ref t], ps ++ [a], by rw [List.length_append, el]; rfl, ?_, ?_, upd_same⟩
      · have : sizeLine = 16777216 := by decide
        omega
      · intro b o n1 n2 hb
        have nb : b ≠ D := ne_of_none hb nD
        rw [upd_ne nb]
        exact kp7 b o n1 n2 (kp5 b o n1 n2 hb)
      · exact (fr7.upd hD7).snoc (seqT_upd hD7 (sqt ht))
      · intro y hy
        rcases List.mem_append.mp hy with z | z
        · exact hps y z
        · have ez : y = a := by simpa using z
          subst ez
          exact ⟨la, a1, a2⟩
    rintro H5 ⟨hd5, kp5, xs, ps, el, fr, hps, hD⟩
    have el7 : ps.length ≤ 7 := by omega
    have lx := fr.len
    refine ⟨D, xs, rfl, .inl ⟨.inl (.inl hD), fun S nS => ?_⟩⟩
    have kpB := (kpA.trans kp5).trans (Keep.new (o := .tup xs) nS)
    have hd6 := hd5.new (o := .tup xs) nS
    have fr6 := fr.mono (same_upd (o := .tup xs) nS)
    have hS6 : SqT K (L2.upd H5 S (.tup xs)) S xs := sqt upd_same
    clear hD fr
    generalize L2.upd H5 S (.tup xs) = H6 at kpB hd6 fr6 hS6
    -- weights
    refine ⟨_, rfl, S, rfl, ⟨_, hS6⟩, fun D2 nD2 => ?_⟩
    have fD2 := hd6.free nD2
    refine lc_it (walk_tup (K := K) (a := S) (xs := xs)) (fun i H7 => Hd p q H7 ∧ Keep p q H6 H7 ∧ ∃ ws : List Int, ws.length = i ∧ (∀ c ∈ ws, c.natAbs < 2 ^ 20) ∧ H7 D2 = some (.lst (ws.map V.int))) ?_ (fun i H7 _ h => seqTK hd6 h.2.1 hS6) ?_ ?_
    · exact ⟨hd6.new nD2, Keep.new nD2, [], rfl, fun y hy => absurd hy List.not_mem_nil, upd_same⟩
    · rintro j x H7 H8 hj ⟨hd7, kp7, ws, el2, hws, hD⟩ ⟨e8, ex⟩
      subst e8
      refine ⟨rfl, _, rfl, _, _, rfl, rfl, _, _, rfl, rfl, _, rfl, p, q, rfl, hd7, fun H9 m hd9 kp9 hm => ?_⟩
      refine ⟨by show 6 ≤ sizeLine; decide, fun l2 nl2 => ?_⟩
      have nlp2 : l2 ≠ p ∧ l2 ≠ q := hd9.free nl2
      refine ⟨p, q, l2, _, rfl, hd9.new nl2, upd_same, nlp2.1, nlp2.2, by simp, by show 6 < 1000000; decide, fun H10 v hd10 kp10 hv => ?_⟩
      have kp8 := (kp9.trans (Keep.new (o := _) nl2)).trans kp10
      have p20 : (2 : Nat) ^ 20 = 1048576 := by decide
      have hv2 : ∃ k : Int, v = .int k ∧ k.natAbs < 2 ^ 20 := by
        have : v = .int 0 ∨ v = .int 1 ∨ v = .int (0 - 1) ∨ v = .int 2 ∨ v = .int (0 - 3) ∨ v = .int m := by simpa using hv
        rcases this with z | z | z | z | z | z
        · exact ⟨_, z, by decide⟩
        · exact ⟨_, z, by decide⟩
        · exact ⟨_, z, by decide⟩
        · exact ⟨_, z, by decide⟩
        · exact ⟨_, z, by decide⟩
        · exact ⟨_, z, by omega⟩
      obtain ⟨k, rfl, kb⟩ := hv2
      have hD10 := kp8 D2 _ fD2.1 fD2.2 hD
      refine ⟨_, hD10, ?_, hd_put hd10 fD2.1 fD2.2, ?_, ws ++ [k], by rw [List.length_append, el2]; rfl, ?_, ?_⟩
      · have : sizeLine = 16777216 := by decide
        have hj2 : j < xs.length := hj
        rw [List.length_map]
        omega
      · intro b o n1 n2 hb
        have nb : b ≠ D2 := ne_of_none hb nD2
        rw [upd_ne nb]
        exact kp8 b o n1 n2 (kp7 b o n1 n2 hb)
      · intro y hy
        rcases List.mem_append.mp hy with z | z
        · exact hws y z
        · have ez : y = k := by simpa using z
          subst ez
          exact kb
      · rw [upd_same, List.map_append]
        rfl
    rintro H7 ⟨hd7, kp7, ws, el2, hws, hD⟩
    have lw : ws.length = ps.length := by rw [el2, lx]
    refine ⟨D2, _, rfl, .inl ⟨.inl (.inl hD), fun W nW => ?_⟩⟩
    have kpC := (kpB.trans kp7).trans (Keep.new (o := .tup (ws.map V.int)) nW)
    have hS7 := seqT (same_upd (o := .tup (ws.map V.int)) nW) (seqTK hd6 kp7 hS6)
    have hd8 := hd7.new (o := .tup (ws.map V.int)) nW
    have fr8 := (Frs.keep hd6 kp7 fr6).mono (same_upd (o := .tup (ws.map V.int)) nW)
    have hW8 : SqT K (L2.upd H7 W (.tup (ws.map V.int))) W (ws.map V.int) := sqt upd_same
    clear hD fr6 hS6 kpA kpB
    generalize L2.upd H7 W (.tup (ws.map V.int)) = H8 at kpC hd8 fr8 hS7 hW8
    clear nW nD2 nD hd6 hd5 kp5 hd7 kp7 nl nS hd1 kp1
    refine ⟨by show 3 ≤ sizeLine; decide, fun T3 nT3 => ?_⟩
    refine ⟨T3, _, rfl, sqt upd_same, rfl, _, _, rfl, _, _, rfl, _, _, rfl, rfl, ?_⟩
    have kpD := kpC.trans (Keep.new (o := .tup [.int 1, .int 0, .int 0]) nT3)
    have hd9 := hd8.new (o := .tup [.int 1, .int 0, .int 0]) nT3
    have hS := seqT (same_upd (o := .tup [.int 1, .int 0, .int 0]) nT3) hS7
    have hW := seqT (same_upd (o := .tup [.int 1, .int 0, .int 0]) nT3) hW8
    have fr := fr8.mono (same_upd (o := .tup [.int 1, .int 0, .int 0]) nT3)
    clear fr8 hS7 hW8 kpC
    generalize L2.upd H8 T3 (.tup [.int 1, .int 0, .int 0]) = H9 at kpD hd9 hS hW fr
    have psm : ∀ a ∈ ps, M2.Low a.1 a.2 ∧ Sm a := fun a ha => ⟨(hps a ha).1, by have := hps a ha; unfold Sm; omega⟩
    have getp : ∀ (i : Nat) (a : Q2), ps[i]? = some a → M2.Low a.1 a.2 ∧ Sm a := fun i a e => psm a (List.mem_of_getElem? e)
    -- the bottom
    refine ⟨fun σ H' => H' = H9 ∧ ∃ (y2 : Option V) (B : Int), σ = [some (.ref p), some (.ref S), y2, some (.ref W), some (.int B), some (.int 0), some (.int 0), none, none, none, none] ∧ 0 < B ∧ B.natAbs ≤ 2 ^ 147 ∧ ∀ a ∈ ps, a.2 ∣ B, ?_, ?_⟩
    · refine ⟨_, rfl, S, rfl, ⟨_, hS⟩, ?_⟩
      refine for_it (walk_tup (K := K) (a := S) (xs := xs)) (fun i σ H' => H' = H9 ∧ ∃ (y2 : Option V) (B : Int), σ = [some (.ref p), some (.ref S), y2, some (.ref W), some (.int B), some (.int 0), some (.int 0), none, none, none, none] ∧ 0 < B ∧ B.natAbs ≤ 2 ^ (21 * i) ∧ ∀ a ∈ ps.take i, a.2 ∣ B) ?_ ?_ ?_ ?_
      · exact ⟨rfl, none, 1, rfl, by decide, by decide, fun a ha => by simp at ha⟩
      · rintro i σ H' _ ⟨rfl, h⟩
        exact hS
      · rintro i v σ Ha Hb hi ⟨rfl, y2, B, rfl, B0, Bs, Bd⟩ ⟨e, ex⟩
        subst e
        obtain ⟨t, a, rfl, ea, ht⟩ := fr.get ex
        have ⟨la, sa⟩ := getp i a ea
        have il : i < ps.length := (List.getElem?_eq_some_iff.mp ea).1
        have b21 := (sa.bt (n := 21)).2
        have sz : (B * a.2).natAbs ≤ 2 ^ (21 * (i + 1)) := by
          rw [Int.natAbs_mul]
          have : 2 ^ (21 * (i + 1)) = 2 ^ (21 * i) * 2 ^ 21 := by rw [Nat.mul_add, Nat.pow_add]
          rw [this]
          exact Nat.mul_le_mul Bs (Nat.le_of_lt b21)
        have B400 : B.natAbs < 2 ^ 400000 := Nat.lt_of_le_of_lt Bs (Nat.pow_lt_pow_right (by decide) (by omega))
        refine ⟨_, rfl, _, rfl, t, _, _, _, rfl, rfl, ht, at1 _ _, _, _, rfl, rfl, mulW B400 (up b21 (by decide)), ?_⟩
        refine ⟨rfl, _, B * a.2, rfl, Int.mul_pos B0 la.1, sz, fun c hc => ?_⟩
        rw [List.take_add_one, ea] at hc
        rcases List.mem_append.mp hc with z | z
        · exact Int.dvd_mul_of_dvd_left (Bd c z)
        · have ez : c = a := by simpa using z
          subst ez
          exact Int.dvd_mul_left _ _
      · rintro σ H' ⟨rfl, y2, B, rfl, B0, Bs, Bd⟩
        refine ⟨rfl, y2, B, rfl, B0, Nat.le_trans Bs (Nat.pow_le_pow_right (by decide) (by omega)), fun a ha => Bd a ?_⟩
        rw [List.take_of_length_le (by omega)]
        exact ha
    rintro σ Hx ⟨rfl, y2, B, rfl, B0, Bs, Bd⟩
    -- the tops
    refine ⟨fun σ H' => H' = Hx ∧ ∃ (y2 y7 : Option V) (A2 A3 : Int), σ = [some (.ref p), some (.ref S), y2, some (.ref W), some (.int B), some (.int A2), some (.int A3), y7, none, none, none] ∧ A2 = (ps.map (topT B)).sum ∧ A3 = ((ws.zip ps).map (heavyT B)).sum ∧ A2.natAbs ≤ 7 * 2 ^ 170 ∧ A3.natAbs ≤ 7 * 2 ^ 190, ?_, ?_⟩
    · refine ⟨_, rfl, S, _, rfl, .inr hS, _, rfl, by omega, by omega, ?_⟩
      refine for_it (walk_range (lo := 0) (n := xs.length)) (fun i σ H' => H' = Hx ∧ ∃ (y2 y7 : Option V) (A2 A3 : Int), σ = [some (.ref p), some (.ref S), y2, some (.ref W), some (.int B), some (.int A2), some (.int A3), y7, none, none, none] ∧ A2 = ((ps.take i).map (topT B)).sum ∧ A3 = (((ws.zip ps).take i).map (heavyT B)).sum ∧ A2.natAbs ≤ i * 2 ^ 170 ∧ A3.natAbs ≤ i * 2 ^ 190) ?_ (fun _ _ _ _ _ => trivial) ?_ ?_
      · exact ⟨rfl, _, _, 0, 0, rfl, rfl, rfl, by decide, by decide⟩
      · rintro i v σ Ha Hb hi ⟨rfl, y2, y7, A2, A3, rfl, e2, e3, b2, b3⟩ ⟨e, rfl⟩
        subst e
        have hi2 : i < xs.length := hi
        have ex : xs[i]? = some xs[i] := List.getElem?_eq_getElem hi2
        obtain ⟨t, a, et, ea, ht⟩ := fr.get ex
        rw [et] at ex
        have ⟨la, sa⟩ := getp i a ea
        have hiw : i < ws.length := by omega
        have ew : ws[i]? = some ws[i] := List.getElem?_eq_getElem hiw
        have cb := hws _ (List.getElem_mem hiw)
        have ewm : (ws.map V.int)[i]? = some (.int ws[i]) := by rw [List.getElem?_map, ew]; rfl
        have ez : (ws.zip ps)[i]? = some (ws[i], a) := List.getElem?_zip_eq_some.mpr ⟨ew, ea⟩
        generalize ws[i] = c at cb ewm ez
        have ati : atI xs (0 + (i : Int)) = some (.ref t) := by rw [Int.zero_add]; exact atI_nat ex
        have atw : atI (ws.map V.int) (0 + (i : Int)) = some (.int c) := by rw [Int.zero_add]; exact atI_nat ewm
        have b21 := sa.bt (n := 21)
        have WD : CDivW B a.2 := wide_div (b := 21) (by have := la.1; omega) b21.2 (by decide) (by decide)
        have kb : (B / a.2).natAbs ≤ 2 ^ 147 := Nat.le_trans (M2.natAbs_div_le B la.1) Bs
        have k148 : (B / a.2).natAbs < 2 ^ 148 := Nat.lt_of_le_of_lt kb (by decide)
        have m1 : (a.1 * (B / a.2)).natAbs < 2 ^ 169 := wide_lt b21.1 k148
        have m2 : (c * a.1).natAbs < 2 ^ 41 := wide_lt cb b21.1
        have m3 : (c * a.1 * (B / a.2)).natAbs < 2 ^ 189 := wide_lt m2 k148
        refine ⟨_, rfl, _, rfl, _, rfl, S, xs, _, _, rfl, rfl, hS, ati, t, _, _, _, rfl, rfl, ht, at0 _ _, _, rfl, _, rfl, _, rfl, S, xs, _, _, rfl, rfl, hS, ati, t, _, _, _, rfl, rfl, ht, at1 _ _, _, _, rfl, rfl, WD, .inl ⟨_, rfl, _, _, rfl, rfl, mulW (up b21.1 (by decide)) (up k148 (by decide)), _, _, rfl, rfl, ?_⟩⟩
        refine ⟨_, rfl, _, rfl, _, rfl, W, _, _, _, rfl, rfl, hW, atw, _, rfl, _, rfl, S, xs, _, _, rfl, rfl, hS, ati, t, _, _, _, rfl, rfl, ht, at0 _ _, _, _, rfl, rfl, mulW (up cb (by decide)) (up b21.1 (by decide)), _, rfl, _, rfl, _, rfl, S, xs, _, _, rfl, rfl, hS, ati, t, _, _, _, rfl, rfl, ht, at1 _ _, _, _, rfl, rfl, WD, .inl ⟨_, rfl, _, _, rfl, rfl, mulW (up m2 (by decide)) (up k148 (by decide)), _, _, rfl, rfl, ?_⟩⟩
        refine ⟨rfl, _, _, _, _, rfl, ?_, ?_, ?_, ?_⟩
        · rw [List.take_add_one, ea, List.map_append, List.sum_append, ← e2]
          show A2 + a.1 * (B / a.2) = A2 + (topT B a + 0)
          unfold topT
          omega
        · rw [List.take_add_one, ez, List.map_append, List.sum_append, ← e3]
          show A3 + c * a.1 * (B / a.2) = A3 + (c * a.1 * (B / a.2) + 0)
          omega
        · have p1 : (2 : Nat) ^ 169 ≤ 2 ^ 170 := Nat.pow_le_pow_right (by decide) (by decide)
          rw [Nat.succ_mul]
          omega
        · have p1 : (2 : Nat) ^ 189 ≤ 2 ^ 190 := Nat.pow_le_pow_right (by decide) (by decide)
          rw [Nat.succ_mul]
          omega
      · rintro σ H' ⟨rfl, y2, y7, A2, A3, rfl, e2, e3, b2, b3⟩
        rw [List.take_of_length_le (by omega)] at e2
        rw [List.take_of_length_le (by rw [List.length_zip]; omega)] at e3
        exact ⟨rfl, _, _, _, _, rfl, e2, e3, Nat.le_trans b2 (Nat.mul_le_mul_right _ (by omega)), Nat.le_trans b3 (Nat.mul_le_mul_right _ (by omega))⟩
    rintro σ Hy ⟨rfl, y2', y7, A2, A3, rfl, e2, e3, b2, b3⟩
    have p45 : ∀ a ∈ ps, M2.Low a.1 a.2 ∧ Bt 45 a := fun a ha => ⟨(psm a ha).1, (psm a ha).2.bt⟩
    have p21 : ∀ a ∈ ps, M2.Low a.1 a.2 ∧ Bt 21 a := fun a ha => ⟨(psm a ha).1, (psm a ha).2.bt⟩
    have p30 : ∀ a ∈ ps, Bt 3000 a := fun a ha => (psm a ha).2.bt
    have w24 : ∀ c ∈ ws, c.natAbs < 2 ^ 24 := fun c hc => Nat.lt_trans (hws c hc) (by decide)
    have z0 : M2.Low (0 : Int) 1 ∧ Bt 1 ((0, 1) : Q2) := ⟨⟨by decide, Nat.gcd_one_right _⟩, by unfold Bt; decide⟩
    have sok := sum_ok ps (0, 1) 1 p45 z0.1 z0.2
    have cr1 : (sumQ ps).1 * B = A2 * (sumQ ps).2 := by
      rw [e2]
      exact sum_ov (ov_tops ps fun a ha => ⟨(psm a ha).1, Bd a ha⟩)
    have wq45 : ∀ a ∈ weighQ ws ps, M2.Low a.1 a.2 ∧ Bt 45 a := by
      intro a ha
      unfold weighQ at ha
      obtain ⟨x, hx, rfl⟩ := List.mem_map.mp ha
      have hm := List.of_mem_zip hx
      have ⟨l1, b1⟩ := p21 _ hm.2
      have tk := time_ok (p := (x.1, 1)) (q := x.2) (by show (0 : Int) < 1; decide) l1.1 (m := 24) ⟨w24 _ hm.1, by show (1 : Int).natAbs < 2 ^ 24; decide⟩ b1
      exact ⟨tk.1, tk.2.1⟩
    have wlen : (weighQ ws ps).length ≤ 7 := by
      unfold weighQ
      rw [List.length_map, List.length_zip]
      omega
    have sok2 := sum_ok (weighQ ws ps) (0, 1) 1 wq45 z0.1 z0.2
    have cr2 : (sumQ (weighQ ws ps)).1 * B = A3 * (sumQ (weighQ ws ps)).2 := by
      rw [e3]
      exact sum_ov (ov_heavy ws ps w24 (fun a ha => ⟨(psm a ha).1, (psm a ha).2.bt, Bd a ha⟩) lw)
    have A2s : A2.natAbs < 2 ^ 8000 := Nat.lt_of_le_of_lt b2 (Nat.lt_of_lt_of_le (show 7 * 2 ^ 170 < 2 ^ 173 by decide) (Nat.pow_le_pow_right (by decide) (by decide)))
    have A3s : A3.natAbs < 2 ^ 8000 := Nat.lt_of_le_of_lt b3 (Nat.lt_of_lt_of_le (show 7 * 2 ^ 190 < 2 ^ 193 by decide) (Nat.pow_le_pow_right (by decide) (by decide)))
    have B8 : B.natAbs < 2 ^ 8000 := Nat.lt_of_le_of_lt Bs (Nat.pow_lt_pow_right (by decide) (by decide))
    have c50 : ps.length ≤ 50 := by omega
    clear b2 b3 Bs e2 e3
    -- the sum
    refine ⟨_, rfl, S, xs, ps, rfl, .inl hS, fr, c50, p45, fun H1 u1 sm1 hu1 => ?_⟩
    refine ⟨_, rfl, _, rfl, u1, sumQ ps, _, _, rfl, hu1, sok.1, cr1, sok.2.mono (by omega), A2s, B8, fun H2 sm2 => ⟨true, rfl, iteF ?_⟩⟩
    have S2 := sm1.trans sm2
    refine ⟨_, rfl, S, xs, ps, rfl, .inl (seqT S2 hS), fr.mono S2, c50, p45, fun H3 u3 sm3 hu3 => ?_⟩
    have S3 := S2.trans sm3
    refine ⟨_, rfl, S, xs, ps, rfl, .inl (seqT S3 hS), fr.mono S3, c50, p45, fun H4 u4 sm4 hu4 => ?_⟩
    have S4 := S3.trans sm4
    refine ⟨_, _, dpQ (seqT sm4 hu3), dpQ hu4, shQ _, shQ _, _, rfl, ?_⟩
    rw [eqQ_self]
    refine iteF ?_
    -- weighed
    refine ⟨_, rfl, _, rfl, W, S, ws, xs, ps, rfl, seqT S4 hW, seqT S4 hS, fr.mono S4, c50, lw, w24, p21, fun H5 u5 sm5 hu5 => ?_⟩
    refine ⟨_, rfl, _, rfl, u5, sumQ (weighQ ws ps), _, _, rfl, hu5, sok2.1, cr2, sok2.2.mono (by omega), A3s, B8, fun H6 sm6 => ⟨true, rfl, iteF ?_⟩⟩
    have S6 := S4.trans (sm5.trans sm6)
    refine ⟨_, rfl, _, rfl, W, S, ws, xs, ps, rfl, seqT S6 hW, seqT S6 hS, fr.mono S6, c50, lw, w24, p21, fun H7 u7 sm7 hu7 => ?_⟩
    have S7 := S6.trans sm7
    refine ⟨_, rfl, _, rfl, W, S, ws, xs, ps, rfl, seqT S7 hW, seqT S7 hS, fr.mono S7, c50, lw, w24, p21, fun H8 u8 sm8 hu8 => ?_⟩
    have S8 := S7.trans sm8
    refine ⟨_, _, dpQ (seqT sm8 hu7), dpQ hu8, shQ _, shQ _, _, rfl, ?_⟩
    rw [eqQ_self]
    refine iteF ?_
    -- the least and the greatest
    have hS8 := seqT S8 hS
    have fr9 := fr.mono S8
    have hd10 := hd9.same S8
    have kpE := kpD.trans (Keep.of_same S8)
    clear fr hS
    refine ⟨_, rfl, S, xs, ps, rfl, hS8, fr9, p30, _, rfl, S, xs, ps, rfl, hS8, fr9, p30, by show 2 ≤ sizeLine; decide, fun T nT => ?_⟩
    have ST := same_upd (o := .tup [bestV (bestF lessQ none (xs.zip ps)), bestV (bestF gtQ none (xs.zip ps))]) nT
    have hS := seqT ST hS8
    have fr := fr9.mono ST
    have hdT := hd10.same ST
    have kpT := kpE.trans (Keep.of_same ST)
    refine ⟨T, _, rfl, sqt upd_same, rfl, _, _, rfl, _, _, rfl, rfl, ?_⟩
    clear hS8 fr9 hd10 kpE hd9 hW kpD
    generalize L2.upd H8 T (.tup [bestV (bestF lessQ none (xs.zip ps)), bestV (bestF gtQ none (xs.zip ps))]) = HT at hS fr hdT kpT
    refine ⟨_, rfl, S, xs, ps, rfl, hS, fr, p30, _, rfl, ?_⟩
    by_cases h0 : ps = []
    · subst h0
      have x0 : xs = [] := List.eq_nil_of_length_eq_zero lx
      subst x0
      refine ⟨.none, .none, .non, .non, rfl, rfl, _, rfl, ?_⟩
      rw [eqN]
      refine iteF ?_
      refine ⟨_, rfl, S, [], [], rfl, hS, fr, p30, _, rfl, .none, .none, .non, .non, rfl, rfl, _, rfl, ?_⟩
      rw [eqN]
      refine iteF ?_
      refine ⟨_, rfl, by show 0 ≤ sizeLine; decide, fun Z nZ => ?_⟩
      have SZ := same_upd (o := .tup []) nZ
      refine ⟨.tuple [], .tuple [], .tup (seqT SZ hS) .nil, .tup (sqt upd_same) .nil, rfl, rfl, _, rfl, ?_⟩
      rw [show PyData.eqv (.tuple []) (.tuple []) = true from by simp [PyData.eqv, PyData.eqvAll]]
      refine iteT ?_
      refine ⟨_, rfl, rfl, true, rfl, iteT ?_⟩
      refine ⟨_, rfl, rfl, ?_⟩
      exact fin _ (hdT.same SZ) (kpT.trans (Keep.of_same SZ))
    · have pos : ∀ a ∈ ps, 0 < a.2 := fun a ha => (psm a ha).1.1
      obtain ⟨tl, ql, el1, hl, ml, fl⟩ := best_of tot_less fr pos h0
      obtain ⟨th, qh, eh1, hh, mh, fh⟩ := best_of tot_gt fr pos h0
      rw [el1, eh1]
      refine ⟨dQ ql, dQ ql, dpQ hl, dpQ hl, shQ _, shQ _, _, rfl, ?_⟩
      rw [eqQ_self]
      refine iteF ?_
      refine ⟨_, rfl, S, xs, ps, rfl, hS, fr, p30, _, rfl, ?_⟩
      rw [eh1]
      refine ⟨dQ qh, dQ qh, dpQ hh, dpQ hh, shQ _, shQ _, _, rfl, ?_⟩
      rw [eqQ_self]
      refine iteF ?_
      refine ⟨_, rfl, by show 0 ≤ sizeLine; decide, fun Z nZ => ?_⟩
      have SZ := same_upd (o := .tup []) nZ
      have hS2 := seqT SZ hS
      have fr2 := fr.mono SZ
      have hl2 := seqT SZ hl
      have hh2 := seqT SZ hh
      refine ⟨.tuple (ps.map dQ), .tuple [], .tup hS2 (dpAll_ps fr2), .tup (sqt upd_same) .nil, shaped_ps ps, rfl, _, rfl, ?_⟩
      rw [eqT_nil ps h0]
      refine iteF ?_
      clear hS fr hl hh
      have hdZ := hdT.same SZ
      have kpZ := kpT.trans (Keep.of_same SZ)
      generalize L2.upd HT Z (.tup []) = HZ at hS2 fr2 hl2 hh2 hdZ kpZ
      refine ⟨_, rfl, _, rfl, dQ ql, ps.map dQ, dpQ hl2, .tup hS2 (dpAll_ps fr2), shQ _, shaped_ps ps, _, rfl, ?_⟩
      rw [any_ps ml]
      refine iteF ?_
      refine ⟨_, rfl, _, rfl, dQ qh, ps.map dQ, dpQ hh2, .tup hS2 (dpAll_ps fr2), shQ _, shaped_ps ps, _, rfl, ?_⟩
      rw [any_ps mh]
      refine iteF ?_
      have sw := showQ (psm ql ml).2
      refine ⟨_, rfl, tl, dQ ql, rfl, dpQ hl2, sw.1, sw.2.1, sw.2.2.1, sw.2.2.2, ?_⟩
      refine ⟨_, rfl, S, rfl, ⟨_, hS2⟩, fun D3 nD3 => ?_⟩
      refine lc_it (walk_tup (K := K) (a := S) (xs := xs)) (fun i H' => Same HZ H' ∧ H' D3 = some (.lst ((ps.take i).map fun a => V.str (dQ a).shown))) ⟨same_upd nD3, upd_same⟩ (fun i H' _ h => seqT h.1 hS2) ?_ ?_
      · rintro i v Ha Hb hi ⟨sm, hD⟩ ⟨e, ex⟩
        subst e
        obtain ⟨t, a, rfl, ea, ht⟩ := fr2.get ex
        have ⟨la, sa⟩ := getp i a ea
        have sx := showQ sa
        refine ⟨rfl, _, rfl, t, dQ a, rfl, dpQ (seqT sm ht), sx.1, sx.2.1, sx.2.2.1, sx.2.2.2, ?_⟩
        refine ⟨_, hD, ?_, HD.same_put sm nD3, ?_⟩
        · have : sizeLine = 16777216 := by decide
          rw [List.length_map, List.length_take]
          omega
        · rw [upd_same, List.take_add_one, ea, List.map_append]
          rfl
      rintro H1' ⟨sm, hD⟩
      rw [List.take_of_length_le (by omega)] at hD
      refine ⟨D3, _, rfl, .inl (.inl (.inl hD)), rfl, ?_, _, rfl, ?_⟩
      · refine List.all_eq_true.mpr fun x hx => ?_
        obtain ⟨a, _, rfl⟩ := List.mem_map.mp hx
        rfl
      rw [in_shown ml]
      refine iteF ?_
      have hS3 := seqT sm hS2
      have fr3 := fr2.mono sm
      have hl3 := seqT sm hl2
      have hh3 := seqT sm hh2
      have hd3 := hdZ.same sm
      have kp3 := kpZ.trans (Keep.of_same sm)
      refine ⟨_, rfl, S, rfl, ⟨_, hS3⟩, fun D4 nD4 => ?_⟩
      refine lc_it (walk_tup (K := K) (a := S) (xs := xs)) (fun i H' => Same H1' H' ∧ ∃ bs : List Bool, bs.length = i ∧ bs.all id = true ∧ H' D4 = some (.lst (bs.map V.bl))) ⟨same_upd nD4, [], rfl, rfl, upd_same⟩ (fun i H' _ h => seqT h.1 hS3) ?_ ?_
      · rintro i v Ha Hb hi ⟨sm4, bs, bl, ball, hD4⟩ ⟨e, ex⟩
        subst e
        obtain ⟨t, a, rfl, ea, ht⟩ := fr3.get ex
        have ⟨la, sa⟩ := getp i a ea
        have am := List.mem_of_getElem? ea
        have f1 : ¬ a.1 * ql.2 < ql.1 * a.2 := of_decide_eq_false (fl a am)
        have f2 : ¬ qh.1 * a.2 < a.1 * qh.2 := of_decide_eq_false (fh a am)
        have ba := sa.bt (n := 21)
        have bl1 := (psm ql ml).2.bt (n := 21)
        have bh1 := (psm qh mh).2.bt (n := 21)
        have ht4 := seqT sm4 ht
        have hl4 := seqT sm4 hl3
        have hh4 := seqT sm4 hh3
        refine ⟨rfl, _, rfl, tl, _, _, _, rfl, rfl, hl4, at0 _ _, _, rfl, t, _, _, _, rfl, rfl, ht4, at1 _ _, _, _, rfl, rfl, mulW (up bl1.1 (by decide)) (up ba.2 (by decide)), _, rfl, t, _, _, _, rfl, rfl, ht4, at0 _ _, _, rfl, tl, _, _, _, rfl, rfl, hl4, at1 _ _, _, _, rfl, rfl, mulW (up ba.1 (by decide)) (up bl1.2 (by decide)), _, _, rfl, rfl, true, ?_, iteT ?_⟩
        · show V.bl (decide (ql.1 * a.2 ≤ a.1 * ql.2)) = _
          rw [decide_eq_true (by omega)]
        refine ⟨_, rfl, t, _, _, _, rfl, rfl, ht4, at0 _ _, _, rfl, th, _, _, _, rfl, rfl, hh4, at1 _ _, _, _, rfl, rfl, mulW (up ba.1 (by decide)) (up bh1.2 (by decide)), _, rfl, th, _, _, _, rfl, rfl, hh4, at0 _ _, _, rfl, t, _, _, _, rfl, rfl, ht4, at1 _ _, _, _, rfl, rfl, mulW (up bh1.1 (by decide)) (up ba.2 (by decide)), _, _, rfl, rfl, ?_⟩
        refine ⟨bs.map V.bl, hD4, ?_, HD.same_put sm4 nD4, bs ++ [true], by rw [List.length_append, bl]; rfl, ?_, ?_⟩
        · have : sizeLine = 16777216 := by decide
          have hi2 : i < xs.length := hi
          rw [List.length_map]
          omega
        · rw [List.all_append, ball]
          rfl
        · have e : decide (a.1 * qh.2 ≤ qh.1 * a.2) = true := decide_eq_true (by omega)
          rw [upd_same, List.map_append]
          show some (HO.lst (bs.map V.bl ++ [V.bl (decide (a.1 * qh.2 ≤ qh.1 * a.2))])) = _
          rw [e]
          rfl
      rintro H2' ⟨sm4, bs, bl, ball, hD4⟩
      refine ⟨D4, bs, rfl, .inl (.inl hD4), ?_⟩
      rw [ball]
      exact fin _ (hd3.same sm4) (kp3.trans (Keep.of_same sm4))
end
end K2


namespace VG
open PySem PySem.Spec PyProof.Rows L2 HT
/-! a pair, turned round by a slice of step -1 -/
section
variable {prog : Program} {w : World} {A : Around} {E : Value → Shared → Prop} {s : Shared}
theorem pair_turned {t sl : Addr} {v1 v2 vs : Value} {Q : Value → Shared → Prop} (ht : IsTup s.heap t #[v1, v2]) (hs : s.heap.IsSliceOf sl .none .none vs) (pv : IsPart vs (some (-1)))
    (h : Q (.ref s.heap.objs.size) { s with heap := s.heap.push { cls := .type "tuple", data := .seq #[v2, v1] } }) : wpAny (model prog w) A (getItem (.ref t) (.ref sl)) Q E s := by
  have fits : sizeOk (.seq #[v2, v1]) := by
    show 2 ≤ sizeLine
    decide
  obtain ⟨os, hos, hcs, hds⟩ := id hs
  have hT : s.TypeIs (.ref sl) "slice" := ⟨os, hos, hcs⟩
  unfold getItem
  try with_reducible refine wpAny_holding ?_
  first | refine wpAny_bind (wpAny_pure ?_) | skip
  refine wpAny_bind (wpAny_sequenceKey ht.typeIs (by decide) ?_)
  refine wpAny_bind (wpAny_callSpecial?_slot (name := Str.ofString "__getitem__") ht.typeIs PyProof.Rows.slot_tuple_getitem (wpAny_call_entry PyProof.Rows.slot_tuple_getitem ht.typeIs entry_tuple_getitem ?_ (args_tuple_getitem _ _)))
  show wpAny _ _ (Builtin.Tuple.tupleItemsOf (.ref t) >>= _) _ _ s
  refine wpAny_bind (tupleItemsOf_ ht ?_)
  refine wpAny_bind (wpAny_typeOf hT ?_)
  rw [if_pos (by decide)]
  have applied : ∀ {R : Int × Int × Nat → Shared → Prop}, R (1, -1, 2) s → wpAny (model prog w) A.in1 (Builtin.Slice.sliceApplied (.ref sl) (pure ((2 : Nat) : Int))) R E s := by
    intro R r
    unfold Builtin.Slice.sliceApplied Builtin.Slice.sliceFields
    refine wpAny_bind (wpAny_bind (wpAny_field hos hds (x := .none) rfl (wpAny_bind (wpAny_field hos hds (x := .none) rfl (wpAny_bind (wpAny_field hos hds (x := vs) rfl (wpAny_pure ?_)))))))
    refine wpAny_bind (slicePart_ pv ?_)
    show wpAny _ _ (if ((-1 : Int) == 0) = true then _ else _) _ _ s
    rw [if_neg (by decide)]
    refine wpAny_bind (slicePart_none (wpAny_bind (slicePart_none (wpAny_bind (wpAny_pure ?_)))))
    exact wpAny_pure r
  refine wpAny_bind (applied ?_)
  show wpAny _ _ (if ((1 : Int) == 0 && (-1 : Int) == 1 && (2 : Nat) == 2) = true then _ else _) _ _ s
  rw [if_neg (by decide)]
  have e : ((List.range 2).filterMap fun (k : Nat) => (#[v1, v2] : Array Value)[((1 : Int) + (k : Int) * (-1)).toNat]?).toArray = #[v2, v1] := rfl
  show wpAny _ _ (Builtin.Tuple.tupleExact ((List.range 2).filterMap fun (k : Nat) => (#[v1, v2] : Array Value)[((1 : Int) + (k : Int) * (-1)).toNat]?).toArray >>= _) _ _ s
  rw [e]
  first
    | exact wpAny_bind (m := Builtin.Tuple.tupleExact _) (wpAny_newObj_type (wpAny_pure ⟨_, rfl, wpAny_pure h⟩) fits)
    | exact wpAny_bind (m := Builtin.Tuple.tupleExact _) (wpAny_newObj_type (wpAny_bind (wpAny_pure (wpAny_pure ⟨_, rfl, wpAny_pure h⟩))) fits)
    | exact wpAny_bind (wpAny_bind (m := Builtin.Tuple.tupleExact _) (wpAny_newObj_type (wpAny_pure (wpAny_pure ⟨_, rfl, wpAny_pure h⟩)) fits))
    | exact wpAny_bind (wpAny_bind (m := Builtin.Tuple.tupleExact _) (wpAny_newObj_type (wpAny_pure ⟨_, rfl, wpAny_pure h⟩) fits))
end
section
variable {X : Cx}
def tTurn (K : PySem.W.Frag) (te : TE) : TE := fun σ H Q => te σ H fun x H1 => ∃ a v1 v2, x = .ref a ∧ SqT K H1 a [v1, v2] ∧ ∀ p, H1 p = none → Q (.ref p) (upd H1 p (.tup [v2, v1]))
theorem pe_turn {e : Expr} {te : TE} {k : Nat} {p1 p2 p3 pos : Pos} (he : PE X e te) : PE X (.Subscript e (.Slice none none (some (.UnaryOp .USub (.Constant (.int 1) k p1) p2)) p3) pos) (tTurn X.K te) := by
  constructor
  intro pins s σ H Q I h
  apply Subscript_
  apply thn (he.run pins s σ H _ I h)
  rintro v s1 ⟨x, H1, I1, r1, a, w1, w2, rfl, hx, q⟩
  cases r1
  have step : PO X (some (.UnaryOp .USub (.Constant (.int 1) k p1) p2)) (tPart (tUn (rU fun i => .int (-i)) (tC (.int 1)))) := po_some (pe_un un_neg pe_int)
  apply wpAny_Slice
  apply thn (po_none.run pins s1 σ H1 (fun o H2 => o = none ∧ H2 = H1) I1 ⟨rfl, rfl⟩)
  rintro vl s2 ⟨l, H2, I2, pl, rfl, rfl⟩
  apply thn (po_none.run pins s2 σ H2 (fun o H3 => o = none ∧ H3 = H2) I2 ⟨rfl, rfl⟩)
  rintro vu s3 ⟨u, H3, I3, pu, rfl, rfl⟩
  apply thn (step.run pins s3 σ H3 (fun o H4 => o = some (-1) ∧ H4 = H3) I3 ⟨1, rfl, -1, rfl, rfl, rfl⟩)
  rintro vs s4 ⟨o, H4, I4, ps, rfl, rfl⟩
  cases pl
  cases pu
  have I5 : Inv X pins σ H4 { s4 with heap := s4.heap.push { cls := .type "slice", data := .fields #[.none, .none, vs] } } := I4.kept (t' := s4.toks) fun b ob q => Heap.get?_push_of_some _ q
  obtain ⟨its, r, ht, hz⟩ := I5.tuple hx
  cases r with
  | cons ra rr =>
    cases rr with
    | cons rb rr =>
      cases rr
      rename_i u1 u2
      show wpAny (model X.prog X.w) X.A (subscriptTail e (.Slice none none (some (.UnaryOp .USub (.Constant (.int 1) k p1) p2)) p3) (.ref a) (.ref s4.heap.objs.size)) (EP X pins σ Q) X.xe { s4 with heap := s4.heap.push { cls := .type "slice", data := .fields #[.none, .none, vs] } }
      refine tail_any (ops := [.ref a, .ref s4.heap.objs.size]) ht.typeIs (PyProof.Rows.slot_tuple_getitem.lookup) ?_ (by with_unfolding_all rfl)
      refine pair_turned (v1 := _) (v2 := _) ht (Heap.IsSliceOf.new _ .none .none vs) ps ?_
      refine ⟨.ref _, _, I5.laid (t' := s4.toks) (o := .tup [w2, w1]) (fun b ob q => Heap.get?_push_of_some _ q) (Nat.le_refl _) ?_, rfl, q _ (I5.hok.fresh (Nat.le_refl _))⟩
      exact ⟨by show 2 ≤ sizeLine; decide, _, .cons rb (.cons ra .nil), IsTup.new _ _⟩
end
theorem alloc {H : Hp} {o : HO} {P : Addr → Hp → Prop} (h : ∀ t H', Same H H' → H' t = some o → P t H') : ∀ t, H t = none → P t (upd H t o) := fun t n => h t _ (fun b x e => by rw [upd_ne (ne_of_none e n)]; exact e) upd_same
end VG


namespace FR
open PySem PySem.Spec PyProof.Rows L2 VG HD
theorem tyX_mono {K : PySem.W.Frag} {H H' : Hp} (e : Same H H') {v : V} {ty : String} (h : TyX K H v (.type ty)) : TyX K H' v (.type ty) := by
  cases h with
  | base b =>
    cases b with
    | non => exact .base .non
    | bl x => exact .base (.bl x)
    | int i => exact .base (.int i)
    | str x => exact .base (.str x)
    | flt x => exact .base (.flt x)
    | lst h => exact .base (.lst (e _ _ h))
    | frz h => exact .base (.frz (e _ _ h))
    | tup h => exact .base (.tup (e _ _ h))
    | dK h => exact .base (.dK (e _ _ h))
    | dT h => exact .base (.dT (e _ _ h))
  | byt b => exact .byt b
  | set h => exact .set (e _ _ h)
  | kList a b => exact .kList a b
  | kTuple a b => exact .kTuple a b
  | kDict a b => exact .kDict a b
  | fTuple h => exact .fTuple (e _ _ h)
  | fDict h => exact .fDict (e _ _ h)
theorem part_mono {K : PySem.W.Frag} {H H' : Hp} (e : Same H H') {v : V} {o : Option Int} (h : Part K H v o) : Part K H' v o := by
  rcases h with h | ⟨h1, ty, b1, b2, t, h2⟩
  · exact .inl h
  · exact .inr ⟨h1, ty, b1, b2, tyX_mono e t, h2⟩
/-- what is_fraction says of a value -/
def OddV (K : PySem.W.Frag) (H : Hp) (v : V) (r : Bool) : Prop :=
  (∃ ty : String, TyX K H v (.type ty) ∧ kitB ty "tuple" = some false ∧ r = false) ∨ (∃ t xs, v = .ref t ∧ SqT K H t xs ∧ xs.length ≠ 2 ∧ r = false) ∨
  ∃ t x y o1 o2, v = .ref t ∧ SqT K H t [x, y] ∧ Part K H x o1 ∧ Part K H y o2 ∧ r = okFr o1 o2 ∧ ∀ b, o2 = some b → b.natAbs < 2 ^ 900
theorem OddV.mono {K : PySem.W.Frag} {H H' : Hp} (e : Same H H') {v : V} {r : Bool} (h : OddV K H v r) : OddV K H' v r := by
  rcases h with ⟨ty, a, b⟩ | ⟨t, xs, a, b, c⟩ | ⟨t, x, y, o1, o2, a, b, c, d, f⟩
  · exact .inl ⟨ty, tyX_mono e a, b⟩
  · exact .inr (.inl ⟨t, xs, a, seqT e b, c⟩)
  · exact .inr (.inr ⟨t, x, y, o1, o2, a, seqT e b, part_mono e c, part_mono e d, f⟩)
def frz (p q : Addr) (H : Hp) : Hp := fun b => if b = p ∨ b = q then none else H b
theorem frz_at {p q t : Addr} {H : Hp} {o : HO} (h : H t = some o) (n : t ≠ p ∧ t ≠ q) : frz p q H t = some o := by
  unfold frz
  rw [if_neg (fun z => z.elim n.1 n.2)]
  exact h
theorem frz_keep {p q : Addr} {H H' : Hp} (h : Keep p q H H') : Same (frz p q H) H' := fun b o e => by
  unfold frz at e
  by_cases z : b = p ∨ b = q
  · rw [if_pos z] at e
    cases e
  · rw [if_neg z] at e
    exact h b o (fun y => z (.inl y)) (fun y => z (.inr y)) e
theorem isFr_of {K : PySem.W.Frag} {H : Hp} {v : V} {r : Bool} {Q : VK} (h : OddV K H v r) (q : Q (.bl r) H) :
    ((∃ ty : String, TyX K H v (.type ty) ∧ kitB ty "tuple" = some false ∧ Q (.bl false) H) ∨ (∃ p xs, v = .ref p ∧ SqT K H p xs ∧ xs.length ≠ 2 ∧ Q (.bl false) H) ∨
      ∃ p x y o1 o2, v = .ref p ∧ SqT K H p [x, y] ∧ Part K H x o1 ∧ Part K H y o2 ∧ Q (.bl (okFr o1 o2)) H) := by
  rcases h with ⟨ty, t, k, er⟩ | ⟨t, xs, rfl, hS, hn, er⟩ | ⟨t, x, y, o1, o2, rfl, hS, g1, g2, er, sz⟩
  · subst er
    exact .inl ⟨ty, t, k, q⟩
  · subst er
    exact .inr (.inl ⟨t, xs, rfl, hS, hn, q⟩)
  · subst er
    exact .inr (.inr ⟨t, x, y, o1, o2, rfl, hS, g1, g2, q⟩)
theorem alloc2 {p q : Addr} {H : Hp} {o : HO} {P : Addr → Hp → Prop} (hd : Hd p q H) (h : ∀ t H', Same H H' → Hd p q H' → H' t = some o → (t ≠ p ∧ t ≠ q) → P t H') : ∀ t, H t = none → P t (L2.upd H t o) :=
  fun t n => h t _ (same_upd n) (hd.new n) upd_same (hd.free n)
theorem put2 {p q t : Addr} {H : Hp} {o : HO} (hd : Hd p q H) (n : H t = none) : Same H (L2.upd H t o) ∧ Hd p q (L2.upd H t o) ∧ L2.upd H t o t = some o ∧ (t ≠ p ∧ t ≠ q) :=
  ⟨same_upd n, hd.new n, upd_same, hd.free n⟩
theorem kitN1 : kitB "NoneType" "int" = some false := by decide +kernel
theorem kitN2 : kitB "NoneType" "bool" = some false := by decide +kernel
theorem kitB1 : kitB "bool" "int" = some true := by decide +kernel
theorem kitB2 : kitB "bool" "bool" = some true := by decide +kernel
theorem kitS1 : kitB "str" "int" = some false := by decide +kernel
theorem kitS2 : kitB "str" "bool" = some false := by decide +kernel
theorem kitT1 : kitB "tuple" "int" = some false := by decide +kernel
theorem kitT2 : kitB "tuple" "bool" = some false := by decide +kernel
theorem kitNT : kitB "NoneType" "tuple" = some false := by decide +kernel
theorem kitIT : kitB "int" "tuple" = some false := by decide +kernel
theorem kitST : kitB "str" "tuple" = some false := by decide +kernel
theorem kitLT : kitB "list" "tuple" = some false := by decide +kernel
theorem kitDT : kitB "dict" "tuple" = some false := by decide +kernel
theorem all_cons {P : V → Prop} {x : V} {xs : List V} (h : P x) (t : ∀ v ∈ xs, P v) : ∀ v ∈ x :: xs, P v := fun v hv => by
  rcases List.mem_cons.mp hv with z | z
  · rw [z]; exact h
  · exact t v z
theorem all_nil {P : V → Prop} : ∀ v ∈ ([] : List V), P v := fun v hv => by cases hv
end FR
namespace K2
open PySem PySem.Spec PyProof.Rows L2 VG FR HD
abbrev s__law_odd_right : Stmt := topS 38
abbrev N__law_odd_right : List Str := ["heap", "one", "some", "turn", "value", "due", "part"]
theorem sc__law_odd_right : FnScope N__law_odd_right ["heap"] (defScope s__law_odd_right) := ⟨rfl, rfl, rfl, by decide +kernel, rfl, by decide +kernel, by decide +kernel⟩
section
variable {P : Program} {w : World} {K : PySem.W.Frag} {mg : Str → Option Value} {base : Heap}
theorem ok__law_odd_right {f : Addr} {fd : FuncData} (F : Fun K "_law_odd_right" "_law_odd_right" s__law_odd_right f fd)
    (C__law_fraction : Cl P w K mg base 4 "_law_fraction" spFraction) (C__law_pick : Cl P w K mg base 2 "_law_pick" (spPick K)) (C__law_coprime : Cl P w K mg base 1 "_law_coprime" spCop)
    (C_is_fraction : Cl P w K mg base 2 "is_fraction" (spIsFr K)) (CK_is_fraction_value : ClK P w K mg base 2 "is_fraction" ["value"] (spIsFr K))
    (z_repr : mg "repr" = none) (z_tuple : mg "tuple" = none) (z_range : mg "range" = none) (z_len : mg "len" = none) (z_int : mg "int" = none) (z_all : mg "all" = none) (z_isinstance : mg "isinstance" = none) (z_bool : mg "bool" = none) (z_abs : mg "abs" = none) (z_list : mg "list" = none) : FnOk P w K mg base CX0 5 f fd ["heap"] spRight := by
  refine F.ok sc__law_odd_right (fun vs H Q E h => ?_) (fun cdv A outer s H vs Q E hr h => ?_)
  · obtain ⟨_, _, rfl, _⟩ := h
    rfl
  · obtain ⟨p, q, rfl, hd, fin⟩ := h
    refine ⟨_, (pss_cons (ps_set (i := 1) sc__law_odd_right.nd rfl (.inl rfl) (pe_cl C__law_fraction hr (by decide) rfl (pa_cons (pv 0) pa_nil)))
    (pss_cons (ps_set (i := 2) sc__law_odd_right.nd rfl (.inl rfl) (pe_lst (pa_cons pe_non (pa_cons pe_int (pa_cons pe_str (pa_cons (pe_tup pa_nil) (pa_cons (pe_tup (pa_cons pe_int pa_nil)) (pa_cons (pe_lst (pa_cons pe_int (pa_cons pe_int pa_nil))) (pa_cons (pe_tup (pa_cons pe_int (pa_cons pe_int (pa_cons pe_int pa_nil)))) (pa_cons (pe_tup (pa_cons pe_int (pa_cons pe_int pa_nil))) (pa_cons (pe_tup (pa_cons pe_int (pa_cons pe_int pa_nil))) (pa_cons (pe_tup (pa_cons pe_int (pa_cons pe_int pa_nil))) (pa_cons (pe_tup (pa_cons pe_int (pa_cons pe_int pa_nil))) (pa_cons (pe_tup (pa_cons pe_int (pa_cons pe_int pa_nil))) (pa_cons (pe_tup (pa_cons pe_int (pa_cons pe_int pa_nil))) (pa_cons (pe_tup (pa_cons pe_int (pa_cons (pe_op op_sub pe_int pe_int) pa_nil))) (pa_cons (pe_tup (pa_cons (pe_op op_sub pe_int pe_int) (pa_cons pe_int pa_nil))) (pa_cons (pe_tup (pa_cons pe_bl (pa_cons pe_int pa_nil))) (pa_cons (pe_tup (pa_cons pe_int (pa_cons pe_bl pa_nil))) (pa_cons (pe_tup (pa_cons pe_str (pa_cons pe_int pa_nil))) pa_nil))))))))))))))))))))
    (pss_cons (ps_set (i := 2) sc__law_odd_right.nd rfl (.inl rfl) (pe_op op_cat (pv 2) (pe_lst (pa_cons (pe_tup (pa_cons pe_non (pa_cons pe_int pa_nil))) (pa_cons (pe_tup (pa_cons pe_int (pa_cons pe_non pa_nil))) (pa_cons pe_dnewK (pa_cons (pe_callTy call_list_of (by rfl) z_list (by decide +kernel) (pa_cons (pv 1) pa_nil)) (pa_cons (pe_op op_catT (pv 1) (pe_tup (pa_cons pe_int pa_nil))) (pa_cons (pe_turn (pv 1)) (pa_cons (pe_tup (pa_cons (pe_op op_mulW pe_int (pe_ix ix_tup (pv 1) pe_int (fun _ _ => rfl))) (pa_cons (pe_op op_mulW pe_int (pe_ix ix_tup (pv 1) pe_int (fun _ _ => rfl))) pa_nil))) (pa_cons (pe_tup (pa_cons (pe_ix ix_tup (pv 1) pe_int (fun _ _ => rfl)) (pa_cons (pe_op op_sub pe_int (pe_ix ix_tup (pv 1) pe_int (fun _ _ => rfl))) pa_nil))) (pa_cons (pv 1) (pa_cons (pv 1) (pa_cons (pe_tup (pa_cons (pe_tup (pa_cons pe_int (pa_cons pe_int pa_nil))) (pa_cons pe_int pa_nil))) pa_nil))))))))))))))
    (pss_cut (ps_for PassesOwn.never rfl (pi_range1 (by rfl) z_range (pa_cons pe_int pa_nil)) (pg_name (i := 3) sc__law_odd_right.nd rfl (.inl rfl))
      (pss_cons (ps_set (i := 4) sc__law_odd_right.nd rfl (.inl rfl) (pe_cl C__law_pick hr (by decide) rfl (pa_cons (pv 0) (pa_cons (pv 2) pa_nil))))
      (pss_cons (ps_set (i := 5) sc__law_odd_right.nd rfl (.inl rfl) (pe_meet (pe_and (pe_callB call_isi (by rfl) z_isinstance (by decide +kernel) (pa_cons (pv 4) (pa_cons (pe_bltn (v := .ty "tuple") (by rfl) z_tuple (by decide +kernel) rfl) pa_nil))) (pe_and (pe_cmpR op_eq (pe_callB call_len_seq (by rfl) z_len (by decide +kernel) (pa_cons (pv 4) pa_nil)) pe_int (nomark _)) (pe_one (pe_callB (cr_all rfl) (by rfl) z_all (by decide +kernel) (pa_cons (pe_lc (own := [("part", 6)]) (by rfl) sc__law_odd_right.nd (pi_tup (pv 4)) (blkOk_by (own := [("part", 6)]) (N := N__law_odd_right) (sc := defScope s__law_odd_right) (by decide +kernel)) (fun _ _ _ _ _ => (pg_name (i := 6) sc__law_odd_right.nd rfl (.inl rfl))) (fun _ _ _ _ _ => pts_nil) (fun _ _ _ _ _ => (pe_and (pe_callB (show CallR _ (.builtin "isinstance") (rIsi K) from call_isi) (by rfl) z_isinstance (by decide +kernel) (pa_cons (pv 6) (pa_cons (pe_bltn (v := .ty "int") (by rfl) z_int (by decide +kernel) rfl) pa_nil))) (pe_one (pe_not (pe_callB (show CallR _ (.builtin "isinstance") (rIsi K) from call_isi) (by rfl) z_isinstance (by decide +kernel) (pa_cons (pv 6) (pa_cons (pe_bltn (v := .ty "bool") (by rfl) z_bool (by decide +kernel) rfl) pa_nil)))))))) pa_nil)))))))
      (pss_cons (ps_set (i := 5) sc__law_odd_right.nd rfl (.inl rfl) (pe_meet (pe_and (pv 5) (pe_and (pe_cmpR op_gt (pe_ix ix_tup (pv 4) pe_int (fun _ _ => rfl)) pe_int (nomark _)) (pe_one (pe_cl C__law_coprime hr (by decide) rfl (pa_cons (pe_callB call_abs (by rfl) z_abs (by decide +kernel) (pa_cons (pe_ix ix_tup (pv 4) pe_int (fun _ _ => rfl)) pa_nil)) (pa_cons (pe_ix ix_tup (pv 4) pe_int (fun _ _ => rfl)) pa_nil))))))))
      (pss_one (ps_if (PW.pt (pw_or (pt_cmpR op_ne (pe_callB cr_reprB (by rfl) z_repr (by decide +kernel) (pa_cons (pe_meet (pe_cl C_is_fraction hr (by decide) rfl (pa_cons (pv 4) pa_nil))) pa_nil)) (pe_callB cr_reprB (by rfl) z_repr (by decide +kernel) (pa_cons (pv 5) pa_nil)) (nomark _)) (pw_or1 (pt_cmpR op_ne (pe_meet (pe_clk0 CK_is_fraction_value hr (by decide) rfl (pk_cons (pv 4) pk_nil))) (pv 5) (nomark _)))))
        (pss_one (ps_ret pe_bl))
        pss_nil))))))
    (pss_one (ps_ret pe_bl)))))), ?_⟩
    refine ⟨_, rfl, p, q, rfl, hd, fun H0 t0 a hd0 kp0 ht0 la a1 a2 => ?_⟩
    have p40 : (2 : Nat) ^ 40 = 1099511627776 := by decide
    have hA0 : SqT K H0 t0 (pV a) := sqt ht0
    have mw1 : CMulW 2 a.1 := mulW (by show 2 < _; exact Nat.lt_of_lt_of_le (show 2 < 2 ^ 40 by decide) (Nat.pow_le_pow_right (by decide) (by decide))) (up (n := 40) (by omega) (by decide))
    have mw2 : CMulW 2 a.2 := mulW (by show 2 < _; exact Nat.lt_of_lt_of_le (show 2 < 2 ^ 40 by decide) (Nat.pow_le_pow_right (by decide) (by decide))) (up (n := 40) (by omega) (by decide))
    refine ⟨by show 0 ≤ sizeLine; decide, fun t1 n1 => ?_⟩
    obtain ⟨s1, hd1, h1, ne1⟩ := put2 hd0 (o := .tup []) n1
    generalize L2.upd H0 t1 (.tup []) = H1 at s1 hd1 h1 ⊢
    have hA1 := seqT s1 hA0
    refine ⟨by show 1 ≤ sizeLine; decide, fun t2 n2 => ?_⟩
    obtain ⟨s2, hd2, h2, ne2⟩ := put2 hd1 (o := .tup [.int 1]) n2
    generalize L2.upd H1 t2 (.tup [.int 1]) = H2 at s2 hd2 h2 ⊢
    have hA2 := seqT s2 hA1
    refine ⟨by show 2 ≤ sizeLine; decide, fun t3 n3 => ?_⟩
    obtain ⟨s3, hd3, h3, ne3⟩ := put2 hd2 (o := .lst [.int 1, .int 2]) n3
    generalize L2.upd H2 t3 (.lst [.int 1, .int 2]) = H3 at s3 hd3 h3 ⊢
    have hA3 := seqT s3 hA2
    refine ⟨by show 3 ≤ sizeLine; decide, fun t4 n4 => ?_⟩
    obtain ⟨s4, hd4, h4, ne4⟩ := put2 hd3 (o := .tup [.int 1, .int 2, .int 3]) n4
    generalize L2.upd H3 t4 (.tup [.int 1, .int 2, .int 3]) = H4 at s4 hd4 h4 ⊢
    have hA4 := seqT s4 hA3
    refine ⟨by show 2 ≤ sizeLine; decide, fun t5 n5 => ?_⟩
    obtain ⟨s5, hd5, h5, ne5⟩ := put2 hd4 (o := .tup [.int 1, .int 0]) n5
    generalize L2.upd H4 t5 (.tup [.int 1, .int 0]) = H5 at s5 hd5 h5 ⊢
    have hA5 := seqT s5 hA4
    refine ⟨by show 2 ≤ sizeLine; decide, fun t6 n6 => ?_⟩
    obtain ⟨s6, hd6, h6, ne6⟩ := put2 hd5 (o := .tup [.int 0, .int 0]) n6
    generalize L2.upd H5 t6 (.tup [.int 0, .int 0]) = H6 at s6 hd6 h6 ⊢
    have hA6 := seqT s6 hA5
    refine ⟨by show 2 ≤ sizeLine; decide, fun t7 n7 => ?_⟩
    obtain ⟨s7, hd7, h7, ne7⟩ := put2 hd6 (o := .tup [.int 0, .int 2]) n7
    generalize L2.upd H6 t7 (.tup [.int 0, .int 2]) = H7 at s7 hd7 h7 ⊢
    have hA7 := seqT s7 hA6
    refine ⟨by show 2 ≤ sizeLine; decide, fun t8 n8 => ?_⟩
    obtain ⟨s8, hd8, h8, ne8⟩ := put2 hd7 (o := .tup [.int 0, .int 1]) n8
    generalize L2.upd H7 t8 (.tup [.int 0, .int 1]) = H8 at s8 hd8 h8 ⊢
    have hA8 := seqT s8 hA7
    refine ⟨by show 2 ≤ sizeLine; decide, fun t9 n9 => ?_⟩
    obtain ⟨s9, hd9, h9, ne9⟩ := put2 hd8 (o := .tup [.int 2, .int 4]) n9
    generalize L2.upd H8 t9 (.tup [.int 2, .int 4]) = H9 at s9 hd9 h9 ⊢
    have hA9 := seqT s9 hA8
    refine ⟨by show 2 ≤ sizeLine; decide, fun t10 n10 => ?_⟩
    obtain ⟨s10, hd10, h10, ne10⟩ := put2 hd9 (o := .tup [.int 6, .int 9]) n10
    generalize L2.upd H9 t10 (.tup [.int 6, .int 9]) = H10 at s10 hd10 h10 ⊢
    have hA10 := seqT s10 hA9
    refine ⟨_, _, rfl, rfl, by show 2 ≤ sizeLine; decide, fun t11 n11 => ?_⟩
    obtain ⟨s11, hd11, h11, ne11⟩ := put2 hd10 (o := .tup [.int 1, .int (0 - 2)]) n11
    generalize L2.upd H10 t11 (.tup [.int 1, .int (0 - 2)]) = H11 at s11 hd11 h11 ⊢
    have hA11 := seqT s11 hA10
    refine ⟨_, _, rfl, rfl, by show 2 ≤ sizeLine; decide, fun t12 n12 => ?_⟩
    obtain ⟨s12, hd12, h12, ne12⟩ := put2 hd11 (o := .tup [.int (0 - 1), .int 2]) n12
    generalize L2.upd H11 t12 (.tup [.int (0 - 1), .int 2]) = H12 at s12 hd12 h12 ⊢
    have hA12 := seqT s12 hA11
    refine ⟨by show 2 ≤ sizeLine; decide, fun t13 n13 => ?_⟩
    obtain ⟨s13, hd13, h13, ne13⟩ := put2 hd12 (o := .tup [.bl true, .int 2]) n13
    generalize L2.upd H12 t13 (.tup [.bl true, .int 2]) = H13 at s13 hd13 h13 ⊢
    have hA13 := seqT s13 hA12
    refine ⟨by show 2 ≤ sizeLine; decide, fun t14 n14 => ?_⟩
    obtain ⟨s14, hd14, h14, ne14⟩ := put2 hd13 (o := .tup [.int 1, .bl true]) n14
    generalize L2.upd H13 t14 (.tup [.int 1, .bl true]) = H14 at s14 hd14 h14 ⊢
    have hA14 := seqT s14 hA13
    refine ⟨by show 2 ≤ sizeLine; decide, fun t15 n15 => ?_⟩
    obtain ⟨s15, hd15, h15, ne15⟩ := put2 hd14 (o := .tup [.str (("1" : String) : Str), .int 2]) n15
    generalize L2.upd H14 t15 (.tup [.str (("1" : String) : Str), .int 2]) = H15 at s15 hd15 h15 ⊢
    have hA15 := seqT s15 hA14
    refine ⟨by show 18 ≤ sizeLine; decide, fun t16 n16 => ?_⟩
    obtain ⟨s16, hd16, h16, ne16⟩ := put2 hd15 (o := .lst [.non, .int 7, .str (("1/2" : String) : Str), .ref t1, .ref t2, .ref t3, .ref t4, .ref t5, .ref t6, .ref t7, .ref t8, .ref t9, .ref t10, .ref t11, .ref t12, .ref t13, .ref t14, .ref t15]) n16
    generalize L2.upd H15 t16 (.lst [.non, .int 7, .str (("1/2" : String) : Str), .ref t1, .ref t2, .ref t3, .ref t4, .ref t5, .ref t6, .ref t7, .ref t8, .ref t9, .ref t10, .ref t11, .ref t12, .ref t13, .ref t14, .ref t15]) = H16 at s16 hd16 h16 ⊢
    have hA16 := seqT s16 hA15
    refine ⟨_, rfl, by show 2 ≤ sizeLine; decide, fun t17 n17 => ?_⟩
    obtain ⟨s17, hd17, h17, ne17⟩ := put2 hd16 (o := .tup [.non, .int 1]) n17
    generalize L2.upd H16 t17 (.tup [.non, .int 1]) = H17 at s17 hd17 h17 ⊢
    have hA17 := seqT s17 hA16
    refine ⟨by show 2 ≤ sizeLine; decide, fun t18 n18 => ?_⟩
    obtain ⟨s18, hd18, h18, ne18⟩ := put2 hd17 (o := .tup [.int 1, .non]) n18
    generalize L2.upd H17 t18 (.tup [.int 1, .non]) = H18 at s18 hd18 h18 ⊢
    have hA18 := seqT s18 hA17
    refine fun t19 n19 => ?_
    obtain ⟨s19, hd19, h19, ne19⟩ := put2 hd18 (o := .dK []) n19
    generalize L2.upd H18 t19 (.dK []) = H19 at s19 hd19 h19 ⊢
    have hA19 := seqT s19 hA18
    refine ⟨_, rfl, t0, _, rfl, .inr hA19, fun t20 n20 => ?_⟩
    obtain ⟨s20, hd20, h20, ne20⟩ := put2 hd19 (o := .lst (pV a)) n20
    generalize L2.upd H19 t20 (.lst (pV a)) = H20 at s20 hd20 h20 ⊢
    have hA20 := seqT s20 hA19
    refine ⟨_, rfl, by show 1 ≤ sizeLine; decide, fun t21 n21 => ?_⟩
    obtain ⟨s21, hd21, h21, ne21⟩ := put2 hd20 (o := .tup [.int 1]) n21
    generalize L2.upd H20 t21 (.tup [.int 1]) = H21 at s21 hd21 h21 ⊢
    have hA21 := seqT s21 hA20
    refine ⟨t0, t21, _, _, rfl, rfl, hA21, sqt h21, by show pV a ≠ []; simp [pV], by show 3 ≤ sizeLine; decide, (fun z => by cases z), fun _ => fun t22 n22 => ?_⟩
    obtain ⟨s22, hd22, h22, ne22⟩ := put2 hd21 (o := .tup (pV a ++ [.int 1])) n22
    generalize L2.upd H21 t22 (.tup (pV a ++ [.int 1])) = H22 at s22 hd22 h22 ⊢
    have hA22 := seqT s22 hA21
    refine ⟨_, rfl, t0, _, _, rfl, hA22, fun t23 n23 => ?_⟩
    obtain ⟨s23, hd23, h23, ne23⟩ := put2 hd22 (o := .tup [.int a.2, .int a.1]) n23
    generalize L2.upd H22 t23 (.tup [.int a.2, .int a.1]) = H23 at s23 hd23 h23 ⊢
    have hA23 := seqT s23 hA22
    refine ⟨_, rfl, t0, _, _, _, rfl, rfl, hA23, at0 _ _, _, _, rfl, rfl, mw1, _, rfl, t0, _, _, _, rfl, rfl, hA23, at1 _ _, _, _, rfl, rfl, mw2, by show 2 ≤ sizeLine; decide, fun t24 n24 => ?_⟩
    obtain ⟨s24, hd24, h24, ne24⟩ := put2 hd23 (o := .tup [.int (2 * a.1), .int (2 * a.2)]) n24
    generalize L2.upd H23 t24 (.tup [.int (2 * a.1), .int (2 * a.2)]) = H24 at s24 hd24 h24 ⊢
    have hA24 := seqT s24 hA23
    refine ⟨_, rfl, t0, _, _, _, rfl, rfl, hA24, at0 _ _, _, rfl, t0, _, _, _, rfl, rfl, hA24, at1 _ _, _, _, rfl, rfl, by show 2 ≤ sizeLine; decide, fun t25 n25 => ?_⟩
    obtain ⟨s25, hd25, h25, ne25⟩ := put2 hd24 (o := .tup [.int a.1, .int (0 - a.2)]) n25
    generalize L2.upd H24 t25 (.tup [.int a.1, .int (0 - a.2)]) = H25 at s25 hd25 h25 ⊢
    have hA25 := seqT s25 hA24
    refine ⟨_, rfl, _, rfl, by show 2 ≤ sizeLine; decide, fun t26 n26 => ?_⟩
    obtain ⟨s26, hd26, h26, ne26⟩ := put2 hd25 (o := .tup [.int 1, .int 2]) n26
    generalize L2.upd H25 t26 (.tup [.int 1, .int 2]) = H26 at s26 hd26 h26 ⊢
    have hA26 := seqT s26 hA25
    refine ⟨by show 2 ≤ sizeLine; decide, fun t27 n27 => ?_⟩
    obtain ⟨s27, hd27, h27, ne27⟩ := put2 hd26 (o := .tup [.ref t26, .int 1]) n27
    generalize L2.upd H26 t27 (.tup [.ref t26, .int 1]) = H27 at s27 hd27 h27 ⊢
    have hA27 := seqT s27 hA26
    refine ⟨by show 11 ≤ sizeLine; decide, fun t28 n28 => ?_⟩
    obtain ⟨s28, hd28, h28, ne28⟩ := put2 hd27 (o := .lst [.ref t17, .ref t18, .ref t19, .ref t20, .ref t22, .ref t23, .ref t24, .ref t25, .ref t0, .ref t0, .ref t27]) n28
    generalize L2.upd H27 t28 (.lst [.ref t17, .ref t18, .ref t19, .ref t20, .ref t22, .ref t23, .ref t24, .ref t25, .ref t0, .ref t0, .ref t27]) = H28 at s28 hd28 h28 ⊢
    have hA28 := seqT s28 hA27
    have hL1 := (s17.trans (s18.trans (s19.trans (s20.trans (s21.trans (s22.trans (s23.trans (s24.trans (s25.trans (s26.trans (s27.trans (s28)))))))))))) _ _ h16
    refine ⟨t16, t28, _, _, rfl, rfl, hL1, h28, by show 29 ≤ sizeLine; decide, fun t29 n29 => ?_⟩
    obtain ⟨s29, hd29, h29, ne29⟩ := put2 hd28 (o := .lst ([.non, .int 7, .str (("1/2" : String) : Str), .ref t1, .ref t2, .ref t3, .ref t4, .ref t5, .ref t6, .ref t7, .ref t8, .ref t9, .ref t10, .ref t11, .ref t12, .ref t13, .ref t14, .ref t15] ++ [.ref t17, .ref t18, .ref t19, .ref t20, .ref t22, .ref t23, .ref t24, .ref t25, .ref t0, .ref t0, .ref t27])) n29
    generalize L2.upd H28 t29 (.lst ([.non, .int 7, .str (("1/2" : String) : Str), .ref t1, .ref t2, .ref t3, .ref t4, .ref t5, .ref t6, .ref t7, .ref t8, .ref t9, .ref t10, .ref t11, .ref t12, .ref t13, .ref t14, .ref t15] ++ [.ref t17, .ref t18, .ref t19, .ref t20, .ref t22, .ref t23, .ref t24, .ref t25, .ref t0, .ref t0, .ref t27])) = H29 at s29 hd29 h29 ⊢
    have hA29 := seqT s29 hA28
    have S28 : Same H28 H29 := s29
    have S27 : Same H27 H29 := s28.trans S28
    have S26 : Same H26 H29 := s27.trans S27
    have S25 : Same H25 H29 := s26.trans S26
    have S24 : Same H24 H29 := s25.trans S25
    have S23 : Same H23 H29 := s24.trans S24
    have S22 : Same H22 H29 := s23.trans S23
    have S21 : Same H21 H29 := s22.trans S22
    have S20 : Same H20 H29 := s21.trans S21
    have S19 : Same H19 H29 := s20.trans S20
    have S18 : Same H18 H29 := s19.trans S19
    have S17 : Same H17 H29 := s18.trans S18
    have S16 : Same H16 H29 := s17.trans S17
    have S15 : Same H15 H29 := s16.trans S16
    have S14 : Same H14 H29 := s15.trans S15
    have S13 : Same H13 H29 := s14.trans S14
    have S12 : Same H12 H29 := s13.trans S13
    have S11 : Same H11 H29 := s12.trans S12
    have S10 : Same H10 H29 := s11.trans S11
    have S9 : Same H9 H29 := s10.trans S10
    have S8 : Same H8 H29 := s9.trans S9
    have S7 : Same H7 H29 := s8.trans S8
    have S6 : Same H6 H29 := s7.trans S7
    have S5 : Same H5 H29 := s6.trans S6
    have S4 : Same H4 H29 := s5.trans S5
    have S3 : Same H3 H29 := s4.trans S4
    have S2 : Same H2 H29 := s3.trans S3
    have S1 : Same H1 H29 := s2.trans S2
    have S0 : Same H0 H29 := s1.trans S1
    have g1 : (frz p q H29) t1 = some (.tup []) := frz_at (S1 _ _ h1) ne1
    have g2 : (frz p q H29) t2 = some (.tup [.int 1]) := frz_at (S2 _ _ h2) ne2
    have g3 : (frz p q H29) t3 = some (.lst [.int 1, .int 2]) := frz_at (S3 _ _ h3) ne3
    have g4 : (frz p q H29) t4 = some (.tup [.int 1, .int 2, .int 3]) := frz_at (S4 _ _ h4) ne4
    have g5 : (frz p q H29) t5 = some (.tup [.int 1, .int 0]) := frz_at (S5 _ _ h5) ne5
    have g6 : (frz p q H29) t6 = some (.tup [.int 0, .int 0]) := frz_at (S6 _ _ h6) ne6
    have g7 : (frz p q H29) t7 = some (.tup [.int 0, .int 2]) := frz_at (S7 _ _ h7) ne7
    have g8 : (frz p q H29) t8 = some (.tup [.int 0, .int 1]) := frz_at (S8 _ _ h8) ne8
    have g9 : (frz p q H29) t9 = some (.tup [.int 2, .int 4]) := frz_at (S9 _ _ h9) ne9
    have g10 : (frz p q H29) t10 = some (.tup [.int 6, .int 9]) := frz_at (S10 _ _ h10) ne10
    have g11 : (frz p q H29) t11 = some (.tup [.int 1, .int (0 - 2)]) := frz_at (S11 _ _ h11) ne11
    have g12 : (frz p q H29) t12 = some (.tup [.int (0 - 1), .int 2]) := frz_at (S12 _ _ h12) ne12
    have g13 : (frz p q H29) t13 = some (.tup [.bl true, .int 2]) := frz_at (S13 _ _ h13) ne13
    have g14 : (frz p q H29) t14 = some (.tup [.int 1, .bl true]) := frz_at (S14 _ _ h14) ne14
    have g15 : (frz p q H29) t15 = some (.tup [.str (("1" : String) : Str), .int 2]) := frz_at (S15 _ _ h15) ne15
    have g16 : (frz p q H29) t16 = some (.lst [.non, .int 7, .str (("1/2" : String) : Str), .ref t1, .ref t2, .ref t3, .ref t4, .ref t5, .ref t6, .ref t7, .ref t8, .ref t9, .ref t10, .ref t11, .ref t12, .ref t13, .ref t14, .ref t15]) := frz_at (S16 _ _ h16) ne16
    have g17 : (frz p q H29) t17 = some (.tup [.non, .int 1]) := frz_at (S17 _ _ h17) ne17
    have g18 : (frz p q H29) t18 = some (.tup [.int 1, .non]) := frz_at (S18 _ _ h18) ne18
    have g19 : (frz p q H29) t19 = some (.dK []) := frz_at (S19 _ _ h19) ne19
    have g20 : (frz p q H29) t20 = some (.lst (pV a)) := frz_at (S20 _ _ h20) ne20
    have g21 : (frz p q H29) t21 = some (.tup [.int 1]) := frz_at (S21 _ _ h21) ne21
    have g22 : (frz p q H29) t22 = some (.tup (pV a ++ [.int 1])) := frz_at (S22 _ _ h22) ne22
    have g23 : (frz p q H29) t23 = some (.tup [.int a.2, .int a.1]) := frz_at (S23 _ _ h23) ne23
    have g24 : (frz p q H29) t24 = some (.tup [.int (2 * a.1), .int (2 * a.2)]) := frz_at (S24 _ _ h24) ne24
    have g25 : (frz p q H29) t25 = some (.tup [.int a.1, .int (0 - a.2)]) := frz_at (S25 _ _ h25) ne25
    have g26 : (frz p q H29) t26 = some (.tup [.int 1, .int 2]) := frz_at (S26 _ _ h26) ne26
    have g27 : (frz p q H29) t27 = some (.tup [.ref t26, .int 1]) := frz_at (S27 _ _ h27) ne27
    have g28 : (frz p q H29) t28 = some (.lst [.ref t17, .ref t18, .ref t19, .ref t20, .ref t22, .ref t23, .ref t24, .ref t25, .ref t0, .ref t0, .ref t27]) := frz_at (S28 _ _ h28) ne28
    have g29 : (frz p q H29) t29 = some (.lst ([.non, .int 7, .str (("1/2" : String) : Str), .ref t1, .ref t2, .ref t3, .ref t4, .ref t5, .ref t6, .ref t7, .ref t8, .ref t9, .ref t10, .ref t11, .ref t12, .ref t13, .ref t14, .ref t15] ++ [.ref t17, .ref t18, .ref t19, .ref t20, .ref t22, .ref t23, .ref t24, .ref t25, .ref t0, .ref t0, .ref t27])) := frz_at h29 ne29
    have g0 : (frz p q H29) t0 = some (.tup (pV a)) := frz_at (S0 _ _ ht0) (hd0.neOf ht0 (fun ys z => by cases z))
    have bb : a.2.natAbs < 2 ^ 900 := up (n := 40) (by omega) (by decide)
    have bbx : ∀ z : Int, z.natAbs ≤ 4000000 → z.natAbs < 2 ^ 900 := fun z hz => up (n := 40) (by omega) (by decide)
    have odd1 : ∀ v ∈ ([.non, .int 7, .str (("1/2" : String) : Str), .ref t1, .ref t2, .ref t3, .ref t4, .ref t5, .ref t6, .ref t7, .ref t8, .ref t9, .ref t10, .ref t11, .ref t12, .ref t13, .ref t14, .ref t15] : List V), ∃ r, OddV K (frz p q H29) v r := (all_cons ⟨_, .inl ⟨"NoneType", .base .non, kitNT, rfl⟩⟩
      (all_cons ⟨_, .inl ⟨"int", .base (.int _), kitIT, rfl⟩⟩
      (all_cons ⟨_, .inl ⟨"str", .base (.str _), kitST, rfl⟩⟩
      (all_cons ⟨_, .inr (.inl ⟨t1, _, rfl, sqt g1, by simp, rfl⟩)⟩
      (all_cons ⟨_, .inr (.inl ⟨t2, _, rfl, sqt g2, by simp, rfl⟩)⟩
      (all_cons ⟨_, .inl ⟨"list", .base (.lst g3), kitLT, rfl⟩⟩
      (all_cons ⟨_, .inr (.inl ⟨t4, _, rfl, sqt g4, by simp, rfl⟩)⟩
      (all_cons ⟨_, .inr (.inr ⟨t5, _, _, _, _, rfl, sqt g5, .inl ⟨_, rfl, rfl⟩, .inl ⟨_, rfl, rfl⟩, rfl, fun b e => by cases e; decide⟩)⟩
      (all_cons ⟨_, .inr (.inr ⟨t6, _, _, _, _, rfl, sqt g6, .inl ⟨_, rfl, rfl⟩, .inl ⟨_, rfl, rfl⟩, rfl, fun b e => by cases e; decide⟩)⟩
      (all_cons ⟨_, .inr (.inr ⟨t7, _, _, _, _, rfl, sqt g7, .inl ⟨_, rfl, rfl⟩, .inl ⟨_, rfl, rfl⟩, rfl, fun b e => by cases e; decide⟩)⟩
      (all_cons ⟨_, .inr (.inr ⟨t8, _, _, _, _, rfl, sqt g8, .inl ⟨_, rfl, rfl⟩, .inl ⟨_, rfl, rfl⟩, rfl, fun b e => by cases e; decide⟩)⟩
      (all_cons ⟨_, .inr (.inr ⟨t9, _, _, _, _, rfl, sqt g9, .inl ⟨_, rfl, rfl⟩, .inl ⟨_, rfl, rfl⟩, rfl, fun b e => by cases e; decide⟩)⟩
      (all_cons ⟨_, .inr (.inr ⟨t10, _, _, _, _, rfl, sqt g10, .inl ⟨_, rfl, rfl⟩, .inl ⟨_, rfl, rfl⟩, rfl, fun b e => by cases e; decide⟩)⟩
      (all_cons ⟨_, .inr (.inr ⟨t11, _, _, _, _, rfl, sqt g11, .inl ⟨_, rfl, rfl⟩, .inl ⟨_, rfl, rfl⟩, rfl, fun b e => by cases e; decide⟩)⟩
      (all_cons ⟨_, .inr (.inr ⟨t12, _, _, _, _, rfl, sqt g12, .inl ⟨_, rfl, rfl⟩, .inl ⟨_, rfl, rfl⟩, rfl, fun b e => by cases e; decide⟩)⟩
      (all_cons ⟨_, .inr (.inr ⟨t13, _, _, _, _, rfl, sqt g13, .inr ⟨rfl, "bool", _, _, .base (.bl _), kitB1, kitB2, rfl⟩, .inl ⟨_, rfl, rfl⟩, rfl, fun b e => by cases e; decide⟩)⟩
      (all_cons ⟨_, .inr (.inr ⟨t14, _, _, _, _, rfl, sqt g14, .inl ⟨_, rfl, rfl⟩, .inr ⟨rfl, "bool", _, _, .base (.bl _), kitB1, kitB2, rfl⟩, rfl, fun b e => by cases e⟩)⟩
      (all_cons ⟨_, .inr (.inr ⟨t15, _, _, _, _, rfl, sqt g15, .inr ⟨rfl, "str", _, _, .base (.str _), kitS1, kitS2, rfl⟩, .inl ⟨_, rfl, rfl⟩, rfl, fun b e => by cases e; decide⟩)⟩
      all_nil))))))))))))))))))
    have odd2 : ∀ v ∈ ([.ref t17, .ref t18, .ref t19, .ref t20, .ref t22, .ref t23, .ref t24, .ref t25, .ref t0, .ref t0, .ref t27] : List V), ∃ r, OddV K (frz p q H29) v r := (all_cons ⟨_, .inr (.inr ⟨t17, _, _, _, _, rfl, sqt g17, .inr ⟨rfl, "NoneType", _, _, .base .non, kitN1, kitN2, rfl⟩, .inl ⟨_, rfl, rfl⟩, rfl, fun b e => by cases e; decide⟩)⟩
      (all_cons ⟨_, .inr (.inr ⟨t18, _, _, _, _, rfl, sqt g18, .inl ⟨_, rfl, rfl⟩, .inr ⟨rfl, "NoneType", _, _, .base .non, kitN1, kitN2, rfl⟩, rfl, fun b e => by cases e⟩)⟩
      (all_cons ⟨_, .inl ⟨"dict", .base (.dK g19), kitDT, rfl⟩⟩
      (all_cons ⟨_, .inl ⟨"list", .base (.lst g20), kitLT, rfl⟩⟩
      (all_cons ⟨_, .inr (.inl ⟨t22, _, rfl, sqt g22, by simp [pV], rfl⟩)⟩
      (all_cons ⟨_, .inr (.inr ⟨t23, _, _, _, _, rfl, sqt g23, .inl ⟨_, rfl, rfl⟩, .inl ⟨_, rfl, rfl⟩, rfl, fun b e => by cases e; exact bbx _ (by omega)⟩)⟩
      (all_cons ⟨_, .inr (.inr ⟨t24, _, _, _, _, rfl, sqt g24, .inl ⟨_, rfl, rfl⟩, .inl ⟨_, rfl, rfl⟩, rfl, fun b e => by cases e; exact bbx _ (by omega)⟩)⟩
      (all_cons ⟨_, .inr (.inr ⟨t25, _, _, _, _, rfl, sqt g25, .inl ⟨_, rfl, rfl⟩, .inl ⟨_, rfl, rfl⟩, rfl, fun b e => by cases e; exact bbx _ (by omega)⟩)⟩
      (all_cons ⟨_, .inr (.inr ⟨t0, _, _, some a.1, some a.2, rfl, sqt g0, .inl ⟨_, rfl, rfl⟩, .inl ⟨_, rfl, rfl⟩, rfl, fun b e => by cases e; exact bb⟩)⟩
      (all_cons ⟨_, .inr (.inr ⟨t0, _, _, some a.1, some a.2, rfl, sqt g0, .inl ⟨_, rfl, rfl⟩, .inl ⟨_, rfl, rfl⟩, rfl, fun b e => by cases e; exact bb⟩)⟩
      (all_cons ⟨_, .inr (.inr ⟨t27, _, _, _, _, rfl, sqt g27, .inr ⟨rfl, "tuple", _, _, .base (.tup g26), kitT1, kitT2, rfl⟩, .inl ⟨_, rfl, rfl⟩, rfl, fun b e => by cases e; decide⟩)⟩
      all_nil)))))))))))
    have odd : ∀ v ∈ ([.non, .int 7, .str (("1/2" : String) : Str), .ref t1, .ref t2, .ref t3, .ref t4, .ref t5, .ref t6, .ref t7, .ref t8, .ref t9, .ref t10, .ref t11, .ref t12, .ref t13, .ref t14, .ref t15] ++ [.ref t17, .ref t18, .ref t19, .ref t20, .ref t22, .ref t23, .ref t24, .ref t25, .ref t0, .ref t0, .ref t27] : List V), ∃ r, OddV K (frz p q H29) v r := fun v hv => (List.mem_append.mp hv).elim (odd1 v) (odd2 v)
    have ne : ([.non, .int 7, .str (("1/2" : String) : Str), .ref t1, .ref t2, .ref t3, .ref t4, .ref t5, .ref t6, .ref t7, .ref t8, .ref t9, .ref t10, .ref t11, .ref t12, .ref t13, .ref t14, .ref t15] ++ [.ref t17, .ref t18, .ref t19, .ref t20, .ref t22, .ref t23, .ref t24, .ref t25, .ref t0, .ref t0, .ref t27] : List V) ≠ [] := by simp
    have ln : ([.non, .int 7, .str (("1/2" : String) : Str), .ref t1, .ref t2, .ref t3, .ref t4, .ref t5, .ref t6, .ref t7, .ref t8, .ref t9, .ref t10, .ref t11, .ref t12, .ref t13, .ref t14, .ref t15] ++ [.ref t17, .ref t18, .ref t19, .ref t20, .ref t22, .ref t23, .ref t24, .ref t25, .ref t0, .ref t0, .ref t27] : List V).length < 1000000 := by show 29 < 1000000; decide
    generalize ([.non, .int 7, .str (("1/2" : String) : Str), .ref t1, .ref t2, .ref t3, .ref t4, .ref t5, .ref t6, .ref t7, .ref t8, .ref t9, .ref t10, .ref t11, .ref t12, .ref t13, .ref t14, .ref t15] ++ [.ref t17, .ref t18, .ref t19, .ref t20, .ref t22, .ref t23, .ref t24, .ref t25, .ref t0, .ref t0, .ref t27] : List V) = XS at h29 odd ne ln
    have kpL : Keep p q H H29 := kp0.trans (Keep.of_same S0)
    have hdL := hd29
    have hL := h29
    have neL := ne29
    clear odd1 odd2 g0 g1 g2 g3 g4 g5 g6 g7 g8 g9 g10 g11 g12 g13 g14 g15 g16 g17 g18 g19 g20 g21 g22 g23 g24 g25 g26 g27 g28 g29
    generalize H29 = HL at odd kpL hdL hL ⊢
    generalize t29 = L at hL neL ⊢
    -- the turns
    refine ⟨fun σ H' => Hd p q H' ∧ Keep p q HL H', ?_, fun σ H' h => fin H' h.1 (kpL.trans h.2)⟩
    refine ⟨4, rfl, by decide, by decide, ?_⟩
    refine for_it walk_range (fun i σ H' => (∃ y3 y4 y5 : Option V, σ = [some (.ref p), some (.ref t0), some (.ref L), y3, y4, y5, none]) ∧ Hd p q H' ∧ Keep p q HL H') ⟨⟨_, _, _, rfl⟩, hdL, Keep.refl _ _ _⟩ (fun _ _ _ _ _ => trivial) ?_ (fun σ H' h => h.2)
    rintro i v σ Ha Hb hi ⟨⟨y3, y4, y5, rfl⟩, hda, kpa⟩ ⟨e, rfl⟩
    subst e
    refine ⟨_, rfl, _, rfl, p, q, L, XS, rfl, hda, kpa L _ neL.1 neL.2 hL, neL.1, neL.2, ne, ln, fun H1 v hd1 kp1 hv => ?_⟩
    obtain ⟨r, od0⟩ := odd v hv
    have kpb := kpa.trans kp1
    have od := od0.mono (frz_keep kpb)
    refine ⟨fun x H' => Hd p q H' ∧ Keep p q HL H' ∧ OddV K H' v r ∧ ∃ b1 : Bool, x = .bl b1 ∧ (b1 = false → r = false) ∧ (b1 = true → ∃ t a b, v = .ref t ∧ SqT K H' t [.int a, .int b] ∧ r = (decide (0 < b) && decide (M2.g a b = 1)) ∧ b.natAbs < 2 ^ 900), ?_, ?_⟩
    · rcases od with ⟨ty, t, k, er⟩ | ⟨t, xs, rfl, hS, hn, er⟩ | ⟨t, x, y, o1, o2, rfl, hS, g1, g2, er, sz⟩
      · refine ⟨_, rfl, _, _, _, _, false, rfl, .ty "tuple", t, kit_ty k, false, rfl, iteF ?_⟩
        exact ⟨hd1, kpb, .inl ⟨ty, t, k, er⟩, false, rfl, fun _ => er, fun z => by cases z⟩
      · refine ⟨_, rfl, _, _, _, _, true, rfl, .ty "tuple", tyT hS, kit_ty (by decide +kernel), true, rfl, iteT ?_⟩
        refine ⟨_, rfl, t, _, rfl, .inr hS, rfl, false, ?_, iteF ?_⟩
        · show V.bl (decide (V.int (xs.length : Int) = V.int 2)) = V.bl false
          rw [decide_eq_false (fun z => hn (by have := V.int.inj z; omega))]
        · exact ⟨hd1, kpb, .inr (.inl ⟨t, xs, rfl, hS, hn, er⟩), false, rfl, fun _ => er, fun z => by cases z⟩
      · refine ⟨_, rfl, _, _, _, _, true, rfl, .ty "tuple", tyT hS, kit_ty (by decide +kernel), true, rfl, iteT ?_⟩
        refine ⟨_, rfl, t, _, rfl, .inr hS, rfl, true, rfl, iteT ?_⟩
        refine ⟨_, rfl, t, rfl, ⟨_, hS⟩, fun D nD => ?_⟩
        have odC : OddV K H1 (.ref t) r := .inr (.inr ⟨t, x, y, o1, o2, rfl, hS, g1, g2, er, sz⟩)
        refine lc_it (walk_tup (K := K) (a := t) (xs := [x, y])) (fun i H' => Same H1 H' ∧ ∃ bs : List Bool, bs = [o1.isSome, o2.isSome].take i ∧ H' D = some (.lst (bs.map V.bl))) ⟨same_upd nD, [], rfl, upd_same⟩ (fun i H' _ h => seqT h.1 hS) ?_ ?_
        · rintro j v2 Hc Hc' hj ⟨sm, bs, ebs, hD⟩ ⟨e2, ex⟩
          have hc := e2
          subst hc
          have hv2 : ∃ o, Part K Hc' v2 o ∧ [o1.isSome, o2.isSome][j]? = some o.isSome := by
            have hj2 : j < 2 := hj
            match j, hj2, ex with
            | 0, _, ex => exact ⟨o1, (Option.some.inj ex) ▸ part_mono sm g1, rfl⟩
            | 1, _, ex => exact ⟨o2, (Option.some.inj ex) ▸ part_mono sm g2, rfl⟩
          obtain ⟨o, hp, eo⟩ := hv2
          have size : (bs.map V.bl).length < sizeLine := by
            have : sizeLine = 16777216 := by decide
            rw [List.length_map, ebs, List.length_take]
            show min j 2 < _
            omega
          have nxt : bs ++ [o.isSome] = [o1.isSome, o2.isSome].take (j + 1) := by
            rw [ebs, List.take_add_one, eo]
            rfl
          have done_ : ∀ b : Bool, b = o.isSome → Same H1 (L2.upd Hc' D (.lst (bs.map V.bl ++ [V.bl b]))) ∧ ∃ bs' : List Bool, bs' = [o1.isSome, o2.isSome].take (j + 1) ∧ (L2.upd Hc' D (.lst (bs.map V.bl ++ [V.bl b]))) D = some (.lst (bs'.map V.bl)) := by
            intro b eb
            subst eb
            refine ⟨HD.same_put sm nD, _, nxt, ?_⟩
            rw [upd_same, List.map_append]
            rfl
          rcases hp with ⟨a', rfl, rfl⟩ | ⟨rfl, ty, b1, b2, tx, k1, k2, eb⟩
          · refine ⟨rfl, _, rfl, _, _, _, _, true, rfl, .ty "int", .base (.int _), kb1, true, rfl, iteT ?_⟩
            exact ⟨_, rfl, _, _, _, _, false, rfl, .ty "bool", .base (.int _), kb2, _, rfl, _, hD, size, done_ true rfl⟩
          · refine ⟨rfl, _, rfl, _, _, _, _, b1, rfl, .ty "int", tx, kit_ty k1, b1, rfl, ?_⟩
            cases b1 with
            | false => exact iteF ⟨_, hD, size, done_ false rfl⟩
            | true =>
              have e3 : (!b2) = false := eb
              refine iteT ⟨_, rfl, _, _, _, _, b2, rfl, .ty "bool", tx, kit_ty k2, _, rfl, ?_⟩
              rw [e3]
              exact ⟨_, hD, size, done_ false rfl⟩
        · rintro Hc ⟨sm, bs, ebs, hD⟩
          refine ⟨D, bs, rfl, .inl (.inl hD), ?_⟩
          refine ⟨hd1.same sm, kpb.trans (Keep.of_same sm), odC.mono sm, _, rfl, ?_, ?_⟩
          · intro z
            rw [ebs] at z
            have z2 : (o1.isSome && (o2.isSome && true)) = false := z
            rw [er]
            cases o1 with
            | none => rfl
            | some a' =>
              cases o2 with
              | none => rfl
              | some b' => cases z2
          · intro z
            rw [ebs] at z
            have z2 : (o1.isSome && (o2.isSome && true)) = true := z
            rcases g1 with ⟨a', rfl, rfl⟩ | ⟨rfl, _⟩
            · rcases g2 with ⟨b', rfl, rfl⟩ | ⟨rfl, _⟩
              · exact ⟨t, a', b', rfl, seqT sm hS, er, sz b' rfl⟩
              · cases z2
            · cases z2
    rintro x H2 ⟨hd2, kp2, od2, b1, rfl, f1, f2⟩
    -- the second
    refine ⟨fun x H' => H' = H2 ∧ x = .bl r, ?_, ?_⟩
    · cases b1 with
      | false =>
        refine ⟨_, rfl, false, rfl, iteF ⟨rfl, ?_⟩⟩
        rw [f1 rfl]
      | true =>
        obtain ⟨t, a', b', rfl, hS, er, sz⟩ := f2 rfl
        refine ⟨_, rfl, true, rfl, iteT ?_⟩
        refine ⟨_, rfl, t, _, _, _, rfl, rfl, hS, at1 _ _, _, _, rfl, rfl, _, rfl, ite2 (fun z => ?_) (fun z => ?_)⟩
        · have hb : 0 < b' := of_decide_eq_true z
          refine ⟨_, rfl, t, _, _, _, rfl, rfl, hS, at0 _ _, _, rfl, _, rfl, t, _, _, _, rfl, rfl, hS, at1 _ _, a'.natAbs, b'.natAbs, ?_, sz, rfl, ?_⟩
          · have e1 : (if a' < 0 then -a' else a') = (a'.natAbs : Int) := by
              split <;> omega
            have e2 : b' = (b'.natAbs : Int) := by omega
            show [V.int (if a' < 0 then -a' else a'), V.int b'] ++ [] = _
            rw [e1, ← e2]
            rfl
          · rw [er, decide_eq_true hb]
            rfl
        · have hb : ¬ 0 < b' := fun y => z (decide_eq_true y)
          refine ⟨rfl, ?_⟩
          rw [er, decide_eq_false hb]
          rfl
    rintro x H3 ⟨rfl, rfl⟩
    refine ⟨fun x H' => x = .bl r ∧ H' = H3, ⟨_, rfl, v, rfl, isFr_of (Q := fun x H' => x = .bl r ∧ H' = H3) od2 ⟨rfl, rfl⟩⟩, ?_⟩
    rintro x Hz ⟨rfl, rfl⟩
    refine ⟨_, rfl, _, rfl, _, rfl, rfl, _, rfl, iteNe rfl ?_⟩
    refine ⟨fun x H' => x = .bl r ∧ H' = Hz, ⟨_, rfl, v, rfl, isFr_of (Q := fun x H' => x = .bl r ∧ H' = Hz) od2 ⟨rfl, rfl⟩⟩, ?_⟩
    rintro x Hy ⟨rfl, rfl⟩
    refine ⟨_, rfl, rfl, _, rfl, iteNe rfl ?_⟩
    exact ⟨⟨_, _, _, rfl⟩, hd2, kp2⟩
end
end K2


namespace FR
open PySem PySem.Spec PyProof.Rows L2 VG HD
theorem put1 {t : Addr} {H : Hp} {o : HO} (n : H t = none) : Same H (L2.upd H t o) ∧ L2.upd H t o t = some o := ⟨same_upd n, upd_same⟩
def spLaw (K : PySem.W.Frag) : Sp := fun vs H Q _ => ∃ (a : Addr) (ns : List Int), vs = [.ref a] ∧ SqL K H a (ns.map V.int) ∧ ns.length ≤ 63 ∧ ∀ H', Q (.bl true) H'
end FR
namespace K2
open PySem PySem.Spec PyProof.Rows L2 VG FR HD
abbrev s_law : Stmt := topS 39
abbrev N_law : List Str := ["script", "heap", "turn", "top"]
theorem sc_law : FnScope N_law ["script"] (defScope s_law) := ⟨rfl, rfl, rfl, by decide +kernel, rfl, by decide +kernel, by decide +kernel⟩
section
variable {P : Program} {w : World} {K : PySem.W.Frag} {mg : Str → Option Value} {base : Heap}
theorem ok_law {f C : Addr} {fd : FuncData} (F : Fun K "law" "law" s_law f fd) (C__law_heap : Cl P w K mg base 1 "_law_heap" (spHeap K)) (C__law_made_right : Cl P w K mg base 4 "_law_made_right" spRight)
    (G__law_two_right : ClG P w K mg base 5 "_law_two_right" spRight) (G__law_one_right : ClG P w K mg base 5 "_law_one_right" spRight) (G__law_many_right : ClG P w K mg base 6 "_law_many_right" spRight) (C__law_odd_right : Cl P w K mg base 5 "_law_odd_right" spRight)
    (C__law_bottom_refused : Cl P w K mg base 4 "_law_bottom_refused" spRefused)
    (C_fraction_of : Cl P w K mg base 3 "fraction_of" (fun vs H Q _ => spFrac C vs H Q E0)) (C_added : Cl P w K mg base 1 "added" (spAdd K)) (C_weighed : Cl P w K mg base 5 "weighed" (spWeighed K)) (C_floor_of : Cl P w K mg base 1 "floor_of" (spFloor K))
    (C_ceiling_of : Cl P w K mg base 1 "ceiling_of" (spCeil K)) (C_part_of : Cl P w K mg base 2 "part_of" (spPart K)) (C_sum_of : Cl P w K mg base 2 "sum_of" (spSum K)) (C_is_small : Cl P w K mg base 1 "is_small" (spSmall K))
    (C_least_of : Cl P w K mg base 2 "least_of" (spBest K lessQ)) (C_greatest_of : Cl P w K mg base 2 "greatest_of" (spBest K gtQ)) (C_is_fraction : Cl P w K mg base 2 "is_fraction" (spIsFr K))
    (z_range : mg "range" = none) (z_int : mg "int" = none) (z_len : mg "len" = none) (z_all : mg "all" = none) : FnG P w K mg base 7 f fd ["script"] (spLaw K) := by
  refine fnG_of F sc_law (fun vs H Q E h => ?_) (fun cdv A outer s H vs Q E hg hr h => ?_)
  · obtain ⟨a, ns, rfl, _⟩ := h
    rfl
  · obtain ⟨a, ns, rfl, hS, hn, fin⟩ := h
    refine ⟨_, (pss_cons (ps_set (i := 1) sc_law.nd rfl (.inl rfl) (pe_cl C__law_heap hr (by decide) rfl (pa_cons (pv 0) pa_nil)))
    (pss_cut (ps_for PassesOwn.never rfl (pi_range1 (by rfl) z_range (pa_cons (pe_op op_add pe_int (pe_op op_mulW pe_int (pe_callTy call_int1 (by rfl) z_int (by decide +kernel) (pa_cons (pe_cmpR op_gt (pe_callB call_len_seq (by rfl) z_len (by decide +kernel) (pa_cons (pv 0) pa_nil)) pe_int (nomark _)) pa_nil)))) pa_nil)) (pg_name (i := 2) sc_law.nd rfl (.inl rfl))
      (pss_one (ps_if (PW.pt (pw_or (pt_not (pt_val (pe_cl C__law_made_right hr (by decide) rfl (pa_cons (pv 1) pa_nil)))) (pw_or (pt_not (pt_val (pe_clg G__law_two_right hg hr (by decide) rfl (pa_cons (pv 1) pa_nil)))) (pw_or1 (pt_not (pt_val (pe_clg G__law_one_right hg hr (by decide) rfl (pa_cons (pv 1) pa_nil))))))))
        (pss_one (ps_ret pe_bl))
        pss_nil)))
    (pss_cons (ps_if (PW.pt (pw_or (pt_not (pt_val (pe_clg G__law_many_right hg hr (by decide) rfl (pa_cons (pv 1) pa_nil)))) (pw_or (pt_not (pt_val (pe_clg G__law_many_right hg hr (by decide) rfl (pa_cons (pv 1) pa_nil)))) (pw_or1 (pt_not (pt_val (pe_cl C__law_odd_right hr (by decide) rfl (pa_cons (pv 1) pa_nil))))))))
      (pss_one (ps_ret pe_bl))
      pss_nil)
    (pss_cons (ps_if (PW.pt (pw_or (pt_cmpR (op_neD hr.units) (pe_cl C_fraction_of hr (by decide) rfl (pa_cons pe_int (pa_cons (pe_op op_sub pe_int pe_int) pa_nil))) (pe_tup (pa_cons (pe_op op_sub pe_int pe_int) (pa_cons pe_int pa_nil))) (nomark _)) (pw_or (pt_cmpR (op_neD hr.units) (pe_cl C_added hr (by decide) rfl (pa_cons (pe_tup (pa_cons pe_int (pa_cons pe_int pa_nil))) (pa_cons (pe_tup (pa_cons pe_int (pa_cons pe_int pa_nil))) pa_nil))) (pe_tup (pa_cons pe_int (pa_cons pe_int pa_nil))) (nomark _)) (pw_or1 (pt_cmpR (op_neD hr.units) (pe_cl C_weighed hr (by decide) rfl (pa_cons (pe_tup (pa_cons pe_int (pa_cons (pe_op op_sub pe_int pe_int) pa_nil))) (pa_cons (pe_tup (pa_cons (pe_tup (pa_cons pe_int (pa_cons pe_int pa_nil))) (pa_cons (pe_tup (pa_cons pe_int (pa_cons pe_int pa_nil))) pa_nil))) pa_nil))) (pe_tup (pa_cons pe_int (pa_cons pe_int pa_nil))) (nomark _))))))
      (pss_one (ps_ret pe_bl))
      pss_nil)
    (pss_cons (ps_if (PW.pt (pw_or (pt_cmpR op_ne (pe_cl C_floor_of hr (by decide) rfl (pa_cons (pe_tup (pa_cons (pe_op op_sub pe_int pe_int) (pa_cons pe_int pa_nil))) pa_nil)) (pe_op op_sub pe_int pe_int) (nomark _)) (pw_or (pt_cmpR op_ne (pe_cl C_ceiling_of hr (by decide) rfl (pa_cons (pe_tup (pa_cons (pe_op op_sub pe_int pe_int) (pa_cons pe_int pa_nil))) pa_nil)) (pe_op op_sub pe_int pe_int) (nomark _)) (pw_or (pt_cmpR (op_neD hr.units) (pe_cl C_part_of hr (by decide) rfl (pa_cons (pe_tup (pa_cons (pe_op op_sub pe_int pe_int) (pa_cons pe_int pa_nil))) pa_nil)) (pe_tup (pa_cons pe_int (pa_cons pe_int pa_nil))) (nomark _)) (pw_or (pt_cmpR (op_neD hr.units) (pe_cl C_part_of hr (by decide) rfl (pa_cons (pe_tup (pa_cons pe_int (pa_cons pe_int pa_nil))) pa_nil)) (pe_tup (pa_cons pe_int (pa_cons pe_int pa_nil))) (nomark _)) (pw_or1 (pt_cmpR op_ne (pe_cl C_ceiling_of hr (by decide) rfl (pa_cons (pe_tup (pa_cons pe_int (pa_cons pe_int pa_nil))) pa_nil)) pe_int (nomark _))))))))
      (pss_one (ps_ret pe_bl))
      pss_nil)
    (pss_cons (ps_if (pt_not (pt_val (pe_callB (cr_all rfl) (by rfl) z_all (by decide +kernel) (pa_cons (pe_lc (own := [("top", 3)]) (by rfl) sc_law.nd (pi_list (pe_lst (pa_cons pe_int (pa_cons (pe_op op_sub pe_int pe_int) (pa_cons (pe_op op_pow pe_int pe_int) pa_nil))))) (blkOk_by (own := [("top", 3)]) (N := N_law) (sc := defScope s_law) (by decide +kernel)) (fun _ _ _ _ _ => (pg_name (i := 3) sc_law.nd rfl (.inl rfl))) (fun _ _ _ _ _ => pts_nil) (fun _ _ _ _ _ => (pe_cl C__law_bottom_refused hr (by decide) rfl (pa_cons (pv 3) pa_nil)))) pa_nil))))
      (pss_one (ps_ret pe_bl))
      pss_nil)
    (pss_cons (ps_if (PW.pt (pw_or (pt_cmpR (op_neD hr.units) (pe_cl C_sum_of hr (by decide) rfl (pa_cons (pe_tup pa_nil) pa_nil)) (pe_tup (pa_cons pe_int (pa_cons pe_int pa_nil))) (nomark _)) (pw_or (pt_cmpR (op_neD hr.units) (pe_cl C_fraction_of hr (by decide) rfl (pa_cons pe_int (pa_cons (pe_op op_sub pe_int pe_int) pa_nil))) (pe_tup (pa_cons pe_int (pa_cons pe_int pa_nil))) (nomark _)) (pw_or (pt_cmpR op_notBl (pe_cl C_is_small hr (by decide) rfl (pa_cons (pe_tup (pa_cons pe_int (pa_cons pe_int pa_nil))) pa_nil)) pe_bl (nomark _)) (pw_or (pt_cmpR op_notBl (pe_cl C_is_small hr (by decide) rfl (pa_cons (pe_tup (pa_cons (pe_op op_sub pe_int pe_int) (pa_cons pe_int pa_nil))) pa_nil)) pe_bl (nomark _)) (pw_or1 (pt_not (pt_val (pe_cl C_is_small hr (by decide) rfl (pa_cons (pe_tup (pa_cons (pe_op op_sub pe_int pe_int) (pa_cons pe_int pa_nil))) pa_nil))))))))))
      (pss_one (ps_ret pe_bl))
      pss_nil)
    (pss_one (ps_ret (pe_and (pe_cmpR (op_eqD hr.units) (pe_cl C_least_of hr (by decide) rfl (pa_cons (pe_tup (pa_cons (pe_tup (pa_cons pe_int (pa_cons pe_int pa_nil))) (pa_cons (pe_tup (pa_cons pe_int (pa_cons pe_int pa_nil))) (pa_cons (pe_tup (pa_cons pe_int (pa_cons pe_int pa_nil))) pa_nil)))) pa_nil)) (pe_tup (pa_cons pe_int (pa_cons pe_int pa_nil))) (nomark _)) (pe_and (pe_cmpR (op_eqD hr.units) (pe_cl C_greatest_of hr (by decide) rfl (pa_cons (pe_tup (pa_cons (pe_tup (pa_cons pe_int (pa_cons pe_int pa_nil))) (pa_cons (pe_tup (pa_cons pe_int (pa_cons pe_int pa_nil))) (pa_cons (pe_tup (pa_cons (pe_op op_sub pe_int pe_int) (pa_cons pe_int pa_nil))) pa_nil)))) pa_nil)) (pe_tup (pa_cons pe_int (pa_cons pe_int pa_nil))) (nomark _)) (pe_and (pe_cl C_is_fraction hr (by decide) rfl (pa_cons (pe_tup (pa_cons (pe_op op_sub pe_int pe_int) (pa_cons pe_int pa_nil))) pa_nil)) (pe_one (pe_not (pe_cl C_is_fraction hr (by decide) rfl (pa_cons (pe_tup (pa_cons pe_int (pa_cons pe_int pa_nil))) pa_nil)))))))))))))))), ?_⟩
    refine ⟨_, rfl, a, ns, rfl, hS, hn, fun Hh p q hd sm => ?_⟩
    have hS1 := sm.seq hS
    refine ⟨fun σ H' => (∃ y2 : Option V, σ = [some (.ref a), some (.ref p), y2, none]) ∧ Hd p q H', ?_, ?_⟩
    · refine ⟨_, rfl, a, _, rfl, .inl hS1, _, _, rfl, rfl, .inr ⟨_, rfl, _, _, rfl, rfl, mulW (up (n := 40) (by decide) (by decide)) (up (n := 40) ?_ (by decide)), _, _, rfl, rfl, _, rfl, ?_, ?_, ?_⟩⟩
      · split <;> decide
      · split <;> decide
      · split <;> decide
      refine for_it walk_range (fun i σ H' => (∃ y2 : Option V, σ = [some (.ref a), some (.ref p), y2, none]) ∧ Hd p q H') ⟨⟨_, rfl⟩, hd⟩ (fun _ _ _ _ _ => trivial) ?_ (fun _ _ h => h)
      rintro i x σ Ha Hb hi ⟨⟨y2, rfl⟩, hda⟩ ⟨e, rfl⟩
      subst e
      refine ⟨_, rfl, p, q, rfl, hda, fun H2 hd2 _ => ⟨true, rfl, iteF ?_⟩⟩
      refine ⟨_, rfl, p, q, rfl, hd2, fun H3 hd3 _ => ⟨true, rfl, iteF ?_⟩⟩
      refine ⟨_, rfl, p, q, rfl, hd3, fun H4 hd4 _ => ⟨true, rfl, iteF ?_⟩⟩
      exact ⟨⟨_, rfl⟩, hd4⟩
    rintro σ Ha ⟨⟨y2, rfl⟩, hda⟩
    refine ⟨_, rfl, p, q, rfl, hda, fun H2 hd2 _ => ⟨true, rfl, iteF ?_⟩⟩
    refine ⟨_, rfl, p, q, rfl, hd2, fun H3 hd3 _ => ⟨true, rfl, iteF ?_⟩⟩
    refine ⟨_, rfl, p, q, rfl, hd3, fun H0 hd0 _ => ⟨true, rfl, iteF ?_⟩⟩
    refine ⟨_, _, rfl, rfl, 6, 0 - 4, rfl, by decide, by decide, fun _ => (fun H1 t1 s1 _ h1 => ?_), (fun z => absurd z (by decide))⟩
    rw [show pV (M2.mk 6 (0 - 4)) = pV (-3, 2) from by decide +kernel] at h1
    refine ⟨_, _, rfl, rfl, by show 2 ≤ sizeLine; decide, fun t2 n2 => ?_⟩
    obtain ⟨s2, h2⟩ := put1 (o := .tup [.int (0 - 3), .int (2)]) n2
    generalize L2.upd H1 t2 (.tup [.int (0 - 3), .int (2)]) = H2 at s2 h2 ⊢
    rw [show (0 : Int) - 3 = -3 from by decide] at h2
    refine ⟨dQ ((-3, 2) : Q2), dQ ((-3, 2) : Q2), dpQ (sqt (s2 _ _ (h1))), dpQ (sqt (h2)), shQ _, shQ _, _, rfl, ?_⟩
    rw [eqQ_self]
    refine iteF ?_
    refine ⟨by show 2 ≤ sizeLine; decide, fun t3 n3 => ?_⟩
    obtain ⟨s3, h3⟩ := put1 (o := .tup [.int (1), .int (2)]) n3
    generalize L2.upd H2 t3 (.tup [.int (1), .int (2)]) = H3 at s3 h3 ⊢
    refine ⟨by show 2 ≤ sizeLine; decide, fun t4 n4 => ?_⟩
    obtain ⟨s4, h4⟩ := put1 (o := .tup [.int (1), .int (6)]) n4
    generalize L2.upd H3 t4 (.tup [.int (1), .int (6)]) = H4 at s4 h4 ⊢
    refine ⟨t3, t4, (1, 2), (1, 6), rfl, sqt (s4 _ _ (h3)), sqt (h4), ⟨by decide, by decide +kernel⟩, ⟨by decide, by decide +kernel⟩, (by unfold Bt; decide), (by unfold Bt; decide), fun H5 t5 s5 _ h5 => ?_⟩
    rw [show pV (M2.add (1, 2) (1, 6)) = pV (2, 3) from by decide +kernel] at h5
    refine ⟨by show 2 ≤ sizeLine; decide, fun t6 n6 => ?_⟩
    obtain ⟨s6, h6⟩ := put1 (o := .tup [.int (2), .int (3)]) n6
    generalize L2.upd H5 t6 (.tup [.int (2), .int (3)]) = H6 at s6 h6 ⊢
    refine ⟨dQ ((2, 3) : Q2), dQ ((2, 3) : Q2), dpQ (sqt (s6 _ _ (h5))), dpQ (sqt (h6)), shQ _, shQ _, _, rfl, ?_⟩
    rw [eqQ_self]
    refine iteF ?_
    refine ⟨_, _, rfl, rfl, by show 2 ≤ sizeLine; decide, fun t7 n7 => ?_⟩
    obtain ⟨s7, h7⟩ := put1 (o := .tup [.int 2, .int (0 - 1)]) n7
    generalize L2.upd H6 t7 (.tup [.int 2, .int (0 - 1)]) = H7 at s7 h7 ⊢
    refine ⟨by show 2 ≤ sizeLine; decide, fun t8 n8 => ?_⟩
    obtain ⟨s8, h8⟩ := put1 (o := .tup [.int (1), .int (2)]) n8
    generalize L2.upd H7 t8 (.tup [.int (1), .int (2)]) = H8 at s8 h8 ⊢
    refine ⟨by show 2 ≤ sizeLine; decide, fun t9 n9 => ?_⟩
    obtain ⟨s9, h9⟩ := put1 (o := .tup [.int (1), .int (3)]) n9
    generalize L2.upd H8 t9 (.tup [.int (1), .int (3)]) = H9 at s9 h9 ⊢
    refine ⟨by show 2 ≤ sizeLine; decide, fun t10 n10 => ?_⟩
    obtain ⟨s10, h10⟩ := put1 (o := .tup [.ref t8, .ref t9]) n10
    generalize L2.upd H9 t10 (.tup [.ref t8, .ref t9]) = H10 at s10 h10 ⊢
    have ws24 : ∀ c ∈ ([2, 0 - 1] : List Int), c.natAbs < 2 ^ 24 := by decide
    have ps21 : ∀ c ∈ ([(1, 2), (1, 3)] : List Q2), M2.Low c.1 c.2 ∧ Bt 21 c := by
      intro c hc
      rcases List.mem_cons.mp hc with z | z
      · subst z; exact ⟨⟨by decide, by decide +kernel⟩, (by unfold Bt; decide)⟩
      · have z : c = (1, 3) := List.mem_singleton.mp z
        subst z; exact ⟨⟨by decide, by decide +kernel⟩, (by unfold Bt; decide)⟩
    refine ⟨t7, t10, [2, 0 - 1], _, [(1, 2), (1, 3)], rfl, sqt (s10 _ _ (s9 _ _ (s8 _ _ (h7)))), sqt (h10), ⟨⟨_, rfl, sqt (s10 _ _ (s9 _ _ (h8)))⟩, ⟨_, rfl, sqt (s10 _ _ (h9))⟩, trivial⟩, by decide, rfl, ws24, ps21, fun H11 t11 s11 h11 => ?_⟩
    rw [show pV (sumQ (weighQ [2, 0 - 1] [(1, 2), (1, 3)])) = pV (2, 3) from by decide +kernel] at h11
    refine ⟨by show 2 ≤ sizeLine; decide, fun t12 n12 => ?_⟩
    obtain ⟨s12, h12⟩ := put1 (o := .tup [.int (2), .int (3)]) n12
    generalize L2.upd H11 t12 (.tup [.int (2), .int (3)]) = H12 at s12 h12 ⊢
    refine ⟨dQ (2, 3), dQ (2, 3), dpQ (seqT s12 h11), dpQ (sqt (h12)), shQ _, shQ _, _, rfl, ?_⟩
    rw [eqQ_self]
    refine iteF ?_
    refine ⟨_, _, rfl, rfl, by show 2 ≤ sizeLine; decide, fun t13 n13 => ?_⟩
    obtain ⟨s13, h13⟩ := put1 (o := .tup [.int (0 - 7), .int (3)]) n13
    generalize L2.upd H12 t13 (.tup [.int (0 - 7), .int (3)]) = H13 at s13 h13 ⊢
    rw [show (0 : Int) - 7 = -7 from by decide] at h13
    refine ⟨t13, ((-7, 3) : Q2), rfl, sqt (h13), by decide, (by unfold Bt; decide), _, _, rfl, rfl, rfl, _, rfl, iteNe rfl ?_⟩
    refine ⟨_, _, rfl, rfl, by show 2 ≤ sizeLine; decide, fun t14 n14 => ?_⟩
    obtain ⟨s14, h14⟩ := put1 (o := .tup [.int (0 - 7), .int (3)]) n14
    generalize L2.upd H13 t14 (.tup [.int (0 - 7), .int (3)]) = H14 at s14 h14 ⊢
    rw [show (0 : Int) - 7 = -7 from by decide] at h14
    refine ⟨t14, ((-7, 3) : Q2), rfl, sqt (h14), by decide, (by unfold Bt; decide), _, _, rfl, rfl, rfl, _, rfl, iteNe rfl ?_⟩
    refine ⟨_, _, rfl, rfl, by show 2 ≤ sizeLine; decide, fun t15 n15 => ?_⟩
    obtain ⟨s15, h15⟩ := put1 (o := .tup [.int (0 - 7), .int (3)]) n15
    generalize L2.upd H14 t15 (.tup [.int (0 - 7), .int (3)]) = H15 at s15 h15 ⊢
    rw [show (0 : Int) - 7 = -7 from by decide] at h15
    refine ⟨t15, ((-7, 3) : Q2), rfl, sqt (h15), by decide, (by unfold Bt; decide), fun H16 t16 s16 _ h16 => ?_⟩
    rw [show pV (partQ ((-7, 3) : Q2)) = pV ((2, 3) : Q2) from by decide +kernel] at h16
    refine ⟨by show 2 ≤ sizeLine; decide, fun t17 n17 => ?_⟩
    obtain ⟨s17, h17⟩ := put1 (o := .tup [.int (2), .int (3)]) n17
    generalize L2.upd H16 t17 (.tup [.int (2), .int (3)]) = H17 at s17 h17 ⊢
    refine ⟨dQ ((2, 3) : Q2), dQ ((2, 3) : Q2), dpQ (sqt (s17 _ _ (h16))), dpQ (sqt (h17)), shQ _, shQ _, _, rfl, ?_⟩
    rw [eqQ_self]
    refine iteF ?_
    refine ⟨by show 2 ≤ sizeLine; decide, fun t18 n18 => ?_⟩
    obtain ⟨s18, h18⟩ := put1 (o := .tup [.int (4), .int (1)]) n18
    generalize L2.upd H17 t18 (.tup [.int (4), .int (1)]) = H18 at s18 h18 ⊢
    refine ⟨t18, ((4, 1) : Q2), rfl, sqt (h18), by decide, (by unfold Bt; decide), fun H19 t19 s19 _ h19 => ?_⟩
    rw [show pV (partQ ((4, 1) : Q2)) = pV ((0, 1) : Q2) from by decide +kernel] at h19
    refine ⟨by show 2 ≤ sizeLine; decide, fun t20 n20 => ?_⟩
    obtain ⟨s20, h20⟩ := put1 (o := .tup [.int (0), .int (1)]) n20
    generalize L2.upd H19 t20 (.tup [.int (0), .int (1)]) = H20 at s20 h20 ⊢
    refine ⟨dQ ((0, 1) : Q2), dQ ((0, 1) : Q2), dpQ (sqt (s20 _ _ (h19))), dpQ (sqt (h20)), shQ _, shQ _, _, rfl, ?_⟩
    rw [eqQ_self]
    refine iteF ?_
    refine ⟨by show 2 ≤ sizeLine; decide, fun t21 n21 => ?_⟩
    obtain ⟨s21, h21⟩ := put1 (o := .tup [.int (4), .int (1)]) n21
    generalize L2.upd H20 t21 (.tup [.int (4), .int (1)]) = H21 at s21 h21 ⊢
    refine ⟨t21, ((4, 1) : Q2), rfl, sqt (h21), by decide, (by unfold Bt; decide), rfl, _, rfl, iteNe rfl ?_⟩
    refine ⟨_, _, rfl, rfl, _, _, rfl, rfl, ⟨by decide, by decide, by decide⟩, by show 3 ≤ sizeLine; decide, fun l nl => ?_⟩
    obtain ⟨sl, hl⟩ := put1 (o := .lst [.int 0, .int (0 - 5), .int (10 ^ (6 : Int).toNat)]) nl
    generalize L2.upd H21 l (.lst [.int 0, .int (0 - 5), .int (10 ^ (6 : Int).toNat)]) = Hl at sl hl ⊢
    refine ⟨l, rfl, ⟨_, .inl (.inl hl)⟩, fun D nD => ?_⟩
    refine lc_it (walk_list (K := K) (a := l) (xs := [.int 0, .int (0 - 5), .int (10 ^ (6 : Int).toNat)])) (fun i H' => Same Hl H' ∧ ∃ bs : List Bool, bs.length = i ∧ bs.all id = true ∧ H' D = some (.lst (bs.map V.bl))) ⟨same_upd nD, [], rfl, rfl, upd_same⟩ (fun i H' _ h => .inl (.inl (h.1 _ _ hl))) ?_ ?_
    · rintro j x Ha Hb hj ⟨sm, bs, el, ea, hD⟩ ⟨e, ex⟩
      subst e
      have hx : ∃ n : Int, x = .int n ∧ n.natAbs < 2 ^ 8000 := by
        have hj2 : j < 3 := hj
        match j, hj2, ex with
        | 0, _, ex => exact ⟨_, (Option.some.inj ex).symm, by decide⟩
        | 1, _, ex => exact ⟨_, (Option.some.inj ex).symm, by decide⟩
        | 2, _, ex => exact ⟨_, (Option.some.inj ex).symm, by decide⟩
      obtain ⟨n, rfl, hn'⟩ := hx
      refine ⟨rfl, _, rfl, n, rfl, hn', fun H' sm' => ?_⟩
      refine ⟨bs.map V.bl, sm' _ _ hD, ?_, HD.same_put (sm.trans sm') nD, bs ++ [true], by rw [List.length_append, el]; rfl, ?_, ?_⟩
      · have : sizeLine = 16777216 := by decide
        have hj2 : j < 3 := hj
        rw [List.length_map]
        omega
      · rw [List.all_append, ea]
        rfl
      · rw [upd_same, List.map_append]
        rfl
    rintro H22 ⟨s22, bs, el, ea, hD⟩
    refine ⟨D, bs, rfl, .inl (.inl hD), true, by rw [ea], iteF ?_⟩
    refine ⟨by show 0 ≤ sizeLine; decide, fun t23 n23 => ?_⟩
    obtain ⟨s23, h23⟩ := put1 (o := .tup []) n23
    generalize L2.upd H22 t23 (.tup []) = H23 at s23 h23 ⊢
    refine ⟨t23, [], [], rfl, .inl (sqt (h23)), trivial, by decide, (fun c hc => by cases hc), fun H24 t24 s24 h24 => ?_⟩
    rw [show pV (sumQ []) = pV (0, 1) from by decide +kernel] at h24
    refine ⟨by show 2 ≤ sizeLine; decide, fun t25 n25 => ?_⟩
    obtain ⟨s25, h25⟩ := put1 (o := .tup [.int (0), .int (1)]) n25
    generalize L2.upd H24 t25 (.tup [.int (0), .int (1)]) = H25 at s25 h25 ⊢
    refine ⟨dQ (0, 1), dQ (0, 1), dpQ (seqT s25 h24), dpQ (sqt (h25)), shQ _, shQ _, _, rfl, ?_⟩
    rw [eqQ_self]
    refine iteF ?_
    refine ⟨_, _, rfl, rfl, 0, 0 - 5, rfl, by decide, by decide, fun _ => (fun H26 t26 s26 _ h26 => ?_), (fun z => absurd z (by decide))⟩
    rw [show pV (M2.mk 0 (0 - 5)) = pV (0, 1) from by decide +kernel] at h26
    refine ⟨by show 2 ≤ sizeLine; decide, fun t27 n27 => ?_⟩
    obtain ⟨s27, h27⟩ := put1 (o := .tup [.int (0), .int (1)]) n27
    generalize L2.upd H26 t27 (.tup [.int (0), .int (1)]) = H27 at s27 h27 ⊢
    refine ⟨dQ ((0, 1) : Q2), dQ ((0, 1) : Q2), dpQ (sqt (s27 _ _ (h26))), dpQ (sqt (h27)), shQ _, shQ _, _, rfl, ?_⟩
    rw [eqQ_self]
    refine iteF ?_
    refine ⟨by show 2 ≤ sizeLine; decide, fun t28 n28 => ?_⟩
    obtain ⟨s28, h28⟩ := put1 (o := .tup [.int (1), .int (1)]) n28
    generalize L2.upd H27 t28 (.tup [.int (1), .int (1)]) = H28 at s28 h28 ⊢
    refine ⟨t28, ((1, 1) : Q2), rfl, sqt (h28), _, _, rfl, rfl, _, rfl, ite_eq false (by decide) (iteF ?_)⟩
    refine ⟨_, _, rfl, rfl, by show 2 ≤ sizeLine; decide, fun t29 n29 => ?_⟩
    obtain ⟨s29, h29⟩ := put1 (o := .tup [.int (0 - 1), .int (1)]) n29
    generalize L2.upd H28 t29 (.tup [.int (0 - 1), .int (1)]) = H29 at s29 h29 ⊢
    rw [show (0 : Int) - 1 = -1 from by decide] at h29
    refine ⟨t29, ((-1, 1) : Q2), rfl, sqt (h29), _, _, rfl, rfl, _, rfl, ite_eq false (by decide) (iteF ?_)⟩
    refine ⟨_, _, rfl, rfl, by show 2 ≤ sizeLine; decide, fun t30 n30 => ?_⟩
    obtain ⟨s30, h30⟩ := put1 (o := .tup [.int (0 - 99), .int (100)]) n30
    generalize L2.upd H29 t30 (.tup [.int (0 - 99), .int (100)]) = H30 at s30 h30 ⊢
    rw [show (0 : Int) - 99 = -99 from by decide] at h30
    refine ⟨t30, ((-99, 100) : Q2), rfl, sqt (h30), _, rfl, ite_eq false (by decide) (iteF ?_)⟩
    refine ⟨by show 2 ≤ sizeLine; decide, fun t31 n31 => ?_⟩
    obtain ⟨s31, h31⟩ := put1 (o := .tup [.int (1), .int (2)]) n31
    generalize L2.upd H30 t31 (.tup [.int (1), .int (2)]) = H31 at s31 h31 ⊢
    refine ⟨by show 2 ≤ sizeLine; decide, fun t32 n32 => ?_⟩
    obtain ⟨s32, h32⟩ := put1 (o := .tup [.int (2), .int (3)]) n32
    generalize L2.upd H31 t32 (.tup [.int (2), .int (3)]) = H32 at s32 h32 ⊢
    refine ⟨by show 2 ≤ sizeLine; decide, fun t33 n33 => ?_⟩
    obtain ⟨s33, h33⟩ := put1 (o := .tup [.int (1), .int (3)]) n33
    generalize L2.upd H32 t33 (.tup [.int (1), .int (3)]) = H33 at s33 h33 ⊢
    refine ⟨by show 3 ≤ sizeLine; decide, fun t34 n34 => ?_⟩
    obtain ⟨s34, h34⟩ := put1 (o := .tup [.ref t31, .ref t32, .ref t33]) n34
    generalize L2.upd H33 t34 (.tup [.ref t31, .ref t32, .ref t33]) = H34 at s34 h34 ⊢
    have bs34 : ∀ c ∈ ([((1, 2) : Q2), ((2, 3) : Q2), ((1, 3) : Q2)] : List Q2), Bt 3000 c := by
      intro c hc
      have hc' : c = ((1, 2) : Q2) ∨ c = ((2, 3) : Q2) ∨ c = ((1, 3) : Q2) := by simpa using hc
      rcases hc' with z | z | z <;> subst z <;> (unfold Bt; decide)
    have e34 : bestV (bestF lessQ none (([.ref t31, .ref t32, .ref t33] : List V).zip [((1, 2) : Q2), ((2, 3) : Q2), ((1, 3) : Q2)])) = .ref t33 := rfl
    refine ⟨t34, _, [((1, 2) : Q2), ((2, 3) : Q2), ((1, 3) : Q2)], rfl, sqt (h34), ⟨⟨_, rfl, sqt (s34 _ _ (s33 _ _ (s32 _ _ (h31))))⟩, ⟨⟨_, rfl, sqt (s34 _ _ (s33 _ _ (h32)))⟩, ⟨⟨_, rfl, sqt (s34 _ _ (h33))⟩, trivial⟩⟩⟩, bs34, ?_⟩
    rw [e34]
    refine ⟨by show 2 ≤ sizeLine; decide, fun t35 n35 => ?_⟩
    obtain ⟨s35, h35⟩ := put1 (o := .tup [.int (1), .int (3)]) n35
    generalize L2.upd H34 t35 (.tup [.int (1), .int (3)]) = H35 at s35 h35 ⊢
    refine ⟨dQ ((1, 3) : Q2), dQ ((1, 3) : Q2), dpQ (sqt (s35 _ _ (s34 _ _ (h33)))), dpQ (sqt (h35)), shQ _, shQ _, true, by rw [eqQ_self], iteT ?_⟩
    refine ⟨by show 2 ≤ sizeLine; decide, fun t36 n36 => ?_⟩
    obtain ⟨s36, h36⟩ := put1 (o := .tup [.int (1), .int (3)]) n36
    generalize L2.upd H35 t36 (.tup [.int (1), .int (3)]) = H36 at s36 h36 ⊢
    refine ⟨by show 2 ≤ sizeLine; decide, fun t37 n37 => ?_⟩
    obtain ⟨s37, h37⟩ := put1 (o := .tup [.int (1), .int (2)]) n37
    generalize L2.upd H36 t37 (.tup [.int (1), .int (2)]) = H37 at s37 h37 ⊢
    refine ⟨_, _, rfl, rfl, by show 2 ≤ sizeLine; decide, fun t38 n38 => ?_⟩
    obtain ⟨s38, h38⟩ := put1 (o := .tup [.int (0 - 2), .int (1)]) n38
    generalize L2.upd H37 t38 (.tup [.int (0 - 2), .int (1)]) = H38 at s38 h38 ⊢
    rw [show (0 : Int) - 2 = -2 from by decide] at h38
    refine ⟨by show 3 ≤ sizeLine; decide, fun t39 n39 => ?_⟩
    obtain ⟨s39, h39⟩ := put1 (o := .tup [.ref t36, .ref t37, .ref t38]) n39
    generalize L2.upd H38 t39 (.tup [.ref t36, .ref t37, .ref t38]) = H39 at s39 h39 ⊢
    have bs39 : ∀ c ∈ ([((1, 3) : Q2), ((1, 2) : Q2), ((-2, 1) : Q2)] : List Q2), Bt 3000 c := by
      intro c hc
      have hc' : c = ((1, 3) : Q2) ∨ c = ((1, 2) : Q2) ∨ c = ((-2, 1) : Q2) := by simpa using hc
      rcases hc' with z | z | z <;> subst z <;> (unfold Bt; decide)
    have e39 : bestV (bestF gtQ none (([.ref t36, .ref t37, .ref t38] : List V).zip [((1, 3) : Q2), ((1, 2) : Q2), ((-2, 1) : Q2)])) = .ref t37 := rfl
    refine ⟨t39, _, [((1, 3) : Q2), ((1, 2) : Q2), ((-2, 1) : Q2)], rfl, sqt (h39), ⟨⟨_, rfl, sqt (s39 _ _ (s38 _ _ (s37 _ _ (h36))))⟩, ⟨⟨_, rfl, sqt (s39 _ _ (s38 _ _ (h37)))⟩, ⟨⟨_, rfl, sqt (s39 _ _ (h38))⟩, trivial⟩⟩⟩, bs39, ?_⟩
    rw [e39]
    refine ⟨by show 2 ≤ sizeLine; decide, fun t40 n40 => ?_⟩
    obtain ⟨s40, h40⟩ := put1 (o := .tup [.int (1), .int (2)]) n40
    generalize L2.upd H39 t40 (.tup [.int (1), .int (2)]) = H40 at s40 h40 ⊢
    refine ⟨dQ ((1, 2) : Q2), dQ ((1, 2) : Q2), dpQ (sqt (s40 _ _ (s39 _ _ (s38 _ _ (h37))))), dpQ (sqt (h40)), shQ _, shQ _, true, by rw [eqQ_self], iteT ?_⟩
    refine ⟨_, _, rfl, rfl, by show 2 ≤ sizeLine; decide, fun t41 n41 => ?_⟩
    obtain ⟨s41, h41⟩ := put1 (o := .tup [.int (0 - 3), .int (2)]) n41
    generalize L2.upd H40 t41 (.tup [.int (0 - 3), .int (2)]) = H41 at s41 h41 ⊢
    rw [show (0 : Int) - 3 = -3 from by decide] at h41
    refine ⟨_, rfl, .inr (.inr ⟨t41, _, _, some (-3), some 2, rfl, sqt (h41), .inl ⟨_, rfl, rfl⟩, .inl ⟨_, rfl, rfl⟩, true, congrArg V.bl (by decide +kernel), iteT ?_⟩)⟩
    refine ⟨by show 2 ≤ sizeLine; decide, fun t42 n42 => ?_⟩
    obtain ⟨s42, h42⟩ := put1 (o := .tup [.int (2), .int (2)]) n42
    generalize L2.upd H41 t42 (.tup [.int (2), .int (2)]) = H42 at s42 h42 ⊢
    refine ⟨_, rfl, .inr (.inr ⟨t42, _, _, some 2, some 2, rfl, sqt (h42), .inl ⟨_, rfl, rfl⟩, .inl ⟨_, rfl, rfl⟩, ?_⟩)⟩
    rw [show okFr (some 2) (some 2) = false from by decide +kernel]
    exact ⟨_, rfl, fin _⟩
end
end K2


namespace K2
open PySem PySem.Spec PyProof.Rows L2 VG FR HD
theorem kit_own {K : PySem.W.Frag} {C D : Addr} {b : Bool} (h1 : PySem.W.isClsIn K D = true) (h2 : PySem.W.typeIn K (.ref D) = some (.type "type")) (h3 : PySem.W.subIn K (.ref C) (.ref D) = some b) (h4 : C = D → b = true) :
    PySem.W.kitOne K (.ref C) (.ref D) = some b := by
  unfold PySem.W.kitOne
  by_cases e : C = D
  · have hb := h4 e
    subst e
    subst hb
    rw [if_pos (by simp)]
  · rw [if_neg (by simp [e])]
    have e1 : (PySem.W.clsIn K D).isSome = true := h1
    show (if ((PySem.W.clsIn K D).isSome && PySem.W.typeIn K (.ref D) == some (.type "type")) = true then PySem.W.subIn K (.ref C) (.ref D) else none) = some b
    rw [e1, h2, h3]
    rfl
theorem all_mk {l : PySem.W.OpenLaw} {w : World} {K : PySem.W.Frag} {h : Heap} {mg : Str → Option Value} {fa : Addr} (X : K.In h) (G : h.Ns mainGlobals mg) (hfa : mg "law" = some (.ref fa))
    {f0 f1 f2 f3 f4 f5 f6 f7 f8 f9 f10 f11 f12 f13 f14 f15 f16 f17 f18 f19 f20 f21 f22 f23 f24 f25 f26 f27 f28 f29 f30 : Addr}
    {od0 an0 od1 an1 od2 an2 od3 an3 od4 an4 od5 an5 od6 an6 od7 an7 od8 an8 od9 an9 od10 an10 od11 an11 od12 an12 od13 an13 od14 an14 od15 an15 od16 an16 od17 an17 od18 an18 od19 an19 od20 an20 od21 an21 od22 an22 od23 an23 od24 an24 od25 an25 od26 an26 od27 an27 od28 an28 od29 an29 od30 an30 : Option Addr} {sl0 sl1 sl2 sl3 sl4 sl5 sl6 sl7 sl8 sl9 sl10 sl11 sl12 sl13 sl14 sl15 sl16 sl17 sl18 sl19 sl20 sl21 sl22 sl23 sl24 sl25 sl26 sl27 sl28 sl29 sl30 : Array (Option Value)}
    {oc0 kV0 dc0 pm0 cd0 ct0 oc1 kV1 dc1 pm1 cd1 ct1 oc2 kV2 dc2 pm2 cd2 ct2 oc3 kV3 dc3 pm3 cd3 ct3 oc4 kV4 dc4 pm4 cd4 ct4 oc5 kV5 dc5 pm5 cd5 ct5 oc6 kV6 dc6 pm6 cd6 ct6 oc7 kV7 dc7 pm7 cd7 ct7 oc8 kV8 dc8 pm8 cd8 ct8 oc9 kV9 dc9 pm9 cd9 ct9 oc10 kV10 dc10 pm10 cd10 ct10 oc11 kV11 dc11 pm11 cd11 ct11 oc12 kV12 dc12 pm12 cd12 ct12 oc13 kV13 dc13 pm13 cd13 ct13 oc14 kV14 dc14 pm14 cd14 ct14 oc15 kV15 dc15 pm15 cd15 ct15 oc16 kV16 dc16 pm16 cd16 ct16 oc17 kV17 dc17 pm17 cd17 ct17 oc18 kV18 dc18 pm18 cd18 ct18 oc19 kV19 dc19 pm19 cd19 ct19 oc20 kV20 dc20 pm20 cd20 ct20 oc21 kV21 dc21 pm21 cd21 ct21 oc22 kV22 dc22 pm22 cd22 ct22 oc23 kV23 dc23 pm23 cd23 ct23 oc24 kV24 dc24 pm24 cd24 ct24 oc25 kV25 dc25 pm25 cd25 ct25 oc26 kV26 dc26 pm26 cd26 ct26 oc27 kV27 dc27 pm27 cd27 ct27 oc28 kV28 dc28 pm28 cd28 ct28 oc29 kV29 dc29 pm29 cd29 ct29 oc30 kV30 dc30 pm30 cd30 ct30 : Value}
    (a0 : PySem.W.nsIn K mainGlobals "is_an_integer" = some (some (.ref f0)))
    (l0 : K.lookup f0 = some ⟨oc0, od0, .func (PySem.W.fnOf "is_an_integer" "is_an_integer" (defArgs s_is_an_integer) (defBody s_is_an_integer) (defScope s_is_an_integer) .none kV0 dc0 pm0 an0 cd0 ct0), sl0⟩)
    (c0 : PySem.W.codeIn K cd0 "is_an_integer" = true) (k0 : PySem.W.keepIn K (.ref f0) = true)
    (a1 : PySem.W.nsIn K mainGlobals "is_tuple_of" = some (some (.ref f1)))
    (l1 : K.lookup f1 = some ⟨oc1, od1, .func (PySem.W.fnOf "is_tuple_of" "is_tuple_of" (defArgs s_is_tuple_of) (defBody s_is_tuple_of) (defScope s_is_tuple_of) .none kV1 dc1 pm1 an1 cd1 ct1), sl1⟩)
    (c1 : PySem.W.codeIn K cd1 "is_tuple_of" = true) (k1 : PySem.W.keepIn K (.ref f1) = true)
    (a2 : PySem.W.nsIn K mainGlobals "fraction_of" = some (some (.ref f2)))
    (l2 : K.lookup f2 = some ⟨oc2, od2, .func (PySem.W.fnOf "fraction_of" "fraction_of" (defArgs s_fraction_of) (defBody s_fraction_of) (defScope s_fraction_of) .none kV2 dc2 pm2 an2 cd2 ct2), sl2⟩)
    (c2 : PySem.W.codeIn K cd2 "fraction_of" = true) (k2 : PySem.W.keepIn K (.ref f2) = true)
    (a3 : PySem.W.nsIn K mainGlobals "is_fraction" = some (some (.ref f3)))
    (l3 : K.lookup f3 = some ⟨oc3, od3, .func (PySem.W.fnOf "is_fraction" "is_fraction" (defArgs s_is_fraction) (defBody s_is_fraction) (defScope s_is_fraction) .none kV3 dc3 pm3 an3 cd3 ct3), sl3⟩)
    (c3 : PySem.W.codeIn K cd3 "is_fraction" = true) (k3 : PySem.W.keepIn K (.ref f3) = true)
    (a4 : PySem.W.nsIn K mainGlobals "added" = some (some (.ref f4)))
    (l4 : K.lookup f4 = some ⟨oc4, od4, .func (PySem.W.fnOf "added" "added" (defArgs s_added) (defBody s_added) (defScope s_added) .none kV4 dc4 pm4 an4 cd4 ct4), sl4⟩)
    (c4 : PySem.W.codeIn K cd4 "added" = true) (k4 : PySem.W.keepIn K (.ref f4) = true)
    (a5 : PySem.W.nsIn K mainGlobals "opposite_of" = some (some (.ref f5)))
    (l5 : K.lookup f5 = some ⟨oc5, od5, .func (PySem.W.fnOf "opposite_of" "opposite_of" (defArgs s_opposite_of) (defBody s_opposite_of) (defScope s_opposite_of) .none kV5 dc5 pm5 an5 cd5 ct5), sl5⟩)
    (c5 : PySem.W.codeIn K cd5 "opposite_of" = true) (k5 : PySem.W.keepIn K (.ref f5) = true)
    (a6 : PySem.W.nsIn K mainGlobals "taken" = some (some (.ref f6)))
    (l6 : K.lookup f6 = some ⟨oc6, od6, .func (PySem.W.fnOf "taken" "taken" (defArgs s_taken) (defBody s_taken) (defScope s_taken) .none kV6 dc6 pm6 an6 cd6 ct6), sl6⟩)
    (c6 : PySem.W.codeIn K cd6 "taken" = true) (k6 : PySem.W.keepIn K (.ref f6) = true)
    (a7 : PySem.W.nsIn K mainGlobals "timed" = some (some (.ref f7)))
    (l7 : K.lookup f7 = some ⟨oc7, od7, .func (PySem.W.fnOf "timed" "timed" (defArgs s_timed) (defBody s_timed) (defScope s_timed) .none kV7 dc7 pm7 an7 cd7 ct7), sl7⟩)
    (c7 : PySem.W.codeIn K cd7 "timed" = true) (k7 : PySem.W.keepIn K (.ref f7) = true)
    (a8 : PySem.W.nsIn K mainGlobals "is_less" = some (some (.ref f8)))
    (l8 : K.lookup f8 = some ⟨oc8, od8, .func (PySem.W.fnOf "is_less" "is_less" (defArgs s_is_less) (defBody s_is_less) (defScope s_is_less) .none kV8 dc8 pm8 an8 cd8 ct8), sl8⟩)
    (c8 : PySem.W.codeIn K cd8 "is_less" = true) (k8 : PySem.W.keepIn K (.ref f8) = true)
    (a9 : PySem.W.nsIn K mainGlobals "is_small" = some (some (.ref f9)))
    (l9 : K.lookup f9 = some ⟨oc9, od9, .func (PySem.W.fnOf "is_small" "is_small" (defArgs s_is_small) (defBody s_is_small) (defScope s_is_small) .none kV9 dc9 pm9 an9 cd9 ct9), sl9⟩)
    (c9 : PySem.W.codeIn K cd9 "is_small" = true) (k9 : PySem.W.keepIn K (.ref f9) = true)
    (a10 : PySem.W.nsIn K mainGlobals "floor_of" = some (some (.ref f10)))
    (l10 : K.lookup f10 = some ⟨oc10, od10, .func (PySem.W.fnOf "floor_of" "floor_of" (defArgs s_floor_of) (defBody s_floor_of) (defScope s_floor_of) .none kV10 dc10 pm10 an10 cd10 ct10), sl10⟩)
    (c10 : PySem.W.codeIn K cd10 "floor_of" = true) (k10 : PySem.W.keepIn K (.ref f10) = true)
    (a11 : PySem.W.nsIn K mainGlobals "ceiling_of" = some (some (.ref f11)))
    (l11 : K.lookup f11 = some ⟨oc11, od11, .func (PySem.W.fnOf "ceiling_of" "ceiling_of" (defArgs s_ceiling_of) (defBody s_ceiling_of) (defScope s_ceiling_of) .none kV11 dc11 pm11 an11 cd11 ct11), sl11⟩)
    (c11 : PySem.W.codeIn K cd11 "ceiling_of" = true) (k11 : PySem.W.keepIn K (.ref f11) = true)
    (a12 : PySem.W.nsIn K mainGlobals "part_of" = some (some (.ref f12)))
    (l12 : K.lookup f12 = some ⟨oc12, od12, .func (PySem.W.fnOf "part_of" "part_of" (defArgs s_part_of) (defBody s_part_of) (defScope s_part_of) .none kV12 dc12 pm12 an12 cd12 ct12), sl12⟩)
    (c12 : PySem.W.codeIn K cd12 "part_of" = true) (k12 : PySem.W.keepIn K (.ref f12) = true)
    (a13 : PySem.W.nsIn K mainGlobals "sum_of" = some (some (.ref f13)))
    (l13 : K.lookup f13 = some ⟨oc13, od13, .func (PySem.W.fnOf "sum_of" "sum_of" (defArgs s_sum_of) (defBody s_sum_of) (defScope s_sum_of) .none kV13 dc13 pm13 an13 cd13 ct13), sl13⟩)
    (c13 : PySem.W.codeIn K cd13 "sum_of" = true) (k13 : PySem.W.keepIn K (.ref f13) = true)
    (a14 : PySem.W.nsIn K mainGlobals "weighed" = some (some (.ref f14)))
    (l14 : K.lookup f14 = some ⟨oc14, od14, .func (PySem.W.fnOf "weighed" "weighed" (defArgs s_weighed) (defBody s_weighed) (defScope s_weighed) .none kV14 dc14 pm14 an14 cd14 ct14), sl14⟩)
    (c14 : PySem.W.codeIn K cd14 "weighed" = true) (k14 : PySem.W.keepIn K (.ref f14) = true)
    (a15 : PySem.W.nsIn K mainGlobals "least_of" = some (some (.ref f15)))
    (l15 : K.lookup f15 = some ⟨oc15, od15, .func (PySem.W.fnOf "least_of" "least_of" (defArgs s_least_of) (defBody s_least_of) (defScope s_least_of) .none kV15 dc15 pm15 an15 cd15 ct15), sl15⟩)
    (c15 : PySem.W.codeIn K cd15 "least_of" = true) (k15 : PySem.W.keepIn K (.ref f15) = true)
    (a16 : PySem.W.nsIn K mainGlobals "greatest_of" = some (some (.ref f16)))
    (l16 : K.lookup f16 = some ⟨oc16, od16, .func (PySem.W.fnOf "greatest_of" "greatest_of" (defArgs s_greatest_of) (defBody s_greatest_of) (defScope s_greatest_of) .none kV16 dc16 pm16 an16 cd16 ct16), sl16⟩)
    (c16 : PySem.W.codeIn K cd16 "greatest_of" = true) (k16 : PySem.W.keepIn K (.ref f16) = true)
    (a17 : PySem.W.nsIn K mainGlobals "_law_heap" = some (some (.ref f17)))
    (l17 : K.lookup f17 = some ⟨oc17, od17, .func (PySem.W.fnOf "_law_heap" "_law_heap" (defArgs s__law_heap) (defBody s__law_heap) (defScope s__law_heap) .none kV17 dc17 pm17 an17 cd17 ct17), sl17⟩)
    (c17 : PySem.W.codeIn K cd17 "_law_heap" = true) (k17 : PySem.W.keepIn K (.ref f17) = true)
    (a18 : PySem.W.nsIn K mainGlobals "_law_draw" = some (some (.ref f18)))
    (l18 : K.lookup f18 = some ⟨oc18, od18, .func (PySem.W.fnOf "_law_draw" "_law_draw" (defArgs s__law_draw) (defBody s__law_draw) (defScope s__law_draw) .none kV18 dc18 pm18 an18 cd18 ct18), sl18⟩)
    (c18 : PySem.W.codeIn K cd18 "_law_draw" = true) (k18 : PySem.W.keepIn K (.ref f18) = true)
    (a19 : PySem.W.nsIn K mainGlobals "_law_pick" = some (some (.ref f19)))
    (l19 : K.lookup f19 = some ⟨oc19, od19, .func (PySem.W.fnOf "_law_pick" "_law_pick" (defArgs s__law_pick) (defBody s__law_pick) (defScope s__law_pick) .none kV19 dc19 pm19 an19 cd19 ct19), sl19⟩)
    (c19 : PySem.W.codeIn K cd19 "_law_pick" = true) (k19 : PySem.W.keepIn K (.ref f19) = true)
    (a20 : PySem.W.nsIn K mainGlobals "_law_coprime" = some (some (.ref f20)))
    (l20 : K.lookup f20 = some ⟨oc20, od20, .func (PySem.W.fnOf "_law_coprime" "_law_coprime" (defArgs s__law_coprime) (defBody s__law_coprime) (defScope s__law_coprime) .none kV20 dc20 pm20 an20 cd20 ct20), sl20⟩)
    (c20 : PySem.W.codeIn K cd20 "_law_coprime" = true) (k20 : PySem.W.keepIn K (.ref f20) = true)
    (a21 : PySem.W.nsIn K mainGlobals "_law_is" = some (some (.ref f21)))
    (l21 : K.lookup f21 = some ⟨oc21, od21, .func (PySem.W.fnOf "_law_is" "_law_is" (defArgs s__law_is) (defBody s__law_is) (defScope s__law_is) .none kV21 dc21 pm21 an21 cd21 ct21), sl21⟩)
    (c21 : PySem.W.codeIn K cd21 "_law_is" = true) (k21 : PySem.W.keepIn K (.ref f21) = true)
    (a22 : PySem.W.nsIn K mainGlobals "_law_number" = some (some (.ref f22)))
    (l22 : K.lookup f22 = some ⟨oc22, od22, .func (PySem.W.fnOf "_law_number" "_law_number" (defArgs s__law_number) (defBody s__law_number) (defScope s__law_number) .none kV22 dc22 pm22 an22 cd22 ct22), sl22⟩)
    (c22 : PySem.W.codeIn K cd22 "_law_number" = true) (k22 : PySem.W.keepIn K (.ref f22) = true)
    (a23 : PySem.W.nsIn K mainGlobals "_law_fraction" = some (some (.ref f23)))
    (l23 : K.lookup f23 = some ⟨oc23, od23, .func (PySem.W.fnOf "_law_fraction" "_law_fraction" (defArgs s__law_fraction) (defBody s__law_fraction) (defScope s__law_fraction) .none kV23 dc23 pm23 an23 cd23 ct23), sl23⟩)
    (c23 : PySem.W.codeIn K cd23 "_law_fraction" = true) (k23 : PySem.W.keepIn K (.ref f23) = true)
    (a24 : PySem.W.nsIn K mainGlobals "_law_made_right" = some (some (.ref f24)))
    (l24 : K.lookup f24 = some ⟨oc24, od24, .func (PySem.W.fnOf "_law_made_right" "_law_made_right" (defArgs s__law_made_right) (defBody s__law_made_right) (defScope s__law_made_right) .none kV24 dc24 pm24 an24 cd24 ct24), sl24⟩)
    (c24 : PySem.W.codeIn K cd24 "_law_made_right" = true) (k24 : PySem.W.keepIn K (.ref f24) = true)
    (a25 : PySem.W.nsIn K mainGlobals "_law_bottom_refused" = some (some (.ref f25)))
    (l25 : K.lookup f25 = some ⟨oc25, od25, .func (PySem.W.fnOf "_law_bottom_refused" "_law_bottom_refused" (defArgs s__law_bottom_refused) (defBody s__law_bottom_refused) (defScope s__law_bottom_refused) .none kV25 dc25 pm25 an25 cd25 ct25), sl25⟩)
    (c25 : PySem.W.codeIn K cd25 "_law_bottom_refused" = true) (k25 : PySem.W.keepIn K (.ref f25) = true)
    (a26 : PySem.W.nsIn K mainGlobals "_law_two_right" = some (some (.ref f26)))
    (l26 : K.lookup f26 = some ⟨oc26, od26, .func (PySem.W.fnOf "_law_two_right" "_law_two_right" (defArgs s__law_two_right) (defBody s__law_two_right) (defScope s__law_two_right) .none kV26 dc26 pm26 an26 cd26 ct26), sl26⟩)
    (c26 : PySem.W.codeIn K cd26 "_law_two_right" = true) (k26 : PySem.W.keepIn K (.ref f26) = true)
    (a27 : PySem.W.nsIn K mainGlobals "_law_one_right" = some (some (.ref f27)))
    (l27 : K.lookup f27 = some ⟨oc27, od27, .func (PySem.W.fnOf "_law_one_right" "_law_one_right" (defArgs s__law_one_right) (defBody s__law_one_right) (defScope s__law_one_right) .none kV27 dc27 pm27 an27 cd27 ct27), sl27⟩)
    (c27 : PySem.W.codeIn K cd27 "_law_one_right" = true) (k27 : PySem.W.keepIn K (.ref f27) = true)
    (a28 : PySem.W.nsIn K mainGlobals "_law_many_right" = some (some (.ref f28)))
    (l28 : K.lookup f28 = some ⟨oc28, od28, .func (PySem.W.fnOf "_law_many_right" "_law_many_right" (defArgs s__law_many_right) (defBody s__law_many_right) (defScope s__law_many_right) .none kV28 dc28 pm28 an28 cd28 ct28), sl28⟩)
    (c28 : PySem.W.codeIn K cd28 "_law_many_right" = true) (k28 : PySem.W.keepIn K (.ref f28) = true)
    (a29 : PySem.W.nsIn K mainGlobals "_law_odd_right" = some (some (.ref f29)))
    (l29 : K.lookup f29 = some ⟨oc29, od29, .func (PySem.W.fnOf "_law_odd_right" "_law_odd_right" (defArgs s__law_odd_right) (defBody s__law_odd_right) (defScope s__law_odd_right) .none kV29 dc29 pm29 an29 cd29 ct29), sl29⟩)
    (c29 : PySem.W.codeIn K cd29 "_law_odd_right" = true) (k29 : PySem.W.keepIn K (.ref f29) = true)
    (a30 : PySem.W.nsIn K mainGlobals "law" = some (some (.ref f30)))
    (l30 : K.lookup f30 = some ⟨oc30, od30, .func (PySem.W.fnOf "law" "law" (defArgs s_law) (defBody s_law) (defScope s_law) .none kV30 dc30 pm30 an30 cd30 ct30), sl30⟩)
    (c30 : PySem.W.codeIn K cd30 "law" = true) (k30 : PySem.W.keepIn K (.ref f30) = true)
    {C Ct Ci N zz fI : Addr} {nm q : Str} {bs : List Value} {sn : List Str} {sub : List Value} {ab : Bool} {col : Option Bool} {dd : Option Addr} {m0 m1 m2 m3 m5 : Option Value}
    {odI anI : Option Addr} {slI : Array (Option Value)} {ocI kVI dcI pmI cdI ctI : Value} {zd : Option Addr} {zt1 zt2 : Tok} {zn : Nat} {zsl : Array (Option Value)}
    (aC : PySem.W.nsIn K mainGlobals "InvalidNumber" = some (some (.ref C))) (aT : PySem.W.nsIn K mainGlobals "TillError" = some (some (.ref Ct))) (aI : PySem.W.nsIn K mainGlobals "InvalidTable" = some (some (.ref Ci)))
    (xL : K.lookup C = some (excClassObj nm q C N bs [.ref Ct, .type "ValueError", .type "Exception", .type "BaseException", .type "object"] true sn sub ab col dd m0 m1 m2 m3 m5 "ValueError.__new__"))
    (sa : PySem.W.findIn K (.ref C) "__setattr__" = some (some (.builtin "object.__setattr__"))) (ga : PySem.W.findIn K (.ref C) "__getattribute__" = some (some (.builtin "BaseException.__getattribute__"))) (gg : PySem.W.findIn K (.ref C) "__getattr__" = some none) (nw : PySem.W.findIn K (.ref C) "word" = some none)
    (iI : PySem.W.findIn K (.ref C) "__init__" = some (some (.ref fI))) (tI : PySem.W.typeIn K (.ref fI) = some (.type "function"))
    (lI : K.lookup fI = some ⟨ocI, odI, .func (PySem.W.fnOf "__init__" "InvalidNumber.__init__" (defArgs i_InvalidNumber) (defBody i_InvalidNumber) (defScope i_InvalidNumber) .none kVI dcI pmI anI cdI ctI), slI⟩) (cI : PySem.W.codeIn K cdI "InvalidNumber.__init__" = true) (kI : PySem.W.keepIn K (.ref fI) = true)
    (kC : PySem.W.keepIn K (.ref C) = true) (eC : PySem.W.subIn K (.ref C) (.type "BaseException") = some true) (tC : PySem.W.typeIn K (.ref C) = some (.type "type")) (hC : PySem.W.hasDictIn K C = true) (sC : PySem.W.subIn K (.ref C) (.ref C) = some true)
    (xa : PySem.W.findIn K (.ref C) "__class__" = some (some (.builtin "object.__class__"))) (xn : PySem.W.specialIn K (.builtin "object.__class__") "__get__" = some (some (.builtin "getset_descriptor.__get__"))) (xt : PySem.W.takesIn K (.builtin "object.__class__") = some true) (xm : PySem.W.mroIn K C (.type "object") = some true)
    (sT : PySem.W.subIn K (.ref C) (.ref Ct) = some true) (sI : PySem.W.subIn K (.ref C) (.ref Ci) = some false) (iT : PySem.W.isClsIn K Ct = true) (iJ : PySem.W.isClsIn K Ci = true) (tT : PySem.W.typeIn K (.ref Ct) = some (.type "type")) (tJ : PySem.W.typeIn K (.ref Ci) = some (.type "type"))
    (aZ : PySem.W.nsIn K mainGlobals "ZERO" = some (some (.ref zz))) (zL : K.lookup zz = some ⟨.type "tuple", zd, .seq #[.int 0 zt1, .int 1 zt2] zn, zsl⟩)
    (aG : PySem.W.nsIn K mainGlobals "gcd" = some (some (.builtin "math.gcd")))
    (z_isinstance : PySem.W.nsIn K mainGlobals "isinstance" = some none)
    (z_int : PySem.W.nsIn K mainGlobals "int" = some none)
    (z_bool : PySem.W.nsIn K mainGlobals "bool" = some none)
    (z_tuple : PySem.W.nsIn K mainGlobals "tuple" = some none)
    (z_len : PySem.W.nsIn K mainGlobals "len" = some none)
    (z_abs : PySem.W.nsIn K mainGlobals "abs" = some none)
    (z_max : PySem.W.nsIn K mainGlobals "max" = some none)
    (z_range : PySem.W.nsIn K mainGlobals "range" = some none)
    (z_zip : PySem.W.nsIn K mainGlobals "zip" = some none)
    (z_all : PySem.W.nsIn K mainGlobals "all" = some none)
    (z_repr : PySem.W.nsIn K mainGlobals "repr" = some none)
    (z_list : PySem.W.nsIn K mainGlobals "list" = some none)
    : ∃ fd : FuncData, (∀ (s : Shared) (v : Value), BindsTo s fd ⟨[v], []⟩ [("script", v)]) ∧ ∀ base : Heap, K.In base → base.Ns mainGlobals mg → FnG l.prog w K mg base 7 fa fd ["script"] (spLaw K) := by
  have e := hfa.symm.trans (PySem.W.mg_of X G a30)
  cases e
  have F0 := fun_mk (st := s_is_an_integer) l0 c0 k0
  have F1 := fun_mk (st := s_is_tuple_of) l1 c1 k1
  have F2 := fun_mk (st := s_fraction_of) l2 c2 k2
  have F3 := fun_mk (st := s_is_fraction) l3 c3 k3
  have F4 := fun_mk (st := s_added) l4 c4 k4
  have F5 := fun_mk (st := s_opposite_of) l5 c5 k5
  have F6 := fun_mk (st := s_taken) l6 c6 k6
  have F7 := fun_mk (st := s_timed) l7 c7 k7
  have F8 := fun_mk (st := s_is_less) l8 c8 k8
  have F9 := fun_mk (st := s_is_small) l9 c9 k9
  have F10 := fun_mk (st := s_floor_of) l10 c10 k10
  have F11 := fun_mk (st := s_ceiling_of) l11 c11 k11
  have F12 := fun_mk (st := s_part_of) l12 c12 k12
  have F13 := fun_mk (st := s_sum_of) l13 c13 k13
  have F14 := fun_mk (st := s_weighed) l14 c14 k14
  have F15 := fun_mk (st := s_least_of) l15 c15 k15
  have F16 := fun_mk (st := s_greatest_of) l16 c16 k16
  have F17 := fun_mk (st := s__law_heap) l17 c17 k17
  have F18 := fun_mk (st := s__law_draw) l18 c18 k18
  have F19 := fun_mk (st := s__law_pick) l19 c19 k19
  have F20 := fun_mk (st := s__law_coprime) l20 c20 k20
  have F21 := fun_mk (st := s__law_is) l21 c21 k21
  have F22 := fun_mk (st := s__law_number) l22 c22 k22
  have F23 := fun_mk (st := s__law_fraction) l23 c23 k23
  have F24 := fun_mk (st := s__law_made_right) l24 c24 k24
  have F25 := fun_mk (st := s__law_bottom_refused) l25 c25 k25
  have F26 := fun_mk (st := s__law_two_right) l26 c26 k26
  have F27 := fun_mk (st := s__law_one_right) l27 c27 k27
  have F28 := fun_mk (st := s__law_many_right) l28 c28 k28
  have F29 := fun_mk (st := s__law_odd_right) l29 c29 k29
  have F30 := fun_mk (st := s_law) l30 c30 k30
  have FI := fun_mk (st := i_InvalidNumber) lI cI kI
  have b0 := F0.binds (ps := ["value"]) fun _ _ _ _ _ _ us hl => match us, hl with | [_], _ => rfl
  have g0 := PySem.W.mg_of X G a0
  have b1 := F1.binds (ps := ["value", "many"]) fun _ _ _ _ _ _ us hl => match us, hl with | [_, _], _ => rfl
  have g1 := PySem.W.mg_of X G a1
  have b2 := F2.binds (ps := ["top", "bottom"]) fun _ _ _ _ _ _ us hl => match us, hl with | [_, _], _ => rfl
  have g2 := PySem.W.mg_of X G a2
  have b3 := F3.binds (ps := ["value"]) fun _ _ _ _ _ _ us hl => match us, hl with | [_], _ => rfl
  have g3 := PySem.W.mg_of X G a3
  have b4 := F4.binds (ps := ["one", "other"]) fun _ _ _ _ _ _ us hl => match us, hl with | [_, _], _ => rfl
  have g4 := PySem.W.mg_of X G a4
  have b5 := F5.binds (ps := ["one"]) fun _ _ _ _ _ _ us hl => match us, hl with | [_], _ => rfl
  have g5 := PySem.W.mg_of X G a5
  have b6 := F6.binds (ps := ["one", "other"]) fun _ _ _ _ _ _ us hl => match us, hl with | [_, _], _ => rfl
  have g6 := PySem.W.mg_of X G a6
  have b7 := F7.binds (ps := ["one", "other"]) fun _ _ _ _ _ _ us hl => match us, hl with | [_, _], _ => rfl
  have g7 := PySem.W.mg_of X G a7
  have b8 := F8.binds (ps := ["one", "other"]) fun _ _ _ _ _ _ us hl => match us, hl with | [_, _], _ => rfl
  have g8 := PySem.W.mg_of X G a8
  have b9 := F9.binds (ps := ["one"]) fun _ _ _ _ _ _ us hl => match us, hl with | [_], _ => rfl
  have g9 := PySem.W.mg_of X G a9
  have b10 := F10.binds (ps := ["one"]) fun _ _ _ _ _ _ us hl => match us, hl with | [_], _ => rfl
  have g10 := PySem.W.mg_of X G a10
  have b11 := F11.binds (ps := ["one"]) fun _ _ _ _ _ _ us hl => match us, hl with | [_], _ => rfl
  have g11 := PySem.W.mg_of X G a11
  have b12 := F12.binds (ps := ["one"]) fun _ _ _ _ _ _ us hl => match us, hl with | [_], _ => rfl
  have g12 := PySem.W.mg_of X G a12
  have b13 := F13.binds (ps := ["some"]) fun _ _ _ _ _ _ us hl => match us, hl with | [_], _ => rfl
  have g13 := PySem.W.mg_of X G a13
  have b14 := F14.binds (ps := ["weights", "some"]) fun _ _ _ _ _ _ us hl => match us, hl with | [_, _], _ => rfl
  have g14 := PySem.W.mg_of X G a14
  have b15 := F15.binds (ps := ["some"]) fun _ _ _ _ _ _ us hl => match us, hl with | [_], _ => rfl
  have g15 := PySem.W.mg_of X G a15
  have b16 := F16.binds (ps := ["some"]) fun _ _ _ _ _ _ us hl => match us, hl with | [_], _ => rfl
  have g16 := PySem.W.mg_of X G a16
  have b17 := F17.binds (ps := ["script"]) fun _ _ _ _ _ _ us hl => match us, hl with | [_], _ => rfl
  have g17 := PySem.W.mg_of X G a17
  have b18 := F18.binds (ps := ["heap", "many"]) fun _ _ _ _ _ _ us hl => match us, hl with | [_, _], _ => rfl
  have g18 := PySem.W.mg_of X G a18
  have b19 := F19.binds (ps := ["heap", "some"]) fun _ _ _ _ _ _ us hl => match us, hl with | [_, _], _ => rfl
  have g19 := PySem.W.mg_of X G a19
  have b20 := F20.binds (ps := ["one", "other"]) fun _ _ _ _ _ _ us hl => match us, hl with | [_, _], _ => rfl
  have g20 := PySem.W.mg_of X G a20
  have b21 := F21.binds (ps := ["value", "top", "bottom"]) fun _ _ _ _ _ _ us hl => match us, hl with | [_, _, _], _ => rfl
  have g21 := PySem.W.mg_of X G a21
  have b22 := F22.binds (ps := ["heap"]) fun _ _ _ _ _ _ us hl => match us, hl with | [_], _ => rfl
  have g22 := PySem.W.mg_of X G a22
  have b23 := F23.binds (ps := ["heap"]) fun _ _ _ _ _ _ us hl => match us, hl with | [_], _ => rfl
  have g23 := PySem.W.mg_of X G a23
  have b24 := F24.binds (ps := ["heap"]) fun _ _ _ _ _ _ us hl => match us, hl with | [_], _ => rfl
  have g24 := PySem.W.mg_of X G a24
  have b25 := F25.binds (ps := ["top"]) fun _ _ _ _ _ _ us hl => match us, hl with | [_], _ => rfl
  have g25 := PySem.W.mg_of X G a25
  have b26 := F26.binds (ps := ["heap"]) fun _ _ _ _ _ _ us hl => match us, hl with | [_], _ => rfl
  have g26 := PySem.W.mg_of X G a26
  have b27 := F27.binds (ps := ["heap"]) fun _ _ _ _ _ _ us hl => match us, hl with | [_], _ => rfl
  have g27 := PySem.W.mg_of X G a27
  have b28 := F28.binds (ps := ["heap"]) fun _ _ _ _ _ _ us hl => match us, hl with | [_], _ => rfl
  have g28 := PySem.W.mg_of X G a28
  have b29 := F29.binds (ps := ["heap"]) fun _ _ _ _ _ _ us hl => match us, hl with | [_], _ => rfl
  have g29 := PySem.W.mg_of X G a29
  have bI := FI.binds (ps := ["self", "word"]) fun _ _ _ _ _ _ us hl => match us, hl with | [_, _], _ => rfl
  have kb10 := kbinds_one (p := "one") F10 (fun _ _ _ _ _ _ _ => rfl) (fun _ _ _ _ _ _ _ => rfl)
  have kb11 := kbinds_one (p := "one") F11 (fun _ _ _ _ _ _ _ => rfl) (fun _ _ _ _ _ _ _ => rfl)
  have kb12 := kbinds_one (p := "one") F12 (fun _ _ _ _ _ _ _ => rfl) (fun _ _ _ _ _ _ _ => rfl)
  have kb5 := kbinds_one (p := "one") F5 (fun _ _ _ _ _ _ _ => rfl) (fun _ _ _ _ _ _ _ => rfl)
  have kb9 := kbinds_one (p := "one") F9 (fun _ _ _ _ _ _ _ => rfl) (fun _ _ _ _ _ _ _ => rfl)
  have kb13 := kbinds_one (p := "some") F13 (fun _ _ _ _ _ _ _ => rfl) (fun _ _ _ _ _ _ _ => rfl)
  have kb15 := kbinds_one (p := "some") F15 (fun _ _ _ _ _ _ _ => rfl) (fun _ _ _ _ _ _ _ => rfl)
  have kb16 := kbinds_one (p := "some") F16 (fun _ _ _ _ _ _ _ => rfl) (fun _ _ _ _ _ _ _ => rfl)
  have kb3 := kbinds_one (p := "value") F3 (fun _ _ _ _ _ _ _ => rfl) (fun _ _ _ _ _ _ _ => rfl)
  have kr4 := kbinds_rev (p1 := "one") (p2 := "other") F4 (fun _ _ _ _ _ _ _ _ => rfl) (fun _ _ _ _ _ _ _ _ => rfl) (fun _ _ _ _ _ _ _ _ => rfl)
  have kr6 := kbinds_rev (p1 := "one") (p2 := "other") F6 (fun _ _ _ _ _ _ _ _ => rfl) (fun _ _ _ _ _ _ _ _ => rfl) (fun _ _ _ _ _ _ _ _ => rfl)
  have kr8 := kbinds_rev (p1 := "one") (p2 := "other") F8 (fun _ _ _ _ _ _ _ _ => rfl) (fun _ _ _ _ _ _ _ _ => rfl) (fun _ _ _ _ _ _ _ _ => rfl)
  have kr7 := kbinds_rev (p1 := "one") (p2 := "other") F7 (fun _ _ _ _ _ _ _ _ => rfl) (fun _ _ _ _ _ _ _ _ => rfl) (fun _ _ _ _ _ _ _ _ => rfl)
  have kr2 := kbinds_rev (p1 := "top") (p2 := "bottom") F2 (fun _ _ _ _ _ _ _ _ => rfl) (fun _ _ _ _ _ _ _ _ => rfl) (fun _ _ _ _ _ _ _ _ => rfl)
  have kr14 := kbinds_rev (p1 := "weights") (p2 := "some") F14 (fun _ _ _ _ _ _ _ _ => rfl) (fun _ _ _ _ _ _ _ _ => rfl) (fun _ _ _ _ _ _ _ _ => rfl)
  have y_isinstance := PySem.W.mg_none_of X G z_isinstance
  have y_int := PySem.W.mg_none_of X G z_int
  have y_bool := PySem.W.mg_none_of X G z_bool
  have y_tuple := PySem.W.mg_none_of X G z_tuple
  have y_len := PySem.W.mg_none_of X G z_len
  have y_abs := PySem.W.mg_none_of X G z_abs
  have y_max := PySem.W.mg_none_of X G z_max
  have y_range := PySem.W.mg_none_of X G z_range
  have y_zip := PySem.W.mg_none_of X G z_zip
  have y_all := PySem.W.mg_none_of X G z_all
  have y_repr := PySem.W.mg_none_of X G z_repr
  have y_list := PySem.W.mg_none_of X G z_list
  have gC := PySem.W.mg_of X G aC
  have gT := PySem.W.mg_of X G aT
  have gIt := PySem.W.mg_of X G aI
  have gZ := PySem.W.mg_of X G aZ
  have gG := PySem.W.mg_of X G aG
  have hz : ∀ H, SqT K H zz (pV (0, 1)) := fun H => .inr ⟨_, _, _, zL, rfl, rfl, by show 2 ≤ sizeLine; decide, .cons ⟨_, rfl⟩ (.cons ⟨_, rfl⟩ .nil)⟩
  have oC : OexC K C := ⟨⟨nm, q, N, bs, _, sn, sub, ab, col, dd, m0, m1, m2, m3, m5, xL, rfl⟩, sa, eC, tC, kC⟩
  have eN : ErrC K mg "InvalidNumber" C fI := ⟨gC, oC, iI, tI⟩
  have xf : XfC K C := ⟨ga, gg, eC, hC⟩
  have te : PySem.W.exmOne K (.ref C) (.ref C) = some true := PySem.W.exm_ref eC hC tC sC
  have kk1 : PySem.W.kitOne K (.ref C) (.ref Ct) = some true := kit_own iT tT sT (fun _ => rfl)
  have kk2 : PySem.W.kitOne K (.ref C) (.ref Ci) = some false := kit_own iJ tJ sI (fun z => by
    subst z
    rw [sC] at sI
    cases sI)
  have exC : ExcC K C := ⟨ga, gg, eC, hC, xa, xn, xt, xm⟩
  refine ⟨PySem.W.fnOf "law" "law" (defArgs s_law) (defBody s_law) (defScope s_law) .none kV30 dc30 pm30 an30 cd30 ct30, fun s v => .of_eq rfl, fun base _ _ => ?_⟩
  have T_is_an_integer := (ok_is_an_integer F0 y_isinstance y_int y_bool : FnOk l.prog w K mg base CX0 1 _ _ _ (spInt K))
  have C_is_an_integer : Cl l.prog w K mg base 1 "is_an_integer" (spInt K) := ⟨⟨f0, _, _, T_is_an_integer, g0, F0.kp, b0⟩⟩
  have T_is_tuple_of := (ok_is_tuple_of F1 y_isinstance y_tuple y_len : FnOk l.prog w K mg base CX0 1 _ _ _ (spTup K))
  have C_is_tuple_of : Cl l.prog w K mg base 1 "is_tuple_of" (spTup K) := ⟨⟨f1, _, _, T_is_tuple_of, g1, F1.kp, b1⟩⟩
  have TX : FnOk l.prog w K mg base (L2.CX l.prog w) 3 _ _ _ (spFrac C) := ok_fraction_of F2 gG eN (ok_init FI oC nw) bI
  have X_fraction_of : ClX l.prog w K mg base 3 "fraction_of" (spFrac C) := ⟨⟨f2, _, _, TX, g2, F2.kp, b2⟩⟩
  have T_fraction_of := (fn_calm TX : FnOk l.prog w K mg base CX0 3 _ _ _ (fun vs H Q _ => spFrac C vs H Q E0))
  have C_fraction_of : Cl l.prog w K mg base 3 "fraction_of" (fun vs H Q _ => spFrac C vs H Q E0) := ⟨⟨f2, _, _, T_fraction_of, g2, F2.kp, b2⟩⟩
  have CR_fraction_of : ClR l.prog w K mg base 3 "fraction_of" ["bottom", "top"] (fun vs H Q _ => spFrac C vs H Q E0) := ⟨⟨f2, _, _, T_fraction_of, g2, F2.kp, kr2⟩⟩
  have T_is_fraction := (ok_is_fraction F3 C_is_an_integer C_is_tuple_of gG : FnOk l.prog w K mg base CX0 2 _ _ _ (spIsFr K))
  have C_is_fraction : Cl l.prog w K mg base 2 "is_fraction" (spIsFr K) := ⟨⟨f3, _, _, T_is_fraction, g3, F3.kp, b3⟩⟩
  have CK_is_fraction : ClK l.prog w K mg base 2 "is_fraction" ["value"] (spIsFr K) := ⟨⟨f3, _, _, T_is_fraction, g3, F3.kp, kb3⟩⟩
  have T_added := (ok_added F4 gG : FnOk l.prog w K mg base CX0 1 _ _ _ (spAdd K))
  have C_added : Cl l.prog w K mg base 1 "added" (spAdd K) := ⟨⟨f4, _, _, T_added, g4, F4.kp, b4⟩⟩
  have CR_added : ClR l.prog w K mg base 1 "added" ["other", "one"] (spAdd K) := ⟨⟨f4, _, _, T_added, g4, F4.kp, kr4⟩⟩
  have T_opposite_of := (ok_opposite_of F5 : FnOk l.prog w K mg base CX0 1 _ _ _ (spOpp K))
  have C_opposite_of : Cl l.prog w K mg base 1 "opposite_of" (spOpp K) := ⟨⟨f5, _, _, T_opposite_of, g5, F5.kp, b5⟩⟩
  have CK_opposite_of : ClK l.prog w K mg base 1 "opposite_of" ["one"] (spOpp K) := ⟨⟨f5, _, _, T_opposite_of, g5, F5.kp, kb5⟩⟩
  have T_taken := (ok_taken F6 C_added C_opposite_of : FnOk l.prog w K mg base CX0 2 _ _ _ (spTaken K))
  have C_taken : Cl l.prog w K mg base 2 "taken" (spTaken K) := ⟨⟨f6, _, _, T_taken, g6, F6.kp, b6⟩⟩
  have CR_taken : ClR l.prog w K mg base 2 "taken" ["other", "one"] (spTaken K) := ⟨⟨f6, _, _, T_taken, g6, F6.kp, kr6⟩⟩
  have T_timed := (ok_timed F7 C_fraction_of : FnOk l.prog w K mg base CX0 4 _ _ _ (spTimed K))
  have C_timed : Cl l.prog w K mg base 4 "timed" (spTimed K) := ⟨⟨f7, _, _, T_timed, g7, F7.kp, b7⟩⟩
  have CR_timed : ClR l.prog w K mg base 4 "timed" ["other", "one"] (spTimed K) := ⟨⟨f7, _, _, T_timed, g7, F7.kp, kr7⟩⟩
  have T_is_less := (ok_is_less F8 : FnOk l.prog w K mg base CX0 1 _ _ _ (spLess K))
  have C_is_less : Cl l.prog w K mg base 1 "is_less" (spLess K) := ⟨⟨f8, _, _, T_is_less, g8, F8.kp, b8⟩⟩
  have CR_is_less : ClR l.prog w K mg base 1 "is_less" ["other", "one"] (spLess K) := ⟨⟨f8, _, _, T_is_less, g8, F8.kp, kr8⟩⟩
  have T_is_small := (ok_is_small F9 y_abs : FnOk l.prog w K mg base CX0 1 _ _ _ (spSmall K))
  have C_is_small : Cl l.prog w K mg base 1 "is_small" (spSmall K) := ⟨⟨f9, _, _, T_is_small, g9, F9.kp, b9⟩⟩
  have CK_is_small : ClK l.prog w K mg base 1 "is_small" ["one"] (spSmall K) := ⟨⟨f9, _, _, T_is_small, g9, F9.kp, kb9⟩⟩
  have T_floor_of := (ok_floor_of F10 : FnOk l.prog w K mg base CX0 1 _ _ _ (spFloor K))
  have C_floor_of : Cl l.prog w K mg base 1 "floor_of" (spFloor K) := ⟨⟨f10, _, _, T_floor_of, g10, F10.kp, b10⟩⟩
  have CK_floor_of : ClK l.prog w K mg base 1 "floor_of" ["one"] (spFloor K) := ⟨⟨f10, _, _, T_floor_of, g10, F10.kp, kb10⟩⟩
  have T_ceiling_of := (ok_ceiling_of F11 : FnOk l.prog w K mg base CX0 1 _ _ _ (spCeil K))
  have C_ceiling_of : Cl l.prog w K mg base 1 "ceiling_of" (spCeil K) := ⟨⟨f11, _, _, T_ceiling_of, g11, F11.kp, b11⟩⟩
  have CK_ceiling_of : ClK l.prog w K mg base 1 "ceiling_of" ["one"] (spCeil K) := ⟨⟨f11, _, _, T_ceiling_of, g11, F11.kp, kb11⟩⟩
  have T_part_of := (ok_part_of F12 C_floor_of : FnOk l.prog w K mg base CX0 2 _ _ _ (spPart K))
  have C_part_of : Cl l.prog w K mg base 2 "part_of" (spPart K) := ⟨⟨f12, _, _, T_part_of, g12, F12.kp, b12⟩⟩
  have CK_part_of : ClK l.prog w K mg base 2 "part_of" ["one"] (spPart K) := ⟨⟨f12, _, _, T_part_of, g12, F12.kp, kb12⟩⟩
  have T_sum_of := (ok_sum_of F13 C_added gZ hz : FnOk l.prog w K mg base CX0 2 _ _ _ (spSum K))
  have C_sum_of : Cl l.prog w K mg base 2 "sum_of" (spSum K) := ⟨⟨f13, _, _, T_sum_of, g13, F13.kp, b13⟩⟩
  have CK_sum_of : ClK l.prog w K mg base 2 "sum_of" ["some"] (spSum K) := ⟨⟨f13, _, _, T_sum_of, g13, F13.kp, kb13⟩⟩
  have T_weighed := (ok_weighed F14 C_sum_of C_timed y_zip : FnOk l.prog w K mg base CX0 5 _ _ _ (spWeighed K))
  have C_weighed : Cl l.prog w K mg base 5 "weighed" (spWeighed K) := ⟨⟨f14, _, _, T_weighed, g14, F14.kp, b14⟩⟩
  have CR_weighed : ClR l.prog w K mg base 5 "weighed" ["some", "weights"] (spWeighed K) := ⟨⟨f14, _, _, T_weighed, g14, F14.kp, kr14⟩⟩
  have T_least_of := (ok_least_of F15 C_is_less : FnOk l.prog w K mg base CX0 2 _ _ _ (spBest K lessQ))
  have C_least_of : Cl l.prog w K mg base 2 "least_of" (spBest K lessQ) := ⟨⟨f15, _, _, T_least_of, g15, F15.kp, b15⟩⟩
  have CK_least_of : ClK l.prog w K mg base 2 "least_of" ["some"] (spBest K lessQ) := ⟨⟨f15, _, _, T_least_of, g15, F15.kp, kb15⟩⟩
  have T_greatest_of := (ok_greatest_of F16 C_is_less : FnOk l.prog w K mg base CX0 2 _ _ _ (spBest K gtQ))
  have C_greatest_of : Cl l.prog w K mg base 2 "greatest_of" (spBest K gtQ) := ⟨⟨f16, _, _, T_greatest_of, g16, F16.kp, b16⟩⟩
  have CK_greatest_of : ClK l.prog w K mg base 2 "greatest_of" ["some"] (spBest K gtQ) := ⟨⟨f16, _, _, T_greatest_of, g16, F16.kp, kb16⟩⟩
  have T__law_heap := (ok__law_heap F17 y_int y_abs : FnOk l.prog w K mg base CX0 1 _ _ _ (spHeap K))
  have C__law_heap : Cl l.prog w K mg base 1 "_law_heap" (spHeap K) := ⟨⟨f17, _, _, T__law_heap, g17, F17.kp, b17⟩⟩
  have T__law_draw := (ok__law_draw F18 y_int : FnOk l.prog w K mg base CX0 1 _ _ _ spDraw)
  have C__law_draw : Cl l.prog w K mg base 1 "_law_draw" spDraw := ⟨⟨f18, _, _, T__law_draw, g18, F18.kp, b18⟩⟩
  have T__law_pick := (ok__law_pick F19 C__law_draw y_len : FnOk l.prog w K mg base CX0 2 _ _ _ (spPick K))
  have C__law_pick : Cl l.prog w K mg base 2 "_law_pick" (spPick K) := ⟨⟨f19, _, _, T__law_pick, g19, F19.kp, b19⟩⟩
  have T__law_coprime := (ok__law_coprime F20 y_int y_range : FnOk l.prog w K mg base CX0 1 _ _ _ spCop)
  have C__law_coprime : Cl l.prog w K mg base 1 "_law_coprime" spCop := ⟨⟨f20, _, _, T__law_coprime, g20, F20.kp, b20⟩⟩
  have T__law_is := (ok__law_is F21 C__law_coprime y_isinstance y_tuple y_int y_bool y_len y_all y_abs : FnOk l.prog w K mg base CX0 2 _ _ _ (spIs K))
  have C__law_is : Cl l.prog w K mg base 2 "_law_is" (spIs K) := ⟨⟨f21, _, _, T__law_is, g21, F21.kp, b21⟩⟩
  have T__law_number := (ok__law_number F22 C__law_draw C__law_pick : FnOk l.prog w K mg base CX0 3 _ _ _ spNumber)
  have C__law_number : Cl l.prog w K mg base 3 "_law_number" spNumber := ⟨⟨f22, _, _, T__law_number, g22, F22.kp, b22⟩⟩
  have T__law_fraction := (ok__law_fraction F23 C__law_number C__law_pick C__law_coprime y_int y_range y_abs y_max : FnOk l.prog w K mg base CX0 4 _ _ _ spFraction)
  have C__law_fraction : Cl l.prog w K mg base 4 "_law_fraction" spFraction := ⟨⟨f23, _, _, T__law_fraction, g23, F23.kp, b23⟩⟩
  have T__law_made_right := (ok__law_made_right F24 C__law_number C__law_pick C__law_is C_fraction_of CR_fraction_of X_fraction_of gC gT gIt xf nw te exC kk1 kk2 y_isinstance : FnOk l.prog w K mg base CX0 4 _ _ _ spRight)
  have C__law_made_right : Cl l.prog w K mg base 4 "_law_made_right" spRight := ⟨⟨f24, _, _, T__law_made_right, g24, F24.kp, b24⟩⟩
  have T__law_bottom_refused := (ok__law_bottom_refused F25 X_fraction_of gC xf nw te : FnOk l.prog w K mg base CX0 4 _ _ _ spRefused)
  have C__law_bottom_refused : Cl l.prog w K mg base 4 "_law_bottom_refused" spRefused := ⟨⟨f25, _, _, T__law_bottom_refused, g25, F25.kp, b25⟩⟩
  have C__law_two_right : ClG l.prog w K mg base 5 "_law_two_right" spRight := ⟨⟨f26, _, _, ok__law_two_right F26 C__law_fraction C__law_pick C__law_is C_added C_taken C_timed C_is_less CR_added CR_taken CR_timed CR_is_less y_repr, g26, F26.kp, b26⟩⟩
  have C__law_one_right : ClG l.prog w K mg base 5 "_law_one_right" spRight := ⟨⟨f27, _, _, ok__law_one_right F27 C__law_fraction C__law_pick C__law_draw C__law_is C_floor_of C_ceiling_of C_part_of C_opposite_of C_is_small CK_floor_of CK_ceiling_of CK_part_of CK_opposite_of CK_is_small y_repr y_isinstance y_bool y_int, g27, F27.kp, b27⟩⟩
  have C__law_many_right : ClG l.prog w K mg base 6 "_law_many_right" spRight := ⟨⟨f28, _, _, ok__law_many_right F28 C__law_fraction C__law_pick C__law_number C__law_is C_sum_of C_weighed C_least_of C_greatest_of CK_sum_of CR_weighed CK_least_of CK_greatest_of y_repr y_tuple y_range y_len y_int y_all, g28, F28.kp, b28⟩⟩
  have T__law_odd_right := (ok__law_odd_right F29 C__law_fraction C__law_pick C__law_coprime C_is_fraction CK_is_fraction y_repr y_tuple y_range y_len y_int y_all y_isinstance y_bool y_abs y_list : FnOk l.prog w K mg base CX0 5 _ _ _ spRight)
  have C__law_odd_right : Cl l.prog w K mg base 5 "_law_odd_right" spRight := ⟨⟨f29, _, _, T__law_odd_right, g29, F29.kp, b29⟩⟩
  exact ok_law F30 C__law_heap C__law_made_right C__law_two_right C__law_one_right C__law_many_right C__law_odd_right C__law_bottom_refused C_fraction_of C_added C_weighed C_floor_of C_ceiling_of C_part_of C_sum_of C_is_small C_least_of C_greatest_of C_is_fraction y_range y_int y_len y_all
end K2


open PySem PySem.W PyProof.Rows
set_option maxHeartbeats 0 in
theorem PySem.Challenge.cw_centsatonce_k02_whole_fractions_holds : PySem.Challenge.rw_centsatonce_k02_whole_fractions.Holds := by
  w_on; o_law; k_head; (case hw => w_witness2)
  k_fill
  refine VG.walk_G (l := PySem.Challenge.rw_centsatonce_k02_whole_fractions) (n := 63) (k := 7) (x := "script") (sp := fun w => FR.spLaw _) rfl (by decide) rfl ⟨rfl, by decide, by decide⟩ (fun w h Y => PySem.W.kIn_of Y) ?F (fun _ _ a ns hl _ _ hS => ⟨a, ns, rfl, hS, hl, fun _ => rfl⟩)
  case F =>
    intro w mg fa h KX G hmg
    refine' K2.all_mk KX G hmg ?a0 ?l0 ?c0 ?k0 ?a1 ?l1 ?c1 ?k1 ?a2 ?l2 ?c2 ?k2 ?a3 ?l3 ?c3 ?k3 ?a4 ?l4 ?c4 ?k4 ?a5 ?l5 ?c5 ?k5 ?a6 ?l6 ?c6 ?k6 ?a7 ?l7 ?c7 ?k7 ?a8 ?l8 ?c8 ?k8 ?a9 ?l9 ?c9 ?k9 ?a10 ?l10 ?c10 ?k10 ?a11 ?l11 ?c11 ?k11 ?a12 ?l12 ?c12 ?k12 ?a13 ?l13 ?c13 ?k13 ?a14 ?l14 ?c14 ?k14 ?a15 ?l15 ?c15 ?k15 ?a16 ?l16 ?c16 ?k16 ?a17 ?l17 ?c17 ?k17 ?a18 ?l18 ?c18 ?k18 ?a19 ?l19 ?c19 ?k19 ?a20 ?l20 ?c20 ?k20 ?a21 ?l21 ?c21 ?k21 ?a22 ?l22 ?c22 ?k22 ?a23 ?l23 ?c23 ?k23 ?a24 ?l24 ?c24 ?k24 ?a25 ?l25 ?c25 ?k25 ?a26 ?l26 ?c26 ?k26 ?a27 ?l27 ?c27 ?k27 ?a28 ?l28 ?c28 ?k28 ?a29 ?l29 ?c29 ?k29 ?a30 ?l30 ?c30 ?k30 ?aC ?aT ?aI ?xL ?sa ?ga ?gg ?nw ?iI ?tI ?lI ?cI ?kI ?kC ?eC ?tC ?hC ?sC ?xa ?xn ?xt ?xm ?sT ?sI ?iT ?iJ ?tT ?tJ ?aZ ?zL ?aG ?z_isinstance ?z_int ?z_bool ?z_tuple ?z_len ?z_abs ?z_max ?z_range ?z_zip ?z_all ?z_repr ?z_list
    (case a0 => k_is); (case l0 => k_is); (case c0 => k_is); (case k0 => k_is); (case a1 => k_is); (case l1 => k_is); (case c1 => k_is); (case k1 => k_is); (case a2 => k_is); (case l2 => k_is); (case c2 => k_is); (case k2 => k_is); (case a3 => k_is); (case l3 => k_is); (case c3 => k_is); (case k3 => k_is); (case a4 => k_is); (case l4 => k_is); (case c4 => k_is); (case k4 => k_is); (case a5 => k_is); (case l5 => k_is); (case c5 => k_is); (case k5 => k_is); (case a6 => k_is); (case l6 => k_is); (case c6 => k_is); (case k6 => k_is); (case a7 => k_is); (case l7 => k_is); (case c7 => k_is); (case k7 => k_is); (case a8 => k_is); (case l8 => k_is); (case c8 => k_is); (case k8 => k_is); (case a9 => k_is); (case l9 => k_is); (case c9 => k_is); (case k9 => k_is); (case a10 => k_is); (case l10 => k_is); (case c10 => k_is); (case k10 => k_is); (case a11 => k_is); (case l11 => k_is); (case c11 => k_is); (case k11 => k_is); (case a12 => k_is); (case l12 => k_is); (case c12 => k_is); (case k12 => k_is); (case a13 => k_is); (case l13 => k_is); (case c13 => k_is); (case k13 => k_is); (case a14 => k_is); (case l14 => k_is); (case c14 => k_is); (case k14 => k_is); (case a15 => k_is); (case l15 => k_is); (case c15 => k_is); (case k15 => k_is); (case a16 => k_is); (case l16 => k_is); (case c16 => k_is); (case k16 => k_is); (case a17 => k_is); (case l17 => k_is); (case c17 => k_is); (case k17 => k_is); (case a18 => k_is); (case l18 => k_is); (case c18 => k_is); (case k18 => k_is); (case a19 => k_is); (case l19 => k_is); (case c19 => k_is); (case k19 => k_is); (case a20 => k_is); (case l20 => k_is); (case c20 => k_is); (case k20 => k_is); (case a21 => k_is); (case l21 => k_is); (case c21 => k_is); (case k21 => k_is); (case a22 => k_is); (case l22 => k_is); (case c22 => k_is); (case k22 => k_is); (case a23 => k_is); (case l23 => k_is); (case c23 => k_is); (case k23 => k_is); (case a24 => k_is); (case l24 => k_is); (case c24 => k_is); (case k24 => k_is); (case a25 => k_is); (case l25 => k_is); (case c25 => k_is); (case k25 => k_is); (case a26 => k_is); (case l26 => k_is); (case c26 => k_is); (case k26 => k_is); (case a27 => k_is); (case l27 => k_is); (case c27 => k_is); (case k27 => k_is); (case a28 => k_is); (case l28 => k_is); (case c28 => k_is); (case k28 => k_is); (case a29 => k_is); (case l29 => k_is); (case c29 => k_is); (case k29 => k_is); (case a30 => k_is); (case l30 => k_is); (case c30 => k_is); (case k30 => k_is); (case aC => k_is); (case aT => k_is); (case aI => k_is); (case xL => k_is); (case sa => k_is); (case ga => k_is); (case gg => k_is); (case nw => k_is); (case iI => k_is); (case tI => k_is); (case lI => k_is); (case cI => k_is); (case kI => k_is); (case kC => k_is); (case eC => k_is); (case tC => k_is); (case hC => k_is); (case sC => first | rfl | k_is); (case xa => k_is); (case xn => k_is); (case xt => k_is); (case xm => k_is); (case sT => k_is); (case sI => k_is); (case iT => k_is); (case iJ => k_is); (case tT => k_is); (case tJ => k_is); (case aZ => k_is); (case zL => k_is); (case aG => k_is); (case z_isinstance => k_is); (case z_int => k_is); (case z_bool => k_is); (case z_tuple => k_is); (case z_len => k_is); (case z_abs => k_is); (case z_max => k_is); (case z_range => k_is); (case z_zip => k_is); (case z_all => k_is); (case z_repr => k_is); (case z_list => k_is)

