import PyProof.Rows.All
import Wide.All
import OpenK.AllK
import Wide.FinOn
import PyProof.ReprReads
import PyProof.ReprRoads
import PyProof.StrOps2
import HandS.ForMost
import HandS.Walk
import HandS.Style
import HandS.TupAny
import HandS.EndBits
import HandS.Codes
import HandS.FStrTup
import PySem.Challenge.RW_centsatonce_k05_marks_cut_and_joined
set_option Elab.async false
set_option linter.all false
set_option maxRecDepth 100000
set_option maxHeartbeats 4000000
namespace VG
open PySem PySem.Spec PyProof.Rows L2

/-! a def whose caller shows no repr under way -/
structure FnG (P : Program) (w : World) (K : PySem.W.Frag) (mg : Str → Option Value) (base : Heap) (k : Nat) (f : Addr) (fd : FuncData) (ps : List Str) (sp : Sp) : Prop where
  len : ∀ vs H Q E, sp vs H Q E → vs.length = ps.length
  run : ∀ (A : Around) (outer : List Env) (s : Shared) (H : Hp) (args : Args) (us : List Value) (vs : List V) (Q : VK) (E : XK),
    A.guards = some [] → Room k A → Env0 P w K mg base A outer s H → BindsTo s fd args (ps.zip us) → Vals vs us → sp vs H Q E →
    codeAny (model P w) A (.call (.ref f) args) (CR CX0 outer P w H s Q E) s

section
variable {P : Program} {w : World} {K : PySem.W.Frag} {mg : Str → Option Value} {base : Heap}

theorem fnG_of {k : Nat} {f : Addr} {x qual : Str} {st : Stmt} {fd : FuncData} {N ps : List Str} {sp : Sp} (F : Fun K x qual st f fd) (S : FnScope N ps (defScope st))
    (hlen : ∀ vs H Q E, sp vs H Q E → vs.length = ps.length)
    (hb : ∀ (cdv : Value) (A : Around) (outer : List Env) (s : Shared) (H : Hp) (vs : List V) (Q : VK) (E : XK), A.guards = some [] →
      Room k (A.deeper (envOfC qual (defScope st) s.heap.objs.size f cdv)) → sp vs H Q E →
      ∃ t, PSs (cxOf CX0 P w K mg base N qual (defScope st) f cdv A outer s H E).nox (defBody st) t ∧ t { nx := fun _ H' => Q .non H', rt := Q } (start N vs) H) :
    FnG P w K mg base (k + 1) f fd ps sp := by
  obtain ⟨oc, od, kV, doc, pm, an, cdv, ct, osl, rfl, lk, hcd⟩ := F.ex
  constructor
  · exact hlen
  · intro A outer s H args us vs Q E hg hr e0 hbi r hsp
    have nl := hlen _ _ _ _ hsp
    have inK : K.In s.heap := e0.mod.kin.keeps fun b o z => (e0.bs b o z).1
    have noL : s.heap.NoLimit := e0.mod.nolimit.keeps fun b o z => (e0.bs b o z).1
    have kinds : ∀ y ∈ ps.zip us, (defScope st).names.lookup y.1 = some .local ∨
        ((defScope st).names.lookup y.1 = some .cell ∧ ((cellsFrom (s.heap.objs.size + 1) (defScope st).names []).lookup y.1).isSome = true) := by
      intro y hy
      obtain ⟨n, v⟩ := y
      cases S.par n (List.of_mem_zip hy).1 with
      | inl q => exact Or.inl q
      | inr q => exact Or.inr ⟨q, PySem.W.cellsFrom_some _ _ _ (.inl q)⟩
    apply codeAny_call_function hr.depth (inK _ _ lk) rfl S.co S.gen rfl (PySem.W.codeRec_of inK hcd) (hbi _ _ _ _ _)
    apply wpAny_newFunctionEnv_cells S.kind kinds
    intro env he s1 xx
    subst he
    refine And.intro (noL.keeps xx.toInCall.keep) (codeAny_func ?_)
    obtain ⟨t, ht, hq⟩ := hb cdv A outer s H vs Q E hg (hr.deeper _) hsp
    have I := inv_start (CX := CX0) (P := P) (w := w) (E := E) S hr.hd e0 nl r xx
    apply wpAny_mono (ht.nox.run [] s1 (start N vs) H _ I hq)
    · intro fl s' hs
      cases fl with
      | ret u =>
        obtain ⟨v, σ', H', J, rv, q⟩ := hs
        exact ⟨v, H', J.os, J.bare, J.base, J.hok, rv, q⟩
      | next =>
        obtain ⟨σ', H', J, q⟩ := hs
        exact ⟨V.non, H', J.os, J.bare, J.base, J.hok, rfl, q⟩
      | brk =>
        obtain ⟨_, _, _, q⟩ := hs
        exact False.elim q
      | cont =>
        obtain ⟨_, _, _, q⟩ := hs
        exact False.elim q
    · intro e s' hs
      exact hs
end

/-! the law's own call, over FnG -/
theorem law_callG {P : Program} {w : World} {K : PySem.W.Frag} {mg mb : Str → Option Value} {k : Nat} {fa a : Addr} {fd : FuncData} {x : Str} {sp : Sp} {s₁ : Shared} {vs : List Value} {ns : List Int}
    (KX : K.In s₁.heap) (hns : s₁.heap.Ns mainGlobals mg) (hb : s₁.heap.Ns builtinsNs mb) (hbb : ∀ x : Str, x ≠ "__name__" → mb x = bootBuiltins x) (hlim : s₁.heap.NoLimit) (hg : s₁.gens = #[])
    (ha : s₁.heap.get? a = some { cls := .type "list", data := .seq vs.toArray }) (hi : IntsAre vs ns) (hl : ns.length ≤ sizeLine) (hr : Room k callerA)
    (F : ∀ base : Heap, K.In base → base.Ns mainGlobals mg → FnG P w K mg base k fa fd [x] sp) (hbind : ∀ (s : Shared) (u : Value), BindsTo s fd ⟨[u], []⟩ [(x, u)])
    (hsp : ∀ H : Hp, Only H → SqL K H a (ns.map V.int) → sp [.ref a] H (fun v _ => v = .bl true) fun _ _ _ => False) :
    codeAny (model P w) callerA (.call (.ref fa) ⟨[.ref a], []⟩) (fun r s' => r = .ok (.ret (.bool true)) ∧ OldK s₁.heap s'.heap ∧ s'.os = s₁.os ∧ AllBare s'.gens) s₁ := by
  have rv := vals_ints hi
  have nV := hi.length
  have main : ∀ H : Hp, Only H → SqL K H a (ns.map V.int) → HOk P w H s₁.heap → (∀ b, H b ≠ none → b = a) → (H a ≠ none → K.lookup a = none) →
      codeAny (model P w) callerA (.call (.ref fa) ⟨[.ref a], []⟩) (fun r s' => r = .ok (.ret (.bool true)) ∧ OldK s₁.heap s'.heap ∧ s'.os = s₁.os ∧ AllBare s'.gens) s₁ := by
    intro H hO hS hok hA hK
    have only : ∀ {b : Addr}, b ≠ a → H b = none := by
      intro b hne
      cases q : H b with
      | none => rfl
      | some u => exact absurd (hA b (by rw [q]; exact Option.some_ne_none u)) hne
    have nsK : ∀ {b : Addr} {m : Str → Option Value}, s₁.heap.Ns b m → (hidT s₁.heap H).Ns b m := by
      intro b m z
      obtain ⟨o, es, ep, e, d, r⟩ := z
      refine ⟨o, es, ep, hidT_get e (only ?_), d, r⟩
      intro z
      subst z
      rw [ha] at e
      cases e
      cases d
    have inB : K.In (hidT s₁.heap H) := by
      intro b o e
      refine hidT_get (KX b o e) ?_
      cases q : H b with
      | none => rfl
      | some u =>
        have hb2 : b = a := hA b (by rw [q]; exact Option.some_ne_none u)
        subst hb2
        have := hK (by rw [q]; exact Option.some_ne_none u)
        rw [this] at e
        cases e
    have hM : Mod K mg (hidT s₁.heap H) := ⟨inB, nsK hns, ⟨mb, nsK hb, hbb⟩, by
      obtain ⟨mc, h1, h2⟩ := hlim
      exact ⟨mc, nsK h1, h2⟩⟩
    have e0 : Env0 P w K mg (hidT s₁.heap H) callerA [] s₁ H :=
      ⟨rfl, hM, fun b o e => of_hidT e, Nat.le_of_eq (hidT_size _ _), trivial, fun b hb => absurd (show b ∈ ([] : List Addr) from hb) List.not_mem_nil, hok, .of_eq hg⟩
    have run := (F _ inB (nsK hns)).run callerA [] s₁ H ⟨[.ref a], []⟩ [.ref a] [.ref a] _ _ rfl hr e0 (hbind s₁ (.ref a)) (.cons rfl .nil) (hsp H hO hS)
    apply codeAny_mono run
    intro r s' h
    match r, h with
    | .ok (.ret u), h =>
      obtain ⟨v, H', os, bare, un, hok', r', q⟩ := h
      have q' : v = .bl true := q
      subst q'
      have r2 : u = Value.bool true := r'
      subst r2
      refine ⟨rfl, OldK.of_keep ?_, os, bare⟩
      intro b o e
      cases q : H b with
      | none => exact un.keep b o e q (fun z => absurd (show b ∈ ([] : List Addr) from z) List.not_mem_nil) List.not_mem_nil
      | some u =>
        rcases hO b with z | ⟨ob, xs, z⟩
        · rw [q] at z
          cases z
        · have z2 := un.frzs b ob _ z
          have w1 := (hok b _ z).1
          have w2 := (hok' b _ z2).1
          rw [e] at w1
          cases w1
          exact w2
  cases hk : K.lookup a with
  | some o =>
    have e := KX a o hk
    rw [ha] at e
    cases e
    refine main (fun _ => none) (fun _ => .inl rfl) (.inr ⟨_, vs.toArray, _, hk, rfl, rfl, rfl, ?_, ?_⟩) (fun b u z => ?_) (fun b z => absurd rfl z) (fun z => absurd rfl z)
    · rw [List.size_toArray, nV]
      exact hl
    · simpa using rv
    · exact absurd (show (none : Option HO) = some u from z) (Option.some_ne_none u).symm
  | none =>
    refine main (fun b => if b = a then some (.frz { cls := .type "list", data := .seq vs.toArray } (.lst (ns.map V.int))) else none) ?_ (.inl (.inr ⟨{ cls := .type "list", data := .seq vs.toArray }, if_pos rfl⟩)) ?_ ?_ (fun _ => hk)
    · intro b
      by_cases hb : b = a
      · exact .inr ⟨_, _, if_pos hb⟩
      · exact .inl (if_neg hb)
    · intro b u z
      by_cases hb : b = a
      · subst hb
        have z' := (if_pos rfl).symm.trans z
        cases z'
        refine ⟨ha, ?_, vs, _, rv, ha⟩
        rw [List.length_map]
        exact hl
      · have z' := (if_neg hb).symm.trans z
        cases z'
    · intro b z
      by_cases hb : b = a
      · exact hb
      · exact absurd (if_neg hb) z

theorem walk_G {l : PySem.W.OpenLaw} {n k : Nat} {q : Program} {loose : List Str} {XP : (Str → Option Value) → Heap → Prop} {YP : World → Heap → Prop} {d : DefRec} {K : Params → PySem.W.Frag} {sp : World → Sp} {x : Str}
    (hn : l.most = some n) (hn2 : n ≤ sizeLine) (hdf : d.params.defaults = []) (hr : Room k callerA)
    (hY : ∀ (w : World) (h : Heap), YP w h → (K w.params).In h)
    (F : ∀ (w : World) (mg : Str → Option Value) (fa : Addr) (h : Heap), (K w.params).In h → h.Ns mainGlobals mg → mg d.name = some (.ref fa) →
      ∃ fd : FuncData, (∀ (s : Shared) (u : Value), BindsTo s fd ⟨[u], []⟩ [(x, u)]) ∧
        ∀ base : Heap, (K w.params).In base → base.Ns mainGlobals mg → FnG l.prog w (K w.params) mg base k fa fd [x] (sp w))
    (hsp : ∀ (w : World) (H : Hp) (a : Addr) (ns : List Int), ns.length ≤ n → (∀ z ∈ ns, Builtin.Int.intBits z ≤ 1048576) → Only H → SqL (K w.params) H a (ns.map V.int) → sp w [.ref a] H (fun v _ => v = .bl true) fun _ _ _ => False) :
    PySem.W.WalkO q loose XP YP l.row.toRowW d [] (fun f vs => PySem.call f vs) := by
  apply Att.attach_callB hn hdf
  intro w s₀ s₁ mg mb fa o pm cd doc a vs ns G Y ho hd hcd hmg hobj hints hlen hbits hg
  have KX := hY w _ Y
  obtain ⟨fd, hb, hF⟩ := F w mg fa _ KX G.T.g hmg
  exact law_callG KX G.T.g G.T.b G.T.builtins G.T.nolimit hg hobj hints (Nat.le_trans hlen hn2) hr hF hb fun H hO hS => hsp w H a ns hlen hbits hO hS
end VG


namespace VG
open PySem PySem.Spec PyProof.Rows L2

/-! a statement whose ways meet in one word J -/
section
variable {X : Cx} {st : Stmt} {rest : List Stmt} {t u : TS}
def tCut (t u : TS) : TS := fun D σ H => ∃ J : L2.St → Hp → Prop, t { D with nx := J } σ H ∧ ∀ σ' H', J σ' H' → u D σ' H'
theorem pss_cut (h1 : PS X st t) (h2 : PSs X rest u) : PSs X (st :: rest) (tCut t u) := by
  constructor
  intro pins s σ H D I h
  obtain ⟨J, a, b⟩ := h
  apply wpAny_execs_cons
  apply thn (h1.run pins s σ H { D with nx := J } I a)
  intro f s1 q
  cases f with
  | next =>
    obtain ⟨σ', H', I', q⟩ := q
    exact h2.run pins s1 σ' H' D I' (b σ' H' q)
  | ret v => exact q
  | brk => exact q
  | cont => exact q
end

/-! a test, an expression whose ways meet in one word J -/
section
variable {X : Cx} {e : Expr} {c : TT} {te : TE}
def tMeet (c : TT) : TT := fun σ H Q => ∃ J : Bool → Hp → Prop, c σ H J ∧ ∀ b H', J b H' → Q b H'
theorem pt_meet (h : PT X e c) : PT X e (tMeet c) := by
  constructor
  intro pins s σ H Q I hh
  obtain ⟨J, a, b⟩ := hh
  apply thn (h.run pins s σ H J I a)
  intro d s1 q
  obtain ⟨H', I', q⟩ := q
  exact ⟨H', I', b _ _ q⟩
def tMeetE (te : TE) : TE := fun σ H Q => ∃ J : V → Hp → Prop, te σ H J ∧ ∀ v H', J v H' → Q v H'
theorem pe_meet (h : PE X e te) : PE X e (tMeetE te) := by
  constructor
  intro pins s σ H Q I hh
  obtain ⟨J, a, b⟩ := hh
  apply thn (h.run pins s σ H J I a)
  intro d s1 q
  obtain ⟨v, H', I', r, q⟩ := q
  exact ⟨v, H', I', r, b _ _ q⟩
end

/-! a def that is called by its name, all its facts in one -/
structure Cl (P : Program) (w : World) (K : PySem.W.Frag) (mg : Str → Option Value) (base : Heap) (k : Nat) (x : Str) (sp : Sp) : Prop where
  ex : ∃ (f : Addr) (fd : FuncData) (ps : List Str), FnOk P w K mg base CX0 k f fd ps sp ∧ mg x = some (.ref f) ∧ PySem.W.keepIn K (.ref f) = true ∧ Binds K fd ps []

section
variable {X : Cx} {k j : Nat} {x : Str} {sp : Sp} {p pos : Pos} {e : Expr} {es : List Expr} {t : TA}
theorem pe_cl (c : Cl X.prog X.w X.K X.mg X.base k x sp) (hr : Room j X.A) (hk : k ≤ j) (hg : Gl X x) (ha : PA X (e :: es) t)
    (h1 : (x == ("__debug__" : Str)) = false := by decide) (h2 : starEach (e :: es) X.env = (false, eval e X.env) :: starEach es X.env := by rfl)
    (h3 : (backTo pos (starEach es X.env)).any (·.1) = false := by rfl) : PE X (.Call (.Name x p) (e :: es) [] pos) (tCall sp [] E0 t) :=
  let ⟨_, _, _, F, m, kp, b⟩ := c.ex
  pe_call F (hr.mono hk) hg m kp b .nil pass0 ha h1 h2 h3

/-- a module's name that holds a text -/
theorem pe_gs {z : Str} (hg : Gl X x) (h : ∃ u, X.mg x = some (.str z u)) (h1 : (x == ("__debug__" : Str)) = false := by decide) :
    PE X (.Name x pos) (tC (.str z)) := by
  obtain ⟨u, m⟩ := h
  exact pe_glob (v := .str z) hg m ⟨u, rfl⟩ h1

/-- repr of data, where no repr is under way -/
def rRepr (K : PySem.W.Frag) : List V → Hp → VK → Prop := fun xs H Q =>
  ∃ a d, xs = [.ref a] ∧ Dp K H (.ref a) d ∧ d.showable = true ∧ d.hasDict = false ∧ d.depth ≤ 60 ∧ d.shown.length ≤ sizeLine ∧ Q (.str d.shown) H
theorem cr_repr (hg : X.A.guards = some []) (hu : X.A.units + 64 < cLine) : CallR X (.builtin "repr") (rRepr X.K) := by
  intro pins s σ H vs us Q I r h
  obtain ⟨a, d, rfl, hd, h1, h2, h3, h4, q⟩ := h
  rw [Vals.ref1 r]
  obtain ⟨as, rd⟩ := Dp.reads I d (.ref a) (.ref a) hd rfl
  refine repr_of_reads' rd h1 (PyData.noDict_hsm h2) hg (by omega) (fun _ _ z => z) (fun h' u tk hk => ?_) h4
  exact ⟨.str d.shown, H, I.kept hk, ⟨u, rfl⟩, q⟩

/-- a text, n times -/
def repL (l : List Nat) : Nat → List Nat
  | 0 => []
  | n + 1 => l ++ repL l n
theorem repL_len (l : List Nat) : ∀ n, (repL l n).length = l.length * n
  | 0 => rfl
  | n + 1 => by
    show (l ++ repL l n).length = l.length * (n + 1)
    rw [List.length_append, repL_len l n, Nat.mul_succ, Nat.add_comm]
theorem fold_rep (a : Array Nat) : ∀ (n : Nat) (acc : Array Nat), ((List.replicate n a).foldl (· ++ ·) acc).toList = acc.toList ++ repL a.toList n
  | 0, acc => by simp [repL]
  | n + 1, acc => by
    rw [List.replicate_succ, List.foldl_cons, fold_rep a n]
    simp [repL]
theorem op_mulStr : OpR X (binaryOp .Mult) (fun x y H Q => ∃ (z : Str) (n : Nat), x = .str z ∧ y = .int n ∧ 1 ≤ n ∧ n ≤ 1000 ∧ 1 ≤ z.length ∧ z.length ≤ 1000 ∧
    Q (.str ⟨(repL z.cps.toList n).toArray⟩) H) := by
  intro pins s σ H x y v u Q I rx ry h
  obtain ⟨z, n, rfl, rfl, n2, n3, z1, z2, q⟩ := h
  obtain ⟨t, rfl⟩ := rx
  obtain ⟨t', rfl⟩ := ry
  have hlen : z.length * n ≤ 1000000 := Nat.le_trans (Nat.mul_le_mul z2 n3) (by decide)
  refine P.mul_str ?_ ?_ ?_ ?_
  · rw [decide_eq_false (by omega), decide_eq_false (by omega)]
    rfl
  · intro _ _ hh
    have e1 : (9223372036854775807 : Int) / (n : Int) ≥ 9223372036854775 := by
      refine Int.le_ediv_of_mul_le (by omega) ?_
      have : (n : Int) ≤ 1000 := by omega
      omega
    have e2 : ((2 : Int) ^ 63 - 1) = 9223372036854775807 := by decide
    rw [e2] at hh
    omega
  · intro _ _
    unfold PySem.Builtin.Str.tooLong
    rw [Int.toNat_natCast]
    have : z.length * n ≤ sizeLine := Nat.le_trans hlen (by decide)
    first
      | exact decide_eq_false (by omega)
      | (simp only [decide_eq_false_iff_not, gt_iff_lt, Nat.not_lt]; omega)
  · rw [if_neg (by omega)]
    by_cases hn1 : n = 1
    · subst hn1
      rw [if_pos (by rfl)]
      have e5 : (⟨(repL z.cps.toList 1).toArray⟩ : Str) = z := by
        show (⟨(z.cps.toList ++ []).toArray⟩ : Str) = z
        rw [List.append_nil]
      rw [e5] at q
      exact ⟨.str z, H, I, ⟨t, rfl⟩, q⟩
    have hc : (((n : Int) == 1) || (z.length == 0)) = false := by
      rw [Bool.or_eq_false_iff]
      exact ⟨beq_eq_false_iff_ne.mpr (by omega), beq_eq_false_iff_ne.mpr (by omega)⟩
    rw [hc, if_neg Bool.false_ne_true]
    have e3 := fold_rep z.cps n #[]
    rw [List.nil_append] at e3
    have e4 : (⟨(List.replicate ((n : Int)).toNat z.cps).foldl (· ++ ·) #[]⟩ : Str) = ⟨(repL z.cps.toList n).toArray⟩ := by
      rw [Int.toNat_natCast, ← e3]
    rw [e4]
    refine ⟨?_, ?_⟩
    · show ((repL z.cps.toList n).toArray).size ≤ sizeLine
      rw [List.size_toArray, repL_len, Array.length_toList]
      exact Nat.le_trans hlen (by decide)
    · exact ⟨.str _, H, I.tok _, ⟨_, rfl⟩, q⟩
end
end VG


namespace VG
open PySem PySem.Spec PyProof.Rows L2
/-! a call by keywords alone -/
structure ClK (P : Program) (w : World) (K : PySem.W.Frag) (mg : Str → Option Value) (base : Heap) (k : Nat) (x : Str) (ks : List Str) (sp : Sp) : Prop where
  ex : ∃ (f : Addr) (fd : FuncData) (ps : List Str), FnOk P w K mg base CX0 k f fd ps sp ∧ mg x = some (.ref f) ∧ PySem.W.keepIn K (.ref f) = true ∧ KBinds K fd ps ks (fun us ws => us ++ ws) (fun vs zs => vs ++ zs)
section
variable {X : Cx} {k j : Nat} {x : Str} {sp : Sp} {p pos : Pos} {kws : List Keyword} {ks : List Str} {tk : TA}
def tCallK0 (sp : Sp) (tk : TA) : TE := fun σ H Q => tk σ H fun zs H2 => sp zs H2 Q E0
theorem pe_clk0 (c : ClK X.prog X.w X.K X.mg X.base k x ks sp) (hr : Room j X.A) (hk : k ≤ j) (hg : Gl X x) (hkw : PK X kws tk)
    (h1 : (backToKw pos (keywordEach kws X.env)).all (·.1.isSome) = true := by rfl) (h2 : (backToKw pos (keywordEach kws X.env)).filterMap (·.1) = ks := by rfl)
    (h3 : (x == ("__debug__" : Str)) = false := by decide) (h4 : ((backTo pos (starEach [] X.env)).any (·.1) || (backToKw pos (keywordEach kws X.env)).any (·.1.isNone)) = false := by rfl) :
    PE X (.Call (.Name x p) [] kws pos) (tCallK0 sp tk) := by
  obtain ⟨f, fd, ps, F, m, kp, b⟩ := c.ex
  constructor
  intro pins s σ H Q I h
  apply wpAny_Call_Name_kw
  apply ld_glob I hg m _ h3
  apply PySem.W.callWith_KW0 (h₀ := X.base) I.ok.mod.kin kp h1 _ h4
  apply thn (hkw.run pos pins s σ H _ I h)
  intro ws s2 hh
  obtain ⟨zs, H2, I2, rz, q2⟩ := hh
  refine And.intro I2.kIn ?_
  rw [h2]
  exact run_fnk (us := []) (vs := []) F (hr.mono hk) b pass0 I2 .nil rz q2
end
section
variable {P : Program} {w : World} {K : PySem.W.Frag} {mg : Str → Option Value} {base : Heap}
/-- one parameter, given by position or by its name -/
theorem kbinds_one {x qual p : Str} {st : Stmt} {f : Addr} {fd : FuncData} (F : Fun K x qual st f fd)
    (h1 : ∀ (kV doc pm : Value) (an : Option Addr) (cdv ct u : Value), bindArgs (PySem.W.fnOf x qual (defArgs st) (defBody st) (defScope st) .none kV doc pm an cdv ct) ⟨[u], []⟩ = pure [(p, u)])
    (h2 : ∀ (kV doc pm : Value) (an : Option Addr) (cdv ct u : Value), bindArgs (PySem.W.fnOf x qual (defArgs st) (defBody st) (defScope st) .none kV doc pm an cdv ct) ⟨[], [(p, u)]⟩ = pure [(p, u)]) :
    KBinds K fd [p] [p] (fun us ws => us ++ ws) (fun vs zs => vs ++ zs) := by
  obtain ⟨oc, od, kV, doc, pm, an, cdv, ct, osl, rfl, lk, hcd⟩ := F.ex
  constructor
  · intro s us ws _ hl
    match us, ws, hl with
    | [u], [], _ => exact .of_eq (h1 kV doc pm an cdv ct u)
    | [], [u], _ => exact .of_eq (h2 kV doc pm an cdv ct u)
    | [], [], hl => cases hl
    | [], _ :: _ :: _, hl => cases hl
    | [_], _ :: _, hl => cases hl
    | _ :: _ :: _, ws, hl =>
      simp at hl
  · intro vs us zs ws r1 r2
    exact r1.append r2
end
end VG


/-! the draws of a law: a list of numbers and one number more, from which all is drawn -/
namespace HD
open PySem PySem.Spec PyProof.Rows L2 VG
def Hd (p q : Addr) (H : Hp) : Prop := ∃ (cs : List Int) (st : Int), H p = some (.lst [.ref q, .int st]) ∧ H q = some (.lst (cs.map V.int)) ∧ cs.length ≤ 63 ∧ 0 ≤ st ∧ st < 2147483647
def Keep (p q : Addr) (H H' : Hp) : Prop := ∀ b o, b ≠ p → b ≠ q → H b = some o → H' b = some o
theorem Keep.refl (p q : Addr) (H : Hp) : Keep p q H H := fun _ _ _ _ h => h
theorem Keep.trans {p q : Addr} {H H1 H2 : Hp} (a : Keep p q H H1) (b : Keep p q H1 H2) : Keep p q H H2 := fun x o n1 n2 h => b x o n1 n2 (a x o n1 n2 h)
theorem Keep.of_same {p q : Addr} {H H1 : Hp} (a : Same H H1) : Keep p q H H1 := fun x o _ _ h => a x o h
theorem Keep.new {p q n : Addr} {o : HO} {H : Hp} (h : H n = none) : Keep p q H (upd H n o) := fun b x _ _ e => by
  rw [upd_ne (ne_of_none e h)]
  exact e
theorem Keep.at1 {p q : Addr} {o : HO} {H : Hp} : Keep p q H (upd H p o) := fun b x h _ e => by
  rw [upd_ne h]
  exact e
theorem Keep.at2 {p q : Addr} {o : HO} {H : Hp} : Keep p q H (upd H q o) := fun b x _ h e => by
  rw [upd_ne h]
  exact e
theorem Hd.ne {p q : Addr} {H : Hp} (h : Hd p q H) : p ≠ q := by
  obtain ⟨cs, st, h1, h2, _⟩ := h
  intro e
  subst e
  rw [h1] at h2
  cases cs with
  | nil => cases h2
  | cons c r => cases h2
theorem Hd.new {p q n : Addr} {o : HO} {H : Hp} (h : Hd p q H) (hn : H n = none) : Hd p q (upd H n o) := by
  obtain ⟨cs, st, h1, h2, h3⟩ := h
  exact ⟨cs, st, by rw [upd_ne (ne_of_none h1 hn)]; exact h1, by rw [upd_ne (ne_of_none h2 hn)]; exact h2, h3⟩
theorem Hd.neOf {p q n : Addr} {o : HO} {H : Hp} (h : Hd p q H) (hn : H n = some o) (ho : ∀ xs, o ≠ .lst xs) : n ≠ p ∧ n ≠ q := by
  obtain ⟨cs, st, h1, h2, _⟩ := h
  constructor
  · intro e
    subst e
    rw [h1] at hn
    exact ho _ (Option.some.inj hn).symm
  · intro e
    subst e
    rw [h2] at hn
    exact ho _ (Option.some.inj hn).symm
theorem Hd.free {p q n : Addr} {H : Hp} (h : Hd p q H) (hn : H n = none) : n ≠ p ∧ n ≠ q := by
  obtain ⟨cs, st, h1, h2, _⟩ := h
  exact ⟨(ne_of_none h1 hn).symm, (ne_of_none h2 hn).symm⟩

/-! lists of ints as data -/
theorem dpAll_ints (K : PySem.W.Frag) (H : Hp) : ∀ cs : List Int, DpAll K H (cs.map V.int) (cs.map PyData.int)
  | [] => .nil
  | c :: cs => .cons (.int c) (dpAll_ints K H cs)
theorem dp_ints {K : PySem.W.Frag} {H : Hp} {q : Addr} {cs : List Int} (h : SqL K H q (cs.map V.int)) : Dp K H (.ref q) (.list (cs.map PyData.int)) := .lst h (dpAll_ints K H cs)
theorem lay_ints : ∀ cs : List Int, PyData.canLayAll0 (cs.map PyData.int) = true
  | [] => rfl
  | c :: cs => by
    show (PyData.canLay0 (.int c) && PyData.canLayAll0 (cs.map PyData.int)) = true
    rw [lay_ints cs]
    rfl
theorem depth_ints : ∀ cs : List Int, PyData.depthAll (cs.map PyData.int) = 0
  | [] => rfl
  | c :: cs => by
    show max (PyData.depth (.int c)) (PyData.depthAll (cs.map PyData.int)) = 0
    rw [depth_ints cs]
    rfl
theorem shaped_ints (cs : List Int) : SeqAt.shaped (.list (cs.map PyData.int)) = true := by
  unfold SeqAt.shaped
  rw [Bool.and_eq_true]
  refine ⟨?_, decide_eq_true ?_⟩
  · show PyData.canLayAll0 (cs.map PyData.int) = true
    exact lay_ints cs
  · show PyData.depthAll (cs.map PyData.int) + 1 ≤ 64
    rw [depth_ints]
    decide
theorem shaped_nil : SeqAt.shaped (.list []) = true := by decide +kernel
theorem eqv_nil (cs : List Int) : PyData.eqv (.list (cs.map PyData.int)) (.list []) = decide (cs = []) := by
  cases cs with
  | nil => rfl
  | cons c r => rfl

section
variable {P : Program} {w : World} {K : PySem.W.Frag} {mg : Str → Option Value} {base : Heap}
/-- a draw: some number below many -/
def spDraw : Sp := fun vs H Q _ => ∃ (p q : Addr) (many : Int), vs = [.ref p, .int many] ∧ Hd p q H ∧ 0 < many ∧ many < 1073741824 ∧ ∀ (H' : Hp) (r : Int), Hd p q H' → Keep p q H H' → 0 ≤ r → r < many → Q (.int r) H'
/-- one of some -/
def spPick (K : PySem.W.Frag) : Sp := fun vs H Q _ => ∃ (p q l : Addr) (xs : List V), vs = [.ref p, .ref l] ∧ Hd p q H ∧ H l = some (.lst xs) ∧ l ≠ p ∧ l ≠ q ∧ xs ≠ [] ∧ xs.length < 1000000 ∧ ∀ (H' : Hp) (v : V), Hd p q H' → Keep p q H H' → v ∈ xs → Q v H'
end
theorem snocL {α : Type} (cs : List α) (h : cs ≠ []) : ∃ c0 c, cs = c0 ++ [c] := ⟨cs.dropLast, cs.getLast h, (List.dropLast_concat_getLast h).symm⟩
theorem fmod_lt (a : Int) {m : Int} (h : 0 < m) : 0 ≤ a.fmod m ∧ a.fmod m < m := ⟨Int.fmod_nonneg_of_pos a h, Int.fmod_lt_of_pos a h⟩
end HD


namespace M5
/-! texts as lists of codes: their marks, by runs; the same by a fold over the signs -/
def sortOf (c : Nat) : Nat := if 97 ≤ c ∧ c ≤ 122 then 1 else if 48 ≤ c ∧ c ≤ 57 then 2 else 0
def same (c d : Nat) : Bool := sortOf c != 0 && sortOf d == sortOf c
abbrev Mrk := Nat × Nat × List Nat
def specF : Nat → Nat → Nat → List Nat → List Mrk
  | 0, _, _, _ => []
  | _ + 1, _, _, [] => []
  | n + 1, l, a, c :: cs =>
    let t := if c = 10 then specF n (l + 1) 0 (cs.dropWhile (same c)) else specF n l (a + 1 + (cs.takeWhile (same c)).length) (cs.dropWhile (same c))
    if c = 32 then t else (l, a, c :: cs.takeWhile (same c)) :: t
def spec (l a : Nat) (cs : List Nat) : List Mrk := specF cs.length l a cs
theorem drop_le (p : Nat → Bool) : ∀ cs : List Nat, (cs.dropWhile p).length ≤ cs.length
  | [] => Nat.le_refl _
  | c :: cs => by
    rw [List.dropWhile_cons]
    have := drop_le p cs
    split
    · rw [List.length_cons]; omega
    · exact Nat.le_refl _
theorem specF_any : ∀ (n m l a : Nat) (cs : List Nat), cs.length ≤ n → cs.length ≤ m → specF n l a cs = specF m l a cs
  | 0, 0, _, _, _, _, _ => rfl
  | 0, m + 1, _, _, [], _, _ => rfl
  | n + 1, 0, _, _, [], _, _ => rfl
  | n + 1, m + 1, _, _, [], _, _ => rfl
  | 0, _, _, _, _ :: _, h, _ => by simp at h
  | _, 0, _, _, _ :: _, _, h => by simp at h
  | n + 1, m + 1, l, a, c :: cs, h1, h2 => by
    have hd := drop_le (same c) cs
    rw [List.length_cons] at h1 h2
    have e1 := specF_any n m (l + 1) 0 (cs.dropWhile (same c)) (by omega) (by omega)
    have e2 := specF_any n m l (a + 1 + (cs.takeWhile (same c)).length) (cs.dropWhile (same c)) (by omega) (by omega)
    show (if c = 32 then _ else _) = (if c = 32 then _ else _)
    rw [e1, e2]
theorem spec_nil (l a : Nat) : spec l a [] = [] := rfl
theorem spec_cons (l a c : Nat) (cs : List Nat) : spec l a (c :: cs) =
    if c = 32 then (if c = 10 then spec (l + 1) 0 (cs.dropWhile (same c)) else spec l (a + 1 + (cs.takeWhile (same c)).length) (cs.dropWhile (same c)))
    else (l, a, c :: cs.takeWhile (same c)) :: (if c = 10 then spec (l + 1) 0 (cs.dropWhile (same c)) else spec l (a + 1 + (cs.takeWhile (same c)).length) (cs.dropWhile (same c))) := by
  have hd := drop_le (same c) cs
  have e1 := specF_any cs.length (cs.dropWhile (same c)).length (l + 1) 0 (cs.dropWhile (same c)) hd (Nat.le_refl _)
  have e2 := specF_any cs.length (cs.dropWhile (same c)).length l (a + 1 + (cs.takeWhile (same c)).length) (cs.dropWhile (same c)) hd (Nat.le_refl _)
  unfold spec
  rw [← e1, ← e2]
  rfl
theorem same_zero {c : Nat} (h : sortOf c = 0) (d : Nat) : same c d = false := by
  unfold same
  rw [h]
  rfl
theorem same_pos {c : Nat} (h : sortOf c ≠ 0) : same c = fun d => sortOf d == sortOf c := by
  funext d
  unfold same
  rw [bne_iff_ne.mpr h, Bool.true_and]
theorem tw_zero {c : Nat} (h : sortOf c = 0) (cs : List Nat) : cs.takeWhile (same c) = [] := by
  cases cs with
  | nil => rfl
  | cons d r => rw [List.takeWhile_cons, same_zero h d, if_neg Bool.false_ne_true]
theorem dw_zero {c : Nat} (h : sortOf c = 0) (cs : List Nat) : cs.dropWhile (same c) = cs := by
  cases cs with
  | nil => rfl
  | cons d r => rw [List.dropWhile_cons, same_zero h d, if_neg Bool.false_ne_true]
theorem spec_blank (l a : Nat) (cs : List Nat) : spec l a (32 :: cs) = spec l (a + 1) cs := by
  rw [spec_cons, if_pos rfl, if_neg (by decide), tw_zero (c := 32) (by decide), dw_zero (c := 32) (by decide)]
  rfl
theorem spec_line (l a : Nat) (cs : List Nat) : spec l a (10 :: cs) = (l, a, [10]) :: spec (l + 1) 0 cs := by
  rw [spec_cons, if_neg (by decide), if_pos rfl, tw_zero (c := 10) (by decide), dw_zero (c := 10) (by decide)]
theorem spec_one (l a : Nat) {c : Nat} (cs : List Nat) (h : sortOf c = 0) (h1 : c ≠ 32) (h2 : c ≠ 10) : spec l a (c :: cs) = (l, a, [c]) :: spec l (a + 1) cs := by
  rw [spec_cons, if_neg h1, if_neg h2, tw_zero h, dw_zero h]
  rfl
theorem sort_ne {c : Nat} (h : sortOf c ≠ 0) : c ≠ 32 ∧ c ≠ 10 := ⟨fun e => h (by rw [e]; decide), fun e => h (by rw [e]; decide)⟩
theorem spec_run (l a : Nat) {c : Nat} (cs : List Nat) (h : sortOf c ≠ 0) : spec l a (c :: cs) =
    (l, a, c :: cs.takeWhile (fun d => sortOf d == sortOf c)) :: spec l (a + 1 + (cs.takeWhile (fun d => sortOf d == sortOf c)).length) (cs.dropWhile (fun d => sortOf d == sortOf c)) := by
  rw [spec_cons, if_neg (sort_ne h).1, if_neg (sort_ne h).2, same_pos h]
/-! a run, walked sign by sign -/
theorem tw_step (p : Nat → Bool) : ∀ (l : List Nat) (j d : Nat), j ≤ (l.takeWhile p).length → l[j]? = some d → p d = true → j + 1 ≤ (l.takeWhile p).length
  | [], j, d, _, h, _ => by simp at h
  | c :: l, 0, d, _, h, hp => by
    have e : c = d := Option.some.inj h
    subst e
    rw [List.takeWhile_cons, if_pos hp, List.length_cons]
    omega
  | c :: l, j + 1, d, hj, h, hp => by
    rw [List.takeWhile_cons] at hj ⊢
    split at hj
    · rename_i hc
      rw [if_pos hc, List.length_cons]
      rw [List.length_cons] at hj
      have := tw_step p l j d (by omega) h hp
      omega
    · simp at hj
theorem tw_stop (p : Nat → Bool) : ∀ (l : List Nat) (j d : Nat), j < (l.takeWhile p).length → l[j]? = some d → p d = true
  | [], j, d, _, h => by simp at h
  | c :: l, 0, d, hj, h => by
    have e : c = d := Option.some.inj h
    subst e
    rw [List.takeWhile_cons] at hj
    split at hj
    · assumption
    · simp at hj
  | c :: l, j + 1, d, hj, h => by
    rw [List.takeWhile_cons] at hj
    split at hj
    · rw [List.length_cons] at hj
      exact tw_stop p l j d (by omega) h
    · simp at hj
theorem tw_len (p : Nat → Bool) (l : List Nat) : (l.takeWhile p).length + (l.dropWhile p).length = l.length := by
  have := congrArg List.length (List.takeWhile_append_dropWhile (p := p) (l := l))
  rw [List.length_append] at this
  exact this
theorem tw_take (p : Nat → Bool) : ∀ l : List Nat, l.take (l.takeWhile p).length = l.takeWhile p
  | [] => rfl
  | c :: l => by
    rw [List.takeWhile_cons]
    split
    · rw [List.length_cons, List.take_succ_cons, tw_take p l]
    · rfl
theorem tw_drop (p : Nat → Bool) : ∀ l : List Nat, l.drop (l.takeWhile p).length = l.dropWhile p
  | [] => rfl
  | c :: l => by
    rw [List.takeWhile_cons, List.dropWhile_cons]
    split
    · rw [List.length_cons, List.drop_succ_cons, tw_drop p l]
    · rfl
/-! the fold -/
structure Fm where
  l : Nat
  a : Nat
  m : List Nat
  k : Nat
def Fm.strip (x : Fm) : Mrk := (x.l, x.a, x.m)
def hits (F : List Fm) (l a s : Nat) : Bool := match F.getLast? with
  | none => false
  | some x => decide (x.k = s ∧ x.l = l ∧ x.a + x.m.length = a)
def stepF (F : List Fm) (l a c : Nat) : List Fm :=
  if sortOf c > 0 ∧ hits F l a (sortOf c) = true then (match F.getLast? with
    | none => F
    | some x => F.dropLast ++ [{ x with m := x.m ++ [c] }])
  else if c = 32 then F else F ++ [⟨l, a, [c], sortOf c⟩]
def nextL (l c : Nat) : Nat := if c = 10 then l + 1 else l
def nextA (a c : Nat) : Nat := if c = 10 then 0 else a + 1
def Open (F : List Fm) (l a : Nat) (rest : List Nat) (t : List Mrk) : Prop :=
  ∃ F0 a0 m k, F = F0 ++ [⟨l, a0, m, k⟩] ∧ k ≠ 0 ∧ a0 + m.length = a ∧
    F0.map Fm.strip ++ (l, a0, m ++ rest.takeWhile (fun d => sortOf d == k)) :: spec l (a + (rest.takeWhile (fun d => sortOf d == k)).length) (rest.dropWhile (fun d => sortOf d == k)) = t
def Shut (F : List Fm) (l a : Nat) (rest : List Nat) (t : List Mrk) : Prop :=
  (∀ F0 x, F = F0 ++ [x] → (x.k = 0 ∨ ¬ (x.l = l ∧ x.a + x.m.length = a)) ∧ (x.l = l → x.a + x.m.length ≤ a) ∧ x.l ≤ l) ∧ F.map Fm.strip ++ spec l a rest = t
def Good (F : List Fm) (l a : Nat) (rest : List Nat) (t : List Mrk) : Prop := Open F l a rest t ∨ Shut F l a rest t
theorem snoc_inj {F0 F1 : List Fm} {x y : Fm} (h : F0 ++ [x] = F1 ++ [y]) : F0 = F1 ∧ x = y := by
  have := List.append_inj' h rfl
  exact ⟨this.1, by simpa using this.2⟩
/-- no join: what is left of the step -/
theorem step_new {F : List Fm} {l a c : Nat} {cs : List Nat} {t : List Mrk}
    (hl : ∀ F0 x, F = F0 ++ [x] → (x.l = l → x.a + x.m.length ≤ a) ∧ x.l ≤ l)
    (ht : F.map Fm.strip ++ spec l a (c :: cs) = t) (hs : stepF F l a c = if c = 32 then F else F ++ [⟨l, a, [c], sortOf c⟩]) :
    Good (stepF F l a c) (nextL l c) (nextA a c) cs t := by
  rw [hs]
  by_cases h32 : c = 32
  · subst h32
    rw [if_pos rfl]
    refine .inr ⟨fun F0 x e => ?_, ?_⟩
    · have ⟨h1, h2⟩ := hl F0 x e
      show (x.k = 0 ∨ ¬ (x.l = l ∧ x.a + x.m.length = a + 1)) ∧ (x.l = l → x.a + x.m.length ≤ a + 1) ∧ x.l ≤ l
      refine ⟨.inr fun z => ?_, fun z => ?_, h2⟩
      · have := h1 z.1
        omega
      · have := h1 z
        omega
    · show F.map Fm.strip ++ spec l (a + 1) cs = t
      rw [← ht, spec_blank]
  · rw [if_neg h32]
    by_cases hz : sortOf c = 0
    · refine .inr ⟨fun F0 x e => ?_, ?_⟩
      · have ⟨e1, e2⟩ := snoc_inj e
        subst e2
        refine ⟨.inl hz, fun z => ?_, ?_⟩
        · show a + [c].length ≤ nextA a c
          have z' : l = nextL l c := z
          unfold nextL at z'
          unfold nextA
          by_cases h10 : c = 10
          · rw [if_pos h10] at z'
            omega
          · rw [if_neg h10]
            exact Nat.le_refl _
        · show l ≤ nextL l c
          unfold nextL
          split <;> omega
      · rw [← ht]
        by_cases h10 : c = 10
        · subst h10
          rw [spec_line, List.map_append, List.append_assoc]
          rfl
        · rw [spec_one l a cs hz h32 h10, List.map_append, List.append_assoc]
          unfold nextL nextA
          rw [if_neg h10, if_neg h10]
          rfl
    · have h10 := (sort_ne hz).2
      refine .inl ⟨F, a, [c], sortOf c, ?_, hz, ?_, ?_⟩
      · unfold nextL
        rw [if_neg h10]
      · unfold nextA
        rw [if_neg h10]
        rfl
      · rw [← ht, spec_run l a cs hz]
        unfold nextL nextA
        rw [if_neg h10, if_neg h10]
        rfl
theorem hits_snoc (F0 : List Fm) (x : Fm) (l a s : Nat) : hits (F0 ++ [x]) l a s = decide (x.k = s ∧ x.l = l ∧ x.a + x.m.length = a) := by
  unfold hits
  rw [List.getLast?_append]
  rfl
theorem snoc_or (F : List Fm) : F = [] ∨ ∃ F0 x, F = F0 ++ [x] := by
  by_cases h : F = []
  · exact .inl h
  · exact .inr ⟨F.dropLast, F.getLast h, (List.dropLast_concat_getLast h).symm⟩
theorem Good.step {F : List Fm} {l a c : Nat} {cs : List Nat} {t : List Mrk} (h : Good F l a (c :: cs) t) : Good (stepF F l a c) (nextL l c) (nextA a c) cs t := by
  rcases h with ⟨F0, a0, m, k, rfl, hk, ha, ht⟩ | ⟨hx, ht⟩
  · by_cases hs : sortOf c = k
    · -- joined
      subst hs
      have ⟨h32, h10⟩ := sort_ne hk
      have e : stepF (F0 ++ [⟨l, a0, m, sortOf c⟩]) l a c = F0 ++ [⟨l, a0, m ++ [c], sortOf c⟩] := by
        unfold stepF
        rw [if_pos ⟨Nat.pos_of_ne_zero hk, by rw [hits_snoc]; exact decide_eq_true ⟨rfl, rfl, ha⟩⟩]
        simp
      rw [e]
      refine .inl ⟨F0, a0, m ++ [c], sortOf c, ?_, hk, ?_, ?_⟩
      · unfold nextL
        rw [if_neg h10]
      · unfold nextA
        rw [if_neg h10, List.length_append, List.length_cons, List.length_nil]
        omega
      · rw [← ht]
        unfold nextL nextA
        rw [if_neg h10, if_neg h10, List.takeWhile_cons, List.dropWhile_cons, beq_self_eq_true, if_pos rfl, if_pos rfl, List.length_cons, List.append_assoc,
          show a + ((List.takeWhile (fun d => sortOf d == sortOf c) cs).length + 1) = a + 1 + (List.takeWhile (fun d => sortOf d == sortOf c) cs).length by omega]
        rfl
    · have hb : (sortOf c == k) = false := beq_eq_false_iff_ne.mpr hs
      refine step_new (fun F1 x e => ?_) ?_ ?_
      · have ⟨e1, e2⟩ := snoc_inj e
        subst e2
        exact ⟨fun _ => Nat.le_of_eq ha, Nat.le_refl _⟩
      · rw [← ht, List.takeWhile_cons, List.dropWhile_cons, hb, if_neg Bool.false_ne_true, if_neg Bool.false_ne_true, List.append_nil, List.map_append, List.append_assoc]
        rfl
      · unfold stepF
        rw [if_neg]
        rw [hits_snoc]
        exact fun z => hs (of_decide_eq_true z.2).1.symm
  · refine step_new (fun F0 x e => (hx F0 x e).2) ht ?_
    unfold stepF
    rw [if_neg]
    rcases snoc_or F with rfl | ⟨F0, x, rfl⟩
    · exact fun z => Bool.false_ne_true z.2
    · rw [hits_snoc]
      intro z
      have z2 := of_decide_eq_true z.2
      rcases (hx F0 x rfl).1 with q | q
      · omega
      · exact q z2.2
theorem Good.first (cs : List Nat) : Good [] 0 0 cs (spec 0 0 cs) := .inr ⟨fun F0 x e => by simp at e, rfl⟩
theorem Good.last {F : List Fm} {l a : Nat} {t : List Mrk} (h : Good F l a [] t) : F.map Fm.strip = t := by
  rcases h with ⟨F0, a0, m, k, rfl, hk, ha, ht⟩ | ⟨hx, ht⟩
  · rw [← ht, List.map_append]
    show _ ++ [(l, a0, m)] = _ ++ (l, a0, m ++ []) :: spec l _ []
    rw [List.append_nil, spec_nil]
  · rw [← ht, spec_nil, List.append_nil]
/-! joined again -/
def Whole (m : List Nat) : Prop := ∃ c r, m = c :: r ∧ c ≠ 32 ∧ r.all (same c) = true
theorem tw_all (p : Nat → Bool) : ∀ l : List Nat, (l.takeWhile p).all p = true
  | [] => rfl
  | c :: l => by
    rw [List.takeWhile_cons]
    split
    · rename_i h
      rw [List.all_cons, h, tw_all p l]
      rfl
    · rfl
theorem spec_whole : ∀ (n l a : Nat) (cs : List Nat), cs.length ≤ n → ∀ x ∈ spec l a cs, Whole x.2.2
  | _, l, a, [], _, x, hx => by
    rw [spec_nil] at hx
    exact absurd hx List.not_mem_nil
  | 0, _, _, _ :: _, h, _, _ => by simp at h
  | n + 1, l, a, c :: cs, h, x, hx => by
    rw [List.length_cons] at h
    have hd := drop_le (same c) cs
    rw [spec_cons] at hx
    have hr : x ∈ (if c = 10 then spec (l + 1) 0 (cs.dropWhile (same c)) else spec l (a + 1 + (cs.takeWhile (same c)).length) (cs.dropWhile (same c))) → Whole x.2.2 := by
      intro q
      split at q
      · exact spec_whole n _ _ _ (by omega) x q
      · exact spec_whole n _ _ _ (by omega) x q
    split at hx
    · exact hr hx
    · rename_i h32
      rcases List.mem_cons.mp hx with e | e
      · subst e
        exact ⟨c, _, rfl, h32, tw_all _ _⟩
      · exact hr e
def joinS : List (List Nat) → List Nat
  | [] => []
  | [p] => p
  | p :: q :: r => p ++ 32 :: joinS (q :: r)
theorem tw_app (p : Nat → Bool) (d : Nat) (hd : p d = false) : ∀ (r : List Nat) (rest : List Nat), r.all p = true → (r ++ d :: rest).takeWhile p = r ∧ (r ++ d :: rest).dropWhile p = d :: rest
  | [], rest, _ => by
    rw [List.nil_append, List.takeWhile_cons, List.dropWhile_cons, hd, if_neg Bool.false_ne_true, if_neg Bool.false_ne_true]
    exact ⟨rfl, rfl⟩
  | c :: r, rest, h => by
    rw [List.all_cons, Bool.and_eq_true] at h
    have ⟨e1, e2⟩ := tw_app p d hd r rest h.2
    rw [List.cons_append, List.takeWhile_cons, List.dropWhile_cons, h.1, if_pos rfl, if_pos rfl, e1, e2]
    exact ⟨rfl, rfl⟩
theorem tw_full (p : Nat → Bool) : ∀ (r : List Nat), r.all p = true → r.takeWhile p = r ∧ r.dropWhile p = []
  | [], _ => ⟨rfl, rfl⟩
  | c :: r, h => by
    rw [List.all_cons, Bool.and_eq_true] at h
    have ⟨e1, e2⟩ := tw_full p r h.2
    rw [List.takeWhile_cons, List.dropWhile_cons, h.1, if_pos rfl, if_pos rfl, e1, e2]
    exact ⟨rfl, rfl⟩
theorem same_blank (c : Nat) : same c 32 = false := by
  unfold same
  by_cases h : sortOf c = 0
  · rw [h]
    rfl
  · have : (sortOf 32 == sortOf c) = false := beq_eq_false_iff_ne.mpr fun e => h (by rw [← e]; decide)
    rw [this, Bool.and_false]
theorem spec_join : ∀ (ms : List (List Nat)) (l a : Nat), (∀ m ∈ ms, Whole m) → (spec l a (joinS ms)).map (·.2.2) = ms
  | [], l, a, _ => rfl
  | [p], l, a, h => by
    obtain ⟨c, r, rfl, h32, hr⟩ := h p List.mem_cons_self
    have ⟨e1, e2⟩ := tw_full _ r hr
    show (spec l a (c :: r)).map _ = _
    rw [spec_cons, if_neg h32, e1, e2, spec_nil, spec_nil]
    split <;> rfl
  | p :: q :: rs, l, a, h => by
    obtain ⟨c, r, rfl, h32, hr⟩ := h p List.mem_cons_self
    have ih := fun l a => spec_join (q :: rs) l a fun m hm => h m (List.mem_cons_of_mem _ hm)
    have ⟨e1, e2⟩ := tw_app _ 32 (same_blank c) r (joinS (q :: rs)) hr
    show (spec l a (c :: (r ++ 32 :: joinS (q :: rs)))).map _ = _
    rw [spec_cons, if_neg h32, e1, e2, spec_blank, spec_blank, List.map_cons]
    split
    · rw [ih]
    · rw [ih]
/-! sizes -/
def lens (ms : List Mrk) : Nat := (ms.map fun x => x.2.2.length).sum
theorem spec_size : ∀ (n l a : Nat) (cs : List Nat), cs.length ≤ n → lens (spec l a cs) ≤ cs.length ∧ (spec l a cs).length ≤ cs.length ∧ (∀ x ∈ spec l a cs, x.1 ≤ l + cs.length ∧ x.2.1 ≤ a + cs.length) ∧ ∀ x ∈ spec l a cs, ∀ c ∈ x.2.2, c ∈ cs
  | _, l, a, [], _ => by
    rw [spec_nil]
    exact ⟨Nat.le_refl _, Nat.le_refl _, fun x h => absurd h List.not_mem_nil, fun x h => absurd h List.not_mem_nil⟩
  | 0, _, _, _ :: _, h => by simp at h
  | n + 1, l, a, c :: cs, h => by
    rw [List.length_cons] at h
    have hd := tw_len (same c) cs
    have sub : ∀ d ∈ cs.dropWhile (same c), d ∈ cs := fun d hd => (List.dropWhile_sublist (same c)).subset hd
    have sub2 : ∀ d ∈ cs.takeWhile (same c), d ∈ cs := fun d hd => (List.takeWhile_sublist (same c)).subset hd
    have ih := fun l a => spec_size n l a (cs.dropWhile (same c)) (by omega)
    have core : ∀ t : List Mrk, (t = if c = 10 then spec (l + 1) 0 (cs.dropWhile (same c)) else spec l (a + 1 + (cs.takeWhile (same c)).length) (cs.dropWhile (same c))) →
        lens t ≤ (cs.dropWhile (same c)).length ∧ t.length ≤ (cs.dropWhile (same c)).length ∧ (∀ x ∈ t, x.1 ≤ l + (c :: cs).length ∧ x.2.1 ≤ a + (c :: cs).length) ∧ ∀ x ∈ t, ∀ d ∈ x.2.2, d ∈ c :: cs := by
      intro t et
      rw [List.length_cons]
      split at et
      · subst et
        have ⟨h1, h2, h3, h4⟩ := ih (l + 1) 0
        refine ⟨h1, h2, fun x hx => ?_, fun x hx d hd => List.mem_cons_of_mem _ (sub d (h4 x hx d hd))⟩
        have := h3 x hx
        omega
      · subst et
        have ⟨h1, h2, h3, h4⟩ := ih l (a + 1 + (cs.takeWhile (same c)).length)
        refine ⟨h1, h2, fun x hx => ?_, fun x hx d hd => List.mem_cons_of_mem _ (sub d (h4 x hx d hd))⟩
        have := h3 x hx
        omega
    have ⟨h1, h2, h3, h4⟩ := core _ rfl
    rw [spec_cons]
    split
    · rw [List.length_cons] at *
      exact ⟨by omega, by omega, h3, h4⟩
    · refine ⟨?_, ?_, fun x hx => ?_, fun x hx => ?_⟩
      · unfold lens at h1 ⊢
        rw [List.map_cons, List.sum_cons, List.length_cons, List.length_cons]
        omega
      · rw [List.length_cons, List.length_cons]
        omega
      · rcases List.mem_cons.mp hx with e | e
        · subst e
          exact ⟨Nat.le_add_right _ _, Nat.le_add_right _ _⟩
        · exact h3 x e
      · rcases List.mem_cons.mp hx with e | e
        · subst e
          intro d hd
          rcases List.mem_cons.mp hd with z | z
          · exact z ▸ List.mem_cons_self
          · exact List.mem_cons_of_mem _ (sub2 d z)
        · exact h4 x e
theorem joinS_len : ∀ ms : List (List Nat), (joinS ms).length ≤ (ms.map List.length).sum + ms.length
  | [] => Nat.le_refl _
  | [p] => by simp [joinS]
  | p :: q :: r => by
    have := joinS_len (q :: r)
    show (p ++ 32 :: joinS (q :: r)).length ≤ _
    rw [List.length_append, List.length_cons, List.map_cons, List.sum_cons, List.length_cons (a := p)]
    omega
end M5


namespace K5
open PySem PySem.Spec PyProof.Rows L2 VG M5
def topS (i : Nat) : Stmt := PySem.Challenge.pw_centsatonce_k05_marks_cut_and_joined.main.body.getD i (.Pass ⟨0, 0, 0, 0⟩)
abbrev S (l : List Nat) : Str := ⟨l.toArray⟩
theorem S_len (l : List Nat) : (S l).length = l.length := by
  show l.toArray.size = _
  exact List.size_toArray
theorem S_get (l : List Nat) (i : Nat) : (S l).cps[i]? = l[i]? := by
  show l.toArray[i]? = _
  exact List.getElem?_toArray
theorem S_of (z : Str) : z = S z.cps.toList := by
  cases z
  rfl
theorem S_inj {a b : List Nat} (h : S a = S b) : a = b := by
  have := congrArg (fun z : Str => z.cps.toList) h
  simpa using this

abbrev s_run_signs : Stmt := topS 3
abbrev N_run_signs : List Str := ["sign"]
theorem sc_run_signs : FnScope N_run_signs ["sign"] (defScope s_run_signs) := ⟨rfl, rfl, rfl, by decide +kernel, rfl, by decide +kernel, by decide +kernel⟩
abbrev s_end_of_run : Stmt := topS 4
abbrev N_end_of_run : List Str := ["text", "start", "signs", "end"]
theorem sc_end_of_run : FnScope N_end_of_run ["text", "start"] (defScope s_end_of_run) := ⟨rfl, rfl, rfl, by decide +kernel, rfl, by decide +kernel, by decide +kernel⟩

abbrev cLETTERS : Str := "abcdefghijklmnopqrstuvwxyz"
abbrev cDIGITS : Str := "0123456789"
theorem in_letters (c : Nat) : c ∈ cLETTERS.cps.toList ↔ 97 ≤ c ∧ c ≤ 122 := by
  have e : cLETTERS.cps.toList = (List.range 26).map (· + 97) := by decide +kernel
  rw [e, List.mem_map]
  constructor
  · rintro ⟨x, hx, rfl⟩
    have := List.mem_range.mp hx
    omega
  · intro h
    exact ⟨c - 97, List.mem_range.mpr (by omega), by omega⟩
theorem in_digits (c : Nat) : c ∈ cDIGITS.cps.toList ↔ 48 ≤ c ∧ c ≤ 57 := by
  have e : cDIGITS.cps.toList = (List.range 10).map (· + 48) := by decide +kernel
  rw [e, List.mem_map]
  constructor
  · rintro ⟨x, hx, rfl⟩
    have := List.mem_range.mp hx
    omega
  · intro h
    exact ⟨c - 48, List.mem_range.mpr (by omega), by omega⟩
def signsOf (c : Nat) : Str := if 97 ≤ c ∧ c ≤ 122 then cLETTERS else if 48 ≤ c ∧ c ≤ 57 then cDIGITS else ""
theorem in_signs (c d : Nat) : d ∈ (signsOf c).cps.toList ↔ M5.same c d = true := by
  unfold signsOf M5.same sortOf
  by_cases h1 : 97 ≤ c ∧ c ≤ 122
  · rw [if_pos h1, if_pos h1, in_letters]
    by_cases h2 : 97 ≤ d ∧ d ≤ 122
    · rw [if_pos h2]
      exact ⟨fun _ => rfl, fun _ => h2⟩
    · rw [if_neg h2]
      refine ⟨fun z => absurd z h2, fun z => ?_⟩
      split at z <;> exact absurd z (by decide)
  · rw [if_neg h1, if_neg h1]
    by_cases h3 : 48 ≤ c ∧ c ≤ 57
    · rw [if_pos h3, if_pos h3, in_digits]
      by_cases h2 : 97 ≤ d ∧ d ≤ 122
      · rw [if_pos h2]
        exact ⟨fun z => by omega, fun z => absurd z (by decide)⟩
      · rw [if_neg h2]
        by_cases h4 : 48 ≤ d ∧ d ≤ 57
        · rw [if_pos h4]
          exact ⟨fun _ => rfl, fun _ => h4⟩
        · rw [if_neg h4]
          exact ⟨fun z => absurd z h4, fun z => absurd z (by decide)⟩
    · rw [if_neg h3, if_neg h3]
      have e : (("" : String) : Str).cps.toList = [] := by decide +kernel
      rw [e]
      exact ⟨fun z => absurd z List.not_mem_nil, fun z => absurd z (by simp)⟩

section
variable {P : Program} {w : World} {K : PySem.W.Frag} {mg : Str → Option Value} {base : Heap}
def spRun : Sp := fun vs H Q _ => ∃ c : Nat, vs = [.str ⟨#[c]⟩] ∧ Q (.str (signsOf c)) H
theorem ok_run_signs {f : Addr} {fd : FuncData} (F : Fun K "run_signs" "run_signs" s_run_signs f fd) (m_LETTERS : ∃ u, mg "LETTERS" = some (.str cLETTERS u)) (m_DIGITS : ∃ u, mg "DIGITS" = some (.str cDIGITS u)) :
    FnOk P w K mg base CX0 1 f fd ["sign"] spRun := by
  refine F.ok sc_run_signs (fun vs H Q E h => ?_) (fun cdv A outer s H vs Q E hr h => ?_)
  · obtain ⟨c, rfl, _⟩ := h
    rfl
  · obtain ⟨c, rfl, q⟩ := h
    refine ⟨_, (pss_cons (ps_if (pt_cmpR op_in_sign (pv 0) (pe_gs rfl m_LETTERS) rfl)
      (pss_one (ps_ret (pe_gs rfl m_LETTERS)))
      pss_nil)
    (pss_cons (ps_if (pt_cmpR op_in_sign (pv 0) (pe_gs rfl m_DIGITS) rfl)
      (pss_one (ps_ret (pe_gs rfl m_DIGITS)))
      pss_nil)
    (pss_one (ps_ret pe_str)))), ?_⟩
    refine ⟨_, rfl, c, _, rfl, rfl, _, rfl, ite2 (fun e => ?_) (fun e => ?_)⟩
    · have h := (in_letters c).mp (of_decide_eq_true e)
      unfold signsOf at q
      rw [if_pos h] at q
      exact q
    · have h : ¬ (97 ≤ c ∧ c ≤ 122) := fun z => e (decide_eq_true ((in_letters c).mpr z))
      refine ⟨_, rfl, c, _, rfl, rfl, _, rfl, ite2 (fun e => ?_) (fun e => ?_)⟩
      · have h2 := (in_digits c).mp (of_decide_eq_true e)
        unfold signsOf at q
        rw [if_neg h, if_pos h2] at q
        exact q
      · have h2 : ¬ (48 ≤ c ∧ c ≤ 57) := fun z => e (decide_eq_true ((in_digits c).mpr z))
        unfold signsOf at q
        rw [if_neg h, if_neg h2] at q
        exact q

/-- start + 1 + how many signs of the run come behind -/
def runEnd (T : List Nat) (i c : Nat) : Nat := i + 1 + ((T.drop (i + 1)).takeWhile (M5.same c)).length
def spEnd : Sp := fun vs H Q _ => ∃ (T : List Nat) (i c : Nat), vs = [.str (S T), .int i] ∧ T[i]? = some c ∧ T.length ≤ 1000000 ∧ Q (.int (runEnd T i c : Nat)) H
theorem ok_end_of_run {f : Addr} {fd : FuncData} (F : Fun K "end_of_run" "end_of_run" s_end_of_run f fd) (C_run_signs : Cl P w K mg base 1 "run_signs" spRun) (z_len : mg "len" = none) :
    FnOk P w K mg base CX0 2 f fd ["text", "start"] spEnd := by
  refine F.ok sc_end_of_run (fun vs H Q E h => ?_) (fun cdv A outer s H vs Q E hr h => ?_)
  · obtain ⟨T, i, c, rfl, _⟩ := h
    rfl
  · obtain ⟨T, i, c, rfl, hc, hT, q⟩ := h
    have hi : i < T.length := (List.getElem?_eq_some_iff.mp hc).1
    refine ⟨_, (pss_cons (ps_set (i := 2) sc_end_of_run.nd rfl (.inl rfl) (pe_cl C_run_signs hr (by decide) rfl (pa_cons (pe_item_str (pv 0) (pv 1) (fun _ _ => rfl)) pa_nil)))
    (pss_cons (ps_set (i := 3) sc_end_of_run.nd rfl (.inl rfl) (pe_op op_add (pv 1) pe_int))
    (pss_cons (ps_while PassesOwn.never (PW.pt (pw_and (pt_cmpR op_lt (pv 3) (pe_callB call_len_str (by rfl) z_len (by decide +kernel) (pa_cons (pv 0) pa_nil)) (nomark _)) (pw_and1 (pt_cmpR op_in_sign (pe_item_str (pv 0) (pv 3) (fun _ _ => rfl)) (pv 2) rfl))))
      (pss_one (ps_aug (i := 3) sc_end_of_run.nd rfl (.inl rfl) pe_int ip_add)))
    (pss_one (ps_ret (pv 3)))))), ?_⟩
    refine ⟨_, rfl, _, rfl, S T, i, c, rfl, rfl, by omega, by omega, ?_, ?_, c, rfl, ?_⟩
    · rw [S_len]
      omega
    · rw [S_get]
      exact hc
    refine ⟨_, rfl, i, 1, rfl, rfl, ?_⟩
    -- the loop
    refine ⟨fun m σ H' => H' = H ∧ ∃ j, m = T.length - j ∧ σ = [some (.str (S T)), some (.int i), some (.str (signsOf c)), some (.int ((i + 1 + j : Nat) : Int))] ∧ j ≤ ((T.drop (i + 1)).takeWhile (M5.same c)).length,
      ⟨_, rfl, 0, rfl, by simp [N_end_of_run, L2.start, Int.natCast_add], Nat.zero_le _⟩, ?_⟩
    rintro m σ H' ⟨rfl, j, rfl, rfl, hj⟩
    have tl := tw_len (M5.same c) (T.drop (i + 1))
    rw [List.length_drop] at tl
    refine ⟨_, rfl, _, rfl, S T, rfl, ?_, _, _, rfl, rfl, _, rfl, ite2 (fun e => ?_) (fun e => ?_)⟩
    · rw [S_len]
      exact Nat.le_trans hT (by decide)
    · have e1 : ((i + 1 + j : Nat) : Int) < ((S T).length : Int) := of_decide_eq_true e
      rw [S_len] at e1
      have e2 : i + 1 + j < T.length := by omega
      have g : T[i + 1 + j]? = some T[i + 1 + j] := List.getElem?_eq_getElem e2
      have g2 : (T.drop (i + 1))[j]? = some T[i + 1 + j] := by
        rw [List.getElem?_drop]
        exact g
      refine ⟨_, rfl, _, rfl, S T, _, T[i + 1 + j], rfl, rfl, by omega, by omega, by rw [S_len]; omega, ?_, _, rfl, T[i + 1 + j], _, rfl, rfl, _, rfl, ite2 (fun e => ?_) (fun e => ?_)⟩
      · rw [S_get]
        exact g
      · have hs := (in_signs c _).mp (of_decide_eq_true e)
        refine ⟨fun σ' H'' => H'' = H' ∧ σ' = [some (.str (S T)), some (.int i), some (.str (signsOf c)), some (.int ((i + 1 + (j + 1) : Nat) : Int))], fun σ' H'' hN => ?_, ?_⟩
        · obtain ⟨rfl, rfl⟩ := hN
          exact ⟨T.length - (j + 1), by omega, rfl, j + 1, rfl, rfl, tw_step _ _ _ _ hj g2 hs⟩
        · refine ⟨_, rfl, _, _, rfl, rfl, rfl, ?_⟩
          show [_, _, _, some (V.int (((i + 1 + j : Nat) : Int) + 1))] = _
          rw [show (((i + 1 + j : Nat) : Int) + 1) = ((i + 1 + (j + 1) : Nat) : Int) by omega]
      · have hn : ¬ j < ((T.drop (i + 1)).takeWhile (M5.same c)).length := fun z => e (decide_eq_true ((in_signs c _).mpr (tw_stop _ _ _ _ z g2)))
        have ej : j = ((T.drop (i + 1)).takeWhile (M5.same c)).length := by omega
        subst ej
        exact ⟨_, rfl, q⟩
    · have e1 : ¬ ((i + 1 + j : Nat) : Int) < ((S T).length : Int) := fun z => e (decide_eq_true z)
      rw [S_len] at e1
      have ej : j = ((T.drop (i + 1)).takeWhile (M5.same c)).length := by omega
      subst ej
      exact ⟨_, rfl, q⟩
end
end K5


namespace K5
open PySem PySem.Spec PyProof.Rows L2 VG M5
/-! marks as they stand in the heap -/
def mTup (x : Mrk) : List V := [.int x.1, .int x.2.1, .str (S x.2.2)]
def MarkV (H : Hp) (v : V) (x : Mrk) : Prop := ∃ b, v = .ref b ∧ H b = some (.tup (mTup x))
def Mks (H : Hp) : List V → List Mrk → Prop
  | [], [] => True
  | v :: vs, x :: xs => MarkV H v x ∧ Mks H vs xs
  | _, _ => False
theorem Mks.mono {H H' : Hp} (h : Same H H') : ∀ {vs : List V} {ms : List Mrk}, Mks H vs ms → Mks H' vs ms
  | [], [], _ => trivial
  | v :: vs, x :: xs, ⟨⟨b, e, z⟩, r⟩ => ⟨⟨b, e, h _ _ z⟩, r.mono h⟩
  | [], _ :: _, h => h.elim
  | _ :: _, [], h => h.elim
theorem Mks.upd {H : Hp} {L : Addr} {xs ys : List V} (hL : H L = some (.lst xs)) : ∀ {vs : List V} {ms : List Mrk}, Mks H vs ms → Mks (upd H L (.lst ys)) vs ms
  | [], [], _ => trivial
  | v :: vs, x :: _, ⟨⟨b, e, z⟩, r⟩ => ⟨⟨b, e, by
      rw [upd_ne]
      · exact z
      · intro q
        subst q
        rw [hL] at z
        cases z⟩, r.upd hL⟩
  | [], _ :: _, h => h.elim
  | _ :: _, [], h => h.elim
theorem Mks.len {H : Hp} : ∀ {vs : List V} {ms : List Mrk}, Mks H vs ms → vs.length = ms.length
  | [], [], _ => rfl
  | v :: vs, x :: xs, h => by
    rw [List.length_cons, List.length_cons, h.2.len]
  | [], _ :: _, h => h.elim
  | _ :: _, [], h => h.elim
theorem Mks.snoc {H : Hp} {v : V} {x : Mrk} (hv : MarkV H v x) : ∀ {vs : List V} {ms : List Mrk}, Mks H vs ms → Mks H (vs ++ [v]) (ms ++ [x])
  | [], [], _ => ⟨hv, trivial⟩
  | _ :: _, _ :: _, h => ⟨h.1, h.2.snoc hv⟩
  | [], _ :: _, h => h.elim
  | _ :: _, [], h => h.elim
theorem Mks.get {H : Hp} : ∀ {vs : List V} {ms : List Mrk} {i : Nat} {v : V}, Mks H vs ms → vs[i]? = some v → ∃ x, ms[i]? = some x ∧ MarkV H v x
  | [], [], _, _, _, h => by simp at h
  | a :: _, x :: _, 0, v, h, e => by
    have e1 : a = v := Option.some.inj e
    subst e1
    exact ⟨x, rfl, h.1⟩
  | _ :: vs, _ :: ms, i + 1, v, h, e => h.2.get (i := i) e
  | [], _ :: _, _, _, h, _ => h.elim
  | _ :: _, [], _, _, h, _ => h.elim
theorem same_upd {H : Hp} {p : Addr} {o : HO} (h : H p = none) : Same H (upd H p o) := fun b x e => by
  rw [upd_ne (ne_of_none e h)]
  exact e
/-- what stood stays, L apart -/
theorem same_put {H H' : Hp} {L : Addr} {o : HO} (h : Same H H') (n : H L = none) : Same H (upd H' L o) := fun b x e => by
  rw [upd_ne (ne_of_none e n)]
  exact h b x e
theorem cutS_nat (T : List Nat) (i j : Nat) (h1 : i ≤ j) (h2 : j ≤ T.length) : cutS (S T) (some (i : Int)) (some (j : Int)) = S ((T.drop i).take (j - i)) := by
  unfold cutS
  rw [S_len, show HT.sIx T.length 0 (some (i : Int)) = min i T.length from HT.sIx_nat T.length 0 i, show HT.sIx T.length T.length (some (j : Int)) = min j T.length from HT.sIx_nat T.length T.length j,
    Nat.min_eq_left h2, Nat.min_eq_left (Nat.le_trans h1 h2)]
theorem S_eq (a b : List Nat) : (V.str (S a) = V.str (S b)) ↔ a = b := by
  constructor
  · intro h
    exact S_inj (V.str.inj h)
  · intro h
    rw [h]
theorem c_blank : ((" " : String) : Str) = S [32] := by decide +kernel
theorem c_line : (("\n" : String) : Str) = S [10] := by decide +kernel

abbrev s_marks_of : Stmt := topS 5
abbrev N_marks_of : List Str := ["text", "marks", "line", "begin", "at", "end", "mark"]
theorem sc_marks_of : FnScope N_marks_of ["text"] (defScope s_marks_of) := ⟨rfl, rfl, rfl, by decide +kernel, rfl, by decide +kernel, by decide +kernel⟩
section
variable {P : Program} {w : World} {K : PySem.W.Frag} {mg : Str → Option Value} {base : Heap}
def spMarks : Sp := fun vs H Q _ => ∃ T : List Nat, vs = [.str (S T)] ∧ T.length ≤ 100000 ∧ ∀ H' t ys, Same H H' → H t = none → H' t = some (.tup ys) → Mks H' ys (spec 0 0 T) → Q (.ref t) H'
theorem ok_marks_of {f : Addr} {fd : FuncData} (F : Fun K "marks_of" "marks_of" s_marks_of f fd) (C_end_of_run : Cl P w K mg base 2 "end_of_run" spEnd) (z_len : mg "len" = none) (z_tuple : mg "tuple" = none) :
    FnOk P w K mg base CX0 3 f fd ["text"] spMarks := by
  refine F.ok sc_marks_of (fun vs H Q E h => ?_) (fun cdv A outer s H vs Q E hr h => ?_)
  · obtain ⟨T, rfl, _⟩ := h
    rfl
  · obtain ⟨T, rfl, hT, q⟩ := h
    have hsz := spec_size T.length 0 0 T (Nat.le_refl _)
    refine ⟨_, (pss_cons (ps_set (i := 1) sc_marks_of.nd rfl (.inl rfl) (pe_lst pa_nil))
    (pss_cons (ps_set (i := 2) sc_marks_of.nd rfl (.inl rfl) pe_int)
    (pss_cons (ps_set (i := 3) sc_marks_of.nd rfl (.inl rfl) pe_int)
    (pss_cons (ps_set (i := 4) sc_marks_of.nd rfl (.inl rfl) pe_int)
    (pss_cons (ps_while PassesOwn.never (pt_cmpR op_lt (pv 4) (pe_callB call_len_str (by rfl) z_len (by decide +kernel) (pa_cons (pv 0) pa_nil)) (nomark _))
      (pss_cons (ps_set (i := 5) sc_marks_of.nd rfl (.inl rfl) (pe_cl C_end_of_run hr (by decide) rfl (pa_cons (pv 0) (pa_cons (pv 4) pa_nil))))
      (pss_cons (ps_set (i := 6) sc_marks_of.nd rfl (.inl rfl) (pe_slice sl_str (pv 0) (po_some (pv 4)) (po_some (pv 5))))
      (pss_cons (ps_if (pt_cmpR op_ne (pv 6) pe_str (nomark _))
        (pss_one (ps_expr (pe_bm PySem.F.plainAttrs_list PySem.F.slot_list_append PySem.F.type_list_append mt_append (pv 1) (pa_cons (pe_tup (pa_cons (pv 2) (pa_cons (pe_op op_sub (pv 4) (pv 3)) (pa_cons (pv 6) pa_nil)))) pa_nil))))
        pss_nil)
      (pss_cons (ps_if (pt_cmpR op_eq (pv 6) pe_str (nomark _))
        (pss_cons (ps_aug (i := 2) sc_marks_of.nd rfl (.inl rfl) pe_int ip_add)
        (pss_one (ps_set (i := 3) sc_marks_of.nd rfl (.inl rfl) (pv 5))))
        pss_nil)
      (pss_one (ps_set (i := 4) sc_marks_of.nd rfl (.inl rfl) (pv 5))))))))
    (pss_one (ps_ret (pe_callTy call_tuple_of (by rfl) z_tuple (by decide +kernel) (pa_cons (pv 1) pa_nil))))))))), ?_⟩
    refine ⟨Nat.zero_le _, fun L nL => ?_⟩
    refine ⟨fun m σ H' => ∃ (line begin at_ : Nat) (y5 y6 : Option V) (vs : List V) (ms : List Mrk), m = T.length - at_ ∧ σ = [some (.str (S T)), some (.ref L), some (.int line), some (.int begin), some (.int at_), y5, y6] ∧
        at_ ≤ T.length ∧ begin ≤ at_ ∧ Same H H' ∧ H' L = some (.lst vs) ∧ Mks H' vs ms ∧ ms ++ spec line (at_ - begin) (T.drop at_) = spec 0 0 T,
      ⟨_, 0, 0, 0, none, none, [], [], rfl, rfl, Nat.zero_le _, Nat.le_refl _, same_upd nL, upd_same, trivial, rfl⟩, ?_⟩
    rintro m σ H' ⟨line, begin, at_, y5, y6, vs, ms, rfl, rfl, ha, hb, sm, hL, hM, hS⟩
    refine ⟨_, rfl, _, rfl, S T, rfl, ?_, _, _, rfl, rfl, _, rfl, ite2 (fun e => ?_) (fun e => ?_)⟩
    · rw [S_len]
      exact Nat.le_trans hT (by decide)
    · have e1 : (at_ : Int) < ((S T).length : Int) := of_decide_eq_true e
      rw [S_len] at e1
      have hat : at_ < T.length := by omega
      have hc : T[at_]? = some T[at_] := List.getElem?_eq_getElem hat
      have hd : T.drop at_ = T[at_] :: T.drop (at_ + 1) := List.drop_eq_getElem_cons hat
      generalize hcc : T[at_] = c at hc hd
      have hrun := tw_len (M5.same c) (T.drop (at_ + 1))
      rw [List.length_drop] at hrun
      have hend : runEnd T at_ c ≤ T.length := by
        unfold runEnd
        omega
      have hend2 : at_ < runEnd T at_ c := by
        unfold runEnd
        omega
      have hcut : (T.drop at_).take (runEnd T at_ c - at_) = c :: (T.drop (at_ + 1)).takeWhile (M5.same c) := by
        rw [hd, show runEnd T at_ c - at_ = ((T.drop (at_ + 1)).takeWhile (M5.same c)).length + 1 by unfold runEnd; omega, List.take_succ_cons, tw_take]
      have hrest : T.drop (runEnd T at_ c) = (T.drop (at_ + 1)).dropWhile (M5.same c) := by
        rw [← tw_drop, List.drop_drop]
        rfl
      rw [hd, spec_cons] at hS
      rw [← hrest] at hS
      refine ⟨fun σ' H'' => ∃ (line' begin' at' : Nat) (y5 y6 : Option V) (vs : List V) (ms : List Mrk), at_ < at' ∧ σ' = [some (.str (S T)), some (.ref L), some (.int line'), some (.int begin'), some (.int at'), y5, y6] ∧
        at' ≤ T.length ∧ begin' ≤ at' ∧ Same H H'' ∧ H'' L = some (.lst vs) ∧ Mks H'' vs ms ∧ ms ++ spec line' (at' - begin') (T.drop at') = spec 0 0 T, fun σ' H'' hN => ?_, ?_⟩
      · obtain ⟨l2, b2, a2, z5, z6, vs2, ms2, h1, h2, h3, h4, h5, h6, h7, h8⟩ := hN
        exact ⟨T.length - a2, by omega, l2, b2, a2, z5, z6, vs2, ms2, rfl, h2, h3, h4, h5, h6, h7, h8⟩
      refine ⟨_, rfl, _, rfl, T, at_, c, rfl, hc, by omega, ?_⟩
      refine ⟨_, rfl, _, rfl, _, rfl, _, rfl, _, rfl, S T, rfl, ?_, ?_⟩
      · rw [S_len]
        exact Nat.le_trans hT (by decide)
      rw [cutS_nat T at_ _ (Nat.le_of_lt hend2) hend, hcut]
      -- what comes behind the first test
      have tail : ∀ (D : Ends) (H2 : Hp) (vs2 : List V) (ms2 : List Mrk), Same H H2 → H2 L = some (.lst vs2) → Mks H2 vs2 ms2 →
          (ms2 ++ (if c = 10 then spec (line + 1) 0 (T.drop (runEnd T at_ c)) else spec line (at_ - begin + 1 + ((T.drop (at_ + 1)).takeWhile (M5.same c)).length) (T.drop (runEnd T at_ c))) = spec 0 0 T) →
          (∀ (σ' : L2.St) (H'' : Hp), (∃ (line' begin' at' : Nat) (y5 y6 : Option V) (vs : List V) (ms : List Mrk), at_ < at' ∧ σ' = [some (.str (S T)), some (.ref L), some (.int line'), some (.int begin'), some (.int at'), y5, y6] ∧
            at' ≤ T.length ∧ begin' ≤ at' ∧ Same H H'' ∧ H'' L = some (.lst vs) ∧ Mks H'' vs ms ∧ ms ++ spec line' (at' - begin') (T.drop at') = spec 0 0 T) → D.nx σ' H'') →
          tSeq (tIfS (tTest (tOp rEq (tVar 6) (tC (V.str (("\n" : String) : Str))))) (tSeq (tAug 2 (tC (V.int 1)) (ipI fun i j => i + j)) (tAsg (tVar 5) (gName 3))) tNext) (tAsg (tVar 5) (gName 4)) D
            [some (.str (S T)), some (.ref L), some (.int line), some (.int begin), some (.int at_), some (.int (runEnd T at_ c : Nat)), some (.str (S (c :: (T.drop (at_ + 1)).takeWhile (M5.same c))))] H2 := by
        intro D H2 vs2 ms2 g1 g2 g3 g4 g5
        refine ⟨_, rfl, rfl, _, rfl, ite2 (fun e => ?_) (fun e => ?_)⟩
        · have e2 := of_decide_eq_true e
          rw [c_line, S_eq] at e2
          have h10 : c = 10 := (List.cons.inj e2).1
          rw [if_pos h10] at g4
          refine ⟨_, rfl, _, _, rfl, rfl, ?_⟩
          refine ⟨_, rfl, ?_⟩
          refine ⟨_, rfl, g5 _ _ ⟨line + 1, runEnd T at_ c, runEnd T at_ c, _, _, vs2, ms2, hend2, rfl, hend, Nat.le_refl _, g1, g2, g3, by rw [Nat.sub_self]; exact g4⟩⟩
        · have h10 : c ≠ 10 := by
            intro z
            subst z
            apply e
            rw [tw_zero (c := 10) (by decide), c_line]
            exact decide_eq_true rfl
          rw [if_neg h10] at g4
          refine ⟨_, rfl, g5 _ _ ⟨line, begin, runEnd T at_ c, _, _, vs2, ms2, hend2, rfl, hend, by omega, g1, g2, g3, by rw [show runEnd T at_ c - begin = at_ - begin + 1 + ((T.drop (at_ + 1)).takeWhile (M5.same c)).length by unfold runEnd; omega]; exact g4⟩⟩
      refine ⟨_, rfl, rfl, _, rfl, ite2 (fun e => ?_) (fun e => ?_)⟩
      · have h32 : c ≠ 32 := by
          intro z
          subst z
          rw [tw_zero (c := 32) (by decide), c_blank] at e
          simp at e
        rw [if_neg h32] at hS
        have hms : ms.length < sizeLine := by
          have e3 := congrArg List.length hS
          rw [List.length_append, List.length_cons] at e3
          have : sizeLine = 16777216 := by decide
          omega
        refine ⟨.ref L, rfl, .inl ⟨rfl, _, .inl (.inl hL)⟩, _, rfl, _, rfl, _, rfl, _, _, rfl, rfl, _, rfl, by show 3 ≤ sizeLine; decide, fun t nt => ?_⟩
        have nLt : L ≠ t := ne_of_none hL nt
        refine ⟨L, vs, .ref t, rfl, rfl, ?_, ?_, ?_⟩
        · rw [upd_ne nLt]
          exact hL
        · rw [hM.len]
          exact hms
        · have hH : Same H' (upd H' t (.tup (mTup (line, at_ - begin, c :: (T.drop (at_ + 1)).takeWhile (M5.same c))))) := same_upd nt
          have eT : ([.int line, .int ((at_ : Int) - (begin : Int)), .str (S (c :: (T.drop (at_ + 1)).takeWhile (M5.same c)))] : List V) = mTup (line, at_ - begin, c :: (T.drop (at_ + 1)).takeWhile (M5.same c)) := by
            unfold mTup
            rw [show ((at_ : Int) - (begin : Int)) = ((at_ - begin : Nat) : Int) by omega]
          refine tail _ _ (vs ++ [.ref t]) (ms ++ [(line, at_ - begin, c :: (T.drop (at_ + 1)).takeWhile (M5.same c))]) ?_ upd_same ?_ ?_ (fun σ' H'' h => h)
          · refine same_put ?_ nL
            show Same H (upd H' t (.tup ([.int line, .int ((at_ : Int) - (begin : Int)), .str (S (c :: (T.drop (at_ + 1)).takeWhile (M5.same c)))] : List V)))
            rw [eT]
            exact sm.trans hH
          · show Mks (upd (upd H' t (.tup ([.int line, .int ((at_ : Int) - (begin : Int)), .str (S (c :: (T.drop (at_ + 1)).takeWhile (M5.same c)))] : List V))) L _) _ _
            rw [eT]
            refine Mks.upd (xs := vs) (by rw [upd_ne nLt]; exact hL) (Mks.snoc ⟨t, rfl, upd_same⟩ (hM.mono hH))
          · rw [List.append_assoc]
            exact hS
      · have h32 : c = 32 := by
          have e2 : decide (V.str (S (c :: (T.drop (at_ + 1)).takeWhile (M5.same c))) = V.str (((" " : String) : Str))) = true := by
            simpa using e
          have e3 := of_decide_eq_true e2
          rw [c_blank, S_eq] at e3
          exact (List.cons.inj e3).1
        rw [if_pos h32] at hS
        exact tail _ _ vs ms sm hL hM hS (fun σ' H'' h => h)
    · have e1 : ¬ (at_ : Int) < ((S T).length : Int) := fun z => e (decide_eq_true z)
      rw [S_len] at e1
      have ea : at_ = T.length := by omega
      subst ea
      rw [List.drop_length, spec_nil, List.append_nil] at hS
      subst hS
      refine ⟨_, rfl, L, vs, rfl, .inl ⟨.inl (.inl hL), fun t nt => ?_⟩⟩
      refine q _ t vs (fun b o e => ?_) (sm.free nt) upd_same (hM.mono (same_upd nt))
      rw [upd_ne (ne_of_none (sm _ _ e) nt)]
      exact sm _ _ e
end
end K5


namespace K5
open PySem PySem.Spec PyProof.Rows L2 VG M5 HD
abbrev s__law_draw : Stmt := topS 8
abbrev N__law_draw : List Str := ["heap", "many", "rest"]
theorem sc__law_draw : FnScope N__law_draw ["heap", "many"] (defScope s__law_draw) := ⟨rfl, rfl, rfl, by decide +kernel, rfl, by decide +kernel, by decide +kernel⟩
abbrev s__law_pick : Stmt := topS 9
abbrev N__law_pick : List Str := ["heap", "some"]
theorem sc__law_pick : FnScope N__law_pick ["heap", "some"] (defScope s__law_pick) := ⟨rfl, rfl, rfl, by decide +kernel, rfl, by decide +kernel, by decide +kernel⟩
section
variable {P : Program} {w : World} {K : PySem.W.Frag} {mg : Str → Option Value} {base : Heap}
theorem ok__law_draw {f : Addr} {fd : FuncData} (F : Fun K "_law_draw" "_law_draw" s__law_draw f fd) (z_int : mg "int" = none) :
    FnOk P w K mg base CX0 1 f fd ["heap", "many"] spDraw := by
  refine F.ok sc__law_draw (fun vs H Q E h => ?_) (fun cdv A outer s H vs Q E hr h => ?_)
  · obtain ⟨p, q, many, rfl, _⟩ := h
    rfl
  · obtain ⟨p, q, many, rfl, hd, m0, m1, fin⟩ := h
    refine ⟨_, (pss_cut (ps_while PassesOwn.never (PW.pt (pw_and (pt_cmpR (op_neD hr.units) (pe_ix ix_list (pv 0) pe_int (fun _ _ => rfl)) (pe_lst pa_nil) (nomark _)) (pw_and1 (pt_cmpR op_eq (pe_ix ix_list (pe_ix ix_list (pv 0) pe_int (fun _ _ => rfl)) (pe_un un_neg pe_int) (fun _ _ => rfl)) pe_int (nomark _)))))
      (pss_one (ps_expr (pe_bm0 PySem.F.plainAttrs_list PySem.F.slot_list_pop PySem.F.type_list_pop mt_pop (pe_ix ix_list (pv 0) pe_int (fun _ _ => rfl))))))
    (pss_cons (ps_if (pt_cmpR (op_neD hr.units) (pe_ix ix_list (pv 0) pe_int (fun _ _ => rfl)) (pe_lst pa_nil) (nomark _))
      (pss_cons (ps_set (i := 2) sc__law_draw.nd rfl (.inl rfl) (pe_bm0 PySem.F.plainAttrs_list PySem.F.slot_list_pop PySem.F.type_list_pop mt_pop (pe_ix ix_list (pv 0) pe_int (fun _ _ => rfl))))
      (pss_cons (ps_expr (pe_bm PySem.F.plainAttrs_list PySem.F.slot_list_append PySem.F.type_list_append mt_append (pe_ix ix_list (pv 0) pe_int (fun _ _ => rfl)) (pa_cons (pe_op op_fdivN (pv 2) (pv 1)) pa_nil)))
      (pss_one (ps_ret (pe_op op_modN (pe_callTy call_int1 (by rfl) z_int (by decide +kernel) (pa_cons (pv 2) pa_nil)) (pv 1))))))
      pss_nil)
    (pss_cons (ps_asg (pe_op op_modN (pe_callTy call_int1 (by rfl) z_int (by decide +kernel) (pa_cons (pe_op op_add (pe_op op_mul (pe_ix ix_list (pv 0) pe_int (fun _ _ => rfl)) pe_int) pe_int) pa_nil)) pe_int) (pg_sub (pv 0) pe_int set_list))
    (pss_one (ps_ret (pe_op op_modN (pe_callTy call_int1 (by rfl) z_int (by decide +kernel) (pa_cons (pe_op op_fdivN (pe_ix ix_list (pv 0) pe_int (fun _ _ => rfl)) pe_int) pa_nil)) (pv 1))))))), ?_⟩
    obtain ⟨cs, st, h1, h2, h3, h4, h5⟩ := hd
    have at0 : ∀ x y : V, atI [x, y] 0 = some x := fun _ _ => rfl
    have at1 : ∀ x y : V, atI [x, y] 1 = some y := fun _ _ => rfl
    refine ⟨fun σ H' => σ = [some (.ref p), some (.int many), none] ∧ Keep p q H H' ∧ ∃ cs : List Int, H' p = some (.lst [.ref q, .int st]) ∧ H' q = some (.lst (cs.map V.int)) ∧ cs.length ≤ 63, ?_, ?_⟩
    · -- the loop
      refine ⟨fun m σ H' => ∃ cs : List Int, m = cs.length ∧ σ = [some (.ref p), some (.int many), none] ∧ Keep p q H H' ∧ H' p = some (.lst [.ref q, .int st]) ∧ H' q = some (.lst (cs.map V.int)) ∧ cs.length ≤ 63,
        ⟨_, cs, rfl, rfl, Keep.refl _ _ _, h1, h2, h3⟩, ?_⟩
      rintro m σ H1 ⟨cs, rfl, rfl, kp, h1, h2, h3⟩
      refine ⟨_, rfl, p, _, 0, .ref q, rfl, rfl, .inl (.inl h1), at0 _ _, Nat.zero_le _, fun l nl => ?_⟩
      have n1 : p ≠ l := ne_of_none h1 nl
      have n2 : q ≠ l := ne_of_none h2 nl
      have g1 : (upd H1 l (.lst [])) p = some (.lst [.ref q, .int st]) := by
        rw [upd_ne n1]
        exact h1
      have g2 : (upd H1 l (.lst [])) q = some (.lst (cs.map V.int)) := by
        rw [upd_ne n2]
        exact h2
      have kp1 : Keep p q H (upd H1 l (.lst [])) := kp.trans (Keep.new nl)
      refine ⟨_, .list [], dp_ints (.inl (.inl g2)), .lst (.inl (.inl upd_same)) .nil, shaped_ints _, shaped_nil, _, rfl, ?_⟩
      rw [eqv_nil]
      by_cases hc : cs = []
      · rw [decide_eq_true hc]
        refine iteF ⟨rfl, kp1, cs, g1, g2, h3⟩
      · rw [decide_eq_false hc]
        refine iteT ?_
        obtain ⟨c0, c, rfl⟩ := snocL cs hc
        have gl : atI ((c0 ++ [c]).map V.int) (-1) = some (.int c) := by
          rw [List.map_append]
          exact atI_last _ _
        refine ⟨_, rfl, p, _, 0, .ref q, rfl, rfl, .inl (.inl g1), at0 _ _, 1, rfl, q, _, -1, _, rfl, rfl, .inl (.inl g2), gl, rfl, _, rfl, ite2 (fun e => ?_) (fun e => ?_)⟩
        · refine ⟨fun σ' H'' => σ' = [some (.ref p), some (.int many), none] ∧ Keep p q H H'' ∧ H'' p = some (.lst [.ref q, .int st]) ∧ H'' q = some (.lst (c0.map V.int)), fun σ' H'' hN => ?_, ?_⟩
          · obtain ⟨e1, e2, e3, e4⟩ := hN
            rw [List.length_append, List.length_cons, List.length_nil] at h3
            exact ⟨c0.length, by rw [List.length_append, List.length_cons, List.length_nil]; omega, c0, rfl, e1, e2, e3, e4, by omega⟩
          · refine ⟨_, rfl, p, _, 0, .ref q, rfl, rfl, .inl (.inl g1), at0 _ _, .inl ⟨rfl, _, .inl (.inl g2)⟩, q, _, .int c, rfl, rfl, g2, ?_, rfl, kp1.trans Keep.at2, ?_, ?_⟩
            · rw [List.map_append, List.length_append, List.getElem?_append_right (by simp)]
              simp
            · rw [upd_ne (show p ≠ q from Hd.ne (H := upd H1 l (.lst [])) ⟨_, _, g1, g2, h3, h4, h5⟩)]
              exact g1
            · rw [upd_same, List.map_append]
              simp
        · exact ⟨rfl, kp1, _, g1, g2, h3⟩
    · rintro σ H1 ⟨rfl, kp, cs, h1, h2, h3⟩
      refine ⟨_, rfl, p, _, 0, .ref q, rfl, rfl, .inl (.inl h1), at0 _ _, Nat.zero_le _, fun l nl => ?_⟩
      have n1 : p ≠ l := ne_of_none h1 nl
      have n2 : q ≠ l := ne_of_none h2 nl
      have g1 : (upd H1 l (.lst [])) p = some (.lst [.ref q, .int st]) := by
        rw [upd_ne n1]
        exact h1
      have g2 : (upd H1 l (.lst [])) q = some (.lst (cs.map V.int)) := by
        rw [upd_ne n2]
        exact h2
      have kp1 : Keep p q H (upd H1 l (.lst [])) := kp.trans (Keep.new nl)
      have hpq : p ≠ q := Hd.ne (H := upd H1 l (.lst [])) ⟨_, _, g1, g2, h3, h4, h5⟩
      refine ⟨_, .list [], dp_ints (.inl (.inl g2)), .lst (.inl (.inl upd_same)) .nil, shaped_ints _, shaped_nil, _, rfl, ?_⟩
      rw [eqv_nil]
      by_cases hc : cs = []
      · -- from the number
        rw [decide_eq_true hc]
        refine iteF ?_
        have b1 : -(2 ^ 64) < st ∧ st < 2 ^ 64 := ⟨by omega, by omega⟩
        have fm := fmod_lt (st * 48271 + 17) (m := 2147483647) (by decide)
        refine ⟨_, rfl, p, _, 1, .int st, rfl, rfl, .inl (.inl g1), at1 _ _, _, _, rfl, rfl, .inl b1, _, _, rfl, rfl, .inl ⟨_, rfl, _, _, rfl, rfl, by show (2147483647 : Int) ≠ 0; decide, ?_⟩⟩
        refine ⟨_, rfl, p, _, 1, 1, rfl, rfl, g1, rfl, ?_⟩
        have g3 : (upd (upd H1 l (.lst [])) p (.lst ([V.ref q, V.int st].set 1 (V.int ((st * 48271 + 17).fmod 2147483647))))) p = some (.lst [.ref q, .int ((st * 48271 + 17).fmod 2147483647)]) := upd_same
        refine ⟨_, rfl, p, _, 1, .int ((st * 48271 + 17).fmod 2147483647), rfl, rfl, .inl (.inl g3), at1 _ _, _, _, rfl, rfl, ⟨by decide, by decide⟩, .inl ⟨_, rfl, _, rfl, _, _, rfl, rfl, by omega, ?_⟩⟩
        have fm2 := fmod_lt (((st * 48271 + 17).fmod 2147483647).fdiv 32) m0
        refine fin _ _ ⟨cs, _, g3, ?_, h3, fm.1, fm.2⟩ (kp1.trans Keep.at1) fm2.1 fm2.2
        rw [upd_ne hpq.symm]
        exact g2
      · rw [decide_eq_false hc]
        refine iteT ?_
        obtain ⟨c0, c, rfl⟩ := snocL cs hc
        have gp : (List.map V.int (c0 ++ [c]))[(List.map V.int (c0 ++ [c])).length - 1]? = some (.int c) := by
          rw [List.map_append, List.length_append, List.getElem?_append_right (by simp)]
          simp
        refine ⟨_, rfl, p, _, 0, .ref q, rfl, rfl, .inl (.inl g1), at0 _ _, .inl ⟨rfl, _, .inl (.inl g2)⟩, q, _, .int c, rfl, rfl, g2, gp, ?_⟩
        have dl : (List.map V.int (c0 ++ [c])).dropLast = c0.map V.int := by
          rw [List.map_append]
          simp
        rw [dl]
        have g3 : (upd (upd H1 l (.lst [])) q (.lst (c0.map V.int))) p = some (.lst [.ref q, .int st]) := by
          rw [upd_ne hpq]
          exact g1
        have g4 : (upd (upd H1 l (.lst [])) q (.lst (c0.map V.int))) q = some (.lst (c0.map V.int)) := upd_same
        refine ⟨_, rfl, p, _, 0, .ref q, rfl, rfl, .inl (.inl g3), at0 _ _, .inl ⟨rfl, _, .inl (.inl g4)⟩, _, rfl, _, rfl, _, _, rfl, rfl, ⟨by omega, by omega⟩, q, _, _, rfl, rfl, g4, ?_, ?_⟩
        · rw [List.length_append, List.length_cons, List.length_nil] at h3
          rw [List.length_map]
          exact small1000 (by omega)
        · refine ⟨_, rfl, .inl ⟨_, rfl, _, rfl, _, _, rfl, rfl, by omega, ?_⟩⟩
          have fm := fmod_lt c m0
          refine fin _ _ ⟨c0 ++ [c.fdiv many], st, ?_, ?_, ?_, h4, h5⟩ ((kp1.trans Keep.at2).trans Keep.at2) fm.1 fm.2
          · rw [upd_ne hpq]
            exact g3
          · rw [upd_same, List.map_append]
            rfl
          · rw [List.length_append, List.length_cons, List.length_nil] at h3 ⊢
            exact h3
theorem ok__law_pick {f : Addr} {fd : FuncData} (F : Fun K "_law_pick" "_law_pick" s__law_pick f fd) (C__law_draw : Cl P w K mg base 1 "_law_draw" spDraw) (z_len : mg "len" = none) :
    FnOk P w K mg base CX0 2 f fd ["heap", "some"] (spPick K) := by
  refine F.ok sc__law_pick (fun vs H Q E h => ?_) (fun cdv A outer s H vs Q E hr h => ?_)
  · obtain ⟨p, q, l, xs, rfl, _⟩ := h
    rfl
  · obtain ⟨p, q, l, xs, rfl, hd, hl, n1, n2, hx, hz, fin⟩ := h
    refine ⟨_, (pss_one (ps_ret (pe_ix ix_list (pv 1) (pe_cl C__law_draw hr (by decide) rfl (pa_cons (pv 0) (pa_cons (pe_callB call_len_seq (by rfl) z_len (by decide +kernel) (pa_cons (pv 1) pa_nil)) pa_nil))) (fun _ _ => rfl)))), ?_⟩
    have h0 : 0 < xs.length := List.length_pos_iff.mpr hx
    refine ⟨_, rfl, _, rfl, _, rfl, l, xs, rfl, .inl (.inl (.inl hl)), p, q, _, rfl, hd, by omega, by omega, fun H' r hd' kp r0 r1 => ?_⟩
    have hl' := kp l _ n1 n2 hl
    obtain ⟨j, rfl⟩ := Int.eq_ofNat_of_zero_le r0
    have hj : j < xs.length := by omega
    refine ⟨l, xs, _, xs[j], rfl, rfl, .inl (.inl hl'), atI_nat (List.getElem?_eq_getElem hj), ?_⟩
    exact fin _ _ hd' kp (List.getElem_mem hj)
end
end K5


namespace K5
open PySem PySem.Spec PyProof.Rows L2 VG M5 HD
abbrev s__law_heap : Stmt := topS 7
abbrev N__law_heap : List Str := ["script", "cell", "cells", "stir"]
theorem sc__law_heap : FnScope N__law_heap ["script"] (defScope s__law_heap) := ⟨rfl, rfl, rfl, by decide +kernel, rfl, by decide +kernel, by decide +kernel⟩
abbrev s__law_sort : Stmt := topS 10
abbrev N__law_sort : List Str := ["sign"]
theorem sc__law_sort : FnScope N__law_sort ["sign"] (defScope s__law_sort) := ⟨rfl, rfl, rfl, by decide +kernel, rfl, by decide +kernel, by decide +kernel⟩
theorem cut_ints (ns : List Int) (lo hi : Option Int) : ∃ ms : List Int, cutV (ns.map V.int) lo hi = ms.map V.int ∧ ms.length ≤ ns.length := by
  refine ⟨(ns.drop (HT.sIx (ns.map V.int).length 0 lo)).take (HT.sIx (ns.map V.int).length (ns.map V.int).length hi - HT.sIx (ns.map V.int).length 0 lo), ?_, ?_⟩
  · unfold cutV
    rw [List.map_take, List.map_drop]
  · rw [List.length_take, List.length_drop]
    omega
section
variable {P : Program} {w : World} {K : PySem.W.Frag} {mg : Str → Option Value} {base : Heap}
def spHeap (K : PySem.W.Frag) : Sp := fun vs H Q _ => ∃ (a : Addr) (ns : List Int), vs = [.ref a] ∧ SqL K H a (ns.map V.int) ∧ ns.length ≤ 63 ∧ ∀ H' p q, Hd p q H' → Same H H' → Q (.ref p) H'
theorem ok__law_heap {f : Addr} {fd : FuncData} (F : Fun K "_law_heap" "_law_heap" s__law_heap f fd) (z_int : mg "int" = none) (z_abs : mg "abs" = none) :
    FnOk P w K mg base CX0 1 f fd ["script"] (spHeap K) := by
  refine F.ok sc__law_heap (fun vs H Q E h => ?_) (fun cdv A outer s H vs Q E hr h => ?_)
  · obtain ⟨a, ns, rfl, _⟩ := h
    rfl
  · obtain ⟨a, ns, rfl, hS, hn, fin⟩ := h
    refine ⟨_, (pss_cons (ps_par (i := 2) (j := 3) (by rfl) sc__law_heap.nd rfl rfl (by decide) rfl rfl (pa_cons (pe_lc (own := [("cell", 1)]) (by rfl) sc__law_heap.nd (pi_list (pe_slice sl_list (pv 0) po_none (po_some pe_int))) (blkOk_by (own := [("cell", 1)]) (N := N__law_heap) (sc := defScope s__law_heap) (by decide +kernel)) (fun _ _ _ _ _ => (pg_name (i := 1) sc__law_heap.nd rfl (.inl rfl))) (fun _ _ _ _ _ => pts_nil) (fun _ _ _ _ _ => (pe_op op_add (pe_op op_mul pe_int (pe_callB call_abs (by rfl) z_abs (by decide +kernel) (pa_cons (pv 1) pa_nil))) (pe_callTy call_int1 (by rfl) z_int (by decide +kernel) (pa_cons (pe_cmpR op_lt (pv 1) pe_int (nomark _)) pa_nil))))) (pa_cons pe_int pa_nil)) (by rfl))
    (pss_cut (ps_for PassesOwn.never rfl (pi_list (pv 2)) (pg_name (i := 1) sc__law_heap.nd rfl (.inl rfl))
      (pss_one (ps_set (i := 3) sc__law_heap.nd rfl (.inl rfl) (pe_op op_modN (pe_callTy call_int1 (by rfl) z_int (by decide +kernel) (pa_cons (pe_op op_add (pe_op op_add (pe_op op_mul (pv 3) pe_int) (pe_op op_modN (pe_callTy call_int1 (by rfl) z_int (by decide +kernel) (pa_cons (pv 1) pa_nil)) pe_int)) pe_int) pa_nil)) pe_int))))
    (pss_one (ps_ret (pe_lst (pa_cons (pe_revL (pe_lc (own := [("cell", 1)]) (by rfl) sc__law_heap.nd (pi_list (pv 2)) (blkOk_by (own := [("cell", 1)]) (N := N__law_heap) (sc := defScope s__law_heap) (by decide +kernel)) (fun _ _ _ _ _ => (pg_name (i := 1) sc__law_heap.nd rfl (.inl rfl))) (fun _ _ _ _ _ => (pts_one (pt_cmpR op_ge (pv 1) (pe_op op_pow pe_int pe_int) (nomark _)))) (fun _ _ _ _ _ => (pv 1)))) (pa_cons (pv 3) pa_nil))))))), ?_⟩
    obtain ⟨ms, em, hm⟩ := cut_ints ns none (some 60)
    refine ⟨_, rfl, _, rfl, a, _, rfl, hS, fun c nc => ?_⟩
    rw [em]
    have s1 : Same H (upd H c (.lst (ms.map V.int))) := same_upd nc
    refine ⟨c, rfl, ⟨_, .inl (.inl upd_same)⟩, fun D nD => ?_⟩
    have ncD : c ≠ D := ne_of_none upd_same nD
    refine lc_it (walk_list (K := K) (a := c) (xs := ms.map V.int)) (fun i H' => Same H H' ∧ H' c = some (.lst (ms.map V.int)) ∧ ∃ cs : List Int, cs.length = i ∧ H' D = some (.lst (cs.map V.int))) ?_ ?_ ?_ ?_
    · exact ⟨s1.trans (same_upd nD), by rw [upd_ne ncD]; exact upd_same, [], rfl, upd_same⟩
    · rintro i H' _ ⟨_, h2, _⟩
      exact .inl (.inl h2)
    · rintro i x H1 H' hi ⟨sm, hc, cs, el, hD⟩ ⟨rfl, ex⟩
      rw [List.length_map] at hi
      rw [List.getElem?_map, List.getElem?_eq_getElem hi] at ex
      have e1 : V.int ms[i] = x := Option.some.inj ex
      subst e1
      refine ⟨rfl, _, rfl, _, rfl, _, _, rfl, rfl, .inl ⟨by decide, by decide⟩, _, rfl, _, _, rfl, rfl, .inr ⟨_, rfl, _, _, rfl, rfl, ?_⟩⟩
      refine ⟨cs.map V.int, hD, ?_, ?_, ?_, ?_⟩
      · rw [List.length_map]
        exact small1000 (by omega)
      · have nH : H D = none := s1.free nD
        exact same_put sm nH
      · rw [upd_ne ncD]
        exact hc
      · refine ⟨cs ++ [2 * (if ms[i] < 0 then -ms[i] else ms[i]) + (if decide (ms[i] < 0) = true then 1 else 0)], by rw [List.length_append, el]; rfl, ?_⟩
        rw [upd_same, List.map_append]
        rfl
    · rintro H1 ⟨sm, hc, cs, el, hD⟩
      rw [List.length_map] at el
      have hcs : cs.length ≤ 63 := by omega
      refine ⟨_, _, rfl, ?_⟩
      -- the loop over the cells
      refine ⟨fun σ H' => H' = H1 ∧ ∃ (y1 : Option V) (st : Int), σ = [some (.ref a), y1, some (.ref D), some (.int st)] ∧ 0 ≤ st ∧ st < 2147483647, ?_, ?_⟩
      · refine ⟨_, rfl, D, rfl, ⟨_, .inl (.inl hD)⟩, ?_⟩
        refine for_it (walk_list (K := K) (a := D) (xs := cs.map V.int)) (fun i σ H' => H' = H1 ∧ ∃ (y1 : Option V) (st : Int), σ = [some (.ref a), y1, some (.ref D), some (.int st)] ∧ 0 ≤ st ∧ st < 2147483647) ?_ ?_ ?_ ?_
        · exact ⟨rfl, _, 50021, rfl, by decide, by decide⟩
        · rintro i σ H' _ ⟨rfl, _⟩
          exact .inl (.inl hD)
        · rintro i x σ H' H'' hi ⟨rfl, y1, st, rfl, h1, h2⟩ ⟨rfl, ex⟩
          rw [List.length_map] at hi
          rw [List.getElem?_map, List.getElem?_eq_getElem hi] at ex
          have e1 : V.int cs[i] = x := Option.some.inj ex
          subst e1
          have fm := fmod_lt (st * 69621 + (cs[i]).fmod 2147483563 + 29) (m := 2147483647) (by decide)
          refine ⟨_, rfl, _, _, rfl, rfl, .inl ⟨by omega, by omega⟩, _, rfl, .inl ⟨_, rfl, _, _, rfl, rfl, by show (2147483563 : Int) ≠ 0; decide, _, _, rfl, rfl, _, _, rfl, rfl, .inl ⟨_, rfl, _, _, rfl, rfl, by show (2147483647 : Int) ≠ 0; decide, ?_⟩⟩⟩
          exact ⟨rfl, _, _, rfl, fm.1, fm.2⟩
        · rintro σ H' ⟨rfl, h⟩
          exact ⟨rfl, h⟩
      · rintro σ H' ⟨rfl, y1, st, rfl, h1, h2⟩
        refine ⟨_, rfl, D, rfl, ⟨_, .inl (.inl hD)⟩, fun B nB => ?_⟩
        have nDB : D ≠ B := ne_of_none hD nB
        refine lc_it (walk_list (K := K) (a := D) (xs := cs.map V.int)) (fun i H2 => Same H H2 ∧ H2 D = some (.lst (cs.map V.int)) ∧ ∃ ds : List Int, ds.length ≤ i ∧ H2 B = some (.lst (ds.map V.int))) ?_ ?_ ?_ ?_
        · exact ⟨sm.trans (same_upd nB), by rw [upd_ne nDB]; exact hD, [], Nat.le_refl _, upd_same⟩
        · rintro i H2 _ ⟨_, g2, _⟩
          exact .inl (.inl g2)
        · rintro i x H2 H3 hi ⟨sm2, hD2, ds, el2, hB⟩ ⟨rfl, ex⟩
          rw [List.length_map] at hi
          rw [List.getElem?_map, List.getElem?_eq_getElem hi] at ex
          have e1 : V.int cs[i] = x := Option.some.inj ex
          subst e1
          refine ⟨rfl, _, rfl, _, _, rfl, rfl, ⟨by decide, by decide, by decide⟩, _, _, rfl, rfl, _, rfl, ite2 (fun e => ?_) (fun e => ?_)⟩
          · refine ⟨_, rfl, ds.map V.int, hB, ?_, same_put sm2 (sm.free nB), ?_, ?_⟩
            · rw [List.length_map]
              exact small1000 (by omega)
            · rw [upd_ne nDB]
              exact hD2
            · refine ⟨ds ++ [cs[i]], by rw [List.length_append, List.length_cons, List.length_nil]; omega, ?_⟩
              rw [upd_same, List.map_append]
              rfl
          · exact ⟨sm2, hD2, ds, by omega, hB⟩
        · rintro H2 ⟨sm2, hD2, ds, el2, hB⟩
          rw [List.length_map] at el2
          refine ⟨B, _, rfl, .inl (.inl hB), fun q nq => ?_⟩
          refine ⟨_, rfl, by show 2 ≤ sizeLine; decide, fun p np => ?_⟩
          have npq : q ≠ p := ne_of_none upd_same np
          refine fin _ p q ⟨ds.reverse, st, upd_same, ?_, ?_, h1, h2⟩ ((sm2.trans (same_upd nq)).trans (same_upd np))
          · rw [upd_ne npq, upd_same, List.map_reverse]
          · rw [List.length_reverse]
            omega
end
end K5


namespace K5
open PySem PySem.Spec PyProof.Rows L2 VG M5 HD
theorem lt1 (a b : Nat) : (([a] : List Nat) < [b]) ↔ a < b := by
  constructor
  · intro h
    cases h with
    | rel h => exact h
    | cons h => cases h
  · intro h
    exact .rel h
theorem c_a : (("a" : String) : Str) = S [97] := by decide +kernel
theorem c_z : (("z" : String) : Str) = S [122] := by decide +kernel
theorem c_0 : (("0" : String) : Str) = S [48] := by decide +kernel
theorem c_9 : (("9" : String) : Str) = S [57] := by decide +kernel
theorem le_codes (a b : Nat) : (!decide ((S [b]).cps.toList < (S [a]).cps.toList)) = decide (a ≤ b) := by
  have e : ((S [b]).cps.toList < (S [a]).cps.toList) ↔ b < a := lt1 b a
  by_cases h : a ≤ b
  · rw [decide_eq_true h, decide_eq_false (fun z => absurd (e.mp z) (by omega))]
    rfl
  · rw [decide_eq_false h, decide_eq_true (e.mpr (by omega))]
    rfl
section
variable {P : Program} {w : World} {K : PySem.W.Frag} {mg : Str → Option Value} {base : Heap}
def spSort : Sp := fun vs H Q _ => ∃ c : Nat, vs = [.str ⟨#[c]⟩] ∧ Q (.int (sortOf c : Nat)) H
theorem ok__law_sort {f : Addr} {fd : FuncData} (F : Fun K "_law_sort" "_law_sort" s__law_sort f fd) : FnOk P w K mg base CX0 1 f fd ["sign"] spSort := by
  refine F.ok sc__law_sort (fun vs H Q E h => ?_) (fun cdv A outer s H vs Q E hr h => ?_)
  · obtain ⟨c, rfl, _⟩ := h
    rfl
  · obtain ⟨c, rfl, q⟩ := h
    refine ⟨_, (pss_cons (ps_if (pt_chain op_le_str op_le_str pe_str (pv 0) pe_str)
      (pss_one (ps_ret pe_int))
      pss_nil)
    (pss_one (ps_ret (pe_ifExp (pt_chain op_le_str op_le_str pe_str (pv 0) pe_str) pe_int pe_int)))), ?_⟩
    have hc : ∀ (lo hi : Nat) (Q' : V → Hp → Prop), (∀ k : Bool, (k = true ↔ lo ≤ c ∧ c ≤ hi) → Q' (.bl k) H) →
        tChain (fun x y H Q => ∃ i j, x = .str i ∧ y = .str j ∧ Q (.bl (!decide (j.cps.toList < i.cps.toList))) H) (fun x y H Q => ∃ i j, x = .str i ∧ y = .str j ∧ Q (.bl (!decide (j.cps.toList < i.cps.toList))) H)
          (tC (.str (S [lo]))) (tVar 0) (tC (.str (S [hi]))) (L2.start N__law_sort [V.str ⟨#[c]⟩]) H Q' := by
      intro lo hi Q' hq
      refine ⟨_, rfl, _, _, rfl, rfl, _, rfl, ?_⟩
      rw [le_codes lo c]
      refine ite2 (fun e => ?_) (fun e => ?_)
      · refine ⟨_, _, rfl, rfl, ?_⟩
        rw [le_codes c hi]
        refine hq _ ⟨fun z => ⟨of_decide_eq_true e, of_decide_eq_true z⟩, fun z => decide_eq_true z.2⟩
      · refine hq _ ⟨fun z => absurd z Bool.false_ne_true, fun z => absurd (decide_eq_true z.1) e⟩
    have h1 := hc 97 122
    have h2 := hc 48 57
    rw [← c_a, ← c_z] at h1
    rw [← c_0, ← c_9] at h2
    unfold tSeq tIfS tTest
    refine h1 _ fun k hk => ?_
    refine ⟨k, rfl, ?_⟩
    unfold sortOf at q
    cases k with
    | true =>
      rw [if_pos (hk.mp rfl)] at q
      exact iteT q
    | false =>
      rw [if_neg (fun z => Bool.false_ne_true (hk.mpr z))] at q
      refine iteF ?_
      unfold tNext tRet tIf
      dsimp only
      refine h2 _ fun k2 hk2 => ?_
      refine ⟨k2, rfl, ?_⟩
      cases k2 with
      | true =>
        rw [if_pos (hk2.mp rfl)] at q
        exact iteT q
      | false =>
        rw [if_neg (fun z => Bool.false_ne_true (hk2.mpr z))] at q
        exact iteF q
end

/-! the found ones, in the heap -/
def fTup (x : Fm) : List V := [.int x.l, .int x.a, .str (S x.m), .int x.k]
def FmV (H : Hp) (v : V) (x : Fm) : Prop := ∃ b, v = .ref b ∧ H b = some (.tup (fTup x))
def Fms (H : Hp) : List V → List Fm → Prop
  | [], [] => True
  | v :: vs, x :: xs => FmV H v x ∧ Fms H vs xs
  | _, _ => False
theorem Fms.mono {H H' : Hp} (h : Same H H') : ∀ {vs : List V} {ms : List Fm}, Fms H vs ms → Fms H' vs ms
  | [], [], _ => trivial
  | v :: vs, x :: xs, ⟨⟨b, e, z⟩, r⟩ => ⟨⟨b, e, h _ _ z⟩, r.mono h⟩
  | [], _ :: _, h => h.elim
  | _ :: _, [], h => h.elim
theorem Fms.upd {H : Hp} {L : Addr} {xs ys : List V} (hL : H L = some (.lst xs)) : ∀ {vs : List V} {ms : List Fm}, Fms H vs ms → Fms (upd H L (.lst ys)) vs ms
  | [], [], _ => trivial
  | v :: vs, x :: _, ⟨⟨b, e, z⟩, r⟩ => ⟨⟨b, e, by
      rw [upd_ne]
      · exact z
      · intro q
        subst q
        rw [hL] at z
        cases z⟩, r.upd hL⟩
  | [], _ :: _, h => h.elim
  | _ :: _, [], h => h.elim
theorem Fms.len {H : Hp} : ∀ {vs : List V} {ms : List Fm}, Fms H vs ms → vs.length = ms.length
  | [], [], _ => rfl
  | v :: vs, x :: xs, h => by
    rw [List.length_cons, List.length_cons, h.2.len]
  | [], _ :: _, h => h.elim
  | _ :: _, [], h => h.elim
theorem Fms.snoc {H : Hp} {v : V} {x : Fm} (hv : FmV H v x) : ∀ {vs : List V} {ms : List Fm}, Fms H vs ms → Fms H (vs ++ [v]) (ms ++ [x])
  | [], [], _ => ⟨hv, trivial⟩
  | _ :: _, _ :: _, h => ⟨h.1, h.2.snoc hv⟩
  | [], _ :: _, h => h.elim
  | _ :: _, [], h => h.elim
theorem Fms.split {H : Hp} {x : Fm} : ∀ {vs : List V} {ms : List Fm}, Fms H vs (ms ++ [x]) → ∃ v0 v, vs = v0 ++ [v] ∧ Fms H v0 ms ∧ FmV H v x
  | [], [], h => h.elim
  | [v], [], h => ⟨[], v, rfl, trivial, h.1⟩
  | _ :: _ :: _, [], h => h.2.elim
  | [], _ :: _, h => h.elim
  | v :: vs, y :: ms, h => by
    obtain ⟨v0, u, rfl, h1, h2⟩ := Fms.split (ms := ms) h.2
    exact ⟨v :: v0, u, rfl, ⟨h.1, h1⟩, h2⟩
theorem Fms.get {H : Hp} : ∀ {vs : List V} {ms : List Fm} {i : Nat} {v : V}, Fms H vs ms → vs[i]? = some v → ∃ x, ms[i]? = some x ∧ FmV H v x
  | [], [], _, _, _, h => by simp at h
  | a :: _, x :: _, 0, v, h, e => by
    have e1 : a = v := Option.some.inj e
    subst e1
    exact ⟨x, rfl, h.1⟩
  | _ :: vs, _ :: ms, i + 1, v, h, e => h.2.get (i := i) e
  | [], _ :: _, _, _, h, _ => h.elim
  | _ :: _, [], _, _, h, _ => h.elim
def fD (x : Fm) : PyData := .tuple [.int x.l, .int x.a, .str (S x.m), .int x.k]
theorem Fms.dp {K : PySem.W.Frag} {H : Hp} : ∀ {vs : List V} {ms : List Fm}, Fms H vs ms → DpAll K H vs (ms.map fD)
  | [], [], _ => .nil
  | v :: vs, x :: xs, ⟨⟨b, e, z⟩, r⟩ => by
    subst e
    exact .cons (.tup (.inl (.inl z)) (.cons (.int _) (.cons (.int _) (.cons (.str _) (.cons (.int _) .nil))))) r.dp
  | [], _ :: _, h => h.elim
  | _ :: _, [], h => h.elim
def okC (m : List Nat) : Prop := ∀ c ∈ m, c < 1114112
theorem okC.str {m : List Nat} (h : okC m) : PyData.canLay0 (.str (S m)) = true := by
  show (S m).cps.all (· < 0x110000) = true
  rw [Array.all_eq_true_iff_forall_mem]
  intro c hc
  exact decide_eq_true (h c (by simpa using hc))
theorem lay_fms : ∀ ms : List Fm, (∀ x ∈ ms, okC x.m) → PyData.canLayAll0 (ms.map fD) = true ∧ PyData.depthAll (ms.map fD) ≤ 1
  | [], _ => ⟨rfl, Nat.zero_le _⟩
  | x :: ms, h => by
    have ⟨h1, h2⟩ := lay_fms ms fun y hy => h y (List.mem_cons_of_mem _ hy)
    have h3 := (h x List.mem_cons_self).str
    constructor
    · show ((PyData.canLay0 (.int x.l) && (PyData.canLay0 (.int x.a) && (PyData.canLay0 (.str (S x.m)) && (PyData.canLay0 (.int x.k) && true)))) && PyData.canLayAll0 (ms.map fD)) = true
      rw [h1, h3]
      rfl
    · show max (PyData.depth (fD x)) (PyData.depthAll (ms.map fD)) ≤ 1
      have : PyData.depth (fD x) = 1 := rfl
      omega
theorem shaped_fms (ms : List Fm) (h : ∀ x ∈ ms, okC x.m) : SeqAt.shaped (.list (ms.map fD)) = true := by
  have ⟨h1, h2⟩ := lay_fms ms h
  unfold SeqAt.shaped
  rw [Bool.and_eq_true]
  refine ⟨h1, decide_eq_true ?_⟩
  show PyData.depthAll (ms.map fD) + 1 ≤ 64
  omega
theorem eqv_fms (ms : List Fm) : PyData.eqv (.list (ms.map fD)) (.list []) = decide (ms = []) := by
  cases ms with
  | nil => rfl
  | cons c r => rfl
theorem shaped_pair (i j : Int) : SeqAt.shaped (.tuple [.int i, .int j]) = true := rfl
theorem eqv_pair (i j k l : Int) : PyData.eqv (.tuple [.int i, .int j]) (.tuple [.int k, .int l]) = (i == k && (j == l && true)) := rfl
end K5


namespace K5
open PySem PySem.Spec PyProof.Rows L2 VG M5 HD
abbrev s__law_marks : Stmt := topS 11
abbrev N__law_marks : List Str := ["text", "found", "line", "at", "sign", "sort", "mark"]
theorem sc__law_marks : FnScope N__law_marks ["text"] (defScope s__law_marks) := ⟨rfl, rfl, rfl, by decide +kernel, rfl, by decide +kernel, by decide +kernel⟩
theorem stepF_snoc (F0 : List Fm) (x : Fm) (l a c : Nat) (h : sortOf c > 0 ∧ hits (F0 ++ [x]) l a (sortOf c) = true) : stepF (F0 ++ [x]) l a c = F0 ++ [{ x with m := x.m ++ [c] }] := by
  unfold stepF
  rw [if_pos h]
  simp
theorem stepF_not (F : List Fm) (l a c : Nat) (h : ¬ (sortOf c > 0 ∧ hits F l a (sortOf c) = true)) : stepF F l a c = if c = 32 then F else F ++ [⟨l, a, [c], sortOf c⟩] := by
  unfold stepF
  rw [if_neg h]
def fine (F : List Fm) (i : Nat) : Prop := (∀ x ∈ F, okC x.m ∧ x.m.length ≤ i) ∧ F.length ≤ i
theorem fine.step {F : List Fm} {i : Nat} (h : fine F i) {l a c : Nat} (hc : c < 1114112) : fine (stepF F l a c) (i + 1) := by
  have up : ∀ x ∈ F, okC x.m ∧ x.m.length ≤ i + 1 := fun x hx => ⟨(h.1 x hx).1, Nat.le_succ_of_le (h.1 x hx).2⟩
  have hl := h.2
  by_cases hh : sortOf c > 0 ∧ hits F l a (sortOf c) = true
  · rcases snoc_or F with rfl | ⟨F0, x, rfl⟩
    · exact absurd hh.2 Bool.false_ne_true
    · rw [stepF_snoc F0 x l a c hh]
      refine ⟨fun y hy => ?_, ?_⟩
      · rcases List.mem_append.mp hy with z | z
        · exact up y (List.mem_append_left _ z)
        · have e : y = { x with m := x.m ++ [c] } := by simpa using z
          subst e
          have hx := h.1 x (List.mem_append_right _ List.mem_cons_self)
          refine ⟨fun d hd => ?_, ?_⟩
          · rcases List.mem_append.mp hd with q | q
            · exact hx.1 d q
            · have : d = c := by simpa using q
              omega
          · show (x.m ++ [c]).length ≤ i + 1
            rw [List.length_append]
            show x.m.length + 1 ≤ i + 1
            omega
      · rw [List.length_append] at hl ⊢
        exact Nat.le_succ_of_le hl
  · rw [stepF_not F l a c hh]
    split
    · exact ⟨up, Nat.le_succ_of_le hl⟩
    · refine ⟨fun y hy => ?_, ?_⟩
      · rcases List.mem_append.mp hy with z | z
        · exact up y z
        · have e : y = ⟨l, a, [c], sortOf c⟩ := by simpa using z
          subst e
          refine ⟨fun d hd => ?_, ?_⟩
          · have : d = c := by simpa using hd
            omega
          · show 1 ≤ i + 1
            omega
      · rw [List.length_append]
        show F.length + 1 ≤ i + 1
        omega
theorem cut2 (a b c d : V) : cutV [a, b, c, d] none (some 2) = [a, b] := rfl
theorem cut3 (a b c d : V) : cutV [a, b, c, d] none (some 3) = [a, b, c] := rfl
theorem atL (vs : List V) (v : V) : atI (vs ++ [v]) (-1) = some v := atI_last _ _
theorem ixL (vs : List V) (v : V) : ixN (vs ++ [v]).length (-1) = some vs.length := by
  unfold ixN
  rw [if_neg (by decide), List.length_append, List.length_cons, List.length_nil, if_pos (by omega)]
  congr 1
  omega
section
variable {P : Program} {w : World} {K : PySem.W.Frag} {mg : Str → Option Value} {base : Heap}
def spLMarks : Sp := fun vs H Q _ => ∃ T : List Nat, vs = [.str (S T)] ∧ T.length ≤ 100000 ∧ okC T ∧ ∀ H' t ys, Same H H' → H t = none → H' t = some (.lst ys) → Mks H' ys (spec 0 0 T) → Q (.ref t) H'
theorem ok__law_marks {f : Addr} {fd : FuncData} (F : Fun K "_law_marks" "_law_marks" s__law_marks f fd) (C__law_sort : Cl P w K mg base 1 "_law_sort" spSort) (z_len : mg "len" = none) :
    FnOk P w K mg base CX0 2 f fd ["text"] spLMarks := by
  refine F.ok sc__law_marks (fun vs H Q E h => ?_) (fun cdv A outer s H vs Q E hr h => ?_)
  · obtain ⟨T, rfl, _⟩ := h
    rfl
  · obtain ⟨T, rfl, hT, hok, q⟩ := h
    refine ⟨_, (pss_cons (ps_par3 (i := 1) (j := 2) (l := 3) (by rfl) sc__law_marks.nd rfl rfl rfl (by decide) (by decide) (by decide) rfl rfl rfl (pa_cons (pe_lst pa_nil) (pa_cons pe_int (pa_cons pe_int pa_nil))) (by rfl))
    (pss_cut (ps_for PassesOwn.never rfl (pi_str (pv 0)) (pg_name (i := 4) sc__law_marks.nd rfl (.inl rfl))
      (pss_cons (ps_set (i := 5) sc__law_marks.nd rfl (.inl rfl) (pe_cl C__law_sort hr (by decide) rfl (pa_cons (pv 4) pa_nil)))
      (pss_cut (ps_if (pt_meet (PW.pt (pw_and (pt_cmpR op_gt (pv 5) pe_int (nomark _)) (pw_and (pt_cmpR (op_neD hr.units) (pv 1) (pe_lst pa_nil) (nomark _)) (pw_and (pt_cmpR op_eq (pe_ix ix_tup (pe_ix ix_list (pv 1) (pe_un un_neg pe_int) (fun _ _ => rfl)) pe_int (fun _ _ => rfl)) (pv 5) (nomark _)) (pw_and1 (pt_cmpR (op_eqD hr.units) (pe_slice sl_tup (pe_ix ix_list (pv 1) (pe_un un_neg pe_int) (fun _ _ => rfl)) po_none (po_some pe_int)) (pe_tup (pa_cons (pv 2) (pa_cons (pe_op op_sub (pv 3) (pe_callB call_len_str (by rfl) z_len (by decide +kernel) (pa_cons (pe_ix ix_tup (pe_ix ix_list (pv 1) (pe_un un_neg pe_int) (fun _ _ => rfl)) pe_int (fun _ _ => rfl)) pa_nil))) pa_nil))) (nomark _))))))))
        (pss_one (ps_asg (pe_op op_catT (pe_slice sl_tup (pe_ix ix_list (pv 1) (pe_un un_neg pe_int) (fun _ _ => rfl)) po_none (po_some pe_int)) (pe_tup (pa_cons (pe_op op_add_str (pe_ix ix_tup (pe_ix ix_list (pv 1) (pe_un un_neg pe_int) (fun _ _ => rfl)) pe_int (fun _ _ => rfl)) (pv 4)) (pa_cons (pv 5) pa_nil)))) (pg_sub (pv 1) (pe_un un_neg pe_int) set_list)))
        (pss_one (ps_if (pt_cmpR op_ne (pv 4) pe_str (nomark _))
          (pss_one (ps_expr (pe_bm PySem.F.plainAttrs_list PySem.F.slot_list_append PySem.F.type_list_append mt_append (pv 1) (pa_cons (pe_tup (pa_cons (pv 2) (pa_cons (pv 3) (pa_cons (pv 4) (pa_cons (pv 5) pa_nil))))) pa_nil))))
          pss_nil)))
      (pss_one (ps_asg (pe_ifExp (pt_cmpR op_eq (pv 4) pe_str (nomark _)) (pe_tup (pa_cons (pe_op op_add (pv 2) pe_int) (pa_cons pe_int pa_nil))) (pe_tup (pa_cons (pv 2) (pa_cons (pe_op op_add (pv 3) pe_int) pa_nil)))) (pg_tup rfl (pgs_cons (pg_name (i := 2) sc__law_marks.nd rfl (.inl rfl)) (pgs_cons (pg_name (i := 3) sc__law_marks.nd rfl (.inl rfl)) pgs_nil))))))))
    (pss_one (ps_ret (pe_lc (own := [("mark", 6)]) (by rfl) sc__law_marks.nd (pi_list (pv 1)) (blkOk_by (own := [("mark", 6)]) (N := N__law_marks) (sc := defScope s__law_marks) (by decide +kernel)) (fun _ _ _ _ _ => (pg_name (i := 6) sc__law_marks.nd rfl (.inl rfl))) (fun _ _ _ _ _ => pts_nil) (fun _ _ _ _ _ => (pe_slice (show SlR _ (rSlT K) from sl_tup) (pv 6) po_none (po_some pe_int)))))))), ?_⟩
    refine ⟨Nat.zero_le _, fun L nL => ?_⟩
    refine ⟨_, _, _, rfl, ?_⟩
    refine ⟨fun σ H' => ∃ (y2 y3 y4 y5 : Option V) (vs : List V) (G : List Fm), σ = [some (.str (S T)), some (.ref L), y2, y3, y4, y5, none] ∧ Same H H' ∧ H' L = some (.lst vs) ∧ Fms H' vs G ∧ G.map Fm.strip = spec 0 0 T ∧ G.length ≤ 100000, ?_, ?_⟩
    · -- the loop over the signs
      refine ⟨_, rfl, S T, rfl, ?_⟩
      refine for_it (walk_str (z := S T)) (fun i σ H' => ∃ (line at_ : Nat) (y4 y5 : Option V) (vs : List V) (G : List Fm), σ = [some (.str (S T)), some (.ref L), some (.int line), some (.int at_), y4, y5, none] ∧ Same H H' ∧ H' L = some (.lst vs) ∧ Fms H' vs G ∧ fine G i ∧ Good G line at_ (T.drop i) (spec 0 0 T)) ?_ ?_ ?_ ?_
      · exact ⟨0, 0, none, none, [], [], rfl, same_upd nL, upd_same, trivial, ⟨fun x hx => absurd hx List.not_mem_nil, Nat.le_refl _⟩, Good.first T⟩
      · exact fun _ _ _ _ _ => trivial
      · rintro i v σ H0 H1 hi ⟨line, at_, y4, y5, vs, G, rfl, sm, hL, hF, hG, good⟩ ⟨e01, c, ec, rfl⟩
        subst e01
        have hi2 : i < T.length := by
          have : (S T).cps.size = T.length := S_len T
          omega
        have ec2 : T[i]? = some c := by
          rw [← S_get]
          exact ec
        have hdr : T.drop i = c :: T.drop (i + 1) := by
          rw [List.drop_eq_getElem_cons hi2]
          congr 1
          exact Option.some.inj ((List.getElem?_eq_getElem hi2).symm.trans ec2)
        have hcok : c < 1114112 := hok c (List.mem_of_getElem? ec2)
        rw [hdr] at good
        refine ⟨_, rfl, c, rfl, ?_⟩
        refine ⟨fun σ' H2 => σ' = [some (.str (S T)), some (.ref L), some (.int line), some (.int at_), some (.str ⟨#[c]⟩), some (.int (sortOf c : Nat)), none] ∧ ∃ vs2, Same H H2 ∧ H2 L = some (.lst vs2) ∧ Fms H2 vs2 (stepF G line at_ c),
          ⟨fun b H2 => Same H1 H2 ∧ (b = true ↔ (sortOf c > 0 ∧ hits G line at_ (sortOf c) = true)), ?_, fun b H2 hb => ?_⟩, ?_⟩
        · -- the test
          refine ⟨_, rfl, _, _, rfl, rfl, _, rfl, ite2 (fun e => ?_) (fun e => ?_)⟩
          · have p1 : sortOf c > 0 := by
              have := of_decide_eq_true e
              omega
            refine ⟨_, rfl, Nat.zero_le _, fun t0 n0 => ?_⟩
            have sm0 : Same H1 (upd H1 t0 (.lst [])) := same_upd n0
            have hL0 := sm0 _ _ hL
            have hF0 := hF.mono sm0
            refine ⟨_, .list [], .lst (.inl (.inl hL0)) hF0.dp, .lst (.inl (.inl upd_same)) .nil, shaped_fms G (fun x hx => (hG.1 x hx).1), shaped_nil, _, rfl, ?_⟩
            rw [eqv_fms]
            rcases snoc_or G with rfl | ⟨G0, x, rfl⟩
            · refine iteF ⟨sm0, ⟨fun z => absurd z Bool.false_ne_true, fun z => absurd z.2 Bool.false_ne_true⟩⟩
            · rw [decide_eq_false (by simp)]
              refine iteT ?_
              obtain ⟨v0, v, rfl, hv0, bb, rfl, hb⟩ := hF0.split
              refine ⟨_, rfl, 1, rfl, L, _, -1, _, rfl, rfl, .inl (.inl hL0), atL _ _, bb, _, 3, .int x.k, rfl, rfl, .inl (.inl hb), rfl, _, rfl, rfl, _, rfl, ite2 (fun e2 => ?_) (fun e2 => ?_)⟩
              · have p2 : x.k = sortOf c := by
                  have := V.int.inj (of_decide_eq_true e2)
                  omega
                refine ⟨_, rfl, 1, rfl, L, _, -1, _, rfl, rfl, .inl (.inl hL0), atL _ _, _, rfl, bb, _, rfl, .inl (.inl hb), by show ¬ ((0 : Nat) = 0 ∧ (2 : Nat) = 4); decide, fun t1 n1 => ?_⟩
                have sm1 := sm0.trans (same_upd (o := .tup (cutV (fTup x) none (some 2))) n1)
                have hL1 := same_upd (o := .tup (cutV (fTup x) none (some 2))) n1 _ _ hL0
                have hb1 := same_upd (o := .tup (cutV (fTup x) none (some 2))) n1 _ _ hb
                refine ⟨_, rfl, _, rfl, _, rfl, 1, rfl, L, _, -1, _, rfl, rfl, .inl (.inl hL1), atL _ _, bb, _, 2, .str (S x.m), rfl, rfl, .inl (.inl hb1), rfl, S x.m, rfl, ?_, _, _, rfl, rfl, by show 2 ≤ sizeLine; decide, fun t2 n2 => ?_⟩
                · rw [S_len]
                  have := (hG.1 x (List.mem_append_right _ List.mem_cons_self)).2
                  have : sizeLine = 16777216 := by decide
                  omega
                · have a1 := same_upd (o := .tup ([.int line, .int ((at_ : Int) - ((S x.m).length : Int))] : List V)) n2
                  refine ⟨.tuple [.int x.l, .int x.a], .tuple [.int line, .int ((at_ : Int) - ((S x.m).length : Int))], .tup (.inl (.inl (a1 _ _ upd_same))) (.cons (.int _) (.cons (.int _) .nil)),
                    .tup (.inl (.inl upd_same)) (.cons (.int _) (.cons (.int _) .nil)), rfl, rfl, _, rfl, sm1.trans a1, ?_⟩
                  rw [eqv_pair, hits_snoc, S_len]
                  constructor
                  · intro z
                    rw [Bool.and_eq_true, Bool.and_true, beq_iff_eq, beq_iff_eq] at z
                    exact ⟨p1, decide_eq_true ⟨p2, by omega, by omega⟩⟩
                  · intro z
                    have z2 := of_decide_eq_true z.2
                    rw [Bool.and_eq_true, Bool.and_true, beq_iff_eq, beq_iff_eq]
                    exact ⟨by omega, by omega⟩
              · refine ⟨sm0, ⟨fun z => absurd z Bool.false_ne_true, fun z => absurd ?_ e2⟩⟩
                rw [hits_snoc] at z
                have z2 := (of_decide_eq_true z.2).1
                exact decide_eq_true (by rw [z2])
          · refine ⟨Same.refl _, ⟨fun z => absurd z Bool.false_ne_true, fun z => absurd ?_ e⟩⟩
            exact decide_eq_true (by omega)
        · -- the branches
          obtain ⟨sm2, hb⟩ := hb
          have hL2 := sm2 _ _ hL
          have hF2 := hF.mono sm2
          have smH := sm.trans sm2
          cases b with
          | true =>
            refine iteT ?_
            have hh := hb.mp rfl
            rcases snoc_or G with rfl | ⟨G0, x, rfl⟩
            · exact absurd hh.2 Bool.false_ne_true
            · rw [stepF_snoc G0 x line at_ c hh]
              obtain ⟨v0, v, rfl, hv0, bb, rfl, hbb⟩ := hF2.split
              refine ⟨_, rfl, 1, rfl, L, _, -1, _, rfl, rfl, .inl (.inl hL2), atL _ _, _, rfl, bb, _, rfl, .inl (.inl hbb), by show ¬ ((0 : Nat) = 0 ∧ (2 : Nat) = 4); decide, fun t1 n1 => ?_⟩
              have a1 := same_upd (o := .tup (cutV (fTup x) none (some 2))) n1
              refine ⟨_, rfl, 1, rfl, L, _, -1, _, rfl, rfl, .inl (.inl (a1 _ _ hL2)), atL _ _, bb, _, 2, .str (S x.m), rfl, rfl, .inl (.inl (a1 _ _ hbb)), rfl, _, rfl, S x.m, ⟨#[c]⟩, rfl, rfl, ?_, _, rfl, by show 2 ≤ sizeLine; decide, fun t2 n2 => ?_⟩
              · rw [S_len]
                have := (hG.1 x (List.mem_append_right _ List.mem_cons_self)).2
                have : sizeLine = 16777216 := by decide
                show x.m.length + 1 ≤ sizeLine
                omega
              · have em : S x.m ++ (⟨#[c]⟩ : Str) = S (x.m ++ [c]) := by
                  show (⟨x.m.toArray ++ #[c]⟩ : Str) = ⟨(x.m ++ [c]).toArray⟩
                  congr 1
                  simp
                rw [em] at *
                have a2 := same_upd (o := .tup ([.str (S (x.m ++ [c])), .int (sortOf c : Nat)] : List V)) n2
                refine ⟨t1, t2, [.int x.l, .int x.a], [.str (S (x.m ++ [c])), .int (sortOf c : Nat)], rfl, rfl, .inl (.inl (a2 _ _ upd_same)), .inl (.inl upd_same), by simp, by show 4 ≤ sizeLine; decide, fun z => absurd z (by simp), fun _ t3 n3 => ?_⟩
                have a3 := same_upd (o := .tup ([.int x.l, .int x.a, .str (S (x.m ++ [c])), .int (sortOf c : Nat)] : List V)) n3
                have hL3 := a3 _ _ (a2 _ _ (a1 _ _ hL2))
                refine ⟨_, rfl, 1, rfl, L, _, -1, v0.length, rfl, rfl, hL3, ixL _ _, rfl, _, same_put (((smH.trans a1).trans a2).trans a3) nL, upd_same, ?_⟩
                have es : (v0 ++ [V.ref bb]).set v0.length (.ref t3) = v0 ++ [.ref t3] := by simp
                rw [es]
                refine Fms.upd hL3 (Fms.snoc ⟨t3, rfl, ?_⟩ (((hv0.mono a1).mono a2).mono a3))
                have hk : x.k = sortOf c := by
                  have z := hh.2
                  rw [hits_snoc] at z
                  exact (of_decide_eq_true z).1
                rw [upd_same, ← hk]
                rfl
          | false =>
            refine iteF ?_
            have hh : ¬ (sortOf c > 0 ∧ hits G line at_ (sortOf c) = true) := fun z => Bool.false_ne_true (hb.mpr z)
            rw [stepF_not G line at_ c hh]
            refine ⟨_, rfl, rfl, _, rfl, ite2 (fun e => ?_) (fun e => ?_)⟩
            · have h32 : c ≠ 32 := by
                intro z
                subst z
                rw [c_blank] at e
                simp at e
              rw [if_neg h32]
              refine ⟨_, rfl, .inl ⟨rfl, _, .inl (.inl hL2)⟩, _, rfl, _, rfl, _, rfl, _, rfl, by show 4 ≤ sizeLine; decide, fun t nt => ?_⟩
              have a1 := same_upd (o := .tup ([.int line, .int at_, .str ⟨#[c]⟩, .int (sortOf c : Nat)] : List V)) nt
              refine ⟨L, vs, .ref t, rfl, rfl, a1 _ _ hL2, ?_, rfl, _, same_put (smH.trans a1) nL, upd_same, Fms.upd (a1 _ _ hL2) (Fms.snoc (x := ⟨line, at_, [c], sortOf c⟩) ⟨t, rfl, upd_same⟩ (hF2.mono a1))⟩
              rw [hF.len]
              have := hG.2
              have : sizeLine = 16777216 := by decide
              omega
            · have h32 : c = 32 := by
                have e2 : decide (V.str (⟨#[c]⟩ : Str) = V.str (((" " : String) : Str))) = true := by
                  simpa using e
                have e3 := of_decide_eq_true e2
                rw [c_blank] at e3
                have e4 : ([c] : List Nat) = [32] := (S_eq [c] [32]).mp e3
                exact (List.cons.inj e4).1
              rw [if_pos h32]
              exact ⟨rfl, vs, smH, hL2, hF2⟩
        · -- line, at
          rintro σ' H2 ⟨rfl, vs2, sm2, hL2, hF2⟩
          have g2 := good.step
          have f2 := hG.step (l := line) (a := at_) hcok
          refine ⟨_, rfl, rfl, _, rfl, ite2 (fun e => ?_) (fun e => ?_)⟩
          · have h10 : c = 10 := by
              have e3 := of_decide_eq_true e
              rw [c_line] at e3
              have e4 : ([c] : List Nat) = [10] := (S_eq [c] [10]).mp e3
              exact (List.cons.inj e4).1
            unfold nextL nextA at g2
            rw [if_pos h10, if_pos h10] at g2
            refine ⟨_, rfl, _, _, rfl, rfl, by show 2 ≤ sizeLine; decide, fun t nt => ?_⟩
            have a1 := same_upd (o := .tup ([.int ((line : Int) + 1), .int 0] : List V)) nt
            refine ⟨t, _, rfl, .inl (.inl upd_same), rfl, _, _, rfl, _, _, rfl, rfl, ?_⟩
            exact ⟨line + 1, 0, _, _, vs2, _, rfl, sm2.trans a1, a1 _ _ hL2, hF2.mono a1, f2, g2⟩
          · have h10 : c ≠ 10 := by
              intro z
              subst z
              apply e
              rw [c_line]
              exact decide_eq_true rfl
            unfold nextL nextA at g2
            rw [if_neg h10, if_neg h10] at g2
            refine ⟨_, rfl, _, rfl, _, _, rfl, rfl, by show 2 ≤ sizeLine; decide, fun t nt => ?_⟩
            have a1 := same_upd (o := .tup ([.int line, .int ((at_ : Int) + 1)] : List V)) nt
            refine ⟨t, _, rfl, .inl (.inl upd_same), rfl, _, _, rfl, _, _, rfl, rfl, ?_⟩
            exact ⟨line, at_ + 1, _, _, vs2, _, rfl, sm2.trans a1, a1 _ _ hL2, hF2.mono a1, f2, g2⟩
      · rintro σ H' ⟨line, at_, y4, y5, vs, G, rfl, sm, hL, hF, hG, good⟩
        have : (S T).cps.size = T.length := S_len T
        rw [this, List.drop_length] at good
        refine ⟨_, _, _, _, vs, G, rfl, sm, hL, hF, good.last, ?_⟩
        have := hG.2
        omega
    · rintro σ H' ⟨y2, y3, y4, y5, vs, G, rfl, sm, hL, hF, hG, hG2⟩
      refine ⟨_, rfl, L, rfl, ⟨_, .inl (.inl hL)⟩, fun D nD => ?_⟩
      have nLD : L ≠ D := ne_of_none hL nD
      refine lc_it (walk_list (K := K) (a := L) (xs := vs)) (fun i H2 => Same H' H2 ∧ ∃ ys, ys.length = i ∧ H2 D = some (.lst ys) ∧ Mks H2 ys ((G.map Fm.strip).take i)) ?_ ?_ ?_ ?_
      · exact ⟨same_upd nD, [], rfl, upd_same, trivial⟩
      · rintro i H2 _ ⟨sm2, _⟩
        exact .inl (.inl (sm2 _ _ hL))
      · rintro i x H2 H3 hi ⟨sm2, ys, ey, hD, hM⟩ ⟨rfl, ex⟩
        obtain ⟨g, eg, b, rfl, hb⟩ := hF.get ex
        have hb2 := sm2 _ _ hb
        refine ⟨rfl, _, rfl, _, rfl, b, fTup g, rfl, .inl (.inl hb2), by show ¬ ((0 : Nat) = 0 ∧ (3 : Nat) = 4); decide, fun t nt => ?_⟩
        have nDt : D ≠ t := ne_of_none hD nt
        refine ⟨ys, by rw [upd_ne nDt]; exact hD, ?_, same_put (sm2.trans (same_upd nt)) nD, ys ++ [.ref t], by rw [List.length_append, ey]; rfl, upd_same, ?_⟩
        · have := hF.len
          have : sizeLine = 16777216 := by decide
          omega
        · have eg2 : (G.map Fm.strip)[i]? = some g.strip := by
            rw [List.getElem?_map, eg]
            rfl
          rw [List.take_add_one, eg2]
          refine Mks.upd (xs := ys) (by rw [upd_ne nDt]; exact hD) (Mks.snoc ⟨t, rfl, ?_⟩ (hM.mono (same_upd nt)))
          rw [upd_same]
          rfl
      · rintro H2 ⟨sm2, ys, ey, hD, hM⟩
        have e1 : (G.map Fm.strip).take vs.length = G.map Fm.strip := List.take_of_length_le (by rw [List.length_map, hF.len]; exact Nat.le_refl _)
        rw [e1, hG] at hM
        exact q H2 D ys (sm.trans sm2) (sm.free nD) hD hM
end
end K5


namespace K5
open PySem PySem.Spec PyProof.Rows L2 VG M5 HD
abbrev s__law_piece : Stmt := topS 12
abbrev N__law_piece : List Str := ["heap", "sort", "some", "turn"]
theorem sc__law_piece : FnScope N__law_piece ["heap"] (defScope s__law_piece) := ⟨rfl, rfl, rfl, by decide +kernel, rfl, by decide +kernel, by decide +kernel⟩
def okV : V → Bool
  | .str z => decide (z.length ≤ 30) && z.cps.toList.all fun c => decide (c < 128)
  | _ => false
theorem okV_of {v : V} (h : okV v = true) : ∃ T : List Nat, v = .str (S T) ∧ T.length ≤ 30 ∧ ∀ c ∈ T, c < 128 := by
  cases v with
  | str z =>
    have h2 : (decide (z.length ≤ 30) && z.cps.toList.all fun c => decide (c < 128)) = true := h
    rw [Bool.and_eq_true, List.all_eq_true] at h2
    refine ⟨z.cps.toList, rfl, ?_, fun c hc => of_decide_eq_true (h2.2 c hc)⟩
    have := of_decide_eq_true h2.1
    show z.cps.toList.length ≤ 30
    rw [Array.length_toList]
    exact this
  | _ => cases h
theorem okV_mem {xs : List V} (h : xs.all okV = true) {v : V} (hv : v ∈ xs) : ∃ T : List Nat, v = .str (S T) ∧ T.length ≤ 30 ∧ ∀ c ∈ T, c < 128 := okV_of (List.all_eq_true.mp h v hv)
theorem join0 : ∀ ys : List (List Nat), TL.joinL [] ys = ys.flatten
  | [] => rfl
  | [p] => by
    show p = [p].flatten
    simp
  | p :: q :: r => by
    show p ++ ([] ++ TL.joinL [] (q :: r)) = _
    rw [join0 (q :: r)]
    simp
theorem flat_len (n : Nat) : ∀ ys : List (List Nat), (∀ y ∈ ys, y.length ≤ n) → ys.flatten.length ≤ n * ys.length
  | [], _ => Nat.zero_le _
  | y :: ys, h => by
    have := flat_len n ys fun z hz => h z (List.mem_cons_of_mem _ hz)
    have := h y List.mem_cons_self
    rw [List.flatten_cons, List.length_append, List.length_cons, Nat.mul_succ]
    omega
theorem sum_len (n : Nat) : ∀ ys : List (List Nat), (∀ y ∈ ys, y.length ≤ n) → ((ys.map S).map (·.length)).sum ≤ n * ys.length
  | [], _ => Nat.zero_le _
  | y :: ys, h => by
    have := sum_len n ys fun z hz => h z (List.mem_cons_of_mem _ hz)
    have h2 := h y List.mem_cons_self
    rw [List.map_cons, List.map_cons, List.sum_cons, List.length_cons, Nat.mul_succ]
    have e : (S y).length = y.length := S_len y
    omega
theorem c_empty : (("" : String) : Str) = S [] := by decide +kernel
abbrev cAB : Str := "abcxyznoru"
theorem strs_snoc (ys : List (List Nat)) (y : List Nat) : ys.map (fun y => V.str (S y)) ++ [V.str (S y)] = (ys ++ [y]).map (fun y => V.str (S y)) := by
  rw [List.map_append]
  rfl
section
variable {P : Program} {w : World} {K : PySem.W.Frag} {mg : Str → Option Value} {base : Heap}
def spPiece : Sp := fun vs H Q _ => ∃ p q : Addr, vs = [.ref p] ∧ Hd p q H ∧ ∀ (H' : Hp) (T : List Nat), Hd p q H' → Keep p q H H' → T.length ≤ 30 → (∀ c ∈ T, c < 128) → Q (.str (S T)) H'
theorem ok__law_piece {f : Addr} {fd : FuncData} (F : Fun K "_law_piece" "_law_piece" s__law_piece f fd) (C__law_draw : Cl P w K mg base 1 "_law_draw" spDraw) (C__law_pick : Cl P w K mg base 2 "_law_pick" (spPick K)) (z_range : mg "range" = none) :
    FnOk P w K mg base CX0 3 f fd ["heap"] spPiece := by
  refine F.ok sc__law_piece (fun vs H Q E h => ?_) (fun cdv A outer s H vs Q E hr h => ?_)
  · obtain ⟨p, q, rfl, _⟩ := h
    rfl
  · obtain ⟨p, q, rfl, hd, fin⟩ := h
    refine ⟨_, (pss_cons (ps_set (i := 1) sc__law_piece.nd rfl (.inl rfl) (pe_cl C__law_draw hr (by decide) rfl (pa_cons (pv 0) (pa_cons pe_int pa_nil))))
    (pss_cons (ps_if (pt_cmpR op_lt (pv 1) pe_int (nomark _))
      (pss_one (ps_ret (pe_join pe_str (pe_lc (own := [("turn", 3)]) (by rfl) sc__law_piece.nd (pi_range1 (by rfl) z_range (pa_cons (pe_op op_add pe_int (pe_cl C__law_draw hr (by decide) rfl (pa_cons (pv 0) (pa_cons (pe_cl C__law_pick hr (by decide) rfl (pa_cons (pv 0) (pa_cons (pe_lst (pa_cons pe_int (pa_cons pe_int (pa_cons pe_int pa_nil)))) pa_nil))) pa_nil)))) pa_nil)) (blkOk_by (own := [("turn", 3)]) (N := N__law_piece) (sc := defScope s__law_piece) (by decide +kernel)) (fun _ _ _ _ _ => (pg_name (i := 3) sc__law_piece.nd rfl (.inl rfl))) (fun _ _ _ _ _ => pts_nil) (fun _ _ _ _ _ => (pe_item_str pe_str (pe_cl C__law_draw hr (by decide) rfl (pa_cons (pv 0) (pa_cons pe_int pa_nil))) (fun _ _ => rfl)))))))
      pss_nil)
    (pss_cons (ps_if (pt_cmpR op_lt (pv 1) pe_int (nomark _))
      (pss_one (ps_ret (pe_join pe_str (pe_lc (own := [("turn", 3)]) (by rfl) sc__law_piece.nd (pi_range1 (by rfl) z_range (pa_cons (pe_op op_add pe_int (pe_cl C__law_draw hr (by decide) rfl (pa_cons (pv 0) (pa_cons (pe_cl C__law_pick hr (by decide) rfl (pa_cons (pv 0) (pa_cons (pe_lst (pa_cons pe_int (pa_cons pe_int (pa_cons pe_int pa_nil)))) pa_nil))) pa_nil)))) pa_nil)) (blkOk_by (own := [("turn", 3)]) (N := N__law_piece) (sc := defScope s__law_piece) (by decide +kernel)) (fun _ _ _ _ _ => (pg_name (i := 3) sc__law_piece.nd rfl (.inl rfl))) (fun _ _ _ _ _ => pts_nil) (fun _ _ _ _ _ => (pe_item_str pe_str (pe_cl C__law_draw hr (by decide) rfl (pa_cons (pv 0) (pa_cons pe_int pa_nil))) (fun _ _ => rfl)))))))
      pss_nil)
    (pss_cons (ps_if (pt_cmpR op_eq (pv 1) pe_int (nomark _))
      (pss_one (ps_ret (pe_op op_mulStr pe_str (pe_op op_add pe_int (pe_cl C__law_draw hr (by decide) rfl (pa_cons (pv 0) (pa_cons pe_int pa_nil)))))))
      pss_nil)
    (pss_cons (ps_set (i := 2) sc__law_piece.nd rfl (.inl rfl) (pe_lst (pa_cons pe_str (pa_cons pe_str (pa_cons pe_str (pa_cons pe_str (pa_cons pe_str (pa_cons pe_str (pa_cons pe_str (pa_cons pe_str (pa_cons pe_str (pa_cons pe_str (pa_cons pe_str (pa_cons pe_str (pa_cons pe_str (pa_cons pe_str (pa_cons pe_str (pa_cons pe_str (pa_cons pe_str (pa_cons pe_str (pa_cons pe_str (pa_cons pe_str (pa_cons pe_str (pa_cons pe_str (pa_cons pe_str pa_nil)))))))))))))))))))))))))
    (pss_one (ps_ret (pe_cl C__law_pick hr (by decide) rfl (pa_cons (pv 0) (pa_cons (pe_op op_cat (pv 2) (pe_lst (pa_cons pe_str (pa_cons pe_str (pa_cons pe_str (pa_cons pe_str (pa_cons pe_str (pa_cons pe_str (pa_cons pe_str pa_nil))))))))) pa_nil)))))))))), ?_⟩
    refine ⟨_, rfl, p, q, 9, rfl, hd, by decide, by decide, fun H1 r hd1 kp1 r0 r1 => ?_⟩
    refine ⟨_, rfl, _, _, rfl, rfl, _, rfl, ite2 (fun e => ?_) (fun e => ?_)⟩
    · refine ⟨⟨_, rfl⟩, _, rfl, _, rfl, by show 3 ≤ sizeLine; decide, fun l nl => ?_⟩
      have hd2 := hd1.new (o := .lst [.int 3, .int 7, .int 30]) nl
      have fr := hd1.free nl
      refine ⟨p, q, l, [.int 3, .int 7, .int 30], rfl, hd2, upd_same, fr.1, fr.2, by simp, by decide, fun H2 v hd3 kp2 hv => ?_⟩
      have hv2 : ∃ k : Int, v = .int k ∧ 0 < k ∧ k ≤ 30 := by
        rcases List.mem_cons.mp hv with z | z
        · exact ⟨3, z, by decide, by decide⟩
        · rcases List.mem_cons.mp z with z | z
          · exact ⟨7, z, by decide, by decide⟩
          · exact ⟨30, List.mem_singleton.mp z, by decide, by decide⟩
      obtain ⟨k, rfl, k0, k1⟩ := hv2
      refine ⟨p, q, k, rfl, hd3, k0, by omega, fun H3 n hd4 kp3 n0 n1 => ?_⟩
      refine ⟨_, _, rfl, rfl, _, rfl, by omega, by omega, fun D nD => ?_⟩
      have fD := hd4.free nD
      have kpA : Keep p q H H3 := ((kp1.trans (Keep.new nl)).trans kp2).trans kp3
      refine lc_it (walk_range (lo := 0) (n := (1 + n).toNat)) (fun i H4 => Keep p q H3 H4 ∧ Hd p q H4 ∧ ∃ ys : List (List Nat), ys.length = i ∧ (∀ y ∈ ys, y.length ≤ 1 ∧ ∀ c ∈ y, c < 128) ∧ H4 D = some (.lst (ys.map fun y => V.str (S y)))) ?_ ?_ ?_ ?_
      · exact ⟨Keep.new nD, hd4.new nD, [], rfl, fun y hy => absurd hy List.not_mem_nil, upd_same⟩
      · exact fun _ _ _ _ => trivial
      · rintro i x H4 H5 hi ⟨kp4, hd5, ys, ey, hy, hD⟩ ⟨e5, rfl⟩
        subst e5
        refine ⟨rfl, _, rfl, p, q, 10, rfl, hd5, by decide, by decide, fun H6 j hd6 kp5 j0 j1 => ?_⟩
        obtain ⟨j, rfl⟩ := Int.eq_ofNat_of_zero_le j0
        have hD6 := kp5 D _ fD.1 fD.2 hD
        have lz : cAB.length = 10 := by decide +kernel
        have hj : j < cAB.cps.size := by
          show j < cAB.length
          omega
        have ec : cAB.cps[j]? = some cAB.cps[j] := Array.getElem?_eq_getElem hj
        refine ⟨cAB, j, cAB.cps[j], rfl, rfl, by omega, by omega, by rw [lz]; omega, ec, ys.map fun y => V.str (S y), hD6, ?_, ?_, ?_, ?_⟩
        · rw [List.length_map]
          exact small1000 (by omega)
        · intro b o b1 b2 hb
          rw [upd_ne (ne_of_none hb nD)]
          exact kp5 b o b1 b2 (kp4 b o b1 b2 hb)
        · obtain ⟨cs, st, h1, h2, h3⟩ := hd6
          exact ⟨cs, st, by rw [upd_ne fD.1.symm]; exact h1, by rw [upd_ne fD.2.symm]; exact h2, h3⟩
        · refine ⟨ys ++ [[cAB.cps[j]]], by rw [List.length_append, ey]; rfl, fun y hy2 => ?_, ?_⟩
          · rcases List.mem_append.mp hy2 with z | z
            · exact hy y z
            · have ez : y = [cAB.cps[j]] := by simpa using z
              subst ez
              refine ⟨Nat.le_refl _, fun c hc => ?_⟩
              have ec2 : c = cAB.cps[j] := by simpa using hc
              subst ec2
              have all : ∀ c ∈ cAB.cps.toList, c < 128 := by decide +kernel
              exact all _ (by simp)
          · rw [upd_same, ← strs_snoc]
      · rintro H4 ⟨kp4, hd5, ys, ey, hy, hD⟩
        have e1 : (ys.map fun y => V.str (S y)) = (ys.map S).map V.str := by
          rw [List.map_map]
          rfl
        rw [e1] at hD
        have s1 := sum_len 1 ys fun y hy2 => (hy y hy2).1
        have f1 := flat_len 1 ys fun y hy2 => (hy y hy2).1
        have hlen : ys.length ≤ 30 := by omega
        refine ⟨_, D, ys.map S, rfl, rfl, .inl (.inl (.inl hD)), ?_, ?_⟩
        · have : (("" : String) : Str).length = 0 := by decide +kernel
          rw [this]
          omega
        · have ej : Txt.join (("" : String) : Str) (ys.map S) = S ys.flatten := by
            rw [c_empty, ← join0]
            exact SX.join_S [] ys
          rw [ej]
          refine fin H4 _ hd5 (kpA.trans kp4) (by omega) fun c hc => ?_
          obtain ⟨y, hy2, hc2⟩ := List.mem_flatten.mp hc
          exact (hy y hy2).2 c hc2
    refine ⟨_, rfl, _, _, rfl, rfl, _, rfl, ite2 (fun e => ?_) (fun e => ?_)⟩
    · refine ⟨⟨_, rfl⟩, _, rfl, _, rfl, by show 3 ≤ sizeLine; decide, fun l nl => ?_⟩
      have hd2 := hd1.new (o := .lst [.int 2, .int 4, .int 8]) nl
      have fr := hd1.free nl
      refine ⟨p, q, l, [.int 2, .int 4, .int 8], rfl, hd2, upd_same, fr.1, fr.2, by simp, by decide, fun H2 v hd3 kp2 hv => ?_⟩
      have hv2 : ∃ k : Int, v = .int k ∧ 0 < k ∧ k ≤ 30 := by
        rcases List.mem_cons.mp hv with z | z
        · exact ⟨2, z, by decide, by decide⟩
        · rcases List.mem_cons.mp z with z | z
          · exact ⟨4, z, by decide, by decide⟩
          · exact ⟨8, List.mem_singleton.mp z, by decide, by decide⟩
      obtain ⟨k, rfl, k0, k1⟩ := hv2
      refine ⟨p, q, k, rfl, hd3, k0, by omega, fun H3 n hd4 kp3 n0 n1 => ?_⟩
      refine ⟨_, _, rfl, rfl, _, rfl, by omega, by omega, fun D nD => ?_⟩
      have fD := hd4.free nD
      have kpA : Keep p q H H3 := ((kp1.trans (Keep.new nl)).trans kp2).trans kp3
      refine lc_it (walk_range (lo := 0) (n := (1 + n).toNat)) (fun i H4 => Keep p q H3 H4 ∧ Hd p q H4 ∧ ∃ ys : List (List Nat), ys.length = i ∧ (∀ y ∈ ys, y.length ≤ 1 ∧ ∀ c ∈ y, c < 128) ∧ H4 D = some (.lst (ys.map fun y => V.str (S y)))) ?_ ?_ ?_ ?_
      · exact ⟨Keep.new nD, hd4.new nD, [], rfl, fun y hy => absurd hy List.not_mem_nil, upd_same⟩
      · exact fun _ _ _ _ => trivial
      · rintro i x H4 H5 hi ⟨kp4, hd5, ys, ey, hy, hD⟩ ⟨e5, rfl⟩
        subst e5
        refine ⟨rfl, _, rfl, p, q, 10, rfl, hd5, by decide, by decide, fun H6 j hd6 kp5 j0 j1 => ?_⟩
        obtain ⟨j, rfl⟩ := Int.eq_ofNat_of_zero_le j0
        have hD6 := kp5 D _ fD.1 fD.2 hD
        have lz : cDIGITS.length = 10 := by decide +kernel
        have hj : j < cDIGITS.cps.size := by
          show j < cDIGITS.length
          omega
        have ec : cDIGITS.cps[j]? = some cDIGITS.cps[j] := Array.getElem?_eq_getElem hj
        refine ⟨cDIGITS, j, cDIGITS.cps[j], rfl, rfl, by omega, by omega, by rw [lz]; omega, ec, ys.map fun y => V.str (S y), hD6, ?_, ?_, ?_, ?_⟩
        · rw [List.length_map]
          exact small1000 (by omega)
        · intro b o b1 b2 hb
          rw [upd_ne (ne_of_none hb nD)]
          exact kp5 b o b1 b2 (kp4 b o b1 b2 hb)
        · obtain ⟨cs, st, h1, h2, h3⟩ := hd6
          exact ⟨cs, st, by rw [upd_ne fD.1.symm]; exact h1, by rw [upd_ne fD.2.symm]; exact h2, h3⟩
        · refine ⟨ys ++ [[cDIGITS.cps[j]]], by rw [List.length_append, ey]; rfl, fun y hy2 => ?_, ?_⟩
          · rcases List.mem_append.mp hy2 with z | z
            · exact hy y z
            · have ez : y = [cDIGITS.cps[j]] := by simpa using z
              subst ez
              refine ⟨Nat.le_refl _, fun c hc => ?_⟩
              have ec2 : c = cDIGITS.cps[j] := by simpa using hc
              subst ec2
              have all : ∀ c ∈ cDIGITS.cps.toList, c < 128 := by decide +kernel
              exact all _ (by simp)
          · rw [upd_same, ← strs_snoc]
      · rintro H4 ⟨kp4, hd5, ys, ey, hy, hD⟩
        have e1 : (ys.map fun y => V.str (S y)) = (ys.map S).map V.str := by
          rw [List.map_map]
          rfl
        rw [e1] at hD
        have s1 := sum_len 1 ys fun y hy2 => (hy y hy2).1
        have f1 := flat_len 1 ys fun y hy2 => (hy y hy2).1
        have hlen : ys.length ≤ 30 := by omega
        refine ⟨_, D, ys.map S, rfl, rfl, .inl (.inl (.inl hD)), ?_, ?_⟩
        · have : (("" : String) : Str).length = 0 := by decide +kernel
          rw [this]
          omega
        · have ej : Txt.join (("" : String) : Str) (ys.map S) = S ys.flatten := by
            rw [c_empty, ← join0]
            exact SX.join_S [] ys
          rw [ej]
          refine fin H4 _ hd5 (kpA.trans kp4) (by omega) fun c hc => ?_
          obtain ⟨y, hy2, hc2⟩ := List.mem_flatten.mp hc
          exact (hy y hy2).2 c hc2
    refine ⟨_, rfl, rfl, _, rfl, ite2 (fun e => ?_) (fun e => ?_)⟩
    · refine ⟨_, rfl, p, q, 3, rfl, hd1, by decide, by decide, fun H2 r2 hd2 kp2 g0 g1 => ?_⟩
      obtain ⟨j, rfl⟩ := Int.eq_ofNat_of_zero_le g0
      refine ⟨_, _, rfl, rfl, (((" " : String) : Str)), j + 1, rfl, ?_, by omega, by omega, by decide +kernel, by decide +kernel, ?_⟩
      · show V.int (1 + (j : Int)) = V.int ((j + 1 : Nat) : Int)
        rw [show (1 + (j : Int)) = ((j + 1 : Nat) : Int) by omega]
      · have e1 : (((" " : String) : Str)).cps.toList = [32] := by decide +kernel
        rw [e1]
        refine fin H2 _ hd2 (kp1.trans kp2) ?_ ?_
        · rw [repL_len]
          show 1 * (j + 1) ≤ 30
          omega
        · have : ∀ n, ∀ c ∈ repL [32] n, c < 128 := by
            intro n
            induction n with
            | zero => intro c hc; exact absurd hc List.not_mem_nil
            | succ n ih =>
              intro c hc
              rcases List.mem_append.mp hc with z | z
              · have : c = 32 := by simpa using z
                omega
              · exact ih c z
          exact this _
    · refine ⟨by show 23 ≤ sizeLine; decide, fun l nl => ?_⟩
      refine ⟨_, rfl, _, rfl, by show 7 ≤ sizeLine; decide, fun m nm => ?_⟩
      refine ⟨l, m, _, _, rfl, rfl, by rw [upd_ne (ne_of_none upd_same nm)]; exact upd_same, upd_same, by decide, fun d nd => ?_⟩
      have fr := ((hd1.new nl).new nm).free nd
      refine ⟨p, q, d, _, rfl, ((hd1.new nl).new nm).new nd, upd_same, fr.1, fr.2, by simp, by decide, fun H2 v hd3 kp2 hv => ?_⟩
      obtain ⟨T, rfl, t1, t2⟩ := okV_mem (by decide +kernel) hv
      exact fin H2 T hd3 ((((kp1.trans (Keep.new nl)).trans (Keep.new nm)).trans (Keep.new nd)).trans kp2) t1 t2
end
end K5


namespace K5
open PySem PySem.Spec PyProof.Rows L2 VG M5 HD
/-! marks as data: what repr and == make of them -/
def mD (x : Mrk) : PyData := .tuple [.int x.1, .int x.2.1, .str (S x.2.2)]
theorem Mks.dp {K : PySem.W.Frag} {H : Hp} : ∀ {vs : List V} {ms : List Mrk}, Mks H vs ms → DpAll K H vs (ms.map mD)
  | [], [], _ => .nil
  | v :: vs, x :: xs, ⟨⟨b, e, z⟩, r⟩ => by
    subst e
    exact .cons (.tup (.inl (.inl z)) (.cons (.int _) (.cons (.int _) (.cons (.str _) .nil)))) r.dp
  | [], _ :: _, h => h.elim
  | _ :: _, [], h => h.elim
theorem lay_mks : ∀ ms : List Mrk, (∀ x ∈ ms, okC x.2.2) → PyData.canLayAll0 (ms.map mD) = true ∧ PyData.depthAll (ms.map mD) ≤ 1
  | [], _ => ⟨rfl, Nat.zero_le _⟩
  | x :: ms, h => by
    have ⟨h1, h2⟩ := lay_mks ms fun y hy => h y (List.mem_cons_of_mem _ hy)
    have h3 := (h x List.mem_cons_self).str
    constructor
    · show ((PyData.canLay0 (.int x.1) && (PyData.canLay0 (.int x.2.1) && (PyData.canLay0 (.str (S x.2.2)) && true))) && PyData.canLayAll0 (ms.map mD)) = true
      rw [h1, h3]
      rfl
    · show max (PyData.depth (mD x)) (PyData.depthAll (ms.map mD)) ≤ 1
      have : PyData.depth (mD x) = 1 := rfl
      omega
theorem shaped_mks (ms : List Mrk) (h : ∀ x ∈ ms, okC x.2.2) : SeqAt.shaped (.tuple (ms.map mD)) = true := by
  have ⟨h1, h2⟩ := lay_mks ms h
  unfold SeqAt.shaped
  rw [Bool.and_eq_true]
  refine ⟨h1, decide_eq_true ?_⟩
  show PyData.depthAll (ms.map mD) + 1 ≤ 64
  omega
theorem log_small {n : Nat} (h : n ≤ 100000) : n.log2 < 20 := by
  by_cases h0 : n = 0
  · subst h0
    decide
  · exact (Nat.log2_lt h0).mpr (by omega)
theorem int_shown {n : Nat} (h : n ≤ 100000) : (PyData.shown (.int n)).length ≤ 21 := by
  have e := int_text_length_le (a := (n : Int)) (k := 20) (by decide) (by rw [Int.natAbs_natCast]; exact log_small h)
  show (Str.ofString (toString (n : Int))).length ≤ 21
  rw [PySem.ofString_length]
  exact e
theorem show_mks : ∀ ms : List Mrk, (∀ x ∈ ms, x.1 ≤ 100000 ∧ x.2.1 ≤ 100000 ∧ ∀ c ∈ x.2.2, c < 128) →
    PyData.showableAll (ms.map mD) = true ∧ PyData.hasDictAll (ms.map mD) = false ∧ piled (PyData.shownAll (ms.map mD)) ≤ 100 * ms.length + 10 * lens ms
  | [], _ => ⟨rfl, rfl, Nat.le_refl _⟩
  | x :: ms, h => by
    have ⟨h1, h2, h3⟩ := show_mks ms fun y hy => h y (List.mem_cons_of_mem _ hy)
    have ⟨g1, g2, g3⟩ := h x List.mem_cons_self
    refine ⟨?_, ?_, ?_⟩
    · show ((decide (((x.1 : Nat) : Int).natAbs.log2 < 1920) && (decide (((x.2.1 : Nat) : Int).natAbs.log2 < 1920) && (true && true))) && PyData.showableAll (ms.map mD)) = true
      rw [h1, Int.natAbs_natCast, Int.natAbs_natCast, decide_eq_true (Nat.lt_trans (log_small g1) (by decide)), decide_eq_true (Nat.lt_trans (log_small g2) (by decide))]
      rfl
    · show ((false || (false || (false || false))) || PyData.hasDictAll (ms.map mD)) = false
      rw [h2]
      rfl
    · show piled (tupleText [PyData.shown (.int x.1), PyData.shown (.int x.2.1), reprText (S x.2.2)] :: PyData.shownAll (ms.map mD)) ≤ _
      have e1 := int_shown g1
      have e2 := int_shown g2
      have e3 : (reprText (S x.2.2)).length ≤ 10 * (S x.2.2).length + 2 := StrLaws.reprText_len (S x.2.2) fun c hc => Nat.lt_trans (g3 c (by simpa using hc)) (by decide)
      rw [S_len x.2.2] at e3
      have e4 := fmt_text [PyData.shown (.int x.1), PyData.shown (.int x.2.1), reprText (S x.2.2)]
      rw [piled_cons, piled_cons, piled_cons, piled_nil] at e4
      rw [piled_cons]
      have e5 : lens (x :: ms) = x.2.2.length + lens ms := by
        unfold lens
        rw [List.map_cons, List.sum_cons]
      rw [e5, List.length_cons]
      omega
/-- all that is asked of the marks of a drawn text -/
theorem spec_data (T : List Nat) (hT : T.length ≤ 3000) (hc : ∀ c ∈ T, c < 128) : (PyData.tuple ((spec 0 0 T).map mD)).showable = true ∧ (PyData.tuple ((spec 0 0 T).map mD)).hasDict = false ∧ (PyData.tuple ((spec 0 0 T).map mD)).depth ≤ 60 ∧
    (PyData.tuple ((spec 0 0 T).map mD)).shown.length ≤ sizeLine ∧ SeqAt.shaped (.tuple ((spec 0 0 T).map mD)) = true := by
  have ⟨s1, s2, s3, s4⟩ := spec_size T.length 0 0 T (Nat.le_refl _)
  have ok : ∀ x ∈ spec 0 0 T, okC x.2.2 := fun x hx c hh => Nat.lt_trans (hc c (s4 x hx c hh)) (by decide)
  have ⟨h1, h2, h3⟩ := show_mks (spec 0 0 T) fun x hx => ⟨by have := (s3 x hx).1; omega, by have := (s3 x hx).2; omega, fun c hh => hc c (s4 x hx c hh)⟩
  have ⟨g1, g2⟩ := lay_mks (spec 0 0 T) ok
  refine ⟨h1, h2, ?_, ?_, shaped_mks _ ok⟩
  · show PyData.depthAll ((spec 0 0 T).map mD) + 1 ≤ 60
    omega
  · show (tupleText (PyData.shownAll ((spec 0 0 T).map mD))).length ≤ sizeLine
    have := fmt_text (PyData.shownAll ((spec 0 0 T).map mD))
    have : sizeLine = 16777216 := by decide
    omega
theorem eqv_self {d : PyData} (h : SeqAt.shaped d = true) : PyData.eqv d d = true := SeqAt.eqv_refl d (SeqAt.canLay_of_shaped h)
/-! lists of texts as data -/
def txts (ms : List (List Nat)) : List V := ms.map fun m => V.str (S m)
theorem dp_txts {K : PySem.W.Frag} {H : Hp} : ∀ ms : List (List Nat), DpAll K H (txts ms) (ms.map fun m => PyData.str (S m))
  | [] => .nil
  | m :: ms => .cons (.str _) (dp_txts ms)
theorem shaped_txts (ms : List (List Nat)) (h : ∀ m ∈ ms, okC m) : SeqAt.shaped (.list (ms.map fun m => PyData.str (S m))) = true := by
  have key : ∀ ms : List (List Nat), (∀ m ∈ ms, okC m) → PyData.canLayAll0 (ms.map fun m => PyData.str (S m)) = true ∧ PyData.depthAll (ms.map fun m => PyData.str (S m)) = 0 := by
    intro ms
    induction ms with
    | nil => exact fun _ => ⟨rfl, rfl⟩
    | cons m ms ih =>
      intro h
      have ⟨h1, h2⟩ := ih fun y hy => h y (List.mem_cons_of_mem _ hy)
      constructor
      · show (PyData.canLay0 (.str (S m)) && PyData.canLayAll0 (ms.map fun m => PyData.str (S m))) = true
        rw [h1, (h m List.mem_cons_self).str]
        rfl
      · show max 0 (PyData.depthAll (ms.map fun m => PyData.str (S m))) = 0
        rw [h2]
        rfl
  have ⟨h1, h2⟩ := key ms h
  unfold SeqAt.shaped
  rw [Bool.and_eq_true]
  refine ⟨h1, decide_eq_true ?_⟩
  show PyData.depthAll (ms.map fun m => PyData.str (S m)) + 1 ≤ 64
  omega
theorem join32 : ∀ ys : List (List Nat), TL.joinL [32] ys = joinS ys
  | [] => rfl
  | [p] => rfl
  | p :: q :: r => by
    show p ++ ([32] ++ TL.joinL [32] (q :: r)) = p ++ 32 :: joinS (q :: r)
    rw [join32 (q :: r)]
    rfl
theorem sum_txts : ∀ ms : List (List Nat), ((ms.map S).map (·.length)).sum = (ms.map List.length).sum
  | [] => rfl
  | m :: ms => by
    rw [List.map_cons, List.map_cons, List.map_cons, List.sum_cons, List.sum_cons, sum_txts ms]
    have : (S m).length = m.length := S_len m
    omega
theorem sum_lens : ∀ ms : List Mrk, ((ms.map (·.2.2)).map List.length).sum = lens ms
  | [] => rfl
  | x :: ms => by
    have := sum_lens ms
    rw [List.map_cons, List.map_cons, List.sum_cons, this]
    rfl
theorem txts_snoc (ys : List (List Nat)) (y : List Nat) : txts ys ++ [V.str (S y)] = txts (ys ++ [y]) := by
  unfold txts
  rw [List.map_append]
  rfl
theorem txts_S (ms : List (List Nat)) : txts ms = (ms.map S).map V.str := by
  unfold txts
  rw [List.map_map]
  rfl
end K5


namespace K5
open PySem PySem.Spec PyProof.Rows L2 VG M5 HD
abbrev s_law : Stmt := topS 13
abbrev N_law : List Str := ["script", "heap", "turn", "text", "due", "told", "joined", "again", "line", "at", "mark"]
theorem sc_law : FnScope N_law ["script"] (defScope s_law) := ⟨rfl, rfl, rfl, by decide +kernel, rfl, by decide +kernel, by decide +kernel⟩
theorem _root_.HD.Hd.same {p q : Addr} {H H' : Hp} (h : Hd p q H) (s : Same H H') : Hd p q H' := by
  obtain ⟨cs, st, h1, h2, h3⟩ := h
  exact ⟨cs, st, s _ _ h1, s _ _ h2, h3⟩
section
variable {P : Program} {w : World} {K : PySem.W.Frag} {mg : Str → Option Value} {base : Heap}
def spLaw (K : PySem.W.Frag) : Sp := fun vs H Q _ => ∃ (a : Addr) (ns : List Int), vs = [.ref a] ∧ SqL K H a (ns.map V.int) ∧ ns.length ≤ 63 ∧ ∀ H', Q (.bl true) H'
theorem ok_law {f : Addr} {fd : FuncData} (F : Fun K "law" "law" s_law f fd) (C__law_heap : Cl P w K mg base 1 "_law_heap" (spHeap K)) (C__law_draw : Cl P w K mg base 1 "_law_draw" spDraw) (C__law_pick : Cl P w K mg base 2 "_law_pick" (spPick K))
    (C__law_marks : Cl P w K mg base 2 "_law_marks" spLMarks) (C__law_piece : Cl P w K mg base 3 "_law_piece" spPiece) (C_marks_of : Cl P w K mg base 3 "marks_of" spMarks) (CK_marks_of : ClK P w K mg base 3 "marks_of" ["text"] spMarks)
    (z_len : mg "len" = none) (z_int : mg "int" = none) (z_range : mg "range" = none) (z_tuple : mg "tuple" = none) (z_repr : mg "repr" = none) : FnG P w K mg base 4 f fd ["script"] (spLaw K) := by
  refine fnG_of F sc_law (fun vs H Q E h => ?_) (fun cdv A outer s H vs Q E hg hr h => ?_)
  · obtain ⟨a, ns, rfl, _⟩ := h
    rfl
  · obtain ⟨a, ns, rfl, hS, hn, fin⟩ := h
    refine ⟨_, (pss_cons (ps_set (i := 1) sc_law.nd rfl (.inr rfl) (pe_cl C__law_heap hr (by decide) rfl (pa_cons (pv 0) pa_nil)))
    (pss_cut (ps_for PassesOwn.never rfl (pi_range1 (by rfl) z_range (pa_cons (pe_op op_add pe_int (pe_op op_mul pe_int (pe_callTy call_int1 (by rfl) z_int (by decide +kernel) (pa_cons (pe_cmpR op_gt (pe_callB call_len_seq (by rfl) z_len (by decide +kernel) (pa_cons (pv 0) pa_nil)) pe_int (nomark _)) pa_nil)))) pa_nil)) (pg_name (i := 2) sc_law.nd rfl (.inl rfl))
      (pss_cons (ps_set (i := 3) sc_law.nd rfl (.inl rfl) (pe_join pe_str (pe_lc (own := [("again", 7)]) (by rfl) sc_law.nd (pi_range1 (by rfl) z_range (pa_cons (pe_cl C__law_pick hr (by decide) rfl (pa_cons (pv 1) (pa_cons (pe_lst (pa_cons pe_int (pa_cons pe_int (pa_cons pe_int (pa_cons pe_int (pa_cons pe_int pa_nil)))))) pa_nil))) pa_nil)) (blkOk_by (own := [("again", 7)]) (N := N_law) (sc := defScope s_law) (by decide +kernel)) (fun _ _ _ _ _ => (pg_name (i := 7) sc_law.nd rfl (.inl rfl))) (fun _ _ _ _ _ => pts_nil) (fun _ _ _ _ _ => (pe_cl C__law_piece hr (by decide) rfl (pa_cons (pv 1) pa_nil))))))
      (pss_cons (ps_set (i := 3) sc_law.nd rfl (.inl rfl) (pe_meet (pe_ifExp (pt_cmpR op_eq (pe_cl C__law_draw hr (by decide) rfl (pa_cons (pv 1) (pa_cons pe_int pa_nil))) pe_int (nomark _)) (pe_op op_add_str (pe_op op_add_str (pe_op op_add_str (pe_op op_add_str (pe_op op_mulStr pe_str pe_int) pe_str) (pv 3)) pe_str) (pe_op op_mulStr pe_str pe_int)) (pv 3))))
      (pss_cons (ps_set (i := 4) sc_law.nd rfl (.inl rfl) (pe_callTy call_tuple_of (by rfl) z_tuple (by decide +kernel) (pa_cons (pe_cl C__law_marks hr (by decide) rfl (pa_cons (pv 3) pa_nil)) pa_nil)))
      (pss_cons (ps_set (i := 5) sc_law.nd rfl (.inl rfl) (pe_cl C_marks_of hr (by decide) rfl (pa_cons (pv 3) pa_nil)))
      (pss_cons (ps_if (PW.pt (pw_or (pt_cmpR op_ne (pe_callB (cr_repr hg hr.units) (by rfl) z_repr (by decide +kernel) (pa_cons (pv 5) pa_nil)) (pe_callB (cr_repr hg hr.units) (by rfl) z_repr (by decide +kernel) (pa_cons (pv 4) pa_nil)) (nomark _)) (pw_or1 (pt_cmpR (op_neD hr.units) (pe_clk0 CK_marks_of hr (by decide) rfl (pk_cons (pv 3) pk_nil)) (pv 5) (nomark _)))))
        (pss_one (ps_ret pe_bl))
        pss_nil)
      (pss_cons (ps_set (i := 6) sc_law.nd rfl (.inl rfl) (pe_join pe_str (pe_lc (own := [("line", 8), ("at", 9), ("mark", 10)]) (by rfl) sc_law.nd (pi_tup (pv 4)) (blkOk_by (own := [("line", 8), ("at", 9), ("mark", 10)]) (N := N_law) (sc := defScope s_law) (by decide +kernel)) (fun _ _ _ _ _ => (show PG _ _ (gTup K 3 _) from pg_tup rfl (pgs_cons (pg_name (i := 8) sc_law.nd rfl (.inl rfl)) (pgs_cons (pg_name (i := 9) sc_law.nd rfl (.inl rfl)) (pgs_cons (pg_name (i := 10) sc_law.nd rfl (.inl rfl)) pgs_nil))))) (fun _ _ _ _ _ => pts_nil) (fun _ _ _ _ _ => (pv 10)))))
      (pss_one (ps_if (pt_cmpR (op_neD hr.units) (pe_lc (own := [("line", 8), ("at", 9), ("mark", 10)]) (by rfl) sc_law.nd (pi_tup (pe_cl C_marks_of hr (by decide) rfl (pa_cons (pv 6) pa_nil))) (blkOk_by (own := [("line", 8), ("at", 9), ("mark", 10)]) (N := N_law) (sc := defScope s_law) (by decide +kernel)) (fun _ _ _ _ _ => (show PG _ _ (gTup K 3 _) from pg_tup rfl (pgs_cons (pg_name (i := 8) sc_law.nd rfl (.inl rfl)) (pgs_cons (pg_name (i := 9) sc_law.nd rfl (.inl rfl)) (pgs_cons (pg_name (i := 10) sc_law.nd rfl (.inl rfl)) pgs_nil))))) (fun _ _ _ _ _ => pts_nil) (fun _ _ _ _ _ => (pv 10))) (pe_lc (own := [("line", 8), ("at", 9), ("mark", 10)]) (by rfl) sc_law.nd (pi_tup (pv 4)) (blkOk_by (own := [("line", 8), ("at", 9), ("mark", 10)]) (N := N_law) (sc := defScope s_law) (by decide +kernel)) (fun _ _ _ _ _ => (show PG _ _ (gTup K 3 _) from pg_tup rfl (pgs_cons (pg_name (i := 8) sc_law.nd rfl (.inl rfl)) (pgs_cons (pg_name (i := 9) sc_law.nd rfl (.inl rfl)) (pgs_cons (pg_name (i := 10) sc_law.nd rfl (.inl rfl)) pgs_nil))))) (fun _ _ _ _ _ => pts_nil) (fun _ _ _ _ _ => (pv 10))) (nomark _))
        (pss_one (ps_ret pe_bl))
        pss_nil)))))))))
    (pss_cons (ps_if (PW.pt (pw_or (pt_cmpR (op_neD hr.units) (pe_cl C_marks_of hr (by decide) rfl (pa_cons pe_str pa_nil)) (pe_tup pa_nil) (nomark _)) (pw_or (pt_cmpR (op_neD hr.units) (pe_cl C_marks_of hr (by decide) rfl (pa_cons pe_str pa_nil)) (pe_tup pa_nil) (nomark _)) (pw_or1 (pt_cmpR (op_neD hr.units) (pe_cl C_marks_of hr (by decide) rfl (pa_cons pe_str pa_nil)) (pe_tup (pa_cons (pe_tup (pa_cons pe_int (pa_cons pe_int (pa_cons pe_str pa_nil)))) pa_nil)) (nomark _))))))
      (pss_one (ps_ret pe_bl))
      pss_nil)
    (pss_one (ps_ret (pe_cmpR (op_eqD hr.units) (pe_cl C_marks_of hr (by decide) rfl (pa_cons pe_str pa_nil)) (pe_tup (pa_cons (pe_tup (pa_cons pe_int (pa_cons pe_int (pa_cons pe_str pa_nil)))) (pa_cons (pe_tup (pa_cons pe_int (pa_cons pe_int (pa_cons pe_str pa_nil)))) (pa_cons (pe_tup (pa_cons pe_int (pa_cons pe_int (pa_cons pe_str pa_nil)))) (pa_cons (pe_tup (pa_cons pe_int (pa_cons pe_int (pa_cons pe_str pa_nil)))) (pa_cons (pe_tup (pa_cons pe_int (pa_cons pe_int (pa_cons pe_str pa_nil)))) (pa_cons (pe_tup (pa_cons pe_int (pa_cons pe_int (pa_cons pe_str pa_nil)))) (pa_cons (pe_tup (pa_cons pe_int (pa_cons pe_int (pa_cons pe_str pa_nil)))) (pa_cons (pe_tup (pa_cons pe_int (pa_cons pe_int (pa_cons pe_str pa_nil)))) (pa_cons (pe_tup (pa_cons pe_int (pa_cons pe_int (pa_cons pe_str pa_nil)))) (pa_cons (pe_tup (pa_cons pe_int (pa_cons pe_int (pa_cons pe_str pa_nil)))) (pa_cons (pe_tup (pa_cons pe_int (pa_cons pe_int (pa_cons pe_str pa_nil)))) pa_nil)))))))))))) (nomark _))))))), ?_⟩
    refine ⟨_, rfl, a, ns, rfl, hS, hn, fun H1 p q hd sm => ?_⟩
    have hS1 := sm.seq hS
    refine ⟨fun _ _ => True, ?_, fun σ' H' _ => ?_⟩
    · -- the turns
      refine ⟨_, rfl, a, _, rfl, .inl hS1, _, _, rfl, rfl, .inr ⟨_, rfl, _, _, rfl, rfl, .inl ⟨by decide, by decide⟩, _, _, rfl, rfl, _, rfl, ?_, ?_, ?_⟩⟩
      · split <;> decide
      · split <;> decide
      refine for_it walk_range (fun i σ H' => ∃ (y2 y3 y4 y5 y6 : Option V), σ = [some (.ref a), some (.ref p), y2, y3, y4, y5, y6, none, none, none, none] ∧ Hd p q H') ⟨_, _, _, _, _, rfl, hd⟩ (fun _ _ _ _ _ => trivial) ?_ (fun _ _ _ => trivial)
      rintro i x σ H2 H3 hi ⟨y2, y3, y4, y5, y6, rfl, hd2⟩ ⟨e3, rfl⟩
      subst e3
      -- the pieces
      refine ⟨⟨_, rfl⟩, _, rfl, by show 5 ≤ sizeLine; decide, fun l nl => ?_⟩
      have fr := hd2.free nl
      refine ⟨p, q, l, _, rfl, hd2.new nl, upd_same, fr.1, fr.2, by simp, by show 5 < 1000000; decide, fun H4 v hd4 kp4 hv => ?_⟩
      have hv2 : ∃ k : Int, v = .int k ∧ 0 ≤ k ∧ k ≤ 60 := by
        rcases List.mem_cons.mp hv with z | hv
        · exact ⟨5, z, by decide, by decide⟩
        rcases List.mem_cons.mp hv with z | hv
        · exact ⟨20, z, by decide, by decide⟩
        rcases List.mem_cons.mp hv with z | hv
        · exact ⟨1, z, by decide, by decide⟩
        rcases List.mem_cons.mp hv with z | hv
        · exact ⟨60, z, by decide, by decide⟩
        · exact ⟨0, List.mem_singleton.mp hv, by decide, by decide⟩
      obtain ⟨k, rfl, k0, k1⟩ := hv2
      refine ⟨_, rfl, by omega, by omega, fun D nD => ?_⟩
      have fD := hd4.free nD
      refine lc_it (walk_range (lo := 0) (n := k.toNat)) (fun i H5 => Hd p q H5 ∧ ∃ ys : List (List Nat), ys.length = i ∧ (∀ y ∈ ys, y.length ≤ 30 ∧ ∀ c ∈ y, c < 128) ∧ H5 D = some (.lst (ys.map fun y => V.str (S y)))) ?_ (fun _ _ _ _ => trivial) ?_ ?_
      · exact ⟨hd4.new nD, [], rfl, fun y hy => absurd hy List.not_mem_nil, upd_same⟩
      · rintro j x H5 H6 hj ⟨hd5, ys, ey, hy, hD⟩ ⟨e6, rfl⟩
        subst e6
        refine ⟨rfl, _, rfl, p, q, rfl, hd5, fun H7 T hd7 kp7 t1 t2 => ?_⟩
        have hD7 := kp7 D _ fD.1 fD.2 hD
        refine ⟨_, hD7, ?_, ?_, ys ++ [T], by rw [List.length_append, ey]; rfl, fun y hy2 => ?_, ?_⟩
        · rw [List.length_map]
          exact small1000 (by omega)
        · obtain ⟨cs, st, h1, h2, h3⟩ := hd7
          exact ⟨cs, st, by rw [upd_ne fD.1.symm]; exact h1, by rw [upd_ne fD.2.symm]; exact h2, h3⟩
        · rcases List.mem_append.mp hy2 with z | z
          · exact hy y z
          · have ez : y = T := by simpa using z
            subst ez
            exact ⟨t1, t2⟩
        · rw [upd_same, ← strs_snoc]
      rintro H5 ⟨hd5, ys, ey, hy, hD⟩
      have e1 : (ys.map fun y => V.str (S y)) = (ys.map S).map V.str := by
        rw [List.map_map]
        rfl
      rw [e1] at hD
      have s1 := sum_len 30 ys fun y hy2 => (hy y hy2).1
      have f1 := flat_len 30 ys fun y hy2 => (hy y hy2).1
      have hlen : ys.length ≤ 60 := by omega
      have fc : ∀ c ∈ ys.flatten, c < 128 := by
        intro c hc
        obtain ⟨y, hy2, hc2⟩ := List.mem_flatten.mp hc
        exact (hy y hy2).2 c hc2
      refine ⟨_, D, ys.map S, rfl, rfl, .inl (.inl (.inl hD)), ?_, ?_⟩
      · have : (("" : String) : Str).length = 0 := by decide +kernel
        rw [this]
        omega
      have ej : Txt.join (("" : String) : Str) (ys.map S) = S ys.flatten := by
        rw [c_empty, ← join0]
        exact SX.join_S [] ys
      rw [ej]
      generalize ys.flatten = T0 at f1 fc
      have f1' : T0.length ≤ 1800 := by omega
      -- the text, perhaps with long runs
      refine ⟨fun v H' => ∃ T : List Nat, v = .str (S T) ∧ T.length ≤ 3000 ∧ (∀ c ∈ T, c < 128) ∧ Hd p q H', ?_, ?_⟩
      · refine ⟨_, rfl, p, q, 5, rfl, hd5, by decide, by decide, fun H6 r hd6 kp6 r0 r1 => ?_⟩
        refine ⟨rfl, _, rfl, ite2 (fun e => ?_) (fun e => ?_)⟩
        · have e7 : (("7" : String) : Str) = S [55] := by decide +kernel
          have e12 : (("12" : String) : Str) = S [49, 50] := by decide +kernel
          have eE : (("=" : String) : Str) = S [61] := by decide +kernel
          have app : ∀ a b : List Nat, S a ++ S b = S (a ++ b) := by
            intro a b
            show (⟨a.toArray ++ b.toArray⟩ : Str) = ⟨(a ++ b).toArray⟩
            congr 1
            simp
          have hz : sizeLine = 16777216 := by decide
          refine ⟨_, 390, rfl, rfl, by decide, by decide, by decide +kernel, by decide +kernel, ?_⟩
          rw [e7]
          refine ⟨S (repL [55] 390), _, rfl, rfl, ?_, ?_⟩
          · rw [c_blank, S_len, S_len, repL_len, hz]
            decide
          rw [c_blank, app]
          refine ⟨_, rfl, _, _, rfl, rfl, ?_, ?_⟩
          · rw [S_len, S_len, List.length_append, repL_len, hz]
            show 1 * 390 + 1 + T0.length ≤ _
            omega
          rw [app]
          refine ⟨_, _, rfl, rfl, ?_, ?_⟩
          · rw [eE, S_len, S_len, List.length_append, List.length_append, repL_len, hz]
            show 1 * 390 + 1 + T0.length + 1 ≤ _
            omega
          rw [eE, app]
          refine ⟨_, 190, rfl, rfl, by decide, by decide, by decide +kernel, by decide +kernel, ?_⟩
          rw [e12]
          refine ⟨_, S (repL [49, 50] 190), rfl, rfl, ?_, ?_⟩
          · rw [S_len, S_len, List.length_append, List.length_append, List.length_append, repL_len, repL_len, hz]
            show 1 * 390 + 1 + T0.length + 1 + 2 * 190 ≤ _
            omega
          rw [app]
          have r7 : ∀ n, ∀ c ∈ repL [55] n, c < 128 := by
            intro n
            induction n with
            | zero => intro c hc; exact absurd hc List.not_mem_nil
            | succ n ih =>
              intro c hc
              rcases List.mem_append.mp hc with z | z
              · have : c = 55 := by simpa using z
                omega
              · exact ih c z
          have r12 : ∀ n, ∀ c ∈ repL [49, 50] n, c < 128 := by
            intro n
            induction n with
            | zero => intro c hc; exact absurd hc List.not_mem_nil
            | succ n ih =>
              intro c hc
              rcases List.mem_append.mp hc with z | z
              · have : c = 49 ∨ c = 50 := by simpa using z
                omega
              · exact ih c z
          refine ⟨_, rfl, ?_, ?_, hd6⟩
          · rw [List.length_append, List.length_append, List.length_append, List.length_append, repL_len, repL_len]
            show 1 * 390 + 1 + T0.length + 1 + 2 * 190 ≤ _
            omega
          · intro c hc
            rcases List.mem_append.mp hc with hc | z
            · rcases List.mem_append.mp hc with hc | z
              · rcases List.mem_append.mp hc with hc | z
                · rcases List.mem_append.mp hc with z | z
                  · exact r7 _ c z
                  · have : c = 32 := by simpa using z
                    omega
                · exact fc c z
              · have : c = 61 := by simpa using z
                omega
            · exact r12 _ c z
        · exact ⟨_, rfl, T0, rfl, by omega, fc, hd6⟩
      rintro v H6 ⟨T, rfl, hT, hc, hd6⟩
      have sd := spec_data T hT hc
      have sz := spec_size T.length 0 0 T (Nat.le_refl _)
      have okT : okC T := fun c hh => Nat.lt_trans (hc c hh) (by decide)
      -- due
      refine ⟨_, rfl, T, rfl, by omega, okT, fun H7 tl ys7 sm7 n7 h7 m7 => ?_⟩
      refine ⟨tl, ys7, rfl, .inl ⟨.inl (.inl h7), fun du nu => ?_⟩⟩
      have a8 := same_upd (o := .tup ys7) nu
      have m8 := m7.mono a8
      -- told
      refine ⟨_, rfl, T, rfl, by omega, fun H9 td ys9 sm9 n9 h9 m9 => ?_⟩
      have hdu := sm9 _ _ (upd_same : (upd H7 du (.tup ys7)) du = some (.tup ys7))
      have m8' := m8.mono sm9
      have hd9 := ((hd6.same sm7).same a8).same sm9
      have dpT : Dp K H9 (.ref td) (.tuple ((spec 0 0 T).map mD)) := .tup (.inl (.inl h9)) m9.dp
      have dpD : Dp K H9 (.ref du) (.tuple ((spec 0 0 T).map mD)) := .tup (.inl (.inl hdu)) m8'.dp
      refine ⟨_, rfl, td, _, rfl, dpT, sd.1, sd.2.1, sd.2.2.1, sd.2.2.2.1, ?_⟩
      refine ⟨_, rfl, du, _, rfl, dpD, sd.1, sd.2.1, sd.2.2.1, sd.2.2.2.1, ?_⟩
      refine ⟨rfl, _, rfl, ite2 (fun e => ?_) (fun _ => ?_)⟩
      · exfalso
        simp at e
      refine ⟨_, rfl, T, rfl, by omega, fun H10 te ys10 sm10 n10 h10 m10 => ?_⟩
      have dpE : Dp K H10 (.ref te) (.tuple ((spec 0 0 T).map mD)) := .tup (.inl (.inl h10)) m10.dp
      have dpT2 : Dp K H10 (.ref td) (.tuple ((spec 0 0 T).map mD)) := .tup (.inl (.inl (sm10 _ _ h9))) (m9.mono sm10).dp
      refine ⟨_, rfl, _, _, dpE, dpT2, sd.2.2.2.2, sd.2.2.2.2, _, rfl, ?_⟩
      rw [eqv_self sd.2.2.2.2]
      refine iteF ?_
      have hd10 := hd9.same sm10
      have hdu10 := sm10 _ _ hdu
      have m10' := m8'.mono sm10
      -- joined
      have walkDue : ∀ (Hx : Hp), Hx du = some (.tup ys7) → Mks Hx ys7 (spec 0 0 T) → True := fun _ _ _ => trivial
      have hms : (spec 0 0 T).length ≤ 3000 := by have := sz.2.1; omega
      have ly := m7.len
      refine ⟨⟨_, rfl⟩, _, rfl, du, rfl, ⟨_, .inl (.inl hdu10)⟩, fun D2 nD2 => ?_⟩
      refine lc_it (walk_tup (K := K) (a := du) (xs := ys7)) (fun i Hx => Same H10 Hx ∧ Hx D2 = some (.lst (txts (((spec 0 0 T).take i).map (·.2.2))))) ⟨same_upd nD2, upd_same⟩ (fun i Hx _ h => .inl (.inl (h.1 _ _ hdu10))) ?_ ?_
      · rintro i x Hx Hy hi ⟨smx, hDx⟩ ⟨ey, ex⟩
        subst ey
        obtain ⟨mk, emk, b, rfl, hb⟩ := m10'.get ex
        refine ⟨b, _, rfl, .inl (.inl (smx _ _ hb)), rfl, _, _, rfl, _, _, rfl, _, _, rfl, rfl, rfl, _, rfl, _, hDx, ?_, same_put smx nD2, ?_⟩
        · unfold txts
          rw [List.length_map, List.length_map, List.length_take]
          have hz : sizeLine = 16777216 := by decide
          omega
        · rw [upd_same, txts_snoc, List.take_add_one, emk, List.map_append]
          rfl
      rintro Hj ⟨smj, hDj⟩
      rw [List.take_of_length_le (by rw [ly]; exact Nat.le_refl _), txts_S] at hDj
      have jl := joinS_len ((spec 0 0 T).map (·.2.2))
      rw [sum_lens, List.length_map] at jl
      have hl3 := sz.1
      refine ⟨_, D2, _, rfl, rfl, .inl (.inl (.inl hDj)), ?_, ?_⟩
      · rw [sum_txts, sum_lens, List.length_map, List.length_map]
        have : ((" " : String) : Str).length = 1 := by decide +kernel
        rw [this]
        omega
      have ej2 : Txt.join ((" " : String) : Str) (((spec 0 0 T).map (·.2.2)).map S) = S (joinS ((spec 0 0 T).map (·.2.2))) := by
        rw [c_blank, ← join32]
        exact SX.join_S [32] _
      rw [ej2]
      have jj := spec_join ((spec 0 0 T).map (·.2.2)) 0 0 (fun m hm => by
        obtain ⟨x, hx, rfl⟩ := List.mem_map.mp hm
        exact spec_whole T.length 0 0 T (Nat.le_refl _) x hx)
      generalize hjo : joinS ((spec 0 0 T).map (·.2.2)) = TJ at jj jl
      -- the marks of what is joined
      refine ⟨_, rfl, TJ, rfl, by omega, fun H11 tj ysj sm11 n11 h11 m11 => ?_⟩
      have hms2 : (spec 0 0 TJ).length = (spec 0 0 T).length := by
        have := congrArg List.length jj
        rw [List.length_map, List.length_map] at this
        exact this
      refine ⟨tj, rfl, ⟨_, .inl (.inl h11)⟩, fun D3 nD3 => ?_⟩
      have ly2 := m11.len
      refine lc_it (walk_tup (K := K) (a := tj) (xs := ysj)) (fun i Hx => Same H11 Hx ∧ Hx D3 = some (.lst (txts (((spec 0 0 TJ).take i).map (·.2.2))))) ⟨same_upd nD3, upd_same⟩ (fun i Hx _ h => .inl (.inl (h.1 _ _ h11))) ?_ ?_
      · rintro i x Hx Hy hi ⟨smx, hDx⟩ ⟨ey, ex⟩
        subst ey
        obtain ⟨mk, emk, b, rfl, hb⟩ := m11.get ex
        refine ⟨b, _, rfl, .inl (.inl (smx _ _ hb)), rfl, _, _, rfl, _, _, rfl, _, _, rfl, rfl, rfl, _, rfl, _, hDx, ?_, same_put smx nD3, ?_⟩
        · unfold txts
          rw [List.length_map, List.length_map, List.length_take]
          have hz : sizeLine = 16777216 := by decide
          omega
        · rw [upd_same, txts_snoc, List.take_add_one, emk, List.map_append]
          rfl
      rintro H12 ⟨sm12, hD12⟩
      rw [List.take_of_length_le (by rw [ly2]; exact Nat.le_refl _), jj] at hD12
      have toDue : Same H10 H12 := (smj.trans sm11).trans sm12
      refine ⟨_, rfl, du, rfl, ⟨_, .inl (.inl (toDue _ _ hdu10))⟩, fun D4 nD4 => ?_⟩
      refine lc_it (walk_tup (K := K) (a := du) (xs := ys7)) (fun i Hx => Same H12 Hx ∧ Hx D4 = some (.lst (txts (((spec 0 0 T).take i).map (·.2.2))))) ⟨same_upd nD4, upd_same⟩ (fun i Hx _ h => .inl (.inl (h.1 _ _ (toDue _ _ hdu10)))) ?_ ?_
      · rintro i x Hx Hy hi ⟨smx, hDx⟩ ⟨ey, ex⟩
        subst ey
        obtain ⟨mk, emk, b, rfl, hb⟩ := m10'.get ex
        refine ⟨b, _, rfl, .inl (.inl (smx _ _ (toDue _ _ hb))), rfl, _, _, rfl, _, _, rfl, _, _, rfl, rfl, rfl, _, rfl, _, hDx, ?_, same_put smx nD4, ?_⟩
        · unfold txts
          rw [List.length_map, List.length_map, List.length_take]
          have hz : sizeLine = 16777216 := by decide
          omega
        · rw [upd_same, txts_snoc, List.take_add_one, emk, List.map_append]
          rfl
      rintro H13 ⟨sm13, hD13⟩
      rw [List.take_of_length_le (by rw [ly]; exact Nat.le_refl _)] at hD13
      have okm : ∀ m ∈ (spec 0 0 T).map (·.2.2), okC m := by
        intro m hm
        obtain ⟨x, hx, rfl⟩ := List.mem_map.mp hm
        exact fun c hh => okT c (sz.2.2.2 x hx c hh)
      have shp := shaped_txts _ okm
      refine ⟨_, _, .lst (.inl (.inl (sm13 _ _ hD12))) (dp_txts _), .lst (.inl (.inl hD13)) (dp_txts _), shp, shp, _, rfl, ?_⟩
      rw [eqv_self shp]
      refine iteF ?_
      exact ⟨_, _, _, _, _, rfl, (hd10.same toDue).same sm13⟩
    · -- the told ones
      have e0 : (V.str (("" : String) : Str)) = V.str (S []) := by rw [c_empty]
      have e2 : (V.str (("  " : String) : Str)) = V.str (S [32, 32]) := by
        have : (("  " : String) : Str) = S [32, 32] := by decide +kernel
        rw [this]
      have e3 : (V.str ((" \n" : String) : Str)) = V.str (S [32, 10]) := by
        have : ((" \n" : String) : Str) = S [32, 10] := by decide +kernel
        rw [this]
      refine ⟨[], congrArg (· :: []) e0, by decide, fun G1 t1 ys1 g1 n1 h1 m1 => ?_⟩
      refine ⟨by show 0 ≤ sizeLine; decide, fun u1 nu1 => ?_⟩
      refine ⟨.tuple ((spec 0 0 []).map mD), .tuple [], .tup (.inl (.inl (same_upd nu1 _ _ h1))) (m1.mono (same_upd nu1)).dp, .tup (.inl (.inl upd_same)) .nil, by decide +kernel, by decide +kernel, _, rfl, ?_⟩
      refine ite2 (fun e => absurd e (by decide +kernel)) (fun _ => ?_)
      refine ⟨[32, 32], congrArg (· :: []) e2, by decide, fun G2 t2 ys2 g2 n2 h2 m2 => ?_⟩
      refine ⟨by show 0 ≤ sizeLine; decide, fun u2 nu2 => ?_⟩
      refine ⟨.tuple ((spec 0 0 [32, 32]).map mD), .tuple [], .tup (.inl (.inl (same_upd nu2 _ _ h2))) (m2.mono (same_upd nu2)).dp, .tup (.inl (.inl upd_same)) .nil, by decide +kernel, by decide +kernel, _, rfl, ?_⟩
      refine ite2 (fun e => absurd e (by decide +kernel)) (fun _ => ?_)
      refine ⟨[32, 10], congrArg (· :: []) e3, by decide, fun G3 t3 ys3 g3 n3 h3 m3 => ?_⟩
      refine ⟨by show 3 ≤ sizeLine; decide, fun u3 nu3 => ?_⟩
      refine ⟨by show 1 ≤ sizeLine; decide, fun u4 nu4 => ?_⟩
      have k3 := same_upd (o := .tup ([.int 0, .int 1, .str (("\n" : String) : Str)] : List V)) nu3
      have k4 := same_upd (o := .tup ([.ref u3] : List V)) nu4
      refine ⟨.tuple ((spec 0 0 [32, 10]).map mD), .tuple [.tuple [.int 0, .int 1, .str (("\n" : String) : Str)]], .tup (.inl (.inl (k4 _ _ (k3 _ _ h3)))) ((m3.mono k3).mono k4).dp,
        .tup (.inl (.inl upd_same)) (.cons (.tup (.inl (.inl (k4 _ _ upd_same))) (.cons (.int _) (.cons (.int _) (.cons (.str _) .nil)))) .nil), by decide +kernel, by decide +kernel, _, rfl, ?_⟩
      refine ite2 (fun e => absurd e (by decide +kernel)) (fun _ => ?_)
      have e4 : (V.str (("tea -7/2= 4\n\n 7x" : String) : Str)) = V.str (S [116, 101, 97, 32, 45, 55, 47, 50, 61, 32, 52, 10, 10, 32, 55, 120]) := by
        have : (("tea -7/2= 4\n\n 7x" : String) : Str) = S [116, 101, 97, 32, 45, 55, 47, 50, 61, 32, 52, 10, 10, 32, 55, 120] := by decide +kernel
        rw [this]
      refine ⟨[116, 101, 97, 32, 45, 55, 47, 50, 61, 32, 52, 10, 10, 32, 55, 120], congrArg (· :: []) e4, by decide, fun G4 t4 ys4 g4 n4 h4 m4 => ?_⟩
      refine ⟨by show 3 ≤ sizeLine; decide, fun w0 nw0 => ?_⟩
      have b0 := same_upd (o := .tup ([.int 0, .int 0, .str (("tea" : String) : Str)] : List V)) nw0
      refine ⟨by show 3 ≤ sizeLine; decide, fun w1 nw1 => ?_⟩
      have b1 := same_upd (o := .tup ([.int 0, .int 4, .str (("-" : String) : Str)] : List V)) nw1
      refine ⟨by show 3 ≤ sizeLine; decide, fun w2 nw2 => ?_⟩
      have b2 := same_upd (o := .tup ([.int 0, .int 5, .str (("7" : String) : Str)] : List V)) nw2
      refine ⟨by show 3 ≤ sizeLine; decide, fun w3 nw3 => ?_⟩
      have b3 := same_upd (o := .tup ([.int 0, .int 6, .str (("/" : String) : Str)] : List V)) nw3
      refine ⟨by show 3 ≤ sizeLine; decide, fun w4 nw4 => ?_⟩
      have b4 := same_upd (o := .tup ([.int 0, .int 7, .str (("2" : String) : Str)] : List V)) nw4
      refine ⟨by show 3 ≤ sizeLine; decide, fun w5 nw5 => ?_⟩
      have b5 := same_upd (o := .tup ([.int 0, .int 8, .str (("=" : String) : Str)] : List V)) nw5
      refine ⟨by show 3 ≤ sizeLine; decide, fun w6 nw6 => ?_⟩
      have b6 := same_upd (o := .tup ([.int 0, .int 10, .str (("4" : String) : Str)] : List V)) nw6
      refine ⟨by show 3 ≤ sizeLine; decide, fun w7 nw7 => ?_⟩
      have b7 := same_upd (o := .tup ([.int 0, .int 11, .str (("\n" : String) : Str)] : List V)) nw7
      refine ⟨by show 3 ≤ sizeLine; decide, fun w8 nw8 => ?_⟩
      have b8 := same_upd (o := .tup ([.int 1, .int 0, .str (("\n" : String) : Str)] : List V)) nw8
      refine ⟨by show 3 ≤ sizeLine; decide, fun w9 nw9 => ?_⟩
      have b9 := same_upd (o := .tup ([.int 2, .int 1, .str (("7" : String) : Str)] : List V)) nw9
      refine ⟨by show 3 ≤ sizeLine; decide, fun w10 nw10 => ?_⟩
      have b10 := same_upd (o := .tup ([.int 2, .int 2, .str (("x" : String) : Str)] : List V)) nw10
      refine ⟨by show 11 ≤ sizeLine; decide, fun w11 nw11 => ?_⟩
      have b11 := same_upd (o := .tup ([.ref w0, .ref w1, .ref w2, .ref w3, .ref w4, .ref w5, .ref w6, .ref w7, .ref w8, .ref w9, .ref w10] : List V)) nw11
      refine ⟨.tuple ((spec 0 0 [116, 101, 97, 32, 45, 55, 47, 50, 61, 32, 52, 10, 10, 32, 55, 120]).map mD), .tuple [.tuple [.int 0, .int 0, .str (("tea" : String) : Str)], .tuple [.int 0, .int 4, .str (("-" : String) : Str)], .tuple [.int 0, .int 5, .str (("7" : String) : Str)], .tuple [.int 0, .int 6, .str (("/" : String) : Str)], .tuple [.int 0, .int 7, .str (("2" : String) : Str)], .tuple [.int 0, .int 8, .str (("=" : String) : Str)], .tuple [.int 0, .int 10, .str (("4" : String) : Str)], .tuple [.int 0, .int 11, .str (("\n" : String) : Str)], .tuple [.int 1, .int 0, .str (("\n" : String) : Str)], .tuple [.int 2, .int 1, .str (("7" : String) : Str)], .tuple [.int 2, .int 2, .str (("x" : String) : Str)]], .tup (.inl (.inl (b11 _ _ (b10 _ _ (b9 _ _ (b8 _ _ (b7 _ _ (b6 _ _ (b5 _ _ (b4 _ _ (b3 _ _ (b2 _ _ (b1 _ _ (b0 _ _ (h4))))))))))))))) (((((((((((((m4).mono b0).mono b1).mono b2).mono b3).mono b4).mono b5).mono b6).mono b7).mono b8).mono b9).mono b10).mono b11).dp,
        .tup (.inl (.inl upd_same)) (.cons (.tup (.inl (.inl (b11 _ _ (b10 _ _ (b9 _ _ (b8 _ _ (b7 _ _ (b6 _ _ (b5 _ _ (b4 _ _ (b3 _ _ (b2 _ _ (b1 _ _ (upd_same)))))))))))))) (.cons (.int _) (.cons (.int _) (.cons (.str _) .nil)))) (.cons (.tup (.inl (.inl (b11 _ _ (b10 _ _ (b9 _ _ (b8 _ _ (b7 _ _ (b6 _ _ (b5 _ _ (b4 _ _ (b3 _ _ (b2 _ _ (upd_same))))))))))))) (.cons (.int _) (.cons (.int _) (.cons (.str _) .nil)))) (.cons (.tup (.inl (.inl (b11 _ _ (b10 _ _ (b9 _ _ (b8 _ _ (b7 _ _ (b6 _ _ (b5 _ _ (b4 _ _ (b3 _ _ (upd_same)))))))))))) (.cons (.int _) (.cons (.int _) (.cons (.str _) .nil)))) (.cons (.tup (.inl (.inl (b11 _ _ (b10 _ _ (b9 _ _ (b8 _ _ (b7 _ _ (b6 _ _ (b5 _ _ (b4 _ _ (upd_same))))))))))) (.cons (.int _) (.cons (.int _) (.cons (.str _) .nil)))) (.cons (.tup (.inl (.inl (b11 _ _ (b10 _ _ (b9 _ _ (b8 _ _ (b7 _ _ (b6 _ _ (b5 _ _ (upd_same)))))))))) (.cons (.int _) (.cons (.int _) (.cons (.str _) .nil)))) (.cons (.tup (.inl (.inl (b11 _ _ (b10 _ _ (b9 _ _ (b8 _ _ (b7 _ _ (b6 _ _ (upd_same))))))))) (.cons (.int _) (.cons (.int _) (.cons (.str _) .nil)))) (.cons (.tup (.inl (.inl (b11 _ _ (b10 _ _ (b9 _ _ (b8 _ _ (b7 _ _ (upd_same)))))))) (.cons (.int _) (.cons (.int _) (.cons (.str _) .nil)))) (.cons (.tup (.inl (.inl (b11 _ _ (b10 _ _ (b9 _ _ (b8 _ _ (upd_same))))))) (.cons (.int _) (.cons (.int _) (.cons (.str _) .nil)))) (.cons (.tup (.inl (.inl (b11 _ _ (b10 _ _ (b9 _ _ (upd_same)))))) (.cons (.int _) (.cons (.int _) (.cons (.str _) .nil)))) (.cons (.tup (.inl (.inl (b11 _ _ (b10 _ _ (upd_same))))) (.cons (.int _) (.cons (.int _) (.cons (.str _) .nil)))) (.cons (.tup (.inl (.inl (b11 _ _ (upd_same)))) (.cons (.int _) (.cons (.int _) (.cons (.str _) .nil)))) .nil))))))))))), by decide +kernel, by decide +kernel, ?_⟩
      have ev : PyData.eqv (.tuple ((spec 0 0 [116, 101, 97, 32, 45, 55, 47, 50, 61, 32, 52, 10, 10, 32, 55, 120]).map mD)) (.tuple [.tuple [.int 0, .int 0, .str (("tea" : String) : Str)], .tuple [.int 0, .int 4, .str (("-" : String) : Str)], .tuple [.int 0, .int 5, .str (("7" : String) : Str)], .tuple [.int 0, .int 6, .str (("/" : String) : Str)], .tuple [.int 0, .int 7, .str (("2" : String) : Str)], .tuple [.int 0, .int 8, .str (("=" : String) : Str)], .tuple [.int 0, .int 10, .str (("4" : String) : Str)], .tuple [.int 0, .int 11, .str (("\n" : String) : Str)], .tuple [.int 1, .int 0, .str (("\n" : String) : Str)], .tuple [.int 2, .int 1, .str (("7" : String) : Str)], .tuple [.int 2, .int 2, .str (("x" : String) : Str)]]) = true := by decide +kernel
      rw [ev]
      exact fin _
end
end K5


namespace K5
open PySem PySem.Spec PyProof.Rows L2 VG M5 HD
theorem all_mk {l : PySem.W.OpenLaw} {w : World} {K : PySem.W.Frag} {h : Heap} {mg : Str → Option Value} {fa : Addr} (X : K.In h) (G : h.Ns mainGlobals mg) (hfa : mg "law" = some (.ref fa))
    {f0 f1 f2 f3 f4 f5 f6 f7 f8 f9 : Addr}
    {od0 an0 od1 an1 od2 an2 od3 an3 od4 an4 od5 an5 od6 an6 od7 an7 od8 an8 od9 an9 : Option Addr} {sl0 sl1 sl2 sl3 sl4 sl5 sl6 sl7 sl8 sl9 : Array (Option Value)}
    {oc0 kV0 dc0 pm0 cd0 ct0 oc1 kV1 dc1 pm1 cd1 ct1 oc2 kV2 dc2 pm2 cd2 ct2 oc3 kV3 dc3 pm3 cd3 ct3 oc4 kV4 dc4 pm4 cd4 ct4 oc5 kV5 dc5 pm5 cd5 ct5 oc6 kV6 dc6 pm6 cd6 ct6 oc7 kV7 dc7 pm7 cd7 ct7 oc8 kV8 dc8 pm8 cd8 ct8 oc9 kV9 dc9 pm9 cd9 ct9 : Value} {tk0 tk1 : Tok}
    (a0 : PySem.W.nsIn K mainGlobals "run_signs" = some (some (.ref f0)))
    (l0 : K.lookup f0 = some ⟨oc0, od0, .func (PySem.W.fnOf "run_signs" "run_signs" (defArgs s_run_signs) (defBody s_run_signs) (defScope s_run_signs) .none kV0 dc0 pm0 an0 cd0 ct0), sl0⟩)
    (c0 : PySem.W.codeIn K cd0 "run_signs" = true) (k0 : PySem.W.keepIn K (.ref f0) = true)
    (a1 : PySem.W.nsIn K mainGlobals "end_of_run" = some (some (.ref f1)))
    (l1 : K.lookup f1 = some ⟨oc1, od1, .func (PySem.W.fnOf "end_of_run" "end_of_run" (defArgs s_end_of_run) (defBody s_end_of_run) (defScope s_end_of_run) .none kV1 dc1 pm1 an1 cd1 ct1), sl1⟩)
    (c1 : PySem.W.codeIn K cd1 "end_of_run" = true) (k1 : PySem.W.keepIn K (.ref f1) = true)
    (a2 : PySem.W.nsIn K mainGlobals "marks_of" = some (some (.ref f2)))
    (l2 : K.lookup f2 = some ⟨oc2, od2, .func (PySem.W.fnOf "marks_of" "marks_of" (defArgs s_marks_of) (defBody s_marks_of) (defScope s_marks_of) .none kV2 dc2 pm2 an2 cd2 ct2), sl2⟩)
    (c2 : PySem.W.codeIn K cd2 "marks_of" = true) (k2 : PySem.W.keepIn K (.ref f2) = true)
    (a3 : PySem.W.nsIn K mainGlobals "_law_heap" = some (some (.ref f3)))
    (l3 : K.lookup f3 = some ⟨oc3, od3, .func (PySem.W.fnOf "_law_heap" "_law_heap" (defArgs s__law_heap) (defBody s__law_heap) (defScope s__law_heap) .none kV3 dc3 pm3 an3 cd3 ct3), sl3⟩)
    (c3 : PySem.W.codeIn K cd3 "_law_heap" = true) (k3 : PySem.W.keepIn K (.ref f3) = true)
    (a4 : PySem.W.nsIn K mainGlobals "_law_draw" = some (some (.ref f4)))
    (l4 : K.lookup f4 = some ⟨oc4, od4, .func (PySem.W.fnOf "_law_draw" "_law_draw" (defArgs s__law_draw) (defBody s__law_draw) (defScope s__law_draw) .none kV4 dc4 pm4 an4 cd4 ct4), sl4⟩)
    (c4 : PySem.W.codeIn K cd4 "_law_draw" = true) (k4 : PySem.W.keepIn K (.ref f4) = true)
    (a5 : PySem.W.nsIn K mainGlobals "_law_pick" = some (some (.ref f5)))
    (l5 : K.lookup f5 = some ⟨oc5, od5, .func (PySem.W.fnOf "_law_pick" "_law_pick" (defArgs s__law_pick) (defBody s__law_pick) (defScope s__law_pick) .none kV5 dc5 pm5 an5 cd5 ct5), sl5⟩)
    (c5 : PySem.W.codeIn K cd5 "_law_pick" = true) (k5 : PySem.W.keepIn K (.ref f5) = true)
    (a6 : PySem.W.nsIn K mainGlobals "_law_sort" = some (some (.ref f6)))
    (l6 : K.lookup f6 = some ⟨oc6, od6, .func (PySem.W.fnOf "_law_sort" "_law_sort" (defArgs s__law_sort) (defBody s__law_sort) (defScope s__law_sort) .none kV6 dc6 pm6 an6 cd6 ct6), sl6⟩)
    (c6 : PySem.W.codeIn K cd6 "_law_sort" = true) (k6 : PySem.W.keepIn K (.ref f6) = true)
    (a7 : PySem.W.nsIn K mainGlobals "_law_marks" = some (some (.ref f7)))
    (l7 : K.lookup f7 = some ⟨oc7, od7, .func (PySem.W.fnOf "_law_marks" "_law_marks" (defArgs s__law_marks) (defBody s__law_marks) (defScope s__law_marks) .none kV7 dc7 pm7 an7 cd7 ct7), sl7⟩)
    (c7 : PySem.W.codeIn K cd7 "_law_marks" = true) (k7 : PySem.W.keepIn K (.ref f7) = true)
    (a8 : PySem.W.nsIn K mainGlobals "_law_piece" = some (some (.ref f8)))
    (l8 : K.lookup f8 = some ⟨oc8, od8, .func (PySem.W.fnOf "_law_piece" "_law_piece" (defArgs s__law_piece) (defBody s__law_piece) (defScope s__law_piece) .none kV8 dc8 pm8 an8 cd8 ct8), sl8⟩)
    (c8 : PySem.W.codeIn K cd8 "_law_piece" = true) (k8 : PySem.W.keepIn K (.ref f8) = true)
    (a9 : PySem.W.nsIn K mainGlobals "law" = some (some (.ref f9)))
    (l9 : K.lookup f9 = some ⟨oc9, od9, .func (PySem.W.fnOf "law" "law" (defArgs s_law) (defBody s_law) (defScope s_law) .none kV9 dc9 pm9 an9 cd9 ct9), sl9⟩)
    (c9 : PySem.W.codeIn K cd9 "law" = true) (k9 : PySem.W.keepIn K (.ref f9) = true)
    (m0 : PySem.W.nsIn K mainGlobals "LETTERS" = some (some (.str cLETTERS tk0)))
    (m1 : PySem.W.nsIn K mainGlobals "DIGITS" = some (some (.str cDIGITS tk1)))
    (z_len : PySem.W.nsIn K mainGlobals "len" = some none)
    (z_int : PySem.W.nsIn K mainGlobals "int" = some none)
    (z_abs : PySem.W.nsIn K mainGlobals "abs" = some none)
    (z_tuple : PySem.W.nsIn K mainGlobals "tuple" = some none)
    (z_range : PySem.W.nsIn K mainGlobals "range" = some none)
    (z_repr : PySem.W.nsIn K mainGlobals "repr" = some none)
    : ∃ fd : FuncData, (∀ (s : Shared) (v : Value), BindsTo s fd ⟨[v], []⟩ [("script", v)]) ∧ ∀ base : Heap, K.In base → base.Ns mainGlobals mg → FnG l.prog w K mg base 4 fa fd ["script"] (spLaw K) := by
  have e := hfa.symm.trans (PySem.W.mg_of X G a9)
  cases e
  have F0 := fun_mk (st := s_run_signs) l0 c0 k0
  have F1 := fun_mk (st := s_end_of_run) l1 c1 k1
  have F2 := fun_mk (st := s_marks_of) l2 c2 k2
  have F3 := fun_mk (st := s__law_heap) l3 c3 k3
  have F4 := fun_mk (st := s__law_draw) l4 c4 k4
  have F5 := fun_mk (st := s__law_pick) l5 c5 k5
  have F6 := fun_mk (st := s__law_sort) l6 c6 k6
  have F7 := fun_mk (st := s__law_marks) l7 c7 k7
  have F8 := fun_mk (st := s__law_piece) l8 c8 k8
  have F9 := fun_mk (st := s_law) l9 c9 k9
  have b0 := F0.binds (ps := ["sign"]) fun _ _ _ _ _ _ us hl => match us, hl with | [_], _ => rfl
  have b1 := F1.binds (ps := ["text", "start"]) fun _ _ _ _ _ _ us hl => match us, hl with | [_, _], _ => rfl
  have b2 := F2.binds (ps := ["text"]) fun _ _ _ _ _ _ us hl => match us, hl with | [_], _ => rfl
  have b3 := F3.binds (ps := ["script"]) fun _ _ _ _ _ _ us hl => match us, hl with | [_], _ => rfl
  have b4 := F4.binds (ps := ["heap", "many"]) fun _ _ _ _ _ _ us hl => match us, hl with | [_, _], _ => rfl
  have b5 := F5.binds (ps := ["heap", "some"]) fun _ _ _ _ _ _ us hl => match us, hl with | [_, _], _ => rfl
  have b6 := F6.binds (ps := ["sign"]) fun _ _ _ _ _ _ us hl => match us, hl with | [_], _ => rfl
  have b7 := F7.binds (ps := ["text"]) fun _ _ _ _ _ _ us hl => match us, hl with | [_], _ => rfl
  have b8 := F8.binds (ps := ["heap"]) fun _ _ _ _ _ _ us hl => match us, hl with | [_], _ => rfl
  have kb := kbinds_one (p := "text") F2 (fun _ _ _ _ _ _ _ => rfl) (fun _ _ _ _ _ _ _ => rfl)
  have g0 := PySem.W.mg_of X G a0
  have g1 := PySem.W.mg_of X G a1
  have g2 := PySem.W.mg_of X G a2
  have g3 := PySem.W.mg_of X G a3
  have g4 := PySem.W.mg_of X G a4
  have g5 := PySem.W.mg_of X G a5
  have g6 := PySem.W.mg_of X G a6
  have g7 := PySem.W.mg_of X G a7
  have g8 := PySem.W.mg_of X G a8
  have mm0 := PySem.W.mg_of X G m0
  have mm1 := PySem.W.mg_of X G m1
  have y_len := PySem.W.mg_none_of X G z_len
  have y_int := PySem.W.mg_none_of X G z_int
  have y_abs := PySem.W.mg_none_of X G z_abs
  have y_tuple := PySem.W.mg_none_of X G z_tuple
  have y_range := PySem.W.mg_none_of X G z_range
  have y_repr := PySem.W.mg_none_of X G z_repr
  refine ⟨PySem.W.fnOf "law" "law" (defArgs s_law) (defBody s_law) (defScope s_law) .none kV9 dc9 pm9 an9 cd9 ct9, fun s v => .of_eq rfl, fun base _ _ => ?_⟩
  have C0 : Cl l.prog w K mg base 1 "run_signs" spRun := ⟨⟨f0, _, _, ok_run_signs F0 ⟨_, mm0⟩ ⟨_, mm1⟩, g0, F0.kp, b0⟩⟩
  have C1 : Cl l.prog w K mg base 2 "end_of_run" spEnd := ⟨⟨f1, _, _, ok_end_of_run F1 C0 y_len, g1, F1.kp, b1⟩⟩
  have C2 : Cl l.prog w K mg base 3 "marks_of" spMarks := ⟨⟨f2, _, _, ok_marks_of F2 C1 y_len y_tuple, g2, F2.kp, b2⟩⟩
  have CK : ClK l.prog w K mg base 3 "marks_of" ["text"] spMarks := ⟨⟨f2, _, _, ok_marks_of F2 C1 y_len y_tuple, g2, F2.kp, kb⟩⟩
  have C3 : Cl l.prog w K mg base 1 "_law_heap" (spHeap K) := ⟨⟨f3, _, _, ok__law_heap F3 y_int y_abs, g3, F3.kp, b3⟩⟩
  have C4 : Cl l.prog w K mg base 1 "_law_draw" spDraw := ⟨⟨f4, _, _, ok__law_draw F4 y_int, g4, F4.kp, b4⟩⟩
  have C5 : Cl l.prog w K mg base 2 "_law_pick" (spPick K) := ⟨⟨f5, _, _, ok__law_pick F5 C4 y_len, g5, F5.kp, b5⟩⟩
  have C6 : Cl l.prog w K mg base 1 "_law_sort" spSort := ⟨⟨f6, _, _, ok__law_sort F6, g6, F6.kp, b6⟩⟩
  have C7 : Cl l.prog w K mg base 2 "_law_marks" spLMarks := ⟨⟨f7, _, _, ok__law_marks F7 C6 y_len, g7, F7.kp, b7⟩⟩
  have C8 : Cl l.prog w K mg base 3 "_law_piece" spPiece := ⟨⟨f8, _, _, ok__law_piece F8 C4 C5 y_range, g8, F8.kp, b8⟩⟩
  exact ok_law F9 C3 C4 C5 C7 C8 C2 CK y_len y_int y_range y_tuple y_repr
end K5
open PySem PySem.W PyProof.Rows
set_option maxHeartbeats 0 in
set_option maxRecDepth 100000 in
theorem PySem.Challenge.cw_centsatonce_k05_marks_cut_and_joined_holds : PySem.Challenge.rw_centsatonce_k05_marks_cut_and_joined.Holds := by
  w_on; o_law; k_head; (case hw => w_witness2)
  k_fill
  refine VG.walk_G (l := PySem.Challenge.rw_centsatonce_k05_marks_cut_and_joined) (n := 63) (k := 4) (x := "script") (sp := fun w => K5.spLaw _) rfl (by decide) rfl ⟨rfl, by decide, by decide⟩ (fun w h Y => PySem.W.kIn_of Y) ?F (fun _ _ a ns hl _ _ hS => ⟨a, ns, rfl, hS, hl, fun _ => rfl⟩)
  case F =>
    intro w mg fa h KX G hmg
    refine' K5.all_mk KX G hmg ?a0 ?l0 ?c0 ?k0 ?a1 ?l1 ?c1 ?k1 ?a2 ?l2 ?c2 ?k2 ?a3 ?l3 ?c3 ?k3 ?a4 ?l4 ?c4 ?k4 ?a5 ?l5 ?c5 ?k5 ?a6 ?l6 ?c6 ?k6 ?a7 ?l7 ?c7 ?k7 ?a8 ?l8 ?c8 ?k8 ?a9 ?l9 ?c9 ?k9 ?m0 ?m1 ?z_len ?z_int ?z_abs ?z_tuple ?z_range ?z_repr
    (case a0 => k_is); (case l0 => k_is); (case c0 => k_is); (case k0 => k_is); (case a1 => k_is); (case l1 => k_is); (case c1 => k_is); (case k1 => k_is); (case a2 => k_is); (case l2 => k_is); (case c2 => k_is); (case k2 => k_is); (case a3 => k_is); (case l3 => k_is); (case c3 => k_is); (case k3 => k_is); (case a4 => k_is); (case l4 => k_is); (case c4 => k_is); (case k4 => k_is); (case a5 => k_is); (case l5 => k_is); (case c5 => k_is); (case k5 => k_is); (case a6 => k_is); (case l6 => k_is); (case c6 => k_is); (case k6 => k_is); (case a7 => k_is); (case l7 => k_is); (case c7 => k_is); (case k7 => k_is); (case a8 => k_is); (case l8 => k_is); (case c8 => k_is); (case k8 => k_is); (case a9 => k_is); (case l9 => k_is); (case c9 => k_is); (case k9 => k_is); (case m0 => k_is); (case m1 => k_is); (case z_len => k_is); (case z_int => k_is); (case z_abs => k_is); (case z_tuple => k_is); (case z_range => k_is); (case z_repr => k_is)

