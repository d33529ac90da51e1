import PyProof.Rows.All
import Wide.All
import OpenK.AllK
import Wide.FinOn
import PyProof.ReprReads
import PyProof.ReprRoads
import PyProof.StrOps2
import HandS.ForMost
import HandS.Walk
import HandS.Style
import HandS.TupAny
import HandS.EndBits
import HandS.IsInst
import HandS.Gcd
import HandS.Wide
import HandS.Zip
import HandS.ForExc
import HandS.ExcInit
import KE.KExcIs
import HandS.ExcIs
import HandS.ExcField
import HandS.Deep
import HandS.FStrTup
import KE.GoesEnum
import HandS.Iter
import HandS.Dict
import HandS.SetKeys
import PyProof.DictMoreH
import KE.KDictWalk
import HandS.SetFor
import HandS.Strs
import HandS.Conv
import HandS.TupMul
import HandS.DictComp
import HandS.RevRange
import PyProof.WalksMore
import HandS.RaiseMore
import HandS.Flow
import HandS.EndTab
import PyProof.ReprLen
import HandS.TupSets
import HandS.TupLe
import HandS.SortOrd
import PyProof.SetRoads
import HandS.List
import PyProof.Rows.SortStr
import HandS.OwnEq
import HandS.TryOnly
import HandS.Codes
import HandS.Defaults
import KE.KLam
import PySem.Challenge.RW_centsatonce_k09_whole_errors_of_days
set_option Elab.async false
set_option linter.all false
set_option maxRecDepth 100000
set_option maxHeartbeats 8000000
set_option exponentiation.threshold 10000
namespace VG
open PySem PySem.Spec PyProof.Rows L2
structure FnG (P : Program) (w : World) (K : PySem.W.Frag) (mg : Str → Option Value) (base : Heap) (k : Nat) (f : Addr) (fd : FuncData) (ps : List Str) (sp : Sp) : Prop where
  len : ∀ vs H Q E, sp vs H Q E → vs.length = ps.length
  run : ∀ (A : Around) (outer : List Env) (s : Shared) (H : Hp) (args : Args) (us : List Value) (vs : List V) (Q : VK) (E : XK),
    A.guards = some [] → Room k A → Env0 P w K mg base A outer s H → BindsTo s fd args (ps.zip us) → Vals vs us → sp vs H Q E →
    codeAny (model P w) A (.call (.ref f) args) (CR CX0 outer P w H s Q E) s
section
variable {P : Program} {w : World} {K : PySem.W.Frag} {mg : Str → Option Value} {base : Heap}
theorem fnG_of {k : Nat} {f : Addr} {x qual : Str} {st : Stmt} {fd : FuncData} {N ps : List Str} {sp : Sp} (F : Fun K x qual st f fd) (S : FnScope N ps (defScope st))
    (hlen : ∀ vs H Q E, sp vs H Q E → vs.length = ps.length)
    (hb : ∀ (cdv : Value) (A : Around) (outer : List Env) (s : Shared) (H : Hp) (vs : List V) (Q : VK) (E : XK), A.guards = some [] →
      Room k (A.deeper (envOfC qual (defScope st) s.heap.objs.size f cdv)) → sp vs H Q E →
      ∃ t, PSs (cxOf CX0 P w K mg base N qual (defScope st) f cdv A outer s H E).nox (defBody st) t ∧ t { nx := fun _ H' => Q .non H', rt := Q } (start N vs) H) :
    FnG P w K mg base (k + 1) f fd ps sp := by
  obtain ⟨oc, od, kV, doc, pm, an, cdv, ct, osl, rfl, lk, hcd⟩ := F.ex
  constructor
  · exact hlen
  · intro A outer s H args us vs Q E hg hr e0 hbi r hsp
    have nl := hlen _ _ _ _ hsp
    have inK : K.In s.heap := e0.mod.kin.keeps fun b o z => (e0.bs b o z).1
    have noL : s.heap.NoLimit := e0.mod.nolimit.keeps fun b o z => (e0.bs b o z).1
    have kinds : ∀ y ∈ ps.zip us, (defScope st).names.lookup y.1 = some .local ∨
        ((defScope st).names.lookup y.1 = some .cell ∧ ((cellsFrom (s.heap.objs.size + 1) (defScope st).names []).lookup y.1).isSome = true) := by
      intro y hy
      obtain ⟨n, v⟩ := y
      cases S.par n (List.of_mem_zip hy).1 with
      | inl q => exact Or.inl q
      | inr q => exact Or.inr ⟨q, PySem.W.cellsFrom_some _ _ _ (.inl q)⟩
    apply codeAny_call_function hr.depth (inK _ _ lk) rfl S.co S.gen rfl (PySem.W.codeRec_of inK hcd) (hbi _ _ _ _ _)
    apply wpAny_newFunctionEnv_cells S.kind kinds
    intro env he s1 xx
    subst he
    refine And.intro (noL.keeps xx.toInCall.keep) (codeAny_func ?_)
    obtain ⟨t, ht, hq⟩ := hb cdv A outer s H vs Q E hg (hr.deeper _) hsp
    have I := inv_start (CX := CX0) (P := P) (w := w) (E := E) S hr.hd e0 nl r xx
    apply wpAny_mono (ht.nox.run [] s1 (start N vs) H _ I hq)
    · intro fl s' hs
      cases fl with
      | ret u =>
        obtain ⟨v, σ', H', J, rv, q⟩ := hs
        exact ⟨v, H', J.os, J.bare, J.base, J.hok, rv, q⟩
      | next =>
        obtain ⟨σ', H', J, q⟩ := hs
        exact ⟨V.non, H', J.os, J.bare, J.base, J.hok, rfl, q⟩
      | brk =>
        obtain ⟨_, _, _, q⟩ := hs
        exact False.elim q
      | cont =>
        obtain ⟨_, _, _, q⟩ := hs
        exact False.elim q
    · intro e s' hs
      exact hs
end
end VG
namespace VG
open PySem PySem.Spec PyProof.Rows L2
section
variable {X : Cx} {st : Stmt} {rest : List Stmt} {t u : TS}
def tCut (t u : TS) : TS := fun D σ H => ∃ J : L2.St → Hp → Prop, t { D with nx := J } σ H ∧ ∀ σ' H', J σ' H' → u D σ' H'
theorem pss_cut (h1 : PS X st t) (h2 : PSs X rest u) : PSs X (st :: rest) (tCut t u) := by
  constructor
  intro pins s σ H D I h
  obtain ⟨J, a, b⟩ := h
  apply wpAny_execs_cons
  apply thn (h1.run pins s σ H { D with nx := J } I a)
  intro f s1 q
  cases f with
  | next =>
    obtain ⟨σ', H', I', q⟩ := q
    exact h2.run pins s1 σ' H' D I' (b σ' H' q)
  | ret v => exact q
  | brk => exact q
  | cont => exact q
end
section
variable {X : Cx} {e : Expr} {c : TT} {te : TE}
def tMeetE (te : TE) : TE := fun σ H Q => ∃ J : V → Hp → Prop, te σ H J ∧ ∀ v H', J v H' → Q v H'
theorem pe_meet (h : PE X e te) : PE X e (tMeetE te) := by
  constructor
  intro pins s σ H Q I hh
  obtain ⟨J, a, b⟩ := hh
  apply thn (h.run pins s σ H J I a)
  intro d s1 q
  obtain ⟨v, H', I', r, q⟩ := q
  exact ⟨v, H', I', r, b _ _ q⟩
end
structure Cl (P : Program) (w : World) (K : PySem.W.Frag) (mg : Str → Option Value) (base : Heap) (k : Nat) (x : Str) (sp : Sp) : Prop where
  ex : ∃ (f : Addr) (fd : FuncData) (ps : List Str), FnOk P w K mg base CX0 k f fd ps sp ∧ mg x = some (.ref f) ∧ PySem.W.keepIn K (.ref f) = true ∧ Binds K fd ps []
section
variable {X : Cx} {k j : Nat} {x : Str} {sp : Sp} {p pos : Pos} {e : Expr} {es : List Expr} {t : TA}
theorem pe_cl (c : Cl X.prog X.w X.K X.mg X.base k x sp) (hr : Room j X.A) (hk : k ≤ j) (hg : Gl X x) (ha : PA X (e :: es) t)
    (h1 : (x == ("__debug__" : Str)) = false := by decide) (h2 : starEach (e :: es) X.env = (false, eval e X.env) :: starEach es X.env := by rfl)
    (h3 : (backTo pos (starEach es X.env)).any (·.1) = false := by rfl) : PE X (.Call (.Name x p) (e :: es) [] pos) (tCall sp [] E0 t) :=
  let ⟨_, _, _, F, m, kp, b⟩ := c.ex
  pe_call F (hr.mono hk) hg m kp b .nil pass0 ha h1 h2 h3
/-- a module's name that holds a text -/
theorem pe_gs {z : Str} (hg : Gl X x) (h : ∃ u, X.mg x = some (.str z u)) (h1 : (x == ("__debug__" : Str)) = false := by decide) :
    PE X (.Name x pos) (tC (.str z)) := by
  obtain ⟨u, m⟩ := h
  exact pe_glob (v := .str z) hg m ⟨u, rfl⟩ h1
/-- repr of data, where no repr is under way -/
def rRepr (K : PySem.W.Frag) : List V → Hp → VK → Prop := fun xs H Q =>
  ∃ a d, xs = [.ref a] ∧ Dp K H (.ref a) d ∧ d.showable = true ∧ d.hasDict = false ∧ d.depth ≤ 60 ∧ d.shown.length ≤ sizeLine ∧ Q (.str d.shown) H
theorem cr_repr (hg : X.A.guards = some []) (hu : X.A.units + 64 < cLine) : CallR X (.builtin "repr") (rRepr X.K) := by
  intro pins s σ H vs us Q I r h
  obtain ⟨a, d, rfl, hd, h1, h2, h3, h4, q⟩ := h
  rw [Vals.ref1 r]
  obtain ⟨as, rd⟩ := Dp.reads I d (.ref a) (.ref a) hd rfl
  refine repr_of_reads' rd h1 (PyData.noDict_hsm h2) hg (by omega) (fun _ _ z => z) (fun h' u tk hk => ?_) h4
  exact ⟨.str d.shown, H, I.kept hk, ⟨u, rfl⟩, q⟩
end
end VG
namespace VG
open PySem PySem.Spec PyProof.Rows L2
structure ClK (P : Program) (w : World) (K : PySem.W.Frag) (mg : Str → Option Value) (base : Heap) (k : Nat) (x : Str) (ks : List Str) (sp : Sp) : Prop where
  ex : ∃ (f : Addr) (fd : FuncData) (ps : List Str), FnOk P w K mg base CX0 k f fd ps sp ∧ mg x = some (.ref f) ∧ PySem.W.keepIn K (.ref f) = true ∧ KBinds K fd ps ks (fun us ws => us ++ ws) (fun vs zs => vs ++ zs)
section
variable {X : Cx} {k j : Nat} {x : Str} {sp : Sp} {p pos : Pos} {kws : List Keyword} {ks : List Str} {tk : TA}
def tCallK0 (sp : Sp) (tk : TA) : TE := fun σ H Q => tk σ H fun zs H2 => sp zs H2 Q E0
theorem pe_clk0 (c : ClK X.prog X.w X.K X.mg X.base k x ks sp) (hr : Room j X.A) (hk : k ≤ j) (hg : Gl X x) (hkw : PK X kws tk)
    (h1 : (backToKw pos (keywordEach kws X.env)).all (·.1.isSome) = true := by rfl) (h2 : (backToKw pos (keywordEach kws X.env)).filterMap (·.1) = ks := by rfl)
    (h3 : (x == ("__debug__" : Str)) = false := by decide) (h4 : ((backTo pos (starEach [] X.env)).any (·.1) || (backToKw pos (keywordEach kws X.env)).any (·.1.isNone)) = false := by rfl) :
    PE X (.Call (.Name x p) [] kws pos) (tCallK0 sp tk) := by
  obtain ⟨f, fd, ps, F, m, kp, b⟩ := c.ex
  constructor
  intro pins s σ H Q I h
  apply wpAny_Call_Name_kw
  apply ld_glob I hg m _ h3
  apply PySem.W.callWith_KW0 (h₀ := X.base) I.ok.mod.kin kp h1 _ h4
  apply thn (hkw.run pos pins s σ H _ I h)
  intro ws s2 hh
  obtain ⟨zs, H2, I2, rz, q2⟩ := hh
  refine And.intro I2.kIn ?_
  rw [h2]
  exact run_fnk (us := []) (vs := []) F (hr.mono hk) b pass0 I2 .nil rz q2
end
section
variable {P : Program} {w : World} {K : PySem.W.Frag} {mg : Str → Option Value} {base : Heap}
/-- one parameter, given by position or by its name -/
theorem kbinds_one {x qual p : Str} {st : Stmt} {f : Addr} {fd : FuncData} (F : Fun K x qual st f fd)
    (h1 : ∀ (kV doc pm : Value) (an : Option Addr) (cdv ct u : Value), bindArgs (PySem.W.fnOf x qual (defArgs st) (defBody st) (defScope st) .none kV doc pm an cdv ct) ⟨[u], []⟩ = pure [(p, u)])
    (h2 : ∀ (kV doc pm : Value) (an : Option Addr) (cdv ct u : Value), bindArgs (PySem.W.fnOf x qual (defArgs st) (defBody st) (defScope st) .none kV doc pm an cdv ct) ⟨[], [(p, u)]⟩ = pure [(p, u)]) :
    KBinds K fd [p] [p] (fun us ws => us ++ ws) (fun vs zs => vs ++ zs) := by
  obtain ⟨oc, od, kV, doc, pm, an, cdv, ct, osl, rfl, lk, hcd⟩ := F.ex
  constructor
  · intro s us ws _ hl
    match us, ws, hl with
    | [u], [], _ => exact .of_eq (h1 kV doc pm an cdv ct u)
    | [], [u], _ => exact .of_eq (h2 kV doc pm an cdv ct u)
    | [], [], hl => cases hl
    | [], _ :: _ :: _, hl => cases hl
    | [_], _ :: _, hl => cases hl
    | _ :: _ :: _, ws, hl =>
      simp at hl
  · intro vs us zs ws r1 r2
    exact r1.append r2
end
end VG
namespace M2
def g (a b : Int) : Nat := Nat.gcd a.natAbs b.natAbs
/-- bottom above 0, no common divisor -/
def Low (a b : Int) : Prop := 0 < b ∧ g a b = 1
/-- fraction_of of the text, for a bottom that is not 0 -/
def mk (a b : Int) : Int × Int :=
  let s : Int := if b < 0 then -(g a b : Int) else (g a b : Int)
  (a.fdiv s, b.fdiv s)
theorem g_pos {a b : Int} (h : b ≠ 0) : 0 < g a b := Nat.gcd_pos_of_pos_right _ (Int.natAbs_pos.mpr h)
theorem dvd_l (a b : Int) : (g a b : Int) ∣ a := Int.ofNat_dvd_left.mpr (Nat.gcd_dvd_left _ _)
theorem dvd_r (a b : Int) : (g a b : Int) ∣ b := Int.ofNat_dvd_left.mpr (Nat.gcd_dvd_right _ _)
/-- dividing both by the greatest common divisor -/
theorem div_low {a b : Int} (h : 0 < b) : Low (a / (g a b : Int)) (b / (g a b : Int)) := by
  have gp := g_pos (a := a) (b := b) (by omega)
  obtain ⟨x, hx⟩ := dvd_l a b
  obtain ⟨y, hy⟩ := dvd_r a b
  have gne : (g a b : Int) ≠ 0 := by omega
  have ex : a / (g a b : Int) = x := by rw [Int.ediv_eq_of_eq_mul_right gne hx]
  have ey : b / (g a b : Int) = y := by rw [Int.ediv_eq_of_eq_mul_right gne hy]
  rw [ex, ey]
  have ax : a.natAbs = g a b * x.natAbs := by
    have := congrArg Int.natAbs hx
    rwa [Int.natAbs_mul, Int.natAbs_natCast] at this
  have by' : b.natAbs = g a b * y.natAbs := by
    have := congrArg Int.natAbs hy
    rwa [Int.natAbs_mul, Int.natAbs_natCast] at this
  constructor
  · rcases Int.lt_or_le 0 y with z | z
    · exact z
    · exfalso
      have : (g a b : Int) * y ≤ 0 := Int.mul_nonpos_of_nonneg_of_nonpos (by omega) z
      omega
  · have e : g a b = g a b * g x y := by
      have : Nat.gcd (g a b * x.natAbs) (g a b * y.natAbs) = g a b * Nat.gcd x.natAbs y.natAbs := Nat.gcd_mul_left _ _ _
      unfold g at this ⊢
      rw [← this]
      show Nat.gcd a.natAbs b.natAbs = _
      unfold g at ax by'
      rw [← ax, ← by']
    have e2 : g a b * 1 = g a b * g x y := by rw [Nat.mul_one]; exact e
    exact (Nat.eq_of_mul_eq_mul_left gp e2).symm
theorem g_neg (a b : Int) : g (-a) (-b) = g a b := by
  unfold g
  rw [Int.natAbs_neg, Int.natAbs_neg]
theorem mk_pos {a b : Int} (h : 0 < b) : mk a b = (a / (g a b : Int), b / (g a b : Int)) := by
  have gp := g_pos (a := a) (b := b) (by omega)
  unfold mk
  rw [if_neg (by omega)]
  show (a.fdiv (g a b : Int), b.fdiv (g a b : Int)) = _
  rw [Int.fdiv_eq_ediv_of_nonneg _ (by omega), Int.fdiv_eq_ediv_of_nonneg _ (by omega)]
theorem mk_neg {a b : Int} (h : b < 0) : mk a b = mk (-a) (-b) := by
  have gp := g_pos (a := a) (b := b) (by omega)
  rw [mk_pos (by omega : 0 < -b)]
  unfold mk
  rw [if_pos h, g_neg]
  show (a.fdiv (-(g a b : Int)), b.fdiv (-(g a b : Int))) = _
  obtain ⟨x, hx⟩ := dvd_l a b
  obtain ⟨y, hy⟩ := dvd_r a b
  have gne : (g a b : Int) ≠ 0 := by omega
  have e1 : a = -(g a b : Int) * -x := by rw [Int.neg_mul_neg]; exact hx
  have e2 : b = -(g a b : Int) * -y := by rw [Int.neg_mul_neg]; exact hy
  have e3 : -a = (g a b : Int) * -x := by rw [Int.mul_neg, ← hx]
  have e4 : -b = (g a b : Int) * -y := by rw [Int.mul_neg, ← hy]
  have n : -(g a b : Int) ≠ 0 := by omega
  have f1 : a.fdiv (-(g a b : Int)) = -x := by
    have : (-(g a b : Int) * -x).fdiv (-(g a b : Int)) = -x := Int.mul_fdiv_cancel_left _ n
    rw [← e1] at this
    exact this
  have f2 : b.fdiv (-(g a b : Int)) = -y := by
    have : (-(g a b : Int) * -y).fdiv (-(g a b : Int)) = -y := Int.mul_fdiv_cancel_left _ n
    rw [← e2] at this
    exact this
  rw [f1, f2, Int.ediv_eq_of_eq_mul_right gne e3, Int.ediv_eq_of_eq_mul_right gne e4]
theorem mk_low {a b : Int} (h : b ≠ 0) : Low (mk a b).1 (mk a b).2 := by
  rcases Int.lt_or_lt_of_ne h with z | z
  · rw [mk_neg z, mk_pos (by omega)]
    exact div_low (by omega)
  · rw [mk_pos z]
    exact div_low z
/-- it is the same fraction -/
theorem mk_eq {a b : Int} (h : b ≠ 0) : (mk a b).1 * b = a * (mk a b).2 := by
  have key : ∀ a b : Int, 0 < b → (mk a b).1 * b = a * (mk a b).2 := by
    intro a b hb
    rw [mk_pos hb]
    show a / (g a b : Int) * b = a * (b / (g a b : Int))
    obtain ⟨x, hx⟩ := dvd_l a b
    obtain ⟨y, hy⟩ := dvd_r a b
    have gne : (g a b : Int) ≠ 0 := by
      have := g_pos (a := a) (b := b) (by omega)
      omega
    rw [Int.ediv_eq_of_eq_mul_right gne hx, Int.ediv_eq_of_eq_mul_right gne hy]
    calc x * b = x * ((g a b : Int) * y) := by rw [← hy]
      _ = ((g a b : Int) * x) * y := by rw [← Int.mul_assoc, Int.mul_comm x]
      _ = a * y := by rw [← hx]
  rcases Int.lt_or_lt_of_ne h with z | z
  · rw [mk_neg z]
    have := key (-a) (-b) (by omega)
    rw [Int.mul_neg, Int.neg_mul] at this
    omega
  · exact key a b z
theorem natAbs_div_le (a : Int) {d : Int} (h : 0 < d) : (a / d).natAbs ≤ a.natAbs := Int.natAbs_ediv_le_natAbs a d
theorem mk_size {a b : Int} (h : b ≠ 0) : (mk a b).1.natAbs ≤ a.natAbs ∧ (mk a b).2.natAbs ≤ b.natAbs := by
  have key : ∀ a b : Int, 0 < b → (mk a b).1.natAbs ≤ a.natAbs ∧ (mk a b).2.natAbs ≤ b.natAbs := by
    intro a b hb
    rw [mk_pos hb]
    have gp := g_pos (a := a) (b := b) (by omega)
    exact ⟨natAbs_div_le a (by omega), natAbs_div_le b (by omega)⟩
  rcases Int.lt_or_lt_of_ne h with z | z
  · rw [mk_neg z]
    have := key (-a) (-b) (by omega)
    rwa [Int.natAbs_neg, Int.natAbs_neg] at this
  · exact key a b z
/-- in lowest terms there is just one pair -/
theorem low_eq {a b c d : Int} (h1 : Low a b) (h2 : Low c d) (h : a * d = c * b) : a = c ∧ b = d := by
  have e : a.natAbs * d.natAbs = c.natAbs * b.natAbs := by rw [← Int.natAbs_mul, ← Int.natAbs_mul, h]
  have c1 : Nat.Coprime a.natAbs b.natAbs := h1.2
  have c2 : Nat.Coprime c.natAbs d.natAbs := h2.2
  have d1 : b.natAbs ∣ d.natAbs := c1.symm.dvd_of_dvd_mul_left ⟨c.natAbs, by rw [e, Nat.mul_comm]⟩
  have d2 : d.natAbs ∣ b.natAbs := c2.symm.dvd_of_dvd_mul_left ⟨a.natAbs, by rw [← e, Nat.mul_comm]⟩
  have eb : b.natAbs = d.natAbs := Nat.dvd_antisymm d1 d2
  have hb := h1.1
  have hd := h2.1
  have ebd : b = d := by omega
  subst ebd
  exact ⟨Int.eq_of_mul_eq_mul_right (by omega) h, rfl⟩
/-- added of the text -/
def add (p q : Int × Int) : Int × Int :=
  let s : Int := g p.2 q.2
  let rest := p.2 / s
  let high := p.1 * (q.2 / s) + q.1 * rest
  let common : Int := g high s
  (high / common, rest * (q.2 / common))
theorem cop_dvd_l {a b c : Nat} (h : Nat.Coprime a b) (d : c ∣ a) : Nat.Coprime c b := Nat.Coprime.coprime_dvd_left d h
/-- the sum of two fractions in lowest terms, in lowest terms -/
theorem add_ok {p q : Int × Int} (hp : Low p.1 p.2) (hq : Low q.1 q.2) : Low (add p q).1 (add p q).2 ∧ (add p q).1 * (p.2 * q.2) = (p.1 * q.2 + q.1 * p.2) * (add p q).2 := by
  obtain ⟨a, b⟩ := p
  obtain ⟨c, d⟩ := q
  have hb : 0 < b := hp.1
  have hd : 0 < d := hq.1
  have gp := g_pos (a := b) (b := d) (by omega)
  obtain ⟨x, hx⟩ := dvd_l b d
  obtain ⟨y, hy⟩ := dvd_r b d
  have low := div_low (a := b) (b := d) hd
  have sne : (g b d : Int) ≠ 0 := by omega
  have ex : b / (g b d : Int) = x := Int.ediv_eq_of_eq_mul_right sne hx
  have ey : d / (g b d : Int) = y := Int.ediv_eq_of_eq_mul_right sne hy
  rw [ex, ey] at low
  have hxp : 0 < x := by
    rcases Int.lt_or_le 0 x with z | z
    · exact z
    · have : (g b d : Int) * x ≤ 0 := Int.mul_nonpos_of_nonneg_of_nonpos (by omega) z
      omega
  have hyp : 0 < y := low.1
  show Low ((a * (d / (g b d : Int)) + c * (b / (g b d : Int))) / (g (a * (d / (g b d : Int)) + c * (b / (g b d : Int))) (g b d : Int) : Int)) (b / (g b d : Int) * (d / (g (a * (d / (g b d : Int)) + c * (b / (g b d : Int))) (g b d : Int) : Int))) ∧
    (a * (d / (g b d : Int)) + c * (b / (g b d : Int))) / (g (a * (d / (g b d : Int)) + c * (b / (g b d : Int))) (g b d : Int) : Int) * (b * d) = (a * d + c * b) * (b / (g b d : Int) * (d / (g (a * (d / (g b d : Int)) + c * (b / (g b d : Int))) (g b d : Int) : Int)))
  rw [ex, ey]
  generalize hh : a * y + c * x = h
  generalize hs : (g b d : Int) = s at hx hy sne
  have hsp : 0 < s := by omega
  have kp := g_pos (a := h) (b := s) (by omega)
  obtain ⟨u, hu⟩ := dvd_l h s
  obtain ⟨v, hv⟩ := dvd_r h s
  have low2 := div_low (a := h) (b := s) hsp
  have kne : (g h s : Int) ≠ 0 := by omega
  have eu : h / (g h s : Int) = u := Int.ediv_eq_of_eq_mul_right kne hu
  have ev : s / (g h s : Int) = v := Int.ediv_eq_of_eq_mul_right kne hv
  rw [eu, ev] at low2
  have ed : d / (g h s : Int) = v * y := by
    refine Int.ediv_eq_of_eq_mul_right kne ?_
    rw [← Int.mul_assoc, ← hv, ← hy]
  rw [eu, ed]
  generalize (g h s : Int) = k at hu hv kne
  have hvp : 0 < v := low2.1
  -- the numbers without common divisors
  have cab : Nat.Coprime a.natAbs b.natAbs := hp.2
  have ccd : Nat.Coprime c.natAbs d.natAbs := hq.2
  have cxy : Nat.Coprime x.natAbs y.natAbs := low.2
  have cuv : Nat.Coprime u.natAbs v.natAbs := low2.2
  have dxb : x.natAbs ∣ b.natAbs := ⟨s.natAbs, by rw [hx, Int.natAbs_mul, Nat.mul_comm]⟩
  have dyd : y.natAbs ∣ d.natAbs := ⟨s.natAbs, by rw [hy, Int.natAbs_mul, Nat.mul_comm]⟩
  have duh : u.natAbs ∣ h.natAbs := ⟨k.natAbs, by rw [hu, Int.natAbs_mul, Nat.mul_comm]⟩
  have chx : Nat.Coprime h.natAbs x.natAbs := by
    have e : Int.gcd h x = Int.gcd (a * y) x := by
      rw [← hh]
      exact Int.gcd_add_mul_right_left _ _ _
    have e2 : Nat.Coprime (a * y).natAbs x.natAbs := by
      rw [Int.natAbs_mul]
      exact Nat.Coprime.mul_left (Nat.Coprime.coprime_dvd_right dxb cab) cxy.symm
    exact e.trans e2
  have chy : Nat.Coprime h.natAbs y.natAbs := by
    have e : Int.gcd h y = Int.gcd (c * x) y := by
      rw [← hh]
      exact Int.gcd_mul_right_add_left _ _ _
    have e2 : Nat.Coprime (c * x).natAbs y.natAbs := by
      rw [Int.natAbs_mul]
      exact Nat.Coprime.mul_left (Nat.Coprime.coprime_dvd_right dyd ccd) cxy
    exact e.trans e2
  refine ⟨⟨Int.mul_pos hxp (Int.mul_pos hvp hyp), ?_⟩, ?_⟩
  · show Nat.Coprime u.natAbs (x * (v * y)).natAbs
    rw [Int.natAbs_mul, Int.natAbs_mul]
    exact Nat.Coprime.mul_right (cop_dvd_l chx duh) (Nat.Coprime.mul_right cuv (cop_dvd_l chy duh))
  · have e1 : a * d + c * b = s * h := by
      rw [← hh, hx, hy, Int.mul_add]
      rw [show a * (s * y) = s * (a * y) by rw [← Int.mul_assoc, Int.mul_comm a s, Int.mul_assoc], show c * (s * x) = s * (c * x) by rw [← Int.mul_assoc, Int.mul_comm c s, Int.mul_assoc]]
    rw [e1, hu]
    have e2 : b * d = (s * x) * (s * y) := by rw [← hx, ← hy]
    rw [e2]
    have e3 : s * (k * u) * (x * (v * y)) = u * ((s * x) * ((k * v) * y)) := by
      simp only [Int.mul_assoc, Int.mul_comm, Int.mul_left_comm]
    rw [e3, ← hv]
theorem add_size {p q : Int × Int} (hp : Low p.1 p.2) (hq : Low q.1 q.2) {m n : Nat} (a1 : p.1.natAbs < 2 ^ m) (a2 : p.2.natAbs < 2 ^ m) (b1 : q.1.natAbs < 2 ^ n) (b2 : q.2.natAbs < 2 ^ n) :
    (add p q).1.natAbs < 2 ^ (m + n + 1) ∧ (add p q).2.natAbs < 2 ^ (m + n + 1) := by
  have hb := hp.1
  have hd := hq.1
  have gp := g_pos (a := p.2) (b := q.2) (by omega)
  have l1 : (p.2 / (g p.2 q.2 : Int)).natAbs ≤ p.2.natAbs := natAbs_div_le _ (by omega)
  have l2 : (q.2 / (g p.2 q.2 : Int)).natAbs ≤ q.2.natAbs := natAbs_div_le _ (by omega)
  have hp2 : 2 ^ (m + n + 1) = 2 ^ m * 2 ^ n + 2 ^ m * 2 ^ n := by
    rw [Nat.pow_succ, Nat.pow_add]
    omega
  have mul : ∀ {x y a b : Nat}, x < a → y < b → x * y < a * b := fun h1 h2 => Nat.mul_lt_mul'' h1 h2
  have hh : (p.1 * (q.2 / (g p.2 q.2 : Int)) + q.1 * (p.2 / (g p.2 q.2 : Int))).natAbs < 2 ^ (m + n + 1) := by
    have e1 := Int.natAbs_add_le (p.1 * (q.2 / (g p.2 q.2 : Int))) (q.1 * (p.2 / (g p.2 q.2 : Int)))
    rw [Int.natAbs_mul, Int.natAbs_mul] at e1
    have e2 := mul a1 (Nat.lt_of_le_of_lt l2 b2)
    have e3 := mul b1 (Nat.lt_of_le_of_lt l1 a2)
    rw [Nat.mul_comm (2 ^ n)] at e3
    omega
  have kp := g_pos (a := p.1 * (q.2 / (g p.2 q.2 : Int)) + q.1 * (p.2 / (g p.2 q.2 : Int))) (b := (g p.2 q.2 : Int)) (by omega)
  constructor
  · exact Nat.lt_of_le_of_lt (natAbs_div_le _ (by omega)) hh
  · show (p.2 / (g p.2 q.2 : Int) * (q.2 / (g (p.1 * (q.2 / (g p.2 q.2 : Int)) + q.1 * (p.2 / (g p.2 q.2 : Int))) (g p.2 q.2 : Int) : Int))).natAbs < _
    rw [Int.natAbs_mul]
    have e4 := natAbs_div_le q.2 (d := (g (p.1 * (q.2 / (g p.2 q.2 : Int)) + q.1 * (p.2 / (g p.2 q.2 : Int))) (g p.2 q.2 : Int) : Int)) (by omega)
    have e5 := mul (Nat.lt_of_le_of_lt l1 a2) (Nat.lt_of_le_of_lt e4 b2)
    omega
end M2
namespace FR
open PySem PySem.Spec PyProof.Rows L2 VG
abbrev Q2 := Int × Int
def pV (p : Q2) : List V := [.int p.1, .int p.2]
def Bt (n : Nat) (p : Q2) : Prop := p.1.natAbs < 2 ^ n ∧ p.2.natAbs < 2 ^ n
theorem Bt.mono {m n : Nat} {p : Q2} (h : Bt m p) (hm : m ≤ n) : Bt n p := ⟨Nat.lt_of_lt_of_le h.1 (Nat.pow_le_pow_right (by decide) hm), Nat.lt_of_lt_of_le h.2 (Nat.pow_le_pow_right (by decide) hm)⟩
theorem same_upd {H : Hp} {p : Addr} {o : HO} (h : H p = none) : Same H (upd H p o) := fun b x e => by
  rw [upd_ne (ne_of_none e h)]
  exact e
theorem seqT {K : PySem.W.Frag} {H H' : Hp} {a : Addr} {xs : List V} (e : Same H H') (h : SqT K H a xs) : SqT K H' a xs := by
  rcases h with (h | ⟨o, h⟩) | h
  · exact .inl (.inl (e _ _ h))
  · exact .inl (.inr ⟨o, e _ _ h⟩)
  · exact .inr h
theorem tyT {K : PySem.W.Frag} {H : Hp} {a : Addr} {xs : List V} (h : SqT K H a xs) : TyX K H (.ref a) (.type "tuple") := by
  rcases h with (h | ⟨o, h⟩) | ⟨o, its, n, h1, h2, h3⟩
  · exact .base (.tup h)
  · exact .fTuple h
  · exact .kTuple h1 h2
theorem kb1 {K : PySem.W.Frag} : PySem.W.kitOne K (.type "int") (.type "int") = some true := kit_ty (by decide +kernel)
theorem kb2 {K : PySem.W.Frag} : PySem.W.kitOne K (.type "int") (.type "bool") = some false := kit_ty (by decide +kernel)
def Frs (K : PySem.W.Frag) (H : Hp) : List V → List Q2 → Prop
  | [], [] => True
  | v :: vs, p :: ps => (∃ t, v = .ref t ∧ SqT K H t (pV p)) ∧ Frs K H vs ps
  | _, _ => False
theorem Frs.mono {K : PySem.W.Frag} {H H' : Hp} (e : Same H H') : ∀ {vs : List V} {ps : List Q2}, Frs K H vs ps → Frs K H' vs ps
  | [], [], _ => trivial
  | _ :: _, _ :: _, ⟨⟨t, e1, h⟩, r⟩ => ⟨⟨t, e1, seqT e h⟩, r.mono e⟩
  | [], _ :: _, h => h.elim
  | _ :: _, [], h => h.elim
theorem Frs.len {K : PySem.W.Frag} {H : Hp} : ∀ {vs : List V} {ps : List Q2}, Frs K H vs ps → vs.length = ps.length
  | [], [], _ => rfl
  | _ :: _, _ :: _, h => by rw [List.length_cons, List.length_cons, h.2.len]
  | [], _ :: _, h => h.elim
  | _ :: _, [], h => h.elim
theorem Frs.get {K : PySem.W.Frag} {H : Hp} : ∀ {vs : List V} {ps : List Q2} {i : Nat} {v : V}, Frs K H vs ps → vs[i]? = some v → ∃ t p, v = .ref t ∧ ps[i]? = some p ∧ SqT K H t (pV p)
  | [], [], _, _, _, h => by simp at h
  | a :: _, p :: _, 0, v, h, e => by
    have e1 : a = v := Option.some.inj e
    subst e1
    obtain ⟨t, e2, q⟩ := h.1
    exact ⟨t, p, e2, rfl, q⟩
  | _ :: vs, _ :: ps, i + 1, v, h, e => h.2.get (i := i) e
  | [], _ :: _, _, _, h, _ => h.elim
  | _ :: _, [], _, _, h, _ => h.elim
theorem Frs.snoc {K : PySem.W.Frag} {H : Hp} {t : Addr} {p : Q2} (hv : SqT K H t (pV p)) : ∀ {vs : List V} {ps : List Q2}, Frs K H vs ps → Frs K H (vs ++ [.ref t]) (ps ++ [p])
  | [], [], _ => ⟨⟨t, rfl, hv⟩, trivial⟩
  | _ :: _, _ :: _, h => ⟨h.1, h.2.snoc hv⟩
  | [], _ :: _, h => h.elim
  | _ :: _, [], h => h.elim
/-- what a value is to is_fraction: a whole number, or none -/
def Part (K : PySem.W.Frag) (H : Hp) (x : V) (o : Option Int) : Prop :=
  (∃ a, x = .int a ∧ o = some a) ∨ (o = none ∧ ∃ (ty : String) (b1 b2 : Bool), TyX K H x (.type ty) ∧ kitB ty "int" = some b1 ∧ kitB ty "bool" = some b2 ∧ (b1 && !b2) = false)
def okFr : Option Int → Option Int → Bool
  | some a, some b => decide (0 < b) && decide (M2.g a b = 1)
  | _, _ => false
section
variable {P : Program} {w : World} {K : PySem.W.Frag} {mg : Str → Option Value} {base : Heap}
def spInt (K : PySem.W.Frag) : Sp := fun vs H Q _ => ∃ (v : V) (o : Option Int), vs = [v] ∧ Part K H v o ∧ Q (.bl o.isSome) H
def spTup (K : PySem.W.Frag) : Sp := fun vs H Q _ => ∃ (v : V) (n : Nat), vs = [v, .int n] ∧ ((∃ ty : String, TyX K H v (.type ty) ∧ kitB ty "tuple" = some false ∧ Q (.bl false) H) ∨ ∃ p xs, v = .ref p ∧ SqT K H p xs ∧ Q (.bl (decide (xs.length = n))) H)
def spIsFr (K : PySem.W.Frag) : Sp := fun vs H Q _ => ∃ v : V, vs = [v] ∧ ((∃ ty : String, TyX K H v (.type ty) ∧ kitB ty "tuple" = some false ∧ Q (.bl false) H) ∨ (∃ p xs, v = .ref p ∧ SqT K H p xs ∧ xs.length ≠ 2 ∧ Q (.bl false) H) ∨
  ∃ p x y o1 o2, v = .ref p ∧ SqT K H p [x, y] ∧ Part K H x o1 ∧ Part K H y o2 ∧ Q (.bl (okFr o1 o2)) H)
def spAdd (K : PySem.W.Frag) : Sp := fun vs H Q _ => ∃ (s t : Addr) (p q : Q2), vs = [.ref s, .ref t] ∧ SqT K H s (pV p) ∧ SqT K H t (pV q) ∧ M2.Low p.1 p.2 ∧ M2.Low q.1 q.2 ∧ Bt 3000 p ∧ Bt 3000 q ∧
  ∀ H' u, Same H H' → H u = none → H' u = some (.tup (pV (M2.add p q))) → Q (.ref u) H'
def neg (p : Q2) : Q2 := (-p.1, p.2)
def spOpp (K : PySem.W.Frag) : Sp := fun vs H Q _ => ∃ (s : Addr) (p : Q2), vs = [.ref s] ∧ SqT K H s (pV p) ∧ ∀ H' u, Same H H' → H u = none → H' u = some (.tup (pV (neg p))) → Q (.ref u) H'
def spTaken (K : PySem.W.Frag) : Sp := fun vs H Q _ => ∃ (s t : Addr) (p q : Q2), vs = [.ref s, .ref t] ∧ SqT K H s (pV p) ∧ SqT K H t (pV q) ∧ M2.Low p.1 p.2 ∧ M2.Low q.1 q.2 ∧ Bt 3000 p ∧ Bt 3000 q ∧
  ∀ H' u, Same H H' → H u = none → H' u = some (.tup (pV (M2.add p (neg q)))) → Q (.ref u) H'
def spSmall (K : PySem.W.Frag) : Sp := fun vs H Q _ => ∃ (s : Addr) (p : Q2), vs = [.ref s] ∧ SqT K H s (pV p) ∧ Q (.bl (decide ((if p.1 < 0 then -p.1 else p.1) < p.2))) H
def spFloor (K : PySem.W.Frag) : Sp := fun vs H Q _ => ∃ (s : Addr) (p : Q2), vs = [.ref s] ∧ SqT K H s (pV p) ∧ 0 < p.2 ∧ Bt 3000 p ∧ Q (.int (p.1 / p.2)) H
def spCeil (K : PySem.W.Frag) : Sp := fun vs H Q _ => ∃ (s : Addr) (p : Q2), vs = [.ref s] ∧ SqT K H s (pV p) ∧ 0 < p.2 ∧ Bt 3000 p ∧ Q (.int (-(-p.1 / p.2))) H
def sumQ (ps : List Q2) : Q2 := ps.foldl M2.add (0, 1)
end
theorem at0 (x y : V) : atI [x, y] 0 = some x := rfl
theorem at1 (x y : V) : atI [x, y] 1 = some y := rfl
theorem mulW {i j : Int} (h1 : i.natAbs < 2 ^ 400000) (h2 : j.natAbs < 2 ^ 400000) : CMulW i j := wide_mul h1 h2 (by decide) (by decide) (by decide)
theorem up {n m : Nat} {x : Nat} (h : x < 2 ^ n) (hm : n ≤ m) : x < 2 ^ m := Nat.lt_of_lt_of_le h (Nat.pow_le_pow_right (by decide) hm)
end FR
namespace VG
open PySem PySem.Spec PyProof.Rows L2
section
variable {X : Cx}
/-- over a name that holds a list or a tuple -/
def iAnyV (K : PySem.W.Frag) (i : Nat) : TI := fun σ H R => ∃ a, σ[i]? = some (some (V.ref a)) ∧ (((∃ xs, SqL K H a xs) ∧ R (Itl K a) H) ∨ ((∃ xs, SqT K H a xs) ∧ R (Itt K a) H))
theorem pi_any {i : Nat} {x : Str} {pos p2 : Pos} {y : Str} (h : PE X (.Name x pos) (tVar i)) : PI X (.Name y p2) (.Name x pos) (iAnyV X.K i) := by
  constructor
  intro pins s σ H R I hh
  obtain ⟨a, ea, q⟩ := hh
  rcases q with ⟨w, r⟩ | ⟨w, r⟩
  · exact (pi_list h).run pins s σ H R I ⟨_, ea, a, rfl, w, r⟩
  · exact (pi_tup h).run pins s σ H R I ⟨_, ea, a, rfl, w, r⟩
end
theorem walk_zipT {K : PySem.W.Frag} {a b : Addr} {xs ys : List V} {n : Nat} (hn : n = min xs.length ys.length) : Walk (RZ.ItzT K a b) n (fun H => SqT K H a xs ∧ SqT K H b ys) (YPair (fun i => xs[i]?) (fun i => ys[i]?)) := by
  constructor
  · intro i H hi hG
    have h1 : i < xs.length := by omega
    have h2 : i < ys.length := by omega
    exact ⟨xs, ys, xs[i], ys[i], hG.1, hG.2, List.getElem?_eq_getElem h1, List.getElem?_eq_getElem h2⟩
  · intro H hG
    exact ⟨xs, ys, hG.1, hG.2, by omega⟩
  · intro i H v H' hi hG hy
    obtain ⟨T, x, y, e1, e2, e3, e4, e5⟩ := hy
    exact ⟨T, x, y, e1, e2, e3, e4 xs hG.1, e5 ys hG.2⟩
/-- a def that may let errors out, where it lets none -/
theorem fn_calm {P : Program} {w : World} {K : PySem.W.Frag} {mg : Str → Option Value} {base : Heap} {k : Nat} {f : Addr} {fd : FuncData} {ps : List Str} {sp : Sp} (F : FnOk P w K mg base (L2.CX P w) k f fd ps sp) :
    FnOk P w K mg base CX0 k f fd ps (fun vs H Q _ => sp vs H Q E0) := by
  constructor
  · intro vs H Q E h
    exact F.len vs H Q E0 h
  · intro A outer s H args us vs Q E hr e0 hb hv hs
    apply codeAny_mono (F.run A outer s H args us vs Q E0 hr e0 hb hv hs)
    intro r s' hh
    match r, hh with
    | .ok (.ret u), hh => exact hh
    | .ok .next, hh => exact hh
    | .ok .brk, hh => exact hh
    | .ok .cont, hh => exact hh
    | .error e, hh =>
      obtain ⟨_, _, _, _, _, _, _, _, _, _, _, _, h⟩ := hh
      exact h.elim
/-- what the written part says of an own error's class with an __init__ -/
structure ErrC (K : PySem.W.Frag) (mg : Str → Option Value) (x : Str) (C fI : Addr) : Prop where
  gC : mg x = some (.ref C)
  o : OexC K C
  iC : PySem.W.findIn K (.ref C) "__init__" = some (some (.ref fI))
  tI : PySem.W.typeIn K (.ref fI) = some (.type "function")
end VG
namespace FR
open PySem PySem.Spec PyProof.Rows L2 VG
theorem seqT_upd {K : PySem.W.Frag} {H : Hp} {D t : Addr} {xs ys : List V} {zs : List V} (hD : H D = some (.lst ys)) (h : SqT K H t xs) : SqT K (upd H D (.lst zs)) t xs := by
  rcases h with (h | ⟨o, h⟩) | h
  · refine .inl (.inl ?_)
    rw [upd_ne (by intro e; subst e; rw [hD] at h; cases h)]
    exact h
  · refine .inl (.inr ⟨o, ?_⟩)
    rw [upd_ne (by intro e; subst e; rw [hD] at h; cases h)]
    exact h
  · exact .inr h
theorem Frs.upd {K : PySem.W.Frag} {H : Hp} {D : Addr} {ys zs : List V} (hD : H D = some (.lst ys)) : ∀ {vs : List V} {ps : List Q2}, Frs K H vs ps → Frs K (L2.upd H D (.lst zs)) vs ps
  | [], [], _ => trivial
  | _ :: _, _ :: _, ⟨⟨t, e1, h⟩, r⟩ => ⟨⟨t, e1, seqT_upd hD h⟩, r.upd hD⟩
  | [], _ :: _, h => h.elim
  | _ :: _, [], h => h.elim
section
variable {P : Program} {w : World} {K : PySem.W.Frag} {mg : Str → Option Value} {base : Heap}
def spInitW (K : PySem.W.Frag) (C : Addr) (fld : Str) : Sp := fun vs H Q _ => ∃ (a : Addr) (v : V), vs = [.ref a, v] ∧ H a = some (exo a C none) ∧ ∀ dx, H dx = none → dx ≠ a → Q .non (upd (upd H dx (exd dx [(fld, v)])) a (exo a C (some dx)))
end
end FR
namespace VG
open PySem PySem.Spec PyProof.Rows L2
structure ClG (P : Program) (w : World) (K : PySem.W.Frag) (mg : Str → Option Value) (base : Heap) (k : Nat) (x : Str) (sp : Sp) : Prop where
  ex : ∃ (f : Addr) (fd : FuncData) (ps : List Str), FnG P w K mg base k f fd ps sp ∧ mg x = some (.ref f) ∧ PySem.W.keepIn K (.ref f) = true ∧ Binds K fd ps []
section
variable {X : Cx} {k j : Nat} {x : Str} {sp : Sp} {p pos : Pos} {e : Expr} {es : List Expr} {t : TA}
theorem run_clg {f : Addr} {fd : FuncData} {ps : List Str} {pins : List (Addr × Obj)} {σ : L2.St} {H : Hp} {s : Shared} {Q : VK} {us : List Value} {vs : List V} (F : FnG X.prog X.w X.K X.mg X.base k f fd ps sp) (hg : X.A.guards = some []) (hr : Room k X.A)
    (hb : Binds X.K fd ps []) (I : Inv X pins σ H s) (r : Vals vs us) (h : sp vs H Q E0) : wpAny (model X.prog X.w) X.A (call (.ref f) us) (EP X pins σ Q) X.xe s := by
  have hl : us.length = ps.length := by
    rw [← r.length]
    exact F.len _ _ _ _ h
  have hb2 := hb s us I.kIn (by rw [List.append_nil]; exact hl)
  rw [List.append_nil] at hb2
  apply wpAny_call
  apply codeAny_mono (F.run X.A X.stack s H ⟨us, []⟩ us vs Q E0 hg hr I.env0 hb2 r h)
  intro rr s' hq
  match rr, hq with
  | .ok (.ret u), hq => exact I.after hq
theorem pe_clg (c : ClG X.prog X.w X.K X.mg X.base k x sp) (hgd : X.A.guards = some []) (hr : Room j X.A) (hk : k ≤ j) (hg : Gl X x) (ha : PA X (e :: es) t)
    (h1 : (x == ("__debug__" : Str)) = false := by decide) (h2 : starEach (e :: es) X.env = (false, eval e X.env) :: starEach es X.env := by rfl)
    (h3 : (backTo pos (starEach es X.env)).any (·.1) = false := by rfl) : PE X (.Call (.Name x p) (e :: es) [] pos) (tCall sp [] E0 t) := by
  obtain ⟨f, fd, ps, F, m, kp, b⟩ := c.ex
  constructor
  intro pins s σ H Q I h
  apply wpAny_Call_Name_kw
  apply ld_glob I hg m _ h1
  apply PySem.W.callWith_K (h₀ := X.base) I.ok.mod.kin kp _ h2 h3
  apply thn (ha.run pos pins s σ H _ I h)
  intro us s1 hh
  obtain ⟨vs, H1, I1, r, q⟩ := hh
  refine And.intro I1.kIn ?_
  exact run_clg F hgd (hr.mono hk) b I1 r (by rw [← List.append_nil vs]; exact q)
end
end VG
namespace HD
open PySem PySem.Spec PyProof.Rows L2 VG
def Hd (p q : Addr) (H : Hp) : Prop := ∃ (cs : List Int) (st : Int), H p = some (.lst [.ref q, .int st]) ∧ H q = some (.lst (cs.map V.int)) ∧ cs.length ≤ 63 ∧ 0 ≤ st ∧ st < 2147483647
def Keep (p q : Addr) (H H' : Hp) : Prop := ∀ b o, b ≠ p → b ≠ q → H b = some o → H' b = some o
theorem Keep.refl (p q : Addr) (H : Hp) : Keep p q H H := fun _ _ _ _ h => h
theorem Keep.trans {p q : Addr} {H H1 H2 : Hp} (a : Keep p q H H1) (b : Keep p q H1 H2) : Keep p q H H2 := fun x o n1 n2 h => b x o n1 n2 (a x o n1 n2 h)
theorem Keep.new {p q n : Addr} {o : HO} {H : Hp} (h : H n = none) : Keep p q H (upd H n o) := fun b x _ _ e => by
  rw [upd_ne (ne_of_none e h)]
  exact e
theorem Keep.at1 {p q : Addr} {o : HO} {H : Hp} : Keep p q H (upd H p o) := fun b x h _ e => by
  rw [upd_ne h]
  exact e
theorem Keep.at2 {p q : Addr} {o : HO} {H : Hp} : Keep p q H (upd H q o) := fun b x _ h e => by
  rw [upd_ne h]
  exact e
theorem Hd.ne {p q : Addr} {H : Hp} (h : Hd p q H) : p ≠ q := by
  obtain ⟨cs, st, h1, h2, _⟩ := h
  intro e
  subst e
  rw [h1] at h2
  cases cs with
  | nil => cases h2
  | cons c r => cases h2
theorem Hd.new {p q n : Addr} {o : HO} {H : Hp} (h : Hd p q H) (hn : H n = none) : Hd p q (upd H n o) := by
  obtain ⟨cs, st, h1, h2, h3⟩ := h
  exact ⟨cs, st, by rw [upd_ne (ne_of_none h1 hn)]; exact h1, by rw [upd_ne (ne_of_none h2 hn)]; exact h2, h3⟩
theorem Hd.neOf {p q n : Addr} {o : HO} {H : Hp} (h : Hd p q H) (hn : H n = some o) (ho : ∀ xs, o ≠ .lst xs) : n ≠ p ∧ n ≠ q := by
  obtain ⟨cs, st, h1, h2, _⟩ := h
  constructor
  · intro e
    subst e
    rw [h1] at hn
    exact ho _ (Option.some.inj hn).symm
  · intro e
    subst e
    rw [h2] at hn
    exact ho _ (Option.some.inj hn).symm
theorem Hd.free {p q n : Addr} {H : Hp} (h : Hd p q H) (hn : H n = none) : n ≠ p ∧ n ≠ q := by
  obtain ⟨cs, st, h1, h2, _⟩ := h
  exact ⟨(ne_of_none h1 hn).symm, (ne_of_none h2 hn).symm⟩
theorem dpAll_ints (K : PySem.W.Frag) (H : Hp) : ∀ cs : List Int, DpAll K H (cs.map V.int) (cs.map PyData.int)
  | [] => .nil
  | c :: cs => .cons (.int c) (dpAll_ints K H cs)
theorem dp_ints {K : PySem.W.Frag} {H : Hp} {q : Addr} {cs : List Int} (h : SqL K H q (cs.map V.int)) : Dp K H (.ref q) (.list (cs.map PyData.int)) := .lst h (dpAll_ints K H cs)
theorem lay_ints : ∀ cs : List Int, PyData.canLayAll0 (cs.map PyData.int) = true
  | [] => rfl
  | c :: cs => by
    show (PyData.canLay0 (.int c) && PyData.canLayAll0 (cs.map PyData.int)) = true
    rw [lay_ints cs]
    rfl
theorem depth_ints : ∀ cs : List Int, PyData.depthAll (cs.map PyData.int) = 0
  | [] => rfl
  | c :: cs => by
    show max (PyData.depth (.int c)) (PyData.depthAll (cs.map PyData.int)) = 0
    rw [depth_ints cs]
    rfl
theorem shaped_ints (cs : List Int) : SeqAt.shaped (.list (cs.map PyData.int)) = true := by
  unfold SeqAt.shaped
  rw [Bool.and_eq_true]
  refine ⟨?_, decide_eq_true ?_⟩
  · show PyData.canLayAll0 (cs.map PyData.int) = true
    exact lay_ints cs
  · show PyData.depthAll (cs.map PyData.int) + 1 ≤ 64
    rw [depth_ints]
    decide
theorem shaped_nil : SeqAt.shaped (.list []) = true := by decide +kernel
theorem eqv_nil (cs : List Int) : PyData.eqv (.list (cs.map PyData.int)) (.list []) = decide (cs = []) := by
  cases cs with
  | nil => rfl
  | cons c r => rfl
section
variable {P : Program} {w : World} {K : PySem.W.Frag} {mg : Str → Option Value} {base : Heap}
/-- a draw: some number below many -/
def spDraw : Sp := fun vs H Q _ => ∃ (p q : Addr) (many : Int), vs = [.ref p, .int many] ∧ Hd p q H ∧ 0 < many ∧ many < 1073741824 ∧ ∀ (H' : Hp) (r : Int), Hd p q H' → Keep p q H H' → 0 ≤ r → r < many → Q (.int r) H'
/-- one of some -/
def spPick (K : PySem.W.Frag) : Sp := fun vs H Q _ => ∃ (p q l : Addr) (xs : List V), vs = [.ref p, .ref l] ∧ Hd p q H ∧ H l = some (.lst xs) ∧ l ≠ p ∧ l ≠ q ∧ xs ≠ [] ∧ xs.length < 1000000 ∧ ∀ (H' : Hp) (v : V), Hd p q H' → Keep p q H H' → v ∈ xs → Q v H'
end
theorem same_put {H H' : Hp} {L : Addr} {o : HO} (h : Same H H') (n : H L = none) : Same H (upd H' L o) := fun b x e => by
  rw [upd_ne (ne_of_none e n)]
  exact h b x e
theorem _root_.HD.Hd.same {p q : Addr} {H H' : Hp} (h : Hd p q H) (s : Same H H') : Hd p q H' := by
  obtain ⟨cs, st, h1, h2, h3⟩ := h
  exact ⟨cs, st, s _ _ h1, s _ _ h2, h3⟩
theorem snocL {α : Type} (cs : List α) (h : cs ≠ []) : ∃ c0 c, cs = c0 ++ [c] := ⟨cs.dropLast, cs.getLast h, (List.dropLast_concat_getLast h).symm⟩
theorem fmod_lt (a : Int) {m : Int} (h : 0 < m) : 0 ≤ a.fmod m ∧ a.fmod m < m := ⟨Int.fmod_nonneg_of_pos a h, Int.fmod_lt_of_pos a h⟩
end HD
namespace K2
open PySem PySem.Spec PyProof.Rows L2 VG FR HD
theorem cut_ints (ns : List Int) (lo hi : Option Int) : ∃ ms : List Int, cutV (ns.map V.int) lo hi = ms.map V.int ∧ ms.length ≤ ns.length := by
  refine ⟨(ns.drop (HT.sIx (ns.map V.int).length 0 lo)).take (HT.sIx (ns.map V.int).length (ns.map V.int).length hi - HT.sIx (ns.map V.int).length 0 lo), ?_, ?_⟩
  · unfold cutV
    rw [List.map_take, List.map_drop]
  · rw [List.length_take, List.length_drop]
    omega
end K2
namespace FR
open PySem PySem.Spec PyProof.Rows L2 VG HD
theorem seqTK {K : PySem.W.Frag} {H H' : Hp} {p q t : Addr} {xs : List V} (hd : Hd p q H) (kp : Keep p q H H') (h : SqT K H t xs) : SqT K H' t xs := by
  rcases h with (h | ⟨o, h⟩) | h
  · have n := hd.neOf h (fun ys z => by cases z)
    exact .inl (.inl (kp _ _ n.1 n.2 h))
  · have n := hd.neOf h (fun ys z => by cases z)
    exact .inl (.inr ⟨o, kp _ _ n.1 n.2 h⟩)
  · exact .inr h
end FR
namespace VG
open PySem PySem.Spec PyProof.Rows L2
structure ClR (P : Program) (w : World) (K : PySem.W.Frag) (mg : Str → Option Value) (base : Heap) (k : Nat) (x : Str) (ks : List Str) (sp : Sp) : Prop where
  ex : ∃ (f : Addr) (fd : FuncData) (ps : List Str), FnOk P w K mg base CX0 k f fd ps sp ∧ mg x = some (.ref f) ∧ PySem.W.keepIn K (.ref f) = true ∧ KBinds K fd ps ks (fun us ws => us ++ ws.reverse) (fun vs zs => vs ++ zs.reverse)
section
variable {X : Cx} {k j : Nat} {x : Str} {sp : Sp} {p pos : Pos} {kws : List Keyword} {ks : List Str} {tk : TA}
def tCallKR (sp : Sp) (tk : TA) : TE := fun σ H Q => tk σ H fun zs H2 => sp zs.reverse H2 Q E0
theorem pe_clr (c : ClR X.prog X.w X.K X.mg X.base k x ks sp) (hr : Room j X.A) (hk : k ≤ j) (hg : Gl X x) (hkw : PK X kws tk)
    (h1 : (backToKw pos (keywordEach kws X.env)).all (·.1.isSome) = true := by rfl) (h2 : (backToKw pos (keywordEach kws X.env)).filterMap (·.1) = ks := by rfl)
    (h3 : (x == ("__debug__" : Str)) = false := by decide) (h4 : ((backTo pos (starEach [] X.env)).any (·.1) || (backToKw pos (keywordEach kws X.env)).any (·.1.isNone)) = false := by rfl) :
    PE X (.Call (.Name x p) [] kws pos) (tCallKR sp tk) := by
  obtain ⟨f, fd, ps, F, m, kp, b⟩ := c.ex
  constructor
  intro pins s σ H Q I h
  apply wpAny_Call_Name_kw
  apply ld_glob I hg m _ h3
  apply PySem.W.callWith_KW0 (h₀ := X.base) I.ok.mod.kin kp h1 _ h4
  apply thn (hkw.run pos pins s σ H _ I h)
  intro ws s2 hh
  obtain ⟨zs, H2, I2, rz, q2⟩ := hh
  refine And.intro I2.kIn ?_
  rw [h2]
  exact run_fnk (us := []) (vs := []) F (hr.mono hk) b pass0 I2 .nil rz q2
end
theorem vals_rev : ∀ {zs : List V} {ws : List Value}, Vals zs ws → Vals zs.reverse ws.reverse
  | _, _, .nil => .nil
  | _, _, .cons r rr => by
    rw [List.reverse_cons, List.reverse_cons]
    exact (vals_rev rr).append (.cons r .nil)
section
variable {P : Program} {w : World} {K : PySem.W.Frag} {mg : Str → Option Value} {base : Heap}
theorem kbinds_rev {x qual p1 p2 : Str} {st : Stmt} {f : Addr} {fd : FuncData} (F : Fun K x qual st f fd)
    (h0 : ∀ (kV doc pm : Value) (an : Option Addr) (cdv ct u v : Value), bindArgs (PySem.W.fnOf x qual (defArgs st) (defBody st) (defScope st) .none kV doc pm an cdv ct) ⟨[u, v], []⟩ = pure [(p1, u), (p2, v)])
    (h2 : ∀ (kV doc pm : Value) (an : Option Addr) (cdv ct u v : Value), bindArgs (PySem.W.fnOf x qual (defArgs st) (defBody st) (defScope st) .none kV doc pm an cdv ct) ⟨[], [(p2, v), (p1, u)]⟩ = pure [(p1, u), (p2, v)])
    (h1 : ∀ (kV doc pm : Value) (an : Option Addr) (cdv ct u v : Value), bindArgs (PySem.W.fnOf x qual (defArgs st) (defBody st) (defScope st) .none kV doc pm an cdv ct) ⟨[u], [(p2, v)]⟩ = pure [(p1, u), (p2, v)]) :
    KBinds K fd [p1, p2] [p2, p1] (fun us ws => us ++ ws.reverse) (fun vs zs => vs ++ zs.reverse) := by
  obtain ⟨oc, od, kV, doc, pm, an, cdv, ct, osl, rfl, lk, hcd⟩ := F.ex
  constructor
  · intro s us ws _ hl
    match us, ws, hl with
    | [], [v, u], _ => exact .of_eq (h2 kV doc pm an cdv ct u v)
    | [u], [v], _ => exact .of_eq (h1 kV doc pm an cdv ct u v)
    | [u, v], [], _ => exact .of_eq (h0 kV doc pm an cdv ct u v)
    | [], [], hl => cases hl
    | [], [_], hl => cases hl
    | [], _ :: _ :: _ :: _, hl => simp at hl
    | [_], [], hl => cases hl
    | [_], _ :: _ :: _, hl => simp at hl
    | [_, _], _ :: _, hl => simp at hl
    | _ :: _ :: _ :: _, ws, hl => simp at hl
  · intro vs us zs ws r1 r2
    exact r1.append (vals_rev r2)
end
end VG
namespace M2
end M2
namespace FR
open PySem PySem.Spec PyProof.Rows L2 VG HD
def dQ (p : Q2) : PyData := .tuple [.int p.1, .int p.2]
theorem dpQ {K : PySem.W.Frag} {H : Hp} {t : Addr} {p : Q2} (h : SqT K H t (pV p)) : Dp K H (.ref t) (dQ p) := .tup h (.cons (.int _) (.cons (.int _) .nil))
theorem sqt {K : PySem.W.Frag} {H : Hp} {t : Addr} {xs : List V} (h : H t = some (.tup xs)) : SqT K H t xs := .inl (.inl h)
end FR
namespace FR
open PySem PySem.Spec PyProof.Rows L2 VG HD
def spRight : Sp := fun vs H Q _ => ∃ p q : Addr, vs = [.ref p] ∧ Hd p q H ∧ ∀ H', Hd p q H' → Keep p q H H' → Q (.bl true) H'
/-- the sizes that the law draws -/
def Sm (p : Q2) : Prop := p.1.natAbs ≤ 2000000 ∧ p.2.natAbs ≤ 2000000
theorem Sm.bt {p : Q2} (h : Sm p) {n : Nat} (hn : 21 ≤ n := by decide) : Bt n p := by
  have : (2 : Nat) ^ 21 = 2097152 := by decide
  exact (show Bt 21 p from ⟨by have := h.1; omega, by have := h.2; omega⟩).mono hn
end FR
namespace FR
open PySem PySem.Spec PyProof.Rows L2 VG HD
theorem ite_eq {c : Bool} (b : Bool) {A B : Prop} (e : c = b) (h : if b = true then A else B) : if c = true then A else B := by
  rw [e]
  exact h
end FR
namespace VG
open PySem PySem.Spec PyProof.Rows L2
def rIsX (K : PySem.W.Frag) (a : Addr) (cls : Value) (d : Option Addr) : List V → Hp → VK → Prop := fun xs H Q =>
  ∃ (D dd : Addr) (fs : List (Str × V)) (c : V) (cv : Value) (b : Bool), cls = .ref D ∧ d = some dd ∧ H dd = some (.xd fs) ∧ ExcC K D ∧ xs = [.ref a, c] ∧ (∀ u, RelV c u → u = cv) ∧ PySem.W.kitOne K (.ref D) cv = some b ∧ Q (.bl b) H
theorem call_isX {X : Cx} {a : Addr} {oe : Obj} {cls : Value} {d : Option Addr} {pn : List (Addr × Obj)} (hz : Zc cls d oe) (hf : ∃ vs, oe.data = .fields vs) : CallR (X.suite a ((a, oe) :: pn)) (.builtin "isinstance") (rIsX X.K a cls d) := by
  intro pins s σ H xs us Q I r h
  obtain ⟨D, dd, fs, c, cv, b, rfl, rfl, ed, C, rfl, hcv, e, q⟩ := h
  cases r with
  | cons rx rr =>
    cases rr with
    | cons rt rr =>
      cases rr
      cases rx
      have ec := hcv _ rt
      subst ec
      obtain ⟨ha, _⟩ := I.pin (a, oe) (List.mem_append.mpr (.inl List.mem_cons_self))
      obtain ⟨vs, hd⟩ := hf
      have hx : ObjOk X.prog X.w H s.heap dd (.xd fs) := I.hok dd _ ed
      obtain ⟨mA, hns, hr⟩ := hx
      obtain ⟨od, ho, hl⟩ := lookIn_ns hns
      have J : PySem.W.InstAt s.heap a oe D (some od) := ⟨ha, hz.1, by unfold PySem.W.notCls; rw [hd] <;> rfl, by rw [hz.2]; exact ho⟩
      have hc : (PySem.W.clsIn X.K D).isSome = true := by
        obtain ⟨cd, hc, _⟩ := PySem.W.any_some C.hd
        rw [hc]
        rfl
      exact PySem.W.kia_one (PySem.W.kitx_exc hc C.hg C.hk C.hs C.ha C.hn C.ht C.hm) I.kIn J e (fun z => nomatch z) fun tk => ⟨.bl b, H, I.kept (t' := tk) fun _ _ z => z, rfl, q⟩
/-- a call, in a try, of a def that may let an own error out -/
structure ClX (P : Program) (w : World) (K : PySem.W.Frag) (mg : Str → Option Value) (base : Heap) (k : Nat) (x : Str) (sp : Sp) : Prop where
  ex : ∃ (f : Addr) (fd : FuncData) (ps : List Str), FnOk P w K mg base (L2.CX P w) k f fd ps sp ∧ mg x = some (.ref f) ∧ PySem.W.keepIn K (.ref f) = true ∧ Binds K fd ps []
section
variable {X : Cx} {k j : Nat} {x : Str} {sp : Sp} {p pos : Pos} {e : Expr} {es : List Expr} {t : TA} {W : WX}
theorem pe_clx (c : ClX X.prog X.w X.K X.mg X.base k x sp) (hr : Room j X.A) (hk : k ≤ j) (tk : Takes X W) (hg : Gl X x) (ha : PA X (e :: es) t)
    (h1 : (x == ("__debug__" : Str)) = false := by decide) (h2 : starEach (e :: es) X.env = (false, eval e X.env) :: starEach es X.env := by rfl)
    (h3 : (backTo pos (starEach es X.env)).any (·.1) = false := by rfl) : PE X (.Call (.Name x p) (e :: es) [] pos) (tCallS sp (WE W) t) :=
  let ⟨_, _, _, F, m, kp, b⟩ := c.ex
  pe_callS F (hr.mono hk) hg m kp b (fun σ => passAt tk σ) ha h1 h2 h3
end
end VG
namespace FR
open PySem PySem.Spec PyProof.Rows L2 VG HD
end FR
namespace VG
open PySem PySem.Spec PyProof.Rows L2
end VG
namespace FR
/-- each q is t over B -/
def Ov (B : Int) : List Q2 → List Int → Prop
  | [], [] => True
  | q :: qs, t :: ts => (M2.Low q.1 q.2 ∧ q.1 * B = t * q.2) ∧ Ov B qs ts
  | _, _ => False
open PySem PySem.Spec PyProof.Rows L2 VG HD
end FR
namespace FR
open PySem PySem.Spec PyProof.Rows L2 VG HD
theorem Frs.keep {K : PySem.W.Frag} {H H' : Hp} {p q : Addr} (hd : Hd p q H) (kp : Keep p q H H') : ∀ {vs : List V} {ps : List Q2}, Frs K H vs ps → Frs K H' vs ps
  | [], [], _ => trivial
  | _ :: _, _ :: _, ⟨⟨t, e1, h⟩, r⟩ => ⟨⟨t, e1, seqTK hd kp h⟩, Frs.keep hd kp r⟩
  | [], _ :: _, h => h.elim
  | _ :: _, [], h => h.elim
theorem hd_put {p q D : Addr} {H : Hp} {o : HO} (h : Hd p q H) (n1 : D ≠ p) (n2 : D ≠ q) : Hd p q (L2.upd H D o) := by
  obtain ⟨cs, st, h1, h2, h3⟩ := h
  exact ⟨cs, st, by rw [upd_ne n1.symm]; exact h1, by rw [upd_ne n2.symm]; exact h2, h3⟩
theorem dpAll_ps {K : PySem.W.Frag} {H : Hp} : ∀ {vs : List V} {ps : List Q2}, Frs K H vs ps → DpAll K H vs (ps.map dQ)
  | [], [], _ => .nil
  | _ :: _, _ :: _, ⟨⟨t, e1, h⟩, r⟩ => by
    subst e1
    exact .cons (dpQ h) (dpAll_ps r)
  | [], _ :: _, h => h.elim
  | _ :: _, [], h => h.elim
end FR
namespace VG
open PySem PySem.Spec PyProof.Rows L2 HT
end VG
namespace FR
open PySem PySem.Spec PyProof.Rows L2 VG HD
theorem tyX_mono {K : PySem.W.Frag} {H H' : Hp} (e : Same H H') {v : V} {ty : String} (h : TyX K H v (.type ty)) : TyX K H' v (.type ty) := by
  cases h with
  | base b =>
    cases b with
    | non => exact .base .non
    | bl x => exact .base (.bl x)
    | int i => exact .base (.int i)
    | str x => exact .base (.str x)
    | flt x => exact .base (.flt x)
    | lst h => exact .base (.lst (e _ _ h))
    | frz h => exact .base (.frz (e _ _ h))
    | tup h => exact .base (.tup (e _ _ h))
    | dK h => exact .base (.dK (e _ _ h))
    | dT h => exact .base (.dT (e _ _ h))
  | byt b => exact .byt b
  | set h => exact .set (e _ _ h)
  | kList a b => exact .kList a b
  | kTuple a b => exact .kTuple a b
  | kDict a b => exact .kDict a b
  | fTuple h => exact .fTuple (e _ _ h)
  | fDict h => exact .fDict (e _ _ h)
theorem part_mono {K : PySem.W.Frag} {H H' : Hp} (e : Same H H') {v : V} {o : Option Int} (h : Part K H v o) : Part K H' v o := by
  rcases h with h | ⟨h1, ty, b1, b2, t, h2⟩
  · exact .inl h
  · exact .inr ⟨h1, ty, b1, b2, tyX_mono e t, h2⟩
/-- what is_fraction says of a value -/
def OddV (K : PySem.W.Frag) (H : Hp) (v : V) (r : Bool) : Prop :=
  (∃ ty : String, TyX K H v (.type ty) ∧ kitB ty "tuple" = some false ∧ r = false) ∨ (∃ t xs, v = .ref t ∧ SqT K H t xs ∧ xs.length ≠ 2 ∧ r = false) ∨
  ∃ t x y o1 o2, v = .ref t ∧ SqT K H t [x, y] ∧ Part K H x o1 ∧ Part K H y o2 ∧ r = okFr o1 o2 ∧ ∀ b, o2 = some b → b.natAbs < 2 ^ 900
theorem OddV.mono {K : PySem.W.Frag} {H H' : Hp} (e : Same H H') {v : V} {r : Bool} (h : OddV K H v r) : OddV K H' v r := by
  rcases h with ⟨ty, a, b⟩ | ⟨t, xs, a, b, c⟩ | ⟨t, x, y, o1, o2, a, b, c, d, f⟩
  · exact .inl ⟨ty, tyX_mono e a, b⟩
  · exact .inr (.inl ⟨t, xs, a, seqT e b, c⟩)
  · exact .inr (.inr ⟨t, x, y, o1, o2, a, seqT e b, part_mono e c, part_mono e d, f⟩)
def frz (p q : Addr) (H : Hp) : Hp := fun b => if b = p ∨ b = q then none else H b
theorem frz_at {p q t : Addr} {H : Hp} {o : HO} (h : H t = some o) (n : t ≠ p ∧ t ≠ q) : frz p q H t = some o := by
  unfold frz
  rw [if_neg (fun z => z.elim n.1 n.2)]
  exact h
theorem frz_keep {p q : Addr} {H H' : Hp} (h : Keep p q H H') : Same (frz p q H) H' := fun b o e => by
  unfold frz at e
  by_cases z : b = p ∨ b = q
  · rw [if_pos z] at e
    cases e
  · rw [if_neg z] at e
    exact h b o (fun y => z (.inl y)) (fun y => z (.inr y)) e
theorem kitN1 : kitB "NoneType" "int" = some false := by decide +kernel
theorem kitN2 : kitB "NoneType" "bool" = some false := by decide +kernel
theorem kitB1 : kitB "bool" "int" = some true := by decide +kernel
theorem kitB2 : kitB "bool" "bool" = some true := by decide +kernel
theorem kitS1 : kitB "str" "int" = some false := by decide +kernel
theorem kitS2 : kitB "str" "bool" = some false := by decide +kernel
theorem kitT1 : kitB "tuple" "int" = some false := by decide +kernel
theorem kitT2 : kitB "tuple" "bool" = some false := by decide +kernel
theorem all_cons {P : V → Prop} {x : V} {xs : List V} (h : P x) (t : ∀ v ∈ xs, P v) : ∀ v ∈ x :: xs, P v := fun v hv => by
  rcases List.mem_cons.mp hv with z | z
  · rw [z]; exact h
  · exact t v z
end FR
namespace FR
open PySem PySem.Spec PyProof.Rows L2 VG HD
end FR
namespace CK
open PySem PySem.Spec PyProof.Rows L2 VG FR
def spNum (K : PySem.W.Frag) : Sp := fun vs H Q _ => ∃ a : Int, vs = [.int a] ∧ Q (.bl (decide (0 ≤ a))) H
def spBelow : Sp := fun vs H Q _ => ∃ a n : Int, vs = [.int a, .int n] ∧ Q (.bl (decide (0 ≤ a ∧ a < n))) H
/-- numbers below, all of them right -/
def spNumsBelow (K : PySem.W.Frag) : Sp := fun vs H Q _ => ∃ (t : Addr) (cs : List Int) (n : Int), vs = [.ref t, .int n] ∧ SqT K H t (cs.map V.int) ∧ cs.length ≤ 1000 ∧ (∀ c ∈ cs, 0 ≤ c ∧ c < n) ∧ ∀ H', Same H H' → Q (.bl true) H'
def Asc : List Int → Prop
  | a :: b :: r => a < b ∧ Asc (b :: r)
  | _ => True
def LtV (x y : V) : Prop := (∃ a b : Int, x = .int a ∧ y = .int b ∧ a < b) ∨ ∃ a b : Str, x = .str a ∧ y = .str b ∧ a.cps.toList < b.cps.toList
def AscV (xs : List V) : Prop := ∀ (i : Nat) (x y : V), xs[i]? = some x → xs[i + 1]? = some y → LtV x y
def spAsc (K : PySem.W.Frag) : Sp := fun vs H Q _ => ∃ (t : Addr) (xs : List V), vs = [.ref t] ∧ SqT K H t xs ∧ xs.length ≤ 1000 ∧ AscV xs ∧ ∀ H', Same H H' → Q (.bl true) H'
def spLot (K : PySem.W.Frag) : Sp := fun vs H Q _ => ∃ (t : Addr) (cs : List Int) (n : Int), vs = [.ref t, .int n] ∧ SqT K H t (cs.map V.int) ∧ cs.length ≤ 1000 ∧ (∀ c ∈ cs, 0 ≤ c ∧ c < n) ∧ Asc cs ∧ ∀ H', Same H H' → Q (.bl true) H'
theorem Asc.get : ∀ {cs : List Int} {i : Nat} {a b : Int}, Asc cs → cs[i]? = some a → cs[i + 1]? = some b → a < b
  | [], _, _, _, _, h, _ => by simp at h
  | [_], 0, _, _, _, _, h => by simp at h
  | [_], _ + 1, _, _, _, h, _ => by simp at h
  | x :: y :: r, 0, a, b, h, ha, hb => by
    have e1 : x = a := Option.some.inj ha
    have e2 : y = b := Option.some.inj hb
    subst e1 e2
    exact h.1
  | x :: y :: r, i + 1, a, b, h, ha, hb => Asc.get (cs := y :: r) (i := i) h.2 ha hb
theorem asc_ints {cs : List Int} (h : Asc cs) : AscV (cs.map V.int) := by
  intro i x y hx hy
  rw [List.getElem?_map] at hx hy
  obtain ⟨a, ea, rfl⟩ := Option.map_eq_some_iff.mp hx
  obtain ⟨b, eb, rfl⟩ := Option.map_eq_some_iff.mp hy
  exact .inl ⟨a, b, rfl, rfl, h.get ea eb⟩
theorem cut1 {xs : List V} : cutV xs (some 1) none = xs.drop 1 := by
  unfold cutV
  have e : HT.sIx xs.length 0 (some 1) = min 1 xs.length := HT.sIx_nat xs.length 0 1
  rw [e, HT.sIx_none]
  cases xs with
  | nil => rfl
  | cons x xs =>
    have : min 1 (x :: xs).length = 1 := by rw [List.length_cons]; omega
    rw [this]
    exact List.take_of_length_le (by rw [List.length_drop]; omega)
end CK
namespace VG
open PySem PySem.Spec PyProof.Rows L2
theorem meets_enum1 {v : Value} {o : Obj} {H : Heap → Prop} (B : Begins v o H) :
    Meets (Builtin.«enumerate.__new__» ⟨[.type "enumerate", v], []⟩) (fun _ R s => H s.heap ∧
      R (.ok (.ret (.ref (s.heap.push o).objs.size))) { s with heap := (s.heap.push o).push { cls := .type "enumerate", data := .fields #[.none, .bool false, .ref s.heap.objs.size, rawInt 0, .none, .none] } }) :=
  .of_wp fun prog w A R s h => by
    obtain ⟨hp, g, d, tk, os⟩ := s
    obtain ⟨h1, h⟩ := h
    have hsub := sub_enumerate
    have it1 : ∀ {A' : Around} {E : Value → Shared → Prop} {Q : Value → Shared → Prop}, Q (.ref hp.objs.size) ⟨hp.push o, g, d, tk, os⟩ → wpAny (model prog w) A' (pyIter v) Q E ⟨hp, g, d, tk, os⟩ :=
      fun q => B.iter prog w _ _ ⟨hp, g, d, tk, os⟩ _ h1 q
    wp_walk using it1
    refine wpAny_stack_any fun st => wpAny_pure ?_
    split
    · rename_i c _ _ _ _ _
      cases (c == Value.type "enumerate")
      · wp_walk using it1
        exact ⟨_, rfl, h⟩
      · wp_walk using it1
        exact ⟨_, rfl, h⟩
    · wp_walk using it1
      exact ⟨_, rfl, h⟩
section
variable {prog : Program} {w : World} {A : Around} {E : Value → Shared → Prop} {s : Shared}
theorem enum1 {v : Value} {o : Obj} {H : Heap → Prop} {Q : Value → Shared → Prop} (B : Begins v o H) (h1 : H s.heap)
    (h : ∀ h', IsEnum h' (s.heap.objs.size + 1) s.heap.objs.size 0 .none → h'.get? s.heap.objs.size = some o → (∀ b o, s.heap.get? b = some o → h'.get? b = some o) → Q (.ref (s.heap.objs.size + 1)) { s with heap := h' }) :
    wpAny (model prog w) A (call (.type "enumerate") [v]) Q E s := by
  refine callType_new F.called_enumerate (by decide) (F.typeCall_enumerate_1 _) (F.newCall_enumerate_1 _) (fun obj => F.args_object_init_2 obj _) F.entry_enumerate_new (meets_enum1 B) ⟨h1, ?_⟩
  have hz : (s.heap.push o).objs.size = s.heap.objs.size + 1 := Heap.size_push ..
  show _ ∧ _
  rw [hz]
  have he : IsEnum ((s.heap.push o).push { cls := .type "enumerate", data := .fields #[.none, .bool false, .ref s.heap.objs.size, rawInt 0, .none, .none] }) (s.heap.objs.size + 1) s.heap.objs.size 0 .none := by
    have q := Heap.get?_push_size (s.heap.push o) (o := { cls := .type "enumerate", data := .fields #[.none, .bool false, .ref s.heap.objs.size, rawInt 0, .none, .none] }) rfl
    rw [hz] at q
    exact q
  exact ⟨⟨_, he, rfl⟩, h _ he (Heap.get?_push_of_some _ (Heap.get?_push_size _ B.free)) fun b o x => Heap.get?_push_of_some _ (Heap.get?_push_of_some _ x)⟩
end
/-- the tuple at a, each item in a new pair behind its index -/
def IteT (K : PySem.W.Frag) (a : Addr) : It :=
  ⟨fun i H => ∃ (xs : List V) (x : V), SqT K H a xs ∧ xs[i]? = some x, fun i H v H' => ∃ T x, v = .ref T ∧ H T = none ∧ H' = upd H T (.tup [.int (i : Nat), x]) ∧ ∀ xs, SqT K H a xs → xs[i]? = some x, fun i H => ∃ xs : List V, SqT K H a xs ∧ xs.length ≤ i⟩
theorem turn_enumT {P : Program} {w : World} {K : PySem.W.Frag} {elts : List Expr} {kk : Nat} {tpos : Pos} (a e it : Addr) :
    Turn P w K (.Tuple elts kk tpos) (IteT K a) [e, it] e (fun i h => (∃ old, IsEnum h e it ((i : Nat) : Int) old) ∧ h.IsTupleIter it a i ∧ e ≠ it ∧ a ≠ it ∧ e ≠ a) where
  mem := by simp
  obj := fun i h st b hb => by
    obtain ⟨⟨old, he⟩, ⟨o, ho, hc, hd⟩, _⟩ := st
    have e' : b = e ∨ b = it := by simpa using hb
    rcases e' with z | z
    · subst z
      exact ⟨_, he, fun v q => nomatch q⟩
    · subst z
      exact ⟨o, ho, fun v q => by rw [hd] at q; cases q⟩
  keep := fun i h h' st k => let ⟨⟨old, he⟩, hi, r⟩ := st; ⟨⟨old, k e (by simp) _ he⟩, hi.at fun o q => k it (by simp) o q, r⟩
  item := by
    intro X hP hw hK hc i pins s σ H E I hf st hg
    subst hP hw hK
    obtain ⟨⟨old, he⟩, hit, hne, hai, hea⟩ := st
    obtain ⟨xs, x, hq, hx⟩ := hg
    obtain ⟨its, rv, p, hz⟩ := I.tuple hq
    obtain ⟨u, hu, ru⟩ := rv.get hx
    have hel : e < s.heap.objs.size := Heap.lt_size he
    have hil : it < s.heap.objs.size := by obtain ⟨_, q, _⟩ := hit; exact Heap.lt_size q
    have hd := I.ok.hd hc
    have hlt : i < its.toArray.size := by
      have := (List.getElem?_eq_some_iff.mp hu).1
      simpa using this
    have st0 : s.heap.IsTupleIter it a i ∧ s.heap.IsTuple a its.toArray := ⟨hit, p⟩
    have nin : e ∉ [it, a] := fun z => by
      rcases List.mem_cons.mp z with z | z
      · exact hne z
      · exact hea (List.mem_singleton.mp z)
    refine wpAny_pyNext_enum_itemD (fp := [it, a]) (n := its.toArray.size) (P := fun i v => its.toArray[i]? = some v) (St := fun i h => h.IsTupleIter it a i ∧ h.IsTuple a its.toArray) (Draws.tuple (A := X.A.in1) (show X.A.in1.handled = none from hd) it a hai its.toArray) he st0 hlt hne nin fun u' h' tk hP' ho st' hT hsz hk => ?_
    have eu : u' = u := by
      have h1 : its.toArray[i]? = some u' := hP'
      have h2 : its.toArray[i]? = some u := by simpa using hu
      rw [h1] at h2
      exact Option.some.inj h2
    subst eu
    refine ⟨_, rfl, wpAny_letOwnedTupleGo_enum (s := { s with heap := h', toks := tk + 1 }) ho fun h'' he' sb => ?_⟩
    have hT2 : h''.get? s.heap.objs.size = some { cls := .type "tuple", data := .seq #[.int i tk, u'] } := (sb.2 _ (Nat.ne_of_gt hel)).trans hT
    have new : ObjOk X.prog X.w (upd H s.heap.objs.size (.tup [.int (i : Nat), x])) h'' s.heap.objs.size (.tup [.int (i : Nat), x]) :=
      ⟨by show 2 ≤ sizeLine; decide, [.int i tk, u'], .cons ⟨_, rfl⟩ (.cons ru .nil), ⟨_, hT2, rfl, _, rfl⟩⟩
    have I1 : Inv X pins σ (upd H s.heap.objs.size (.tup [.int (i : Nat), x])) { s with heap := h'', toks := tk + 1 } :=
      I.turnedNew (ch := [e, it]) (fun b ob hb q => (sb.2 b (fun z => hb (by simp [z]))).trans (hk b ob (fun z => hb (by simp [z])) (fun z => hb (by simp [z])) q)) hf (Nat.le_refl _) new
    refine ⟨.ref s.heap.objs.size, _, I1, rfl, ⟨_, x, rfl, I.hok.fresh (Nat.le_refl _), rfl, fun ys hy => by rw [I.tuple_inj hy hq]; exact hx⟩, ⟨⟨u', ?_⟩, st'.1.at fun o q => (sb.2 it (Ne.symm hne)).trans q, hne, hai, hea⟩, fun b hb => ?_⟩
    · have e1 : ((i + 1 : Nat) : Int) = (i : Int) + 1 := by omega
      rw [e1]
      exact he'
    · have hb' : b < s.heap.objs.size := by
        have e' : b = e ∨ b = it := by simpa using hb
        rcases e' with z | z
        · rw [z]; exact hel
        · rw [z]; exact hil
      rw [upd_ne (Nat.ne_of_lt hb')]
      exact (hf b hb).1
  done := by
    intro X hP hw hK hc i pins s σ H E I hf st hg
    subst hP hw hK
    obtain ⟨⟨old, he⟩, hit, hne, hai, hea⟩ := st
    obtain ⟨xs, hq, hx⟩ := hg
    obtain ⟨its, rv, p, hz⟩ := I.tuple hq
    obtain ⟨f0, f1, f2, f3, f4, f5⟩ := hf it (by simp)
    have hl := rv.length
    have hT : s.TypeIs (.ref e) "enumerate" := ⟨_, he, rfl⟩
    unfold pyNext
    refine wpAny_bind (wpAny_attempt (wpAny_callSpecial?_slot (name := Str.ofString "__next__") hT F.slot_enumerate_next (wpAny_call_entry F.slot_enumerate_next hT F.entry_enumerate_next ?_ (F.args_enumerate_next_1 _))))
    show wpAny _ _ (field (.ref e) 2 >>= _) _ _ _
    refine wpAny_bind (wpAny_field he rfl (x := .ref it) rfl ?_)
    refine wpAny_bind (wpAny_nextOf_tuple_end (I.ok.hd hc) hit p (by simp; omega) fun h' x' he' hx' => ?_)
    obtain ⟨o, ho, hc'⟩ := hx'
    refine wpAny_bind (wpAny_isInstance (T := "StopIteration") (b := true) ⟨o, ho, hc'⟩ isSubtype_stop ?_)
    exact wpAny_pure ⟨rfl, I.turned (t' := s.toks) (fun b o hb q => he' b o hb q) f0 f1 f3 f4 f5⟩
  self := fun A i s Q E st h => let ⟨⟨_, he⟩, _⟩ := st; wpAny_pyIter_enum he h
def iEnumT (K : PySem.W.Frag) (ta : TA) : TI := fun σ H R => ta σ H fun vs H1 => ∃ a xs, vs = [.ref a] ∧ SqT K H1 a xs ∧ R (IteT K a) H1
theorem pi_enumT {X : Cx} {e : Expr} {ta : TA} {p pos tpos : Pos} {elts : List Expr} {kk : Nat} (hg : Gl X "enumerate") (hm : X.mg "enumerate" = none) (ha : PA X [e] ta) (hs : starEach [e] X.env = [(false, eval e X.env)] := by rfl) :
    PI X (.Tuple elts kk tpos) (.Call (.Name "enumerate" p) [e] [] pos) (iEnumT X.K ta) := by
  refine ⟨fun pins s σ H R I h => ?_⟩
  refine Call_ (ld_blt I hg hm boot_enumerate (PyProof.Rows.callWith_type1 (thn (ha.run pos pins s σ H _ I h) fun us s1 ⟨vs, H1, I1, r1, q1⟩ => ?_) hs rfl))
  obtain ⟨a, xs, rfl, hq, q⟩ := q1
  cases r1 with
  | cons r rr =>
    cases rr
    cases r
    obtain ⟨its, rv, p', hz⟩ := I1.tuple hq
    have hal : a < s1.heap.objs.size := by obtain ⟨_, q, _⟩ := id p'; exact Heap.lt_size q
    refine enum1 (begins_tuple a its.toArray) p' fun h' he ho hk => wpAny_pyIter_enum he ?_
    have I2 : Inv X pins σ H1 { s1 with heap := h' } := I1.kept (t' := s1.toks) hk
    refine ⟨s1.heap.objs.size + 1, [s1.heap.objs.size + 1, s1.heap.objs.size], _, _, H1, rfl, I2, turn_enumT a (s1.heap.objs.size + 1) s1.heap.objs.size, ⟨⟨.none, he⟩, ⟨_, ho, rfl, rfl⟩, Nat.succ_ne_self _, Nat.ne_of_lt hal, Nat.ne_of_gt (Nat.lt_succ_of_lt hal)⟩, fun b hb => ?_, q⟩
    have hle : s1.heap.objs.size ≤ b := by
      have e' : b = s1.heap.objs.size + 1 ∨ b = s1.heap.objs.size := by simpa using hb
      rcases e' with z | z
      · rw [z]; exact Nat.le_add_right _ _
      · rw [z]; exact Nat.le_refl _
    exact I1.fpOk hle (I1.hok.fresh hle)
theorem walk_enumT {K : PySem.W.Frag} {a : Addr} {xs : List V} : Walk (IteT K a) xs.length (fun H => SqT K H a xs) (fun i H v H' => ∃ T x, v = .ref T ∧ H T = none ∧ H' = L2.upd H T (.tup [.int (i : Nat), x]) ∧ xs[i]? = some x) := by
  constructor
  · intro i H hi hG
    exact ⟨xs, xs[i], hG, List.getElem?_eq_getElem hi⟩
  · intro H hG
    exact ⟨xs, hG, Nat.le_refl _⟩
  · intro i H v H' hi hG hy
    obtain ⟨T, x, e1, e2, e3, e4⟩ := hy
    exact ⟨T, x, e1, e2, e3, e4 xs hG⟩
end VG
namespace CK
open PySem PySem.Spec PyProof.Rows L2 VG FR
/-- references to tuples of integers -/
def Tots (K : PySem.W.Frag) (H : Hp) : List V → List (List Int) → Prop
  | [], [] => True
  | v :: vs, c :: cs => (∃ t, v = .ref t ∧ SqT K H t (c.map V.int)) ∧ Tots K H vs cs
  | _, _ => False
theorem Tots.mono {K : PySem.W.Frag} {H H' : Hp} (e : Same H H') : ∀ {vs : List V} {cs : List (List Int)}, Tots K H vs cs → Tots K H' vs cs
  | [], [], _ => trivial
  | _ :: _, _ :: _, ⟨⟨t, e1, h⟩, r⟩ => ⟨⟨t, e1, seqT e h⟩, r.mono e⟩
  | [], _ :: _, h => h.elim
  | _ :: _, [], h => h.elim
theorem Tots.len {K : PySem.W.Frag} {H : Hp} : ∀ {vs : List V} {cs : List (List Int)}, Tots K H vs cs → vs.length = cs.length
  | [], [], _ => rfl
  | _ :: _, _ :: _, h => by rw [List.length_cons, List.length_cons, h.2.len]
  | [], _ :: _, h => h.elim
  | _ :: _, [], h => h.elim
theorem Tots.get {K : PySem.W.Frag} {H : Hp} : ∀ {vs : List V} {cs : List (List Int)} {i : Nat} {v : V}, Tots K H vs cs → vs[i]? = some v → ∃ t c, v = .ref t ∧ cs[i]? = some c ∧ SqT K H t (c.map V.int)
  | [], [], _, _, _, h => by simp at h
  | a :: _, c :: _, 0, v, h, e => by
    have e1 : a = v := Option.some.inj e
    subst e1
    obtain ⟨t, e2, q⟩ := h.1
    exact ⟨t, c, e2, rfl, q⟩
  | _ :: vs, _ :: cs, i + 1, v, h, e => h.2.get (i := i) e
  | [], _ :: _, _, _, h, _ => h.elim
  | _ :: _, [], _, _, h, _ => h.elim
/-- what the written part says of the class Table -/
structure TabC (K : PySem.W.Frag) (C : Addr) : Prop where
  c : Cls K C
  nk : NoAttr K C "kinds"
  nt : NoAttr K C "totals"
/-- a table: its names, its totals -/
def Tab (K : PySem.W.Frag) (C : Addr) (H : Hp) (a : Addr) (ks : List Str) (ts : List (List Int)) : Prop :=
  ∃ (dx k t : Addr) (xs : List V), H a = some (.ins C dx [((("kinds" : String) : Str), .ref k), ((("totals" : String) : Str), .ref t)]) ∧ SqT K H k (ks.map V.str) ∧ SqT K H t xs ∧ Tots K H xs ts
theorem Tab.mono {K : PySem.W.Frag} {C a : Addr} {H H' : Hp} {ks : List Str} {ts : List (List Int)} (e : Same H H') (h : Tab K C H a ks ts) : Tab K C H' a ks ts := by
  obtain ⟨dx, k, t, xs, h1, h2, h3, h4⟩ := h
  exact ⟨dx, k, t, xs, e _ _ h1, seqT e h2, seqT e h3, h4.mono e⟩
/-- the totals in which a kind lies -/
def twF (ts : List (List Int)) (kind : Int) (i : Nat) : List Int := ((List.range i).filter fun j => (ts.getD j []).contains kind).map fun j => ((j : Nat) : Int)
def totsWith (ts : List (List Int)) (kind : Int) : List Int := twF ts kind ts.length
theorem inV_ints (k : Int) : ∀ cs : List Int, inV (.int k) (cs.map V.int) = cs.contains k
  | [] => rfl
  | c :: cs => by
    have ih := inV_ints k cs
    unfold inV at ih ⊢
    rw [List.map_cons, List.any_cons, ih, List.contains_cons]
    congr 1
    show (c == k) = (k == c)
    rw [Bool.eq_iff_iff, beq_iff_eq, beq_iff_eq]
    exact ⟨Eq.symm, Eq.symm⟩
theorem flat_ints : ∀ cs : List Int, (cs.map V.int).all flatV = true
  | [] => rfl
  | c :: cs => by
    rw [List.map_cons, List.all_cons, flat_ints cs]
    rfl
end CK
namespace CK
open PySem PySem.Spec PyProof.Rows L2 VG FR
def LotOk (n : Int) (c : List Int) : Prop := c.length ≤ 1000 ∧ (∀ x ∈ c, 0 ≤ x ∧ x < n) ∧ Asc c
def spCheckTotals (K : PySem.W.Frag) : Sp := fun vs H Q _ => ∃ (t : Addr) (xs : List V) (ts : List (List Int)) (n : Int), vs = [.ref t, .int n] ∧ SqT K H t xs ∧ Tots K H xs ts ∧ ts.length ≤ 12 ∧ (∀ c ∈ ts, LotOk n c) ∧ ∀ H', Same H H' → Q .non H'
end CK
namespace CK
open PySem PySem.Spec PyProof.Rows L2 VG FR
abbrev cLETTERS : Str := "abcdefghijklmnopqrstuvwxyz"
theorem in_letters (c : Nat) : c ∈ cLETTERS.cps.toList ↔ 97 ≤ c ∧ c ≤ 122 := by
  have e : cLETTERS.cps.toList = (List.range 26).map (· + 97) := by decide +kernel
  rw [e, List.mem_map]
  constructor
  · rintro ⟨a, ha, rfl⟩
    have := List.mem_range.mp ha
    omega
  · intro h
    exact ⟨c - 97, List.mem_range.mpr (by omega), by omega⟩
def NameOk (z : Str) : Prop := 1 ≤ z.cps.size ∧ z.cps.size ≤ 6 ∧ ∀ c ∈ z.cps.toList, 97 ≤ c ∧ c ≤ 122
def spName : Sp := fun vs H Q _ => ∃ z : Str, vs = [.str z] ∧ NameOk z ∧ ∀ H', Same H H' → Q (.bl true) H'
def spNames (K : PySem.W.Frag) : Sp := fun vs H Q _ => ∃ (t : Addr) (ks : List Str), vs = [.ref t] ∧ SqT K H t (ks.map V.str) ∧ ks.length ≤ 1000 ∧ (∀ z ∈ ks, NameOk z) ∧ ∀ H', Same H H' → Q (.bl true) H'
def AscS (ks : List Str) : Prop := ∀ (i : Nat) (a b : Str), ks[i]? = some a → ks[i + 1]? = some b → a.cps.toList < b.cps.toList
theorem asc_strs {ks : List Str} (h : AscS ks) : AscV (ks.map V.str) := by
  intro i x y hx hy
  rw [List.getElem?_map] at hx hy
  obtain ⟨a, ea, rfl⟩ := Option.map_eq_some_iff.mp hx
  obtain ⟨b, eb, rfl⟩ := Option.map_eq_some_iff.mp hy
  exact .inr ⟨a, b, rfl, rfl, h i a b ea eb⟩
def KindsOk (ks : List Str) : Prop := 1 ≤ ks.length ∧ ks.length ≤ 12 ∧ (∀ z ∈ ks, NameOk z) ∧ AscS ks
def spCheckKinds (K : PySem.W.Frag) : Sp := fun vs H Q _ => ∃ (t : Addr) (ks : List Str), vs = [.ref t] ∧ SqT K H t (ks.map V.str) ∧ KindsOk ks ∧ ∀ H', Same H H' → Q .non H'
end CK
namespace CK
open PySem PySem.Spec PyProof.Rows L2 VG FR
/-- __init__ of a right table, at a new instance -/
def spInitT (K : PySem.W.Frag) (C : Addr) : Sp := fun vs H Q _ => ∃ (a dx k t : Addr) (ks : List Str) (xs : List V) (ts : List (List Int)), vs = [.ref a, .ref k, .ref t] ∧ H a = some (.ins C dx []) ∧ SqT K H k (ks.map V.str) ∧ KindsOk ks ∧ SqT K H t xs ∧ Tots K H xs ts ∧ ts.length ≤ 12 ∧
  (∀ c ∈ ts, LotOk ks.length c) ∧ ∀ H', (∀ b o, b ≠ a → H b = some o → H' b = some o) → H' a = some (.ins C dx [((("kinds" : String) : Str), .ref k), ((("totals" : String) : Str), .ref t)]) → Q .non H'
end CK
namespace CK
open PySem PySem.Spec PyProof.Rows L2 VG FR
/-- the numbers below i at which something holds -/
def pick (P : Nat → Bool) (i : Nat) : List Int := ((List.range i).filter P).map fun j => ((j : Nat) : Int)
theorem pick_yes {P : Nat → Bool} {i : Nat} (h : P i = true) : pick P (i + 1) = pick P i ++ [(i : Int)] := by
  unfold pick
  rw [List.range_succ, List.filter_append, List.map_append]
  have e2 : [i].filter P = [i] := by simp only [List.filter_cons, h, if_true, List.filter_nil]
  rw [e2]
  rfl
theorem pick_no {P : Nat → Bool} {i : Nat} (h : P i = false) : pick P (i + 1) = pick P i := by
  unfold pick
  rw [List.range_succ, List.filter_append, List.map_append]
  have e2 : [i].filter P = [] := by simp only [List.filter_cons, h, if_false, List.filter_nil, Bool.false_eq_true]
  rw [e2]
  exact List.append_nil _
def absI (a : Int) : Int := if a < 0 then -a else a
def agrP (one other : List Int) (j : Nat) : Bool := decide (absI (one.getD j 0) = 1) && decide (one.getD j 0 = other.getD j 0)
def agrL (cs ds : List Int) : List Int := pick (agrP cs ds) cs.length
def difL (cs ds : List Int) : List Int := (cs.zip ds).map fun x => x.1 - x.2
end CK
namespace VG
open PySem PySem.Spec PyProof.Rows L2
end VG
namespace VG
open PySem PySem.Spec PyProof.Rows L2
end VG
namespace CK
open PySem PySem.Spec PyProof.Rows L2 VG FR
def kI (c : List Int) : List L2.Key := c.map fun x => (Sum.inl x : L2.Key)
/-- the keys in the sequence in which they come about -/
def keysOf (f : Nat → List Int) : Nat → List (List Int)
  | 0 => []
  | n + 1 => if f n ∈ keysOf f n then keysOf f n else keysOf f n ++ [f n]
theorem keys_mem (f : Nat → List Int) : ∀ {n j : Nat}, j < n → f j ∈ keysOf f n
  | n + 1, j, h => by
    unfold keysOf
    by_cases e : f n ∈ keysOf f n
    · rw [if_pos e]
      rcases Nat.lt_or_ge j n with z | z
      · exact keys_mem f z
      · have : j = n := by omega
        subst this
        exact e
    · rw [if_neg e]
      rcases Nat.lt_or_ge j n with z | z
      · exact List.mem_append_left _ (keys_mem f z)
      · have : j = n := by omega
        subst this
        exact List.mem_append_right _ (List.mem_singleton.mpr rfl)
def memb (f : Nat → List Int) (c : List Int) (j : Nat) : Bool := decide (f j = c)
/-- the dict's entries -/
def mkKvs : List (List Int) → List Addr → List (List L2.Key × V)
  | c :: cs, l :: ls => (kI c, .ref l) :: mkKvs cs ls
  | _, _ => []
end CK
namespace CK
open PySem PySem.Spec PyProof.Rows L2 VG FR
def fT (ts : List (List Int)) (j : Nat) : List Int := totsWith ts j
/-- the groups in the heap, behind i kinds -/
structure Grp (H0 H : Hp) (D : Addr) (f : Nat → List Int) (i : Nat) (ls : List Addr) : Prop where
  d : H D = some (.dT (mkKvs (keysOf f i) ls))
  len : (keysOf f i).length = ls.length
  nd : ls.Nodup
  new : ∀ l ∈ ls, H0 l = none
  at_ : ∀ (j : Nat) (c : List Int) (l : Addr), (keysOf f i)[j]? = some c → ls[j]? = some l → H l = some (.lst ((pick (memb f c) i).map V.int))
theorem Grp.mono {H0 H H' : Hp} {D : Addr} {f : Nat → List Int} {i : Nat} {ls : List Addr} (g : Grp H0 H D f i ls) (e : Same H H') : Grp H0 H' D f i ls :=
  ⟨e _ _ g.d, g.len, g.nd, g.new, fun j c l h1 h2 => e _ _ (g.at_ j c l h1 h2)⟩
theorem pick_nil {P : Nat → Bool} {i : Nat} (h : ∀ j, j < i → P j = false) : pick P i = [] := by
  unfold pick
  have e : (List.range i).filter P = [] := List.filter_eq_nil_iff.mpr fun j hj => by
    rw [h j (List.mem_range.mp hj)]
    exact Bool.false_ne_true
  rw [e]
  rfl
theorem nodup_at {α : Type} : ∀ {l : List α} {i j : Nat} {x : α}, l.Nodup → l[i]? = some x → l[j]? = some x → i = j
  | [], _, _, _, _, h, _ => by simp at h
  | a :: l, 0, 0, _, _, _, _ => rfl
  | a :: l, 0, j + 1, x, n, h, k => by
    have e : a = x := Option.some.inj h
    subst e
    exact absurd (List.mem_of_getElem? (l := l) (i := j) k) (List.nodup_cons.mp n).1
  | a :: l, i + 1, 0, x, n, h, k => by
    have e : a = x := Option.some.inj k
    subst e
    exact absurd (List.mem_of_getElem? (l := l) (i := i) h) (List.nodup_cons.mp n).1
  | a :: l, i + 1, j + 1, x, n, h, k => by rw [nodup_at (l := l) (i := i) (j := j) (List.nodup_cons.mp n).2 h k]
/-- one more kind, of a new group -/
theorem Grp.fresh {H0 H : Hp} {D L : Addr} {f : Nat → List Int} {i : Nat} {ls : List Addr} (g : Grp H0 H D f i ls) (n : f i ∉ keysOf f i) (nL : H L = none) (n0 : H0 L = none) :
    Grp H0 (L2.upd (L2.upd (L2.upd H L (.lst [])) D (.dT (mkKvs (keysOf f i ++ [f i]) (ls ++ [L])))) L (.lst [V.int (i : Int)])) D f (i + 1) (ls ++ [L]) := by
  have ek : keysOf f (i + 1) = keysOf f i ++ [f i] := by
    show (if f i ∈ keysOf f i then keysOf f i else keysOf f i ++ [f i]) = _
    rw [if_neg n]
  have nDL : D ≠ L := ne_of_none g.d nL
  have there : ∀ l ∈ ls, l ≠ L ∧ l ≠ D := by
    intro l hl
    obtain ⟨j, ej⟩ := List.mem_iff_getElem?.mp hl
    have hj : j < (keysOf f i).length := by
      have := (List.getElem?_eq_some_iff.mp ej).1
      rw [g.len]
      exact this
    have h := g.at_ j _ l (List.getElem?_eq_getElem hj) ej
    exact ⟨ne_of_none h nL, ne_of h g.d (fun z => nomatch z)⟩
  refine ⟨?_, ?_, ?_, ?_, ?_⟩
  · rw [upd_ne nDL, upd_same, ek]
  · rw [ek, List.length_append, List.length_append, g.len]
    rfl
  · exact List.nodup_append.mpr ⟨g.nd, by simp, fun a ha b hb => by
      have : b = L := List.mem_singleton.mp hb
      subst this
      exact (there a ha).1⟩
  · intro l hl
    rcases List.mem_append.mp hl with z | z
    · exact g.new l z
    · have : l = L := List.mem_singleton.mp z
      subst this
      exact n0
  · intro j c l k1 k2
    rw [ek] at k1
    rcases Nat.lt_or_ge j ls.length with z | z
    · rw [List.getElem?_append_left (by rw [g.len]; exact z)] at k1
      rw [List.getElem?_append_left z] at k2
      have th := there l (List.mem_of_getElem? k2)
      have nc : f i ≠ c := fun q => n (q ▸ List.mem_of_getElem? k1)
      rw [upd_ne th.1, upd_ne th.2, upd_ne th.1, pick_no (by unfold memb; exact decide_eq_false nc)]
      exact g.at_ j c l k1 k2
    · rw [List.getElem?_append_right (by rw [g.len]; exact z)] at k1
      rw [List.getElem?_append_right z] at k2
      rw [g.len] at k1
      have j0 : j - ls.length = 0 := by
        have := (List.getElem?_eq_some_iff.mp k2).1
        rw [List.length_singleton] at this
        omega
      rw [j0] at k1 k2
      have e1 : f i = c := Option.some.inj k1
      have e2 : L = l := Option.some.inj k2
      subst e1 e2
      have p0 : pick (memb f (f i)) i = [] := pick_nil fun j hj => by
        unfold memb
        exact decide_eq_false (fun q => n (q ▸ keys_mem f hj))
      rw [upd_same, pick_yes (by unfold memb; exact decide_eq_true rfl), p0]
      rfl
end CK
namespace CK
open PySem PySem.Spec PyProof.Rows L2 VG FR
theorem Tots.snoc {K : PySem.W.Frag} {H : Hp} {t : Addr} {c : List Int} (hv : SqT K H t (c.map V.int)) : ∀ {vs : List V} {cs : List (List Int)}, Tots K H vs cs → Tots K H (vs ++ [.ref t]) (cs ++ [c])
  | [], [], _ => ⟨⟨t, rfl, hv⟩, trivial⟩
  | _ :: _, _ :: _, h => ⟨h.1, Tots.snoc hv h.2⟩
  | [], _ :: _, h => h.elim
  | _ :: _, [], h => h.elim
theorem Tots.upd {K : PySem.W.Frag} {H : Hp} {D : Addr} {ys zs : List V} (hD : H D = some (.lst ys)) : ∀ {vs : List V} {cs : List (List Int)}, Tots K H vs cs → Tots K (L2.upd H D (.lst zs)) vs cs
  | [], [], _ => trivial
  | _ :: _, _ :: _, ⟨⟨t, e1, h⟩, r⟩ => ⟨⟨t, e1, seqT_upd hD h⟩, Tots.upd hD r⟩
  | [], _ :: _, h => h.elim
  | _ :: _, [], h => h.elim
end CK
namespace CK
open PySem PySem.Spec PyProof.Rows L2 VG FR
theorem seqT_at {K : PySem.W.Frag} {H : Hp} {D t : Addr} {o o0 : HO} {xs : List V} (hD : H D = some o0) (h1 : ∀ ys, HO.tup ys ≠ o0) (h2 : ∀ od ys, HO.frz od (.tup ys) ≠ o0) (h : SqT K H t xs) : SqT K (L2.upd H D o) t xs := by
  rcases h with (h | ⟨o', h⟩) | h
  · exact .inl (.inl (by rw [upd_ne (ne_of h hD (h1 _))]; exact h))
  · exact .inl (.inr ⟨o', by rw [upd_ne (ne_of h hD (h2 _ _))]; exact h⟩)
  · exact .inr h
theorem Tots.at_ {K : PySem.W.Frag} {H : Hp} {D : Addr} {o o0 : HO} (hD : H D = some o0) (h1 : ∀ ys, HO.tup ys ≠ o0) (h2 : ∀ od ys, HO.frz od (.tup ys) ≠ o0) : ∀ {vs : List V} {cs : List (List Int)}, Tots K H vs cs → Tots K (L2.upd H D o) vs cs
  | [], [], _ => trivial
  | _ :: _, _ :: _, ⟨⟨t, e1, h⟩, r⟩ => ⟨⟨t, e1, seqT_at hD h1 h2 h⟩, Tots.at_ hD h1 h2 r⟩
  | [], _ :: _, h => h.elim
  | _ :: _, [], h => h.elim
end CK
namespace VG
open PySem PySem.Spec PyProof.Rows L2
end VG
namespace VG
open PySem PySem.Spec PyProof.Rows L2
end VG
namespace M14
open M2
def Eqv (a b : Int × Int) : Prop := a.1 * b.2 = b.1 * a.2
theorem eqv_mk {a b : Int × Int} (ha : Low a.1 a.2) (hb : 0 < b.2) (h : Eqv a b) : a = mk b.1 b.2 := by
  have e := mk_eq (a := b.1) (b := b.2) (by omega)
  have l := mk_low (a := b.1) (b := b.2) (by omega)
  have h : a.1 * b.2 = b.1 * a.2 := h
  have c : a.1 * (mk b.1 b.2).2 = (mk b.1 b.2).1 * a.2 := by
    refine Int.eq_of_mul_eq_mul_right (a := b.2) (by omega) ?_
    grind
  have q := low_eq ha l c
  exact Prod.ext q.1 q.2
def absV (a : Int) : Int := if a < 0 then -a else a
theorem small_eqv {a b : Int × Int} (ha : 0 < a.2) (hb : 0 < b.2) (h : Eqv a b) : absV a.1 < a.2 ↔ absV b.1 < b.2 := by
  have h : a.1 * b.2 = b.1 * a.2 := h
  have e : absV a.1 * b.2 = absV b.1 * a.2 := by
    unfold absV
    by_cases x : a.1 < 0
    · have y : b.1 < 0 := by
        have z : b.1 * a.2 < 0 := by rw [← h]; exact Int.mul_neg_of_neg_of_pos x hb
        rcases Int.lt_or_le b.1 0 with q | q
        · exact q
        · have := Int.mul_nonneg q (Int.le_of_lt ha)
          omega
      rw [if_pos x, if_pos y, Int.neg_mul, Int.neg_mul, h]
    · have y : ¬ b.1 < 0 := by
        intro y
        have z : a.1 * b.2 < 0 := by rw [h]; exact Int.mul_neg_of_neg_of_pos y ha
        have := Int.mul_nonneg (show 0 ≤ a.1 by omega) (Int.le_of_lt hb)
        omega
      rw [if_neg x, if_neg y, h]
  constructor
  · intro k
    refine Int.lt_of_mul_lt_mul_right (a := a.2) ?_ (Int.le_of_lt ha)
    rw [← e]
    have := Int.mul_lt_mul_of_pos_right k hb
    rw [Int.mul_comm b.2 a.2]
    exact this
  · intro k
    refine Int.lt_of_mul_lt_mul_right (a := b.2) ?_ (Int.le_of_lt hb)
    rw [e]
    have := Int.mul_lt_mul_of_pos_right k ha
    rw [Int.mul_comm a.2 b.2]
    exact this
end M14
namespace CK
open PySem PySem.Spec PyProof.Rows L2 VG FR
def BtL : List Nat → List Q2 → Prop
  | n :: ns, p :: ps => Bt n p ∧ BtL ns ps
  | [], [] => True
  | _, _ => False
def bits (e : Nat) (ns : List Nat) : Nat := (ns.map (· + e)).sum
theorem BtL.len : ∀ {ns : List Nat} {ps : List Q2}, BtL ns ps → ns.length = ps.length
  | [], [], _ => rfl
  | _ :: _, _ :: _, h => by rw [List.length_cons, List.length_cons, h.2.len]
  | [], _ :: _, h => h.elim
  | _ :: _, [], h => h.elim
theorem BtL.get : ∀ {ns : List Nat} {ps : List Q2} {i : Nat} {p : Q2}, BtL ns ps → ps[i]? = some p → ∃ n, ns[i]? = some n ∧ Bt n p
  | n :: _, p :: _, 0, q, h, e => by
    have e1 : p = q := Option.some.inj e
    subst e1
    exact ⟨n, rfl, h.1⟩
  | _ :: ns, _ :: ps, i + 1, q, h, e => h.2.get (i := i) e
  | [], [], _, _, _, e => by cases e
  | [], _ :: _, _, _, h, _ => h.elim
  | _ :: _, [], _, _, h, _ => h.elim
theorem bits_get {e : Nat} : ∀ {ns : List Nat} {i n : Nat}, ns[i]? = some n → n + e ≤ bits e ns
  | m :: ns, 0, n, h => by
    have : m = n := Option.some.inj h
    subst this
    show m + e ≤ (m + e) + (ns.map (· + e)).sum
    omega
  | m :: ns, i + 1, n, h => by
    have := bits_get (e := e) (ns := ns) (i := i) (n := n) h
    show n + e ≤ (m + e) + bits e ns
    omega
theorem bits_take {e : Nat} : ∀ (ns : List Nat) (i : Nat), bits e (ns.take i) ≤ bits e ns
  | [], _ => by simp [bits]
  | m :: ns, 0 => Nat.zero_le _
  | m :: ns, i + 1 => by
    have := bits_take (e := e) ns i
    show (m + e) + bits e (ns.take i) ≤ (m + e) + bits e ns
    omega
theorem BtL.take : ∀ {ns : List Nat} {ps : List Q2} (i : Nat), BtL ns ps → BtL (ns.take i) (ps.take i)
  | [], [], i, h => by
    rw [List.take_nil, List.take_nil]
    trivial
  | _ :: _, _ :: _, 0, h => trivial
  | _ :: _, _ :: _, i + 1, h => ⟨h.1, h.2.take i⟩
  | [], _ :: _, _, h => h.elim
  | _ :: _, [], _, h => h.elim
theorem sumL_ok : ∀ (ns : List Nat) (ps : List Q2) (a : Q2) (m : Nat), BtL ns ps → (∀ p ∈ ps, M2.Low p.1 p.2) → M2.Low a.1 a.2 → Bt m a → M2.Low (ps.foldl M2.add a).1 (ps.foldl M2.add a).2 ∧ Bt (m + bits 1 ns) (ps.foldl M2.add a)
  | [], [], a, m, _, _, h1, h2 => ⟨h1, h2⟩
  | n :: ns, p :: ps, a, m, hb, hp, h1, h2 => by
    have lp := hp p List.mem_cons_self
    have ad := M2.add_ok (p := a) (q := p) h1 lp
    have sz := M2.add_size (p := a) (q := p) h1 lp h2.1 h2.2 hb.1.1 hb.1.2
    have ih := sumL_ok ns ps (M2.add a p) (m + n + 1) hb.2 (fun q hq => hp q (List.mem_cons_of_mem _ hq)) ad.1 sz
    have e : m + bits 1 (n :: ns) = m + n + 1 + bits 1 ns := by
      show m + ((n + 1) + bits 1 ns) = _
      omega
    rw [e]
    exact ih
  | [], _ :: _, _, _, h, _, _, _ => h.elim
  | _ :: _, [], _, _, h, _, _, _ => h.elim
def spSumL (K : PySem.W.Frag) : Sp := fun vs H Q _ => ∃ (s : Addr) (xs : List V) (ps : List Q2) (ns : List Nat), vs = [.ref s] ∧ (SqT K H s xs ∨ SqL K H s xs) ∧ Frs K H xs ps ∧ BtL ns ps ∧ (∀ p ∈ ps, M2.Low p.1 p.2) ∧ bits 1 ns ≤ 2900 ∧ ∀ H' u, Same H H' → SqT K H' u (pV (sumQ ps)) → Q (.ref u) H'
end CK
namespace CK
open PySem PySem.Spec PyProof.Rows L2 VG FR
theorem nodup_le {α : Type} [DecidableEq α] : ∀ (l D : List α), l.Nodup → (∀ x ∈ l, x ∈ D) → l.length ≤ D.length
  | [], _, _, _ => Nat.zero_le _
  | a :: l, D, h, s => by
    have ⟨h1, h2⟩ := List.nodup_cons.mp h
    have ha := s a List.mem_cons_self
    have ih := nodup_le l (D.erase a) h2 fun x hx => (List.mem_erase_of_ne (fun e => h1 (by rw [← e]; exact hx))).mpr (s x (List.mem_cons_of_mem _ hx))
    rw [List.length_erase_of_mem ha] at ih
    have := List.length_pos_of_mem ha
    rw [List.length_cons]
    omega
end CK
namespace CK
open PySem PySem.Spec PyProof.Rows L2 VG FR
/-- entries that are integers, or not -/
def Parts (K : PySem.W.Frag) (H : Hp) : List V → List (Option Int) → Prop
  | x :: xs, o :: os => Part K H x o ∧ Parts K H xs os
  | [], [] => True
  | _, _ => False
theorem Parts.mono {K : PySem.W.Frag} {H H' : Hp} (e : Same H H') : ∀ {xs : List V} {os : List (Option Int)}, Parts K H xs os → Parts K H' xs os
  | [], [], _ => trivial
  | _ :: _, _ :: _, h => ⟨part_mono e h.1, h.2.mono e⟩
  | [], _ :: _, h => h.elim
  | _ :: _, [], h => h.elim
theorem Parts.len {K : PySem.W.Frag} {H : Hp} : ∀ {xs : List V} {os : List (Option Int)}, Parts K H xs os → xs.length = os.length
  | [], [], _ => rfl
  | _ :: _, _ :: _, h => by rw [List.length_cons, List.length_cons, h.2.len]
  | [], _ :: _, h => h.elim
  | _ :: _, [], h => h.elim
theorem Parts.get {K : PySem.W.Frag} {H : Hp} : ∀ {xs : List V} {os : List (Option Int)} {i : Nat} {x : V}, Parts K H xs os → xs[i]? = some x → ∃ o, os[i]? = some o ∧ Part K H x o
  | a :: _, o :: _, 0, x, h, e => by
    have e1 : a = x := Option.some.inj e
    subst e1
    exact ⟨o, rfl, h.1⟩
  | _ :: xs, _ :: os, i + 1, x, h, e => h.2.get (i := i) e
  | [], [], _, _, _, e => by cases e
  | [], _ :: _, _, _, h, _ => h.elim
  | _ :: _, [], _, _, h, _ => h.elim
/-- any value: no tuple, or a tuple with such entries -/
def AnyV (K : PySem.W.Frag) (H : Hp) (v : V) : Option (List (Option Int)) → Prop
  | none => ∃ ty : String, TyX K H v (.type ty) ∧ kitB ty "tuple" = some false
  | some os => ∃ p xs, v = .ref p ∧ SqT K H p xs ∧ Parts K H xs os ∧ os.length ≤ 1000
theorem AnyV.mono {K : PySem.W.Frag} {H H' : Hp} (e : Same H H') {v : V} : ∀ {o : Option (List (Option Int))}, AnyV K H v o → AnyV K H' v o
  | none, ⟨ty, h, k⟩ => ⟨ty, tyX_mono e h, k⟩
  | some _, ⟨p, xs, e1, h, r, l⟩ => ⟨p, xs, e1, seqT e h, r.mono e, l⟩
theorem bits_rep (e n k : Nat) : bits e (List.replicate k n) = k * (n + e) := by
  unfold bits
  rw [List.map_replicate, List.sum_replicate_nat]
theorem BtL.all : ∀ {ns : List Nat} {ps : List Q2} {m : Nat}, BtL ns ps → (∀ n ∈ ns, n ≤ m) → ∀ p ∈ ps, Bt m p
  | [], [], _, _, _, p, hp => by cases hp
  | n :: ns, q :: ps, m, h, hn, p, hp => by
    rcases List.mem_cons.mp hp with z | z
    · rw [z]
      exact h.1.mono (hn n List.mem_cons_self)
    · exact BtL.all h.2 (fun k hk => hn k (List.mem_cons_of_mem _ hk)) p z
  | [], _ :: _, _, h, _, _, _ => h.elim
  | _ :: _, [], _, h, _, _, _ => h.elim
end CK
namespace CK
open PySem PySem.Spec PyProof.Rows L2 VG FR HD
def On (p q : Addr) (G H : Hp) : Prop := Hd p q H ∧ Same G H ∧ G p = none ∧ G q = none
theorem frz_p (p q : Addr) (H : Hp) : frz p q H p = none ∧ frz p q H q = none := by
  unfold frz
  exact ⟨if_pos (.inl rfl), if_pos (.inr rfl)⟩
theorem frz_le {p q : Addr} {H : Hp} : Same (frz p q H) H := frz_keep (Keep.refl p q H)
theorem frz_cases {p q b : Addr} {o : HO} {H : Hp} (h : frz p q H b = some o) : b ≠ p ∧ b ≠ q ∧ H b = some o := by
  unfold frz at h
  by_cases z : b = p ∨ b = q
  · rw [if_pos z] at h
    cases h
  · rw [if_neg z] at h
    exact ⟨fun y => z (.inl y), fun y => z (.inr y), h⟩
section
variable {p q : Addr} {G H H' : Hp}
theorem On.start (h : Hd p q H) : On p q (frz p q H) H := ⟨h, frz_le, (frz_p p q H).1, (frz_p p q H).2⟩
theorem On.hd (h : On p q G H) : Hd p q H := h.1
theorem On.le (h : On p q G H) : Same G H := h.2.1
theorem On.neP (h : On p q G H) {b : Addr} {o : HO} (e : G b = some o) : b ≠ p ∧ b ≠ q := ⟨fun z => (by rw [z, h.2.2.1] at e; cases e), fun z => (by rw [z, h.2.2.2] at e; cases e)⟩
theorem On.draw (h : On p q G H) (hd : Hd p q H') (k : Keep p q H H') : On p q G H' :=
  ⟨hd, fun b o e => k b o (h.neP e).1 (h.neP e).2 (h.le b o e), h.2.2⟩
theorem On.same (h : On p q G H) (s : Same H H') : On p q G H' := ⟨h.1.same s, h.le.trans s, h.2.2⟩
theorem On.new (h : On p q G H) {n : Addr} {o : HO} (hn : H n = none) : On p q G (L2.upd H n o) := h.same (same_upd hn)
theorem On.free (h : On p q G H) {n : Addr} (hn : H n = none) : n ≠ p ∧ n ≠ q ∧ G n = none := ⟨(h.1.free hn).1, (h.1.free hn).2, h.le.free hn⟩
theorem On.put (h : On p q G H) {D : Addr} {o : HO} (f : D ≠ p ∧ D ≠ q ∧ G D = none) : On p q G (L2.upd H D o) :=
  ⟨hd_put h.1 f.1 f.2.1, fun b x e => by rw [upd_ne (ne_of_none e f.2.2)]; exact h.le b x e, h.2.2⟩
theorem On.base (h : On p q G H) : On p q (frz p q H) H ∧ Same G (frz p q H) := ⟨.start h.1, fun b o e => frz_at (h.le b o e) (h.neP e)⟩
theorem On.keep (h : On p q (frz p q H) H') : Keep p q H H' := fun b o n1 n2 e => h.le b o (frz_at e ⟨n1, n2⟩)
theorem On.drop {G0 : Hp} (h : On p q G H) (s : Same G0 G) : On p q G0 H := ⟨h.1, s.trans h.le, s.free h.2.2.1, s.free h.2.2.2⟩
end
abbrev cALPH : Str := "acdefghijklnop"
def lastC (t : Nat) : Nat := cALPH.cps.toList.getD (t % 14) 0
theorem last_ok (t : Nat) : cALPH.cps.toList[t % 14]? = some (lastC t) ∧ 97 ≤ lastC t ∧ lastC t ≤ 122 := by
  have h : ∀ i : Fin 14, cALPH.cps.toList[i.1]? = some (cALPH.cps.toList.getD i.1 0) ∧ 97 ≤ cALPH.cps.toList.getD i.1 0 ∧ cALPH.cps.toList.getD i.1 0 ≤ 122 := by decide +kernel
  exact h ⟨t % 14, Nat.mod_lt _ (by decide)⟩
/-- a word of a turn -/
def Wd (t : Nat) (z : Str) : Prop := ∃ pre : List Nat, z.cps.toList = pre ++ [lastC t] ∧ pre.length ≤ 2 ∧ ∀ c ∈ pre, 97 ≤ c ∧ c ≤ 122
theorem Wd.name {t : Nat} {z : Str} (h : Wd t z) : NameOk z := by
  obtain ⟨pre, e, l, a⟩ := h
  have sz : z.cps.size = pre.length + 1 := by rw [← Array.length_toList, e, List.length_append]; rfl
  refine ⟨by omega, by omega, fun c hc => ?_⟩
  rw [e] at hc
  rcases List.mem_append.mp hc with q | q
  · exact a c q
  · have := List.mem_singleton.mp q
    subst this
    exact (last_ok t).2
theorem rising_step : ∀ (p : Str) (l : List Str) (i : Nat) (a b : Str), risingS p l = true → (p :: l)[i]? = some a → (p :: l)[i + 1]? = some b → ltCps b.cps.toList a.cps.toList = false
  | p, [], i, a, b, _, _, h => by simp at h
  | p, x :: r, 0, a, b, h, ha, hb => by
    have e1 : p = a := Option.some.inj ha
    have e2 : x = b := Option.some.inj hb
    subst e1 e2
    have h : (!ltCps x.cps.toList p.cps.toList && risingS x r) = true := h
    rw [Bool.and_eq_true] at h
    simpa using h.1
  | p, x :: r, i + 1, a, b, h, ha, hb => by
    have h : (!ltCps x.cps.toList p.cps.toList && risingS x r) = true := h
    rw [Bool.and_eq_true] at h
    exact rising_step x r i a b h.2 ha hb
theorem ascS_of {ks : List Str} (h : sortedS ks = true) (n : ks.Nodup) : AscS ks := by
  intro i a b ha hb
  have ne : a ≠ b := fun z => by
    subst z
    have := nodup_at n ha hb
    omega
  have le : ltCps b.cps.toList a.cps.toList = false := by
    cases ks with
    | nil => simp at ha
    | cons p l => exact rising_step p l i a b h ha hb
  rw [ltCps_eq] at le
  have le := of_decide_eq_false le
  have ne2 : a.cps.toList ≠ b.cps.toList := fun z => ne (by
    obtain ⟨x⟩ := a
    obtain ⟨y⟩ := b
    have e : x = y := Array.toList_inj.mp z
    rw [e])
  rcases Std.lt_trichotomy a.cps.toList b.cps.toList with z | z | z
  · exact z
  · exact absurd z ne2
  · exact absurd z le
def spLawNames (K : PySem.W.Frag) : Sp := fun vs H Q _ => ∃ (p q : Addr) (m : Nat), vs = [.ref p, .int m] ∧ Hd p q H ∧ 1 ≤ m ∧ m ≤ 12 ∧ ∀ (H' : Hp) (u : Addr) (ks : List Str), On p q (frz p q H) H' → H' u = some (.tup (ks.map V.str)) → KindsOk ks → ks.length = m → Q (.ref u) H'
end CK
namespace CK
open PySem PySem.Spec PyProof.Rows L2 VG FR HD
theorem fmod_nat (i : Nat) {m : Nat} (h : 0 < m) : ((i : Int)).fmod (m : Int) = ((i % m : Nat) : Int) := by
  rw [Int.fmod_eq_emod_of_nonneg _ (by omega)]
  rfl
end CK
namespace CK
open PySem PySem.Spec PyProof.Rows L2 VG FR HD
def asInts (ys : List V) : List Int := ys.map fun v => match v with
  | .int a => a
  | _ => 0
theorem as_ints : ∀ c : List Int, asInts (c.map V.int) = c
  | [] => rfl
  | a :: c => by
    show a :: asInts (c.map V.int) = a :: c
    rw [as_ints c]
def rd (G : Hp) (v : V) : List Int := match v with
  | .ref t => match G t with
    | some (.lst ys) => asInts ys
    | _ => []
  | _ => []
def LOk (G : Hp) (v : V) : Prop := ∃ (t : Addr) (c : List Int), v = .ref t ∧ G t = some (.lst (c.map V.int))
theorem rd_eq {G : Hp} {t : Addr} {c : List Int} (h : G t = some (.lst (c.map V.int))) : rd G (.ref t) = c := by
  show (match G t with
    | some (.lst ys) => asInts ys
    | _ => []) = c
  rw [h]
  exact as_ints c
theorem LOk.get {G : Hp} {v : V} (h : LOk G v) : ∃ t, v = .ref t ∧ G t = some (.lst ((rd G v).map V.int)) := by
  obtain ⟨t, c, rfl, e⟩ := h
  exact ⟨t, rfl, by rw [rd_eq e]; exact e⟩
theorem LOk.mono {G G' : Hp} (s : Same G G') {v : V} (h : LOk G v) : LOk G' v ∧ rd G' v = rd G v := by
  obtain ⟨t, c, rfl, e⟩ := h
  exact ⟨⟨t, c, rfl, s _ _ e⟩, by rw [rd_eq e, rd_eq (s _ _ e)]⟩
def Ls (G : Hp) (xs : List V) : Prop := ∀ v ∈ xs, LOk G v
theorem Ls.mono {G G' : Hp} (s : Same G G') {xs : List V} (h : Ls G xs) : Ls G' xs ∧ xs.map (rd G') = xs.map (rd G) :=
  ⟨fun v hv => ((h v hv).mono s).1, List.map_congr_left fun v hv => ((h v hv).mono s).2⟩
theorem asc_lt : ∀ {l : List Int} {a : Int}, Asc (a :: l) → ∀ x ∈ l, a < x
  | b :: l, a, h, x, hx => by
    rcases List.mem_cons.mp hx with z | z
    · rw [z]
      exact h.1
    · exact Int.lt_trans h.1 (asc_lt h.2 x z)
theorem asc_nodup : ∀ {l : List Int}, Asc l → l.Nodup
  | [], _ => List.nodup_nil
  | a :: l, h => by
    refine List.nodup_cons.mpr ⟨fun z => ?_, asc_nodup (l := l) ?_⟩
    · have := asc_lt h a z
      omega
    · cases l with
      | nil => trivial
      | cons b r => exact h.2
/-- a lot of numbers below m -/
def LotI (m : Nat) (c : List Int) : Prop := Asc c ∧ ∀ x ∈ c, 0 ≤ x ∧ x < (m : Int)
theorem below_len {m : Nat} {c : List Int} (n : c.Nodup) (h : ∀ x ∈ c, 0 ≤ x ∧ x < (m : Int)) : c.length ≤ m := by
  have z := nodup_le c ((List.range m).map fun (j : Nat) => (j : Int)) n fun x hx => by
    have ⟨h1, h2⟩ := h x hx
    obtain ⟨j, rfl⟩ := Int.eq_ofNat_of_zero_le h1
    exact List.mem_map.mpr ⟨j, List.mem_range.mpr (by omega), rfl⟩
  rw [List.length_map, List.length_range] at z
  exact z
theorem LotI.len {m : Nat} {c : List Int} (h : LotI m c) : c.length ≤ m := below_len (asc_nodup h.1) h.2
/-- lists at given places -/
def Blk (H : Hp) : List Addr → List (List Int) → Prop
  | t :: ts, b :: bs => H t = some (.lst (b.map V.int)) ∧ Blk H ts bs
  | [], [] => True
  | _, _ => False
theorem Blk.len {H : Hp} : ∀ {ts : List Addr} {bs : List (List Int)}, Blk H ts bs → ts.length = bs.length
  | [], [], _ => rfl
  | _ :: _, _ :: _, h => by rw [List.length_cons, List.length_cons, h.2.len]
  | [], _ :: _, h => h.elim
  | _ :: _, [], h => h.elim
theorem Blk.imp {H H' : Hp} : ∀ {ts : List Addr} {bs : List (List Int)}, (∀ t ∈ ts, ∀ o, H t = some o → H' t = some o) → Blk H ts bs → Blk H' ts bs
  | [], [], _, _ => trivial
  | t :: ts, b :: bs, k, h => ⟨k t List.mem_cons_self _ h.1, Blk.imp (fun u hu => k u (List.mem_cons_of_mem _ hu)) h.2⟩
  | [], _ :: _, _, h => h.elim
  | _ :: _, [], _, h => h.elim
theorem Blk.get {H : Hp} : ∀ {ts : List Addr} {bs : List (List Int)} {j : Nat} {t : Addr}, Blk H ts bs → ts[j]? = some t → ∃ b, bs[j]? = some b ∧ H t = some (.lst (b.map V.int))
  | a :: _, b :: _, 0, t, h, e => by
    have e1 : a = t := Option.some.inj e
    subst e1
    exact ⟨b, rfl, h.1⟩
  | _ :: ts, _ :: bs, j + 1, t, h, e => h.2.get (j := j) e
  | [], [], _, _, _, e => by cases e
  | [], _ :: _, _, _, h, _ => h.elim
  | _ :: _, [], _, _, h, _ => h.elim
theorem Blk.at_ {H : Hp} {ts : List Addr} {bs : List (List Int)} (h : Blk H ts bs) {t : Addr} (m : t ∈ ts) : ∃ b, b ∈ bs ∧ H t = some (.lst (b.map V.int)) := by
  obtain ⟨j, e⟩ := List.mem_iff_getElem?.mp m
  obtain ⟨b, e2, k⟩ := h.get e
  exact ⟨b, List.mem_of_getElem? e2, k⟩
theorem Blk.snoc {H : Hp} {t : Addr} {b : List Int} (k : H t = some (.lst (b.map V.int))) : ∀ {ts : List Addr} {bs : List (List Int)}, Blk H ts bs → Blk H (ts ++ [t]) (bs ++ [b])
  | [], [], _ => ⟨k, trivial⟩
  | _ :: _, _ :: _, h => ⟨h.1, h.2.snoc k⟩
  | [], _ :: _, h => h.elim
  | _ :: _, [], h => h.elim
theorem Blk.set {H : Hp} {c : List Int} : ∀ {ts : List Addr} {bs : List (List Int)} {j : Nat} {t : Addr}, ts.Nodup → ts[j]? = some t → Blk H ts bs → Blk (L2.upd H t (.lst (c.map V.int))) ts (bs.set j c)
  | a :: ts, b :: bs, 0, t, n, e, h => by
    have e1 : a = t := Option.some.inj e
    subst e1
    refine ⟨upd_same, Blk.imp (fun u hu o k => ?_) h.2⟩
    have : u ≠ a := fun z => (List.nodup_cons.mp n).1 (z ▸ hu)
    rw [upd_ne this]
    exact k
  | a :: ts, b :: bs, j + 1, t, n, e, h => by
    have ha : a ≠ t := fun z => (List.nodup_cons.mp n).1 (z ▸ List.mem_of_getElem? (l := ts) (i := j) e)
    refine ⟨by rw [upd_ne ha]; exact h.1, Blk.set (j := j) (List.nodup_cons.mp n).2 e h.2⟩
  | [], [], _, _, _, e, _ => by cases e
  | [], _ :: _, _, _, _, _, h => h.elim
  | _ :: _, [], _, _, _, _, h => h.elim
end CK
namespace CK
open PySem PySem.Spec PyProof.Rows L2 VG FR HD
/-- a list at F that grows by new lists -/
def Gw (p q : Addr) (H : Hp) (F : Addr) (ts : List Addr) (bs : List (List Int)) : Prop := H F = some (.lst (ts.map V.ref)) ∧ Blk H ts bs ∧ ∀ t ∈ ts, t ≠ F ∧ t ≠ p ∧ t ≠ q
section
variable {p q F : Addr} {H H' : Hp} {ts : List Addr} {bs : List (List Int)}
theorem Gw.nil (h : H F = some (.lst [])) : Gw p q H F [] [] := ⟨h, trivial, fun t h => by cases h⟩
theorem Gw.same (h : Gw p q H F ts bs) (s : Same H H') : Gw p q H' F ts bs := ⟨s _ _ h.1, Blk.imp (fun t _ o k => s _ _ k) h.2.1, h.2.2⟩
theorem Gw.draw (h : Gw p q H F ts bs) (f : F ≠ p ∧ F ≠ q) (k : Keep p q H H') : Gw p q H' F ts bs :=
  ⟨k _ _ f.1 f.2 h.1, Blk.imp (fun t ht o e => k _ _ (h.2.2 t ht).2.1 (h.2.2 t ht).2.2 e) h.2.1, h.2.2⟩
theorem Gw.push (h : Gw p q H F ts bs) {t : Addr} {b : List Int} (e : H t = some (.lst (b.map V.int))) (n : t ≠ F ∧ t ≠ p ∧ t ≠ q) : Gw p q (L2.upd H F (.lst (ts.map V.ref ++ [.ref t]))) F (ts ++ [t]) (bs ++ [b]) := by
  refine ⟨by rw [upd_same, List.map_append]; rfl, Blk.snoc (by rw [upd_ne n.1]; exact e) (Blk.imp (fun u hu o k => by rw [upd_ne (h.2.2 u hu).1]; exact k) h.2.1), fun u hu => ?_⟩
  rcases List.mem_append.mp hu with z | z
  · exact h.2.2 u z
  · rw [List.mem_singleton.mp z]
    exact n
theorem Gw.len (h : Gw p q H F ts bs) : ts.length = bs.length := h.2.1.len
end
def Distinct (m : Nat) (c : List Int) : Prop := c.Nodup ∧ ∀ x ∈ c, 0 ≤ x ∧ x < (m : Int)
theorem Distinct.len {m : Nat} {c : List Int} (h : Distinct m c) : c.length ≤ m := below_len h.1 h.2
end CK
namespace CK
open PySem PySem.Spec PyProof.Rows L2 VG FR HD
def Fs (m : Nat) (G : Hp) (ys : List V) : Prop := ∀ v ∈ ys, LOk G v ∧ LotI m (rd G v)
theorem Fs.mono {m : Nat} {G G' : Hp} (s : Same G G') {ys : List V} (h : Fs m G ys) : Fs m G' ys := fun v hv => by
  have e := (h v hv).1.mono s
  exact ⟨e.1, by rw [e.2]; exact (h v hv).2⟩
theorem Fs.app {m : Nat} {G : Hp} {xs ys : List V} (h : Fs m G xs) (k : Fs m G ys) : Fs m G (xs ++ ys) := fun v hv => (List.mem_append.mp hv).elim (h v) (k v)
theorem cut0 {xs : List V} (k : Nat) : cutV xs none (some (k : Int)) = xs.take k := by
  unfold cutV
  rw [HT.sIx_none, HT.sIx_nat]
  have : xs.drop 0 = xs := List.drop_zero
  rw [this, Nat.sub_zero]
  rcases Nat.le_total k xs.length with h | h
  · rw [Nat.min_eq_left h]
  · rw [Nat.min_eq_right h, List.take_of_length_le (Nat.le_refl _), List.take_of_length_le h]
theorem keep_frz {p q : Addr} {H : Hp} : Keep p q H (frz p q H) := fun b o n1 n2 e => frz_at e ⟨n1, n2⟩
theorem Tots.frz {K : PySem.W.Frag} {p q : Addr} {H : Hp} (hd : Hd p q H) : ∀ {vs : List V} {cs : List (List Int)}, Tots K H vs cs → Tots K (frz p q H) vs cs
  | [], [], _ => trivial
  | _ :: _, _ :: _, ⟨⟨t, e, h⟩, r⟩ => ⟨⟨t, e, seqTK hd keep_frz h⟩, r.frz hd⟩
  | [], _ :: _, h => h.elim
  | _ :: _, [], h => h.elim
theorem asc_pw : ∀ {l : List Int}, l.Pairwise (· < ·) → Asc l
  | [], _ => trivial
  | [_], _ => trivial
  | a :: b :: r, h => by
    have ⟨h1, h2⟩ := List.pairwise_cons.mp h
    exact ⟨h1 b List.mem_cons_self, asc_pw h2⟩
end CK
namespace CK
open PySem PySem.Spec PyProof.Rows L2 VG FR HD
end CK
namespace CK
open PySem PySem.Spec PyProof.Rows L2 VG FR HD
theorem eqvAll_ints : ∀ a b : List Int, PyData.eqvAll (a.map PyData.int) (b.map PyData.int) = decide (a = b)
  | [], [] => by simp [PyData.eqvAll]
  | [], _ :: _ => by simp [PyData.eqvAll]
  | _ :: _, [] => by simp [PyData.eqvAll]
  | x :: a, y :: b => by
    have ih := eqvAll_ints a b
    rw [List.map_cons, List.map_cons, PyData.eqvAll, ih, PyData.eqv]
    by_cases h : x = y
    · subst h
      by_cases k : a = b
      · subst k
        simp
      · simp [k]
    · simp [h]
/-- groups and their signs while they grow: H is the heap of before -/
def ClsW (H H' : Hp) (S F : Addr) (ss fs : List Addr) (sg bs : List (List Int)) : Prop := Same H H' ∧ H' S = some (.lst (ss.map V.ref)) ∧ Blk H' ss sg ∧ H' F = some (.lst (fs.map V.ref)) ∧ Blk H' fs bs ∧ fs.Nodup ∧
  (∀ t ∈ fs, t ≠ S ∧ t ≠ F ∧ H t = none) ∧ (∀ t ∈ ss, t ≠ S ∧ t ≠ F ∧ H t = none) ∧ ∀ t ∈ fs, t ∉ ss
theorem ClsW.same {H H1 H2 : Hp} {S F : Addr} {ss fs : List Addr} {sg bs : List (List Int)} (h : ClsW H H1 S F ss fs sg bs) (s : Same H1 H2) : ClsW H H2 S F ss fs sg bs :=
  ⟨h.1.trans s, s _ _ h.2.1, Blk.imp (fun t _ o k => s t o k) h.2.2.1, s _ _ h.2.2.2.1, Blk.imp (fun t _ o k => s t o k) h.2.2.2.2.1, h.2.2.2.2.2⟩
/-- a new sign, a new group -/
theorem ClsW.add {H H6 H7 H8 : Hp} {S F L T : Addr} {ss fs : List Addr} {sg bs : List (List Int)} {c : List Int} (h : ClsW H H6 S F ss fs sg bs) (nS : H S = none) (nF : H F = none) (kL : H6 L = some (.lst (c.map V.int))) (nL : L ≠ S ∧ L ≠ F ∧ H L = none) (Lf : L ∉ fs)
    (e7 : H7 = L2.upd H6 S (.lst (ss.map V.ref ++ [.ref L]))) (nT : H7 T = none) (e8 : H8 = L2.upd H7 T (.lst [])) (nSF : S ≠ F) :
    ClsW H (L2.upd H8 F (.lst (fs.map V.ref ++ [.ref T]))) S F (ss ++ [L]) (fs ++ [T]) (sg ++ [c]) (bs ++ [[]]) ∧ (L2.upd H8 F (.lst (fs.map V.ref ++ [.ref T]))) L = some (.lst (c.map V.int)) := by
  obtain ⟨sm, eS, bS, eF, bF, nd, avF, avS, dis⟩ := h
  have keep7 : ∀ t, t ≠ S → ∀ o, H6 t = some o → H7 t = some o := fun t n o k => by rw [e7, upd_ne n]; exact k
  have keep : ∀ t, t ≠ S → t ≠ F → ∀ o, H6 t = some o → (L2.upd H8 F (.lst (fs.map V.ref ++ [.ref T]))) t = some o := fun t n1 n2 o k => by
    rw [upd_ne n2, e8]
    exact same_upd nT _ _ (keep7 t n1 o k)
  have T0 : ∀ t, t ≠ S → H6 t ≠ none → t ≠ T := fun t n k z => by
    subst z
    cases e : H6 t with
    | none => exact k e
    | some o => rw [keep7 t n o e] at nT; cases nT
  have h7S : H7 S = some (.lst (ss.map V.ref ++ [.ref L])) := by rw [e7, upd_same]
  have nTS : T ≠ S := fun z => by subst z; rw [h7S] at nT; cases nT
  have nTF : T ≠ F := (T0 F nSF.symm (by rw [eF]; exact Option.some_ne_none _)).symm
  have HT : H T = none := by
    cases e : H T with
    | none => rfl
    | some o => exact absurd rfl (T0 T nTS (by rw [sm _ _ e]; exact Option.some_ne_none _))
  have inS : ∀ t ∈ ss, H6 t ≠ none := fun t ht => by obtain ⟨b, _, k⟩ := bS.at_ ht; rw [k]; exact Option.some_ne_none _
  have inF : ∀ t ∈ fs, H6 t ≠ none := fun t ht => by obtain ⟨b, _, k⟩ := bF.at_ ht; rw [k]; exact Option.some_ne_none _
  refine ⟨⟨fun b o e => keep b (fun z => by rw [z, nS] at e; cases e) (fun z => by rw [z, nF] at e; cases e) o (sm _ _ e), ?_, ?_, ?_, ?_, ?_, ?_, ?_, ?_⟩, keep L nL.1 nL.2.1 _ kL⟩
  · rw [upd_ne nSF, e8]
    rw [same_upd nT _ _ h7S, List.map_append]
    rfl
  · exact Blk.snoc (keep L nL.1 nL.2.1 _ kL) (Blk.imp (fun t ht o k => keep t (avS t ht).1 (avS t ht).2.1 o k) bS)
  · rw [upd_same, List.map_append]
    rfl
  · exact Blk.snoc (by rw [upd_ne nTF, e8, upd_same]; rfl) (Blk.imp (fun t ht o k => keep t (avF t ht).1 (avF t ht).2.1 o k) bF)
  · exact List.nodup_append.mpr ⟨nd, by simp, fun x hx y hy e => by
      have := List.mem_singleton.mp hy
      subst this
      exact T0 x (avF x hx).1 (inF x hx) e⟩
  · intro t ht
    rcases List.mem_append.mp ht with z | z
    · exact avF t z
    · rw [List.mem_singleton.mp z]
      exact ⟨nTS, nTF, HT⟩
  · intro t ht
    rcases List.mem_append.mp ht with z | z
    · exact avS t z
    · rw [List.mem_singleton.mp z]
      exact nL
  · intro t ht hs
    rcases List.mem_append.mp ht with z | z
    · rcases List.mem_append.mp hs with y | y
      · exact dis t z y
      · rw [List.mem_singleton.mp y] at z
        exact Lf z
    · have et := List.mem_singleton.mp z
      subst et
      rcases List.mem_append.mp hs with y | y
      · exact T0 t nTS (inS t y) rfl
      · exact T0 L nL.1 (by rw [kL]; exact Option.some_ne_none _) (List.mem_singleton.mp y).symm
/-- one more kind in a group -/
theorem ClsW.put {H H6 : Hp} {S F t : Addr} {ss fs : List Addr} {sg bs : List (List Int)} {j : Nat} {b : List Int} (h : ClsW H H6 S F ss fs sg bs) (et : fs[j]? = some t) : ClsW H (L2.upd H6 t (.lst (b.map V.int))) S F ss fs sg (bs.set j b) := by
  obtain ⟨sm, eS, bS, eF, bF, nd, avF, avS, dis⟩ := h
  have ht := List.mem_of_getElem? et
  have av := avF t ht
  refine ⟨fun x o e => ?_, ?_, ?_, ?_, Blk.set nd et bF, nd, avF, avS, dis⟩
  · rw [upd_ne (ne_of_none e av.2.2)]
    exact sm _ _ e
  · rw [upd_ne av.1.symm]
    exact eS
  · exact Blk.imp (fun u hu o k => by rw [upd_ne (fun z : u = t => dis t ht (by rw [← z]; exact hu))]; exact k) bS
  · rw [upd_ne av.2.1.symm]
    exact eF
end CK
namespace VG
open PySem PySem.Spec PyProof.Rows L2
abbrev tupO (items : Array Value) (n : Nat) (dd : Option Addr) (sl : Array (Option Value)) : Obj := ⟨.type "tuple", dd, .seq items n, sl⟩
theorem tup_once (l : Addr) (items : Array Value) (n : Nat) (dd : Option Addr) (sl : Array (Option Value)) (u : Tok) (ne : (items.isEmpty || (1 : Int) == 1) = true) :
    Meets (Builtin.«tuple.__mul__» ⟨[.ref l, .int 1 u], []⟩) (fun _ R s => s.heap.get? l = some (tupO items n dd sl) ∧ R (.ok (.ret (Value.ref l))) s) := .of_wp fun prog w A R s h => by
  obtain ⟨hp, g, d, tk, os⟩ := s; obtain ⟨hl, h⟩ := h
  have f1 := AutoSeq1.idx_int
  wp_walk using wpAny_loadPart' hl
  repeat (first
    | (refine wpAny_ite_true (decide_eq_true ne) ?_; wp_walk using wpAny_loadPart' hl)
    | (refine wpAny_ite_true rfl ?_; wp_walk using wpAny_loadPart' hl)
    | (refine wpAny_ite_false rfl ?_; wp_walk using wpAny_loadPart' hl))
  exact ⟨_, rfl, h⟩
theorem tup_none (l : Addr) (items : Array Value) (n : Nat) (dd : Option Addr) (sl : Array (Option Value)) (u : Tok) (ne : (items.isEmpty || (0 : Int) == 1) = false) :
    Meets (Builtin.«tuple.__mul__» ⟨[.ref l, .int 0 u], []⟩) (fun _ R s => s.heap.get? l = some (tupO items n dd sl) ∧ R (.ok (.ret (Value.ref s.heap.objs.size))) { s with heap := s.heap.push { cls := Value.type "tuple", data := Data.seq #[] } }) := .of_wp fun prog w A R s h => by
  obtain ⟨hp, g, d, tk, os⟩ := s; obtain ⟨hl, h⟩ := h
  have f1 := AutoSeq1.idx_int
  wp_walk using wpAny_loadPart' hl
  repeat (first
    | (refine wpAny_ite_false (decide_eq_false (by rw [ne]; exact Bool.false_ne_true)) ?_; wp_walk using wpAny_loadPart' hl)
    | (refine wpAny_ite_true rfl ?_; wp_walk using wpAny_loadPart' hl)
    | (refine wpAny_ite_false rfl ?_; wp_walk using wpAny_loadPart' hl))
  exact ⟨_, rfl, h⟩
section
variable {X : Cx}
def rRepA (K : PySem.W.Frag) : R2 := fun x y H Q => ∃ (l : Addr) (k : Nat) (xs : List V), x = .ref l ∧ y = .int k ∧ SqT K H l xs ∧ xs ≠ [] ∧ k ≤ 1000 ∧ xs.length ≤ 1000 ∧ ∀ p H', Same H H' → SqT K H' p (List.replicate k xs).flatten → Q (.ref p) H'
theorem op_repA : OpR X (binaryOp .Mult) (rRepA X.K) := by
  intro pins s σ H x y v u Q I rx ry h
  obtain ⟨l, k, xs, rfl, rfl, hT, hne, hk, hz, q⟩ := h
  by_cases k2 : 2 ≤ k
  · refine op_repT pins s σ H _ _ v u Q I rx ry ⟨l, (k : Int), xs, rfl, rfl, hT, hne, by omega, by omega, hz, fun p np => ?_⟩
    rw [Int.toNat_natCast]
    exact q p _ (fun b o e => by rw [upd_ne (ne_of_none e np)]; exact e) (.inl (.inl upd_same))
  cases rx
  obtain ⟨t, rfl⟩ := ry
  obtain ⟨its, r, ⟨⟨cls, dd, data, sl⟩, ho, hc, n, hd⟩, hs⟩ := I.tuple hT
  simp only at hc hd
  subst hc hd
  have hn : its ≠ [] := fun e => by
    have hle := r.length
    rw [e] at hle
    exact hne (List.eq_nil_of_length_eq_zero hle)
  have hi : its.toArray.isEmpty = false := by
    cases its with
    | nil => exact absurd rfl hn
    | cons a b => rfl
  by_cases k1 : k = 1
  · subst k1
    refine wpAny_binaryOp_repeat_ref (T := "tuple") (U := "int") (by decide) ⟨_, ho, rfl⟩ (fun s' => typeIs_int s' _ t) noFill_tuple_mul F.fills_int_mul F.slot_int_rmul repeat_tuple F.slot_int_index.lookup
      (call_meets F.slot_int_rmul (typeIs_int s _ t) F.entry_int_rmul (F.args_int_rmul_2 _ _) (int_rmul_tuple _ t l its.toArray n dd sl) ⟨ho, rfl, ⟨_, ho, rfl⟩, call_meets F.slot_tuple_mul ⟨_, ho, rfl⟩ F.entry_tuple_mul (F.args_tuple_mul_2 _ _)
        (tup_once l its.toArray n dd sl t (by rw [hi]; rfl)) ⟨ho, ?_⟩⟩)
    refine ⟨.ref l, H, I, rfl, q l H (Same.refl _) ?_⟩
    have e : (List.replicate 1 xs).flatten = xs := by simp
    rw [e]
    exact hT
  · have k0 : k = 0 := by omega
    subst k0
    refine wpAny_binaryOp_repeat_ref (T := "tuple") (U := "int") (by decide) ⟨_, ho, rfl⟩ (fun s' => typeIs_int s' _ t) noFill_tuple_mul F.fills_int_mul F.slot_int_rmul repeat_tuple F.slot_int_index.lookup
      (call_meets F.slot_int_rmul (typeIs_int s _ t) F.entry_int_rmul (F.args_int_rmul_2 _ _) (int_rmul_tuple _ t l its.toArray n dd sl) ⟨ho, rfl, ⟨_, ho, rfl⟩, call_meets F.slot_tuple_mul ⟨_, ho, rfl⟩ F.entry_tuple_mul (F.args_tuple_mul_2 _ _)
        (tup_none l its.toArray n dd sl t (by rw [hi]; rfl)) ⟨ho, ?_⟩⟩)
    have np := I.hok.fresh (Nat.le_refl s.heap.objs.size)
    refine ⟨.ref s.heap.objs.size, _, I.laid (t' := s.toks) (o := .tup []) (fun b ob e => Heap.get?_push_of_some _ e) (Nat.le_refl _) ⟨Nat.zero_le _, [], .nil, IsTup.new _ _⟩, rfl, q _ _ (fun b o e => by rw [upd_ne (ne_of_none e np)]; exact e) (.inl (.inl upd_same))⟩
end
section
variable {X : Cx}
def rCatM (K : PySem.W.Frag) : R2 := fun x y H Q => ∃ a b xs ys, x = .ref a ∧ y = .ref b ∧ SqT K H a xs ∧ SqT K H b ys ∧ xs.length + ys.length ≤ sizeLine ∧ ∀ t H', Same H H' → SqT K H' t (xs ++ ys) → Q (.ref t) H'
theorem op_catM : OpR X (binaryOp .Add) (rCatM X.K) := by
  intro pins s σ H x y v u Q I rx ry h
  obtain ⟨a, b, xs, ys, rfl, rfl, ha, hb, hl, q⟩ := h
  refine op_catA pins s σ H _ _ v u Q I rx ry ⟨a, b, xs, ys, rfl, rfl, ha, hb, hl, fun e => q b H (Same.refl _) ?_, fun _ e => q a H (Same.refl _) ?_, fun _ _ p np => q p _ (fun b o e => by rw [upd_ne (ne_of_none e np)]; exact e) (.inl (.inl upd_same))⟩
  · subst e
    exact hb
  · subst e
    rw [List.append_nil]
    exact ha
def rSlM (K : PySem.W.Frag) : V → Option Int → Option Int → Hp → VK → Prop := fun x lo hi H Q => ∃ a xs, x = .ref a ∧ SqT K H a xs ∧ ∀ t H', Same H H' → SqT K H' t (cutV xs lo hi) → Q (.ref t) H'
theorem cut_whole {xs : List V} {lo hi : Option Int} (h : HT.sIx xs.length 0 lo = 0 ∧ HT.sIx xs.length xs.length hi = xs.length) : cutV xs lo hi = xs := by
  unfold cutV
  rw [h.1, h.2, List.drop_zero, Nat.sub_zero]
  exact List.take_of_length_le (Nat.le_refl _)
theorem sl_tupM : SlR X (rSlM X.K) := by
  intro pins s σ H x v vl vu lo hi sl Q I rx hs pl pu h
  obtain ⟨a, xs, rfl, hS, q⟩ := h
  exact sl_tupA pins s σ H _ v vl vu lo hi sl Q I rx hs pl pu ⟨a, xs, rfl, hS, fun e => q a H (Same.refl _) (by rw [cut_whole e]; exact hS), fun _ p np => q p _ (fun b o e => by rw [upd_ne (ne_of_none e np)]; exact e) (.inl (.inl upd_same))⟩
end
end VG
namespace CK
open PySem PySem.Spec PyProof.Rows L2 VG FR HD
def Shn (d : PyData) (k B : Nat) : Prop := d.showable = true ∧ d.hasDict = false ∧ d.depth ≤ k ∧ d.shown.length ≤ B
theorem shn_all {k B : Nat} : ∀ ds : List PyData, (∀ d ∈ ds, Shn d k B) → PyData.showableAll ds = true ∧ PyData.hasDictAll ds = false ∧ PyData.depthAll ds ≤ k ∧ piled (PyData.shownAll ds) ≤ (B + 2) * ds.length
  | [], _ => ⟨by simp [PyData.showableAll], by simp [PyData.hasDictAll], by simp [PyData.depthAll], by simp [PyData.shownAll, piled]⟩
  | d :: ds, h => by
    have ⟨a1, a2, a3, a4⟩ := h d List.mem_cons_self
    have ⟨b1, b2, b3, b4⟩ := shn_all ds fun e he => h e (List.mem_cons_of_mem _ he)
    refine ⟨?_, ?_, ?_, ?_⟩
    · rw [PyData.showableAll, a1, b1]
      rfl
    · rw [PyData.hasDictAll, a2, b2]
      rfl
    · rw [PyData.depthAll]
      omega
    · rw [PyData.shownAll, piled_cons, List.length_cons, Nat.mul_succ]
      omega
theorem shn_tup {k B n : Nat} {ds : List PyData} (h : ∀ d ∈ ds, Shn d k B) (hn : ds.length ≤ n) : Shn (.tuple ds) (k + 1) ((B + 2) * n + 2) := by
  have ⟨b1, b2, b3, b4⟩ := shn_all ds h
  refine ⟨?_, ?_, ?_, ?_⟩
  · rw [PyData.showable]
    exact b1
  · rw [PyData.hasDict]
    exact b2
  · rw [PyData.depth]
    omega
  · show (tupleText (PyData.shownAll ds)).length ≤ _
    have e := fmt_text (PyData.shownAll ds)
    have m : (B + 2) * ds.length ≤ (B + 2) * n := Nat.mul_le_mul_left _ hn
    omega
theorem shn_int {a : Int} {k : Nat} (k0 : 0 < k) (h : a.natAbs < 2 ^ k) (hk : k ≤ 1900) : Shn (.int a) 0 (k + 1) := by
  have l2 : a.natAbs.log2 < k := by
    by_cases h0 : a.natAbs = 0
    · rw [h0]
      exact Nat.lt_of_le_of_lt (Nat.le_of_eq (by decide)) k0
    · exact (Nat.log2_lt h0).mpr h
  refine ⟨?_, by rw [PyData.hasDict], by simp [PyData.depth], ?_⟩
  · rw [PyData.showable]
    exact decide_eq_true (by omega)
  · show (Str.ofString (toString a)).length ≤ _
    rw [PySem.ofString_length]
    exact int_text_length_le k0 l2
def dI (c : List Int) : PyData := .tuple (c.map PyData.int)
theorem shn_dI {c : List Int} {n : Nat} (h : ∀ x ∈ c, x.natAbs < 2 ^ 24) (hn : c.length ≤ n) : Shn (dI c) 1 (27 * n + 2) := shn_tup (k := 0) (B := 25) (fun d hd => by
  obtain ⟨x, hx, rfl⟩ := List.mem_map.mp hd
  exact shn_int (by decide) (h x hx) (by decide)) (by rw [List.length_map]; exact hn)
theorem shn_Q {p : Q2} {k : Nat} (k0 : 0 < k) (h : Bt k p) (hk : k ≤ 1900) : Shn (dQ p) 1 ((k + 3) * 2 + 2) := shn_tup (k := 0) (B := k + 1) (ds := [.int p.1, .int p.2]) (fun d hd => by
  have : d = .int p.1 ∨ d = .int p.2 := by simpa using hd
  rcases this with z | z
  · rw [z]
    exact shn_int k0 h.1 hk
  · rw [z]
    exact shn_int k0 h.2 hk) (Nat.le_refl 2)
theorem dp_I {K : PySem.W.Frag} {H : Hp} {t : Addr} {c : List Int} (h : SqT K H t (c.map V.int)) : Dp K H (.ref t) (dI c) := .tup h (dpAll_ints K H c)
theorem Shn.r {d : PyData} {k B : Nat} (s : Shn d k B) (hk : k ≤ 60 := by decide) (hB : B ≤ 16777216 := by decide) : d.showable = true ∧ d.hasDict = false ∧ d.depth ≤ 60 ∧ d.shown.length ≤ sizeLine :=
  ⟨s.1, s.2.1, Nat.le_trans s.2.2.1 hk, Nat.le_trans s.2.2.2 (Nat.le_trans hB (by decide))⟩
theorem shaped_dI (c : List Int) : SeqAt.shaped (dI c) = true := by
  unfold SeqAt.shaped
  rw [Bool.and_eq_true]
  refine ⟨?_, decide_eq_true ?_⟩
  · show PyData.canLayAll0 (c.map PyData.int) = true
    exact lay_ints c
  · show PyData.depthAll (c.map PyData.int) + 1 ≤ 64
    rw [depth_ints]
    decide
theorem eqv_dI (a b : List Int) : PyData.eqv (dI a) (dI b) = decide (a = b) := by
  show PyData.eqv (.tuple (a.map PyData.int)) (.tuple (b.map PyData.int)) = _
  rw [PyData.eqv]
  exact eqvAll_ints a b
def bT (b : Bool) : Str := if b = true then (("True" : String) : Str) else (("False" : String) : Str)
end CK
namespace CK
open PySem PySem.Spec PyProof.Rows L2 VG FR HD
theorem Parts.app {K : PySem.W.Frag} {H : Hp} : ∀ {xs ys : List V} {os ps : List (Option Int)}, Parts K H xs os → Parts K H ys ps → Parts K H (xs ++ ys) (os ++ ps)
  | [], _, [], _, _, h => h
  | _ :: _, _, _ :: _, _, h, k => ⟨h.1, h.2.app k⟩
  | [], _, _ :: _, _, h, _ => h.elim
  | _ :: _, _, [], _, h, _ => h.elim
theorem kitT1 : kitB "tuple" "int" = some false := by decide +kernel
theorem kitT2 : kitB "tuple" "bool" = some false := by decide +kernel
theorem kNT : kitB "NoneType" "tuple" = some false := by decide +kernel
theorem kIT : kitB "int" "tuple" = some false := by decide +kernel
theorem kST : kitB "str" "tuple" = some false := by decide +kernel
theorem kLT : kitB "list" "tuple" = some false := by decide +kernel
theorem kDT : kitB "dict" "tuple" = some false := by decide +kernel
theorem part_tup {K : PySem.W.Frag} {H : Hp} {t : Addr} {xs : List V} (h : SqT K H t xs) : Part K H (.ref t) none := .inr ⟨rfl, "tuple", false, false, tyT h, kitT1, kitT2, rfl⟩
theorem part_bl {K : PySem.W.Frag} {H : Hp} (b : Bool) : Part K H (.bl b) none := .inr ⟨rfl, "bool", true, true, .base (.bl b), kitB1, kitB2, rfl⟩
theorem AnyV.tup {K : PySem.W.Frag} {H : Hp} {t : Addr} {xs : List V} {os : List (Option Int)} (h : SqT K H t xs) (k : Parts K H xs os) (l : os.length ≤ 1000) : ∃ o, AnyV K H (.ref t) o := ⟨some os, t, xs, rfl, h, k, l⟩
end CK
namespace CK
open FR
end CK
namespace VG
open PySem PySem.Spec PyProof.Rows L2
structure MkT (P : Program) (w : World) (K : PySem.W.Frag) (mg : Str → Option Value) (base : Heap) (k : Nat) (x : Str) (C : Addr) (sp : Sp) : Prop where
  ex : ∃ (f : Addr) (fd : FuncData) (ps : List Str), Mk K C f ∧ FnOk P w K mg base CX0 k f fd ps sp ∧ mg x = some (.ref C) ∧ Binds K fd ps []
section
variable {X : Cx} {k j : Nat} {x : Str} {sp : Sp} {p pos : Pos} {e : Expr} {es : List Expr} {t : TA} {C : Addr}
theorem pe_mt (c : MkT X.prog X.w X.K X.mg X.base k x C sp) (hr : Room j X.A) (hk : k + 1 ≤ j) (hg : Gl X x) (ha : PA X (e :: es) t)
    (h1 : (x == ("__debug__" : Str)) = false := by decide) (h2 : starEach (e :: es) X.env = (false, eval e X.env) :: starEach es X.env := by rfl)
    (h3 : (backTo pos (starEach es X.env)).any (·.1) = false := by rfl) : PE X (.Call (.Name x p) (e :: es) [] pos) (tMake C sp [] E0 t) :=
  let ⟨_, _, _, M, F, m, b⟩ := c.ex
  pe_make M F (hr.mono hk) hg m b .nil pass0 ha h1 h2 h3
end
end VG
namespace CK
open PySem PySem.Spec PyProof.Rows L2 VG FR HD
theorem Tab.frz {K : PySem.W.Frag} {C a p q : Addr} {H : Hp} {ks : List Str} {ts : List (List Int)} (hd : Hd p q H) (h : Tab K C H a ks ts) : Tab K C (frz p q H) a ks ts := by
  obtain ⟨dx, k, t, xs, h1, h2, h3, h4⟩ := h
  obtain ⟨_, _, e1, e2, _⟩ := id hd
  have n1 : a ≠ p := fun z => by rw [z, e1] at h1; cases h1
  have n2 : a ≠ q := fun z => by rw [z, e2] at h1; cases h1
  exact ⟨dx, k, t, xs, frz_at h1 ⟨n1, n2⟩, seqTK hd keep_frz h2, seqTK hd keep_frz h3, h4.frz hd⟩
theorem tab_made {K : PySem.W.Frag} {C k t x dx : Addr} {H : Hp} {ks : List Str} {xs : List V} {ts : List (List Int)} {Qf : Hp → Prop} {E : XK} (hk : SqT K H k (ks.map V.str)) (ok : KindsOk ks) (ht : SqT K H t xs) (hT : Tots K H xs ts) (hl : ts.length ≤ 12) (hc : ∀ c ∈ ts, LotOk ks.length c) (nx : H x = none) (nd : H dx = none) (ne : dx ≠ x)
    (fin : ∀ H', Same H H' → Tab K C H' x ks ts → H x = none → Qf H') : spInitT K C (.ref x :: ([.ref k, .ref t] ++ [])) (L2.upd (L2.upd H dx (.own x)) x (.ins C dx [])) (fun v H2 => v = .non ∧ Qf H2) E := by
  have s1 := same_upd (o := .own x) nd
  have nx1 : L2.upd H dx (.own x) x = none := by rw [upd_ne ne.symm]; exact nx
  have s2 := s1.trans (same_upd (o := .ins C dx []) nx1)
  refine ⟨x, dx, k, t, ks, xs, ts, rfl, upd_same, seqT s2 hk, ok, seqT s2 ht, hT.mono s2, hl, hc, fun H' kp hx => ⟨rfl, ?_⟩⟩
  have s3 : Same H H' := fun b o e => kp b o (ne_of_none e nx) (s2 b o e)
  exact fin H' s3 ⟨dx, k, t, xs, hx, seqT s3 hk, seqT s3 ht, hT.mono s3⟩ nx
theorem dpAll_tots {K : PySem.W.Frag} {H : Hp} : ∀ {vs : List V} {ts : List (List Int)}, Tots K H vs ts → DpAll K H vs (ts.map dI)
  | [], [], _ => .nil
  | _ :: _, _ :: _, ⟨⟨t, e1, h⟩, r⟩ => by
    subst e1
    exact .cons (dp_I h) (dpAll_tots r)
  | [], _ :: _, h => h.elim
  | _ :: _, [], h => h.elim
/-- a row that was told or drawn -/
def RwOk (n : Nat) (G : Hp) (v : V) : Prop := ∃ (t : Addr) (c : List Int), v = .ref t ∧ G t = some (.tup (c.map V.int)) ∧ c.length = n ∧ ∀ x ∈ c, x.natAbs ≤ 5
theorem RwOk.mono {n : Nat} {G G' : Hp} {v : V} (s : Same G G') (h : RwOk n G v) : RwOk n G' v := by
  obtain ⟨t, c, e, k, l, z⟩ := h
  exact ⟨t, c, e, s _ _ k, l, z⟩
theorem RwOk.updL {n : Nat} {p q D : Addr} {H : Hp} {zs : List V} {o : HO} {v : V} (h : RwOk n (frz p q H) v) (k : H D = some (.lst zs)) : RwOk n (frz p q (L2.upd H D o)) v := by
  obtain ⟨t, c, e, kt, l, z⟩ := h
  obtain ⟨n1, n2, kt⟩ := frz_cases kt
  have ne : t ≠ D := fun y => by rw [y, k] at kt; cases kt
  exact ⟨t, c, e, frz_at (by rw [upd_ne ne]; exact kt) ⟨n1, n2⟩, l, z⟩
theorem shn_ps {ps : List Q2} (h : ∀ p ∈ ps, Bt 300 p) (hl : ps.length ≤ 12) : Shn (.tuple (ps.map dQ)) 2 7322 := shn_tup (k := 1) (B := 608) (fun d hd => by
  obtain ⟨p, hp, rfl⟩ := List.mem_map.mp hd
  exact shn_Q (by decide) (h p hp) (by decide)) (by rw [List.length_map]; exact hl)
end CK
namespace CK
open PySem PySem.Spec PyProof.Rows L2 VG FR HD
def spHeapF (K : PySem.W.Frag) : Sp := fun vs H Q _ => ∃ (a : Addr) (ns : List Int), vs = [.ref a] ∧ SqL K H a (ns.map V.int) ∧ ns.length ≤ 63 ∧ ∀ H' p q, Hd p q H' → Same H H' → H p = none → H q = none → Q (.ref p) H'
end CK
namespace CK
open PySem PySem.Spec PyProof.Rows L2 VG FR HD
end CK
namespace VG
open PySem PySem.Spec PyProof.Rows L2
end VG
namespace CK
open PySem PySem.Spec PyProof.Rows L2 VG FR HD
inductive Stp where
  | tot (t : Nat) (s : Int)
  | less (c i j : Nat)
def stV : Stp → List V
  | .tot t s => [.str "total", .int t, .int s]
  | .less c i j => [.str "less", .int c, .int i, .int j]
def Sts (K : PySem.W.Frag) (H : Hp) : List V → List Stp → Prop
  | [], [] => True
  | v :: vs, c :: cs => (∃ t, v = .ref t ∧ SqT K H t (stV c)) ∧ Sts K H vs cs
  | _, _ => False
theorem Sts.mono {K : PySem.W.Frag} {H H' : Hp} (e : Same H H') : ∀ {vs : List V} {cs : List Stp}, Sts K H vs cs → Sts K H' vs cs
  | [], [], _ => trivial
  | _ :: _, _ :: _, ⟨⟨t, e1, h⟩, r⟩ => ⟨⟨t, e1, seqT e h⟩, r.mono e⟩
  | [], _ :: _, h => h.elim
  | _ :: _, [], h => h.elim
theorem Sts.len {K : PySem.W.Frag} {H : Hp} : ∀ {vs : List V} {cs : List Stp}, Sts K H vs cs → vs.length = cs.length
  | [], [], _ => rfl
  | _ :: _, _ :: _, h => by rw [List.length_cons, List.length_cons, h.2.len]
  | [], _ :: _, h => h.elim
  | _ :: _, [], h => h.elim
theorem Sts.get {K : PySem.W.Frag} {H : Hp} : ∀ {vs : List V} {cs : List Stp} {i : Nat} {v : V}, Sts K H vs cs → vs[i]? = some v → ∃ t c, v = .ref t ∧ cs[i]? = some c ∧ SqT K H t (stV c)
  | [], [], _, _, h, e => by simp at e
  | a :: _, c :: _, 0, v, h, e => by
    have e1 : a = v := Option.some.inj e
    subst e1
    obtain ⟨t, e2, q⟩ := h.1
    exact ⟨t, c, e2, rfl, q⟩
  | _ :: vs, _ :: cs, i + 1, v, h, e => h.2.get (i := i) e
  | [], _ :: _, _, _, h, _ => h.elim
  | _ :: _, [], _, _, h, _ => h.elim
theorem Sts.snoc {K : PySem.W.Frag} {H : Hp} {t : Addr} {c : Stp} (hv : SqT K H t (stV c)) : ∀ {vs : List V} {cs : List Stp}, Sts K H vs cs → Sts K H (vs ++ [.ref t]) (cs ++ [c])
  | [], [], _ => ⟨⟨t, rfl, hv⟩, trivial⟩
  | _ :: _, _ :: _, h => ⟨h.1, h.2.snoc hv⟩
  | [], _ :: _, h => h.elim
  | _ :: _, [], h => h.elim
theorem Sts.upd {K : PySem.W.Frag} {H : Hp} {D : Addr} {ys zs : List V} (hD : H D = some (.lst ys)) : ∀ {vs : List V} {cs : List Stp}, Sts K H vs cs → Sts K (L2.upd H D (.lst zs)) vs cs
  | [], [], _ => trivial
  | _ :: _, _ :: _, ⟨⟨t, e1, h⟩, r⟩ => ⟨⟨t, e1, seqT_upd hD h⟩, r.upd hD⟩
  | [], _ :: _, h => h.elim
  | _ :: _, [], h => h.elim
def oppL (cs : List Int) : List Int := cs.map fun a => -a
def beyB (cs : List Int) : Bool := cs.any fun c => decide (absI c > 1)
/-- the reckoning of a step -/
def recOf (bs known : List (List Int)) : Stp → List Int
  | .tot t s => if s = 1 then bs.getD t [] else oppL (bs.getD t [])
  | .less _ i j => difL (known.getD i []) (known.getD j [])
/-- a step that a derivation may have -/
def StOk (nb nk : Nat) : Stp → Prop
  | .tot t s => t < nb ∧ (s = 1 ∨ s = -1)
  | .less _ i j => i < nk ∧ j < nk
def along (bs : List (List Int)) : List Stp → List (List Int) → List (List Int)
  | [], known => known
  | s :: ss, known => along bs ss (known ++ [recOf bs known s])
/-- all rows have so many entries -/
def Rws (n : Nat) (bs : List (List Int)) : Prop := ∀ c ∈ bs, c.length = n
theorem Rws.getD {n : Nat} {bs : List (List Int)} (h : Rws n bs) {i : Nat} (hi : i < bs.length) : bs[i]? = some (bs.getD i []) ∧ (bs.getD i []).length = n := by
  have e : bs[i]? = some bs[i] := List.getElem?_eq_getElem hi
  have g : bs.getD i [] = bs[i] := by rw [List.getD_eq_getElem?_getD, e]; rfl
  exact ⟨by rw [g]; exact e, by rw [g]; exact h _ (List.getElem_mem hi)⟩
/-- the steps of a right derivation (what asks of agreements left out) -/
def DerOk (nb : Nat) (steps : List Stp) : Prop := ∀ i s, steps[i]? = some s → StOk nb i s
theorem atI_m1 {ys : List V} {v : V} (h : ys[ys.length - 1]? = some v) : atI ys (-1) = some v := by
  have ne : ys ≠ [] := by intro z; rw [z] at h; cases h
  have e := List.dropLast_concat_getLast ne
  have l : ys.getLast ne = v := by
    rw [List.getLast_eq_getElem]
    exact (List.getElem?_eq_some_iff.mp h).2
  rw [l] at e
  rw [← e]
  exact atI_last _ _
theorem along_len (bs : List (List Int)) : ∀ (ss : List Stp) (kn : List (List Int)), (along bs ss kn).length = kn.length + ss.length
  | [], kn => rfl
  | s :: ss, kn => by
    show (along bs ss (kn ++ [recOf bs kn s])).length = _
    rw [along_len bs ss]
    simp only [List.length_append, List.length_cons, List.length_nil]
    omega
end CK
namespace CK
open PySem PySem.Spec PyProof.Rows L2 VG FR HD
end CK
namespace CK
open PySem PySem.Spec PyProof.Rows L2 VG FR HD
end CK
namespace CK
open PySem PySem.Spec PyProof.Rows L2 VG FR HD
mutual
inductive Dv (K : PySem.W.Frag) (H : Hp) : V → PyData → Prop
  | non : Dv K H .non .none
  | bl (b : Bool) : Dv K H (.bl b) (.bool b)
  | int (i : Int) : Dv K H (.int i) (.int i)
  | str (x : Str) : Dv K H (.str x) (.str x)
  | lst {a : Addr} {xs : List V} {ds : List PyData} : H a = some (.lst xs) → DvAll K H xs ds → Dv K H (.ref a) (.list ds)
  | tup {a : Addr} {xs : List V} {ds : List PyData} : SqT K H a xs → DvAll K H xs ds → Dv K H (.ref a) (.tuple ds)
inductive DvAll (K : PySem.W.Frag) (H : Hp) : List V → List PyData → Prop
  | nil : DvAll K H [] []
  | cons {v : V} {vs : List V} {d : PyData} {ds : List PyData} : Dv K H v d → DvAll K H vs ds → DvAll K H (v :: vs) (d :: ds)
end
mutual
theorem Dv.mono {K : PySem.W.Frag} {H H' : Hp} (e : Same H H') : ∀ {v : V} {d : PyData}, Dv K H v d → Dv K H' v d
  | _, _, .non => .non
  | _, _, .bl b => .bl b
  | _, _, .int i => .int i
  | _, _, .str x => .str x
  | _, _, .lst h r => .lst (e _ _ h) (DvAll.mono e r)
  | _, _, .tup h r => .tup (seqT e h) (DvAll.mono e r)
theorem DvAll.mono {K : PySem.W.Frag} {H H' : Hp} (e : Same H H') : ∀ {vs : List V} {ds : List PyData}, DvAll K H vs ds → DvAll K H' vs ds
  | _, _, .nil => .nil
  | _, _, .cons h r => .cons (Dv.mono e h) (DvAll.mono e r)
end
theorem DvAll.len {K : PySem.W.Frag} {H : Hp} : ∀ {vs : List V} {ds : List PyData}, DvAll K H vs ds → vs.length = ds.length
  | _, _, .nil => rfl
  | _, _, .cons _ r => by rw [List.length_cons, List.length_cons, r.len]
theorem at00 (x : V) (xs : List V) : atI (x :: xs) 0 = some x := atI_nat (j := 0) rfl
def intO : PyData → Option Int
  | .int a => some a
  | _ => none
def isTupD : PyData → Bool
  | .tuple _ => true
  | _ => false
theorem kLI : kitB "list" "int" = some false := by decide +kernel
theorem kLB : kitB "list" "bool" = some false := by decide +kernel
theorem kBT : kitB "bool" "tuple" = some false := by decide +kernel
theorem Dv.part {K : PySem.W.Frag} {H : Hp} {v : V} {d : PyData} (h : Dv K H v d) : Part K H v (intO d) := by
  cases h with
  | non => exact .inr ⟨rfl, "NoneType", false, false, .base .non, kitN1, kitN2, rfl⟩
  | bl b => exact part_bl b
  | int i => exact .inl ⟨i, rfl, rfl⟩
  | str x => exact .inr ⟨rfl, "str", false, false, .base (.str _), kitS1, kitS2, rfl⟩
  | lst h r => exact .inr ⟨rfl, "list", false, false, .base (.lst h), kLI, kLB, rfl⟩
  | tup h r => exact part_tup h
theorem Dv.noTup {K : PySem.W.Frag} {H : Hp} {v : V} {d : PyData} (h : Dv K H v d) (n : isTupD d = false) : ∃ ty : String, TyX K H v (.type ty) ∧ kitB ty "tuple" = some false := by
  cases h with
  | non => exact ⟨"NoneType", .base .non, kNT⟩
  | bl b => exact ⟨"bool", .base (.bl b), kBT⟩
  | int i => exact ⟨"int", .base (.int i), kIT⟩
  | str x => exact ⟨"str", .base (.str x), kST⟩
  | lst h r => exact ⟨"list", .base (.lst h), kLT⟩
  | tup h r => cases n
theorem Dv.isT {K : PySem.W.Frag} {H : Hp} {v : V} {ds : List PyData} (h : Dv K H v (.tuple ds)) : ∃ a xs, v = .ref a ∧ SqT K H a xs ∧ DvAll K H xs ds := by
  cases h with
  | tup h r => exact ⟨_, _, rfl, h, r⟩
def numO : Option Int → Bool
  | some a => decide (0 ≤ a)
  | none => false
def belowO (n : Int) : Option Int → Bool
  | some a => decide (0 ≤ a ∧ a < n)
  | none => false
def spNumA (K : PySem.W.Frag) : Sp := fun vs H Q _ => ∃ (v : V) (o : Option Int), vs = [v] ∧ Part K H v o ∧ Q (.bl (numO o)) H
def spBelowA (K : PySem.W.Frag) : Sp := fun vs H Q _ => ∃ (v : V) (o : Option Int) (n : Int), vs = [v, .int n] ∧ Part K H v o ∧ Q (.bl (belowO n o)) H
end CK
namespace CK
open PySem PySem.Spec PyProof.Rows L2 VG FR HD
end CK
namespace CK
open PySem PySem.Spec PyProof.Rows L2 VG FR HD
def shortD : PyData → Prop
  | .tuple ds => ds.length ≤ 1000
  | _ => True
theorem DvAll.get {K : PySem.W.Frag} {H : Hp} : ∀ {xs : List V} {ds : List PyData} {i : Nat} {x : V}, DvAll K H xs ds → xs[i]? = some x → ∃ d, ds[i]? = some d ∧ Dv K H x d
  | _, _, i, x, .nil, e => by simp at e
  | _, _, 0, x, .cons h _, e => by
    have e1 := Option.some.inj e
    subst e1
    exact ⟨_, rfl, h⟩
  | _, _, i + 1, x, .cons _ r, e => r.get (i := i) e
end CK
namespace CK
open PySem PySem.Spec PyProof.Rows L2 VG FR HD
end CK
namespace CK
open PySem PySem.Spec PyProof.Rows L2 VG FR HD
mutual
theorem Dv.dp {K : PySem.W.Frag} {H : Hp} : ∀ {v : V} {d : PyData}, Dv K H v d → Dp K H v d
  | _, _, .non => .non
  | _, _, .bl b => .bl b
  | _, _, .int i => .int i
  | _, _, .str x => .str x
  | _, _, .lst h r => .lst (.inl (.inl h)) (DvAll.dp r)
  | _, _, .tup h r => .tup h (DvAll.dp r)
theorem DvAll.dp {K : PySem.W.Frag} {H : Hp} : ∀ {vs : List V} {ds : List PyData}, DvAll K H vs ds → DpAll K H vs ds
  | _, _, .nil => .nil
  | _, _, .cons h r => .cons (Dv.dp h) (DvAll.dp r)
end
theorem shaped_nil2 : SeqAt.shaped (.tuple []) = true := by decide
end CK
namespace CK
open PySem PySem.Spec PyProof.Rows L2 VG FR HD
theorem Sts.append {K : PySem.W.Frag} {H : Hp} : ∀ {xs ys : List V} {a b : List Stp}, Sts K H xs a → Sts K H ys b → Sts K H (xs ++ ys) (a ++ b)
  | [], _, [], _, _, h => h
  | _ :: _, _, _ :: _, _, h1, h2 => ⟨h1.1, h1.2.append h2⟩
  | [], _, _ :: _, _, h, _ => h.elim
  | _ :: _, _, [], _, h, _ => h.elim
end CK
namespace CK
open PySem PySem.Spec PyProof.Rows L2 VG FR HD
def refsIn (x : Nat) : Option Stp → Bool
  | some (.less _ i j) => decide (x = i) || decide (x = j)
  | _ => false
def nz (steps : List Stp) : Nat → Nat → Bool
  | 0, x => decide (x + 1 = steps.length)
  | k + 1, x => nz steps k x || (nz steps k (steps.length - 1 - k) && refsIn x steps[steps.length - 1 - k]?)
def tk (k : Nat) : L2.Key × V := ((Sum.inl (k : Int) : L2.Key), .bl true)
end CK
namespace CK
open PySem PySem.Spec PyProof.Rows L2 VG FR HD
theorem along_app (bs : List (List Int)) : ∀ (ss tt : List Stp) (kn : List (List Int)), along bs (ss ++ tt) kn = along bs tt (along bs ss kn)
  | [], _, _ => rfl
  | s :: ss, tt, kn => along_app bs ss tt (kn ++ [recOf bs kn s])
theorem along_pre (bs : List (List Int)) : ∀ (ss : List Stp) (kn : List (List Int)), ∃ r, along bs ss kn = kn ++ r
  | [], kn => ⟨[], (List.append_nil kn).symm⟩
  | s :: ss, kn => by
    obtain ⟨r, e⟩ := along_pre bs ss (kn ++ [recOf bs kn s])
    exact ⟨recOf bs kn s :: r, by show along bs ss (kn ++ [recOf bs kn s]) = _; rw [e]; simp⟩
theorem along_len0 (bs : List (List Int)) (ss : List Stp) : (along bs ss []).length = ss.length := by
  rw [along_len, List.length_nil, Nat.zero_add]
theorem along_takeE (bs : List (List Int)) (ss : List Stp) (i : Nat) : (along bs ss []).take i = along bs (ss.take i) [] := by
  obtain ⟨r, e⟩ := along_pre bs (ss.drop i) (along bs (ss.take i) [])
  rw [← along_app, List.take_append_drop] at e
  by_cases hi : i ≤ ss.length
  · have l : (along bs (ss.take i) []).length = i := by rw [along_len0, List.length_take]; omega
    rw [e, List.take_left' l]
  · rw [List.take_of_length_le (by rw [along_len0]; omega), List.take_of_length_le (by omega)]
theorem getD_take {R : List (List Int)} {a i : Nat} (h : a < i) : (R.take i).getD a [] = R.getD a [] := by
  rw [List.getD_eq_getElem?_getD, List.getD_eq_getElem?_getD, List.getElem?_take, if_pos h]
def RStp (nb many : Nat) (R : List (List Int)) (i : Nat) : Stp → Prop
  | .tot t s => t < nb ∧ (s = 1 ∨ s = -1)
  | .less c a b => c < many ∧ a < i ∧ b < i ∧ beyB (R.getD a []) = false ∧ beyB (R.getD b []) = false ∧ (agrL (R.getD a []) (R.getD b [])).contains (c : Int) = true
def RD (bs : List (List Int)) (many : Nat) (steps : List Stp) : Prop := ∀ i s, steps[i]? = some s → RStp bs.length many (along bs steps []) i s
theorem RD.ok {bs : List (List Int)} {many : Nat} {steps : List Stp} (h : RD bs many steps) : DerOk bs.length steps := fun i s e => by
  have r := h i s e
  cases s with
  | tot t s => exact r
  | less c a b => exact ⟨r.2.1, r.2.2.1⟩
theorem RStp.take {nb many i : Nat} {R : List (List Int)} : ∀ {s : Stp}, RStp nb many (R.take i) i s ↔ RStp nb many R i s
  | .tot t s => Iff.rfl
  | .less c a b => by
    constructor
    · rintro ⟨h1, h2, h3, h4, h5, h6⟩
      rw [getD_take h2] at h4 h6
      rw [getD_take h3] at h5 h6
      exact ⟨h1, h2, h3, h4, h5, h6⟩
    · rintro ⟨h1, h2, h3, h4, h5, h6⟩
      refine ⟨h1, h2, h3, ?_, ?_, ?_⟩
      · rw [getD_take h2]; exact h4
      · rw [getD_take h3]; exact h5
      · rw [getD_take h2, getD_take h3]; exact h6
theorem RD.take {bs : List (List Int)} {many : Nat} {steps : List Stp} (h : RD bs many steps) (k : Nat) : RD bs many (steps.take k) := fun i s e => by
  have hi : i < k := by
    have := (List.getElem?_eq_some_iff.mp e).1
    rw [List.length_take] at this
    omega
  rw [List.getElem?_take, if_pos hi] at e
  have r := RStp.take.mpr (h i s e)
  rw [along_takeE] at r
  refine RStp.take.mp ?_
  rw [along_takeE, List.take_take, show min i k = i from by omega]
  exact r
theorem RD.more {bs : List (List Int)} {many : Nat} {steps : List Stp} (h : RD bs many steps) {s : Stp} (hs : RStp bs.length many (along bs steps []) steps.length s) : RD bs many (steps ++ [s]) := fun i x e => by
  refine RStp.take.mp ?_
  rw [along_takeE]
  by_cases hi : i < steps.length
  · rw [List.getElem?_append_left hi] at e
    rw [List.take_append_of_le_length (by omega), ← along_takeE]
    exact RStp.take.mpr (h i x e)
  · have hi2 : i = steps.length := by
      have := (List.getElem?_eq_some_iff.mp e).1
      rw [List.length_append] at this
      simp only [List.length_cons, List.length_nil] at this
      omega
    subst hi2
    rw [List.getElem?_append_right (Nat.le_refl _), Nat.sub_self] at e
    have e := Option.some.inj e
    subst e
    rw [List.take_left]
    exact hs
end CK
namespace CK
open PySem PySem.Spec PyProof.Rows L2 VG FR HD
end CK
namespace CK
open PySem PySem.Spec PyProof.Rows L2 VG FR HD
theorem Sts.keep {K : PySem.W.Frag} {H H' : Hp} {p q : Addr} (hd : Hd p q H) (kp : Keep p q H H') : ∀ {vs : List V} {cs : List Stp}, Sts K H vs cs → Sts K H' vs cs
  | [], [], _ => trivial
  | _ :: _, _ :: _, ⟨⟨t, e1, h⟩, r⟩ => ⟨⟨t, e1, seqTK hd kp h⟩, r.keep hd kp⟩
  | [], _ :: _, h => h.elim
  | _ :: _, [], h => h.elim
theorem Tots.keep {K : PySem.W.Frag} {H H' : Hp} {p q : Addr} (hd : Hd p q H) (kp : Keep p q H H') : ∀ {vs : List V} {cs : List (List Int)}, Tots K H vs cs → Tots K H' vs cs
  | [], [], _ => trivial
  | _ :: _, _ :: _, ⟨⟨t, e1, h⟩, r⟩ => ⟨⟨t, e1, seqTK hd kp h⟩, Tots.keep hd kp r⟩
  | [], _ :: _, h => h.elim
  | _ :: _, [], h => h.elim
theorem shaped_tots (ts : List (List Int)) : SeqAt.shaped (.list (ts.map dI)) = true := by
  have h : PyData.canLayAll0 (ts.map dI) = true ∧ PyData.depthAll (ts.map dI) ≤ 1 := by
    induction ts with
    | nil => exact ⟨rfl, Nat.zero_le _⟩
    | cons t ts ih =>
      refine ⟨?_, ?_⟩
      · show (PyData.canLay0 (dI t) && PyData.canLayAll0 (ts.map dI)) = true
        rw [ih.1, Bool.and_true]
        exact PySem.W.ke_canLayAll0 t
      · show max (PyData.depthAll (t.map PyData.int) + 1) (PyData.depthAll (ts.map dI)) ≤ 1
        rw [PySem.W.ke_depthAll]
        exact Nat.max_le.mpr ⟨Nat.le_refl _, ih.2⟩
  unfold SeqAt.shaped
  have e1 : PyData.canLay0 (.list (ts.map dI)) = true := h.1
  have e2 : PyData.depth (.list (ts.map dI)) ≤ 64 := by
    show PyData.depthAll _ + 1 ≤ 64
    have := h.2
    omega
  rw [e1, decide_eq_true e2]
  rfl
end CK
namespace VG
open PySem PySem.Spec PyProof.Rows L2
end VG
namespace CK
open PySem PySem.Spec PyProof.Rows L2 VG FR HD
end CK
namespace CK
open PySem PySem.Spec PyProof.Rows L2 VG FR HD
def Gd (n : Nat) (d : PyData) : Prop := d.canLay0 = true ∧ d.depth ≤ n
theorem gd_all {n : Nat} : ∀ {ds : List PyData}, (∀ d ∈ ds, Gd n d) → PyData.canLayAll0 ds = true ∧ PyData.depthAll ds ≤ n
  | [], _ => ⟨rfl, Nat.zero_le _⟩
  | d :: ds, h => by
    have ⟨a1, a2⟩ := h d List.mem_cons_self
    have ⟨b1, b2⟩ := gd_all (ds := ds) fun e he => h e (List.mem_cons_of_mem _ he)
    refine ⟨?_, ?_⟩
    · show (PyData.canLay0 d && PyData.canLayAll0 ds) = true
      rw [a1, b1]
      rfl
    · show max (PyData.depth d) (PyData.depthAll ds) ≤ n
      omega
theorem gd_tup {n : Nat} {ds : List PyData} (h : ∀ d ∈ ds, Gd n d) : Gd (n + 1) (.tuple ds) := ⟨(gd_all h).1, Nat.succ_le_succ (gd_all h).2⟩
theorem gd_int (n : Nat) (a : Int) : Gd n (.int a) := ⟨rfl, Nat.zero_le _⟩
theorem gd_str (n : Nat) {x : Str} (h : PyData.strOk x = true) : Gd n (.str x) := ⟨h, Nat.zero_le _⟩
theorem Gd.up {n m : Nat} {d : PyData} (h : Gd n d) (hm : n ≤ m) : Gd m d := ⟨h.1, Nat.le_trans h.2 hm⟩
theorem Gd.shaped {n : Nat} {d : PyData} (h : Gd n d) (hn : n ≤ 64) : SeqAt.shaped d = true := by
  unfold SeqAt.shaped
  rw [h.1, decide_eq_true (Nat.le_trans h.2 hn)]
  rfl
theorem shn_str {x : Str} (h : (PyData.str x).shown.length ≤ 25) : Shn (.str x) 0 25 := ⟨by simp [PyData.showable], by simp [PyData.hasDict], by simp [PyData.depth], h⟩
theorem shn_i24 {a : Int} (h : a.natAbs < 2 ^ 24) : Shn (.int a) 0 25 := shn_int (by decide) h (by decide)
end CK
namespace CK
open PySem PySem.Spec PyProof.Rows L2 VG FR HD
end CK
namespace CK
open PySem PySem.Spec PyProof.Rows L2 VG FR HD
/-- lists of ints, none of them D -/
def LsD (D : Addr) (H : Hp) : List V → List (List Int) → Prop
  | [], [] => True
  | v :: vs, c :: cs => (∃ t, v = .ref t ∧ t ≠ D ∧ H t = some (.lst (c.map V.int))) ∧ LsD D H vs cs
  | _, _ => False
theorem LsD.mono {D : Addr} {H H' : Hp} (e : Same H H') : ∀ {vs : List V} {cs : List (List Int)}, LsD D H vs cs → LsD D H' vs cs
  | [], [], _ => trivial
  | _ :: _, _ :: _, ⟨⟨t, e1, n, h⟩, r⟩ => ⟨⟨t, e1, n, e _ _ h⟩, r.mono e⟩
  | [], _ :: _, h => h.elim
  | _ :: _, [], h => h.elim
theorem LsD.len {D : Addr} {H : Hp} : ∀ {vs : List V} {cs : List (List Int)}, LsD D H vs cs → vs.length = cs.length
  | [], [], _ => rfl
  | _ :: _, _ :: _, h => by rw [List.length_cons, List.length_cons, h.2.len]
  | [], _ :: _, h => h.elim
  | _ :: _, [], h => h.elim
theorem LsD.snoc {D : Addr} {H : Hp} {t : Addr} {c : List Int} (n : t ≠ D) (h : H t = some (.lst (c.map V.int))) : ∀ {vs : List V} {cs : List (List Int)}, LsD D H vs cs → LsD D H (vs ++ [.ref t]) (cs ++ [c])
  | [], [], _ => ⟨⟨t, rfl, n, h⟩, trivial⟩
  | _ :: _, _ :: _, q => ⟨q.1, q.2.snoc n h⟩
  | [], _ :: _, q => q.elim
  | _ :: _, [], q => q.elim
theorem LsD.upd {D : Addr} {H : Hp} {o : HO} : ∀ {vs : List V} {cs : List (List Int)}, LsD D H vs cs → LsD D (L2.upd H D o) vs cs
  | [], [], _ => trivial
  | _ :: _, _ :: _, ⟨⟨t, e1, n, h⟩, r⟩ => ⟨⟨t, e1, n, by rw [upd_ne n]; exact h⟩, r.upd⟩
  | [], _ :: _, h => h.elim
  | _ :: _, [], h => h.elim
theorem LsD.get {D : Addr} {H : Hp} : ∀ {vs : List V} {cs : List (List Int)} {i : Nat}, LsD D H vs cs → i < cs.length → ∃ t, vs[i]? = some (.ref t) ∧ H t = some (.lst ((cs.getD i []).map V.int))
  | v :: _, _ :: _, 0, h, _ => by
    obtain ⟨t, e, _, q⟩ := h.1
    exact ⟨t, congrArg some e, q⟩
  | _ :: vs, _ :: cs, i + 1, h, l => h.2.get (i := i) (by simpa using l)
  | [], [], _, _, l => by simp at l
  | [], _ :: _, _, h, _ => h.elim
  | _ :: _, [], _, h, _ => h.elim
end CK
namespace CK
open PySem PySem.Spec PyProof.Rows L2 VG FR HD
end CK
namespace VG
open PySem PySem.Spec PyProof.Rows L2 HT
end VG
namespace CK
open PySem PySem.Spec PyProof.Rows L2 VG FR HD
def Lv (K : PySem.W.Frag) (G : Hp) (n : Nat) (v : V) : Prop := ∃ e, Dv K G v e ∧ Gd n e ∧ shortD e ∧ ∀ ds, e = .tuple ds → ∀ x ∈ ds, shortD x
theorem Lv.mono {K : PySem.W.Frag} {G G' : Hp} {n : Nat} {v : V} (s : Same G G') (h : Lv K G n v) : Lv K G' n v := by
  obtain ⟨e, h1, h2⟩ := h
  exact ⟨e, h1.mono s, h2⟩
theorem Lv.up {K : PySem.W.Frag} {G : Hp} {n m : Nat} {v : V} (h : Lv K G n v) (hm : n ≤ m) : Lv K G m v := by
  obtain ⟨e, h1, h2, h3⟩ := h
  exact ⟨e, h1, h2.up hm, h3⟩
theorem toG {K : PySem.W.Frag} {H : Hp} {p q t : Addr} {xs : List V} (hd : Hd p q H) (h : SqT K H t xs) : SqT K (frz p q H) t xs := seqTK hd keep_frz h
end CK
namespace CK
open PySem PySem.Spec PyProof.Rows L2 VG FR HD
end CK
namespace CK
open PySem PySem.Spec PyProof.Rows L2 VG FR HD
end CK
namespace CK
open PySem PySem.Spec PyProof.Rows L2 VG FR HD
def kA : List Str := ["a", "b", "c"]
def k0 : List Str := ["a"]
def S5 : List Stp := [.tot 0 1, .tot 1 1, .less 1 0 1, .tot 2 1, .less 0 3 2]
end CK
namespace VG
open PySem PySem.Spec PyProof.Rows L2
abbrev blankT : Obj := { cls := .none, data := .fields #[] }
/-- the places of the tables -/
def tabP (cs : List (Addr × Addr)) : List Addr := cs.map Prod.snd
theorem tabP_of {cs : List (Addr × Addr)} {c : Addr × Addr} (h : c ∈ cs) : c.2 ∈ tabP cs := List.mem_map_of_mem h
section
variable {P : Program} {w : World} {K : PySem.W.Frag} {mg mb : Str → Option Value}
theorem law_callGT {k : Nat} {fa a : Addr} {cs : List (Addr × Addr)} {fd : FuncData} {x : Str} {sp : Sp} {S0 : Shared} {us : List Value} {ns : List Int}
    (inK : K.In S0.heap) (gns : S0.heap.Ns mainGlobals mg) (bns : S0.heap.Ns builtinsNs mb) (boot : ∀ y : Str, y ≠ "__name__" → mb y = bootBuiltins y) (lim : S0.heap.NoLimit) (gen0 : S0.gens = #[])
    (tb : ∀ c ∈ cs, S0.heap.get? c.2 = some blankT) (tk : ∀ c ∈ cs, K.lookup c.2 = none) (th : ∀ c ∈ cs, PySem.W.CodeHd S0.heap c.1 c.2)
    (bm : ∃ (m : Addr) (ob : Obj), mg "__builtins__" = some (.ref m) ∧ m ≠ builtinsNs ∧ S0.heap.get? m = some ob ∧ ob.cls = .type "module" ∧ ob.dict = some builtinsNs ∧ ob.data = .plain)
    (ga : S0.heap.get? a = some { cls := .type "list", data := .seq us.toArray }) (isInts : IntsAre us ns) (short : ns.length ≤ sizeLine) (room : Room k callerA)
    (F : ∀ base : Heap, K.In base → base.Ns mainGlobals mg → (∀ c ∈ cs, LamX.TabB base mg c.1 c.2) → FnG P w K mg base k fa fd [x] sp) (binds : ∀ (s : Shared) (u : Value), BindsTo s fd ⟨[u], []⟩ [(x, u)])
    (told : ∀ H : Hp, (∀ c ∈ cs, H c.2 = some (.tbl #[])) → SqL K H a (ns.map V.int) → sp [.ref a] H (fun v _ => v = .bl true) fun _ _ _ => False) :
    codeAny (model P w) callerA (.call (.ref fa) ⟨[.ref a], []⟩) (fun r s' => r = .ok (.ret (.bool true)) ∧ OldK S0.heap s'.heap ∧ s'.os = S0.os ∧ AllBare s'.gens) S0 := by
  have vals := vals_ints isInts
  have nl := isInts.length
  have tabAt : ∀ {b : Addr}, b ∈ tabP cs → S0.heap.get? b = some blankT := by
    intro b m
    obtain ⟨c, mc, rfl⟩ := List.mem_map.mp m
    exact tb c mc
  have aOut : a ∉ tabP cs := by
    intro m
    have e := ga.symm.trans (tabAt m)
    have e2 := congrArg Obj.data (Option.some.inj e)
    cases e2
  -- the run, from a heap of which the script and the tables alone may be known
  have go : ∀ H : Hp, (∀ c ∈ cs, H c.2 = some (.tbl #[])) → SqL K H a (ns.map V.int) → HOk P w H S0.heap →
      (∀ b, H b = none ∨ b ∈ tabP cs ∨ (b = a ∧ ∃ ob ys, H b = some (.frz ob (.lst ys)))) → (H a ≠ none → K.lookup a = none) →
      codeAny (model P w) callerA (.call (.ref fa) ⟨[.ref a], []⟩) (fun r s' => r = .ok (.ret (.bool true)) ∧ OldK S0.heap s'.heap ∧ s'.os = S0.os ∧ AllBare s'.gens) S0 := by
    intro H hT hS hOk kinds hKa
    have untold : ∀ {b : Addr} {o : Obj}, S0.heap.get? b = some o → (∀ z n, o.data ≠ .seq z n) → o.data ≠ .fields #[] → H b = none := by
      intro b o e n1 n2
      rcases kinds b with z | z | ⟨z, _⟩
      · exact z
      · have q := (tabAt z).symm.trans e
        exact absurd (congrArg Obj.data (Option.some.inj q)).symm n2
      · subst z
        have q := ga.symm.trans e
        exact absurd (congrArg Obj.data (Option.some.inj q)).symm (n1 _ _)
    have dictFree : ∀ {b : Addr} {o : Obj} {es : Array DictEntry} {n : Nat}, S0.heap.get? b = some o → o.data = .dict es n → H b = none := by
      intro b o es n e d
      exact untold e (fun z m q => by rw [d] at q; cases q) (fun q => by rw [d] at q; cases q)
    have nsB : ∀ {b : Addr} {m : Str → Option Value}, S0.heap.Ns b m → (hidT S0.heap H).Ns b m := by
      intro b m q
      obtain ⟨o, es, n, e, d, r⟩ := q
      exact ⟨o, es, n, hidT_get e (dictFree e d), d, r⟩
    have kB : K.In (hidT S0.heap H) := by
      intro b o e
      refine hidT_get (inK b o e) ?_
      rcases kinds b with z | z | ⟨z, ob, ys, q⟩
      · exact z
      · obtain ⟨c, mc, rfl⟩ := List.mem_map.mp z
        exact absurd ((tk c mc).symm.trans e) (by simp)
      · subst z
        have q2 := hKa (by rw [q]; exact Option.some_ne_none _)
        exact absurd (q2.symm.trans e) (by simp)
    have md : Mod K mg (hidT S0.heap H) := by
      refine ⟨kB, nsB gns, ⟨mb, nsB bns, boot⟩, ?_⟩
      obtain ⟨m, l1, l2⟩ := lim
      exact ⟨m, nsB l1, l2⟩
    have tabsB : ∀ c ∈ cs, LamX.TabB (hidT S0.heap H) mg c.1 c.2 := by
      intro c mc
      have at2 := tb c mc
      constructor
      · obtain ⟨o, zs, fl, t1, fg, t2, inn, tx, t3, e1, h1, h2, h3, h4, h5, h6, h7, h8, hn⟩ := th c mc
        have keep := untold e1 (fun z n q => by rw [h2] at q; cases q) (fun q => by
          rw [h2] at q
          cases q
          simp at h3)
        exact ⟨o, zs, fl, t1, fg, t2, inn, tx, t3, hidT_get e1 keep, h1, h2, h3, h4, h5, h6, h7, h8, hn⟩
      · obtain ⟨m, ob, m1, m2, m3, m4, m5, m6⟩ := bm
        have notG : m ≠ mainGlobals := by
          intro q
          subst q
          obtain ⟨o, es, n, e, d, _⟩ := gns
          rw [Option.some.inj (m3.symm.trans e), d] at m6
          cases m6
        have notT : m ≠ c.2 := by
          intro q
          subst q
          rw [Option.some.inj (m3.symm.trans at2)] at m6
          cases m6
        have keep := untold m3 (fun z n q => by rw [m6] at q; cases q) (fun q => by rw [m6] at q; cases q)
        exact ⟨m, ob, m1, m2, notG, notT, hidT_get m3 keep, m4, m5, m6⟩
      · intro q
        obtain ⟨o, es, n, e, d, _⟩ := gns
        rw [q] at e
        rw [← Option.some.inj (at2.symm.trans e)] at d
        cases d
    have env0 : Env0 P w K mg (hidT S0.heap H) callerA [] S0 H :=
      ⟨rfl, md, fun b o e => of_hidT e, Nat.le_of_eq (hidT_size _ _), trivial, fun b m => absurd (show b ∈ ([] : List Addr) from m) List.not_mem_nil, hOk, .of_eq gen0⟩
    have ran := (F _ kB (nsB gns) tabsB).run callerA [] S0 H ⟨[.ref a], []⟩ [.ref a] [.ref a] _ _ rfl room env0 (binds S0 (.ref a)) (.cons rfl .nil) (told H hT hS)
    apply codeAny_mono ran
    intro r s' got
    match r, got with
    | .ok (.ret u), got =>
      obtain ⟨v, H', os, bare, un, hOk', rv, q⟩ := got
      have q : v = .bl true := q
      subst q
      have rv : u = Value.bool true := rv
      subst rv
      have kept : ∀ {b : Addr} {o : Obj}, b ∉ tabP cs → S0.heap.get? b = some o → s'.heap.get? b = some o := by
        intro b o nb e
        rcases kinds b with z | z | ⟨_, ob, ys, z⟩
        · exact un.keep b o e z (fun m => absurd (show b ∈ ([] : List Addr) from m) List.not_mem_nil) List.not_mem_nil
        · exact absurd z nb
        · have w1 := (hOk b _ z).1
          have w2 := (hOk' b _ (un.frzs b ob _ z)).1
          rw [Option.some.inj (e.symm.trans w1)]
          exact w2
      have more : ∀ c ∈ cs, ∃ ps : Array Value, s'.heap.get? c.2 = some { cls := .none, data := .fields ps } := by
        intro c mc
        obtain ⟨ps, z⟩ := un.tbls c.2 #[] (hT c mc)
        exact ⟨_, hOk' c.2 _ z⟩
      refine ⟨rfl, ⟨?_, ?_⟩, os, bare⟩
      · intro b o e
        by_cases m : b ∈ tabP cs
        · obtain ⟨c, mc, rfl⟩ := List.mem_map.mp m
          obtain ⟨ps, hp⟩ := more c mc
          have eo := Option.some.inj (e.symm.trans (tb c mc))
          subst eo
          refine .inr (.inl ⟨((th c mc).tab (tb c mc)).isCodeTable, rfl, #[], ps, rfl, ?_⟩)
          rw [Array.empty_append]
          exact hp
        · exact .inl (kept m e)
      · intro b o e
        by_cases m : b ∈ tabP cs
        · obtain ⟨c, mc, rfl⟩ := List.mem_map.mp m
          obtain ⟨ps, hp⟩ := more c mc
          exact ⟨_, hp⟩
        · exact ⟨o, kept m e⟩
  cases hk : K.lookup a with
  | some o =>
    have eo := Option.some.inj ((inK a o hk).symm.trans ga)
    subst eo
    refine go (fun b => if b ∈ tabP cs then some (.tbl #[]) else none) (fun c mc => if_pos (tabP_of mc)) ?_ ?_ ?_ ?_
    · refine .inr ⟨_, us.toArray, _, hk, rfl, rfl, rfl, ?_, by simpa using vals⟩
      rw [List.size_toArray, nl]
      exact short
    · intro b u z
      by_cases m : b ∈ tabP cs
      · have z' := (if_pos m).symm.trans z
        cases z'
        exact tabAt m
      · exact absurd ((if_neg m).symm.trans z) (by simp)
    · intro b
      by_cases m : b ∈ tabP cs
      · exact .inr (.inl m)
      · exact .inl (if_neg m)
    · intro q
      exact absurd (if_neg aOut) q
  | none =>
    refine go (fun b => if b = a then some (.frz { cls := .type "list", data := .seq us.toArray } (.lst (ns.map V.int))) else if b ∈ tabP cs then some (.tbl #[]) else none) (fun c mc => ?_) (.inl (.inr ⟨{ cls := .type "list", data := .seq us.toArray }, if_pos rfl⟩)) ?_ ?_ (fun _ => hk)
    · have ne : ¬ c.2 = a := fun q => aOut (q ▸ tabP_of mc)
      exact (if_neg ne).trans (if_pos (tabP_of mc))
    · intro b u z
      by_cases m : b = a
      · subst m
        have z' := (if_pos rfl).symm.trans z
        cases z'
        refine ⟨ga, ?_, us, _, vals, ga⟩
        rw [List.length_map]
        exact short
      · have z1 := (if_neg m).symm.trans z
        by_cases m2 : b ∈ tabP cs
        · have z2 := (if_pos m2).symm.trans z1
          cases z2
          exact tabAt m2
        · exact absurd ((if_neg m2).symm.trans z1) (by simp)
    · intro b
      by_cases m : b = a
      · exact .inr (.inr ⟨m, _, _, if_pos m⟩)
      · by_cases m2 : b ∈ tabP cs
        · exact .inr (.inl m2)
        · exact .inl ((if_neg m).trans (if_neg m2))
end
/-- the law's promise, with its tables, at the heap behind the module's top -/
def LawGT (l : PySem.W.OpenLaw) (w : World) (K : PySem.W.Frag) (k n : Nat) (x : Str) (mg : Str → Option Value) (fa : Addr) (h : Heap) : Prop :=
  ∃ (fd : FuncData) (cs : List (Addr × Addr)) (sp : Sp), (∀ c ∈ cs, h.get? c.2 = some blankT) ∧ (∀ c ∈ cs, K.lookup c.2 = none) ∧ (∀ c ∈ cs, PySem.W.CodeHd h c.1 c.2) ∧ (∀ (s : Shared) (u : Value), BindsTo s fd ⟨[u], []⟩ [(x, u)]) ∧
    (∀ (H : Hp) (a : Addr) (ns : List Int), ns.length ≤ n → (∀ z ∈ ns, Builtin.Int.intBits z ≤ 1048576) → (∀ c ∈ cs, H c.2 = some (.tbl #[])) → SqL K H a (ns.map V.int) → sp [.ref a] H (fun v _ => v = .bl true) fun _ _ _ => False) ∧
    ∀ base : Heap, K.In base → base.Ns mainGlobals mg → (∀ c ∈ cs, LamX.TabB base mg c.1 c.2) → FnG l.prog w K mg base k fa fd [x] sp
theorem walk_GT {l : PySem.W.OpenLaw} {n k : Nat} {q : Program} {loose : List Str} {XP : (Str → Option Value) → Heap → Prop} {YP : World → Heap → Prop} {d : DefRec} {K : Params → PySem.W.Frag} {x : Str}
    (hn : l.most = some n) (hn2 : n ≤ sizeLine) (hdf : d.params.defaults = []) (hr : Room k callerA) (hY : ∀ (w : World) (h : Heap), YP w h → (K w.params).In h)
    (F : ∀ (w : World) (mg : Str → Option Value) (fa : Addr) (h : Heap), YP w h → (K w.params).In h → h.Ns mainGlobals mg → mg d.name = some (.ref fa) → LawGT l w (K w.params) k n x mg fa h) :
    PySem.W.WalkO q loose XP YP l.row.toRowW d [] (fun f vs => PySem.call f vs) := by
  apply Att.attach_callB hn hdf
  intro w s₀ s₁ mg mb fa o pm cd doc a vs ns G Y ho hd hcd hmg hobj hints hlen hbits hg
  have inK := hY w _ Y
  obtain ⟨fd, cs, sp, tb, tk, th, bi, told, FF⟩ := F w mg fa _ Y inK G.T.g hmg
  exact law_callGT inK G.T.g G.T.b G.T.builtins G.T.nolimit hg tb tk th G.T.bmain hobj hints (Nat.le_trans hlen hn2) hr FF bi fun H hH hS => told H a ns hlen hbits hH hS
end VG
namespace CK
open PySem PySem.Spec PyProof.Rows L2 VG FR HD
theorem takes_len {X : Cx} {W : WX} (t : Takes X W) : Takes X (fun c d σ H => σ.length = X.N.length → W c d σ H) := fun u s' ⟨a, B, sI, pins, σ, H, cls, d, e, I, nb, up, sky, na, os, ag, w⟩ =>
  t u s' ⟨a, B, sI, pins, σ, H, cls, d, e, I, nb, up, sky, na, os, ag, w I.len⟩
theorem get_set_len {α : Type} {σ : List α} {n : Nat} {x : α} (h : σ.length = n) {i : Nat} (hi : i < n) : (σ.set i x)[i]? = some x := by
  rw [List.getElem?_set_self (by omega)]
end CK
namespace VG
open PySem PySem.Spec PyProof.Rows L2
/-- a def's facts, its code object at c -/
structure FunC (K : PySem.W.Frag) (x qual : Str) (st : Stmt) (f : Addr) (fd : FuncData) (c : Addr) : Prop where
  it : ∃ (cl : Value) (dc ann : Option Addr) (kws dd md cts : Value) (sl : Array (Option Value)),
    fd = PySem.W.fnOf x qual (defArgs st) (defBody st) (defScope st) .none kws dd md ann (.ref c) cts ∧ K.lookup f = some ⟨cl, dc, .func fd, sl⟩ ∧ PySem.W.codeIn K (.ref c) qual = true
  keep : PySem.W.keepIn K (.ref f) = true
theorem funC_mk {K : PySem.W.Frag} {x qual : Str} {st : Stmt} {f c : Addr} {cl : Value} {dc ann : Option Addr} {sl : Array (Option Value)} {kws dd md cts : Value}
    (at1 : K.lookup f = some ⟨cl, dc, .func (PySem.W.fnOf x qual (defArgs st) (defBody st) (defScope st) .none kws dd md ann (.ref c) cts), sl⟩)
    (at2 : PySem.W.codeIn K (.ref c) qual = true) (at3 : PySem.W.keepIn K (.ref f) = true) : FunC K x qual st f (PySem.W.fnOf x qual (defArgs st) (defBody st) (defScope st) .none kws dd md ann (.ref c) cts) c :=
  ⟨⟨cl, dc, ann, kws, dd, md, cts, sl, rfl, at1, at2⟩, at3⟩
theorem FunC.fun {K : PySem.W.Frag} {x qual : Str} {st : Stmt} {f c : Addr} {fd : FuncData} (F : FunC K x qual st f fd c) : Fun K x qual st f fd := by
  obtain ⟨cl, dc, ann, kws, dd, md, cts, sl, e1, e2, e3⟩ := F.it
  exact ⟨⟨cl, dc, kws, dd, md, ann, .ref c, cts, sl, e1, e2, e3⟩, F.keep⟩
section
variable {P : Program} {w : World} {K : PySem.W.Frag} {mg : Str → Option Value} {base : Heap}
theorem fnGC_of {k : Nat} {f c : Addr} {x qual : Str} {st : Stmt} {fd : FuncData} {N ps : List Str} {sp : Sp} (F : FunC K x qual st f fd c) (S : FnScope N ps (defScope st))
    (many : ∀ vs H Q E, sp vs H Q E → vs.length = ps.length)
    (body : ∀ (A : Around) (outer : List Env) (s : Shared) (H : Hp) (vs : List V) (Q : VK) (E : XK), A.guards = some [] →
      Room k (A.deeper (envOfC qual (defScope st) s.heap.objs.size f (.ref c))) → sp vs H Q E →
      ∃ t, PSs (cxOf CX0 P w K mg base N qual (defScope st) f (.ref c) A outer s H E).nox (defBody st) t ∧ t { nx := fun _ G => Q .non G, rt := Q } (start N vs) H) :
    FnG P w K mg base (k + 1) f fd ps sp := by
  obtain ⟨cl, dc, ann, kws, dd, md, cts, sl, rfl, at1, at2⟩ := F.it
  refine ⟨many, ?_⟩
  intro A outer s H args us vs Q E gs room env0 binds vals told
  have len := many _ _ _ _ told
  have inS : K.In s.heap := env0.mod.kin.keeps fun b o e => (env0.bs b o e).1
  have noLimit : s.heap.NoLimit := env0.mod.nolimit.keeps fun b o e => (env0.bs b o e).1
  have own : ∀ y ∈ ps.zip us, (defScope st).names.lookup y.1 = some .local ∨
      ((defScope st).names.lookup y.1 = some .cell ∧ ((cellsFrom (s.heap.objs.size + 1) (defScope st).names []).lookup y.1).isSome = true) := by
    rintro ⟨n, u⟩ mem
    rcases S.par n (List.of_mem_zip mem).1 with isL | isC
    · exact .inl isL
    · exact .inr ⟨isC, PySem.W.cellsFrom_some _ _ _ (.inl isC)⟩
  apply codeAny_call_function room.depth (inS _ _ at1) rfl S.co S.gen rfl (PySem.W.codeRec_of inS at2) (binds _ _ _ _ _)
  apply wpAny_newFunctionEnv_cells S.kind own
  intro env same s1 made
  subst same
  refine ⟨noLimit.keeps made.toInCall.keep, codeAny_func ?_⟩
  obtain ⟨t, run, told2⟩ := body A outer s H vs Q E gs (room.deeper _) told
  have I := inv_start (CX := CX0) (P := P) (w := w) (E := E) S room.hd env0 len vals made
  refine wpAny_mono (run.nox.run [] s1 (start N vs) H _ I told2) (fun how s2 out => ?_) fun _ _ out => out
  cases how with
  | brk => obtain ⟨_, _, _, no⟩ := out; exact no.elim
  | cont => obtain ⟨_, _, _, no⟩ := out; exact no.elim
  | next => obtain ⟨σ2, G, J, q⟩ := out; exact ⟨.non, G, J.os, J.bare, J.base, J.hok, rfl, q⟩
  | ret u => obtain ⟨v, σ2, G, J, rv, q⟩ := out; exact ⟨v, G, J.os, J.bare, J.base, J.hok, rv, q⟩
end
/-- a heap without tables: what is told of it outlives the making of lambdas -/
def NoTbl (G : Hp) : Prop := ∀ b ps, G b ≠ some (.tbl ps)
theorem NoTbl.over {G H H' : Hp} (n : NoTbl G) (s : Same G H) (e : LamX.ExtN H H') : Same G H' := fun b o h =>
  e b o (s b o h) fun ps z => n b ps (by rw [h, z])
theorem tabs_same {T : List (Addr × Str)} {H H' : Hp} (t : LamX.Tabs T H) (s : Same H H') : LamX.Tabs T H' := t.ext s
/-- a heap but for its tables -/
noncomputable def offT (H : Hp) : Hp := fun b => match H b with
  | some (.tbl _) => none
  | o => o
theorem offT_no (H : Hp) : NoTbl (offT H) := fun b ps h => by
  unfold offT at h
  split at h
  · cases h
  · rename_i n
    exact n ps h
theorem offT_same (H : Hp) : Same (offT H) H := fun b o h => by
  unfold offT at h
  split at h
  · cases h
  · exact h
end VG
namespace CK
open PySem PySem.Spec PyProof.Rows L2 VG FR HD
mutual
inductive Ov (K : PySem.W.Frag) (H : Hp) : V → PyData → Prop
  | non : Ov K H .non .none
  | bl (b : Bool) : Ov K H (.bl b) (.bool b)
  | int (i : Int) : Ov K H (.int i) (.int i)
  | str (x : Str) : Ov K H (.str x) (.str x)
  | dct {a : Addr} : H a = some (.dK []) → Ov K H (.ref a) (.dict [])
  | lst {a : Addr} {xs : List V} {ds : List PyData} : H a = some (.lst xs) → OvAll K H xs ds → Ov K H (.ref a) (.list ds)
  | tup {a : Addr} {xs : List V} {ds : List PyData} : SqT K H a xs → OvAll K H xs ds → Ov K H (.ref a) (.tuple ds)
inductive OvAll (K : PySem.W.Frag) (H : Hp) : List V → List PyData → Prop
  | nil : OvAll K H [] []
  | cons {v : V} {vs : List V} {d : PyData} {ds : List PyData} : Ov K H v d → OvAll K H vs ds → OvAll K H (v :: vs) (d :: ds)
end
mutual
theorem Ov.mono {K : PySem.W.Frag} {H H' : Hp} (e : Same H H') : ∀ {v : V} {d : PyData}, Ov K H v d → Ov K H' v d
  | _, _, .non => .non
  | _, _, .bl b => .bl b
  | _, _, .int i => .int i
  | _, _, .str x => .str x
  | _, _, .dct h => .dct (e _ _ h)
  | _, _, .lst h r => .lst (e _ _ h) (OvAll.mono e r)
  | _, _, .tup h r => .tup (seqT e h) (OvAll.mono e r)
theorem OvAll.mono {K : PySem.W.Frag} {H H' : Hp} (e : Same H H') : ∀ {vs : List V} {ds : List PyData}, OvAll K H vs ds → OvAll K H' vs ds
  | _, _, .nil => .nil
  | _, _, .cons h r => .cons (Ov.mono e h) (OvAll.mono e r)
end
theorem OvAll.len {K : PySem.W.Frag} {H : Hp} : ∀ {vs : List V} {ds : List PyData}, OvAll K H vs ds → vs.length = ds.length
  | _, _, .nil => rfl
  | _, _, .cons _ r => by rw [List.length_cons, List.length_cons, r.len]
theorem OvAll.get {K : PySem.W.Frag} {H : Hp} : ∀ {xs : List V} {ds : List PyData} {i : Nat} {x : V}, OvAll K H xs ds → xs[i]? = some x → ∃ d, ds[i]? = some d ∧ Ov K H x d
  | _, _, _, _, .nil, e => by simp at e
  | _, _, 0, _, .cons h _, e => by
    have e1 := Option.some.inj e
    subst e1
    exact ⟨_, rfl, h⟩
  | _, _, i + 1, _, .cons _ r, e => r.get (i := i) e
theorem kDI : kitB "dict" "int" = some false := by decide +kernel
theorem kDB : kitB "dict" "bool" = some false := by decide +kernel
theorem Ov.part {K : PySem.W.Frag} {H : Hp} {v : V} {d : PyData} (h : Ov K H v d) : Part K H v (intO d) := by
  cases h with
  | non => exact .inr ⟨rfl, "NoneType", false, false, .base .non, kitN1, kitN2, rfl⟩
  | bl b => exact part_bl b
  | int i => exact .inl ⟨i, rfl, rfl⟩
  | str x => exact .inr ⟨rfl, "str", false, false, .base (.str _), kitS1, kitS2, rfl⟩
  | dct h => exact .inr ⟨rfl, "dict", false, false, .base (.dK h), kDI, kDB, rfl⟩
  | lst h r => exact .inr ⟨rfl, "list", false, false, .base (.lst h), kLI, kLB, rfl⟩
  | tup h r => exact part_tup h
theorem Ov.noTup {K : PySem.W.Frag} {H : Hp} {v : V} {d : PyData} (h : Ov K H v d) (n : isTupD d = false) : ∃ ty : String, TyX K H v (.type ty) ∧ kitB ty "tuple" = some false := by
  cases h with
  | non => exact ⟨"NoneType", .base .non, kNT⟩
  | bl b => exact ⟨"bool", .base (.bl b), kBT⟩
  | int i => exact ⟨"int", .base (.int i), kIT⟩
  | str x => exact ⟨"str", .base (.str x), kST⟩
  | dct h => exact ⟨"dict", .base (.dK h), kDT⟩
  | lst h r => exact ⟨"list", .base (.lst h), kLT⟩
  | tup h r => cases n
theorem Ov.isT {K : PySem.W.Frag} {H : Hp} {v : V} {ds : List PyData} (h : Ov K H v (.tuple ds)) : ∃ a xs, v = .ref a ∧ SqT K H a xs ∧ OvAll K H xs ds := by
  cases h with
  | tup h r => exact ⟨_, _, rfl, h, r⟩
/-- numbers below n -/
def numsBD (n : Int) : PyData → Bool
  | .tuple ds => ds.all fun d => belowO n (intO d)
  | _ => false
/-- each less than the next -/
def ascB (cs : List Int) : Bool := (cs.zip (cs.drop 1)).all fun p => decide (p.1 < p.2)
def intsD : PyData → List Int
  | .tuple ds => ds.map fun d => (intO d).getD 0
  | _ => []
def lotD (n : Int) (d : PyData) : Bool := numsBD n d && ascB (intsD d)
def nameB (z : Str) : Bool := decide (1 ≤ z.length ∧ z.length ≤ 6) && z.cps.toList.all fun c => decide (c ∈ cLETTERS.cps.toList)
def nameD : PyData → Bool
  | .str z => nameB z
  | _ => false
def namesD : PyData → Bool
  | .tuple ds => ds.all nameD
  | _ => false
end CK
namespace CK
open PySem PySem.Spec PyProof.Rows L2 VG FR HD
def shortS : PyData → Prop
  | .str z => z.length ≤ 1000
  | _ => True
def tupD (n : Nat) : PyData → Bool
  | .tuple ds => decide (ds.length = n)
  | _ => false
def spTupA (K : PySem.W.Frag) : Sp := fun vs H Q _ => ∃ (v : V) (d : PyData) (n : Nat), vs = [v, .int n] ∧ Ov K H v d ∧ Q (.bl (tupD n d)) H
end CK
namespace CK
open PySem PySem.Spec PyProof.Rows L2 VG FR HD
/-- a table that can be -/
structure TabOk (ks : List Str) (ts : List (List Int)) : Prop where
  kinds : KindsOk ks
  len : ts.length ≤ 12
  lots : ∀ c ∈ ts, LotOk (ks.length : Int) c
theorem asc_of : ∀ {cs : List Int}, ascB cs = true → Asc cs
  | [], _ => trivial
  | [_], _ => trivial
  | a :: b :: r, h => by
    have h : (decide (a < b) && ascB (b :: r)) = true := h
    rw [Bool.and_eq_true] at h
    exact ⟨of_decide_eq_true h.1, asc_of h.2⟩
end CK
namespace VG
open PySem PySem.Spec PyProof.Rows L2
end VG
namespace VG
open PySem PySem.Spec PyProof.Rows L2 FR
/-- a tuple of the run, its object told: no dict of its own -/
def TupO (H : Hp) (p : Addr) (xs : List V) : Prop := ∃ ob : Obj, H p = some (.frz ob (.tup xs)) ∧ ob.cls = .type "tuple" ∧ ob.dict = none
theorem TupO.seq {K : PySem.W.Frag} {H : Hp} {p : Addr} {xs : List V} (t : TupO H p xs) : SqT K H p xs :=
  let ⟨ob, e, _, _⟩ := t
  .inl (.inr ⟨ob, e⟩)
theorem TupO.mono {H H' : Hp} {p : Addr} {xs : List V} (t : TupO H p xs) (e : Same H H') : TupO H' p xs :=
  let ⟨ob, e1, e2, e3⟩ := t
  ⟨ob, e _ _ e1, e2, e3⟩
end VG
namespace CK
open PySem PySem.Spec PyProof.Rows L2 VG FR HD
end CK
namespace CK
open PySem PySem.Spec PyProof.Rows L2 VG FR HD
/-- an ascending lot below n has at most n entries -/
theorem lot_small {n : Nat} {c : List Int} (h : LotOk (n : Int) c) : c.length ≤ n := by
  have pw : ∀ (c : List Int) (lo : Int), Asc c → (∀ x ∈ c, lo ≤ x ∧ x < (n : Int)) → (c.length : Int) ≤ (n : Int) - lo ∨ c = [] := by
    intro c
    induction c with
    | nil => intro lo _ _; exact .inr rfl
    | cons x r ih =>
      intro lo ha hb
      left
      have hx := hb x List.mem_cons_self
      cases r with
      | nil => simp; omega
      | cons y r2 =>
        have ha2 : x < y ∧ Asc (y :: r2) := ha
        have asc_all : ∀ (y : Int) (r : List Int), Asc (y :: r) → ∀ z ∈ y :: r, y ≤ z := by
          intro y r
          induction r generalizing y with
          | nil => intro _ z hz; rw [List.mem_singleton.mp hz]; exact Int.le_refl _
          | cons w r3 ih3 =>
            intro h3 z hz
            have h3 : y < w ∧ Asc (w :: r3) := h3
            rcases List.mem_cons.mp hz with e | m
            · rw [e]; exact Int.le_refl _
            · have := ih3 w h3.2 z m
              omega
        rcases ih (x + 1) ha2.2 (fun z hz => ⟨by have := asc_all y r2 ha2.2 z hz; omega, (hb z (List.mem_cons_of_mem _ hz)).2⟩) with q | q
        · rw [List.length_cons]
          omega
        · cases q
  rcases pw c 0 h.2.2 h.2.1 with q | q
  · omega
  · rw [q]; exact Nat.zero_le _
theorem TabOk.low {ks : List Str} {ts : List (List Int)} (h : TabOk ks ts) : ∀ c ∈ ts, c.length ≤ 60 ∧ ∀ x ∈ c, 0 ≤ x ∧ x < (ks.length : Int) := fun c hc =>
  ⟨by have := lot_small (h.lots c hc); have := h.kinds.2.1; omega, (h.lots c hc).2.1⟩
end CK
namespace CK
open PySem PySem.Spec PyProof.Rows L2 VG FR HD
end CK
namespace CK
open PySem PySem.Spec PyProof.Rows L2 VG FR HD
theorem tup_either {K : PySem.W.Frag} {H : Hp} {k : Addr} {xs : List V} {Q : VK} (h : SqL K H k xs ∨ SqT K H k xs) (fin : ∀ H' u, Same H H' → SqT K H' u xs → Q (.ref u) H') :
    ∃ p ys, ([V.ref k] : List V) = [V.ref p] ∧ ((SqL K H p ys ∧ ∀ l, H l = none → Q (.ref l) (L2.upd H l (.tup ys))) ∨ (SqT K H p ys ∧ Q (.ref p) H)) := by
  rcases h with h | h
  · exact ⟨k, xs, rfl, .inl ⟨h, fun l nl => fin _ l (same_upd nl) (sqt upd_same)⟩⟩
  · exact ⟨k, xs, rfl, .inr ⟨h, fin H k (Same.refl _) h⟩⟩
def rTupE (K : PySem.W.Frag) : List V → Hp → VK → Prop := fun vs H Q => ∃ (k : Addr) (xs : List V), vs = [.ref k] ∧ (SqL K H k xs ∨ SqT K H k xs) ∧ ∀ H' u, Same H H' → SqT K H' u xs → Q (.ref u) H'
theorem call_tupE {X : Cx} : CallR X (.type "tuple") (rTupE X.K) := fun pins s σ H vs us Q I rv h => by
  obtain ⟨k, xs, rfl, h1, h2⟩ := h
  exact call_tuple_of pins s σ H _ us Q I rv (tup_either h1 h2)
end CK
namespace CK
open PySem PySem.Spec PyProof.Rows L2 VG FR HD
theorem Shn.more {d : PyData} {k B k2 B2 : Nat} (h : Shn d k B) (hk : k ≤ k2) (hB : B ≤ B2) : Shn d k2 B2 := ⟨h.1, h.2.1, Nat.le_trans h.2.2.1 hk, Nat.le_trans h.2.2.2 hB⟩
end CK
namespace CK
open PySem PySem.Spec PyProof.Rows L2 VG FR HD
def hd0 (c : List Int) : Int := c.getD 0 0
end CK
namespace CK
open PySem PySem.Spec PyProof.Rows L2 VG FR HD
end CK
namespace CK
open PySem PySem.Spec PyProof.Rows L2 VG FR HD
end CK
namespace TU
open PySem PyProof.Rows
/-- the order of tuples of integers -/
def lexI : List Int → List Int → Bool
  | [], [] => false
  | [], _ :: _ => true
  | _ :: _, [] => false
  | x :: xs, y :: ys => if x = y then lexI xs ys else decide (x < y)
theorem lexI_total : ∀ (a b : List Int), lexI a b = false → lexI b a = false → a = b
  | [], [], _, _ => rfl
  | [], _ :: _, h, _ => by cases h
  | _ :: _, [], _, h => by cases h
  | x :: xs, y :: ys, h1, h2 => by
    have h1 : (if x = y then lexI xs ys else decide (x < y)) = false := h1
    have h2 : (if y = x then lexI ys xs else decide (y < x)) = false := h2
    by_cases e : x = y
    · rw [if_pos e] at h1
      rw [if_pos e.symm] at h2
      rw [e, lexI_total xs ys h1 h2]
    · rw [if_neg e] at h1
      rw [if_neg (Ne.symm e)] at h2
      have := of_decide_eq_false h1
      have := of_decide_eq_false h2
      omega
section
variable {prog : Program} {w : World} {A : Around} {E : Value → Shared → Prop} {s : Shared}
/-- what is sorted: tuples of integers -/
def AllT (h : Heap) (vs : List Value) : Prop := ∀ v ∈ vs, ∃ ns, TS.TupInts h v ns
theorem AllT.keeps {h h' : Heap} {vs : List Value} (x : AllT h vs) (k : ∀ b o, h.get? b = some o → o.cls = .type "tuple" → h'.get? b = some o) : AllT h' vs := fun v hv =>
  let ⟨ns, t⟩ := x v hv; ⟨ns, t.keeps k⟩
end
end TU
namespace L2
open PySem PySem.Spec PyProof.Rows
end L2
namespace CK
open PySem PySem.Spec PyProof.Rows L2 VG FR HD
/-- ascending rows -/
def LexAsc (l : List (List Int)) : Prop := l.Pairwise fun a b => TU.lexI a b = true
end CK
namespace VG
open PySem PySem.Spec PyProof.Rows L2
/-- the keys of some texts -/
def inS (ks : List Str) : Key → Bool := fun k => decide (∃ x ∈ ks, k = .inr x)
end VG
namespace PyProof.Rows
open PySem
end PyProof.Rows
namespace L2
open PySem PySem.Spec PyProof.Rows
end L2
namespace CK
open PySem PySem.Spec PyProof.Rows L2 VG FR HD
def strD : PyData → Str
  | .str z => z
  | _ => Str.empty
def strsD : PyData → List Str
  | .tuple ds => ds.map strD
  | _ => []
def renB (n : Nat) (d : PyData) : Bool := tupD n d && namesD d && decide (strsD d).Nodup
end CK
namespace CK
open PySem PySem.Spec PyProof.Rows L2 VG FR HD
/-- found classes and kinds' numbers while they grow: H is the heap of before -/
def FndW (H H' : Hp) (F N : Addr) (fs : List Addr) (bs : List (List Int)) (ns : List V) : Prop := Same H H' ∧ H' F = some (.lst (fs.map V.ref)) ∧ Blk H' fs bs ∧ H' N = some (.lst ns) ∧ fs.Nodup ∧ ∀ t ∈ fs, t ≠ F ∧ t ≠ N ∧ H t = none
theorem FndW.same {H H1 H2 : Hp} {F N : Addr} {fs : List Addr} {bs : List (List Int)} {ns : List V} (h : FndW H H1 F N fs bs ns) (s : Same H1 H2) : FndW H H2 F N fs bs ns :=
  ⟨h.1.trans s, s _ _ h.2.1, Blk.imp (fun t _ o k => s t o k) h.2.2.1, s _ _ h.2.2.2.1, h.2.2.2.2⟩
theorem FndW.add {H H6 : Hp} {F N T : Addr} {fs : List Addr} {bs : List (List Int)} {ns : List V} (h : FndW H H6 F N fs bs ns) (nF : H F = none) (nFN : F ≠ N) (nT : H6 T = none) :
    FndW H (L2.upd (L2.upd H6 T (.lst [])) F (.lst (fs.map V.ref ++ [.ref T]))) F N (fs ++ [T]) (bs ++ [[]]) ns := by
  obtain ⟨sm, eF, bF, eN, nd, av⟩ := h
  have sT := same_upd (o := .lst []) nT
  have nTF : T ≠ F := fun z => by subst z; rw [eF] at nT; cases nT
  have nTN : T ≠ N := fun z => by subst z; rw [eN] at nT; cases nT
  have HT : H T = none := sm.free nT
  have inF : ∀ t ∈ fs, H6 t ≠ none := fun t ht => by obtain ⟨b, _, k⟩ := bF.at_ ht; rw [k]; exact Option.some_ne_none _
  refine ⟨HD.same_put (sm.trans sT) nF, by rw [upd_same, List.map_append]; rfl, ?_, ?_, ?_, fun t ht => ?_⟩
  · exact Blk.snoc (by rw [upd_ne nTF, upd_same]; rfl) (Blk.imp (fun t ht o k => by rw [upd_ne (av t ht).1]; exact sT _ _ k) bF)
  · rw [upd_ne nFN.symm]
    exact sT _ _ eN
  · exact List.nodup_append.mpr ⟨nd, by simp, fun x hx y hy e => by
      have := List.mem_singleton.mp hy
      subst this
      subst e
      exact inF x hx nT⟩
  · rcases List.mem_append.mp ht with z | z
    · exact av t z
    · rw [List.mem_singleton.mp z]
      exact ⟨nTF, nTN, HT⟩
theorem FndW.put {H H6 : Hp} {F N t : Addr} {fs : List Addr} {bs : List (List Int)} {ns : List V} {j : Nat} {b : List Int} (h : FndW H H6 F N fs bs ns) (et : fs[j]? = some t) : FndW H (L2.upd H6 t (.lst (b.map V.int))) F N fs (bs.set j b) ns := by
  obtain ⟨sm, eF, bF, eN, nd, av⟩ := h
  have a := av t (List.mem_of_getElem? et)
  exact ⟨HD.same_put sm a.2.2, by rw [upd_ne a.1.symm]; exact eF, Blk.set nd et bF, by rw [upd_ne a.2.1.symm]; exact eN, nd, av⟩
end CK
namespace VG
open PySem PySem.Spec PyProof.Rows L2
end VG
namespace CK
open PySem PySem.Spec PyProof.Rows L2 VG FR HD
abbrev cABC : Str := "abcdefghijklmnopqrstuvwxyz"
theorem ixN_nat {n j : Nat} (h : j < n) : ixN n (j : Int) = some j := by
  unfold ixN
  rw [if_pos (by omega), if_pos (by omega), Int.toNat_natCast]
def nmB (z : Str) : Bool := decide (1 ≤ z.cps.size) && decide (z.cps.size ≤ 6) && z.cps.toList.all fun c => decide (97 ≤ c ∧ c ≤ 122)
theorem ok_of_B {z : Str} (h : nmB z = true) : NameOk z := by
  unfold nmB at h
  rw [Bool.and_eq_true, Bool.and_eq_true] at h
  exact ⟨of_decide_eq_true h.1.1, of_decide_eq_true h.1.2, fun c hc => of_decide_eq_true (List.all_eq_true.mp h.2 c hc)⟩
end CK
namespace CK
open PySem PySem.Spec PyProof.Rows L2 VG FR HD
theorem Tots.set {K : PySem.W.Frag} {H : Hp} {t : Addr} {c : List Int} (ht : SqT K H t (c.map V.int)) : ∀ {xs : List V} {ts : List (List Int)} (i : Nat), Tots K H xs ts → Tots K H (xs.set i (.ref t)) (ts.set i c)
  | [], [], _, _ => trivial
  | _ :: _, _ :: _, 0, h => ⟨⟨t, rfl, ht⟩, h.2⟩
  | _ :: xs, _ :: ts, i + 1, h => ⟨h.1, Tots.set ht (xs := xs) (ts := ts) i h.2⟩
/-- rows that are drawn: R lists them -/
def RowsW (p q : Addr) (G H : Hp) (R : Addr) (rs : List Addr) (bs : List (List Int)) : Prop := On p q G H ∧ H R = some (.lst (rs.map V.ref)) ∧ Blk H rs bs ∧ ∀ t ∈ rs, t ≠ p ∧ t ≠ q ∧ t ≠ R
theorem RowsW.draw {p q : Addr} {G H H' : Hp} {R : Addr} {rs : List Addr} {bs : List (List Int)} (h : RowsW p q G H R rs bs) (fR : R ≠ p ∧ R ≠ q) (hd : Hd p q H') (k : Keep p q H H') : RowsW p q G H' R rs bs :=
  ⟨h.1.draw hd k, k R _ fR.1 fR.2 h.2.1, Blk.imp (fun t ht o e => k t o (h.2.2.2 t ht).1 (h.2.2.2 t ht).2.1 e) h.2.2.1, h.2.2.2⟩
theorem RowsW.same {p q : Addr} {G H H' : Hp} {R : Addr} {rs : List Addr} {bs : List (List Int)} (h : RowsW p q G H R rs bs) (s : Same H H') : RowsW p q G H' R rs bs :=
  ⟨h.1.same s, s _ _ h.2.1, Blk.imp (fun t _ o e => s t o e) h.2.2.1, h.2.2.2⟩
theorem RowsW.put {p q : Addr} {G H : Hp} {R D : Addr} {o : HO} {rs : List Addr} {bs : List (List Int)} (h : RowsW p q G H R rs bs) (f : D ≠ p ∧ D ≠ q ∧ G D = none) (nR : R ≠ D) (nD : ∀ t ∈ rs, t ≠ D) : RowsW p q G (L2.upd H D o) R rs bs :=
  ⟨h.1.put f, by rw [upd_ne nR]; exact h.2.1, Blk.imp (fun t ht o e => by rw [upd_ne (nD t ht)]; exact e) h.2.2.1, h.2.2.2⟩
/-- one more row -/
theorem RowsW.add {p q : Addr} {G H : Hp} {R r : Addr} {rs : List Addr} {bs : List (List Int)} {b : List Int} (h : RowsW p q G H R rs bs) (fR : R ≠ p ∧ R ≠ q ∧ G R = none) (kr : H r = some (.lst (b.map V.int))) (nr : r ≠ p ∧ r ≠ q ∧ r ≠ R) : RowsW p q G (L2.upd H R (.lst (rs.map V.ref ++ [.ref r]))) R (rs ++ [r]) (bs ++ [b]) := by
  refine ⟨h.1.put fR, by rw [upd_same, List.map_append]; rfl, Blk.snoc (by rw [upd_ne nr.2.2]; exact kr) (Blk.imp (fun t ht o e => by rw [upd_ne (h.2.2.2 t ht).2.2]; exact e) h.2.2.1), fun t ht => ?_⟩
  rcases List.mem_append.mp ht with z | z
  · exact h.2.2.2 t z
  · rw [List.mem_singleton.mp z]
    exact nr
end CK
namespace CK
open PySem PySem.Spec PyProof.Rows L2 VG FR HD
end CK
namespace CK
open PySem PySem.Spec PyProof.Rows L2 VG FR HD
end CK
namespace CK
open PySem PySem.Spec PyProof.Rows L2 VG FR HD
end CK
namespace CK
open PySem PySem.Spec PyProof.Rows L2 VG FR HD
theorem extN_at {H H1 : Hp} (e : LamX.ExtN H H1) {b : Addr} {xs : List V} (h : H b = some (.lst xs)) : H1 b = some (.lst xs) := e b _ h fun _ z => by cases z
theorem tabs_put {T : List (Addr × Str)} {H : Hp} {D : Addr} {xs : List V} {o : HO} (t : LamX.Tabs T H) (h : H D = some (.lst xs)) : LamX.Tabs T (L2.upd H D o) := fun p hp => by
  obtain ⟨ps, h1, h2, h3⟩ := t p hp
  refine ⟨ps, ?_, h2, fun pos cv hc => ?_⟩
  · rw [upd_ne (fun z => by rw [z, h] at h1; cases h1)]
    exact h1
  · obtain ⟨c, e1, e2⟩ := h3 pos cv hc
    refine ⟨c, e1, ?_⟩
    rw [upd_ne (fun z => by rw [z, h] at e2; cases e2)]
    exact e2
/-- what once becomes -/
def OnceOf (L : List (List Int)) (os : List (List Int)) : Prop := LexAsc os ∧ ∀ c, c ∈ os ↔ c ∈ L ∧ c ≠ []
theorem OnceOf.add {L os : List (List Int)} {c : List Int} (h : OnceOf L os) (up : ∀ x ∈ L, TU.lexI c x = false) (n : c ≠ []) (no : c ∉ os) : OnceOf (L ++ [c]) (os ++ [c]) := by
  refine ⟨List.pairwise_append.mpr ⟨h.1, List.pairwise_singleton _ _, fun a ha b hb => ?_⟩, fun x => ?_⟩
  · have := List.mem_singleton.mp hb
    subst this
    cases q : TU.lexI a b with
    | true => rfl
    | false => exact absurd ((TU.lexI_total a b q (up a ((h.2 a).mp ha).1)) ▸ ha) no
  · rw [List.mem_append, List.mem_append, h.2 x]
    constructor
    · rintro (⟨a, b⟩ | a)
      · exact ⟨.inl a, b⟩
      · exact ⟨.inr a, by rw [List.mem_singleton.mp a]; exact n⟩
    · rintro ⟨a | a, b⟩
      · exact .inl ⟨a, b⟩
      · exact .inr a
end CK
namespace CK
open PySem PySem.Spec PyProof.Rows L2 VG FR HD
noncomputable def GB (p q : Addr) (H : Hp) : Hp := offT (frz p q H)
theorem gb_at {p q b : Addr} {H : Hp} {o : HO} (h : H b = some o) (n : b ≠ p ∧ b ≠ q) (nt : ∀ ps, o ≠ .tbl ps) : GB p q H b = some o := by
  unfold GB offT
  rw [frz_at h n]
  cases o <;> first | rfl | exact absurd rfl (nt _)
theorem gb_same (p q : Addr) (H : Hp) : Same (GB p q H) H := (offT_same _).trans frz_le
theorem gb_cases {p q b : Addr} {H : Hp} {o : HO} (h : GB p q H b = some o) : b ≠ p ∧ b ≠ q ∧ H b = some o ∧ ∀ ps, o ≠ .tbl ps := by
  have h1 := offT_same _ _ _ h
  have h2 := frz_cases h1
  exact ⟨h2.1, h2.2.1, h2.2.2, fun ps z => offT_no _ b ps (by rw [← z]; exact h)⟩
theorem gb_le {p q : Addr} {G H : Hp} (nG : NoTbl G) (gp : G p = none) (gq : G q = none) (s : Same G H) : Same G (GB p q H) := fun b o h =>
  gb_at (s _ _ h) ⟨(fun z => by rw [z, gp] at h; cases h), (fun z => by rw [z, gq] at h; cases h)⟩ fun ps z => nG b ps (by rw [← z]; exact h)
theorem seqT_gb {K : PySem.W.Frag} {p q t : Addr} {H : Hp} {xs : List V} (hd : Hd p q H) (h : SqT K H t xs) : SqT K (GB p q H) t xs := by
  have h1 : SqT K (frz p q H) t xs := seqTK hd keep_frz h
  have key : ∀ (H : Hp), SqT K H t xs → SqT K (offT H) t xs := fun H h => by
    rcases h with h | h
    · rcases h with h | ⟨ob, h⟩
      · exact .inl (.inl (by unfold offT; rw [h]))
      · exact .inl (.inr ⟨ob, by unfold offT; rw [h]⟩)
    · exact .inr h
  exact key _ h1
def OnT (T : List (Addr × Str)) (p q : Addr) (G H : Hp) : Prop := On p q G H ∧ LamX.Tabs T H ∧ NoTbl G
section
variable {T : List (Addr × Str)} {p q : Addr} {G H H' : Hp}
theorem OnT.start (h : Hd p q H) (t : LamX.Tabs T H) : OnT T p q (GB p q H) H := ⟨⟨h, gb_same p q H, by
  cases e : GB p q H p with
  | none => rfl
  | some o => exact absurd rfl (gb_cases e).1, by
  cases e : GB p q H q with
  | none => rfl
  | some o => exact absurd rfl (gb_cases e).2.1⟩, t, offT_no _⟩
theorem OnT.hd (h : OnT T p q G H) : Hd p q H := h.1.hd
theorem OnT.le (h : OnT T p q G H) : Same G H := h.1.le
theorem OnT.base (h : OnT T p q G H) : OnT T p q (GB p q H) H ∧ Same G (GB p q H) := ⟨.start h.hd h.2.1, gb_le h.2.2 h.1.2.2.1 h.1.2.2.2 h.le⟩
theorem OnT.drop {G0 : Hp} (h : OnT T p q G H) (s : Same G0 G) (n : NoTbl G0) : OnT T p q G0 H := ⟨h.1.drop s, h.2.1, n⟩
theorem OnT.same (h : OnT T p q G H) (s : Same H H') : OnT T p q G H' := ⟨h.1.same s, tabs_same h.2.1 s, h.2.2⟩
theorem OnT.new (h : OnT T p q G H) {n : Addr} {o : HO} (hn : H n = none) : OnT T p q G (L2.upd H n o) := h.same (same_upd hn)
theorem OnT.draw (h : OnT T p q G H) (hd : Hd p q H') (k : Keep p q H H') : OnT T p q G H' := by
  refine ⟨h.1.draw hd k, fun x hx => ?_, h.2.2⟩
  obtain ⟨ps, h1, h2, h3⟩ := h.2.1 x hx
  obtain ⟨cs, st, e1, e2, _⟩ := h.hd
  refine ⟨ps, k _ _ (fun z => by rw [z, e1] at h1; cases h1) (fun z => by rw [z, e2] at h1; cases h1) h1, h2, fun pos cv hc => ?_⟩
  obtain ⟨c, e3, e4⟩ := h3 pos cv hc
  exact ⟨c, e3, k _ _ (fun z => by rw [z, e1] at e4; cases e4) (fun z => by rw [z, e2] at e4; cases e4) e4⟩
theorem OnT.lam (h : OnT T p q G H) (e : LamX.ExtN H H') (t : LamX.Tabs T H') : OnT T p q G H' := by
  obtain ⟨cs, st, e1, e2, r⟩ := h.hd
  exact ⟨⟨⟨cs, st, extN_at e e1, extN_at e e2, r⟩, h.2.2.over h.le e, h.1.2.2⟩, t, h.2.2⟩
theorem OnT.put (h : OnT T p q G H) {D : Addr} {xs : List V} {o : HO} (hD : H D = some (.lst xs)) (f : D ≠ p ∧ D ≠ q ∧ G D = none) : OnT T p q G (L2.upd H D o) := ⟨h.1.put f, tabs_put h.2.1 hD, h.2.2⟩
theorem OnT.free (h : OnT T p q G H) {n : Addr} (hn : H n = none) : n ≠ p ∧ n ≠ q ∧ G n = none := h.1.free hn
end
/-- a value that is no lot below n -/
def Wr (K : PySem.W.Frag) (n : Int) (H : Hp) (v : V) : Prop := ∃ d, Ov K H v d ∧ lotD n d = false ∧ shortD d
theorem Wr.mono {K : PySem.W.Frag} {n : Int} {H H' : Hp} {v : V} (s : Same H H') (h : Wr K n H v) : Wr K n H' v := let ⟨d, a, b, c⟩ := h; ⟨d, a.mono s, b, c⟩
end CK
namespace CK
open PySem PySem.Spec PyProof.Rows L2 VG FR HD
/-- some of the first i numbers -/
def Somes (i : Nat) (cs : List Int) : Prop := cs.Pairwise (· < ·) ∧ cs.length ≤ i ∧ ∀ x ∈ cs, 0 ≤ x ∧ x < (i : Int)
theorem Somes.nil : Somes 0 [] := ⟨List.Pairwise.nil, Nat.le_refl _, fun x h => by cases h⟩
theorem Somes.add {i : Nat} {cs : List Int} (h : Somes i cs) : Somes (i + 1) (cs ++ [(i : Int)]) := by
  refine ⟨List.pairwise_append.mpr ⟨h.1, List.pairwise_singleton _ _, fun a ha b hb => ?_⟩, by rw [List.length_append]; have := h.2.1; show cs.length + 1 ≤ i + 1; omega, fun x hx => ?_⟩
  · have := List.mem_singleton.mp hb
    subst this
    exact (h.2.2 a ha).2
  · rcases List.mem_append.mp hx with z | z
    · have := h.2.2 x z
      omega
    · have := List.mem_singleton.mp z
      omega
end CK
namespace CK
open PySem PySem.Spec PyProof.Rows L2 VG FR HD
/-- a value that is no tuple of n unlike names -/
def Wn (K : PySem.W.Frag) (n : Nat) (H : Hp) (v : V) : Prop := ∃ d, Ov K H v d ∧ renB n d = false ∧ shortD d ∧ ∀ ds, d = .tuple ds → ∀ x ∈ ds, shortS x
theorem Wn.mono {K : PySem.W.Frag} {n : Nat} {H H' : Hp} {v : V} (s : Same H H') (h : Wn K n H v) : Wn K n H' v := let ⟨d, a, b⟩ := h; ⟨d, a.mono s, b⟩
end CK
namespace CK
open PySem PySem.Spec PyProof.Rows L2 VG FR HD
def litI : List Int → TA
  | [] => tNil
  | c :: cs => tCons (tC (.int c)) (litI cs)
def litS : List Str → TA
  | [] => tNil
  | c :: cs => tCons (tC (.str c)) (litS cs)
def litT : List (List Int) → TA
  | [] => tNil
  | c :: cs => tCons (tTup (litI c)) (litT cs)
theorem litI_at : ∀ (cs : List Int) (σ : L2.St) (H : Hp) (R : List V → Hp → Prop), R (cs.map V.int) H → litI cs σ H R
  | [], _, _, _, h => h
  | c :: cs, σ, H, R, h => litI_at cs σ H (fun xs H2 => R (.int c :: xs) H2) h
theorem litS_at : ∀ (cs : List Str) (σ : L2.St) (H : Hp) (R : List V → Hp → Prop), R (cs.map V.str) H → litS cs σ H R
  | [], _, _, _, h => h
  | c :: cs, σ, H, R, h => litS_at cs σ H (fun xs H2 => R (.str c :: xs) H2) h
theorem lit_ints {cs : List Int} {σ : L2.St} {H : Hp} {Q : VK} (l : cs.length ≤ 1000) (h : ∀ H' z, Same H H' → H' z = some (.tup (cs.map V.int)) → Q (.ref z) H') : tTup (litI cs) σ H Q :=
  litI_at cs σ H _ ⟨by rw [List.length_map]; have : sizeLine = 16777216 := by decide
                       omega, fun p np => h _ p (same_upd np) upd_same⟩
theorem lit_strs {cs : List Str} {σ : L2.St} {H : Hp} {Q : VK} (l : cs.length ≤ 1000) (h : ∀ H' z, Same H H' → H' z = some (.tup (cs.map V.str)) → Q (.ref z) H') : tTup (litS cs) σ H Q :=
  litS_at cs σ H _ ⟨by rw [List.length_map]; have : sizeLine = 16777216 := by decide
                       omega, fun p np => h _ p (same_upd np) upd_same⟩
theorem litT_at {K : PySem.W.Frag} : ∀ (cs : List (List Int)) (σ : L2.St) (H : Hp) (R : List V → Hp → Prop), (∀ c ∈ cs, c.length ≤ 1000) → (∀ H' xs, Same H H' → Tots K H' xs cs → R xs H') → litT cs σ H R
  | [], _, H, _, _, h => h H [] (Same.refl _) trivial
  | c :: cs, σ, H, R, l, h => lit_ints (Q := fun x H1 => litT cs σ H1 fun xs H2 => R (x :: xs) H2) (l c List.mem_cons_self) fun H1 z s1 kz => litT_at (K := K) cs σ H1 (fun xs H2 => R (.ref z :: xs) H2) (fun d hd => l d (List.mem_cons_of_mem _ hd)) fun H2 xs s2 hX => h H2 (.ref z :: xs) (s1.trans s2) ⟨⟨z, rfl, sqt (s2 _ _ kz)⟩, hX⟩
theorem lit_tots {K : PySem.W.Frag} {cs : List (List Int)} {σ : L2.St} {H : Hp} {Q : VK} (l : cs.length ≤ 1000 ∧ ∀ c ∈ cs, c.length ≤ 1000) (h : ∀ H' z xs, Same H H' → H' z = some (.tup xs) → Tots K H' xs cs → Q (.ref z) H') : tTup (litT cs) σ H Q :=
  litT_at (K := K) cs σ H _ l.2 fun H1 xs s1 hX => ⟨by rw [hX.len]; have : sizeLine = 16777216 := by decide
                                                       have := l.1; omega, fun p np => h _ p xs (s1.trans (same_upd np)) upd_same (hX.mono (same_upd np))⟩
theorem gb_off {G H : Hp} (n : NoTbl G) (s : Same G H) : Same G (offT H) := fun b o h => by
  have h2 := s _ _ h
  unfold offT
  rw [h2]
  cases o with
  | tbl ps => exact absurd h (n b ps)
  | _ => rfl
theorem off_lst {H : Hp} {b : Addr} {xs : List V} (h : H b = some (.lst xs)) : offT H b = some (.lst xs) := by
  unfold offT
  rw [h]
theorem OnT.off {T : List (Addr × Str)} {p q : Addr} {G H H' : Hp} (h : OnT T p q G H) (s : Same (offT H) H') (t : LamX.Tabs T H') : OnT T p q G H' := by
  obtain ⟨cs, st, e1, e2, r⟩ := h.hd
  exact ⟨⟨⟨cs, st, s _ _ (off_lst e1), s _ _ (off_lst e2), r⟩, (gb_off h.2.2 h.le).trans s, h.1.2.2⟩, t, h.2.2⟩
def tE : List (List Int) := [[0, 2, 4], [], [2, 4], [3], [0, 2, 4]]
theorem asc_dec : ∀ ks : List Str, (ks.zip (ks.drop 1)).all (fun p => decide (p.1.cps.toList < p.2.cps.toList)) = true → AscS ks := by
  intro ks h i a b ha hb
  have hz : (ks.zip (ks.drop 1))[i]? = some (a, b) := by
    rw [List.getElem?_zip_eq_some]
    exact ⟨ha, by rw [List.getElem?_drop, Nat.add_comm]; exact hb⟩
  exact of_decide_eq_true (List.all_eq_true.mp h _ (List.mem_of_getElem? hz))
theorem kinds_dec {ks : List Str} (h1 : 1 ≤ ks.length ∧ ks.length ≤ 12) (h2 : ks.all nmB = true) (h3 : (ks.zip (ks.drop 1)).all (fun p => decide (p.1.cps.toList < p.2.cps.toList)) = true) : KindsOk ks :=
  ⟨h1.1, h1.2, fun z hz => ok_of_B (List.all_eq_true.mp h2 z hz), asc_dec ks h3⟩
def lotB (n : Int) (c : List Int) : Bool := decide (c.length ≤ 1000) && c.all (fun x => decide (0 ≤ x ∧ x < n)) && ascB c
theorem lot_dec {n : Int} {c : List Int} (h : lotB n c = true) : LotOk n c := by
  unfold lotB at h
  rw [Bool.and_eq_true, Bool.and_eq_true] at h
  exact ⟨of_decide_eq_true h.1.1, fun x hx => of_decide_eq_true (List.all_eq_true.mp h.1.2 x hx), asc_of h.2⟩
def tG : List (List Int) := [[]]
/-- the law -/
def spLawT (K : PySem.W.Frag) (T : List (Addr × Str)) : Sp := fun vs H Q _ => ∃ (a : Addr) (ns : List Int), vs = [.ref a] ∧ SqL K H a (ns.map V.int) ∧ ns.length ≤ 63 ∧ LamX.Tabs T H ∧ ∀ H', Q (.bl true) H'
end CK
namespace CK
open PySem PySem.Spec PyProof.Rows L2 VG FR HD
theorem tots_gb {K : PySem.W.Frag} {p q : Addr} {H : Hp} (hd : Hd p q H) : ∀ {xs : List V} {ts : List (List Int)}, Tots K H xs ts → Tots K (GB p q H) xs ts
  | [], [], h => h
  | [], _ :: _, h => h.elim
  | _ :: _, [], h => h.elim
  | _ :: _, _ :: _, ⟨⟨y, e, hy⟩, r⟩ => ⟨⟨y, e, seqT_gb hd hy⟩, tots_gb hd r⟩
theorem tab_gb {K : PySem.W.Frag} {C p q x : Addr} {H : Hp} {ks : List Str} {ts : List (List Int)} (hd : Hd p q H) (h : Tab K C H x ks ts) : Tab K C (GB p q H) x ks ts := by
  obtain ⟨dx, k, t, xs, o1, o2, o3, o4⟩ := h
  exact ⟨dx, k, t, xs, gb_at o1 (hd.neOf o1 (fun ys z => by cases z)) (fun _ z => by cases z), seqT_gb hd o2, seqT_gb hd o3, tots_gb hd o4⟩
theorem at_asg {te : TE} {g : TG} {u : TS} {D : Ends} {σ : L2.St} {H : Hp} (h : te σ H fun x H1 => g x σ H1 (u D)) : tSeq (tAsg te g) u D σ H := h
theorem at_make {cls : Addr} {sp : Sp} {ys : List V} {E : XK} {ta : TA} {σ : L2.St} {H : Hp} {Q : VK} (h : ta σ H fun xs H1 => tMake cls sp ys E (fun _ H Q => Q xs H) σ H1 Q) : tMake cls sp ys E ta σ H Q := h
theorem at_cons {ta : TE} {tr : TA} {σ : L2.St} {H : Hp} {R : List V → Hp → Prop} (h : ta σ H fun x H1 => tr σ H1 fun xs H2 => R (x :: xs) H2) : tCons ta tr σ H R := h
end CK
namespace K09
open PySem PySem.Spec PyProof.Rows L2 VG FR CK HD
open K2 (cut_ints)
def topS (i : Nat) : Stmt := PySem.Challenge.pw_centsatonce_k09_whole_errors_of_days.main.body.getD i (.Pass ⟨0, 0, 0, 0⟩)
abbrev s_is_an_integer : Stmt := topS 4
abbrev N_is_an_integer : List Str := ["value"]
theorem sc_is_an_integer : FnScope N_is_an_integer ["value"] (defScope s_is_an_integer) := ⟨rfl, rfl, rfl, by decide +kernel, rfl, by decide +kernel, by decide +kernel⟩
abbrev s_is_number : Stmt := topS 5
abbrev N_is_number : List Str := ["value"]
theorem sc_is_number : FnScope N_is_number ["value"] (defScope s_is_number) := ⟨rfl, rfl, rfl, by decide +kernel, rfl, by decide +kernel, by decide +kernel⟩
abbrev s_is_number_below : Stmt := topS 6
abbrev N_is_number_below : List Str := ["value", "many"]
theorem sc_is_number_below : FnScope N_is_number_below ["value", "many"] (defScope s_is_number_below) := ⟨rfl, rfl, rfl, by decide +kernel, rfl, by decide +kernel, by decide +kernel⟩
abbrev s_are_numbers_below : Stmt := topS 10
abbrev N_are_numbers_below : List Str := ["value", "many", "item"]
theorem sc_are_numbers_below : FnScope N_are_numbers_below ["value", "many"] (defScope s_are_numbers_below) := ⟨rfl, rfl, rfl, by decide +kernel, rfl, by decide +kernel, by decide +kernel⟩
abbrev s_is_ascending : Stmt := topS 11
abbrev N_is_ascending : List Str := ["some", "one", "other"]
theorem sc_is_ascending : FnScope N_is_ascending ["some"] (defScope s_is_ascending) := ⟨rfl, rfl, rfl, by decide +kernel, rfl, by decide +kernel, by decide +kernel⟩
abbrev s_is_lot_below : Stmt := topS 12
abbrev N_is_lot_below : List Str := ["value", "many"]
theorem sc_is_lot_below : FnScope N_is_lot_below ["value", "many"] (defScope s_is_lot_below) := ⟨rfl, rfl, rfl, by decide +kernel, rfl, by decide +kernel, by decide +kernel⟩
abbrev s_check_totals : Stmt := topS 53
abbrev N_check_totals : List Str := ["totals", "many", "at", "total"]
theorem sc_check_totals : FnScope N_check_totals ["totals", "many"] (defScope s_check_totals) := ⟨rfl, rfl, rfl, by decide +kernel, rfl, by decide +kernel, by decide +kernel⟩
abbrev s_is_name : Stmt := topS 7
abbrev N_is_name : List Str := ["value", "letter"]
theorem sc_is_name : FnScope N_is_name ["value"] (defScope s_is_name) := ⟨rfl, rfl, rfl, by decide +kernel, rfl, by decide +kernel, by decide +kernel⟩
abbrev s_are_names : Stmt := topS 9
abbrev N_are_names : List Str := ["value", "item"]
theorem sc_are_names : FnScope N_are_names ["value"] (defScope s_are_names) := ⟨rfl, rfl, rfl, by decide +kernel, rfl, by decide +kernel, by decide +kernel⟩
abbrev s_check_kinds : Stmt := topS 52
abbrev N_check_kinds : List Str := ["kinds"]
theorem sc_check_kinds : FnScope N_check_kinds ["kinds"] (defScope s_check_kinds) := ⟨rfl, rfl, rfl, by decide +kernel, rfl, by decide +kernel, by decide +kernel⟩
abbrev i_Table : Stmt := inClass (topS 51) 0
theorem sc_i_Table : FnScope ["self", "kinds", "totals"] ["self", "kinds", "totals"] (defScope i_Table) := ⟨rfl, rfl, rfl, by decide +kernel, rfl, by decide +kernel, by decide +kernel⟩
abbrev s_is_tuple_of : Stmt := topS 8
abbrev N_is_tuple_of : List Str := ["value", "many"]
theorem sc_is_tuple_of : FnScope N_is_tuple_of ["value", "many"] (defScope s_is_tuple_of) := ⟨rfl, rfl, rfl, by decide +kernel, rfl, by decide +kernel, by decide +kernel⟩
abbrev s_added : Stmt := topS 21
abbrev N_added : List Str := ["one", "other", "top", "bottom", "more", "under", "shared", "rest", "high", "common"]
theorem sc_added : FnScope N_added ["one", "other"] (defScope s_added) := ⟨rfl, rfl, rfl, by decide +kernel, rfl, by decide +kernel, by decide +kernel⟩
abbrev s__law_draw : Stmt := topS 56
abbrev N__law_draw : List Str := ["heap", "many", "rest"]
theorem sc__law_draw : FnScope N__law_draw ["heap", "many"] (defScope s__law_draw) := ⟨rfl, rfl, rfl, by decide +kernel, rfl, by decide +kernel, by decide +kernel⟩
abbrev s__law_pick : Stmt := topS 57
abbrev N__law_pick : List Str := ["heap", "some"]
theorem sc__law_pick : FnScope N__law_pick ["heap", "some"] (defScope s__law_pick) := ⟨rfl, rfl, rfl, by decide +kernel, rfl, by decide +kernel, by decide +kernel⟩
abbrev s__law_heap : Stmt := topS 55
abbrev N__law_heap : List Str := ["script", "cell", "cells", "stir"]
theorem sc__law_heap : FnScope N__law_heap ["script"] (defScope s__law_heap) := ⟨rfl, rfl, rfl, by decide +kernel, rfl, by decide +kernel, by decide +kernel⟩
abbrev s_is_fraction : Stmt := topS 20
abbrev N_is_fraction : List Str := ["value", "top", "bottom"]
theorem sc_is_fraction : FnScope N_is_fraction ["value"] (defScope s_is_fraction) := ⟨rfl, rfl, rfl, by decide +kernel, rfl, by decide +kernel, by decide +kernel⟩
abbrev s_opposite_of : Stmt := topS 22
abbrev N_opposite_of : List Str := ["one", "top", "bottom"]
theorem sc_opposite_of : FnScope N_opposite_of ["one"] (defScope s_opposite_of) := ⟨rfl, rfl, rfl, by decide +kernel, rfl, by decide +kernel, by decide +kernel⟩
abbrev s_taken : Stmt := topS 23
abbrev N_taken : List Str := ["one", "other"]
theorem sc_taken : FnScope N_taken ["one", "other"] (defScope s_taken) := ⟨rfl, rfl, rfl, by decide +kernel, rfl, by decide +kernel, by decide +kernel⟩
abbrev s_is_small : Stmt := topS 24
abbrev N_is_small : List Str := ["one"]
theorem sc_is_small : FnScope N_is_small ["one"] (defScope s_is_small) := ⟨rfl, rfl, rfl, by decide +kernel, rfl, by decide +kernel, by decide +kernel⟩
abbrev s_floor_of : Stmt := topS 26
abbrev N_floor_of : List Str := ["one"]
theorem sc_floor_of : FnScope N_floor_of ["one"] (defScope s_floor_of) := ⟨rfl, rfl, rfl, by decide +kernel, rfl, by decide +kernel, by decide +kernel⟩
abbrev s_ceiling_of : Stmt := topS 27
abbrev N_ceiling_of : List Str := ["one"]
theorem sc_ceiling_of : FnScope N_ceiling_of ["one"] (defScope s_ceiling_of) := ⟨rfl, rfl, rfl, by decide +kernel, rfl, by decide +kernel, by decide +kernel⟩
abbrev s_sum_of : Stmt := topS 28
abbrev N_sum_of : List Str := ["some", "total", "one"]
theorem sc_sum_of : FnScope N_sum_of ["some"] (defScope s_sum_of) := ⟨rfl, rfl, rfl, by decide +kernel, rfl, by decide +kernel, by decide +kernel⟩
section
variable {P : Program} {w : World} {K : PySem.W.Frag} {mg : Str → Option Value} {base : Heap}
theorem ok_is_an_integer {f : Addr} {fd : FuncData} (F : Fun K "is_an_integer" "is_an_integer" s_is_an_integer f fd) (z_isinstance : mg "isinstance" = none) (z_int : mg "int" = none) (z_bool : mg "bool" = none) :
    FnOk P w K mg base CX0 1 f fd ["value"] (spInt K) := by
  refine F.ok sc_is_an_integer (fun vs H Q E h => ?_) (fun cdv A outer s H vs Q E hr h => ?_)
  · obtain ⟨v, o, rfl, _⟩ := h
    rfl
  · obtain ⟨v, o, rfl, hp, q⟩ := h
    refine ⟨_, (pss_one (ps_ret (pe_and (pe_callB call_isi (by rfl) z_isinstance (by decide +kernel) (pa_cons (pv 0) (pa_cons (pe_bltn (v := .ty "int") (by rfl) z_int (by decide +kernel) rfl) pa_nil))) (pe_one (pe_not (pe_callB call_isi (by rfl) z_isinstance (by decide +kernel) (pa_cons (pv 0) (pa_cons (pe_bltn (v := .ty "bool") (by rfl) z_bool (by decide +kernel) rfl) pa_nil)))))))), ?_⟩
    rcases hp with ⟨a, rfl, rfl⟩ | ⟨rfl, ty, b1, b2, t, k1, k2, e⟩
    · refine ⟨_, rfl, _, _, _, _, true, rfl, .ty "int", .base (.int a), kb1, true, rfl, iteT ?_⟩
      exact ⟨_, rfl, _, _, _, _, false, rfl, .ty "bool", .base (.int a), kb2, _, rfl, q⟩
    · refine ⟨_, rfl, _, _, _, _, b1, rfl, .ty "int", t, kit_ty k1, b1, rfl, ?_⟩
      cases b1 with
      | false => exact iteF q
      | true =>
        refine iteT ⟨_, rfl, _, _, _, _, b2, rfl, .ty "bool", t, kit_ty k2, _, rfl, ?_⟩
        have e2 : (!b2) = false := e
        rw [e2]
        exact q
theorem ok_is_number {f : Addr} {fd : FuncData} (F : Fun K "is_number" "is_number" s_is_number f fd) (C_is_an_integer : Cl P w K mg base 1 "is_an_integer" (spInt K)) : FnOk P w K mg base CX0 2 f fd ["value"] (spNum K) := by
  refine F.ok sc_is_number (fun vs H Q E h => ?_) (fun cdv A outer s H vs Q E hr h => ?_)
  · obtain ⟨_, rfl, _⟩ := h
    rfl
  · obtain ⟨a, rfl, q⟩ := h
    refine ⟨_, (pss_one (ps_ret (pe_and (pe_cl C_is_an_integer hr (by decide) rfl (pa_cons (pv 0) pa_nil)) (pe_one (pe_cmpR op_ge (pv 0) pe_int (nomark _)))))), ?_⟩
    refine ⟨_, rfl, _, some a, rfl, .inl ⟨_, rfl, rfl⟩, true, rfl, iteT ?_⟩
    exact ⟨_, rfl, _, _, rfl, rfl, q⟩
theorem ok_is_number_below {f : Addr} {fd : FuncData} (F : Fun K "is_number_below" "is_number_below" s_is_number_below f fd) (C_is_number : Cl P w K mg base 2 "is_number" (spNum K)) : FnOk P w K mg base CX0 3 f fd ["value", "many"] spBelow := by
  refine F.ok sc_is_number_below (fun vs H Q E h => ?_) (fun cdv A outer s H vs Q E hr h => ?_)
  · obtain ⟨_, _, rfl, _⟩ := h
    rfl
  · obtain ⟨a, n, rfl, q⟩ := h
    refine ⟨_, (pss_one (ps_ret (pe_and (pe_cl C_is_number hr (by decide) rfl (pa_cons (pv 0) pa_nil)) (pe_one (pe_cmpR op_lt (pv 0) (pv 1) (nomark _)))))), ?_⟩
    refine ⟨_, rfl, a, rfl, _, rfl, ite2 (fun e => ?_) (fun e => ?_)⟩
    · have ha := of_decide_eq_true e
      refine ⟨_, rfl, _, rfl, _, _, rfl, rfl, ?_⟩
      have e2 : decide (a < n) = decide (0 ≤ a ∧ a < n) := decide_eq_decide.mpr ⟨fun z => ⟨ha, z⟩, fun z => z.2⟩
      show Q (.bl (decide (a < n))) H
      rw [e2]
      exact q
    · have ha : ¬ 0 ≤ a := fun z => e (decide_eq_true z)
      have e1 : decide (0 ≤ a ∧ a < n) = false := decide_eq_false (fun z => ha z.1)
      rw [e1] at q
      exact q
theorem ok_are_numbers_below {f : Addr} {fd : FuncData} (F : Fun K "are_numbers_below" "are_numbers_below" s_are_numbers_below f fd) (C_is_number_below : Cl P w K mg base 3 "is_number_below" spBelow) (z_isinstance : mg "isinstance" = none) (z_tuple : mg "tuple" = none) (z_all : mg "all" = none) :
    FnOk P w K mg base CX0 4 f fd ["value", "many"] (spNumsBelow K) := by
  refine F.ok sc_are_numbers_below (fun vs H Q E h => ?_) (fun cdv A outer s H vs Q E hr h => ?_)
  · obtain ⟨_, _, _, rfl, _⟩ := h
    rfl
  · obtain ⟨t, cs, n, rfl, hS, hl, hc, fin⟩ := h
    refine ⟨_, (pss_one (ps_ret (pe_and (pe_callB call_isi (by rfl) z_isinstance (by decide +kernel) (pa_cons (pv 0) (pa_cons (pe_bltn (v := .ty "tuple") (by rfl) z_tuple (by decide +kernel) rfl) pa_nil))) (pe_one (pe_callB (cr_all rfl) (by rfl) z_all (by decide +kernel) (pa_cons (pe_lc (own := [("item", 2)]) (by rfl) sc_are_numbers_below.nd (pi_tup (pv 0)) (blkOk_by (own := [("item", 2)]) (N := N_are_numbers_below) (sc := defScope s_are_numbers_below) (by decide +kernel)) (fun _ _ _ _ _ => (pg_name (i := 2) sc_are_numbers_below.nd rfl (.inl rfl))) (fun _ _ _ _ _ => pts_nil) (fun _ _ _ _ _ => (pe_cl C_is_number_below hr (by decide) rfl (pa_cons (pv 2) (pa_cons (pv 1) pa_nil))))) pa_nil)))))), ?_⟩
    refine ⟨_, rfl, _, _, _, _, true, rfl, .ty "tuple", tyT hS, kit_ty (by decide +kernel), true, rfl, iteT ?_⟩
    refine ⟨_, rfl, t, rfl, ⟨_, hS⟩, fun D nD => ?_⟩
    refine lc_it (walk_tup (K := K) (a := t) (xs := cs.map V.int)) (fun i H' => Same H H' ∧ ∃ bs : List Bool, bs.length = i ∧ bs.all id = true ∧ H' D = some (.lst (bs.map V.bl))) ⟨same_upd nD, [], rfl, rfl, upd_same⟩ (fun i H' _ h => seqT h.1 hS) ?_ ?_
    · rintro i v H1 H2 hi ⟨sm, bs, el, ea, hD⟩ ⟨e2, ex⟩
      subst e2
      rw [List.getElem?_map] at ex
      obtain ⟨c, ec, rfl⟩ := Option.map_eq_some_iff.mp ex
      have ⟨c0, c1⟩ := hc c (List.mem_of_getElem? ec)
      refine ⟨rfl, _, rfl, _, rfl, c, n, rfl, ?_⟩
      have il : i < cs.length := (List.getElem?_eq_some_iff.mp ec).1
      rw [decide_eq_true (⟨c0, c1⟩ : 0 ≤ c ∧ c < n)]
      refine ⟨bs.map V.bl, hD, ?_, HD.same_put sm nD, bs ++ [true], by rw [List.length_append, el]; rfl, ?_, ?_⟩
      · rw [List.length_map]
        have : sizeLine = 16777216 := by decide
        omega
      · rw [List.all_append, ea]
        rfl
      · rw [upd_same, List.map_append]
        rfl
    · rintro H1 ⟨sm, bs, el, ea, hD⟩
      refine ⟨D, bs, rfl, .inl (.inl hD), ?_⟩
      rw [ea]
      exact fin H1 sm
theorem ok_is_ascending {f : Addr} {fd : FuncData} (F : Fun K "is_ascending" "is_ascending" s_is_ascending f fd) (z_all : mg "all" = none) (z_zip : mg "zip" = none) : FnOk P w K mg base CX0 1 f fd ["some"] (spAsc K) := by
  refine F.ok sc_is_ascending (fun vs H Q E h => ?_) (fun cdv A outer s H vs Q E hr h => ?_)
  · obtain ⟨_, _, rfl, _⟩ := h
    rfl
  · obtain ⟨t, xs, rfl, hS, hl, hasc, fin⟩ := h
    refine ⟨_, (pss_one (ps_ret (pe_callB (cr_all rfl) (by rfl) z_all (by decide +kernel) (pa_cons (pe_lc (own := [("one", 1), ("other", 2)]) (by rfl) sc_is_ascending.nd (RZ.pi_zipA (by rfl) z_zip (pa_cons (pv 0) (pa_cons (pe_meet (pe_slice sl_tupA (pv 0) (po_some pe_int) po_none)) pa_nil))) (blkOk_by (own := [("one", 1), ("other", 2)]) (N := N_is_ascending) (sc := defScope s_is_ascending) (by decide +kernel)) (fun _ _ _ _ _ => (show PG _ _ (gTup K 2 _) from pg_tup rfl (pgs_cons (pg_name (i := 1) sc_is_ascending.nd rfl (.inl rfl)) (pgs_cons (pg_name (i := 2) sc_is_ascending.nd rfl (.inl rfl)) pgs_nil)))) (fun _ _ _ _ _ => pts_nil) (fun _ _ _ _ _ => (pe_cmpR (op_lt.or op_lt_str) (pv 1) (pv 2) (nomark _)))) pa_nil)))), ?_⟩
    refine ⟨_, rfl, fun v H' => ∃ u, v = .ref u ∧ Same H H' ∧ SqT K H' u (xs.drop 1), ?_, ?_⟩
    · refine ⟨_, rfl, 1, rfl, ?_⟩
      refine ⟨t, xs, rfl, hS, fun z => ?_, fun z u nu => ?_⟩
      · have e : HT.sIx xs.length 0 (some 1) = min 1 xs.length := HT.sIx_nat xs.length 0 1
        have e0 : xs.length = 0 := by
          have := z.1
          rw [e] at this
          omega
        have x0 : xs = [] := List.eq_nil_of_length_eq_zero e0
        subst x0
        exact ⟨t, rfl, Same.refl _, hS⟩
      · refine ⟨u, rfl, same_upd nu, ?_⟩
        have h := sqt (K := K) (upd_same (H := H) (a := u) (o := .tup (cutV xs (some 1) none)))
        rw [cut1] at h ⊢
        exact h
    rintro v H1 ⟨u, rfl, sm1, hU⟩
    have hS1 := seqT sm1 hS
    refine ⟨t, u, xs, xs.drop 1, rfl, .inr ⟨hS1, hU, fun D nD => ?_⟩⟩
    refine lc_it (walk_zipT (K := K) (a := t) (b := u) (xs := xs) (ys := xs.drop 1) (n := xs.length - 1) (by rw [List.length_drop]; omega)) (fun i H' => Same H1 H' ∧ ∃ bs : List Bool, bs.length = i ∧ bs.all id = true ∧ H' D = some (.lst (bs.map V.bl))) ⟨same_upd nD, [], rfl, rfl, upd_same⟩ (fun i H' _ h => ⟨seqT h.1 hS1, seqT h.1 hU⟩) ?_ ?_
    · rintro i v H2 H3 hi ⟨sm, bs, el, ea, hD⟩ ⟨T, x, y, rfl, nT, rfl, ex, ey⟩
      have ey2 : xs[i + 1]? = some y := by
        have z : (xs.drop 1)[i]? = some y := ey
        rw [List.getElem?_drop, Nat.add_comm] at z
        exact z
      have sT := same_upd (o := .tup [x, y]) nT
      have hlt := hasc i x y ex ey2
      have fin2 : ∃ acc : List V, (L2.upd H2 T (.tup [x, y])) D = some (.lst acc) ∧ acc.length < sizeLine ∧ Same H1 (L2.upd (L2.upd H2 T (.tup [x, y])) D (.lst (acc ++ [V.bl true]))) ∧ ∃ bs : List Bool, bs.length = i + 1 ∧ bs.all id = true ∧ (L2.upd (L2.upd H2 T (.tup [x, y])) D (.lst (acc ++ [V.bl true]))) D = some (.lst (bs.map V.bl)) := by
        refine ⟨bs.map V.bl, sT _ _ hD, ?_, HD.same_put (sm.trans sT) nD, bs ++ [true], by rw [List.length_append, el]; rfl, ?_, ?_⟩
        · have : sizeLine = 16777216 := by decide
          rw [List.length_map]
          omega
        · rw [List.all_append, ea]
          rfl
        · rw [upd_same, List.map_append]
          rfl
      obtain ⟨acc, f1, f2, f3, f4⟩ := fin2
      refine ⟨T, _, rfl, .inl (.inl upd_same), rfl, _, _, rfl, _, _, rfl, rfl, rfl, _, rfl, _, rfl, ?_⟩
      rcases hlt with ⟨a, b, rfl, rfl, ab⟩ | ⟨a, b, rfl, rfl, ab⟩
      · refine .inl ⟨_, _, rfl, rfl, acc, f1, f2, ?_⟩
        have e : decide (a < b) = true := decide_eq_true ab
        simp only [e]
        exact ⟨f3, f4⟩
      · refine .inr ⟨a, b, rfl, rfl, acc, f1, f2, ?_⟩
        have e : decide (a.cps.toList < b.cps.toList) = true := decide_eq_true ab
        rw [e]
        exact ⟨f3, f4⟩
    · rintro H2 ⟨sm, bs, el, ea, hD⟩
      refine ⟨D, bs, rfl, .inl (.inl hD), ?_⟩
      rw [ea]
      exact fin H2 (sm1.trans sm)
theorem ok_is_lot_below {f : Addr} {fd : FuncData} (F : Fun K "is_lot_below" "is_lot_below" s_is_lot_below f fd) (C_are_numbers_below : Cl P w K mg base 4 "are_numbers_below" (spNumsBelow K)) (C_is_ascending : Cl P w K mg base 1 "is_ascending" (spAsc K)) :
    FnOk P w K mg base CX0 5 f fd ["value", "many"] (spLot K) := by
  refine F.ok sc_is_lot_below (fun vs H Q E h => ?_) (fun cdv A outer s H vs Q E hr h => ?_)
  · obtain ⟨_, _, _, rfl, _⟩ := h
    rfl
  · obtain ⟨t, cs, n, rfl, hS, hl, hc, ha, fin⟩ := h
    refine ⟨_, (pss_one (ps_ret (pe_and (pe_cl C_are_numbers_below hr (by decide) rfl (pa_cons (pv 0) (pa_cons (pv 1) pa_nil))) (pe_one (pe_cl C_is_ascending hr (by decide) rfl (pa_cons (pv 0) pa_nil)))))), ?_⟩
    refine ⟨_, rfl, _, rfl, t, cs, n, rfl, hS, hl, hc, fun H1 sm => ⟨true, rfl, iteT ?_⟩⟩
    exact ⟨_, rfl, t, _, rfl, seqT sm hS, by rw [List.length_map]; exact hl, asc_ints ha, fun H2 sm2 => fin H2 (sm.trans sm2)⟩
theorem ok_check_totals {f fi Ci : Addr} {fd fdi : FuncData} {tk : Tok} (F : Fun K "check_totals" "check_totals" s_check_totals f fd) (C_is_lot_below : Cl P w K mg base 5 "is_lot_below" (spLot K)) (m_MOST_TOTALS : mg "MOST_TOTALS" = some (.int 12 tk))
    (e_InvalidTable : ErrC K mg "InvalidTable" Ci fi) (i_InvalidTable : FnOk P w K mg base CX0 1 fi fdi ["self", "at"] (spInitW K Ci "at")) (b_InvalidTable : Binds K fdi ["self", "at"] [])
    (z_isinstance : mg "isinstance" = none) (z_tuple : mg "tuple" = none) (z_len : mg "len" = none) (z_enumerate : mg "enumerate" = none) :
    FnOk P w K mg base (L2.CX P w) 6 f fd ["totals", "many"] (spCheckTotals K) := by
  refine F.okX sc_check_totals (fun vs H Q E h => ?_) (fun cdv A outer s H vs Q E hr h => ?_)
  · obtain ⟨_, _, _, _, rfl, _⟩ := h
    rfl
  · obtain ⟨t, xs, ts, n, rfl, hS, hT, hl, ho, fin⟩ := h
    refine ⟨_, (pss_cons (ps_if (PW.pt (pw_or (pt_not (pt_val (pe_callB call_isi (by rfl) z_isinstance (by decide +kernel) (pa_cons (pv 0) (pa_cons (pe_bltn (v := .ty "tuple") (by rfl) z_tuple (by decide +kernel) rfl) pa_nil))))) (pw_or1 (pt_cmpR op_gt (pe_callB call_len_seq (by rfl) z_len (by decide +kernel) (pa_cons (pv 0) pa_nil)) (pe_glob (v := .int 12) rfl m_MOST_TOTALS ⟨_, rfl⟩) (nomark _)))))
      (pss_one (ps_raise rfl (takes_of rfl rfl rfl rfl) (pmk_oex e_InvalidTable.o e_InvalidTable.iC e_InvalidTable.tI i_InvalidTable (hr.mono (by decide)) b_InvalidTable .nil pass0 rfl e_InvalidTable.gC (pa_cons (pe_un un_neg pe_int) pa_nil))))
      pss_nil)
    (pss_one (ps_for (passes_of rfl) rfl (pi_enumT (by rfl) z_enumerate (pa_cons (pv 0) pa_nil)) (pg_tup rfl (pgs_cons (pg_name (i := 2) sc_check_totals.nd rfl (.inl rfl)) (pgs_cons (pg_name (i := 3) sc_check_totals.nd rfl (.inl rfl)) pgs_nil)))
      (pss_one (ps_if (pt_not (pt_val (pe_cl C_is_lot_below hr (by decide) rfl (pa_cons (pv 3) (pa_cons (pv 1) pa_nil)))))
        (pss_one (ps_raise rfl (takes_of rfl rfl rfl rfl) (pmk_oex e_InvalidTable.o e_InvalidTable.iC e_InvalidTable.tI i_InvalidTable (hr.mono (by decide)) b_InvalidTable .nil pass0 rfl e_InvalidTable.gC (pa_cons (pv 2) pa_nil))))
        pss_nil))))), ?_⟩
    have lx := hT.len
    refine ⟨_, rfl, _, _, _, _, true, rfl, .ty "tuple", tyT hS, kit_ty (by decide +kernel), true, rfl, iteF ?_⟩
    refine ⟨_, rfl, t, _, rfl, .inr hS, _, _, rfl, rfl, _, rfl, ite2 (fun z => ?_) (fun z => ?_)⟩
    · have : (xs.length : Int) > 12 := of_decide_eq_true z
      omega
    refine ⟨_, rfl, t, xs, rfl, hS, ?_⟩
    refine for_it (walk_enumT (K := K) (a := t) (xs := xs)) (fun i σ H' => Same H H' ∧ ∃ y2 y3 : Option V, σ = [some (.ref t), some (.int n), y2, y3]) ⟨Same.refl _, _, _, rfl⟩ (fun i σ H' _ h => seqT h.1 hS) ?_ ?_
    · rintro i v σ H2 H3 hi ⟨sm, y2, y3, rfl⟩ ⟨U, x, rfl, nU, rfl, ex⟩
      obtain ⟨u, c, rfl, ec, hu⟩ := hT.get ex
      have sU := same_upd (o := .tup [.int (i : Nat), .ref u]) nU
      have ok := ho c (List.mem_of_getElem? ec)
      refine ⟨U, _, rfl, .inl (.inl upd_same), rfl, _, _, rfl, _, _, rfl, rfl, ?_⟩
      refine ⟨_, rfl, _, rfl, u, c, n, rfl, seqT (sm.trans sU) hu, ok.1, ok.2.1, ok.2.2, fun H4 s4 => ⟨true, rfl, iteF ?_⟩⟩
      exact ⟨(sm.trans sU).trans s4, _, _, rfl⟩
    · rintro σ H2 ⟨sm, y2, y3, rfl⟩
      exact fin H2 sm
theorem ok_is_name {f : Addr} {fd : FuncData} {tk : Tok} (F : Fun K "is_name" "is_name" s_is_name f fd) (m_LETTERS : ∃ u, mg "LETTERS" = some (.str cLETTERS u)) (m_LONGEST_NAME : mg "LONGEST_NAME" = some (.int 6 tk))
    (z_isinstance : mg "isinstance" = none) (z_str : mg "str" = none) (z_len : mg "len" = none) (z_all : mg "all" = none) : FnOk P w K mg base CX0 1 f fd ["value"] spName := by
  refine F.ok sc_is_name (fun vs H Q E h => ?_) (fun cdv A outer s H vs Q E hr h => ?_)
  · obtain ⟨_, rfl, _⟩ := h
    rfl
  · obtain ⟨z, rfl, ⟨n1, n2, n3⟩, fin⟩ := h
    refine ⟨_, (pss_cons (ps_if (PW.pt (pw_or (pt_not (pt_val (pe_callB call_isi (by rfl) z_isinstance (by decide +kernel) (pa_cons (pv 0) (pa_cons (pe_bltn (v := .ty "str") (by rfl) z_str (by decide +kernel) rfl) pa_nil))))) (pw_or1 (pt_not (pt_chain op_le op_le pe_int (pe_callB call_len_str (by rfl) z_len (by decide +kernel) (pa_cons (pv 0) pa_nil)) (pe_glob (v := .int 6) rfl m_LONGEST_NAME ⟨_, rfl⟩))))))
      (pss_one (ps_ret pe_bl))
      pss_nil)
    (pss_one (ps_ret (pe_callB (cr_all rfl) (by rfl) z_all (by decide +kernel) (pa_cons (pe_lc (own := [("letter", 1)]) (by rfl) sc_is_name.nd (pi_str (pv 0)) (blkOk_by (own := [("letter", 1)]) (N := N_is_name) (sc := defScope s_is_name) (by decide +kernel)) (fun _ _ _ _ _ => (pg_name (i := 1) sc_is_name.nd rfl (.inl rfl))) (fun _ _ _ _ _ => pts_nil) (fun _ _ _ _ _ => (pe_cmpR op_in_sign (pv 1) (pe_gs rfl m_LETTERS) rfl))) pa_nil))))), ?_⟩
    refine ⟨_, rfl, _, _, _, _, true, rfl, .ty "str", .base (.str z), kit_ty (by decide +kernel), true, rfl, iteF ?_⟩
    have zl : z.length = z.cps.size := rfl
    refine ⟨_, rfl, z, rfl, ?_, _, _, rfl, rfl, _, rfl, ite_eq true (decide_eq_true (by show (1 : Int) ≤ (z.length : Nat); omega)) (iteT ?_)⟩
    · have : sizeLine = 16777216 := by decide
      omega
    refine ⟨_, _, rfl, rfl, _, rfl, ite_eq false ?_ (iteF ?_)⟩
    · have e : decide (((z.length : Nat) : Int) ≤ 6) = true := decide_eq_true (by omega)
      rw [e]
      rfl
    refine ⟨_, rfl, z, rfl, fun D nD => ?_⟩
    refine lc_it (walk_str (z := z)) (fun i H' => Same H H' ∧ ∃ bs : List Bool, bs.length = i ∧ bs.all id = true ∧ H' D = some (.lst (bs.map V.bl))) ⟨same_upd nD, [], rfl, rfl, upd_same⟩ (fun _ _ _ _ => trivial) ?_ ?_
    · rintro i v H2 H3 hi ⟨sm, bs, el, ea, hD⟩ ⟨e2, c, ec, rfl⟩
      subst e2
      have cm : c ∈ z.cps.toList := by
        have q : z.cps.toList[i]? = some c := by rw [Array.getElem?_toList]; exact ec
        exact List.mem_of_getElem? q
      refine ⟨rfl, _, rfl, c, _, rfl, rfl, ?_⟩
      rw [decide_eq_true ((in_letters c).mpr (n3 c cm))]
      refine ⟨bs.map V.bl, hD, ?_, HD.same_put sm nD, bs ++ [true], by rw [List.length_append, el]; rfl, ?_, ?_⟩
      · rw [List.length_map]
        have : sizeLine = 16777216 := by decide
        omega
      · rw [List.all_append, ea]
        rfl
      · rw [upd_same, List.map_append]
        rfl
    · rintro H2 ⟨sm, bs, el, ea, hD⟩
      refine ⟨D, bs, rfl, .inl (.inl hD), ?_⟩
      rw [ea]
      exact fin H2 sm
theorem ok_are_names {f : Addr} {fd : FuncData} (F : Fun K "are_names" "are_names" s_are_names f fd) (C_is_name : Cl P w K mg base 1 "is_name" spName) (z_isinstance : mg "isinstance" = none) (z_tuple : mg "tuple" = none) (z_all : mg "all" = none) :
    FnOk P w K mg base CX0 2 f fd ["value"] (spNames K) := by
  refine F.ok sc_are_names (fun vs H Q E h => ?_) (fun cdv A outer s H vs Q E hr h => ?_)
  · obtain ⟨_, _, rfl, _⟩ := h
    rfl
  · obtain ⟨t, ks, rfl, hS, hl, hc, fin⟩ := h
    refine ⟨_, (pss_one (ps_ret (pe_and (pe_callB call_isi (by rfl) z_isinstance (by decide +kernel) (pa_cons (pv 0) (pa_cons (pe_bltn (v := .ty "tuple") (by rfl) z_tuple (by decide +kernel) rfl) pa_nil))) (pe_one (pe_callB (cr_all rfl) (by rfl) z_all (by decide +kernel) (pa_cons (pe_lc (own := [("item", 1)]) (by rfl) sc_are_names.nd (pi_tup (pv 0)) (blkOk_by (own := [("item", 1)]) (N := N_are_names) (sc := defScope s_are_names) (by decide +kernel)) (fun _ _ _ _ _ => (pg_name (i := 1) sc_are_names.nd rfl (.inl rfl))) (fun _ _ _ _ _ => pts_nil) (fun _ _ _ _ _ => (pe_cl C_is_name hr (by decide) rfl (pa_cons (pv 1) pa_nil)))) pa_nil)))))), ?_⟩
    refine ⟨_, rfl, _, _, _, _, true, rfl, .ty "tuple", tyT hS, kit_ty (by decide +kernel), true, rfl, iteT ?_⟩
    refine ⟨_, rfl, t, rfl, ⟨_, hS⟩, fun D nD => ?_⟩
    refine lc_it (walk_tup (K := K) (a := t) (xs := ks.map V.str)) (fun i H' => Same H H' ∧ ∃ bs : List Bool, bs.length = i ∧ bs.all id = true ∧ H' D = some (.lst (bs.map V.bl))) ⟨same_upd nD, [], rfl, rfl, upd_same⟩ (fun i H' _ h => seqT h.1 hS) ?_ ?_
    · rintro i v H1 H2 hi ⟨sm, bs, el, ea, hD⟩ ⟨e2, ex⟩
      subst e2
      rw [List.getElem?_map] at ex
      obtain ⟨z, ec, rfl⟩ := Option.map_eq_some_iff.mp ex
      have il : i < ks.length := (List.getElem?_eq_some_iff.mp ec).1
      refine ⟨rfl, _, rfl, z, rfl, hc z (List.mem_of_getElem? ec), fun H3 s3 => ?_⟩
      have sm3 := sm.trans s3
      refine ⟨bs.map V.bl, s3 _ _ hD, ?_, HD.same_put sm3 nD, bs ++ [true], by rw [List.length_append, el]; rfl, ?_, ?_⟩
      · rw [List.length_map]
        have : sizeLine = 16777216 := by decide
        omega
      · rw [List.all_append, ea]
        rfl
      · rw [upd_same, List.map_append]
        rfl
    · rintro H1 ⟨sm, bs, el, ea, hD⟩
      refine ⟨D, bs, rfl, .inl (.inl hD), ?_⟩
      rw [ea]
      exact fin H1 sm
theorem ok_check_kinds {f fi Ci : Addr} {fd fdi : FuncData} {tk : Tok} (F : Fun K "check_kinds" "check_kinds" s_check_kinds f fd) (C_are_names : Cl P w K mg base 2 "are_names" (spNames K)) (C_is_ascending : Cl P w K mg base 1 "is_ascending" (spAsc K)) (m_MOST_KINDS : mg "MOST_KINDS" = some (.int 12 tk))
    (e_InvalidTable : ErrC K mg "InvalidTable" Ci fi) (i_InvalidTable : FnOk P w K mg base CX0 1 fi fdi ["self", "at"] (spInitW K Ci "at")) (b_InvalidTable : Binds K fdi ["self", "at"] [])
    (z_isinstance : mg "isinstance" = none) (z_tuple : mg "tuple" = none) (z_len : mg "len" = none) :
    FnOk P w K mg base (L2.CX P w) 3 f fd ["kinds"] (spCheckKinds K) := by
  refine F.okX sc_check_kinds (fun vs H Q E h => ?_) (fun cdv A outer s H vs Q E hr h => ?_)
  · obtain ⟨_, _, rfl, _⟩ := h
    rfl
  · obtain ⟨t, ks, rfl, hS, ⟨l1, l2, l3, l4⟩, fin⟩ := h
    refine ⟨_, (pss_cons (ps_if (PW.pt (pw_or (pt_not (pt_val (pe_callB call_isi (by rfl) z_isinstance (by decide +kernel) (pa_cons (pv 0) (pa_cons (pe_bltn (v := .ty "tuple") (by rfl) z_tuple (by decide +kernel) rfl) pa_nil))))) (pw_or1 (pt_not (pt_chain op_le op_le pe_int (pe_callB call_len_seq (by rfl) z_len (by decide +kernel) (pa_cons (pv 0) pa_nil)) (pe_glob (v := .int 12) rfl m_MOST_KINDS ⟨_, rfl⟩))))))
      (pss_one (ps_raise rfl (takes_of rfl rfl rfl rfl) (pmk_oex e_InvalidTable.o e_InvalidTable.iC e_InvalidTable.tI i_InvalidTable (hr.mono (by decide)) b_InvalidTable .nil pass0 rfl e_InvalidTable.gC (pa_cons (pe_un un_neg pe_int) pa_nil))))
      pss_nil)
    (pss_one (ps_if (PW.pt (pw_or (pt_not (pt_val (pe_cl C_are_names hr (by decide) rfl (pa_cons (pv 0) pa_nil)))) (pw_or1 (pt_not (pt_val (pe_cl C_is_ascending hr (by decide) rfl (pa_cons (pv 0) pa_nil)))))))
      (pss_one (ps_raise rfl (takes_of rfl rfl rfl rfl) (pmk_oex e_InvalidTable.o e_InvalidTable.iC e_InvalidTable.tI i_InvalidTable (hr.mono (by decide)) b_InvalidTable .nil pass0 rfl e_InvalidTable.gC (pa_cons (pe_un un_neg pe_int) pa_nil))))
      pss_nil))), ?_⟩
    have ll : (ks.map V.str).length = ks.length := List.length_map _
    refine ⟨_, rfl, _, _, _, _, true, rfl, .ty "tuple", tyT hS, kit_ty (by decide +kernel), true, rfl, iteF ?_⟩
    refine ⟨_, rfl, t, _, rfl, .inr hS, _, _, rfl, rfl, _, rfl, ite_eq true (decide_eq_true (by omega)) (iteT ?_)⟩
    refine ⟨_, _, rfl, rfl, _, rfl, ite_eq false ?_ (iteF ?_)⟩
    · have e : decide ((((ks.map V.str).length : Nat) : Int) ≤ 12) = true := decide_eq_true (by omega)
      rw [e]
      rfl
    refine ⟨_, rfl, t, ks, rfl, hS, by omega, l3, fun H1 s1 => ⟨true, rfl, iteF ?_⟩⟩
    refine ⟨_, rfl, t, _, rfl, seqT s1 hS, by omega, asc_strs l4, fun H2 s2 => ⟨true, rfl, iteF ?_⟩⟩
    exact fin H2 (s1.trans s2)
theorem ok_init_Table {f C : Addr} {fd : FuncData} (F : Fun K "__init__" "Table.__init__" i_Table f fd) (T : TabC K C) (C_check_kinds : Cl P w K mg base 3 "check_kinds" (fun vs H Q _ => spCheckKinds K vs H Q E0)) (C_check_totals : Cl P w K mg base 6 "check_totals" (fun vs H Q _ => spCheckTotals K vs H Q E0))
    (z_len : mg "len" = none) : FnOk P w K mg base CX0 7 f fd ["self", "kinds", "totals"] (spInitT K C) := by
  refine F.ok sc_i_Table (fun vs H Q E h => ?_) (fun cdv A outer s H vs Q E hr h => ?_)
  · obtain ⟨_, _, _, _, _, _, _, rfl, _⟩ := h
    rfl
  · obtain ⟨a, dx, k, t, ks, xs, ts, rfl, ha, hk, ok, ht, hT, hl, hc, fin⟩ := h
    refine ⟨_, (pss_cons (ps_expr (pe_cl C_check_kinds hr (by decide) rfl (pa_cons (pv 1) pa_nil)))
      (pss_cons (ps_expr (pe_cl C_check_totals hr (by decide) rfl (pa_cons (pv 2) (pa_cons (pe_callB call_len_seq (by rfl) z_len (by decide +kernel) (pa_cons (pv 1) pa_nil)) pa_nil))))
      (pss_cons (ps_fld (pv 0) (pv 1) (by rfl))
      (pss_one (ps_fld (pv 0) (pv 2) (by rfl)))))), ?_⟩
    refine ⟨_, rfl, k, ks, rfl, hk, ok, fun H1 s1 => ?_⟩
    have hk1 := seqT s1 hk
    have e : ((ks.map V.str).length : Int) = (ks.length : Nat) := by rw [List.length_map]
    refine ⟨_, rfl, _, rfl, k, _, rfl, .inr hk1, t, xs, ts, _, rfl, seqT s1 ht, hT.mono s1, hl, fun c h => by rw [e]; exact hc c h, fun H2 s2 => ?_⟩
    have s12 := s1.trans s2
    refine ⟨_, rfl, _, rfl, a, C, dx, [], rfl, s12 _ _ ha, T.c, T.nk, by decide, ?_⟩
    refine ⟨_, rfl, _, rfl, a, C, dx, _, rfl, upd_same, T.c, T.nt, by show 1 < 1000; decide, ?_⟩
    refine fin _ (fun b o nb hb => ?_) ?_
    · rw [upd_ne nb, upd_ne nb]
      exact s12 b o hb
    · rw [upd_same]
      rfl
theorem ok_is_tuple_of {f : Addr} {fd : FuncData} (F : Fun K "is_tuple_of" "is_tuple_of" s_is_tuple_of f fd) (z_isinstance : mg "isinstance" = none) (z_tuple : mg "tuple" = none) (z_len : mg "len" = none) :
    FnOk P w K mg base CX0 1 f fd ["value", "many"] (spTup K) := by
  refine F.ok sc_is_tuple_of (fun vs H Q E h => ?_) (fun cdv A outer s H vs Q E hr h => ?_)
  · obtain ⟨v, o, rfl, _⟩ := h
    rfl
  · obtain ⟨v, n, rfl, h⟩ := h
    refine ⟨_, (pss_one (ps_ret (pe_and (pe_callB call_isi (by rfl) z_isinstance (by decide +kernel) (pa_cons (pv 0) (pa_cons (pe_bltn (v := .ty "tuple") (by rfl) z_tuple (by decide +kernel) rfl) pa_nil))) (pe_one (pe_cmpR op_eq (pe_callB call_len_seq (by rfl) z_len (by decide +kernel) (pa_cons (pv 0) pa_nil)) (pv 1) (nomark _)))))), ?_⟩
    rcases h with ⟨ty, t, k, q⟩ | ⟨p, xs, rfl, hS, q⟩
    · exact ⟨_, rfl, _, _, _, _, false, rfl, .ty "tuple", t, kit_ty k, false, rfl, iteF q⟩
    · refine ⟨_, rfl, _, _, _, _, true, rfl, .ty "tuple", tyT hS, kit_ty (by decide +kernel), true, rfl, iteT ⟨_, rfl, p, xs, rfl, .inr hS, _, rfl, rfl, ?_⟩⟩
      have e : decide (V.int (xs.length : Int) = V.int (n : Int)) = decide (xs.length = n) := by
        by_cases h : xs.length = n
        · rw [decide_eq_true h, decide_eq_true (by rw [h])]
        · rw [decide_eq_false h, decide_eq_false (fun z => h (by have := V.int.inj z; omega))]
      rw [e]
      exact q
theorem ok_added {f : Addr} {fd : FuncData} (F : Fun K "added" "added" s_added f fd) (m_gcd : mg "gcd" = some (.builtin "math.gcd")) :
    FnOk P w K mg base CX0 1 f fd ["one", "other"] (spAdd K) := by
  refine F.ok sc_added (fun vs H Q E h => ?_) (fun cdv A outer s H vs Q E hr h => ?_)
  · obtain ⟨_, _, _, _, rfl, _⟩ := h
    rfl
  · obtain ⟨s1, t1, p, q, rfl, h1, h2, lp, lq, bp, bq, fin⟩ := h
    refine ⟨_, (pss_cons (ps_asg (pv 0) (pg_tup rfl (pgs_cons (pg_name (i := 2) sc_added.nd rfl (.inl rfl)) (pgs_cons (pg_name (i := 3) sc_added.nd rfl (.inl rfl)) pgs_nil))))
    (pss_cons (ps_asg (pv 1) (pg_tup rfl (pgs_cons (pg_name (i := 4) sc_added.nd rfl (.inl rfl)) (pgs_cons (pg_name (i := 5) sc_added.nd rfl (.inl rfl)) pgs_nil))))
    (pss_cons (ps_set (i := 6) sc_added.nd rfl (.inl rfl) (pe_callBfun cr_gcd rfl m_gcd (pa_cons (pv 3) (pa_cons (pv 5) pa_nil))))
    (pss_cons (ps_set (i := 7) sc_added.nd rfl (.inl rfl) (pe_op op_fdivW (pv 3) (pv 6)))
    (pss_cons (ps_set (i := 8) sc_added.nd rfl (.inl rfl) (pe_op op_add (pe_op op_mulW (pv 2) (pe_op op_fdivW (pv 5) (pv 6))) (pe_op op_mulW (pv 4) (pv 7))))
    (pss_cons (ps_set (i := 9) sc_added.nd rfl (.inl rfl) (pe_callBfun cr_gcd rfl m_gcd (pa_cons (pv 8) (pa_cons (pv 6) pa_nil))))
    (pss_one (ps_ret (pe_tup (pa_cons (pe_op op_fdivW (pv 8) (pv 9)) (pa_cons (pe_op op_mulW (pv 7) (pe_op op_fdivW (pv 5) (pv 9))) pa_nil))))))))))), ?_⟩
    have hb := lp.1
    have hd := lq.1
    have gp := M2.g_pos (a := p.2) (b := q.2) (by omega)
    have gs : M2.g p.2 q.2 ≤ q.2.natAbs := Nat.gcd_le_right _ (by omega)
    have gb : ((M2.g p.2 q.2 : Nat) : Int).natAbs < 2 ^ 3000 := by
      rw [Int.natAbs_natCast]
      exact Nat.lt_of_le_of_lt gs bq.2
    have W1 : CDivW p.2 ((M2.g p.2 q.2 : Nat) : Int) := wide_div (by omega) gb (by decide) (by decide)
    have W2 : CDivW q.2 ((M2.g p.2 q.2 : Nat) : Int) := wide_div (by omega) gb (by decide) (by decide)
    have l1 : (p.2 / ((M2.g p.2 q.2 : Nat) : Int)).natAbs < 2 ^ 3000 := Nat.lt_of_le_of_lt (M2.natAbs_div_le _ (by omega)) bp.2
    have l2 : (q.2 / ((M2.g p.2 q.2 : Nat) : Int)).natAbs < 2 ^ 3000 := Nat.lt_of_le_of_lt (M2.natAbs_div_le _ (by omega)) bq.2
    refine ⟨_, rfl, s1, _, rfl, h1, rfl, _, _, rfl, _, _, rfl, rfl, ?_⟩
    refine ⟨_, rfl, t1, _, rfl, h2, rfl, _, _, rfl, _, _, rfl, rfl, ?_⟩
    refine ⟨_, rfl, _, rfl, p.2, q.2, rfl, ?_⟩
    refine ⟨_, rfl, _, rfl, _, _, rfl, rfl, W1, ?_⟩
    refine ⟨_, rfl, _, rfl, _, rfl, _, _, rfl, rfl, W2, _, _, rfl, rfl, mulW (up bp.1 (by decide)) (up l2 (by decide)), _, rfl, _, rfl, _, _, rfl, rfl, mulW (up bq.1 (by decide)) (up l1 (by decide)), _, _, rfl, rfl, ?_⟩
    refine ⟨_, rfl, _, rfl, _, _, rfl, ?_⟩
    have kp := M2.g_pos (a := p.1 * (q.2 / ((M2.g p.2 q.2 : Nat) : Int)) + q.1 * (p.2 / ((M2.g p.2 q.2 : Nat) : Int))) (b := ((M2.g p.2 q.2 : Nat) : Int)) (by omega)
    have ks : M2.g (p.1 * (q.2 / ((M2.g p.2 q.2 : Nat) : Int)) + q.1 * (p.2 / ((M2.g p.2 q.2 : Nat) : Int))) ((M2.g p.2 q.2 : Nat) : Int) ≤ ((M2.g p.2 q.2 : Nat) : Int).natAbs := Nat.gcd_le_right _ (by omega)
    have kb : ((M2.g (p.1 * (q.2 / ((M2.g p.2 q.2 : Nat) : Int)) + q.1 * (p.2 / ((M2.g p.2 q.2 : Nat) : Int))) ((M2.g p.2 q.2 : Nat) : Int) : Nat) : Int).natAbs < 2 ^ 3000 := by
      rw [Int.natAbs_natCast]
      exact Nat.lt_of_le_of_lt ks gb
    have W3 : ∀ x : Int, CDivW x ((M2.g (p.1 * (q.2 / ((M2.g p.2 q.2 : Nat) : Int)) + q.1 * (p.2 / ((M2.g p.2 q.2 : Nat) : Int))) ((M2.g p.2 q.2 : Nat) : Int) : Nat) : Int) := fun x => wide_div (by omega) kb (by decide) (by decide)
    have l3 : (q.2 / ((M2.g (p.1 * (q.2 / ((M2.g p.2 q.2 : Nat) : Int)) + q.1 * (p.2 / ((M2.g p.2 q.2 : Nat) : Int))) ((M2.g p.2 q.2 : Nat) : Int) : Nat) : Int)).natAbs < 2 ^ 3000 := Nat.lt_of_le_of_lt (M2.natAbs_div_le _ (by omega)) bq.2
    refine ⟨_, rfl, _, rfl, _, _, rfl, rfl, W3 _, _, rfl, _, rfl, _, rfl, _, _, rfl, rfl, W3 _, _, _, rfl, rfl, mulW (up l1 (by decide)) (up l3 (by decide)), by show 2 ≤ sizeLine; decide, fun u nu => ?_⟩
    exact fin _ u (same_upd nu) nu upd_same
theorem ok__law_draw {f : Addr} {fd : FuncData} (F : Fun K "_law_draw" "_law_draw" s__law_draw f fd) (z_int : mg "int" = none) :
    FnOk P w K mg base CX0 1 f fd ["heap", "many"] spDraw := by
  refine F.ok sc__law_draw (fun vs H Q E h => ?_) (fun cdv A outer s H vs Q E hr h => ?_)
  · obtain ⟨p, q, many, rfl, _⟩ := h
    rfl
  · obtain ⟨p, q, many, rfl, hd, m0, m1, fin⟩ := h
    refine ⟨_, (pss_cut (ps_while PassesOwn.never (PW.pt (pw_and (pt_cmpR (op_neD hr.units) (pe_ix ix_list (pv 0) pe_int (fun _ _ => rfl)) (pe_lst pa_nil) (nomark _)) (pw_and1 (pt_cmpR op_eq (pe_ix ix_list (pe_ix ix_list (pv 0) pe_int (fun _ _ => rfl)) (pe_un un_neg pe_int) (fun _ _ => rfl)) pe_int (nomark _)))))
      (pss_one (ps_expr (pe_bm0 PySem.F.plainAttrs_list PySem.F.slot_list_pop PySem.F.type_list_pop mt_pop (pe_ix ix_list (pv 0) pe_int (fun _ _ => rfl))))))
    (pss_cons (ps_if (pt_cmpR (op_neD hr.units) (pe_ix ix_list (pv 0) pe_int (fun _ _ => rfl)) (pe_lst pa_nil) (nomark _))
      (pss_cons (ps_set (i := 2) sc__law_draw.nd rfl (.inl rfl) (pe_bm0 PySem.F.plainAttrs_list PySem.F.slot_list_pop PySem.F.type_list_pop mt_pop (pe_ix ix_list (pv 0) pe_int (fun _ _ => rfl))))
      (pss_cons (ps_expr (pe_bm PySem.F.plainAttrs_list PySem.F.slot_list_append PySem.F.type_list_append mt_append (pe_ix ix_list (pv 0) pe_int (fun _ _ => rfl)) (pa_cons (pe_op op_fdivN (pv 2) (pv 1)) pa_nil)))
      (pss_one (ps_ret (pe_op op_modN (pe_callTy call_int1 (by rfl) z_int (by decide +kernel) (pa_cons (pv 2) pa_nil)) (pv 1))))))
      pss_nil)
    (pss_cons (ps_asg (pe_op op_modN (pe_callTy call_int1 (by rfl) z_int (by decide +kernel) (pa_cons (pe_op op_add (pe_op op_mul (pe_ix ix_list (pv 0) pe_int (fun _ _ => rfl)) pe_int) pe_int) pa_nil)) pe_int) (pg_sub (pv 0) pe_int set_list))
    (pss_one (ps_ret (pe_op op_modN (pe_callTy call_int1 (by rfl) z_int (by decide +kernel) (pa_cons (pe_op op_fdivN (pe_ix ix_list (pv 0) pe_int (fun _ _ => rfl)) pe_int) pa_nil)) (pv 1))))))), ?_⟩
    obtain ⟨cs, st, h1, h2, h3, h4, h5⟩ := hd
    have at0 : ∀ x y : V, atI [x, y] 0 = some x := fun _ _ => rfl
    have at1 : ∀ x y : V, atI [x, y] 1 = some y := fun _ _ => rfl
    refine ⟨fun σ H' => σ = [some (.ref p), some (.int many), none] ∧ Keep p q H H' ∧ ∃ cs : List Int, H' p = some (.lst [.ref q, .int st]) ∧ H' q = some (.lst (cs.map V.int)) ∧ cs.length ≤ 63, ?_, ?_⟩
    · -- the loop
      refine ⟨fun m σ H' => ∃ cs : List Int, m = cs.length ∧ σ = [some (.ref p), some (.int many), none] ∧ Keep p q H H' ∧ H' p = some (.lst [.ref q, .int st]) ∧ H' q = some (.lst (cs.map V.int)) ∧ cs.length ≤ 63,
        ⟨_, cs, rfl, rfl, Keep.refl _ _ _, h1, h2, h3⟩, ?_⟩
      rintro m σ H1 ⟨cs, rfl, rfl, kp, h1, h2, h3⟩
      refine ⟨_, rfl, p, _, 0, .ref q, rfl, rfl, .inl (.inl h1), at0 _ _, Nat.zero_le _, fun l nl => ?_⟩
      have n1 : p ≠ l := ne_of_none h1 nl
      have n2 : q ≠ l := ne_of_none h2 nl
      have g1 : (upd H1 l (.lst [])) p = some (.lst [.ref q, .int st]) := by
        rw [upd_ne n1]
        exact h1
      have g2 : (upd H1 l (.lst [])) q = some (.lst (cs.map V.int)) := by
        rw [upd_ne n2]
        exact h2
      have kp1 : Keep p q H (upd H1 l (.lst [])) := kp.trans (Keep.new nl)
      refine ⟨_, .list [], dp_ints (.inl (.inl g2)), .lst (.inl (.inl upd_same)) .nil, shaped_ints _, shaped_nil, _, rfl, ?_⟩
      rw [eqv_nil]
      by_cases hc : cs = []
      · rw [decide_eq_true hc]
        refine iteF ⟨rfl, kp1, cs, g1, g2, h3⟩
      · rw [decide_eq_false hc]
        refine iteT ?_
        obtain ⟨c0, c, rfl⟩ := snocL cs hc
        have gl : atI ((c0 ++ [c]).map V.int) (-1) = some (.int c) := by
          rw [List.map_append]
          exact atI_last _ _
        refine ⟨_, rfl, p, _, 0, .ref q, rfl, rfl, .inl (.inl g1), at0 _ _, 1, rfl, q, _, -1, _, rfl, rfl, .inl (.inl g2), gl, rfl, _, rfl, ite2 (fun e => ?_) (fun e => ?_)⟩
        · refine ⟨fun σ' H'' => σ' = [some (.ref p), some (.int many), none] ∧ Keep p q H H'' ∧ H'' p = some (.lst [.ref q, .int st]) ∧ H'' q = some (.lst (c0.map V.int)), fun σ' H'' hN => ?_, ?_⟩
          · obtain ⟨e1, e2, e3, e4⟩ := hN
            rw [List.length_append, List.length_cons, List.length_nil] at h3
            exact ⟨c0.length, by rw [List.length_append, List.length_cons, List.length_nil]; omega, c0, rfl, e1, e2, e3, e4, by omega⟩
          · refine ⟨_, rfl, p, _, 0, .ref q, rfl, rfl, .inl (.inl g1), at0 _ _, .inl ⟨rfl, _, .inl (.inl g2)⟩, q, _, .int c, rfl, rfl, g2, ?_, rfl, kp1.trans Keep.at2, ?_, ?_⟩
            · rw [List.map_append, List.length_append, List.getElem?_append_right (by simp)]
              simp
            · rw [upd_ne (show p ≠ q from Hd.ne (H := upd H1 l (.lst [])) ⟨_, _, g1, g2, h3, h4, h5⟩)]
              exact g1
            · rw [upd_same, List.map_append]
              simp
        · exact ⟨rfl, kp1, _, g1, g2, h3⟩
    · rintro σ H1 ⟨rfl, kp, cs, h1, h2, h3⟩
      refine ⟨_, rfl, p, _, 0, .ref q, rfl, rfl, .inl (.inl h1), at0 _ _, Nat.zero_le _, fun l nl => ?_⟩
      have n1 : p ≠ l := ne_of_none h1 nl
      have n2 : q ≠ l := ne_of_none h2 nl
      have g1 : (upd H1 l (.lst [])) p = some (.lst [.ref q, .int st]) := by
        rw [upd_ne n1]
        exact h1
      have g2 : (upd H1 l (.lst [])) q = some (.lst (cs.map V.int)) := by
        rw [upd_ne n2]
        exact h2
      have kp1 : Keep p q H (upd H1 l (.lst [])) := kp.trans (Keep.new nl)
      have hpq : p ≠ q := Hd.ne (H := upd H1 l (.lst [])) ⟨_, _, g1, g2, h3, h4, h5⟩
      refine ⟨_, .list [], dp_ints (.inl (.inl g2)), .lst (.inl (.inl upd_same)) .nil, shaped_ints _, shaped_nil, _, rfl, ?_⟩
      rw [eqv_nil]
      by_cases hc : cs = []
      · -- from the number
        rw [decide_eq_true hc]
        refine iteF ?_
        have b1 : -(2 ^ 64) < st ∧ st < 2 ^ 64 := ⟨by omega, by omega⟩
        have fm := fmod_lt (st * 48271 + 17) (m := 2147483647) (by decide)
        refine ⟨_, rfl, p, _, 1, .int st, rfl, rfl, .inl (.inl g1), at1 _ _, _, _, rfl, rfl, .inl b1, _, _, rfl, rfl, .inl ⟨_, rfl, _, _, rfl, rfl, by show (2147483647 : Int) ≠ 0; decide, ?_⟩⟩
        refine ⟨_, rfl, p, _, 1, 1, rfl, rfl, g1, rfl, ?_⟩
        have g3 : (upd (upd H1 l (.lst [])) p (.lst ([V.ref q, V.int st].set 1 (V.int ((st * 48271 + 17).fmod 2147483647))))) p = some (.lst [.ref q, .int ((st * 48271 + 17).fmod 2147483647)]) := upd_same
        refine ⟨_, rfl, p, _, 1, .int ((st * 48271 + 17).fmod 2147483647), rfl, rfl, .inl (.inl g3), at1 _ _, _, _, rfl, rfl, ⟨by decide, by decide⟩, .inl ⟨_, rfl, _, rfl, _, _, rfl, rfl, by omega, ?_⟩⟩
        have fm2 := fmod_lt (((st * 48271 + 17).fmod 2147483647).fdiv 32) m0
        refine fin _ _ ⟨cs, _, g3, ?_, h3, fm.1, fm.2⟩ (kp1.trans Keep.at1) fm2.1 fm2.2
        rw [upd_ne hpq.symm]
        exact g2
      · rw [decide_eq_false hc]
        refine iteT ?_
        obtain ⟨c0, c, rfl⟩ := snocL cs hc
        have gp : (List.map V.int (c0 ++ [c]))[(List.map V.int (c0 ++ [c])).length - 1]? = some (.int c) := by
          rw [List.map_append, List.length_append, List.getElem?_append_right (by simp)]
          simp
        refine ⟨_, rfl, p, _, 0, .ref q, rfl, rfl, .inl (.inl g1), at0 _ _, .inl ⟨rfl, _, .inl (.inl g2)⟩, q, _, .int c, rfl, rfl, g2, gp, ?_⟩
        have dl : (List.map V.int (c0 ++ [c])).dropLast = c0.map V.int := by
          rw [List.map_append]
          simp
        rw [dl]
        have g3 : (upd (upd H1 l (.lst [])) q (.lst (c0.map V.int))) p = some (.lst [.ref q, .int st]) := by
          rw [upd_ne hpq]
          exact g1
        have g4 : (upd (upd H1 l (.lst [])) q (.lst (c0.map V.int))) q = some (.lst (c0.map V.int)) := upd_same
        refine ⟨_, rfl, p, _, 0, .ref q, rfl, rfl, .inl (.inl g3), at0 _ _, .inl ⟨rfl, _, .inl (.inl g4)⟩, _, rfl, _, rfl, _, _, rfl, rfl, ⟨by omega, by omega⟩, q, _, _, rfl, rfl, g4, ?_, ?_⟩
        · rw [List.length_append, List.length_cons, List.length_nil] at h3
          rw [List.length_map]
          exact small1000 (by omega)
        · refine ⟨_, rfl, .inl ⟨_, rfl, _, rfl, _, _, rfl, rfl, by omega, ?_⟩⟩
          have fm := fmod_lt c m0
          refine fin _ _ ⟨c0 ++ [c.fdiv many], st, ?_, ?_, ?_, h4, h5⟩ ((kp1.trans Keep.at2).trans Keep.at2) fm.1 fm.2
          · rw [upd_ne hpq]
            exact g3
          · rw [upd_same, List.map_append]
            rfl
          · rw [List.length_append, List.length_cons, List.length_nil] at h3 ⊢
            exact h3
theorem ok__law_pick {f : Addr} {fd : FuncData} (F : Fun K "_law_pick" "_law_pick" s__law_pick f fd) (C__law_draw : Cl P w K mg base 1 "_law_draw" spDraw) (z_len : mg "len" = none) :
    FnOk P w K mg base CX0 2 f fd ["heap", "some"] (spPick K) := by
  refine F.ok sc__law_pick (fun vs H Q E h => ?_) (fun cdv A outer s H vs Q E hr h => ?_)
  · obtain ⟨p, q, l, xs, rfl, _⟩ := h
    rfl
  · obtain ⟨p, q, l, xs, rfl, hd, hl, n1, n2, hx, hz, fin⟩ := h
    refine ⟨_, (pss_one (ps_ret (pe_ix ix_list (pv 1) (pe_cl C__law_draw hr (by decide) rfl (pa_cons (pv 0) (pa_cons (pe_callB call_len_seq (by rfl) z_len (by decide +kernel) (pa_cons (pv 1) pa_nil)) pa_nil))) (fun _ _ => rfl)))), ?_⟩
    have h0 : 0 < xs.length := List.length_pos_iff.mpr hx
    refine ⟨_, rfl, _, rfl, _, rfl, l, xs, rfl, .inl (.inl (.inl hl)), p, q, _, rfl, hd, by omega, by omega, fun H' r hd' kp r0 r1 => ?_⟩
    have hl' := kp l _ n1 n2 hl
    obtain ⟨j, rfl⟩ := Int.eq_ofNat_of_zero_le r0
    have hj : j < xs.length := by omega
    refine ⟨l, xs, _, xs[j], rfl, rfl, .inl (.inl hl'), atI_nat (List.getElem?_eq_getElem hj), ?_⟩
    exact fin _ _ hd' kp (List.getElem_mem hj)
theorem ok__law_heapF {f : Addr} {fd : FuncData} (F : Fun K "_law_heap" "_law_heap" s__law_heap f fd) (z_int : mg "int" = none) (z_abs : mg "abs" = none) :
    FnOk P w K mg base CX0 1 f fd ["script"] (spHeapF K) := by
  refine F.ok sc__law_heap (fun vs H Q E h => ?_) (fun cdv A outer s H vs Q E hr h => ?_)
  · obtain ⟨a, ns, rfl, _⟩ := h
    rfl
  · obtain ⟨a, ns, rfl, hS, hn, fin⟩ := h
    refine ⟨_, (pss_cons (ps_par (i := 2) (j := 3) (by rfl) sc__law_heap.nd rfl rfl (by decide) rfl rfl (pa_cons (pe_lc (own := [("cell", 1)]) (by rfl) sc__law_heap.nd (pi_list (pe_slice sl_list (pv 0) po_none (po_some pe_int))) (blkOk_by (own := [("cell", 1)]) (N := N__law_heap) (sc := defScope s__law_heap) (by decide +kernel)) (fun _ _ _ _ _ => (pg_name (i := 1) sc__law_heap.nd rfl (.inl rfl))) (fun _ _ _ _ _ => pts_nil) (fun _ _ _ _ _ => (pe_op op_add (pe_op op_mul pe_int (pe_callB call_abs (by rfl) z_abs (by decide +kernel) (pa_cons (pv 1) pa_nil))) (pe_callTy call_int1 (by rfl) z_int (by decide +kernel) (pa_cons (pe_cmpR op_lt (pv 1) pe_int (nomark _)) pa_nil))))) (pa_cons pe_int pa_nil)) (by rfl))
    (pss_cut (ps_for PassesOwn.never rfl (pi_list (pv 2)) (pg_name (i := 1) sc__law_heap.nd rfl (.inl rfl))
      (pss_one (ps_set (i := 3) sc__law_heap.nd rfl (.inl rfl) (pe_op op_modN (pe_callTy call_int1 (by rfl) z_int (by decide +kernel) (pa_cons (pe_op op_add (pe_op op_add (pe_op op_mul (pv 3) pe_int) (pe_op op_modN (pe_callTy call_int1 (by rfl) z_int (by decide +kernel) (pa_cons (pv 1) pa_nil)) pe_int)) pe_int) pa_nil)) pe_int))))
    (pss_one (ps_ret (pe_lst (pa_cons (pe_revL (pe_lc (own := [("cell", 1)]) (by rfl) sc__law_heap.nd (pi_list (pv 2)) (blkOk_by (own := [("cell", 1)]) (N := N__law_heap) (sc := defScope s__law_heap) (by decide +kernel)) (fun _ _ _ _ _ => (pg_name (i := 1) sc__law_heap.nd rfl (.inl rfl))) (fun _ _ _ _ _ => (pts_one (pt_cmpR op_ge (pv 1) (pe_op op_pow pe_int pe_int) (nomark _)))) (fun _ _ _ _ _ => (pv 1)))) (pa_cons (pv 3) pa_nil))))))), ?_⟩
    obtain ⟨ms, em, hm⟩ := cut_ints ns none (some 60)
    refine ⟨_, rfl, _, rfl, a, _, rfl, hS, fun c nc => ?_⟩
    rw [em]
    have s1 : Same H (upd H c (.lst (ms.map V.int))) := FR.same_upd nc
    refine ⟨c, rfl, ⟨_, .inl (.inl upd_same)⟩, fun D nD => ?_⟩
    have ncD : c ≠ D := ne_of_none upd_same nD
    refine lc_it (walk_list (K := K) (a := c) (xs := ms.map V.int)) (fun i H' => Same H H' ∧ H' c = some (.lst (ms.map V.int)) ∧ ∃ cs : List Int, cs.length = i ∧ H' D = some (.lst (cs.map V.int))) ?_ ?_ ?_ ?_
    · exact ⟨s1.trans (FR.same_upd nD), by rw [upd_ne ncD]; exact upd_same, [], rfl, upd_same⟩
    · rintro i H' _ ⟨_, h2, _⟩
      exact .inl (.inl h2)
    · rintro i x H1 H' hi ⟨sm, hc, cs, el, hD⟩ ⟨rfl, ex⟩
      rw [List.length_map] at hi
      rw [List.getElem?_map, List.getElem?_eq_getElem hi] at ex
      have e1 : V.int ms[i] = x := Option.some.inj ex
      subst e1
      refine ⟨rfl, _, rfl, _, rfl, _, _, rfl, rfl, .inl ⟨by decide, by decide⟩, _, rfl, _, _, rfl, rfl, .inr ⟨_, rfl, _, _, rfl, rfl, ?_⟩⟩
      refine ⟨cs.map V.int, hD, ?_, ?_, ?_, ?_⟩
      · rw [List.length_map]
        exact small1000 (by omega)
      · have nH : H D = none := s1.free nD
        exact HD.same_put sm nH
      · rw [upd_ne ncD]
        exact hc
      · refine ⟨cs ++ [2 * (if ms[i] < 0 then -ms[i] else ms[i]) + (if decide (ms[i] < 0) = true then 1 else 0)], by rw [List.length_append, el]; rfl, ?_⟩
        rw [upd_same, List.map_append]
        rfl
    · rintro H1 ⟨sm, hc, cs, el, hD⟩
      rw [List.length_map] at el
      have hcs : cs.length ≤ 63 := by omega
      refine ⟨_, _, rfl, ?_⟩
      -- the loop over the cells
      refine ⟨fun σ H' => H' = H1 ∧ ∃ (y1 : Option V) (st : Int), σ = [some (.ref a), y1, some (.ref D), some (.int st)] ∧ 0 ≤ st ∧ st < 2147483647, ?_, ?_⟩
      · refine ⟨_, rfl, D, rfl, ⟨_, .inl (.inl hD)⟩, ?_⟩
        refine for_it (walk_list (K := K) (a := D) (xs := cs.map V.int)) (fun i σ H' => H' = H1 ∧ ∃ (y1 : Option V) (st : Int), σ = [some (.ref a), y1, some (.ref D), some (.int st)] ∧ 0 ≤ st ∧ st < 2147483647) ?_ ?_ ?_ ?_
        · exact ⟨rfl, _, 31337, rfl, by decide, by decide⟩
        · rintro i σ H' _ ⟨rfl, _⟩
          exact .inl (.inl hD)
        · rintro i x σ H' H'' hi ⟨rfl, y1, st, rfl, h1, h2⟩ ⟨rfl, ex⟩
          rw [List.length_map] at hi
          rw [List.getElem?_map, List.getElem?_eq_getElem hi] at ex
          have e1 : V.int cs[i] = x := Option.some.inj ex
          subst e1
          have fm := fmod_lt (st * 69621 + (cs[i]).fmod 2147483563 + 29) (m := 2147483647) (by decide)
          refine ⟨_, rfl, _, _, rfl, rfl, .inl ⟨by omega, by omega⟩, _, rfl, .inl ⟨_, rfl, _, _, rfl, rfl, by show (2147483563 : Int) ≠ 0; decide, _, _, rfl, rfl, _, _, rfl, rfl, .inl ⟨_, rfl, _, _, rfl, rfl, by show (2147483647 : Int) ≠ 0; decide, ?_⟩⟩⟩
          exact ⟨rfl, _, _, rfl, fm.1, fm.2⟩
        · rintro σ H' ⟨rfl, h⟩
          exact ⟨rfl, h⟩
      · rintro σ H' ⟨rfl, y1, st, rfl, h1, h2⟩
        refine ⟨_, rfl, D, rfl, ⟨_, .inl (.inl hD)⟩, fun B nB => ?_⟩
        have nDB : D ≠ B := ne_of_none hD nB
        refine lc_it (walk_list (K := K) (a := D) (xs := cs.map V.int)) (fun i H2 => Same H H2 ∧ H2 D = some (.lst (cs.map V.int)) ∧ ∃ ds : List Int, ds.length ≤ i ∧ H2 B = some (.lst (ds.map V.int))) ?_ ?_ ?_ ?_
        · exact ⟨sm.trans (FR.same_upd nB), by rw [upd_ne nDB]; exact hD, [], Nat.le_refl _, upd_same⟩
        · rintro i H2 _ ⟨_, g2, _⟩
          exact .inl (.inl g2)
        · rintro i x H2 H3 hi ⟨sm2, hD2, ds, el2, hB⟩ ⟨rfl, ex⟩
          rw [List.length_map] at hi
          rw [List.getElem?_map, List.getElem?_eq_getElem hi] at ex
          have e1 : V.int cs[i] = x := Option.some.inj ex
          subst e1
          refine ⟨rfl, _, rfl, _, _, rfl, rfl, ⟨by decide, by decide, by decide⟩, _, _, rfl, rfl, _, rfl, ite2 (fun e => ?_) (fun e => ?_)⟩
          · refine ⟨_, rfl, ds.map V.int, hB, ?_, HD.same_put sm2 (sm.free nB), ?_, ?_⟩
            · rw [List.length_map]
              exact small1000 (by omega)
            · rw [upd_ne nDB]
              exact hD2
            · refine ⟨ds ++ [cs[i]], by rw [List.length_append, List.length_cons, List.length_nil]; omega, ?_⟩
              rw [upd_same, List.map_append]
              rfl
          · exact ⟨sm2, hD2, ds, by omega, hB⟩
        · rintro H2 ⟨sm2, hD2, ds, el2, hB⟩
          rw [List.length_map] at el2
          refine ⟨B, _, rfl, .inl (.inl hB), fun q nq => ?_⟩
          refine ⟨_, rfl, by show 2 ≤ sizeLine; decide, fun p np => ?_⟩
          have npq : q ≠ p := ne_of_none upd_same np
          refine fin _ p q ⟨ds.reverse, st, upd_same, ?_, ?_, h1, h2⟩ ((sm2.trans (FR.same_upd nq)).trans (FR.same_upd np)) ((sm2.trans (FR.same_upd nq)).free np) (sm2.free nq)
          · rw [upd_ne npq, upd_same, List.map_reverse]
          · rw [List.length_reverse]
            omega
theorem ok_is_fraction {f : Addr} {fd : FuncData} (F : Fun K "is_fraction" "is_fraction" s_is_fraction f fd) (C_is_an_integer : Cl P w K mg base 1 "is_an_integer" (spInt K)) (C_is_tuple_of : Cl P w K mg base 1 "is_tuple_of" (spTup K)) (m_gcd : mg "gcd" = some (.builtin "math.gcd")) :
    FnOk P w K mg base CX0 2 f fd ["value"] (spIsFr K) := by
  refine F.ok sc_is_fraction (fun vs H Q E h => ?_) (fun cdv A outer s H vs Q E hr h => ?_)
  · obtain ⟨v, rfl, _⟩ := h
    rfl
  · obtain ⟨v, rfl, h⟩ := h
    refine ⟨_, (pss_cons (ps_if (pt_not (pt_val (pe_cl C_is_tuple_of hr (by decide) rfl (pa_cons (pv 0) (pa_cons pe_int pa_nil)))))
      (pss_one (ps_ret pe_bl))
      pss_nil)
    (pss_cons (ps_asg (pv 0) (pg_tup rfl (pgs_cons (pg_name (i := 1) sc_is_fraction.nd rfl (.inl rfl)) (pgs_cons (pg_name (i := 2) sc_is_fraction.nd rfl (.inl rfl)) pgs_nil))))
    (pss_cons (ps_if (PW.pt (pw_or (pt_not (pt_val (pe_cl C_is_an_integer hr (by decide) rfl (pa_cons (pv 1) pa_nil)))) (pw_or1 (pt_not (pt_val (pe_cl C_is_an_integer hr (by decide) rfl (pa_cons (pv 2) pa_nil)))))))
      (pss_one (ps_ret pe_bl))
      pss_nil)
    (pss_one (ps_ret (pe_and (pe_cmpR op_gt (pv 2) pe_int (nomark _)) (pe_one (pe_cmpR op_eq (pe_callBfun cr_gcd rfl m_gcd (pa_cons (pv 1) (pa_cons (pv 2) pa_nil))) pe_int (nomark _))))))))), ?_⟩
    rcases h with ⟨ty, t, k, q⟩ | ⟨p, xs, rfl, hS, hl, q⟩ | ⟨p, x, y, o1, o2, rfl, hS, h1, h2, q⟩
    · exact ⟨_, rfl, v, 2, rfl, .inl ⟨ty, t, k, _, rfl, iteT q⟩⟩
    · refine ⟨_, rfl, _, 2, rfl, .inr ⟨p, xs, rfl, hS, _, rfl, ?_⟩⟩
      rw [decide_eq_false hl]
      exact iteT q
    · refine ⟨_, rfl, _, 2, rfl, .inr ⟨p, _, rfl, hS, _, rfl, ?_⟩⟩
      refine iteF ?_
      refine ⟨_, rfl, p, _, rfl, hS, rfl, _, _, rfl, _, _, rfl, rfl, ?_⟩
      refine ⟨_, rfl, x, o1, rfl, h1, _, rfl, ?_⟩
      rcases h1 with ⟨a, rfl, rfl⟩ | ⟨rfl, _⟩
      · refine iteF ⟨_, rfl, y, o2, rfl, h2, _, rfl, ?_⟩
        rcases h2 with ⟨b, rfl, rfl⟩ | ⟨rfl, _⟩
        · refine iteF ⟨_, rfl, _, _, rfl, rfl, _, rfl, ?_⟩
          have q2 : Q (.bl (decide (0 < b) && decide (M2.g a b = 1))) H := q
          by_cases hb : 0 < b
          · rw [decide_eq_true hb, Bool.true_and] at q2
            rw [decide_eq_true (show b > 0 from hb)]
            refine iteT ⟨_, rfl, _, rfl, a, b, rfl, rfl, ?_⟩
            have e : decide (V.int ((Nat.gcd a.natAbs b.natAbs : Nat) : Int) = V.int 1) = decide (M2.g a b = 1) := by
              by_cases h : M2.g a b = 1
              · rw [decide_eq_true h, decide_eq_true]
                show V.int ((M2.g a b : Nat) : Int) = V.int 1
                rw [h]
                rfl
              · rw [decide_eq_false h, decide_eq_false]
                intro z
                have z2 : ((M2.g a b : Nat) : Int) = 1 := V.int.inj z
                omega
            rw [e]
            exact q2
          · rw [decide_eq_false hb, Bool.false_and] at q2
            rw [decide_eq_false (show ¬ b > 0 from hb)]
            exact iteF q2
        · exact iteT q
      · have q2 : Q (.bl false) H := by
          cases o2 <;> exact q
        exact iteT (iteT q2)
theorem ok_opposite_of {f : Addr} {fd : FuncData} (F : Fun K "opposite_of" "opposite_of" s_opposite_of f fd) :
    FnOk P w K mg base CX0 1 f fd ["one"] (spOpp K) := by
  refine F.ok sc_opposite_of (fun vs H Q E h => ?_) (fun cdv A outer s H vs Q E hr h => ?_)
  · obtain ⟨_, _, rfl, _⟩ := h
    rfl
  · obtain ⟨s1, p, rfl, h1, fin⟩ := h
    refine ⟨_, (pss_cons (ps_asg (pv 0) (pg_tup rfl (pgs_cons (pg_name (i := 1) sc_opposite_of.nd rfl (.inl rfl)) (pgs_cons (pg_name (i := 2) sc_opposite_of.nd rfl (.inl rfl)) pgs_nil))))
    (pss_one (ps_ret (pe_tup (pa_cons (pe_un un_neg (pv 1)) (pa_cons (pv 2) pa_nil)))))), ?_⟩
    refine ⟨_, rfl, s1, _, rfl, h1, rfl, _, _, rfl, _, _, rfl, rfl, ?_⟩
    refine ⟨_, rfl, _, rfl, _, rfl, by show 2 ≤ sizeLine; decide, fun u nu => ?_⟩
    exact fin _ u (same_upd nu) nu upd_same
theorem ok_taken {f : Addr} {fd : FuncData} (F : Fun K "taken" "taken" s_taken f fd) (C_added : Cl P w K mg base 1 "added" (spAdd K)) (C_opposite_of : Cl P w K mg base 1 "opposite_of" (spOpp K)) :
    FnOk P w K mg base CX0 2 f fd ["one", "other"] (spTaken K) := by
  refine F.ok sc_taken (fun vs H Q E h => ?_) (fun cdv A outer s H vs Q E hr h => ?_)
  · obtain ⟨_, _, _, _, rfl, _⟩ := h
    rfl
  · obtain ⟨s1, t1, p, q, rfl, h1, h2, lp, lq, bp, bq, fin⟩ := h
    refine ⟨_, (pss_one (ps_ret (pe_cl C_added hr (by decide) rfl (pa_cons (pv 0) (pa_cons (pe_cl C_opposite_of hr (by decide) rfl (pa_cons (pv 1) pa_nil)) pa_nil))))), ?_⟩
    refine ⟨_, rfl, _, rfl, t1, q, rfl, h2, fun H1 u sm nu hu => ?_⟩
    have lq2 : M2.Low (neg q).1 (neg q).2 := ⟨lq.1, by
      have := lq.2
      unfold M2.g at this ⊢
      show Nat.gcd (-q.1).natAbs q.2.natAbs = 1
      rw [Int.natAbs_neg]
      exact this⟩
    have bq2 : Bt 3000 (neg q) := ⟨by show (-q.1).natAbs < _; rw [Int.natAbs_neg]; exact bq.1, bq.2⟩
    refine ⟨s1, u, p, neg q, rfl, seqT sm h1, .inl (.inl hu), lp, lq2, bp, bq2, fun H2 u2 sm2 nu2 hu2 => ?_⟩
    exact fin H2 u2 (sm.trans sm2) (sm.free nu2) hu2
theorem ok_is_small {f : Addr} {fd : FuncData} (F : Fun K "is_small" "is_small" s_is_small f fd) (z_abs : mg "abs" = none) :
    FnOk P w K mg base CX0 1 f fd ["one"] (spSmall K) := by
  refine F.ok sc_is_small (fun vs H Q E h => ?_) (fun cdv A outer s H vs Q E hr h => ?_)
  · obtain ⟨_, _, rfl, _⟩ := h
    rfl
  · obtain ⟨s1, p, rfl, h1, fin⟩ := h
    refine ⟨_, (pss_one (ps_ret (pe_cmpR op_lt (pe_callB call_abs (by rfl) z_abs (by decide +kernel) (pa_cons (pe_ix ix_tup (pv 0) pe_int (fun _ _ => rfl)) pa_nil)) (pe_ix ix_tup (pv 0) pe_int (fun _ _ => rfl)) (nomark _)))), ?_⟩
    exact ⟨_, rfl, s1, _, _, _, rfl, rfl, h1, at0 _ _, _, rfl, _, rfl, s1, _, _, _, rfl, rfl, h1, at1 _ _, _, _, rfl, rfl, fin⟩
theorem ok_floor_of {f : Addr} {fd : FuncData} (F : Fun K "floor_of" "floor_of" s_floor_of f fd) :
    FnOk P w K mg base CX0 1 f fd ["one"] (spFloor K) := by
  refine F.ok sc_floor_of (fun vs H Q E h => ?_) (fun cdv A outer s H vs Q E hr h => ?_)
  · obtain ⟨_, _, rfl, _⟩ := h
    rfl
  · obtain ⟨s1, p, rfl, h1, hp, bp, fin⟩ := h
    refine ⟨_, (pss_one (ps_ret (pe_op op_fdivW (pe_ix ix_tup (pv 0) pe_int (fun _ _ => rfl)) (pe_ix ix_tup (pv 0) pe_int (fun _ _ => rfl))))), ?_⟩
    exact ⟨_, rfl, s1, _, _, _, rfl, rfl, h1, at0 _ _, _, rfl, s1, _, _, _, rfl, rfl, h1, at1 _ _, _, _, rfl, rfl, wide_div hp bp.2 (by decide) (by decide), fin⟩
theorem ok_ceiling_of {f : Addr} {fd : FuncData} (F : Fun K "ceiling_of" "ceiling_of" s_ceiling_of f fd) :
    FnOk P w K mg base CX0 1 f fd ["one"] (spCeil K) := by
  refine F.ok sc_ceiling_of (fun vs H Q E h => ?_) (fun cdv A outer s H vs Q E hr h => ?_)
  · obtain ⟨_, _, rfl, _⟩ := h
    rfl
  · obtain ⟨s1, p, rfl, h1, hp, bp, fin⟩ := h
    refine ⟨_, (pss_one (ps_ret (pe_un un_neg (pe_op op_fdivW (pe_un un_neg (pe_ix ix_tup (pv 0) pe_int (fun _ _ => rfl))) (pe_ix ix_tup (pv 0) pe_int (fun _ _ => rfl)))))), ?_⟩
    exact ⟨_, rfl, s1, _, _, _, rfl, rfl, h1, at0 _ _, _, rfl, _, rfl, s1, _, _, _, rfl, rfl, h1, at1 _ _, _, _, rfl, rfl, wide_div hp bp.2 (by decide) (by decide), _, rfl, fin⟩
theorem ok_sum_of {f zz : Addr} {fd : FuncData} (F : Fun K "sum_of" "sum_of" s_sum_of f fd) (C_added : Cl P w K mg base 1 "added" (spAdd K)) (m_ZERO : mg "ZERO" = some (.ref zz)) (hz : ∀ H, SqT K H zz (pV (0, 1))) :
    FnOk P w K mg base CX0 2 f fd ["some"] (spSumL K) := by
  refine F.ok sc_sum_of (fun vs H Q E h => ?_) (fun cdv A outer s H vs Q E hr h => ?_)
  · obtain ⟨_, _, _, _, rfl, _⟩ := h
    rfl
  · obtain ⟨s1, xs, ps, ns, rfl, hS, hF, hb, hp, hn, fin⟩ := h
    refine ⟨_, (pss_cons (ps_set (i := 1) sc_sum_of.nd rfl (.inl rfl) (pe_glob (v := .ref zz) rfl m_ZERO rfl))
    (pss_cut (ps_for PassesOwn.never rfl (pi_any (pv 0)) (pg_name (i := 2) sc_sum_of.nd rfl (.inl rfl))
      (pss_one (ps_set (i := 1) sc_sum_of.nd rfl (.inl rfl) (pe_cl C_added hr (by decide) rfl (pa_cons (pv 1) (pa_cons (pv 2) pa_nil))))))
    (pss_one (ps_ret (pv 1))))), ?_⟩
    have lxs := hF.len
    refine ⟨fun σ H' => ∃ (u : Addr) (y : Option V), σ = [some (.ref s1), some (.ref u), y] ∧ Same H H' ∧ SqT K H' u (pV (sumQ ps)), ?_, ?_⟩
    · have go : ∀ (J : It), (Walk J xs.length (fun H' => Same H H') (fun i H v H' => H' = H ∧ xs[i]? = some v)) → ∀ (D : Ends), (∀ σ' H', (∃ (u : Addr) (y : Option V), σ' = [some (.ref s1), some (.ref u), y] ∧ Same H H' ∧ SqT K H' u (pV (sumQ ps))) → D.nx σ' H') →
          ∃ W : Nat → Nat → L2.St → Hp → Prop, (∃ m, W 0 m [some (V.ref s1), some (V.ref zz), none] H) ∧ ∀ i m σ H', W i m σ H' →
            (J.stop i H' ∧ D.nx σ H') ∨ (J.go i H' ∧ ∃ N : L2.St → Hp → Prop, (∀ σ' H'', N σ' H'' → ∃ m', m' < m ∧ W (i + 1) m' σ' H'') ∧ ∀ x H'', J.yld i H' x H'' → gName 2 x σ H'' fun σ2 H2 => tAsg (tCall (spAdd K) [] E0 (tCons (tVar 1) (tCons (tVar 2) tNil))) (gName 1) { D with nx := N, ct := N, bk := D.nx } σ2 H2) := by
        intro J wk D hD
        refine for_it wk (fun i σ H' => ∃ (u : Addr) (y : Option V), σ = [some (.ref s1), some (.ref u), y] ∧ Same H H' ∧ SqT K H' u (pV ((ps.take i).foldl M2.add (0, 1)))) ⟨zz, none, rfl, Same.refl _, hz H⟩ ?_ ?_ ?_
        · rintro i σ H' _ ⟨u, y, _, sm, _⟩
          exact sm
        · rintro i x σ H1 H2 hi ⟨u, y, rfl, sm, hu⟩ ⟨e2, ex⟩
          subst e2
          obtain ⟨t, p, rfl, ep, ht⟩ := hF.get ex
          have hpm := hp p (List.mem_of_getElem? ep)
          obtain ⟨n, en, bn⟩ := hb.get ep
          have so := sumL_ok (ns.take i) (ps.take i) (0, 1) 1 (hb.take i) (fun q hq => hp q (List.mem_of_mem_take hq)) ⟨by decide, by decide⟩ ⟨by decide, by decide⟩
          have b1 := bits_take (e := 1) ns i
          have b2 := bits_get (e := 1) en
          refine ⟨_, rfl, _, rfl, u, t, _, p, rfl, hu, seqT sm ht, so.1, hpm, so.2.mono (by omega), bn.mono (by omega), fun H3 v sm3 nv hv => ?_⟩
          refine ⟨v, _, rfl, sm.trans sm3, .inl (.inl ?_)⟩
          rw [hv, List.take_add_one, ep, List.foldl_append]
          rfl
        · rintro σ H' ⟨u, y, rfl, sm, hu⟩
          refine hD _ _ ⟨u, y, rfl, sm, ?_⟩
          rw [List.take_of_length_le (by rw [lxs]; exact Nat.le_refl _)] at hu
          exact hu
      rcases hS with hS | hS
      · exact ⟨s1, rfl, .inr ⟨⟨_, hS⟩, go _ (walk_tup.mono (fun H' sm => seqT sm hS) (fun i H1 x H2 _ _ h => h)) _ (fun _ _ h => h)⟩⟩
      · exact ⟨s1, rfl, .inl ⟨⟨_, hS⟩, go _ (walk_list.mono (fun H' sm => sm.seq hS) (fun i H1 x H2 _ _ h => h)) _ (fun _ _ h => h)⟩⟩
    · rintro σ H' ⟨u, y, rfl, sm, hu⟩
      exact ⟨_, rfl, fin H' u sm hu⟩
theorem ok_is_numberA {f : Addr} {fd : FuncData} (F : Fun K "is_number" "is_number" s_is_number f fd) (C_is_an_integer : Cl P w K mg base 1 "is_an_integer" (spInt K)) : FnOk P w K mg base CX0 2 f fd ["value"] (spNumA K) := by
  refine F.ok sc_is_number (fun vs H Q E h => ?_) (fun cdv A outer s H vs Q E hr h => ?_)
  · obtain ⟨_, _, rfl, _⟩ := h
    rfl
  · obtain ⟨v, o, rfl, hp, q⟩ := h
    refine ⟨_, (pss_one (ps_ret (pe_and (pe_cl C_is_an_integer hr (by decide) rfl (pa_cons (pv 0) pa_nil)) (pe_one (pe_cmpR op_ge (pv 0) pe_int (nomark _)))))), ?_⟩
    refine ⟨_, rfl, v, o, rfl, hp, o.isSome, rfl, ?_⟩
    cases o with
    | none => exact iteF q
    | some a =>
      rcases hp with ⟨b, rfl, e⟩ | ⟨e, _⟩
      · have e := Option.some.inj e
        subst e
        exact iteT ⟨_, rfl, _, _, rfl, rfl, q⟩
      · cases e
theorem ok_is_number_belowA {f : Addr} {fd : FuncData} (F : Fun K "is_number_below" "is_number_below" s_is_number_below f fd) (C_is_number : Cl P w K mg base 2 "is_number" (spNumA K)) : FnOk P w K mg base CX0 3 f fd ["value", "many"] (spBelowA K) := by
  refine F.ok sc_is_number_below (fun vs H Q E h => ?_) (fun cdv A outer s H vs Q E hr h => ?_)
  · obtain ⟨_, _, _, rfl, _⟩ := h
    rfl
  · obtain ⟨v, o, n, rfl, hp, q⟩ := h
    refine ⟨_, (pss_one (ps_ret (pe_and (pe_cl C_is_number hr (by decide) rfl (pa_cons (pv 0) pa_nil)) (pe_one (pe_cmpR op_lt (pv 0) (pv 1) (nomark _)))))), ?_⟩
    refine ⟨_, rfl, v, o, rfl, hp, numO o, rfl, ?_⟩
    cases o with
    | none => exact iteF q
    | some a =>
      rcases hp with ⟨b, rfl, e⟩ | ⟨e, _⟩
      · have e := Option.some.inj e
        subst e
        show if decide (0 ≤ a) = true then _ else _
        by_cases ha : 0 ≤ a
        · rw [decide_eq_true ha]
          refine iteT ⟨_, rfl, _, rfl, _, _, rfl, rfl, ?_⟩
          have e2 : decide (a < n) = decide (0 ≤ a ∧ a < n) := decide_eq_decide.mpr ⟨fun z => ⟨ha, z⟩, fun z => z.2⟩
          show Q (.bl (decide (a < n))) H
          rw [e2]
          exact q
        · rw [decide_eq_false ha]
          have e1 : belowO n (some a) = false := decide_eq_false (fun z => ha z.1)
          rw [e1] at q
          exact iteF q
      · cases e
theorem ok_is_tuple_ofA {f : Addr} {fd : FuncData} (F : Fun K "is_tuple_of" "is_tuple_of" s_is_tuple_of f fd) (z_isinstance : mg "isinstance" = none) (z_tuple : mg "tuple" = none) (z_len : mg "len" = none) :
    FnOk P w K mg base CX0 1 f fd ["value", "many"] (spTupA K) := by
  refine F.ok sc_is_tuple_of (fun vs H Q E h => ?_) (fun cdv A outer s H vs Q E hr h => ?_)
  · obtain ⟨_, _, _, rfl, _⟩ := h
    rfl
  · obtain ⟨v, d, n, rfl, hd, q⟩ := h
    refine ⟨_, (pss_one (ps_ret (pe_and (pe_callB call_isi (by rfl) z_isinstance (by decide +kernel) (pa_cons (pv 0) (pa_cons (pe_bltn (v := .ty "tuple") (by rfl) z_tuple (by decide +kernel) rfl) pa_nil))) (pe_one (pe_cmpR op_eq (pe_callB call_len_seq (by rfl) z_len (by decide +kernel) (pa_cons (pv 0) pa_nil)) (pv 1) (nomark _)))))), ?_⟩
    cases hT : isTupD d with
    | false =>
      obtain ⟨ty, T, k⟩ := hd.noTup hT
      have e : tupD n d = false := by
        cases d with
        | tuple ds => cases hT
        | _ => rfl
      rw [e] at q
      exact ⟨_, rfl, _, _, _, _, false, rfl, .ty "tuple", T, kit_ty k, false, rfl, iteF q⟩
    | true =>
      cases d with
      | tuple ds =>
        obtain ⟨p, xs, rfl, hS, hA⟩ := hd.isT
        refine ⟨_, rfl, _, _, _, _, true, rfl, .ty "tuple", tyT hS, kit_ty (by decide +kernel), true, rfl, iteT ⟨_, rfl, p, xs, rfl, .inr hS, _, rfl, rfl, ?_⟩⟩
        have e : decide (V.int (xs.length : Int) = V.int (n : Int)) = tupD n (.tuple ds) := by
          rw [hA.len]
          show _ = decide (ds.length = n)
          by_cases h : ds.length = n
          · rw [decide_eq_true h, decide_eq_true (by rw [h])]
          · rw [decide_eq_false h, decide_eq_false (fun z => h (by have := V.int.inj z; omega))]
        rw [e]
        exact q
      | _ => cases hT
end
end K09
namespace M9
open M2 FR CK
def DL : Int := 21000000 * 999983
theorem DL_pos : 0 < DL := by decide
theorem DL_ne : DL ≠ 0 := by decide
def U (a : Int) : Int × Int := mk a DL
theorem U_low (a : Int) : Low (U a).1 (U a).2 := mk_low DL_ne
theorem U_eq (a : Int) : (U a).1 * DL = a * (U a).2 := mk_eq DL_ne
theorem U_of {p : Int × Int} {a : Int} (h : Low p.1 p.2) (e : p.1 * DL = a * p.2) : p = U a := M14.eqv_mk (b := (a, DL)) h DL_pos e
theorem add_U (a b : Int) : add (U a) (U b) = U (a + b) := by
  have la := U_low a
  have lb := U_low b
  obtain ⟨l, e⟩ := add_ok la lb
  refine U_of l ?_
  have ea := U_eq a
  have eb := U_eq b
  have pa := la.1
  have pb := lb.1
  refine Int.eq_of_mul_eq_mul_right (a := (U a).2 * (U b).2) (Int.ne_of_gt (Int.mul_pos pa pb)) ?_
  generalize (U a).1 = x at *
  generalize (U a).2 = y at *
  generalize (U b).1 = z at *
  generalize (U b).2 = t at *
  generalize (add (x, y) (z, t)).1 = m at *
  generalize (add (x, y) (z, t)).2 = n at *
  generalize DL = d at *
  grind
theorem low_neg {p : Int × Int} (h : Low p.1 p.2) : Low (-p.1) p.2 := ⟨h.1, by
  have := h.2
  unfold g at this ⊢
  rw [Int.natAbs_neg]
  exact this⟩
theorem neg_U (a : Int) : neg (U a) = U (-a) := by
  refine U_of (p := neg (U a)) (low_neg (U_low a)) ?_
  have e := U_eq a
  show -(U a).1 * DL = -a * (U a).2
  rw [Int.neg_mul, Int.neg_mul, e]
theorem U_bt {a : Int} {n : Nat} (h : a.natAbs < 2 ^ n) (hn : 45 ≤ n) : Bt n (U a) := by
  have s := mk_size (a := a) (b := DL) DL_ne
  refine ⟨Nat.lt_of_le_of_lt s.1 h, Nat.lt_of_le_of_lt s.2 (Nat.lt_of_lt_of_le ?_ (Nat.pow_le_pow_right (by decide) hn))⟩
  decide
def un (p : Int × Int) : Int := p.1 * (DL / p.2)
theorem U_un {p : Int × Int} (h : Low p.1 p.2) (d : p.2 ∣ DL) : U (un p) = p := by
  refine (U_of h ?_).symm
  obtain ⟨c, hc⟩ := d
  have pp := h.1
  unfold un
  rw [hc, Int.mul_ediv_cancel_left _ (by omega)]
  grind
theorem U_whole (n : Int) : U (n * DL) = (n, 1) := (U_of (p := (n, 1)) ⟨(by show (0 : Int) < 1; decide), by
  show Nat.gcd n.natAbs 1 = 1
  exact Nat.gcd_one_right _⟩ (by
  show n * DL = n * DL * 1
  rw [Int.mul_one])).symm
theorem U_zero : U 0 = (0, 1) := by
  have := U_whole 0
  rw [Int.zero_mul] at this
  exact this
theorem U_small (a : Int) : (if (U a).1 < 0 then -(U a).1 else (U a).1) < (U a).2 ↔ -DL < a ∧ a < DL := by
  have e := U_eq a
  have p := (U_low a).1
  have h := M14.small_eqv (a := U a) (b := (a, DL)) p DL_pos e
  unfold M14.absV at h
  rw [h]
  show (if a < 0 then -a else a) < DL ↔ _
  have := DL_pos
  split <;> omega
theorem U_floor (a : Int) : (U a).1 / (U a).2 = a / DL := by
  have e := U_eq a
  have p := (U_low a).1
  have d := DL_pos
  generalize (U a).1 = x at *
  generalize (U a).2 = y at *
  generalize DL = k at *
  have h1 : x * k / (y * k) = x / y := Int.mul_ediv_mul_of_pos_left x y d
  have h2 : a * y / (k * y) = a / k := Int.mul_ediv_mul_of_pos_left a k p
  rw [← h1, ← h2, e, Int.mul_comm k y]
theorem sum_from (cs : List Int) : ∀ a : Int, (cs.map U).foldl add (U a) = U (a + cs.sum) := by
  induction cs with
  | nil => intro a; simp
  | cons c cs ih =>
    intro a
    rw [List.map_cons, List.foldl_cons, add_U, ih, List.sum_cons, Int.add_assoc]
theorem sumQ_U (cs : List Int) : sumQ (cs.map U) = U cs.sum := by
  have h := sum_from cs 0
  rw [U_zero, Int.zero_add] at h
  exact h
theorem btL_U {n : Nat} (hn : 45 ≤ n) : ∀ (cs : List Int), (∀ c ∈ cs, c.natAbs < 2 ^ n) → BtL (List.replicate cs.length n) (cs.map U)
  | [], _ => trivial
  | c :: cs, h => ⟨U_bt (h c List.mem_cons_self) hn, btL_U hn cs fun d hd => h d (List.mem_cons_of_mem _ hd)⟩
theorem bits_rep (n : Nat) : ∀ k : Nat, bits 1 (List.replicate k n) = k * (n + 1)
  | 0 => (Nat.zero_mul _).symm
  | k + 1 => by
    show (n + 1) + bits 1 (List.replicate k n) = _
    rw [bits_rep n k, Nat.succ_mul]
    omega
/-- the wholes next to an amount of a parts -/
def choU (a : Int) : List Int := if a / DL = -(-a / DL) then [a / DL] else [a / DL, -(-a / DL)]
theorem cho_ex (a : Int) : -(-a / DL) = if a / DL * DL = a then a / DL else a / DL + 1 := by
  have d := DL_pos
  split
  · rename_i h
    have : -a = -(a / DL) * DL := by rw [Int.neg_mul, h]
    rw [this, Int.mul_ediv_cancel _ DL_ne]
    omega
  · rename_i h
    have m1 := Int.mul_ediv_add_emod a DL
    have m2 := Int.emod_nonneg a DL_ne
    have m3 := Int.emod_lt_of_pos a d
    have m4 : a % DL ≠ 0 := fun z => h (by rw [z, Int.add_zero, Int.mul_comm] at m1; exact m1)
    have e : -a = (DL - a % DL) + -(a / DL + 1) * DL := by grind
    rw [e, Int.add_mul_ediv_right _ _ DL_ne, Int.ediv_eq_zero_of_lt (by omega) (by omega)]
    omega
theorem cho_near {a n : Int} (h : n ∈ choU a) : (n * DL - a).natAbs < DL.natAbs := by
  have d := DL_pos
  have m1 := Int.mul_ediv_add_emod a DL
  have m2 := Int.emod_nonneg a DL_ne
  have m3 := Int.emod_lt_of_pos a d
  have c := cho_ex a
  have key : n = a / DL ∨ (n = a / DL + 1 ∧ a % DL ≠ 0) := by
    unfold choU at h
    split at h
    · exact .inl (by simpa using h)
    · rename_i q
      rcases List.mem_cons.mp h with z | z
      · exact .inl z
      · have z := List.mem_singleton.mp z
        rw [c] at z q
        split at z
        · exact .inl z
        · rename_i t
          exact .inr ⟨z, fun y => t (by rw [y, Int.add_zero, Int.mul_comm] at m1; exact m1)⟩
  rcases key with rfl | ⟨rfl, y⟩
  · have : a / DL * DL - a = -(a % DL) := by grind
    rw [this]
    omega
  · have : (a / DL + 1) * DL - a = DL - a % DL := by grind
    rw [this]
    omega
end M9
namespace CK
open PySem PySem.Spec PyProof.Rows L2 VG FR HD M9
def EU (K : PySem.W.Frag) (H : Hp) (a : Addr) (es : List Int) : Prop := ∃ xs, SqT K H a xs ∧ Frs K H xs (es.map U)
theorem EU.mono {K : PySem.W.Frag} {H H' : Hp} {a : Addr} {es : List Int} (s : Same H H') (h : EU K H a es) : EU K H' a es := by
  obtain ⟨xs, h1, h2⟩ := h
  exact ⟨xs, seqT s h1, h2.mono s⟩
/-- a line: its kind, its amount, its whole -/
abbrev Line := Nat × Q2 × Int
def LineAt (K : PySem.W.Frag) (H : Hp) (v : V) (r : Line) : Prop := ∃ t s, v = .ref t ∧ SqT K H t [.int r.1, .ref s, .int r.2.2] ∧ SqT K H s (pV r.2.1)
def Lines (K : PySem.W.Frag) (H : Hp) : List V → List Line → Prop
  | [], [] => True
  | v :: vs, r :: rs => LineAt K H v r ∧ Lines K H vs rs
  | _, _ => False
theorem LineAt.mono {K : PySem.W.Frag} {H H' : Hp} (s : Same H H') {v : V} {r : Line} (h : LineAt K H v r) : LineAt K H' v r := by
  obtain ⟨t, u, e, h1, h2⟩ := h
  exact ⟨t, u, e, seqT s h1, seqT s h2⟩
theorem Lines.mono {K : PySem.W.Frag} {H H' : Hp} (s : Same H H') : ∀ {vs : List V} {rs : List Line}, Lines K H vs rs → Lines K H' vs rs
  | [], [], _ => trivial
  | _ :: _, _ :: _, h => ⟨h.1.mono s, h.2.mono s⟩
  | [], _ :: _, h => h.elim
  | _ :: _, [], h => h.elim
theorem Lines.len {K : PySem.W.Frag} {H : Hp} : ∀ {vs : List V} {rs : List Line}, Lines K H vs rs → vs.length = rs.length
  | [], [], _ => rfl
  | _ :: _, _ :: _, h => by rw [List.length_cons, List.length_cons, h.2.len]
  | [], _ :: _, h => h.elim
  | _ :: _, [], h => h.elim
theorem Lines.get {K : PySem.W.Frag} {H : Hp} : ∀ {vs : List V} {rs : List Line} {i : Nat} {v : V}, Lines K H vs rs → vs[i]? = some v → ∃ r, rs[i]? = some r ∧ LineAt K H v r
  | [], [], _, _, _, h => by simp at h
  | a :: _, r :: _, 0, v, h, e => by
    have e1 : a = v := Option.some.inj e
    subst e1
    exact ⟨r, rfl, h.1⟩
  | _ :: vs, _ :: rs, i + 1, v, h, e => h.2.get (i := i) e
  | [], _ :: _, _, _, h, _ => h.elim
  | _ :: _, [], _, _, h, _ => h.elim
/-- an amount that the laws draw: small, in lowest terms, of the common bottom -/
structure AmtOk (p : Q2) : Prop where
  low : M2.Low p.1 p.2
  dvd : p.2 ∣ DL
  top : p.1.natAbs ≤ 1000000
theorem AmtOk.bt {p : Q2} (h : AmtOk p) : Bt 45 p := by
  refine ⟨Nat.lt_of_le_of_lt h.top (by decide), ?_⟩
  have h1 := Int.le_of_dvd DL_pos h.dvd
  have h2 := h.low.1
  have h3 : DL < 2 ^ 45 := by decide
  have h4 : p.2 < 2 ^ 45 := by omega
  omega
theorem AmtOk.un_lt {p : Q2} (h : AmtOk p) : (un p).natAbs < 2 ^ 65 := by
  unfold un
  rw [Int.natAbs_mul]
  have h1 := h.top
  have h2 := M2.natAbs_div_le DL h.low.1
  have h3 : DL.natAbs ≤ 2 ^ 45 := by decide
  calc p.1.natAbs * (DL / p.2).natAbs ≤ 1000000 * 2 ^ 45 := Nat.mul_le_mul h1 (Nat.le_trans h2 h3)
    _ < 2 ^ 65 := by decide
def lineU (p : Q2) (n : Int) : Int := n * DL - un p
structure LineOk (m : Nat) (r : Line) : Prop where
  kind : r.1 < m
  amt : AmtOk r.2.1
  whole : r.2.2.natAbs ≤ 1000001
  near : (lineU r.2.1 r.2.2).natAbs < 2 ^ 45
def addAt (es : List Int) (k : Nat) (d : Int) : List Int := es.set k (es.getD k 0 + d)
def behU (es : List Int) (r : Line) : List Int := addAt es r.1 (lineU r.2.1 r.2.2)
def errU (m : Nat) (rs : List Line) : List Int := rs.foldl behU (List.replicate m 0)
/-- none further off than so many lines are -/
def Within (n : Nat) (es : List Int) : Prop := ∀ e ∈ es, e.natAbs ≤ n * 2 ^ 45
theorem Within.mono {m n : Nat} (h : m ≤ n) {es : List Int} (w : Within m es) : Within n es := fun e he => Nat.le_trans (w e he) (Nat.mul_le_mul_right _ h)
theorem addAt_len (es : List Int) (k : Nat) (d : Int) : (addAt es k d).length = es.length := List.length_set ..
theorem beh_within {n : Nat} {es : List Int} {k : Nat} {d : Int} (h : Within n es) (hd : d.natAbs < 2 ^ 45) : Within (n + 1) (addAt es k d) := fun e he => by
  rcases List.mem_or_eq_of_mem_set he with z | z
  · exact h.mono (Nat.le_succ n) e z
  · subst z
    have h1 : (es.getD k 0).natAbs ≤ n * 2 ^ 45 := by
      rw [List.getD_eq_getElem?_getD]
      cases q : es[k]? with
      | none => exact Nat.zero_le _
      | some v => exact h v (List.mem_of_getElem? q)
    have := Int.natAbs_add_le (es.getD k 0) d
    omega
theorem errs_within (m : Nat) : ∀ (rs : List Line) (n : Nat) (es : List Int), es.length = m → Within n es → (∀ r ∈ rs, LineOk m r) → Within (n + rs.length) (rs.foldl behU es) ∧ (rs.foldl behU es).length = m
  | [], n, es, l, h, _ => ⟨h, l⟩
  | r :: rs, n, es, l, h, ho => by
    have hr := ho r List.mem_cons_self
    have := errs_within m rs (n + 1) (behU es r) (by unfold behU; rw [addAt_len]; exact l) (beh_within h hr.near) fun q hq => ho q (List.mem_cons_of_mem _ hq)
    rw [List.foldl_cons, List.length_cons]
    have e : n + (rs.length + 1) = n + 1 + rs.length := by omega
    rw [e]
    exact this
theorem within_zero (m : Nat) : Within 0 (List.replicate m 0) := fun e he => by
  rw [(List.mem_replicate.mp he).2]
  decide
theorem errU_within {m : Nat} {rs : List Line} (h : ∀ r ∈ rs, LineOk m r) : Within rs.length (errU m rs) ∧ (errU m rs).length = m := by
  have := errs_within m rs 0 (List.replicate m 0) (List.length_replicate ..) (within_zero m) h
  rw [Nat.zero_add] at this
  exact this
theorem frs_get {K : PySem.W.Frag} {H : Hp} : ∀ {ps : List Q2} {vs : List V} {i : Nat} {p : Q2}, Frs K H vs ps → ps[i]? = some p → ∃ t, vs[i]? = some (.ref t) ∧ SqT K H t (pV p)
  | [], [], _, _, _, h => by simp at h
  | p :: _, v :: _, 0, q, h, e => by
    have e1 : p = q := Option.some.inj e
    subst e1
    obtain ⟨t, e2, q⟩ := h.1
    exact ⟨t, by rw [e2]; rfl, q⟩
  | _ :: ps, _ :: vs, i + 1, p, h, e => frs_get (i := i) h.2 e
  | _ :: _, [], _, _, h, _ => h.elim
  | [], _ :: _, _, _, h, _ => h.elim
theorem frs_set {K : PySem.W.Frag} {H : Hp} {t : Addr} {p : Q2} (ht : SqT K H t (pV p)) : ∀ {ps : List Q2} {vs : List V} (i : Nat), Frs K H vs ps → Frs K H (vs.set i (.ref t)) (ps.set i p)
  | [], [], _, _ => trivial
  | _ :: _, _ :: _, 0, h => ⟨⟨t, rfl, ht⟩, h.2⟩
  | _ :: _, _ :: _, i + 1, h => ⟨h.1, frs_set ht i h.2⟩
  | _ :: _, [], _, h => h.elim
  | [], _ :: _, _, h => h.elim
theorem cutN {xs : List V} (k : Nat) : cutV xs (some ((k : Int) + 1)) none = xs.drop (k + 1) := by
  have e : ((k : Int) + 1) = ((k + 1 : Nat) : Int) := rfl
  rw [e]
  unfold cutV
  rw [HT.sIx_none, HT.sIx_nat]
  rcases Nat.le_total (k + 1) xs.length with h | h
  · rw [Nat.min_eq_left h]
    exact List.take_of_length_le (by rw [List.length_drop]; exact Nat.le_refl _)
  · rw [Nat.min_eq_right h, List.drop_eq_nil_of_le h, List.drop_eq_nil_of_le (Nat.le_refl _)]
    exact List.take_nil
def spErrLine (K : PySem.W.Frag) : Sp := fun vs H Q _ => ∃ (s : Addr) (p : Q2) (n : Int), vs = [.ref s, .int n] ∧ SqT K H s (pV p) ∧ AmtOk p ∧ n.natAbs ≤ 1000001 ∧ ∀ H' u, Same H H' → H u = none → H' u = some (.tup (pV (U (lineU p n)))) → Q (.ref u) H'
def spBehind (K : PySem.W.Frag) : Sp := fun vs H Q _ => ∃ (a s : Addr) (es : List Int) (r : Line), vs = [.ref a, .int r.1, .ref s, .int r.2.2] ∧ EU K H a es ∧ SqT K H s (pV r.2.1) ∧ LineOk es.length r ∧ Within 1000 es ∧ es.length ≤ 1000 ∧ ∀ H' u, Same H H' → EU K H' u (behU es r) → Q (.ref u) H'
def spSmalls (K : PySem.W.Frag) : Sp := fun vs H Q _ => ∃ (a : Addr) (es : List Int), vs = [.ref a] ∧ EU K H a es ∧ es.length ≤ 1000 ∧ ∀ H', Same H H' → Q (.bl (es.all fun e => decide (-DL < e ∧ e < DL))) H'
theorem within_lt {es : List Int} (h : Within 1000 es) : ∀ e ∈ es, e.natAbs < 2 ^ 60 := fun e he => Nat.lt_of_le_of_lt (h e he) (by decide)
end CK
namespace K09
open PySem PySem.Spec PyProof.Rows L2 VG FR CK HD M9
abbrev s_error_of_line : Stmt := topS 37
abbrev N_error_of_line : List Str := ["amount", "whole"]
theorem sc_error_of_line : FnScope N_error_of_line ["amount", "whole"] (defScope s_error_of_line) := ⟨rfl, rfl, rfl, by decide +kernel, rfl, by decide +kernel, by decide +kernel⟩
abbrev s_errors_behind : Stmt := topS 38
abbrev N_errors_behind : List Str := ["errors", "kind", "amount", "whole", "behind"]
theorem sc_errors_behind : FnScope N_errors_behind ["errors", "kind", "amount", "whole"] (defScope s_errors_behind) := ⟨rfl, rfl, rfl, by decide +kernel, rfl, by decide +kernel, by decide +kernel⟩
abbrev s_are_small : Stmt := topS 25
abbrev N_are_small : List Str := ["some", "one"]
theorem sc_are_small : FnScope N_are_small ["some"] (defScope s_are_small) := ⟨rfl, rfl, rfl, by decide +kernel, rfl, by decide +kernel, by decide +kernel⟩
section
variable {P : Program} {w : World} {K : PySem.W.Frag} {mg : Str → Option Value} {base : Heap}
theorem ok_error_of_line {f : Addr} {fd : FuncData} (F : Fun K "error_of_line" "error_of_line" s_error_of_line f fd) (C_taken : Cl P w K mg base 2 "taken" (spTaken K)) : FnOk P w K mg base CX0 3 f fd ["amount", "whole"] (spErrLine K) := by
  refine F.ok sc_error_of_line (fun vs H Q E h => ?_) (fun cdv A outer s H vs Q E hr h => ?_)
  · obtain ⟨_, _, _, rfl, _⟩ := h
    rfl
  · obtain ⟨t, p, n, rfl, hS, ho, hn, fin⟩ := h
    refine ⟨_, (pss_one (ps_ret (pe_cl C_taken hr (by decide) rfl (pa_cons (pe_tup (pa_cons (pv 1) (pa_cons pe_int pa_nil))) (pa_cons (pv 0) pa_nil))))), ?_⟩
    refine ⟨_, rfl, by show 2 ≤ sizeLine; decide, fun w1 nw => ?_⟩
    have s1 := same_upd (o := .tup [.int n, .int 1]) nw
    refine ⟨_, rfl, ?_⟩
    refine ⟨w1, t, (n, 1), p, rfl, .inl (.inl upd_same), seqT s1 hS, ⟨(by show (0 : Int) < 1; decide), Nat.gcd_one_right _⟩, ho.low, ⟨Nat.lt_of_le_of_lt hn (by decide), (by show (1 : Int).natAbs < _; decide)⟩, ho.bt.mono (by decide), fun H' u s2 nu hu => ?_⟩
    refine fin H' u (s1.trans s2) (s1.free nu) ?_
    have e : M2.add (n, 1) (neg p) = U (lineU p n) := by
      rw [← U_whole n]
      conv => lhs; rw [← U_un ho.low ho.dvd]
      rw [neg_U, add_U]
      rfl
    rw [hu, e]
theorem ok_errors_behind {f : Addr} {fd : FuncData} (F : Fun K "errors_behind" "errors_behind" s_errors_behind f fd) (C_added : Cl P w K mg base 1 "added" (spAdd K)) (C_error_of_line : Cl P w K mg base 3 "error_of_line" (spErrLine K)) : FnOk P w K mg base CX0 4 f fd ["errors", "kind", "amount", "whole"] (spBehind K) := by
  refine F.ok sc_errors_behind (fun vs H Q E h => ?_) (fun cdv A outer s H vs Q E hr h => ?_)
  · obtain ⟨_, _, _, _, rfl, _⟩ := h
    rfl
  · obtain ⟨a, t, es, ⟨k, p, n⟩, rfl, ⟨xs, hA, hF⟩, hS, ho, hw, hl, fin⟩ := h
    refine ⟨_, (pss_cons (ps_set (i := 4) sc_errors_behind.nd rfl (.inl rfl) (pe_cl C_added hr (by decide) rfl (pa_cons (pe_ix ix_tup (pv 0) (pv 1) (fun _ _ => rfl)) (pa_cons (pe_cl C_error_of_line hr (by decide) rfl (pa_cons (pv 2) (pa_cons (pv 3) pa_nil))) pa_nil))))
    (pss_one (ps_ret (pe_op op_catM (pe_op op_catM (pe_slice sl_tupM (pv 0) po_none (po_some (pv 1))) (pe_tup (pa_cons (pv 4) pa_nil))) (pe_slice sl_tupM (pv 0) (po_some (pe_op op_add (pv 1) pe_int)) po_none))))), ?_⟩
    have lx := hF.len
    rw [List.length_map] at lx
    have hk : k < es.length := ho.kind
    have ek : es[k]? = some es[k] := List.getElem?_eq_getElem hk
    obtain ⟨eb, he⟩ : ∃ e, es[k]? = some e := ⟨_, ek⟩
    clear ek
    obtain ⟨u0, hu0, hU0⟩ := frs_get (p := U eb) (i := k) hF (by rw [List.getElem?_map, he]; rfl)
    refine ⟨_, rfl, _, rfl, a, _, _, _, rfl, rfl, hA, atI_nat hu0, ?_⟩
    refine ⟨_, rfl, _, rfl, t, p, n, rfl, hS, ho.amt, ho.whole, fun H1 u1 s1 nu1 hu1 => ?_⟩
    refine ⟨u0, u1, U eb, U (lineU p n), rfl, seqT s1 hU0, .inl (.inl hu1), U_low _, U_low _, (U_bt (n := 60) (within_lt hw eb (List.mem_of_getElem? he)) (by decide)).mono (by decide), (U_bt (n := 60) (Nat.lt_trans ho.near (by decide)) (by decide)).mono (by decide), fun H2 u2 s2 nu2 hu2 => ?_⟩
    rw [add_U] at hu2
    have s12 := s1.trans s2
    refine ⟨_, rfl, _, rfl, _, rfl, a, xs, rfl, seqT s12 hA, fun c1 H3 s3 g3 => ?_⟩
    rw [cut0] at g3
    refine ⟨_, rfl, by show 1 ≤ sizeLine; decide, fun c2 nc2 => ?_⟩
    have s4 := same_upd (o := .tup [.ref u2]) nc2
    have k4 := upd_same (H := H3) (a := c2) (o := .tup [V.ref u2])
    generalize L2.upd H3 c2 (.tup [V.ref u2]) = H4 at s4 k4 ⊢
    have big : sizeLine = 16777216 := by decide
    refine ⟨c1, c2, _, _, rfl, rfl, seqT s4 g3, .inl (.inl k4), by rw [List.length_take]; show _ + 1 ≤ _; omega, fun c3 H5 s5 g5 => ?_⟩
    refine ⟨_, rfl, _, rfl, _, _, rfl, rfl, _, rfl, a, xs, rfl, seqT (s12.trans (s3.trans (s4.trans s5))) hA, fun c4 H6 s6 g6 => ?_⟩
    rw [cutN] at g6
    refine ⟨c3, c4, _, _, rfl, rfl, seqT s6 g5, g6, by rw [List.length_append, List.length_take, List.length_drop]; show _ + 1 + _ ≤ _; omega, fun c5 H7 s7 g7 => ?_⟩
    have sAll := s12.trans (s3.trans (s4.trans (s5.trans (s6.trans s7))))
    refine fin H7 c5 sAll ⟨_, g7, ?_⟩
    have e1 : xs.take k ++ [V.ref u2] ++ xs.drop (k + 1) = xs.set k (.ref u2) := by
      rw [List.set_eq_take_append_cons_drop, if_pos (by omega), List.append_assoc]
      rfl
    have e2 : (behU es (k, p, n)).map U = (es.map U).set k (U (eb + lineU p n)) := by
      show (es.set k (es.getD k 0 + lineU p n)).map U = _
      rw [List.map_set, List.getD_eq_getElem?_getD, he]
      rfl
    rw [e1, e2]
    exact frs_set (seqT (s3.trans (s4.trans (s5.trans (s6.trans s7)))) (.inl (.inl hu2))) k (hF.mono sAll)
theorem ok_are_small {f : Addr} {fd : FuncData} (F : Fun K "are_small" "are_small" s_are_small f fd) (C_is_small : Cl P w K mg base 1 "is_small" (spSmall K)) (z_all : mg "all" = none) : FnOk P w K mg base CX0 2 f fd ["some"] (spSmalls K) := by
  refine F.ok sc_are_small (fun vs H Q E h => ?_) (fun cdv A outer s H vs Q E hr h => ?_)
  · obtain ⟨_, _, rfl, _⟩ := h
    rfl
  · obtain ⟨a, es, rfl, ⟨xs, hA, hF⟩, hl, fin⟩ := h
    refine ⟨_, (pss_one (ps_ret (pe_callB (cr_all rfl) (by rfl) z_all (by decide +kernel) (pa_cons (pe_lc (own := [("one", 1)]) (by rfl) sc_are_small.nd (pi_tup (pv 0)) (blkOk_by (own := [("one", 1)]) (N := N_are_small) (sc := defScope s_are_small) (by decide +kernel)) (fun _ _ _ _ _ => (pg_name (i := 1) sc_are_small.nd rfl (.inl rfl))) (fun _ _ _ _ _ => pts_nil) (fun _ _ _ _ _ => (pe_cl C_is_small hr (by decide) rfl (pa_cons (pv 1) pa_nil)))) pa_nil)))), ?_⟩
    have lx := hF.len
    rw [List.length_map] at lx
    have big : sizeLine = 16777216 := by decide
    refine ⟨_, rfl, a, rfl, ⟨_, hA⟩, fun D nD => ?_⟩
    refine lc_it (walk_tup (K := K) (a := a) (xs := xs)) (fun i H' => Same H H' ∧ H' D = some (.lst ((((es.take i).map fun e => decide (-DL < e ∧ e < DL)).map V.bl)))) ⟨same_upd nD, upd_same⟩ (fun i H' _ h => seqT h.1 hA) ?_ ?_
    · rintro i v H1 H2 hi ⟨sm, hD⟩ ⟨e2, ex⟩
      subst e2
      obtain ⟨t, p, rfl, ep, ht⟩ := hF.get ex
      rw [List.getElem?_map] at ep
      obtain ⟨c, ec, rfl⟩ := Option.map_eq_some_iff.mp ep
      refine ⟨rfl, _, rfl, t, U c, rfl, seqT sm ht, ?_⟩
      have e1 : decide ((if (U c).1 < 0 then -(U c).1 else (U c).1) < (U c).2) = decide (-DL < c ∧ c < DL) := by
        rw [Bool.eq_iff_iff, decide_eq_true_iff, decide_eq_true_iff]
        exact U_small c
      rw [e1]
      refine ⟨_, hD, ?_, HD.same_put sm nD, ?_⟩
      · rw [List.length_map, List.length_map, List.length_take]
        omega
      · rw [upd_same, List.take_add_one, ec, List.map_append, List.map_append]
        rfl
    · rintro H1 ⟨sm, hD⟩
      rw [List.take_of_length_le (by omega)] at hD
      refine ⟨D, _, rfl, .inl (.inl hD), ?_⟩
      have e : (es.map fun e => decide (-DL < e ∧ e < DL)).all id = es.all fun e => decide (-DL < e ∧ e < DL) := by
        rw [List.all_map]
        rfl
      rw [e]
      exact fin H1 sm
end
end K09
namespace CK
open PySem PySem.Spec PyProof.Rows L2 VG FR HD M9
theorem Frs.updL {K : PySem.W.Frag} {H : Hp} {D : Addr} {ys zs : List V} (hD : H D = some (.lst ys)) : ∀ {vs : List V} {ps : List Q2}, Frs K H vs ps → Frs K (L2.upd H D (.lst zs)) vs ps
  | [], [], _ => trivial
  | _ :: _, _ :: _, ⟨⟨t, e1, h⟩, r⟩ => ⟨⟨t, e1, seqT_upd hD h⟩, Frs.updL hD r⟩
  | [], _ :: _, h => h.elim
  | _ :: _, [], h => h.elim
theorem EU.updL {K : PySem.W.Frag} {H : Hp} {D a : Addr} {ys zs : List V} {es : List Int} (hD : H D = some (.lst ys)) (h : EU K H a es) : EU K (L2.upd H D (.lst zs)) a es := by
  obtain ⟨xs, h1, h2⟩ := h
  exact ⟨xs, seqT_upd hD h1, Frs.updL hD h2⟩
/-- errors, one behind another -/
def EUs (K : PySem.W.Frag) (H : Hp) : List V → List (List Int) → Prop
  | [], [] => True
  | v :: vs, e :: es => (∃ u, v = .ref u ∧ EU K H u e) ∧ EUs K H vs es
  | _, _ => False
theorem EUs.mono {K : PySem.W.Frag} {H H' : Hp} (s : Same H H') : ∀ {vs : List V} {rs : List (List Int)}, EUs K H vs rs → EUs K H' vs rs
  | [], [], _ => trivial
  | _ :: _, _ :: _, ⟨⟨u, e, h⟩, r⟩ => ⟨⟨u, e, h.mono s⟩, EUs.mono s r⟩
  | [], _ :: _, h => h.elim
  | _ :: _, [], h => h.elim
theorem EUs.updL {K : PySem.W.Frag} {H : Hp} {D : Addr} {ys zs : List V} (hD : H D = some (.lst ys)) : ∀ {vs : List V} {rs : List (List Int)}, EUs K H vs rs → EUs K (L2.upd H D (.lst zs)) vs rs
  | [], [], _ => trivial
  | _ :: _, _ :: _, ⟨⟨u, e, h⟩, r⟩ => ⟨⟨u, e, h.updL hD⟩, EUs.updL hD r⟩
  | [], _ :: _, h => h.elim
  | _ :: _, [], h => h.elim
theorem EUs.snoc {K : PySem.W.Frag} {H : Hp} {u : Addr} {e : List Int} (hv : EU K H u e) : ∀ {vs : List V} {rs : List (List Int)}, EUs K H vs rs → EUs K H (vs ++ [.ref u]) (rs ++ [e])
  | [], [], _ => ⟨⟨u, rfl, hv⟩, trivial⟩
  | _ :: _, _ :: _, h => ⟨h.1, EUs.snoc hv h.2⟩
  | [], _ :: _, h => h.elim
  | _ :: _, [], h => h.elim
theorem EUs.len {K : PySem.W.Frag} {H : Hp} : ∀ {vs : List V} {rs : List (List Int)}, EUs K H vs rs → vs.length = rs.length
  | [], [], _ => rfl
  | _ :: _, _ :: _, h => by rw [List.length_cons, List.length_cons, EUs.len h.2]
  | [], _ :: _, h => h.elim
  | _ :: _, [], h => h.elim
theorem EUs.get {K : PySem.W.Frag} {H : Hp} : ∀ {vs : List V} {rs : List (List Int)} {i : Nat} {v : V}, EUs K H vs rs → vs[i]? = some v → ∃ u r, v = .ref u ∧ rs[i]? = some r ∧ EU K H u r
  | [], [], _, _, _, h => by simp at h
  | a :: _, r :: _, 0, v, h, e => by
    have e1 : a = v := Option.some.inj e
    subst e1
    obtain ⟨u, e2, q⟩ := h.1
    exact ⟨u, r, e2, rfl, q⟩
  | _ :: vs, _ :: rs, i + 1, v, h, e => EUs.get (i := i) h.2 e
  | [], _ :: _, _, _, h, _ => h.elim
  | _ :: _, [], _, _, h, _ => h.elim
theorem EUs.drop1 {K : PySem.W.Frag} {H : Hp} : ∀ {vs : List V} {rs : List (List Int)}, EUs K H vs rs → EUs K H (vs.drop 1) (rs.drop 1)
  | [], [], _ => trivial
  | _ :: _, _ :: _, h => h.2
  | [], _ :: _, h => h.elim
  | _ :: _, [], h => h.elim
theorem frs_snoc {K : PySem.W.Frag} {H : Hp} {t : Addr} {p : Q2} {vs : List V} {ps : List Q2} (hv : SqT K H t (pV p)) (h : Frs K H vs ps) : Frs K H (vs ++ [.ref t]) (ps ++ [p]) := Frs.snoc hv h
/-- the error of a total -/
def totU (es : List Int) (c : List Int) : Int := (c.map fun k => es.getD k.toNat 0).sum
def totsU (ts : List (List Int)) (es : List Int) : List Int := ts.map (totU es)
/-- how the errors of totals change with a line -/
def behT (ts : List (List Int)) (xs : List Int) (k : Int) (d : Int) : List Int := (ts.zip xs).map fun p => if p.1.contains k then p.2 + d else p.2
theorem asc_len : ∀ {c : List Int} {a n : Int}, Asc c → (∀ x ∈ c, a ≤ x ∧ x < n) → (c.length : Int) ≤ max 0 (n - a)
  | [], a, n, _, _ => by simp; omega
  | x :: xs, a, n, h, hb => by
    have h1 := hb x List.mem_cons_self
    have t : Asc xs := match xs, h with
      | [], _ => trivial
      | _ :: _, h => h.2
    have ih := asc_len (a := x + 1) (n := n) t fun y hy => ⟨by have := asc_lt h y hy; omega, (hb y (List.mem_cons_of_mem _ hy)).2⟩
    rw [List.length_cons]
    omega
theorem lot_len {m : Nat} {c : List Int} (h : LotOk (m : Int) c) : c.length ≤ m := by
  have := asc_len (a := 0) (n := (m : Int)) h.2.2 h.2.1
  omega
theorem errU_take {m : Nat} {rs : List Line} {i : Nat} {r : Line} (h : rs[i]? = some r) : errU m (rs.take (i + 1)) = behU (errU m (rs.take i)) r := by
  unfold errU
  rw [List.take_add_one, h, List.foldl_append]
  rfl
theorem errU_at {m : Nat} {rs : List Line} (i : Nat) (h : ∀ r ∈ rs, LineOk m r) (l : rs.length ≤ 1000) : Within 1000 (errU m (rs.take i)) ∧ (errU m (rs.take i)).length = m := by
  have := errU_within (m := m) (rs := rs.take i) fun r hr => h r (List.mem_of_mem_take hr)
  exact ⟨this.1.mono (by rw [List.length_take]; omega), this.2⟩
theorem sum_add_at {es : List Int} {k : Nat} {d : Int} (hk : k < es.length) : ∀ {c : List Int}, c.Nodup → (∀ x ∈ c, 0 ≤ x) → totU (addAt es k d) c = if c.contains (k : Int) then totU es c + d else totU es c
  | [], _, _ => rfl
  | x :: xs, nd, h0 => by
    have n2 := List.nodup_cons.mp nd
    have x0 := h0 x List.mem_cons_self
    have ih := sum_add_at (d := d) hk n2.2 fun y hy => h0 y (List.mem_cons_of_mem _ hy)
    have e1 : totU (addAt es k d) (x :: xs) = (addAt es k d).getD x.toNat 0 + totU (addAt es k d) xs := by
      unfold totU
      rw [List.map_cons, List.sum_cons]
    have e2 : totU es (x :: xs) = es.getD x.toNat 0 + totU es xs := by
      unfold totU
      rw [List.map_cons, List.sum_cons]
    rw [e1, e2, ih, List.contains_cons]
    by_cases q : (k : Int) = x
    · subst q
      have f : xs.contains (k : Int) = false := by
        rw [← Bool.not_eq_true, List.contains_iff_mem]
        exact n2.1
      have g : (addAt es k d).getD ((k : Int)).toNat 0 = es.getD k 0 + d := by
        unfold addAt
        rw [Int.toNat_natCast, List.getD_eq_getElem?_getD, List.getElem?_set_self hk]
        rfl
      rw [f, g, Int.toNat_natCast]
      simp
      omega
    · have f : ((k : Int) == x) = false := by simpa using q
      have g : (addAt es k d).getD x.toNat 0 = es.getD x.toNat 0 := by
        unfold addAt
        rw [List.getD_eq_getElem?_getD, List.getElem?_set_ne (by omega), List.getD_eq_getElem?_getD]
      rw [f, g, Bool.false_or]
      split <;> omega
theorem behT_eq {m : Nat} {ts : List (List Int)} {es : List Int} {k : Nat} {d : Int} (hk : k < es.length) (ok : ∀ c ∈ ts, LotOk (m : Int) c) : behT ts (totsU ts es) (k : Int) d = totsU ts (addAt es k d) := by
  unfold behT totsU
  rw [List.zip_map_right, List.map_map]
  have e : ts.zip ts = ts.map fun c => (c, c) := by
    induction ts with
    | nil => rfl
    | cons a as ih => rw [List.zip_cons_cons, List.map_cons, ih fun c hc => ok c (List.mem_cons_of_mem _ hc)]
  rw [e, List.map_map]
  refine List.map_congr_left fun c hc => ?_
  have o := ok c hc
  show (if c.contains (k : Int) then totU es c + d else totU es c) = _
  rw [sum_add_at hk (asc_nodup o.2.2) fun x hx => (o.2.1 x hx).1]
theorem tot_lt {es : List Int} (h : Within 1000 es) : ∀ c : List Int, (totU es c).natAbs ≤ c.length * (1000 * 2 ^ 45)
  | [] => Nat.zero_le _
  | x :: xs => by
    have ih := tot_lt h xs
    have e2 : totU es (x :: xs) = es.getD x.toNat 0 + totU es xs := by
      unfold totU
      rw [List.map_cons, List.sum_cons]
    have h1 : (es.getD x.toNat 0).natAbs ≤ 1000 * 2 ^ 45 := by
      rw [List.getD_eq_getElem?_getD]
      cases q : es[x.toNat]? with
      | none => exact Nat.zero_le _
      | some v => exact h v (List.mem_of_getElem? q)
    rw [e2, List.length_cons, Nat.succ_mul]
    have := Int.natAbs_add_le (es.getD x.toNat 0) (totU es xs)
    omega
/-- the errors of totals behind each line -/
def courseU (m : Nat) (ts : List (List Int)) (rs : List Line) : List (List Int) := (List.range (rs.length + 1)).map fun i => totsU ts (errU m (rs.take i))
def smallU (es : List Int) : Bool := es.all fun e => decide (-DL < e ∧ e < DL)
def firstU : List (List Int) → Nat → Option Nat
  | [], _ => none
  | e :: es, i => if smallU e then firstU es (i + 1) else some i
def offV : Option Nat → V
  | none => .non
  | some i => .int (i : Int)
def spNoErr (K : PySem.W.Frag) (C : Addr) : Sp := fun vs H Q _ => ∃ (a : Addr) (ks : List Str) (ts : List (List Int)), vs = [.ref a] ∧ Tab K C H a ks ts ∧ TabOk ks ts ∧ ∀ H' u, Same H H' → EU K H' u (List.replicate ks.length 0) → Q (.ref u) H'
def DayIn (K : PySem.W.Frag) (H : Hp) (d : Addr) (m : Nat) (rs : List Line) : Prop := ∃ xs, SqT K H d xs ∧ Lines K H xs rs ∧ (∀ r ∈ rs, LineOk m r) ∧ rs.length ≤ 900
theorem DayIn.mono {K : PySem.W.Frag} {H H' : Hp} {d : Addr} {m : Nat} {rs : List Line} (s : Same H H') (h : DayIn K H d m rs) : DayIn K H' d m rs := by
  obtain ⟨xs, h1, h2, h3⟩ := h
  exact ⟨xs, seqT s h1, h2.mono s, h3⟩
def spErrsOf (K : PySem.W.Frag) (C : Addr) (F : List Str → List (List Int) → List Line → List Int) : Sp := fun vs H Q _ => ∃ (a d : Addr) (ks : List Str) (ts : List (List Int)) (rs : List Line), vs = [.ref a, .ref d] ∧ Tab K C H a ks ts ∧ TabOk ks ts ∧ DayIn K H d ks.length rs ∧
  ∀ H' u, Same H H' → EU K H' u (F ks ts rs) → Q (.ref u) H'
def spErrTot (K : PySem.W.Frag) (C : Addr) : Sp := fun vs H Q _ => ∃ (a e : Addr) (ks : List Str) (ts : List (List Int)) (es : List Int) (j : Nat) (c : List Int), vs = [.ref a, .ref e, .int (j : Int)] ∧ Tab K C H a ks ts ∧ TabOk ks ts ∧ EU K H e es ∧ es.length = ks.length ∧ Within 1000 es ∧ ts[j]? = some c ∧
  ∀ H' u, Same H H' → SqT K H' u (pV (U (totU es c))) → Q (.ref u) H'
def spTotsBy (K : PySem.W.Frag) (C : Addr) : Sp := fun vs H Q _ => ∃ (a e : Addr) (ks : List Str) (ts : List (List Int)) (es : List Int), vs = [.ref a, .ref e] ∧ Tab K C H a ks ts ∧ TabOk ks ts ∧ EU K H e es ∧ es.length = ks.length ∧ Within 1000 es ∧
  ∀ H' u, Same H H' → EU K H' u (totsU ts es) → Q (.ref u) H'
def spTotBeh (K : PySem.W.Frag) (C : Addr) : Sp := fun vs H Q _ => ∃ (a e s : Addr) (ks : List Str) (ts : List (List Int)) (es : List Int) (k : Nat) (d : Int), vs = [.ref a, .ref e, .int (k : Int), .ref s] ∧ Tab K C H a ks ts ∧ TabOk ks ts ∧ EU K H e es ∧ es.length = ts.length ∧ (∀ x ∈ es, x.natAbs < 2 ^ 60) ∧ SqT K H s (pV (U d)) ∧ d.natAbs < 2 ^ 60 ∧
  ∀ H' u, Same H H' → EU K H' u (behT ts es (k : Int) d) → Q (.ref u) H'
def spCourse (K : PySem.W.Frag) (C : Addr) : Sp := fun vs H Q _ => ∃ (a d : Addr) (ks : List Str) (ts : List (List Int)) (rs : List Line), vs = [.ref a, .ref d] ∧ Tab K C H a ks ts ∧ TabOk ks ts ∧ DayIn K H d ks.length rs ∧
  ∀ H' u ys, Same H H' → SqT K H' u ys → EUs K H' ys (courseU ks.length ts rs) → Q (.ref u) H'
def spFirst (K : PySem.W.Frag) (C : Addr) : Sp := fun vs H Q _ => ∃ (a d : Addr) (ks : List Str) (ts : List (List Int)) (rs : List Line), vs = [.ref a, .ref d] ∧ Tab K C H a ks ts ∧ TabOk ks ts ∧ DayIn K H d ks.length rs ∧
  ∀ H', Same H H' → Q (offV (firstU ((courseU ks.length ts rs).drop 1) 0)) H'
end CK
namespace K09
open PySem PySem.Spec PyProof.Rows L2 VG FR CK HD M9
abbrev s_no_errors : Stmt := topS 39
abbrev N_no_errors : List Str := ["table", "_"]
theorem sc_no_errors : FnScope N_no_errors ["table"] (defScope s_no_errors) := ⟨rfl, rfl, rfl, by decide +kernel, rfl, by decide +kernel, by decide +kernel⟩
abbrev s_errors_of : Stmt := topS 40
abbrev N_errors_of : List Str := ["table", "day", "errors", "kind", "amount", "whole"]
theorem sc_errors_of : FnScope N_errors_of ["table", "day"] (defScope s_errors_of) := ⟨rfl, rfl, rfl, by decide +kernel, rfl, by decide +kernel, by decide +kernel⟩
abbrev s_error_of_total : Stmt := topS 41
abbrev N_error_of_total : List Str := ["table", "errors", "total", "kind"]
theorem sc_error_of_total : FnScope N_error_of_total ["table", "errors", "total"] (defScope s_error_of_total) := ⟨rfl, rfl, rfl, by decide +kernel, rfl, by decide +kernel, by decide +kernel⟩
abbrev s_totals_by : Stmt := topS 42
abbrev N_totals_by : List Str := ["table", "errors", "total"]
theorem sc_totals_by : FnScope N_totals_by ["table", "errors"] (defScope s_totals_by) := ⟨rfl, rfl, rfl, by decide +kernel, rfl, by decide +kernel, by decide +kernel⟩
abbrev s_total_errors : Stmt := topS 43
abbrev N_total_errors : List Str := ["table", "day"]
theorem sc_total_errors : FnScope N_total_errors ["table", "day"] (defScope s_total_errors) := ⟨rfl, rfl, rfl, by decide +kernel, rfl, by decide +kernel, by decide +kernel⟩
section
variable {P : Program} {w : World} {K : PySem.W.Frag} {mg : Str → Option Value} {base : Heap}
theorem ok_no_errors {f C zz : Addr} {fd : FuncData} (F : Fun K "no_errors" "no_errors" s_no_errors f fd) (T : TabC K C) (m_ZERO : mg "ZERO" = some (.ref zz)) (hz : ∀ H, SqT K H zz (pV (0, 1))) (z_tuple : mg "tuple" = none) : FnOk P w K mg base CX0 1 f fd ["table"] (spNoErr K C) := by
  refine F.ok sc_no_errors (fun vs H Q E h => ?_) (fun cdv A outer s H vs Q E hr h => ?_)
  · obtain ⟨_, _, _, rfl, _⟩ := h
    rfl
  · obtain ⟨a, ks, ts, rfl, hTab, ok, fin⟩ := h
    refine ⟨_, (pss_one (ps_ret (pe_callTy call_tupE (by rfl) z_tuple (by decide +kernel) (pa_cons (pe_lc (own := [("_", 1)]) (by rfl) sc_no_errors.nd (pi_tup (pe_fld (pv 0) (by rfl))) (blkOk_by (own := [("_", 1)]) (N := N_no_errors) (sc := defScope s_no_errors) (by decide +kernel)) (fun _ _ _ _ _ => (pg_name (i := 1) sc_no_errors.nd rfl (.inl rfl))) (fun _ _ _ _ _ => pts_nil) (fun _ _ _ _ _ => (pe_glob (v := .ref zz) rfl m_ZERO rfl))) pa_nil)))), ?_⟩
    have big : sizeLine = 16777216 := by decide
    have lk := ok.kinds.2.1
    obtain ⟨dx, k, t, ys, hO, hK, hS, hT⟩ := hTab
    refine ⟨_, rfl, a, C, dx, _, .ref k, rfl, hO, T.c, T.nk, rfl, k, rfl, ⟨_, hK⟩, fun D nD => ?_⟩
    refine lc_it (walk_tup (K := K) (a := k) (xs := ks.map V.str)) (fun i H' => Same H H' ∧ H' D = some (.lst (List.replicate i (V.ref zz)))) ⟨same_upd nD, upd_same⟩ (fun i H' _ h => seqT h.1 hK) ?_ ?_
    · rintro i v H1 H2 hi ⟨sm, hD⟩ ⟨e2, ex⟩
      subst e2
      rw [List.length_map] at hi
      refine ⟨rfl, _, hD, ?_, HD.same_put sm nD, ?_⟩
      · rw [List.length_replicate]
        omega
      · rw [upd_same, List.replicate_succ']
    · rintro H1 ⟨sm, hD⟩
      rw [List.length_map] at hD
      refine ⟨D, _, rfl, .inl (.inl (.inl hD)), fun H2 u s2 hu => fin H2 u (sm.trans s2) ⟨_, hu, ?_⟩⟩
      have : ∀ n : Nat, Frs K H2 (List.replicate n (V.ref zz)) ((List.replicate n (0 : Int)).map U) := by
        intro n
        induction n with
        | zero => exact trivial
        | succ n ih => exact ⟨⟨zz, rfl, by rw [U_zero]; exact hz H2⟩, ih⟩
      exact this _
theorem ok_errors_of {f C : Addr} {fd : FuncData} (F : Fun K "errors_of" "errors_of" s_errors_of f fd) (C_no_errors : Cl P w K mg base 1 "no_errors" (spNoErr K C)) (C_errors_behind : Cl P w K mg base 4 "errors_behind" (spBehind K)) : FnOk P w K mg base CX0 5 f fd ["table", "day"] (spErrsOf K C fun ks _ rs => errU ks.length rs) := by
  refine F.ok sc_errors_of (fun vs H Q E h => ?_) (fun cdv A outer s H vs Q E hr h => ?_)
  · obtain ⟨_, _, _, _, _, rfl, _⟩ := h
    rfl
  · obtain ⟨a, d, ks, ts, rs, rfl, hTab, ok, ⟨xs, hD, hL, ho, hl⟩, fin⟩ := h
    refine ⟨_, (pss_cons (ps_set (i := 2) sc_errors_of.nd rfl (.inl rfl) (pe_cl C_no_errors hr (by decide) rfl (pa_cons (pv 0) pa_nil)))
    (pss_cut (ps_for PassesOwn.never rfl (pi_tup (pv 1)) (pg_tup rfl (pgs_cons (pg_name (i := 3) sc_errors_of.nd rfl (.inl rfl)) (pgs_cons (pg_name (i := 4) sc_errors_of.nd rfl (.inl rfl)) (pgs_cons (pg_name (i := 5) sc_errors_of.nd rfl (.inl rfl)) pgs_nil))))
      (pss_one (ps_set (i := 2) sc_errors_of.nd rfl (.inl rfl) (pe_cl C_errors_behind hr (by decide) rfl (pa_cons (pv 2) (pa_cons (pv 3) (pa_cons (pv 4) (pa_cons (pv 5) pa_nil))))))))
    (pss_one (ps_ret (pv 2))))), ?_⟩
    have lx := hL.len
    have lk := ok.kinds.2.1
    refine ⟨_, rfl, a, ks, ts, rfl, hTab, ok, fun H1 u1 s1 hu1 => ?_⟩
    refine ⟨fun σ H' => ∃ (u : Addr) (y3 y4 y5 : Option V), σ = [some (.ref a), some (.ref d), some (.ref u), y3, y4, y5] ∧ Same H H' ∧ EU K H' u (errU ks.length rs), ?_, ?_⟩
    · refine ⟨_, rfl, d, rfl, ⟨_, seqT s1 hD⟩, ?_⟩
      refine for_it (walk_tup (K := K) (a := d) (xs := xs)) (fun i σ H' => ∃ (u : Addr) (y3 y4 y5 : Option V), σ = [some (.ref a), some (.ref d), some (.ref u), y3, y4, y5] ∧ Same H H' ∧ EU K H' u (errU ks.length (rs.take i))) ⟨u1, _, _, _, rfl, s1, hu1⟩ ?_ ?_ ?_
      · rintro i σ H2 _ ⟨_, _, _, _, _, sm, _⟩
        exact seqT sm hD
      · rintro i x σ H2 H3 hi ⟨u, y3, y4, y5, rfl, sm, hu⟩ ⟨rfl, ex⟩
        obtain ⟨r, er, t, q, rfl, h1, h2⟩ := hL.get ex
        have ew := errU_at i ho (by omega)
        refine ⟨t, _, rfl, seqT sm h1, rfl, _, _, rfl, _, _, rfl, _, _, rfl, rfl, ?_⟩
        refine ⟨_, rfl, _, rfl, _, rfl, _, rfl, u, q, _, r, rfl, hu, seqT sm h2, by rw [ew.2]; exact ho r (List.mem_of_getElem? er), ew.1, by rw [ew.2]; omega, fun H4 u4 s4 hu4 => ?_⟩
        rw [← errU_take er] at hu4
        exact ⟨u4, _, _, _, rfl, sm.trans s4, hu4⟩
      · rintro σ H2 ⟨u, y3, y4, y5, rfl, sm, hu⟩
        rw [lx, List.take_length] at hu
        exact ⟨u, _, _, _, rfl, sm, hu⟩
    · rintro σ H2 ⟨u, y3, y4, y5, rfl, sm, hu⟩
      exact ⟨_, rfl, fin H2 u sm hu⟩
theorem ok_error_of_total {f C : Addr} {fd : FuncData} (F : Fun K "error_of_total" "error_of_total" s_error_of_total f fd) (T : TabC K C) (C_sum_of : Cl P w K mg base 2 "sum_of" (spSumL K)) : FnOk P w K mg base CX0 3 f fd ["table", "errors", "total"] (spErrTot K C) := by
  refine F.ok sc_error_of_total (fun vs H Q E h => ?_) (fun cdv A outer s H vs Q E hr h => ?_)
  · obtain ⟨_, _, _, _, _, _, _, rfl, _⟩ := h
    rfl
  · obtain ⟨a, e, ks, ts, es, j, c, rfl, hTab, ok, ⟨xs, hE, hF⟩, le, hw, ec, fin⟩ := h
    refine ⟨_, (pss_one (ps_ret (pe_cl C_sum_of hr (by decide) rfl (pa_cons (pe_lc (own := [("kind", 3)]) (by rfl) sc_error_of_total.nd (pi_tup (pe_ix ix_tup (pe_fld (pv 0) (by rfl)) (pv 2) (fun _ _ => rfl))) (blkOk_by (own := [("kind", 3)]) (N := N_error_of_total) (sc := defScope s_error_of_total) (by decide +kernel)) (fun _ _ _ _ _ => (pg_name (i := 3) sc_error_of_total.nd rfl (.inl rfl))) (fun _ _ _ _ _ => pts_nil) (fun _ _ _ _ _ => (pe_ix (show IxR _ (rIxT K) from ix_tup) (pv 1) (pv 3) (fun _ _ => rfl)))) pa_nil)))), ?_⟩
    have big : sizeLine = 16777216 := by decide
    have lk := ok.kinds.2.1
    have lo := ok.lots c (List.mem_of_getElem? ec)
    have lc := lot_len lo
    obtain ⟨dx, k, t, ys, hO, hK, hS, hT⟩ := hTab
    have ly := hT.len
    obtain ⟨hj, _⟩ := List.getElem?_eq_some_iff.mp ec
    obtain ⟨y, ey⟩ : ∃ y, ys[j]? = some y := ⟨ys[j]'(by omega), List.getElem?_eq_getElem (by omega)⟩
    obtain ⟨tt, c2, rfl, ec2, htt⟩ := hT.get ey
    rw [ec] at ec2
    obtain rfl := Option.some.inj ec2
    refine ⟨_, rfl, a, C, dx, _, .ref t, rfl, hO, T.c, T.nt, rfl, _, rfl, t, _, _, _, rfl, rfl, hS, atI_nat ey, tt, rfl, ⟨_, htt⟩, fun D nD => ?_⟩
    refine lc_it (walk_tup (K := K) (a := tt) (xs := c.map V.int)) (fun i H' => Same H H' ∧ ∃ zs, H' D = some (.lst zs) ∧ Frs K H' zs (((c.take i).map fun k => es.getD k.toNat 0).map U)) ⟨same_upd nD, [], upd_same, trivial⟩ (fun i H' _ h => seqT h.1 htt) ?_ ?_
    · rintro i v H1 H2 hi ⟨sm, zs, hD, hz⟩ ⟨e2, ex⟩
      subst e2
      rw [List.length_map] at hi
      rw [List.getElem?_map] at ex
      obtain ⟨kk, ek, rfl⟩ := Option.map_eq_some_iff.mp ex
      have ⟨k0, k1⟩ := lo.2.1 kk (List.mem_of_getElem? ek)
      obtain ⟨m, rfl⟩ := Int.eq_ofNat_of_zero_le k0
      have hm : m < es.length := by omega
      obtain ⟨b, eb⟩ : ∃ b, es[m]? = some b := ⟨_, List.getElem?_eq_getElem hm⟩
      obtain ⟨q, e3, hq⟩ := frs_get (p := U b) (i := m) hF (by rw [List.getElem?_map, eb]; rfl)
      have lz := hz.len
      rw [List.length_map, List.length_map, List.length_take] at lz
      refine ⟨rfl, _, rfl, _, rfl, e, _, _, _, rfl, rfl, seqT sm hE, atI_nat e3, zs, hD, by omega, HD.same_put sm nD, zs ++ [.ref q], upd_same, ?_⟩
      have hq2 : SqT K (L2.upd H2 D (.lst (zs ++ [.ref q]))) q (pV (U b)) := seqT_upd hD (seqT sm hq)
      rw [List.take_add_one, ek, List.map_append, List.map_append]
      show Frs K _ (zs ++ [V.ref q]) (_ ++ [U (es.getD ((m : Int)).toNat 0)])
      rw [Int.toNat_natCast, List.getD_eq_getElem?_getD, eb]
      exact frs_snoc hq2 (Frs.updL hD hz)
    · rintro H1 ⟨sm, zs, hD, hz⟩
      rw [List.take_of_length_le (by rw [List.length_map]; exact Nat.le_refl _)] at hz
      have lb : ∀ x ∈ c.map (fun k => es.getD k.toNat 0), x.natAbs < 2 ^ 60 := fun x hx => by
        obtain ⟨k, _, rfl⟩ := List.mem_map.mp hx
        rw [List.getD_eq_getElem?_getD]
        cases q : es[k.toNat]? with
        | none => exact (by decide : (0 : Int).natAbs < 2 ^ 60)
        | some v => exact within_lt hw v (List.mem_of_getElem? q)
      refine ⟨D, zs, _, _, rfl, .inr (.inl (.inl hD)), hz, btL_U (n := 60) (by decide) _ lb, fun p hp => ?_, ?_, fun H2 u s2 hu => ?_⟩
      · obtain ⟨x, _, rfl⟩ := List.mem_map.mp hp
        exact U_low x
      · rw [M9.bits_rep, List.length_map]
        omega
      · rw [sumQ_U] at hu
        exact fin H2 u (sm.trans s2) hu
theorem ok_totals_by {f C : Addr} {fd : FuncData} (F : Fun K "totals_by" "totals_by" s_totals_by f fd) (T : TabC K C) (C_error_of_total : Cl P w K mg base 3 "error_of_total" (spErrTot K C)) (z_tuple : mg "tuple" = none) (z_len : mg "len" = none) (z_range : mg "range" = none) : FnOk P w K mg base CX0 4 f fd ["table", "errors"] (spTotsBy K C) := by
  refine F.ok sc_totals_by (fun vs H Q E h => ?_) (fun cdv A outer s H vs Q E hr h => ?_)
  · obtain ⟨_, _, _, _, _, rfl, _⟩ := h
    rfl
  · obtain ⟨a, e, ks, ts, es, rfl, hTab, ok, hE, le, hw, fin⟩ := h
    refine ⟨_, (pss_one (ps_ret (pe_callTy call_tupE (by rfl) z_tuple (by decide +kernel) (pa_cons (pe_lc (own := [("total", 2)]) (by rfl) sc_totals_by.nd (pi_range1 (by rfl) z_range (pa_cons (pe_callB call_len_seq (by rfl) z_len (by decide +kernel) (pa_cons (pe_fld (pv 0) (by rfl)) pa_nil)) pa_nil)) (blkOk_by (own := [("total", 2)]) (N := N_totals_by) (sc := defScope s_totals_by) (by decide +kernel)) (fun _ _ _ _ _ => (pg_name (i := 2) sc_totals_by.nd rfl (.inl rfl))) (fun _ _ _ _ _ => pts_nil) (fun _ _ _ _ _ => (pe_cl C_error_of_total hr (by decide) rfl (pa_cons (pv 0) (pa_cons (pv 1) (pa_cons (pv 2) pa_nil)))))) pa_nil)))), ?_⟩
    have big : sizeLine = 16777216 := by decide
    have lt := ok.len
    have hTab0 := hTab
    obtain ⟨dx, k, t, ys, hO, hK, hS, hT⟩ := hTab
    have ly := hT.len
    refine ⟨_, rfl, a, C, dx, _, .ref t, rfl, hO, T.c, T.nt, rfl, _, ys, rfl, .inr hS, _, rfl, by omega, by omega, fun D nD => ?_⟩
    refine lc_it (walk_range (lo := 0) (n := ys.length)) (fun i H' => Same H H' ∧ ∃ zs, H' D = some (.lst zs) ∧ Frs K H' zs (((ts.take i).map (totU es)).map U)) ⟨same_upd nD, [], upd_same, trivial⟩ (fun i H' _ h => trivial) ?_ ?_
    · rintro i v H1 H2 hi ⟨sm, zs, hD, hz⟩ ⟨rfl, rfl⟩
      obtain ⟨c, ec⟩ : ∃ c, ts[i]? = some c := ⟨ts[i]'(by omega), List.getElem?_eq_getElem (by omega)⟩
      have lz := hz.len
      rw [List.length_map, List.length_map, List.length_take] at lz
      refine ⟨rfl, _, rfl, _, rfl, _, rfl, a, e, ks, ts, es, i, c, by show [V.ref a, V.ref e, V.int (0 + (i : Int))] = _; rw [Int.zero_add], hTab0.mono sm, ok, hE.mono sm, le, hw, ec, fun H3 u s3 hu => ?_⟩
      have hD3 := s3 _ _ hD
      refine ⟨zs, hD3, by omega, HD.same_put (sm.trans s3) nD, zs ++ [.ref u], upd_same, ?_⟩
      rw [List.take_add_one, ec, List.map_append, List.map_append]
      exact frs_snoc (seqT_upd hD3 hu) (Frs.updL hD3 (hz.mono s3))
    · rintro H1 ⟨sm, zs, hD, hz⟩
      rw [ly, List.take_length] at hz
      refine ⟨D, _, rfl, .inl (.inl (.inl hD)), fun H2 u s2 hu => fin H2 u (sm.trans s2) ⟨zs, hu, hz.mono s2⟩⟩
theorem ok_total_errors {f C : Addr} {fd : FuncData} (F : Fun K "total_errors" "total_errors" s_total_errors f fd) (C_totals_by : Cl P w K mg base 4 "totals_by" (spTotsBy K C)) (C_errors_of : Cl P w K mg base 5 "errors_of" (spErrsOf K C fun ks _ rs => errU ks.length rs)) : FnOk P w K mg base CX0 6 f fd ["table", "day"] (spErrsOf K C fun ks ts rs => totsU ts (errU ks.length rs)) := by
  refine F.ok sc_total_errors (fun vs H Q E h => ?_) (fun cdv A outer s H vs Q E hr h => ?_)
  · obtain ⟨_, _, _, _, _, rfl, _⟩ := h
    rfl
  · obtain ⟨a, d, ks, ts, rs, rfl, hTab, ok, hD, fin⟩ := h
    refine ⟨_, (pss_one (ps_ret (pe_cl C_totals_by hr (by decide) rfl (pa_cons (pv 0) (pa_cons (pe_cl C_errors_of hr (by decide) rfl (pa_cons (pv 0) (pa_cons (pv 1) pa_nil))) pa_nil))))), ?_⟩
    obtain ⟨xs, h1, h2, ho, hl⟩ := hD
    have ew := errU_at rs.length ho (by omega)
    rw [List.take_length] at ew
    refine ⟨_, rfl, _, rfl, _, rfl, a, d, ks, ts, rs, rfl, hTab, ok, ⟨xs, h1, h2, ho, hl⟩, fun H1 u s1 hu => ?_⟩
    exact ⟨a, u, ks, ts, _, rfl, hTab.mono s1, ok, hu, ew.2, ew.1, fun H2 v s2 hv => fin H2 v (s1.trans s2) hv⟩
end
end K09
namespace CK
open PySem PySem.Spec PyProof.Rows L2 VG FR HD M9
theorem behT_take {ts : List (List Int)} {es : List Int} {i : Nat} {c : List Int} {x k d : Int} (h1 : ts[i]? = some c) (h2 : es[i]? = some x) : (behT ts es k d).take (i + 1) = (behT ts es k d).take i ++ [if c.contains k then x + d else x] := by
  unfold behT
  rw [← List.map_take, ← List.map_take, List.take_add_one, (List.getElem?_zip_eq_some (z := (c, x))).mpr ⟨h1, h2⟩, List.map_append]
  rfl
theorem course_len (m : Nat) (ts : List (List Int)) (rs : List Line) : (courseU m ts rs).length = rs.length + 1 := by
  unfold courseU
  rw [List.length_map, List.length_range]
/-- the course behind so many lines -/
def cou (m : Nat) (ts : List (List Int)) (rs : List Line) (i : Nat) : List (List Int) := (List.range (i + 1)).map fun i => totsU ts (errU m (rs.take i))
theorem cou_succ (m : Nat) (ts : List (List Int)) (rs : List Line) (i : Nat) : cou m ts rs (i + 1) = cou m ts rs i ++ [totsU ts (errU m (rs.take (i + 1)))] := by
  unfold cou
  rw [List.range_succ, List.map_append]
  rfl
theorem tots_len (ts : List (List Int)) (es : List Int) : (totsU ts es).length = ts.length := List.length_map _
theorem tots_zero (m : Nat) (ts : List (List Int)) : totsU ts (List.replicate m 0) = List.replicate ts.length 0 := by
  refine List.ext_getElem? fun i => ?_
  unfold totsU
  rw [List.getElem?_map]
  cases h : ts[i]? with
  | none =>
    have := List.getElem?_eq_none_iff.mp h
    rw [List.getElem?_eq_none_iff.mpr (by rw [List.length_replicate]; exact this)]
    rfl
  | some c =>
    obtain ⟨hi, _⟩ := List.getElem?_eq_some_iff.mp h
    rw [List.getElem?_replicate, if_pos hi]
    show some (totU _ c) = some 0
    have : ∀ c : List Int, totU (List.replicate m 0) c = 0 := by
      intro c
      induction c with
      | nil => rfl
      | cons x xs ih =>
        have e2 : totU (List.replicate m 0) (x :: xs) = (List.replicate m (0 : Int)).getD x.toNat 0 + totU (List.replicate m 0) xs := by
          unfold totU
          rw [List.map_cons, List.sum_cons]
        rw [e2, ih, List.getD_eq_getElem?_getD, List.getElem?_replicate]
        split <;> rfl
    rw [this]
theorem first_at : ∀ (l : List (List Int)) (i n : Nat), (∀ j < i, ∃ e, l[j]? = some e ∧ smallU e = true) → i ≤ l.length → firstU l n = firstU (l.drop i) (n + i)
  | l, 0, n, _, _ => by rw [List.drop_zero, Nat.add_zero]
  | [], i + 1, n, h, hl => by simp at hl
  | e :: l, i + 1, n, h, hl => by
    obtain ⟨e2, h2, h3⟩ := h 0 (by omega)
    have h2 : e = e2 := Option.some.inj h2
    subst h2
    have ih := first_at l i (n + 1) (fun j hj => h (j + 1) (by omega)) (by simpa using hl)
    rw [firstU, if_pos h3, ih, List.drop_succ_cons, Nat.add_assoc, Nat.add_comm 1 i]
end CK
namespace K09
open PySem PySem.Spec PyProof.Rows L2 VG FR CK HD M9
abbrev s_totals_behind : Stmt := topS 44
abbrev N_totals_behind : List Str := ["table", "errors", "kind", "change", "behind", "total", "error"]
theorem sc_totals_behind : FnScope N_totals_behind ["table", "errors", "kind", "change"] (defScope s_totals_behind) := ⟨rfl, rfl, rfl, by decide +kernel, rfl, by decide +kernel, by decide +kernel⟩
abbrev s_course_of : Stmt := topS 45
abbrev N_course_of : List Str := ["table", "day", "errors", "course", "kind", "amount", "whole", "_"]
theorem sc_course_of : FnScope N_course_of ["table", "day"] (defScope s_course_of) := ⟨rfl, rfl, rfl, by decide +kernel, rfl, by decide +kernel, by decide +kernel⟩
abbrev s_first_off : Stmt := topS 46
abbrev N_first_off : List Str := ["table", "day", "at", "errors"]
theorem sc_first_off : FnScope N_first_off ["table", "day"] (defScope s_first_off) := ⟨rfl, rfl, rfl, by decide +kernel, rfl, by decide +kernel, by decide +kernel⟩
section
variable {P : Program} {w : World} {K : PySem.W.Frag} {mg : Str → Option Value} {base : Heap}
theorem ok_totals_behind {f C : Addr} {fd : FuncData} (F : Fun K "totals_behind" "totals_behind" s_totals_behind f fd) (T : TabC K C) (C_added : Cl P w K mg base 1 "added" (spAdd K)) (z_zip : mg "zip" = none) (z_tuple : mg "tuple" = none) : FnOk P w K mg base CX0 2 f fd ["table", "errors", "kind", "change"] (spTotBeh K C) := by
  refine F.ok sc_totals_behind (fun vs H Q E h => ?_) (fun cdv A outer s H vs Q E hr h => ?_)
  · obtain ⟨_, _, _, _, _, _, _, _, rfl, _⟩ := h
    rfl
  · obtain ⟨a, e, q, ks, ts, es, k, d, rfl, hTab, ok, ⟨xs, hE, hF⟩, le, hw, hq, hd, fin⟩ := h
    refine ⟨_, (pss_cons (ps_set (i := 4) sc_totals_behind.nd rfl (.inl rfl) (pe_lst pa_nil))
    (pss_cut (ps_for PassesOwn.never rfl (RZ.pi_zipA (by rfl) z_zip (pa_cons (pe_fld (pv 0) (by rfl)) (pa_cons (pv 1) pa_nil))) (pg_tup rfl (pgs_cons (pg_name (i := 5) sc_totals_behind.nd rfl (.inl rfl)) (pgs_cons (pg_name (i := 6) sc_totals_behind.nd rfl (.inl rfl)) pgs_nil)))
      (pss_one (ps_expr (pe_bm PySem.F.plainAttrs_list PySem.F.slot_list_append PySem.F.type_list_append mt_append (pv 4) (pa_cons (pe_ifExp (pt_cmpR op_in_seq (pv 2) (pv 5) rfl) (pe_cl C_added hr (by decide) rfl (pa_cons (pv 6) (pa_cons (pv 3) pa_nil))) (pv 6)) pa_nil)))))
    (pss_one (ps_ret (pe_callTy call_tupE (by rfl) z_tuple (by decide +kernel) (pa_cons (pv 4) pa_nil)))))), ?_⟩
    have big : sizeLine = 16777216 := by decide
    have lt := ok.len
    have lx := hF.len
    rw [List.length_map] at lx
    obtain ⟨dx, kk, t, ys, hO, hK, hS, hT⟩ := hTab
    have ly := hT.len
    refine ⟨by show 0 ≤ sizeLine; exact Nat.zero_le _, fun D nD => ?_⟩
    have sD := same_upd (o := .lst []) nD
    have kD := upd_same (H := H) (a := D) (o := .lst [])
    generalize L2.upd H D (.lst []) = H1 at sD kD ⊢
    refine ⟨fun σ H' => (∃ y5 y6 : Option V, σ = [some (.ref a), some (.ref e), some (.int k), some (.ref q), some (.ref D), y5, y6]) ∧ Same H H' ∧ ∃ zs, H' D = some (.lst zs) ∧ Frs K H' zs ((behT ts es k d).map U), ?_, ?_⟩
    · refine ⟨_, rfl, a, C, dx, _, .ref t, rfl, sD _ _ hO, T.c, T.nt, rfl, _, rfl, t, e, _, _, rfl, .inr ⟨seqT sD hS, seqT sD hE, ?_⟩⟩
      refine for_it (walk_zipT (K := K) (a := t) (b := e) (xs := ys) (ys := xs) (n := ts.length) (by omega)) (fun i σ H' => (∃ y5 y6 : Option V, σ = [some (.ref a), some (.ref e), some (.int k), some (.ref q), some (.ref D), y5, y6]) ∧ Same H H' ∧ ∃ zs, H' D = some (.lst zs) ∧ Frs K H' zs (((behT ts es k d).take i).map U)) ⟨⟨_, _, rfl⟩, sD, [], kD, trivial⟩ (fun i σ H' _ h => ⟨seqT h.2.1 hS, seqT h.2.1 hE⟩) ?_ ?_
      · rintro i v σ H2 H3 hi ⟨⟨y5, y6, rfl⟩, sm, zs, hD, hz⟩ ⟨W, x, y, rfl, nW, rfl, ex, ey⟩
        obtain ⟨tt, c, rfl, ec, htt⟩ := hT.get ex
        obtain ⟨u, p, rfl, ep, hu⟩ := hF.get ey
        rw [List.getElem?_map] at ep
        obtain ⟨b, eb, rfl⟩ := Option.map_eq_some_iff.mp ep
        have sW := same_upd (o := .tup [.ref tt, .ref u]) nW
        have sm2 := sm.trans sW
        have hD2 := sW _ _ hD
        have hz2 := hz.mono sW
        have lz := hz.len
        rw [List.length_map, List.length_take] at lz
        have hbm := hw b (List.mem_of_getElem? eb)
        refine ⟨W, _, rfl, .inl (.inl upd_same), rfl, _, _, rfl, _, _, rfl, rfl, ?_⟩
        refine ⟨_, rfl, .inl ⟨rfl, _, .inl (.inl hD2)⟩, _, rfl, _, rfl, tt, c.map V.int, rfl, .inr (seqT sm2 htt), rfl, flat_ints c, _, rfl, ?_⟩
        have bt := behT_take (k := (k : Int)) (d := d) ec eb
        generalize L2.upd H2 W (.tup [.ref tt, .ref u]) = H4 at sm2 hD2 hz2 ⊢
        have fill : ∀ (H5 : Hp) (z : Addr) (r : Int), Same H4 H5 → SqT K H5 z (pV (U r)) → (if c.contains (k : Int) then b + d else b) = r → ∃ (o : Addr) (us : List V) (x : V), V.ref D = .ref o ∧ [V.ref z] = [x] ∧ H5 o = some (.lst us) ∧ us.length < sizeLine ∧ ((∃ y5 y6 : Option V, [some (V.ref a), some (.ref e), some (.int k), some (.ref q), some (.ref D), some (.ref tt), some (.ref u)] = [some (V.ref a), some (.ref e), some (.int k), some (.ref q), some (.ref D), y5, y6]) ∧ Same H (L2.upd H5 o (.lst (us ++ [x]))) ∧ ∃ zs, (L2.upd H5 o (.lst (us ++ [x]))) D = some (.lst zs) ∧ Frs K (L2.upd H5 o (.lst (us ++ [x]))) zs (((behT ts es k d).take (i + 1)).map U)) := by
          intro H5 z r s5 hz5 er
          have hD5 := s5 _ _ hD2
          refine ⟨D, zs, .ref z, rfl, rfl, hD5, by omega, ⟨_, _, rfl⟩, HD.same_put (sm2.trans s5) nD, zs ++ [.ref z], upd_same, ?_⟩
          rw [bt, er, List.map_append]
          exact frs_snoc (seqT_upd hD5 hz5) (Frs.updL hD5 (hz2.mono s5))
        have ei := inV_ints (k : Int) c
        rw [ei]
        cases hc : c.contains (k : Int) with
        | true =>
          refine iteT ⟨_, rfl, _, rfl, u, q, U b, U d, rfl, seqT sm2 hu, seqT sm2 hq, U_low _, U_low _, (U_bt (n := 60) hbm (by decide)).mono (by decide), (U_bt (n := 60) hd (by decide)).mono (by decide), fun H5 z s5 nz hz5 => ?_⟩
          rw [add_U] at hz5
          exact fill H5 z (b + d) s5 (.inl (.inl hz5)) (if_pos hc)
        | false =>
          refine iteF ⟨_, rfl, ?_⟩
          exact fill H4 u b (Same.refl _) (seqT sm2 hu) (if_neg (by rw [hc]; exact Bool.false_ne_true))
      · rintro σ H2 ⟨y, sm, zs, hD, hz⟩
        have lb : (behT ts es (k : Int) d).length = ts.length := by unfold behT; rw [List.length_map, List.length_zip]; omega
        rw [List.take_of_length_le (by omega)] at hz
        exact ⟨y, sm, zs, hD, hz⟩
    · rintro σ H2 ⟨⟨y5, y6, rfl⟩, sm, zs, hD, hz⟩
      refine ⟨_, rfl, D, zs, rfl, .inl (.inl (.inl hD)), fun H3 u s3 hu => fin H3 u (sm.trans s3) ⟨zs, hu, hz.mono s3⟩⟩
theorem ok_course_of {f C zz : Addr} {fd : FuncData} (F : Fun K "course_of" "course_of" s_course_of f fd) (T : TabC K C) (m_ZERO : mg "ZERO" = some (.ref zz)) (hz : ∀ H, SqT K H zz (pV (0, 1))) (C_totals_behind : Cl P w K mg base 2 "totals_behind" (spTotBeh K C)) (C_error_of_line : Cl P w K mg base 3 "error_of_line" (spErrLine K)) (z_tuple : mg "tuple" = none) : FnOk P w K mg base CX0 4 f fd ["table", "day"] (spCourse K C) := by
  refine F.ok sc_course_of (fun vs H Q E h => ?_) (fun cdv A outer s H vs Q E hr h => ?_)
  · obtain ⟨_, _, _, _, _, rfl, _⟩ := h
    rfl
  · obtain ⟨a, d, ks, ts, rs, rfl, hTab, ok, ⟨xs, hD, hL, ho, hl⟩, fin⟩ := h
    refine ⟨_, (pss_cons (ps_set (i := 2) sc_course_of.nd rfl (.inl rfl) (pe_callTy call_tupE (by rfl) z_tuple (by decide +kernel) (pa_cons (pe_lc (own := [("_", 7)]) (by rfl) sc_course_of.nd (pi_tup (pe_fld (pv 0) (by rfl))) (blkOk_by (own := [("_", 7)]) (N := N_course_of) (sc := defScope s_course_of) (by decide +kernel)) (fun _ _ _ _ _ => (pg_name (i := 7) sc_course_of.nd rfl (.inl rfl))) (fun _ _ _ _ _ => pts_nil) (fun _ _ _ _ _ => (pe_glob (v := .ref zz) rfl m_ZERO rfl))) pa_nil)))
    (pss_cons (ps_set (i := 3) sc_course_of.nd rfl (.inl rfl) (pe_lst (pa_cons (pv 2) pa_nil)))
    (pss_cut (ps_for PassesOwn.never rfl (pi_tup (pv 1)) (pg_tup rfl (pgs_cons (pg_name (i := 4) sc_course_of.nd rfl (.inl rfl)) (pgs_cons (pg_name (i := 5) sc_course_of.nd rfl (.inl rfl)) (pgs_cons (pg_name (i := 6) sc_course_of.nd rfl (.inl rfl)) pgs_nil))))
      (pss_cons (ps_set (i := 2) sc_course_of.nd rfl (.inl rfl) (pe_cl C_totals_behind hr (by decide) rfl (pa_cons (pv 0) (pa_cons (pv 2) (pa_cons (pv 4) (pa_cons (pe_cl C_error_of_line hr (by decide) rfl (pa_cons (pv 5) (pa_cons (pv 6) pa_nil))) pa_nil))))))
      (pss_one (ps_expr (pe_bm PySem.F.plainAttrs_list PySem.F.slot_list_append PySem.F.type_list_append mt_append (pv 3) (pa_cons (pv 2) pa_nil))))))
    (pss_one (ps_ret (pe_callTy call_tupE (by rfl) z_tuple (by decide +kernel) (pa_cons (pv 3) pa_nil))))))), ?_⟩
    have big : sizeLine = 16777216 := by decide
    have lt := ok.len
    have lk := ok.kinds.2.1
    have lx := hL.len
    have hTab0 := hTab
    obtain ⟨dx, kk, t, ys, hO, hK, hS, hT⟩ := hTab
    have ly := hT.len
    refine ⟨_, rfl, a, C, dx, _, .ref t, rfl, hO, T.c, T.nt, rfl, t, rfl, ⟨_, hS⟩, fun D nD => ?_⟩
    refine lc_it (walk_tup (K := K) (a := t) (xs := ys)) (fun i H' => Same H H' ∧ H' D = some (.lst (List.replicate i (V.ref zz)))) ⟨same_upd nD, upd_same⟩ (fun i H' _ h => seqT h.1 hS) ?_ ?_
    · rintro i v H1 H2 hi ⟨sm, hD⟩ ⟨e2, ex⟩
      subst e2
      refine ⟨rfl, _, hD, ?_, HD.same_put sm nD, ?_⟩
      · rw [List.length_replicate]
        omega
      · rw [upd_same, List.replicate_succ']
    · rintro H1 ⟨sm1, hD1⟩
      refine ⟨D, _, rfl, .inl (.inl (.inl hD1)), fun H2 u s2 hu => ?_⟩
      have s12 := sm1.trans s2
      have hE0 : EU K H2 u (totsU ts (errU ks.length (rs.take 0))) := by
        refine ⟨_, hu, ?_⟩
        have e : totsU ts (errU ks.length (rs.take 0)) = List.replicate ts.length 0 := tots_zero ks.length ts
        rw [e, ly]
        have : ∀ n : Nat, Frs K H2 (List.replicate n (V.ref zz)) ((List.replicate n (0 : Int)).map U) := by
          intro n
          induction n with
          | zero => exact trivial
          | succ n ih => exact ⟨⟨zz, rfl, by rw [U_zero]; exact hz H2⟩, ih⟩
        exact this _
      clear hD1 hu
      refine ⟨_, rfl, by show 1 ≤ sizeLine; decide, fun L nL => ?_⟩
      have sL := same_upd (o := .lst [.ref u]) nL
      have kL := upd_same (H := H2) (a := L) (o := .lst [V.ref u])
      have nL0 := s12.free nL
      generalize L2.upd H2 L (.lst [.ref u]) = H3 at sL kL ⊢
      have s13 := s12.trans sL
      have hE1 := hE0.mono sL
      refine ⟨fun σ H' => (∃ y2 y4 y5 y6 y7 : Option V, σ = [some (.ref a), some (.ref d), y2, some (.ref L), y4, y5, y6, y7]) ∧ Same H H' ∧ ∃ us, H' L = some (.lst us) ∧ EUs K H' us (courseU ks.length ts rs), ?_, ?_⟩
      · refine ⟨_, rfl, d, rfl, ⟨_, seqT s13 hD⟩, ?_⟩
        refine for_it (walk_tup (K := K) (a := d) (xs := xs)) (fun i σ H' => (∃ (u : Addr) (y4 y5 y6 y7 : Option V), σ = [some (.ref a), some (.ref d), some (.ref u), some (.ref L), y4, y5, y6, y7] ∧ EU K H' u (totsU ts (errU ks.length (rs.take i)))) ∧ Same H H' ∧ ∃ us, H' L = some (.lst us) ∧ EUs K H' us (cou ks.length ts rs i)) ⟨⟨u, _, _, _, _, rfl, hE1⟩, s13, [.ref u], kL, ⟨⟨u, rfl, hE1⟩, trivial⟩⟩ (fun i σ H' _ h => seqT h.2.1 hD) ?_ ?_
        · rintro i x σ H4 H5 hi ⟨⟨u, y4, y5, y6, y7, rfl, hE⟩, sm, us, kL, hus⟩ ⟨rfl, ex⟩
          obtain ⟨r, er, t1, q, rfl, h1, h2⟩ := hL.get ex
          have hrm := ho r (List.mem_of_getElem? er)
          have ew := errU_at i ho (by omega)
          refine ⟨t1, _, rfl, seqT sm h1, rfl, _, _, rfl, _, _, rfl, _, _, rfl, rfl, ?_⟩
          refine ⟨_, rfl, _, rfl, _, rfl, _, rfl, _, rfl, q, _, _, rfl, seqT sm h2, hrm.amt, hrm.whole, fun H6 u6 s6 nu6 hu6 => ?_⟩
          refine ⟨a, u, u6, ks, ts, _, r.1, _, rfl, hTab0.mono (sm.trans s6), ok, hE.mono s6, tots_len ts _, fun x hx => ?_, .inl (.inl hu6), Nat.lt_trans hrm.near (by decide), fun H7 u7 s7 hu7 => ?_⟩
          · obtain ⟨c, hc, rfl⟩ := List.mem_map.mp hx
            have lc := lot_len (ok.lots c hc)
            have b := tot_lt ew.1 c
            have : c.length * (1000 * 2 ^ 45) ≤ 12 * (1000 * 2 ^ 45) := Nat.mul_le_mul_right _ (by omega)
            have : 12 * (1000 * 2 ^ 45) < 2 ^ 60 := by decide
            omega
          · have hk : r.1 < (errU ks.length (rs.take i)).length := by rw [ew.2]; exact hrm.kind
            rw [behT_eq hk ok.lots] at hu7
            have e7 : totsU ts (addAt (errU ks.length (rs.take i)) r.1 (lineU r.2.1 r.2.2)) = totsU ts (errU ks.length (rs.take (i + 1))) := by
              rw [errU_take er]
              rfl
            rw [e7] at hu7
            have s67 := s6.trans s7
            have kL7 := s67 _ _ kL
            have lus := hus.len
            have lcu : (cou ks.length ts rs i).length = i + 1 := by unfold cou; rw [List.length_map, List.length_range]
            refine ⟨_, rfl, .inl ⟨rfl, _, .inl (.inl kL7)⟩, _, rfl, L, us, _, rfl, rfl, kL7, by omega, ⟨_, _, _, _, _, rfl, hu7.updL kL7⟩, HD.same_put (sm.trans s67) nL0, us ++ [.ref u7], upd_same, ?_⟩
            rw [cou_succ]
            exact EUs.updL kL7 (EUs.snoc hu7 (hus.mono s67))
        · rintro σ H4 ⟨⟨u, y4, y5, y6, y7, rfl, _⟩, sm, us, kL, hus⟩
          rw [lx] at hus
          exact ⟨⟨_, _, _, _, _, rfl⟩, sm, us, kL, hus⟩
      · rintro σ H4 ⟨⟨y2, y4, y5, y6, y7, rfl⟩, sm, us, kL, hus⟩
        exact ⟨_, rfl, L, us, rfl, .inl (.inl (.inl kL)), fun H5 u s5 hu => fin H5 u us (sm.trans s5) hu (hus.mono s5)⟩
theorem ok_first_off {f C : Addr} {fd : FuncData} (F : Fun K "first_off" "first_off" s_first_off f fd) (C_course_of : Cl P w K mg base 4 "course_of" (spCourse K C)) (C_are_small : Cl P w K mg base 2 "are_small" (spSmalls K)) (z_enumerate : mg "enumerate" = none) : FnOk P w K mg base CX0 5 f fd ["table", "day"] (spFirst K C) := by
  refine F.ok sc_first_off (fun vs H Q E h => ?_) (fun cdv A outer s H vs Q E hr h => ?_)
  · obtain ⟨_, _, _, _, _, rfl, _⟩ := h
    rfl
  · obtain ⟨a, d, ks, ts, rs, rfl, hTab, ok, hD, fin⟩ := h
    refine ⟨_, (pss_cut (ps_for PassesOwn.never rfl (pi_enumT (by rfl) z_enumerate (pa_cons (pe_slice sl_tupM (pe_cl C_course_of hr (by decide) rfl (pa_cons (pv 0) (pa_cons (pv 1) pa_nil))) (po_some pe_int) po_none) pa_nil)) (pg_tup rfl (pgs_cons (pg_name (i := 2) sc_first_off.nd rfl (.inl rfl)) (pgs_cons (pg_name (i := 3) sc_first_off.nd rfl (.inl rfl)) pgs_nil)))
      (pss_one (ps_if (pt_not (pt_val (pe_cl C_are_small hr (by decide) rfl (pa_cons (pv 3) pa_nil))))
        (pss_one (ps_ret (pv 2)))
        pss_nil)))
    (pss_one (ps_ret pe_non))), ?_⟩
    have lt := ok.len
    have hl := hD
    obtain ⟨_, _, _, _, hl⟩ := hl
    refine ⟨fun σ H' => Same H H' ∧ firstU ((courseU ks.length ts rs).drop 1) 0 = none, ?_, ?_⟩
    · refine ⟨_, rfl, _, rfl, a, d, ks, ts, rs, rfl, hTab, ok, hD, fun H1 u ys s1 hu hy => ?_⟩
      refine ⟨1, rfl, u, ys, rfl, hu, fun c H2 s2 g2 => ?_⟩
      rw [cut1] at g2
      have hy1 := (hy.mono s2).drop1
      have lc := course_len ks.length ts rs
      have each : ∀ e ∈ (courseU ks.length ts rs).drop 1, e.length ≤ 1000 := fun e he => by
        obtain ⟨i, _, rfl⟩ := List.mem_map.mp (List.mem_of_mem_drop he)
        rw [tots_len]
        omega
      have ld : ((courseU ks.length ts rs).drop 1).length = rs.length := by rw [List.length_drop, lc]; omega
      generalize (courseU ks.length ts rs).drop 1 = cs at hy1 fin each ld ⊢
      generalize ys.drop 1 = zs at g2 hy1
      have lz := hy1.len
      have s12 := s1.trans s2
      refine ⟨c, zs, rfl, g2, ?_⟩
      refine for_it (walk_enumT (K := K) (a := c) (xs := zs)) (fun i σ H' => (∃ y2 y3 : Option V, σ = [some (.ref a), some (.ref d), y2, y3]) ∧ Same H2 H' ∧ ∀ j < i, ∃ e, cs[j]? = some e ∧ smallU e = true) ⟨⟨_, _, rfl⟩, Same.refl _, fun j hj => by omega⟩ (fun i σ H' _ h => seqT h.2.1 g2) ?_ ?_
      · rintro i v σ H3 H4 hi ⟨⟨y2, y3, rfl⟩, sm, all⟩ ⟨W, x, rfl, nW, rfl, ex⟩
        obtain ⟨u2, es, rfl, ees, hes⟩ := hy1.get ex
        have sW := same_upd (o := .tup [.int (i : Nat), .ref u2]) nW
        have sm2 := sm.trans sW
        refine ⟨W, _, rfl, .inl (.inl upd_same), rfl, _, _, rfl, _, _, rfl, rfl, ?_⟩
        refine ⟨_, rfl, u2, es, rfl, hes.mono sm2, each es (List.mem_of_getElem? ees), fun H5 s5 => ?_⟩
        cases hs : smallU es with
        | true =>
          have hs2 : (es.all fun e => decide (-DL < e ∧ e < DL)) = true := hs
          rw [hs2]
          refine ⟨_, rfl, iteF ?_⟩
          refine ⟨⟨_, _, rfl⟩, sm2.trans s5, fun j hj => ?_⟩
          rcases Nat.lt_or_eq_of_le (Nat.le_of_lt_succ hj) with z | z
          · exact all j z
          · subst z
            exact ⟨es, ees, hs⟩
        | false =>
          have hs2 : (es.all fun e => decide (-DL < e ∧ e < DL)) = false := hs
          rw [hs2]
          refine ⟨_, rfl, iteT ⟨_, rfl, ?_⟩⟩
          have q := fin H5 (s12.trans (sm2.trans s5))
          have hlt : i < cs.length := by omega
          rw [first_at cs i 0 all (by omega)] at q
          obtain ⟨hq1, hq2⟩ := List.getElem?_eq_some_iff.mp ees
          rw [List.drop_eq_getElem_cons hlt, hq2] at q
          have e : firstU (es :: cs.drop (i + 1)) (0 + i) = some i := by
            rw [firstU, hs, Nat.zero_add]
            rfl
          rw [e] at q
          exact q
      · rintro σ H3 ⟨⟨y2, y3, rfl⟩, sm, all⟩
        refine ⟨s12.trans sm, ?_⟩
        rw [lz] at all
        rw [first_at cs cs.length 0 all (Nat.le_refl _), List.drop_length]
        rfl
    · rintro σ H2 ⟨sm, e⟩
      have q := fin H2 sm
      rw [e] at q
      exact q
end
end K09
namespace CK
open PySem PySem.Spec PyProof.Rows L2 VG FR HD M9
/-- what `raise R(v)` gives, in one word -/
theorem raisedV {K : PySem.W.Frag} {R : Addr} {fld : Str} {v : V} {σ : L2.St} {H : Hp} {E : XK} {ta : TA} (hta : ∀ Rr : List V → Hp → Prop, Rr [v] H → ta σ H Rr) (h : ∀ H' x, Same H H' → H x = none → H' x = some (.xd [(fld, v)]) → E (.ref R) (some x) H') :
    tMkO R (spInitW K R fld) [] ta σ H fun cls d H' => E cls d H' := by
  refine hta _ ⟨by show 1 ≤ 1000; decide, fun x nx => ?_⟩
  refine ⟨x, _, rfl, upd_same, fun dx n ne => ⟨rfl, dx, [(fld, v)], upd_same, ?_, ?_, ?_⟩⟩
  · rw [upd_ne ne, upd_same]
  · rw [upd_ne ne] at n
    exact n
  · rw [upd_ne ne] at n
    refine h _ dx (fun y o hy => ?_) n upd_same
    have hyd : y ≠ dx := ne_of_none hy n
    have hyx : y ≠ x := ne_of_none hy nx
    rw [upd_ne hyd, del_ne hyx, upd_ne hyx, upd_ne hyd, upd_ne hyx]
    exact hy
theorem Ov.intAt {K : PySem.W.Frag} {H : Hp} {v : V} {d : PyData} {a : Int} (h : Ov K H v d) (e : intO d = some a) : v = .int a := by
  cases h with
  | int i => rw [Option.some.inj e]
  | _ => cases e
/-- an amount: a fraction, neither top nor bottom above a million -/
def amtD : PyData → Bool
  | .tuple [x, y] => match intO x, intO y with
    | some a, some b => okFr (some a) (some b) && (decide (a.natAbs ≤ 1000000) && decide (b ≤ 1000000))
    | _, _ => false
  | _ => false
def pairD : PyData → Q2
  | .tuple [x, y] => ((intO x).getD 0, (intO y).getD 0)
  | _ => (0, 1)
theorem amt_tup {d : PyData} (e : amtD d = true) : ∃ x y a b, d = .tuple [x, y] ∧ intO x = some a ∧ intO y = some b ∧ okFr (some a) (some b) = true ∧ a.natAbs ≤ 1000000 ∧ b ≤ 1000000 := by
  unfold amtD at e
  split at e
  · rename_i x y
    split at e
    · rename_i a b ea eb
      rw [Bool.and_eq_true, Bool.and_eq_true] at e
      exact ⟨x, y, a, b, rfl, ea, eb, e.1, of_decide_eq_true e.2.1, of_decide_eq_true e.2.2⟩
    · cases e
  · cases e
theorem amt_len {ds : List PyData} (h : ds.length ≠ 2) : amtD (.tuple ds) = false := by
  cases q : amtD (.tuple ds) with
  | false => rfl
  | true =>
    obtain ⟨x, y, a, b, e, _⟩ := amt_tup q
    injection e with e
    rw [e] at h
    exact absurd rfl h
theorem amt_ints {x y : PyData} {a b : Int} (ex : intO x = some a) (ey : intO y = some b) : amtD (.tuple [x, y]) = (okFr (some a) (some b) && (decide (a.natAbs ≤ 1000000) && decide (b ≤ 1000000))) := by
  show (match intO x, intO y with
    | some a, some b => okFr (some a) (some b) && (decide (a.natAbs ≤ 1000000) && decide (b ≤ 1000000))
    | _, _ => false) = _
  rw [ex, ey]
theorem amt_not {x y : PyData} (h : okFr (intO x) (intO y) = false) : amtD (.tuple [x, y]) = false := by
  cases q : amtD (.tuple [x, y]) with
  | false => rfl
  | true =>
    obtain ⟨x2, y2, a, b, e, ex, ey, ok, _⟩ := amt_tup q
    injection e with e
    injection e with e1 e
    injection e with e2 e
    subst e1
    subst e2
    rw [ex, ey, ok] at h
    cases h
theorem okFr_ints {o1 o2 : Option Int} (h : okFr o1 o2 = true) : ∃ a b, o1 = some a ∧ o2 = some b := by
  cases o1 with
  | none => cases h
  | some a =>
    cases o2 with
    | none => cases h
    | some b => exact ⟨a, b, rfl, rfl⟩
theorem okFr_low {a b : Int} (h : okFr (some a) (some b) = true) : M2.Low a b := by
  unfold okFr at h
  rw [Bool.and_eq_true] at h
  exact ⟨of_decide_eq_true h.1, of_decide_eq_true h.2⟩
theorem amt_at {K : PySem.W.Frag} {H : Hp} {v : V} {d : PyData} (h : Ov K H v d) (e : amtD d = true) : ∃ s, v = .ref s ∧ SqT K H s (pV (pairD d)) ∧ M2.Low (pairD d).1 (pairD d).2 ∧ (pairD d).1.natAbs ≤ 1000000 ∧ (pairD d).2 ≤ 1000000 := by
  obtain ⟨x, y, a, b, rfl, ex, ey, ok, h1, h2⟩ := amt_tup e
  obtain ⟨p, xs, rfl, hS, hA⟩ := h.isT
  cases hA with
  | cons hx r =>
    cases r with
    | cons hy r =>
      cases r
      have ep : pairD (.tuple [x, y]) = (a, b) := by
        show ((intO x).getD 0, (intO y).getD 0) = (a, b)
        rw [ex, ey]
        rfl
      rw [hx.intAt ex, hy.intAt ey] at hS
      rw [ep]
      exact ⟨p, rfl, hS, okFr_low ok, h1, h2⟩
def choQ (p : Q2) : List Int := if p.1 / p.2 = -(-p.1 / p.2) then [p.1 / p.2] else [p.1 / p.2, -(-p.1 / p.2)]
theorem cho_U (a : Int) : choQ (U a) = choU a := by
  unfold choQ choU
  have e : -(U a).1 / (U a).2 = -a / DL := by
    have := U_floor (-a)
    rw [← neg_U] at this
    exact this
  rw [U_floor, e]
/-- a rounded line of a table of m kinds -/
def lineD (m : Nat) : PyData → Bool
  | .tuple [k, p, n] => belowO (m : Int) (intO k) && amtD p && (match intO n with
    | some n => (choQ (pairD p)).contains n
    | none => false)
  | _ => false
def lineFault (m : Nat) : PyData → Option Int
  | .tuple [k, p] => if belowO (m : Int) (intO k) = true then (if amtD p = true then none else some 1) else some 0
  | _ => some (-1)
def firstBad (m : Nat) : List PyData → Nat → Option Nat
  | [], _ => none
  | d :: ds, i => if lineD m d then firstBad m ds (i + 1) else some i
def dayFault (m : Nat) : PyData → Option Int
  | .tuple ds => if ds.length ≤ 400 then (firstBad m ds 0).map fun (i : Nat) => (i : Int) else some (-1)
  | _ => some (-1)
theorem bad_at (m : Nat) : ∀ (l : List PyData) (i n : Nat), (∀ j < i, ∃ e, l[j]? = some e ∧ lineD m e = true) → i ≤ l.length → firstBad m l n = firstBad m (l.drop i) (n + i)
  | l, 0, n, _, _ => by rw [List.drop_zero, Nat.add_zero]
  | [], i + 1, n, h, hl => by simp at hl
  | e :: l, i + 1, n, h, hl => by
    obtain ⟨e2, h2, h3⟩ := h 0 (by omega)
    have h2 : e = e2 := Option.some.inj h2
    subst h2
    have ih := bad_at m l i (n + 1) (fun j hj => h (j + 1) (by omega)) (by simpa using hl)
    rw [firstBad, if_pos h3, ih, List.drop_succ_cons, Nat.add_assoc, Nat.add_comm 1 i]
theorem tup3 {d : PyData} (h : tupD 3 d = true) : ∃ k p n, d = .tuple [k, p, n] := by
  cases d with
  | tuple ds =>
    have h : ds.length = 3 := of_decide_eq_true h
    match ds, h with
    | [k, p, n], _ => exact ⟨k, p, n, rfl⟩
  | _ => cases h
theorem tup2 {d : PyData} (h : tupD 2 d = true) : ∃ k p, d = .tuple [k, p] := by
  cases d with
  | tuple ds =>
    have h : ds.length = 2 := of_decide_eq_true h
    match ds, h with
    | [k, p], _ => exact ⟨k, p, rfl⟩
  | _ => cases h
theorem line_tup {m : Nat} {d : PyData} (h : tupD 3 d = false) : lineD m d = false := by
  unfold lineD
  split
  · cases h
  · rfl
theorem fault_tup {m : Nat} {d : PyData} (h : tupD 2 d = false) : lineFault m d = some (-1) := by
  unfold lineFault
  split
  · cases h
  · rfl
theorem line_at (m : Nat) (k p n : PyData) : lineD m (.tuple [k, p, n]) = (belowO (m : Int) (intO k) && amtD p && (match intO n with
    | some n => (choQ (pairD p)).contains n
    | none => false)) := rfl
theorem fault_at (m : Nat) (k p : PyData) : lineFault m (.tuple [k, p]) = if belowO (m : Int) (intO k) = true then (if amtD p = true then none else some 1) else some 0 := rfl
def spAmt (K : PySem.W.Frag) : Sp := fun vs H Q _ => ∃ (v : V) (d : PyData), vs = [v] ∧ Ov K H v d ∧ Q (.bl (amtD d)) H
def spCho (K : PySem.W.Frag) : Sp := fun vs H Q _ => ∃ (s : Addr) (p : Q2), vs = [.ref s] ∧ SqT K H s (pV p) ∧ 0 < p.2 ∧ Bt 3000 p ∧ ∀ H' u, Same H H' → H u = none → H' u = some (.tup ((choQ p).map V.int)) → Q (.ref u) H'
def spRounded (K : PySem.W.Frag) (C : Addr) : Sp := fun vs H Q _ => ∃ (a : Addr) (v : V) (d : PyData) (ks : List Str) (ts : List (List Int)), vs = [.ref a, v] ∧ Tab K C H a ks ts ∧ TabOk ks ts ∧ Ov K H v d ∧ ∀ H', Same H H' → Q (.bl (lineD ks.length d)) H'
def spChk (K : PySem.W.Frag) (C R : Addr) (fault : Nat → PyData → Option Int) : Sp := fun vs H Q E => ∃ (a : Addr) (v : V) (d : PyData) (ks : List Str) (ts : List (List Int)), vs = [.ref a, v] ∧ Tab K C H a ks ts ∧ TabOk ks ts ∧ Ov K H v d ∧
  (fault ks.length d = none → ∀ H', Same H H' → Q .non H') ∧
  ∀ i : Int, fault ks.length d = some i → ∀ H' x, Same H H' → H x = none → H' x = some (.xd [((("at" : String) : Str), .int i)]) → E (.ref R) (some x) H'
end CK
namespace K09
open PySem PySem.Spec PyProof.Rows L2 VG FR CK HD M9
abbrev s_is_amount : Stmt := topS 32
abbrev N_is_amount : List Str := ["value"]
theorem sc_is_amount : FnScope N_is_amount ["value"] (defScope s_is_amount) := ⟨rfl, rfl, rfl, by decide +kernel, rfl, by decide +kernel, by decide +kernel⟩
abbrev s_choices : Stmt := topS 34
abbrev N_choices : List Str := ["amount", "low", "high"]
theorem sc_choices : FnScope N_choices ["amount"] (defScope s_choices) := ⟨rfl, rfl, rfl, by decide +kernel, rfl, by decide +kernel, by decide +kernel⟩
abbrev s_is_rounded_line : Stmt := topS 35
abbrev N_is_rounded_line : List Str := ["table", "value", "kind", "amount", "whole"]
theorem sc_is_rounded_line : FnScope N_is_rounded_line ["table", "value"] (defScope s_is_rounded_line) := ⟨rfl, rfl, rfl, by decide +kernel, rfl, by decide +kernel, by decide +kernel⟩
abbrev s_check_line : Stmt := topS 33
abbrev N_check_line : List Str := ["table", "value"]
theorem sc_check_line : FnScope N_check_line ["table", "value"] (defScope s_check_line) := ⟨rfl, rfl, rfl, by decide +kernel, rfl, by decide +kernel, by decide +kernel⟩
abbrev s_check_day : Stmt := topS 36
abbrev N_check_day : List Str := ["table", "value", "at", "line"]
theorem sc_check_day : FnScope N_check_day ["table", "value"] (defScope s_check_day) := ⟨rfl, rfl, rfl, by decide +kernel, rfl, by decide +kernel, by decide +kernel⟩
section
variable {P : Program} {w : World} {K : PySem.W.Frag} {mg : Str → Option Value} {base : Heap}
theorem ok_is_amount {f : Addr} {fd : FuncData} {tk : Tok} (F : Fun K "is_amount" "is_amount" s_is_amount f fd) (C_is_fraction : Cl P w K mg base 2 "is_fraction" (spIsFr K)) (m_MILLION : mg "MILLION" = some (.int 1000000 tk)) (z_abs : mg "abs" = none) : FnOk P w K mg base CX0 3 f fd ["value"] (spAmt K) := by
  refine F.ok sc_is_amount (fun vs H Q E h => ?_) (fun cdv A outer s H vs Q E hr h => ?_)
  · obtain ⟨_, _, rfl, _⟩ := h
    rfl
  · obtain ⟨v, d, rfl, hd, fin⟩ := h
    refine ⟨_, (pss_one (ps_ret (pe_and (pe_cl C_is_fraction hr (by decide) rfl (pa_cons (pv 0) pa_nil)) (pe_and (pe_cmpR op_le (pe_callB call_abs (by rfl) z_abs (by decide +kernel) (pa_cons (pe_ix ix_tup (pv 0) pe_int (fun _ _ => rfl)) pa_nil)) (pe_glob (v := .int 1000000) rfl m_MILLION ⟨_, rfl⟩) (nomark _)) (pe_one (pe_cmpR op_le (pe_ix ix_tup (pv 0) pe_int (fun _ _ => rfl)) (pe_glob (v := .int 1000000) rfl m_MILLION ⟨_, rfl⟩) (nomark _))))))), ?_⟩
    cases hT : isTupD d with
    | false =>
      obtain ⟨ty, t, k⟩ := hd.noTup hT
      have e : amtD d = false := by
        cases d with
        | tuple ds => cases hT
        | _ => rfl
      rw [e] at fin
      exact ⟨_, rfl, v, rfl, .inl ⟨ty, t, k, _, rfl, iteF fin⟩⟩
    | true =>
      cases d with
      | tuple ds =>
        obtain ⟨p, xs, rfl, hS, hA⟩ := hd.isT
        have lx := hA.len
        by_cases l2 : ds.length = 2
        · cases hA with
          | nil => cases l2
          | @cons x _ dx _ hx r =>
            cases r with
            | nil => cases l2
            | @cons y _ dy _ hy r =>
              cases r with
              | cons _ _ =>
                rw [List.length_cons, List.length_cons, List.length_cons] at l2
                omega
              | nil =>
                refine ⟨_, rfl, _, rfl, .inr (.inr ⟨p, x, y, intO dx, intO dy, rfl, hS, hx.part, hy.part, ?_⟩)⟩
                cases ho : okFr (intO dx) (intO dy) with
                | false =>
                  rw [amt_not ho] at fin
                  exact ⟨_, rfl, iteF fin⟩
                | true =>
                  obtain ⟨a, b, ex, ey⟩ := okFr_ints ho
                  rw [ex, ey] at ho
                  rw [amt_ints ex ey, ho, Bool.true_and] at fin
                  have e1 := hx.intAt ex
                  have e2 := hy.intAt ey
                  subst e1
                  subst e2
                  have ea : decide ((if a < 0 then -a else a) ≤ 1000000) = decide (a.natAbs ≤ 1000000) := by
                    rw [Bool.eq_iff_iff, decide_eq_true_iff, decide_eq_true_iff]
                    split <;> omega
                  refine ⟨_, rfl, iteT ⟨_, rfl, p, _, _, _, rfl, rfl, hS, at0 _ _, _, rfl, _, _, rfl, rfl, _, rfl, ?_⟩⟩
                  rw [ea]
                  generalize decide (a.natAbs ≤ 1000000) = u at fin
                  cases u with
                  | false => exact iteF fin
                  | true => exact iteT ⟨_, rfl, p, _, _, _, rfl, rfl, hS, at1 _ _, _, _, rfl, rfl, fin⟩
        · rw [amt_len l2] at fin
          exact ⟨_, rfl, _, rfl, .inr (.inl ⟨p, _, rfl, hS, by omega, _, rfl, iteF fin⟩)⟩
      | _ => cases hT
theorem ok_choices {f : Addr} {fd : FuncData} (F : Fun K "choices" "choices" s_choices f fd) (C_floor_of : Cl P w K mg base 1 "floor_of" (spFloor K)) (C_ceiling_of : Cl P w K mg base 1 "ceiling_of" (spCeil K)) : FnOk P w K mg base CX0 2 f fd ["amount"] (spCho K) := by
  refine F.ok sc_choices (fun vs H Q E h => ?_) (fun cdv A outer s H vs Q E hr h => ?_)
  · obtain ⟨_, _, rfl, _⟩ := h
    rfl
  · obtain ⟨t, p, rfl, hS, hp, hb, fin⟩ := h
    refine ⟨_, (pss_cons (ps_par (i := 1) (j := 2) (by rfl) sc_choices.nd rfl rfl (by decide) rfl rfl (pa_cons (pe_cl C_floor_of hr (by decide) rfl (pa_cons (pv 0) pa_nil)) (pa_cons (pe_cl C_ceiling_of hr (by decide) rfl (pa_cons (pv 0) pa_nil)) pa_nil)) (by rfl))
    (pss_one (ps_ret (pe_ifExp (pt_cmpR op_eq (pv 1) (pv 2) (nomark _)) (pe_tup (pa_cons (pv 1) pa_nil)) (pe_tup (pa_cons (pv 1) (pa_cons (pv 2) pa_nil))))))), ?_⟩
    unfold choQ at fin
    refine ⟨_, rfl, t, p, rfl, hS, hp, hb, _, rfl, t, p, rfl, hS, hp, hb, ?_⟩
    refine ⟨_, _, rfl, _, rfl, _, rfl, rfl, _, rfl, ?_⟩
    by_cases h : p.1 / p.2 = -(-p.1 / p.2)
    · rw [if_pos h] at fin
      rw [decide_eq_true (by rw [← h])]
      refine iteT ⟨_, rfl, by show 1 ≤ sizeLine; decide, fun u nu => ?_⟩
      exact fin _ u (same_upd nu) nu upd_same
    · rw [if_neg h] at fin
      rw [decide_eq_false (fun z => h (V.int.inj z))]
      refine iteF ⟨_, rfl, _, rfl, by show 2 ≤ sizeLine; decide, fun u nu => ?_⟩
      exact fin _ u (same_upd nu) nu upd_same
theorem ok_is_rounded_line {f C : Addr} {fd : FuncData} (F : Fun K "is_rounded_line" "is_rounded_line" s_is_rounded_line f fd) (T : TabC K C) (C_is_tuple_of : Cl P w K mg base 1 "is_tuple_of" (spTupA K)) (C_is_number_below : Cl P w K mg base 3 "is_number_below" (spBelowA K)) (C_is_amount : Cl P w K mg base 3 "is_amount" (spAmt K)) (C_is_an_integer : Cl P w K mg base 1 "is_an_integer" (spInt K)) (C_choices : Cl P w K mg base 2 "choices" (spCho K)) (z_len : mg "len" = none) : FnOk P w K mg base CX0 4 f fd ["table", "value"] (spRounded K C) := by
  refine F.ok sc_is_rounded_line (fun vs H Q E h => ?_) (fun cdv A outer s H vs Q E hr h => ?_)
  · obtain ⟨_, _, _, _, _, rfl, _⟩ := h
    rfl
  · obtain ⟨a, v, d, ks, ts, rfl, hTab, ok, hd, fin⟩ := h
    refine ⟨_, (pss_cons (ps_if (pt_not (pt_val (pe_cl C_is_tuple_of hr (by decide) rfl (pa_cons (pv 1) (pa_cons pe_int pa_nil)))))
      (pss_one (ps_ret pe_bl))
      pss_nil)
    (pss_cons (ps_asg (pv 1) (pg_tup rfl (pgs_cons (pg_name (i := 2) sc_is_rounded_line.nd rfl (.inl rfl)) (pgs_cons (pg_name (i := 3) sc_is_rounded_line.nd rfl (.inl rfl)) (pgs_cons (pg_name (i := 4) sc_is_rounded_line.nd rfl (.inl rfl)) pgs_nil)))))
    (pss_cons (ps_if (PW.pt (pw_or (pt_not (pt_val (pe_cl C_is_number_below hr (by decide) rfl (pa_cons (pv 2) (pa_cons (pe_callB call_len_seq (by rfl) z_len (by decide +kernel) (pa_cons (pe_fld (pv 0) (by rfl)) pa_nil)) pa_nil))))) (pw_or1 (pt_not (pt_val (pe_cl C_is_amount hr (by decide) rfl (pa_cons (pv 3) pa_nil)))))))
      (pss_one (ps_ret pe_bl))
      pss_nil)
    (pss_one (ps_ret (pe_and (pe_cl C_is_an_integer hr (by decide) rfl (pa_cons (pv 4) pa_nil)) (pe_one (pe_cmpR op_in_seq (pv 4) (pe_cl C_choices hr (by decide) rfl (pa_cons (pv 3) pa_nil)) rfl)))))))), ?_⟩
    have q0 := fin H (Same.refl _)
    cases h3 : tupD 3 d with
    | false =>
      rw [line_tup h3] at q0
      refine ⟨_, rfl, v, d, 3, rfl, hd, ?_⟩
      rw [h3]
      exact ⟨_, rfl, iteT q0⟩
    | true =>
      obtain ⟨dk, dp, dn, rfl⟩ := tup3 h3
      obtain ⟨t, xs, rfl, hS, hA⟩ := hd.isT
      cases hA with
      | @cons k _ _ _ hk r =>
      cases r with
      | @cons p _ _ _ hp r =>
      cases r with
      | @cons n _ _ _ hn r =>
      cases r with
      | nil =>
      obtain ⟨dx, kk, tt, ys, hO, hK, hS2, hT⟩ := hTab
      refine ⟨_, rfl, _, _, 3, rfl, hd, ?_⟩
      rw [h3]
      refine ⟨_, rfl, iteF ?_⟩
      refine ⟨_, rfl, t, _, rfl, hS, rfl, _, _, rfl, _, _, rfl, _, _, rfl, rfl, ?_⟩
      rw [line_at] at q0
      refine ⟨_, rfl, _, rfl, a, C, dx, _, .ref kk, rfl, hO, T.c, T.nk, rfl, kk, ks.map V.str, rfl, .inr hK, ?_⟩
      rw [List.length_map]
      refine ⟨k, intO dk, (ks.length : Int), rfl, hk.part, _, rfl, ?_⟩
      have fin2 : ∀ H', Same H H' → Q (.bl (belowO (ks.length : Int) (intO dk) && amtD dp && (match intO dn with
        | some n => (choQ (pairD dp)).contains n
        | none => false))) H' := fin
      cases hb : belowO (ks.length : Int) (intO dk) with
      | false =>
        rw [hb, Bool.false_and, Bool.false_and] at q0
        exact iteT q0
      | true =>
        rw [hb, Bool.true_and] at q0
        rw [hb, Bool.true_and] at fin2
        refine iteF ⟨_, rfl, p, dp, rfl, hp, _, rfl, ?_⟩
        cases ha : amtD dp with
        | false =>
          rw [ha, Bool.false_and] at q0
          exact iteT q0
        | true =>
          rw [ha, Bool.true_and] at q0
          rw [ha, Bool.true_and] at fin2
          refine iteF ⟨_, rfl, n, intO dn, rfl, hn.part, ?_⟩
          cases hi : intO dn with
          | none =>
            rw [hi] at q0
            exact ⟨_, rfl, iteF q0⟩
          | some i =>
            rw [hi] at fin2
            have en := hn.intAt hi
            subst en
            obtain ⟨s1, rfl, hs1, low, b1, b2⟩ := amt_at hp ha
            have bt : Bt 3000 (pairD dp) := ⟨Nat.lt_of_le_of_lt b1 (by decide), Nat.lt_of_le_of_lt (show (pairD dp).2.natAbs ≤ 1000000 by have := low.1; omega) (by decide)⟩
            refine ⟨_, rfl, iteT ⟨_, rfl, _, rfl, s1, pairD dp, rfl, hs1, low.1, bt, fun H' u s' nu hu => ?_⟩⟩
            refine ⟨u, _, rfl, .inr (.inl (.inl hu)), rfl, flat_ints _, ?_⟩
            have q2 := fin2 H' s'
            have e := inV_ints i (choQ (pairD dp))
            have q3 : Q (.bl ((choQ (pairD dp)).contains i)) H' := q2
            rw [← e] at q3
            exact q3
theorem ok_check_line {f fi C IL : Addr} {fd fdi : FuncData} (F : Fun K "check_line" "check_line" s_check_line f fd) (T : TabC K C) (C_is_tuple_of : Cl P w K mg base 1 "is_tuple_of" (spTupA K)) (C_is_number_below : Cl P w K mg base 3 "is_number_below" (spBelowA K)) (C_is_amount : Cl P w K mg base 3 "is_amount" (spAmt K))
    (e_InvalidLine : ErrC K mg "InvalidLine" IL fi) (i_InvalidLine : FnOk P w K mg base CX0 1 fi fdi ["self", "at"] (spInitW K IL "at")) (b_InvalidLine : Binds K fdi ["self", "at"] []) (z_len : mg "len" = none) : FnOk P w K mg base (L2.CX P w) 4 f fd ["table", "value"] (spChk K C IL lineFault) := by
  refine F.okX sc_check_line (fun vs H Q E h => ?_) (fun cdv A outer s H vs Q E hr h => ?_)
  · obtain ⟨_, _, _, _, _, rfl, _⟩ := h
    rfl
  · obtain ⟨a, v, d, ks, ts, rfl, hTab, ok, hd, fin, err⟩ := h
    refine ⟨_, (pss_cons (ps_if (pt_not (pt_val (pe_cl C_is_tuple_of hr (by decide) rfl (pa_cons (pv 1) (pa_cons pe_int pa_nil)))))
      (pss_one (ps_raise rfl (takes_of rfl rfl rfl rfl) (pmk_oex e_InvalidLine.o e_InvalidLine.iC e_InvalidLine.tI i_InvalidLine (hr.mono (by decide)) b_InvalidLine .nil pass0 rfl e_InvalidLine.gC (pa_cons (pe_un un_neg pe_int) pa_nil))))
      pss_nil)
    (pss_cons (ps_if (pt_not (pt_val (pe_cl C_is_number_below hr (by decide) rfl (pa_cons (pe_ix ix_tup (pv 1) pe_int (fun _ _ => rfl)) (pa_cons (pe_callB call_len_seq (by rfl) z_len (by decide +kernel) (pa_cons (pe_fld (pv 0) (by rfl)) pa_nil)) pa_nil)))))
      (pss_one (ps_raise rfl (takes_of rfl rfl rfl rfl) (pmk_oex e_InvalidLine.o e_InvalidLine.iC e_InvalidLine.tI i_InvalidLine (hr.mono (by decide)) b_InvalidLine .nil pass0 rfl e_InvalidLine.gC (pa_cons pe_int pa_nil))))
      pss_nil)
    (pss_one (ps_if (pt_not (pt_val (pe_cl C_is_amount hr (by decide) rfl (pa_cons (pe_ix ix_tup (pv 1) pe_int (fun _ _ => rfl)) pa_nil))))
      (pss_one (ps_raise rfl (takes_of rfl rfl rfl rfl) (pmk_oex e_InvalidLine.o e_InvalidLine.iC e_InvalidLine.tI i_InvalidLine (hr.mono (by decide)) b_InvalidLine .nil pass0 rfl e_InvalidLine.gC (pa_cons pe_int pa_nil))))
      pss_nil)))), ?_⟩
    cases h2 : tupD 2 d with
    | false =>
      refine ⟨_, rfl, v, d, 2, rfl, hd, ?_⟩
      rw [h2]
      exact ⟨_, rfl, iteT (raisedV (v := .int (-1)) (fun Rr h => ⟨_, rfl, h⟩) (err (-1) (fault_tup h2)))⟩
    | true =>
      obtain ⟨dk, dp, rfl⟩ := tup2 h2
      obtain ⟨t, xs, rfl, hS, hA⟩ := hd.isT
      cases hA with
      | @cons k _ _ _ hk r =>
      cases r with
      | @cons p _ _ _ hp r =>
      cases r with
      | nil =>
      obtain ⟨dx, kk, tt, ys, hO, hK, hS2, hT⟩ := hTab
      rw [fault_at] at fin
      have err2 : ∀ i : Int, (if belowO (ks.length : Int) (intO dk) = true then (if amtD dp = true then none else some 1) else some 0) = some i → ∀ H' x, Same H H' → H x = none → H' x = some (.xd [((("at" : String) : Str), .int i)]) → E (.ref IL) (some x) H' := err
      refine ⟨_, rfl, _, _, 2, rfl, hd, ?_⟩
      rw [h2]
      refine ⟨_, rfl, iteF ?_⟩
      refine ⟨_, rfl, t, _, _, _, rfl, rfl, hS, at0 _ _, _, rfl, a, C, dx, _, .ref kk, rfl, hO, T.c, T.nk, rfl, kk, ks.map V.str, rfl, .inr hK, ?_⟩
      rw [List.length_map]
      refine ⟨k, intO dk, (ks.length : Int), rfl, hk.part, _, rfl, ?_⟩
      cases hb : belowO (ks.length : Int) (intO dk) with
      | false => exact iteT (raisedV (v := .int 0) (fun Rr h => h) (err2 0 (by rw [hb]; rfl)))
      | true =>
        refine iteF ⟨_, rfl, t, _, _, _, rfl, rfl, hS, at1 _ _, p, dp, rfl, hp, _, rfl, ?_⟩
        cases ha : amtD dp with
        | false => exact iteT (raisedV (v := .int 1) (fun Rr h => h) (err2 1 (by rw [hb, ha]; rfl)))
        | true => exact iteF (fin (by rw [hb, ha]; rfl) H (Same.refl _))
end
end K09
namespace CK
open PySem PySem.Spec PyProof.Rows L2 VG FR HD M9
theorem day_tup {m : Nat} {d : PyData} (h : isTupD d = false) : dayFault m d = some (-1) := by
  cases d with
  | tuple ds => cases h
  | _ => rfl
theorem day_long {m : Nat} {ds : List PyData} (h : 400 < ds.length) : dayFault m (.tuple ds) = some (-1) := if_neg (by omega)
theorem day_at {m : Nat} {ds : List PyData} (h : ds.length ≤ 400) : dayFault m (.tuple ds) = (firstBad m ds 0).map fun (i : Nat) => (i : Int) := if_pos h
end CK
namespace K09
open PySem PySem.Spec PyProof.Rows L2 VG FR CK HD M9
section
variable {P : Program} {w : World} {K : PySem.W.Frag} {mg : Str → Option Value} {base : Heap}
theorem ok_check_day {f fi C ID : Addr} {fd fdi : FuncData} {tk : Tok} (F : Fun K "check_day" "check_day" s_check_day f fd) (C_is_rounded_line : Cl P w K mg base 4 "is_rounded_line" (spRounded K C)) (m_MOST_LINES : mg "MOST_LINES" = some (.int 400 tk))
    (e_InvalidDay : ErrC K mg "InvalidDay" ID fi) (i_InvalidDay : FnOk P w K mg base CX0 1 fi fdi ["self", "at"] (spInitW K ID "at")) (b_InvalidDay : Binds K fdi ["self", "at"] []) (z_isinstance : mg "isinstance" = none) (z_tuple : mg "tuple" = none) (z_len : mg "len" = none) (z_enumerate : mg "enumerate" = none) : FnOk P w K mg base (L2.CX P w) 5 f fd ["table", "value"] (spChk K C ID dayFault) := by
  refine F.okX sc_check_day (fun vs H Q E h => ?_) (fun cdv A outer s H vs Q E hr h => ?_)
  · obtain ⟨_, _, _, _, _, rfl, _⟩ := h
    rfl
  · obtain ⟨a, v, d, ks, ts, rfl, hTab, ok, hd, fin, err⟩ := h
    refine ⟨_, (pss_cons (ps_if (PW.pt (pw_or (pt_not (pt_val (pe_callB call_isi (by rfl) z_isinstance (by decide +kernel) (pa_cons (pv 1) (pa_cons (pe_bltn (v := .ty "tuple") (by rfl) z_tuple (by decide +kernel) rfl) pa_nil))))) (pw_or1 (pt_cmpR op_gt (pe_callB call_len_seq (by rfl) z_len (by decide +kernel) (pa_cons (pv 1) pa_nil)) (pe_glob (v := .int 400) rfl m_MOST_LINES ⟨_, rfl⟩) (nomark _)))))
      (pss_one (ps_raise rfl (takes_of rfl rfl rfl rfl) (pmk_oex e_InvalidDay.o e_InvalidDay.iC e_InvalidDay.tI i_InvalidDay (hr.mono (by decide)) b_InvalidDay .nil pass0 rfl e_InvalidDay.gC (pa_cons (pe_un un_neg pe_int) pa_nil))))
      pss_nil)
    (pss_one (ps_for (passes_of rfl) rfl (pi_enumT (by rfl) z_enumerate (pa_cons (pv 1) pa_nil)) (pg_tup rfl (pgs_cons (pg_name (i := 2) sc_check_day.nd rfl (.inl rfl)) (pgs_cons (pg_name (i := 3) sc_check_day.nd rfl (.inl rfl)) pgs_nil)))
      (pss_one (ps_if (pt_not (pt_val (pe_cl C_is_rounded_line hr (by decide) rfl (pa_cons (pv 0) (pa_cons (pv 3) pa_nil)))))
        (pss_one (ps_raise rfl (takes_of rfl rfl rfl rfl) (pmk_oex e_InvalidDay.o e_InvalidDay.iC e_InvalidDay.tI i_InvalidDay (hr.mono (by decide)) b_InvalidDay .nil pass0 rfl e_InvalidDay.gC (pa_cons (pv 2) pa_nil))))
        pss_nil))))), ?_⟩
    cases hT : isTupD d with
    | false =>
      obtain ⟨ty, t, k⟩ := hd.noTup hT
      refine ⟨_, rfl, _, _, _, _, false, rfl, .ty "tuple", t, kit_ty k, false, rfl, iteT ?_⟩
      refine iteT ?_
      exact raisedV (v := .int (-1)) (fun Rr h => ⟨_, rfl, h⟩) (err (-1) (day_tup hT))
    | true =>
      cases d with
      | tuple ds =>
        obtain ⟨p, xs, rfl, hS, hA⟩ := hd.isT
        have lx := hA.len
        refine ⟨_, rfl, _, _, _, _, true, rfl, .ty "tuple", tyT hS, kit_ty (by decide +kernel), true, rfl, iteF ?_⟩
        refine ⟨_, rfl, p, _, rfl, .inr hS, _, _, rfl, rfl, _, rfl, ite2 (fun z => ?_) (fun z => ?_)⟩
        · have z2 : (xs.length : Int) > 400 := of_decide_eq_true z
          exact raisedV (v := .int (-1)) (fun Rr h => ⟨_, rfl, h⟩) (err (-1) (day_long (by omega)))
        · have z2 : ¬ (xs.length : Int) > 400 := fun q => z (decide_eq_true q)
          rw [day_at (by omega)] at fin
          have err2 : ∀ i : Int, (firstBad ks.length ds 0).map (fun (i : Nat) => (i : Int)) = some i → ∀ H' x, Same H H' → H x = none → H' x = some (.xd [((("at" : String) : Str), .int i)]) → E (.ref ID) (some x) H' := fun i hi => err i (by rw [day_at (by omega)]; exact hi)
          clear err
          refine ⟨_, rfl, p, xs, rfl, hS, ?_⟩
          refine for_it (walk_enumT (K := K) (a := p) (xs := xs)) (fun i σ H' => Same H H' ∧ (∃ y2 y3 : Option V, σ = [some (.ref a), some (.ref p), y2, y3]) ∧ ∀ j < i, ∃ e, ds[j]? = some e ∧ lineD ks.length e = true) ⟨Same.refl _, ⟨_, _, rfl⟩, fun j hj => by omega⟩ (fun i σ H' _ h => seqT h.1 hS) ?_ ?_
          · rintro i v σ H2 H3 hi ⟨sm, ⟨y2, y3, rfl⟩, all⟩ ⟨W, x, rfl, nW, rfl, ex⟩
            obtain ⟨dx, edx, hdx⟩ := hA.get ex
            have sW := same_upd (o := .tup [.int (i : Nat), x]) nW
            have sm2 := sm.trans sW
            refine ⟨W, _, rfl, .inl (.inl upd_same), rfl, _, _, rfl, _, _, rfl, rfl, ?_⟩
            refine ⟨_, rfl, _, rfl, a, x, dx, ks, ts, rfl, hTab.mono sm2, ok, hdx.mono sm2, fun H4 s4 => ?_⟩
            have sm4 := sm2.trans s4
            cases hb : lineD ks.length dx with
            | true =>
              refine ⟨_, rfl, iteF ⟨sm4, ⟨_, _, rfl⟩, fun j hj => ?_⟩⟩
              rcases Nat.lt_or_eq_of_le (Nat.le_of_lt_succ hj) with z | z
              · exact all j z
              · subst z
                exact ⟨dx, edx, hb⟩
            | false =>
              have hlt : i < ds.length := by omega
              have e : firstBad ks.length ds 0 = some i := by
                rw [bad_at ks.length ds i 0 all (by omega), List.drop_eq_getElem_cons hlt]
                obtain ⟨_, hq⟩ := List.getElem?_eq_some_iff.mp edx
                rw [hq, firstBad, hb, Nat.zero_add]
                rfl
              refine ⟨_, rfl, iteT (raisedV (v := .int (i : Int)) (fun Rr h => ⟨_, rfl, h⟩) fun H' x' s5 nx hx => err2 (i : Int) (by rw [e]; rfl) H' x' (sm4.trans s5) (sm4.free nx) hx)⟩
          · rintro σ H2 ⟨sm, ⟨y2, y3, rfl⟩, all⟩
            rw [lx] at all
            refine fin ?_ H2 sm
            rw [bad_at ks.length ds ds.length 0 all (Nat.le_refl _), List.drop_length]
            rfl
      | _ => cases hT
end
end K09
namespace CK
open PySem PySem.Spec PyProof.Rows L2 VG FR HD M9
def rowD : PyData → Line
  | .tuple [k, p, n] => (((intO k).getD 0).toNat, pairD p, (intO n).getD 0)
  | _ => (0, (0, 1), 0)
def itemsD : PyData → List PyData
  | .tuple ds => ds
  | _ => []
theorem bad_none {m : Nat} : ∀ {l : List PyData} {n : Nat}, firstBad m l n = none → ∀ x ∈ l, lineD m x = true
  | [], _, _, x, h => by cases h
  | d :: ds, n, e, x, h => by
    rw [firstBad] at e
    split at e
    · rename_i hd
      rcases List.mem_cons.mp h with z | z
      · subst z
        exact hd
      · exact bad_none e x z
    · cases e
theorem day_ok {m : Nat} {d : PyData} (h : dayFault m d = none) : ∃ ds, d = .tuple ds ∧ ds.length ≤ 400 ∧ ∀ x ∈ ds, lineD m x = true := by
  cases d with
  | tuple ds =>
    unfold dayFault at h
    dsimp only at h
    split at h
    · rename_i hl
      refine ⟨ds, rfl, hl, ?_⟩
      cases e : firstBad m ds 0 with
      | none => exact bad_none e
      | some i => rw [e] at h; cases h
    · cases h
  | _ => cases h
theorem line_shape {m : Nat} {d : PyData} (h : lineD m d = true) : ∃ k p n i, d = .tuple [k, p, n] ∧ belowO (m : Int) (intO k) = true ∧ amtD p = true ∧ intO n = some i ∧ i ∈ choQ (pairD p) := by
  cases q : tupD 3 d with
  | false => rw [line_tup q] at h; cases h
  | true =>
    obtain ⟨k, p, n, rfl⟩ := tup3 q
    rw [line_at, Bool.and_eq_true, Bool.and_eq_true] at h
    cases e : intO n with
    | none => rw [e] at h; cases h.2
    | some i =>
      rw [e] at h
      exact ⟨k, p, n, i, rfl, h.1.1, h.1.2, e, List.contains_iff_mem.mp h.2⟩
theorem cho_whole {a : Int} {n : Int} (ha : a.natAbs ≤ 1000000 * DL.natAbs) (h : n ∈ choU a) : n.natAbs ≤ 1000001 := by
  have c := cho_near h
  have d := DL_pos
  have h1 : (n * DL).natAbs ≤ a.natAbs + DL.natAbs := by
    have := Int.natAbs_add_le (n * DL - a) a
    rw [Int.sub_add_cancel] at this
    omega
  rw [Int.natAbs_mul] at h1
  have h2 : n.natAbs * DL.natAbs ≤ 1000001 * DL.natAbs := by omega
  exact Nat.le_of_mul_le_mul_right h2 (by omega)
theorem un_le {p : Q2} (low : M2.Low p.1 p.2) (t : p.1.natAbs ≤ 1000000) : (un p).natAbs ≤ 1000000 * DL.natAbs := by
  unfold un
  rw [Int.natAbs_mul]
  exact Nat.mul_le_mul t (M2.natAbs_div_le DL low.1)
theorem line_ok {m : Nat} {d : PyData} (h : lineD m d = true) (dv : (rowD d).2.1.2 ∣ DL) : LineOk m (rowD d) := by
  obtain ⟨k, p, n, i, rfl, hb, ha, hi, hc⟩ := line_shape h
  have dv : (pairD p).2 ∣ DL := dv
  obtain ⟨x, y, a, b, rfl, ex, ey, okf, h1, h2⟩ := amt_tup ha
  have ep : pairD (.tuple [x, y]) = (a, b) := by
    show ((intO x).getD 0, (intO y).getD 0) = (a, b)
    rw [ex, ey]
    rfl
  rw [ep] at dv hc
  have low := okFr_low okf
  have ao : AmtOk (a, b) := ⟨low, dv, h1⟩
  have hc2 : i ∈ choU (un (a, b)) := by
    rw [← cho_U, U_un low dv]
    exact hc
  have er : rowD (.tuple [k, .tuple [x, y], n]) = (((intO k).getD 0).toNat, (a, b), i) := by
    show (((intO k).getD 0).toNat, pairD (.tuple [x, y]), (intO n).getD 0) = _
    rw [ep, hi]
    rfl
  rw [er]
  refine ⟨?_, ao, cho_whole (un_le low h1) hc2, Nat.lt_of_lt_of_le (cho_near hc2) (by decide)⟩
  show ((intO k).getD 0).toNat < m
  cases ek : intO k with
  | none => rw [ek] at hb; cases hb
  | some j =>
    rw [ek] at hb
    have hb : decide (0 ≤ j ∧ j < (m : Int)) = true := hb
    have := of_decide_eq_true hb
    show j.toNat < m
    omega
theorem line_in {K : PySem.W.Frag} {H : Hp} {v : V} {m : Nat} {d : PyData} (h : Ov K H v d) (hl : lineD m d = true) : LineAt K H v (rowD d) := by
  obtain ⟨k, p, n, i, rfl, hb, ha, hi, _⟩ := line_shape hl
  obtain ⟨t, xs, rfl, hS, hA⟩ := h.isT
  cases hA with
  | cons hk r =>
  cases r with
  | cons hp r =>
  cases r with
  | cons hn r =>
  cases r
  cases ek : intO k with
  | none => rw [ek] at hb; cases hb
  | some j =>
    rw [ek] at hb
    have hb : decide (0 ≤ j ∧ j < (m : Int)) = true := hb
    have hj := of_decide_eq_true hb
    obtain ⟨s, rfl, hs, _⟩ := amt_at hp ha
    refine ⟨t, s, rfl, ?_, hs⟩
    show SqT K H t [.int ((((intO k).getD 0).toNat : Nat) : Int), .ref s, .int ((intO n).getD 0)]
    rw [hk.intAt ek, hn.intAt hi] at hS
    rw [ek, hi]
    have e : (((some j).getD 0).toNat : Int) = j := by
      show ((j.toNat : Nat) : Int) = j
      omega
    rw [e]
    exact hS
theorem lines_in {K : PySem.W.Frag} {H : Hp} {m : Nat} : ∀ {vs : List V} {ds : List PyData}, OvAll K H vs ds → (∀ x ∈ ds, lineD m x = true) → Lines K H vs (ds.map rowD)
  | _, _, .nil, _ => trivial
  | _, _, .cons h r, hl => ⟨line_in h (hl _ List.mem_cons_self), lines_in r fun x hx => hl x (List.mem_cons_of_mem _ hx)⟩
theorem day_in {K : PySem.W.Frag} {H : Hp} {v : V} {m : Nat} {d : PyData} (h : Ov K H v d) (hd : dayFault m d = none) (dv : ∀ x ∈ itemsD d, lineD m x = true → (rowD x).2.1.2 ∣ DL) : ∃ a, v = .ref a ∧ DayIn K H a m ((itemsD d).map rowD) := by
  obtain ⟨ds, rfl, hl, hb⟩ := day_ok hd
  obtain ⟨a, xs, rfl, hS, hA⟩ := h.isT
  refine ⟨a, rfl, xs, hS, lines_in hA hb, fun r hr => ?_, by rw [List.length_map]; show ds.length ≤ 900; omega⟩
  obtain ⟨x, hx, rfl⟩ := List.mem_map.mp hr
  exact line_ok (hb x hx) (dv x hx (hb x hx))
/-- a day that is kept, as the program tells it -/
def isDayD (m : Nat) (ts : List (List Int)) (d : PyData) (kept : Bool) : Bool := (dayFault m d).isNone && (!kept || (firstU ((courseU m ts ((itemsD d).map rowD)).drop 1) 0).isNone)
def spIsDay (K : PySem.W.Frag) (C : Addr) : Sp := fun vs H Q _ => ∃ (a : Addr) (v : V) (d : PyData) (b : Bool) (ks : List Str) (ts : List (List Int)), vs = [.ref a, v, .bl b] ∧ Tab K C H a ks ts ∧ TabOk ks ts ∧ Ov K H v d ∧ (∀ x ∈ itemsD d, lineD ks.length x = true → (rowD x).2.1.2 ∣ DL) ∧
  ∀ H', Same H H' → Q (.bl (isDayD ks.length ts d b)) H'
end CK
namespace K09
open PySem PySem.Spec PyProof.Rows L2 VG FR CK HD M9
abbrev s_is_day : Stmt := topS 47
abbrev N_is_day : List Str := ["table", "value", "kept"]
theorem sc_is_day : FnScope N_is_day ["table", "value", "kept"] (defScope s_is_day) := ⟨rfl, rfl, rfl, by decide +kernel, rfl, by decide +kernel, by decide +kernel⟩
section
variable {P : Program} {w : World} {K : PySem.W.Frag} {mg : Str → Option Value} {base : Heap}
theorem ok_is_day {f C ID : Addr} {fd : FuncData} (F : C8.Fun K "is_day" "is_day" s_is_day f fd) (X_check_day : ClX P w K mg base 5 "check_day" (spChk K C ID dayFault)) (m_InvalidDay : mg "InvalidDay" = some (.ref ID)) (te : PySem.W.exmOne K (.ref ID) (.ref ID) = some true) (C_first_off : Cl P w K mg base 5 "first_off" (spFirst K C)) : FnOk P w K mg base CX0 7 f fd ["table", "value", "kept"] (spIsDay K C) := by
  refine C8.fn0 F (show FnScope N_is_day ["table", "value", "kept"] (C8.fnScope s_is_day) from sc_is_day) (fun vs H Q E h => ?_) (fun cdv A outer s H vs Q E hr h => ?_)
  · obtain ⟨_, _, _, _, _, _, rfl, _⟩ := h
    rfl
  · obtain ⟨a, v, d, b, ks, ts, rfl, hTab, ok, hd, dv, fin⟩ := h
    refine ⟨_, (pss_cons (ps_try_only rfl rfl ⟨rfl, by decide, .inl m_InvalidDay⟩ takes0 (fun W pn xe tk _ => (pss_one (ps_expr (pe_clx X_check_day hr (by decide) tk rfl (pa_cons (pv 0) (pa_cons (pv 1) pa_nil))))))
      (fun a oe cls d pn _ _ => (pss_one (ps_ret pe_bl))))
    (pss_one (ps_ret (pe_or (pe_cmpR op_notBl (pv 2) pe_bl (nomark _)) (pe_one (pe_cmpR op_isN (pe_cl C_first_off hr (by decide) rfl (pa_cons (pv 0) (pa_cons (pv 1) pa_nil))) pe_non (nomark _))))))), ?_⟩
    unfold isDayD at fin
    refine ⟨_, rfl, _, rfl, a, v, d, ks, ts, rfl, hTab, ok, hd, fun hn H1 s1 => ?_, fun i hi H1 x s1 nx hx => ?_⟩
    · rw [hn] at fin
      obtain ⟨dd, rfl, hday⟩ := day_in hd hn dv
      have fin : ∀ H', Same H H' → Q (.bl (!b || (firstU ((courseU ks.length ts ((itemsD d).map rowD)).drop 1) 0).isNone)) H' := fin
      cases b with
      | false => exact ⟨_, rfl, false, true, rfl, rfl, _, rfl, iteT (fin H1 s1)⟩
      | true =>
        refine ⟨_, rfl, true, true, rfl, rfl, _, rfl, iteF ⟨_, rfl, _, rfl, a, dd, ks, ts, _, rfl, hTab.mono s1, ok, hday.mono s1, fun H2 s2 => ⟨rfl, ?_⟩⟩⟩
        have q := fin H2 (s1.trans s2)
        generalize firstU ((courseU ks.length ts ((itemsD d).map rowD)).drop 1) 0 = o at q ⊢
        cases o with
        | none => exact q
        | some i => exact q
    · rw [hi] at fin
      exact ⟨true, te, fun _ y hy => fin H1 s1, fun q => nomatch q⟩
end
end K09
namespace CK
open PySem PySem.Spec PyProof.Rows L2 VG FR HD M9
def spFr9 : Sp := fun vs H Q _ => ∃ a b : Int, vs = [.int a, .int b] ∧ 0 < b ∧ a.natAbs < 2 ^ 450 ∧ b.natAbs < 2 ^ 450 ∧ ∀ H' u, Same H H' → H u = none → H' u = some (.tup (pV (M2.mk a b))) → Q (.ref u) H'
def spLawCho (K : PySem.W.Frag) : Sp := fun vs H Q _ => ∃ (s : Addr) (p : Q2), vs = [.ref s] ∧ SqT K H s (pV p) ∧ 0 < p.2 ∧ Bt 3000 p ∧ ∀ H' u, Same H H' → H u = none → H' u = some (.lst ((choQ p).map V.int)) → Q (.ref u) H'
def spLawSmall (K : PySem.W.Frag) : Sp := fun vs H Q _ => ∃ (s : Addr) (a : Int), vs = [.ref s] ∧ SqT K H s (pV (U a)) ∧ Q (.bl (decide (-DL < a ∧ a < DL))) H
def spLawSum9 (K : PySem.W.Frag) : Sp := fun vs H Q _ => ∃ (s : Addr) (xs : List V) (cs : List Int), vs = [.ref s] ∧ SqL K H s xs ∧ Frs K H xs (cs.map U) ∧ cs.length ≤ 40 ∧ (∀ c ∈ cs, c.natAbs < 2 ^ 66) ∧ ∀ H' u, Same H H' → SqT K H' u (pV (U cs.sum)) → Q (.ref u) H'
theorem euc_step {x y i P : Nat} (h : x * y * 2 ^ i ≤ 2 * P) (o : y ≤ x) (y0 : 0 < y) : y * (x % y) * 2 ^ (i + 1) ≤ 2 * P := by
  have m := Nat.mod_lt x y0
  have d := Nat.div_add_mod x y
  have q : 1 ≤ x / y := Nat.div_pos o y0
  have h1 : y + x % y ≤ x := by
    have : y * 1 ≤ y * (x / y) := Nat.mul_le_mul_left y q
    omega
  have h2 : 2 * (x % y) ≤ x := by omega
  have h3 : y * (x % y) * 2 ≤ x * y := by
    calc y * (x % y) * 2 = y * (2 * (x % y)) := by rw [Nat.mul_assoc, Nat.mul_comm (x % y) 2]
      _ ≤ y * x := Nat.mul_le_mul_left y h2
      _ = x * y := Nat.mul_comm y x
  calc y * (x % y) * 2 ^ (i + 1) = y * (x % y) * 2 * 2 ^ i := by rw [Nat.pow_succ, Nat.mul_comm (2 ^ i) 2, ← Nat.mul_assoc]
    _ ≤ x * y * 2 ^ i := Nat.mul_le_mul_right _ h3
    _ ≤ 2 * P := h
theorem euc_end {x y P : Nat} (h : x * y * 2 ^ 999 ≤ 2 * P) (o : y ≤ x) (hp : P < 2 ^ 900) : y = 0 := by
  rcases Nat.eq_zero_or_pos y with z | z
  · exact z
  · exfalso
    have h1 : 1 * 2 ^ 999 ≤ x * y * 2 ^ 999 := Nat.mul_le_mul_right _ (Nat.mul_pos (by omega) z)
    have h2 : 2 * P < 2 * 2 ^ 900 := by omega
    have h3 : 2 * 2 ^ 900 ≤ 1 * 2 ^ 999 := by decide
    omega
theorem choQ_ex {p : Q2} (h : 0 < p.2) : choQ p = if p.1 / p.2 * p.2 = p.1 then [p.1 / p.2] else [p.1 / p.2, p.1 / p.2 + 1] := by
  obtain ⟨a, b⟩ := p
  show (if a / b = -(-a / b) then [a / b] else [a / b, -(-a / b)]) = if a / b * b = a then [a / b] else [a / b, a / b + 1]
  have hb : 0 < b := h
  have m1 := Int.mul_ediv_add_emod a b
  have m2 := Int.emod_nonneg a (Int.ne_of_gt hb)
  have m3 := Int.emod_lt_of_pos a hb
  by_cases e : a / b * b = a
  · have h1 : -a / b = -(a / b) := by
      have : -a = -(a / b) * b := by rw [Int.neg_mul, e]
      rw [this, Int.mul_ediv_cancel _ (by omega)]
    rw [if_pos e, if_pos (by omega)]
  · have m4 : a % b ≠ 0 := fun z => e (by rw [z, Int.add_zero, Int.mul_comm] at m1; exact m1)
    have h1 : -a / b = -(a / b + 1) := by
      have e2 : -a = (b - a % b) + -(a / b + 1) * b := by grind
      rw [e2, Int.add_mul_ediv_right _ _ (by omega), Int.ediv_eq_zero_of_lt (by omega) (by omega)]
      omega
    rw [if_neg e, if_neg (by omega), h1]
    congr 2
    omega
end CK
namespace K09
open PySem PySem.Spec PyProof.Rows L2 VG FR CK HD M9
abbrev s__law_fraction : Stmt := topS 60
abbrev N__law_fraction : List Str := ["top", "bottom", "one", "other", "step"]
theorem sc__law_fraction : FnScope N__law_fraction ["top", "bottom"] (defScope s__law_fraction) := ⟨rfl, rfl, rfl, by decide +kernel, rfl, by decide +kernel, by decide +kernel⟩
abbrev s__law_choices : Stmt := topS 61
abbrev N__law_choices : List Str := ["amount", "low"]
theorem sc__law_choices : FnScope N__law_choices ["amount"] (defScope s__law_choices) := ⟨rfl, rfl, rfl, by decide +kernel, rfl, by decide +kernel, by decide +kernel⟩
abbrev s__law_sum : Stmt := topS 62
abbrev N__law_sum : List Str := ["some", "top", "bottom", "one"]
theorem sc__law_sum : FnScope N__law_sum ["some"] (defScope s__law_sum) := ⟨rfl, rfl, rfl, by decide +kernel, rfl, by decide +kernel, by decide +kernel⟩
abbrev s__law_small : Stmt := topS 64
abbrev N__law_small : List Str := ["one"]
theorem sc__law_small : FnScope N__law_small ["one"] (defScope s__law_small) := ⟨rfl, rfl, rfl, by decide +kernel, rfl, by decide +kernel, by decide +kernel⟩
abbrev s__law_integer : Stmt := topS 68
abbrev N__law_integer : List Str := ["value"]
theorem sc__law_integer : FnScope N__law_integer ["value"] (defScope s__law_integer) := ⟨rfl, rfl, rfl, by decide +kernel, rfl, by decide +kernel, by decide +kernel⟩
section
variable {P : Program} {w : World} {K : PySem.W.Frag} {mg : Str → Option Value} {base : Heap}
theorem ok__law_fraction {f : Addr} {fd : FuncData} (F : Fun K "_law_fraction" "_law_fraction" s__law_fraction f fd) (z_int : mg "int" = none) (z_abs : mg "abs" = none) (z_range : mg "range" = none) : FnOk P w K mg base CX0 1 f fd ["top", "bottom"] spFr9 := by
  refine F.ok sc__law_fraction (fun vs H Q E h => ?_) (fun cdv A outer s H vs Q E hr h => ?_)
  · obtain ⟨_, _, rfl, _⟩ := h
    rfl
  · obtain ⟨a, b, rfl, b0, sa, sb, fin⟩ := h
    refine ⟨_, (pss_cons (ps_par (i := 2) (j := 3) (by rfl) sc__law_fraction.nd rfl rfl (by decide) rfl rfl (pa_cons (pe_callB call_abs (by rfl) z_abs (by decide +kernel) (pa_cons (pv 0) pa_nil)) (pa_cons (pv 1) pa_nil)) (by rfl))
    (pss_cut (ps_for PassesOwn.never rfl (pi_range1 (by rfl) z_range (pa_cons pe_int pa_nil)) (pg_name (i := 4) sc__law_fraction.nd rfl (.inl rfl))
      (pss_cons (ps_if (pt_cmpR op_eq (pv 3) pe_int (nomark _))
        (pss_one ps_break)
        pss_nil)
      (pss_one (ps_par (i := 2) (j := 3) (by rfl) sc__law_fraction.nd rfl rfl (by decide) rfl rfl (pa_cons (pv 3) (pa_cons (pe_op op_modN (pe_callTy call_int1 (by rfl) z_int (by decide +kernel) (pa_cons (pv 2) pa_nil)) (pv 3)) pa_nil)) (by rfl)))))
    (pss_one (ps_ret (pe_tup (pa_cons (pe_callTy call_int1 (by rfl) z_int (by decide +kernel) (pa_cons (pe_op op_fdivW (pv 0) (pv 2)) pa_nil)) (pa_cons (pe_callTy call_int1 (by rfl) z_int (by decide +kernel) (pa_cons (pe_op op_fdivW (pv 1) (pv 2)) pa_nil)) pa_nil))))))), ?_⟩
    have ab : (if a < 0 then -a else a) = ((a.natAbs : Nat) : Int) := by split <;> omega
    have bb : b = ((b.natAbs : Nat) : Int) := by omega
    have hP : a.natAbs * b.natAbs < 2 ^ 900 := by
      have := Nat.mul_lt_mul'' sa sb
      exact Nat.lt_of_lt_of_le this (by decide)
    refine ⟨_, rfl, _, rfl, _, rfl, _, _, rfl, ?_⟩
    refine ⟨fun σ H' => H' = H ∧ ∃ y3 y4, σ = [some (.int a), some (.int b), some (.int (M2.g a b : Nat)), y3, y4], ?_, ?_⟩
    · refine ⟨_, rfl, by decide, by decide, ?_⟩
      refine for_it (walk_range (lo := 0) (n := (999 : Int).toNat)) (fun i σ H' => H' = H ∧ ∃ (x y : Nat) (y4 : Option V), σ = [some (.int a), some (.int b), some (.int x), some (.int y), y4] ∧ Nat.gcd x y = M2.g a b ∧ x * y * 2 ^ i ≤ 2 * (a.natAbs * b.natAbs) ∧ ((i = 0 ∧ x * y ≤ a.natAbs * b.natAbs) ∨ y ≤ x)) ⟨rfl, a.natAbs, b.natAbs, none, ?_, rfl, by rw [Nat.pow_zero, Nat.mul_one]; omega, .inl ⟨rfl, Nat.le_refl _⟩⟩ (fun _ _ _ _ _ => trivial) ?_ ?_
      · show [some (V.int a), some (V.int b), some (V.int (if a < 0 then -a else a)), some (V.int b), none] = _
        rw [ab, ← bb]
      · rintro i v σ H1 H2 hi ⟨rfl, x, y, y4, rfl, g, le, or_⟩ ⟨rfl, rfl⟩
        refine ⟨_, rfl, rfl, _, rfl, ite2 (fun z => ?_) (fun z => ?_)⟩
        · have y0 : y = 0 := by
            have := V.int.inj (of_decide_eq_true z)
            omega
          subst y0
          rw [Nat.gcd_zero_right] at g
          exact ⟨rfl, some (V.int ((0 : Nat) : Int)), some (V.int (0 + (i : Int))), by rw [← g]; rfl⟩
        · have y0 : y ≠ 0 := fun e => by subst e; exact z (decide_eq_true rfl)
          refine ⟨_, rfl, _, rfl, .inl ⟨_, rfl, _, rfl, _, _, rfl, rfl, by show ((y : Nat) : Int) ≠ 0; omega, _, _, rfl, rfl, y, x % y, some (V.int (0 + (i : Int))), ?_, ?_, ?_, .inr (Nat.le_of_lt (Nat.mod_lt _ (by omega)))⟩⟩
          · show [some (V.int a), some (V.int b), some (V.int (y : Int)), some (V.int ((x : Int).fmod (y : Int))), some (V.int (0 + (i : Int)))] = _
            rw [fmod_nat x (Nat.pos_of_ne_zero y0)]
          · rw [← g, Nat.gcd_comm y, ← Nat.gcd_rec, Nat.gcd_comm]
          · by_cases o : y ≤ x
            · exact euc_step le o (Nat.pos_of_ne_zero y0)
            · obtain ⟨i0, le9⟩ := or_.resolve_right o
              subst i0
              rw [Nat.mod_eq_of_lt (by omega), Nat.mul_comm y x]
              rw [Nat.pow_zero, Nat.mul_one] at le
              show x * y * 2 ^ (0 + 1) ≤ _
              omega
      · rintro σ H1 ⟨rfl, x, y, y4, rfl, g, le, or_⟩
        have y0 := euc_end le (or_.resolve_left (fun q => absurd q.1 (by decide))) hP
        subst y0
        rw [Nat.gcd_zero_right] at g
        exact ⟨rfl, _, _, by rw [← g]⟩
    · rintro σ H1 ⟨rfl, y3, y4, rfl⟩
      have gp := M2.g_pos (a := a) (b := b) (by omega)
      have gl : M2.g a b ≤ b.natAbs := Nat.gcd_le_right _ (by omega)
      have gb : ((M2.g a b : Nat) : Int).natAbs < 2 ^ 450 := by
        rw [Int.natAbs_natCast]
        exact Nat.lt_of_le_of_lt gl sb
      have W1 : ∀ x : Int, CDivW x ((M2.g a b : Nat) : Int) := fun x => wide_div (by omega) gb (by decide) (by decide)
      refine ⟨_, rfl, _, rfl, _, _, rfl, rfl, W1 _, .inl ⟨_, rfl, _, rfl, _, rfl, _, _, rfl, rfl, W1 _, .inl ⟨_, rfl, by show 2 ≤ sizeLine; decide, fun u nu => ?_⟩⟩⟩
      refine fin _ u (same_upd nu) nu ?_
      rw [upd_same, M2.mk_pos b0]
      rfl
theorem ok__law_choices {f : Addr} {fd : FuncData} (F : Fun K "_law_choices" "_law_choices" s__law_choices f fd) (z_int : mg "int" = none) : FnOk P w K mg base CX0 1 f fd ["amount"] (spLawCho K) := by
  refine F.ok sc__law_choices (fun vs H Q E h => ?_) (fun cdv A outer s H vs Q E hr h => ?_)
  · obtain ⟨_, _, rfl, _⟩ := h
    rfl
  · obtain ⟨t, p, rfl, hS, hp, hb, fin⟩ := h
    refine ⟨_, (pss_cons (ps_set (i := 1) sc__law_choices.nd rfl (.inl rfl) (pe_callTy call_int1 (by rfl) z_int (by decide +kernel) (pa_cons (pe_op op_fdivW (pe_ix ix_tup (pv 0) pe_int (fun _ _ => rfl)) (pe_ix ix_tup (pv 0) pe_int (fun _ _ => rfl))) pa_nil)))
    (pss_one (ps_ret (pe_ifExp (pt_cmpR op_eq (pe_op op_mulW (pv 1) (pe_ix ix_tup (pv 0) pe_int (fun _ _ => rfl))) (pe_ix ix_tup (pv 0) pe_int (fun _ _ => rfl)) (nomark _)) (pe_lst (pa_cons (pv 1) pa_nil)) (pe_lst (pa_cons (pv 1) (pa_cons (pe_op op_add (pv 1) pe_int) pa_nil))))))), ?_⟩
    rw [choQ_ex hp] at fin
    have W1 : CDivW p.1 p.2 := wide_div hp hb.2 (by decide) (by decide)
    have lq : (p.1 / p.2).natAbs < 2 ^ 3000 := Nat.lt_of_le_of_lt (M2.natAbs_div_le _ hp) hb.1
    have W2 : CMulW (p.1 / p.2) p.2 := mulW (up lq (by decide)) (up hb.2 (by decide))
    refine ⟨_, rfl, t, _, _, _, rfl, rfl, hS, at0 _ _, _, rfl, t, _, _, _, rfl, rfl, hS, at1 _ _, _, _, rfl, rfl, W1, .inl ⟨_, rfl, ?_⟩⟩
    refine ⟨_, rfl, _, rfl, t, _, _, _, rfl, rfl, hS, at1 _ _, _, _, rfl, rfl, W2, _, rfl, t, _, _, _, rfl, rfl, hS, at0 _ _, rfl, _, rfl, ?_⟩
    by_cases h : p.1 / p.2 * p.2 = p.1
    · rw [if_pos h] at fin
      rw [decide_eq_true (congrArg V.int h)]
      refine iteT ⟨_, rfl, by show 1 ≤ sizeLine; decide, fun u nu => ?_⟩
      exact fin _ u (same_upd nu) nu upd_same
    · rw [if_neg h] at fin
      rw [decide_eq_false (fun z => h (V.int.inj z))]
      refine iteF ⟨_, rfl, _, rfl, _, _, rfl, rfl, by show 2 ≤ sizeLine; decide, fun u nu => ?_⟩
      exact fin _ u (same_upd nu) nu upd_same
theorem ok__law_small {f : Addr} {fd : FuncData} (F : Fun K "_law_small" "_law_small" s__law_small f fd) : FnOk P w K mg base CX0 1 f fd ["one"] (spLawSmall K) := by
  refine F.ok sc__law_small (fun vs H Q E h => ?_) (fun cdv A outer s H vs Q E hr h => ?_)
  · obtain ⟨_, _, rfl, _⟩ := h
    rfl
  · obtain ⟨t, a, rfl, hS, fin⟩ := h
    refine ⟨_, (pss_one (ps_ret (pe_chain op_lt op_lt (pe_op op_sub pe_int (pe_ix ix_tup (pv 0) pe_int (fun _ _ => rfl))) (pe_ix ix_tup (pv 0) pe_int (fun _ _ => rfl)) (pe_ix ix_tup (pv 0) pe_int (fun _ _ => rfl))))), ?_⟩
    have su := U_small a
    refine ⟨_, rfl, t, _, _, _, rfl, rfl, hS, at1 _ _, _, _, rfl, rfl, ?_⟩
    refine ⟨_, rfl, t, _, _, _, rfl, rfl, hS, at0 _ _, _, _, rfl, rfl, _, rfl, ite2 (fun z => ?_) (fun z => ?_)⟩
    · have z1 : 0 - (U a).2 < (U a).1 := of_decide_eq_true z
      refine ⟨_, rfl, t, _, _, _, rfl, rfl, hS, at1 _ _, _, _, rfl, rfl, ?_⟩
      have e : decide ((U a).1 < (U a).2) = decide (-DL < a ∧ a < DL) := by
        rw [Bool.eq_iff_iff, decide_eq_true_iff, decide_eq_true_iff, ← su]
        split <;> omega
      show Q (.bl (decide ((U a).1 < (U a).2))) H
      rw [e]
      exact fin
    · have z1 : ¬ 0 - (U a).2 < (U a).1 := fun q => z (decide_eq_true q)
      have p2 := (U_low a).1
      have e : decide (-DL < a ∧ a < DL) = false := decide_eq_false fun q => by
        have := su.mpr q
        split at this <;> omega
      rw [e] at fin
      exact fin
theorem ok__law_integer {f : Addr} {fd : FuncData} (F : Fun K "_law_integer" "_law_integer" s__law_integer f fd) (z_isinstance : mg "isinstance" = none) (z_int : mg "int" = none) (z_bool : mg "bool" = none) : FnOk P w K mg base CX0 1 f fd ["value"] (spInt K) := by
  refine F.ok sc__law_integer (fun vs H Q E h => ?_) (fun cdv A outer s H vs Q E hr h => ?_)
  · obtain ⟨v, o, rfl, _⟩ := h
    rfl
  · obtain ⟨v, o, rfl, hp, q⟩ := h
    refine ⟨_, (pss_one (ps_ret (pe_and (pe_callB call_isi (by rfl) z_isinstance (by decide +kernel) (pa_cons (pv 0) (pa_cons (pe_bltn (v := .ty "int") (by rfl) z_int (by decide +kernel) rfl) pa_nil))) (pe_one (pe_not (pe_callB call_isi (by rfl) z_isinstance (by decide +kernel) (pa_cons (pv 0) (pa_cons (pe_bltn (v := .ty "bool") (by rfl) z_bool (by decide +kernel) rfl) pa_nil)))))))), ?_⟩
    rcases hp with ⟨a, rfl, rfl⟩ | ⟨rfl, ty, b1, b2, t, k1, k2, e⟩
    · refine ⟨_, rfl, _, _, _, _, true, rfl, .ty "int", .base (.int a), kb1, true, rfl, iteT ?_⟩
      exact ⟨_, rfl, _, _, _, _, false, rfl, .ty "bool", .base (.int a), kb2, _, rfl, q⟩
    · refine ⟨_, rfl, _, _, _, _, b1, rfl, .ty "int", t, kit_ty k1, b1, rfl, ?_⟩
      cases b1 with
      | false => exact iteF q
      | true =>
        refine iteT ⟨_, rfl, _, _, _, _, b2, rfl, .ty "bool", t, kit_ty k2, _, rfl, ?_⟩
        have e2 : (!b2) = false := e
        rw [e2]
        exact q
end
end K09
namespace CK
open PySem PySem.Spec PyProof.Rows L2 VG FR HD M9
theorem mk_add (a c : Int) : M2.mk ((U a).1 * (U c).2 + (U c).1 * (U a).2) ((U a).2 * (U c).2) = U (a + c) := by
  have la := U_low a
  have lc := U_low c
  have y0 : 0 < (U a).2 * (U c).2 := Int.mul_pos la.1 lc.1
  have e := M2.mk_eq (a := (U a).1 * (U c).2 + (U c).1 * (U a).2) (b := (U a).2 * (U c).2) (Int.ne_of_gt y0)
  have l := M2.mk_low (a := (U a).1 * (U c).2 + (U c).1 * (U a).2) (b := (U a).2 * (U c).2) (Int.ne_of_gt y0)
  refine U_of l ?_
  have ea := U_eq a
  have ec := U_eq c
  refine Int.eq_of_mul_eq_mul_right (a := (U a).2 * (U c).2) (Int.ne_of_gt y0) ?_
  generalize M2.mk ((U a).1 * (U c).2 + (U c).1 * (U a).2) ((U a).2 * (U c).2) = m at *
  generalize (U a).1 = x at *
  generalize (U a).2 = y at *
  generalize (U c).1 = z at *
  generalize (U c).2 = t at *
  generalize DL = d at *
  grind
theorem sum_lt : ∀ (cs : List Int), (∀ c ∈ cs, c.natAbs < 2 ^ 66) → cs.sum.natAbs ≤ cs.length * 2 ^ 66
  | [], _ => Nat.zero_le _
  | c :: cs, h => by
    have ih := sum_lt cs fun x hx => h x (List.mem_cons_of_mem _ hx)
    have h1 := h c List.mem_cons_self
    rw [List.sum_cons, List.length_cons, Nat.succ_mul]
    have := Int.natAbs_add_le c cs.sum
    omega
def spLawSums (K : PySem.W.Frag) : Sp := fun vs H Q _ => ∃ (t e : Addr) (xs : List V) (ts : List (List Int)) (es : List Int), vs = [.ref t, .ref e] ∧ SqT K H t xs ∧ Tots K H xs ts ∧ ts.length ≤ 12 ∧ (∀ c ∈ ts, c.length ≤ 40 ∧ ∀ k ∈ c, 0 ≤ k ∧ k < (es.length : Int)) ∧ EU K H e es ∧ Within 1000 es ∧
  ∀ H' u, Same H H' → EU K H' u (totsU ts es) → Q (.ref u) H'
end CK
namespace K09
open PySem PySem.Spec PyProof.Rows L2 VG FR CK HD M9
abbrev s__law_sums : Stmt := topS 65
abbrev N__law_sums : List Str := ["totals", "errors", "total", "kind"]
theorem sc__law_sums : FnScope N__law_sums ["totals", "errors"] (defScope s__law_sums) := ⟨rfl, rfl, rfl, by decide +kernel, rfl, by decide +kernel, by decide +kernel⟩
abbrev s__law_behind : Stmt := topS 66
abbrev N__law_behind : List Str := ["errors", "kind", "amount", "whole", "found"]
theorem sc__law_behind : FnScope N__law_behind ["errors", "kind", "amount", "whole"] (defScope s__law_behind) := ⟨rfl, rfl, rfl, by decide +kernel, rfl, by decide +kernel, by decide +kernel⟩
section
variable {P : Program} {w : World} {K : PySem.W.Frag} {mg : Str → Option Value} {base : Heap}
theorem ok__law_sum {f : Addr} {fd : FuncData} (F : Fun K "_law_sum" "_law_sum" s__law_sum f fd) (C__law_fraction : Cl P w K mg base 1 "_law_fraction" spFr9) : FnOk P w K mg base CX0 2 f fd ["some"] (spLawSum9 K) := by
  refine F.ok sc__law_sum (fun vs H Q E h => ?_) (fun cdv A outer s H vs Q E hr h => ?_)
  · obtain ⟨_, _, _, rfl, _⟩ := h
    rfl
  · obtain ⟨t, xs, cs, rfl, hS, hF, lc, hb, fin⟩ := h
    refine ⟨_, (pss_cons (ps_asg (pe_tup (pa_cons pe_int (pa_cons pe_int pa_nil))) (pg_tup rfl (pgs_cons (pg_name (i := 1) sc__law_sum.nd rfl (.inl rfl)) (pgs_cons (pg_name (i := 2) sc__law_sum.nd rfl (.inl rfl)) pgs_nil))))
    (pss_cut (ps_for PassesOwn.never rfl (pi_list (pv 0)) (pg_name (i := 3) sc__law_sum.nd rfl (.inl rfl))
      (pss_one (ps_asg (pe_cl C__law_fraction hr (by decide) rfl (pa_cons (pe_op op_add (pe_op op_mulW (pv 1) (pe_ix ix_tup (pv 3) pe_int (fun _ _ => rfl))) (pe_op op_mulW (pe_ix ix_tup (pv 3) pe_int (fun _ _ => rfl)) (pv 2))) (pa_cons (pe_op op_mulW (pv 2) (pe_ix ix_tup (pv 3) pe_int (fun _ _ => rfl))) pa_nil))) (pg_tup rfl (pgs_cons (pg_name (i := 1) sc__law_sum.nd rfl (.inl rfl)) (pgs_cons (pg_name (i := 2) sc__law_sum.nd rfl (.inl rfl)) pgs_nil))))))
    (pss_one (ps_ret (pe_tup (pa_cons (pv 1) (pa_cons (pv 2) pa_nil))))))), ?_⟩
    have lx := hF.len
    rw [List.length_map] at lx
    refine ⟨by show 2 ≤ sizeLine; decide, fun T nT => ?_⟩
    have sT := same_upd (o := .tup [.int 0, .int 1]) nT
    have kT := upd_same (H := H) (a := T) (o := .tup [V.int 0, V.int 1])
    generalize L2.upd H T (.tup [.int 0, .int 1]) = H1 at sT kT ⊢
    have hS1 := sT.seq hS
    refine ⟨T, _, rfl, .inl (.inl kT), rfl, _, _, rfl, _, _, rfl, rfl, ?_⟩
    have sz : ∀ i, (cs.take i).sum.natAbs < 2 ^ 72 := fun i => by
      have := sum_lt (cs.take i) fun c hc => hb c (List.mem_of_mem_take hc)
      have l2 : (cs.take i).length ≤ 40 := by rw [List.length_take]; omega
      have : (cs.take i).length * 2 ^ 66 ≤ 40 * 2 ^ 66 := Nat.mul_le_mul_right _ l2
      have : 40 * 2 ^ 66 < 2 ^ 72 := by decide
      omega
    refine ⟨fun σ H' => Same H H' ∧ ∃ y3 : Option V, σ = [some (.ref t), some (.int (U cs.sum).1), some (.int (U cs.sum).2), y3], ?_, ?_⟩
    · refine ⟨_, rfl, t, rfl, ⟨_, hS1⟩, ?_⟩
      refine for_it (walk_list (K := K) (a := t) (xs := xs)) (fun i σ H' => Same H1 H' ∧ ∃ y3 : Option V, σ = [some (.ref t), some (.int (U (cs.take i).sum).1), some (.int (U (cs.take i).sum).2), y3]) ⟨Same.refl _, none, ?_⟩ (fun i σ H' _ h => h.1.seq hS1) ?_ ?_
      · show _ = [some (V.ref t), some (V.int (U 0).1), some (V.int (U 0).2), none]
        rw [U_zero]
        rfl
      · rintro i x σ H2 H3 hi ⟨sm, y3, rfl⟩ ⟨rfl, ex⟩
        obtain ⟨q, p, rfl, ep, hq⟩ := hF.get ex
        rw [List.getElem?_map] at ep
        obtain ⟨c, ec, rfl⟩ := Option.map_eq_some_iff.mp ep
        have hq2 := seqT (sT.trans sm) hq
        have b1 : Bt 72 (U (cs.take i).sum) := U_bt (sz i) (by decide)
        have b2 : Bt 66 (U c) := U_bt (hb c (List.mem_of_getElem? ec)) (by decide)
        have m1 : CMulW (U (cs.take i).sum).1 (U c).2 := mulW (up b1.1 (by decide)) (up b2.2 (by decide))
        have m2 : CMulW (U c).1 (U (cs.take i).sum).2 := mulW (up b2.1 (by decide)) (up b1.2 (by decide))
        have m3 : CMulW (U (cs.take i).sum).2 (U c).2 := mulW (up b1.2 (by decide)) (up b2.2 (by decide))
        have n1 : ((U (cs.take i).sum).1 * (U c).2).natAbs < 2 ^ 138 := by
          rw [Int.natAbs_mul]
          exact Nat.lt_of_lt_of_le (Nat.mul_lt_mul'' b1.1 b2.2) (by decide)
        have n2 : ((U c).1 * (U (cs.take i).sum).2).natAbs < 2 ^ 138 := by
          rw [Int.natAbs_mul]
          exact Nat.lt_of_lt_of_le (Nat.mul_lt_mul'' b2.1 b1.2) (by decide)
        have n3 : ((U (cs.take i).sum).2 * (U c).2).natAbs < 2 ^ 138 := by
          rw [Int.natAbs_mul]
          exact Nat.lt_of_lt_of_le (Nat.mul_lt_mul'' b1.2 b2.2) (by decide)
        have n4 : ((U (cs.take i).sum).1 * (U c).2 + (U c).1 * (U (cs.take i).sum).2).natAbs < 2 ^ 450 := by
          have := Int.natAbs_add_le ((U (cs.take i).sum).1 * (U c).2) ((U c).1 * (U (cs.take i).sum).2)
          have : (2 : Nat) ^ 138 + 2 ^ 138 < 2 ^ 450 := by decide
          omega
        refine ⟨_, rfl, _, rfl, q, _, _, _, rfl, rfl, hq2, at1 _ _, _, _, rfl, rfl, m1, _, rfl, q, _, _, _, rfl, rfl, hq2, at0 _ _, _, rfl, _, _, rfl, rfl, m2, _, _, rfl, rfl, _, rfl, _, rfl, q, _, _, _, rfl, rfl, hq2, at1 _ _, _, _, rfl, rfl, m3, ?_⟩
        refine ⟨_, _, rfl, Int.mul_pos (U_low _).1 (U_low _).1, n4, Nat.lt_trans n3 (by decide), fun H4 u s4 nu hu => ?_⟩
        have hu : H4 u = some (.tup (pV (M2.mk ((U (cs.take i).sum).1 * (U c).2 + (U c).1 * (U (cs.take i).sum).2) ((U (cs.take i).sum).2 * (U c).2)))) := hu
        rw [mk_add, ← sum_take ec] at hu
        exact ⟨u, _, rfl, .inl (.inl hu), rfl, _, _, rfl, _, _, rfl, rfl, sm.trans s4, _, rfl⟩
      · rintro σ H2 ⟨sm, y3, rfl⟩
        rw [List.take_of_length_le (by omega)]
        exact ⟨sT.trans sm, _, rfl⟩
    · rintro σ H2 ⟨sm, y3, rfl⟩
      refine ⟨_, rfl, _, rfl, by show 2 ≤ sizeLine; decide, fun u nu => ?_⟩
      exact fin _ u (sm.trans (same_upd nu)) (.inl (.inl upd_same))
theorem ok__law_sums {f : Addr} {fd : FuncData} (F : Fun K "_law_sums" "_law_sums" s__law_sums f fd) (C__law_sum : Cl P w K mg base 2 "_law_sum" (spLawSum9 K)) (z_tuple : mg "tuple" = none) : FnOk P w K mg base CX0 3 f fd ["totals", "errors"] (spLawSums K) := by
  refine F.ok sc__law_sums (fun vs H Q E h => ?_) (fun cdv A outer s H vs Q E hr h => ?_)
  · obtain ⟨_, _, _, _, _, rfl, _⟩ := h
    rfl
  · obtain ⟨t, e, xs, ts, es, rfl, hS, hT, lt, lots, ⟨fs, hE, hF⟩, hw, fin⟩ := h
    refine ⟨_, (pss_one (ps_ret (pe_callTy call_tupE (by rfl) z_tuple (by decide +kernel) (pa_cons (pe_lc (own := [("total", 2)]) (by rfl) sc__law_sums.nd (pi_tup (pv 0)) (blkOk_by (own := [("total", 2)]) (N := N__law_sums) (sc := defScope s__law_sums) (by decide +kernel)) (fun _ _ _ _ _ => (pg_name (i := 2) sc__law_sums.nd rfl (.inl rfl))) (fun _ _ _ _ _ => pts_nil) (fun _ _ _ _ _ => (pe_cl C__law_sum hr (by decide) rfl (pa_cons (pe_lc (own := [("kind", 3)]) (by rfl) sc__law_sums.nd (show PI _ _ _ (iTup K _) from pi_tup (pv 2)) (blkOk_by (own := [("kind", 3)]) (N := N__law_sums) (sc := { kind := .function, names := [((".0" : String), .local), (("total" : String), .local), (("_law_sum" : String), .globalImplicit), (("errors" : String), .cell)], isGenerator := false, isCoroutine := false }) (by decide +kernel)) (fun _ _ _ _ _ => (pg_name (i := 3) sc__law_sums.nd rfl (.inl rfl))) (fun _ _ _ _ _ => pts_nil) (fun _ _ _ _ _ => (pe_ix (show IxR _ (rIxT K) from ix_tup) (pv 1) (pv 3) (fun _ _ => rfl)))) pa_nil)))) pa_nil)))), ?_⟩
    have big : sizeLine = 16777216 := by decide
    have lx := hT.len
    refine ⟨_, rfl, t, rfl, ⟨_, hS⟩, fun D nD => ?_⟩
    refine lc_it (walk_tup (K := K) (a := t) (xs := xs)) (fun i H' => Same H H' ∧ ∃ zs, H' D = some (.lst zs) ∧ Frs K H' zs (((ts.take i).map (totU es)).map U)) ⟨same_upd nD, [], upd_same, trivial⟩ (fun i H' _ h => seqT h.1 hS) ?_ ?_
    · rintro i v H1 H2 hi ⟨sm, zs, hD, hz⟩ ⟨rfl, ex⟩
      obtain ⟨tt, c, rfl, ec, htt⟩ := hT.get ex
      have lo := lots c (List.mem_of_getElem? ec)
      have lz := hz.len
      rw [List.length_map, List.length_map, List.length_take] at lz
      refine ⟨rfl, _, rfl, tt, rfl, ⟨_, seqT sm htt⟩, fun L nL => ?_⟩
      refine lc_it (walk_tup (K := K) (a := tt) (xs := c.map V.int)) (fun j H' => Same H2 H' ∧ ∃ ys, H' L = some (.lst ys) ∧ Frs K H' ys (((c.take j).map fun k => es.getD k.toNat 0).map U)) ⟨same_upd nL, [], upd_same, trivial⟩ (fun j H' _ h => seqT (sm.trans h.1) htt) ?_ ?_
      · rintro j v H3 H4 hj ⟨sm3, ys, hL, hy⟩ ⟨rfl, ex2⟩
        rw [List.length_map] at hj
        rw [List.getElem?_map] at ex2
        obtain ⟨kk, ek, rfl⟩ := Option.map_eq_some_iff.mp ex2
        have ⟨k0, k1⟩ := lo.2 kk (List.mem_of_getElem? ek)
        obtain ⟨m, rfl⟩ := Int.eq_ofNat_of_zero_le k0
        have hm : m < es.length := by omega
        obtain ⟨b, eb⟩ : ∃ b, es[m]? = some b := ⟨_, List.getElem?_eq_getElem hm⟩
        obtain ⟨q, e3, hq⟩ := frs_get (p := U b) (i := m) hF (by rw [List.getElem?_map, eb]; rfl)
        have ly := hy.len
        rw [List.length_map, List.length_map, List.length_take] at ly
        refine ⟨rfl, _, rfl, _, rfl, e, _, _, _, rfl, rfl, seqT (sm.trans sm3) hE, atI_nat e3, ys, hL, by omega, HD.same_put sm3 nL, ys ++ [.ref q], upd_same, ?_⟩
        have hq2 : SqT K (L2.upd H4 L (.lst (ys ++ [.ref q]))) q (pV (U b)) := seqT_upd hL (seqT (sm.trans sm3) hq)
        rw [List.take_add_one, ek, List.map_append, List.map_append]
        show Frs K _ (ys ++ [V.ref q]) (_ ++ [U (es.getD ((m : Int)).toNat 0)])
        rw [Int.toNat_natCast, List.getD_eq_getElem?_getD, eb]
        exact frs_snoc hq2 (Frs.updL hL hy)
      · rintro H3 ⟨sm3, ys, hL, hy⟩
        rw [List.take_of_length_le (by rw [List.length_map]; exact Nat.le_refl _)] at hy
        have lb : ∀ x ∈ c.map (fun k => es.getD k.toNat 0), x.natAbs < 2 ^ 60 := fun x hx => by
          obtain ⟨k, _, rfl⟩ := List.mem_map.mp hx
          rw [List.getD_eq_getElem?_getD]
          cases q : es[k.toNat]? with
          | none => exact (by decide : (0 : Int).natAbs < 2 ^ 60)
          | some v => exact within_lt hw v (List.mem_of_getElem? q)
        refine ⟨L, ys, _, rfl, .inl (.inl hL), hy, by rw [List.length_map]; omega, fun x hx => Nat.lt_trans (lb x hx) (by decide), fun H4 u s4 hu => ?_⟩
        have s14 := sm3.trans s4
        have hD4 := s14 _ _ hD
        refine ⟨zs, hD4, by omega, HD.same_put (sm.trans s14) nD, zs ++ [.ref u], upd_same, ?_⟩
        rw [List.take_add_one, ec, List.map_append, List.map_append]
        exact frs_snoc (seqT_upd hD4 hu) (Frs.updL hD4 (hz.mono s14))
    · rintro H1 ⟨sm, zs, hD, hz⟩
      rw [lx, List.take_length] at hz
      refine ⟨D, _, rfl, .inl (.inl (.inl hD)), fun H2 u s2 hu => fin H2 u (sm.trans s2) ⟨zs, hu, hz.mono s2⟩⟩
theorem ok__law_behind {f : Addr} {fd : FuncData} (F : Fun K "_law_behind" "_law_behind" s__law_behind f fd) (C__law_sum : Cl P w K mg base 2 "_law_sum" (spLawSum9 K)) (z_tuple : mg "tuple" = none) (z_list : mg "list" = none) : FnOk P w K mg base CX0 3 f fd ["errors", "kind", "amount", "whole"] (spBehind K) := by
  refine F.ok sc__law_behind (fun vs H Q E h => ?_) (fun cdv A outer s H vs Q E hr h => ?_)
  · obtain ⟨_, _, _, _, rfl, _⟩ := h
    rfl
  · obtain ⟨a, t, es, ⟨k, p, n⟩, rfl, ⟨xs, hA, hF⟩, hS, ho, hw, hl, fin⟩ := h
    refine ⟨_, (pss_cons (ps_set (i := 4) sc__law_behind.nd rfl (.inl rfl) (pe_callTy call_list_of (by rfl) z_list (by decide +kernel) (pa_cons (pv 0) pa_nil)))
    (pss_cons (ps_asg (pe_cl C__law_sum hr (by decide) rfl (pa_cons (pe_lst (pa_cons (pe_ix ix_list (pv 4) (pv 1) (fun _ _ => rfl)) (pa_cons (pe_tup (pa_cons (pv 3) (pa_cons pe_int pa_nil))) (pa_cons (pe_tup (pa_cons (pe_op op_sub pe_int (pe_ix ix_tup (pv 2) pe_int (fun _ _ => rfl))) (pa_cons (pe_ix ix_tup (pv 2) pe_int (fun _ _ => rfl)) pa_nil))) pa_nil)))) pa_nil)) (pg_sub (pv 4) (pv 1) set_list))
    (pss_one (ps_ret (pe_callTy call_tupE (by rfl) z_tuple (by decide +kernel) (pa_cons (pv 4) pa_nil)))))), ?_⟩
    have big : sizeLine = 16777216 := by decide
    have lx := hF.len
    rw [List.length_map] at lx
    have hk : k < es.length := ho.kind
    obtain ⟨eb, he⟩ : ∃ e, es[k]? = some e := ⟨_, List.getElem?_eq_getElem hk⟩
    obtain ⟨u0, hu0, hU0⟩ := frs_get (p := U eb) (i := k) hF (by rw [List.getElem?_map, he]; rfl)
    refine ⟨_, rfl, a, xs, rfl, .inr hA, fun D nD => ?_⟩
    have sD := same_upd (o := .lst xs) nD
    have kD := upd_same (H := H) (a := D) (o := .lst xs)
    generalize L2.upd H D (.lst xs) = H1 at sD kD ⊢
    have hS1 := seqT sD hS
    refine ⟨_, rfl, _, rfl, D, xs, _, _, rfl, rfl, .inl (.inl kD), atI_nat hu0, ?_⟩
    refine ⟨_, rfl, by show 2 ≤ sizeLine; decide, fun W1 nW1 => ?_⟩
    have s2 := same_upd (o := .tup [.int n, .int 1]) nW1
    have k2 := upd_same (H := H1) (a := W1) (o := .tup [V.int n, V.int 1])
    generalize L2.upd H1 W1 (.tup [.int n, .int 1]) = H2 at s2 k2 ⊢
    refine ⟨_, rfl, t, _, _, _, rfl, rfl, seqT s2 hS1, at0 _ _, _, _, rfl, rfl, _, rfl, t, _, _, _, rfl, rfl, seqT s2 hS1, at1 _ _, by show 2 ≤ sizeLine; decide, fun W2 nW2 => ?_⟩
    have s3 := same_upd (o := .tup [.int (0 - p.1), .int p.2]) nW2
    have k3 := upd_same (H := H2) (a := W2) (o := .tup [V.int (0 - p.1), V.int p.2])
    refine ⟨by show 3 ≤ sizeLine; decide, fun L nL => ?_⟩
    have nL : (L2.upd H2 W2 (.tup [.int (0 - p.1), .int p.2])) L = none := nL
    have s4 := same_upd (o := .lst [.ref u0, .ref W1, .ref W2]) nL
    have k4 := upd_same (H := L2.upd H2 W2 (.tup [.int (0 - p.1), .int p.2])) (a := L) (o := .lst [V.ref u0, V.ref W1, V.ref W2])
    have s14 := s2.trans (s3.trans s4)
    have e1 : (n, (1 : Int)) = U (n * DL) := (U_whole n).symm
    have e2 : (0 - p.1, p.2) = U (-un p) := by
      have q : neg (U (un p)) = U (-un p) := neg_U _
      rw [U_un ho.amt.low ho.amt.dvd] at q
      rw [← q, Int.zero_sub]
      rfl
    have hw1 : SqT K (L2.upd (L2.upd H2 W2 (.tup [.int (0 - p.1), .int p.2])) L (.lst [.ref u0, .ref W1, .ref W2])) W1 (pV (U (n * DL))) := by
      rw [← e1]
      exact .inl (.inl ((s3.trans s4) _ _ k2))
    have hw2 : SqT K (L2.upd (L2.upd H2 W2 (.tup [.int (0 - p.1), .int p.2])) L (.lst [.ref u0, .ref W1, .ref W2])) W2 (pV (U (-un p))) := by
      rw [← e2]
      exact .inl (.inl (s4 _ _ k3))
    have hw0 := seqT (sD.trans s14) hU0
    have bn : (n * DL).natAbs < 2 ^ 66 := by
      rw [Int.natAbs_mul]
      have h1 : n.natAbs ≤ 1000001 := ho.whole
      have h2 : DL.natAbs ≤ 2 ^ 45 := by decide
      exact Nat.lt_of_le_of_lt (Nat.mul_le_mul h1 h2) (by decide)
    have be : eb.natAbs < 2 ^ 66 := Nat.lt_trans (within_lt hw eb (List.mem_of_getElem? he)) (by decide)
    generalize L2.upd (L2.upd H2 W2 (.tup [.int (0 - p.1), .int p.2])) L (.lst [.ref u0, .ref W1, .ref W2]) = H4 at s14 k4 hw0 hw1 hw2 ⊢
    clear s3 s4 k2 k3 nL nW1 nW2
    refine ⟨L, _, [eb, n * DL, -un p], rfl, .inl (.inl k4), ⟨⟨u0, rfl, hw0⟩, ⟨W1, rfl, hw1⟩, ⟨W2, rfl, hw2⟩, trivial⟩, (by show 3 ≤ 40; decide), fun c hc => ?_, fun H5 u s5 hu => ?_⟩
    · simp only [List.mem_cons, List.not_mem_nil, or_false] at hc
      rcases hc with rfl | rfl | rfl
      · exact be
      · exact bn
      · rw [Int.natAbs_neg]
        exact Nat.lt_trans ho.amt.un_lt (by decide)
    · have kD5 := (s14.trans s5) _ _ kD
      have es_ : ([eb, n * DL, -un p] : List Int).sum = eb + lineU p n := by
        show eb + (n * DL + (-un p + 0)) = eb + (n * DL - un p)
        omega
      rw [es_] at hu
      refine ⟨_, rfl, _, rfl, D, xs, _, k, rfl, rfl, kD5, ixN_nat (by omega), ?_⟩
      have kD6 := upd_same (H := H5) (a := D) (o := .lst (xs.set k (.ref u)))
      have s05 := sD.trans (s14.trans s5)
      have sm := HD.same_put (o := .lst (xs.set k (.ref u))) s05 nD
      refine ⟨_, rfl, D, _, rfl, .inl (.inl (.inl kD6)), fun H7 v s7 hv => fin H7 v (sm.trans s7) ⟨_, hv, ?_⟩⟩
      have e3 : (behU es (k, p, n)).map U = (es.map U).set k (U (eb + lineU p n)) := by
        show (es.set k (es.getD k 0 + lineU p n)).map U = _
        rw [List.map_set, List.getD_eq_getElem?_getD, he]
        rfl
      rw [e3]
      have f5 : Frs K H5 xs (es.map U) := hF.mono s05
      exact (Frs.updL kD5 (frs_set hu k f5)).mono s7
end
end K09
namespace CK
open PySem PySem.Spec PyProof.Rows L2 VG FR HD M9
/-- the law's totals: a tuple of lots -/
def TotsIn (K : PySem.W.Frag) (H : Hp) (t : Addr) (m : Nat) (ts : List (List Int)) : Prop := ∃ xs, SqT K H t xs ∧ Tots K H xs ts ∧ ts.length ≤ 12 ∧ ∀ c ∈ ts, LotOk (m : Int) c
theorem TotsIn.mono {K : PySem.W.Frag} {H H' : Hp} {t : Addr} {m : Nat} {ts : List (List Int)} (s : Same H H') (h : TotsIn K H t m ts) : TotsIn K H' t m ts := by
  obtain ⟨xs, h1, h2, h3⟩ := h
  exact ⟨xs, seqT s h1, h2.mono s, h3⟩
def spLawFirst (K : PySem.W.Frag) : Sp := fun vs H Q _ => ∃ (t d : Addr) (m : Nat) (ts : List (List Int)) (rs : List Line), vs = [.int (m : Int), .ref t, .ref d] ∧ TotsIn K H t m ts ∧ m ≤ 12 ∧ DayIn K H d m rs ∧ ∀ H', Same H H' → Q (offV (firstU ((courseU m ts rs).drop 1) 0)) H'
theorem cou_drop {m : Nat} {ts : List (List Int)} {rs : List Line} {i : Nat} (h : i < rs.length) : ((courseU m ts rs).drop 1)[i]? = some (totsU ts (errU m (rs.take (i + 1)))) := by
  unfold courseU
  rw [List.getElem?_drop, List.getElem?_map, Nat.add_comm 1 i, List.getElem?_range (by omega)]
  rfl
theorem rep_frs {K : PySem.W.Frag} {H : Hp} {z : Addr} (hz : SqT K H z (pV (0, 1))) : ∀ n : Nat, Frs K H (List.replicate n (V.ref z)) ((List.replicate n (0 : Int)).map U)
  | 0 => trivial
  | n + 1 => ⟨⟨z, rfl, by rw [U_zero]; exact hz⟩, rep_frs hz n⟩
theorem rep_one (v : V) : ∀ n : Nat, (List.replicate n [v]).flatten = List.replicate n v
  | 0 => rfl
  | n + 1 => by
    rw [List.replicate_succ, List.flatten_cons, rep_one v n, List.replicate_succ]
    rfl
end CK
namespace K09
open PySem PySem.Spec PyProof.Rows L2 VG FR CK HD M9
abbrev s__law_first_off : Stmt := topS 76
abbrev N__law_first_off : List Str := ["many", "totals", "day", "errors", "at", "one"]
theorem sc__law_first_off : FnScope N__law_first_off ["many", "totals", "day"] (defScope s__law_first_off) := ⟨rfl, rfl, rfl, by decide +kernel, rfl, by decide +kernel, by decide +kernel⟩
section
variable {P : Program} {w : World} {K : PySem.W.Frag} {mg : Str → Option Value} {base : Heap}
theorem ok__law_first_off {f : Addr} {fd : FuncData} (F : Fun K "_law_first_off" "_law_first_off" s__law_first_off f fd) (C__law_behind : Cl P w K mg base 3 "_law_behind" (spBehind K)) (C__law_sums : Cl P w K mg base 3 "_law_sums" (spLawSums K)) (C__law_small : Cl P w K mg base 1 "_law_small" (spLawSmall K)) (z_len : mg "len" = none) (z_range : mg "range" = none) (z_all : mg "all" = none) : FnOk P w K mg base CX0 4 f fd ["many", "totals", "day"] (spLawFirst K) := by
  refine F.ok sc__law_first_off (fun vs H Q E h => ?_) (fun cdv A outer s H vs Q E hr h => ?_)
  · obtain ⟨_, _, _, _, _, rfl, _⟩ := h
    rfl
  · obtain ⟨t, d, m, ts, rs, rfl, ⟨xs, hS, hT, lt, lots⟩, lm, ⟨ys, hD, hL, ho, hl⟩, fin⟩ := h
    refine ⟨_, (pss_cons (ps_set (i := 3) sc__law_first_off.nd rfl (.inl rfl) (pe_op op_repA (pe_tup (pa_cons (pe_tup (pa_cons pe_int (pa_cons pe_int pa_nil))) pa_nil)) (pv 0)))
    (pss_cut (ps_for PassesOwn.never rfl (pi_range1 (by rfl) z_range (pa_cons (pe_callB call_len_seq (by rfl) z_len (by decide +kernel) (pa_cons (pv 2) pa_nil)) pa_nil)) (pg_name (i := 4) sc__law_first_off.nd rfl (.inl rfl))
      (pss_cons (ps_set (i := 3) sc__law_first_off.nd rfl (.inl rfl) (pe_cl C__law_behind hr (by decide) rfl (pa_cons (pv 3) (pa_cons (pe_ix ix_tup (pe_ix ix_tup (pv 2) (pv 4) (fun _ _ => rfl)) pe_int (fun _ _ => rfl)) (pa_cons (pe_ix ix_tup (pe_ix ix_tup (pv 2) (pv 4) (fun _ _ => rfl)) pe_int (fun _ _ => rfl)) (pa_cons (pe_ix ix_tup (pe_ix ix_tup (pv 2) (pv 4) (fun _ _ => rfl)) pe_int (fun _ _ => rfl)) pa_nil))))))
      (pss_one (ps_if (pt_not (pt_val (pe_callB (cr_all rfl) (by rfl) z_all (by decide +kernel) (pa_cons (pe_lc (own := [("one", 5)]) (by rfl) sc__law_first_off.nd (pi_tup (pe_cl C__law_sums hr (by decide) rfl (pa_cons (pv 1) (pa_cons (pv 3) pa_nil)))) (blkOk_by (own := [("one", 5)]) (N := N__law_first_off) (sc := defScope s__law_first_off) (by decide +kernel)) (fun _ _ _ _ _ => (pg_name (i := 5) sc__law_first_off.nd rfl (.inl rfl))) (fun _ _ _ _ _ => pts_nil) (fun _ _ _ _ _ => (pe_cl C__law_small hr (by decide) rfl (pa_cons (pv 5) pa_nil)))) pa_nil))))
        (pss_one (ps_ret (pv 4)))
        pss_nil))))
    (pss_one (ps_ret pe_non)))), ?_⟩
    have big : sizeLine = 16777216 := by decide
    have ly := hL.len
    refine ⟨by show 2 ≤ sizeLine; decide, fun z nz => ?_⟩
    have s1 := same_upd (o := .tup [.int 0, .int 1]) nz
    have k1 := upd_same (H := H) (a := z) (o := .tup [V.int 0, V.int 1])
    generalize L2.upd H z (.tup [.int 0, .int 1]) = H1 at s1 k1 ⊢
    refine ⟨by show 1 ≤ sizeLine; decide, fun q nq => ?_⟩
    have s2 := same_upd (o := .tup [.ref z]) nq
    have k2 := upd_same (H := H1) (a := q) (o := .tup [V.ref z])
    generalize L2.upd H1 q (.tup [.ref z]) = H2 at s2 k2 ⊢
    refine ⟨_, rfl, q, m, [.ref z], rfl, rfl, .inl (.inl k2), by simp, by omega, (by show 1 ≤ 1000; decide), fun e0 H3 s3 ke => ?_⟩
    rw [rep_one] at ke
    have s13 := s1.trans (s2.trans s3)
    have hE0 : EU K H3 e0 (errU m (rs.take 0)) := ⟨_, ke, rep_frs (.inl (.inl ((s2.trans s3) _ _ k1))) m⟩
    clear k1 k2 ke nz nq
    refine ⟨fun σ H' => Same H H' ∧ firstU ((courseU m ts rs).drop 1) 0 = none, ?_, ?_⟩
    · refine ⟨_, rfl, d, ys, rfl, .inr (seqT s13 hD), _, rfl, by omega, by omega, ?_⟩
      refine for_it (walk_range (lo := 0) (n := ((ys.length : Nat) : Int).toNat)) (fun i σ H' => (∃ (u : Addr) (y4 y5 : Option V), σ = [some (.int m), some (.ref t), some (.ref d), some (.ref u), y4, y5] ∧ EU K H' u (errU m (rs.take i))) ∧ Same H H' ∧ ∀ j < i, ∃ e, ((courseU m ts rs).drop 1)[j]? = some e ∧ smallU e = true) ⟨⟨e0, _, _, rfl, hE0⟩, s13, fun j hj => by omega⟩ (fun _ _ _ _ _ => trivial) ?_ ?_
      · rintro i v σ H4 H5 hi ⟨⟨u, y4, y5, rfl, hE⟩, sm, all⟩ ⟨rfl, rfl⟩
        have hi2 : i < ys.length := by have : i < ((ys.length : Nat) : Int).toNat := hi; omega
        obtain ⟨v, ev⟩ : ∃ v, ys[i]? = some v := ⟨_, List.getElem?_eq_getElem hi2⟩
        obtain ⟨r, er, t1, q1, rfl, h1, h2⟩ := hL.get ev
        have ixx : atI ys ((0 : Int) + (i : Nat)) = some (.ref t1) := by rw [Int.zero_add]; exact atI_nat ev
        have ew := errU_at i ho (by omega)
        have ew1 := errU_at (i + 1) ho (by omega)
        have hD4 := seqT sm hD
        have h14 := seqT sm h1
        have lit := List.length_take (i := i + 1) (l := rs)
        refine ⟨_, rfl, _, rfl, _, rfl, d, ys, _, _, rfl, rfl, hD4, ixx, t1, _, _, _, rfl, rfl, h14, at00 _ _, ?_⟩
        refine ⟨_, rfl, _, rfl, d, ys, _, _, rfl, rfl, hD4, ixx, t1, _, _, _, rfl, rfl, h14, atI_nat (j := 1) rfl, ?_⟩
        refine ⟨_, rfl, _, rfl, d, ys, _, _, rfl, rfl, hD4, ixx, t1, _, _, _, rfl, rfl, h14, atI_nat (j := 2) rfl, ?_⟩
        refine ⟨u, q1, _, r, rfl, hE, seqT sm h2, by rw [ew.2]; exact ho r (List.mem_of_getElem? er), ew.1, by rw [ew.2]; omega, fun H6 u6 s6 hu6 => ?_⟩
        rw [← errU_take er] at hu6
        have s46 := sm.trans s6
        refine ⟨_, rfl, _, rfl, t, u6, xs, ts, _, rfl, seqT s46 hS, hT.mono s46, lt, fun c hc => ⟨by have := lot_len (lots c hc); omega, fun k hk => by rw [ew1.2]; exact (lots c hc).2.1 k hk⟩, hu6, ew1.1, fun H7 u7 s7 hu7 => ?_⟩
        have hE7 := hu6.mono s7
        obtain ⟨zs, hZ, hF⟩ := hu7
        have lz := hF.len
        rw [List.length_map] at lz
        have ltz : (totsU ts (errU m (rs.take (i + 1)))).length = ts.length := tots_len ..
        refine ⟨u7, rfl, ⟨_, hZ⟩, fun D nD => ?_⟩
        refine lc_it (walk_tup (K := K) (a := u7) (xs := zs)) (fun j H' => Same H7 H' ∧ H' D = some (.lst (((((totsU ts (errU m (rs.take (i + 1)))).take j).map fun e => decide (-DL < e ∧ e < DL)).map V.bl)))) ⟨same_upd nD, upd_same⟩ (fun j H' _ h => seqT h.1 hZ) ?_ ?_
        · rintro j v H8 H9 hj ⟨sm8, hD8⟩ ⟨rfl, ex⟩
          obtain ⟨t8, p8, rfl, ep, ht8⟩ := hF.get ex
          rw [List.getElem?_map] at ep
          obtain ⟨c, ec, rfl⟩ := Option.map_eq_some_iff.mp ep
          refine ⟨rfl, _, rfl, t8, c, rfl, seqT sm8 ht8, ?_⟩
          refine ⟨_, hD8, ?_, HD.same_put sm8 nD, ?_⟩
          · rw [List.length_map, List.length_map, List.length_take]
            omega
          · have tk : ∀ (l : List Int), l[j]? = some c → l.take (j + 1) = l.take j ++ [c] := fun l h => by
              rw [List.take_add_one, h]
              rfl
            rw [upd_same, tk _ ec, List.map_append, List.map_append]
            rfl
        · rintro H8 ⟨sm8, hD8⟩
          rw [List.take_of_length_le (by omega)] at hD8
          refine ⟨D, _, rfl, .inl (.inl hD8), ?_⟩
          have s78 := s7.trans sm8
          have e1 : ((totsU ts (errU m (rs.take (i + 1)))).map fun e => decide (-DL < e ∧ e < DL)).all id = smallU (totsU ts (errU m (rs.take (i + 1)))) := by
            rw [List.all_map]
            rfl
          rw [e1]
          have ecs := cou_drop (m := m) (ts := ts) (rs := rs) (i := i) (by omega)
          cases hs : smallU (totsU ts (errU m (rs.take (i + 1)))) with
          | true =>
            refine ⟨_, rfl, iteF ⟨⟨u6, _, _, rfl, hE7.mono sm8⟩, s46.trans s78, fun j hj => ?_⟩⟩
            rcases Nat.lt_or_eq_of_le (Nat.le_of_lt_succ hj) with z | z
            · exact all j z
            · subst z
              exact ⟨_, ecs, hs⟩
          | false =>
            refine ⟨_, rfl, iteT ⟨_, rfl, ?_⟩⟩
            have q := fin H8 (s46.trans s78)
            have lc := course_len m ts rs
            have hlt : i < ((courseU m ts rs).drop 1).length := by rw [List.length_drop, lc]; omega
            rw [first_at _ i 0 all (by omega)] at q
            obtain ⟨_, hq2⟩ := List.getElem?_eq_some_iff.mp ecs
            rw [List.drop_eq_getElem_cons hlt, hq2] at q
            have e : firstU (totsU ts (errU m (rs.take (i + 1))) :: ((courseU m ts rs).drop 1).drop (i + 1)) (0 + i) = some i := by
              rw [firstU, hs, Nat.zero_add]
              rfl
            rw [e] at q
            have q2 : Q (.int ((0 : Int) + (i : Nat))) H8 := by
              rw [Int.zero_add]
              exact q
            exact q2
      · rintro σ H4 ⟨⟨u, y4, y5, rfl, hE⟩, sm, all⟩
        refine ⟨sm, ?_⟩
        have lc := course_len m ts rs
        have e : ((ys.length : Nat) : Int).toNat = ((courseU m ts rs).drop 1).length := by rw [List.length_drop, lc]; omega
        rw [e] at all
        rw [first_at _ _ 0 all (Nat.le_refl _), List.drop_length]
        rfl
    · rintro σ H4 ⟨sm, e⟩
      have q := fin H4 sm
      rw [e] at q
      exact q
end
end K09
namespace CK
open PySem PySem.Spec PyProof.Rows L2 VG FR HD M9
def fronts9 : List Str := [("" : String), ("b" : String), ("zz" : String), ("mnopq" : String)]
def lett9 (j : Nat) : Nat := cABC.cps.toList.getD ((2 * j) % 26) 0
def baseN9 (fr : Str) (j : Nat) : Str := fr ++ (⟨#[lett9 j]⟩ : Str)
def front9 (fr : Str) (b : Bool) : Str := if b = true then (("a" : String) : Str) else baseN9 fr 0
def namesL9 (fr : Str) (m : Nat) (b : Bool) : List Str := ((List.range m).map (baseN9 fr)).set 0 (front9 fr b)
theorem names9_all : (fronts9.all fun fr => [true, false].all fun b => decide ((namesL9 fr 12 b).map fun z => z.cps.toList).Nodup && (namesL9 fr 12 b).all nmB) = true := by decide +kernel
theorem names9_fine {fr : Str} (hf : fr ∈ fronts9) {m : Nat} (hm : m ≤ 12) (m1 : 1 ≤ m) (b : Bool) : (namesL9 fr m b).Nodup ∧ ∀ z ∈ namesL9 fr m b, NameOk z := by
  have h2 := List.all_eq_true.mp (List.all_eq_true.mp names9_all fr hf) b (by cases b <;> simp)
  rw [Bool.and_eq_true] at h2
  have e : namesL9 fr m b = (namesL9 fr 12 b).take m := by
    refine List.ext_getElem? fun j => ?_
    unfold namesL9
    by_cases jm : j < m
    · rw [List.getElem?_take_of_lt jm]
      by_cases ja : 0 = j
      · subst ja
        rw [List.getElem?_set_self (by rw [List.length_map, List.length_range]; exact m1), List.getElem?_set_self (by rw [List.length_map, List.length_range]; omega)]
      · rw [List.getElem?_set_ne ja, List.getElem?_set_ne ja, List.getElem?_map, List.getElem?_map, List.getElem?_range jm, List.getElem?_range (by omega)]
    · rw [List.getElem?_eq_none (by rw [List.length_set, List.length_map, List.length_range]; omega), List.getElem?_eq_none (by rw [List.length_take]; omega)]
  have nd : (namesL9 fr 12 b).Nodup := List.Pairwise.imp (fun {x y} h e => h (by rw [e])) (List.pairwise_map.mp (of_decide_eq_true h2.1))
  rw [e]
  exact ⟨nd.sublist (List.take_sublist _ _), fun z hz => ok_of_B (List.all_eq_true.mp h2.2 z (List.mem_of_mem_take hz))⟩
theorem lett9_at (j : Nat) (h : j < 12) : cABC.cps.toList[(2 * j) % 26]? = some (lett9 j) := by
  have all : ∀ i : Fin 12, cABC.cps.toList[(2 * i.1) % 26]? = some (lett9 i.1) := by decide +kernel
  exact all ⟨j, h⟩
theorem front9_len {fr : Str} (h : fr ∈ fronts9) : fr.length ≤ 5 := by
  have all : (fronts9.all fun z => decide (z.length ≤ 5)) = true := by decide +kernel
  exact of_decide_eq_true (List.all_eq_true.mp all fr h)
end CK
namespace K09
open PySem PySem.Spec PyProof.Rows L2 VG FR CK HD M9
abbrev s__law_names : Stmt := topS 58
abbrev N__law_names : List Str := ["heap", "many", "letters", "front", "found", "at"]
theorem sc__law_names : FnScope N__law_names ["heap", "many"] (defScope s__law_names) := ⟨rfl, rfl, rfl, by decide +kernel, rfl, by decide +kernel, by decide +kernel⟩
section
variable {P : Program} {w : World} {K : PySem.W.Frag} {mg : Str → Option Value} {base : Heap}
theorem ok__law_names {f : Addr} {fd : FuncData} (F : Fun K "_law_names" "_law_names" s__law_names f fd) (C__law_draw : Cl P w K mg base 1 "_law_draw" spDraw) (C__law_pick : Cl P w K mg base 2 "_law_pick" (spPick K))
    (z_int : mg "int" = none) (z_range : mg "range" = none) (z_tuple : mg "tuple" = none) (z_sorted : mg "sorted" = none) :
    FnOk P w K mg base CX0 3 f fd ["heap", "many"] (spLawNames K) := by
  refine F.ok sc__law_names (fun vs H Q E h => ?_) (fun cdv A outer s H vs Q E hr h => ?_)
  · obtain ⟨p, q, m, rfl, _⟩ := h
    rfl
  · obtain ⟨p, q, m, rfl, hd, m0, m1, fin⟩ := h
    refine ⟨_, (pss_cons (ps_asg (pe_tup (pa_cons pe_str (pa_cons (pe_cl C__law_pick hr (by decide) rfl (pa_cons (pv 0) (pa_cons (pe_lst (pa_cons pe_str (pa_cons pe_str (pa_cons pe_str (pa_cons pe_str pa_nil))))) pa_nil))) pa_nil))) (pg_tup rfl (pgs_cons (pg_name (i := 2) sc__law_names.nd rfl (.inr rfl)) (pgs_cons (pg_name (i := 3) sc__law_names.nd rfl (.inr rfl)) pgs_nil))))
    (pss_cons (ps_setLc (i := 4) (own := [("at", 5)]) (by rfl) sc__law_names.nd rfl rfl (sw_true rfl rfl rfl (by decide +kernel)) (pi_range1 (by rfl) z_range (pa_cons (pv 1) pa_nil)) (blkOk_by (own := [("at", 5)]) (N := N__law_names) (sc := defScope s__law_names) (by decide +kernel)) (fun _ _ _ _ _ => (pg_name (i := 5) sc__law_names.nd rfl (.inl rfl))) (fun _ _ _ _ _ => pts_nil) (fun _ _ _ _ _ => (pe_op op_add_str (pv 3) (pe_item_str (pv 2) (pe_op op_modN (pe_callTy call_int1 (by rfl) z_int (by decide +kernel) (pa_cons (pe_op op_mulW (pv 5) pe_int) pa_nil)) pe_int) (fun _ _ => rfl)))))
    (pss_cons (ps_asg (pe_meet (pe_ifExp (pt_cmpR op_eq (pe_cl C__law_draw hr (by decide) rfl (pa_cons (pv 0) (pa_cons pe_int pa_nil))) pe_int (nomark _)) pe_str (pe_ix ix_list (pv 4) pe_int (fun _ _ => rfl)))) (pg_sub (pv 4) pe_int set_list))
    (pss_one (ps_ret (pe_callTy call_tuple_of (by rfl) z_tuple (by decide +kernel) (pa_cons (pe_callB cr_sortedS (by rfl) z_sorted (by decide +kernel) (pa_cons (pv 4) pa_nil)) pa_nil))))))), ?_⟩
    have big : sizeLine = 16777216 := by decide
    have on0 := On.start hd
    refine ⟨_, rfl, by show 4 ≤ sizeLine; decide, fun L nL => ?_⟩
    have fL := on0.free nL
    have on1 := on0.new (o := .lst [.str ("" : String), .str ("b" : String), .str ("zz" : String), .str ("mnopq" : String)]) nL
    refine ⟨p, q, L, _, rfl, on1.hd, upd_same, fL.1, fL.2.1, by simp, by show 4 < 1000000; decide, fun H2 v hd2 kp2 hv => ?_⟩
    have on2 := on1.draw hd2 kp2
    obtain ⟨fr, hfr, rfl⟩ : ∃ fr ∈ fronts9, v = V.str fr := by
      have e : ([.str ("" : String), .str ("b" : String), .str ("zz" : String), .str ("mnopq" : String)] : List V) = fronts9.map V.str := rfl
      rw [e] at hv
      obtain ⟨z, hz, e⟩ := List.mem_map.mp hv
      exact ⟨z, hz, e.symm⟩
    refine ⟨by show 2 ≤ sizeLine; decide, fun T nT => ?_⟩
    have on3 := on2.new (o := .tup [.str cABC, .str fr]) nT
    refine ⟨T, _, rfl, sqt upd_same, rfl, _, _, rfl, _, _, rfl, rfl, ?_⟩
    generalize L2.upd H2 T (.tup [.str cABC, .str fr]) = H3 at on3 ⊢
    clear on1 on2 kp2 hd2 hv nL nT
    refine ⟨_, rfl, _, rfl, by omega, by omega, fun D nD => ?_⟩
    have fD := on3.free nD
    generalize frz p q H = G at *
    have fl5 := front9_len hfr
    refine lc_it (walk_range (lo := 0) (n := ((m : Nat) : Int).toNat)) (fun i H' => On p q G H' ∧ H' D = some (.lst (((List.range i).map (baseN9 fr)).map V.str))) ⟨on3.new nD, upd_same⟩ (fun _ _ _ _ => trivial) ?_ ?_
    · rintro i x H4 H5 hi ⟨on4, kD⟩ ⟨rfl, rfl⟩
      have hi2 : i < m := by have : i < ((m : Nat) : Int).toNat := hi; omega
      have e0 : (0 : Int) + (i : Nat) = (i : Nat) := Int.zero_add _
      have hmod : (((0 : Int) + (i : Nat)) * 2).fmod 26 = (((2 * i) % 26 : Nat) : Int) := by
        have := fmod_nat (2 * i) (m := 26) (by decide)
        rw [← this, e0]
        congr 1
        omega
      have hm2 : (2 * i) % 26 < 26 := Nat.mod_lt _ (by decide)
      refine ⟨rfl, _, rfl, _, rfl, _, rfl, _, _, rfl, rfl, mulW (up (n := 40) (by omega) (by decide)) (up (n := 40) (by decide) (by decide)), .inl ⟨_, rfl, _, _, rfl, rfl, by show (26 : Int) ≠ 0; decide, cABC, _, lett9 i, rfl, rfl, ?_, ?_, ?_, ?_, ?_⟩⟩
      · rw [hmod]; omega
      · rw [hmod, show ((2 : Int) ^ 63) = 9223372036854775808 from by decide]
        omega
      · rw [hmod, show cABC.length = 26 from by decide +kernel]
        omega
      · rw [hmod, Int.toNat_natCast, ← Array.getElem?_toList]
        exact lett9_at i (by omega)
      refine ⟨_, _, rfl, rfl, by show fr.length + 1 ≤ sizeLine; omega, _, kD, by rw [List.length_map, List.length_map, List.length_range]; omega, on4.put fD, ?_⟩
      rw [upd_same, List.range_succ, List.map_append, List.map_append]
      rfl
    clear on3
    rintro H4 ⟨on4, kD⟩
    rw [Int.toNat_natCast] at kD
    have eat : (((List.range m).map (baseN9 fr)).map V.str)[0]? = some (.str (baseN9 fr 0)) := by
      rw [List.getElem?_map, List.getElem?_map, List.getElem?_range (by omega)]
      rfl
    refine ⟨fun v H' => ∃ b : Bool, v = .str (front9 fr b) ∧ On p q G H' ∧ H' D = some (.lst (((List.range m).map (baseN9 fr)).map V.str)), ?_, ?_⟩
    · refine ⟨_, rfl, p, q, _, rfl, on4.hd, by decide, by decide, fun H5 r hd5 kp5 r0 r1 => ⟨rfl, _, rfl, ite2 (fun _ => ⟨true, rfl, on4.draw hd5 kp5, kp5 D _ fD.1 fD.2.1 kD⟩) (fun _ => ?_)⟩⟩
      exact ⟨_, rfl, D, _, _, _, rfl, rfl, .inl (.inl (kp5 D _ fD.1 fD.2.1 kD)), atI_nat (j := 0) eat, false, rfl, on4.draw hd5 kp5, kp5 D _ fD.1 fD.2.1 kD⟩
    · rintro _ H6 ⟨b, rfl, on6, k6⟩
      have ea : ixN (((List.range m).map (baseN9 fr)).map V.str).length ((0 : Nat) : Int) = some 0 := ixN_nat (by rw [List.length_map, List.length_map, List.length_range]; exact m0)
      refine ⟨_, rfl, D, _, _, 0, rfl, rfl, k6, ea, ?_⟩
      have eset : (((List.range m).map (baseN9 fr)).map V.str).set 0 (V.str (front9 fr b)) = (namesL9 fr m b).map V.str := by
        unfold namesL9
        rw [List.map_set]
      have k7 : (L2.upd H6 D (.lst ((((List.range m).map (baseN9 fr)).map V.str).set 0 (V.str (front9 fr b))))) D = some (.lst ((namesL9 fr m b).map V.str)) := by rw [upd_same, eset]
      have on7 : On p q G (L2.upd H6 D (.lst ((((List.range m).map (baseN9 fr)).map V.str).set 0 (V.str (front9 fr b))))) := on6.put fD
      have ll : (namesL9 fr m b).length = m := by unfold namesL9; rw [List.length_set, List.length_map, List.length_range]
      refine ⟨_, rfl, D, namesL9 fr m b, rfl, .inl (.inl k7), by omega, fun ys S pm so nS => ?_⟩
      have on8 := on7.new (o := .lst (ys.map V.str)) nS
      refine ⟨S, _, rfl, .inl ⟨.inl (.inl upd_same), fun u nu => ?_⟩⟩
      have on9 := on8.new (o := .tup (ys.map V.str)) nu
      have ⟨nd, ok⟩ := names9_fine hfr m1 m0 b
      have lp := pm.length_eq
      exact fin _ u ys on9 upd_same ⟨by omega, by omega, fun z hz => ok z (pm.mem_iff.mp hz), ascS_of so (pm.nodup_iff.mpr nd)⟩ (by omega)
end
end K09
namespace CK
open PySem PySem.Spec PyProof.Rows L2 VG FR HD M9
theorem same_of {H H' : Hp} {z : Addr} {o : HO} (n : H z = none) (e : L2.upd H z o = H') : Same H H' := e ▸ same_upd n
theorem at_of {H H' : Hp} {z : Addr} {o : HO} (e : L2.upd H z o = H') : H' z = some o := e ▸ upd_same
theorem Tots.app {K : PySem.W.Frag} {H : Hp} : ∀ {xs ys : List V} {ts us : List (List Int)}, Tots K H xs ts → Tots K H ys us → Tots K H (xs ++ ys) (ts ++ us)
  | [], _, [], _, _, h => h
  | _ :: _, _, _ :: _, _, h, g => ⟨h.1, Tots.app h.2 g⟩
theorem Tots.take {K : PySem.W.Frag} {H : Hp} : ∀ {xs : List V} {ts : List (List Int)} (n : Nat), Tots K H xs ts → Tots K H (xs.take n) (ts.take n)
  | [], [], 0, _ => trivial
  | [], [], _ + 1, _ => trivial
  | _ :: _, _ :: _, 0, _ => trivial
  | _ :: _, _ :: _, n + 1, h => ⟨h.1, Tots.take n h.2⟩
theorem rgV_ints (n : Int) : ∃ cs : List Int, rgV 0 n = cs.map V.int ∧ cs.length = n.toNat := ⟨(List.range (n - 0).toNat).map fun i => (0 : Int) + (i : Nat), by unfold rgV; rw [List.map_map]; rfl, by rw [List.length_map, List.length_range, Int.sub_zero]⟩
/-- totals as they are drawn: D lists them -/
structure TotW (K : PySem.W.Frag) (p q : Addr) (G : Hp) (n : Nat) (H : Hp) (D : Addr) (xs : List V) (ts : List (List Int)) (i : Nat) : Prop where
  on : On p q G H
  lst : H D = some (.lst xs)
  tots : Tots K H xs ts
  len : ts.length = i
  ok : ∀ c ∈ ts, LotOk (n : Int) c
section
variable {K : PySem.W.Frag} {p q : Addr} {G H H' : Hp} {n : Nat} {D : Addr} {xs : List V} {ts : List (List Int)} {i : Nat}
theorem TotW.draw (h : TotW K p q G n H D xs ts i) (fD : D ≠ p ∧ D ≠ q) (hd : Hd p q H') (k : Keep p q H H') : TotW K p q G n H' D xs ts i :=
  ⟨h.on.draw hd k, k D _ fD.1 fD.2 h.lst, h.tots.keep h.on.hd k, h.len, h.ok⟩
theorem TotW.same (h : TotW K p q G n H D xs ts i) (s : Same H H') : TotW K p q G n H' D xs ts i := ⟨h.on.same s, s _ _ h.lst, h.tots.mono s, h.len, h.ok⟩
theorem TotW.put (h : TotW K p q G n H D xs ts i) {S : Addr} {ys zs : List V} (f : S ≠ p ∧ S ≠ q ∧ G S = none) (ne : D ≠ S) (k : H S = some (.lst ys)) : TotW K p q G n (L2.upd H S (.lst zs)) D xs ts i :=
  ⟨h.on.put f, by rw [upd_ne ne]; exact h.lst, h.tots.upd k, h.len, h.ok⟩
theorem TotW.add (h : TotW K p q G n H D xs ts i) {t : Addr} {c : List Int} (f : D ≠ p ∧ D ≠ q ∧ G D = none) (ht : SqT K H t (c.map V.int)) (hc : LotOk (n : Int) c) : TotW K p q G n (L2.upd H D (.lst (xs ++ [.ref t]))) D (xs ++ [.ref t]) (ts ++ [c]) (i + 1) :=
  ⟨h.on.put f, upd_same, Tots.upd h.lst (Tots.snoc ht h.tots), by rw [List.length_append, h.len]; rfl, fun d hd => (List.mem_append.mp hd).elim (h.ok d) fun z => by rw [List.mem_singleton.mp z]; exact hc⟩
end
def spLawTots9 (K : PySem.W.Frag) : Sp := fun vs H Q _ => ∃ (p q : Addr) (n : Nat), vs = [.ref p, .int (n : Int)] ∧ Hd p q H ∧ 1 ≤ n ∧ n ≤ 12 ∧
  ∀ (H' : Hp) (u : Addr) (xs : List V) (ts : List (List Int)), On p q (frz p q H) H' → H' u = some (.tup xs) → Tots K H' xs ts → ts.length ≤ 12 → (∀ c ∈ ts, LotOk (n : Int) c) → Q (.ref u) H'
end CK
namespace K09
open PySem PySem.Spec PyProof.Rows L2 VG FR CK HD M9
abbrev s__law_totals : Stmt := topS 59
abbrev N__law_totals : List Str := ["heap", "many", "found", "shape", "at", "some", "kind"]
theorem sc__law_totals : FnScope N__law_totals ["heap", "many"] (defScope s__law_totals) := ⟨rfl, rfl, rfl, by decide +kernel, rfl, by decide +kernel, by decide +kernel⟩
section
variable {P : Program} {w : World} {K : PySem.W.Frag} {mg : Str → Option Value} {base : Heap}
theorem ok__law_totals {f : Addr} {fd : FuncData} (F : Fun K "_law_totals" "_law_totals" s__law_totals f fd) (C__law_draw : Cl P w K mg base 1 "_law_draw" spDraw) (C__law_pick : Cl P w K mg base 2 "_law_pick" (spPick K))
    (z_int : mg "int" = none) (z_range : mg "range" = none) (z_tuple : mg "tuple" = none) (z_list : mg "list" = none) :
    FnOk P w K mg base CX0 3 f fd ["heap", "many"] (spLawTots9 K) := by
  refine F.ok sc__law_totals (fun vs H Q E h => ?_) (fun cdv A outer s H vs Q E hr h => ?_)
  · obtain ⟨p, q, n, rfl, _⟩ := h
    rfl
  · obtain ⟨p, q, n, rfl, hd, n1, n12, fin⟩ := h
    refine ⟨_, (pss_cons (ps_par (i := 2) (j := 3) (by rfl) sc__law_totals.nd rfl rfl (by decide) rfl rfl (pa_cons (pe_lst pa_nil) (pa_cons (pe_cl C__law_draw hr (by decide) rfl (pa_cons (pv 0) (pa_cons pe_int pa_nil))) pa_nil)) (by rfl))
    (pss_cut (ps_for PassesOwn.never rfl (pi_range1 (by rfl) z_range (pa_cons (pe_cl C__law_pick hr (by decide) rfl (pa_cons (pv 0) (pa_cons (pe_lst (pa_cons pe_int (pa_cons pe_int (pa_cons pe_int (pa_cons pe_int (pa_cons pe_int (pa_cons pe_int pa_nil))))))) pa_nil))) pa_nil)) (pg_name (i := 4) sc__law_totals.nd rfl (.inl rfl))
      (pss_cons (ps_set (i := 5) sc__law_totals.nd rfl (.inr rfl) (pe_lc (own := [("kind", 6)]) (by rfl) sc__law_totals.nd (pi_range1 (by rfl) z_range (pa_cons (pv 1) pa_nil)) (blkOk_by (own := [("kind", 6)]) (N := N__law_totals) (sc := defScope s__law_totals) (by decide +kernel)) (fun _ _ _ _ _ => (pg_name (i := 6) sc__law_totals.nd rfl (.inl rfl))) (fun _ _ _ _ _ => (pts_one (pt_cmpR op_eq (pe_cl C__law_draw hr (by decide) rfl (pa_cons (pv 0) (pa_cons pe_int pa_nil))) pe_int (nomark _)))) (fun _ _ _ _ _ => (pv 6))))
      (pss_cut (ps_if (pt_cmpR op_eq (pv 3) pe_int (nomark _))
        (pss_one (ps_set (i := 5) sc__law_totals.nd rfl (.inr rfl) (pe_lst (pa_cons (pe_cl C__law_draw hr (by decide) rfl (pa_cons (pv 0) (pa_cons (pv 1) pa_nil))) (pa_cons (pe_cl C__law_draw hr (by decide) rfl (pa_cons (pv 0) (pa_cons (pv 1) pa_nil))) pa_nil)))))
        pss_nil)
      (pss_cut (ps_if (pt_cmpR op_eq (pv 3) pe_int (nomark _))
        (pss_one (ps_set (i := 5) sc__law_totals.nd rfl (.inr rfl) (pe_listRg rfl (by rfl) z_list (prg_1 (by rfl) z_range (pe_op op_modN (pe_callTy call_int1 (by rfl) z_int (by decide +kernel) (pa_cons (pe_op op_add (pv 4) pe_int) pa_nil)) (pe_callTy call_int1 (by rfl) z_int (by decide +kernel) (pa_cons (pe_op op_add (pv 1) pe_int) pa_nil)))))))
        pss_nil)
      (pss_cut (ps_if (pt_cmpR op_eq (pv 3) pe_int (nomark _))
        (pss_one (ps_set (i := 5) sc__law_totals.nd rfl (.inr rfl) (pe_lst (pa_cons (pe_op op_modN (pe_callTy call_int1 (by rfl) z_int (by decide +kernel) (pa_cons (pv 4) pa_nil)) (pv 1)) (pa_cons (pe_op op_modN (pe_callTy call_int1 (by rfl) z_int (by decide +kernel) (pa_cons (pe_op op_add (pv 4) pe_int) pa_nil)) (pv 1)) pa_nil)))))
        pss_nil)
      (pss_one (ps_expr (pe_bm PySem.F.plainAttrs_list PySem.F.slot_list_append PySem.F.type_list_append mt_append (pv 2) (pa_cons (pe_callTy call_tuple_of (by rfl) z_tuple (by decide +kernel) (pa_cons (pe_lc (own := [("kind", 6)]) (by rfl) sc__law_totals.nd (pi_range1 (by rfl) z_range (pa_cons (pv 1) pa_nil)) (blkOk_by (own := [("kind", 6)]) (N := N__law_totals) (sc := defScope s__law_totals) (by decide +kernel)) (fun _ _ _ _ _ => (pg_name (i := 6) sc__law_totals.nd rfl (.inl rfl))) (fun _ _ _ _ _ => (pts_one (pt_cmpR (show OpR _ (compareOp .In) (rIn K false) from op_in_seq) (pv 6) (pv 5) rfl))) (fun _ _ _ _ _ => (pv 6))) pa_nil)) pa_nil)))))))))
    (pss_cut (ps_if (PW.pt (pw_and (pt_cmpR (op_neD hr.units) (pv 2) (pe_lst pa_nil) (nomark _)) (pw_and1 (pt_cmpR op_eq (pe_cl C__law_draw hr (by decide) rfl (pa_cons (pv 0) (pa_cons pe_int pa_nil))) pe_int (nomark _)))))
      (pss_one (ps_set (i := 2) sc__law_totals.nd rfl (.inl rfl) (pe_cl C__law_pick hr (by decide) rfl (pa_cons (pv 0) (pa_cons (pe_lst (pa_cons (pe_op op_cat (pv 2) (pe_slice sl_list (pv 2) po_none (po_some pe_int))) (pa_cons (pe_op op_cat (pv 2) (pe_lst (pa_cons (pe_tup pa_nil) pa_nil))) pa_nil))) pa_nil)))))
      pss_nil)
    (pss_one (ps_ret (pe_callTy call_tuple_of (by rfl) z_tuple (by decide +kernel) (pa_cons (pv 2) pa_nil))))))), ?_⟩
    have big : sizeLine = 16777216 := by decide
    have on0 := On.start hd
    refine ⟨by show 0 ≤ sizeLine; exact Nat.zero_le _, fun D nD => ?_⟩
    have fD := on0.free nD
    have on1 := on0.new (o := .lst []) nD
    have kD := upd_same (H := H) (a := D) (o := .lst [])
    generalize L2.upd H D (.lst []) = H1 at on1 kD ⊢
    generalize frz p q H = G at *
    refine ⟨_, rfl, p, q, _, rfl, on1.hd, by decide, by decide, fun H2 sh hd2 kp2 r0 r1 => ?_⟩
    have W2 : TotW K p q G n H2 D [] [] 0 := ⟨on1.draw hd2 kp2, kp2 D _ fD.1 fD.2.1 kD, trivial, rfl, fun c h => by cases h⟩
    refine ⟨_, _, rfl, ?_⟩
    clear on1 kD hd2 kp2
    refine ⟨fun σ H' => (∃ y4 y5 : Option V, σ = [some (.ref p), some (.int n), some (.ref D), some (.int sh), y4, y5, none]) ∧ ∃ xs ts i, TotW K p q G n H' D xs ts i ∧ i ≤ 4, ?_, ?_⟩
    · refine ⟨_, rfl, by show 6 ≤ sizeLine; decide, fun L nL => ?_⟩
      have fL := W2.on.free nL
      have W3 := W2.same (same_upd (o := .lst [.int 3, .int 2, .int 4, .int 1, .int 3, .int 0]) nL)
      refine ⟨p, q, L, _, rfl, W3.on.hd, upd_same, fL.1, fL.2.1, by simp, by show 6 < 1000000; decide, fun H4 v hd4 kp4 hv => ?_⟩
      have W4 := W3.draw ⟨fD.1, fD.2.1⟩ hd4 kp4
      obtain ⟨k, rfl, k4⟩ : ∃ k : Nat, v = .int (k : Int) ∧ k ≤ 4 := by
        simp only [List.mem_cons, List.not_mem_nil, or_false] at hv
        rcases hv with e | e | e | e | e | e
        · exact ⟨3, e, by decide⟩
        · exact ⟨2, e, by decide⟩
        · exact ⟨4, e, by decide⟩
        · exact ⟨1, e, by decide⟩
        · exact ⟨3, e, by decide⟩
        · exact ⟨0, e, by decide⟩
      clear W2 W3 hd4 kp4 hv nL
      refine ⟨_, rfl, by omega, by omega, ?_⟩
      refine for_it (walk_range (lo := 0) (n := ((k : Nat) : Int).toNat)) (fun i σ H' => (∃ y4 y5 : Option V, σ = [some (.ref p), some (.int n), some (.ref D), some (.int sh), y4, y5, none]) ∧ ∃ xs ts, TotW K p q G n H' D xs ts i) ⟨⟨_, _, rfl⟩, [], [], W4⟩ (fun _ _ _ _ _ => trivial) ?_ ?_
      · rintro i x σ H5 H6 hi ⟨⟨y4, y5, rfl⟩, xs, ts, W⟩ ⟨rfl, rfl⟩
        have hi2 : i < k := by have : i < ((k : Nat) : Int).toNat := hi; omega
        have e0 : (0 : Int) + (i : Nat) = (i : Nat) := Int.zero_add _
        let St : L2.St → Hp → Prop := fun σ H' => (∃ (S : Addr) (c : List Int), σ = [some (.ref p), some (.int n), some (.ref D), some (.int sh), some (.int ((0 : Int) + (i : Nat))), some (.ref S), none] ∧ H' S = some (.lst (c.map V.int)) ∧ c.length ≤ 100) ∧ TotW K p q G n H' D xs ts i
        -- some
        refine ⟨_, rfl, _, rfl, by omega, by omega, fun S nS => ?_⟩
        have fS := W.on.free nS
        have nDS : D ≠ S := ne_of_none W.lst nS
        refine lc_it (walk_range (lo := 0) (n := ((n : Nat) : Int).toNat)) (fun j H' => TotW K p q G n H' D xs ts i ∧ ∃ c : List Int, H' S = some (.lst (c.map V.int)) ∧ c.length ≤ j) ⟨W.same (same_upd nS), [], upd_same, Nat.le_refl _⟩ (fun _ _ _ _ => trivial) ?_ ?_
        · rintro j x H7 H8 hj ⟨W7, c, kS, lc⟩ ⟨rfl, rfl⟩
          have hj2 : j < n := by have : j < ((n : Nat) : Int).toNat := hj; omega
          refine ⟨rfl, _, rfl, p, q, _, rfl, W7.on.hd, by decide, by decide, fun H9 r hd9 kp9 r0 r1 => ?_⟩
          have W9 := W7.draw ⟨fD.1, fD.2.1⟩ hd9 kp9
          have kS9 := kp9 S _ fS.1 fS.2.1 kS
          refine ⟨rfl, _, rfl, ite2 (fun _ => ?_) (fun _ => ⟨W9, c, kS9, by omega⟩)⟩
          refine ⟨_, rfl, _, kS9, by rw [List.length_map]; omega, W9.put fS nDS kS9, c ++ [(0 : Int) + (j : Nat)], by rw [upd_same, List.map_append]; rfl, by rw [List.length_append]; show c.length + 1 ≤ j + 1; omega⟩
        rintro H7 ⟨W7, c, kS, lc⟩
        have st7 : St [some (.ref p), some (.int n), some (.ref D), some (.int sh), some (.int ((0 : Int) + (i : Nat))), some (.ref S), none] H7 := ⟨⟨S, c, rfl, kS, by omega⟩, W7⟩
        clear W7 kS lc c W
        -- two drawn ones
        refine ⟨St, ?_, ?_⟩
        · refine ⟨_, rfl, rfl, _, rfl, ite2 (fun _ => ?_) (fun _ => st7)⟩
          obtain ⟨_, W7⟩ := st7
          refine ⟨_, rfl, _, rfl, p, q, _, rfl, W7.on.hd, by omega, by omega, fun H8 r hd8 kp8 r0 r1 => ?_⟩
          have W8 := W7.draw ⟨fD.1, fD.2.1⟩ hd8 kp8
          refine ⟨_, rfl, _, rfl, p, q, _, rfl, W8.on.hd, by omega, by omega, fun H9 t hd9 kp9 t0 t1 => ?_⟩
          have W9 := W8.draw ⟨fD.1, fD.2.1⟩ hd9 kp9
          refine ⟨by show 2 ≤ sizeLine; decide, fun Z nZ => ?_⟩
          exact ⟨⟨Z, [r, t], rfl, upd_same, by show 2 ≤ 100; decide⟩, W9.same (same_upd nZ)⟩
        clear st7
        rintro σ H8 ⟨⟨S8, c8, rfl, kS8, l8⟩, W8⟩
        -- the first ones
        refine ⟨St, ?_, ?_⟩
        · refine ⟨_, rfl, rfl, _, rfl, ite2 (fun _ => ?_) (fun _ => ⟨⟨S8, c8, rfl, kS8, l8⟩, W8⟩)⟩
          have fm := fmod_lt ((0 : Int) + (i : Nat) + 1) (m := (n : Int) + 1) (by omega)
          refine ⟨_, rfl, _, _, rfl, rfl, .inl ⟨_, rfl, _, rfl, _, _, rfl, rfl, .inl ⟨_, rfl, _, _, rfl, rfl, by show (n : Int) + 1 ≠ 0; omega, _, rfl, RgOk.of_le (by decide) (by omega) (by decide) (by omega), fun Z nZ => ?_⟩⟩⟩
          obtain ⟨cs, ecs, lcs⟩ := rgV_ints (((0 : Int) + (i : Nat) + 1).fmod ((n : Int) + 1))
          exact ⟨⟨Z, cs, rfl, by rw [upd_same, ecs], by omega⟩, W8.same (same_upd nZ)⟩
        rintro σ H9 ⟨⟨S9, c9, rfl, kS9, l9⟩, W9⟩
        -- rings
        refine ⟨St, ?_, ?_⟩
        · refine ⟨_, rfl, rfl, _, rfl, ite2 (fun _ => ?_) (fun _ => ⟨⟨S9, c9, rfl, kS9, l9⟩, W9⟩)⟩
          refine ⟨_, rfl, .inl ⟨_, rfl, _, rfl, _, _, rfl, rfl, by show (n : Int) ≠ 0; omega, _, rfl, _, _, rfl, rfl, .inl ⟨_, rfl, _, rfl, _, _, rfl, rfl, by show (n : Int) ≠ 0; omega, by show 2 ≤ sizeLine; decide, fun Z nZ => ?_⟩⟩⟩
          exact ⟨⟨Z, [_, _], rfl, upd_same, by show 2 ≤ 100; decide⟩, W9.same (same_upd nZ)⟩
        rintro σ H10 ⟨⟨S10, c10, rfl, kS10, l10⟩, W10⟩
        refine ⟨_, rfl, .inl ⟨rfl, _, .inl (.inl W10.lst)⟩, _, rfl, _, rfl, by omega, by omega, fun L nL => ?_⟩
        have fL := W10.on.free nL
        have nDL : D ≠ L := ne_of_none W10.lst nL
        have nSL : S10 ≠ L := ne_of_none kS10 nL
        refine lc_it (walk_range (lo := 0) (n := ((n : Nat) : Int).toNat)) (fun j H' => TotW K p q G n H' D xs ts i ∧ H' S10 = some (.lst (c10.map V.int)) ∧ ∃ c : List Int, H' L = some (.lst (c.map V.int)) ∧ c.length ≤ j ∧ (∀ x ∈ c, 0 ≤ x ∧ x < (j : Int)) ∧ c.Pairwise (· < ·)) ⟨W10.same (same_upd nL), same_upd nL _ _ kS10, [], upd_same, Nat.le_refl _, fun x h => (by cases h), List.Pairwise.nil⟩ (fun _ _ _ _ => trivial) ?_ ?_
        · rintro j x H11 H12 hj ⟨W11, kS11, c, kL, lc, bc, pc⟩ ⟨rfl, rfl⟩
          have hj2 : j < n := by have : j < ((n : Nat) : Int).toNat := hj; omega
          refine ⟨rfl, _, rfl, _, rfl, S10, c10.map V.int, rfl, .inl (.inl (.inl kS11)), rfl, flat_ints c10, _, rfl, ite2 (fun _ => ?_) (fun _ => ⟨W11, kS11, c, kL, by omega, fun x hx => (by have := bc x hx; omega), pc⟩)⟩
          refine ⟨_, rfl, _, kL, by rw [List.length_map]; omega, W11.put fL nDL kL, by rw [upd_ne nSL]; exact kS11, c ++ [(0 : Int) + (j : Nat)], by rw [upd_same, List.map_append]; rfl, by rw [List.length_append]; show c.length + 1 ≤ j + 1; omega, fun x hx => ?_, ?_⟩
          · rcases List.mem_append.mp hx with z | z
            · have := bc x z
              omega
            · have := List.mem_singleton.mp z
              omega
          · refine List.pairwise_append.mpr ⟨pc, List.pairwise_singleton _ _, fun a ha b hb => ?_⟩
            have := bc a ha
            have := List.mem_singleton.mp hb
            omega
        rintro H11 ⟨W11, kS11, c, kL, lc, bc, pc⟩
        refine ⟨L, _, rfl, .inl ⟨.inl (.inl kL), fun u nu => ?_⟩⟩
        have W12 := W11.same (same_upd (o := .tup (c.map V.int)) nu)
        have ku := upd_same (H := H11) (a := u) (o := .tup (c.map V.int))
        generalize L2.upd H11 u (.tup (c.map V.int)) = H12 at W12 ku ⊢
        have lx := W12.tots.len
        have lt := W12.len
        exact ⟨D, _, _, rfl, rfl, W12.lst, by omega, ⟨_, _, rfl⟩, _, _, W12.add fD (.inl (.inl ku)) ⟨by omega, fun x hx => (by have := bc x hx; omega), asc_pw pc⟩⟩
      · rintro σ H5 ⟨⟨y4, y5, rfl⟩, xs, ts, W⟩
        exact ⟨⟨_, _, rfl⟩, xs, ts, _, W, by omega⟩
    · rintro σ H3 ⟨⟨y4, y5, rfl⟩, xs, ts, i, W, i4⟩
      have lt := W.len
      have lx := W.tots.len
      refine ⟨fun σ H' => ∃ (D2 : Addr) (ys : List V) (us : List (List Int)), σ = [some (.ref p), some (.int n), some (.ref D2), some (.int sh), y4, y5, none] ∧ On p q G H' ∧ H' D2 = some (.lst ys) ∧ Tots K H' ys us ∧ us.length ≤ 12 ∧ ∀ c ∈ us, LotOk (n : Int) c, ?_, ?_⟩
      · have stay : ∀ H', TotW K p q G n H' D xs ts i → ∃ (D2 : Addr) (ys : List V) (us : List (List Int)), [some (V.ref p), some (.int n), some (.ref D), some (.int sh), y4, y5, none] = [some (V.ref p), some (.int n), some (.ref D2), some (.int sh), y4, y5, none] ∧ On p q G H' ∧ H' D2 = some (.lst ys) ∧ Tots K H' ys us ∧ us.length ≤ 12 ∧ ∀ c ∈ us, LotOk (n : Int) c :=
          fun H' W' => ⟨D, xs, ts, rfl, W'.on, W'.lst, W'.tots, by omega, W'.ok⟩
        refine ⟨_, rfl, ?_⟩
        refine ⟨Nat.le_of_ble_eq_true rfl, fun Z nZ => ?_⟩
        generalize eH4 : L2.upd _ Z _ = H4
        have s4 := same_of nZ eH4
        have kZ := at_of eH4
        clear eH4
        have W4 := W.same s4
        refine ⟨_, _, .lst (.inl (.inl W4.lst)) (dpAll_tots W4.tots), .lst (.inl (.inl kZ)) .nil, shaped_tots ts, shaped_nil, _, rfl, ?_⟩
        generalize (!PyData.eqv (.list (ts.map dI)) (.list [])) = b
        cases b with
        | false => exact iteF (stay H4 W4)
        | true =>
          refine iteT ⟨_, rfl, p, q, _, rfl, W4.on.hd, by decide, by decide, fun H5 r hd5 kp5 r0 r1 => ⟨rfl, _, rfl, ite2 (fun _ => ?_) (fun _ => stay H5 (W4.draw ⟨fD.1, fD.2.1⟩ hd5 kp5))⟩⟩
          have W5 := W4.draw ⟨fD.1, fD.2.1⟩ hd5 kp5
          refine ⟨_, rfl, _, rfl, _, rfl, _, rfl, D, xs, rfl, .inl (.inl W5.lst), fun S nS => ?_⟩
          rw [show cutV xs none (some (1 : Int)) = xs.take 1 from cut0 1]
          have s6 := same_upd (o := .lst (xs.take 1)) nS
          have kS := upd_same (H := H5) (a := S) (o := .lst (xs.take 1))
          generalize L2.upd H5 S (.lst (xs.take 1)) = H6 at s6 kS ⊢
          have W6 := W5.same s6
          have lt1 : (xs.take 1).length ≤ 1 := by rw [List.length_take]; omega
          refine ⟨D, S, _, _, rfl, rfl, W6.lst, kS, by omega, fun X nX => ?_⟩
          have s7 := same_upd (o := .lst (xs ++ xs.take 1)) nX
          have kX := upd_same (H := H6) (a := X) (o := .lst (xs ++ xs.take 1))
          generalize L2.upd H6 X (.lst (xs ++ xs.take 1)) = H7 at s7 kX ⊢
          have W7 := W6.same s7
          refine ⟨_, rfl, ?_⟩
          refine ⟨Nat.le_of_ble_eq_true rfl, fun E8 nE8 => ?_⟩
          generalize eH8 : L2.upd _ E8 _ = H8
          have s8 := same_of nE8 eH8
          have kE8 := at_of eH8
          clear eH8
          refine ⟨Nat.le_of_ble_eq_true rfl, fun L9 nL9 => ?_⟩
          generalize eH9 : L2.upd _ L9 _ = H9
          have s9 := same_of nL9 eH9
          have kL9 := at_of eH9
          clear eH9
          have W9 := (W7.same s8).same s9
          refine ⟨D, L9, _, _, rfl, rfl, W9.lst, kL9, by show xs.length + 1 ≤ sizeLine; omega, fun Y nY => ?_⟩
          have s10 := same_upd (o := .lst (xs ++ [.ref E8])) nY
          have kY := upd_same (H := H9) (a := Y) (o := .lst (xs ++ [.ref E8]))
          generalize L2.upd H9 Y (.lst (xs ++ [.ref E8])) = H10 at s10 kY ⊢
          have W10 := W9.same s10
          have kX10 := ((s8.trans s9).trans s10) _ _ kX
          have kE10 := (s9.trans s10) _ _ kE8
          refine ⟨by show 2 ≤ sizeLine; decide, fun M nM => ?_⟩
          have fM := W10.on.free nM
          have s11 := same_upd (o := .lst [.ref X, .ref Y]) nM
          have W11 := W10.same s11
          have fX := W10.on.hd
          refine ⟨p, q, M, _, rfl, W11.on.hd, upd_same, fM.1, fM.2.1, by simp, by show 2 < 1000000; decide, fun H12 v hd12 kp12 hv => ?_⟩
          have W12 := W11.draw ⟨fD.1, fD.2.1⟩ hd12 kp12
          have neX := W6.on.free nX
          have neY := W9.on.free nY
          simp only [List.mem_cons, List.not_mem_nil, or_false] at hv
          rcases hv with rfl | rfl
          · exact ⟨X, xs ++ xs.take 1, ts ++ ts.take 1, rfl, W12.on, kp12 X _ neX.1 neX.2.1 (s11 _ _ kX10), W12.tots.app (W12.tots.take 1), by rw [List.length_append, List.length_take]; omega, fun c hc => (List.mem_append.mp hc).elim (W12.ok c) fun z => W12.ok c (List.mem_of_mem_take z)⟩
          · refine ⟨Y, xs ++ [.ref E8], ts ++ [[]], rfl, W12.on, kp12 Y _ neY.1 neY.2.1 (s11 _ _ kY), Tots.snoc (seqTK W11.on.hd kp12 (.inl (.inl (s11 _ _ kE10)))) W12.tots, by rw [List.length_append]; show ts.length + 1 ≤ 12; omega, fun c hc => (List.mem_append.mp hc).elim (W12.ok c) fun z => ?_⟩
            rw [List.mem_singleton.mp z]
            exact ⟨by decide, fun x h => absurd h List.not_mem_nil, trivial⟩
      · rintro σ H4 ⟨D2, ys, us, rfl, on4, k4, t4, l4, o4⟩
        refine ⟨_, rfl, D2, ys, rfl, .inl ⟨.inl (.inl k4), fun u nu => ?_⟩⟩
        exact fin _ u ys us (on4.new nu) upd_same (t4.mono (same_upd nu)) l4 o4
end
end K09
namespace CK
open PySem PySem.Spec PyProof.Rows L2 VG FR HD M9
def amts7 : List Q2 := [(1000000, 1), (-1000000, 1), (1, 1000000), (999999, 1000000), (-999999, 1000000), (1000000, 999983), (0, 1)]
theorem amts7_ok : ∀ r ∈ amts7, AmtOk r := by
  intro r hr
  simp only [amts7, List.mem_cons, List.not_mem_nil, or_false] at hr
  rcases hr with rfl | rfl | rfl | rfl | rfl | rfl | rfl <;> exact ⟨⟨by decide, by decide +kernel⟩, by decide, by decide⟩
def spAmount (K : PySem.W.Frag) : Sp := fun vs H Q _ => ∃ (p q : Addr), vs = [.ref p] ∧ Hd p q H ∧ ∀ (H' : Hp) (u : Addr) (r : Q2), On p q (frz p q H) H' → SqT K H' u (pV r) → AmtOk r → Q (.ref u) H'
theorem amt_mk {a b : Int} (b0 : 0 < b) (bd : b ∣ DL) (ha : a.natAbs ≤ 1000000) : AmtOk (M2.mk a b) := by
  refine ⟨M2.mk_low (by omega), ?_, Nat.le_trans (M2.mk_size (by omega)).1 ha⟩
  rw [M2.mk_pos b0]
  show b / (M2.g a b : Int) ∣ DL
  have gd : ((M2.g a b : Nat) : Int) ∣ b := by
    have := Nat.gcd_dvd_right a.natAbs b.natAbs
    exact Int.ofNat_dvd_left.mpr this
  exact Int.dvd_trans (Int.ediv_dvd_of_dvd gd) bd
end CK
namespace K09
open PySem PySem.Spec PyProof.Rows L2 VG FR CK HD M9
abbrev s__law_amount : Stmt := topS 63
abbrev N__law_amount : List Str := ["heap", "bottom"]
theorem sc__law_amount : FnScope N__law_amount ["heap"] (defScope s__law_amount) := ⟨rfl, rfl, rfl, by decide +kernel, rfl, by decide +kernel, by decide +kernel⟩
section
variable {P : Program} {w : World} {K : PySem.W.Frag} {mg : Str → Option Value} {base : Heap}
theorem ok__law_amount {f : Addr} {fd : FuncData} (F : Fun K "_law_amount" "_law_amount" s__law_amount f fd) (C__law_draw : Cl P w K mg base 1 "_law_draw" spDraw) (C__law_pick : Cl P w K mg base 2 "_law_pick" (spPick K)) (C__law_fraction : Cl P w K mg base 1 "_law_fraction" spFr9) :
    FnOk P w K mg base CX0 3 f fd ["heap"] (spAmount K) := by
  refine F.ok sc__law_amount (fun vs H Q E h => ?_) (fun cdv A outer s H vs Q E hr h => ?_)
  · obtain ⟨p, q, rfl, _⟩ := h
    rfl
  · obtain ⟨p, q, rfl, hd, fin⟩ := h
    refine ⟨_, (pss_cons (ps_set (i := 1) sc__law_amount.nd rfl (.inl rfl) (pe_cl C__law_pick hr (by decide) rfl (pa_cons (pv 0) (pa_cons (pe_lst (pa_cons pe_int (pa_cons pe_int (pa_cons pe_int (pa_cons pe_int (pa_cons pe_int (pa_cons pe_int (pa_cons pe_int (pa_cons pe_int (pa_cons pe_int pa_nil)))))))))) pa_nil))))
    (pss_cons (ps_if (pt_cmpR op_eq (pe_cl C__law_draw hr (by decide) rfl (pa_cons (pv 0) (pa_cons pe_int pa_nil))) pe_int (nomark _))
      (pss_one (ps_ret (pe_cl C__law_pick hr (by decide) rfl (pa_cons (pv 0) (pa_cons (pe_lst (pa_cons (pe_tup (pa_cons (pe_op op_pow pe_int pe_int) (pa_cons pe_int pa_nil))) (pa_cons (pe_tup (pa_cons (pe_op op_sub pe_int (pe_op op_pow pe_int pe_int)) (pa_cons pe_int pa_nil))) (pa_cons (pe_tup (pa_cons pe_int (pa_cons (pe_op op_pow pe_int pe_int) pa_nil))) (pa_cons (pe_tup (pa_cons pe_int (pa_cons (pe_op op_pow pe_int pe_int) pa_nil))) (pa_cons (pe_tup (pa_cons (pe_op op_sub pe_int pe_int) (pa_cons (pe_op op_pow pe_int pe_int) pa_nil))) (pa_cons (pe_tup (pa_cons (pe_op op_pow pe_int pe_int) (pa_cons pe_int pa_nil))) (pa_cons (pe_tup (pa_cons pe_int (pa_cons pe_int pa_nil))) pa_nil)))))))) pa_nil)))))
      pss_nil)
    (pss_one (ps_ret (pe_cl C__law_fraction hr (by decide) rfl (pa_cons (pe_op op_sub (pe_cl C__law_draw hr (by decide) rfl (pa_cons (pv 0) (pa_cons (pe_op op_mulW pe_int (pv 1)) pa_nil))) (pe_op op_mulW pe_int (pv 1))) (pa_cons (pv 1) pa_nil))))))), ?_⟩
    have on0 := On.start hd
    refine ⟨_, rfl, by show 9 ≤ sizeLine; decide, fun L nL => ?_⟩
    have fL := on0.free nL
    have on1 := on0.new (o := .lst [.int 2, .int 3, .int 1, .int 4, .int 2, .int 5, .int 6, .int 12, .int 7]) nL
    refine ⟨p, q, L, _, rfl, on1.hd, upd_same, fL.1, fL.2.1, by simp, by show 9 < 1000000; decide, fun H2 v hd2 kp2 hv => ?_⟩
    have on2 := on1.draw hd2 kp2
    obtain ⟨b, rfl, b0, b12, bd⟩ : ∃ b : Int, v = .int b ∧ 0 < b ∧ b ≤ 12 ∧ b ∣ DL := by
      simp only [List.mem_cons, List.not_mem_nil, or_false] at hv
      rcases hv with e | e | e | e | e | e | e | e | e <;> exact ⟨_, e, by decide, by decide, by decide⟩
    clear on1 hd2 kp2 hv nL fL on0
    generalize frz p q H = G at *
    refine ⟨_, rfl, p, q, _, rfl, on2.hd, by decide, by decide, fun H3 r hd3 kp3 r0 r1 => ?_⟩
    have on3 := on2.draw hd3 kp3
    clear on2 hd3 kp3
    refine ⟨rfl, _, rfl, ite2 (fun _ => ?_) (fun _ => ?_)⟩
    · refine ⟨_, rfl, ?_⟩
      refine ⟨_, _, rfl, rfl, ⟨by decide, by decide, by decide⟩, ?_⟩
      refine ⟨Nat.le_of_ble_eq_true rfl, fun z1 nH4 => ?_⟩
      generalize eH4 : L2.upd _ z1 _ = H4
      have s4 := same_of nH4 eH4
      have k1 := at_of eH4
      clear eH4
      refine ⟨_, _, rfl, rfl, ⟨by decide, by decide, by decide⟩, _, _, rfl, rfl, ?_⟩
      refine ⟨Nat.le_of_ble_eq_true rfl, fun z2 nH5 => ?_⟩
      generalize eH5 : L2.upd _ z2 _ = H5
      have s5 := same_of nH5 eH5
      have k2 := at_of eH5
      clear eH5
      refine ⟨_, _, rfl, rfl, ⟨by decide, by decide, by decide⟩, ?_⟩
      refine ⟨Nat.le_of_ble_eq_true rfl, fun z3 nH6 => ?_⟩
      generalize eH6 : L2.upd _ z3 _ = H6
      have s6 := same_of nH6 eH6
      have k3 := at_of eH6
      clear eH6
      refine ⟨_, _, rfl, rfl, ⟨by decide, by decide, by decide⟩, ?_⟩
      refine ⟨Nat.le_of_ble_eq_true rfl, fun z4 nH7 => ?_⟩
      generalize eH7 : L2.upd _ z4 _ = H7
      have s7 := same_of nH7 eH7
      have k4 := at_of eH7
      clear eH7
      refine ⟨_, _, rfl, rfl, _, _, rfl, rfl, ⟨by decide, by decide, by decide⟩, ?_⟩
      refine ⟨Nat.le_of_ble_eq_true rfl, fun z5 nH8 => ?_⟩
      generalize eH8 : L2.upd _ z5 _ = H8
      have s8 := same_of nH8 eH8
      have k5 := at_of eH8
      clear eH8
      refine ⟨_, _, rfl, rfl, ⟨by decide, by decide, by decide⟩, ?_⟩
      refine ⟨Nat.le_of_ble_eq_true rfl, fun z6 nH9 => ?_⟩
      generalize eH9 : L2.upd _ z6 _ = H9
      have s9 := same_of nH9 eH9
      have k6 := at_of eH9
      clear eH9
      refine ⟨Nat.le_of_ble_eq_true rfl, fun z7 nH10 => ?_⟩
      generalize eH10 : L2.upd _ z7 _ = H10
      have s10 := same_of nH10 eH10
      have k7 := at_of eH10
      clear eH10
      have on10 := (((((((on3.same s4).same s5).same s6).same s7).same s8).same s9).same s10)
      refine ⟨Nat.le_of_ble_eq_true rfl, fun M nM => ?_⟩
      generalize eH11 : L2.upd _ M _ = H11
      have s11 := same_of nM eH11
      have kM := at_of eH11
      clear eH11
      have fM := on10.free nM
      have on11 := on10.same s11
      have t8 := s10.trans s11
      have t7 := s9.trans t8
      have t6 := s8.trans t7
      have t5 := s7.trans t6
      have t4 := s6.trans t5
      have t3 := s5.trans t4
      have hF : Frs K H11 [.ref z1, .ref z2, .ref z3, .ref z4, .ref z5, .ref z6, .ref z7] amts7 :=
        ⟨⟨z1, rfl, .inl (.inl (t3 _ _ k1))⟩, ⟨z2, rfl, .inl (.inl (t4 _ _ k2))⟩, ⟨z3, rfl, .inl (.inl (t5 _ _ k3))⟩, ⟨z4, rfl, .inl (.inl (t6 _ _ k4))⟩, ⟨z5, rfl, .inl (.inl (t7 _ _ k5))⟩, ⟨z6, rfl, .inl (.inl (t8 _ _ k6))⟩, ⟨z7, rfl, .inl (.inl (s11 _ _ k7))⟩, trivial⟩
      refine ⟨p, q, M, _, rfl, on11.hd, kM, fM.1, fM.2.1, by simp, by show 7 < 1000000; decide, fun H12 v hd12 kp12 hv => ?_⟩
      obtain ⟨i, ei⟩ := List.mem_iff_getElem?.mp hv
      obtain ⟨t, a, rfl, ea, ht⟩ := hF.get ei
      exact fin H12 t a (on11.draw hd12 kp12) (seqTK on11.hd kp12 ht) (amts7_ok a (List.mem_of_getElem? ea))
    · refine ⟨_, rfl, _, rfl, _, _, rfl, rfl, mulW (up (n := 40) (by decide) (by decide)) (up (n := 40) (by omega) (by decide)), p, q, _, rfl, on3.hd, by omega, by omega, fun H4 r hd4 kp4 r0 r1 => ?_⟩
      have on4 := on3.draw hd4 kp4
      refine ⟨_, rfl, _, _, rfl, rfl, mulW (up (n := 40) (by decide) (by decide)) (up (n := 40) (by omega) (by decide)), _, _, rfl, rfl, _, rfl, ?_⟩
      refine ⟨_, _, rfl, b0, Nat.lt_of_le_of_lt (m := 1000) (by omega) (by decide), Nat.lt_of_le_of_lt (m := 1000) (by omega) (by decide), fun H5 u s5 nu hu => ?_⟩
      exact fin H5 u _ (on4.same s5) (.inl (.inl hu)) (amt_mk b0 bd (by omega))
end
end K09
namespace VG
open PySem PySem.Spec PyProof.Rows L2
def iIf (t : TT) (wa wb : TI) : TI := fun σ H R => t σ H fun c H1 => if c = true then wa σ H1 R else wb σ H1 R
/-- for .. in a if t else b -/
theorem pi_if {X : Cx} {c a b tg : Expr} {pos : Pos} {tA : TT} {wa wb : TI} (hc : PT X c tA) (ha : PI X tg a wa) (hb : PI X tg b wb) : PI X tg (.IfExp c a b pos) (iIf tA wa wb) := by
  constructor
  intro pins s σ H R I h
  apply wpAny_IfExp
  apply thn (hc.run pins s σ H _ I h)
  rintro d s1 ⟨H1, I1, q1⟩
  cases d with
  | true => exact ha.run pins s1 σ H1 R I1 q1
  | false => exact hb.run pins s1 σ H1 R I1 q1
end VG
namespace CK
open PySem PySem.Spec PyProof.Rows L2 VG FR HD M9
theorem EU.keep {K : PySem.W.Frag} {H H' : Hp} {p q a : Addr} {es : List Int} (hd : Hd p q H) (kp : Keep p q H H') (h : EU K H a es) : EU K H' a es := by
  obtain ⟨xs, h1, h2⟩ := h
  exact ⟨xs, seqTK hd kp h1, h2.keep hd kp⟩
theorem LineAt.keep {K : PySem.W.Frag} {H H' : Hp} {p q : Addr} (hd : Hd p q H) (kp : Keep p q H H') {v : V} {r : Line} (h : LineAt K H v r) : LineAt K H' v r := by
  obtain ⟨t, s, e, h1, h2⟩ := h
  exact ⟨t, s, e, seqTK hd kp h1, seqTK hd kp h2⟩
theorem Lines.keep {K : PySem.W.Frag} {H H' : Hp} {p q : Addr} (hd : Hd p q H) (kp : Keep p q H H') : ∀ {vs : List V} {rs : List Line}, Lines K H vs rs → Lines K H' vs rs
  | [], [], _ => trivial
  | _ :: _, _ :: _, h => ⟨h.1.keep hd kp, Lines.keep hd kp h.2⟩
  | [], _ :: _, h => h.elim
  | _ :: _, [], h => h.elim
theorem Lines.updL {K : PySem.W.Frag} {H : Hp} {D : Addr} {ys zs : List V} (hD : H D = some (.lst ys)) : ∀ {vs : List V} {rs : List Line}, Lines K H vs rs → Lines K (L2.upd H D (.lst zs)) vs rs
  | [], [], _ => trivial
  | _ :: _, _ :: _, h => ⟨by
    obtain ⟨t, s, e, h1, h2⟩ := h.1
    exact ⟨t, s, e, seqT_upd hD h1, seqT_upd hD h2⟩, Lines.updL hD h.2⟩
  | [], _ :: _, h => h.elim
  | _ :: _, [], h => h.elim
theorem Lines.snoc {K : PySem.W.Frag} {H : Hp} {v : V} {r : Line} (hv : LineAt K H v r) : ∀ {vs : List V} {rs : List Line}, Lines K H vs rs → Lines K H (vs ++ [v]) (rs ++ [r])
  | [], [], _ => ⟨hv, trivial⟩
  | _ :: _, _ :: _, h => ⟨h.1, Lines.snoc hv h.2⟩
  | [], _ :: _, h => h.elim
  | _ :: _, [], h => h.elim
theorem line_of {m k : Nat} {p : Q2} {n : Int} (hk : k < m) (ha : AmtOk p) (hn : n ∈ choQ p) : LineOk m (k, p, n) := by
  have hc2 : n ∈ choU (un p) := by
    rw [← cho_U, U_un ha.low ha.dvd]
    exact hn
  exact ⟨hk, ha, cho_whole (un_le ha.low ha.top) hc2, Nat.lt_of_lt_of_le (cho_near hc2) (by decide)⟩
theorem choQ_ne (p : Q2) : choQ p ≠ [] ∧ (choQ p).length ≤ 2 := by
  unfold choQ
  split
  · exact ⟨by simp, by simp⟩
  · exact ⟨by simp, by simp⟩
theorem AmtOk.bt3 {p : Q2} (h : AmtOk p) : Bt 3000 p := ⟨Nat.lt_of_lt_of_le h.bt.1 (Nat.pow_le_pow_right (by decide) (by decide)), Nat.lt_of_lt_of_le h.bt.2 (Nat.pow_le_pow_right (by decide) (by decide))⟩
/-- a day as it is drawn: D lists its lines, e the errors behind them -/
structure DayW (K : PySem.W.Frag) (p q : Addr) (G : Hp) (m : Nat) (H : Hp) (D e : Addr) (xs : List V) (rs : List Line) (i : Nat) : Prop where
  on : On p q G H
  lst : H D = some (.lst xs)
  lines : Lines K H xs rs
  len : rs.length = i
  ok : ∀ r ∈ rs, LineOk m r
  err : EU K H e (errU m rs)
section
variable {K : PySem.W.Frag} {p q : Addr} {G H H' : Hp} {m : Nat} {D e : Addr} {xs : List V} {rs : List Line} {i : Nat}
theorem DayW.draw (h : DayW K p q G m H D e xs rs i) (fD : D ≠ p ∧ D ≠ q) (hd : Hd p q H') (k : Keep p q H H') : DayW K p q G m H' D e xs rs i :=
  ⟨h.on.draw hd k, k D _ fD.1 fD.2 h.lst, h.lines.keep h.on.hd k, h.len, h.ok, h.err.keep h.on.hd k⟩
theorem DayW.same (h : DayW K p q G m H D e xs rs i) (s : Same H H') : DayW K p q G m H' D e xs rs i := ⟨h.on.same s, s _ _ h.lst, h.lines.mono s, h.len, h.ok, h.err.mono s⟩
theorem DayW.put (h : DayW K p q G m H D e xs rs i) {S : Addr} {ys zs : List V} (f : S ≠ p ∧ S ≠ q ∧ G S = none) (ne : D ≠ S) (k : H S = some (.lst ys)) : DayW K p q G m (L2.upd H S (.lst zs)) D e xs rs i :=
  ⟨h.on.put f, by rw [upd_ne ne]; exact h.lst, h.lines.updL k, h.len, h.ok, h.err.updL k⟩
end
def spLawDay (K : PySem.W.Frag) : Sp := fun vs H Q _ => ∃ (p q t : Addr) (m size : Nat) (ts : List (List Int)), vs = [.ref p, .int (m : Int), .ref t, .int (size : Int)] ∧ Hd p q H ∧ TotsIn K (frz p q H) t m ts ∧ 1 ≤ m ∧ m ≤ 12 ∧ size ≤ 30 ∧
  ∀ (H' : Hp) (u : Addr) (rs : List Line), On p q (frz p q H) H' → DayIn K H' u m rs → rs.length ≤ 30 → Q (.ref u) H'
end CK
namespace K09
open PySem PySem.Spec PyProof.Rows L2 VG FR CK HD M9
abbrev s__law_day : Stmt := topS 67
abbrev N__law_day : List Str := ["heap", "many", "totals", "size", "found", "errors", "careful", "turn", "kind", "amount", "whole", "other", "sums", "one"]
theorem sc__law_day : FnScope N__law_day ["heap", "many", "totals", "size"] (defScope s__law_day) := ⟨rfl, rfl, rfl, by decide +kernel, rfl, by decide +kernel, by decide +kernel⟩
section
variable {P : Program} {w : World} {K : PySem.W.Frag} {mg : Str → Option Value} {base : Heap}
theorem ok__law_day {f : Addr} {fd : FuncData} (F : Fun K "_law_day" "_law_day" s__law_day f fd) (C__law_draw : Cl P w K mg base 1 "_law_draw" spDraw) (C__law_pick : Cl P w K mg base 2 "_law_pick" (spPick K)) (C__law_amount : Cl P w K mg base 3 "_law_amount" (spAmount K))
    (C__law_choices : Cl P w K mg base 1 "_law_choices" (spLawCho K)) (C__law_behind : Cl P w K mg base 3 "_law_behind" (spBehind K)) (C__law_sums : Cl P w K mg base 3 "_law_sums" (spLawSums K)) (C__law_small : Cl P w K mg base 1 "_law_small" (spLawSmall K))
    (z_range : mg "range" = none) (z_tuple : mg "tuple" = none) (z_all : mg "all" = none) : FnOk P w K mg base CX0 4 f fd ["heap", "many", "totals", "size"] (spLawDay K) := by
  refine F.ok sc__law_day (fun vs H Q E h => ?_) (fun cdv A outer s H vs Q E hr h => ?_)
  · obtain ⟨_, _, _, _, _, _, rfl, _⟩ := h
    rfl
  · obtain ⟨p, q, t, m, size, ts, rfl, hd, tG, m1, m12, hsz, fin⟩ := h
    refine ⟨_, (pss_cons (ps_par3 (i := 4) (j := 5) (l := 6) (by rfl) sc__law_day.nd rfl rfl rfl (by decide) (by decide) (by decide) rfl rfl rfl (pa_cons (pe_lst pa_nil) (pa_cons (pe_op op_repA (pe_tup (pa_cons (pe_tup (pa_cons pe_int (pa_cons pe_int pa_nil))) pa_nil)) (pv 1)) (pa_cons (pe_cmpR op_eq (pe_cl C__law_draw hr (by decide) rfl (pa_cons (pv 0) (pa_cons pe_int pa_nil))) pe_int (nomark _)) pa_nil))) (by rfl))
    (pss_cut (ps_for PassesOwn.never rfl (pi_range1 (by rfl) z_range (pa_cons (pv 3) pa_nil)) (pg_name (i := 7) sc__law_day.nd rfl (.inl rfl))
      (pss_cons (ps_par (i := 8) (j := 9) (by rfl) sc__law_day.nd rfl rfl (by decide) rfl rfl (pa_cons (pe_cl C__law_draw hr (by decide) rfl (pa_cons (pv 0) (pa_cons (pv 1) pa_nil))) (pa_cons (pe_cl C__law_amount hr (by decide) rfl (pa_cons (pv 0) pa_nil)) pa_nil)) (by rfl))
      (pss_cons (ps_set (i := 10) sc__law_day.nd rfl (.inl rfl) (pe_cl C__law_pick hr (by decide) rfl (pa_cons (pv 0) (pa_cons (pe_cl C__law_choices hr (by decide) rfl (pa_cons (pv 9) pa_nil)) pa_nil))))
      (pss_cut (ps_for PassesOwn.never rfl (pi_if (pt_val (pv 6)) (pi_list (pe_cl C__law_choices hr (by decide) rfl (pa_cons (pv 9) pa_nil))) (pi_tup (pe_tup pa_nil))) (pg_name (i := 11) sc__law_day.nd rfl (.inl rfl))
        (pss_cons (ps_set (i := 12) sc__law_day.nd rfl (.inl rfl) (pe_cl C__law_sums hr (by decide) rfl (pa_cons (pv 2) (pa_cons (pe_cl C__law_behind hr (by decide) rfl (pa_cons (pv 5) (pa_cons (pv 8) (pa_cons (pv 9) (pa_cons (pv 10) pa_nil))))) pa_nil))))
        (pss_one (ps_if (pt_not (pt_val (pe_callB (cr_all rfl) (by rfl) z_all (by decide +kernel) (pa_cons (pe_lc (own := [("one", 13)]) (by rfl) sc__law_day.nd (pi_tup (pv 12)) (blkOk_by (own := [("one", 13)]) (N := N__law_day) (sc := defScope s__law_day) (by decide +kernel)) (fun _ _ _ _ _ => (pg_name (i := 13) sc__law_day.nd rfl (.inl rfl))) (fun _ _ _ _ _ => pts_nil) (fun _ _ _ _ _ => (pe_cl C__law_small hr (by decide) rfl (pa_cons (pv 13) pa_nil)))) pa_nil))))
          (pss_one (ps_set (i := 10) sc__law_day.nd rfl (.inl rfl) (pv 11)))
          pss_nil))))
      (pss_cons (ps_expr (pe_bm PySem.F.plainAttrs_list PySem.F.slot_list_append PySem.F.type_list_append mt_append (pv 4) (pa_cons (pe_tup (pa_cons (pv 8) (pa_cons (pv 9) (pa_cons (pv 10) pa_nil)))) pa_nil)))
      (pss_one (ps_set (i := 5) sc__law_day.nd rfl (.inl rfl) (pe_cl C__law_behind hr (by decide) rfl (pa_cons (pv 5) (pa_cons (pv 8) (pa_cons (pv 9) (pa_cons (pv 10) pa_nil))))))))))))
    (pss_one (ps_ret (pe_callTy call_tuple_of (by rfl) z_tuple (by decide +kernel) (pa_cons (pv 4) pa_nil)))))), ?_⟩
    have big : sizeLine = 16777216 := by decide
    have on0 := On.start hd
    refine ⟨by show 0 ≤ sizeLine; exact Nat.zero_le _, fun D nD => ?_⟩
    have fD := on0.free nD
    have on1 := on0.new (o := .lst []) nD
    have kD := upd_same (H := H) (a := D) (o := .lst [])
    generalize L2.upd H D (.lst []) = H1 at on1 kD ⊢
    generalize frz p q H = G at *
    refine ⟨Nat.le_of_ble_eq_true rfl, fun z nz => ?_⟩
    generalize eH2 : L2.upd _ z _ = H2
    have s2 := same_of nz eH2
    have kz := at_of eH2
    clear eH2
    refine ⟨Nat.le_of_ble_eq_true rfl, fun y ny => ?_⟩
    generalize eH3 : L2.upd _ y _ = H3
    have s3 := same_of ny eH3
    have ky := at_of eH3
    clear eH3
    refine ⟨_, rfl, y, m, [.ref z], rfl, rfl, .inl (.inl ky), by simp, by omega, (by show 1 ≤ 1000; decide), fun e0 H4 s4 ke => ?_⟩
    rw [rep_one] at ke
    have s24 := s2.trans (s3.trans s4)
    have on4 := on1.same s24
    have kD4 := s24 _ _ kD
    have hE0 : EU K H4 e0 (errU m []) := ⟨_, ke, rep_frs (.inl (.inl ((s3.trans s4) _ _ kz))) m⟩
    have W4 : DayW K p q G m H4 D e0 [] [] 0 := ⟨on4, kD4, trivial, rfl, fun r h => absurd h List.not_mem_nil, hE0⟩
    clear on1 kD s2 s3 s4 nz ny kz ky ke s24 on4 kD4 hE0
    refine ⟨_, rfl, p, q, _, rfl, W4.on.hd, by decide, by decide, fun H5 r hd5 kp5 r0 r1 => ⟨rfl, _, _, _, rfl, ?_⟩⟩
    have W5 := W4.draw ⟨fD.1, fD.2.1⟩ hd5 kp5
    clear W4 hd5 kp5
    generalize decide (V.int r = V.int 0) = careful
    obtain ⟨xt, hSt, hTt, ltt, lots⟩ := tG
    have lot2 : ∀ es : List Int, es.length = m → ∀ c ∈ ts, c.length ≤ 40 ∧ ∀ k ∈ c, 0 ≤ k ∧ k < (es.length : Int) := fun es le c hc => ⟨by have := lot_len (lots c hc); omega, fun k hk => by rw [le]; exact (lots c hc).2.1 k hk⟩
    refine ⟨fun σ H' => (∃ (e : Addr) (y7 y8 y9 y10 y11 y12 : Option V), σ = [some (.ref p), some (.int m), some (.ref t), some (.int size), some (.ref D), some (.ref e), some (.bl careful), y7, y8, y9, y10, y11, y12, none] ∧ ∃ xs rs, DayW K p q G m H' D e xs rs size), ?_, ?_⟩
    · refine ⟨_, rfl, _, rfl, by omega, by omega, ?_⟩
      refine for_it (walk_range (lo := 0) (n := ((size : Nat) : Int).toNat)) (fun i σ H' => (∃ (e : Addr) (y7 y8 y9 y10 y11 y12 : Option V), σ = [some (.ref p), some (.int m), some (.ref t), some (.int size), some (.ref D), some (.ref e), some (.bl careful), y7, y8, y9, y10, y11, y12, none] ∧ ∃ xs rs, DayW K p q G m H' D e xs rs i)) ⟨_, _, _, _, _, _, _, rfl, _, _, W5⟩ (fun _ _ _ _ _ => trivial) ?_ ?_
      · rintro i x σ H6 H7 hi ⟨e, y7, y8, y9, y10, y11, y12, rfl, xs, rs, W⟩ ⟨rfl, rfl⟩
        have hi2 : i < size := by have : i < ((size : Nat) : Int).toNat := hi; omega
        have ew := errU_within W.ok
        have lrs := W.len
        have ew1 : Within 1000 (errU m rs) := ew.1.mono (by omega)
        refine ⟨_, rfl, _, rfl, p, q, _, rfl, W.on.hd, by omega, by omega, fun H8 kk hd8 kp8 k0 k1 => ?_⟩
        have W8 := W.draw ⟨fD.1, fD.2.1⟩ hd8 kp8
        obtain ⟨k, rfl⟩ := Int.eq_ofNat_of_zero_le k0
        have km : k < m := by omega
        refine ⟨_, rfl, p, q, rfl, W8.on.hd, fun H9 s r on9 hs ha => ?_⟩
        have W9 := W8.draw ⟨fD.1, fD.2.1⟩ on9.hd on9.keep
        refine ⟨_, _, rfl, ?_⟩
        refine ⟨_, rfl, _, rfl, s, r, rfl, hs, ha.low.1, ha.bt3, fun H10 c s10 nc kc => ?_⟩
        have fc := W9.on.free nc
        have W10 := W9.same s10
        have ch := choQ_ne r
        refine ⟨p, q, c, _, rfl, W10.on.hd, kc, fc.1, fc.2.1, by simpa using ch.1, by rw [List.length_map]; omega, fun H11 v hd11 kp11 hv => ?_⟩
        obtain ⟨n, hn, rfl⟩ := List.mem_map.mp hv
        have W11 := W10.draw ⟨fD.1, fD.2.1⟩ hd11 kp11
        have hs11 := seqTK W10.on.hd kp11 (seqT s10 hs)
        clear W W8 W9 W10 hd8 kp8 on9 hs s10 nc kc fc hd11 kp11 hv
        let J : L2.St → Hp → Prop := fun σ H' => ∃ (n : Int) (y11 y12 : Option V), σ = [some (.ref p), some (.int m), some (.ref t), some (.int size), some (.ref D), some (.ref e), some (.bl careful), some (.int ((0 : Int) + (i : Nat))), some (.int (k : Int)), some (.ref s), some (.int n), y11, y12, none] ∧ n ∈ choQ r ∧ DayW K p q G m H' D e xs rs i ∧ SqT K H' s (pV r)
        have j11 : J [some (.ref p), some (.int m), some (.ref t), some (.int size), some (.ref D), some (.ref e), some (.bl careful), some (.int ((0 : Int) + (i : Nat))), some (.int (k : Int)), some (.ref s), some (.int n), y11, y12, none] H11 := ⟨n, _, _, rfl, hn, W11, hs11⟩
        refine ⟨J, ?_, ?_⟩
        · refine ⟨_, rfl, careful, rfl, ?_⟩
          cases careful with
          | false =>
            refine iteF (?_)
            refine ⟨Nat.le_of_ble_eq_true rfl, fun u nu => ?_⟩
            generalize eH12 : L2.upd _ u _ = H12
            have s12 := same_of nu eH12
            have ku := at_of eH12
            clear eH12
            refine ⟨u, rfl, ⟨[], .inl (.inl ku)⟩, ?_⟩
            refine for_it (walk_tup (K := K) (a := u) (xs := [])) (fun _ σ H' => J σ H' ∧ SqT K H' u []) ⟨⟨n, _, _, rfl, hn, W11.same s12, seqT s12 hs11⟩, .inl (.inl ku)⟩ (fun i σ H' _ h => h.2) (fun i x σ H1 H2 hi => absurd hi (Nat.not_lt_zero _)) (fun σ H' h => h.1)
          | true =>
            refine iteT ⟨_, rfl, s, r, rfl, hs11, ha.low.1, ha.bt3, fun H12 u s12 nu ku => ⟨u, rfl, ⟨_, .inl (.inl ku)⟩, ?_⟩⟩
            refine for_it (walk_list (K := K) (a := u) (xs := (choQ r).map V.int)) (fun _ σ H' => J σ H' ∧ H' u = some (.lst ((choQ r).map V.int))) ⟨⟨n, _, _, rfl, hn, W11.same s12, seqT s12 hs11⟩, ku⟩ (fun i σ H' _ h => .inl (.inl h.2)) ?_ (fun σ H' h => h.1)
            clear j11 W11 hs11 hn ku nu s12
            rintro j x σ H13 H14 hj ⟨⟨n, y11, y12, rfl, hn, W, hs⟩, ku⟩ ⟨rfl, ex⟩
            rw [List.getElem?_map] at ex
            obtain ⟨o, eo, rfl⟩ := Option.map_eq_some_iff.mp ex
            have ho : o ∈ choQ r := List.mem_of_getElem? eo
            have lo := line_of (n := n) km ha hn
            refine ⟨_, rfl, _, rfl, _, rfl, _, rfl, _, rfl, e, s, errU m rs, (k, r, n), rfl, W.err, hs, by rw [ew.2]; exact lo, ew1, by rw [ew.2]; omega, fun H15 u2 s15 hu2 => ?_⟩
            have W15 := W.same s15
            have lb : (behU (errU m rs) (k, r, n)).length = m := by
              unfold behU
              rw [addAt_len, ew.2]
            have wb : Within 1000 (behU (errU m rs) (k, r, n)) := (beh_within ew.1 lo.near).mono (by omega)
            refine ⟨t, u2, xt, ts, _, rfl, seqT W15.on.le hSt, hTt.mono W15.on.le, ltt, lot2 _ lb, hu2, wb, fun H16 u3 s16 hu3 => ?_⟩
            have W16 := W15.same s16
            have ku16 := (s15.trans s16) _ _ ku
            have hs16 := seqT (s15.trans s16) hs
            obtain ⟨zs, hZ, hF⟩ := hu3
            have lz := hF.len
            rw [List.length_map] at lz
            refine ⟨_, rfl, u3, rfl, ⟨_, hZ⟩, fun L nL => ?_⟩
            have sL := same_upd (o := .lst []) nL
            generalize hE : totsU ts (behU (errU m rs) (k, r, n)) = es at hF lz
            have les : es.length ≤ 12 := by rw [← hE, tots_len]; exact ltt
            refine lc_it (walk_tup (K := K) (a := u3) (xs := zs)) (fun j H' => Same H16 H' ∧ H' L = some (.lst ((((es.take j).map fun e => decide (-DL < e ∧ e < DL)).map V.bl)))) ⟨sL, upd_same⟩ (fun j H' _ h => seqT h.1 hZ) ?_ ?_
            · rintro j v H17 H18 hj ⟨sm, hL⟩ ⟨rfl, ex⟩
              obtain ⟨t8, p8, rfl, ep, ht8⟩ := hF.get ex
              rw [List.getElem?_map] at ep
              obtain ⟨c, ec, rfl⟩ := Option.map_eq_some_iff.mp ep
              refine ⟨rfl, _, rfl, t8, c, rfl, seqT sm ht8, ?_⟩
              refine ⟨_, hL, ?_, HD.same_put sm nL, ?_⟩
              · rw [List.length_map, List.length_map, List.length_take]
                omega
              · have tk : ∀ (l : List Int), l[j]? = some c → l.take (j + 1) = l.take j ++ [c] := fun l h => by
                  rw [List.take_add_one, h]
                  rfl
                rw [upd_same, tk _ ec, List.map_append, List.map_append]
                rfl
            · rintro H17 ⟨sm, hL⟩
              refine ⟨L, _, rfl, .inl (.inl hL), ?_⟩
              generalize (List.all _ id) = b
              have W17 := W16.same sm
              cases b with
              | true => exact ⟨_, rfl, iteF ⟨⟨n, _, _, rfl, hn, W17, seqT sm hs16⟩, sm _ _ ku16⟩⟩
              | false => exact ⟨_, rfl, iteT ⟨_, rfl, ⟨o, _, _, rfl, ho, W17, seqT sm hs16⟩, sm _ _ ku16⟩⟩
        · clear j11 W11 hs11 hn
          rintro σ H12 ⟨n, y11, y12, rfl, hn, W, hs⟩
          have lo := line_of (n := n) km ha hn
          have lx := W.lines.len
          refine ⟨_, rfl, .inl ⟨rfl, _, .inl (.inl W.lst)⟩, _, rfl, _, rfl, _, rfl, ?_⟩
          refine ⟨Nat.le_of_ble_eq_true rfl, fun z nz => ?_⟩
          generalize eH13 : L2.upd _ z _ = H13
          have s13 := same_of nz eH13
          have kz := at_of eH13
          clear eH13
          have W13 := W.same s13
          have hs13 := seqT s13 hs
          refine ⟨D, _, _, rfl, rfl, W13.lst, by omega, ?_⟩
          have kD := upd_same (H := H13) (a := D) (o := .lst (xs ++ [.ref z]))
          have on14 : On p q G (L2.upd H13 D (.lst (xs ++ [.ref z]))) := W13.on.put fD
          have hL : LineAt K (L2.upd H13 D (.lst (xs ++ [.ref z]))) (.ref z) (k, r, n) := ⟨z, s, rfl, seqT_upd W13.lst (.inl (.inl kz)), seqT_upd W13.lst hs13⟩
          have li14 := Lines.snoc hL (W13.lines.updL W13.lst)
          have er14 := W13.err.updL (zs := xs ++ [.ref z]) W13.lst
          have hs14 : SqT K (L2.upd H13 D (.lst (xs ++ [.ref z]))) s (pV r) := seqT_upd W13.lst hs13
          generalize L2.upd H13 D (.lst (xs ++ [.ref z])) = H14 at kD on14 li14 er14 hs14 ⊢
          refine ⟨_, rfl, _, rfl, _, rfl, _, rfl, e, s, errU m rs, (k, r, n), rfl, er14, hs14, by rw [ew.2]; exact lo, ew1, by rw [ew.2]; omega, fun H15 u2 s15 hu2 => ?_⟩
          refine ⟨u2, _, _, _, _, _, _, rfl, _, _, ⟨on14.same s15, s15 _ _ kD, li14.mono s15, by rw [List.length_append, lrs]; rfl, fun r' hr' => ?_, ?_⟩⟩
          · rcases List.mem_append.mp hr' with y | y
            · exact W.ok r' y
            · rw [List.mem_singleton.mp y]
              exact lo
          · have e1 : errU m (rs ++ [(k, r, n)]) = behU (errU m rs) (k, r, n) := by
              unfold errU
              rw [List.foldl_append]
              rfl
            rw [e1]
            exact hu2
      · rintro σ H6 ⟨e, y7, y8, y9, y10, y11, y12, rfl, xs, rs, W⟩
        rw [Int.toNat_natCast] at W
        exact ⟨e, _, _, _, _, _, _, rfl, xs, rs, W⟩
    · rintro σ H6 ⟨e, y7, y8, y9, y10, y11, y12, rfl, xs, rs, W⟩
      have lrs := W.len
      refine ⟨_, rfl, D, xs, rfl, .inl ⟨.inl (.inl W.lst), fun u nu => ?_⟩⟩
      have su := same_upd (o := .tup xs) nu
      exact fin _ u rs (W.on.same su) ⟨xs, .inl (.inl upd_same), W.lines.mono su, W.ok, by omega⟩ (by omega)
end
end K09
namespace VG
open PySem PySem.Spec PyProof.Rows L2
/-- an exception has come down to this def: what a clause may lean on -/
structure Came (X : Cx) (ps : List (Addr × Obj)) (x : Addr) (G : Heap) (before now : Shared) (y : L2.St) (Y : Hp) (kl : Value) (dd : Option Addr) : Prop where
  inv : Inv X ps y Y before
  ground : ∀ b o, before.heap.get? b = some o → b ∉ frs X.stack → G.get? b = some o
  fly : HandSPX.FlyingZ G (X.env :: X.outer) x (Zc kl dd) now.heap
  up : before.heap.UpToSlots now.heap
  own : Y x = none
  os : now.os = before.os
  gens : AllBare now.gens
/-- the clauses, one behind another, keep what is wished of them -/
def Clauses (X : Cx) (hds : List ExceptHandler) (wf : Ends → WX) : Prop := ∀ (ps : List (Addr × Obj)) (x : Addr) (G : Heap) (before now : Shared) (y : L2.St) (Y : Hp) (kl : Value) (dd : Option Addr) (D : Ends),
  Came X ps x G before now y Y kl dd → wf D kl dd y Y → wpAny (model X.prog X.w) X.A (handleBy (.ref x) X.env hds) (SP X ps D) X.xe now
section
variable {X : Cx} {ps : List (Addr × Obj)} {x : Addr} {G : Heap} {before now : Shared} {y : L2.St} {Y : Hp} {kl : Value} {dd : Option Addr}
theorem Came.to (c : Came X ps x G before now y Y kl dd) {h2 : Heap} (f : HandSPX.FlyingZ G (X.env :: X.outer) x (Zc kl dd) h2) (u : now.heap.UpToSlots h2) : Came X ps x G before { now with heap := h2 } y Y kl dd :=
  ⟨c.inv, c.ground, f, c.up.trans u, c.own, c.os, c.gens⟩
theorem Came.stands (c : Came X ps x G before now y Y kl dd) : Inv X ps y Y now := c.inv.landed c.ground c.fly.1 c.up c.os c.gens
theorem Came.suite (hf : X.env.frame = some X.env.locals) (c : Came X ps x G before now y Y kl dd) :
    ∃ ob, now.heap.get? x = some ob ∧ Zc kl dd ob ∧ (∃ vs, ob.data = .fields vs) ∧ Inv (X.suite x ((x, ob) :: (X.pn ++ ps))) [] y Y now := by
  obtain ⟨ob, vs, e, z, dt⟩ := c.fly.there
  have off : x ∉ frs (X.env :: X.outer) := fun m => by
    obtain ⟨_, o2, e2, q⟩ := c.fly.2.2.1.mem m
    cases e.symm.trans e2
    exact q _ dt
  refine ⟨ob, e, z, ⟨vs, dt⟩, c.stands.suite e dt c.own (fun q => off ?_) (fun q => off ?_)⟩
  · exact List.mem_filterMap.mpr ⟨X.env, List.mem_cons_self, by rw [hf, q]⟩
  · obtain ⟨v, h1, h2⟩ := List.mem_filterMap.mp q
    exact List.mem_filterMap.mpr ⟨v, List.mem_cons_of_mem _ h1, h2⟩
theorem clauses_nil {W : WX} (hs : X.stack = X.env :: X.outer) (hf : X.env.frame = some X.env.locals) (tk : Takes X W) : Clauses X [] (fun _ => W) := by
  intro ps x G before now y Y kl dd D c w
  apply wpAny_handleBy_nil
  obtain ⟨_, _, _, ob, vs, T, oT, ts, g1, _, g3, g4, _⟩ := id c.fly
  have leaves : wpAny (model X.prog X.w) X.A (setFlight (.ref x) X.env.frame) (fun _ st => wpAny (model X.prog X.w) X.A (throw (.ref x) : Sem Flow) (SP X ps D) X.xe st) X.xe now := by
    rw [hf]
    apply HandSPX.setFlight_upZ c.fly
    intro h2 held u2
    apply wpAny_throw
    apply tk
    exact ⟨x, G, before, ps, y, Y, kl, dd, rfl, c.inv, c.ground, c.up.trans u2, .inr (.inr (by rw [hs]; exact held)), c.own, c.os, c.gens, w⟩
  unfold PySem.passOn
  apply wpAny_bind
  apply wpAny_field g1 g3 g4
  have nn : ¬ ((Value.ref T == Value.none) = true) := by simp
  rw [if_neg nn]
  first
    | exact wpAny_bind (wpAny_pure (wpAny_bind leaves))
    | exact wpAny_bind leaves
theorem clauses_as {nm cn : Str} {cv : Value} {i : Nat} {suite : List Stmt} {b0 : Stmt} {p1 p2 : Pos} {hds : List ExceptHandler} {wf : Ends → WX} {ts : Addr → Value → Option Addr → TS}
    (hf : X.env.frame = some X.env.locals) (nd : X.N.Nodup) (at_ : X.N[i]? = some nm) (lc : X.env.kindOf nm = some .local) (cl : Names X cn cv)
    (run : ∀ (a : Addr) (ob : Obj) (k : Value) (d : Option Addr) (pn : List (Addr × Obj)), Zc k d ob → (∃ vs, ob.data = .fields vs) → PSs (X.suite a ((a, ob) :: pn)) (b0 :: suite) (ts a k d)) (r : Clauses X hds wf) :
    Clauses X (.ExceptHandler (some (.Name cn p1)) (some nm) (b0 :: suite) p2 :: hds) (fun D => wAs X.K cv i ts (wf D) D) := by
  intro ps x G before now y Y kl dd D c w
  obtain ⟨yes, tells, ifYes, ifNo⟩ := w
  have own := c.stands.ok
  obtain ⟨ob, e, z, dt, S⟩ := c.suite hf
  apply wpAny_handleBy_cons _ (by intro q; cases q)
  apply codeAny_handlers_test
  have ty : PySem.W.Looks (model X.prog X.w) now.heap (typeOf (.ref x)) kl := fun A Q E s k q => wpAny_typeOf_ref (k _ _ e) (by rw [z.1]; exact q)
  have matches_ := PySem.W.exm_one (M := model X.prog X.w) c.stands.kIn ty tells
  have named : ∀ {Q E : Value → Shared → Prop}, Q cv now → wpAny (model X.prog X.w) (X.A.mark (some (.ref x))) (eval (.Name cn p1) X.env) Q E now := by
    intro Q E q
    rcases cl with ⟨c1, c2, c3 | ⟨c3, c4, c5⟩⟩
    · exact ld_glob (X := X.suite x ((x, ob) :: (X.pn ++ ps))) S c1 c3 q c2
    · exact ld_blt (X := X.suite x ((x, ob) :: (X.pn ++ ps))) S c1 c3 c4 q c5 c2
  apply named
  apply matches_.here
  cases yes with
  | false => exact r ps x G before now y Y kl dd D c (ifNo rfl)
  | true =>
    apply codeAny_handlers_suite_as
    apply HandSPX.lands_againZ c.fly
    intro h2 f2 u2
    have c2 := c.to f2 u2
    obtain ⟨ob2, _, z2, dt2, S2⟩ := c2.suite hf
    apply store_ok (X := X.suite x ((x, ob2) :: (X.pn ++ ps))) (v := .ref x) S2 nd at_ (.inl lc) rfl _ (.inr lc)
    intro s5 S5
    apply wpAny_mono ((run x ob2 kl dd (X.pn ++ ps) z2 dt2).run [] s5 _ Y _ S5 (ifYes rfl x c.own)) _ (fun _ _ q => q.elim)
    intro fl s6 ended
    have forget : ∀ {y6 : L2.St} {Y6 : Hp} {Q : Shared → Prop}, Inv (X.suite x ((x, ob2) :: (X.pn ++ ps))) [] y6 Y6 s6 → (∀ s7, Inv X ps (y6.set i none) Y6 s7 → Q s7) →
        wpAny (model X.prog X.w) X.A (do bindName X.env nm .none; unbindBehindTheSuite X.env nm p2) (fun _ s7 => Q s7) X.xe s6 := fun I6 q => gone_ok (I6.unsuite own) nd at_ lc q
    cases fl with
    | ret u =>
      obtain ⟨v6, y6, Y6, I6, r6, q6⟩ := ended
      exact forget I6 fun s7 I7 => ⟨_, _, _, I7, r6, q6⟩
    | next =>
      obtain ⟨y6, Y6, I6, q6⟩ := ended
      exact forget I6 fun s7 I7 => ⟨_, _, I7, q6⟩
    | brk =>
      obtain ⟨y6, Y6, I6, q6⟩ := ended
      exact forget I6 fun s7 I7 => ⟨_, _, I7, q6⟩
    | cont =>
      obtain ⟨y6, Y6, I6, q6⟩ := ended
      exact forget I6 fun s7 I7 => ⟨_, _, I7, q6⟩
theorem ps_try_by {body : List Stmt} {h0 : ExceptHandler} {hds : List ExceptHandler} {pos : Pos} {wf : Ends → WX} {tb : WX → TS} (hs : X.stack = X.env :: X.outer) (hf : X.env.frame = some X.env.locals)
    (bd : ∀ (W : WX) (pn : List (Addr × Obj)) (xe : Value → Shared → Prop), Takes (X.tr pn xe) W → PassesOwn (model X.prog X.w) X.A X.env xe → PSs (X.tr pn xe) body (tb W)) (cs : Clauses X (h0 :: hds) wf) :
    PS X (.Try body (h0 :: hds) [] [] pos) (fun D y Y => tb (wf D) D y Y) := by
  constructor
  intro ps s y Y D I h
  have ok := I.ok
  have fr : X.A.frames = some (X.env :: X.outer) := ok.frames.trans (congrArg some hs)
  apply wpAny_Try_except
  let xe : Value → Shared → Prop := fun e s1 => wpAny (model X.prog X.w) X.A (noteFrame e X.env) (fun _ s2 => wpAny (model X.prog X.w) X.A (setFlight e none) (fun _ s3 => wpAny (model X.prog X.w) X.A (handleBy e X.env (h0 :: hds)) (SP X ps D) X.xe s3) X.xe s2) X.xe s1
  have caught : Takes (X.tr (X.pn ++ ps) xe) (wf D) := by
    rintro u s2 ⟨x, G, sI, pi, y2, Y2, kl, dd, rfl, I2, nb, up, sky, na, os, ag, w⟩
    have sky2 : Sky G (X.env :: X.outer) x (Zc kl dd) X.env.locals s2.heap := hs ▸ sky
    show wpAny (model X.prog X.w) X.A (noteFrame (.ref x) X.env) _ _ _
    apply Sky.land Zc.steady fr hf sky2
    intro h3 f3 u3
    exact cs ps x G sI { s2 with heap := h3 } y2 Y2 kl dd D ⟨I2.ofTry ok, nb, f3, up.trans u3, na, os, ag⟩ w
  have ran := (bd (wf D) (X.pn ++ ps) xe caught PassesOwn.looking).run [] s y Y D (I.toTry _) h
  apply wpAny_mono ran _ (fun e s1 he => he)
  intro fl s1 ended
  cases fl with
  | ret u =>
    obtain ⟨v, y2, Y2, I2, r2, q⟩ := ended
    exact ⟨v, y2, Y2, I2.ofTry ok, r2, q⟩
  | next =>
    obtain ⟨y2, Y2, I2, q⟩ := ended
    exact wpAny_execs_nil ⟨y2, Y2, I2.ofTry ok, q⟩
  | brk =>
    obtain ⟨y2, Y2, I2, q⟩ := ended
    exact ⟨y2, Y2, I2.ofTry ok, q⟩
  | cont =>
    obtain ⟨y2, Y2, I2, q⟩ := ended
    exact ⟨y2, Y2, I2.ofTry ok, q⟩
end
structure ClXR (P : Program) (w : World) (K : PySem.W.Frag) (mg : Str → Option Value) (base : Heap) (k : Nat) (x : Str) (ks : List Str) (sp : Sp) : Prop where
  ex : ∃ (f : Addr) (fd : FuncData) (ps : List Str), FnOk P w K mg base (L2.CX P w) k f fd ps sp ∧ mg x = some (.ref f) ∧ PySem.W.keepIn K (.ref f) = true ∧ KBinds K fd ps ks (fun us ws => us ++ ws.reverse) (fun vs zs => vs ++ zs.reverse)
section
variable {X : Cx} {k j : Nat} {x : Str} {sp : Sp} {p pos : Pos} {kws : List Keyword} {ks : List Str} {tk : TA} {W : WX}
def tCallXR (sp : Sp) (W : WX) (tk : TA) : TE := fun y Y Q => tk y Y fun zs Y2 => sp zs.reverse Y2 Q (WE W y)
theorem pe_clxr (c : ClXR X.prog X.w X.K X.mg X.base k x ks sp) (hr : Room j X.A) (hk : k ≤ j) (tw : Takes X W) (hg : Gl X x) (hkw : PK X kws tk)
    (h1 : (backToKw pos (keywordEach kws X.env)).all (·.1.isSome) = true := by rfl) (h2 : (backToKw pos (keywordEach kws X.env)).filterMap (·.1) = ks := by rfl)
    (h3 : (x == ("__debug__" : Str)) = false := by decide) (h4 : ((backTo pos (starEach [] X.env)).any (·.1) || (backToKw pos (keywordEach kws X.env)).any (·.1.isNone)) = false := by rfl) :
    PE X (.Call (.Name x p) [] kws pos) (tCallXR sp W tk) := by
  obtain ⟨f, fd, ps, F, m, kp, b⟩ := c.ex
  constructor
  intro pins s y Y Q I h
  apply wpAny_Call_Name_kw
  apply ld_glob I hg m _ h3
  apply PySem.W.callWith_KW0 (h₀ := X.base) I.ok.mod.kin kp h1 _ h4
  have ran := hkw.run pos pins s y Y _ I h
  apply thn ran
  rintro ws s2 ⟨zs, Y2, I2, rz, q2⟩
  refine ⟨I2.kIn, ?_⟩
  rw [h2]
  have rr : Vals zs.reverse ([] ++ ws.reverse) := vals_rev rz
  have len := F.len _ _ _ _ q2
  apply wpAny_call
  apply codeAny_mono (F.run X.A X.stack s2 Y2 ⟨[], ks.zip ws⟩ ([] ++ ws.reverse) zs.reverse Q (WE W y) (hr.mono hk) I2.env0 (b.to s2 [] ws I2.kIn (by rw [← rr.length]; exact len)) rr q2)
  intro r s3 done
  match r, done with
  | .error e, done => exact passAt tw y pins Y2 s2 e s3 I2 done
  | .ok (.ret u), done => exact I2.after done
  | .ok .next, done => exact False.elim done
  | .ok .brk, done => exact False.elim done
  | .ok .cont, done => exact False.elim done
end
structure ClN (P : Program) (w : World) (K : PySem.W.Frag) (mg : Str → Option Value) (base : Heap) (k : Nat) (x : Str) (n : Nat) (ks : List Str) (gV : List V → List V → List V) (sp : Sp) : Prop where
  ex : ∃ (f : Addr) (fd : FuncData) (ps : List Str) (g : List Value → List Value → List Value), FnOk P w K mg base CX0 k f fd ps sp ∧ mg x = some (.ref f) ∧ PySem.W.keepIn K (.ref f) = true ∧ KBn K fd ps n ks g gV
section
variable {X : Cx} {k j n : Nat} {x : Str} {sp : Sp} {p pos : Pos} {e : Expr} {es : List Expr} {kws : List Keyword} {ks : List Str} {t tk : TA} {gV : List V → List V → List V}
theorem pe_cln (c : ClN X.prog X.w X.K X.mg X.base k x n ks gV sp) (hr : Room j X.A) (hk : k ≤ j) (hg : Gl X x) (ha : PA X (e :: es) t) (hkw : PK X kws tk)
    (h1 : (backToKw pos (keywordEach kws X.env)).all (·.1.isSome) = true := by rfl) (h2 : (backToKw pos (keywordEach kws X.env)).filterMap (·.1) = ks := by rfl)
    (h3 : (x == ("__debug__" : Str)) = false := by decide) (h5 : starEach (e :: es) X.env = (false, eval e X.env) :: starEach es X.env := by rfl)
    (h4 : ((backTo pos (starEach (e :: es) X.env)).any (·.1) || (backToKw pos (keywordEach kws X.env)).any (·.1.isNone)) = false := by rfl) :
    PE X (.Call (.Name x p) (e :: es) kws pos) (tCallN n ks.length sp gV E0 t tk) := by
  obtain ⟨f, fd, ps, g, F, m, kp, b⟩ := c.ex
  exact pe_callN F (hr.mono hk) hg m kp b pass0 ha hkw h1 h2 h3 h5 h4
def tCallN0 (m : Nat) (sp : Sp) (gV : List V → List V → List V) (tk : TA) : TE := fun y Y Q => tk y Y fun zs Y2 => zs.length = m ∧ sp (gV [] zs) Y2 Q E0
theorem pe_cln0 (c : ClN X.prog X.w X.K X.mg X.base k x 0 ks gV sp) (hr : Room j X.A) (hk : k ≤ j) (hg : Gl X x) (hkw : PK X kws tk)
    (h1 : (backToKw pos (keywordEach kws X.env)).all (·.1.isSome) = true := by rfl) (h2 : (backToKw pos (keywordEach kws X.env)).filterMap (·.1) = ks := by rfl)
    (h3 : (x == ("__debug__" : Str)) = false := by decide) (h4 : ((backTo pos (starEach [] X.env)).any (·.1) || (backToKw pos (keywordEach kws X.env)).any (·.1.isNone)) = false := by rfl) :
    PE X (.Call (.Name x p) [] kws pos) (tCallN0 ks.length sp gV tk) := by
  obtain ⟨f, fd, ps, g, F, m, kp, b⟩ := c.ex
  constructor
  intro pins s y Y Q I h
  apply wpAny_Call_Name_kw
  apply ld_glob I hg m _ h3
  apply PySem.W.callWith_KW0 (h₀ := X.base) I.ok.mod.kin kp h1 _ h4
  apply thn (hkw.run pos pins s y Y _ I h)
  rintro ws s2 ⟨zs, Y2, I2, rz, l2, q2⟩
  refine ⟨I2.kIn, ?_⟩
  rw [h2]
  exact run_fnN (us := []) (vs := []) F (hr.mono hk) b pass0 I2 .nil rz rfl l2 q2
end
theorem kbn_of {K : PySem.W.Frag} {x qual : Str} {params : Arguments} {body : List Stmt} {scope : Scope} {dvs : List V} {f : Addr} {fd : FuncData} {ps : List Str} {n : Nat} {ks : List Str} {g : List Value → List Value → List Value} {gV : List V → List V → List V}
    (F : FunD K x qual params body scope dvs [] f fd) (hd : dvs ≠ [])
    (h : ∀ (T : Addr) (kV doc pm : Value) (an : Option Addr) (cdv ct : Value) (us its ws : List Value), us.length = n → its.length = dvs.length → ws.length = ks.length →
      ∃ c, bindArgs (PySem.W.fnOf x qual params body scope (.ref T) kV doc pm an cdv ct) ⟨us, ks.zip ws⟩ = seqItems? (.ref T) >>= c ∧ c (some its.toArray) = pure (ps.zip (g us ws)))
    (rel : ∀ {vs : List V} {us : List Value} {zs : List V} {ws : List Value}, Vals vs us → Vals zs ws → Vals (gV vs zs) (g us ws)) : KBn K fd ps n ks g gV := by
  obtain ⟨oc, od, dV, kV, doc, pm, an, cdv, ct, osl, rfl, lk, hcd, hD, hK⟩ := F.ex
  rcases hD with ⟨e, _⟩ | ⟨_, T, o, its, m, rfl, lT, oT, rT⟩
  · exact absurd e hd
  · refine ⟨fun s us ws X l1 l2 => BindsTo.of_looks fun M => ?_, rel⟩
    obtain ⟨c, e1, e2⟩ := h T kV doc pm an cdv ct us its ws l1 rT.length.symm l2
    rw [e1]
    exact looks_items X lT oT (.of_pure e2)
/-- four keywords, turned round -/
theorem kbinds_rev4 {K : PySem.W.Frag} {x qual p1 p2 p3 p4 : Str} {st : Stmt} {f : Addr} {fd : FuncData} (F : Fun K x qual st f fd)
    (h : ∀ (kV doc pm : Value) (an : Option Addr) (cdv ct u v w z : Value) (i : Nat), bindArgs (PySem.W.fnOf x qual (defArgs st) (defBody st) (defScope st) .none kV doc pm an cdv ct)
      (match i with
        | 0 => ⟨[], [(p4, z), (p3, w), (p2, v), (p1, u)]⟩
        | 1 => ⟨[u], [(p4, z), (p3, w), (p2, v)]⟩
        | 2 => ⟨[u, v], [(p4, z), (p3, w)]⟩
        | 3 => ⟨[u, v, w], [(p4, z)]⟩
        | _ => ⟨[u, v, w, z], []⟩) = pure [(p1, u), (p2, v), (p3, w), (p4, z)]) :
    KBinds K fd [p1, p2, p3, p4] [p4, p3, p2, p1] (fun us ws => us ++ ws.reverse) (fun vs zs => vs ++ zs.reverse) := by
  obtain ⟨oc, od, kV, doc, pm, an, cdv, ct, osl, rfl, lk, hcd⟩ := F.ex
  constructor
  · intro s us ws _ hl
    have hl : us.length + ws.length = 4 := by
      rw [List.length_append, List.length_reverse] at hl
      exact hl
    match us, ws, hl with
    | [], [z, w, v, u], _ => exact .of_eq (h kV doc pm an cdv ct u v w z 0)
    | [u], [z, w, v], _ => exact .of_eq (h kV doc pm an cdv ct u v w z 1)
    | [u, v], [z, w], _ => exact .of_eq (h kV doc pm an cdv ct u v w z 2)
    | [u, v, w], [z], _ => exact .of_eq (h kV doc pm an cdv ct u v w z 3)
    | [u, v, w, z], [], _ => exact .of_eq (h kV doc pm an cdv ct u v w z 4)
    | [], [], hl => cases hl
    | [], [_], hl => cases hl
    | [], [_, _], hl => cases hl
    | [], [_, _, _], hl => cases hl
    | [], _ :: _ :: _ :: _ :: _ :: _, hl => simp at hl
    | [_], [], hl => cases hl
    | [_], [_], hl => cases hl
    | [_], [_, _], hl => cases hl
    | [_], _ :: _ :: _ :: _ :: _, hl => simp at hl; omega
    | [_, _], [], hl => cases hl
    | [_, _], [_], hl => cases hl
    | [_, _], _ :: _ :: _ :: _, hl => simp at hl; omega
    | [_, _, _], [], hl => cases hl
    | [_, _, _], _ :: _ :: _, hl => simp at hl; omega
    | [_, _, _, _], _ :: _, hl => simp at hl
    | _ :: _ :: _ :: _ :: _ :: _, ws, hl => simp at hl; omega
  · intro vs us zs ws r1 r2
    exact r1.append (vals_rev r2)
end VG
namespace CK
open PySem PySem.Spec PyProof.Rows L2 VG FR HD
section
variable {X : Cx} {pins : List (Addr × Obj)} {σ : L2.St} {H : Hp} {s : Shared}
mutual
theorem Ov.reads (I : Inv X pins σ H s) : ∀ (d : PyData) (v : V) (u : Value), Ov X.K H v d → RelV v u → ∃ as, Reads s.heap u d as
  | .none, _, _, h, r => by
    cases h
    cases r
    exact ⟨[], Reads.none⟩
  | .bool b, _, _, h, r => by
    cases h
    cases r
    exact ⟨[], Reads.bool b⟩
  | .int i, _, _, h, r => by
    cases h
    obtain ⟨t, rfl⟩ := r
    exact ⟨[], Reads.int i t⟩
  | .str x, _, _, h, r => by
    cases h
    obtain ⟨t, rfl⟩ := r
    exact ⟨[], Reads.str x t⟩
  | .list ds, _, _, h, r => by
    cases h with
    | @lst a xs _ hs ha =>
      cases r
      obtain ⟨its, rv, ⟨o, n, ho, hc, _, hd⟩, _⟩ := I.list (show SqL X.K H a xs from .inl (.inl hs))
      obtain ⟨as, hr⟩ := Ov.readsAll I ds _ its ha rv
      exact ⟨a :: as, Reads.list ho hc hd hr⟩
  | .tuple ds, _, _, h, r => by
    cases h with
    | tup hs ha =>
      cases r
      obtain ⟨its, rv, ⟨o, ho, hc, n, hd⟩, _⟩ := I.tuple hs
      obtain ⟨as, hr⟩ := Ov.readsAll I ds _ its ha rv
      exact ⟨as, Reads.tuple ho hc hd hr⟩
  | .dict kvs, _, _, h, r => by
    cases h with
    | @dct a hs =>
      cases r
      obtain ⟨_, ns, vs, rel, o, es, ep, ho, hx, hd, _, prs, _⟩ := dk_of I.hok hs
      have v0 : vs = [] := by
        cases rel
        rfl
      subst v0
      have e0 : es.toList = [] := List.eq_nil_of_length_eq_zero prs.length
      exact ⟨[a], Reads.dict (h := s.heap) (kvs := []) (as := []) (bs := []) ho hx.1 hd (by rw [e0]; exact ReadsAll.nil) (by rw [e0]; exact ReadsAll.nil)⟩
theorem Ov.readsAll (I : Inv X pins σ H s) : ∀ (ds : List PyData) (vs : List V) (us : List Value), OvAll X.K H vs ds → Vals vs us → ∃ as, ReadsAll s.heap us ds as
  | [], _, _, h, r => by
    cases h
    cases r
    exact ⟨[], ReadsAll.nil⟩
  | d :: ds, _, _, h, r => by
    cases h with
    | cons h1 h2 =>
      cases r with
      | cons r1 r2 =>
        obtain ⟨as, q1⟩ := Ov.reads I d _ _ h1 r1
        obtain ⟨bs, q2⟩ := Ov.readsAll I ds _ _ h2 r2
        exact ⟨as ++ bs, ReadsAll.cons q1 q2⟩
end
/-- how a value shows itself within others -/
def Rep (X : Cx) (s : Shared) (u : Value) (d : PyData) : Prop := ∃ bs, ReadAtMost s.heap d.depth bs ∧ ReprK X.prog X.w bs s.heap d.depth u d.shown
mutual
theorem Ov.rep (I : Inv X pins σ H s) : ∀ (d : PyData) (v : V) (u : Value), Ov X.K H v d → RelV v u → d.showable = true → d.shown.length ≤ sizeLine → Rep X s u d
  | .none, _, _, h, r, _, _ => by
    cases h
    cases r
    refine ⟨[], (fun _ z => nomatch z), ?_⟩
    rw [PyData.shown]
    exact .of_is ReprIs.none _ _ _
  | .bool b, _, _, h, r, _, _ => by
    cases h
    cases r
    refine ⟨[], (fun _ z => nomatch z), ?_⟩
    rw [PyData.shown]
    exact .of_is (ReprIs.bool b) _ _ _
  | .int i, _, _, h, r, hs, _ => by
    cases h
    obtain ⟨t, rfl⟩ := r
    refine ⟨[], (fun _ z => nomatch z), ?_⟩
    rw [PyData.showable] at hs
    rw [PyData.shown]
    exact .of_is (ReprIs.int t (of_decide_eq_true hs)) _ _ _
  | .str x, _, _, h, r, _, hz => by
    cases h
    obtain ⟨t, rfl⟩ := r
    refine ⟨[], (fun _ z => nomatch z), ?_⟩
    rw [PyData.shown] at hz ⊢
    exact .of_is (ReprIs.str x t hz) _ _ _
  | .list ds, _, _, h, r, hs, hz => by
    cases h with
    | @lst a xs _ hl ha =>
      cases r
      obtain ⟨its, rv, ⟨o, n, ho, hc, _, hd⟩, _⟩ := I.list (show SqL X.K H a xs from .inl (.inl hl))
      obtain ⟨as, hr⟩ := Ov.readsAll I ds _ its ha rv
      rw [PyData.showable] at hs
      have hz2 : (listText (PyData.shownAll ds)).length ≤ sizeLine := hz
      obtain ⟨bs, hb, hk⟩ := Ov.repAll I ds _ its ha rv hs fun t ht => Nat.le_trans (listText_mem_le ht) hz2
      have rd : Reads s.heap (.ref a) (.list ds) (a :: as) := Reads.list ho hc hd hr
      have dp : PyData.depthAll ds < (PyData.list ds).depth := by
        rw [PyData.depth]
        omega
      refine ⟨a :: bs, ReadAtMost.cons rd (Nat.le_of_lt dp) hb, ?_⟩
      have hna := not_mem_of_deeper rd dp hb
      cases its with
      | nil =>
        cases hr
        exact ReprK.listEmpty ho hc hd
      | cons x l =>
        rw [PyData.depth]
        exact ReprK.list ho hc hd hna (by simpa using hk.length_eq) (fun i y e => hk.item i y (by simpa using e))
  | .tuple ds, _, _, h, r, hs, hz => by
    cases h with
    | @tup a xs _ hl ha =>
      cases r
      obtain ⟨its, rv, ⟨o, ho, hc, n, hd⟩, _⟩ := I.tuple hl
      obtain ⟨as, hr⟩ := Ov.readsAll I ds _ its ha rv
      rw [PyData.showable] at hs
      have hz2 : (tupleText (PyData.shownAll ds)).length ≤ sizeLine := hz
      obtain ⟨bs, hb, hk⟩ := Ov.repAll I ds _ its ha rv hs fun t ht => Nat.le_trans (tupleText_mem_le ht) hz2
      have rd : Reads s.heap (.ref a) (.tuple ds) as := Reads.tuple ho hc hd hr
      have dp : PyData.depthAll ds < (PyData.tuple ds).depth := by
        rw [PyData.depth]
        omega
      refine ⟨a :: bs, ReadAtMost.cons rd (Nat.le_of_lt dp) hb, ?_⟩
      rw [PyData.depth]
      exact ReprK.tuple ho hc hd (not_mem_of_deeper rd dp hb) hk
  | .dict kvs, _, _, h, r, hs, hz => by
    cases h with
    | @dct a hd0 =>
      cases r
      obtain ⟨_, ns, vs, rel, o, es, ep, ho, hx, hd, _, prs, _⟩ := dk_of I.hok hd0
      have v0 : vs = [] := by
        cases rel
        rfl
      subst v0
      have e0 : es.toList = [] := List.eq_nil_of_length_eq_zero prs.length
      have rd : Reads s.heap (.ref a) (.dict []) [a] := Reads.dict (kvs := []) (as := []) (bs := []) ho hx.1 hd (by rw [e0]; exact ReadsAll.nil) (by rw [e0]; exact ReadsAll.nil)
      refine ⟨[a], ReadAtMost.cons (n := 0) rd (Nat.zero_le _) (fun _ z => nomatch z), ?_⟩
      rw [PyData.depth]
      exact ReprK.dict (as := []) ho hx.1 hd ns List.not_mem_nil (by rw [e0]; exact .nil)
theorem Ov.repAll (I : Inv X pins σ H s) : ∀ (ds : List PyData) (vs : List V) (us : List Value), OvAll X.K H vs ds → Vals vs us → PyData.showableAll ds = true → (∀ t ∈ PyData.shownAll ds, t.length ≤ sizeLine) →
    ∃ bs, ReadAtMost s.heap (PyData.depthAll ds) bs ∧ ReprAllK X.prog X.w bs s.heap (PyData.depthAll ds) us (PyData.shownAll ds)
  | [], _, _, h, r, _, _ => by
    cases h
    cases r
    refine ⟨[], (fun _ z => nomatch z), ?_⟩
    rw [PyData.shownAll]
    exact .nil
  | d :: ds, _, _, h, r, hs, hz => by
    cases h with
    | cons h1 h2 =>
      cases r with
      | cons r1 r2 =>
        rw [PyData.showableAll, Bool.and_eq_true] at hs
        rw [PyData.shownAll] at hz
        obtain ⟨b1, q1, k1⟩ := Ov.rep I d _ _ h1 r1 hs.1 (hz _ List.mem_cons_self)
        obtain ⟨b2, q2, k2⟩ := Ov.repAll I ds _ _ h2 r2 hs.2 fun t ht => hz t (List.mem_cons_of_mem _ ht)
        rw [PyData.depthAll, PyData.shownAll]
        exact ⟨b1 ++ b2, (q1.mono (Nat.le_max_left _ _)).append (q2.mono (Nat.le_max_right _ _)), .cons ((k1.more fun b hb => List.mem_append_left _ hb).level_le (Nat.le_max_left _ _)) (k2.more_le (fun b hb => List.mem_append_right _ hb) (Nat.le_max_right _ _))⟩
end
end
def rReprO (K : PySem.W.Frag) : List V → Hp → VK → Prop := fun xs H Q =>
  ∃ v d, xs = [v] ∧ Ov K H v d ∧ d.showable = true ∧ d.depth ≤ 60 ∧ d.shown.length ≤ sizeLine ∧ Q (.str d.shown) H
theorem cr_reprO {X : Cx} (hg : X.A.guards = some []) (hu : X.A.units + 64 < cLine) : CallR X (.builtin "repr") (rReprO X.K) := by
  intro pins s σ H vs us Q I r h
  obtain ⟨v, d, rfl, hd, h1, h2, h3, q⟩ := h
  cases r with
  | @cons _ u _ _ r1 r2 =>
    cases r2
    have go : ∀ (T idr : String) (a : Addr), s.TypeIs (.ref a) T → SlotG T "__repr__" idr →
        (∀ (E Q : Value → Shared → Prop), (∀ h' u tk, (∀ b o, s.heap.get? b = some o → h'.get? b = some o) → Q (.str d.shown u) { s with heap := h', toks := tk }) → wpAny (model X.prog X.w) X.A.in1 (call (.builtin idr) [.ref a]) Q E s) →
        wpAny (model X.prog X.w) X.A (call (.builtin "repr") [.ref a]) (fun u s1 => ∃ v H1, Inv X pins σ H1 s1 ∧ RelV v u ∧ Q v H1) X.xe s := fun T idr a ty sl run =>
      call_repr_slot (by omega) ty sl (run _ _ fun h' u tk hk => ⟨_, _, rfl, ⟨.str (PyData.shown _), H, I.kept hk, ⟨u, rfl⟩, q⟩⟩)
    cases hd with
    | non =>
      cases r1
      exact P.repr_of_none ⟨.str (PyData.none).shown, H, I.tok _, ⟨s.toks, rfl⟩, q⟩
    | bl b =>
      cases r1
      refine P.repr_of_bool ⟨.str (PyData.bool b).shown, H, I.tok _, ⟨s.toks, ?_⟩, q⟩
      cases b <;> rfl
    | int i =>
      obtain ⟨t, rfl⟩ := r1
      rw [PyData.showable] at h1
      exact P.repr_of_int (of_decide_eq_true h1) ⟨.str (PyData.int i).shown, H, I.tok _, ⟨s.toks, rfl⟩, q⟩
    | str x =>
      obtain ⟨t, rfl⟩ := r1
      exact P.repr_of_str ⟨.str (PyData.str x).shown, H, I.tok _, ⟨s.toks, rfl⟩, q⟩ h3
    | @dct a hd0 =>
      cases r1
      obtain ⟨_, ns, vs, rel, o, es, ep, ho, hx, hd, _, prs, _⟩ := dk_of I.hok hd0
      have v0 : vs = [] := by
        cases rel
        rfl
      subst v0
      have e0 : es.toList = [] := List.eq_nil_of_length_eq_zero prs.length
      exact go "dict" "dict.__repr__" a ⟨o, ho, hx.1⟩ F.slot_dict_repr fun E Q hQ => call_dict_reprK (as := []) (ps := []) (d := 0) ho hx.1 hd ns List.not_mem_nil (by rw [e0]; exact .nil) (g := []) hg (fun b _ => Clear.nil b) (by show X.A.units + 1 + (0 + 1) < cLine; omega) (fun _ _ z => z) hQ h3
    | @lst a xs ds hl ha =>
      cases r1
      obtain ⟨its, rv, ⟨o, n, ho, hc, _, hd⟩, _⟩ := I.list (show SqL X.K H a xs from .inl (.inl hl))
      obtain ⟨as, hr⟩ := Ov.readsAll I ds _ its ha rv
      rw [PyData.showable] at h1
      have hz2 : (listText (PyData.shownAll ds)).length ≤ sizeLine := h3
      obtain ⟨bs, hb, hk⟩ := Ov.repAll I ds _ its ha rv h1 fun t ht => Nat.le_trans (listText_mem_le ht) hz2
      have rd : Reads s.heap (.ref a) (.list ds) (a :: as) := Reads.list ho hc hd hr
      rw [PyData.depth] at h2
      have hna := not_mem_of_deeper rd (n := PyData.depthAll ds) (by rw [PyData.depth]; omega) hb
      refine go "list" "list.__repr__" a ⟨o, ho, hc⟩ F.slot_list_repr.toG fun E Q hQ => ?_
      cases its with
      | nil =>
        cases hr
        exact call_list_repr_empty ⟨o, ho, hc⟩ ho hd (hQ s.heap _ _ fun _ _ z => z)
      | cons x l =>
        exact call_list_reprK ho hc hd hna (by simpa using hk.length_eq) (fun i y e => hk.item i y (by simpa using e)) (g := []) hg (fun b _ => Clear.nil b) (by show X.A.units + 1 + (PyData.depthAll ds + 1) < cLine; omega) (fun _ _ z => z) hQ hz2
    | @tup a xs ds hl ha =>
      cases r1
      obtain ⟨its, rv, ⟨o, ho, hc, n, hd⟩, _⟩ := I.tuple hl
      obtain ⟨as, hr⟩ := Ov.readsAll I ds _ its ha rv
      rw [PyData.showable] at h1
      have hz2 : (tupleText (PyData.shownAll ds)).length ≤ sizeLine := h3
      obtain ⟨bs, hb, hk⟩ := Ov.repAll I ds _ its ha rv h1 fun t ht => Nat.le_trans (tupleText_mem_le ht) hz2
      have rd : Reads s.heap (.ref a) (.tuple ds) as := Reads.tuple ho hc hd hr
      rw [PyData.depth] at h2
      have hna := not_mem_of_deeper rd (n := PyData.depthAll ds) (by rw [PyData.depth]; omega) hb
      exact go "tuple" "tuple.__repr__" a ⟨o, ho, hc⟩ F.slot_tuple_repr fun E Q hQ => call_tuple_reprK ho hc hd hna hk (g := []) hg (fun b _ => Clear.nil b) (by show X.A.units + 1 + (PyData.depthAll ds + 1) < cLine; omega) (fun _ _ z => z) hQ hz2
theorem list_text (ts : List Str) : (listText ts).length ≤ piled ts + 2 := by
  cases ts with
  | nil => decide +kernel
  | cons t r =>
    unfold listText
    rw [strLen_append]
    have e1 : (((("]" : String) : Str)).length) = 1 := rfl
    have e2 : (((("[" : String) : Str)).length) = 1 := rfl
    have h := textFrom_length_pos r 1 ((("[" : String) : Str) ++ (if 0 > 0 then ", " else "" : String) ++ t) (by decide)
    have e3 : ((("[" : String) : Str) ++ (if 0 > 0 then ", " else "" : String) ++ t).length = 1 + 0 + t.length := by
      rw [strLen_append, strLen_append, e2]
      rfl
    rw [e3] at h
    rw [piled_cons]
    show (textFrom (0 + 1) ((("[" : String) : Str) ++ (if 0 > 0 then ", " else "" : String) ++ t) r).length + _ ≤ _
    rw [Nat.zero_add, h, e1]
    omega
def ShO (k B : Nat) (d : PyData) : Prop := d.showable = true ∧ d.depth ≤ k ∧ d.shown.length ≤ B
theorem ShO.mono {k B k' B' : Nat} {d : PyData} (h : ShO k B d) (hk : k ≤ k') (hB : B ≤ B') : ShO k' B' d := ⟨h.1, Nat.le_trans h.2.1 hk, Nat.le_trans h.2.2 hB⟩
theorem Shn.o {k B : Nat} {d : PyData} (h : Shn d k B) : ShO k B d := ⟨h.1, h.2.2.1, h.2.2.2⟩
theorem shO_all {k B : Nat} : ∀ ds : List PyData, (∀ d ∈ ds, ShO k B d) → PyData.showableAll ds = true ∧ PyData.depthAll ds ≤ k ∧ piled (PyData.shownAll ds) ≤ (B + 2) * ds.length
  | [], _ => ⟨by simp [PyData.showableAll], by simp [PyData.depthAll], by simp [PyData.shownAll, piled]⟩
  | d :: ds, h => by
    have ⟨a1, a3, a4⟩ := h d List.mem_cons_self
    have ⟨b1, b3, b4⟩ := shO_all ds fun e he => h e (List.mem_cons_of_mem _ he)
    refine ⟨?_, ?_, ?_⟩
    · rw [PyData.showableAll, a1, b1]
      rfl
    · rw [PyData.depthAll]
      omega
    · rw [PyData.shownAll, piled_cons, List.length_cons, Nat.mul_succ]
      omega
theorem shO_tup {k B n : Nat} {ds : List PyData} (h : ∀ d ∈ ds, ShO k B d) (hn : ds.length ≤ n) : ShO (k + 1) ((B + 2) * n + 2) (.tuple ds) := by
  have ⟨b1, b3, b4⟩ := shO_all ds h
  refine ⟨?_, ?_, ?_⟩
  · rw [PyData.showable]
    exact b1
  · rw [PyData.depth]
    omega
  · show (tupleText (PyData.shownAll ds)).length ≤ _
    have e := fmt_text (PyData.shownAll ds)
    have m : (B + 2) * ds.length ≤ (B + 2) * n := Nat.mul_le_mul_left _ hn
    omega
theorem shO_lst {k B n : Nat} {ds : List PyData} (h : ∀ d ∈ ds, ShO k B d) (hn : ds.length ≤ n) : ShO (k + 1) ((B + 2) * n + 2) (.list ds) := by
  have ⟨b1, b3, b4⟩ := shO_all ds h
  refine ⟨?_, ?_, ?_⟩
  · rw [PyData.showable]
    exact b1
  · rw [PyData.depth]
    omega
  · show (listText (PyData.shownAll ds)).length ≤ _
    have e := list_text (PyData.shownAll ds)
    have m : (B + 2) * ds.length ≤ (B + 2) * n := Nat.mul_le_mul_left _ hn
    omega
/-- atoms -/
def Atm (d : PyData) : Prop := ShO 1 60 d
theorem atm_none : Atm .none := ⟨by simp [PyData.showable], by simp [PyData.depth], by decide +kernel⟩
theorem atm_bool (b : Bool) : Atm (.bool b) := ⟨by simp [PyData.showable], by simp [PyData.depth], by cases b <;> decide +kernel⟩
theorem atm_dict : Atm (.dict []) := ⟨by simp [PyData.showable, PyData.showableKv], by simp [PyData.depth, PyData.depthKv], by decide +kernel⟩
theorem atm_int {a : Int} (h : a.natAbs < 2 ^ 50) : Atm (.int a) := (Shn.o (shn_int (k := 50) (by decide) h (by decide))).mono (by decide) (by decide)
theorem atm_str {x : Str} (h : (PyData.str x).shown.length ≤ 60) : Atm (.str x) := ⟨by simp [PyData.showable], by simp [PyData.depth], h⟩
end CK
namespace CK
open PySem PySem.Spec PyProof.Rows L2 VG FR HD M9
/-- how a refusal is told: the line or the day, and where -/
def E9 (IL ID : Addr) (Q : VK) : XK := fun cls d H' =>
  (cls = .ref IL ∧ ∃ (dd : Addr) (v : V), d = some dd ∧ H' dd = some (.xd [("at", v)]) ∧ ∀ H2 u, Same H' H2 → H2 u = some (.tup [.str ("line" : String), v]) → Q (.ref u) H2) ∨
    (cls = .ref ID ∧ ∃ (dd : Addr) (v : V), d = some dd ∧ H' dd = some (.xd [("at", v)]) ∧ ∀ H2 u, Same H' H2 → H2 u = some (.tup [.str ("day" : String), v]) → Q (.ref u) H2)
/-- what is heard of an action: the line or the day that is refused, None if it goes through -/
def THeard9 (IL ID : Addr) : (XK → Hp → VK → Prop) → Hp → VK → Prop := fun tl H Q => tl (E9 IL ID Q) H (fun _ H' => Q .non H')
end CK
namespace K09
open PySem PySem.Spec PyProof.Rows L2 VG FR CK HD M9
abbrev s__law_heard : Stmt := topS 73
abbrev N__law_heard : List Str := ["action", "error"]
theorem sc__law_heard : FnScope N__law_heard ["action"] (defScope s__law_heard) := ⟨rfl, rfl, rfl, by decide +kernel, rfl, by decide +kernel, by decide +kernel⟩
theorem heard_gives {X : Cx} {IL ID Ct g : Addr} {q : Str} {cdg : Value} (m_IL : X.mg "InvalidLine" = some (.ref IL)) (m_ID : X.mg "InvalidDay" = some (.ref ID)) (m_TillError : X.mg "TillError" = some (.ref Ct))
    (T_L : XfC X.K IL) (T_D : XfC X.K ID) (no_L : PySem.W.findIn X.K (.ref IL) "at" = some none) (no_D : PySem.W.findIn X.K (.ref ID) "at" = some none)
    (t1 : PySem.W.exmOne X.K (.ref IL) (.ref IL) = some true) (t2 : PySem.W.exmOne X.K (.ref ID) (.ref IL) = some false) (t3 : PySem.W.exmOne X.K (.ref ID) (.ref ID) = some true) (exL : ExcC X.K IL) (exD : ExcC X.K ID)
    (k1 : PySem.W.kitOne X.K (.ref IL) (.ref Ct) = some true) (k2 : PySem.W.kitOne X.K (.ref IL) (.ref ID) = some false) (k3 : PySem.W.kitOne X.K (.ref ID) (.ref Ct) = some true) (z_isinstance : X.mg "isinstance" = none) :
    LamX.GivesTo X N__law_heard "_law_heard" (defScope s__law_heard) g cdg (defBody s__law_heard) "action" q (THeard9 IL ID) := by
  intro f c' s H Q tl act hc h
  refine ⟨_, (pss_cons (ps_try_by (X := (cxOf C8.CX0 X.prog X.w X.K X.mg X.base N__law_heard "_law_heard" (defScope s__law_heard) g cdg X.A X.stack s H C8.E0).nox)
      (tb := fun W D σ H => ∃ Ech : XK, (∀ cls d σ' H', Ech cls d H' → σ'.length = 2 → W cls d σ' H') ∧ σ[0]? = some (some (.ref f)) ∧ H c' = some (LamX.CodeO c' q) ∧ tl Ech H (fun _ H' => D.nx σ H'))
      rfl rfl (fun W pn xe tk _ => ?_)
      (clauses_as (i := 1) (cv := .ref IL) rfl sc__law_heard.nd rfl rfl ⟨rfl, by decide, .inl m_IL⟩ (fun a oe cls d pn hz hf => pss_one (ps_ret (pe_ifExp (PW.pt (pw_and
          (pt_val (pe_callB (show CallR _ (.builtin "isinstance") (rIsX X.K a cls d) from call_isX hz hf) (by rfl) z_isinstance (by decide +kernel) (pa_cons (pv 1) (pa_cons (pe_glob (v := .ref _) rfl m_TillError rfl) pa_nil))))
          (pw_and1 (pt_not (pt_val (pe_callB (show CallR _ (.builtin "isinstance") (rIsX X.K a cls d) from call_isX hz hf) (by rfl) z_isinstance (by decide +kernel) (pa_cons (pv 1) (pa_cons (pe_glob (v := .ref _) rfl m_ID rfl) pa_nil))))))))
        (pe_tup (pa_cons pe_str (pa_cons (pe_xf T_L no_L hz hf (pv 1)) pa_nil))) pe_str)))
      (clauses_as (i := 1) (cv := .ref ID) rfl sc__law_heard.nd rfl rfl ⟨rfl, by decide, .inl m_ID⟩ (fun a oe cls d pn hz hf => pss_one (ps_ret (pe_ifExp
          (pt_val (pe_callB (show CallR _ (.builtin "isinstance") (rIsX X.K a cls d) from call_isX hz hf) (by rfl) z_isinstance (by decide +kernel) (pa_cons (pv 1) (pa_cons (pe_glob (v := .ref _) rfl m_TillError rfl) pa_nil))))
        (pe_tup (pa_cons pe_str (pa_cons (pe_xf T_D no_D hz hf (pv 1)) pa_nil))) pe_str)))
      (clauses_nil rfl rfl takes0))))
    (pss_one (ps_ret pe_non))), ?_⟩
  · refine ⟨fun pins s' σ H' D I h' => ?_⟩
    obtain ⟨Ech, hW, h1, h2, h3⟩ := h'
    exact PSs.run (pss_one (ps_expr (act _ pn xe Ech _ _ (takes_len tk) hW))) pins s' σ H' D I ⟨h1, h2, h3⟩
  · refine ⟨E9 IL ID Q, fun cls d σ' H' hE hl => ?_, rfl, hc, h⟩
    have hg : ∀ v : Option V, (σ'.set 1 v)[1]? = some v := fun v => get_set_len hl (by decide)
    rcases hE with ⟨rfl, dd, v, rfl, hd, hq⟩ | ⟨rfl, dd, v, rfl, hd, hq⟩
    · refine ⟨true, t1, fun _ x hx => ?_, fun z => nomatch z⟩
      refine ⟨_, hg _, IL, dd, _, _, _, true, rfl, rfl, hd, exL, rfl, fun u r => r, k1, true, rfl, iteT ?_⟩
      refine ⟨_, hg _, IL, dd, _, _, _, false, rfl, rfl, hd, exL, rfl, fun u r => r, k2, false, rfl, iteT ?_⟩
      refine ⟨_, hg _, rfl, rfl, dd, _, _, rfl, hd, rfl, ?_⟩
      refine ⟨Nat.le_of_ble_eq_true rfl, fun u nu => ?_⟩
      generalize eH2 : L2.upd _ u _ = H2
      have s2 := same_of nu eH2
      have ku := at_of eH2
      clear eH2
      exact hq H2 u s2 ku
    · refine ⟨false, t2, (fun z => nomatch z), fun _ => ⟨true, t3, fun _ x hx => ?_, (fun z => nomatch z)⟩⟩
      refine ⟨_, hg _, ID, dd, _, _, _, true, rfl, rfl, hd, exD, rfl, fun u r => r, k3, true, rfl, iteT ?_⟩
      refine ⟨_, hg _, rfl, rfl, dd, _, _, rfl, hd, rfl, ?_⟩
      refine ⟨Nat.le_of_ble_eq_true rfl, fun u nu => ?_⟩
      generalize eH2 : L2.upd _ u _ = H2
      have s2 := same_of nu eH2
      have ku := at_of eH2
      clear eH2
      exact hq H2 u s2 ku
/-- what is known of `_law_heard` and of the errors that it hears -/
structure Hrd (K : PySem.W.Frag) (mg : Str → Option Value) (IL ID : Addr) : Prop where
  ex : ∃ (g Ct : Addr) (fd : FuncData), Fun K "_law_heard" "_law_heard" s__law_heard g fd ∧ mg "_law_heard" = some (.ref g) ∧ mg "InvalidLine" = some (.ref IL) ∧ mg "InvalidDay" = some (.ref ID) ∧ mg "TillError" = some (.ref Ct) ∧
    PySem.W.kitOne K (.ref IL) (.ref Ct) = some true ∧ PySem.W.kitOne K (.ref IL) (.ref ID) = some false ∧ PySem.W.kitOne K (.ref ID) (.ref Ct) = some true
  xL : XfC K IL
  xD : XfC K ID
  nL : PySem.W.findIn K (.ref IL) "at" = some none
  nD : PySem.W.findIn K (.ref ID) "at" = some none
  t1 : PySem.W.exmOne K (.ref IL) (.ref IL) = some true
  t2 : PySem.W.exmOne K (.ref ID) (.ref IL) = some false
  t3 : PySem.W.exmOne K (.ref ID) (.ref ID) = some true
  eL : ExcC K IL
  eD : ExcC K ID
  zi : mg "isinstance" = none
/-- the name of a def's lambdas -/
def lamQ (q : Str) : Str := q ++ "<lambda>"
/-- _law_heard(lambda: body) -/
theorem pe_heard {X : Cx} {IL ID : Addr} {T : List (Addr × Str)} {c P : Addr} {k : Nat} {params : Arguments} {body : Expr} {scope : Scope} {t : XK → TE} {p lpos pos : Pos} (hd : Hrd X.K X.mg IL ID) (hg : Gl X "_law_heard")
    (TB : LamX.TabB X.base X.mg c P) (code : X.env.code = .ref c) (inT : (P, lamQ X.env.qual) ∈ T) (oneT : ∀ p ∈ T, p.1 = P → p.2 = lamQ X.env.qual) (room : Room (k + 2) X.A) (L : LamX.LamS X.env.scope scope) (plain : defaultsOf params X.env = ([], []))
    (bind : ∀ (q : Str) (cl : List (Str × Addr)) (pm cv ctv : Value), bindArgs (PySem.W.kla_fn "<lambda>" q params body scope cl pm cv ctv) ⟨[], []⟩ = pure [])
    (run : ∀ (A : Around) (outer : List Env) (s : Shared) (H : Hp) (E : XK) (f c' : Addr), Room k (A.deeper (LamX.lamEnv X scope s.heap.objs.size f c')) → PE (LamX.lamCx X A outer s H E scope f c') body (t E)) :
    PE X (.Call (.Name "_law_heard" p) [.Lambda params body scope lpos] [] pos) (LamX.tLam T (THeard9 IL ID) t) := by
  obtain ⟨g, Ct, fd, F, mg, mL, mD, mT, k1, k2, k3⟩ := hd.ex
  have binds := F.binds (ps := ["action"]) (fun _ _ _ _ _ _ us hl => match us, hl with | [_], _ => rfl)
  have kp := F.kp
  obtain ⟨oc, od, kV, doc, pm, an, cdv, ct, osl, rfl, lk, hcd⟩ := F.ex
  exact LamX.pe_lamcall (Ng := N__law_heard) (a := "action") hg mg kp lk hcd binds sc__law_heard rfl (Or.inl rfl) (heard_gives mL mD mT hd.xL hd.xD hd.nL hd.nD hd.t1 hd.t2 hd.t3 hd.eL hd.eD k1 k2 k3 hd.zi) TB code inT oneT room L plain bind run
end K09
namespace CK
open PySem PySem.Spec PyProof.Rows L2 VG FR HD M9
def offI : Option Int → V
  | none => .non
  | some i => .int i
def spLF (K : PySem.W.Frag) : Sp := fun vs H Q _ => ∃ (v : V) (d : PyData) (m : Nat), vs = [.int (m : Int), v] ∧ Ov K H v d ∧ ∀ H', Same H H' → Q (offI (lineFault m d)) H'
def spDF (K : PySem.W.Frag) : Sp := fun vs H Q _ => ∃ (v : V) (d : PyData) (m : Nat), vs = [.int (m : Int), v] ∧ Ov K H v d ∧ ∀ H', Same H H' → Q (offI (dayFault m d)) H'
theorem fault_len {m : Nat} {ds : List PyData} (h : ds.length ≠ 2) : lineFault m (.tuple ds) = some (-1) := fault_tup (by
  show decide (ds.length = 2) = false
  exact decide_eq_false h)
theorem amt_two {ds : List PyData} (h : ds.length = 2) : ∃ x y, ds = [x, y] := by
  match ds, h with
  | [x, y], _ => exact ⟨x, y, rfl⟩
end CK
namespace K09
open PySem PySem.Spec PyProof.Rows L2 VG FR CK HD M9
abbrev s__law_line_fault : Stmt := topS 69
abbrev N__law_line_fault : List Str := ["many", "value", "amount", "one"]
theorem sc__law_line_fault : FnScope N__law_line_fault ["many", "value"] (defScope s__law_line_fault) := ⟨rfl, rfl, rfl, by decide +kernel, rfl, by decide +kernel, by decide +kernel⟩
abbrev s__law_day_fault : Stmt := topS 70
abbrev N__law_day_fault : List Str := ["many", "value", "at", "item"]
theorem sc__law_day_fault : FnScope N__law_day_fault ["many", "value"] (defScope s__law_day_fault) := ⟨rfl, rfl, rfl, by decide +kernel, rfl, by decide +kernel, by decide +kernel⟩
section
variable {P : Program} {w : World} {K : PySem.W.Frag} {mg : Str → Option Value} {base : Heap}
theorem ok__law_line_fault {f : Addr} {fd : FuncData} (F : Fun K "_law_line_fault" "_law_line_fault" s__law_line_fault f fd) (C__law_integer : Cl P w K mg base 1 "_law_integer" (spInt K)) (C__law_fraction : Cl P w K mg base 1 "_law_fraction" spFr9) (z_isinstance : mg "isinstance" = none) (z_tuple : mg "tuple" = none) (z_len : mg "len" = none) (z_all : mg "all" = none) : FnOk P w K mg base CX0 2 f fd ["many", "value"] (spLF K) := by
  refine F.ok sc__law_line_fault (fun vs H Q E h => ?_) (fun cdv A outer s H vs Q E hr h => ?_)
  · obtain ⟨_, _, _, rfl, _⟩ := h
    rfl
  · obtain ⟨v, d, m, rfl, hd, fin⟩ := h
    refine ⟨_, (pss_cons (ps_if (PW.pt (pw_or (pt_not (pt_val (pe_callB call_isi (by rfl) z_isinstance (by decide +kernel) (pa_cons (pv 1) (pa_cons (pe_bltn (v := .ty "tuple") (by rfl) z_tuple (by decide +kernel) rfl) pa_nil))))) (pw_or1 (pt_cmpR op_ne (pe_callB call_len_seq (by rfl) z_len (by decide +kernel) (pa_cons (pv 1) pa_nil)) pe_int (nomark _)))))
      (pss_one (ps_ret (pe_op op_sub pe_int pe_int)))
      pss_nil)
    (pss_cons (ps_if (PW.pt (pw_or (pt_not (pt_val (pe_cl C__law_integer hr (by decide) rfl (pa_cons (pe_ix ix_tup (pv 1) pe_int (fun _ _ => rfl)) pa_nil)))) (pw_or1 (pt_not (pt_chain op_le op_lt pe_int (pe_ix ix_tup (pv 1) pe_int (fun _ _ => rfl)) (pv 0))))))
      (pss_one (ps_ret pe_int))
      pss_nil)
    (pss_cons (ps_set (i := 2) sc__law_line_fault.nd rfl (.inl rfl) (pe_ix ix_tup (pv 1) pe_int (fun _ _ => rfl)))
    (pss_cons (ps_if (PW.pt (pw_or (pt_not (pt_val (pe_callB call_isi (by rfl) z_isinstance (by decide +kernel) (pa_cons (pv 2) (pa_cons (pe_bltn (v := .ty "tuple") (by rfl) z_tuple (by decide +kernel) rfl) pa_nil))))) (pw_or (pt_cmpR op_ne (pe_callB call_len_seq (by rfl) z_len (by decide +kernel) (pa_cons (pv 2) pa_nil)) pe_int (nomark _)) (pw_or1 (pt_not (pt_val (pe_callB (cr_all rfl) (by rfl) z_all (by decide +kernel) (pa_cons (pe_lc (own := [("one", 3)]) (by rfl) sc__law_line_fault.nd (pi_tup (pv 2)) (blkOk_by (own := [("one", 3)]) (N := N__law_line_fault) (sc := defScope s__law_line_fault) (by decide +kernel)) (fun _ _ _ _ _ => (pg_name (i := 3) sc__law_line_fault.nd rfl (.inl rfl))) (fun _ _ _ _ _ => pts_nil) (fun _ _ _ _ _ => (pe_cl C__law_integer hr (by decide) rfl (pa_cons (pv 3) pa_nil)))) pa_nil))))))))
      (pss_one (ps_ret pe_int))
      pss_nil)
    (pss_cons (ps_if (PW.pt (pw_or (pt_not (pt_chain op_le op_le (pe_op op_sub pe_int (pe_op op_pow pe_int pe_int)) (pe_ix ix_tup (pv 2) pe_int (fun _ _ => rfl)) (pe_op op_pow pe_int pe_int))) (pw_or1 (pt_not (pt_chain op_lt op_le pe_int (pe_ix ix_tup (pv 2) pe_int (fun _ _ => rfl)) (pe_op op_pow pe_int pe_int))))))
      (pss_one (ps_ret pe_int))
      pss_nil)
    (pss_one (ps_ret (pe_ifExp (pt_cmpR (op_eqD hr.units) (pe_cl C__law_fraction hr (by decide) rfl (pa_cons (pe_ix ix_tup (pv 2) pe_int (fun _ _ => rfl)) (pa_cons (pe_ix ix_tup (pv 2) pe_int (fun _ _ => rfl)) pa_nil))) (pv 2) (nomark _)) pe_non pe_int)))))))), ?_⟩
    cases hT : isTupD d with
    | false =>
      obtain ⟨ty, t, k⟩ := hd.noTup hT
      have q := fin H (Same.refl _)
      have e : lineFault m d = some (-1) := by
        cases d with
        | tuple ds => cases hT
        | _ => rfl
      rw [e] at q
      refine ⟨_, rfl, _, _, _, _, false, rfl, .ty "tuple", t, kit_ty k, false, rfl, iteT (iteT ?_)⟩
      exact ⟨_, _, rfl, rfl, q⟩
    | true =>
    cases d with
    | tuple ds =>
      obtain ⟨t, xs, rfl, hS, hA⟩ := hd.isT
      have lx := hA.len
      refine ⟨_, rfl, _, _, _, _, true, rfl, .ty "tuple", tyT hS, kit_ty (by decide +kernel), true, rfl, iteF ?_⟩
      refine ⟨_, rfl, t, _, rfl, .inr hS, rfl, _, rfl, ite2 (fun z => ?_) (fun z => ?_)⟩
      · have z2 : ds.length ≠ 2 := fun e => by
          rw [lx, e] at z
          exact absurd z (by decide)
        have q := fin H (Same.refl _)
        rw [fault_len z2] at q
        exact ⟨_, _, rfl, rfl, q⟩
      · have z2 : ds.length = 2 := Classical.byContradiction fun e => z (by
          rw [lx]
          simp
          omega)
        obtain ⟨dk, dp, rfl⟩ := amt_two z2
        cases hA with
        | @cons k _ _ _ hk r =>
        cases r with
        | @cons p _ _ _ hp r =>
        cases r with
        | nil =>
        rw [fault_at] at fin
        refine ⟨_, rfl, t, _, _, _, rfl, rfl, hS, at0 _ _, k, intO dk, rfl, hk.part, _, rfl, ?_⟩
        cases hi : intO dk with
        | none =>
          have q := fin H (Same.refl _)
          rw [hi] at q
          exact iteT (iteT q)
        | some j =>
          have ek := hk.intAt hi
          subst ek
          rw [hi] at fin
          have fin : ∀ H', Same H H' → Q (offI (if decide (0 ≤ j ∧ j < (m : Int)) = true then (if amtD dp = true then none else some 1) else some 0)) H' := fin
          refine iteF ⟨_, rfl, t, _, _, _, rfl, rfl, hS, at0 _ _, _, _, rfl, rfl, _, rfl, ?_⟩
          by_cases j0 : 0 ≤ j
          · rw [decide_eq_true j0]
            refine iteT ⟨_, rfl, _, _, rfl, rfl, _, rfl, ?_⟩
            by_cases jm : j < (m : Int)
            · rw [decide_eq_true jm]
              rw [decide_eq_true (⟨j0, jm⟩ : 0 ≤ j ∧ j < (m : Int))] at fin
              have fin : ∀ H', Same H H' → Q (offI (if amtD dp = true then none else some 1)) H' := fin
              refine iteF ⟨_, rfl, t, _, _, _, rfl, rfl, hS, at1 _ _, ?_⟩
              cases hTp : isTupD dp with
              | false =>
                obtain ⟨ty, t2, k2⟩ := hp.noTup hTp
                have q := fin H (Same.refl _)
                have e : amtD dp = false := by
                  cases dp with
                  | tuple es => cases hTp
                  | _ => rfl
                rw [e] at q
                exact ⟨_, rfl, _, _, _, _, false, rfl, .ty "tuple", t2, kit_ty k2, false, rfl, iteT (iteT q)⟩
              | true =>
              cases dp with
              | tuple es =>
                obtain ⟨t2, ys, rfl, hS2, hA2⟩ := hp.isT
                have ly := hA2.len
                refine ⟨_, rfl, _, _, _, _, true, rfl, .ty "tuple", tyT hS2, kit_ty (by decide +kernel), true, rfl, iteF ?_⟩
                refine ⟨_, rfl, t2, _, rfl, .inr hS2, rfl, _, rfl, ite2 (fun z => ?_) (fun z => ?_)⟩
                · have q := fin H (Same.refl _)
                  rw [amt_len (fun e => by rw [ly, e] at z; exact absurd z (by decide))] at q
                  exact iteT q
                · have z2 : es.length = 2 := Classical.byContradiction fun e => z (by
                    rw [ly]
                    simp
                    omega)
                  obtain ⟨x, y, rfl⟩ := amt_two z2
                  refine ⟨_, rfl, t2, rfl, ⟨_, hS2⟩, fun L nL => ?_⟩
                  refine lc_it (walk_tup (K := K) (a := t2) (xs := ys)) (fun i H' => Same H H' ∧ H' L = some (.lst ((([x, y].take i).map fun d => (intO d).isSome).map V.bl))) ⟨same_upd nL, upd_same⟩ (fun i H' _ h => seqT h.1 hS2) ?_ ?_
                  · rintro i v H1 H2 hj ⟨sm, hL⟩ ⟨rfl, ex⟩
                    obtain ⟨dd, ed, hx⟩ := hA2.get ex
                    refine ⟨rfl, _, rfl, v, intO dd, rfl, (hx.mono sm).part, _, hL, ?_, HD.same_put sm nL, ?_⟩
                    · rw [List.length_map, List.length_map, List.length_take]
                      have : sizeLine = 16777216 := by decide
                      have : [x, y].length = 2 := rfl
                      omega
                    · rw [upd_same, List.take_add_one, ed, List.map_append, List.map_append]
                      rfl
                  rintro H1 ⟨sm, hL⟩
                  rw [ly] at hL
                  refine ⟨L, [(intO x).isSome, (intO y).isSome], rfl, .inl (.inl hL), ?_⟩
                  cases ex : intO x with
                  | none =>
                    have q := fin H1 sm
                    rw [amt_not (by rw [ex]; rfl)] at q
                    exact ⟨_, rfl, iteT q⟩
                  | some a =>
                  cases ey : intO y with
                  | none =>
                    have q := fin H1 sm
                    rw [amt_not (by rw [ex, ey]; rfl)] at q
                    exact ⟨_, rfl, iteT q⟩
                  | some b =>
                    refine ⟨_, rfl, iteF ?_⟩
                    cases hA2 with
                    | @cons vx _ _ _ hx r =>
                    cases r with
                    | @cons vy _ _ _ hy r =>
                    cases r with
                    | nil =>
                    have e1 := hx.intAt ex
                    have e2 := hy.intAt ey
                    subst e1 e2
                    rw [amt_ints ex ey] at fin
                    have hS3 := seqT sm hS2
                    have no : (okFr (some a) (some b) && (decide (a.natAbs ≤ 1000000) && decide (b ≤ 1000000))) = false → Q (.int 1) H1 := fun e => by
                      have q := fin H1 sm
                      rw [e] at q
                      exact q
                    refine ⟨_, _, rfl, rfl, ⟨by decide, by decide, by decide⟩, _, _, rfl, rfl, _, rfl, t2, _, _, _, rfl, rfl, hS3, at0 _ _, _, _, rfl, rfl, _, rfl, ?_⟩
                    have noA : ¬ a.natAbs ≤ 1000000 → Q (.int 1) H1 := fun e => no (by rw [decide_eq_false e, Bool.false_and, Bool.and_false])
                    have noB : ¬ b ≤ 1000000 → Q (.int 1) H1 := fun e => no (by rw [decide_eq_false e, Bool.and_false, Bool.and_false])
                    have noC : ¬ 0 < b → Q (.int 1) H1 := fun e => no (by
                      show ((decide (0 < b) && decide (M2.g a b = 1)) && _) = false
                      rw [decide_eq_false e, Bool.false_and, Bool.false_and])
                    refine ite2 (fun y1 => ?_) (fun y1 => ?_)
                    · have y1 : (0 : Int) - 1000000 ≤ a := of_decide_eq_true y1
                      refine ⟨_, _, rfl, rfl, ⟨by decide, by decide, by decide⟩, _, _, rfl, rfl, _, rfl, ?_⟩
                      by_cases y2 : a ≤ 1000000
                      · refine ite_eq false (congrArg Bool.not (decide_eq_true y2)) (iteF ?_)
                        refine ⟨_, rfl, t2, _, _, _, rfl, rfl, hS3, at1 _ _, _, _, rfl, rfl, _, rfl, ite2 (fun y3 => ?_) (fun y3 => ?_)⟩
                        · have y3 : 0 < b := of_decide_eq_true y3
                          refine ⟨_, _, rfl, rfl, ⟨by decide, by decide, by decide⟩, _, _, rfl, rfl, _, rfl, ?_⟩
                          by_cases y4 : b ≤ 1000000
                          · refine ite_eq false (congrArg Bool.not (decide_eq_true y4)) (iteF ?_)
                            refine ⟨_, rfl, t2, _, _, _, rfl, rfl, hS3, at0 _ _, _, rfl, t2, _, _, _, rfl, rfl, hS3, at1 _ _, ?_⟩
                            refine ⟨a, b, rfl, y3, Nat.lt_of_le_of_lt (m := 1000000) (by omega) (by decide), Nat.lt_of_le_of_lt (m := 1000000) (by omega) (by decide), fun H2 u s2 nu hu => ?_⟩
                            have q := fin H2 (sm.trans s2)
                            rw [decide_eq_true y4, decide_eq_true (show a.natAbs ≤ 1000000 by omega), Bool.and_self, Bool.and_true] at q
                            have d1 : Dp K H2 (.ref u) (dI [(M2.mk a b).1, (M2.mk a b).2]) := .tup (.inl (.inl hu)) (.cons (.int _) (.cons (.int _) .nil))
                            have d2 : Dp K H2 (.ref t2) (dI [a, b]) := .tup (seqT s2 hS3) (.cons (.int _) (.cons (.int _) .nil))
                            refine ⟨_, rfl, _, _, d1, d2, shaped_dI _, shaped_dI _, _, rfl, ?_⟩
                            rw [eqv_dI]
                            by_cases lw : M2.Low a b
                            · have e : M2.mk a b = (a, b) := by
                                rw [M2.mk_pos y3, lw.2]
                                show (a / 1, b / 1) = (a, b)
                                rw [Int.ediv_one, Int.ediv_one]
                              rw [e, decide_eq_true rfl]
                              have e2 : okFr (some a) (some b) = true := by
                                show (decide (0 < b) && decide (M2.g a b = 1)) = true
                                rw [decide_eq_true lw.1, decide_eq_true lw.2]
                                rfl
                              rw [e2] at q
                              exact iteT q
                            · have ne : ¬ ([(M2.mk a b).1, (M2.mk a b).2] = [a, b]) := fun e => by
                                injection e with e1 e
                                injection e with e2 _
                                have l := M2.mk_low (a := a) (b := b) (by omega)
                                rw [e1, e2] at l
                                exact lw l
                              rw [decide_eq_false ne]
                              have e2 : okFr (some a) (some b) = false := by
                                cases w : okFr (some a) (some b) with
                                | false => rfl
                                | true => exact absurd (okFr_low w) lw
                              rw [e2] at q
                              exact iteF q
                          · exact ite_eq true (congrArg Bool.not (decide_eq_false y4)) (iteT (noB y4))
                        · have y3 : ¬ 0 < b := fun e => y3 (decide_eq_true e)
                          exact ⟨_, rfl, iteT (noC y3)⟩
                      · exact ite_eq true (congrArg Bool.not (decide_eq_false y2)) (iteT (iteT (noA (by omega))))
                    · have y1 : ¬ (0 : Int) - 1000000 ≤ a := fun e => y1 (decide_eq_true e)
                      exact ⟨_, rfl, iteT (iteT (noA (by omega)))⟩
              | _ => cases hTp
            · rw [decide_eq_false jm]
              have q := fin H (Same.refl _)
              rw [decide_eq_false (fun z => jm z.2)] at q
              exact iteT q
          · rw [decide_eq_false j0]
            have q := fin H (Same.refl _)
            rw [decide_eq_false (fun z => j0 z.1)] at q
            refine iteF ⟨_, rfl, iteT q⟩
    | _ => cases hT
theorem ok__law_day_fault {f : Addr} {fd : FuncData} (F : Fun K "_law_day_fault" "_law_day_fault" s__law_day_fault f fd) (C__law_line_fault : Cl P w K mg base 2 "_law_line_fault" (spLF K)) (C__law_integer : Cl P w K mg base 1 "_law_integer" (spInt K)) (C__law_choices : Cl P w K mg base 1 "_law_choices" (spLawCho K)) (z_isinstance : mg "isinstance" = none) (z_tuple : mg "tuple" = none) (z_len : mg "len" = none) (z_range : mg "range" = none) : FnOk P w K mg base CX0 3 f fd ["many", "value"] (spDF K) := by
  refine F.ok sc__law_day_fault (fun vs H Q E h => ?_) (fun cdv A outer s H vs Q E hr h => ?_)
  · obtain ⟨_, _, _, rfl, _⟩ := h
    rfl
  · obtain ⟨v, d, m, rfl, hd, fin⟩ := h
    refine ⟨_, (pss_cons (ps_if (PW.pt (pw_or (pt_not (pt_val (pe_callB call_isi (by rfl) z_isinstance (by decide +kernel) (pa_cons (pv 1) (pa_cons (pe_bltn (v := .ty "tuple") (by rfl) z_tuple (by decide +kernel) rfl) pa_nil))))) (pw_or1 (pt_cmpR op_gt (pe_callB call_len_seq (by rfl) z_len (by decide +kernel) (pa_cons (pv 1) pa_nil)) pe_int (nomark _)))))
      (pss_one (ps_ret (pe_op op_sub pe_int pe_int)))
      pss_nil)
    (pss_cut (ps_for PassesOwn.never rfl (pi_range1 (by rfl) z_range (pa_cons (pe_callB call_len_seq (by rfl) z_len (by decide +kernel) (pa_cons (pv 1) pa_nil)) pa_nil)) (pg_name (i := 2) sc__law_day_fault.nd rfl (.inl rfl))
      (pss_cons (ps_set (i := 3) sc__law_day_fault.nd rfl (.inl rfl) (pe_ix ix_tup (pv 1) (pv 2) (fun _ _ => rfl)))
      (pss_cons (ps_if (PW.pt (pw_or (pt_not (pt_val (pe_callB call_isi (by rfl) z_isinstance (by decide +kernel) (pa_cons (pv 3) (pa_cons (pe_bltn (v := .ty "tuple") (by rfl) z_tuple (by decide +kernel) rfl) pa_nil))))) (pw_or (pt_cmpR op_ne (pe_callB call_len_seq (by rfl) z_len (by decide +kernel) (pa_cons (pv 3) pa_nil)) pe_int (nomark _)) (pw_or1 (pt_cmpR op_notN (pe_cl C__law_line_fault hr (by decide) rfl (pa_cons (pv 0) (pa_cons (pe_slice sl_tupM (pv 3) po_none (po_some pe_int)) pa_nil))) pe_non (nomark _))))))
        (pss_one (ps_ret (pv 2)))
        pss_nil)
      (pss_one (ps_if (PW.pt (pw_or (pt_not (pt_val (pe_cl C__law_integer hr (by decide) rfl (pa_cons (pe_ix ix_tup (pv 3) pe_int (fun _ _ => rfl)) pa_nil)))) (pw_or1 (pt_cmpR op_notIn_seq (pe_ix ix_tup (pv 3) pe_int (fun _ _ => rfl)) (pe_cl C__law_choices hr (by decide) rfl (pa_cons (pe_ix ix_tup (pv 3) pe_int (fun _ _ => rfl)) pa_nil)) rfl))))
        (pss_one (ps_ret (pv 2)))
        pss_nil)))))
    (pss_one (ps_ret pe_non)))), ?_⟩
    cases hT : isTupD d with
    | false =>
      obtain ⟨ty, t, k⟩ := hd.noTup hT
      have q := fin H (Same.refl _)
      rw [day_tup hT] at q
      refine ⟨_, rfl, _, _, _, _, false, rfl, .ty "tuple", t, kit_ty k, false, rfl, iteT (iteT ?_)⟩
      exact ⟨_, _, rfl, rfl, q⟩
    | true =>
    cases d with
    | tuple ds =>
      obtain ⟨t, xs, rfl, hS, hA⟩ := hd.isT
      have lx := hA.len
      refine ⟨_, rfl, _, _, _, _, true, rfl, .ty "tuple", tyT hS, kit_ty (by decide +kernel), true, rfl, iteF ?_⟩
      refine ⟨_, rfl, t, _, rfl, .inr hS, _, _, rfl, rfl, _, rfl, ite2 (fun z => ?_) (fun z => ?_)⟩
      · have z2 : (xs.length : Int) > 400 := of_decide_eq_true z
        have q := fin H (Same.refl _)
        rw [day_long (by omega)] at q
        exact ⟨_, _, rfl, rfl, q⟩
      · have z2 : ¬ (xs.length : Int) > 400 := fun q => z (decide_eq_true q)
        rw [day_at (by omega)] at fin
        have big : sizeLine = 16777216 := by decide
        refine ⟨fun σ H' => Same H H' ∧ firstBad m ds 0 = none, ?_, ?_⟩
        · refine ⟨_, rfl, t, xs, rfl, .inr hS, _, rfl, by omega, by omega, ?_⟩
          refine for_it (walk_range (lo := 0) (n := ((xs.length : Nat) : Int).toNat)) (fun i σ H' => Same H H' ∧ (∃ y2 y3 : Option V, σ = [some (.int m), some (.ref t), y2, y3]) ∧ ∀ j < i, ∃ e, ds[j]? = some e ∧ lineD m e = true) ⟨Same.refl _, ⟨_, _, rfl⟩, fun j hj => by omega⟩ (fun _ _ _ _ _ => trivial) ?_ ?_
          · rintro i x σ H2 H3 hi ⟨sm, ⟨y2, y3, rfl⟩, all⟩ ⟨rfl, rfl⟩
            have hi2 : i < xs.length := by have : i < ((xs.length : Nat) : Int).toNat := hi; omega
            obtain ⟨x, ex⟩ : ∃ x, xs[i]? = some x := ⟨_, List.getElem?_eq_getElem hi2⟩
            obtain ⟨dx, edx, hdx⟩ := hA.get ex
            have ixx : atI xs ((0 : Int) + (i : Nat)) = some x := by rw [Int.zero_add]; exact atI_nat ex
            have bad : lineD m dx = false → ∀ H', Same H H' → Q (.int ((0 : Int) + (i : Nat))) H' := fun hb H' s' => by
              have q := fin H' s'
              have hlt : i < ds.length := by omega
              have e : firstBad m ds 0 = some i := by
                rw [bad_at m ds i 0 all (by omega), List.drop_eq_getElem_cons hlt]
                obtain ⟨_, hq⟩ := List.getElem?_eq_some_iff.mp edx
                rw [hq, firstBad, hb, Nat.zero_add]
                rfl
              rw [e] at q
              rw [Int.zero_add]
              exact q
            have good : ∀ σ' H', Same H H' → (∃ y2 y3 : Option V, σ' = [some (.int m), some (.ref t), y2, y3]) → lineD m dx = true → Same H H' ∧ (∃ y2 y3 : Option V, σ' = [some (.int m), some (.ref t), y2, y3]) ∧ ∀ j < i + 1, ∃ e, ds[j]? = some e ∧ lineD m e = true := fun σ' H' s' hσ hb => ⟨s', hσ, fun j hj => by
              rcases Nat.lt_or_eq_of_le (Nat.le_of_lt_succ hj) with z | z
              · exact all j z
              · subst z
                exact ⟨dx, edx, hb⟩⟩
            refine ⟨_, rfl, _, rfl, t, xs, _, _, rfl, rfl, seqT sm hS, ixx, ?_⟩
            have hx2 := hdx.mono sm
            cases hTx : isTupD dx with
            | false =>
              obtain ⟨ty, t2, k2⟩ := hx2.noTup hTx
              exact ⟨_, rfl, _, _, _, _, false, rfl, .ty "tuple", t2, kit_ty k2, false, rfl, iteT (iteT ⟨_, rfl, bad (line_tup (by cases dx with | tuple es => cases hTx | _ => rfl)) _ sm⟩)⟩
            | true =>
            cases dx with
            | tuple es =>
              obtain ⟨t2, ys, rfl, hS2, hA2⟩ := hx2.isT
              have ly := hA2.len
              refine ⟨_, rfl, _, _, _, _, true, rfl, .ty "tuple", tyT hS2, kit_ty (by decide +kernel), true, rfl, iteF ?_⟩
              refine ⟨_, rfl, t2, _, rfl, .inr hS2, rfl, _, rfl, ite2 (fun z => ?_) (fun z => ?_)⟩
              · have z3 : es.length ≠ 3 := fun e => by
                  rw [ly, e] at z
                  exact absurd z (by decide)
                exact iteT ⟨_, rfl, bad (line_tup (by show decide (es.length = 3) = false; exact decide_eq_false z3)) _ sm⟩
              · have z3 : es.length = 3 := Classical.byContradiction fun e => z (by
                  rw [ly]
                  simp
                  omega)
                obtain ⟨dk, dp, dn, rfl⟩ : ∃ a b c, es = [a, b, c] := by
                  match es, z3 with
                  | [a, b, c], _ => exact ⟨a, b, c, rfl⟩
                cases hA2 with
                | @cons k _ _ _ hk r =>
                cases r with
                | @cons p _ _ _ hp r =>
                cases r with
                | @cons n _ _ _ hn r =>
                cases r with
                | nil =>
                refine ⟨_, rfl, _, rfl, _, rfl, t2, _, rfl, hS2, fun u H4 s4 hu => ?_⟩
                have hu : SqT K H4 u [k, p] := hu
                have sm4 := sm.trans s4
                refine ⟨.ref u, .tuple [dk, dp], m, rfl, .tup hu (.cons (hk.mono s4) (.cons (hp.mono s4) .nil)), fun H5 s5 => ?_⟩
                have sm5 := sm4.trans s5
                have s45 := s4.trans s5
                rw [fault_at]
                have la := line_at m dk dp dn
                cases hb : belowO (m : Int) (intO dk) with
                | false =>
                  rw [hb, Bool.false_and, Bool.false_and] at la
                  exact ⟨rfl, _, rfl, iteT ⟨_, rfl, bad la _ sm5⟩⟩
                | true =>
                cases ha : amtD dp with
                | false =>
                  rw [ha, Bool.and_false, Bool.false_and] at la
                  exact ⟨rfl, _, rfl, iteT ⟨_, rfl, bad la _ sm5⟩⟩
                | true =>
                  rw [hb, ha] at la
                  have la : lineD m (.tuple [dk, dp, dn]) = (match intO dn with
                    | some i => (choQ (pairD dp)).contains i
                    | none => false) := la
                  refine ⟨rfl, _, rfl, iteF ?_⟩
                  have hS5 := seqT s45 hS2
                  have hn5 := hn.mono s45
                  obtain ⟨sp, rfl, hsp, low, h1, h2⟩ := amt_at (hp.mono s45) ha
                  refine ⟨_, rfl, t2, _, _, _, rfl, rfl, hS5, atI_nat (j := 2) rfl, n, intO dn, rfl, hn5.part, _, rfl, ?_⟩
                  cases hi3 : intO dn with
                  | none =>
                    rw [hi3] at la
                    exact iteT (iteT ⟨_, rfl, bad la _ sm5⟩)
                  | some j =>
                    rw [hi3] at la
                    have en := hn.intAt hi3
                    subst en
                    refine iteF ⟨_, rfl, t2, _, _, _, rfl, rfl, hS5, atI_nat (j := 2) (v := V.int j) rfl, _, rfl, t2, _, _, _, rfl, rfl, hS5, atI_nat (j := 1) (v := V.ref sp) rfl, sp, pairD dp, rfl, hsp, low.1, ⟨Nat.lt_of_le_of_lt h1 (Nat.lt_of_lt_of_le (m := 2 ^ 20) (by decide) (Nat.pow_le_pow_right (by decide) (by decide))), Nat.lt_of_le_of_lt (m := 1000000) (by have := low.1; omega) (Nat.lt_of_lt_of_le (m := 2 ^ 20) (by decide) (Nat.pow_le_pow_right (by decide) (by decide)))⟩, fun H6 c s6 nc kc => ?_⟩
                    have sm6 := sm5.trans s6
                    refine ⟨c, (choQ (pairD dp)).map V.int, rfl, .inl (.inl (.inl kc)), rfl, flat_ints _, _, rfl, ?_⟩
                    rw [inV_ints]
                    cases hc : (choQ (pairD dp)).contains j with
                    | true =>
                      exact iteF (good _ _ sm6 ⟨_, _, rfl⟩ (by rw [la]; exact hc))
                    | false => exact iteT ⟨_, rfl, bad (by rw [la]; exact hc) _ sm6⟩
            | _ => cases hTx
          · rintro σ H2 ⟨sm, ⟨y2, y3, rfl⟩, all⟩
            have e : ((xs.length : Nat) : Int).toNat = ds.length := by omega
            rw [e] at all
            refine ⟨sm, ?_⟩
            rw [bad_at m ds ds.length 0 all (Nat.le_refl _), List.drop_length]
            rfl
        · rintro σ H2 ⟨sm, e⟩
          have q := fin H2 sm
          rw [e] at q
          exact q
    | _ => cases hT
end
end K09
namespace CK
open PySem PySem.Spec PyProof.Rows L2 VG FR HD M9
/-- what was heard of one -/
def HeardIs (K : PySem.W.Frag) (H : Hp) (z : Str) : Option Int → V → Prop
  | none, w => w = .non
  | some i, w => ∃ u, w = .ref u ∧ SqT K H u [.str z, .int i]
def hrdD (z : Str) : Option Int → PyData
  | none => .none
  | some i => .tuple [.str z, .int i]
theorem HeardIs.mono {K : PySem.W.Frag} {H H' : Hp} {z : Str} (s : Same H H') : ∀ {o : Option Int} {w : V}, HeardIs K H z o w → HeardIs K H' z o w
  | none, _, h => h
  | some _, _, ⟨u, e, h⟩ => ⟨u, e, seqT s h⟩
theorem seqT_off {K : PySem.W.Frag} {H : Hp} {t : Addr} {xs : List V} (h : SqT K H t xs) : SqT K (offT H) t xs := by
  rcases h with h | h
  · rcases h with h | ⟨ob, h⟩
    · exact .inl (.inl (by unfold offT; rw [h]))
    · exact .inl (.inr ⟨ob, by unfold offT; rw [h]⟩)
  · exact .inr h
theorem offT_over {H H' : Hp} (e : LamX.ExtN H H') : Same (offT H) H' := (offT_no H).over (offT_same H) e
theorem HeardIs.ext {K : PySem.W.Frag} {H H' : Hp} {z : Str} (e : LamX.ExtN H H') : ∀ {o : Option Int} {w : V}, HeardIs K H z o w → HeardIs K H' z o w
  | none, _, h => h
  | some _, _, ⟨u, e1, h⟩ => ⟨u, e1, seqT (offT_over e) (seqT_off h)⟩
theorem HeardIs.updL {K : PySem.W.Frag} {H : Hp} {z : Str} {D : Addr} {ys zs : List V} (hD : H D = some (.lst ys)) : ∀ {o : Option Int} {w : V}, HeardIs K H z o w → HeardIs K (L2.upd H D (.lst zs)) z o w
  | none, _, h => h
  | some _, _, ⟨u, e, h⟩ => ⟨u, e, seqT_upd hD h⟩
theorem HeardIs.dp {K : PySem.W.Frag} {H : Hp} {z : Str} : ∀ {o : Option Int} {w : V}, HeardIs K H z o w → Dp K H w (hrdD z o)
  | none, _, h => by
    rw [show _ = V.non from h]
    exact .non
  | some _, _, ⟨u, e, h⟩ => by
    rw [e]
    exact .tup h (.cons (.str _) (.cons (.int _) .nil))
theorem E9.line {IL ID x : Addr} {Q : VK} {i : Int} {H : Hp} (hx : H x = some (.xd [((("at" : String) : Str), .int i)])) (h : ∀ H2 u, Same H H2 → H2 u = some (.tup [.str ("line" : String), .int i]) → Q (.ref u) H2) : E9 IL ID Q (.ref IL) (some x) H := .inl ⟨rfl, x, .int i, rfl, hx, h⟩
theorem E9.day {IL ID x : Addr} {Q : VK} {i : Int} {H : Hp} (hx : H x = some (.xd [((("at" : String) : Str), .int i)])) (h : ∀ H2 u, Same H H2 → H2 u = some (.tup [.str ("day" : String), .int i]) → Q (.ref u) H2) : E9 IL ID Q (.ref ID) (some x) H := .inr ⟨rfl, x, .int i, rfl, hx, h⟩
theorem line_lt {m : Nat} {d : PyData} {i : Int} (h : lineFault m d = some i) : i.natAbs ≤ 1000 := by
  unfold lineFault at h
  split at h
  · split at h
    · split at h
      · cases h
      · rw [← Option.some.inj h]; decide
    · rw [← Option.some.inj h]; decide
  · rw [← Option.some.inj h]; decide
theorem bad_lt (m : Nat) : ∀ {l : List PyData} {n i : Nat}, firstBad m l n = some i → i < n + l.length
  | [], _, _, h => by cases h
  | d :: ds, n, i, h => by
    rw [firstBad] at h
    split at h
    · have := bad_lt m h
      rw [List.length_cons]
      omega
    · have := Option.some.inj h
      rw [List.length_cons]
      omega
theorem day_lt {m : Nat} {d : PyData} {i : Int} (h : dayFault m d = some i) : i.natAbs ≤ 1000 := by
  cases d with
  | tuple ds =>
    by_cases l : ds.length ≤ 400
    · rw [day_at l] at h
      obtain ⟨j, hj, rfl⟩ := Option.map_eq_some_iff.mp h
      have := bad_lt m hj
      omega
    · rw [day_long (by omega)] at h
      rw [← Option.some.inj h]; decide
  | _ =>
    rw [day_tup rfl] at h
    rw [← Option.some.inj h]; decide
theorem shn_hrd {z : Str} {o : Option Int} (hz : (PyData.str z).shown.length ≤ 25) (h : ∀ i, o = some i → i.natAbs ≤ 1000) : Shn (hrdD z o) 1 56 := by
  cases o with
  | none => exact ⟨by simp [hrdD, PyData.showable], by simp [hrdD, PyData.hasDict], by simp [hrdD, PyData.depth], (by decide +kernel : (PyData.none).shown.length ≤ 56)⟩
  | some i =>
    have := h i rfl
    exact shn_tup (k := 0) (B := 25) (n := 2) (fun d hd => by
      have : d = .str z ∨ d = .int i := by simpa using hd
      rcases this with y | y
      · rw [y]; exact shn_str hz
      · rw [y]; exact shn_i24 (by omega)) (Nat.le_refl 2)
theorem shn_lst2 {k B n : Nat} {ds : List PyData} (h : ∀ d ∈ ds, Shn d k B) (hn : ds.length ≤ n) : Shn (.list ds) (k + 1) ((B + 2) * n + 2) := by
  have ⟨b1, b2, b3, b4⟩ := shn_all ds h
  refine ⟨?_, ?_, ?_, ?_⟩
  · rw [PyData.showable]
    exact b1
  · rw [PyData.hasDict]
    exact b2
  · rw [PyData.depth]
    omega
  · show (listText (PyData.shownAll ds)).length ≤ _
    have e := list_text (PyData.shownAll ds)
    have m : (B + 2) * ds.length ≤ (B + 2) * n := Nat.mul_le_mul_left _ hn
    omega
def spLineR (K : PySem.W.Frag) (C : Addr) (T : List (Addr × Str)) : Sp := fun vs H Q _ => ∃ (a : Addr) (v : V) (d : PyData) (ks : List Str) (ts : List (List Int)), vs = [.ref a, .int (ks.length : Int), v] ∧ Tab K C (offT H) a ks ts ∧ TabOk ks ts ∧ Ov K (offT H) v d ∧ ShO 60 16000000 d ∧ LamX.Tabs T H ∧
  ∀ H', Same (offT H) H' → LamX.Tabs T H' → Q (.bl true) H'
theorem shn_bool (b : Bool) : Shn (.bool b) 0 25 := ⟨by simp [PyData.showable], by simp [PyData.hasDict], by simp [PyData.depth], by cases b <;> decide +kernel⟩
theorem offI_none (o : Option Int) : decide (offI o = V.non) = o.isNone := by cases o <;> rfl
theorem shn_bools {ds : List PyData} (h : ∀ d ∈ ds, ∃ b, d = .bool b) (hn : ds.length ≤ 3) : Shn (.list ds) 1 ((25 + 2) * 3 + 2) := shn_lst2 (k := 0) (B := 25) (fun d hd => by
  obtain ⟨b, rfl⟩ := h d hd
  exact shn_bool b) hn
def spCheckedR (K : PySem.W.Frag) (C : Addr) (T : List (Addr × Str)) : Sp := fun vs H Q _ => ∃ (a t : Addr) (v : V) (d : PyData) (ks : List Str) (ts : List (List Int)), vs = [.ref a, .int (ks.length : Int), .ref t, v] ∧ Tab K C (offT H) a ks ts ∧ TabOk ks ts ∧ TotsIn K (offT H) t ks.length ts ∧ Ov K (offT H) v d ∧ (∀ x ∈ itemsD d, lineD ks.length x = true → (rowD x).2.1.2 ∣ DL) ∧ ShO 60 16000000 d ∧ LamX.Tabs T H ∧
  ∀ H', Same (offT H) H' → LamX.Tabs T H' → Q (.bl true) H'
end CK
namespace K09
open PySem PySem.Spec PyProof.Rows L2 VG FR CK HD M9
abbrev s__law_line_right : Stmt := topS 74
abbrev N__law_line_right : List Str := ["table", "many", "value", "kept", "due", "heard"]
theorem sc__law_line_right : FnScope N__law_line_right ["table", "many", "value"] (defScope s__law_line_right) := ⟨rfl, rfl, rfl, by decide +kernel, rfl, by decide +kernel, by decide +kernel⟩
abbrev s__law_checked_right : Stmt := topS 75
abbrev N__law_checked_right : List Str := ["table", "many", "totals", "value", "kept", "due", "heard", "good"]
theorem sc__law_checked_right : FnScope N__law_checked_right ["table", "many", "totals", "value"] (defScope s__law_checked_right) := ⟨rfl, rfl, rfl, by decide +kernel, rfl, by decide +kernel, by decide +kernel⟩
section
variable {P : Program} {w : World} {K : PySem.W.Frag} {mg : Str → Option Value} {base : Heap}
theorem ok__law_line_right {f c0 Pt C IL ID : Addr} {fd : FuncData} {T : List (Addr × Str)} (F : FunC K "_law_line_right" "_law_line_right" s__law_line_right f fd c0)
    (hrd : Hrd K mg IL ID) (TB : LamX.TabB base mg c0 Pt) (inT : (Pt, lamQ (("_law_line_right" : Str) ++ ".<locals>.")) ∈ T) (oneT : ∀ p ∈ T, p.1 = Pt → p.2 = lamQ (("_law_line_right" : Str) ++ ".<locals>."))
    (X_check_line : ClX P w K mg base 4 "check_line" (spChk K C IL lineFault)) (XR_check_line : ClXR P w K mg base 4 "check_line" ["value", "table"] (spChk K C IL lineFault)) (C__law_line_fault : Cl P w K mg base 2 "_law_line_fault" (spLF K)) (z_repr : mg "repr" = none) :
    FnG P w K mg base 15 f fd ["table", "many", "value"] (spLineR K C T) := by
  refine fnGC_of F sc__law_line_right (fun vs H Q E h => ?_) (fun A outer s H vs Q E hg hr h => ?_)
  · obtain ⟨_, _, _, _, _, rfl, _⟩ := h
    rfl
  · obtain ⟨a, v, d, ks, ts, rfl, hTab, ok, hv, sh, tabs, fin⟩ := h
    refine ⟨_, (pss_cons (ps_par (i := 3) (j := 4) (by rfl) sc__law_line_right.nd rfl rfl (by decide) rfl rfl (pa_cons (pe_callB (cr_reprO hg hr.units) (by rfl) z_repr (by decide +kernel) (pa_cons (pv 2) pa_nil)) (pa_cons (pe_cl C__law_line_fault hr (by decide) rfl (pa_cons (pv 1) (pa_cons (pv 2) pa_nil))) pa_nil)) (by rfl))
    (pss_cons (ps_set (i := 5) sc__law_line_right.nd rfl (.inl rfl) (pe_lst (pa_cons (pe_meet (pe_heard (k := 9) (T := T) hrd rfl TB rfl inT oneT (hr.mono (by decide)) (show LamX.LamS (defScope s__law_line_right) _ from LamX.lamS_by (by decide +kernel)) rfl (fun _ _ _ _ _ => rfl) (fun A2 outer2 s2 H2 E2 f2 c2 hr2 => pe_clx X_check_line hr2 (by decide) (takes_of (E := E2) rfl rfl rfl rfl) rfl (pa_cons (pv 0) (pa_cons (pv 2) pa_nil))))) pa_nil)))
    (pss_cons (ps_expr (pe_bm PySem.F.plainAttrs_list PySem.F.slot_list_append PySem.F.type_list_append mt_append (pv 5) (pa_cons (pe_meet (pe_heard (k := 9) (T := T) hrd rfl TB rfl inT oneT (hr.mono (by decide)) (show LamX.LamS (defScope s__law_line_right) _ from LamX.lamS_by (by decide +kernel)) rfl (fun _ _ _ _ _ => rfl) (fun A2 outer2 s2 H2 E2 f2 c2 hr2 => pe_clxr XR_check_line hr2 (by decide) (takes_of (E := E2) rfl rfl rfl rfl) rfl (pk_cons (pv 2) (pk_cons (pv 0) pk_nil))))) pa_nil)))
    (pss_one (ps_ret (pe_and (pe_cmpR op_eq (pe_callB (cr_repr hg hr.units) (by rfl) z_repr (by decide +kernel) (pa_cons (pv 5) pa_nil)) (pe_callB (cr_repr hg hr.units) (by rfl) z_repr (by decide +kernel) (pa_cons (pe_op op_rep (pe_lst (pa_cons (pe_meet (pe_ifExp (pt_cmpR op_isN (pv 4) pe_non (nomark _)) pe_non (pe_tup (pa_cons pe_str (pa_cons (pv 4) pa_nil))))) pa_nil)) pe_int) pa_nil)) (nomark _)) (pe_one (pe_cmpR op_eq (pe_callB (cr_reprO hg hr.units) (by rfl) z_repr (by decide +kernel) (pa_cons (pv 2) pa_nil)) (pv 3) (nomark _))))))))), ?_⟩
    have sG := offT_same H
    have nG := offT_no H
    generalize offT H = G at *
    have sh1 := sh.1
    have sh2 := sh.2.1
    have sh3 : d.shown.length ≤ sizeLine := Nat.le_trans sh.2.2 (by decide)
    refine ⟨_, rfl, v, d, rfl, hv.mono sG, sh1, sh2, sh3, ?_⟩
    refine ⟨_, rfl, _, rfl, v, d, ks.length, rfl, hv.mono sG, fun H1 s1 => ⟨_, _, rfl, ?_⟩⟩
    have sG1 := sG.trans s1
    have tb1 := tabs_same tabs s1
    have hlt : ∀ i, lineFault ks.length d = some i → i.natAbs ≤ 1000 := fun i h => line_lt h
    generalize hO : lineFault ks.length d = o at hlt ⊢
    refine ⟨fun w H' => HeardIs K H' ("line" : String) o w ∧ Same G H' ∧ LamX.Tabs T H', ⟨tb1, fun H2 e2 tb2 => ?_⟩, ?_⟩
    · have sG2 := nG.over sG1 e2
      refine ⟨_, rfl, _, rfl, a, v, d, ks, ts, rfl, hTab.mono sG2, ok, hv.mono sG2, fun hn H3 s3 => ⟨by rw [← hO, hn]; rfl, sG2.trans s3, tabs_same tb2 s3⟩, fun i hi H3 x s3 nx hx => E9.line hx fun H4 u s4 ku => ⟨by rw [← hO, hi]; exact ⟨u, rfl, .inl (.inl ku)⟩, sG2.trans (s3.trans s4), tabs_same tb2 (s3.trans s4)⟩⟩
    rintro w1 H3 ⟨hw1, sG3, tb3⟩
    refine ⟨by show 1 ≤ sizeLine; decide, fun L nL => ?_⟩
    have sL := same_upd (o := .lst [w1]) nL
    have kL := upd_same (H := H3) (a := L) (o := .lst [w1])
    have gL : G L = none := sG3.free nL
    generalize L2.upd H3 L (.lst [w1]) = H4 at sL kL ⊢
    have sG4 := sG3.trans sL
    have tb4 := tabs_same tb3 sL
    have hw4 := hw1.mono sL
    refine ⟨_, rfl, .inl ⟨rfl, _, .inl (.inl kL)⟩, ?_⟩
    refine ⟨fun w H' => HeardIs K H' ("line" : String) o w ∧ Same G H' ∧ LamX.Tabs T H' ∧ HeardIs K H' ("line" : String) o w1 ∧ H' L = some (.lst [w1]), ⟨tb4, fun H5 e5 tb5 => ?_⟩, ?_⟩
    · have sG5 := nG.over sG4 e5
      have kL5 := extN_at e5 kL
      have hw5 := hw4.ext e5
      refine ⟨_, rfl, _, rfl, a, v, d, ks, ts, rfl, hTab.mono sG5, ok, hv.mono sG5, fun hn H6 s6 => ⟨by rw [← hO, hn]; rfl, sG5.trans s6, tabs_same tb5 s6, hw5.mono s6, s6 _ _ kL5⟩, fun i hi H6 x s6 nx hx => E9.line hx fun H7 u s7 ku => ⟨by rw [← hO, hi]; exact ⟨u, rfl, .inl (.inl ku)⟩, sG5.trans (s6.trans s7), tabs_same tb5 (s6.trans s7), hw5.mono (s6.trans s7), (s6.trans s7) _ _ kL5⟩⟩
    rintro w2 H6 ⟨hw2, sG6, tb6, hw6, kL6⟩
    refine ⟨L, _, _, rfl, rfl, kL6, by show 1 + 1 ≤ sizeLine; decide, ?_⟩
    have kL7 := upd_same (H := H6) (a := L) (o := .lst ([w1] ++ [w2]))
    have sG7 : Same G (L2.upd H6 L (.lst ([w1] ++ [w2]))) := HD.same_put sG6 gL
    have tb7 : LamX.Tabs T (L2.upd H6 L (.lst ([w1] ++ [w2]))) := tabs_put tb6 kL6
    have hw7 : HeardIs K (L2.upd H6 L (.lst ([w1] ++ [w2]))) ("line" : String) o w1 := hw6.updL kL6
    have hw8 : HeardIs K (L2.upd H6 L (.lst ([w1] ++ [w2]))) ("line" : String) o w2 := hw2.updL kL6
    generalize L2.upd H6 L (.lst ([w1] ++ [w2])) = H7 at kL7 sG7 tb7 hw7 hw8 ⊢
    have shh : Shn (hrdD ("line" : String) o) 1 56 := shn_hrd (by decide +kernel) hlt
    have shl : Shn (.list [hrdD ("line" : String) o, hrdD ("line" : String) o]) 2 ((56 + 2) * 2 + 2) := shn_lst2 (k := 1) (B := 56) (fun x hx => by
      have : x = hrdD ("line" : String) o ∨ x = hrdD ("line" : String) o := by simpa using hx
      rcases this with e | e <;> (rw [e]; exact shh)) (Nat.le_refl 2)
    have rr := shl.r
    refine ⟨_, rfl, L, _, rfl, .lst (.inl (.inl kL7)) (.cons hw7.dp (.cons hw8.dp .nil)), rr.1, rr.2.1, rr.2.2.1, rr.2.2.2, ?_⟩
    refine ⟨fun w H' => HeardIs K H' ("line" : String) o w ∧ Same H7 H', ?_, ?_⟩
    · refine ⟨_, rfl, rfl, _, rfl, ?_⟩
      cases o with
      | none => exact iteT ⟨rfl, Same.refl _⟩
      | some i =>
        refine iteF ⟨_, rfl, by show 2 ≤ sizeLine; decide, fun z nz => ?_⟩
        exact ⟨⟨z, rfl, .inl (.inl upd_same)⟩, same_upd nz⟩
    rintro w3 H8 ⟨hw3, s8⟩
    refine ⟨by show 1 ≤ sizeLine; decide, fun Y nY => ?_⟩
    have sY := same_upd (o := .lst [w3]) nY
    have kY := upd_same (H := H8) (a := Y) (o := .lst [w3])
    generalize L2.upd H8 Y (.lst [w3]) = H9 at sY kY ⊢
    refine ⟨Y, 2, [w3], rfl, rfl, kY, by decide, by decide, by show 1 * 2 ≤ sizeLine; decide, fun Z nZ => ?_⟩
    have sZ := same_upd (o := .lst [w3, w3]) nZ
    have kZ := upd_same (H := H9) (a := Z) (o := .lst [w3, w3])
    have hw9 := (hw3.mono sY).mono sZ
    refine ⟨Z, _, rfl, .lst (.inl (.inl kZ)) (.cons hw9.dp (.cons hw9.dp .nil)), rr.1, rr.2.1, rr.2.2.1, rr.2.2.2, rfl, _, rfl, ite_eq true (decide_eq_true rfl) (iteT ?_)⟩
    have s79 := (s8.trans sY).trans sZ
    have sG9 := sG7.trans s79
    refine ⟨_, rfl, v, d, rfl, hv.mono sG9, sh1, sh2, sh3, _, rfl, rfl, ?_⟩
    have q := fin _ sG9 (tabs_same tb7 s79)
    rw [← show V.bl (decide (V.str d.shown = V.str d.shown)) = V.bl true from congrArg V.bl (decide_eq_true rfl)] at q
    exact q
theorem ok__law_checked_right {f c0 Pt C IL ID : Addr} {fd : FuncData} {T : List (Addr × Str)} (F : FunC K "_law_checked_right" "_law_checked_right" s__law_checked_right f fd c0)
    (hrd : Hrd K mg IL ID) (TB : LamX.TabB base mg c0 Pt) (inT : (Pt, lamQ (("_law_checked_right" : Str) ++ ".<locals>.")) ∈ T) (oneT : ∀ p ∈ T, p.1 = Pt → p.2 = lamQ (("_law_checked_right" : Str) ++ ".<locals>."))
    (X_check_day : ClX P w K mg base 5 "check_day" (spChk K C ID dayFault)) (XR_check_day : ClXR P w K mg base 5 "check_day" ["value", "table"] (spChk K C ID dayFault)) (C__law_day_fault : Cl P w K mg base 3 "_law_day_fault" (spDF K)) (C__law_first_off : Cl P w K mg base 4 "_law_first_off" (spLawFirst K))
    (Cd_is_day : C8.Cal P w K mg base 7 "is_day" (spIsDay K C) [.bl true]) (C_is_day : Cl P w K mg base 7 "is_day" (spIsDay K C)) (CN0_is_day : ClN P w K mg base 7 "is_day" 0 ["kept", "value", "table"] (fun vs zs => vs ++ zs.reverse) (spIsDay K C)) (CN_is_day : ClN P w K mg base 7 "is_day" 2 ["kept"] (fun vs zs => vs ++ zs) (spIsDay K C))
    (z_repr : mg "repr" = none) :
    FnG P w K mg base 15 f fd ["table", "many", "totals", "value"] (spCheckedR K C T) := by
  refine fnGC_of F sc__law_checked_right (fun vs H Q E h => ?_) (fun A outer s H vs Q E hg hr h => ?_)
  · obtain ⟨_, _, _, _, _, _, rfl, _⟩ := h
    rfl
  · obtain ⟨a, t, v, d, ks, ts, rfl, hTab, ok, hTs, hv, dv, sh, tabs, fin⟩ := h
    refine ⟨_, (pss_cons (ps_par (i := 4) (j := 5) (by rfl) sc__law_checked_right.nd rfl rfl (by decide) rfl rfl (pa_cons (pe_callB (cr_reprO hg hr.units) (by rfl) z_repr (by decide +kernel) (pa_cons (pv 3) pa_nil)) (pa_cons (pe_cl C__law_day_fault hr (by decide) rfl (pa_cons (pv 1) (pa_cons (pv 3) pa_nil))) pa_nil)) (by rfl))
    (pss_cons (ps_set (i := 6) sc__law_checked_right.nd rfl (.inl rfl) (pe_lst (pa_cons (pe_meet (pe_heard (k := 9) (T := T) hrd rfl TB rfl inT oneT (hr.mono (by decide)) (show LamX.LamS (defScope s__law_checked_right) _ from LamX.lamS_by (by decide +kernel)) rfl (fun _ _ _ _ _ => rfl) (fun A2 outer2 s2 H2 E2 f2 c2 hr2 => pe_clx X_check_day hr2 (by decide) (takes_of (E := E2) rfl rfl rfl rfl) rfl (pa_cons (pv 0) (pa_cons (pv 3) pa_nil))))) pa_nil)))
    (pss_cons (ps_expr (pe_bm PySem.F.plainAttrs_list PySem.F.slot_list_append PySem.F.type_list_append mt_append (pv 6) (pa_cons (pe_meet (pe_heard (k := 9) (T := T) hrd rfl TB rfl inT oneT (hr.mono (by decide)) (show LamX.LamS (defScope s__law_checked_right) _ from LamX.lamS_by (by decide +kernel)) rfl (fun _ _ _ _ _ => rfl) (fun A2 outer2 s2 H2 E2 f2 c2 hr2 => pe_clxr XR_check_day hr2 (by decide) (takes_of (E := E2) rfl rfl rfl rfl) rfl (pk_cons (pv 3) (pk_cons (pv 0) pk_nil))))) pa_nil)))
    (pss_cons (ps_if (pt_cmpR op_ne (pe_callB (cr_repr hg hr.units) (by rfl) z_repr (by decide +kernel) (pa_cons (pv 6) pa_nil)) (pe_callB (cr_repr hg hr.units) (by rfl) z_repr (by decide +kernel) (pa_cons (pe_op op_rep (pe_lst (pa_cons (pe_meet (pe_ifExp (pt_cmpR op_isN (pv 5) pe_non (nomark _)) pe_non (pe_tup (pa_cons pe_str (pa_cons (pv 5) pa_nil))))) pa_nil)) pe_int) pa_nil)) (nomark _))
      (pss_one (ps_ret pe_bl))
      pss_nil)
    (pss_cons (ps_set (i := 7) sc__law_checked_right.nd rfl (.inl rfl) (pe_meet (pe_and (pe_cmpR op_isN (pv 5) pe_non (nomark _)) (pe_one (pe_cmpR op_isN (pe_cl C__law_first_off hr (by decide) rfl (pa_cons (pv 1) (pa_cons (pv 2) (pa_cons (pv 3) pa_nil)))) pe_non (nomark _))))))
    (pss_cons (ps_if (pt_cmpR op_ne (pe_callB (cr_repr hg hr.units) (by rfl) z_repr (by decide +kernel) (pa_cons (pe_lst (pa_cons (C8.pe_c Cd_is_day hr (by decide) rfl (pa_cons (pv 0) (pa_cons (pv 3) pa_nil))) (pa_cons (pe_cl C_is_day hr (by decide) rfl (pa_cons (pv 0) (pa_cons (pv 3) (pa_cons pe_bl pa_nil)))) (pa_cons (pe_cln0 CN0_is_day hr (by decide) rfl (pk_cons pe_bl (pk_cons (pv 3) (pk_cons (pv 0) pk_nil)))) pa_nil)))) pa_nil)) (pe_callB (cr_repr hg hr.units) (by rfl) z_repr (by decide +kernel) (pa_cons (pe_op op_rep (pe_lst (pa_cons (pv 7) pa_nil)) pe_int) pa_nil)) (nomark _))
      (pss_one (ps_ret pe_bl))
      pss_nil)
    (pss_one (ps_ret (pe_and (pe_cmpR op_eq (pe_callB (cr_repr hg hr.units) (by rfl) z_repr (by decide +kernel) (pa_cons (pe_lst (pa_cons (pe_cl C_is_day hr (by decide) rfl (pa_cons (pv 0) (pa_cons (pv 3) (pa_cons pe_bl pa_nil)))) (pa_cons (pe_cln CN_is_day hr (by decide) rfl (pa_cons (pv 0) (pa_cons (pv 3) pa_nil)) (pk_cons pe_bl pk_nil)) pa_nil))) pa_nil)) (pe_callB (cr_repr hg hr.units) (by rfl) z_repr (by decide +kernel) (pa_cons (pe_op op_rep (pe_lst (pa_cons (pe_cmpR op_isN (pv 5) pe_non (nomark _)) pa_nil)) pe_int) pa_nil)) (nomark _)) (pe_one (pe_cmpR op_eq (pe_callB (cr_reprO hg hr.units) (by rfl) z_repr (by decide +kernel) (pa_cons (pv 3) pa_nil)) (pv 4) (nomark _)))))))))))), ?_⟩
    have sG := offT_same H
    have nG := offT_no H
    generalize offT H = G at *
    have sh1 := sh.1
    have sh2 := sh.2.1
    have sh3 : d.shown.length ≤ sizeLine := Nat.le_trans sh.2.2 (by decide)
    refine ⟨_, rfl, v, d, rfl, hv.mono sG, sh1, sh2, sh3, ?_⟩
    refine ⟨_, rfl, _, rfl, v, d, ks.length, rfl, hv.mono sG, fun H1 s1 => ⟨_, _, rfl, ?_⟩⟩
    have sG1 := sG.trans s1
    have tb1 := tabs_same tabs s1
    have hlt : ∀ i, dayFault ks.length d = some i → i.natAbs ≤ 1000 := fun i h => day_lt h
    generalize hO : dayFault ks.length d = o at hlt ⊢
    refine ⟨fun w H' => HeardIs K H' ("day" : String) o w ∧ Same G H' ∧ LamX.Tabs T H', ⟨tb1, fun H2 e2 tb2 => ?_⟩, ?_⟩
    · have sG2 := nG.over sG1 e2
      refine ⟨_, rfl, _, rfl, a, v, d, ks, ts, rfl, hTab.mono sG2, ok, hv.mono sG2, fun hn H3 s3 => ⟨by rw [← hO, hn]; rfl, sG2.trans s3, tabs_same tb2 s3⟩, fun i hi H3 x s3 nx hx => E9.day hx fun H4 u s4 ku => ⟨by rw [← hO, hi]; exact ⟨u, rfl, .inl (.inl ku)⟩, sG2.trans (s3.trans s4), tabs_same tb2 (s3.trans s4)⟩⟩
    rintro w1 H3 ⟨hw1, sG3, tb3⟩
    refine ⟨by show 1 ≤ sizeLine; decide, fun L nL => ?_⟩
    have sL := same_upd (o := .lst [w1]) nL
    have kL := upd_same (H := H3) (a := L) (o := .lst [w1])
    have gL : G L = none := sG3.free nL
    generalize L2.upd H3 L (.lst [w1]) = H4 at sL kL ⊢
    have sG4 := sG3.trans sL
    have tb4 := tabs_same tb3 sL
    have hw4 := hw1.mono sL
    refine ⟨_, rfl, .inl ⟨rfl, _, .inl (.inl kL)⟩, ?_⟩
    refine ⟨fun w H' => HeardIs K H' ("day" : String) o w ∧ Same G H' ∧ LamX.Tabs T H' ∧ HeardIs K H' ("day" : String) o w1 ∧ H' L = some (.lst [w1]), ⟨tb4, fun H5 e5 tb5 => ?_⟩, ?_⟩
    · have sG5 := nG.over sG4 e5
      have kL5 := extN_at e5 kL
      have hw5 := hw4.ext e5
      refine ⟨_, rfl, _, rfl, a, v, d, ks, ts, rfl, hTab.mono sG5, ok, hv.mono sG5, fun hn H6 s6 => ⟨by rw [← hO, hn]; rfl, sG5.trans s6, tabs_same tb5 s6, hw5.mono s6, s6 _ _ kL5⟩, fun i hi H6 x s6 nx hx => E9.day hx fun H7 u s7 ku => ⟨by rw [← hO, hi]; exact ⟨u, rfl, .inl (.inl ku)⟩, sG5.trans (s6.trans s7), tabs_same tb5 (s6.trans s7), hw5.mono (s6.trans s7), (s6.trans s7) _ _ kL5⟩⟩
    rintro w2 H6 ⟨hw2, sG6, tb6, hw6, kL6⟩
    refine ⟨L, _, _, rfl, rfl, kL6, by show 1 + 1 ≤ sizeLine; decide, ?_⟩
    have kL7 := upd_same (H := H6) (a := L) (o := .lst ([w1] ++ [w2]))
    have sG7 : Same G (L2.upd H6 L (.lst ([w1] ++ [w2]))) := HD.same_put sG6 gL
    have tb7 : LamX.Tabs T (L2.upd H6 L (.lst ([w1] ++ [w2]))) := tabs_put tb6 kL6
    have hw7 : HeardIs K (L2.upd H6 L (.lst ([w1] ++ [w2]))) ("day" : String) o w1 := hw6.updL kL6
    have hw8 : HeardIs K (L2.upd H6 L (.lst ([w1] ++ [w2]))) ("day" : String) o w2 := hw2.updL kL6
    generalize L2.upd H6 L (.lst ([w1] ++ [w2])) = H7 at kL7 sG7 tb7 hw7 hw8 ⊢
    have shh : Shn (hrdD ("day" : String) o) 1 56 := shn_hrd (by decide +kernel) hlt
    have shl : Shn (.list [hrdD ("day" : String) o, hrdD ("day" : String) o]) 2 ((56 + 2) * 2 + 2) := shn_lst2 (k := 1) (B := 56) (fun x hx => by
      have : x = hrdD ("day" : String) o ∨ x = hrdD ("day" : String) o := by simpa using hx
      rcases this with e | e <;> (rw [e]; exact shh)) (Nat.le_refl 2)
    have rr := shl.r
    refine ⟨_, rfl, L, _, rfl, .lst (.inl (.inl kL7)) (.cons hw7.dp (.cons hw8.dp .nil)), rr.1, rr.2.1, rr.2.2.1, rr.2.2.2, ?_⟩
    refine ⟨fun w H' => HeardIs K H' ("day" : String) o w ∧ Same H7 H', ?_, ?_⟩
    · refine ⟨_, rfl, rfl, _, rfl, ?_⟩
      cases o with
      | none => exact iteT ⟨rfl, Same.refl _⟩
      | some i =>
        refine iteF ⟨_, rfl, by show 2 ≤ sizeLine; decide, fun z nz => ?_⟩
        exact ⟨⟨z, rfl, .inl (.inl upd_same)⟩, same_upd nz⟩
    rintro w3 H8 ⟨hw3, s8⟩
    refine ⟨by show 1 ≤ sizeLine; decide, fun Y nY => ?_⟩
    have sY := same_upd (o := .lst [w3]) nY
    have kY := upd_same (H := H8) (a := Y) (o := .lst [w3])
    generalize L2.upd H8 Y (.lst [w3]) = H9 at sY kY ⊢
    refine ⟨Y, 2, [w3], rfl, rfl, kY, by decide, by decide, by show 1 * 2 ≤ sizeLine; decide, fun Z nZ => ?_⟩
    have sZ := same_upd (o := .lst [w3, w3]) nZ
    have kZ := upd_same (H := H9) (a := Z) (o := .lst [w3, w3])
    have hw9 := (hw3.mono sY).mono sZ
    refine ⟨Z, _, rfl, .lst (.inl (.inl kZ)) (.cons hw9.dp (.cons hw9.dp .nil)), rr.1, rr.2.1, rr.2.2.1, rr.2.2.2, rfl, _, rfl, ite_eq false (congrArg Bool.not (decide_eq_true rfl)) (iteF ?_)⟩
    have s79 := (s8.trans sY).trans sZ
    have sG9 : Same G (L2.upd H9 Z (.lst [w3, w3])) := sG7.trans s79
    have tb9 : LamX.Tabs T (L2.upd H9 Z (.lst [w3, w3])) := tabs_same tb7 s79
    have e9 : ([w3, w3] : List V) = (List.replicate (Int.toNat 2) [w3]).flatten := rfl
    rw [e9] at sG9 tb9
    generalize L2.upd H9 Z (.lst (List.replicate (Int.toNat 2) [w3]).flatten) = H10 at sG9 tb9 ⊢
    clear shl rr shh kL7 kZ kY sY sZ hw9 hw3 hw8 hw7 s8 s79 sG7 tb7 sG4 tb4 sG3 tb3 kL sL hw4 hw1 sG6 tb6 hw6 hw2 kL6 nY nZ nL gL
    -- good
    refine ⟨fun w H' => w = .bl (isDayD ks.length ts d true) ∧ Same G H' ∧ LamX.Tabs T H', ?_, ?_⟩
    · refine ⟨_, rfl, rfl, _, rfl, ?_⟩
      cases o with
      | some i =>
        refine iteF ⟨?_, sG9, tb9⟩
        unfold isDayD
        rw [hO]
        rfl
      | none =>
        obtain ⟨dd, rfl, hday⟩ := day_in hv hO dv
        refine iteT ⟨_, rfl, _, rfl, _, rfl, t, dd, ks.length, ts, _, rfl, hTs.mono sG9, ok.kinds.2.1, hday.mono sG9, fun H11 s11 => ⟨rfl, ?_, sG9.trans s11, tabs_same tb9 s11⟩⟩
        unfold isDayD
        rw [hO]
        generalize firstU ((courseU ks.length ts ((itemsD d).map rowD)).drop 1) 0 = x
        cases x <;> rfl
    rintro _ H11 ⟨rfl, sG11, tb11⟩
    have dayv : ∀ {H' : Hp}, Same G H' → Tab K C H' a ks ts ∧ TabOk ks ts ∧ Ov K H' v d ∧ (∀ x ∈ itemsD d, lineD ks.length x = true → (rowD x).2.1.2 ∣ DL) := fun s' => ⟨hTab.mono s', ok, hv.mono s', dv⟩
    generalize hgd : isDayD ks.length ts d true = gd
    have k11 := dayv sG11
    refine ⟨_, rfl, _, rfl, a, v, d, true, ks, ts, rfl, k11.1, k11.2.1, k11.2.2.1, k11.2.2.2, fun H12 s12 => ?_⟩
    have sG12 := sG11.trans s12
    have k12 := dayv sG12
    refine ⟨_, rfl, _, rfl, a, v, d, true, ks, ts, rfl, k12.1, k12.2.1, k12.2.2.1, k12.2.2.2, fun H13 s13 => ?_⟩
    have sG13 := sG12.trans s13
    have k13 := dayv sG13
    refine ⟨_, rfl, _, rfl, rfl, a, v, d, true, ks, ts, rfl, k13.1, k13.2.1, k13.2.2.1, k13.2.2.2, fun H14 s14 => ?_⟩
    have sG14 := sG13.trans s14
    have tb14 := tabs_same tb11 ((s12.trans s13).trans s14)
    rw [hgd]
    have sb3 := (shn_bools (ds := [.bool gd, .bool gd, .bool gd]) (fun x hx => ⟨gd, by
      have : x = .bool gd ∨ x = .bool gd ∨ x = .bool gd := by simpa using hx
      rcases this with e | e | e <;> exact e⟩) (Nat.le_refl 3)).r
    refine ⟨Nat.le_of_ble_eq_true rfl, fun A1 nA => ?_⟩
    generalize eA : L2.upd _ A1 _ = H15
    have sA := same_of nA eA
    have kA := at_of eA
    clear eA
    refine ⟨A1, .list [.bool gd, .bool gd, .bool gd], rfl, .lst (.inl (.inl kA)) (.cons (.bl gd) (.cons (.bl gd) (.cons (.bl gd) .nil))), sb3.1, sb3.2.1, sb3.2.2.1, sb3.2.2.2, ?_⟩
    refine ⟨_, rfl, Nat.le_of_ble_eq_true rfl, fun B1 nB => ?_⟩
    generalize eB : L2.upd _ B1 _ = H16
    have sB := same_of nB eB
    have kB := at_of eB
    clear eB
    refine ⟨B1, 3, [.bl gd], rfl, rfl, kB, by decide, by decide, by show 1 * 3 ≤ sizeLine; decide, fun Z1 nZ1 => ?_⟩
    generalize eZ : L2.upd _ Z1 _ = H17
    have sZ1 := same_of nZ1 eZ
    have kZ1 : H17 Z1 = some (.lst [.bl gd, .bl gd, .bl gd]) := at_of eZ
    clear eZ
    refine ⟨Z1, .list [.bool gd, .bool gd, .bool gd], rfl, .lst (.inl (.inl kZ1)) (.cons (.bl gd) (.cons (.bl gd) (.cons (.bl gd) .nil))), sb3.1, sb3.2.1, sb3.2.2.1, sb3.2.2.2, rfl, _, rfl, ite_eq false (congrArg Bool.not (decide_eq_true rfl)) (iteF ?_)⟩
    have s1417 := (sA.trans sB).trans sZ1
    have sG17 := sG14.trans s1417
    have tb17 := tabs_same tb14 s1417
    clear sb3 kA kB kZ1 nA nB nZ1 sA sB sZ1 s1417 sG14 tb14 sG13 sG12 k11 k12 k13 s12 s13 s14 sG11 tb11
    have k17 := dayv sG17
    refine ⟨_, rfl, _, rfl, a, v, d, false, ks, ts, rfl, k17.1, k17.2.1, k17.2.2.1, k17.2.2.2, fun H18 s18 => ?_⟩
    have sG18 := sG17.trans s18
    have k18 := dayv sG18
    refine ⟨_, rfl, _, rfl, rfl, rfl, a, v, d, false, ks, ts, rfl, k18.1, k18.2.1, k18.2.2.1, k18.2.2.2, fun H19 s19 => ?_⟩
    have sG19 := sG18.trans s19
    have tb19 := tabs_same tb17 (s18.trans s19)
    have ef : isDayD ks.length ts d false = o.isNone := by
      unfold isDayD
      rw [hO, Bool.not_false, Bool.true_or, Bool.and_true]
    rw [ef]
    generalize hon : o.isNone = on
    have sb2 := (shn_bools (ds := [.bool on, .bool on]) (fun x hx => ⟨on, by
      have : x = .bool on ∨ x = .bool on := by simpa using hx
      rcases this with e | e <;> exact e⟩) (by show 2 ≤ 3; decide)).r
    refine ⟨Nat.le_of_ble_eq_true rfl, fun A2 nA => ?_⟩
    generalize eA : L2.upd _ A2 _ = H20
    have sA := same_of nA eA
    have kA := at_of eA
    clear eA
    refine ⟨A2, .list [.bool on, .bool on], rfl, .lst (.inl (.inl kA)) (.cons (.bl on) (.cons (.bl on) .nil)), sb2.1, sb2.2.1, sb2.2.2.1, sb2.2.2.2, ?_⟩
    refine ⟨_, rfl, rfl, Nat.le_of_ble_eq_true rfl, fun B2 nB => ?_⟩
    rw [offI_none, hon]
    generalize eB : L2.upd _ B2 _ = H21
    have sB := same_of nB eB
    have kB := at_of eB
    clear eB
    refine ⟨B2, 2, [.bl on], rfl, rfl, kB, by decide, by decide, by show 1 * 2 ≤ sizeLine; decide, fun Z2 nZ2 => ?_⟩
    generalize eZ : L2.upd _ Z2 _ = H22
    have sZ2 := same_of nZ2 eZ
    have kZ2 : H22 Z2 = some (.lst [.bl on, .bl on]) := at_of eZ
    clear eZ
    refine ⟨Z2, .list [.bool on, .bool on], rfl, .lst (.inl (.inl kZ2)) (.cons (.bl on) (.cons (.bl on) .nil)), sb2.1, sb2.2.1, sb2.2.2.1, sb2.2.2.2, rfl, _, rfl, ite_eq true (decide_eq_true rfl) (iteT ?_)⟩
    have s1922 := (sA.trans sB).trans sZ2
    have sG22 := sG19.trans s1922
    refine ⟨_, rfl, v, d, rfl, hv.mono sG22, sh1, sh2, sh3, _, rfl, rfl, ?_⟩
    have q := fin _ sG22 (tabs_same tb19 s1922)
    rw [← show V.bl (decide (V.str d.shown = V.str d.shown)) = V.bl true from congrArg V.bl (decide_eq_true rfl)] at q
    exact q
end
end K09
namespace CK
open PySem PySem.Spec PyProof.Rows L2 VG FR HD M9
def euD (es : List Int) : PyData := .tuple ((es.map U).map dQ)
theorem EU.dp {K : PySem.W.Frag} {H : Hp} {a : Addr} {es : List Int} (h : EU K H a es) : Dp K H (.ref a) (euD es) := by
  obtain ⟨xs, h1, h2⟩ := h
  exact .tup h1 (dpAll_ps h2)
theorem gd_eu (es : List Int) : Gd 2 (euD es) := gd_tup fun d hd => by
  obtain ⟨p, _, rfl⟩ := List.mem_map.mp hd
  exact gd_tup fun e he => by
    have : e = .int p.1 ∨ e = .int p.2 := by simpa using he
    rcases this with z | z <;> (rw [z]; exact gd_int 0 _)
theorem eq_eu (es : List Int) : PyData.eqv (euD es) (euD es) = true := SeqAt.eqv_refl _ (gd_eu es).1
theorem sh_eu (es : List Int) : SeqAt.shaped (euD es) = true := (gd_eu es).shaped (by decide)
theorem shn_eu {es : List Int} (h : ∀ e ∈ es, e.natAbs < 2 ^ 60) (l : es.length ≤ 12) : Shn (euD es) 2 7322 := shn_ps (fun p hp => by
  obtain ⟨e, he, rfl⟩ := List.mem_map.mp hp
  exact U_bt (Nat.lt_trans (h e he) (by decide)) (by decide)) (by rw [List.length_map]; exact l)
theorem tots_lt {m : Nat} {ts : List (List Int)} {es : List Int} (w : Within 1000 es) (lots : ∀ c ∈ ts, LotOk (m : Int) c) (hm : m ≤ 12) : ∀ e ∈ totsU ts es, e.natAbs < 2 ^ 60 := fun e he => by
  obtain ⟨c, hc, rfl⟩ := List.mem_map.mp he
  have h1 := tot_lt w c
  have h2 := lot_len (lots c hc)
  have h3 : c.length * (1000 * 2 ^ 45) ≤ 12 * (1000 * 2 ^ 45) := Nat.mul_le_mul_right _ (by omega)
  exact Nat.lt_of_le_of_lt (Nat.le_trans h1 h3) (by decide)
theorem EUs.dp {K : PySem.W.Frag} {H : Hp} : ∀ {vs : List V} {rs : List (List Int)}, EUs K H vs rs → DpAll K H vs (rs.map euD)
  | [], [], _ => .nil
  | v :: vs, r :: rs, h => by
    obtain ⟨⟨u, e, h1⟩, h2⟩ := h
    subst e
    exact .cons h1.dp (EUs.dp h2)
  | [], _ :: _, h => h.elim
  | _ :: _, [], h => h.elim
def cuD (rs : List (List Int)) : PyData := .tuple (rs.map euD)
theorem gd_cu (rs : List (List Int)) : Gd 3 (cuD rs) := gd_tup fun d hd => by
  obtain ⟨p, _, rfl⟩ := List.mem_map.mp hd
  exact gd_eu p
def offPD : Option Nat → PyData
  | none => .none
  | some i => .int (i : Int)
theorem ov_off {K : PySem.W.Frag} {H : Hp} : ∀ o : Option Nat, Ov K H (offV o) (offPD o)
  | none => .non
  | some i => .int _
theorem first_lt : ∀ {l : List (List Int)} {n i : Nat}, firstU l n = some i → i < n + l.length
  | [], _, _, h => by cases h
  | d :: ds, n, i, h => by
    rw [firstU] at h
    split at h
    · have := first_lt h
      rw [List.length_cons]
      omega
    · have := Option.some.inj h
      rw [List.length_cons]
      omega
theorem sho_off {o : Option Nat} (h : ∀ i, o = some i → i < 1000) : ShO 1 60 (offPD o) := by
  cases o with
  | none => exact atm_none
  | some i =>
    have := h i rfl
    exact atm_int (by omega)
def spRight (K : PySem.W.Frag) (C : Addr) : Sp := fun vs H Q _ => ∃ (a t dd : Addr) (ks : List Str) (ts : List (List Int)) (rs : List Line), vs = [.ref a, .int (ks.length : Int), .ref t, .ref dd] ∧ Tab K C H a ks ts ∧ TabOk ks ts ∧ TotsIn K H t ks.length ts ∧ DayIn K H dd ks.length rs ∧ rs.length ≤ 30 ∧ ∀ H', Same H H' → Q (.bl true) H'
end CK
namespace K09
open PySem PySem.Spec PyProof.Rows L2 VG FR CK HD M9
abbrev s__law_right : Stmt := topS 77
abbrev N__law_right : List Str := ["table", "many", "totals", "day", "errors", "course", "kind", "amount", "whole", "more", "due", "first"]
theorem sc__law_right : FnScope N__law_right ["table", "many", "totals", "day"] (defScope s__law_right) := ⟨rfl, rfl, rfl, by decide +kernel, rfl, by decide +kernel, by decide +kernel⟩
section
variable {P : Program} {w : World} {K : PySem.W.Frag} {mg : Str → Option Value} {base : Heap}
theorem ok__law_right {f C : Addr} {fd : FuncData} (F : Fun K "_law_right" "_law_right" s__law_right f fd)
    (C__law_sums : Cl P w K mg base 3 "_law_sums" (spLawSums K)) (C__law_behind : Cl P w K mg base 3 "_law_behind" (spBehind K)) (C__law_choices : Cl P w K mg base 1 "_law_choices" (spLawCho K)) (C__law_first_off : Cl P w K mg base 4 "_law_first_off" (spLawFirst K))
    (C_errors_behind : Cl P w K mg base 4 "errors_behind" (spBehind K)) (CR_errors_behind : ClR P w K mg base 4 "errors_behind" ["whole", "amount", "kind", "errors"] (spBehind K))
    (C_choices : Cl P w K mg base 2 "choices" (spCho K)) (CK_choices_amount : ClK P w K mg base 2 "choices" ["amount"] (spCho K))
    (C_errors_of : Cl P w K mg base 5 "errors_of" (spErrsOf K C fun ks _ rs => errU ks.length rs)) (CR_errors_of : ClR P w K mg base 5 "errors_of" ["day", "table"] (spErrsOf K C fun ks _ rs => errU ks.length rs))
    (C_totals_by : Cl P w K mg base 4 "totals_by" (spTotsBy K C)) (CR_totals_by : ClR P w K mg base 4 "totals_by" ["errors", "table"] (spTotsBy K C))
    (C_total_errors : Cl P w K mg base 6 "total_errors" (spErrsOf K C fun ks ts rs => totsU ts (errU ks.length rs))) (CR_total_errors : ClR P w K mg base 6 "total_errors" ["day", "table"] (spErrsOf K C fun ks ts rs => totsU ts (errU ks.length rs)))
    (C_course_of : Cl P w K mg base 4 "course_of" (spCourse K C)) (CR_course_of : ClR P w K mg base 4 "course_of" ["day", "table"] (spCourse K C))
    (C_first_off : Cl P w K mg base 5 "first_off" (spFirst K C)) (CR_first_off : ClR P w K mg base 5 "first_off" ["day", "table"] (spFirst K C))
    (z_repr : mg "repr" = none) (z_tuple : mg "tuple" = none) : FnG P w K mg base 7 f fd ["table", "many", "totals", "day"] (spRight K C) := by
  refine fnG_of F sc__law_right (fun vs H Q E h => ?_) (fun cdv A outer s H vs Q E hg hr h => ?_)
  · obtain ⟨_, _, _, _, _, _, rfl, _⟩ := h
    rfl
  · obtain ⟨a, t, dd, ks, ts, rs, rfl, hTab, ok, ⟨xt, hSt, hTt, ltt, lots⟩, hDay, l30, fin⟩ := h
    refine ⟨_, (pss_cons (ps_par (i := 4) (j := 5) (by rfl) sc__law_right.nd rfl rfl (by decide) rfl rfl (pa_cons (pe_op op_repA (pe_tup (pa_cons (pe_tup (pa_cons pe_int (pa_cons pe_int pa_nil))) pa_nil)) (pv 1)) (pa_cons (pe_lst (pa_cons (pe_cl C__law_sums hr (by decide) rfl (pa_cons (pv 2) (pa_cons (pe_op op_repA (pe_tup (pa_cons (pe_tup (pa_cons pe_int (pa_cons pe_int pa_nil))) pa_nil)) (pv 1)) pa_nil))) pa_nil)) pa_nil)) (by rfl))
    (pss_cut (ps_for PassesOwn.never rfl (pi_tup (pv 3)) (pg_tup rfl (pgs_cons (pg_name (i := 6) sc__law_right.nd rfl (.inl rfl)) (pgs_cons (pg_name (i := 7) sc__law_right.nd rfl (.inl rfl)) (pgs_cons (pg_name (i := 8) sc__law_right.nd rfl (.inl rfl)) pgs_nil))))
      (pss_cons (ps_par (i := 9) (j := 10) (by rfl) sc__law_right.nd rfl rfl (by decide) rfl rfl (pa_cons (pe_cl C__law_behind hr (by decide) rfl (pa_cons (pv 4) (pa_cons (pv 6) (pa_cons (pv 7) (pa_cons (pv 8) pa_nil))))) (pa_cons (pe_callTy call_tupE (by rfl) z_tuple (by decide +kernel) (pa_cons (pe_cl C__law_choices hr (by decide) rfl (pa_cons (pv 7) pa_nil)) pa_nil)) pa_nil)) (by rfl))
      (pss_cons (ps_if (PW.pt (pw_or (pt_cmpR op_ne (pe_callB (cr_repr hg hr.units) (by rfl) z_repr (by decide +kernel) (pa_cons (pe_cl C_errors_behind hr (by decide) rfl (pa_cons (pv 4) (pa_cons (pv 6) (pa_cons (pv 7) (pa_cons (pv 8) pa_nil))))) pa_nil)) (pe_callB (cr_repr hg hr.units) (by rfl) z_repr (by decide +kernel) (pa_cons (pv 9) pa_nil)) (nomark _)) (pw_or1 (pt_cmpR (op_neD hr.units) (pe_clr CR_errors_behind hr (by decide) rfl (pk_cons (pv 8) (pk_cons (pv 7) (pk_cons (pv 6) (pk_cons (pv 4) pk_nil))))) (pv 9) (nomark _)))))
        (pss_one (ps_ret pe_bl))
        pss_nil)
      (pss_cons (ps_if (PW.pt (pw_or (pt_cmpR op_ne (pe_callB (cr_repr hg hr.units) (by rfl) z_repr (by decide +kernel) (pa_cons (pe_cl C_choices hr (by decide) rfl (pa_cons (pv 7) pa_nil)) pa_nil)) (pe_callB (cr_repr hg hr.units) (by rfl) z_repr (by decide +kernel) (pa_cons (pv 10) pa_nil)) (nomark _)) (pw_or1 (pt_cmpR (op_neD hr.units) (pe_clk0 CK_choices_amount hr (by decide) rfl (pk_cons (pv 7) pk_nil)) (pv 10) (nomark _)))))
        (pss_one (ps_ret pe_bl))
        pss_nil)
      (pss_cons (ps_set (i := 4) sc__law_right.nd rfl (.inl rfl) (pv 9))
      (pss_one (ps_expr (pe_bm PySem.F.plainAttrs_list PySem.F.slot_list_append PySem.F.type_list_append mt_append (pv 5) (pa_cons (pe_cl C__law_sums hr (by decide) rfl (pa_cons (pv 2) (pa_cons (pv 4) pa_nil))) pa_nil)))))))))
    (pss_cons (ps_if (PW.pt (pw_or (pt_cmpR op_ne (pe_callB (cr_repr hg hr.units) (by rfl) z_repr (by decide +kernel) (pa_cons (pe_cl C_errors_of hr (by decide) rfl (pa_cons (pv 0) (pa_cons (pv 3) pa_nil))) pa_nil)) (pe_callB (cr_repr hg hr.units) (by rfl) z_repr (by decide +kernel) (pa_cons (pv 4) pa_nil)) (nomark _)) (pw_or1 (pt_cmpR (op_neD hr.units) (pe_clr CR_errors_of hr (by decide) rfl (pk_cons (pv 3) (pk_cons (pv 0) pk_nil))) (pv 4) (nomark _)))))
      (pss_one (ps_ret pe_bl))
      pss_nil)
    (pss_cons (ps_if (PW.pt (pw_or (pt_cmpR op_ne (pe_callB (cr_repr hg hr.units) (by rfl) z_repr (by decide +kernel) (pa_cons (pe_cl C_totals_by hr (by decide) rfl (pa_cons (pv 0) (pa_cons (pv 4) pa_nil))) pa_nil)) (pe_callB (cr_repr hg hr.units) (by rfl) z_repr (by decide +kernel) (pa_cons (pe_ix ix_list (pv 5) (pe_un un_neg pe_int) (fun _ _ => rfl)) pa_nil)) (nomark _)) (pw_or1 (pt_cmpR (op_neD hr.units) (pe_clr CR_totals_by hr (by decide) rfl (pk_cons (pv 4) (pk_cons (pv 0) pk_nil))) (pe_ix ix_list (pv 5) (pe_un un_neg pe_int) (fun _ _ => rfl)) (nomark _)))))
      (pss_one (ps_ret pe_bl))
      pss_nil)
    (pss_cons (ps_if (PW.pt (pw_or (pt_cmpR op_ne (pe_callB (cr_repr hg hr.units) (by rfl) z_repr (by decide +kernel) (pa_cons (pe_cl C_total_errors hr (by decide) rfl (pa_cons (pv 0) (pa_cons (pv 3) pa_nil))) pa_nil)) (pe_callB (cr_repr hg hr.units) (by rfl) z_repr (by decide +kernel) (pa_cons (pe_ix ix_list (pv 5) (pe_un un_neg pe_int) (fun _ _ => rfl)) pa_nil)) (nomark _)) (pw_or1 (pt_cmpR (op_neD hr.units) (pe_clr CR_total_errors hr (by decide) rfl (pk_cons (pv 3) (pk_cons (pv 0) pk_nil))) (pe_ix ix_list (pv 5) (pe_un un_neg pe_int) (fun _ _ => rfl)) (nomark _)))))
      (pss_one (ps_ret pe_bl))
      pss_nil)
    (pss_cons (ps_if (PW.pt (pw_or (pt_cmpR op_ne (pe_callB (cr_repr hg hr.units) (by rfl) z_repr (by decide +kernel) (pa_cons (pe_cl C_course_of hr (by decide) rfl (pa_cons (pv 0) (pa_cons (pv 3) pa_nil))) pa_nil)) (pe_callB (cr_repr hg hr.units) (by rfl) z_repr (by decide +kernel) (pa_cons (pe_callTy call_tupE (by rfl) z_tuple (by decide +kernel) (pa_cons (pv 5) pa_nil)) pa_nil)) (nomark _)) (pw_or1 (pt_cmpR (op_neD hr.units) (pe_clr CR_course_of hr (by decide) rfl (pk_cons (pv 3) (pk_cons (pv 0) pk_nil))) (pe_callTy call_tupE (by rfl) z_tuple (by decide +kernel) (pa_cons (pv 5) pa_nil)) (nomark _)))))
      (pss_one (ps_ret pe_bl))
      pss_nil)
    (pss_cons (ps_set (i := 11) sc__law_right.nd rfl (.inl rfl) (pe_cl C__law_first_off hr (by decide) rfl (pa_cons (pv 1) (pa_cons (pv 2) (pa_cons (pv 3) pa_nil)))))
    (pss_one (ps_ret (pe_and (pe_cmpR op_eq (pe_callB (cr_reprO hg hr.units) (by rfl) z_repr (by decide +kernel) (pa_cons (pe_cl C_first_off hr (by decide) rfl (pa_cons (pv 0) (pa_cons (pv 3) pa_nil))) pa_nil)) (pe_callB (cr_reprO hg hr.units) (by rfl) z_repr (by decide +kernel) (pa_cons (pv 11) pa_nil)) (nomark _)) (pe_one (pe_cmpR op_eq (pe_clr CR_first_off hr (by decide) rfl (pk_cons (pv 3) (pk_cons (pv 0) pk_nil))) (pv 11) (nomark _))))))))))))), ?_⟩
    obtain ⟨ys, hD, hL, ho, hl⟩ := id hDay
    have big : sizeLine = 16777216 := by decide
    have ly := hL.len
    have k12 := ok.kinds.2.1
    have lot2 : ∀ es : List Int, es.length = ks.length → ∀ c ∈ ts, c.length ≤ 40 ∧ ∀ k ∈ c, 0 ≤ k ∧ k < (es.length : Int) := fun es le c hc => ⟨by have := lot_len (lots c hc); omega, fun k hk => by rw [le]; exact (lots c hc).2.1 k hk⟩
    have w0 := errU_at 0 ho (by omega)
    rw [List.take_zero] at w0
    have nil0 : errU ks.length [] = List.replicate ks.length 0 := rfl
    -- errors of kinds: all nought
    refine ⟨Nat.le_of_ble_eq_true rfl, fun z nz => ?_⟩
    generalize e1 : L2.upd _ z _ = H1
    have s1 := same_of nz e1
    have kz := at_of e1
    refine ⟨Nat.le_of_ble_eq_true rfl, fun y ny => ?_⟩
    generalize e2 : L2.upd _ y _ = H2
    have s2 := same_of ny e2
    have ky := at_of e2
    refine ⟨_, rfl, y, ks.length, [.ref z], rfl, rfl, .inl (.inl ky), by simp, by omega, (by show 1 ≤ 1000; decide), fun e0 H3 s3 ke => ?_⟩
    rw [rep_one] at ke
    have hE3 : EU K H3 e0 (errU ks.length []) := ⟨_, ke, rep_frs (.inl (.inl ((s2.trans s3) _ _ kz))) ks.length⟩
    have sH3 := s1.trans (s2.trans s3)
    refine ⟨_, rfl, Nat.le_of_ble_eq_true rfl, fun z2 nz2 => ?_⟩
    generalize e4 : L2.upd _ z2 _ = H4
    have s4 := same_of nz2 e4
    have kz2 := at_of e4
    refine ⟨Nat.le_of_ble_eq_true rfl, fun y2 ny2 => ?_⟩
    generalize e5 : L2.upd _ y2 _ = H5
    have s5 := same_of ny2 e5
    have ky2 := at_of e5
    refine ⟨_, rfl, y2, ks.length, [.ref z2], rfl, rfl, .inl (.inl ky2), by simp, by omega, (by show 1 ≤ 1000; decide), fun e6 H6 s6 ke6 => ?_⟩
    rw [rep_one] at ke6
    have hE6 : EU K H6 e6 (errU ks.length []) := ⟨_, ke6, rep_frs (.inl (.inl ((s5.trans s6) _ _ kz2))) ks.length⟩
    have s36 := s4.trans (s5.trans s6)
    have sH6 := sH3.trans s36
    refine ⟨t, e6, xt, ts, _, rfl, seqT sH6 hSt, hTt.mono sH6, ltt, lot2 _ w0.2, hE6, w0.1, fun H7 u7 s7 hu7 => ?_⟩
    have sH7 := sH6.trans s7
    have hE7 := hE3.mono (s36.trans s7)
    refine ⟨Nat.le_of_ble_eq_true rfl, fun Cc nC => ?_⟩
    generalize e8 : L2.upd _ Cc _ = H8
    have s8 := same_of nC e8
    have kC : H8 Cc = some (.lst [.ref u7]) := at_of e8
    have hC0 : H Cc = none := sH7.free nC
    have sH8 := sH7.trans s8
    have hE8 := hE7.mono s8
    have hU8 := hu7.mono s8
    clear e1 e2 e4 e5 e8 nz ny nz2 ny2 nC kz ky kz2 ky2 ke ke6 s1 s2 s3 s4 s5 s6 s7 s8 s36 sH3 sH6 sH7 hE3 hE6 hE7 hu7
    refine ⟨_, _, rfl, ?_⟩
    refine ⟨fun σ H' => ∃ (e : Addr) (zs : List V) (y6 y7 y8 y9 y10 : Option V), σ = [some (.ref a), some (.int ks.length), some (.ref t), some (.ref dd), some (.ref e), some (.ref Cc), y6, y7, y8, y9, y10, none] ∧ Same H H' ∧ EU K H' e (errU ks.length rs) ∧ H' Cc = some (.lst zs) ∧ EUs K H' zs (courseU ks.length ts rs), ?_, ?_⟩
    · refine ⟨_, rfl, dd, rfl, ⟨_, seqT sH8 hD⟩, ?_⟩
      refine for_it (walk_tup (K := K) (a := dd) (xs := ys)) (fun i σ H' => ∃ (e : Addr) (zs : List V) (y6 y7 y8 y9 y10 : Option V), σ = [some (.ref a), some (.int ks.length), some (.ref t), some (.ref dd), some (.ref e), some (.ref Cc), y6, y7, y8, y9, y10, none] ∧ Same H H' ∧ EU K H' e (errU ks.length (rs.take i)) ∧ H' Cc = some (.lst zs) ∧ EUs K H' zs (cou ks.length ts rs i)) ⟨e0, _, _, _, _, _, _, rfl, sH8, hE8, kC, ⟨⟨u7, rfl, hU8⟩, trivial⟩⟩ ?_ ?_ ?_
      · rintro i σ H9 _ ⟨_, _, _, _, _, _, _, _, sm, _⟩
        exact seqT sm hD
      · clear sH8 hE8 kC hU8
        rintro i x σ H9 H10 hi ⟨e, zs, y6, y7, y8, y9, y10, rfl, sm, hE, kC, hCu⟩ ⟨rfl, ex⟩
        obtain ⟨r, er, t1, q, rfl, h1, h2⟩ := hL.get ex
        have ew := errU_at i ho (by omega)
        have ew1 := errU_at (i + 1) ho (by omega)
        have lo := ho r (List.mem_of_getElem? er)
        have lzs := hCu.len
        have lcu : (cou ks.length ts rs i).length = i + 1 := by unfold cou; rw [List.length_map, List.length_range]
        have bm := lo.amt
        refine ⟨t1, _, rfl, seqT sm h1, rfl, _, _, rfl, _, _, rfl, _, _, rfl, rfl, ?_⟩
        refine ⟨_, rfl, _, rfl, _, rfl, _, rfl, e, q, _, r, rfl, hE, seqT sm h2, by rw [ew.2]; exact lo, ew.1, by rw [ew.2]; omega, fun H11 m s11 hm => ?_⟩
        rw [← errU_take er] at hm
        refine ⟨_, rfl, q, r.2.1, rfl, seqT (sm.trans s11) h2, bm.low.1, bm.bt3, fun H12 c s12 nc kc => ?_⟩
        refine ⟨c, _, rfl, .inl (.inl (.inl kc)), fun H13 du s13 hdu => ⟨_, _, rfl, ?_⟩⟩
        have sm13 := ((sm.trans s11).trans s12).trans s13
        have hm13 := hm.mono (s12.trans s13)
        have hE13 := hE.mono ((s11.trans s12).trans s13)
        have kC13 := ((s11.trans s12).trans s13) _ _ kC
        have hCu13 := hCu.mono ((s11.trans s12).trans s13)
        have shm := (shn_eu (within_lt ew1.1) (by rw [ew1.2]; omega)).r
        clear sm hE kC hCu s11 hm s12 nc kc s13
        -- errors behind
        refine ⟨_, rfl, _, rfl, _, rfl, _, rfl, e, q, _, r, rfl, hE13, seqT sm13 h2, by rw [ew.2]; exact lo, ew.1, by rw [ew.2]; omega, fun H14 u14 s14 hu14 => ?_⟩
        rw [← errU_take er] at hu14
        refine ⟨u14, _, rfl, hu14.dp, shm.1, shm.2.1, shm.2.2.1, shm.2.2.2, ?_⟩
        refine ⟨_, rfl, m, _, rfl, (hm13.mono s14).dp, shm.1, shm.2.1, shm.2.2.1, shm.2.2.2, rfl, _, rfl, ite_eq false (congrArg Bool.not (decide_eq_true rfl)) (iteF ?_)⟩
        have sm14 := sm13.trans s14
        refine ⟨_, rfl, _, rfl, _, rfl, _, rfl, e, q, _, r, rfl, hE13.mono s14, seqT sm14 h2, by rw [ew.2]; exact lo, ew.1, by rw [ew.2]; omega, fun H15 u15 s15 hu15 => ?_⟩
        rw [← errU_take er] at hu15
        refine ⟨_, rfl, _, _, hu15.dp, ((hm13.mono s14).mono s15).dp, sh_eu _, sh_eu _, _, rfl, ite_eq false (congrArg Bool.not (eq_eu _)) (iteF ?_)⟩
        have sm15 := sm14.trans s15
        -- choices
        have cho : ∀ x ∈ choQ r.2.1, x.natAbs ≤ 1000001 := fun x hx => (line_of (m := 1) (k := 0) (by decide) bm hx).whole
        have shc := (shn_dI (c := choQ r.2.1) (n := 2) (fun x hx => Nat.lt_of_le_of_lt (cho x hx) (by decide)) (choQ_ne _).2).r
        refine ⟨_, rfl, q, r.2.1, rfl, seqT sm15 h2, bm.low.1, bm.bt3, fun H16 c2 s16 nc2 kc2 => ?_⟩
        have sm16 := sm15.trans s16
        have hdu16 := seqT ((s14.trans s15).trans s16) hdu
        refine ⟨c2, _, rfl, dp_I (.inl (.inl kc2)), shc.1, shc.2.1, shc.2.2.1, shc.2.2.2, ?_⟩
        refine ⟨_, rfl, du, _, rfl, dp_I hdu16, shc.1, shc.2.1, shc.2.2.1, shc.2.2.2, rfl, _, rfl, ite_eq false (congrArg Bool.not (decide_eq_true rfl)) (iteF ?_)⟩
        refine ⟨_, rfl, q, r.2.1, rfl, seqT sm16 h2, bm.low.1, bm.bt3, fun H17 c3 s17 nc3 kc3 => ?_⟩
        have sm17 := sm16.trans s17
        refine ⟨_, rfl, _, _, dp_I (.inl (.inl kc3)), dp_I (seqT s17 hdu16), shaped_dI _, shaped_dI _, _, rfl, ite_eq false (congrArg Bool.not ((eqv_dI _ _).trans (decide_eq_true rfl))) (iteF ?_)⟩
        have s1317 := ((s14.trans s15).trans s16).trans s17
        have kC17 := s1317 _ _ kC13
        have hm17 := hm13.mono s1317
        have hCu17 := hCu13.mono s1317
        clear hdu16 kc2 nc2 kc3 nc3 s14 s15 s16 s17 hu14 hu15 sm13 sm14 sm15 sm16 kC13 hCu13 hm13 hE13
        refine ⟨_, rfl, ?_⟩
        refine ⟨_, rfl, .inl ⟨rfl, _, .inl (.inl kC17)⟩, _, rfl, _, rfl, t, m, xt, ts, _, rfl, seqT sm17 hSt, hTt.mono sm17, ltt, lot2 _ ew1.2, hm17, ew1.1, fun H18 u18 s18 hu18 => ?_⟩
        have sm18 := sm17.trans s18
        have kC18 := s18 _ _ kC17
        refine ⟨Cc, _, _, rfl, rfl, kC18, by omega, ?_⟩
        refine ⟨m, _, _, _, _, _, _, rfl, HD.same_put sm18 hC0, (hm17.mono s18).updL kC18, upd_same, ?_⟩
        rw [cou_succ]
        exact EUs.snoc (hu18.updL kC18) ((hCu17.mono s18).updL kC18)
      · rintro σ H9 ⟨e, zs, y6, y7, y8, y9, y10, rfl, sm, hE, kC, hCu⟩
        rw [ly, List.take_length] at hE
        rw [ly] at hCu
        exact ⟨e, zs, _, _, _, _, _, rfl, sm, hE, kC, hCu⟩
    · rintro σ H9 ⟨e, zs, y6, y7, y8, y9, y10, rfl, sm, hE, kC, hCu⟩
      have wE := errU_within ho
      have wE1 : Within 1000 (errU ks.length rs) := wE.1.mono (by omega)
      have lz := hCu.len
      rw [course_len] at lz
      have hDay9 := hDay.mono sm
      have hTab9 := hTab.mono sm
      obtain ⟨ul, hzl, hul⟩ : ∃ ul, zs[zs.length - 1]? = some (.ref ul) ∧ EU K H9 ul (totsU ts (errU ks.length rs)) := by
        obtain ⟨v, ev⟩ : ∃ v, zs[rs.length]? = some v := ⟨_, List.getElem?_eq_getElem (by omega)⟩
        obtain ⟨u, r, rfl, er, hu⟩ := hCu.get ev
        refine ⟨u, by rw [lz, Nat.add_sub_cancel]; exact ev, ?_⟩
        unfold courseU at er
        rw [List.getElem?_map, List.getElem?_range (by omega)] at er
        have er2 : totsU ts (errU ks.length (rs.take rs.length)) = r := Option.some.inj er
        rw [List.take_length] at er2
        rw [er2]
        exact hu
      have lastC := atI_m1 hzl
      have shE := (shn_eu (within_lt wE1) (by rw [wE.2]; omega)).r
      have shT := (shn_eu (tots_lt wE1 lots k12) (by rw [tots_len]; exact ltt)).r
      -- errors of the day
      refine ⟨_, rfl, _, rfl, a, dd, ks, ts, rs, rfl, hTab9, ok, hDay9, fun H10 u10 s10 hu10 => ?_⟩
      refine ⟨u10, _, rfl, hu10.dp, shE.1, shE.2.1, shE.2.2.1, shE.2.2.2, ?_⟩
      refine ⟨_, rfl, e, _, rfl, (hE.mono s10).dp, shE.1, shE.2.1, shE.2.2.1, shE.2.2.2, rfl, _, rfl, ite_eq false (congrArg Bool.not (decide_eq_true rfl)) (iteF ?_)⟩
      refine ⟨_, rfl, _, rfl, a, dd, ks, ts, rs, rfl, hTab9.mono s10, ok, hDay9.mono s10, fun H11 u11 s11 hu11 => ?_⟩
      have t11 := s10.trans s11
      refine ⟨_, rfl, _, _, hu11.dp, (hE.mono t11).dp, sh_eu _, sh_eu _, _, rfl, ite_eq false (congrArg Bool.not (eq_eu _)) (iteF ?_)⟩
      -- totals by errors
      refine ⟨_, rfl, _, rfl, a, e, ks, ts, _, rfl, hTab9.mono t11, ok, hE.mono t11, wE.2, wE1, fun H12 u12 s12 hu12 => ?_⟩
      have t12 := t11.trans s12
      refine ⟨u12, _, rfl, hu12.dp, shT.1, shT.2.1, shT.2.2.1, shT.2.2.2, ?_⟩
      refine ⟨_, rfl, _, rfl, Cc, zs, _, _, rfl, rfl, .inl (.inl (t12 _ _ kC)), lastC, ul, _, rfl, (hul.mono t12).dp, shT.1, shT.2.1, shT.2.2.1, shT.2.2.2, rfl, _, rfl, ite_eq false (congrArg Bool.not (decide_eq_true rfl)) (iteF ?_)⟩
      refine ⟨_, rfl, _, rfl, a, e, ks, ts, _, rfl, hTab9.mono t12, ok, hE.mono t12, wE.2, wE1, fun H13 u13 s13 hu13 => ?_⟩
      have t13 := t12.trans s13
      refine ⟨_, rfl, _, rfl, Cc, zs, _, _, rfl, rfl, .inl (.inl (t13 _ _ kC)), lastC, _, _, hu13.dp, (hul.mono t13).dp, sh_eu _, sh_eu _, _, rfl, ite_eq false (congrArg Bool.not (eq_eu _)) (iteF ?_)⟩
      -- errors of totals
      refine ⟨_, rfl, _, rfl, a, dd, ks, ts, rs, rfl, hTab9.mono t13, ok, hDay9.mono t13, fun H14 u14 s14 hu14 => ?_⟩
      have t14 := t13.trans s14
      refine ⟨u14, _, rfl, hu14.dp, shT.1, shT.2.1, shT.2.2.1, shT.2.2.2, ?_⟩
      refine ⟨_, rfl, _, rfl, Cc, zs, _, _, rfl, rfl, .inl (.inl (t14 _ _ kC)), lastC, ul, _, rfl, (hul.mono t14).dp, shT.1, shT.2.1, shT.2.2.1, shT.2.2.2, rfl, _, rfl, ite_eq false (congrArg Bool.not (decide_eq_true rfl)) (iteF ?_)⟩
      refine ⟨_, rfl, _, rfl, a, dd, ks, ts, rs, rfl, hTab9.mono t14, ok, hDay9.mono t14, fun H15 u15 s15 hu15 => ?_⟩
      have t15 := t14.trans s15
      refine ⟨_, rfl, _, rfl, Cc, zs, _, _, rfl, rfl, .inl (.inl (t15 _ _ kC)), lastC, _, _, hu15.dp, (hul.mono t15).dp, sh_eu _, sh_eu _, _, rfl, ite_eq false (congrArg Bool.not (eq_eu _)) (iteF ?_)⟩
      -- the course
      have shC := (shn_tup (k := 2) (B := 7322) (n := 31) (ds := (courseU ks.length ts rs).map euD) (fun d hd => by
        obtain ⟨r, hr, rfl⟩ := List.mem_map.mp hd
        unfold courseU at hr
        obtain ⟨j, _, rfl⟩ := List.mem_map.mp hr
        have wj := errU_at j ho (by omega)
        exact shn_eu (tots_lt wj.1 lots k12) (by rw [tots_len]; exact ltt)) (by rw [List.length_map, course_len]; omega)).r
      refine ⟨_, rfl, _, rfl, a, dd, ks, ts, rs, rfl, hTab9.mono t15, ok, hDay9.mono t15, fun H16 u16 y16 s16 hs16 hu16 => ?_⟩
      have t16 := t15.trans s16
      refine ⟨u16, _, rfl, .tup hs16 hu16.dp, shC.1, shC.2.1, shC.2.2.1, shC.2.2.2, ?_⟩
      refine ⟨_, rfl, Cc, zs, rfl, .inl (.inl (.inl (t16 _ _ kC))), fun H17 u17 s17 hu17 => ?_⟩
      have t17 := t16.trans s17
      refine ⟨u17, _, rfl, .tup hu17 (hCu.mono t17).dp, shC.1, shC.2.1, shC.2.2.1, shC.2.2.2, rfl, _, rfl, ite_eq false (congrArg Bool.not (decide_eq_true rfl)) (iteF ?_)⟩
      refine ⟨_, rfl, _, rfl, a, dd, ks, ts, rs, rfl, hTab9.mono t17, ok, hDay9.mono t17, fun H18 u18 y18 s18 hs18 hu18 => ?_⟩
      have t18 := t17.trans s18
      refine ⟨_, rfl, Cc, zs, rfl, .inl (.inl (.inl (t18 _ _ kC))), fun H19 u19 s19 hu19 => ?_⟩
      have t19 := t18.trans s19
      refine ⟨_, _, .tup (seqT s19 hs18) (hu18.mono s19).dp, .tup hu19 (hCu.mono t19).dp, (gd_cu _).shaped (by decide), (gd_cu _).shaped (by decide), _, rfl, ite_eq false (congrArg Bool.not (SeqAt.eqv_refl _ (gd_cu _).1)) (iteF ?_)⟩
      -- the first line behind which a total is off
      refine ⟨_, rfl, _, rfl, _, rfl, t, dd, ks.length, ts, rs, rfl, ⟨xt, seqT (sm.trans t19) hSt, hTt.mono (sm.trans t19), ltt, lots⟩, k12, hDay9.mono t19, fun H20 s20 => ?_⟩
      have t20 := t19.trans s20
      have shF : ShO 1 60 (offPD (firstU ((courseU ks.length ts rs).drop 1) 0)) := sho_off fun i hi => by
        have := first_lt hi
        rw [List.length_drop, course_len] at this
        omega
      generalize hF : firstU ((courseU ks.length ts rs).drop 1) 0 = o at shF ⊢
      have sf1 := shF.1
      have sf2 : (offPD o).depth ≤ 60 := Nat.le_trans shF.2.1 (by decide)
      have sf3 : (offPD o).shown.length ≤ sizeLine := Nat.le_trans shF.2.2 (by decide)
      refine ⟨_, rfl, _, rfl, a, dd, ks, ts, rs, rfl, hTab9.mono t20, ok, hDay9.mono t20, fun H21 s21 => ?_⟩
      rw [hF]
      refine ⟨offV o, offPD o, rfl, ov_off o, sf1, sf2, sf3, ?_⟩
      refine ⟨_, rfl, offV o, offPD o, rfl, ov_off o, sf1, sf2, sf3, rfl, _, rfl, ite_eq true (decide_eq_true rfl) (iteT ?_)⟩
      have t21 := t20.trans s21
      refine ⟨_, rfl, _, rfl, a, dd, ks, ts, rs, rfl, hTab9.mono t21, ok, hDay9.mono t21, fun H22 s22 => ?_⟩
      rw [hF]
      have q := fin H22 ((sm.trans t21).trans s22)
      cases o with
      | none => exact ⟨_, rfl, rfl, q⟩
      | some i =>
        refine ⟨_, rfl, rfl, ?_⟩
        rw [← show V.bl (decide (offV (some i) = offV (some i))) = V.bl true from congrArg V.bl (decide_eq_true rfl)] at q
        exact q
end
end K09
namespace CK
open PySem PySem.Spec PyProof.Rows L2 VG FR HD M9
/-- values of which something is so -/
def AllP (K : PySem.W.Frag) (F : Hp) (P : PyData → Prop) (vs : List V) : Prop := ∀ v ∈ vs, ∃ d, Ov K F v d ∧ P d
theorem AllP.mono {K : PySem.W.Frag} {F F' : Hp} {P : PyData → Prop} {vs : List V} (s : Same F F') (h : AllP K F P vs) : AllP K F' P vs := fun v hv => by
  obtain ⟨d, a, b⟩ := h v hv
  exact ⟨d, a.mono s, b⟩
theorem AllP.app {K : PySem.W.Frag} {F : Hp} {P : PyData → Prop} {vs us : List V} (h : AllP K F P vs) (g : AllP K F P us) : AllP K F P (vs ++ us) := fun v hv => (List.mem_append.mp hv).elim (h v) (g v)
theorem ovT {K : PySem.W.Frag} {p q z : Addr} {H : Hp} {xs : List V} {ds : List PyData} (hd : Hd p q H) (h : SqT K H z xs) (ha : OvAll K (frz p q H) xs ds) : Ov K (frz p q H) (.ref z) (.tuple ds) := .tup (seqTK hd keep_frz h) ha
theorem ovL {K : PySem.W.Frag} {p q z : Addr} {H : Hp} {xs : List V} {ds : List PyData} (f : z ≠ p ∧ z ≠ q) (h : H z = some (.lst xs)) (ha : OvAll K (frz p q H) xs ds) : Ov K (frz p q H) (.ref z) (.list ds) := .lst (frz_at h f) ha
theorem ovD {K : PySem.W.Frag} {p q z : Addr} {H : Hp} (f : z ≠ p ∧ z ≠ q) (h : H z = some (.dK [])) : Ov K (frz p q H) (.ref z) (.dict []) := .dct (frz_at h f)
theorem sh_tup2 {ds : List PyData} (h : ∀ d ∈ ds, Atm d) (l : ds.length ≤ 3) : ShO 2 200 (.tuple ds) := (shO_tup (k := 1) (B := 60) (n := 3) h l).mono (by decide) (by decide)
theorem sh_lst2 {ds : List PyData} (h : ∀ d ∈ ds, Atm d) (l : ds.length ≤ 3) : ShO 2 200 (.list ds) := (shO_lst (k := 1) (B := 60) (n := 3) h l).mono (by decide) (by decide)
theorem amt_double {a b : Int} (hb : 0 < b) : amtD (.tuple [.int (2 * a), .int (2 * b)]) = false := amt_not (by
  show (decide (0 < 2 * b) && decide (M2.g (2 * a) (2 * b) = 1)) = false
  have e : M2.g (2 * a) (2 * b) = 2 * M2.g a b := by
    unfold M2.g
    rw [Int.natAbs_mul, Int.natAbs_mul]
    exact Nat.gcd_mul_left 2 _ _
  rw [e, decide_eq_false (by omega : ¬ 2 * M2.g a b = 1), Bool.and_false])
theorem amt_neg {a b : Int} (hb : 0 < b) : amtD (.tuple [.int a, .int (0 - b)]) = false := amt_not (by
  show (decide (0 < 0 - b) && _) = false
  rw [decide_eq_false (by omega), Bool.false_and])
theorem amt_zero {a : Int} : amtD (.tuple [.int a, .int 0]) = false := amt_not (by
  show (decide ((0 : Int) < 0) && decide (M2.g a 0 = 1)) = false
  rw [decide_eq_false (by omega), Bool.false_and])
theorem amt_non {a : Int} : amtD (.tuple [.int a, .none]) = false := amt_not rfl
theorem frz_up {p q : Addr} {H H' : Hp} (hd : Hd p q H) (s : Same H H') : Same (frz p q H) (frz p q H') := ((On.start hd).same s).base.2
/-- an amount, right or odd -/
def AV (d : PyData) : Prop := ShO 2 200 d ∧ (amtD d = true → (pairD d).2 ∣ DL)
/-- a line without its whole, right or odd -/
def LV (d : PyData) : Prop := ShO 3 2000 d ∧ ∀ k p, d = .tuple [k, p] → amtD p = true → (pairD p).2 ∣ DL
/-- pairs, the first of A, the second of B -/
def PrsIn (K : PySem.W.Frag) (H : Hp) (A B ws : List V) : Prop := ∀ w ∈ ws, ∃ z x y, w = .ref z ∧ SqT K H z [x, y] ∧ x ∈ A ∧ y ∈ B
section
variable {K : PySem.W.Frag} {H H' : Hp} {A B ws : List V}
theorem PrsIn.mono (s : Same H H') (h : PrsIn K H A B ws) : PrsIn K H' A B ws := fun w hw => by
  obtain ⟨z, x, y, e, h1, h2⟩ := h w hw
  exact ⟨z, x, y, e, seqT s h1, h2⟩
theorem PrsIn.keep {p q : Addr} (h : PrsIn K H A B ws) (hd : Hd p q H) (kp : Keep p q H H') : PrsIn K H' A B ws := fun w hw => by
  obtain ⟨z, x, y, e, h1, h2⟩ := h w hw
  exact ⟨z, x, y, e, seqTK hd kp h1, h2⟩
theorem PrsIn.updL {D : Addr} {ys zs : List V} (hD : H D = some (.lst ys)) (h : PrsIn K H A B ws) : PrsIn K (L2.upd H D (.lst zs)) A B ws := fun w hw => by
  obtain ⟨z, x, y, e, h1, h2⟩ := h w hw
  exact ⟨z, x, y, e, seqT_upd hD h1, h2⟩
theorem PrsIn.add {z : Addr} {x y : V} (h : PrsIn K H A B ws) (hz : SqT K H z [x, y]) (hx : x ∈ A) (hy : y ∈ B) : PrsIn K H A B (ws ++ [.ref z]) := fun w hw => (List.mem_append.mp hw).elim (h w) fun e => ⟨z, x, y, List.mem_singleton.mp e, hz, hx, hy⟩
theorem prs_lv {p q : Addr} (hd : Hd p q H) (a : AllP K (frz p q H) (ShO 2 200) A) (b : AllP K (frz p q H) AV B) (h : PrsIn K H A B ws) : AllP K (frz p q H) LV ws := fun w hw => by
  obtain ⟨z, x, y, rfl, h1, hx, hy⟩ := h w hw
  obtain ⟨dx, o1, s1⟩ := a x hx
  obtain ⟨dy, o2, s2, g⟩ := b y hy
  refine ⟨_, ovT hd h1 (.cons o1 (.cons o2 .nil)), (shO_tup (k := 2) (B := 200) (n := 2) (ds := [dx, dy]) (fun d hd => ?_) (Nat.le_refl 2)).mono (by decide) (by decide), fun k p e ha => ?_⟩
  · simp only [List.mem_cons, List.not_mem_nil, or_false] at hd
    rcases hd with e | e <;> (rw [e]; assumption)
  · injection e with e
    injection e with e1 e
    injection e with e2 _
    rw [← e2]
    exact g (by rw [e2]; exact ha)
end
def spOddLine (K : PySem.W.Frag) : Sp := fun vs H Q _ => ∃ (p q l s : Addr) (m k : Nat) (r : Q2), vs = [.ref p, .int (m : Int), .ref l] ∧ Hd p q H ∧ SqT K H l [.int (k : Int), .ref s] ∧ SqT K H s (pV r) ∧ AmtOk r ∧ k < 12 ∧ m ≤ 12 ∧
  ∀ (H' : Hp) (v : V) (d : PyData), On p q (frz p q H) H' → Ov K (frz p q H') v d → LV d → Q v H'
end CK
namespace K09
open PySem PySem.Spec PyProof.Rows L2 VG FR CK HD M9
abbrev s__law_odd_line : Stmt := topS 71
abbrev N__law_odd_line : List Str := ["heap", "many", "line", "kind", "top", "bottom", "kinds", "amounts", "some", "again", "one"]
theorem sc__law_odd_line : FnScope N__law_odd_line ["heap", "many", "line"] (defScope s__law_odd_line) := ⟨rfl, rfl, rfl, by decide +kernel, rfl, by decide +kernel, by decide +kernel⟩
section
variable {P : Program} {w : World} {K : PySem.W.Frag} {mg : Str → Option Value} {base : Heap}
theorem ok__law_odd_line {f : Addr} {fd : FuncData} (F : Fun K "_law_odd_line" "_law_odd_line" s__law_odd_line f fd) (C__law_pick : Cl P w K mg base 2 "_law_pick" (spPick K)) (z_list : mg "list" = none) (z_range : mg "range" = none) :
    FnOk P w K mg base CX0 3 f fd ["heap", "many", "line"] (spOddLine K) := by
  refine F.ok sc__law_odd_line (fun vs H Q E h => ?_) (fun cdv A outer s H vs Q E hr h => ?_)
  · obtain ⟨_, _, _, _, _, _, _, rfl, _⟩ := h
    rfl
  · obtain ⟨p, q, l, s, m, k, r, rfl, hd, hS, hs, ha, hk, hm, fin⟩ := h
    refine ⟨_, (pss_cons (ps_asg (pv 2) (pg_tup rfl (pgs_cons (pg_name (i := 3) sc__law_odd_line.nd rfl (.inr rfl)) (pgs_cons (pg_tup rfl (pgs_cons (pg_name (i := 4) sc__law_odd_line.nd rfl (.inl rfl)) (pgs_cons (pg_name (i := 5) sc__law_odd_line.nd rfl (.inl rfl)) pgs_nil))) pgs_nil))))
    (pss_cons (ps_set (i := 6) sc__law_odd_line.nd rfl (.inr rfl) (pe_lst (pa_cons (pv 1) (pa_cons (pe_op op_sub pe_int pe_int) (pa_cons pe_bl (pa_cons pe_bl (pa_cons pe_non (pa_cons pe_str (pa_cons (pe_tup (pa_cons (pv 3) pa_nil)) (pa_cons (pe_op op_sub (pv 1) pe_int) (pa_cons (pv 3) (pa_cons (pv 3) pa_nil))))))))))))
    (pss_cons (ps_set (i := 7) sc__law_odd_line.nd rfl (.inr rfl) (pe_lst (pa_cons (pe_tup (pa_cons (pe_op op_mulW pe_int (pv 4)) (pa_cons (pe_op op_mulW pe_int (pv 5)) pa_nil))) (pa_cons (pe_tup (pa_cons (pv 4) (pa_cons (pe_op op_sub pe_int (pv 5)) pa_nil))) (pa_cons (pe_tup (pa_cons (pv 4) (pa_cons pe_int pa_nil))) (pa_cons (pe_tup (pa_cons pe_int (pa_cons pe_int pa_nil))) (pa_cons (pe_tup (pa_cons pe_int (pa_cons pe_int pa_nil))) (pa_cons (pe_tup (pa_cons (pe_op op_sub pe_int pe_int) (pa_cons pe_int pa_nil))) (pa_cons (pe_tup (pa_cons pe_bl (pa_cons pe_int pa_nil))) (pa_cons (pe_tup (pa_cons pe_int (pa_cons pe_bl pa_nil))) (pa_cons (pe_tup (pa_cons pe_int (pa_cons pe_int pa_nil))) pa_nil)))))))))))
    (pss_cons (ps_set (i := 7) sc__law_odd_line.nd rfl (.inr rfl) (pe_op op_cat (pv 7) (pe_lst (pa_cons (pe_lst (pa_cons (pv 4) (pa_cons (pv 5) pa_nil))) (pa_cons (pe_tup (pa_cons (pv 4) pa_nil)) (pa_cons (pe_tup (pa_cons (pv 4) (pa_cons (pv 5) (pa_cons pe_int pa_nil)))) (pa_cons pe_non (pa_cons pe_int (pa_cons pe_str (pa_cons (pe_tup (pa_cons pe_non (pa_cons pe_int pa_nil))) (pa_cons (pe_tup (pa_cons (pv 4) (pa_cons pe_non pa_nil))) (pa_cons (pe_tup (pa_cons (pe_op op_sub pe_int (pv 4)) (pa_cons (pv 5) pa_nil))) (pa_cons (pe_tup (pa_cons (pv 4) (pa_cons (pv 5) pa_nil))) (pa_cons (pe_tup (pa_cons (pe_op op_pow pe_int pe_int) (pa_cons pe_int pa_nil))) pa_nil))))))))))))))
    (pss_cons (ps_set (i := 8) sc__law_odd_line.nd rfl (.inl rfl) (pe_lst (pa_cons pe_non (pa_cons pe_int (pa_cons (pe_tup pa_nil) (pa_cons pe_dnewK (pa_cons (pe_tup (pa_cons (pv 3) pa_nil)) (pa_cons (pe_callTy call_list_of (by rfl) z_list (by decide +kernel) (pa_cons (pv 2) pa_nil)) (pa_cons (pe_op op_catM (pv 2) (pe_tup (pa_cons pe_int pa_nil))) (pa_cons pe_str pa_nil))))))))))
    (pss_cons (ps_set (i := 8) sc__law_odd_line.nd rfl (.inl rfl) (pe_op op_cat (pe_op op_cat (pv 8) (pe_lc (own := [("again", 9)]) (by rfl) sc__law_odd_line.nd (pi_range1 (by rfl) z_range (pa_cons pe_int pa_nil)) (blkOk_by (own := [("again", 9)]) (N := N__law_odd_line) (sc := defScope s__law_odd_line) (by decide +kernel)) (fun _ _ _ _ _ => (pg_name (i := 9) sc__law_odd_line.nd rfl (.inl rfl))) (fun _ _ _ _ _ => pts_nil) (fun _ _ _ _ _ => (pe_tup (pa_cons (pe_cl C__law_pick hr (by decide) rfl (pa_cons (pv 0) (pa_cons (pv 6) pa_nil))) (pa_cons (pe_cl C__law_pick hr (by decide) rfl (pa_cons (pv 0) (pa_cons (pv 7) pa_nil))) pa_nil)))))) (pe_lc (own := [("again", 9)]) (by rfl) sc__law_odd_line.nd (pi_range1 (by rfl) z_range (pa_cons pe_int pa_nil)) (blkOk_by (own := [("again", 9)]) (N := N__law_odd_line) (sc := defScope s__law_odd_line) (by decide +kernel)) (fun _ _ _ _ _ => (pg_name (i := 9) sc__law_odd_line.nd rfl (.inl rfl))) (fun _ _ _ _ _ => pts_nil) (fun _ _ _ _ _ => (pe_tup (pa_cons (pv 3) (pa_cons (pe_cl C__law_pick hr (by decide) rfl (pa_cons (pv 0) (pa_cons (pv 7) pa_nil))) pa_nil)))))))
    (pss_one (ps_ret (pe_cl C__law_pick hr (by decide) rfl (pa_cons (pv 0) (pa_cons (pe_op op_cat (pv 8) (pe_lc (own := [("one", 10)]) (by rfl) sc__law_odd_line.nd (pi_list (pv 6)) (blkOk_by (own := [("one", 10)]) (N := N__law_odd_line) (sc := defScope s__law_odd_line) (by decide +kernel)) (fun _ _ _ _ _ => (pg_name (i := 10) sc__law_odd_line.nd rfl (.inl rfl))) (fun _ _ _ _ _ => pts_nil) (fun _ _ _ _ _ => (pe_tup (pa_cons (pv 10) (pa_cons (pe_ix (show IxR _ (rIxT K) from ix_tup) (pv 2) pe_int (fun _ _ => rfl)) pa_nil)))))) pa_nil))))))))))), ?_⟩
    have big : sizeLine = 16777216 := by decide
    have on0 := On.start hd
    have hr0 := ha.low.1
    have hr1 := ha.bt
    have hr2 := ha.top
    unfold Bt at hr1
    refine ⟨_, rfl, l, _, rfl, hS, rfl, _, _, rfl, _, _, rfl, s, _, rfl, hs, rfl, _, _, rfl, _, _, rfl, rfl, rfl, ?_⟩
    refine ⟨_, rfl, _, _, rfl, rfl, _, rfl, Nat.le_of_ble_eq_true rfl, fun za n5 => ?_⟩
    generalize e5 : L2.upd _ za _ = H5
    have s5 := same_of n5 e5
    have k_za : H5 za = some (.tup [.int (k : Int)]) := at_of e5
    have f_za := on0.free n5
    have on5 := on0.same s5
    clear e5 n5
    have w5 := s5
    refine ⟨_, rfl, _, _, rfl, rfl, _, rfl, _, rfl, Nat.le_of_ble_eq_true rfl, fun Lk n6 => ?_⟩
    generalize e6 : L2.upd _ Lk _ = H6
    have s6 := same_of n6 e6
    have k_Lk : H6 Lk = some (.lst [.int (m : Int), .int (-1), .bl true, .bl false, .non, .str ("0" : String), .ref za, .int ((m : Int) - 1), .int (k : Int), .int (k : Int)]) := at_of e6
    have f_Lk := on5.free n6
    have on6 := on5.same s6
    clear e6 n6
    have w6 := w5.trans s6
    have k_za := s6 _ _ k_za
    have KV0 : AllP K (frz p q H6) (ShO 2 200) [V.int (m : Int), V.int (-1), V.bl true, V.bl false, V.non, V.str ("0" : String), V.ref za, V.int ((m : Int) - 1), V.int (k : Int), V.int (k : Int)] := by
      have hz : Ov K (frz p q H6) (.ref za) (.tuple [.int (k : Int)]) := ovT on6.hd (.inl (.inl k_za)) (.cons (.int _) .nil)
      intro v hv
      simp only [List.mem_cons, List.not_mem_nil, or_false] at hv
      rcases hv with e | e | e | e | e | e | e | e | e | e <;> subst e
      · exact ⟨_, .int _, (atm_int (by omega)).mono (by decide) (by decide)⟩
      · exact ⟨_, .int _, (atm_int (by decide)).mono (by decide) (by decide)⟩
      · exact ⟨_, .bl _, (atm_bool _).mono (by decide) (by decide)⟩
      · exact ⟨_, .bl _, (atm_bool _).mono (by decide) (by decide)⟩
      · exact ⟨_, .non, atm_none.mono (by decide) (by decide)⟩
      · exact ⟨_, .str _, (atm_str (by decide +kernel)).mono (by decide) (by decide)⟩
      · exact ⟨_, hz, sh_tup2 (by intro x hx; simp only [List.mem_cons, List.not_mem_nil, or_false] at hx; subst hx; exact atm_int (by omega)) (Nat.le_of_ble_eq_true rfl)⟩
      · exact ⟨_, .int _, (atm_int (by omega)).mono (by decide) (by decide)⟩
      · exact ⟨_, .int _, (atm_int (by omega)).mono (by decide) (by decide)⟩
      · exact ⟨_, .int _, (atm_int (by omega)).mono (by decide) (by decide)⟩
    refine ⟨_, rfl, _, _, rfl, rfl, mulW (up (n := 40) (by decide) (by decide)) (up (n := 50) (by omega) (by decide)), ?_⟩
    refine ⟨_, rfl, _, _, rfl, rfl, mulW (up (n := 40) (by decide) (by decide)) (up (n := 50) (by omega) (by decide)), Nat.le_of_ble_eq_true rfl, fun a1 n7 => ?_⟩
    generalize e7 : L2.upd _ a1 _ = H7
    have s7 := same_of n7 e7
    have k_a1 : H7 a1 = some (.tup [.int (2 * r.1), .int (2 * r.2)]) := at_of e7
    have f_a1 := on6.free n7
    have on7 := on6.same s7
    clear e7 n7
    have w7 := w6.trans s7
    refine ⟨_, rfl, _, rfl, _, _, rfl, rfl, Nat.le_of_ble_eq_true rfl, fun a2 n8 => ?_⟩
    generalize e8 : L2.upd _ a2 _ = H8
    have s8 := same_of n8 e8
    have k_a2 : H8 a2 = some (.tup [.int r.1, .int (0 - r.2)]) := at_of e8
    have f_a2 := on7.free n8
    have on8 := on7.same s8
    clear e8 n8
    have w8 := w7.trans s8
    refine ⟨_, rfl, Nat.le_of_ble_eq_true rfl, fun a3 n9 => ?_⟩
    generalize e9 : L2.upd _ a3 _ = H9
    have s9 := same_of n9 e9
    have k_a3 : H9 a3 = some (.tup [.int r.1, .int 0]) := at_of e9
    have f_a3 := on8.free n9
    have on9 := on8.same s9
    clear e9 n9
    have w9 := w8.trans s9
    refine ⟨Nat.le_of_ble_eq_true rfl, fun a4 n10 => ?_⟩
    generalize e10 : L2.upd _ a4 _ = H10
    have s10 := same_of n10 e10
    have k_a4 : H10 a4 = some (.tup [.int 1000001, .int 1]) := at_of e10
    have f_a4 := on9.free n10
    have on10 := on9.same s10
    clear e10 n10
    have w10 := w9.trans s10
    refine ⟨Nat.le_of_ble_eq_true rfl, fun a5 n11 => ?_⟩
    generalize e11 : L2.upd _ a5 _ = H11
    have s11 := same_of n11 e11
    have k_a5 : H11 a5 = some (.tup [.int 1, .int 1000001]) := at_of e11
    have f_a5 := on10.free n11
    have on11 := on10.same s11
    clear e11 n11
    have w11 := w10.trans s11
    refine ⟨_, _, rfl, rfl, Nat.le_of_ble_eq_true rfl, fun a6 n12 => ?_⟩
    generalize e12 : L2.upd _ a6 _ = H12
    have s12 := same_of n12 e12
    have k_a6 : H12 a6 = some (.tup [.int (-1000001), .int 1]) := at_of e12
    have f_a6 := on11.free n12
    have on12 := on11.same s12
    clear e12 n12
    have w12 := w11.trans s12
    refine ⟨Nat.le_of_ble_eq_true rfl, fun a7 n13 => ?_⟩
    generalize e13 : L2.upd _ a7 _ = H13
    have s13 := same_of n13 e13
    have k_a7 : H13 a7 = some (.tup [.bl true, .int 1]) := at_of e13
    have f_a7 := on12.free n13
    have on13 := on12.same s13
    clear e13 n13
    have w13 := w12.trans s13
    refine ⟨Nat.le_of_ble_eq_true rfl, fun a8 n14 => ?_⟩
    generalize e14 : L2.upd _ a8 _ = H14
    have s14 := same_of n14 e14
    have k_a8 : H14 a8 = some (.tup [.int 1, .bl true]) := at_of e14
    have f_a8 := on13.free n14
    have on14 := on13.same s14
    clear e14 n14
    have w14 := w13.trans s14
    refine ⟨Nat.le_of_ble_eq_true rfl, fun a9 n15 => ?_⟩
    generalize e15 : L2.upd _ a9 _ = H15
    have s15 := same_of n15 e15
    have k_a9 : H15 a9 = some (.tup [.int 0, .int 2]) := at_of e15
    have f_a9 := on14.free n15
    have on15 := on14.same s15
    clear e15 n15
    have w15 := w14.trans s15
    refine ⟨Nat.le_of_ble_eq_true rfl, fun La1 n16 => ?_⟩
    generalize e16 : L2.upd _ La1 _ = H16
    have s16 := same_of n16 e16
    have k_La1 : H16 La1 = some (.lst [.ref a1, .ref a2, .ref a3, .ref a4, .ref a5, .ref a6, .ref a7, .ref a8, .ref a9]) := at_of e16
    have f_La1 := on15.free n16
    have on16 := on15.same s16
    clear e16 n16
    have w16 := w15.trans s16
    refine ⟨_, rfl, _, rfl, _, rfl, Nat.le_of_ble_eq_true rfl, fun b1 n17 => ?_⟩
    generalize e17 : L2.upd _ b1 _ = H17
    have s17 := same_of n17 e17
    have k_b1 : H17 b1 = some (.lst [.int r.1, .int r.2]) := at_of e17
    have f_b1 := on16.free n17
    have on17 := on16.same s17
    clear e17 n17
    have w17 := w16.trans s17
    refine ⟨_, rfl, Nat.le_of_ble_eq_true rfl, fun b2 n18 => ?_⟩
    generalize e18 : L2.upd _ b2 _ = H18
    have s18 := same_of n18 e18
    have k_b2 : H18 b2 = some (.tup [.int r.1]) := at_of e18
    have f_b2 := on17.free n18
    have on18 := on17.same s18
    clear e18 n18
    have w18 := w17.trans s18
    refine ⟨_, rfl, _, rfl, Nat.le_of_ble_eq_true rfl, fun b3 n19 => ?_⟩
    generalize e19 : L2.upd _ b3 _ = H19
    have s19 := same_of n19 e19
    have k_b3 : H19 b3 = some (.tup [.int r.1, .int r.2, .int 1]) := at_of e19
    have f_b3 := on18.free n19
    have on19 := on18.same s19
    clear e19 n19
    have w19 := w18.trans s19
    refine ⟨Nat.le_of_ble_eq_true rfl, fun b4 n20 => ?_⟩
    generalize e20 : L2.upd _ b4 _ = H20
    have s20 := same_of n20 e20
    have k_b4 : H20 b4 = some (.tup [.non, .int 1]) := at_of e20
    have f_b4 := on19.free n20
    have on20 := on19.same s20
    clear e20 n20
    have w20 := w19.trans s20
    refine ⟨_, rfl, Nat.le_of_ble_eq_true rfl, fun b5 n21 => ?_⟩
    generalize e21 : L2.upd _ b5 _ = H21
    have s21 := same_of n21 e21
    have k_b5 : H21 b5 = some (.tup [.int r.1, .non]) := at_of e21
    have f_b5 := on20.free n21
    have on21 := on20.same s21
    clear e21 n21
    have w21 := w20.trans s21
    refine ⟨_, rfl, _, _, rfl, rfl, _, rfl, Nat.le_of_ble_eq_true rfl, fun b6 n22 => ?_⟩
    generalize e22 : L2.upd _ b6 _ = H22
    have s22 := same_of n22 e22
    have k_b6 : H22 b6 = some (.tup [.int (0 - r.1), .int r.2]) := at_of e22
    have f_b6 := on21.free n22
    have on22 := on21.same s22
    clear e22 n22
    have w22 := w21.trans s22
    refine ⟨_, rfl, _, rfl, Nat.le_of_ble_eq_true rfl, fun b7 n23 => ?_⟩
    generalize e23 : L2.upd _ b7 _ = H23
    have s23 := same_of n23 e23
    have k_b7 : H23 b7 = some (.tup [.int r.1, .int r.2]) := at_of e23
    have f_b7 := on22.free n23
    have on23 := on22.same s23
    clear e23 n23
    have w23 := w22.trans s23
    refine ⟨_, _, rfl, rfl, ⟨by decide, by decide, by decide⟩, Nat.le_of_ble_eq_true rfl, fun b8 n24 => ?_⟩
    generalize e24 : L2.upd _ b8 _ = H24
    have s24 := same_of n24 e24
    have k_b8 : H24 b8 = some (.tup [.int 1000000, .int 1]) := at_of e24
    have f_b8 := on23.free n24
    have on24 := on23.same s24
    clear e24 n24
    have w24 := w23.trans s24
    refine ⟨Nat.le_of_ble_eq_true rfl, fun La2 n25 => ?_⟩
    generalize e25 : L2.upd _ La2 _ = H25
    have s25 := same_of n25 e25
    have k_La2 : H25 La2 = some (.lst [.ref b1, .ref b2, .ref b3, .non, .int 0, .str ("1/2" : String), .ref b4, .ref b5, .ref b6, .ref b7, .ref b8]) := at_of e25
    have f_La2 := on24.free n25
    have on25 := on24.same s25
    clear e25 n25
    have w25 := w24.trans s25
    have t23_25 := s24.trans s25
    have t22_25 := s23.trans t23_25
    have t21_25 := s22.trans t22_25
    have t20_25 := s21.trans t21_25
    have t19_25 := s20.trans t20_25
    have t18_25 := s19.trans t19_25
    have t17_25 := s18.trans t18_25
    have t16_25 := s17.trans t17_25
    have k_La1 := t16_25 _ _ k_La1
    refine ⟨La1, La2, _, _, rfl, rfl, k_La1, k_La2, Nat.le_of_ble_eq_true rfl, fun La n26 => ?_⟩
    generalize e26 : L2.upd _ La _ = H26
    have s26 := same_of n26 e26
    have k_La : H26 La = some (.lst [.ref a1, .ref a2, .ref a3, .ref a4, .ref a5, .ref a6, .ref a7, .ref a8, .ref a9, .ref b1, .ref b2, .ref b3, .non, .int 0, .str ("1/2" : String), .ref b4, .ref b5, .ref b6, .ref b7, .ref b8]) := at_of e26
    have f_La := on25.free n26
    have on26 := on25.same s26
    clear e26 n26
    have w26 := w25.trans s26
    have t24_26 := s25.trans s26
    have t23_26 := s24.trans t24_26
    have t22_26 := s23.trans t23_26
    have t21_26 := s22.trans t22_26
    have t20_26 := s21.trans t21_26
    have t19_26 := s20.trans t20_26
    have t18_26 := s19.trans t19_26
    have t17_26 := s18.trans t18_26
    have t16_26 := s17.trans t17_26
    have t15_26 := s16.trans t16_26
    have t14_26 := s15.trans t15_26
    have t13_26 := s14.trans t14_26
    have t12_26 := s13.trans t13_26
    have t11_26 := s12.trans t12_26
    have t10_26 := s11.trans t11_26
    have t9_26 := s10.trans t10_26
    have t8_26 := s9.trans t9_26
    have t7_26 := s8.trans t8_26
    have k_a1 := t7_26 _ _ k_a1
    have k_a2 := t8_26 _ _ k_a2
    have k_a3 := t9_26 _ _ k_a3
    have k_a4 := t10_26 _ _ k_a4
    have k_a5 := t11_26 _ _ k_a5
    have k_a6 := t12_26 _ _ k_a6
    have k_a7 := t13_26 _ _ k_a7
    have k_a8 := t14_26 _ _ k_a8
    have k_a9 := t15_26 _ _ k_a9
    have k_b1 := t17_26 _ _ k_b1
    have k_b2 := t18_26 _ _ k_b2
    have k_b3 := t19_26 _ _ k_b3
    have k_b4 := t20_26 _ _ k_b4
    have k_b5 := t21_26 _ _ k_b5
    have k_b6 := t22_26 _ _ k_b6
    have k_b7 := t23_26 _ _ k_b7
    have k_b8 := t24_26 _ _ k_b8
    have AV0 : AllP K (frz p q H26) AV [V.ref a1, V.ref a2, V.ref a3, V.ref a4, V.ref a5, V.ref a6, V.ref a7, V.ref a8, V.ref a9, V.ref b1, V.ref b2, V.ref b3, V.non, V.int 0, V.str ("1/2" : String), V.ref b4, V.ref b5, V.ref b6, V.ref b7, V.ref b8] := by
      intro v hv
      simp only [List.mem_cons, List.not_mem_nil, or_false] at hv
      rcases hv with e | e | e | e | e | e | e | e | e | e | e | e | e | e | e | e | e | e | e | e <;> subst e
      · exact ⟨_, ovT on26.hd (.inl (.inl k_a1)) (.cons (.int _) (.cons (.int _) (.nil))), sh_tup2 (by intro x hx; simp only [List.mem_cons, List.not_mem_nil, or_false] at hx; rcases hx with hx | hx <;> subst hx <;> first | exact atm_int (by omega) | exact atm_bool _ | exact atm_none) (Nat.le_of_ble_eq_true rfl), fun h => absurd h (by rw [amt_double hr0]; decide)⟩
      · exact ⟨_, ovT on26.hd (.inl (.inl k_a2)) (.cons (.int _) (.cons (.int _) (.nil))), sh_tup2 (by intro x hx; simp only [List.mem_cons, List.not_mem_nil, or_false] at hx; rcases hx with hx | hx <;> subst hx <;> first | exact atm_int (by omega) | exact atm_bool _ | exact atm_none) (Nat.le_of_ble_eq_true rfl), fun h => absurd h (by rw [amt_neg hr0]; decide)⟩
      · exact ⟨_, ovT on26.hd (.inl (.inl k_a3)) (.cons (.int _) (.cons (.int _) (.nil))), sh_tup2 (by intro x hx; simp only [List.mem_cons, List.not_mem_nil, or_false] at hx; rcases hx with hx | hx <;> subst hx <;> first | exact atm_int (by omega) | exact atm_bool _ | exact atm_none) (Nat.le_of_ble_eq_true rfl), fun h => absurd h (by rw [amt_zero]; decide)⟩
      · exact ⟨_, ovT on26.hd (.inl (.inl k_a4)) (.cons (.int _) (.cons (.int _) (.nil))), sh_tup2 (by intro x hx; simp only [List.mem_cons, List.not_mem_nil, or_false] at hx; rcases hx with hx | hx <;> subst hx <;> first | exact atm_int (by omega) | exact atm_bool _ | exact atm_none) (Nat.le_of_ble_eq_true rfl), fun _ => ⟨DL, by decide⟩⟩
      · exact ⟨_, ovT on26.hd (.inl (.inl k_a5)) (.cons (.int _) (.cons (.int _) (.nil))), sh_tup2 (by intro x hx; simp only [List.mem_cons, List.not_mem_nil, or_false] at hx; rcases hx with hx | hx <;> subst hx <;> first | exact atm_int (by omega) | exact atm_bool _ | exact atm_none) (Nat.le_of_ble_eq_true rfl), fun h => absurd h (by decide +kernel)⟩
      · exact ⟨_, ovT on26.hd (.inl (.inl k_a6)) (.cons (.int _) (.cons (.int _) (.nil))), sh_tup2 (by intro x hx; simp only [List.mem_cons, List.not_mem_nil, or_false] at hx; rcases hx with hx | hx <;> subst hx <;> first | exact atm_int (by omega) | exact atm_bool _ | exact atm_none) (Nat.le_of_ble_eq_true rfl), fun _ => ⟨DL, by decide⟩⟩
      · exact ⟨_, ovT on26.hd (.inl (.inl k_a7)) (.cons (.bl _) (.cons (.int _) (.nil))), sh_tup2 (by intro x hx; simp only [List.mem_cons, List.not_mem_nil, or_false] at hx; rcases hx with hx | hx <;> subst hx <;> first | exact atm_int (by omega) | exact atm_bool _ | exact atm_none) (Nat.le_of_ble_eq_true rfl), fun h => absurd h (by decide +kernel)⟩
      · exact ⟨_, ovT on26.hd (.inl (.inl k_a8)) (.cons (.int _) (.cons (.bl _) (.nil))), sh_tup2 (by intro x hx; simp only [List.mem_cons, List.not_mem_nil, or_false] at hx; rcases hx with hx | hx <;> subst hx <;> first | exact atm_int (by omega) | exact atm_bool _ | exact atm_none) (Nat.le_of_ble_eq_true rfl), fun h => absurd h (by decide +kernel)⟩
      · exact ⟨_, ovT on26.hd (.inl (.inl k_a9)) (.cons (.int _) (.cons (.int _) (.nil))), sh_tup2 (by intro x hx; simp only [List.mem_cons, List.not_mem_nil, or_false] at hx; rcases hx with hx | hx <;> subst hx <;> first | exact atm_int (by omega) | exact atm_bool _ | exact atm_none) (Nat.le_of_ble_eq_true rfl), fun _ => by decide⟩
      · exact ⟨_, ovL ⟨f_b1.1, f_b1.2.1⟩ k_b1 (.cons (.int _) (.cons (.int _) (.nil))), sh_lst2 (by intro x hx; simp only [List.mem_cons, List.not_mem_nil, or_false] at hx; rcases hx with hx | hx <;> subst hx <;> first | exact atm_int (by omega) | exact atm_bool _ | exact atm_none) (Nat.le_of_ble_eq_true rfl), fun h => absurd (show false = true from h) (by decide)⟩
      · exact ⟨_, ovT on26.hd (.inl (.inl k_b2)) (.cons (.int _) (.nil)), sh_tup2 (by intro x hx; simp only [List.mem_cons, List.not_mem_nil, or_false] at hx; subst hx <;> first | exact atm_int (by omega) | exact atm_bool _ | exact atm_none) (Nat.le_of_ble_eq_true rfl), fun h => absurd (show false = true from h) (by decide)⟩
      · exact ⟨_, ovT on26.hd (.inl (.inl k_b3)) (.cons (.int _) (.cons (.int _) (.cons (.int _) (.nil)))), sh_tup2 (by intro x hx; simp only [List.mem_cons, List.not_mem_nil, or_false] at hx; rcases hx with hx | hx | hx <;> subst hx <;> first | exact atm_int (by omega) | exact atm_bool _ | exact atm_none) (Nat.le_of_ble_eq_true rfl), fun h => absurd (show false = true from h) (by decide)⟩
      · exact ⟨_, .non, atm_none.mono (by decide) (by decide), fun h => absurd h (by decide)⟩
      · exact ⟨_, .int _, (atm_int (by decide)).mono (by decide) (by decide), fun h => absurd h (by decide)⟩
      · exact ⟨_, .str _, (atm_str (by decide +kernel)).mono (by decide) (by decide), fun h => absurd h (by decide)⟩
      · exact ⟨_, ovT on26.hd (.inl (.inl k_b4)) (.cons (.non) (.cons (.int _) (.nil))), sh_tup2 (by intro x hx; simp only [List.mem_cons, List.not_mem_nil, or_false] at hx; rcases hx with hx | hx <;> subst hx <;> first | exact atm_int (by omega) | exact atm_bool _ | exact atm_none) (Nat.le_of_ble_eq_true rfl), fun h => absurd h (by decide)⟩
      · exact ⟨_, ovT on26.hd (.inl (.inl k_b5)) (.cons (.int _) (.cons (.non) (.nil))), sh_tup2 (by intro x hx; simp only [List.mem_cons, List.not_mem_nil, or_false] at hx; rcases hx with hx | hx <;> subst hx <;> first | exact atm_int (by omega) | exact atm_bool _ | exact atm_none) (Nat.le_of_ble_eq_true rfl), fun h => absurd h (by rw [amt_non]; decide)⟩
      · exact ⟨_, ovT on26.hd (.inl (.inl k_b6)) (.cons (.int _) (.cons (.int _) (.nil))), sh_tup2 (by intro x hx; simp only [List.mem_cons, List.not_mem_nil, or_false] at hx; rcases hx with hx | hx <;> subst hx <;> first | exact atm_int (by omega) | exact atm_bool _ | exact atm_none) (Nat.le_of_ble_eq_true rfl), fun _ => ha.dvd⟩
      · exact ⟨_, ovT on26.hd (.inl (.inl k_b7)) (.cons (.int _) (.cons (.int _) (.nil))), sh_tup2 (by intro x hx; simp only [List.mem_cons, List.not_mem_nil, or_false] at hx; rcases hx with hx | hx <;> subst hx <;> first | exact atm_int (by omega) | exact atm_bool _ | exact atm_none) (Nat.le_of_ble_eq_true rfl), fun _ => ha.dvd⟩
      · exact ⟨_, ovT on26.hd (.inl (.inl k_b8)) (.cons (.int _) (.cons (.int _) (.nil))), sh_tup2 (by intro x hx; simp only [List.mem_cons, List.not_mem_nil, or_false] at hx; rcases hx with hx | hx <;> subst hx <;> first | exact atm_int (by omega) | exact atm_bool _ | exact atm_none) (Nat.le_of_ble_eq_true rfl), fun _ => ⟨DL, by decide⟩⟩
    have t6_26 := s7.trans t7_26
    have k_Lk := t6_26 _ _ k_Lk
    have KV1 := KV0.mono (frz_up on6.hd t6_26)
    refine ⟨Nat.le_of_ble_eq_true rfl, fun c1 n27 => ?_⟩
    generalize e27 : L2.upd _ c1 _ = H27
    have s27 := same_of n27 e27
    have k_c1 : H27 c1 = some (.tup []) := at_of e27
    have f_c1 := on26.free n27
    have on27 := on26.same s27
    clear e27 n27
    have w27 := w26.trans s27
    refine fun c2 n28 => ?_
    generalize e28 : L2.upd _ c2 _ = H28
    have s28 := same_of n28 e28
    have k_c2 : H28 c2 = some (.dK []) := at_of e28
    have f_c2 := on27.free n28
    have on28 := on27.same s28
    clear e28 n28
    have w28 := w27.trans s28
    refine ⟨_, rfl, Nat.le_of_ble_eq_true rfl, fun c3 n29 => ?_⟩
    generalize e29 : L2.upd _ c3 _ = H29
    have s29 := same_of n29 e29
    have k_c3 : H29 c3 = some (.tup [.int (k : Int)]) := at_of e29
    have f_c3 := on28.free n29
    have on29 := on28.same s29
    clear e29 n29
    have w29 := w28.trans s29
    refine ⟨_, rfl, l, _, rfl, .inr (seqT w29 hS), fun c4 n30 => ?_⟩
    generalize e30 : L2.upd _ c4 _ = H30
    have s30 := same_of n30 e30
    have k_c4 : H30 c4 = some (.lst [.int (k : Int), .ref s]) := at_of e30
    have f_c4 := on29.free n30
    have on30 := on29.same s30
    clear e30 n30
    have w30 := w29.trans s30
    refine ⟨_, rfl, Nat.le_of_ble_eq_true rfl, fun c5 n31 => ?_⟩
    generalize e31 : L2.upd _ c5 _ = H31
    have s31 := same_of n31 e31
    have k_c5 : H31 c5 = some (.tup [.int 0]) := at_of e31
    have f_c5 := on30.free n31
    have on31 := on30.same s31
    clear e31 n31
    have w31 := w30.trans s31
    refine ⟨l, c5, _, _, rfl, rfl, seqT w31 hS, .inl (.inl k_c5), by show 2 + 1 ≤ sizeLine; decide, fun c6 H50 s50 k_c6 => ?_⟩
    have k_c6 : SqT K H50 c6 [.int (k : Int), .ref s, .int 0] := k_c6
    have on50 := on31.same s50
    have w50 := w31.trans s50
    refine ⟨Nat.le_of_ble_eq_true rfl, fun Ls n51 => ?_⟩
    generalize e51 : L2.upd _ Ls _ = H51
    have s51 := same_of n51 e51
    have k_Ls : H51 Ls = some (.lst [.non, .int 0, .ref c1, .ref c2, .ref c3, .ref c4, .ref c6, .str ("01" : String)]) := at_of e51
    have f_Ls := on50.free n51
    have on51 := on50.same s51
    clear e51 n51
    have w51 := w50.trans s51
    have t31_51 := s50.trans s51
    have t30_51 := s31.trans t31_51
    have t29_51 := s30.trans t30_51
    have t28_51 := s29.trans t29_51
    have t27_51 := s28.trans t28_51
    have t26_51 := s27.trans t27_51
    have k_Lk := t26_51 _ _ k_Lk
    have k_La := t26_51 _ _ k_La
    have k_c1 := t27_51 _ _ k_c1
    have k_c2 := t28_51 _ _ k_c2
    have k_c3 := t29_51 _ _ k_c3
    have k_c4 := t30_51 _ _ k_c4
    have k_c6 := seqT s51 k_c6
    have hs_ := seqT w51 hs
    have hS_ := seqT w51 hS
    have KV2 := KV1.mono (frz_up on26.hd t26_51)
    have AV2 := AV0.mono (frz_up on26.hd t26_51)
    have LV2 : AllP K (frz p q H51) LV [V.non, V.int 0, V.ref c1, V.ref c2, V.ref c3, V.ref c4, V.ref c6, V.str ("01" : String)] := by
      have hsv : Ov K (frz p q H51) (.ref s) (.tuple [.int r.1, .int r.2]) := ovT on51.hd hs_ (.cons (.int _) (.cons (.int _) .nil))
      have shs : ShO 2 200 (.tuple [.int r.1, .int r.2]) := sh_tup2 (by intro x hx; simp only [List.mem_cons, List.not_mem_nil, or_false] at hx; rcases hx with hx | hx <;> subst hx <;> exact atm_int (by omega)) (Nat.le_of_ble_eq_true rfl)
      have shk : ShO 2 200 (.int (k : Int)) := (atm_int (by omega)).mono (by decide) (by decide)
      intro v hv
      simp only [List.mem_cons, List.not_mem_nil, or_false] at hv
      rcases hv with e | e | e | e | e | e | e | e <;> subst e
      · exact ⟨_, .non, atm_none.mono (by decide) (by decide), fun _ _ e => by cases e⟩
      · exact ⟨_, .int _, (atm_int (by decide)).mono (by decide) (by decide), fun _ _ e => by cases e⟩
      · exact ⟨_, ovT on51.hd (.inl (.inl k_c1)) .nil, (sh_tup2 (by intro x hx; cases hx) (Nat.le_of_ble_eq_true rfl)).mono (by decide) (by decide), fun _ _ e => by cases e⟩
      · exact ⟨_, ovD ⟨f_c2.1, f_c2.2.1⟩ k_c2, atm_dict.mono (by decide) (by decide), fun _ _ e => by cases e⟩
      · exact ⟨_, ovT on51.hd (.inl (.inl k_c3)) (.cons (.int _) .nil), (sh_tup2 (by intro x hx; simp only [List.mem_cons, List.not_mem_nil, or_false] at hx; subst hx; exact atm_int (by omega)) (Nat.le_of_ble_eq_true rfl)).mono (by decide) (by decide), fun _ _ e => by cases e⟩
      · exact ⟨_, ovL ⟨f_c4.1, f_c4.2.1⟩ k_c4 (.cons (.int _) (.cons hsv .nil)), (shO_lst (k := 2) (B := 200) (n := 2) (by intro x hx; simp only [List.mem_cons, List.not_mem_nil, or_false] at hx; rcases hx with hx | hx <;> subst hx <;> first | exact shk | exact shs) (Nat.le_of_ble_eq_true rfl)).mono (by decide) (by decide), fun _ _ e => by cases e⟩
      · exact ⟨_, ovT on51.hd k_c6 (.cons (.int _) (.cons hsv (.cons (.int _) .nil))), (shO_tup (k := 2) (B := 200) (n := 3) (by intro x hx; simp only [List.mem_cons, List.not_mem_nil, or_false] at hx; rcases hx with hx | hx | hx <;> subst hx <;> first | exact shk | exact shs | exact (atm_int (by decide)).mono (by decide) (by decide)) (Nat.le_of_ble_eq_true rfl)).mono (by decide) (by decide), fun _ _ e => by cases e⟩
      · exact ⟨_, .str _, (atm_str (by decide +kernel)).mono (by decide) (by decide), fun _ _ e => by cases e⟩
    have B := On.start on51.hd
    have gS : Same (frz p q H) (frz p q H51) := on51.base.2
    have gk := frz_at (p := p) (q := q) k_Lk ⟨f_Lk.1, f_Lk.2.1⟩
    have gl := frz_at (p := p) (q := q) k_La ⟨f_La.1, f_La.2.1⟩
    have gs := frz_at (p := p) (q := q) k_Ls ⟨f_Ls.1, f_Ls.2.1⟩
    have gline : SqT K (frz p q H51) l [.int (k : Int), .ref s] := seqTK on51.hd keep_frz hS_
    have hsF : Ov K (frz p q H51) (.ref s) (.tuple [.int r.1, .int r.2]) := ovT on51.hd hs_ (.cons (.int _) (.cons (.int _) .nil))
    have shs : ShO 2 200 (.tuple [.int r.1, .int r.2]) := sh_tup2 (by intro x hx; simp only [List.mem_cons, List.not_mem_nil, or_false] at hx; rcases hx with hx | hx <;> subst hx <;> exact atm_int (by omega)) (Nat.le_of_ble_eq_true rfl)
    have AVs : AllP K (frz p q H51) AV [V.ref s] := fun v hv => by
      rw [List.mem_singleton.mp hv]
      exact ⟨_, hsF, shs, fun _ => ha.dvd⟩
    have KVk : AllP K (frz p q H51) (ShO 2 200) [V.int (k : Int)] := fun v hv => by
      rw [List.mem_singleton.mp hv]
      exact ⟨_, .int _, (atm_int (by omega)).mono (by decide) (by decide)⟩
    generalize frz p q H51 = F at KV2 AV2 LV2 B gS gk gl gs gline AVs KVk
    clear hsF shs
    generalize eks : [V.int (m : Int), V.int (-1), V.bl true, V.bl false, V.non, V.str ("0" : String), V.ref za, V.int ((m : Int) - 1), V.int (k : Int), V.int (k : Int)] = kvs at KV2 gk
    have lks : kvs.length = 10 := by rw [← eks]; rfl
    generalize eas : [V.ref a1, V.ref a2, V.ref a3, V.ref a4, V.ref a5, V.ref a6, V.ref a7, V.ref a8, V.ref a9, V.ref b1, V.ref b2, V.ref b3, V.non, V.int 0, V.str ("1/2" : String), V.ref b4, V.ref b5, V.ref b6, V.ref b7, V.ref b8] = avs at AV2 gl
    have las : avs.length = 20 := by rw [← eas]; rfl
    clear eks eas
    -- four pairs
    refine ⟨_, rfl, _, rfl, by decide, by decide, fun D1 nD1 => ?_⟩
    have fD1 := B.free nD1
    refine lc_it (walk_range (lo := 0) (n := (4 : Int).toNat)) (fun i H' => On p q F H' ∧ ∃ ws, H' D1 = some (.lst ws) ∧ ws.length = i ∧ PrsIn K H' kvs avs ws) ⟨B.new nD1, [], upd_same, rfl, fun w h => absurd h List.not_mem_nil⟩ (fun _ _ _ _ => trivial) ?_ ?_
    · rintro i x J1 J2 hi ⟨on1, ws, kD, lw, aw⟩ ⟨rfl, rfl⟩
      have hi4 : i < (4 : Int).toNat := hi
      refine ⟨rfl, _, rfl, _, rfl, p, q, Lk, kvs, rfl, on1.hd, on1.le _ _ gk, f_Lk.1, f_Lk.2.1, (fun e => by rw [e] at lks; cases lks), by omega, fun J3 v1 hd3 kp3 hv1 => ?_⟩
      have on3 := on1.draw hd3 kp3
      refine ⟨_, rfl, _, rfl, p, q, La, avs, rfl, on3.hd, on3.le _ _ gl, f_La.1, f_La.2.1, (fun e => by rw [e] at las; cases las), by omega, fun J4 v2 hd4 kp4 hv2 => ?_⟩
      have on4 := on3.draw hd4 kp4
      have kD4 := kp4 D1 _ fD1.1 fD1.2.1 (kp3 D1 _ fD1.1 fD1.2.1 kD)
      refine ⟨Nat.le_of_ble_eq_true rfl, fun z nz => ?_⟩
      generalize ez : L2.upd _ z _ = J5
      have sz := same_of nz ez
      have kz := at_of ez
      have aw5 := ((aw.keep on1.hd kp3).keep on3.hd kp4).mono sz
      exact ⟨ws, sz _ _ kD4, by omega, (on4.same sz).put fD1, ws ++ [.ref z], upd_same, by rw [List.length_append, lw]; rfl, PrsIn.updL (sz _ _ kD4) (aw5.add (.inl (.inl kz)) hv1 hv2)⟩
    rintro J1 ⟨onA, ws1, kD1, lw1, aw1⟩
    have lw1 : ws1.length = 4 := lw1
    refine ⟨Ls, D1, _, ws1, rfl, rfl, onA.le _ _ gs, kD1, by show 8 + ws1.length ≤ sizeLine; omega, fun X nX => ?_⟩
    generalize eX : L2.upd _ X _ = J2
    have sX := same_of nX eX
    have kX := at_of eX
    have fX := onA.free nX
    have onB := onA.same sX
    have awB := aw1.mono sX
    clear eX nX sX onA aw1 kD1
    -- eight of the kind
    refine ⟨_, rfl, by decide, by decide, fun D2 nD2 => ?_⟩
    have fD2 := onB.free nD2
    have nXD : X ≠ D2 := ne_of_none kX nD2
    have sD2 := same_upd (o := .lst []) nD2
    refine lc_it (walk_range (lo := 0) (n := (8 : Int).toNat)) (fun i H' => On p q F H' ∧ PrsIn K H' kvs avs ws1 ∧ (∃ xs, H' X = some (.lst xs) ∧ xs = _) ∧ ∃ ws, H' D2 = some (.lst ws) ∧ ws.length = i ∧ PrsIn K H' [V.int (k : Int)] avs ws) ⟨onB.new nD2, awB.mono sD2, ⟨_, sD2 _ _ kX, rfl⟩, [], upd_same, rfl, fun w h => absurd h List.not_mem_nil⟩ (fun _ _ _ _ => trivial) ?_ ?_
    · rintro i x J3 J4 hi ⟨on1, aw0, ⟨xs, hX, ex⟩, ws, kD, lw, aw⟩ ⟨rfl, rfl⟩
      have hi8 : i < (8 : Int).toNat := hi
      refine ⟨rfl, _, rfl, _, rfl, _, rfl, p, q, La, avs, rfl, on1.hd, on1.le _ _ gl, f_La.1, f_La.2.1, (fun e => by rw [e] at las; cases las), by omega, fun J5 v2 hd4 kp4 hv2 => ?_⟩
      have on4 := on1.draw hd4 kp4
      have kD4 := kp4 D2 _ fD2.1 fD2.2.1 kD
      have hX4 := kp4 X _ fX.1 fX.2.1 hX
      refine ⟨Nat.le_of_ble_eq_true rfl, fun z nz => ?_⟩
      generalize ez : L2.upd _ z _ = J6
      have sz := same_of nz ez
      have kz := at_of ez
      have aw5 := (aw.keep on1.hd kp4).mono sz
      have aw6 := (aw0.keep on1.hd kp4).mono sz
      exact ⟨ws, sz _ _ kD4, by omega, (on4.same sz).put fD2, PrsIn.updL (sz _ _ kD4) aw6, ⟨xs, by rw [upd_ne nXD]; exact sz _ _ hX4, ex⟩, ws ++ [.ref z], upd_same, by rw [List.length_append, lw]; rfl, PrsIn.updL (sz _ _ kD4) (aw5.add (.inl (.inl kz)) (List.mem_singleton.mpr rfl) hv2)⟩
    clear kX awB onB nD2 sD2 nXD
    rintro J3 ⟨onC, awC, ⟨xs, kX, ex⟩, ws2, kD2, lw2, aw2⟩
    have lw2 : ws2.length = 8 := lw2
    have lxs : xs.length = 12 := by rw [ex, List.length_append, lw1]; rfl
    refine ⟨X, D2, xs, ws2, rfl, rfl, kX, kD2, by omega, fun Y nY => ?_⟩
    generalize eY : L2.upd _ Y _ = J4
    have sY := same_of nY eY
    have kY := at_of eY
    have fY := onC.free nY
    have onD := onC.same sY
    have awD := awC.mono sY
    have aw2D := aw2.mono sY
    clear eY nY sY onC awC aw2 kX kD2 fX fD2 fD1
    -- the line's amount with all kinds
    refine ⟨_, rfl, _, rfl, _, rfl, Lk, rfl, ⟨_, .inl (.inl (onD.le _ _ gk))⟩, fun D3 nD3 => ?_⟩
    have fD3 := onD.free nD3
    have nYD : Y ≠ D3 := ne_of_none kY nD3
    have sD3 := same_upd (o := .lst []) nD3
    refine lc_it (walk_list (K := K) (a := Lk) (xs := kvs)) (fun i H' => On p q F H' ∧ PrsIn K H' kvs avs ws1 ∧ PrsIn K H' [V.int (k : Int)] avs ws2 ∧ H' Y = some (.lst (xs ++ ws2)) ∧ ∃ ws, H' D3 = some (.lst ws) ∧ ws.length = i ∧ PrsIn K H' kvs [V.ref s] ws) ⟨onD.new nD3, awD.mono sD3, aw2D.mono sD3, sD3 _ _ kY, [], upd_same, rfl, fun w h => absurd h List.not_mem_nil⟩ (fun i H' _ h => .inl (.inl (h.1.le _ _ gk))) ?_ ?_
    · rintro i x J5 J6 hi ⟨on1, aw0, aw3, hY, ws, kD, lw, aw⟩ ⟨rfl, exx⟩
      have hi10 : i < kvs.length := hi
      refine ⟨rfl, _, rfl, _, rfl, l, _, _, _, rfl, rfl, seqT on1.le gline, at1 _ _, ?_⟩
      refine ⟨Nat.le_of_ble_eq_true rfl, fun z nz => ?_⟩
      generalize ez : L2.upd _ z _ = J7
      have sz := same_of nz ez
      have kz := at_of ez
      exact ⟨ws, sz _ _ kD, by omega, (on1.same sz).put fD3, PrsIn.updL (sz _ _ kD) (aw0.mono sz), PrsIn.updL (sz _ _ kD) (aw3.mono sz), by rw [upd_ne nYD]; exact sz _ _ hY, ws ++ [.ref z], upd_same, by rw [List.length_append, lw]; rfl, PrsIn.updL (sz _ _ kD) ((aw.mono sz).add (.inl (.inl kz)) (List.mem_of_getElem? exx) (List.mem_singleton.mpr rfl))⟩
    clear kY awD aw2D onD nD3 sD3 nYD
    rintro J5 ⟨onE, awE, aw2E, kY, ws3, kD3, lw3, aw3⟩
    rw [lks] at lw3
    refine ⟨Y, D3, _, ws3, rfl, rfl, kY, kD3, by rw [List.length_append]; omega, fun Z nZ => ?_⟩
    generalize eZ : L2.upd _ Z _ = J6
    have sZ := same_of nZ eZ
    have kZ := at_of eZ
    have fZ := onE.free nZ
    have onF := onE.same sZ
    have aw1F := awE.mono sZ
    have aw2F := aw2E.mono sZ
    have aw3F := aw3.mono sZ
    refine ⟨p, q, Z, _, rfl, onF.hd, kZ, fZ.1, fZ.2.1, (fun e => by
      have := congrArg List.length e
      rw [List.length_append, List.length_append, lw3] at this
      simp at this), by rw [List.length_append, List.length_append]; omega, fun J7 v hd7 kp7 hv => ?_⟩
    have onG := onF.draw hd7 kp7
    have sF := onG.base.2
    have e1 := prs_lv onG.hd (KV2.mono sF) (AV2.mono sF) (aw1F.keep onF.hd kp7)
    have e2 := prs_lv onG.hd (KVk.mono sF) (AV2.mono sF) (aw2F.keep onF.hd kp7)
    have e3 := prs_lv onG.hd (KV2.mono sF) (AVs.mono sF) (aw3F.keep onF.hd kp7)
    subst ex
    obtain ⟨d, hov, hlv⟩ := ((((LV2.mono sF).app e1).app e2).app e3) v hv
    exact fin J7 v d (onG.drop gS) hov hlv
end
end K09
namespace CK
open PySem PySem.Spec PyProof.Rows L2 VG FR HD M9
def lineP (r : Line) : PyData := .tuple [.int (r.1 : Int), dQ r.2.1, .int r.2.2]
/-- an item of a day, right or odd -/
def IV (m : Nat) (d : PyData) : Prop := ShO 4 3000 d ∧ (lineD m d = true → (rowD d).2.1.2 ∣ DL)
/-- a day, right or odd -/
def DV (m : Nat) (d : PyData) : Prop := ShO 60 16000000 d ∧ ∀ x ∈ itemsD d, lineD m x = true → (rowD x).2.1.2 ∣ DL
theorem OvAll.app {K : PySem.W.Frag} {H : Hp} : ∀ {vs us : List V} {ds es : List PyData}, OvAll K H vs ds → OvAll K H us es → OvAll K H (vs ++ us) (ds ++ es)
  | _, _, _, _, .nil, h => h
  | _, _, _, _, .cons a r, h => .cons a (r.app h)
theorem OvAll.take {K : PySem.W.Frag} {H : Hp} : ∀ {vs : List V} {ds : List PyData} (n : Nat), OvAll K H vs ds → OvAll K H (vs.take n) (ds.take n)
  | _, _, 0, h => by rw [List.take_zero, List.take_zero]; exact .nil
  | _, _, _ + 1, .nil => .nil
  | _, _, n + 1, .cons a r => .cons a (r.take n)
theorem OvAll.drop {K : PySem.W.Frag} {H : Hp} : ∀ {vs : List V} {ds : List PyData} (n : Nat), OvAll K H vs ds → OvAll K H (vs.drop n) (ds.drop n)
  | _, _, 0, h => h
  | _, _, _ + 1, .nil => .nil
  | _, _, n + 1, .cons a r => r.drop n
theorem lines_ov {K : PySem.W.Frag} {p q : Addr} {H : Hp} (hd : Hd p q H) : ∀ {vs : List V} {rs : List Line}, Lines K H vs rs → OvAll K (frz p q H) vs (rs.map lineP)
  | [], [], _ => .nil
  | _ :: _, _ :: _, ⟨⟨t, s, e, h1, h2⟩, r⟩ => by
    subst e
    exact .cons (ovT hd h1 (.cons (.int _) (.cons (ovT hd h2 (.cons (.int _) (.cons (.int _) .nil))) (.cons (.int _) .nil)))) (lines_ov hd r)
  | [], _ :: _, h => h.elim
  | _ :: _, [], h => h.elim
theorem sh_q {p : Q2} (h : AmtOk p) : ShO 2 200 (dQ p) := by
  have b := h.bt
  unfold Bt at b
  exact sh_tup2 (fun x hx => by
    simp only [List.mem_cons, List.not_mem_nil, or_false] at hx
    rcases hx with e | e <;> subst e <;> exact atm_int (by omega)) (Nat.le_of_ble_eq_true rfl)
theorem sh_four {ds : List PyData} (h : ∀ d ∈ ds, ShO 2 300 d) (l : ds.length ≤ 4) : ShO 4 3000 (.tuple ds) := (shO_tup (k := 2) (B := 300) (n := 4) h l).mono (by decide) (by decide)
theorem atm2 {d : PyData} (h : Atm d) : ShO 2 300 d := h.mono (by decide) (by decide)
theorem lines_dp {K : PySem.W.Frag} {H : Hp} : ∀ {vs : List V} {rs : List Line}, Lines K H vs rs → DpAll K H vs (rs.map lineP)
  | [], [], _ => .nil
  | _ :: _, _ :: _, ⟨⟨t, s, e, h1, h2⟩, r⟩ => by
    subst e
    exact .cons (.tup h1 (.cons (.int _) (.cons (dpQ h2) (.cons (.int _) .nil)))) (lines_dp r)
  | [], _ :: _, h => h.elim
  | _ :: _, [], h => h.elim
theorem gd_dy (rs : List Line) : Gd 3 (.tuple (rs.map lineP)) := gd_tup fun d hd => by
  obtain ⟨r, _, rfl⟩ := List.mem_map.mp hd
  refine gd_tup fun e he => ?_
  simp only [List.mem_cons, List.not_mem_nil, or_false] at he
  rcases he with z | z | z
  · rw [z]; exact gd_int 1 _
  · rw [z]
    refine gd_tup fun e he => ?_
    simp only [List.mem_cons, List.not_mem_nil, or_false] at he
    rcases he with z | z <;> (rw [z]; exact gd_int 0 _)
  · rw [z]; exact gd_int 1 _
theorem eqv_cons {ds : List PyData} (h : ds ≠ []) : PyData.eqv (.tuple ds) (.tuple []) = false := by
  cases ds with
  | nil => exact absurd rfl h
  | cons d ds => simp [PyData.eqv, PyData.eqvAll]
theorem lines_iv {m : Nat} {rs : List Line} (ho : ∀ r ∈ rs, LineOk m r) (hm : m ≤ 12) : ∀ x ∈ rs.map lineP, IV m x := fun x hx => by
  obtain ⟨r, hr, rfl⟩ := List.mem_map.mp hx
  have lo := ho r hr
  have h1 := lo.kind
  have h2 := lo.whole
  refine ⟨sh_four (fun y hy => ?_) (Nat.le_of_ble_eq_true rfl), fun _ => lo.amt.dvd⟩
  simp only [List.mem_cons, List.not_mem_nil, or_false] at hy
  rcases hy with e | e | e
  · rw [e]; exact atm2 (atm_int (by omega))
  · rw [e]; exact (sh_q lo.amt).mono (Nat.le_refl 2) (by decide)
  · rw [e]; exact atm2 (atm_int (by omega))
theorem iv_app {m : Nat} {ds es : List PyData} (h : ∀ x ∈ ds, IV m x) (g : ∀ x ∈ es, IV m x) : ∀ x ∈ ds ++ es, IV m x := fun x hx => (List.mem_append.mp hx).elim (h x) (g x)
theorem iv_no {m : Nat} {d : PyData} (s : ShO 4 3000 d) (h : lineD m d = false) : IV m d := ⟨s, fun e => by rw [h] at e; cases e⟩
theorem iv_one {m : Nat} {d : PyData} (s : ShO 4 3000 d) (h : tupD 3 d = false) : ∀ x ∈ [d], IV m x := fun x hx => by
  rw [List.mem_singleton.mp hx]
  exact iv_no s (line_tup h)
theorem dv_tup {m : Nat} {ds : List PyData} (h : ∀ x ∈ ds, IV m x) (l : ds.length ≤ 40) : DV m (.tuple ds) := ⟨(shO_tup (k := 4) (B := 3000) (n := 40) (fun x hx => (h x hx).1) l).mono (by decide) (by decide), fun x hx => (h x hx).2⟩
theorem dv_lst {m : Nat} {ds : List PyData} (h : ∀ x ∈ ds, ShO 4 3000 x) (l : ds.length ≤ 40) : DV m (.list ds) := ⟨(shO_lst (k := 4) (B := 3000) (n := 40) h l).mono (by decide) (by decide), fun x hx => absurd hx List.not_mem_nil⟩
theorem dv_atm {m : Nat} {d : PyData} (h : Atm d) (e : itemsD d = []) : DV m d := ⟨h.mono (by decide) (by decide), fun x hx => by rw [e] at hx; exact absurd hx List.not_mem_nil⟩
theorem four2 {a b : PyData} (h1 : ShO 2 300 a) (h2 : ShO 2 300 b) : ∀ d ∈ [a, b], ShO 2 300 d := fun d hd => by
  simp only [List.mem_cons, List.not_mem_nil, or_false] at hd
  rcases hd with e | e <;> (rw [e]; assumption)
theorem four3 {a b c : PyData} (h1 : ShO 2 300 a) (h2 : ShO 2 300 b) (h3 : ShO 2 300 c) : ∀ d ∈ [a, b, c], ShO 2 300 d := fun d hd => by
  simp only [List.mem_cons, List.not_mem_nil, or_false] at hd
  rcases hd with e | e | e <;> (rw [e]; assumption)
theorem four4 {a b c e : PyData} (h1 : ShO 2 300 a) (h2 : ShO 2 300 b) (h3 : ShO 2 300 c) (h4 : ShO 2 300 e) : ∀ d ∈ [a, b, c, e], ShO 2 300 d := fun d hd => by
  simp only [List.mem_cons, List.not_mem_nil, or_false] at hd
  rcases hd with e | e | e | e <;> (rw [e]; assumption)
theorem sh_text {n : Int} (h : n.natAbs ≤ 1000001) : ShO 2 300 (.str (Str.ofString (toString n))) := by
  have l2 : n.natAbs.log2 < 24 := by
    by_cases h0 : n.natAbs = 0
    · rw [h0]; decide
    · exact (Nat.log2_lt h0).mpr (by omega)
  have hl : (Str.ofString (toString n)).length ≤ 25 := by
    rw [PySem.ofString_length]
    exact int_text_length_le (by decide) l2
  refine ⟨by simp [PyData.showable], by simp [PyData.depth], ?_⟩
  have h2 := StrLaws.reprText_len (Str.ofString (toString n)) (fun c hc => by
    rw [Str.ofString_eq_toList] at hc
    have hc : c ∈ ((toString n).toList.map Char.toNat) := by simpa using hc
    obtain ⟨ch, hch, rfl⟩ := List.mem_map.mp hc
    exact Nat.lt_trans (int_ascii n ch hch) (by decide))
  show (reprText (Str.ofString (toString n))).length ≤ 300
  omega
theorem showAll_app : ∀ a b : List PyData, PyData.showableAll (a ++ b) = (PyData.showableAll a && PyData.showableAll b)
  | [], b => by
    rw [List.nil_append, PyData.showableAll]
    rfl
  | d :: a, b => by rw [List.cons_append, PyData.showableAll, PyData.showableAll, showAll_app a b, Bool.and_assoc]
theorem depthAll_app : ∀ a b : List PyData, PyData.depthAll (a ++ b) = max (PyData.depthAll a) (PyData.depthAll b)
  | [], b => by
    rw [List.nil_append, PyData.depthAll]
    omega
  | d :: a, b => by
    rw [List.cons_append, PyData.depthAll, PyData.depthAll, depthAll_app a b]
    omega
theorem shownAll_app : ∀ a b : List PyData, PyData.shownAll (a ++ b) = PyData.shownAll a ++ PyData.shownAll b
  | [], b => by rw [List.nil_append, PyData.shownAll, List.nil_append]
  | d :: a, b => by rw [List.cons_append, PyData.shownAll, PyData.shownAll, shownAll_app a b, List.cons_append]
theorem piled_tup (ts : List Str) : piled ts ≤ (tupleText ts).length := by
  by_cases h : ts = []
  · subst h
    exact Nat.zero_le _
  · have j := join_length_add ts h
    have e3 : 1 ≤ (((if ts.length == 1 then ",)" else ")" : String) : Str)).length := by split <;> decide +kernel
    have e1 : ((("(" : String) : Str)).length = 1 := rfl
    unfold tupleText
    rw [strLen_append, strLen_append, e1]
    omega
theorem shownAll_len : ∀ ds : List PyData, 2 * ds.length ≤ piled (PyData.shownAll ds)
  | [] => Nat.zero_le _
  | d :: ds => by
    have := shownAll_len ds
    rw [PyData.shownAll, piled_cons, List.length_cons]
    omega
theorem tup_small {ds : List PyData} {k B : Nat} (h : ShO k B (.tuple ds)) : 2 * ds.length ≤ B := Nat.le_trans (shownAll_len ds) (Nat.le_trans (piled_tup _) h.2.2)
theorem sho_snoc {ds : List PyData} {x : PyData} (h : ShO 3 2000 (.tuple ds)) (hx : Atm x) : ShO 4 3000 (.tuple (ds ++ [x])) := by
  obtain ⟨h1, h2, h3⟩ := h
  obtain ⟨x1, x2, x3⟩ := hx
  rw [PyData.showable] at h1
  rw [PyData.depth] at h2
  refine ⟨?_, ?_, ?_⟩
  · rw [PyData.showable, showAll_app, h1, PyData.showableAll, x1, PyData.showableAll]
    rfl
  · rw [PyData.depth, depthAll_app, PyData.depthAll, PyData.depthAll]
    omega
  · show (tupleText (PyData.shownAll (ds ++ [x]))).length ≤ 3000
    have es : PyData.shownAll (ds ++ [x]) = PyData.shownAll ds ++ [x.shown] := by rw [shownAll_app, PyData.shownAll, PyData.shownAll]
    have e := fmt_text (PyData.shownAll ds ++ [x.shown])
    have h3 : (tupleText (PyData.shownAll ds)).length ≤ 2000 := h3
    have p := piled_tup (PyData.shownAll ds)
    rw [piled_append, piled_cons, piled_nil] at e
    rw [es]
    omega
/-- days of which one item is another one of B -/
def RowsIn (K : PySem.W.Frag) (H : Hp) (xs : List V) (a : Nat) (B ws : List V) : Prop := ∀ w ∈ ws, ∃ z y, w = .ref z ∧ SqT K H z (xs.take a ++ [y] ++ xs.drop (a + 1)) ∧ y ∈ B
section
variable {K : PySem.W.Frag} {H H' : Hp} {xs B ws : List V} {a : Nat}
theorem RowsIn.mono (s : Same H H') (h : RowsIn K H xs a B ws) : RowsIn K H' xs a B ws := fun w hw => by
  obtain ⟨z, y, e, h1, h2⟩ := h w hw
  exact ⟨z, y, e, seqT s h1, h2⟩
theorem RowsIn.keep {p q : Addr} (h : RowsIn K H xs a B ws) (hd : Hd p q H) (kp : Keep p q H H') : RowsIn K H' xs a B ws := fun w hw => by
  obtain ⟨z, y, e, h1, h2⟩ := h w hw
  exact ⟨z, y, e, seqTK hd kp h1, h2⟩
theorem RowsIn.updL {D : Addr} {ys zs : List V} (hD : H D = some (.lst ys)) (h : RowsIn K H xs a B ws) : RowsIn K (L2.upd H D (.lst zs)) xs a B ws := fun w hw => by
  obtain ⟨z, y, e, h1, h2⟩ := h w hw
  exact ⟨z, y, e, seqT_upd hD h1, h2⟩
theorem RowsIn.add {z : Addr} {y : V} (h : RowsIn K H xs a B ws) (hz : SqT K H z (xs.take a ++ [y] ++ xs.drop (a + 1))) (hy : y ∈ B) : RowsIn K H xs a B (ws ++ [.ref z]) := fun w hw => (List.mem_append.mp hw).elim (h w) fun e => ⟨z, y, List.mem_singleton.mp e, hz, hy⟩
theorem rows_dv {p q : Addr} {m : Nat} {ds : List PyData} (hd : Hd p q H) (o : OvAll K (frz p q H) xs ds) (iv : ∀ x ∈ ds, IV m x) (l : ds.length ≤ 30) (b : AllP K (frz p q H) (IV m) B) (h : RowsIn K H xs a B ws) : AllP K (frz p q H) (DV m) ws := fun w hw => by
  obtain ⟨z, y, rfl, h1, hy⟩ := h w hw
  obtain ⟨d, o2, s2⟩ := b y hy
  refine ⟨_, ovT hd h1 (((o.take a).app (.cons o2 .nil)).app (o.drop (a + 1))), dv_tup (iv_app (iv_app (fun x hx => iv x (List.mem_of_mem_take hx)) fun x hx => ?_) fun x hx => iv x (List.mem_of_mem_drop hx)) ?_⟩
  · rw [List.mem_singleton.mp hx]
    exact s2
  · rw [List.length_append, List.length_append, List.length_take, List.length_drop]
    show _ + 1 + _ ≤ 40
    omega
end
def spOddDay (K : PySem.W.Frag) : Sp := fun vs H Q _ => ∃ (p q dd : Addr) (m : Nat) (rs : List Line), vs = [.ref p, .int (m : Int), .ref dd] ∧ Hd p q H ∧ DayIn K H dd m rs ∧ rs.length ≤ 30 ∧ m ≤ 12 ∧
  ∀ (H' : Hp) (v : V) (d : PyData), On p q (frz p q H) H' → Ov K (frz p q H') v d → DV m d → Q v H'
end CK
namespace K09
open PySem PySem.Spec PyProof.Rows L2 VG FR CK HD M9
abbrev s__law_odd_day : Stmt := topS 72
abbrev N__law_odd_day : List Str := ["heap", "many", "day", "some", "at", "kind", "amount", "whole", "other", "items", "again"]
theorem sc__law_odd_day : FnScope N__law_odd_day ["heap", "many", "day"] (defScope s__law_odd_day) := ⟨rfl, rfl, rfl, by decide +kernel, rfl, by decide +kernel, by decide +kernel⟩
section
variable {P : Program} {w : World} {K : PySem.W.Frag} {mg : Str → Option Value} {base : Heap}
theorem ok__law_odd_day {f : Addr} {fd : FuncData} (F : Fun K "_law_odd_day" "_law_odd_day" s__law_odd_day f fd) (C__law_draw : Cl P w K mg base 1 "_law_draw" spDraw) (C__law_pick : Cl P w K mg base 2 "_law_pick" (spPick K)) (C__law_odd_line : Cl P w K mg base 3 "_law_odd_line" (spOddLine K))
    (z_list : mg "list" = none) (z_len : mg "len" = none) (z_str : mg "str" = none) (z_isinstance : mg "isinstance" = none) (z_tuple : mg "tuple" = none) (z_range : mg "range" = none) :
    FnOk P w K mg base CX0 4 f fd ["heap", "many", "day"] (spOddDay K) := by
  refine F.ok sc__law_odd_day (fun vs H Q E h => ?_) (fun cdv A outer s H vs Q E hr h => ?_)
  · obtain ⟨_, _, _, _, _, rfl, _⟩ := h
    rfl
  · obtain ⟨p, q, dd, m, rs, rfl, hd, hDay, l30, hm, fin⟩ := h
    refine ⟨_, (pss_cons (ps_set (i := 3) sc__law_odd_day.nd rfl (.inl rfl) (pe_lst (pa_cons (pe_callTy call_list_of (by rfl) z_list (by decide +kernel) (pa_cons (pv 2) pa_nil)) (pa_cons pe_non (pa_cons pe_int (pa_cons pe_dnewK (pa_cons pe_str (pa_cons (pe_op (show OpR _ (binaryOp .Add) (rCatM K) from op_catM) (pv 2) (pe_tup (pa_cons pe_non pa_nil))) (pa_cons (pe_op (show OpR _ (binaryOp .Add) (rCatM K) from op_catM) (pv 2) (pe_tup (pa_cons (pe_tup pa_nil) pa_nil))) (pa_cons (pe_op (show OpR _ (binaryOp .Add) (rCatM K) from op_catM) (pe_tup (pa_cons pe_int pa_nil)) (pv 2)) pa_nil))))))))))
    (pss_cut (ps_if (pt_cmpR (op_neD hr.units) (pv 2) (pe_tup pa_nil) (nomark _))
      (pss_cons (ps_set (i := 4) sc__law_odd_day.nd rfl (.inr rfl) (pe_cl C__law_draw hr (by decide) rfl (pa_cons (pv 0) (pa_cons (pe_callB call_len_seq (by rfl) z_len (by decide +kernel) (pa_cons (pv 2) pa_nil)) pa_nil))))
      (pss_cons (ps_asg (pe_ix ix_tup (pv 2) (pv 4) (fun _ _ => rfl)) (pg_tup rfl (pgs_cons (pg_name (i := 5) sc__law_odd_day.nd rfl (.inl rfl)) (pgs_cons (pg_name (i := 6) sc__law_odd_day.nd rfl (.inl rfl)) (pgs_cons (pg_name (i := 7) sc__law_odd_day.nd rfl (.inl rfl)) pgs_nil)))))
      (pss_cons (ps_set (i := 8) sc__law_odd_day.nd rfl (.inl rfl) (pe_cl C__law_odd_line hr (by decide) rfl (pa_cons (pv 0) (pa_cons (pv 1) (pa_cons (pe_tup (pa_cons (pv 5) (pa_cons (pv 6) pa_nil))) pa_nil)))))
      (pss_cons (ps_set (i := 9) sc__law_odd_day.nd rfl (.inr rfl) (pe_lst (pa_cons (pe_tup (pa_cons (pv 5) (pa_cons (pv 6) pa_nil))) (pa_cons (pe_tup (pa_cons (pv 5) (pa_cons (pv 6) (pa_cons (pv 7) (pa_cons pe_int pa_nil))))) (pa_cons (pe_lst (pa_cons (pv 5) (pa_cons (pv 6) (pa_cons (pv 7) pa_nil)))) (pa_cons pe_non (pa_cons (pe_tup (pa_cons (pv 5) (pa_cons (pv 6) (pa_cons (pe_op op_add (pv 7) pe_int) pa_nil)))) (pa_cons (pe_tup (pa_cons (pv 5) (pa_cons (pv 6) (pa_cons (pe_op op_sub (pv 7) pe_int) pa_nil)))) pa_nil))))))))
      (pss_cons (ps_set (i := 9) sc__law_odd_day.nd rfl (.inr rfl) (pe_op op_cat (pv 9) (pe_lst (pa_cons (pe_tup (pa_cons (pv 5) (pa_cons (pv 6) (pa_cons (pe_op op_add (pv 7) pe_int) pa_nil)))) (pa_cons (pe_tup (pa_cons (pv 5) (pa_cons (pv 6) (pa_cons (pe_op op_sub (pv 7) pe_int) pa_nil)))) (pa_cons (pe_tup (pa_cons (pv 5) (pa_cons (pv 6) (pa_cons (pe_cmpR op_eq (pv 7) pe_int (nomark _)) pa_nil)))) (pa_cons (pe_tup (pa_cons (pv 5) (pa_cons (pv 6) (pa_cons pe_non pa_nil)))) (pa_cons (pe_tup (pa_cons (pv 5) (pa_cons (pv 6) (pa_cons (pe_callTy call_str_int (by rfl) z_str (by decide +kernel) (pa_cons (pv 7) pa_nil)) pa_nil)))) pa_nil))))))))
      (pss_cons (ps_expr (pe_bm PySem.F.plainAttrs_list PySem.F.slot_list_append PySem.F.type_list_append mt_append (pv 9) (pa_cons (pe_meet (pe_ifExp (pt_val (pe_callB call_isi (by rfl) z_isinstance (by decide +kernel) (pa_cons (pv 8) (pa_cons (pe_bltn (v := .ty "tuple") (by rfl) z_tuple (by decide +kernel) rfl) pa_nil)))) (pe_op (show OpR _ (binaryOp .Add) (rCatM K) from op_catM) (pv 8) (pe_tup (pa_cons (pv 7) pa_nil))) (pv 8))) pa_nil)))
      (pss_one (ps_set (i := 3) sc__law_odd_day.nd rfl (.inl rfl) (pe_op op_cat (pv 3) (pe_lc (own := [("again", 10)]) (by rfl) sc__law_odd_day.nd (pi_range1 (by rfl) z_range (pa_cons pe_int pa_nil)) (blkOk_by (own := [("again", 10)]) (N := N__law_odd_day) (sc := defScope s__law_odd_day) (by decide +kernel)) (fun _ _ _ _ _ => (pg_name (i := 10) sc__law_odd_day.nd rfl (.inl rfl))) (fun _ _ _ _ _ => pts_nil) (fun _ _ _ _ _ => (pe_op (show OpR _ (binaryOp .Add) (rCatM K) from op_catM) (pe_op (show OpR _ (binaryOp .Add) (rCatM K) from op_catM) (pe_slice (show SlR _ (rSlM K) from sl_tupM) (pv 2) po_none (po_some (pv 4))) (pe_tup (pa_cons (pe_cl C__law_pick hr (by decide) rfl (pa_cons (pv 0) (pa_cons (pv 9) pa_nil))) pa_nil))) (pe_slice (show SlR _ (rSlM K) from sl_tupM) (pv 2) (po_some (pe_op op_add (pv 4) pe_int)) po_none)))))))))))))
      pss_nil)
    (pss_one (ps_ret (pe_cl C__law_pick hr (by decide) rfl (pa_cons (pv 0) (pa_cons (pv 3) pa_nil))))))), ?_⟩
    have big : sizeLine = 16777216 := by decide
    have on0 := On.start hd
    obtain ⟨ys, hD, hL, ho, hl⟩ := id hDay
    have lys : ys.length = rs.length := hL.len
    refine ⟨_, rfl, dd, _, rfl, .inr hD, fun c1 n5 => ?_⟩
    generalize e5 : L2.upd _ c1 _ = H5
    have s5 := same_of n5 e5
    have k_c1 : H5 c1 = some (.lst ys) := at_of e5
    have f_c1 := on0.free n5
    have on5 := on0.same s5
    clear e5 n5
    have w5 := s5
    refine fun c2 n6 => ?_
    generalize e6 : L2.upd _ c2 _ = H6
    have s6 := same_of n6 e6
    have k_c2 : H6 c2 = some (.dK []) := at_of e6
    have f_c2 := on5.free n6
    have on6 := on5.same s6
    clear e6 n6
    have w6 := w5.trans s6
    refine ⟨_, rfl, Nat.le_of_ble_eq_true rfl, fun c3 n7 => ?_⟩
    generalize e7 : L2.upd _ c3 _ = H7
    have s7 := same_of n7 e7
    have k_c3 : H7 c3 = some (.tup [.non]) := at_of e7
    have f_c3 := on6.free n7
    have on7 := on6.same s7
    clear e7 n7
    have w7 := w6.trans s7
    refine ⟨dd, c3, _, _, rfl, rfl, seqT w7 hD, .inl (.inl k_c3), by rw [lys]; show _ + _ ≤ 16777216; simp only [List.length_cons, List.length_nil]; omega, fun c4 H8 s8 k_c4 => ?_⟩
    have k_c4 : SqT K H8 c4 (ys ++ [.non]) := k_c4
    have on8 := on7.same s8
    have w8 := w7.trans s8
    refine ⟨_, rfl, Nat.le_of_ble_eq_true rfl, fun c5 n9 => ?_⟩
    generalize e9 : L2.upd _ c5 _ = H9
    have s9 := same_of n9 e9
    have k_c5 : H9 c5 = some (.tup []) := at_of e9
    have f_c5 := on8.free n9
    have on9 := on8.same s9
    clear e9 n9
    have w9 := w8.trans s9
    refine ⟨Nat.le_of_ble_eq_true rfl, fun c6 n10 => ?_⟩
    generalize e10 : L2.upd _ c6 _ = H10
    have s10 := same_of n10 e10
    have k_c6 : H10 c6 = some (.tup [.ref c5]) := at_of e10
    have f_c6 := on9.free n10
    have on10 := on9.same s10
    clear e10 n10
    have w10 := w9.trans s10
    refine ⟨dd, c6, _, _, rfl, rfl, seqT w10 hD, .inl (.inl k_c6), by rw [lys]; show _ + _ ≤ 16777216; simp only [List.length_cons, List.length_nil]; omega, fun c7 H11 s11 k_c7 => ?_⟩
    have k_c7 : SqT K H11 c7 (ys ++ [.ref c5]) := k_c7
    have on11 := on10.same s11
    have w11 := w10.trans s11
    refine ⟨Nat.le_of_ble_eq_true rfl, fun c8 n12 => ?_⟩
    generalize e12 : L2.upd _ c8 _ = H12
    have s12 := same_of n12 e12
    have k_c8 : H12 c8 = some (.tup [.int 0]) := at_of e12
    have f_c8 := on11.free n12
    have on12 := on11.same s12
    clear e12 n12
    have w12 := w11.trans s12
    refine ⟨_, rfl, c8, dd, _, _, rfl, rfl, .inl (.inl k_c8), seqT w12 hD, by rw [lys]; show _ + _ ≤ 16777216; simp only [List.length_cons, List.length_nil]; omega, fun c9 H13 s13 k_c9 => ?_⟩
    have k_c9 : SqT K H13 c9 (.int 0 :: ys) := k_c9
    have on13 := on12.same s13
    have w13 := w12.trans s13
    refine ⟨Nat.le_of_ble_eq_true rfl, fun S0 n14 => ?_⟩
    generalize e14 : L2.upd _ S0 _ = H14
    have s14 := same_of n14 e14
    have k_S0 : H14 S0 = some (.lst [.ref c1, .non, .int 0, .ref c2, .str ("" : String), .ref c4, .ref c7, .ref c9]) := at_of e14
    have f_S0 := on13.free n14
    have on14 := on13.same s14
    clear e14 n14
    have w14 := w13.trans s14
    have t12_14 := s13.trans s14
    have t11_14 := s12.trans t12_14
    have t10_14 := s11.trans t11_14
    have t9_14 := s10.trans t10_14
    have t8_14 := s9.trans t9_14
    have t7_14 := s8.trans t8_14
    have t6_14 := s7.trans t7_14
    have t5_14 := s6.trans t6_14
    have k_c1 := t5_14 _ _ k_c1
    have k_c2 := t6_14 _ _ k_c2
    have k_c5 := t9_14 _ _ k_c5
    have k_c4 := seqT (t8_14) k_c4
    have k_c7 := seqT (t11_14) k_c7
    have k_c9 := seqT (s14) k_c9
    have hLc := hL.mono w14
    have hOc := lines_ov on14.hd hLc
    have DV0 : AllP K (frz p q H14) (DV m) [V.ref c1, V.non, V.int 0, V.ref c2, V.str ("" : String), V.ref c4, V.ref c7, V.ref c9] := by
      have iv := lines_iv (m := m) ho hm
      intro v hv
      simp only [List.mem_cons, List.not_mem_nil, or_false] at hv
      rcases hv with e | e | e | e | e | e | e | e <;> subst e
      · exact ⟨_, ovL ⟨f_c1.1, f_c1.2.1⟩ k_c1 hOc, dv_lst (fun x hx => (iv x hx).1) (by rw [List.length_map]; omega)⟩
      · exact ⟨_, .non, dv_atm atm_none rfl⟩
      · exact ⟨_, .int _, dv_atm (atm_int (by decide)) rfl⟩
      · exact ⟨_, ovD ⟨f_c2.1, f_c2.2.1⟩ k_c2, dv_atm atm_dict rfl⟩
      · exact ⟨_, .str _, dv_atm (atm_str (by decide +kernel)) rfl⟩
      · exact ⟨_, ovT on14.hd k_c4 (hOc.app (.cons .non .nil)), dv_tup (iv_app iv (iv_one (atm_none.mono (by decide) (by decide)) rfl)) (by rw [List.length_append, List.length_map]; show _ + 1 ≤ 40; omega)⟩
      · exact ⟨_, ovT on14.hd k_c7 (hOc.app (.cons (ovT on14.hd (.inl (.inl k_c5)) .nil) .nil)), dv_tup (iv_app iv (iv_one ((sh_tup2 (fun x hx => absurd hx List.not_mem_nil) (Nat.le_of_ble_eq_true rfl)).mono (by decide) (by decide)) rfl)) (by rw [List.length_append, List.length_map]; show _ + 1 ≤ 40; omega)⟩
      · exact ⟨_, ovT on14.hd k_c9 (.cons (.int 0) hOc), dv_tup (iv_app (ds := [.int 0]) (iv_one ((atm_int (by decide)).mono (by decide) (by decide)) rfl) iv) (by show (PyData.int 0 :: rs.map lineP).length ≤ 40; rw [List.length_cons, List.length_map]; omega)⟩
    have fS0 : S0 ≠ p ∧ S0 ≠ q := ⟨f_S0.1, f_S0.2.1⟩
    refine ⟨fun σ H' => ∃ (S : Addr) (vs : List V) (y4 y5 y6 y7 y8 y9 : Option V), σ = [some (.ref p), some (.int m), some (.ref dd), some (.ref S), y4, y5, y6, y7, y8, y9, none] ∧ On p q (frz p q H) H' ∧ H' S = some (.lst vs) ∧ S ≠ p ∧ S ≠ q ∧ vs ≠ [] ∧ vs.length < 1000 ∧ AllP K (frz p q H') (DV m) vs, ?_, ?_⟩
    · refine ⟨_, rfl, Nat.le_of_ble_eq_true rfl, fun e0 ne0 => ?_⟩
      generalize ee : L2.upd _ e0 _ = M0
      have sM := same_of ne0 ee
      have kM := at_of ee
      have onM := on14.same sM
      have hLm := hLc.mono sM
      have hDm := seqT (w14.trans sM) hD
      have DV1 := DV0.mono (frz_up on14.hd sM)
      have kS := sM _ _ k_S0
      clear ee DV0 hOc hLc k_c1 k_c2 k_c4 k_c5 k_c7 k_c9
      refine ⟨_, _, .tup hDm (lines_dp hLm), .tup (.inl (.inl kM)) .nil, (gd_dy rs).shaped (by decide), shaped_nil2, _, rfl, ?_⟩
      by_cases re : rs = []
      · subst re
        exact ite_eq false rfl (iteF ⟨S0, _, _, _, _, _, _, _, rfl, onM, kS, fS0.1, fS0.2, by simp, by simp, DV1⟩)
      · refine ite_eq true (congrArg Bool.not (eqv_cons (by simpa using re))) (iteT ?_)
        have lpos : 0 < rs.length := List.length_pos_iff.mpr re
        refine ⟨_, rfl, _, rfl, dd, _, rfl, .inr hDm, p, q, _, rfl, onM.hd, by omega, by omega, fun M1 a' hd1 kp1 r0 r1 => ?_⟩
        obtain ⟨a, rfl⟩ := Int.eq_ofNat_of_zero_le r0
        have hal : a < rs.length := by omega
        have onM1 := onM.draw hd1 kp1
        have hD1 := seqTK onM.hd kp1 hDm
        have hL1 := hLm.keep onM.hd kp1
        obtain ⟨x, ex⟩ : ∃ x, ys[a]? = some x := ⟨_, List.getElem?_eq_getElem (by omega)⟩
        obtain ⟨r, er, t1, q1, rfl, h1, h2⟩ := hL1.get ex
        have lo := ho r (List.mem_of_getElem? er)
        refine ⟨_, rfl, _, rfl, dd, ys, _, _, rfl, rfl, hD1, atI_nat ex, t1, _, rfl, h1, rfl, _, _, rfl, _, _, rfl, _, _, rfl, rfl, ?_⟩
        refine ⟨_, rfl, _, rfl, _, rfl, _, rfl, Nat.le_of_ble_eq_true rfl, fun l0 nl0 => ?_⟩
        generalize el : L2.upd _ l0 _ = M2
        have sl := same_of nl0 el
        have kl := at_of el
        have onM2 := onM1.same sl
        clear el
        refine ⟨p, q, l0, q1, m, r.1, r.2.1, rfl, onM2.hd, .inl (.inl kl), seqT sl h2, lo.amt, by have := lo.kind; omega, hm, fun M3 v d on3 hov hlv => ?_⟩
        have onM3 : On p q (frz p q H) M3 := on3.drop onM2.base.2
        have kS3 := on3.le _ _ (frz_at (sl _ _ (kp1 S0 _ fS0.1 fS0.2 kS)) fS0)
        have DV3 := ((DV1.mono ((On.start onM.hd).draw hd1 kp1).base.2).mono (frz_up onM1.hd sl)).mono on3.base.2
        have hD3 : SqT K M3 dd ys := seqTK onM2.hd on3.keep (seqT sl hD1)
        have hL3 := (hL1.mono sl).keep onM2.hd on3.keep
        have hq : SqT K M3 q1 (pV r.2.1) := seqTK onM2.hd on3.keep (seqT sl h2)
        clear on3 onM2 sl kl nl0 h1 h2 ex hL1 hD1 onM1 hd1 kp1 kS DV1 hDm hLm onM kM sM ne0 M2 M1 M0
        have ha := lo.amt
        have hk1 := lo.kind
        have hwh := lo.whole
        have shk : ShO 2 300 (.int (r.1 : Int)) := atm2 (atm_int (by omega))
        have shq : ShO 2 300 (dQ r.2.1) := (sh_q ha).mono (Nat.le_refl 2) (by decide)
        have shw : ShO 2 300 (.int r.2.2) := atm2 (atm_int (by omega))
        have lg : r.2.2.natAbs.log2 < 1920 := by
          by_cases h0 : r.2.2.natAbs = 0
          · rw [h0]; decide
          · exact Nat.lt_of_lt_of_le ((Nat.log2_lt h0).mpr (show r.2.2.natAbs < 2 ^ 24 by omega)) (by decide)
        refine ⟨_, rfl, _, rfl, Nat.le_of_ble_eq_true rfl, fun i1 n100 => ?_⟩
        generalize e100 : L2.upd _ i1 _ = H100
        have s100 := same_of n100 e100
        have k_i1 : H100 i1 = some (.tup [.int (r.1 : Int), .ref q1]) := at_of e100
        have f_i1 := onM3.free n100
        have on100 := onM3.same s100
        clear e100 n100
        have w100 := s100
        refine ⟨_, rfl, _, rfl, _, rfl, Nat.le_of_ble_eq_true rfl, fun i2 n101 => ?_⟩
        generalize e101 : L2.upd _ i2 _ = H101
        have s101 := same_of n101 e101
        have k_i2 : H101 i2 = some (.tup [.int (r.1 : Int), .ref q1, .int r.2.2, .int 0]) := at_of e101
        have f_i2 := on100.free n101
        have on101 := on100.same s101
        clear e101 n101
        have w101 := w100.trans s101
        refine ⟨_, rfl, _, rfl, _, rfl, Nat.le_of_ble_eq_true rfl, fun i3 n102 => ?_⟩
        generalize e102 : L2.upd _ i3 _ = H102
        have s102 := same_of n102 e102
        have k_i3 : H102 i3 = some (.lst [.int (r.1 : Int), .ref q1, .int r.2.2]) := at_of e102
        have f_i3 := on101.free n102
        have on102 := on101.same s102
        clear e102 n102
        have w102 := w101.trans s102
        refine ⟨_, rfl, _, rfl, _, rfl, _, _, rfl, rfl, Nat.le_of_ble_eq_true rfl, fun i5 n103 => ?_⟩
        generalize e103 : L2.upd _ i5 _ = H103
        have s103 := same_of n103 e103
        have k_i5 : H103 i5 = some (.tup [.int (r.1 : Int), .ref q1, .int (r.2.2 + 2)]) := at_of e103
        have f_i5 := on102.free n103
        have on103 := on102.same s103
        clear e103 n103
        have w103 := w102.trans s103
        refine ⟨_, rfl, _, rfl, _, rfl, _, _, rfl, rfl, Nat.le_of_ble_eq_true rfl, fun i6 n104 => ?_⟩
        generalize e104 : L2.upd _ i6 _ = H104
        have s104 := same_of n104 e104
        have k_i6 : H104 i6 = some (.tup [.int (r.1 : Int), .ref q1, .int (r.2.2 - 2)]) := at_of e104
        have f_i6 := on103.free n104
        have on104 := on103.same s104
        clear e104 n104
        have w104 := w103.trans s104
        refine ⟨Nat.le_of_ble_eq_true rfl, fun It1 n105 => ?_⟩
        generalize e105 : L2.upd _ It1 _ = H105
        have s105 := same_of n105 e105
        have k_It1 : H105 It1 = some (.lst [.ref i1, .ref i2, .ref i3, .non, .ref i5, .ref i6]) := at_of e105
        have f_It1 := on104.free n105
        have on105 := on104.same s105
        clear e105 n105
        have w105 := w104.trans s105
        refine ⟨_, rfl, ?_⟩
        refine ⟨_, rfl, _, rfl, _, rfl, _, _, rfl, rfl, Nat.le_of_ble_eq_true rfl, fun j1 n106 => ?_⟩
        generalize e106 : L2.upd _ j1 _ = H106
        have s106 := same_of n106 e106
        have k_j1 : H106 j1 = some (.tup [.int (r.1 : Int), .ref q1, .int (r.2.2 + 1)]) := at_of e106
        have f_j1 := on105.free n106
        have on106 := on105.same s106
        clear e106 n106
        have w106 := w105.trans s106
        refine ⟨_, rfl, _, rfl, _, rfl, _, _, rfl, rfl, Nat.le_of_ble_eq_true rfl, fun j2 n107 => ?_⟩
        generalize e107 : L2.upd _ j2 _ = H107
        have s107 := same_of n107 e107
        have k_j2 : H107 j2 = some (.tup [.int (r.1 : Int), .ref q1, .int (r.2.2 - 1)]) := at_of e107
        have f_j2 := on106.free n107
        have on107 := on106.same s107
        clear e107 n107
        have w107 := w106.trans s107
        refine ⟨_, rfl, _, rfl, _, rfl, rfl, Nat.le_of_ble_eq_true rfl, fun j3 n108 => ?_⟩
        generalize e108 : L2.upd _ j3 _ = H108
        have s108 := same_of n108 e108
        have k_j3 : H108 j3 = some (.tup [.int (r.1 : Int), .ref q1, .bl (decide (V.int r.2.2 = V.int 1))]) := at_of e108
        have f_j3 := on107.free n108
        have on108 := on107.same s108
        clear e108 n108
        have w108 := w107.trans s108
        refine ⟨_, rfl, _, rfl, Nat.le_of_ble_eq_true rfl, fun j4 n109 => ?_⟩
        generalize e109 : L2.upd _ j4 _ = H109
        have s109 := same_of n109 e109
        have k_j4 : H109 j4 = some (.tup [.int (r.1 : Int), .ref q1, .non]) := at_of e109
        have f_j4 := on108.free n109
        have on109 := on108.same s109
        clear e109 n109
        have w109 := w108.trans s109
        refine ⟨_, rfl, _, rfl, _, rfl, _, rfl, lg, Nat.le_of_ble_eq_true rfl, fun j5 n110 => ?_⟩
        generalize e110 : L2.upd _ j5 _ = H110
        have s110 := same_of n110 e110
        have k_j5 : H110 j5 = some (.tup [.int (r.1 : Int), .ref q1, .str (Str.ofString (toString r.2.2))]) := at_of e110
        have f_j5 := on109.free n110
        have on110 := on109.same s110
        clear e110 n110
        have w110 := w109.trans s110
        refine ⟨Nat.le_of_ble_eq_true rfl, fun It2 n111 => ?_⟩
        generalize e111 : L2.upd _ It2 _ = H111
        have s111 := same_of n111 e111
        have k_It2 : H111 It2 = some (.lst [.ref j1, .ref j2, .ref j3, .ref j4, .ref j5]) := at_of e111
        have f_It2 := on110.free n111
        have on111 := on110.same s111
        clear e111 n111
        have w111 := w110.trans s111
        have t109_111 := s110.trans s111
        have t108_111 := s109.trans t109_111
        have t107_111 := s108.trans t108_111
        have t106_111 := s107.trans t107_111
        have t105_111 := s106.trans t106_111
        have k_It1 := t105_111 _ _ k_It1
        have t104_111 := s105.trans t105_111
        have t103_111 := s104.trans t104_111
        have t102_111 := s103.trans t103_111
        have t101_111 := s102.trans t102_111
        have t100_111 := s101.trans t101_111
        have k_i1 := t100_111 _ _ k_i1
        have k_i2 := t101_111 _ _ k_i2
        have k_i3 := t102_111 _ _ k_i3
        have k_i5 := t103_111 _ _ k_i5
        have k_i6 := t104_111 _ _ k_i6
        have k_j1 := t106_111 _ _ k_j1
        have k_j2 := t107_111 _ _ k_j2
        have k_j3 := t108_111 _ _ k_j3
        have k_j4 := t109_111 _ _ k_j4
        have k_j5 := s111 _ _ k_j5
        have hsv : Ov K (frz p q H111) (.ref q1) (dQ r.2.1) := ovT on111.hd (seqT w111 hq) (.cons (.int _) (.cons (.int _) .nil))
        have IV0 : AllP K (frz p q H111) (IV m) [V.ref i1, V.ref i2, V.ref i3, V.non, V.ref i5, V.ref i6, V.ref j1, V.ref j2, V.ref j3, V.ref j4, V.ref j5] := by
          intro v hv
          simp only [List.mem_cons, List.not_mem_nil, or_false] at hv
          rcases hv with e | e | e | e | e | e | e | e | e | e | e <;> subst e
          · exact ⟨_, ovT on111.hd (.inl (.inl k_i1)) (.cons (.int _) (.cons hsv .nil)), iv_no (sh_four (ds := [.int (r.1 : Int), dQ r.2.1]) (four2 shk shq) (Nat.le_of_ble_eq_true rfl)) (line_tup rfl)⟩
          · exact ⟨_, ovT on111.hd (.inl (.inl k_i2)) (.cons (.int _) (.cons hsv (.cons (.int _) (.cons (.int _) .nil)))), iv_no (sh_four (ds := [.int (r.1 : Int), dQ r.2.1, .int r.2.2, .int 0]) (four4 shk shq shw (atm2 (atm_int (by decide)))) (Nat.le_of_ble_eq_true rfl)) (line_tup rfl)⟩
          · exact ⟨_, ovL ⟨f_i3.1, f_i3.2.1⟩ k_i3 (.cons (.int _) (.cons hsv (.cons (.int _) .nil))), iv_no ((shO_lst (k := 2) (B := 300) (n := 4) (ds := [.int (r.1 : Int), dQ r.2.1, .int r.2.2]) (four3 shk shq shw) (Nat.le_of_ble_eq_true rfl)).mono (by decide) (by decide)) (line_tup rfl)⟩
          · exact ⟨_, .non, iv_no (atm_none.mono (by decide) (by decide)) (line_tup rfl)⟩
          · exact ⟨_, ovT on111.hd (.inl (.inl k_i5)) (.cons (.int _) (.cons hsv (.cons (.int _) .nil))), sh_four (ds := [.int (r.1 : Int), dQ r.2.1, _]) (four3 shk shq (atm2 (atm_int (by omega)))) (Nat.le_of_ble_eq_true rfl), fun _ => ha.dvd⟩
          · exact ⟨_, ovT on111.hd (.inl (.inl k_i6)) (.cons (.int _) (.cons hsv (.cons (.int _) .nil))), sh_four (ds := [.int (r.1 : Int), dQ r.2.1, _]) (four3 shk shq (atm2 (atm_int (by omega)))) (Nat.le_of_ble_eq_true rfl), fun _ => ha.dvd⟩
          · exact ⟨_, ovT on111.hd (.inl (.inl k_j1)) (.cons (.int _) (.cons hsv (.cons (.int _) .nil))), sh_four (ds := [.int (r.1 : Int), dQ r.2.1, _]) (four3 shk shq (atm2 (atm_int (by omega)))) (Nat.le_of_ble_eq_true rfl), fun _ => ha.dvd⟩
          · exact ⟨_, ovT on111.hd (.inl (.inl k_j2)) (.cons (.int _) (.cons hsv (.cons (.int _) .nil))), sh_four (ds := [.int (r.1 : Int), dQ r.2.1, _]) (four3 shk shq (atm2 (atm_int (by omega)))) (Nat.le_of_ble_eq_true rfl), fun _ => ha.dvd⟩
          · exact ⟨_, ovT on111.hd (.inl (.inl k_j3)) (.cons (.int _) (.cons hsv (.cons (.bl _) .nil))), sh_four (ds := [.int (r.1 : Int), dQ r.2.1, _]) (four3 shk shq (atm2 (atm_bool _))) (Nat.le_of_ble_eq_true rfl), fun _ => ha.dvd⟩
          · exact ⟨_, ovT on111.hd (.inl (.inl k_j4)) (.cons (.int _) (.cons hsv (.cons (.non) .nil))), sh_four (ds := [.int (r.1 : Int), dQ r.2.1, _]) (four3 shk shq (atm2 atm_none)) (Nat.le_of_ble_eq_true rfl), fun _ => ha.dvd⟩
          · exact ⟨_, ovT on111.hd (.inl (.inl k_j5)) (.cons (.int _) (.cons hsv (.cons (.str _) .nil))), sh_four (ds := [.int (r.1 : Int), dQ r.2.1, _]) (four3 shk shq (sh_text hwh)) (Nat.le_of_ble_eq_true rfl), fun _ => ha.dvd⟩
        have IV1 := IV0
        generalize eits : [V.ref i1, V.ref i2, V.ref i3, V.non, V.ref i5, V.ref i6, V.ref j1, V.ref j2, V.ref j3, V.ref j4, V.ref j5] = its at IV1
        have lits : its.length = 11 := by rw [← eits]; rfl
        refine ⟨It1, It2, _, _, rfl, rfl, k_It1, k_It2, Nat.le_of_ble_eq_true rfl, fun It nIt => ?_⟩
        have B2 := On.start on111.hd
        have fIt := B2.free nIt
        generalize eN : L2.upd _ It _ = N1
        have sIt := same_of nIt eN
        have kIt : N1 It = some (.lst [V.ref i1, V.ref i2, V.ref i3, V.non, V.ref i5, V.ref i6, V.ref j1, V.ref j2, V.ref j3, V.ref j4, V.ref j5]) := at_of eN
        rw [eits] at kIt
        have onN1 := B2.same sIt
        have hovF := hov.mono (frz_up onM3.hd w111)
        have hOF := lines_ov on111.hd (hL3.mono w111)
        have hDF : SqT K (frz p q H111) dd ys := seqTK on111.hd keep_frz (seqT w111 hD3)
        have gS0 := frz_at (p := p) (q := q) (w111 _ _ kS3) fS0
        have DVF := DV3.mono (frz_up onM3.hd w111)
        have gH : Same (frz p q H) (frz p q H111) := on111.base.2
        clear eN eits IV0
        refine ⟨_, rfl, .inl ⟨rfl, _, .inl (.inl kIt)⟩, ?_⟩
        refine ⟨fun w H' => On p q (frz p q H111) H' ∧ H' It = some (.lst its) ∧ ((w = v ∧ isTupD d = false) ∨ ∃ z zs ds, w = .ref z ∧ SqT K H' z (zs ++ [.int r.2.2]) ∧ d = .tuple ds ∧ OvAll K (frz p q H111) zs ds), ?_, ?_⟩
        · cases hT : isTupD d with
          | false =>
            obtain ⟨ty, tt, kk⟩ := (hovF.mono onN1.le).noTup hT
            exact ⟨_, rfl, _, _, _, _, false, rfl, .ty "tuple", tt, kit_ty kk, false, rfl, iteF ⟨_, rfl, onN1, kIt, .inl ⟨rfl, rfl⟩⟩⟩
          | true =>
            cases d with
            | tuple ds =>
              obtain ⟨z0, zs, rfl, hz0, hzA⟩ := hovF.isT
              have lz := hzA.len
              have l2 := tup_small hlv.1
              refine ⟨_, rfl, _, _, _, _, true, rfl, .ty "tuple", tyT (seqT onN1.le hz0), kit_ty (by decide +kernel), true, rfl, iteT ?_⟩
              refine ⟨_, rfl, _, rfl, Nat.le_of_ble_eq_true rfl, fun c nc => ?_⟩
              generalize ec : L2.upd _ c _ = N2
              have sc := same_of nc ec
              have kc := at_of ec
              have onN2 := onN1.same sc
              refine ⟨z0, c, _, _, rfl, rfl, seqT onN2.le hz0, .inl (.inl kc), by show zs.length + 1 ≤ sizeLine; omega, fun w' N3 s3 hw => ?_⟩
              exact ⟨onN2.same s3, s3 _ _ (sc _ _ kIt), .inr ⟨w', zs, ds, rfl, hw, rfl, hzA⟩⟩
            | _ => cases hT
        rintro w N2 ⟨onN2, kIt2, hw⟩
        refine ⟨It, _, _, rfl, rfl, kIt2, by omega, ?_⟩
        have onN3 : On p q (frz p q H111) (L2.upd N2 It (.lst (its ++ [w]))) := onN2.put fIt
        have kIt3 := upd_same (H := N2) (a := It) (o := .lst (its ++ [w]))
        have ivw : ∃ dw, Ov K (frz p q (L2.upd N2 It (.lst (its ++ [w])))) w dw ∧ IV m dw := by
          rcases hw with ⟨rfl, hT⟩ | ⟨z, zs, ds, rfl, hz, rfl, hzA⟩
          · exact ⟨d, hovF.mono onN3.base.2, iv_no (hlv.1.mono (by decide) (by decide)) (line_tup (by cases d <;> first | rfl | cases hT))⟩
          · refine ⟨_, ovT onN3.hd (seqT_upd kIt2 hz) (OvAll.app (OvAll.mono onN3.base.2 hzA) (.cons (.int _) .nil)), sho_snoc hlv.1 (atm_int (by omega)), fun hl => ?_⟩
            obtain ⟨k, pp, n2, i2, e, _, hap, _, _⟩ := line_shape hl
            injection e with e
            have e2 : ds = [k, pp] := by
              have l3 := congrArg List.length e
              rw [List.length_append] at l3
              have l4 : ds.length = 2 := by
                have : [PyData.int r.2.2].length = 1 := rfl
                have : [k, pp, n2].length = 3 := rfl
                omega
              match ds, l4 with
              | [x, y], _ =>
                injection e with e1 e
                injection e with e2 _
                rw [e1, e2]
            subst e2
            exact hlv.2 k pp rfl hap
        have AV3 : AllP K (frz p q (L2.upd N2 It (.lst (its ++ [w])))) (IV m) (its ++ [w]) := (IV1.mono onN3.base.2).app (fun v hv => by
          rw [List.mem_singleton.mp hv]
          exact ivw)
        generalize eN3 : L2.upd N2 It (.lst (its ++ [w])) = N3 at onN3 kIt3 ivw AV3 ⊢
        have lits2 : (its ++ [w]).length = 12 := by rw [List.length_append, lits]; rfl
        generalize its ++ [w] = it2 at kIt3 AV3 lits2
        have B3 := On.start onN3.hd
        have g3 := onN3.base.2
        have gIt := frz_at (p := p) (q := q) kIt3 ⟨fIt.1, fIt.2.1⟩
        have gS3 := g3 _ _ gS0
        have gD3 := seqT g3 hDF
        have gO3 := OvAll.mono g3 hOF
        have DV5 := DVF.mono g3
        have gH3 := gH.trans g3
        clear g3 onN3 kIt3 ivw eN3
        generalize frz p q N3 = F3 at B3 gIt gS3 gD3 gO3 DV5 gH3 AV3
        refine ⟨_, rfl, _, rfl, by decide, by decide, fun D1 nD1 => ?_⟩
        have fD1 := B3.free nD1
        refine lc_it (walk_range (lo := 0) (n := (9 : Int).toNat)) (fun i H' => On p q F3 H' ∧ ∃ ws, H' D1 = some (.lst ws) ∧ ws.length = i ∧ RowsIn K H' ys a it2 ws) ⟨B3.new nD1, [], upd_same, rfl, fun w h => absurd h List.not_mem_nil⟩ (fun _ _ _ _ => trivial) ?_ ?_
        · rintro i x J1 J2 hi ⟨on1, ws, kD, lw, aw⟩ ⟨rfl, rfl⟩
          have hi9 : i < (9 : Int).toNat := hi
          refine ⟨rfl, _, rfl, _, rfl, _, rfl, dd, ys, rfl, seqT on1.le gD3, fun u J3 s3 hu => ?_⟩
          rw [cut0 a] at hu
          have on3 := on1.same s3
          refine ⟨_, rfl, _, rfl, p, q, It, it2, rfl, on3.hd, on3.le _ _ gIt, fIt.1, fIt.2.1, (fun e => by rw [e] at lits2; cases lits2), by omega, fun J4 y hd4 kp4 hy => ?_⟩
          have on4 := on3.draw hd4 kp4
          have hu4 := seqTK on3.hd kp4 hu
          refine ⟨Nat.le_of_ble_eq_true rfl, fun c nc => ?_⟩
          generalize ec : L2.upd _ c _ = J5
          have sc := same_of nc ec
          have kc := at_of ec
          have on5 := on4.same sc
          refine ⟨u, c, _, _, rfl, rfl, seqT sc hu4, .inl (.inl kc), by rw [List.length_take]; show _ + 1 ≤ 16777216; omega, fun u2 J6 s6 hu2 => ?_⟩
          have on6 := on5.same s6
          refine ⟨_, rfl, _, rfl, _, _, rfl, rfl, _, rfl, dd, ys, rfl, seqT on6.le gD3, fun u3 J7 s7 hu3 => ?_⟩
          rw [cutN a] at hu3
          refine ⟨u2, u3, _, _, rfl, rfl, seqT s7 hu2, hu3, by rw [List.length_append, List.length_take, List.length_drop]; show _ + 1 + _ ≤ 16777216; omega, fun z J8 s8 hz => ?_⟩
          have t8 := sc.trans (s6.trans (s7.trans s8))
          have kD8 := t8 _ _ (kp4 D1 _ fD1.1 fD1.2.1 (s3 _ _ kD))
          have aw8 := ((aw.mono s3).keep on3.hd kp4).mono t8
          exact ⟨ws, kD8, by omega, ((on4.same t8).put fD1), ws ++ [.ref z], upd_same, by rw [List.length_append, lw]; rfl, RowsIn.updL kD8 (aw8.add hz hy)⟩
        rintro J1 ⟨onA, ws, kD, lw, aw⟩
        have lw : ws.length = 9 := lw
        refine ⟨S0, D1, _, ws, rfl, rfl, onA.le _ _ gS3, kD, by show 8 + ws.length ≤ sizeLine; omega, fun X nX => ?_⟩
        generalize eX : L2.upd _ X _ = J2
        have sX := same_of nX eX
        have kX := at_of eX
        have fX := onA.free nX
        have onB := onA.same sX
        have g2 := onB.base.2
        have rw_ := rows_dv onB.hd (OvAll.mono g2 gO3) (lines_iv (m := m) ho hm) (by rw [List.length_map]; omega) (AV3.mono g2) (aw.mono sX)
        exact ⟨X, _, _, _, _, _, _, _, rfl, onB.drop gH3, kX, fX.1, fX.2.1, (by simp), (by rw [List.length_append, lw]; show 8 + 9 < 1000; decide), (DV5.mono g2).app rw_⟩
    · rintro σ H' ⟨S, vs, y4, y5, y6, y7, y8, y9, rfl, on, kS, n1, n2, ne, lt, av⟩
      refine ⟨_, rfl, _, rfl, p, q, S, vs, rfl, on.hd, kS, n1, n2, ne, by omega, fun H2 v hd2 kp2 hv => ?_⟩
      have on2 := on.draw hd2 kp2
      obtain ⟨d, ho, hd⟩ := (av.mono ((On.start on.hd).draw hd2 kp2).base.2) v hv
      exact fin H2 v d on2 ho hd
end
end K09
namespace CK
open PySem PySem.Spec PyProof.Rows L2 VG FR HD M9
def kLg : List Str := ["k"]
def tLg : List (List Int) := [[0]]
theorem okLg : TabOk kLg tLg := ⟨kinds_dec (by decide) (by decide +kernel) (by decide +kernel), by decide, fun c hc => lot_dec (List.all_eq_true.mp (by decide +kernel : tLg.all (lotB (kLg.length : Int)) = true) c hc)⟩
def rLg : List Line := [(0, (1, 1), 1), (0, (0, 1), 0), (0, (-7, 1), -7)]
theorem rLg_ok : ∀ r ∈ rLg, LineOk 1 r ∧ lineU r.2.1 r.2.2 = 0 ∧ r.1 = 0 ∧ lineD 1 (lineP r) = true := by
  intro r hr
  simp only [rLg, List.mem_cons, List.not_mem_nil, or_false] at hr
  rcases hr with rfl | rfl | rfl <;> exact ⟨⟨by decide, ⟨⟨by decide, by decide +kernel⟩, ⟨DL, by decide⟩, by decide⟩, by decide, by decide +kernel⟩, by decide +kernel, rfl, by decide +kernel⟩
theorem bad_rep {m : Nat} {d : PyData} (h : lineD m d = true) : ∀ n k : Nat, firstBad m (List.replicate n d) k = none
  | 0, _ => rfl
  | n + 1, k => by
    rw [List.replicate_succ, firstBad, h]
    exact bad_rep h n (k + 1)
theorem err_rep {r : Line} (h0 : lineU r.2.1 r.2.2 = 0) (h1 : r.1 = 0) : ∀ n : Nat, errU 1 (List.replicate n r) = [0]
  | 0 => rfl
  | n + 1 => by
    have ih := err_rep h0 h1 n
    rw [List.replicate_succ']
    unfold errU at ih ⊢
    rw [List.foldl_append, ih]
    show behU [0] r = [0]
    unfold behU addAt
    rw [h0, h1]
    rfl
theorem first_none : ∀ {l : List (List Int)} {n : Nat}, (∀ e ∈ l, smallU e = true) → firstU l n = none
  | [], _, _ => rfl
  | e :: l, n, h => by
    rw [firstU, h e List.mem_cons_self]
    exact first_none fun x hx => h x (List.mem_cons_of_mem _ hx)
theorem rowLP {r : Line} : rowD (lineP r) = r := by
  obtain ⟨k, ⟨a, b⟩, n⟩ := r
  show (((some ((k : Int))).getD 0).toNat, (a, b), n) = (k, (a, b), n)
  rw [Option.getD_some, Int.toNat_natCast]
theorem rows_rep (r : Line) (n : Nat) : (List.replicate n (lineP r)).map rowD = List.replicate n r := by
  rw [List.map_replicate, rowLP]
theorem day_rep {r : Line} (hr : r ∈ rLg) (n : Nat) : isDayD 1 tLg (.tuple (List.replicate n (lineP r))) true = decide (n ≤ 400) ∧ dayFault 1 (.tuple (List.replicate n (lineP r))) = (if n ≤ 400 then none else some (-1)) := by
  obtain ⟨lo, h0, h1, hl⟩ := rLg_ok r hr
  have hf : dayFault 1 (.tuple (List.replicate n (lineP r))) = (if n ≤ 400 then none else some (-1)) := by
    by_cases h : n ≤ 400
    · rw [day_at (by rw [List.length_replicate]; exact h), bad_rep hl, if_pos h]
      rfl
    · rw [day_long (by rw [List.length_replicate]; omega), if_neg h]
  refine ⟨?_, hf⟩
  unfold isDayD
  rw [hf]
  by_cases h : n ≤ 400
  · rw [if_pos h, decide_eq_true h]
    have e : firstU ((courseU 1 tLg ((itemsD (.tuple (List.replicate n (lineP r)))).map rowD)).drop 1) 0 = none := by
      apply first_none
      intro e he
      have he := List.mem_of_mem_drop he
      unfold courseU at he
      obtain ⟨i, _, rfl⟩ := List.mem_map.mp he
      show smallU (totsU tLg (errU 1 (((List.replicate n (lineP r)).map rowD).take i))) = true
      rw [rows_rep, List.take_replicate, err_rep h0 h1]
      decide +kernel
    rw [e]
    rfl
  · rw [if_neg h, decide_eq_false h]
    rfl
theorem ov_line {K : PySem.W.Frag} {H : Hp} {v : V} {r : Line} (h : LineAt K H v r) : Ov K H v (lineP r) := by
  obtain ⟨t, s, e, h1, h2⟩ := h
  subst e
  exact .tup h1 (.cons (.int _) (.cons (.tup h2 (.cons (.int _) (.cons (.int _) .nil))) (.cons (.int _) .nil)))
theorem ov_rep {K : PySem.W.Frag} {H : Hp} {v : V} {d : PyData} (h : Ov K H v d) : ∀ n : Nat, OvAll K H (List.replicate n v) (List.replicate n d)
  | 0 => .nil
  | n + 1 => .cons h (ov_rep h n)
theorem lineAt_gb {K : PySem.W.Frag} {p q : Addr} {H : Hp} {v : V} {r : Line} (hd : Hd p q H) (h : LineAt K H v r) : LineAt K (GB p q H) v r := by
  obtain ⟨t, s, e, h1, h2⟩ := h
  exact ⟨t, s, e, seqT_gb hd h1, seqT_gb hd h2⟩
def spLong (K : PySem.W.Frag) (T : List (Addr × Str)) : Sp := fun vs H Q _ => ∃ (p q : Addr), vs = [.ref p] ∧ Hd p q H ∧ LamX.Tabs T H ∧ ∀ H', OnT T p q (GB p q H) H' → Q (.bl true) H'
end CK
namespace K09
open PySem PySem.Spec PyProof.Rows L2 VG FR CK HD M9
abbrev s__law_long_right : Stmt := topS 78
abbrev N__law_long_right : List Str := ["heap", "line", "table"]
theorem sc__law_long_right : FnScope N__law_long_right ["heap"] (defScope s__law_long_right) := ⟨rfl, rfl, rfl, by decide +kernel, rfl, by decide +kernel, by decide +kernel⟩
section
variable {P : Program} {w : World} {K : PySem.W.Frag} {mg : Str → Option Value} {base : Heap}
theorem ok__law_long_right {f c0 Pt C IL ID : Addr} {fd : FuncData} {T : List (Addr × Str)} (F : FunC K "_law_long_right" "_law_long_right" s__law_long_right f fd c0) (T_Table : MkT P w K mg base 7 "Table" C (spInitT K C))
    (hrd : Hrd K mg IL ID) (TB : LamX.TabB base mg c0 Pt) (inT : (Pt, lamQ (("_law_long_right" : Str) ++ ".<locals>.")) ∈ T) (oneT : ∀ p ∈ T, p.1 = Pt → p.2 = lamQ (("_law_long_right" : Str) ++ ".<locals>."))
    (C__law_pick : Cl P w K mg base 2 "_law_pick" (spPick K)) (X_check_day : ClX P w K mg base 5 "check_day" (spChk K C ID dayFault)) (Cd_is_day : C8.Cal P w K mg base 7 "is_day" (spIsDay K C) [.bl true]) :
    FnG P w K mg base 15 f fd ["heap"] (spLong K T) := by
  refine fnGC_of F sc__law_long_right (fun vs H Q E h => ?_) (fun A outer s H vs Q E hg hr h => ?_)
  · obtain ⟨_, _, rfl, _⟩ := h
    rfl
  · obtain ⟨p, q, rfl, hd, tabs, fin⟩ := h
    refine ⟨_, (pss_cons (ps_asg (pe_tup (pa_cons (pe_mt T_Table hr (by decide) rfl (pa_cons (pe_tup (pa_cons pe_str pa_nil)) (pa_cons (pe_tup (pa_cons (pe_tup (pa_cons pe_int pa_nil)) pa_nil)) pa_nil))) (pa_cons (pe_cl C__law_pick hr (by decide) rfl (pa_cons (pv 0) (pa_cons (pe_lst (pa_cons (pe_tup (pa_cons pe_int (pa_cons (pe_tup (pa_cons pe_int (pa_cons pe_int pa_nil))) (pa_cons pe_int pa_nil)))) (pa_cons (pe_tup (pa_cons pe_int (pa_cons (pe_tup (pa_cons pe_int (pa_cons pe_int pa_nil))) (pa_cons pe_int pa_nil)))) (pa_cons (pe_tup (pa_cons pe_int (pa_cons (pe_tup (pa_cons (pe_op op_sub pe_int pe_int) (pa_cons pe_int pa_nil))) (pa_cons (pe_op op_sub pe_int pe_int) pa_nil)))) pa_nil)))) pa_nil))) pa_nil))) (pg_tup rfl (pgs_cons (pg_name (i := 2) sc__law_long_right.nd rfl (.inr rfl)) (pgs_cons (pg_name (i := 1) sc__law_long_right.nd rfl (.inr rfl)) pgs_nil))))
    (pss_cons (ps_if (PW.pt (pw_or (pt_cmpR op_notBl (C8.pe_c Cd_is_day hr (by decide) rfl (pa_cons (pv 2) (pa_cons (pe_op (show OpR _ (binaryOp .Mult) (rRepA K) from op_repA) (pe_tup (pa_cons (pv 1) pa_nil)) pe_int) pa_nil))) pe_bl (nomark _)) (pw_or1 (pt_cmpR op_notBl (C8.pe_c Cd_is_day hr (by decide) rfl (pa_cons (pv 2) (pa_cons (pe_op (show OpR _ (binaryOp .Mult) (rRepA K) from op_repA) (pe_tup (pa_cons (pv 1) pa_nil)) pe_int) pa_nil))) pe_bl (nomark _)))))
      (pss_one (ps_ret pe_bl))
      pss_nil)
    (pss_cons (ps_if (pt_cmpR op_notN (pe_meet (pe_heard (k := 9) (T := T) hrd rfl TB rfl inT oneT (hr.mono (by decide)) (show LamX.LamS (defScope s__law_long_right) _ from LamX.lamS_by (by decide +kernel)) rfl (fun _ _ _ _ _ => rfl) (fun A2 outer2 s2 H2 E2 f2 c2 hr2 => pe_clx X_check_day hr2 (by decide) (takes_of (E := E2) rfl rfl rfl rfl) rfl (pa_cons (pv 2) (pa_cons (pe_op (show OpR _ (binaryOp .Mult) (rRepA K) from op_repA) (pe_tup (pa_cons (pv 1) pa_nil)) pe_int) pa_nil))))) pe_non (nomark _))
      (pss_one (ps_ret pe_bl))
      pss_nil)
    (pss_one (ps_ret (pe_cmpR (op_eqD hr.units) (pe_meet (pe_heard (k := 9) (T := T) hrd rfl TB rfl inT oneT (hr.mono (by decide)) (show LamX.LamS (defScope s__law_long_right) _ from LamX.lamS_by (by decide +kernel)) rfl (fun _ _ _ _ _ => rfl) (fun A2 outer2 s2 H2 E2 f2 c2 hr2 => pe_clx X_check_day hr2 (by decide) (takes_of (E := E2) rfl rfl rfl rfl) rfl (pa_cons (pv 2) (pa_cons (pe_op (show OpR _ (binaryOp .Mult) (rRepA K) from op_repA) (pe_tup (pa_cons (pv 1) pa_nil)) pe_int) pa_nil))))) (pe_tup (pa_cons pe_str (pa_cons (pe_op op_sub pe_int pe_int) pa_nil))) (nomark _))))))), ?_⟩
    have on0 := OnT.start (T := T) hd tabs
    have nG := on0.2.2
    generalize GB p q H = G at on0 nG fin
    refine ⟨Nat.le_of_ble_eq_true rfl, fun u nu => ?_⟩
    generalize e1 : L2.upd _ u _ = H1
    have s1 := same_of nu e1
    have ku : H1 u = some (.tup (kLg.map V.str)) := at_of e1
    refine ⟨Nat.le_of_ble_eq_true rfl, fun z nz => ?_⟩
    generalize e2 : L2.upd _ z _ = H2
    have s2 := same_of nz e2
    have kz : H2 z = some (.tup (([0] : List Int).map V.int)) := at_of e2
    refine ⟨Nat.le_of_ble_eq_true rfl, fun y ny => ?_⟩
    generalize e3 : L2.upd _ y _ = H3
    have s3 := same_of ny e3
    have ky := at_of e3
    refine fun x dx nx nd ne => tab_made (sqt ((s2.trans s3) _ _ ku)) okLg.kinds (sqt ky) (ts := tLg) ⟨⟨z, rfl, sqt (s3 _ _ kz)⟩, trivial⟩ okLg.len okLg.lots nx nd ne fun H4 s4 tab na => ?_
    have on4 := ((((on0.same s1).same s2).same s3).same s4)
    clear e1 e2 e3 s1 s2 s3 s4 ku kz ky nu nz ny nx nd ne na
    -- the lines
    refine ⟨_, rfl, Nat.le_of_ble_eq_true rfl, fun a1 n1 => ?_⟩
    generalize e1 : L2.upd _ a1 _ = J1
    have t1 := same_of n1 e1
    have k1 := at_of e1
    refine ⟨Nat.le_of_ble_eq_true rfl, fun b1 m1 => ?_⟩
    generalize e2 : L2.upd _ b1 _ = J2
    have t2 := same_of m1 e2
    have k2 := at_of e2
    refine ⟨Nat.le_of_ble_eq_true rfl, fun a2 n2 => ?_⟩
    generalize e3 : L2.upd _ a2 _ = J3
    have t3 := same_of n2 e3
    have k3 := at_of e3
    refine ⟨Nat.le_of_ble_eq_true rfl, fun b2 m2 => ?_⟩
    generalize e4 : L2.upd _ b2 _ = J4
    have t4 := same_of m2 e4
    have k4 := at_of e4
    refine ⟨_, _, rfl, rfl, Nat.le_of_ble_eq_true rfl, fun a3 n3 => ?_⟩
    generalize e5 : L2.upd _ a3 _ = J5
    have t5 := same_of n3 e5
    have k5 : J5 a3 = some (.tup [.int (-7), .int 1]) := at_of e5
    refine ⟨_, _, rfl, rfl, Nat.le_of_ble_eq_true rfl, fun b3 m3 => ?_⟩
    generalize e6 : L2.upd _ b3 _ = J6
    have t6 := same_of m3 e6
    have k6 : J6 b3 = some (.tup [.int ((0 : Nat) : Int), .ref a3, .int (-7)]) := at_of e6
    refine ⟨Nat.le_of_ble_eq_true rfl, fun L nL => ?_⟩
    generalize e7 : L2.upd _ L _ = J7
    have t7 := same_of nL e7
    have kL := at_of e7
    have on6 := (((((on4.same t1).same t2).same t3).same t4).same t5).same t6
    have fL := on6.free nL
    have on7 := on6.same t7
    have u6 := t7
    have u5 := t6.trans u6
    have u4 := t5.trans u5
    have u3 := t4.trans u4
    have u2 := t3.trans u3
    have u1 := t2.trans u2
    have l1 : LineAt K J7 (.ref b1) (0, (1, 1), 1) := ⟨b1, a1, rfl, sqt (u2 _ _ k2), sqt (u1 _ _ k1)⟩
    have l2 : LineAt K J7 (.ref b2) (0, (0, 1), 0) := ⟨b2, a2, rfl, sqt (u4 _ _ k4), sqt (u3 _ _ k3)⟩
    have l3 : LineAt K J7 (.ref b3) (0, (-7, 1), -7) := ⟨b3, a3, rfl, sqt (u6 _ _ k6), sqt (u5 _ _ k5)⟩
    have tab7 := tab.mono (t1.trans u1)
    refine ⟨p, q, L, _, rfl, on7.hd, kL, fL.1, fL.2.1, by simp, by show 3 < 1000000; decide, fun J8 v hd8 kp8 hv => ?_⟩
    have on8 := on7.draw hd8 kp8
    obtain ⟨r, hr0, hl8⟩ : ∃ r ∈ rLg, LineAt K J8 v r := by
      simp only [List.mem_cons, List.not_mem_nil, or_false] at hv
      rcases hv with rfl | rfl | rfl
      · exact ⟨_, by simp [rLg], l1.keep on7.hd kp8⟩
      · exact ⟨_, by simp [rLg], l2.keep on7.hd kp8⟩
      · exact ⟨_, by simp [rLg], l3.keep on7.hd kp8⟩
    have tab8 : Tab K C (GB p q J8) x kLg tLg := by
      have g7 : Tab K C (frz p q J7) x kLg tLg := by
        obtain ⟨dx2, k0, t0, xs0, o1, o2, o3, o4⟩ := tab7
        exact ⟨dx2, k0, t0, xs0, frz_at o1 (on7.hd.neOf o1 (fun ys z => by cases z)), seqTK on7.hd keep_frz o2, seqTK on7.hd keep_frz o3, o4.frz on7.hd⟩
      exact tab_gb on8.hd (g7.mono ((On.start on7.hd).draw hd8 kp8).le)
    have lg8 := lineAt_gb on8.hd hl8
    clear e1 e2 e3 e4 e5 e6 e7 t1 t2 t3 t4 t5 t6 t7 k1 k2 k3 k4 k5 k6 kL n1 n2 n3 m1 m2 m3 nL u1 u2 u3 u4 u5 u6 l1 l2 l3 tab tab7 on4 on6 on7 hd8 kp8 hl8 hv fL
    have ⟨B8, g8⟩ := on8.base
    have nG8 := B8.2.2
    have back : ∀ {H'}, OnT T p q (GB p q J8) H' → OnT T p q G H' := fun h => h.drop g8 nG
    clear on8 g8
    generalize GB p q J8 = G8 at tab8 lg8 B8 nG8 back
    refine ⟨Nat.le_of_ble_eq_true rfl, fun tt ntt => ?_⟩
    generalize e1 : L2.upd _ tt _ = J9
    have t1 := same_of ntt e1
    have k1 := at_of e1
    have on9 := B8.same t1
    refine ⟨tt, _, rfl, sqt k1, rfl, _, _, rfl, _, _, rfl, rfl, ?_⟩
    clear e1 t1 k1 ntt B8
    obtain ⟨lo, z0, kd0, lD⟩ := rLg_ok r hr0
    have dvr : ∀ n : Nat, ∀ x ∈ itemsD (.tuple (List.replicate n (lineP r))), lineD kLg.length x = true → (rowD x).2.1.2 ∣ DL := fun n x hx _ => by
      rw [List.eq_of_mem_replicate hx, rowLP]
      exact lo.amt.dvd
    have d400 := day_rep hr0 400
    have d401 := day_rep hr0 401
    -- 400 lines
    refine ⟨_, rfl, _, rfl, Nat.le_of_ble_eq_true rfl, fun y ny => ?_⟩
    generalize e1 : L2.upd _ y _ = J10
    have t1 := same_of ny e1
    have k1 := at_of e1
    refine ⟨y, 400, [v], rfl, rfl, sqt k1, by simp, by decide, (by show 1 ≤ 1000; decide), fun w1 J11 s11 hw => ?_⟩
    rw [rep_one] at hw
    have on11 := (on9.same t1).same s11
    refine ⟨x, .ref w1, .tuple (List.replicate 400 (lineP r)), true, kLg, tLg, rfl, tab8.mono on11.le, okLg, .tup hw (ov_rep (ov_line (lg8.mono on11.le)) 400), dvr 400, fun J12 s12 => ?_⟩
    have on12 := on11.same s12
    rw [show isDayD kLg.length tLg (.tuple (List.replicate 400 (lineP r))) true = true from d400.1]
    refine ⟨true, true, rfl, rfl, _, rfl, iteF ?_⟩
    clear e1 t1 k1 ny hw s11 s12 on11
    -- 401 lines
    refine ⟨_, rfl, _, rfl, Nat.le_of_ble_eq_true rfl, fun y ny => ?_⟩
    generalize e1 : L2.upd _ y _ = J13
    have t1 := same_of ny e1
    have k1 := at_of e1
    refine ⟨y, 401, [v], rfl, rfl, sqt k1, by simp, by decide, (by show 1 ≤ 1000; decide), fun w2 J14 s14 hw => ?_⟩
    rw [rep_one] at hw
    have on14 := (on12.same t1).same s14
    refine ⟨x, .ref w2, .tuple (List.replicate 401 (lineP r)), true, kLg, tLg, rfl, tab8.mono on14.le, okLg, .tup hw (ov_rep (ov_line (lg8.mono on14.le)) 401), dvr 401, fun J15 s15 => ?_⟩
    have on15 := on14.same s15
    rw [show isDayD kLg.length tLg (.tuple (List.replicate 401 (lineP r))) true = false from d401.1]
    refine ⟨false, false, rfl, rfl, _, rfl, iteF ?_⟩
    clear e1 t1 k1 ny hw s14 s15 on14 on12 on9
    -- heard
    refine ⟨fun w H' => w = V.non ∧ OnT T p q G8 H', ⟨on15.2.1, fun J16 e16 tb16 => ?_⟩, ?_⟩
    · have on16 := on15.lam e16 tb16
      refine ⟨_, rfl, _, rfl, Nat.le_of_ble_eq_true rfl, fun y ny => ?_⟩
      generalize e1 : L2.upd _ y _ = J17
      have t1 := same_of ny e1
      have k1 := at_of e1
      refine ⟨y, 400, [v], rfl, rfl, sqt k1, by simp, by decide, (by show 1 ≤ 1000; decide), fun w3 J18 s18 hw => ?_⟩
      rw [rep_one] at hw
      have on18 := (on16.same t1).same s18
      refine ⟨x, .ref w3, .tuple (List.replicate 400 (lineP r)), kLg, tLg, rfl, tab8.mono on18.le, okLg, .tup hw (ov_rep (ov_line (lg8.mono on18.le)) 400), fun _ J19 s19 => ⟨rfl, on18.same s19⟩, fun i hi => ?_⟩
      rw [show dayFault kLg.length (.tuple (List.replicate 400 (lineP r))) = none from d400.2] at hi
      cases hi
    rintro w J16 ⟨rfl, on16⟩
    refine ⟨rfl, _, rfl, iteF ?_⟩
    clear on15
    refine ⟨fun w H' => HeardIs K H' ("day" : String) (some (-1)) w ∧ OnT T p q G8 H', ⟨on16.2.1, fun J17 e17 tb17 => ?_⟩, ?_⟩
    · have on17 := on16.lam e17 tb17
      refine ⟨_, rfl, _, rfl, Nat.le_of_ble_eq_true rfl, fun y ny => ?_⟩
      generalize e1 : L2.upd _ y _ = J18
      have t1 := same_of ny e1
      have k1 := at_of e1
      refine ⟨y, 401, [v], rfl, rfl, sqt k1, by simp, by decide, (by show 1 ≤ 1000; decide), fun w3 J19 s19 hw => ?_⟩
      rw [rep_one] at hw
      have on19 := (on17.same t1).same s19
      have hf : dayFault kLg.length (.tuple (List.replicate 401 (lineP r))) = some (-1) := d401.2
      refine ⟨x, .ref w3, .tuple (List.replicate 401 (lineP r)), kLg, tLg, rfl, tab8.mono on19.le, okLg, .tup hw (ov_rep (ov_line (lg8.mono on19.le)) 401), fun hn => ?_, fun i hi J20 xx s20 nx hx => E9.day hx fun J21 u s21 ku => ⟨?_, on19.same (s20.trans s21)⟩⟩
      · rw [hf] at hn
        cases hn
      · rw [hf] at hi
        cases hi
        exact ⟨u, rfl, sqt ku⟩
    rintro w3 J17 ⟨hw3, on17⟩
    refine ⟨_, _, rfl, rfl, Nat.le_of_ble_eq_true rfl, fun y ny => ?_⟩
    generalize e1 : L2.upd _ y _ = J18
    have t1 := same_of ny e1
    have k1 : J18 y = some (.tup [.str ("day" : String), .int (-1)]) := at_of e1
    have gdd : Gd 1 (hrdD ("day" : String) (some (-1))) := gd_tup fun d hd => by
      simp only [List.mem_cons, List.not_mem_nil, or_false] at hd
      rcases hd with e | e
      · rw [e]; exact gd_str 0 (by decide +kernel)
      · rw [e]; exact gd_int 0 _
    refine ⟨_, _, (hw3.mono t1).dp, .tup (sqt k1) (.cons (.str _) (.cons (.int _) .nil)), gdd.shaped (by decide), gdd.shaped (by decide), ?_⟩
    have e : PyData.eqv (hrdD ("day" : String) (some (-1))) (hrdD ("day" : String) (some (-1))) = true := SeqAt.eqv_refl _ gdd.1
    show Q (.bl (PyData.eqv (hrdD ("day" : String) (some (-1))) (hrdD ("day" : String) (some (-1))))) J18
    rw [e]
    exact fin _ (back (on17.same t1))
end
end K09
namespace CK
open PySem PySem.Spec PyProof.Rows L2 VG FR HD M9
theorem lines_ov2 {K : PySem.W.Frag} {H : Hp} : ∀ {vs : List V} {rs : List Line}, Lines K H vs rs → OvAll K H vs (rs.map lineP)
  | [], [], _ => .nil
  | _ :: _, _ :: _, ⟨h, r⟩ => .cons (ov_line h) (lines_ov2 r)
  | [], _ :: _, h => h.elim
  | _ :: _, [], h => h.elim
theorem seqT_ext {K : PySem.W.Frag} {F F' : Hp} (e : LamX.ExtN F F') {t : Addr} {xs : List V} (h : SqT K F t xs) : SqT K F' t xs := by
  rcases h with h | h
  · rcases h with h | ⟨ob, h⟩
    · exact .inl (.inl (e _ _ h fun _ z => by cases z))
    · exact .inl (.inr ⟨ob, e _ _ h fun _ z => by cases z⟩)
  · exact .inr h
mutual
theorem Ov.ext {K : PySem.W.Frag} {F F' : Hp} (e : LamX.ExtN F F') : ∀ {v : V} {d : PyData}, Ov K F v d → Ov K F' v d
  | _, _, .non => .non
  | _, _, .bl b => .bl b
  | _, _, .int i => .int i
  | _, _, .str x => .str x
  | _, _, .dct h => .dct (e _ _ h fun _ z => by cases z)
  | _, _, .lst h r => .lst (e _ _ h fun _ z => by cases z) (OvAll.ext e r)
  | _, _, .tup h r => .tup (seqT_ext e h) (OvAll.ext e r)
theorem OvAll.ext {K : PySem.W.Frag} {F F' : Hp} (e : LamX.ExtN F F') : ∀ {vs : List V} {ds : List PyData}, OvAll K F vs ds → OvAll K F' vs ds
  | _, _, .nil => .nil
  | _, _, .cons h r => .cons (Ov.ext e h) (OvAll.ext e r)
end
theorem ext_frz {p q : Addr} {H : Hp} : LamX.ExtN (frz p q H) (offT H) := fun b o h n => by
  have h2 := frz_le b o h
  unfold offT
  rw [h2]
  cases o with
  | tbl ps => exact absurd rfl (n ps)
  | _ => rfl
theorem totsIn_gb {K : PySem.W.Frag} {p q t : Addr} {H : Hp} {m : Nat} {ts : List (List Int)} (hd : Hd p q H) (h : TotsIn K H t m ts) : TotsIn K (GB p q H) t m ts := by
  obtain ⟨xs, h1, h2, h3⟩ := h
  exact ⟨xs, seqT_gb hd h1, tots_gb hd h2, h3⟩
theorem lines_gb {K : PySem.W.Frag} {p q : Addr} {H : Hp} (hd : Hd p q H) : ∀ {vs : List V} {rs : List Line}, Lines K H vs rs → Lines K (GB p q H) vs rs
  | [], [], _ => trivial
  | _ :: _, _ :: _, ⟨h, r⟩ => ⟨lineAt_gb hd h, lines_gb hd r⟩
  | [], _ :: _, h => h.elim
  | _ :: _, [], h => h.elim
theorem dayIn_gb {K : PySem.W.Frag} {p q d : Addr} {H : Hp} {m : Nat} {rs : List Line} (hd : Hd p q H) (h : DayIn K H d m rs) : DayIn K (GB p q H) d m rs := by
  obtain ⟨xs, h1, h2, h3⟩ := h
  exact ⟨xs, seqT_gb hd h1, lines_gb hd h2, h3⟩
theorem day_dv {m : Nat} {rs : List Line} (ho : ∀ r ∈ rs, LineOk m r) : ∀ x ∈ itemsD (.tuple (rs.map lineP)), lineD m x = true → (rowD x).2.1.2 ∣ DL := fun x hx _ => by
  have hx : x ∈ rs.map lineP := hx
  obtain ⟨r, hr, rfl⟩ := List.mem_map.mp hx
  rw [rowLP]
  exact (ho r hr).amt.dvd
theorem sqL_gb {K : PySem.W.Frag} {p q a : Addr} {H H' : Hp} {xs : List V} (np : H p = none) (nq : H q = none) (s : Same H H') (h : SqL K H a xs) : SqL K (GB p q H') a xs := by
  rcases h with h | h
  · rcases h with h | ⟨ob, h⟩
    · exact .inl (.inl (gb_at (s _ _ h) ⟨ne_of_none h np, ne_of_none h nq⟩ fun _ z => by cases z))
    · exact .inl (.inr ⟨ob, gb_at (s _ _ h) ⟨ne_of_none h np, ne_of_none h nq⟩ fun _ z => by cases z⟩)
  · exact .inr h
def kX : List Str := ["cup", "jam", "tea"]
def tX : List (List Int) := [[0, 1, 2], [0, 2], [1, 2]]
theorem okX : TabOk kX tX := ⟨kinds_dec (by decide) (by decide +kernel) (by decide +kernel), by decide, fun c hc => lot_dec (List.all_eq_true.mp (by decide +kernel : tX.all (lotB (kX.length : Int)) = true) c hc)⟩
def rX : List Line := [(1, (5, 2), 3), (0, (1, 2), 0)]
def rX3 : List Line := [(1, (5, 2), 3), (0, (1, 2), 0), (2, (1, 2), 0)]
theorem rX3_ok : ∀ r ∈ rX3, LineOk 3 r := by
  intro r hr
  simp only [rX3, List.mem_cons, List.not_mem_nil, or_false] at hr
  rcases hr with rfl | rfl | rfl <;> exact ⟨by decide, ⟨⟨by decide, by decide +kernel⟩, by decide, by decide⟩, by decide, by decide +kernel⟩
theorem rX_ok : ∀ r ∈ rX, LineOk 3 r := fun r hr => rX3_ok r (by
  simp only [rX, List.mem_cons, List.not_mem_nil, or_false] at hr
  rcases hr with rfl | rfl <;> simp [rX3])
theorem totX : (totsU tX (errU 3 rX)).map U = [(0, 1), (-1, 2), (1, 2)] := by decide +kernel
theorem offX : firstU ((courseU 3 tX rX3).drop 1) 0 = some 2 := by decide +kernel
theorem off0 : firstU ((courseU 3 tX []).drop 1) 0 = none := by decide +kernel
theorem choX : choQ (-7, 2) = [-4, -3] ∧ choQ (-3, 1) = [-3] := by decide +kernel
def dX : PyData := .tuple [dQ (0, 1), dQ (-1, 2), dQ (1, 2)]
theorem gd_dQ (p : Q2) : Gd 1 (dQ p) := gd_tup fun x hx => by
  simp only [List.mem_cons, List.not_mem_nil, or_false] at hx
  rcases hx with z | z <;> (rw [z]; exact gd_int 0 _)
theorem gdX : Gd 2 dX := gd_tup fun d hd => by
  simp only [List.mem_cons, List.not_mem_nil, or_false] at hd
  rcases hd with e | e | e <;> (rw [e]; exact gd_dQ _)
end CK
namespace CK
open PySem PySem.Spec PyProof.Rows L2 VG FR HD M9
theorem bt3 {p : Q2} (h1 : p.1.natAbs < 2 ^ 20) (h2 : p.2.natAbs < 2 ^ 20) : Bt 3000 p := ⟨Nat.lt_of_lt_of_le h1 (Nat.pow_le_pow_right (by decide) (by decide)), Nat.lt_of_lt_of_le h2 (Nat.pow_le_pow_right (by decide) (by decide))⟩
mutual
theorem dp_mono {K : PySem.W.Frag} {H H' : Hp} (e : Same H H') : ∀ {v : V} {d : PyData}, Dp K H v d → Dp K H' v d
  | _, _, .non => .non
  | _, _, .bl b => .bl b
  | _, _, .int i => .int i
  | _, _, .str x => .str x
  | _, _, .lst h r => .lst (e.seq h) (dp_monoAll e r)
  | _, _, .tup h r => .tup (seqT e h) (dp_monoAll e r)
theorem dp_monoAll {K : PySem.W.Frag} {H H' : Hp} (e : Same H H') : ∀ {vs : List V} {ds : List PyData}, DpAll K H vs ds → DpAll K H' vs ds
  | _, _, .nil => .nil
  | _, _, .cons h r => .cons (dp_mono e h) (dp_monoAll e r)
end
end CK
namespace K09
open PySem PySem.Spec PyProof.Rows L2 VG FR CK HD M9
abbrev s_law : Stmt := topS 79
abbrev N_law : List Str := ["script", "heap", "turn", "many", "totals", "table", "size", "day", "again", "line"]
theorem sc_law : FnScope N_law ["script"] (defScope s_law) := ⟨rfl, rfl, rfl, by decide +kernel, rfl, by decide +kernel, by decide +kernel⟩
section
variable {P : Program} {w : World} {K : PySem.W.Frag} {mg : Str → Option Value} {base : Heap}
theorem ok_law {f C : Addr} {fd : FuncData} {T : List (Addr × Str)} (F : Fun K "law" "law" s_law f fd) (T_Table : MkT P w K mg base 7 "Table" C (spInitT K C))
    (C__law_heap : Cl P w K mg base 1 "_law_heap" (spHeapF K)) (C__law_draw : Cl P w K mg base 1 "_law_draw" spDraw) (C__law_pick : Cl P w K mg base 2 "_law_pick" (spPick K)) (C__law_names : Cl P w K mg base 3 "_law_names" (spLawNames K)) (C__law_totals : Cl P w K mg base 3 "_law_totals" (spLawTots9 K))
    (C__law_amount : Cl P w K mg base 3 "_law_amount" (spAmount K)) (C__law_day : Cl P w K mg base 4 "_law_day" (spLawDay K)) (C__law_odd_line : Cl P w K mg base 3 "_law_odd_line" (spOddLine K)) (C__law_odd_day : Cl P w K mg base 4 "_law_odd_day" (spOddDay K))
    (G__law_line_right : ClG P w K mg base 15 "_law_line_right" (spLineR K C T)) (G__law_checked_right : ClG P w K mg base 15 "_law_checked_right" (spCheckedR K C T)) (G__law_right : ClG P w K mg base 7 "_law_right" (spRight K C)) (G__law_long_right : ClG P w K mg base 15 "_law_long_right" (spLong K T))
    (C_total_errors : Cl P w K mg base 6 "total_errors" (spErrsOf K C fun ks ts rs => totsU ts (errU ks.length rs))) (C_first_off : Cl P w K mg base 5 "first_off" (spFirst K C)) (C_choices : Cl P w K mg base 2 "choices" (spCho K))
    (z_len : mg "len" = none) (z_int : mg "int" = none) (z_range : mg "range" = none) : FnG P w K mg base 17 f fd ["script"] (spLawT K T) := by
  refine fnG_of F sc_law (fun vs H Q E h => ?_) (fun cdv A outer s H vs Q E hg hr h => ?_)
  · obtain ⟨_, _, rfl, _⟩ := h
    rfl
  · obtain ⟨a, sc, rfl, hS0, l63, tbs, fin⟩ := h
    refine ⟨_, (pss_cons (ps_set (i := 1) sc_law.nd rfl (.inl rfl) (pe_cl C__law_heap hr (by decide) rfl (pa_cons (pv 0) pa_nil)))
    (pss_cut (ps_for PassesOwn.never rfl (pi_range1 (by rfl) z_range (pa_cons (pe_op op_add (pe_op op_add pe_int (pe_callTy call_int1 (by rfl) z_int (by decide +kernel) (pa_cons (pe_cmpR op_gt (pe_callB call_len_seq (by rfl) z_len (by decide +kernel) (pa_cons (pv 0) pa_nil)) pe_int (nomark _)) pa_nil))) (pe_callTy call_int1 (by rfl) z_int (by decide +kernel) (pa_cons (pe_cmpR op_gt (pe_callB call_len_seq (by rfl) z_len (by decide +kernel) (pa_cons (pv 0) pa_nil)) pe_int (nomark _)) pa_nil))) pa_nil)) (pg_name (i := 2) sc_law.nd rfl (.inl rfl))
      (pss_cons (ps_set (i := 3) sc_law.nd rfl (.inl rfl) (pe_cl C__law_pick hr (by decide) rfl (pa_cons (pv 1) (pa_cons (pe_lst (pa_cons pe_int (pa_cons pe_int (pa_cons pe_int (pa_cons pe_int (pa_cons pe_int pa_nil)))))) pa_nil))))
      (pss_cut (ps_if (PW.pt (pw_and (pt_cmpR op_gt (pe_callB call_len_seq (by rfl) z_len (by decide +kernel) (pa_cons (pv 0) pa_nil)) pe_int (nomark _)) (pw_and1 (pt_cmpR op_eq (pe_cl C__law_draw hr (by decide) rfl (pa_cons (pv 1) (pa_cons pe_int pa_nil))) pe_int (nomark _)))))
        (pss_one (ps_set (i := 3) sc_law.nd rfl (.inl rfl) pe_int))
        pss_nil)
      (pss_cons (ps_set (i := 4) sc_law.nd rfl (.inl rfl) (pe_cl C__law_totals hr (by decide) rfl (pa_cons (pv 1) (pa_cons (pv 3) pa_nil))))
      (pss_cons (ps_set (i := 5) sc_law.nd rfl (.inl rfl) (pe_mt T_Table hr (by decide) rfl (pa_cons (pe_cl C__law_names hr (by decide) rfl (pa_cons (pv 1) (pa_cons (pv 3) pa_nil))) (pa_cons (pv 4) pa_nil))))
      (pss_cons (ps_set (i := 6) sc_law.nd rfl (.inl rfl) (pe_meet (pe_ifExp (PW.pt (pw_and (pt_cmpR op_gt (pe_callB call_len_seq (by rfl) z_len (by decide +kernel) (pa_cons (pv 0) pa_nil)) pe_int (nomark _)) (pw_and1 (pt_cmpR op_eq (pe_cl C__law_draw hr (by decide) rfl (pa_cons (pv 1) (pa_cons pe_int pa_nil))) pe_int (nomark _))))) pe_int (pe_cl C__law_pick hr (by decide) rfl (pa_cons (pv 1) (pa_cons (pe_lst (pa_cons pe_int (pa_cons pe_int (pa_cons pe_int (pa_cons pe_int (pa_cons pe_int (pa_cons pe_int pa_nil))))))) pa_nil))))))
      (pss_cons (ps_set (i := 7) sc_law.nd rfl (.inl rfl) (pe_cl C__law_day hr (by decide) rfl (pa_cons (pv 1) (pa_cons (pv 3) (pa_cons (pv 4) (pa_cons (pv 6) pa_nil))))))
      (pss_cons (ps_if (PW.pt (pw_or (pt_not (pt_val (pe_clg G__law_checked_right hg hr (by decide) rfl (pa_cons (pv 5) (pa_cons (pv 3) (pa_cons (pv 4) (pa_cons (pv 7) pa_nil))))))) (pw_or1 (pt_not (pt_val (pe_clg G__law_right hg hr (by decide) rfl (pa_cons (pv 5) (pa_cons (pv 3) (pa_cons (pv 4) (pa_cons (pv 7) pa_nil))))))))))
        (pss_one (ps_ret pe_bl))
        pss_nil)
      (pss_one (ps_for PassesOwn.never rfl (pi_range1 (by rfl) z_range (pa_cons pe_int pa_nil)) (pg_name (i := 8) sc_law.nd rfl (.inl rfl))
        (pss_cons (ps_if (pt_not (pt_val (pe_clg G__law_checked_right hg hr (by decide) rfl (pa_cons (pv 5) (pa_cons (pv 3) (pa_cons (pv 4) (pa_cons (pe_cl C__law_odd_day hr (by decide) rfl (pa_cons (pv 1) (pa_cons (pv 3) (pa_cons (pv 7) pa_nil)))) pa_nil)))))))
          (pss_one (ps_ret pe_bl))
          pss_nil)
        (pss_cons (ps_set (i := 9) sc_law.nd rfl (.inl rfl) (pe_tup (pa_cons (pe_cl C__law_draw hr (by decide) rfl (pa_cons (pv 1) (pa_cons (pv 3) pa_nil))) (pa_cons (pe_cl C__law_amount hr (by decide) rfl (pa_cons (pv 1) pa_nil)) pa_nil))))
        (pss_one (ps_if (PW.pt (pw_or (pt_not (pt_val (pe_clg G__law_line_right hg hr (by decide) rfl (pa_cons (pv 5) (pa_cons (pv 3) (pa_cons (pv 9) pa_nil)))))) (pw_or1 (pt_not (pt_val (pe_clg G__law_line_right hg hr (by decide) rfl (pa_cons (pv 5) (pa_cons (pv 3) (pa_cons (pe_cl C__law_odd_line hr (by decide) rfl (pa_cons (pv 1) (pa_cons (pv 3) (pa_cons (pv 9) pa_nil)))) pa_nil)))))))))
          (pss_one (ps_ret pe_bl))
          pss_nil))))))))))))))
    (pss_cut (ps_if (PW.pt (pw_and (pt_cmpR op_eq (pe_cl C__law_draw hr (by decide) rfl (pa_cons (pv 1) (pa_cons pe_int pa_nil))) pe_int (nomark _)) (pw_and1 (pt_not (pt_val (pe_clg G__law_long_right hg hr (by decide) rfl (pa_cons (pv 1) pa_nil)))))))
      (pss_one (ps_ret pe_bl))
      pss_nil)
    (pss_cons (ps_set (i := 5) sc_law.nd rfl (.inl rfl) (pe_mt T_Table hr (by decide) rfl (pa_cons (pe_tup (pa_cons pe_str (pa_cons pe_str (pa_cons pe_str pa_nil)))) (pa_cons (pe_tup (pa_cons (pe_tup (pa_cons pe_int (pa_cons pe_int (pa_cons pe_int pa_nil)))) (pa_cons (pe_tup (pa_cons pe_int (pa_cons pe_int pa_nil))) (pa_cons (pe_tup (pa_cons pe_int (pa_cons pe_int pa_nil))) pa_nil)))) pa_nil))))
    (pss_cons (ps_set (i := 7) sc_law.nd rfl (.inl rfl) (pe_tup (pa_cons (pe_tup (pa_cons pe_int (pa_cons (pe_tup (pa_cons pe_int (pa_cons pe_int pa_nil))) (pa_cons pe_int pa_nil)))) (pa_cons (pe_tup (pa_cons pe_int (pa_cons (pe_tup (pa_cons pe_int (pa_cons pe_int pa_nil))) (pa_cons pe_int pa_nil)))) pa_nil))))
    (pss_cons (ps_if (PW.pt (pw_or (pt_cmpR (op_neD hr.units) (pe_cl C_total_errors hr (by decide) rfl (pa_cons (pv 5) (pa_cons (pv 7) pa_nil))) (pe_tup (pa_cons (pe_tup (pa_cons pe_int (pa_cons pe_int pa_nil))) (pa_cons (pe_tup (pa_cons (pe_op op_sub pe_int pe_int) (pa_cons pe_int pa_nil))) (pa_cons (pe_tup (pa_cons pe_int (pa_cons pe_int pa_nil))) pa_nil)))) (nomark _)) (pw_or1 (pt_cmpR op_ne (pe_cl C_first_off hr (by decide) rfl (pa_cons (pv 5) (pa_cons (pe_op op_catM (pv 7) (pe_tup (pa_cons (pe_tup (pa_cons pe_int (pa_cons (pe_tup (pa_cons pe_int (pa_cons pe_int pa_nil))) (pa_cons pe_int pa_nil)))) pa_nil))) pa_nil))) pe_int (nomark _)))))
      (pss_one (ps_ret pe_bl))
      pss_nil)
    (pss_one (ps_ret (pe_and (pe_cmpR (op_eqD hr.units) (pe_cl C_choices hr (by decide) rfl (pa_cons (pe_tup (pa_cons (pe_op op_sub pe_int pe_int) (pa_cons pe_int pa_nil))) pa_nil)) (pe_tup (pa_cons (pe_op op_sub pe_int pe_int) (pa_cons (pe_op op_sub pe_int pe_int) pa_nil))) (nomark _)) (pe_and (pe_cmpR (op_eqD hr.units) (pe_cl C_choices hr (by decide) rfl (pa_cons (pe_tup (pa_cons (pe_op op_sub pe_int pe_int) (pa_cons pe_int pa_nil))) pa_nil)) (pe_tup (pa_cons (pe_op op_sub pe_int pe_int) pa_nil)) (nomark _)) (pe_one (pe_cmpR op_isN (pe_cl C_first_off hr (by decide) rfl (pa_cons (pv 5) (pa_cons (pe_tup pa_nil) pa_nil))) pe_non (nomark _))))))))))))), ?_⟩
    have big : sizeLine = 16777216 := by decide
    refine ⟨_, rfl, a, sc, rfl, hS0, l63, fun H1 p q hd1 s1 np nq => ?_⟩
    have on0 := OnT.start (T := T) hd1 (tabs_same tbs s1)
    have hS := sqL_gb np nq s1 hS0
    have nG := on0.2.2
    clear hS0 np nq tbs s1 hd1
    generalize GB p q H1 = G at on0 nG hS
    refine ⟨fun σ H' => (∃ y2 y3 y4 y5 y6 y7 y8 y9 : Option V, σ = [some (.ref a), some (.ref p), y2, y3, y4, y5, y6, y7, y8, y9]) ∧ OnT T p q G H', ?_, ?_⟩
    · refine ⟨_, rfl, a, sc.map V.int, rfl, .inl (on0.le.seq hS), _, _, rfl, rfl, .inr ⟨_, rfl, _, _, rfl, rfl, _, rfl, a, sc.map V.int, rfl, .inl (on0.le.seq hS), _, _, rfl, rfl, .inr ⟨_, rfl, _, _, rfl, rfl, _, rfl, ?_, ?_, ?_⟩⟩⟩
      · split <;> split <;> decide
      · split <;> split <;> decide
      · refine for_it (walk_range (lo := 0)) (fun i σ H' => (∃ y2 y3 y4 y5 y6 y7 y8 y9 : Option V, σ = [some (.ref a), some (.ref p), y2, y3, y4, y5, y6, y7, y8, y9]) ∧ OnT T p q G H') ⟨⟨_, _, _, _, _, _, _, _, rfl⟩, on0⟩ (fun _ _ _ _ _ => trivial) ?_ ?_
        · clear on0
          rintro i x σ H2 H3 hi ⟨⟨y2, y3, y4, y5, y6, y7, y8, y9, rfl⟩, on1⟩ ⟨rfl, rfl⟩
          -- how many kinds
          refine ⟨_, rfl, by show 5 ≤ sizeLine; decide, fun L nL => ?_⟩
          have fL := on1.free nL
          have on2 := on1.new (o := .lst [.int 3, .int 4, .int 2, .int 5, .int 1]) nL
          refine ⟨p, q, L, _, rfl, on2.hd, upd_same, fL.1, fL.2.1, by simp, by show 5 < 1000000; decide, fun H4 v hd4 kp4 hv => ?_⟩
          have on4 := on2.draw hd4 kp4
          obtain ⟨m, rfl, m1, m12⟩ : ∃ m : Nat, v = .int m ∧ 1 ≤ m ∧ m ≤ 12 := by
            simp only [List.mem_cons, List.not_mem_nil, or_false] at hv
            rcases hv with e | e | e | e | e
            · exact ⟨3, e, by decide, by decide⟩
            · exact ⟨4, e, by decide, by decide⟩
            · exact ⟨2, e, by decide, by decide⟩
            · exact ⟨5, e, by decide, by decide⟩
            · exact ⟨1, e, by decide, by decide⟩
          clear on1 on2 nL fL hd4 kp4 hv
          refine ⟨fun σ H' => ∃ m : Nat, 1 ≤ m ∧ m ≤ 12 ∧ σ = [some (.ref a), some (.ref p), some (.int ((0 : Int) + (i : Nat))), some (.int (m : Int)), y4, y5, y6, y7, y8, y9] ∧ OnT T p q G H', ?_, ?_⟩
          · refine ⟨_, rfl, a, sc.map V.int, rfl, .inl (on4.le.seq hS), _, _, rfl, rfl, _, rfl, ite2 (fun _ => ?_) (fun _ => ⟨m, m1, m12, rfl, on4⟩)⟩
            refine ⟨_, rfl, p, q, _, rfl, on4.hd, by decide, by decide, fun H5 r hd5 kp5 r0 r1 => ⟨rfl, _, rfl, ite2 (fun _ => ⟨12, by decide, by decide, rfl, on4.draw hd5 kp5⟩) (fun _ => ⟨m, m1, m12, rfl, on4.draw hd5 kp5⟩)⟩⟩
          clear on4 m1 m12
          rintro σ H5 ⟨m, m1, m12, rfl, on5⟩
          -- the totals
          refine ⟨_, rfl, _, rfl, p, q, m, rfl, on5.hd, m1, m12, fun H6 t xs ts on6' kt hX lt okT => ?_⟩
          have on6 := on5.draw on6'.hd on6'.keep
          have htI : TotsIn K (GB p q H6) t m ts := totsIn_gb on6.hd ⟨xs, sqt kt, hX, lt, okT⟩
          have ⟨on7, g6⟩ := on6.base
          have back6 : ∀ {H'}, OnT T p q (GB p q H6) H' → OnT T p q G H' := fun h => h.drop g6 nG
          have hS6 := g6.seq hS
          clear on5 on6 on6' kt hX g6
          generalize GB p q H6 = G1 at on7 htI back6 hS6
          -- the table
          refine ⟨_, rfl, _, rfl, p, q, m, rfl, on7.hd, m1, m12, fun H8 u ks on8' ku okK lks => ?_⟩
          subst lks
          have on8 := on7.draw on8'.hd on8'.keep
          obtain ⟨xs, hSt, hTt, ltt, lots⟩ := id htI
          refine ⟨_, rfl, fun x dx nx nd ne => tab_made (sqt ku) okK (seqT on8.le hSt) (hTt.mono on8.le) ltt lots nx nd ne fun H9 s9 tab na => ?_⟩
          have ok : TabOk ks ts := ⟨okK, ltt, lots⟩
          have on9 := on8.same s9
          have tabG := tab_gb on9.hd tab
          have ⟨on10, g9⟩ := on9.base
          have nG1 := on7.2.2
          have back9 : ∀ {H'}, OnT T p q (GB p q H9) H' → OnT T p q G H' := fun h => back6 (h.drop g9 nG1)
          have hS9 := g9.seq hS6
          have htG := htI.mono g9
          clear on7 on8 on8' on9 ku tab na s9 hSt hTt nx nd ne back6 hS6 g9 htI
          generalize GB p q H9 = G2 at on10 tabG back9 hS9 htG
          have nG2 := on10.2.2
          -- how many lines
          refine ⟨fun w H' => ∃ n : Nat, w = .int (n : Int) ∧ n ≤ 30 ∧ OnT T p q G2 H', ?_, ?_⟩
          · have draws : ∀ H', OnT T p q G2 H' → ∀ Lz : Addr, H' Lz = none → ∀ Q2 : VK, (∀ H3 n, n ≤ 30 → OnT T p q G2 H3 → Q2 (.int ((n : Nat) : Int)) H3) → spPick K [.ref p, .ref Lz] (L2.upd H' Lz (.lst [.int 3, .int 4, .int 2, .int 6, .int 1, .int 0])) Q2 E0 := by
              intro H' on Lz nL Q2 k
              have fL := on.free nL
              have on2 := on.new (o := .lst [.int 3, .int 4, .int 2, .int 6, .int 1, .int 0]) nL
              refine ⟨p, q, Lz, _, rfl, on2.hd, upd_same, fL.1, fL.2.1, by simp, by show 6 < 1000000; decide, fun H3 v hd3 kp3 hv => ?_⟩
              have on3 := on2.draw hd3 kp3
              simp only [List.mem_cons, List.not_mem_nil, or_false] at hv
              rcases hv with e | e | e | e | e | e
              · rw [e]; exact k H3 3 (by decide) on3
              · rw [e]; exact k H3 4 (by decide) on3
              · rw [e]; exact k H3 2 (by decide) on3
              · rw [e]; exact k H3 6 (by decide) on3
              · rw [e]; exact k H3 1 (by decide) on3
              · rw [e]; exact k H3 0 (by decide) on3
            refine ⟨_, rfl, a, sc.map V.int, rfl, .inl (on10.le.seq hS9), _, _, rfl, rfl, _, rfl, ite2 (fun _ => ?_) (fun _ => ?_)⟩
            · refine ⟨_, rfl, p, q, _, rfl, on10.hd, by decide, by decide, fun H11 r hd11 kp11 r0 r1 => ⟨rfl, _, rfl, ite2 (fun _ => ⟨30, rfl, by decide, on10.draw hd11 kp11⟩) (fun _ => ?_)⟩⟩
              have on11 := on10.draw hd11 kp11
              exact ⟨_, rfl, by show 6 ≤ sizeLine; decide, fun Lz nL => draws H11 on11 Lz nL _ fun H3 n hn on3 => ⟨n, rfl, hn, on3⟩⟩
            · exact ⟨_, rfl, by show 6 ≤ sizeLine; decide, fun Lz nL => draws H9 on10 Lz nL _ fun H3 n hn on3 => ⟨n, rfl, hn, on3⟩⟩
          clear on10
          rintro _ H11 ⟨n, rfl, n30, on11⟩
          -- the day
          refine ⟨_, rfl, _, rfl, _, rfl, _, rfl, p, q, t, ks.length, n, ts, rfl, on11.hd, htG.mono on11.1.base.2, m1, m12, n30, fun H12 dd rs on12' hDay l30 => ?_⟩
          have on12 := on11.draw on12'.hd on12'.keep
          have hDG := dayIn_gb on12.hd hDay
          have ⟨on13, g12⟩ := on12.base
          have back : ∀ {H'}, OnT T p q (GB p q H12) H' → OnT T p q G H' := fun h => back9 (h.drop g12 nG2)
          have tab3 := tabG.mono g12
          have ht3 := htG.mono g12
          have ho := hDG.choose_spec.2.2.1
          clear on11 on12 on12' hDay back9 hS9 g12 tabG htG
          generalize GB p q H12 = G3 at on13 hDG back tab3 ht3
          have nG3 := on13.2.2
          obtain ⟨ys, hDs, hLs, _, _⟩ := id hDG
          have ovDay : Ov K G3 (.ref dd) (.tuple (rs.map lineP)) := .tup hDs (lines_ov2 hLs)
          have shDay : ShO 60 16000000 (.tuple (rs.map lineP)) := (dv_tup (lines_iv ho m12) (by rw [List.length_map]; omega)).1
          have o13 := gb_off nG3 on13.le
          refine ⟨_, rfl, _, rfl, _, rfl, _, rfl, x, t, .ref dd, _, ks, ts, rfl, tab3.mono o13, ok, ht3.mono o13, ovDay.mono o13, day_dv ho, shDay, on13.2.1, fun H14 s14 tb14 => ⟨_, rfl, iteF ?_⟩⟩
          have on14 := on13.off s14 tb14
          refine ⟨_, rfl, _, rfl, _, rfl, _, rfl, x, t, dd, ks, ts, rs, rfl, tab3.mono on14.le, ok, ht3.mono on14.le, hDG.mono on14.le, l30, fun H15 s15 => ⟨_, rfl, iteF ?_⟩⟩
          have on15 := on14.same s15
          clear on13 o13 on14 s14 tb14 s15
          -- odd ones
          refine ⟨_, rfl, by decide, by decide, ?_⟩
          refine for_it (walk_range (lo := 0) (n := (3 : Int).toNat)) (fun i' σ H' => (∃ y8 y9 : Option V, σ = [some (.ref a), some (.ref p), some (.int ((0 : Int) + (i : Nat))), some (.int ((ks.length : Nat) : Int)), some (.ref t), some (.ref x), some (.int (n : Int)), some (.ref dd), y8, y9]) ∧ OnT T p q G3 H') ⟨⟨_, _, rfl⟩, on15⟩ (fun _ _ _ _ _ => trivial) ?_ ?_
          · clear on15
            rintro j xx σ J1 J2 hj ⟨⟨y8, y9, rfl⟩, onJ1⟩ ⟨rfl, rfl⟩
            refine ⟨_, rfl, _, rfl, _, rfl, _, rfl, _, rfl, _, rfl, p, q, dd, ks.length, rs, rfl, onJ1.hd, hDG.mono onJ1.le, l30, m12, fun J3 v d onJ3' hov hdv => ?_⟩
            have onJ3 := onJ1.draw onJ3'.hd onJ3'.keep
            have o3 := gb_off nG3 onJ3.le
            refine ⟨x, t, v, d, ks, ts, rfl, tab3.mono o3, ok, ht3.mono o3, hov.ext ext_frz, hdv.2, hdv.1, onJ3.2.1, fun J4 s4 tb4 => ⟨_, rfl, iteF ?_⟩⟩
            have onJ4 := onJ3.off s4 tb4
            clear onJ1 onJ3 onJ3' hov hdv o3 s4 tb4
            refine ⟨_, rfl, _, rfl, p, q, _, rfl, onJ4.hd, by omega, by omega, fun J5 k hd5 kp5 k0 k1 => ?_⟩
            have onJ5 := onJ4.draw hd5 kp5
            obtain ⟨k, rfl⟩ := Int.eq_ofNat_of_zero_le k0
            have hk : k < ks.length := by omega
            refine ⟨_, rfl, p, q, rfl, onJ5.hd, fun J6 s r onJ6' hs ha => ?_⟩
            have onJ6 := onJ5.draw onJ6'.hd onJ6'.keep
            refine ⟨Nat.le_of_ble_eq_true rfl, fun l nl => ?_⟩
            generalize el : L2.upd _ l _ = J7
            have sl := same_of nl el
            have kl := at_of el
            have onJ7 := onJ6.same sl
            have hl7 : SqT K J7 l [.int (k : Int), .ref s] := sqt kl
            have hs7 := seqT sl hs
            clear onJ4 onJ5 onJ6 onJ6' hd5 kp5 hs nl el sl kl
            have o7 := gb_off nG3 onJ7.le
            have ovl : Ov K (offT J7) (.ref l) (.tuple [.int (k : Int), dQ r]) := .tup (seqT_off hl7) (.cons (.int _) (.cons (.tup (seqT_off hs7) (.cons (.int _) (.cons (.int _) .nil))) .nil))
            have shl : ShO 60 16000000 (.tuple [.int (k : Int), dQ r]) := (sh_four (four2 (atm2 (atm_int (by omega))) ((sh_q ha).mono (Nat.le_refl 2) (by decide))) (Nat.le_of_ble_eq_true rfl)).mono (by decide) (by decide)
            refine ⟨_, rfl, _, rfl, _, rfl, x, .ref l, _, ks, ts, rfl, tab3.mono o7, ok, ovl, shl, onJ7.2.1, fun J8 s8 tb8 => ⟨_, rfl, iteF ?_⟩⟩
            have onJ8 := onJ7.off s8 tb8
            have hl8 := seqT s8 (seqT_off hl7)
            have hs8 := seqT s8 (seqT_off hs7)
            refine ⟨_, rfl, _, rfl, _, rfl, _, rfl, _, rfl, p, q, l, s, ks.length, k, r, rfl, onJ8.hd, hl8, hs8, ha, by omega, m12, fun J9 v2 d2 onJ9' hov2 hlv => ?_⟩
            have onJ9 := onJ8.draw onJ9'.hd onJ9'.keep
            have o9 := gb_off nG3 onJ9.le
            refine ⟨x, v2, d2, ks, ts, rfl, tab3.mono o9, ok, hov2.ext ext_frz, hlv.1.mono (by decide) (by decide), onJ9.2.1, fun J10 s10 tb10 => ⟨_, rfl, iteF ?_⟩⟩
            exact ⟨⟨_, _, rfl⟩, onJ9.off s10 tb10⟩
          · rintro σ J1 ⟨⟨y8, y9, rfl⟩, onJ1⟩
            exact ⟨⟨_, _, _, _, _, _, _, _, rfl⟩, back onJ1⟩
        · rintro σ H2 h
          exact h
    clear on0
    rintro σ H2 ⟨⟨y2, y3, y4, y5, y6, y7, y8, y9, rfl⟩, on2⟩
    refine ⟨fun σ H' => (∃ y2 y3 y4 y5 y6 y7 y8 y9 : Option V, σ = [some (.ref a), some (.ref p), y2, y3, y4, y5, y6, y7, y8, y9]) ∧ OnT T p q G H', ?_, ?_⟩
    · refine ⟨_, rfl, p, q, _, rfl, on2.hd, by decide, by decide, fun H3 r hd3 kp3 r0 r1 => ⟨rfl, _, rfl, ite2 (fun _ => ?_) (fun _ => ⟨⟨_, _, _, _, _, _, _, _, rfl⟩, on2.draw hd3 kp3⟩)⟩⟩
      have on3 := on2.draw hd3 kp3
      refine ⟨_, rfl, p, q, rfl, on3.hd, on3.2.1, fun H4 on4 => ⟨_, rfl, iteF ?_⟩⟩
      exact ⟨⟨_, _, _, _, _, _, _, _, rfl⟩, on4.drop on3.base.2 nG⟩
    clear on2
    rintro σ H3 ⟨⟨y2, y3, y4, y5, y6, y7, y8, y9, rfl⟩, on3⟩
    -- the example
    refine at_asg (at_make (at_cons (lit_strs (cs := kX) (by decide) fun H4 u s4 ku => ?_)))
    refine at_cons (lit_tots (K := K) (cs := tX) ⟨by decide, by decide⟩ fun H5 t xs s5 kt hX => ?_)
    refine fun x dx nx nd ne => tab_made (sqt (s5 _ _ ku)) okX.kinds (sqt kt) hX okX.len okX.lots nx nd ne fun H6 s6 tab na => ?_
    clear s4 s5 s6 ku kt hX na nx nd ne on3 hS nG
    refine ⟨Nat.le_of_ble_eq_true rfl, fun a1 n_a1 => ?_⟩
    generalize e_a1 : L2.upd _ a1 _ = J1
    have s_a1 := same_of n_a1 e_a1
    have k_a1 : J1 a1 = some (.tup [.int 5, .int 2]) := at_of e_a1
    clear e_a1 n_a1
    refine ⟨Nat.le_of_ble_eq_true rfl, fun b1 n_b1 => ?_⟩
    generalize e_b1 : L2.upd _ b1 _ = J2
    have s_b1 := same_of n_b1 e_b1
    have k_b1 : J2 b1 = some (.tup [.int ((1 : Nat) : Int), .ref a1, .int 3]) := at_of e_b1
    clear e_b1 n_b1
    refine ⟨Nat.le_of_ble_eq_true rfl, fun c1 n_c1 => ?_⟩
    generalize e_c1 : L2.upd _ c1 _ = J3
    have s_c1 := same_of n_c1 e_c1
    have k_c1 : J3 c1 = some (.tup [.int 1, .int 2]) := at_of e_c1
    clear e_c1 n_c1
    refine ⟨Nat.le_of_ble_eq_true rfl, fun d1 n_d1 => ?_⟩
    generalize e_d1 : L2.upd _ d1 _ = J4
    have s_d1 := same_of n_d1 e_d1
    have k_d1 : J4 d1 = some (.tup [.int ((0 : Nat) : Int), .ref c1, .int 0]) := at_of e_d1
    clear e_d1 n_d1
    refine ⟨Nat.le_of_ble_eq_true rfl, fun e1 n_e1 => ?_⟩
    generalize e_e1 : L2.upd _ e1 _ = J5
    have s_e1 := same_of n_e1 e_e1
    have k_e1 : J5 e1 = some (.tup [.ref b1, .ref d1]) := at_of e_e1
    clear e_e1 n_e1
    have t4 := s_e1
    have t3 := s_d1.trans t4
    have t2 := s_c1.trans t3
    have t1 := s_b1.trans t2
    have l1 : LineAt K J5 (.ref b1) (1, (5, 2), 3) := ⟨b1, a1, rfl, sqt (t2 _ _ k_b1), sqt (t1 _ _ k_a1)⟩
    have l2 : LineAt K J5 (.ref d1) (0, (1, 2), 0) := ⟨d1, c1, rfl, sqt (t4 _ _ k_d1), sqt (t3 _ _ k_c1)⟩
    have tab5 := tab.mono (s_a1.trans t1)
    have day5 : DayIn K J5 e1 3 rX := ⟨_, sqt k_e1, ⟨l1, l2, trivial⟩, rX_ok, by decide⟩
    clear s_a1 s_b1 s_c1 s_d1 s_e1 t1 t2 t3 t4 k_a1 k_b1 k_c1 k_d1 tab
    refine ⟨_, rfl, _, rfl, x, e1, kX, tX, rX, rfl, tab5, okX, day5, fun J6 u s6 hu => ?_⟩
    have du : Dp K J6 (.ref u) dX := by
      have h := hu.dp
      have e : euD (totsU tX (errU kX.length rX)) = dX := by
        unfold euD
        rw [show totsU tX (errU kX.length rX) = totsU tX (errU 3 rX) from rfl, totX]
        rfl
      rw [e] at h
      exact h
    refine ⟨Nat.le_of_ble_eq_true rfl, fun a2 n_a2 => ?_⟩
    generalize e_a2 : L2.upd _ a2 _ = J7
    have s_a2 := same_of n_a2 e_a2
    have k_a2 : J7 a2 = some (.tup [.int 0, .int 1]) := at_of e_a2
    clear e_a2 n_a2
    refine ⟨_, _, rfl, rfl, Nat.le_of_ble_eq_true rfl, fun b2 n_b2 => ?_⟩
    generalize e_b2 : L2.upd _ b2 _ = J8
    have s_b2 := same_of n_b2 e_b2
    have k_b2 : J8 b2 = some (.tup [.int (-1), .int 2]) := at_of e_b2
    clear e_b2 n_b2
    refine ⟨Nat.le_of_ble_eq_true rfl, fun c2 n_c2 => ?_⟩
    generalize e_c2 : L2.upd _ c2 _ = J9
    have s_c2 := same_of n_c2 e_c2
    have k_c2 : J9 c2 = some (.tup [.int 1, .int 2]) := at_of e_c2
    clear e_c2 n_c2
    refine ⟨Nat.le_of_ble_eq_true rfl, fun d2 n_d2 => ?_⟩
    generalize e_d2 : L2.upd _ d2 _ = J10
    have s_d2 := same_of n_d2 e_d2
    have k_d2 : J10 d2 = some (.tup [.ref a2, .ref b2, .ref c2]) := at_of e_d2
    clear e_d2 n_d2
    have u3 := s_c2.trans s_d2
    have u2 := s_b2.trans u3
    have u1 := s_a2.trans u2
    have dl : Dp K J10 (.ref d2) dX := .tup (sqt k_d2) (.cons (.tup (sqt (u2 _ _ k_a2)) (.cons (.int _) (.cons (.int _) .nil))) (.cons (.tup (sqt (u3 _ _ k_b2)) (.cons (.int _) (.cons (.int _) .nil))) (.cons (.tup (sqt (s_d2 _ _ k_c2)) (.cons (.int _) (.cons (.int _) .nil))) .nil)))
    refine ⟨_, _, dp_mono u1 du, dl, gdX.shaped (by decide), gdX.shaped (by decide), _, rfl, ite_eq false (congrArg Bool.not (SeqAt.eqv_refl _ gdX.1)) (iteF ?_)⟩
    have v10 := s6.trans u1
    have tab10 := tab5.mono v10
    have day10 := seqT v10 (sqt (K := K) k_e1)
    have l1' := l1.mono v10
    have l2' := l2.mono v10
    clear s6 hu du u1 u2 u3 dl s_a2 s_b2 s_c2 s_d2 k_a2 k_b2 k_c2 k_d2 tab5 day5 l1 l2 v10 k_e1
    refine ⟨_, rfl, _, rfl, ?_⟩
    refine ⟨Nat.le_of_ble_eq_true rfl, fun a3 n_a3 => ?_⟩
    generalize e_a3 : L2.upd _ a3 _ = J11
    have s_a3 := same_of n_a3 e_a3
    have k_a3 : J11 a3 = some (.tup [.int 1, .int 2]) := at_of e_a3
    clear e_a3 n_a3
    refine ⟨Nat.le_of_ble_eq_true rfl, fun b3 n_b3 => ?_⟩
    generalize e_b3 : L2.upd _ b3 _ = J12
    have s_b3 := same_of n_b3 e_b3
    have k_b3 : J12 b3 = some (.tup [.int ((2 : Nat) : Int), .ref a3, .int 0]) := at_of e_b3
    clear e_b3 n_b3
    refine ⟨Nat.le_of_ble_eq_true rfl, fun c3 n_c3 => ?_⟩
    generalize e_c3 : L2.upd _ c3 _ = J13
    have s_c3 := same_of n_c3 e_c3
    have k_c3 : J13 c3 = some (.tup [.ref b3]) := at_of e_c3
    clear e_c3 n_c3
    have v2 := s_b3.trans s_c3
    have v1 := s_a3.trans v2
    refine ⟨e1, c3, _, _, rfl, rfl, seqT v1 day10, sqt k_c3, by show 2 + 1 ≤ sizeLine; decide, fun w J14 s14 hw => ?_⟩
    have v14 := v1.trans s14
    refine ⟨x, w, kX, tX, rX3, rfl, tab10.mono v14, okX, ⟨_, hw, ⟨l1'.mono v14, l2'.mono v14, ⟨b3, a3, rfl, sqt (s14 _ _ (s_c3 _ _ k_b3)), sqt (s14 _ _ (v2 _ _ k_a3))⟩, trivial⟩, rX3_ok, by decide⟩, fun J15 s15 => ?_⟩
    rw [show firstU ((courseU kX.length tX rX3).drop 1) 0 = some 2 from offX]
    refine ⟨rfl, _, rfl, ite_eq false (congrArg Bool.not (decide_eq_true rfl)) (iteF ?_)⟩
    have tab15 := tab10.mono (v14.trans s15)
    clear hw s14 s15 v14 v1 v2 s_a3 s_b3 s_c3 k_a3 k_b3 k_c3 day10 l1' l2' tab10
    refine ⟨_, _, rfl, rfl, Nat.le_of_ble_eq_true rfl, fun a4 n_a4 => ?_⟩
    generalize e_a4 : L2.upd _ a4 _ = J16
    have s_a4 := same_of n_a4 e_a4
    have k_a4 : J16 a4 = some (.tup [.int (-7), .int 2]) := at_of e_a4
    clear e_a4 n_a4
    refine ⟨a4, (-7, 2), rfl, sqt k_a4, by decide, bt3 (by decide) (by decide), fun J17 u s17 nu ku => ?_⟩
    rw [choX.1] at ku
    refine ⟨_, _, rfl, rfl, _, _, rfl, rfl, Nat.le_of_ble_eq_true rfl, fun b4 n_b4 => ?_⟩
    generalize e_b4 : L2.upd _ b4 _ = J18
    have s_b4 := same_of n_b4 e_b4
    have k_b4 : J18 b4 = some (.tup [.int (-4), .int (-3)]) := at_of e_b4
    clear e_b4 n_b4
    refine ⟨dI [-4, -3], dI [-4, -3], dp_I (sqt (s_b4 _ _ ku)), dp_I (sqt k_b4), shaped_dI _, shaped_dI _, _, rfl, ite_eq true ((eqv_dI _ _).trans (decide_eq_true rfl)) (iteT ?_)⟩
    have tab18 := tab15.mono ((s_a4.trans s17).trans s_b4)
    clear s_a4 s17 s_b4 ku nu k_a4 k_b4 tab15
    refine ⟨_, _, rfl, rfl, Nat.le_of_ble_eq_true rfl, fun a5 n_a5 => ?_⟩
    generalize e_a5 : L2.upd _ a5 _ = J19
    have s_a5 := same_of n_a5 e_a5
    have k_a5 : J19 a5 = some (.tup [.int (-3), .int 1]) := at_of e_a5
    clear e_a5 n_a5
    refine ⟨a5, (-3, 1), rfl, sqt k_a5, by decide, bt3 (by decide) (by decide), fun J20 u s20 nu ku => ?_⟩
    rw [choX.2] at ku
    refine ⟨_, _, rfl, rfl, Nat.le_of_ble_eq_true rfl, fun b5 n_b5 => ?_⟩
    generalize e_b5 : L2.upd _ b5 _ = J21
    have s_b5 := same_of n_b5 e_b5
    have k_b5 : J21 b5 = some (.tup [.int (-3)]) := at_of e_b5
    clear e_b5 n_b5
    refine ⟨dI [-3], dI [-3], dp_I (sqt (s_b5 _ _ ku)), dp_I (sqt k_b5), shaped_dI _, shaped_dI _, _, rfl, ite_eq true ((eqv_dI _ _).trans (decide_eq_true rfl)) (iteT ?_)⟩
    have tab21 := tab18.mono ((s_a5.trans s20).trans s_b5)
    refine ⟨_, rfl, ?_⟩
    refine ⟨Nat.le_of_ble_eq_true rfl, fun a6 n_a6 => ?_⟩
    generalize e_a6 : L2.upd _ a6 _ = J22
    have s_a6 := same_of n_a6 e_a6
    have k_a6 : J22 a6 = some (.tup []) := at_of e_a6
    clear e_a6 n_a6
    refine ⟨x, a6, kX, tX, [], rfl, tab21.mono s_a6, okX, ⟨[], sqt k_a6, trivial, fun r hr => absurd hr List.not_mem_nil, by decide⟩, fun J23 s23 => ⟨rfl, ?_⟩⟩
    rw [show firstU ((courseU kX.length tX []).drop 1) 0 = none from off0]
    exact fin J23
end
end K09
namespace K09
open PySem PySem.Spec PyProof.Rows L2 VG FR CK HD M9
abbrev i_InvalidTable : Stmt := inClass (topS 15) 0
abbrev i_InvalidLine : Stmt := inClass (topS 16) 0
abbrev i_InvalidDay : Stmt := inClass (topS 17) 0
theorem sc_initA : FnScope ["self", "at"] ["self", "at"] (defScope i_InvalidTable) := ⟨rfl, rfl, rfl, by decide +kernel, rfl, by decide +kernel, by decide +kernel⟩
theorem sc_initL : FnScope ["self", "at"] ["self", "at"] (defScope i_InvalidLine) := ⟨rfl, rfl, rfl, by decide +kernel, rfl, by decide +kernel, by decide +kernel⟩
theorem sc_initD : FnScope ["self", "at"] ["self", "at"] (defScope i_InvalidDay) := ⟨rfl, rfl, rfl, by decide +kernel, rfl, by decide +kernel, by decide +kernel⟩
section
variable {P : Program} {w : World} {K : PySem.W.Frag} {mg : Str → Option Value} {base : Heap}
theorem ok_initA {f C : Addr} {fd : FuncData} (F : Fun K "__init__" "InvalidTable.__init__" i_InvalidTable f fd) (o : OexC K C) (hw : PySem.W.findIn K (.ref C) "at" = some none) :
    FnOk P w K mg base CX0 1 f fd ["self", "at"] (spInitW K C "at") := by
  refine F.ok sc_initA (fun vs H Q E h => ?_) (fun cdv A outer s H vs Q E hr h => ?_)
  · obtain ⟨_, _, rfl, _⟩ := h
    rfl
  · obtain ⟨a, v, rfl, ha, fin⟩ := h
    refine ⟨_, pss_one (ps_ost (pv 0) (pv 1)), ?_⟩
    exact ⟨_, rfl, _, rfl, a, C, rfl, o, hw, .inl ⟨ha, fun dx n ne => fin dx n ne⟩⟩
theorem ok_initL {f C : Addr} {fd : FuncData} (F : Fun K "__init__" "InvalidLine.__init__" i_InvalidLine f fd) (o : OexC K C) (hw : PySem.W.findIn K (.ref C) "at" = some none) :
    FnOk P w K mg base CX0 1 f fd ["self", "at"] (spInitW K C "at") := by
  refine F.ok sc_initL (fun vs H Q E h => ?_) (fun cdv A outer s H vs Q E hr h => ?_)
  · obtain ⟨_, _, rfl, _⟩ := h
    rfl
  · obtain ⟨a, v, rfl, ha, fin⟩ := h
    refine ⟨_, pss_one (ps_ost (pv 0) (pv 1)), ?_⟩
    exact ⟨_, rfl, _, rfl, a, C, rfl, o, hw, .inl ⟨ha, fun dx n ne => fin dx n ne⟩⟩
theorem ok_initD {f C : Addr} {fd : FuncData} (F : Fun K "__init__" "InvalidDay.__init__" i_InvalidDay f fd) (o : OexC K C) (hw : PySem.W.findIn K (.ref C) "at" = some none) :
    FnOk P w K mg base CX0 1 f fd ["self", "at"] (spInitW K C "at") := by
  refine F.ok sc_initD (fun vs H Q E h => ?_) (fun cdv A outer s H vs Q E hr h => ?_)
  · obtain ⟨_, _, rfl, _⟩ := h
    rfl
  · obtain ⟨a, v, rfl, ha, fin⟩ := h
    refine ⟨_, pss_one (ps_ost (pv 0) (pv 1)), ?_⟩
    exact ⟨_, rfl, _, rfl, a, C, rfl, o, hw, .inl ⟨ha, fun dx n ne => fin dx n ne⟩⟩
theorem kit_own {C D : Addr} {b : Bool} (h1 : PySem.W.isClsIn K D = true) (h2 : PySem.W.typeIn K (.ref D) = some (.type "type")) (h3 : PySem.W.subIn K (.ref C) (.ref D) = some b) (h4 : C = D → b = true) :
    PySem.W.kitOne K (.ref C) (.ref D) = some b := by
  unfold PySem.W.kitOne
  by_cases e : C = D
  · have hb := h4 e
    subst e
    subst hb
    rw [if_pos (by simp)]
  · rw [if_neg (by simp [e])]
    have e1 : (PySem.W.clsIn K D).isSome = true := h1
    show (if ((PySem.W.clsIn K D).isSome && PySem.W.typeIn K (.ref D) == some (.type "type")) = true then PySem.W.subIn K (.ref C) (.ref D) else none) = some b
    rw [e1, h2, h3]
    rfl
end
theorem all_mk {l : PySem.W.OpenLaw} {w : World} {K : PySem.W.Frag} {h : Heap} {mg : Str → Option Value} {fa : Addr} (X : K.In h) (G : h.Ns mainGlobals mg) (hfa : mg "law" = some (.ref fa))
    {f0 f1 f2 f3 f4 f5 f6 f7 f8 f9 f10 f11 f12 f13 f14 f15 f16 f17 f18 f19 f20 f21 f22 f23 f24 f25 f26 f27 f28 f29 f30 f31 f32 f33 f34 f35 f36 f37 f38 f39 f40 f41 f42 f43 f44 f45 f46 f47 f48 f49 f50 f51 f52 f53 f54 f55 f56 f57 f58 f59 f60 : Addr}
    {cc55 Pt55 cc56 Pt56 cc59 Pt59 : Addr}
    {od0 an0 od1 an1 od2 an2 od3 an3 od4 an4 od5 an5 od6 an6 od7 an7 od8 an8 od9 an9 od10 an10 od11 an11 od12 an12 od13 an13 od14 an14 od15 an15 od16 an16 od17 an17 od18 an18 od19 an19 od20 an20 od21 an21 od22 an22 od23 an23 od24 an24 od25 an25 od26 an26 od27 an27 od28 an28 od29 an29 od30 an30 od31 an31 od32 an32 od33 an33 od34 an34 od35 an35 od36 an36 od37 an37 od38 an38 od39 an39 od40 an40 od41 an41 od42 an42 od43 an43 od44 an44 od45 an45 od46 an46 od47 an47 od48 an48 od49 an49 od50 an50 od51 an51 od52 an52 od53 an53 od54 an54 od55 an55 od56 an56 od57 an57 od58 an58 od59 an59 od60 an60 : Option Addr} {sl0 sl1 sl2 sl3 sl4 sl5 sl6 sl7 sl8 sl9 sl10 sl11 sl12 sl13 sl14 sl15 sl16 sl17 sl18 sl19 sl20 sl21 sl22 sl23 sl24 sl25 sl26 sl27 sl28 sl29 sl30 sl31 sl32 sl33 sl34 sl35 sl36 sl37 sl38 sl39 sl40 sl41 sl42 sl43 sl44 sl45 sl46 sl47 sl48 sl49 sl50 sl51 sl52 sl53 sl54 sl55 sl56 sl57 sl58 sl59 sl60 : Array (Option Value)}
    {oc0 kV0 dc0 pm0 cd0 ct0 oc1 kV1 dc1 pm1 cd1 ct1 oc2 kV2 dc2 pm2 cd2 ct2 oc3 kV3 dc3 pm3 cd3 ct3 oc4 kV4 dc4 pm4 cd4 ct4 oc5 kV5 dc5 pm5 cd5 ct5 oc6 kV6 dc6 pm6 cd6 ct6 oc7 kV7 dc7 pm7 cd7 ct7 oc8 kV8 dc8 pm8 cd8 ct8 oc9 kV9 dc9 pm9 cd9 ct9 oc10 kV10 dc10 pm10 cd10 ct10 oc11 kV11 dc11 pm11 cd11 ct11 oc12 kV12 dc12 pm12 cd12 ct12 oc13 kV13 dc13 pm13 cd13 ct13 oc14 kV14 dc14 pm14 cd14 ct14 oc15 kV15 dc15 pm15 cd15 ct15 oc16 kV16 dc16 pm16 cd16 ct16 oc17 kV17 dc17 pm17 cd17 ct17 oc18 kV18 dc18 pm18 cd18 ct18 oc19 kV19 dc19 pm19 cd19 ct19 oc20 kV20 dc20 pm20 cd20 ct20 oc21 kV21 dc21 pm21 cd21 ct21 oc22 kV22 dc22 pm22 cd22 ct22 oc23 kV23 dc23 pm23 cd23 ct23 oc24 kV24 dc24 pm24 cd24 ct24 oc25 kV25 dc25 pm25 cd25 ct25 oc26 kV26 dc26 pm26 cd26 ct26 oc27 kV27 dc27 pm27 cd27 ct27 oc28 kV28 dc28 pm28 cd28 ct28 oc29 kV29 dc29 pm29 cd29 ct29 oc30 kV30 dc30 pm30 cd30 ct30 oc31 kV31 dc31 pm31 cd31 ct31 oc32 kV32 dc32 pm32 cd32 ct32 oc33 kV33 dc33 pm33 cd33 ct33 oc34 kV34 dc34 pm34 cd34 ct34 oc35 kV35 dc35 pm35 cd35 ct35 oc36 kV36 dc36 pm36 cd36 ct36 oc37 kV37 dc37 pm37 cd37 ct37 oc38 kV38 dc38 pm38 cd38 ct38 oc39 kV39 dc39 pm39 cd39 ct39 oc40 kV40 dc40 pm40 cd40 ct40 oc41 kV41 dc41 pm41 cd41 ct41 oc42 kV42 dc42 pm42 cd42 ct42 oc43 kV43 dc43 pm43 cd43 ct43 oc44 kV44 dc44 pm44 cd44 ct44 oc45 kV45 dc45 pm45 cd45 ct45 oc46 kV46 dc46 pm46 cd46 ct46 oc47 kV47 dc47 pm47 cd47 ct47 oc48 kV48 dc48 pm48 cd48 ct48 oc49 kV49 dc49 pm49 cd49 ct49 oc50 kV50 dc50 pm50 cd50 ct50 oc51 kV51 dc51 pm51 cd51 ct51 oc52 kV52 dc52 pm52 cd52 ct52 oc53 kV53 dc53 pm53 cd53 ct53 oc54 kV54 dc54 pm54 cd54 ct54 oc55 kV55 dc55 pm55 ct55 oc56 kV56 dc56 pm56 ct56 oc57 kV57 dc57 pm57 cd57 ct57 oc58 kV58 dc58 pm58 cd58 ct58 oc59 kV59 dc59 pm59 ct59 oc60 kV60 dc60 pm60 cd60 ct60 : Value}
    {qc55 qc56 qc59 : Value} {qd55 qd56 qd59 : Option Addr} {vs55 vs56 vs59 : Array Value} {qs55 qs56 qs59 : Array (Option Value)}
    {TD : Addr} {ocD : Value} {odD : Option Addr} {nD : Nat} {slD : Array (Option Value)}
    (a0 : PySem.W.nsIn K mainGlobals "is_an_integer" = some (some (.ref f0)))
    (l0 : K.lookup f0 = some ⟨oc0, od0, .func (PySem.W.fnOf "is_an_integer" "is_an_integer" (defArgs s_is_an_integer) (defBody s_is_an_integer) (defScope s_is_an_integer) .none kV0 dc0 pm0 an0 cd0 ct0), sl0⟩)
    (c0 : PySem.W.codeIn K cd0 "is_an_integer" = true) (k0 : PySem.W.keepIn K (.ref f0) = true)
    (a1 : PySem.W.nsIn K mainGlobals "is_number" = some (some (.ref f1)))
    (l1 : K.lookup f1 = some ⟨oc1, od1, .func (PySem.W.fnOf "is_number" "is_number" (defArgs s_is_number) (defBody s_is_number) (defScope s_is_number) .none kV1 dc1 pm1 an1 cd1 ct1), sl1⟩)
    (c1 : PySem.W.codeIn K cd1 "is_number" = true) (k1 : PySem.W.keepIn K (.ref f1) = true)
    (a2 : PySem.W.nsIn K mainGlobals "is_number_below" = some (some (.ref f2)))
    (l2 : K.lookup f2 = some ⟨oc2, od2, .func (PySem.W.fnOf "is_number_below" "is_number_below" (defArgs s_is_number_below) (defBody s_is_number_below) (defScope s_is_number_below) .none kV2 dc2 pm2 an2 cd2 ct2), sl2⟩)
    (c2 : PySem.W.codeIn K cd2 "is_number_below" = true) (k2 : PySem.W.keepIn K (.ref f2) = true)
    (a3 : PySem.W.nsIn K mainGlobals "is_name" = some (some (.ref f3)))
    (l3 : K.lookup f3 = some ⟨oc3, od3, .func (PySem.W.fnOf "is_name" "is_name" (defArgs s_is_name) (defBody s_is_name) (defScope s_is_name) .none kV3 dc3 pm3 an3 cd3 ct3), sl3⟩)
    (c3 : PySem.W.codeIn K cd3 "is_name" = true) (k3 : PySem.W.keepIn K (.ref f3) = true)
    (a4 : PySem.W.nsIn K mainGlobals "is_tuple_of" = some (some (.ref f4)))
    (l4 : K.lookup f4 = some ⟨oc4, od4, .func (PySem.W.fnOf "is_tuple_of" "is_tuple_of" (defArgs s_is_tuple_of) (defBody s_is_tuple_of) (defScope s_is_tuple_of) .none kV4 dc4 pm4 an4 cd4 ct4), sl4⟩)
    (c4 : PySem.W.codeIn K cd4 "is_tuple_of" = true) (k4 : PySem.W.keepIn K (.ref f4) = true)
    (a5 : PySem.W.nsIn K mainGlobals "are_names" = some (some (.ref f5)))
    (l5 : K.lookup f5 = some ⟨oc5, od5, .func (PySem.W.fnOf "are_names" "are_names" (defArgs s_are_names) (defBody s_are_names) (defScope s_are_names) .none kV5 dc5 pm5 an5 cd5 ct5), sl5⟩)
    (c5 : PySem.W.codeIn K cd5 "are_names" = true) (k5 : PySem.W.keepIn K (.ref f5) = true)
    (a6 : PySem.W.nsIn K mainGlobals "are_numbers_below" = some (some (.ref f6)))
    (l6 : K.lookup f6 = some ⟨oc6, od6, .func (PySem.W.fnOf "are_numbers_below" "are_numbers_below" (defArgs s_are_numbers_below) (defBody s_are_numbers_below) (defScope s_are_numbers_below) .none kV6 dc6 pm6 an6 cd6 ct6), sl6⟩)
    (c6 : PySem.W.codeIn K cd6 "are_numbers_below" = true) (k6 : PySem.W.keepIn K (.ref f6) = true)
    (a7 : PySem.W.nsIn K mainGlobals "is_ascending" = some (some (.ref f7)))
    (l7 : K.lookup f7 = some ⟨oc7, od7, .func (PySem.W.fnOf "is_ascending" "is_ascending" (defArgs s_is_ascending) (defBody s_is_ascending) (defScope s_is_ascending) .none kV7 dc7 pm7 an7 cd7 ct7), sl7⟩)
    (c7 : PySem.W.codeIn K cd7 "is_ascending" = true) (k7 : PySem.W.keepIn K (.ref f7) = true)
    (a8 : PySem.W.nsIn K mainGlobals "is_lot_below" = some (some (.ref f8)))
    (l8 : K.lookup f8 = some ⟨oc8, od8, .func (PySem.W.fnOf "is_lot_below" "is_lot_below" (defArgs s_is_lot_below) (defBody s_is_lot_below) (defScope s_is_lot_below) .none kV8 dc8 pm8 an8 cd8 ct8), sl8⟩)
    (c8 : PySem.W.codeIn K cd8 "is_lot_below" = true) (k8 : PySem.W.keepIn K (.ref f8) = true)
    (a9 : PySem.W.nsIn K mainGlobals "is_fraction" = some (some (.ref f9)))
    (l9 : K.lookup f9 = some ⟨oc9, od9, .func (PySem.W.fnOf "is_fraction" "is_fraction" (defArgs s_is_fraction) (defBody s_is_fraction) (defScope s_is_fraction) .none kV9 dc9 pm9 an9 cd9 ct9), sl9⟩)
    (c9 : PySem.W.codeIn K cd9 "is_fraction" = true) (k9 : PySem.W.keepIn K (.ref f9) = true)
    (a10 : PySem.W.nsIn K mainGlobals "added" = some (some (.ref f10)))
    (l10 : K.lookup f10 = some ⟨oc10, od10, .func (PySem.W.fnOf "added" "added" (defArgs s_added) (defBody s_added) (defScope s_added) .none kV10 dc10 pm10 an10 cd10 ct10), sl10⟩)
    (c10 : PySem.W.codeIn K cd10 "added" = true) (k10 : PySem.W.keepIn K (.ref f10) = true)
    (a11 : PySem.W.nsIn K mainGlobals "opposite_of" = some (some (.ref f11)))
    (l11 : K.lookup f11 = some ⟨oc11, od11, .func (PySem.W.fnOf "opposite_of" "opposite_of" (defArgs s_opposite_of) (defBody s_opposite_of) (defScope s_opposite_of) .none kV11 dc11 pm11 an11 cd11 ct11), sl11⟩)
    (c11 : PySem.W.codeIn K cd11 "opposite_of" = true) (k11 : PySem.W.keepIn K (.ref f11) = true)
    (a12 : PySem.W.nsIn K mainGlobals "taken" = some (some (.ref f12)))
    (l12 : K.lookup f12 = some ⟨oc12, od12, .func (PySem.W.fnOf "taken" "taken" (defArgs s_taken) (defBody s_taken) (defScope s_taken) .none kV12 dc12 pm12 an12 cd12 ct12), sl12⟩)
    (c12 : PySem.W.codeIn K cd12 "taken" = true) (k12 : PySem.W.keepIn K (.ref f12) = true)
    (a13 : PySem.W.nsIn K mainGlobals "is_small" = some (some (.ref f13)))
    (l13 : K.lookup f13 = some ⟨oc13, od13, .func (PySem.W.fnOf "is_small" "is_small" (defArgs s_is_small) (defBody s_is_small) (defScope s_is_small) .none kV13 dc13 pm13 an13 cd13 ct13), sl13⟩)
    (c13 : PySem.W.codeIn K cd13 "is_small" = true) (k13 : PySem.W.keepIn K (.ref f13) = true)
    (a14 : PySem.W.nsIn K mainGlobals "are_small" = some (some (.ref f14)))
    (l14 : K.lookup f14 = some ⟨oc14, od14, .func (PySem.W.fnOf "are_small" "are_small" (defArgs s_are_small) (defBody s_are_small) (defScope s_are_small) .none kV14 dc14 pm14 an14 cd14 ct14), sl14⟩)
    (c14 : PySem.W.codeIn K cd14 "are_small" = true) (k14 : PySem.W.keepIn K (.ref f14) = true)
    (a15 : PySem.W.nsIn K mainGlobals "floor_of" = some (some (.ref f15)))
    (l15 : K.lookup f15 = some ⟨oc15, od15, .func (PySem.W.fnOf "floor_of" "floor_of" (defArgs s_floor_of) (defBody s_floor_of) (defScope s_floor_of) .none kV15 dc15 pm15 an15 cd15 ct15), sl15⟩)
    (c15 : PySem.W.codeIn K cd15 "floor_of" = true) (k15 : PySem.W.keepIn K (.ref f15) = true)
    (a16 : PySem.W.nsIn K mainGlobals "ceiling_of" = some (some (.ref f16)))
    (l16 : K.lookup f16 = some ⟨oc16, od16, .func (PySem.W.fnOf "ceiling_of" "ceiling_of" (defArgs s_ceiling_of) (defBody s_ceiling_of) (defScope s_ceiling_of) .none kV16 dc16 pm16 an16 cd16 ct16), sl16⟩)
    (c16 : PySem.W.codeIn K cd16 "ceiling_of" = true) (k16 : PySem.W.keepIn K (.ref f16) = true)
    (a17 : PySem.W.nsIn K mainGlobals "sum_of" = some (some (.ref f17)))
    (l17 : K.lookup f17 = some ⟨oc17, od17, .func (PySem.W.fnOf "sum_of" "sum_of" (defArgs s_sum_of) (defBody s_sum_of) (defScope s_sum_of) .none kV17 dc17 pm17 an17 cd17 ct17), sl17⟩)
    (c17 : PySem.W.codeIn K cd17 "sum_of" = true) (k17 : PySem.W.keepIn K (.ref f17) = true)
    (a18 : PySem.W.nsIn K mainGlobals "is_amount" = some (some (.ref f18)))
    (l18 : K.lookup f18 = some ⟨oc18, od18, .func (PySem.W.fnOf "is_amount" "is_amount" (defArgs s_is_amount) (defBody s_is_amount) (defScope s_is_amount) .none kV18 dc18 pm18 an18 cd18 ct18), sl18⟩)
    (c18 : PySem.W.codeIn K cd18 "is_amount" = true) (k18 : PySem.W.keepIn K (.ref f18) = true)
    (a19 : PySem.W.nsIn K mainGlobals "check_line" = some (some (.ref f19)))
    (l19 : K.lookup f19 = some ⟨oc19, od19, .func (PySem.W.fnOf "check_line" "check_line" (defArgs s_check_line) (defBody s_check_line) (defScope s_check_line) .none kV19 dc19 pm19 an19 cd19 ct19), sl19⟩)
    (c19 : PySem.W.codeIn K cd19 "check_line" = true) (k19 : PySem.W.keepIn K (.ref f19) = true)
    (a20 : PySem.W.nsIn K mainGlobals "choices" = some (some (.ref f20)))
    (l20 : K.lookup f20 = some ⟨oc20, od20, .func (PySem.W.fnOf "choices" "choices" (defArgs s_choices) (defBody s_choices) (defScope s_choices) .none kV20 dc20 pm20 an20 cd20 ct20), sl20⟩)
    (c20 : PySem.W.codeIn K cd20 "choices" = true) (k20 : PySem.W.keepIn K (.ref f20) = true)
    (a21 : PySem.W.nsIn K mainGlobals "is_rounded_line" = some (some (.ref f21)))
    (l21 : K.lookup f21 = some ⟨oc21, od21, .func (PySem.W.fnOf "is_rounded_line" "is_rounded_line" (defArgs s_is_rounded_line) (defBody s_is_rounded_line) (defScope s_is_rounded_line) .none kV21 dc21 pm21 an21 cd21 ct21), sl21⟩)
    (c21 : PySem.W.codeIn K cd21 "is_rounded_line" = true) (k21 : PySem.W.keepIn K (.ref f21) = true)
    (a22 : PySem.W.nsIn K mainGlobals "check_day" = some (some (.ref f22)))
    (l22 : K.lookup f22 = some ⟨oc22, od22, .func (PySem.W.fnOf "check_day" "check_day" (defArgs s_check_day) (defBody s_check_day) (defScope s_check_day) .none kV22 dc22 pm22 an22 cd22 ct22), sl22⟩)
    (c22 : PySem.W.codeIn K cd22 "check_day" = true) (k22 : PySem.W.keepIn K (.ref f22) = true)
    (a23 : PySem.W.nsIn K mainGlobals "error_of_line" = some (some (.ref f23)))
    (l23 : K.lookup f23 = some ⟨oc23, od23, .func (PySem.W.fnOf "error_of_line" "error_of_line" (defArgs s_error_of_line) (defBody s_error_of_line) (defScope s_error_of_line) .none kV23 dc23 pm23 an23 cd23 ct23), sl23⟩)
    (c23 : PySem.W.codeIn K cd23 "error_of_line" = true) (k23 : PySem.W.keepIn K (.ref f23) = true)
    (a24 : PySem.W.nsIn K mainGlobals "errors_behind" = some (some (.ref f24)))
    (l24 : K.lookup f24 = some ⟨oc24, od24, .func (PySem.W.fnOf "errors_behind" "errors_behind" (defArgs s_errors_behind) (defBody s_errors_behind) (defScope s_errors_behind) .none kV24 dc24 pm24 an24 cd24 ct24), sl24⟩)
    (c24 : PySem.W.codeIn K cd24 "errors_behind" = true) (k24 : PySem.W.keepIn K (.ref f24) = true)
    (a25 : PySem.W.nsIn K mainGlobals "no_errors" = some (some (.ref f25)))
    (l25 : K.lookup f25 = some ⟨oc25, od25, .func (PySem.W.fnOf "no_errors" "no_errors" (defArgs s_no_errors) (defBody s_no_errors) (defScope s_no_errors) .none kV25 dc25 pm25 an25 cd25 ct25), sl25⟩)
    (c25 : PySem.W.codeIn K cd25 "no_errors" = true) (k25 : PySem.W.keepIn K (.ref f25) = true)
    (a26 : PySem.W.nsIn K mainGlobals "errors_of" = some (some (.ref f26)))
    (l26 : K.lookup f26 = some ⟨oc26, od26, .func (PySem.W.fnOf "errors_of" "errors_of" (defArgs s_errors_of) (defBody s_errors_of) (defScope s_errors_of) .none kV26 dc26 pm26 an26 cd26 ct26), sl26⟩)
    (c26 : PySem.W.codeIn K cd26 "errors_of" = true) (k26 : PySem.W.keepIn K (.ref f26) = true)
    (a27 : PySem.W.nsIn K mainGlobals "error_of_total" = some (some (.ref f27)))
    (l27 : K.lookup f27 = some ⟨oc27, od27, .func (PySem.W.fnOf "error_of_total" "error_of_total" (defArgs s_error_of_total) (defBody s_error_of_total) (defScope s_error_of_total) .none kV27 dc27 pm27 an27 cd27 ct27), sl27⟩)
    (c27 : PySem.W.codeIn K cd27 "error_of_total" = true) (k27 : PySem.W.keepIn K (.ref f27) = true)
    (a28 : PySem.W.nsIn K mainGlobals "totals_by" = some (some (.ref f28)))
    (l28 : K.lookup f28 = some ⟨oc28, od28, .func (PySem.W.fnOf "totals_by" "totals_by" (defArgs s_totals_by) (defBody s_totals_by) (defScope s_totals_by) .none kV28 dc28 pm28 an28 cd28 ct28), sl28⟩)
    (c28 : PySem.W.codeIn K cd28 "totals_by" = true) (k28 : PySem.W.keepIn K (.ref f28) = true)
    (a29 : PySem.W.nsIn K mainGlobals "total_errors" = some (some (.ref f29)))
    (l29 : K.lookup f29 = some ⟨oc29, od29, .func (PySem.W.fnOf "total_errors" "total_errors" (defArgs s_total_errors) (defBody s_total_errors) (defScope s_total_errors) .none kV29 dc29 pm29 an29 cd29 ct29), sl29⟩)
    (c29 : PySem.W.codeIn K cd29 "total_errors" = true) (k29 : PySem.W.keepIn K (.ref f29) = true)
    (a30 : PySem.W.nsIn K mainGlobals "totals_behind" = some (some (.ref f30)))
    (l30 : K.lookup f30 = some ⟨oc30, od30, .func (PySem.W.fnOf "totals_behind" "totals_behind" (defArgs s_totals_behind) (defBody s_totals_behind) (defScope s_totals_behind) .none kV30 dc30 pm30 an30 cd30 ct30), sl30⟩)
    (c30 : PySem.W.codeIn K cd30 "totals_behind" = true) (k30 : PySem.W.keepIn K (.ref f30) = true)
    (a31 : PySem.W.nsIn K mainGlobals "course_of" = some (some (.ref f31)))
    (l31 : K.lookup f31 = some ⟨oc31, od31, .func (PySem.W.fnOf "course_of" "course_of" (defArgs s_course_of) (defBody s_course_of) (defScope s_course_of) .none kV31 dc31 pm31 an31 cd31 ct31), sl31⟩)
    (c31 : PySem.W.codeIn K cd31 "course_of" = true) (k31 : PySem.W.keepIn K (.ref f31) = true)
    (a32 : PySem.W.nsIn K mainGlobals "first_off" = some (some (.ref f32)))
    (l32 : K.lookup f32 = some ⟨oc32, od32, .func (PySem.W.fnOf "first_off" "first_off" (defArgs s_first_off) (defBody s_first_off) (defScope s_first_off) .none kV32 dc32 pm32 an32 cd32 ct32), sl32⟩)
    (c32 : PySem.W.codeIn K cd32 "first_off" = true) (k32 : PySem.W.keepIn K (.ref f32) = true)
    (a33 : PySem.W.nsIn K mainGlobals "is_day" = some (some (.ref f33)))
    (l33 : K.lookup f33 = some ⟨oc33, od33, .func (PySem.W.fnOf "is_day" "is_day" (defArgs s_is_day) (defBody s_is_day) (defScope s_is_day) (.ref TD) kV33 dc33 pm33 an33 cd33 ct33), sl33⟩)
    (c33 : PySem.W.codeIn K cd33 "is_day" = true) (k33 : PySem.W.keepIn K (.ref f33) = true)
    (a34 : PySem.W.nsIn K mainGlobals "check_kinds" = some (some (.ref f34)))
    (l34 : K.lookup f34 = some ⟨oc34, od34, .func (PySem.W.fnOf "check_kinds" "check_kinds" (defArgs s_check_kinds) (defBody s_check_kinds) (defScope s_check_kinds) .none kV34 dc34 pm34 an34 cd34 ct34), sl34⟩)
    (c34 : PySem.W.codeIn K cd34 "check_kinds" = true) (k34 : PySem.W.keepIn K (.ref f34) = true)
    (a35 : PySem.W.nsIn K mainGlobals "check_totals" = some (some (.ref f35)))
    (l35 : K.lookup f35 = some ⟨oc35, od35, .func (PySem.W.fnOf "check_totals" "check_totals" (defArgs s_check_totals) (defBody s_check_totals) (defScope s_check_totals) .none kV35 dc35 pm35 an35 cd35 ct35), sl35⟩)
    (c35 : PySem.W.codeIn K cd35 "check_totals" = true) (k35 : PySem.W.keepIn K (.ref f35) = true)
    (a36 : PySem.W.nsIn K mainGlobals "_law_heap" = some (some (.ref f36)))
    (l36 : K.lookup f36 = some ⟨oc36, od36, .func (PySem.W.fnOf "_law_heap" "_law_heap" (defArgs s__law_heap) (defBody s__law_heap) (defScope s__law_heap) .none kV36 dc36 pm36 an36 cd36 ct36), sl36⟩)
    (c36 : PySem.W.codeIn K cd36 "_law_heap" = true) (k36 : PySem.W.keepIn K (.ref f36) = true)
    (a37 : PySem.W.nsIn K mainGlobals "_law_draw" = some (some (.ref f37)))
    (l37 : K.lookup f37 = some ⟨oc37, od37, .func (PySem.W.fnOf "_law_draw" "_law_draw" (defArgs s__law_draw) (defBody s__law_draw) (defScope s__law_draw) .none kV37 dc37 pm37 an37 cd37 ct37), sl37⟩)
    (c37 : PySem.W.codeIn K cd37 "_law_draw" = true) (k37 : PySem.W.keepIn K (.ref f37) = true)
    (a38 : PySem.W.nsIn K mainGlobals "_law_pick" = some (some (.ref f38)))
    (l38 : K.lookup f38 = some ⟨oc38, od38, .func (PySem.W.fnOf "_law_pick" "_law_pick" (defArgs s__law_pick) (defBody s__law_pick) (defScope s__law_pick) .none kV38 dc38 pm38 an38 cd38 ct38), sl38⟩)
    (c38 : PySem.W.codeIn K cd38 "_law_pick" = true) (k38 : PySem.W.keepIn K (.ref f38) = true)
    (a39 : PySem.W.nsIn K mainGlobals "_law_names" = some (some (.ref f39)))
    (l39 : K.lookup f39 = some ⟨oc39, od39, .func (PySem.W.fnOf "_law_names" "_law_names" (defArgs s__law_names) (defBody s__law_names) (defScope s__law_names) .none kV39 dc39 pm39 an39 cd39 ct39), sl39⟩)
    (c39 : PySem.W.codeIn K cd39 "_law_names" = true) (k39 : PySem.W.keepIn K (.ref f39) = true)
    (a40 : PySem.W.nsIn K mainGlobals "_law_totals" = some (some (.ref f40)))
    (l40 : K.lookup f40 = some ⟨oc40, od40, .func (PySem.W.fnOf "_law_totals" "_law_totals" (defArgs s__law_totals) (defBody s__law_totals) (defScope s__law_totals) .none kV40 dc40 pm40 an40 cd40 ct40), sl40⟩)
    (c40 : PySem.W.codeIn K cd40 "_law_totals" = true) (k40 : PySem.W.keepIn K (.ref f40) = true)
    (a41 : PySem.W.nsIn K mainGlobals "_law_fraction" = some (some (.ref f41)))
    (l41 : K.lookup f41 = some ⟨oc41, od41, .func (PySem.W.fnOf "_law_fraction" "_law_fraction" (defArgs s__law_fraction) (defBody s__law_fraction) (defScope s__law_fraction) .none kV41 dc41 pm41 an41 cd41 ct41), sl41⟩)
    (c41 : PySem.W.codeIn K cd41 "_law_fraction" = true) (k41 : PySem.W.keepIn K (.ref f41) = true)
    (a42 : PySem.W.nsIn K mainGlobals "_law_choices" = some (some (.ref f42)))
    (l42 : K.lookup f42 = some ⟨oc42, od42, .func (PySem.W.fnOf "_law_choices" "_law_choices" (defArgs s__law_choices) (defBody s__law_choices) (defScope s__law_choices) .none kV42 dc42 pm42 an42 cd42 ct42), sl42⟩)
    (c42 : PySem.W.codeIn K cd42 "_law_choices" = true) (k42 : PySem.W.keepIn K (.ref f42) = true)
    (a43 : PySem.W.nsIn K mainGlobals "_law_sum" = some (some (.ref f43)))
    (l43 : K.lookup f43 = some ⟨oc43, od43, .func (PySem.W.fnOf "_law_sum" "_law_sum" (defArgs s__law_sum) (defBody s__law_sum) (defScope s__law_sum) .none kV43 dc43 pm43 an43 cd43 ct43), sl43⟩)
    (c43 : PySem.W.codeIn K cd43 "_law_sum" = true) (k43 : PySem.W.keepIn K (.ref f43) = true)
    (a44 : PySem.W.nsIn K mainGlobals "_law_amount" = some (some (.ref f44)))
    (l44 : K.lookup f44 = some ⟨oc44, od44, .func (PySem.W.fnOf "_law_amount" "_law_amount" (defArgs s__law_amount) (defBody s__law_amount) (defScope s__law_amount) .none kV44 dc44 pm44 an44 cd44 ct44), sl44⟩)
    (c44 : PySem.W.codeIn K cd44 "_law_amount" = true) (k44 : PySem.W.keepIn K (.ref f44) = true)
    (a45 : PySem.W.nsIn K mainGlobals "_law_small" = some (some (.ref f45)))
    (l45 : K.lookup f45 = some ⟨oc45, od45, .func (PySem.W.fnOf "_law_small" "_law_small" (defArgs s__law_small) (defBody s__law_small) (defScope s__law_small) .none kV45 dc45 pm45 an45 cd45 ct45), sl45⟩)
    (c45 : PySem.W.codeIn K cd45 "_law_small" = true) (k45 : PySem.W.keepIn K (.ref f45) = true)
    (a46 : PySem.W.nsIn K mainGlobals "_law_sums" = some (some (.ref f46)))
    (l46 : K.lookup f46 = some ⟨oc46, od46, .func (PySem.W.fnOf "_law_sums" "_law_sums" (defArgs s__law_sums) (defBody s__law_sums) (defScope s__law_sums) .none kV46 dc46 pm46 an46 cd46 ct46), sl46⟩)
    (c46 : PySem.W.codeIn K cd46 "_law_sums" = true) (k46 : PySem.W.keepIn K (.ref f46) = true)
    (a47 : PySem.W.nsIn K mainGlobals "_law_behind" = some (some (.ref f47)))
    (l47 : K.lookup f47 = some ⟨oc47, od47, .func (PySem.W.fnOf "_law_behind" "_law_behind" (defArgs s__law_behind) (defBody s__law_behind) (defScope s__law_behind) .none kV47 dc47 pm47 an47 cd47 ct47), sl47⟩)
    (c47 : PySem.W.codeIn K cd47 "_law_behind" = true) (k47 : PySem.W.keepIn K (.ref f47) = true)
    (a48 : PySem.W.nsIn K mainGlobals "_law_day" = some (some (.ref f48)))
    (l48 : K.lookup f48 = some ⟨oc48, od48, .func (PySem.W.fnOf "_law_day" "_law_day" (defArgs s__law_day) (defBody s__law_day) (defScope s__law_day) .none kV48 dc48 pm48 an48 cd48 ct48), sl48⟩)
    (c48 : PySem.W.codeIn K cd48 "_law_day" = true) (k48 : PySem.W.keepIn K (.ref f48) = true)
    (a49 : PySem.W.nsIn K mainGlobals "_law_integer" = some (some (.ref f49)))
    (l49 : K.lookup f49 = some ⟨oc49, od49, .func (PySem.W.fnOf "_law_integer" "_law_integer" (defArgs s__law_integer) (defBody s__law_integer) (defScope s__law_integer) .none kV49 dc49 pm49 an49 cd49 ct49), sl49⟩)
    (c49 : PySem.W.codeIn K cd49 "_law_integer" = true) (k49 : PySem.W.keepIn K (.ref f49) = true)
    (a50 : PySem.W.nsIn K mainGlobals "_law_line_fault" = some (some (.ref f50)))
    (l50 : K.lookup f50 = some ⟨oc50, od50, .func (PySem.W.fnOf "_law_line_fault" "_law_line_fault" (defArgs s__law_line_fault) (defBody s__law_line_fault) (defScope s__law_line_fault) .none kV50 dc50 pm50 an50 cd50 ct50), sl50⟩)
    (c50 : PySem.W.codeIn K cd50 "_law_line_fault" = true) (k50 : PySem.W.keepIn K (.ref f50) = true)
    (a51 : PySem.W.nsIn K mainGlobals "_law_day_fault" = some (some (.ref f51)))
    (l51 : K.lookup f51 = some ⟨oc51, od51, .func (PySem.W.fnOf "_law_day_fault" "_law_day_fault" (defArgs s__law_day_fault) (defBody s__law_day_fault) (defScope s__law_day_fault) .none kV51 dc51 pm51 an51 cd51 ct51), sl51⟩)
    (c51 : PySem.W.codeIn K cd51 "_law_day_fault" = true) (k51 : PySem.W.keepIn K (.ref f51) = true)
    (a52 : PySem.W.nsIn K mainGlobals "_law_odd_line" = some (some (.ref f52)))
    (l52 : K.lookup f52 = some ⟨oc52, od52, .func (PySem.W.fnOf "_law_odd_line" "_law_odd_line" (defArgs s__law_odd_line) (defBody s__law_odd_line) (defScope s__law_odd_line) .none kV52 dc52 pm52 an52 cd52 ct52), sl52⟩)
    (c52 : PySem.W.codeIn K cd52 "_law_odd_line" = true) (k52 : PySem.W.keepIn K (.ref f52) = true)
    (a53 : PySem.W.nsIn K mainGlobals "_law_odd_day" = some (some (.ref f53)))
    (l53 : K.lookup f53 = some ⟨oc53, od53, .func (PySem.W.fnOf "_law_odd_day" "_law_odd_day" (defArgs s__law_odd_day) (defBody s__law_odd_day) (defScope s__law_odd_day) .none kV53 dc53 pm53 an53 cd53 ct53), sl53⟩)
    (c53 : PySem.W.codeIn K cd53 "_law_odd_day" = true) (k53 : PySem.W.keepIn K (.ref f53) = true)
    (a54 : PySem.W.nsIn K mainGlobals "_law_heard" = some (some (.ref f54)))
    (l54 : K.lookup f54 = some ⟨oc54, od54, .func (PySem.W.fnOf "_law_heard" "_law_heard" (defArgs s__law_heard) (defBody s__law_heard) (defScope s__law_heard) .none kV54 dc54 pm54 an54 cd54 ct54), sl54⟩)
    (c54 : PySem.W.codeIn K cd54 "_law_heard" = true) (k54 : PySem.W.keepIn K (.ref f54) = true)
    (a55 : PySem.W.nsIn K mainGlobals "_law_line_right" = some (some (.ref f55)))
    (l55 : K.lookup f55 = some ⟨oc55, od55, .func (PySem.W.fnOf "_law_line_right" "_law_line_right" (defArgs s__law_line_right) (defBody s__law_line_right) (defScope s__law_line_right) .none kV55 dc55 pm55 an55 (.ref cc55) ct55), sl55⟩)
    (c55 : PySem.W.codeIn K (.ref cc55) "_law_line_right" = true) (k55 : PySem.W.keepIn K (.ref f55) = true)
    (a56 : PySem.W.nsIn K mainGlobals "_law_checked_right" = some (some (.ref f56)))
    (l56 : K.lookup f56 = some ⟨oc56, od56, .func (PySem.W.fnOf "_law_checked_right" "_law_checked_right" (defArgs s__law_checked_right) (defBody s__law_checked_right) (defScope s__law_checked_right) .none kV56 dc56 pm56 an56 (.ref cc56) ct56), sl56⟩)
    (c56 : PySem.W.codeIn K (.ref cc56) "_law_checked_right" = true) (k56 : PySem.W.keepIn K (.ref f56) = true)
    (a57 : PySem.W.nsIn K mainGlobals "_law_first_off" = some (some (.ref f57)))
    (l57 : K.lookup f57 = some ⟨oc57, od57, .func (PySem.W.fnOf "_law_first_off" "_law_first_off" (defArgs s__law_first_off) (defBody s__law_first_off) (defScope s__law_first_off) .none kV57 dc57 pm57 an57 cd57 ct57), sl57⟩)
    (c57 : PySem.W.codeIn K cd57 "_law_first_off" = true) (k57 : PySem.W.keepIn K (.ref f57) = true)
    (a58 : PySem.W.nsIn K mainGlobals "_law_right" = some (some (.ref f58)))
    (l58 : K.lookup f58 = some ⟨oc58, od58, .func (PySem.W.fnOf "_law_right" "_law_right" (defArgs s__law_right) (defBody s__law_right) (defScope s__law_right) .none kV58 dc58 pm58 an58 cd58 ct58), sl58⟩)
    (c58 : PySem.W.codeIn K cd58 "_law_right" = true) (k58 : PySem.W.keepIn K (.ref f58) = true)
    (a59 : PySem.W.nsIn K mainGlobals "_law_long_right" = some (some (.ref f59)))
    (l59 : K.lookup f59 = some ⟨oc59, od59, .func (PySem.W.fnOf "_law_long_right" "_law_long_right" (defArgs s__law_long_right) (defBody s__law_long_right) (defScope s__law_long_right) .none kV59 dc59 pm59 an59 (.ref cc59) ct59), sl59⟩)
    (c59 : PySem.W.codeIn K (.ref cc59) "_law_long_right" = true) (k59 : PySem.W.keepIn K (.ref f59) = true)
    (a60 : PySem.W.nsIn K mainGlobals "law" = some (some (.ref f60)))
    (l60 : K.lookup f60 = some ⟨oc60, od60, .func (PySem.W.fnOf "law" "law" (defArgs s_law) (defBody s_law) (defScope s_law) .none kV60 dc60 pm60 an60 cd60 ct60), sl60⟩)
    (c60 : PySem.W.codeIn K cd60 "law" = true) (k60 : PySem.W.keepIn K (.ref f60) = true)
    (lTD : K.lookup TD = some ⟨ocD, odD, .seq #[.bool true] nD, slD⟩)
    (x55 : K.lookup cc55 = some ⟨qc55, qd55, .fields vs55, qs55⟩) (p55 : (vs55[11]? : Option Value) = some (.ref Pt55)) (h55 : PySem.W.CodeHd h cc55 Pt55) (t55 : h.get? Pt55 = some blankT) (n55 : K.lookup Pt55 = none)
    (x56 : K.lookup cc56 = some ⟨qc56, qd56, .fields vs56, qs56⟩) (p56 : (vs56[11]? : Option Value) = some (.ref Pt56)) (h56 : PySem.W.CodeHd h cc56 Pt56) (t56 : h.get? Pt56 = some blankT) (n56 : K.lookup Pt56 = none)
    (x59 : K.lookup cc59 = some ⟨qc59, qd59, .fields vs59, qs59⟩) (p59 : (vs59[11]? : Option Value) = some (.ref Pt59)) (h59 : PySem.W.CodeHd h cc59 Pt59) (t59 : h.get? Pt59 = some blankT) (n59 : K.lookup Pt59 = none)
    (ne55_56 : Pt55 ≠ Pt56)
    (ne55_59 : Pt55 ≠ Pt59)
    (ne56_59 : Pt56 ≠ Pt59)
    {Ct CA EA fIA : Addr} {nmA qA : Str} {bsA : List Value} {snA : List Str} {subA : List Value} {abA : Bool} {colA : Option Bool} {ddA : Option Addr} {m0A m1A m2A m3A m5A : Option Value}
    {odIA anIA : Option Addr} {slIA : Array (Option Value)} {ocIA kVIA dcIA pmIA cdIA ctIA : Value}
    (aCA : PySem.W.nsIn K mainGlobals "InvalidTable" = some (some (.ref CA)))
    (xLA : K.lookup CA = some (excClassObj nmA qA CA EA bsA [.ref Ct, .type "ValueError", .type "Exception", .type "BaseException", .type "object"] true snA subA abA colA ddA m0A m1A m2A m3A m5A "ValueError.__new__"))
    (saA : PySem.W.findIn K (.ref CA) "__setattr__" = some (some (.builtin "object.__setattr__"))) (nwA : PySem.W.findIn K (.ref CA) "at" = some none)
    (iIA : PySem.W.findIn K (.ref CA) "__init__" = some (some (.ref fIA))) (tIA : PySem.W.typeIn K (.ref fIA) = some (.type "function"))
    (lIA : K.lookup fIA = some ⟨ocIA, odIA, .func (PySem.W.fnOf "__init__" "InvalidTable.__init__" (defArgs i_InvalidTable) (defBody i_InvalidTable) (defScope i_InvalidTable) .none kVIA dcIA pmIA anIA cdIA ctIA), slIA⟩) (cIA : PySem.W.codeIn K cdIA "InvalidTable.__init__" = true) (kIA : PySem.W.keepIn K (.ref fIA) = true)
    (kCA : PySem.W.keepIn K (.ref CA) = true) (eCA : PySem.W.subIn K (.ref CA) (.type "BaseException") = some true) (tCA : PySem.W.typeIn K (.ref CA) = some (.type "type"))
    {CL EL fIL : Addr} {nmL qL : Str} {bsL : List Value} {snL : List Str} {subL : List Value} {abL : Bool} {colL : Option Bool} {ddL : Option Addr} {m0L m1L m2L m3L m5L : Option Value}
    {odIL anIL : Option Addr} {slIL : Array (Option Value)} {ocIL kVIL dcIL pmIL cdIL ctIL : Value}
    (aCL : PySem.W.nsIn K mainGlobals "InvalidLine" = some (some (.ref CL)))
    (xLL : K.lookup CL = some (excClassObj nmL qL CL EL bsL [.ref Ct, .type "ValueError", .type "Exception", .type "BaseException", .type "object"] true snL subL abL colL ddL m0L m1L m2L m3L m5L "ValueError.__new__"))
    (saL : PySem.W.findIn K (.ref CL) "__setattr__" = some (some (.builtin "object.__setattr__"))) (nwL : PySem.W.findIn K (.ref CL) "at" = some none)
    (iIL : PySem.W.findIn K (.ref CL) "__init__" = some (some (.ref fIL))) (tIL : PySem.W.typeIn K (.ref fIL) = some (.type "function"))
    (lIL : K.lookup fIL = some ⟨ocIL, odIL, .func (PySem.W.fnOf "__init__" "InvalidLine.__init__" (defArgs i_InvalidLine) (defBody i_InvalidLine) (defScope i_InvalidLine) .none kVIL dcIL pmIL anIL cdIL ctIL), slIL⟩) (cIL : PySem.W.codeIn K cdIL "InvalidLine.__init__" = true) (kIL : PySem.W.keepIn K (.ref fIL) = true)
    (kCL : PySem.W.keepIn K (.ref CL) = true) (eCL : PySem.W.subIn K (.ref CL) (.type "BaseException") = some true) (tCL : PySem.W.typeIn K (.ref CL) = some (.type "type"))
    {CD ED fID : Addr} {nmD qD : Str} {bsD : List Value} {snD : List Str} {subD : List Value} {abD : Bool} {colD : Option Bool} {ddD : Option Addr} {m0D m1D m2D m3D m5D : Option Value}
    {odID anID : Option Addr} {slID : Array (Option Value)} {ocID kVID dcID pmID cdID ctID : Value}
    (aCD : PySem.W.nsIn K mainGlobals "InvalidDay" = some (some (.ref CD)))
    (xLD : K.lookup CD = some (excClassObj nmD qD CD ED bsD [.ref Ct, .type "ValueError", .type "Exception", .type "BaseException", .type "object"] true snD subD abD colD ddD m0D m1D m2D m3D m5D "ValueError.__new__"))
    (saD : PySem.W.findIn K (.ref CD) "__setattr__" = some (some (.builtin "object.__setattr__"))) (nwD : PySem.W.findIn K (.ref CD) "at" = some none)
    (iID : PySem.W.findIn K (.ref CD) "__init__" = some (some (.ref fID))) (tID : PySem.W.typeIn K (.ref fID) = some (.type "function"))
    (lID : K.lookup fID = some ⟨ocID, odID, .func (PySem.W.fnOf "__init__" "InvalidDay.__init__" (defArgs i_InvalidDay) (defBody i_InvalidDay) (defScope i_InvalidDay) .none kVID dcID pmID anID cdID ctID), slID⟩) (cID : PySem.W.codeIn K cdID "InvalidDay.__init__" = true) (kID : PySem.W.keepIn K (.ref fID) = true)
    (kCD : PySem.W.keepIn K (.ref CD) = true) (eCD : PySem.W.subIn K (.ref CD) (.type "BaseException") = some true) (tCD : PySem.W.typeIn K (.ref CD) = some (.type "type"))
    (aE : PySem.W.nsIn K mainGlobals "TillError" = some (some (.ref Ct)))
    (xa : PySem.W.findIn K (.ref CL) "__class__" = some (some (.builtin "object.__class__"))) (xaD : PySem.W.findIn K (.ref CD) "__class__" = some (some (.builtin "object.__class__"))) (xn : PySem.W.specialIn K (.builtin "object.__class__") "__get__" = some (some (.builtin "getset_descriptor.__get__"))) (xt : PySem.W.takesIn K (.builtin "object.__class__") = some true)
    (isE : PySem.W.isClsIn K Ct = true) (isD : PySem.W.isClsIn K CD = true) (tE : PySem.W.typeIn K (.ref Ct) = some (.type "type"))
    (sLD : PySem.W.subIn K (.ref CL) (.ref CD) = some false) (sDL : PySem.W.subIn K (.ref CD) (.ref CL) = some false)
    (gaL : PySem.W.findIn K (.ref CL) "__getattribute__" = some (some (.builtin "BaseException.__getattribute__"))) (ggL : PySem.W.findIn K (.ref CL) "__getattr__" = some none) (hCL : PySem.W.hasDictIn K CL = true) (sCL : PySem.W.subIn K (.ref CL) (.ref CL) = some true)
    (xmL : PySem.W.mroIn K CL (.type "object") = some true) (sTL : PySem.W.subIn K (.ref CL) (.ref Ct) = some true)
    (gaD : PySem.W.findIn K (.ref CD) "__getattribute__" = some (some (.builtin "BaseException.__getattribute__"))) (ggD : PySem.W.findIn K (.ref CD) "__getattr__" = some none) (hCD : PySem.W.hasDictIn K CD = true) (sCD : PySem.W.subIn K (.ref CD) (.ref CD) = some true)
    (xmD : PySem.W.mroIn K CD (.type "object") = some true) (sTD : PySem.W.subIn K (.ref CD) (.ref Ct) = some true)
    {CT fT zz : Addr} {odT anT : Option Addr} {slT : Array (Option Value)} {ocT kVT dcT pmT cdT ctT : Value} {zd : Option Addr} {zt1 zt2 tk1 tk2 tk3 tk4 tk5 tkL : Tok} {zn : Nat} {zsl : Array (Option Value)}
    (aT : PySem.W.nsIn K mainGlobals "Table" = some (some (.ref CT)))
    (iT : PySem.W.findIn K (.ref CT) "__init__" = some (some (.ref fT))) (jT : PySem.W.isFn K (.ref fT) = true)
    (lT : K.lookup fT = some ⟨ocT, odT, .func (PySem.W.fnOf "__init__" "Table.__init__" (defArgs i_Table) (defBody i_Table) (defScope i_Table) .none kVT dcT pmT anT cdT ctT), slT⟩) (cT : PySem.W.codeIn K cdT "Table.__init__" = true) (kT : PySem.W.keepIn K (.ref fT) = true)
    (pgT : PySem.W.plainGet K CT Str.empty = true) (hdT : PySem.W.hasDictIn K CT = true) (poT : PySem.W.plainOver K CT = true) (saT : PySem.W.findIn K (.ref CT) "__setattr__" = some (some (.builtin "object.__setattr__"))) (mkT : PySem.W.makesIn K CT = true) (kcT : PySem.W.keepIn K (.ref CT) = true)
    (nkT : PySem.W.findIn K (.ref CT) "kinds" = some none) (ntT : PySem.W.findIn K (.ref CT) "totals" = some none)
    (mL : PySem.W.nsIn K mainGlobals "LETTERS" = some (some (.str cLETTERS tkL))) (m1 : PySem.W.nsIn K mainGlobals "LONGEST_NAME" = some (some (.int 6 tk1)))
    (m2 : PySem.W.nsIn K mainGlobals "MOST_KINDS" = some (some (.int 12 tk2))) (m3 : PySem.W.nsIn K mainGlobals "MOST_TOTALS" = some (some (.int 12 tk3)))
    (m4 : PySem.W.nsIn K mainGlobals "MILLION" = some (some (.int 1000000 tk4))) (m5 : PySem.W.nsIn K mainGlobals "MOST_LINES" = some (some (.int 400 tk5)))
    (aZ : PySem.W.nsIn K mainGlobals "ZERO" = some (some (.ref zz))) (zL : K.lookup zz = some ⟨.type "tuple", zd, .seq #[.int 0 zt1, .int 1 zt2] zn, zsl⟩)
    (aG : PySem.W.nsIn K mainGlobals "gcd" = some (some (.builtin "math.gcd")))
    (z_isinstance : PySem.W.nsIn K mainGlobals "isinstance" = some none)
    (z_int : PySem.W.nsIn K mainGlobals "int" = some none)
    (z_bool : PySem.W.nsIn K mainGlobals "bool" = some none)
    (z_str : PySem.W.nsIn K mainGlobals "str" = some none)
    (z_tuple : PySem.W.nsIn K mainGlobals "tuple" = some none)
    (z_list : PySem.W.nsIn K mainGlobals "list" = some none)
    (z_len : PySem.W.nsIn K mainGlobals "len" = some none)
    (z_abs : PySem.W.nsIn K mainGlobals "abs" = some none)
    (z_range : PySem.W.nsIn K mainGlobals "range" = some none)
    (z_zip : PySem.W.nsIn K mainGlobals "zip" = some none)
    (z_all : PySem.W.nsIn K mainGlobals "all" = some none)
    (z_repr : PySem.W.nsIn K mainGlobals "repr" = some none)
    (z_enumerate : PySem.W.nsIn K mainGlobals "enumerate" = some none)
    (z_sorted : PySem.W.nsIn K mainGlobals "sorted" = some none)
    : LawGT l w K 17 63 "script" mg fa h := by
  have e := hfa.symm.trans (PySem.W.mg_of X G a60)
  cases e
  have F0 := fun_mk (st := s_is_an_integer) l0 c0 k0
  have F1 := fun_mk (st := s_is_number) l1 c1 k1
  have F2 := fun_mk (st := s_is_number_below) l2 c2 k2
  have F3 := fun_mk (st := s_is_name) l3 c3 k3
  have F4 := fun_mk (st := s_is_tuple_of) l4 c4 k4
  have F5 := fun_mk (st := s_are_names) l5 c5 k5
  have F6 := fun_mk (st := s_are_numbers_below) l6 c6 k6
  have F7 := fun_mk (st := s_is_ascending) l7 c7 k7
  have F8 := fun_mk (st := s_is_lot_below) l8 c8 k8
  have F9 := fun_mk (st := s_is_fraction) l9 c9 k9
  have F10 := fun_mk (st := s_added) l10 c10 k10
  have F11 := fun_mk (st := s_opposite_of) l11 c11 k11
  have F12 := fun_mk (st := s_taken) l12 c12 k12
  have F13 := fun_mk (st := s_is_small) l13 c13 k13
  have F14 := fun_mk (st := s_are_small) l14 c14 k14
  have F15 := fun_mk (st := s_floor_of) l15 c15 k15
  have F16 := fun_mk (st := s_ceiling_of) l16 c16 k16
  have F17 := fun_mk (st := s_sum_of) l17 c17 k17
  have F18 := fun_mk (st := s_is_amount) l18 c18 k18
  have F19 := fun_mk (st := s_check_line) l19 c19 k19
  have F20 := fun_mk (st := s_choices) l20 c20 k20
  have F21 := fun_mk (st := s_is_rounded_line) l21 c21 k21
  have F22 := fun_mk (st := s_check_day) l22 c22 k22
  have F23 := fun_mk (st := s_error_of_line) l23 c23 k23
  have F24 := fun_mk (st := s_errors_behind) l24 c24 k24
  have F25 := fun_mk (st := s_no_errors) l25 c25 k25
  have F26 := fun_mk (st := s_errors_of) l26 c26 k26
  have F27 := fun_mk (st := s_error_of_total) l27 c27 k27
  have F28 := fun_mk (st := s_totals_by) l28 c28 k28
  have F29 := fun_mk (st := s_total_errors) l29 c29 k29
  have F30 := fun_mk (st := s_totals_behind) l30 c30 k30
  have F31 := fun_mk (st := s_course_of) l31 c31 k31
  have F32 := fun_mk (st := s_first_off) l32 c32 k32
  have F33 : C8.Fun K "is_day" "is_day" s_is_day f33 _ := ⟨⟨oc33, od33, .ref TD, kV33, dc33, pm33, an33, cd33, ct33, sl33, rfl, l33, c33⟩⟩
  have FD33 : FunD K "is_day" "is_day" (defArgs s_is_day) (defBody s_is_day) (defScope s_is_day) [.bl true] [] f33 (PySem.W.fnOf "is_day" "is_day" (defArgs s_is_day) (defBody s_is_day) (defScope s_is_day) (.ref TD) kV33 dc33 pm33 an33 cd33 ct33) := ⟨⟨oc33, od33, .ref TD, kV33, dc33, pm33, an33, cd33, ct33, sl33, rfl, l33, c33, .inr ⟨by simp, TD, _, [.bool true], nD, rfl, lTD, rfl, .cons rfl .nil⟩, .inl rfl⟩, k33⟩
  have F34 := fun_mk (st := s_check_kinds) l34 c34 k34
  have F35 := fun_mk (st := s_check_totals) l35 c35 k35
  have F36 := fun_mk (st := s__law_heap) l36 c36 k36
  have F37 := fun_mk (st := s__law_draw) l37 c37 k37
  have F38 := fun_mk (st := s__law_pick) l38 c38 k38
  have F39 := fun_mk (st := s__law_names) l39 c39 k39
  have F40 := fun_mk (st := s__law_totals) l40 c40 k40
  have F41 := fun_mk (st := s__law_fraction) l41 c41 k41
  have F42 := fun_mk (st := s__law_choices) l42 c42 k42
  have F43 := fun_mk (st := s__law_sum) l43 c43 k43
  have F44 := fun_mk (st := s__law_amount) l44 c44 k44
  have F45 := fun_mk (st := s__law_small) l45 c45 k45
  have F46 := fun_mk (st := s__law_sums) l46 c46 k46
  have F47 := fun_mk (st := s__law_behind) l47 c47 k47
  have F48 := fun_mk (st := s__law_day) l48 c48 k48
  have F49 := fun_mk (st := s__law_integer) l49 c49 k49
  have F50 := fun_mk (st := s__law_line_fault) l50 c50 k50
  have F51 := fun_mk (st := s__law_day_fault) l51 c51 k51
  have F52 := fun_mk (st := s__law_odd_line) l52 c52 k52
  have F53 := fun_mk (st := s__law_odd_day) l53 c53 k53
  have F54 := fun_mk (st := s__law_heard) l54 c54 k54
  have F55 := funC_mk (st := s__law_line_right) l55 c55 k55
  have F56 := funC_mk (st := s__law_checked_right) l56 c56 k56
  have F57 := fun_mk (st := s__law_first_off) l57 c57 k57
  have F58 := fun_mk (st := s__law_right) l58 c58 k58
  have F59 := funC_mk (st := s__law_long_right) l59 c59 k59
  have F60 := fun_mk (st := s_law) l60 c60 k60
  have FIA := fun_mk (st := i_InvalidTable) lIA cIA kIA
  have FIL := fun_mk (st := i_InvalidLine) lIL cIL kIL
  have FID := fun_mk (st := i_InvalidDay) lID cID kID
  have FT := fun_mk (st := i_Table) lT cT kT
  have b0 := F0.binds (ps := ["value"]) fun _ _ _ _ _ _ us hl => match us, hl with | [_], _ => rfl
  have g0 := PySem.W.mg_of X G a0
  have b1 := F1.binds (ps := ["value"]) fun _ _ _ _ _ _ us hl => match us, hl with | [_], _ => rfl
  have g1 := PySem.W.mg_of X G a1
  have b2 := F2.binds (ps := ["value", "many"]) fun _ _ _ _ _ _ us hl => match us, hl with | [_, _], _ => rfl
  have g2 := PySem.W.mg_of X G a2
  have b3 := F3.binds (ps := ["value"]) fun _ _ _ _ _ _ us hl => match us, hl with | [_], _ => rfl
  have g3 := PySem.W.mg_of X G a3
  have b4 := F4.binds (ps := ["value", "many"]) fun _ _ _ _ _ _ us hl => match us, hl with | [_, _], _ => rfl
  have g4 := PySem.W.mg_of X G a4
  have b5 := F5.binds (ps := ["value"]) fun _ _ _ _ _ _ us hl => match us, hl with | [_], _ => rfl
  have g5 := PySem.W.mg_of X G a5
  have b6 := F6.binds (ps := ["value", "many"]) fun _ _ _ _ _ _ us hl => match us, hl with | [_, _], _ => rfl
  have g6 := PySem.W.mg_of X G a6
  have b7 := F7.binds (ps := ["some"]) fun _ _ _ _ _ _ us hl => match us, hl with | [_], _ => rfl
  have g7 := PySem.W.mg_of X G a7
  have b8 := F8.binds (ps := ["value", "many"]) fun _ _ _ _ _ _ us hl => match us, hl with | [_, _], _ => rfl
  have g8 := PySem.W.mg_of X G a8
  have b9 := F9.binds (ps := ["value"]) fun _ _ _ _ _ _ us hl => match us, hl with | [_], _ => rfl
  have g9 := PySem.W.mg_of X G a9
  have b10 := F10.binds (ps := ["one", "other"]) fun _ _ _ _ _ _ us hl => match us, hl with | [_, _], _ => rfl
  have g10 := PySem.W.mg_of X G a10
  have b11 := F11.binds (ps := ["one"]) fun _ _ _ _ _ _ us hl => match us, hl with | [_], _ => rfl
  have g11 := PySem.W.mg_of X G a11
  have b12 := F12.binds (ps := ["one", "other"]) fun _ _ _ _ _ _ us hl => match us, hl with | [_, _], _ => rfl
  have g12 := PySem.W.mg_of X G a12
  have b13 := F13.binds (ps := ["one"]) fun _ _ _ _ _ _ us hl => match us, hl with | [_], _ => rfl
  have g13 := PySem.W.mg_of X G a13
  have b14 := F14.binds (ps := ["some"]) fun _ _ _ _ _ _ us hl => match us, hl with | [_], _ => rfl
  have g14 := PySem.W.mg_of X G a14
  have b15 := F15.binds (ps := ["one"]) fun _ _ _ _ _ _ us hl => match us, hl with | [_], _ => rfl
  have g15 := PySem.W.mg_of X G a15
  have b16 := F16.binds (ps := ["one"]) fun _ _ _ _ _ _ us hl => match us, hl with | [_], _ => rfl
  have g16 := PySem.W.mg_of X G a16
  have b17 := F17.binds (ps := ["some"]) fun _ _ _ _ _ _ us hl => match us, hl with | [_], _ => rfl
  have g17 := PySem.W.mg_of X G a17
  have b18 := F18.binds (ps := ["value"]) fun _ _ _ _ _ _ us hl => match us, hl with | [_], _ => rfl
  have g18 := PySem.W.mg_of X G a18
  have b19 := F19.binds (ps := ["table", "value"]) fun _ _ _ _ _ _ us hl => match us, hl with | [_, _], _ => rfl
  have g19 := PySem.W.mg_of X G a19
  have b20 := F20.binds (ps := ["amount"]) fun _ _ _ _ _ _ us hl => match us, hl with | [_], _ => rfl
  have g20 := PySem.W.mg_of X G a20
  have b21 := F21.binds (ps := ["table", "value"]) fun _ _ _ _ _ _ us hl => match us, hl with | [_, _], _ => rfl
  have g21 := PySem.W.mg_of X G a21
  have b22 := F22.binds (ps := ["table", "value"]) fun _ _ _ _ _ _ us hl => match us, hl with | [_, _], _ => rfl
  have g22 := PySem.W.mg_of X G a22
  have b23 := F23.binds (ps := ["amount", "whole"]) fun _ _ _ _ _ _ us hl => match us, hl with | [_, _], _ => rfl
  have g23 := PySem.W.mg_of X G a23
  have b24 := F24.binds (ps := ["errors", "kind", "amount", "whole"]) fun _ _ _ _ _ _ us hl => match us, hl with | [_, _, _, _], _ => rfl
  have g24 := PySem.W.mg_of X G a24
  have b25 := F25.binds (ps := ["table"]) fun _ _ _ _ _ _ us hl => match us, hl with | [_], _ => rfl
  have g25 := PySem.W.mg_of X G a25
  have b26 := F26.binds (ps := ["table", "day"]) fun _ _ _ _ _ _ us hl => match us, hl with | [_, _], _ => rfl
  have g26 := PySem.W.mg_of X G a26
  have b27 := F27.binds (ps := ["table", "errors", "total"]) fun _ _ _ _ _ _ us hl => match us, hl with | [_, _, _], _ => rfl
  have g27 := PySem.W.mg_of X G a27
  have b28 := F28.binds (ps := ["table", "errors"]) fun _ _ _ _ _ _ us hl => match us, hl with | [_, _], _ => rfl
  have g28 := PySem.W.mg_of X G a28
  have b29 := F29.binds (ps := ["table", "day"]) fun _ _ _ _ _ _ us hl => match us, hl with | [_, _], _ => rfl
  have g29 := PySem.W.mg_of X G a29
  have b30 := F30.binds (ps := ["table", "errors", "kind", "change"]) fun _ _ _ _ _ _ us hl => match us, hl with | [_, _, _, _], _ => rfl
  have g30 := PySem.W.mg_of X G a30
  have b31 := F31.binds (ps := ["table", "day"]) fun _ _ _ _ _ _ us hl => match us, hl with | [_, _], _ => rfl
  have g31 := PySem.W.mg_of X G a31
  have b32 := F32.binds (ps := ["table", "day"]) fun _ _ _ _ _ _ us hl => match us, hl with | [_, _], _ => rfl
  have g32 := PySem.W.mg_of X G a32
  obtain ⟨ds3, v3, b33⟩ := FD33.binds1 (ps := ["table", "value", "kept"]) 3 1 (by simp) rfl (fun _ _ _ _ _ _ _ us its hl hi => match us, hl, its, hi with | [_, _, _], _, [_], _ => ⟨_, rfl, rfl⟩)
  cases v3
  obtain ⟨ds2, v2, b2_33⟩ := FD33.binds1 (ps := ["table", "value", "kept"]) 2 0 (by simp) rfl (fun _ _ _ _ _ _ _ us its hl hi => match us, hl, its, hi with | [_, _], _, [_], _ => ⟨_, rfl, rfl⟩)
  have kn0 := kbn_of (ps := ["table", "value", "kept"]) (n := 0) (ks := ["kept", "value", "table"]) (g := fun us ws => us ++ ws.reverse) (gV := fun vs zs => vs ++ zs.reverse) FD33 (by simp) (fun _ _ _ _ _ _ _ us its ws hu hi hw => match us, hu, its, hi, ws, hw with | [], _, [_], _, [_, _, _], _ => ⟨_, rfl, rfl⟩) (fun r1 r2 => r1.append (vals_rev r2))
  have kn2 := kbn_of (ps := ["table", "value", "kept"]) (n := 2) (ks := ["kept"]) (g := fun us ws => us ++ ws) (gV := fun vs zs => vs ++ zs) FD33 (by simp) (fun _ _ _ _ _ _ _ us its ws hu hi hw => match us, hu, its, hi, ws, hw with | [_, _], _, [_], _, [_], _ => ⟨_, rfl, rfl⟩) (fun r1 r2 => r1.append r2)
  have g33 := PySem.W.mg_of X G a33
  have b34 := F34.binds (ps := ["kinds"]) fun _ _ _ _ _ _ us hl => match us, hl with | [_], _ => rfl
  have g34 := PySem.W.mg_of X G a34
  have b35 := F35.binds (ps := ["totals", "many"]) fun _ _ _ _ _ _ us hl => match us, hl with | [_, _], _ => rfl
  have g35 := PySem.W.mg_of X G a35
  have b36 := F36.binds (ps := ["script"]) fun _ _ _ _ _ _ us hl => match us, hl with | [_], _ => rfl
  have g36 := PySem.W.mg_of X G a36
  have b37 := F37.binds (ps := ["heap", "many"]) fun _ _ _ _ _ _ us hl => match us, hl with | [_, _], _ => rfl
  have g37 := PySem.W.mg_of X G a37
  have b38 := F38.binds (ps := ["heap", "some"]) fun _ _ _ _ _ _ us hl => match us, hl with | [_, _], _ => rfl
  have g38 := PySem.W.mg_of X G a38
  have b39 := F39.binds (ps := ["heap", "many"]) fun _ _ _ _ _ _ us hl => match us, hl with | [_, _], _ => rfl
  have g39 := PySem.W.mg_of X G a39
  have b40 := F40.binds (ps := ["heap", "many"]) fun _ _ _ _ _ _ us hl => match us, hl with | [_, _], _ => rfl
  have g40 := PySem.W.mg_of X G a40
  have b41 := F41.binds (ps := ["top", "bottom"]) fun _ _ _ _ _ _ us hl => match us, hl with | [_, _], _ => rfl
  have g41 := PySem.W.mg_of X G a41
  have b42 := F42.binds (ps := ["amount"]) fun _ _ _ _ _ _ us hl => match us, hl with | [_], _ => rfl
  have g42 := PySem.W.mg_of X G a42
  have b43 := F43.binds (ps := ["some"]) fun _ _ _ _ _ _ us hl => match us, hl with | [_], _ => rfl
  have g43 := PySem.W.mg_of X G a43
  have b44 := F44.binds (ps := ["heap"]) fun _ _ _ _ _ _ us hl => match us, hl with | [_], _ => rfl
  have g44 := PySem.W.mg_of X G a44
  have b45 := F45.binds (ps := ["one"]) fun _ _ _ _ _ _ us hl => match us, hl with | [_], _ => rfl
  have g45 := PySem.W.mg_of X G a45
  have b46 := F46.binds (ps := ["totals", "errors"]) fun _ _ _ _ _ _ us hl => match us, hl with | [_, _], _ => rfl
  have g46 := PySem.W.mg_of X G a46
  have b47 := F47.binds (ps := ["errors", "kind", "amount", "whole"]) fun _ _ _ _ _ _ us hl => match us, hl with | [_, _, _, _], _ => rfl
  have g47 := PySem.W.mg_of X G a47
  have b48 := F48.binds (ps := ["heap", "many", "totals", "size"]) fun _ _ _ _ _ _ us hl => match us, hl with | [_, _, _, _], _ => rfl
  have g48 := PySem.W.mg_of X G a48
  have b49 := F49.binds (ps := ["value"]) fun _ _ _ _ _ _ us hl => match us, hl with | [_], _ => rfl
  have g49 := PySem.W.mg_of X G a49
  have b50 := F50.binds (ps := ["many", "value"]) fun _ _ _ _ _ _ us hl => match us, hl with | [_, _], _ => rfl
  have g50 := PySem.W.mg_of X G a50
  have b51 := F51.binds (ps := ["many", "value"]) fun _ _ _ _ _ _ us hl => match us, hl with | [_, _], _ => rfl
  have g51 := PySem.W.mg_of X G a51
  have b52 := F52.binds (ps := ["heap", "many", "line"]) fun _ _ _ _ _ _ us hl => match us, hl with | [_, _, _], _ => rfl
  have g52 := PySem.W.mg_of X G a52
  have b53 := F53.binds (ps := ["heap", "many", "day"]) fun _ _ _ _ _ _ us hl => match us, hl with | [_, _, _], _ => rfl
  have g53 := PySem.W.mg_of X G a53
  have b54 := F54.binds (ps := ["action"]) fun _ _ _ _ _ _ us hl => match us, hl with | [_], _ => rfl
  have g54 := PySem.W.mg_of X G a54
  have b55 := F55.fun.binds (ps := ["table", "many", "value"]) fun _ _ _ _ _ _ us hl => match us, hl with | [_, _, _], _ => rfl
  have g55 := PySem.W.mg_of X G a55
  have b56 := F56.fun.binds (ps := ["table", "many", "totals", "value"]) fun _ _ _ _ _ _ us hl => match us, hl with | [_, _, _, _], _ => rfl
  have g56 := PySem.W.mg_of X G a56
  have b57 := F57.binds (ps := ["many", "totals", "day"]) fun _ _ _ _ _ _ us hl => match us, hl with | [_, _, _], _ => rfl
  have g57 := PySem.W.mg_of X G a57
  have b58 := F58.binds (ps := ["table", "many", "totals", "day"]) fun _ _ _ _ _ _ us hl => match us, hl with | [_, _, _, _], _ => rfl
  have g58 := PySem.W.mg_of X G a58
  have b59 := F59.fun.binds (ps := ["heap"]) fun _ _ _ _ _ _ us hl => match us, hl with | [_], _ => rfl
  have g59 := PySem.W.mg_of X G a59
  have bIA := FIA.binds (ps := ["self", "at"]) fun _ _ _ _ _ _ us hl => match us, hl with | [_, _], _ => rfl
  have bIL := FIL.binds (ps := ["self", "at"]) fun _ _ _ _ _ _ us hl => match us, hl with | [_, _], _ => rfl
  have bID := FID.binds (ps := ["self", "at"]) fun _ _ _ _ _ _ us hl => match us, hl with | [_, _], _ => rfl
  have bT := FT.binds (ps := ["self", "kinds", "totals"]) fun _ _ _ _ _ _ us hl => match us, hl with | [_, _, _], _ => rfl
  have kb20 := kbinds_one (p := "amount") F20 (fun _ _ _ _ _ _ _ => rfl) (fun _ _ _ _ _ _ _ => rfl)
  have kr26 := kbinds_rev (p1 := "table") (p2 := "day") F26 (fun _ _ _ _ _ _ _ _ => rfl) (fun _ _ _ _ _ _ _ _ => rfl) (fun _ _ _ _ _ _ _ _ => rfl)
  have kr29 := kbinds_rev (p1 := "table") (p2 := "day") F29 (fun _ _ _ _ _ _ _ _ => rfl) (fun _ _ _ _ _ _ _ _ => rfl) (fun _ _ _ _ _ _ _ _ => rfl)
  have kr31 := kbinds_rev (p1 := "table") (p2 := "day") F31 (fun _ _ _ _ _ _ _ _ => rfl) (fun _ _ _ _ _ _ _ _ => rfl) (fun _ _ _ _ _ _ _ _ => rfl)
  have kr32 := kbinds_rev (p1 := "table") (p2 := "day") F32 (fun _ _ _ _ _ _ _ _ => rfl) (fun _ _ _ _ _ _ _ _ => rfl) (fun _ _ _ _ _ _ _ _ => rfl)
  have kr28 := kbinds_rev (p1 := "table") (p2 := "errors") F28 (fun _ _ _ _ _ _ _ _ => rfl) (fun _ _ _ _ _ _ _ _ => rfl) (fun _ _ _ _ _ _ _ _ => rfl)
  have kr19 := kbinds_rev (p1 := "table") (p2 := "value") F19 (fun _ _ _ _ _ _ _ _ => rfl) (fun _ _ _ _ _ _ _ _ => rfl) (fun _ _ _ _ _ _ _ _ => rfl)
  have kr22 := kbinds_rev (p1 := "table") (p2 := "value") F22 (fun _ _ _ _ _ _ _ _ => rfl) (fun _ _ _ _ _ _ _ _ => rfl) (fun _ _ _ _ _ _ _ _ => rfl)
  have kr24 := kbinds_rev4 (p1 := "errors") (p2 := "kind") (p3 := "amount") (p4 := "whole") F24 (fun _ _ _ _ _ _ _ _ _ _ i => match i with | 0 => rfl | 1 => rfl | 2 => rfl | 3 => rfl | _ + 4 => rfl)
  have y_isinstance := PySem.W.mg_none_of X G z_isinstance
  have y_int := PySem.W.mg_none_of X G z_int
  have y_bool := PySem.W.mg_none_of X G z_bool
  have y_str := PySem.W.mg_none_of X G z_str
  have y_tuple := PySem.W.mg_none_of X G z_tuple
  have y_list := PySem.W.mg_none_of X G z_list
  have y_len := PySem.W.mg_none_of X G z_len
  have y_abs := PySem.W.mg_none_of X G z_abs
  have y_range := PySem.W.mg_none_of X G z_range
  have y_zip := PySem.W.mg_none_of X G z_zip
  have y_all := PySem.W.mg_none_of X G z_all
  have y_repr := PySem.W.mg_none_of X G z_repr
  have y_enumerate := PySem.W.mg_none_of X G z_enumerate
  have y_sorted := PySem.W.mg_none_of X G z_sorted
  have gZ := PySem.W.mg_of X G aZ
  have gG := PySem.W.mg_of X G aG
  have gL := PySem.W.mg_of X G mL
  have gm1 := PySem.W.mg_of X G m1
  have gm2 := PySem.W.mg_of X G m2
  have gm3 := PySem.W.mg_of X G m3
  have gm4 := PySem.W.mg_of X G m4
  have gm5 := PySem.W.mg_of X G m5
  have hz : ∀ H, SqT K H zz (pV (0, 1)) := fun H => .inr ⟨_, _, _, zL, rfl, rfl, by show 2 ≤ sizeLine; decide, .cons ⟨_, rfl⟩ (.cons ⟨_, rfl⟩ .nil)⟩
  have oA : OexC K CA := ⟨⟨nmA, qA, EA, bsA, _, snA, subA, abA, colA, ddA, m0A, m1A, m2A, m3A, m5A, xLA, rfl⟩, saA, eCA, tCA, kCA⟩
  have eA : ErrC K mg "InvalidTable" CA fIA := ⟨PySem.W.mg_of X G aCA, oA, iIA, tIA⟩
  have oL : OexC K CL := ⟨⟨nmL, qL, EL, bsL, _, snL, subL, abL, colL, ddL, m0L, m1L, m2L, m3L, m5L, xLL, rfl⟩, saL, eCL, tCL, kCL⟩
  have eL : ErrC K mg "InvalidLine" CL fIL := ⟨PySem.W.mg_of X G aCL, oL, iIL, tIL⟩
  have oD : OexC K CD := ⟨⟨nmD, qD, ED, bsD, _, snD, subD, abD, colD, ddD, m0D, m1D, m2D, m3D, m5D, xLD, rfl⟩, saD, eCD, tCD, kCD⟩
  have eD : ErrC K mg "InvalidDay" CD fID := ⟨PySem.W.mg_of X G aCD, oD, iID, tID⟩
  have kk1 : PySem.W.kitOne K (.ref CL) (.ref Ct) = some true := kit_own isE tE sTL (fun _ => rfl)
  have kk2 : PySem.W.kitOne K (.ref CL) (.ref CD) = some false := kit_own isD tCD sLD (fun z => by
    subst z
    rw [sCL] at sLD
    cases sLD)
  have kk3 : PySem.W.kitOne K (.ref CD) (.ref Ct) = some true := kit_own isE tE sTD (fun _ => rfl)
  have tDD : PySem.W.exmOne K (.ref CD) (.ref CD) = some true := PySem.W.exm_ref eCD hCD tCD sCD
  have hrd : Hrd K mg CL CD := ⟨⟨f54, Ct, _, F54, g54, eL.gC, eD.gC, PySem.W.mg_of X G aE, kk1, kk2, kk3⟩, ⟨gaL, ggL, eCL, hCL⟩, ⟨gaD, ggD, eCD, hCD⟩, nwL, nwD, PySem.W.exm_ref eCL hCL tCL sCL, PySem.W.exm_ref eCL hCL tCL sDL, tDD,
    ⟨gaL, ggL, eCL, hCL, xa, xn, xt, xmL⟩, ⟨gaD, ggD, eCD, hCD, xaD, xn, xt, xmD⟩, y_isinstance⟩
  have TC : TabC K CT := ⟨⟨pgT, hdT, poT, saT⟩, nkT, ntT⟩
  have gT := PySem.W.mg_of X G aT
  refine ⟨PySem.W.fnOf "law" "law" (defArgs s_law) (defBody s_law) (defScope s_law) .none kV60 dc60 pm60 an60 cd60 ct60, [(cc55, Pt55), (cc56, Pt56), (cc59, Pt59)], spLawT K [(Pt55, lamQ (("_law_line_right" : Str) ++ ".<locals>.")), (Pt56, lamQ (("_law_checked_right" : Str) ++ ".<locals>.")), (Pt59, lamQ (("_law_long_right" : Str) ++ ".<locals>."))], ?_, ?_, ?_, fun s v => .of_eq rfl, ?_, fun base _ _ tb => ?_⟩
  · intro c m
    simp only [List.mem_cons, List.not_mem_nil, or_false] at m
    rcases m with rfl | rfl | rfl
    · exact t55
    · exact t56
    · exact t59
  · intro c m
    simp only [List.mem_cons, List.not_mem_nil, or_false] at m
    rcases m with rfl | rfl | rfl
    · exact n55
    · exact n56
    · exact n59
  · intro c m
    simp only [List.mem_cons, List.not_mem_nil, or_false] at m
    rcases m with rfl | rfl | rfl
    · exact h55
    · exact h56
    · exact h59
  · intro H a ns hl _ hT hS
    refine ⟨a, ns, rfl, hS, hl, ?_, fun _ => rfl⟩
    intro p m
    simp only [List.mem_cons, List.not_mem_nil, or_false] at m
    rcases m with rfl | rfl | rfl
    · exact LamX.TabS.nil (hT (cc55, Pt55) (.head _))
    · exact LamX.TabS.nil (hT (cc56, Pt56) (.tail _ (.head _)))
    · exact LamX.TabS.nil (hT (cc59, Pt59) (.tail _ (.tail _ (.head _))))
  have TB55 := tb (cc55, Pt55) (.head _)
  have in55 : (Pt55, lamQ (("_law_line_right" : Str) ++ ".<locals>.")) ∈ [(Pt55, lamQ (("_law_line_right" : Str) ++ ".<locals>.")), (Pt56, lamQ (("_law_checked_right" : Str) ++ ".<locals>.")), (Pt59, lamQ (("_law_long_right" : Str) ++ ".<locals>."))] := (.head _)
  have one55 : ∀ p ∈ [(Pt55, lamQ (("_law_line_right" : Str) ++ ".<locals>.")), (Pt56, lamQ (("_law_checked_right" : Str) ++ ".<locals>.")), (Pt59, lamQ (("_law_long_right" : Str) ++ ".<locals>."))], p.1 = Pt55 → p.2 = lamQ (("_law_line_right" : Str) ++ ".<locals>.") := by
    intro p m z
    simp only [List.mem_cons, List.not_mem_nil, or_false] at m
    rcases m with rfl | rfl | rfl
    · rfl
    · exact absurd z.symm ne55_56
    · exact absurd z.symm ne55_59
  have TB56 := tb (cc56, Pt56) (.tail _ (.head _))
  have in56 : (Pt56, lamQ (("_law_checked_right" : Str) ++ ".<locals>.")) ∈ [(Pt55, lamQ (("_law_line_right" : Str) ++ ".<locals>.")), (Pt56, lamQ (("_law_checked_right" : Str) ++ ".<locals>.")), (Pt59, lamQ (("_law_long_right" : Str) ++ ".<locals>."))] := (.tail _ (.head _))
  have one56 : ∀ p ∈ [(Pt55, lamQ (("_law_line_right" : Str) ++ ".<locals>.")), (Pt56, lamQ (("_law_checked_right" : Str) ++ ".<locals>.")), (Pt59, lamQ (("_law_long_right" : Str) ++ ".<locals>."))], p.1 = Pt56 → p.2 = lamQ (("_law_checked_right" : Str) ++ ".<locals>.") := by
    intro p m z
    simp only [List.mem_cons, List.not_mem_nil, or_false] at m
    rcases m with rfl | rfl | rfl
    · exact absurd z ne55_56
    · rfl
    · exact absurd z.symm ne56_59
  have TB59 := tb (cc59, Pt59) (.tail _ (.tail _ (.head _)))
  have in59 : (Pt59, lamQ (("_law_long_right" : Str) ++ ".<locals>.")) ∈ [(Pt55, lamQ (("_law_line_right" : Str) ++ ".<locals>.")), (Pt56, lamQ (("_law_checked_right" : Str) ++ ".<locals>.")), (Pt59, lamQ (("_law_long_right" : Str) ++ ".<locals>."))] := (.tail _ (.tail _ (.head _)))
  have one59 : ∀ p ∈ [(Pt55, lamQ (("_law_line_right" : Str) ++ ".<locals>.")), (Pt56, lamQ (("_law_checked_right" : Str) ++ ".<locals>.")), (Pt59, lamQ (("_law_long_right" : Str) ++ ".<locals>."))], p.1 = Pt59 → p.2 = lamQ (("_law_long_right" : Str) ++ ".<locals>.") := by
    intro p m z
    simp only [List.mem_cons, List.not_mem_nil, or_false] at m
    rcases m with rfl | rfl | rfl
    · exact absurd z ne55_59
    · exact absurd z ne56_59
    · rfl
  generalize [(Pt55, lamQ (("_law_line_right" : Str) ++ ".<locals>.")), (Pt56, lamQ (("_law_checked_right" : Str) ++ ".<locals>.")), (Pt59, lamQ (("_law_long_right" : Str) ++ ".<locals>."))] = T at *
  have T_is_an_integer := (ok_is_an_integer F0 y_isinstance y_int y_bool : FnOk l.prog w K mg base CX0 1 _ _ _ (spInt K))
  have C_is_an_integer : Cl l.prog w K mg base 1 "is_an_integer" (spInt K) := ⟨⟨f0, _, _, T_is_an_integer, g0, F0.kp, b0⟩⟩
  have T_is_number := (ok_is_number F1 C_is_an_integer : FnOk l.prog w K mg base CX0 2 _ _ _ (spNum K))
  have C_is_number : Cl l.prog w K mg base 2 "is_number" (spNum K) := ⟨⟨f1, _, _, T_is_number, g1, F1.kp, b1⟩⟩
  have T_is_number_below := (ok_is_number_below F2 C_is_number : FnOk l.prog w K mg base CX0 3 _ _ _ spBelow)
  have C_is_number_below : Cl l.prog w K mg base 3 "is_number_below" spBelow := ⟨⟨f2, _, _, T_is_number_below, g2, F2.kp, b2⟩⟩
  have T_are_numbers_below := (ok_are_numbers_below F6 C_is_number_below y_isinstance y_tuple y_all : FnOk l.prog w K mg base CX0 4 _ _ _ (spNumsBelow K))
  have C_are_numbers_below : Cl l.prog w K mg base 4 "are_numbers_below" (spNumsBelow K) := ⟨⟨f6, _, _, T_are_numbers_below, g6, F6.kp, b6⟩⟩
  have T_is_ascending := (ok_is_ascending F7 y_all y_zip : FnOk l.prog w K mg base CX0 1 _ _ _ (spAsc K))
  have C_is_ascending : Cl l.prog w K mg base 1 "is_ascending" (spAsc K) := ⟨⟨f7, _, _, T_is_ascending, g7, F7.kp, b7⟩⟩
  have T_is_lot_below := (ok_is_lot_below F8 C_are_numbers_below C_is_ascending : FnOk l.prog w K mg base CX0 5 _ _ _ (spLot K))
  have C_is_lot_below : Cl l.prog w K mg base 5 "is_lot_below" (spLot K) := ⟨⟨f8, _, _, T_is_lot_below, g8, F8.kp, b8⟩⟩
  have TXt : FnOk l.prog w K mg base (L2.CX l.prog w) 6 _ _ _ (spCheckTotals K) := ok_check_totals F35 C_is_lot_below gm3 eA (ok_initA FIA oA nwA) bIA y_isinstance y_tuple y_len y_enumerate
  have T_check_totals := (fn_calm TXt : FnOk l.prog w K mg base CX0 6 _ _ _ (fun vs H Q _ => spCheckTotals K vs H Q E0))
  have C_check_totals : Cl l.prog w K mg base 6 "check_totals" (fun vs H Q _ => spCheckTotals K vs H Q E0) := ⟨⟨f35, _, _, T_check_totals, g35, F35.kp, b35⟩⟩
  have T_is_name := (ok_is_name F3 ⟨_, gL⟩ gm1 y_isinstance y_str y_len y_all : FnOk l.prog w K mg base CX0 1 _ _ _ spName)
  have C_is_name : Cl l.prog w K mg base 1 "is_name" spName := ⟨⟨f3, _, _, T_is_name, g3, F3.kp, b3⟩⟩
  have T_are_names := (ok_are_names F5 C_is_name y_isinstance y_tuple y_all : FnOk l.prog w K mg base CX0 2 _ _ _ (spNames K))
  have C_are_names : Cl l.prog w K mg base 2 "are_names" (spNames K) := ⟨⟨f5, _, _, T_are_names, g5, F5.kp, b5⟩⟩
  have TXk : FnOk l.prog w K mg base (L2.CX l.prog w) 3 _ _ _ (spCheckKinds K) := ok_check_kinds F34 C_are_names C_is_ascending gm2 eA (ok_initA FIA oA nwA) bIA y_isinstance y_tuple y_len
  have T_check_kinds := (fn_calm TXk : FnOk l.prog w K mg base CX0 3 _ _ _ (fun vs H Q _ => spCheckKinds K vs H Q E0))
  have C_check_kinds : Cl l.prog w K mg base 3 "check_kinds" (fun vs H Q _ => spCheckKinds K vs H Q E0) := ⟨⟨f34, _, _, T_check_kinds, g34, F34.kp, b34⟩⟩
  have T_Table : MkT l.prog w K mg base 7 "Table" CT (spInitT K CT) := ⟨⟨fT, _, _, ⟨mkT, iT, jT, kcT⟩, ok_init_Table FT TC C_check_kinds C_check_totals y_len, gT, bT⟩⟩
  have T_is_tuple_of := (ok_is_tuple_of F4 y_isinstance y_tuple y_len : FnOk l.prog w K mg base CX0 1 _ _ _ (spTup K))
  have C_is_tuple_of : Cl l.prog w K mg base 1 "is_tuple_of" (spTup K) := ⟨⟨f4, _, _, T_is_tuple_of, g4, F4.kp, b4⟩⟩
  have TA_is_tuple_of := (ok_is_tuple_ofA F4 y_isinstance y_tuple y_len : FnOk l.prog w K mg base CX0 1 _ _ _ (spTupA K))
  have CA_is_tuple_of : Cl l.prog w K mg base 1 "is_tuple_of" (spTupA K) := ⟨⟨f4, _, _, TA_is_tuple_of, g4, F4.kp, b4⟩⟩
  have TA_is_number := (ok_is_numberA F1 C_is_an_integer : FnOk l.prog w K mg base CX0 2 _ _ _ (spNumA K))
  have CA_is_number : Cl l.prog w K mg base 2 "is_number" (spNumA K) := ⟨⟨f1, _, _, TA_is_number, g1, F1.kp, b1⟩⟩
  have TA_is_number_below := (ok_is_number_belowA F2 CA_is_number : FnOk l.prog w K mg base CX0 3 _ _ _ (spBelowA K))
  have CA_is_number_below : Cl l.prog w K mg base 3 "is_number_below" (spBelowA K) := ⟨⟨f2, _, _, TA_is_number_below, g2, F2.kp, b2⟩⟩
  have T_added := (ok_added F10 gG : FnOk l.prog w K mg base CX0 1 _ _ _ (spAdd K))
  have C_added : Cl l.prog w K mg base 1 "added" (spAdd K) := ⟨⟨f10, _, _, T_added, g10, F10.kp, b10⟩⟩
  have T_is_fraction := (ok_is_fraction F9 C_is_an_integer C_is_tuple_of gG : FnOk l.prog w K mg base CX0 2 _ _ _ (spIsFr K))
  have C_is_fraction : Cl l.prog w K mg base 2 "is_fraction" (spIsFr K) := ⟨⟨f9, _, _, T_is_fraction, g9, F9.kp, b9⟩⟩
  have T_opposite_of := (ok_opposite_of F11  : FnOk l.prog w K mg base CX0 1 _ _ _ (spOpp K))
  have C_opposite_of : Cl l.prog w K mg base 1 "opposite_of" (spOpp K) := ⟨⟨f11, _, _, T_opposite_of, g11, F11.kp, b11⟩⟩
  have T_taken := (ok_taken F12 C_added C_opposite_of : FnOk l.prog w K mg base CX0 2 _ _ _ (spTaken K))
  have C_taken : Cl l.prog w K mg base 2 "taken" (spTaken K) := ⟨⟨f12, _, _, T_taken, g12, F12.kp, b12⟩⟩
  have T_is_small := (ok_is_small F13 y_abs : FnOk l.prog w K mg base CX0 1 _ _ _ (spSmall K))
  have C_is_small : Cl l.prog w K mg base 1 "is_small" (spSmall K) := ⟨⟨f13, _, _, T_is_small, g13, F13.kp, b13⟩⟩
  have T_floor_of := (ok_floor_of F15  : FnOk l.prog w K mg base CX0 1 _ _ _ (spFloor K))
  have C_floor_of : Cl l.prog w K mg base 1 "floor_of" (spFloor K) := ⟨⟨f15, _, _, T_floor_of, g15, F15.kp, b15⟩⟩
  have T_ceiling_of := (ok_ceiling_of F16  : FnOk l.prog w K mg base CX0 1 _ _ _ (spCeil K))
  have C_ceiling_of : Cl l.prog w K mg base 1 "ceiling_of" (spCeil K) := ⟨⟨f16, _, _, T_ceiling_of, g16, F16.kp, b16⟩⟩
  have T_sum_of := (ok_sum_of F17 C_added gZ hz : FnOk l.prog w K mg base CX0 2 _ _ _ (spSumL K))
  have C_sum_of : Cl l.prog w K mg base 2 "sum_of" (spSumL K) := ⟨⟨f17, _, _, T_sum_of, g17, F17.kp, b17⟩⟩
  have T_error_of_line := (ok_error_of_line F23 C_taken : FnOk l.prog w K mg base CX0 3 _ _ _ (spErrLine K))
  have C_error_of_line : Cl l.prog w K mg base 3 "error_of_line" (spErrLine K) := ⟨⟨f23, _, _, T_error_of_line, g23, F23.kp, b23⟩⟩
  have T_errors_behind := (ok_errors_behind F24 C_added C_error_of_line : FnOk l.prog w K mg base CX0 4 _ _ _ (spBehind K))
  have C_errors_behind : Cl l.prog w K mg base 4 "errors_behind" (spBehind K) := ⟨⟨f24, _, _, T_errors_behind, g24, F24.kp, b24⟩⟩
  have CR_errors_behind : ClR l.prog w K mg base 4 "errors_behind" ["whole", "amount", "kind", "errors"] (spBehind K) := ⟨⟨f24, _, _, T_errors_behind, g24, F24.kp, kr24⟩⟩
  have T_are_small := (ok_are_small F14 C_is_small y_all : FnOk l.prog w K mg base CX0 2 _ _ _ (spSmalls K))
  have C_are_small : Cl l.prog w K mg base 2 "are_small" (spSmalls K) := ⟨⟨f14, _, _, T_are_small, g14, F14.kp, b14⟩⟩
  have T_no_errors := (ok_no_errors F25 TC gZ hz y_tuple : FnOk l.prog w K mg base CX0 1 _ _ _ (spNoErr K CT))
  have C_no_errors : Cl l.prog w K mg base 1 "no_errors" (spNoErr K CT) := ⟨⟨f25, _, _, T_no_errors, g25, F25.kp, b25⟩⟩
  have T_errors_of := (ok_errors_of F26 C_no_errors C_errors_behind : FnOk l.prog w K mg base CX0 5 _ _ _ (spErrsOf K CT fun ks _ rs => errU ks.length rs))
  have C_errors_of : Cl l.prog w K mg base 5 "errors_of" (spErrsOf K CT fun ks _ rs => errU ks.length rs) := ⟨⟨f26, _, _, T_errors_of, g26, F26.kp, b26⟩⟩
  have CR_errors_of : ClR l.prog w K mg base 5 "errors_of" ["day", "table"] (spErrsOf K CT fun ks _ rs => errU ks.length rs) := ⟨⟨f26, _, _, T_errors_of, g26, F26.kp, kr26⟩⟩
  have T_error_of_total := (ok_error_of_total F27 TC C_sum_of : FnOk l.prog w K mg base CX0 3 _ _ _ (spErrTot K CT))
  have C_error_of_total : Cl l.prog w K mg base 3 "error_of_total" (spErrTot K CT) := ⟨⟨f27, _, _, T_error_of_total, g27, F27.kp, b27⟩⟩
  have T_totals_by := (ok_totals_by F28 TC C_error_of_total y_tuple y_len y_range : FnOk l.prog w K mg base CX0 4 _ _ _ (spTotsBy K CT))
  have C_totals_by : Cl l.prog w K mg base 4 "totals_by" (spTotsBy K CT) := ⟨⟨f28, _, _, T_totals_by, g28, F28.kp, b28⟩⟩
  have CR_totals_by : ClR l.prog w K mg base 4 "totals_by" ["errors", "table"] (spTotsBy K CT) := ⟨⟨f28, _, _, T_totals_by, g28, F28.kp, kr28⟩⟩
  have T_total_errors := (ok_total_errors F29 C_totals_by C_errors_of : FnOk l.prog w K mg base CX0 6 _ _ _ (spErrsOf K CT fun ks ts rs => totsU ts (errU ks.length rs)))
  have C_total_errors : Cl l.prog w K mg base 6 "total_errors" (spErrsOf K CT fun ks ts rs => totsU ts (errU ks.length rs)) := ⟨⟨f29, _, _, T_total_errors, g29, F29.kp, b29⟩⟩
  have CR_total_errors : ClR l.prog w K mg base 6 "total_errors" ["day", "table"] (spErrsOf K CT fun ks ts rs => totsU ts (errU ks.length rs)) := ⟨⟨f29, _, _, T_total_errors, g29, F29.kp, kr29⟩⟩
  have T_totals_behind := (ok_totals_behind F30 TC C_added y_zip y_tuple : FnOk l.prog w K mg base CX0 2 _ _ _ (spTotBeh K CT))
  have C_totals_behind : Cl l.prog w K mg base 2 "totals_behind" (spTotBeh K CT) := ⟨⟨f30, _, _, T_totals_behind, g30, F30.kp, b30⟩⟩
  have T_course_of := (ok_course_of F31 TC gZ hz C_totals_behind C_error_of_line y_tuple : FnOk l.prog w K mg base CX0 4 _ _ _ (spCourse K CT))
  have C_course_of : Cl l.prog w K mg base 4 "course_of" (spCourse K CT) := ⟨⟨f31, _, _, T_course_of, g31, F31.kp, b31⟩⟩
  have CR_course_of : ClR l.prog w K mg base 4 "course_of" ["day", "table"] (spCourse K CT) := ⟨⟨f31, _, _, T_course_of, g31, F31.kp, kr31⟩⟩
  have T_first_off := (ok_first_off F32 C_course_of C_are_small y_enumerate : FnOk l.prog w K mg base CX0 5 _ _ _ (spFirst K CT))
  have C_first_off : Cl l.prog w K mg base 5 "first_off" (spFirst K CT) := ⟨⟨f32, _, _, T_first_off, g32, F32.kp, b32⟩⟩
  have CR_first_off : ClR l.prog w K mg base 5 "first_off" ["day", "table"] (spFirst K CT) := ⟨⟨f32, _, _, T_first_off, g32, F32.kp, kr32⟩⟩
  have T_is_amount := (ok_is_amount F18 C_is_fraction gm4 y_abs : FnOk l.prog w K mg base CX0 3 _ _ _ (spAmt K))
  have C_is_amount : Cl l.prog w K mg base 3 "is_amount" (spAmt K) := ⟨⟨f18, _, _, T_is_amount, g18, F18.kp, b18⟩⟩
  have T_choices := (ok_choices F20 C_floor_of C_ceiling_of : FnOk l.prog w K mg base CX0 2 _ _ _ (spCho K))
  have C_choices : Cl l.prog w K mg base 2 "choices" (spCho K) := ⟨⟨f20, _, _, T_choices, g20, F20.kp, b20⟩⟩
  have CK_choices_amount : ClK l.prog w K mg base 2 "choices" ["amount"] (spCho K) := ⟨⟨f20, _, _, T_choices, g20, F20.kp, kb20⟩⟩
  have T_is_rounded_line := (ok_is_rounded_line F21 TC CA_is_tuple_of CA_is_number_below C_is_amount C_is_an_integer C_choices y_len : FnOk l.prog w K mg base CX0 4 _ _ _ (spRounded K CT))
  have C_is_rounded_line : Cl l.prog w K mg base 4 "is_rounded_line" (spRounded K CT) := ⟨⟨f21, _, _, T_is_rounded_line, g21, F21.kp, b21⟩⟩
  have TX_check_line : FnOk l.prog w K mg base (L2.CX l.prog w) 4 _ _ _ (spChk K CT CL lineFault) := ok_check_line F19 TC CA_is_tuple_of CA_is_number_below C_is_amount eL (ok_initL FIL oL nwL) bIL y_len
  have X_check_line : ClX l.prog w K mg base 4 "check_line" (spChk K CT CL lineFault) := ⟨⟨f19, _, _, TX_check_line, g19, F19.kp, b19⟩⟩
  have XR_check_line : ClXR l.prog w K mg base 4 "check_line" ["value", "table"] (spChk K CT CL lineFault) := ⟨⟨f19, _, _, TX_check_line, g19, F19.kp, kr19⟩⟩
  have TX_check_day : FnOk l.prog w K mg base (L2.CX l.prog w) 5 _ _ _ (spChk K CT CD dayFault) := ok_check_day F22 C_is_rounded_line gm5 eD (ok_initD FID oD nwD) bID y_isinstance y_tuple y_len y_enumerate
  have X_check_day : ClX l.prog w K mg base 5 "check_day" (spChk K CT CD dayFault) := ⟨⟨f22, _, _, TX_check_day, g22, F22.kp, b22⟩⟩
  have XR_check_day : ClXR l.prog w K mg base 5 "check_day" ["value", "table"] (spChk K CT CD dayFault) := ⟨⟨f22, _, _, TX_check_day, g22, F22.kp, kr22⟩⟩
  have T_is_day := (ok_is_day F33 X_check_day eD.gC tDD C_first_off : FnOk l.prog w K mg base CX0 7 _ _ _ (spIsDay K CT))
  have C_is_day : Cl l.prog w K mg base 7 "is_day" (spIsDay K CT) := ⟨⟨f33, _, _, T_is_day, g33, FD33.kp, b33⟩⟩
  have Cd_is_day : C8.Cal l.prog w K mg base 7 "is_day" (spIsDay K CT) [.bl true] := ⟨⟨f33, _, _, _, T_is_day, g33, FD33.kp, b2_33, v2⟩⟩
  have CN0_is_day : ClN l.prog w K mg base 7 "is_day" 0 ["kept", "value", "table"] (fun vs zs => vs ++ zs.reverse) (spIsDay K CT) := ⟨⟨f33, _, _, _, T_is_day, g33, FD33.kp, kn0⟩⟩
  have CN_is_day : ClN l.prog w K mg base 7 "is_day" 2 ["kept"] (fun vs zs => vs ++ zs) (spIsDay K CT) := ⟨⟨f33, _, _, _, T_is_day, g33, FD33.kp, kn2⟩⟩
  have T__law_heap := (ok__law_heapF F36 y_int y_abs : FnOk l.prog w K mg base CX0 1 _ _ _ (spHeapF K))
  have C__law_heap : Cl l.prog w K mg base 1 "_law_heap" (spHeapF K) := ⟨⟨f36, _, _, T__law_heap, g36, F36.kp, b36⟩⟩
  have T__law_draw := (ok__law_draw F37 y_int : FnOk l.prog w K mg base CX0 1 _ _ _ spDraw)
  have C__law_draw : Cl l.prog w K mg base 1 "_law_draw" spDraw := ⟨⟨f37, _, _, T__law_draw, g37, F37.kp, b37⟩⟩
  have T__law_pick := (ok__law_pick F38 C__law_draw y_len : FnOk l.prog w K mg base CX0 2 _ _ _ (spPick K))
  have C__law_pick : Cl l.prog w K mg base 2 "_law_pick" (spPick K) := ⟨⟨f38, _, _, T__law_pick, g38, F38.kp, b38⟩⟩
  have T__law_names := (ok__law_names F39 C__law_draw C__law_pick y_int y_range y_tuple y_sorted : FnOk l.prog w K mg base CX0 3 _ _ _ (spLawNames K))
  have C__law_names : Cl l.prog w K mg base 3 "_law_names" (spLawNames K) := ⟨⟨f39, _, _, T__law_names, g39, F39.kp, b39⟩⟩
  have T__law_totals := (ok__law_totals F40 C__law_draw C__law_pick y_int y_range y_tuple y_list : FnOk l.prog w K mg base CX0 3 _ _ _ (spLawTots9 K))
  have C__law_totals : Cl l.prog w K mg base 3 "_law_totals" (spLawTots9 K) := ⟨⟨f40, _, _, T__law_totals, g40, F40.kp, b40⟩⟩
  have T__law_fraction := (ok__law_fraction F41 y_int y_abs y_range : FnOk l.prog w K mg base CX0 1 _ _ _ spFr9)
  have C__law_fraction : Cl l.prog w K mg base 1 "_law_fraction" spFr9 := ⟨⟨f41, _, _, T__law_fraction, g41, F41.kp, b41⟩⟩
  have T__law_choices := (ok__law_choices F42 y_int : FnOk l.prog w K mg base CX0 1 _ _ _ (spLawCho K))
  have C__law_choices : Cl l.prog w K mg base 1 "_law_choices" (spLawCho K) := ⟨⟨f42, _, _, T__law_choices, g42, F42.kp, b42⟩⟩
  have T__law_sum := (ok__law_sum F43 C__law_fraction : FnOk l.prog w K mg base CX0 2 _ _ _ (spLawSum9 K))
  have C__law_sum : Cl l.prog w K mg base 2 "_law_sum" (spLawSum9 K) := ⟨⟨f43, _, _, T__law_sum, g43, F43.kp, b43⟩⟩
  have T__law_amount := (ok__law_amount F44 C__law_draw C__law_pick C__law_fraction : FnOk l.prog w K mg base CX0 3 _ _ _ (spAmount K))
  have C__law_amount : Cl l.prog w K mg base 3 "_law_amount" (spAmount K) := ⟨⟨f44, _, _, T__law_amount, g44, F44.kp, b44⟩⟩
  have T__law_small := (ok__law_small F45  : FnOk l.prog w K mg base CX0 1 _ _ _ (spLawSmall K))
  have C__law_small : Cl l.prog w K mg base 1 "_law_small" (spLawSmall K) := ⟨⟨f45, _, _, T__law_small, g45, F45.kp, b45⟩⟩
  have T__law_sums := (ok__law_sums F46 C__law_sum y_tuple : FnOk l.prog w K mg base CX0 3 _ _ _ (spLawSums K))
  have C__law_sums : Cl l.prog w K mg base 3 "_law_sums" (spLawSums K) := ⟨⟨f46, _, _, T__law_sums, g46, F46.kp, b46⟩⟩
  have T__law_behind := (ok__law_behind F47 C__law_sum y_tuple y_list : FnOk l.prog w K mg base CX0 3 _ _ _ (spBehind K))
  have C__law_behind : Cl l.prog w K mg base 3 "_law_behind" (spBehind K) := ⟨⟨f47, _, _, T__law_behind, g47, F47.kp, b47⟩⟩
  have T__law_day := (ok__law_day F48 C__law_draw C__law_pick C__law_amount C__law_choices C__law_behind C__law_sums C__law_small y_range y_tuple y_all : FnOk l.prog w K mg base CX0 4 _ _ _ (spLawDay K))
  have C__law_day : Cl l.prog w K mg base 4 "_law_day" (spLawDay K) := ⟨⟨f48, _, _, T__law_day, g48, F48.kp, b48⟩⟩
  have T__law_integer := (ok__law_integer F49 y_isinstance y_int y_bool : FnOk l.prog w K mg base CX0 1 _ _ _ (spInt K))
  have C__law_integer : Cl l.prog w K mg base 1 "_law_integer" (spInt K) := ⟨⟨f49, _, _, T__law_integer, g49, F49.kp, b49⟩⟩
  have T__law_line_fault := (ok__law_line_fault F50 C__law_integer C__law_fraction y_isinstance y_tuple y_len y_all : FnOk l.prog w K mg base CX0 2 _ _ _ (spLF K))
  have C__law_line_fault : Cl l.prog w K mg base 2 "_law_line_fault" (spLF K) := ⟨⟨f50, _, _, T__law_line_fault, g50, F50.kp, b50⟩⟩
  have T__law_day_fault := (ok__law_day_fault F51 C__law_line_fault C__law_integer C__law_choices y_isinstance y_tuple y_len y_range : FnOk l.prog w K mg base CX0 3 _ _ _ (spDF K))
  have C__law_day_fault : Cl l.prog w K mg base 3 "_law_day_fault" (spDF K) := ⟨⟨f51, _, _, T__law_day_fault, g51, F51.kp, b51⟩⟩
  have T__law_odd_line := (ok__law_odd_line F52 C__law_pick y_list y_range : FnOk l.prog w K mg base CX0 3 _ _ _ (spOddLine K))
  have C__law_odd_line : Cl l.prog w K mg base 3 "_law_odd_line" (spOddLine K) := ⟨⟨f52, _, _, T__law_odd_line, g52, F52.kp, b52⟩⟩
  have T__law_odd_day := (ok__law_odd_day F53 C__law_draw C__law_pick C__law_odd_line y_list y_len y_str y_isinstance y_tuple y_range : FnOk l.prog w K mg base CX0 4 _ _ _ (spOddDay K))
  have C__law_odd_day : Cl l.prog w K mg base 4 "_law_odd_day" (spOddDay K) := ⟨⟨f53, _, _, T__law_odd_day, g53, F53.kp, b53⟩⟩
  have T__law_first_off := (ok__law_first_off F57 C__law_behind C__law_sums C__law_small y_len y_range y_all : FnOk l.prog w K mg base CX0 4 _ _ _ (spLawFirst K))
  have C__law_first_off : Cl l.prog w K mg base 4 "_law_first_off" (spLawFirst K) := ⟨⟨f57, _, _, T__law_first_off, g57, F57.kp, b57⟩⟩
  have G__law_line_right : ClG l.prog w K mg base 15 "_law_line_right" (spLineR K CT T) := ⟨⟨f55, _, _, ok__law_line_right F55 hrd TB55 in55 one55 X_check_line XR_check_line C__law_line_fault y_repr, g55, F55.fun.kp, b55⟩⟩
  have G__law_checked_right : ClG l.prog w K mg base 15 "_law_checked_right" (spCheckedR K CT T) := ⟨⟨f56, _, _, ok__law_checked_right F56 hrd TB56 in56 one56 X_check_day XR_check_day C__law_day_fault C__law_first_off Cd_is_day C_is_day CN0_is_day CN_is_day y_repr, g56, F56.fun.kp, b56⟩⟩
  have G__law_right : ClG l.prog w K mg base 7 "_law_right" (spRight K CT) := ⟨⟨f58, _, _, ok__law_right F58 C__law_sums C__law_behind C__law_choices C__law_first_off C_errors_behind CR_errors_behind C_choices CK_choices_amount C_errors_of CR_errors_of C_totals_by CR_totals_by C_total_errors CR_total_errors C_course_of CR_course_of C_first_off CR_first_off y_repr y_tuple, g58, F58.kp, b58⟩⟩
  have G__law_long_right : ClG l.prog w K mg base 15 "_law_long_right" (spLong K T) := ⟨⟨f59, _, _, ok__law_long_right F59 T_Table hrd TB59 in59 one59 C__law_pick X_check_day Cd_is_day, g59, F59.fun.kp, b59⟩⟩
  exact ok_law F60 T_Table C__law_heap C__law_draw C__law_pick C__law_names C__law_totals C__law_amount C__law_day C__law_odd_line C__law_odd_day G__law_line_right G__law_checked_right G__law_right G__law_long_right C_total_errors C_first_off C_choices y_len y_int y_range
end K09
open PySem PySem.W PyProof.Rows
set_option maxHeartbeats 0 in
theorem PySem.Challenge.cw_centsatonce_k09_whole_errors_of_days_holds : PySem.Challenge.rw_centsatonce_k09_whole_errors_of_days.Holds := by
  w_on; o_law; k_head; (case hw => w_witness2)
  k_fill
  refine VG.walk_GT (l := PySem.Challenge.rw_centsatonce_k09_whole_errors_of_days) (n := 63) (k := 17) (x := "script") rfl (by decide) rfl ⟨rfl, by decide, by decide⟩ (fun w h Y => PySem.W.km_in_of Y) ?F
  case F =>
    intro w mg fa h Y KX G hmg
    refine' K09.all_mk KX G hmg ?a0 ?l0 ?c0 ?k0 ?a1 ?l1 ?c1 ?k1 ?a2 ?l2 ?c2 ?k2 ?a3 ?l3 ?c3 ?k3 ?a4 ?l4 ?c4 ?k4 ?a5 ?l5 ?c5 ?k5 ?a6 ?l6 ?c6 ?k6 ?a7 ?l7 ?c7 ?k7 ?a8 ?l8 ?c8 ?k8 ?a9 ?l9 ?c9 ?k9 ?a10 ?l10 ?c10 ?k10 ?a11 ?l11 ?c11 ?k11 ?a12 ?l12 ?c12 ?k12 ?a13 ?l13 ?c13 ?k13 ?a14 ?l14 ?c14 ?k14 ?a15 ?l15 ?c15 ?k15 ?a16 ?l16 ?c16 ?k16 ?a17 ?l17 ?c17 ?k17 ?a18 ?l18 ?c18 ?k18 ?a19 ?l19 ?c19 ?k19 ?a20 ?l20 ?c20 ?k20 ?a21 ?l21 ?c21 ?k21 ?a22 ?l22 ?c22 ?k22 ?a23 ?l23 ?c23 ?k23 ?a24 ?l24 ?c24 ?k24 ?a25 ?l25 ?c25 ?k25 ?a26 ?l26 ?c26 ?k26 ?a27 ?l27 ?c27 ?k27 ?a28 ?l28 ?c28 ?k28 ?a29 ?l29 ?c29 ?k29 ?a30 ?l30 ?c30 ?k30 ?a31 ?l31 ?c31 ?k31 ?a32 ?l32 ?c32 ?k32 ?a33 ?l33 ?c33 ?k33 ?a34 ?l34 ?c34 ?k34 ?a35 ?l35 ?c35 ?k35 ?a36 ?l36 ?c36 ?k36 ?a37 ?l37 ?c37 ?k37 ?a38 ?l38 ?c38 ?k38 ?a39 ?l39 ?c39 ?k39 ?a40 ?l40 ?c40 ?k40 ?a41 ?l41 ?c41 ?k41 ?a42 ?l42 ?c42 ?k42 ?a43 ?l43 ?c43 ?k43 ?a44 ?l44 ?c44 ?k44 ?a45 ?l45 ?c45 ?k45 ?a46 ?l46 ?c46 ?k46 ?a47 ?l47 ?c47 ?k47 ?a48 ?l48 ?c48 ?k48 ?a49 ?l49 ?c49 ?k49 ?a50 ?l50 ?c50 ?k50 ?a51 ?l51 ?c51 ?k51 ?a52 ?l52 ?c52 ?k52 ?a53 ?l53 ?c53 ?k53 ?a54 ?l54 ?c54 ?k54 ?a55 ?l55 ?c55 ?k55 ?a56 ?l56 ?c56 ?k56 ?a57 ?l57 ?c57 ?k57 ?a58 ?l58 ?c58 ?k58 ?a59 ?l59 ?c59 ?k59 ?a60 ?l60 ?c60 ?k60 ?lTD ?x55 ?p55 ?h55 ?t55 ?n55 ?x56 ?p56 ?h56 ?t56 ?n56 ?x59 ?p59 ?h59 ?t59 ?n59 ?ne55_56 ?ne55_59 ?ne56_59 ?aCA ?xLA ?saA ?nwA ?iIA ?tIA ?lIA ?cIA ?kIA ?kCA ?eCA ?tCA ?aCL ?xLL ?saL ?nwL ?iIL ?tIL ?lIL ?cIL ?kIL ?kCL ?eCL ?tCL ?aCD ?xLD ?saD ?nwD ?iID ?tID ?lID ?cID ?kID ?kCD ?eCD ?tCD ?aE ?xa ?xaD ?xn ?xt ?isE ?isD ?tE ?sLD ?sDL ?gaL ?ggL ?hCL ?sCL ?xmL ?sTL ?gaD ?ggD ?hCD ?sCD ?xmD ?sTD ?aT ?iT ?jT ?lT ?cT ?kT ?pgT ?hdT ?poT ?saT ?mkT ?kcT ?nkT ?ntT ?mL ?m1 ?m2 ?m3 ?m4 ?m5 ?aZ ?zL ?aG ?z_isinstance ?z_int ?z_bool ?z_str ?z_tuple ?z_list ?z_len ?z_abs ?z_range ?z_zip ?z_all ?z_repr ?z_enumerate ?z_sorted
    (case a0 => k_is); (case l0 => k_is); (case c0 => k_is); (case k0 => k_is); (case a1 => k_is); (case l1 => k_is); (case c1 => k_is); (case k1 => k_is); (case a2 => k_is); (case l2 => k_is); (case c2 => k_is); (case k2 => k_is); (case a3 => k_is); (case l3 => k_is); (case c3 => k_is); (case k3 => k_is); (case a4 => k_is); (case l4 => k_is); (case c4 => k_is); (case k4 => k_is); (case a5 => k_is); (case l5 => k_is); (case c5 => k_is); (case k5 => k_is); (case a6 => k_is); (case l6 => k_is); (case c6 => k_is); (case k6 => k_is); (case a7 => k_is); (case l7 => k_is); (case c7 => k_is); (case k7 => k_is); (case a8 => k_is); (case l8 => k_is); (case c8 => k_is); (case k8 => k_is); (case a9 => k_is); (case l9 => k_is); (case c9 => k_is); (case k9 => k_is); (case a10 => k_is); (case l10 => k_is); (case c10 => k_is); (case k10 => k_is); (case a11 => k_is); (case l11 => k_is); (case c11 => k_is); (case k11 => k_is); (case a12 => k_is); (case l12 => k_is); (case c12 => k_is); (case k12 => k_is); (case a13 => k_is); (case l13 => k_is); (case c13 => k_is); (case k13 => k_is); (case a14 => k_is); (case l14 => k_is); (case c14 => k_is); (case k14 => k_is); (case a15 => k_is); (case l15 => k_is); (case c15 => k_is); (case k15 => k_is); (case a16 => k_is); (case l16 => k_is); (case c16 => k_is); (case k16 => k_is); (case a17 => k_is); (case l17 => k_is); (case c17 => k_is); (case k17 => k_is); (case a18 => k_is); (case l18 => k_is); (case c18 => k_is); (case k18 => k_is); (case a19 => k_is); (case l19 => k_is); (case c19 => k_is); (case k19 => k_is); (case a20 => k_is); (case l20 => k_is); (case c20 => k_is); (case k20 => k_is); (case a21 => k_is); (case l21 => k_is); (case c21 => k_is); (case k21 => k_is); (case a22 => k_is); (case l22 => k_is); (case c22 => k_is); (case k22 => k_is); (case a23 => k_is); (case l23 => k_is); (case c23 => k_is); (case k23 => k_is); (case a24 => k_is); (case l24 => k_is); (case c24 => k_is); (case k24 => k_is); (case a25 => k_is); (case l25 => k_is); (case c25 => k_is); (case k25 => k_is); (case a26 => k_is); (case l26 => k_is); (case c26 => k_is); (case k26 => k_is); (case a27 => k_is); (case l27 => k_is); (case c27 => k_is); (case k27 => k_is); (case a28 => k_is); (case l28 => k_is); (case c28 => k_is); (case k28 => k_is); (case a29 => k_is); (case l29 => k_is); (case c29 => k_is); (case k29 => k_is); (case a30 => k_is); (case l30 => k_is); (case c30 => k_is); (case k30 => k_is); (case a31 => k_is); (case l31 => k_is); (case c31 => k_is); (case k31 => k_is); (case a32 => k_is); (case l32 => k_is); (case c32 => k_is); (case k32 => k_is); (case a33 => k_is); (case l33 => k_is); (case c33 => k_is); (case k33 => k_is); (case a34 => k_is); (case l34 => k_is); (case c34 => k_is); (case k34 => k_is); (case a35 => k_is); (case l35 => k_is); (case c35 => k_is); (case k35 => k_is); (case a36 => k_is); (case l36 => k_is); (case c36 => k_is); (case k36 => k_is); (case a37 => k_is); (case l37 => k_is); (case c37 => k_is); (case k37 => k_is); (case a38 => k_is); (case l38 => k_is); (case c38 => k_is); (case k38 => k_is); (case a39 => k_is); (case l39 => k_is); (case c39 => k_is); (case k39 => k_is); (case a40 => k_is); (case l40 => k_is); (case c40 => k_is); (case k40 => k_is); (case a41 => k_is); (case l41 => k_is); (case c41 => k_is); (case k41 => k_is); (case a42 => k_is); (case l42 => k_is); (case c42 => k_is); (case k42 => k_is); (case a43 => k_is); (case l43 => k_is); (case c43 => k_is); (case k43 => k_is); (case a44 => k_is); (case l44 => k_is); (case c44 => k_is); (case k44 => k_is); (case a45 => k_is); (case l45 => k_is); (case c45 => k_is); (case k45 => k_is); (case a46 => k_is); (case l46 => k_is); (case c46 => k_is); (case k46 => k_is); (case a47 => k_is); (case l47 => k_is); (case c47 => k_is); (case k47 => k_is); (case a48 => k_is); (case l48 => k_is); (case c48 => k_is); (case k48 => k_is); (case a49 => k_is); (case l49 => k_is); (case c49 => k_is); (case k49 => k_is); (case a50 => k_is); (case l50 => k_is); (case c50 => k_is); (case k50 => k_is); (case a51 => k_is); (case l51 => k_is); (case c51 => k_is); (case k51 => k_is); (case a52 => k_is); (case l52 => k_is); (case c52 => k_is); (case k52 => k_is); (case a53 => k_is); (case l53 => k_is); (case c53 => k_is); (case k53 => k_is); (case a54 => k_is); (case l54 => k_is); (case c54 => k_is); (case k54 => k_is); (case a55 => k_is); (case l55 => k_is); (case c55 => k_is); (case k55 => k_is); (case a56 => k_is); (case l56 => k_is); (case c56 => k_is); (case k56 => k_is); (case a57 => k_is); (case l57 => k_is); (case c57 => k_is); (case k57 => k_is); (case a58 => k_is); (case l58 => k_is); (case c58 => k_is); (case k58 => k_is); (case a59 => k_is); (case l59 => k_is); (case c59 => k_is); (case k59 => k_is); (case a60 => k_is); (case l60 => k_is); (case c60 => k_is); (case k60 => k_is); (case lTD => k_is); (case aCA => k_is); (case xLA => k_is); (case saA => k_is); (case nwA => k_is); (case iIA => k_is); (case tIA => k_is); (case lIA => k_is); (case cIA => k_is); (case kIA => k_is); (case kCA => k_is); (case eCA => k_is); (case tCA => k_is); (case aCL => k_is); (case xLL => k_is); (case saL => k_is); (case nwL => k_is); (case iIL => k_is); (case tIL => k_is); (case lIL => k_is); (case cIL => k_is); (case kIL => k_is); (case kCL => k_is); (case eCL => k_is); (case tCL => k_is); (case aCD => k_is); (case xLD => k_is); (case saD => k_is); (case nwD => k_is); (case iID => k_is); (case tID => k_is); (case lID => k_is); (case cID => k_is); (case kID => k_is); (case kCD => k_is); (case eCD => k_is); (case tCD => k_is); (case aE => k_is); (case xa => k_is); (case xaD => k_is); (case xn => k_is); (case xt => k_is); (case isE => k_is); (case isD => k_is); (case tE => k_is); (case sLD => k_is); (case sDL => k_is); (case gaL => k_is); (case ggL => k_is); (case hCL => k_is); (case sCL => first | rfl | k_is); (case xmL => k_is); (case sTL => k_is); (case gaD => k_is); (case ggD => k_is); (case hCD => k_is); (case sCD => first | rfl | k_is); (case xmD => k_is); (case sTD => k_is); (case aT => k_is); (case iT => k_is); (case jT => k_is); (case lT => k_is); (case cT => k_is); (case kT => k_is); (case pgT => k_is); (case hdT => k_is); (case poT => k_is); (case saT => k_is); (case mkT => k_is); (case kcT => k_is); (case nkT => k_is); (case ntT => k_is); (case mL => k_is); (case m1 => k_is); (case m2 => k_is); (case m3 => k_is); (case m4 => k_is); (case m5 => k_is); (case aZ => k_is); (case zL => k_is); (case aG => k_is); (case z_isinstance => k_is); (case z_int => k_is); (case z_bool => k_is); (case z_str => k_is); (case z_tuple => k_is); (case z_list => k_is); (case z_len => k_is); (case z_abs => k_is); (case z_range => k_is); (case z_zip => k_is); (case z_all => k_is); (case z_repr => k_is); (case z_enumerate => k_is); (case z_sorted => k_is); (case x55 => k_is); (case p55 => rfl); (case h55 => exact PySem.W.codeHd_of_K KX (by kernel_rfl)); (case t55 => exact PySem.W.km_tabs_of Y _ (by k_mem)); (case n55 => kernel_rfl); (case x56 => k_is); (case p56 => rfl); (case h56 => exact PySem.W.codeHd_of_K KX (by kernel_rfl)); (case t56 => exact PySem.W.km_tabs_of Y _ (by k_mem)); (case n56 => kernel_rfl); (case x59 => k_is); (case p59 => rfl); (case h59 => exact PySem.W.codeHd_of_K KX (by kernel_rfl)); (case t59 => exact PySem.W.km_tabs_of Y _ (by k_mem)); (case n59 => kernel_rfl); (case ne55_56 => decide); (case ne55_59 => decide); (case ne56_59 => decide)
