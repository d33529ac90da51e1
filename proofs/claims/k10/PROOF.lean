import PyProof.Rows.All
import Wide.All
import OpenK.AllK
import Wide.FinOn
import PyProof.ReprReads
import PyProof.ReprRoads
import PyProof.StrOps2
import HandS.ForMost
import HandS.Walk
import HandS.Style
import HandS.TupAny
import HandS.EndBits
import HandS.IsInst
import HandS.Gcd
import HandS.Wide
import HandS.Zip
import HandS.ForExc
import HandS.ExcInit
import KE.KExcIs
import HandS.ExcIs
import HandS.ExcField
import HandS.Deep
import HandS.FStrTup
import KE.GoesEnum
import HandS.Iter
import HandS.Dict
import HandS.SetKeys
import PyProof.DictMoreH
import KE.KDictWalk
import HandS.SetFor
import HandS.Strs
import HandS.Conv
import HandS.TupMul
import HandS.DictComp
import HandS.RevRange
import PyProof.WalksMore
import HandS.RaiseMore
import HandS.Flow
import HandS.EndTab
import PyProof.ReprLen
import HandS.TupSets
import HandS.TupLe
import HandS.SortOrd
import PyProof.SetRoads
import HandS.List
import PyProof.Rows.SortStr
import HandS.OwnEq
import HandS.TryOnly
import HandS.Codes
import HandS.Defaults
import KE.GoesNew
import KE.KeyNested
import KE.KLam
import PySem.Challenge.RW_centsatonce_k10_whole_kept_days_of_told
set_option Elab.async false
set_option linter.all false
set_option maxRecDepth 100000
set_option maxHeartbeats 8000000
set_option exponentiation.threshold 10000
namespace VG
open PySem PySem.Spec PyProof.Rows L2
structure FnG (P : Program) (w : World) (K : PySem.W.Frag) (mg : Str → Option Value) (base : Heap) (k : Nat) (f : Addr) (fd : FuncData) (ps : List Str) (sp : Sp) : Prop where
  len : ∀ vs H Q E, sp vs H Q E → vs.length = ps.length
  run : ∀ (A : Around) (outer : List Env) (s : Shared) (H : Hp) (args : Args) (us : List Value) (vs : List V) (Q : VK) (E : XK),
    A.guards = some [] → Room k A → Env0 P w K mg base A outer s H → BindsTo s fd args (ps.zip us) → Vals vs us → sp vs H Q E →
    codeAny (model P w) A (.call (.ref f) args) (CR CX0 outer P w H s Q E) s
section
variable {P : Program} {w : World} {K : PySem.W.Frag} {mg : Str → Option Value} {base : Heap}
theorem fnG_of {k : Nat} {f : Addr} {x qual : Str} {st : Stmt} {fd : FuncData} {N ps : List Str} {sp : Sp} (F : Fun K x qual st f fd) (S : FnScope N ps (defScope st))
    (hlen : ∀ vs H Q E, sp vs H Q E → vs.length = ps.length)
    (hb : ∀ (cdv : Value) (A : Around) (outer : List Env) (s : Shared) (H : Hp) (vs : List V) (Q : VK) (E : XK), A.guards = some [] →
      Room k (A.deeper (envOfC qual (defScope st) s.heap.objs.size f cdv)) → sp vs H Q E →
      ∃ t, PSs (cxOf CX0 P w K mg base N qual (defScope st) f cdv A outer s H E).nox (defBody st) t ∧ t { nx := fun _ H' => Q .non H', rt := Q } (start N vs) H) :
    FnG P w K mg base (k + 1) f fd ps sp := by
  obtain ⟨oc, od, kV, doc, pm, an, cdv, ct, osl, rfl, lk, hcd⟩ := F.ex
  constructor
  · exact hlen
  · intro A outer s H args us vs Q E hg hr e0 hbi r hsp
    have nl := hlen _ _ _ _ hsp
    have inK : K.In s.heap := e0.mod.kin.keeps fun b o z => (e0.bs b o z).1
    have noL : s.heap.NoLimit := e0.mod.nolimit.keeps fun b o z => (e0.bs b o z).1
    have kinds : ∀ y ∈ ps.zip us, (defScope st).names.lookup y.1 = some .local ∨
        ((defScope st).names.lookup y.1 = some .cell ∧ ((cellsFrom (s.heap.objs.size + 1) (defScope st).names []).lookup y.1).isSome = true) := by
      intro y hy
      obtain ⟨n, v⟩ := y
      cases S.par n (List.of_mem_zip hy).1 with
      | inl q => exact Or.inl q
      | inr q => exact Or.inr ⟨q, PySem.W.cellsFrom_some _ _ _ (.inl q)⟩
    apply codeAny_call_function hr.depth (inK _ _ lk) rfl S.co S.gen rfl (PySem.W.codeRec_of inK hcd) (hbi _ _ _ _ _)
    apply wpAny_newFunctionEnv_cells S.kind kinds
    intro env he s1 xx
    subst he
    refine And.intro (noL.keeps xx.toInCall.keep) (codeAny_func ?_)
    obtain ⟨t, ht, hq⟩ := hb cdv A outer s H vs Q E hg (hr.deeper _) hsp
    have I := inv_start (CX := CX0) (P := P) (w := w) (E := E) S hr.hd e0 nl r xx
    apply wpAny_mono (ht.nox.run [] s1 (start N vs) H _ I hq)
    · intro fl s' hs
      cases fl with
      | ret u =>
        obtain ⟨v, σ', H', J, rv, q⟩ := hs
        exact ⟨v, H', J.os, J.bare, J.base, J.hok, rv, q⟩
      | next =>
        obtain ⟨σ', H', J, q⟩ := hs
        exact ⟨V.non, H', J.os, J.bare, J.base, J.hok, rfl, q⟩
      | brk =>
        obtain ⟨_, _, _, q⟩ := hs
        exact False.elim q
      | cont =>
        obtain ⟨_, _, _, q⟩ := hs
        exact False.elim q
    · intro e s' hs
      exact hs
end
end VG
namespace VG
open PySem PySem.Spec PyProof.Rows L2
section
variable {X : Cx} {st : Stmt} {rest : List Stmt} {t u : TS}
def tCut (t u : TS) : TS := fun D σ H => ∃ J : L2.St → Hp → Prop, t { D with nx := J } σ H ∧ ∀ σ' H', J σ' H' → u D σ' H'
theorem pss_cut (h1 : PS X st t) (h2 : PSs X rest u) : PSs X (st :: rest) (tCut t u) := by
  constructor
  intro pins s σ H D I h
  obtain ⟨J, a, b⟩ := h
  apply wpAny_execs_cons
  apply thn (h1.run pins s σ H { D with nx := J } I a)
  intro f s1 q
  cases f with
  | next =>
    obtain ⟨σ', H', I', q⟩ := q
    exact h2.run pins s1 σ' H' D I' (b σ' H' q)
  | ret v => exact q
  | brk => exact q
  | cont => exact q
end
section
variable {X : Cx} {e : Expr} {c : TT} {te : TE}
def tMeetE (te : TE) : TE := fun σ H Q => ∃ J : V → Hp → Prop, te σ H J ∧ ∀ v H', J v H' → Q v H'
theorem pe_meet (h : PE X e te) : PE X e (tMeetE te) := by
  constructor
  intro pins s σ H Q I hh
  obtain ⟨J, a, b⟩ := hh
  apply thn (h.run pins s σ H J I a)
  intro d s1 q
  obtain ⟨v, H', I', r, q⟩ := q
  exact ⟨v, H', I', r, b _ _ q⟩
end
structure Cl (P : Program) (w : World) (K : PySem.W.Frag) (mg : Str → Option Value) (base : Heap) (k : Nat) (x : Str) (sp : Sp) : Prop where
  ex : ∃ (f : Addr) (fd : FuncData) (ps : List Str), FnOk P w K mg base CX0 k f fd ps sp ∧ mg x = some (.ref f) ∧ PySem.W.keepIn K (.ref f) = true ∧ Binds K fd ps []
section
variable {X : Cx} {k j : Nat} {x : Str} {sp : Sp} {p pos : Pos} {e : Expr} {es : List Expr} {t : TA}
theorem pe_cl (c : Cl X.prog X.w X.K X.mg X.base k x sp) (hr : Room j X.A) (hk : k ≤ j) (hg : Gl X x) (ha : PA X (e :: es) t)
    (h1 : (x == ("__debug__" : Str)) = false := by decide) (h2 : starEach (e :: es) X.env = (false, eval e X.env) :: starEach es X.env := by rfl)
    (h3 : (backTo pos (starEach es X.env)).any (·.1) = false := by rfl) : PE X (.Call (.Name x p) (e :: es) [] pos) (tCall sp [] E0 t) :=
  let ⟨_, _, _, F, m, kp, b⟩ := c.ex
  pe_call F (hr.mono hk) hg m kp b .nil pass0 ha h1 h2 h3
/-- a module's name that holds a text -/
theorem pe_gs {z : Str} (hg : Gl X x) (h : ∃ u, X.mg x = some (.str z u)) (h1 : (x == ("__debug__" : Str)) = false := by decide) :
    PE X (.Name x pos) (tC (.str z)) := by
  obtain ⟨u, m⟩ := h
  exact pe_glob (v := .str z) hg m ⟨u, rfl⟩ h1
end
end VG
namespace VG
open PySem PySem.Spec PyProof.Rows L2
end VG
namespace M2
def g (a b : Int) : Nat := Nat.gcd a.natAbs b.natAbs
/-- bottom above 0, no common divisor -/
def Low (a b : Int) : Prop := 0 < b ∧ g a b = 1
/-- fraction_of of the text, for a bottom that is not 0 -/
def mk (a b : Int) : Int × Int :=
  let s : Int := if b < 0 then -(g a b : Int) else (g a b : Int)
  (a.fdiv s, b.fdiv s)
theorem g_pos {a b : Int} (h : b ≠ 0) : 0 < g a b := Nat.gcd_pos_of_pos_right _ (Int.natAbs_pos.mpr h)
theorem dvd_l (a b : Int) : (g a b : Int) ∣ a := Int.ofNat_dvd_left.mpr (Nat.gcd_dvd_left _ _)
theorem dvd_r (a b : Int) : (g a b : Int) ∣ b := Int.ofNat_dvd_left.mpr (Nat.gcd_dvd_right _ _)
/-- dividing both by the greatest common divisor -/
theorem div_low {a b : Int} (h : 0 < b) : Low (a / (g a b : Int)) (b / (g a b : Int)) := by
  have gp := g_pos (a := a) (b := b) (by omega)
  obtain ⟨x, hx⟩ := dvd_l a b
  obtain ⟨y, hy⟩ := dvd_r a b
  have gne : (g a b : Int) ≠ 0 := by omega
  have ex : a / (g a b : Int) = x := by rw [Int.ediv_eq_of_eq_mul_right gne hx]
  have ey : b / (g a b : Int) = y := by rw [Int.ediv_eq_of_eq_mul_right gne hy]
  rw [ex, ey]
  have ax : a.natAbs = g a b * x.natAbs := by
    have := congrArg Int.natAbs hx
    rwa [Int.natAbs_mul, Int.natAbs_natCast] at this
  have by' : b.natAbs = g a b * y.natAbs := by
    have := congrArg Int.natAbs hy
    rwa [Int.natAbs_mul, Int.natAbs_natCast] at this
  constructor
  · rcases Int.lt_or_le 0 y with z | z
    · exact z
    · exfalso
      have : (g a b : Int) * y ≤ 0 := Int.mul_nonpos_of_nonneg_of_nonpos (by omega) z
      omega
  · have e : g a b = g a b * g x y := by
      have : Nat.gcd (g a b * x.natAbs) (g a b * y.natAbs) = g a b * Nat.gcd x.natAbs y.natAbs := Nat.gcd_mul_left _ _ _
      unfold g at this ⊢
      rw [← this]
      show Nat.gcd a.natAbs b.natAbs = _
      unfold g at ax by'
      rw [← ax, ← by']
    have e2 : g a b * 1 = g a b * g x y := by rw [Nat.mul_one]; exact e
    exact (Nat.eq_of_mul_eq_mul_left gp e2).symm
theorem g_neg (a b : Int) : g (-a) (-b) = g a b := by
  unfold g
  rw [Int.natAbs_neg, Int.natAbs_neg]
theorem mk_pos {a b : Int} (h : 0 < b) : mk a b = (a / (g a b : Int), b / (g a b : Int)) := by
  have gp := g_pos (a := a) (b := b) (by omega)
  unfold mk
  rw [if_neg (by omega)]
  show (a.fdiv (g a b : Int), b.fdiv (g a b : Int)) = _
  rw [Int.fdiv_eq_ediv_of_nonneg _ (by omega), Int.fdiv_eq_ediv_of_nonneg _ (by omega)]
theorem mk_neg {a b : Int} (h : b < 0) : mk a b = mk (-a) (-b) := by
  have gp := g_pos (a := a) (b := b) (by omega)
  rw [mk_pos (by omega : 0 < -b)]
  unfold mk
  rw [if_pos h, g_neg]
  show (a.fdiv (-(g a b : Int)), b.fdiv (-(g a b : Int))) = _
  obtain ⟨x, hx⟩ := dvd_l a b
  obtain ⟨y, hy⟩ := dvd_r a b
  have gne : (g a b : Int) ≠ 0 := by omega
  have e1 : a = -(g a b : Int) * -x := by rw [Int.neg_mul_neg]; exact hx
  have e2 : b = -(g a b : Int) * -y := by rw [Int.neg_mul_neg]; exact hy
  have e3 : -a = (g a b : Int) * -x := by rw [Int.mul_neg, ← hx]
  have e4 : -b = (g a b : Int) * -y := by rw [Int.mul_neg, ← hy]
  have n : -(g a b : Int) ≠ 0 := by omega
  have f1 : a.fdiv (-(g a b : Int)) = -x := by
    have : (-(g a b : Int) * -x).fdiv (-(g a b : Int)) = -x := Int.mul_fdiv_cancel_left _ n
    rw [← e1] at this
    exact this
  have f2 : b.fdiv (-(g a b : Int)) = -y := by
    have : (-(g a b : Int) * -y).fdiv (-(g a b : Int)) = -y := Int.mul_fdiv_cancel_left _ n
    rw [← e2] at this
    exact this
  rw [f1, f2, Int.ediv_eq_of_eq_mul_right gne e3, Int.ediv_eq_of_eq_mul_right gne e4]
theorem mk_low {a b : Int} (h : b ≠ 0) : Low (mk a b).1 (mk a b).2 := by
  rcases Int.lt_or_lt_of_ne h with z | z
  · rw [mk_neg z, mk_pos (by omega)]
    exact div_low (by omega)
  · rw [mk_pos z]
    exact div_low z
/-- it is the same fraction -/
theorem mk_eq {a b : Int} (h : b ≠ 0) : (mk a b).1 * b = a * (mk a b).2 := by
  have key : ∀ a b : Int, 0 < b → (mk a b).1 * b = a * (mk a b).2 := by
    intro a b hb
    rw [mk_pos hb]
    show a / (g a b : Int) * b = a * (b / (g a b : Int))
    obtain ⟨x, hx⟩ := dvd_l a b
    obtain ⟨y, hy⟩ := dvd_r a b
    have gne : (g a b : Int) ≠ 0 := by
      have := g_pos (a := a) (b := b) (by omega)
      omega
    rw [Int.ediv_eq_of_eq_mul_right gne hx, Int.ediv_eq_of_eq_mul_right gne hy]
    calc x * b = x * ((g a b : Int) * y) := by rw [← hy]
      _ = ((g a b : Int) * x) * y := by rw [← Int.mul_assoc, Int.mul_comm x]
      _ = a * y := by rw [← hx]
  rcases Int.lt_or_lt_of_ne h with z | z
  · rw [mk_neg z]
    have := key (-a) (-b) (by omega)
    rw [Int.mul_neg, Int.neg_mul] at this
    omega
  · exact key a b z
theorem natAbs_div_le (a : Int) {d : Int} (h : 0 < d) : (a / d).natAbs ≤ a.natAbs := Int.natAbs_ediv_le_natAbs a d
theorem mk_size {a b : Int} (h : b ≠ 0) : (mk a b).1.natAbs ≤ a.natAbs ∧ (mk a b).2.natAbs ≤ b.natAbs := by
  have key : ∀ a b : Int, 0 < b → (mk a b).1.natAbs ≤ a.natAbs ∧ (mk a b).2.natAbs ≤ b.natAbs := by
    intro a b hb
    rw [mk_pos hb]
    have gp := g_pos (a := a) (b := b) (by omega)
    exact ⟨natAbs_div_le a (by omega), natAbs_div_le b (by omega)⟩
  rcases Int.lt_or_lt_of_ne h with z | z
  · rw [mk_neg z]
    have := key (-a) (-b) (by omega)
    rwa [Int.natAbs_neg, Int.natAbs_neg] at this
  · exact key a b z
/-- in lowest terms there is just one pair -/
theorem low_eq {a b c d : Int} (h1 : Low a b) (h2 : Low c d) (h : a * d = c * b) : a = c ∧ b = d := by
  have e : a.natAbs * d.natAbs = c.natAbs * b.natAbs := by rw [← Int.natAbs_mul, ← Int.natAbs_mul, h]
  have c1 : Nat.Coprime a.natAbs b.natAbs := h1.2
  have c2 : Nat.Coprime c.natAbs d.natAbs := h2.2
  have d1 : b.natAbs ∣ d.natAbs := c1.symm.dvd_of_dvd_mul_left ⟨c.natAbs, by rw [e, Nat.mul_comm]⟩
  have d2 : d.natAbs ∣ b.natAbs := c2.symm.dvd_of_dvd_mul_left ⟨a.natAbs, by rw [← e, Nat.mul_comm]⟩
  have eb : b.natAbs = d.natAbs := Nat.dvd_antisymm d1 d2
  have hb := h1.1
  have hd := h2.1
  have ebd : b = d := by omega
  subst ebd
  exact ⟨Int.eq_of_mul_eq_mul_right (by omega) h, rfl⟩
/-- added of the text -/
def add (p q : Int × Int) : Int × Int :=
  let s : Int := g p.2 q.2
  let rest := p.2 / s
  let high := p.1 * (q.2 / s) + q.1 * rest
  let common : Int := g high s
  (high / common, rest * (q.2 / common))
theorem cop_dvd_l {a b c : Nat} (h : Nat.Coprime a b) (d : c ∣ a) : Nat.Coprime c b := Nat.Coprime.coprime_dvd_left d h
/-- the sum of two fractions in lowest terms, in lowest terms -/
theorem add_ok {p q : Int × Int} (hp : Low p.1 p.2) (hq : Low q.1 q.2) : Low (add p q).1 (add p q).2 ∧ (add p q).1 * (p.2 * q.2) = (p.1 * q.2 + q.1 * p.2) * (add p q).2 := by
  obtain ⟨a, b⟩ := p
  obtain ⟨c, d⟩ := q
  have hb : 0 < b := hp.1
  have hd : 0 < d := hq.1
  have gp := g_pos (a := b) (b := d) (by omega)
  obtain ⟨x, hx⟩ := dvd_l b d
  obtain ⟨y, hy⟩ := dvd_r b d
  have low := div_low (a := b) (b := d) hd
  have sne : (g b d : Int) ≠ 0 := by omega
  have ex : b / (g b d : Int) = x := Int.ediv_eq_of_eq_mul_right sne hx
  have ey : d / (g b d : Int) = y := Int.ediv_eq_of_eq_mul_right sne hy
  rw [ex, ey] at low
  have hxp : 0 < x := by
    rcases Int.lt_or_le 0 x with z | z
    · exact z
    · have : (g b d : Int) * x ≤ 0 := Int.mul_nonpos_of_nonneg_of_nonpos (by omega) z
      omega
  have hyp : 0 < y := low.1
  show Low ((a * (d / (g b d : Int)) + c * (b / (g b d : Int))) / (g (a * (d / (g b d : Int)) + c * (b / (g b d : Int))) (g b d : Int) : Int)) (b / (g b d : Int) * (d / (g (a * (d / (g b d : Int)) + c * (b / (g b d : Int))) (g b d : Int) : Int))) ∧
    (a * (d / (g b d : Int)) + c * (b / (g b d : Int))) / (g (a * (d / (g b d : Int)) + c * (b / (g b d : Int))) (g b d : Int) : Int) * (b * d) = (a * d + c * b) * (b / (g b d : Int) * (d / (g (a * (d / (g b d : Int)) + c * (b / (g b d : Int))) (g b d : Int) : Int)))
  rw [ex, ey]
  generalize hh : a * y + c * x = h
  generalize hs : (g b d : Int) = s at hx hy sne
  have hsp : 0 < s := by omega
  have kp := g_pos (a := h) (b := s) (by omega)
  obtain ⟨u, hu⟩ := dvd_l h s
  obtain ⟨v, hv⟩ := dvd_r h s
  have low2 := div_low (a := h) (b := s) hsp
  have kne : (g h s : Int) ≠ 0 := by omega
  have eu : h / (g h s : Int) = u := Int.ediv_eq_of_eq_mul_right kne hu
  have ev : s / (g h s : Int) = v := Int.ediv_eq_of_eq_mul_right kne hv
  rw [eu, ev] at low2
  have ed : d / (g h s : Int) = v * y := by
    refine Int.ediv_eq_of_eq_mul_right kne ?_
    rw [← Int.mul_assoc, ← hv, ← hy]
  rw [eu, ed]
  generalize (g h s : Int) = k at hu hv kne
  have hvp : 0 < v := low2.1
  -- the numbers without common divisors
  have cab : Nat.Coprime a.natAbs b.natAbs := hp.2
  have ccd : Nat.Coprime c.natAbs d.natAbs := hq.2
  have cxy : Nat.Coprime x.natAbs y.natAbs := low.2
  have cuv : Nat.Coprime u.natAbs v.natAbs := low2.2
  have dxb : x.natAbs ∣ b.natAbs := ⟨s.natAbs, by rw [hx, Int.natAbs_mul, Nat.mul_comm]⟩
  have dyd : y.natAbs ∣ d.natAbs := ⟨s.natAbs, by rw [hy, Int.natAbs_mul, Nat.mul_comm]⟩
  have duh : u.natAbs ∣ h.natAbs := ⟨k.natAbs, by rw [hu, Int.natAbs_mul, Nat.mul_comm]⟩
  have chx : Nat.Coprime h.natAbs x.natAbs := by
    have e : Int.gcd h x = Int.gcd (a * y) x := by
      rw [← hh]
      exact Int.gcd_add_mul_right_left _ _ _
    have e2 : Nat.Coprime (a * y).natAbs x.natAbs := by
      rw [Int.natAbs_mul]
      exact Nat.Coprime.mul_left (Nat.Coprime.coprime_dvd_right dxb cab) cxy.symm
    exact e.trans e2
  have chy : Nat.Coprime h.natAbs y.natAbs := by
    have e : Int.gcd h y = Int.gcd (c * x) y := by
      rw [← hh]
      exact Int.gcd_mul_right_add_left _ _ _
    have e2 : Nat.Coprime (c * x).natAbs y.natAbs := by
      rw [Int.natAbs_mul]
      exact Nat.Coprime.mul_left (Nat.Coprime.coprime_dvd_right dyd ccd) cxy
    exact e.trans e2
  refine ⟨⟨Int.mul_pos hxp (Int.mul_pos hvp hyp), ?_⟩, ?_⟩
  · show Nat.Coprime u.natAbs (x * (v * y)).natAbs
    rw [Int.natAbs_mul, Int.natAbs_mul]
    exact Nat.Coprime.mul_right (cop_dvd_l chx duh) (Nat.Coprime.mul_right cuv (cop_dvd_l chy duh))
  · have e1 : a * d + c * b = s * h := by
      rw [← hh, hx, hy, Int.mul_add]
      rw [show a * (s * y) = s * (a * y) by rw [← Int.mul_assoc, Int.mul_comm a s, Int.mul_assoc], show c * (s * x) = s * (c * x) by rw [← Int.mul_assoc, Int.mul_comm c s, Int.mul_assoc]]
    rw [e1, hu]
    have e2 : b * d = (s * x) * (s * y) := by rw [← hx, ← hy]
    rw [e2]
    have e3 : s * (k * u) * (x * (v * y)) = u * ((s * x) * ((k * v) * y)) := by
      simp only [Int.mul_assoc, Int.mul_comm, Int.mul_left_comm]
    rw [e3, ← hv]
theorem add_size {p q : Int × Int} (hp : Low p.1 p.2) (hq : Low q.1 q.2) {m n : Nat} (a1 : p.1.natAbs < 2 ^ m) (a2 : p.2.natAbs < 2 ^ m) (b1 : q.1.natAbs < 2 ^ n) (b2 : q.2.natAbs < 2 ^ n) :
    (add p q).1.natAbs < 2 ^ (m + n + 1) ∧ (add p q).2.natAbs < 2 ^ (m + n + 1) := by
  have hb := hp.1
  have hd := hq.1
  have gp := g_pos (a := p.2) (b := q.2) (by omega)
  have l1 : (p.2 / (g p.2 q.2 : Int)).natAbs ≤ p.2.natAbs := natAbs_div_le _ (by omega)
  have l2 : (q.2 / (g p.2 q.2 : Int)).natAbs ≤ q.2.natAbs := natAbs_div_le _ (by omega)
  have hp2 : 2 ^ (m + n + 1) = 2 ^ m * 2 ^ n + 2 ^ m * 2 ^ n := by
    rw [Nat.pow_succ, Nat.pow_add]
    omega
  have mul : ∀ {x y a b : Nat}, x < a → y < b → x * y < a * b := fun h1 h2 => Nat.mul_lt_mul'' h1 h2
  have hh : (p.1 * (q.2 / (g p.2 q.2 : Int)) + q.1 * (p.2 / (g p.2 q.2 : Int))).natAbs < 2 ^ (m + n + 1) := by
    have e1 := Int.natAbs_add_le (p.1 * (q.2 / (g p.2 q.2 : Int))) (q.1 * (p.2 / (g p.2 q.2 : Int)))
    rw [Int.natAbs_mul, Int.natAbs_mul] at e1
    have e2 := mul a1 (Nat.lt_of_le_of_lt l2 b2)
    have e3 := mul b1 (Nat.lt_of_le_of_lt l1 a2)
    rw [Nat.mul_comm (2 ^ n)] at e3
    omega
  have kp := g_pos (a := p.1 * (q.2 / (g p.2 q.2 : Int)) + q.1 * (p.2 / (g p.2 q.2 : Int))) (b := (g p.2 q.2 : Int)) (by omega)
  constructor
  · exact Nat.lt_of_le_of_lt (natAbs_div_le _ (by omega)) hh
  · show (p.2 / (g p.2 q.2 : Int) * (q.2 / (g (p.1 * (q.2 / (g p.2 q.2 : Int)) + q.1 * (p.2 / (g p.2 q.2 : Int))) (g p.2 q.2 : Int) : Int))).natAbs < _
    rw [Int.natAbs_mul]
    have e4 := natAbs_div_le q.2 (d := (g (p.1 * (q.2 / (g p.2 q.2 : Int)) + q.1 * (p.2 / (g p.2 q.2 : Int))) (g p.2 q.2 : Int) : Int)) (by omega)
    have e5 := mul (Nat.lt_of_le_of_lt l1 a2) (Nat.lt_of_le_of_lt e4 b2)
    omega
end M2
namespace FR
open PySem PySem.Spec PyProof.Rows L2 VG
abbrev Q2 := Int × Int
def pV (p : Q2) : List V := [.int p.1, .int p.2]
def Bt (n : Nat) (p : Q2) : Prop := p.1.natAbs < 2 ^ n ∧ p.2.natAbs < 2 ^ n
theorem Bt.mono {m n : Nat} {p : Q2} (h : Bt m p) (hm : m ≤ n) : Bt n p := ⟨Nat.lt_of_lt_of_le h.1 (Nat.pow_le_pow_right (by decide) hm), Nat.lt_of_lt_of_le h.2 (Nat.pow_le_pow_right (by decide) hm)⟩
theorem same_upd {H : Hp} {p : Addr} {o : HO} (h : H p = none) : Same H (upd H p o) := fun b x e => by
  rw [upd_ne (ne_of_none e h)]
  exact e
theorem seqT {K : PySem.W.Frag} {H H' : Hp} {a : Addr} {xs : List V} (e : Same H H') (h : SqT K H a xs) : SqT K H' a xs := by
  rcases h with (h | ⟨o, h⟩) | h
  · exact .inl (.inl (e _ _ h))
  · exact .inl (.inr ⟨o, e _ _ h⟩)
  · exact .inr h
theorem tyT {K : PySem.W.Frag} {H : Hp} {a : Addr} {xs : List V} (h : SqT K H a xs) : TyX K H (.ref a) (.type "tuple") := by
  rcases h with (h | ⟨o, h⟩) | ⟨o, its, n, h1, h2, h3⟩
  · exact .base (.tup h)
  · exact .fTuple h
  · exact .kTuple h1 h2
theorem kb1 {K : PySem.W.Frag} : PySem.W.kitOne K (.type "int") (.type "int") = some true := kit_ty (by decide +kernel)
theorem kb2 {K : PySem.W.Frag} : PySem.W.kitOne K (.type "int") (.type "bool") = some false := kit_ty (by decide +kernel)
def Frs (K : PySem.W.Frag) (H : Hp) : List V → List Q2 → Prop
  | [], [] => True
  | v :: vs, p :: ps => (∃ t, v = .ref t ∧ SqT K H t (pV p)) ∧ Frs K H vs ps
  | _, _ => False
theorem Frs.mono {K : PySem.W.Frag} {H H' : Hp} (e : Same H H') : ∀ {vs : List V} {ps : List Q2}, Frs K H vs ps → Frs K H' vs ps
  | [], [], _ => trivial
  | _ :: _, _ :: _, ⟨⟨t, e1, h⟩, r⟩ => ⟨⟨t, e1, seqT e h⟩, r.mono e⟩
  | [], _ :: _, h => h.elim
  | _ :: _, [], h => h.elim
theorem Frs.len {K : PySem.W.Frag} {H : Hp} : ∀ {vs : List V} {ps : List Q2}, Frs K H vs ps → vs.length = ps.length
  | [], [], _ => rfl
  | _ :: _, _ :: _, h => by rw [List.length_cons, List.length_cons, h.2.len]
  | [], _ :: _, h => h.elim
  | _ :: _, [], h => h.elim
theorem Frs.get {K : PySem.W.Frag} {H : Hp} : ∀ {vs : List V} {ps : List Q2} {i : Nat} {v : V}, Frs K H vs ps → vs[i]? = some v → ∃ t p, v = .ref t ∧ ps[i]? = some p ∧ SqT K H t (pV p)
  | [], [], _, _, _, h => by simp at h
  | a :: _, p :: _, 0, v, h, e => by
    have e1 : a = v := Option.some.inj e
    subst e1
    obtain ⟨t, e2, q⟩ := h.1
    exact ⟨t, p, e2, rfl, q⟩
  | _ :: vs, _ :: ps, i + 1, v, h, e => h.2.get (i := i) e
  | [], _ :: _, _, _, h, _ => h.elim
  | _ :: _, [], _, _, h, _ => h.elim
theorem Frs.snoc {K : PySem.W.Frag} {H : Hp} {t : Addr} {p : Q2} (hv : SqT K H t (pV p)) : ∀ {vs : List V} {ps : List Q2}, Frs K H vs ps → Frs K H (vs ++ [.ref t]) (ps ++ [p])
  | [], [], _ => ⟨⟨t, rfl, hv⟩, trivial⟩
  | _ :: _, _ :: _, h => ⟨h.1, h.2.snoc hv⟩
  | [], _ :: _, h => h.elim
  | _ :: _, [], h => h.elim
/-- what a value is to is_fraction: a whole number, or none -/
def Part (K : PySem.W.Frag) (H : Hp) (x : V) (o : Option Int) : Prop :=
  (∃ a, x = .int a ∧ o = some a) ∨ (o = none ∧ ∃ (ty : String) (b1 b2 : Bool), TyX K H x (.type ty) ∧ kitB ty "int" = some b1 ∧ kitB ty "bool" = some b2 ∧ (b1 && !b2) = false)
def okFr : Option Int → Option Int → Bool
  | some a, some b => decide (0 < b) && decide (M2.g a b = 1)
  | _, _ => false
section
variable {P : Program} {w : World} {K : PySem.W.Frag} {mg : Str → Option Value} {base : Heap}
def spInt (K : PySem.W.Frag) : Sp := fun vs H Q _ => ∃ (v : V) (o : Option Int), vs = [v] ∧ Part K H v o ∧ Q (.bl o.isSome) H
def spTup (K : PySem.W.Frag) : Sp := fun vs H Q _ => ∃ (v : V) (n : Nat), vs = [v, .int n] ∧ ((∃ ty : String, TyX K H v (.type ty) ∧ kitB ty "tuple" = some false ∧ Q (.bl false) H) ∨ ∃ p xs, v = .ref p ∧ SqT K H p xs ∧ Q (.bl (decide (xs.length = n))) H)
def spIsFr (K : PySem.W.Frag) : Sp := fun vs H Q _ => ∃ v : V, vs = [v] ∧ ((∃ ty : String, TyX K H v (.type ty) ∧ kitB ty "tuple" = some false ∧ Q (.bl false) H) ∨ (∃ p xs, v = .ref p ∧ SqT K H p xs ∧ xs.length ≠ 2 ∧ Q (.bl false) H) ∨
  ∃ p x y o1 o2, v = .ref p ∧ SqT K H p [x, y] ∧ Part K H x o1 ∧ Part K H y o2 ∧ Q (.bl (okFr o1 o2)) H)
def spAdd (K : PySem.W.Frag) : Sp := fun vs H Q _ => ∃ (s t : Addr) (p q : Q2), vs = [.ref s, .ref t] ∧ SqT K H s (pV p) ∧ SqT K H t (pV q) ∧ M2.Low p.1 p.2 ∧ M2.Low q.1 q.2 ∧ Bt 3000 p ∧ Bt 3000 q ∧
  ∀ H' u, Same H H' → H u = none → H' u = some (.tup (pV (M2.add p q))) → Q (.ref u) H'
def neg (p : Q2) : Q2 := (-p.1, p.2)
def spOpp (K : PySem.W.Frag) : Sp := fun vs H Q _ => ∃ (s : Addr) (p : Q2), vs = [.ref s] ∧ SqT K H s (pV p) ∧ ∀ H' u, Same H H' → H u = none → H' u = some (.tup (pV (neg p))) → Q (.ref u) H'
def spTaken (K : PySem.W.Frag) : Sp := fun vs H Q _ => ∃ (s t : Addr) (p q : Q2), vs = [.ref s, .ref t] ∧ SqT K H s (pV p) ∧ SqT K H t (pV q) ∧ M2.Low p.1 p.2 ∧ M2.Low q.1 q.2 ∧ Bt 3000 p ∧ Bt 3000 q ∧
  ∀ H' u, Same H H' → H u = none → H' u = some (.tup (pV (M2.add p (neg q)))) → Q (.ref u) H'
def spSmall (K : PySem.W.Frag) : Sp := fun vs H Q _ => ∃ (s : Addr) (p : Q2), vs = [.ref s] ∧ SqT K H s (pV p) ∧ Q (.bl (decide ((if p.1 < 0 then -p.1 else p.1) < p.2))) H
def spFloor (K : PySem.W.Frag) : Sp := fun vs H Q _ => ∃ (s : Addr) (p : Q2), vs = [.ref s] ∧ SqT K H s (pV p) ∧ 0 < p.2 ∧ Bt 3000 p ∧ Q (.int (p.1 / p.2)) H
def spCeil (K : PySem.W.Frag) : Sp := fun vs H Q _ => ∃ (s : Addr) (p : Q2), vs = [.ref s] ∧ SqT K H s (pV p) ∧ 0 < p.2 ∧ Bt 3000 p ∧ Q (.int (-(-p.1 / p.2))) H
def sumQ (ps : List Q2) : Q2 := ps.foldl M2.add (0, 1)
end
theorem at0 (x y : V) : atI [x, y] 0 = some x := rfl
theorem at1 (x y : V) : atI [x, y] 1 = some y := rfl
theorem mulW {i j : Int} (h1 : i.natAbs < 2 ^ 400000) (h2 : j.natAbs < 2 ^ 400000) : CMulW i j := wide_mul h1 h2 (by decide) (by decide) (by decide)
theorem up {n m : Nat} {x : Nat} (h : x < 2 ^ n) (hm : n ≤ m) : x < 2 ^ m := Nat.lt_of_lt_of_le h (Nat.pow_le_pow_right (by decide) hm)
end FR
namespace VG
open PySem PySem.Spec PyProof.Rows L2
section
variable {X : Cx}
/-- over a name that holds a list or a tuple -/
def iAnyV (K : PySem.W.Frag) (i : Nat) : TI := fun σ H R => ∃ a, σ[i]? = some (some (V.ref a)) ∧ (((∃ xs, SqL K H a xs) ∧ R (Itl K a) H) ∨ ((∃ xs, SqT K H a xs) ∧ R (Itt K a) H))
theorem pi_any {i : Nat} {x : Str} {pos p2 : Pos} {y : Str} (h : PE X (.Name x pos) (tVar i)) : PI X (.Name y p2) (.Name x pos) (iAnyV X.K i) := by
  constructor
  intro pins s σ H R I hh
  obtain ⟨a, ea, q⟩ := hh
  rcases q with ⟨w, r⟩ | ⟨w, r⟩
  · exact (pi_list h).run pins s σ H R I ⟨_, ea, a, rfl, w, r⟩
  · exact (pi_tup h).run pins s σ H R I ⟨_, ea, a, rfl, w, r⟩
end
theorem walk_zipT {K : PySem.W.Frag} {a b : Addr} {xs ys : List V} {n : Nat} (hn : n = min xs.length ys.length) : Walk (RZ.ItzT K a b) n (fun H => SqT K H a xs ∧ SqT K H b ys) (YPair (fun i => xs[i]?) (fun i => ys[i]?)) := by
  constructor
  · intro i H hi hG
    have h1 : i < xs.length := by omega
    have h2 : i < ys.length := by omega
    exact ⟨xs, ys, xs[i], ys[i], hG.1, hG.2, List.getElem?_eq_getElem h1, List.getElem?_eq_getElem h2⟩
  · intro H hG
    exact ⟨xs, ys, hG.1, hG.2, by omega⟩
  · intro i H v H' hi hG hy
    obtain ⟨T, x, y, e1, e2, e3, e4, e5⟩ := hy
    exact ⟨T, x, y, e1, e2, e3, e4 xs hG.1, e5 ys hG.2⟩
/-- a def that may let errors out, where it lets none -/
theorem fn_calm {P : Program} {w : World} {K : PySem.W.Frag} {mg : Str → Option Value} {base : Heap} {k : Nat} {f : Addr} {fd : FuncData} {ps : List Str} {sp : Sp} (F : FnOk P w K mg base (L2.CX P w) k f fd ps sp) :
    FnOk P w K mg base CX0 k f fd ps (fun vs H Q _ => sp vs H Q E0) := by
  constructor
  · intro vs H Q E h
    exact F.len vs H Q E0 h
  · intro A outer s H args us vs Q E hr e0 hb hv hs
    apply codeAny_mono (F.run A outer s H args us vs Q E0 hr e0 hb hv hs)
    intro r s' hh
    match r, hh with
    | .ok (.ret u), hh => exact hh
    | .ok .next, hh => exact hh
    | .ok .brk, hh => exact hh
    | .ok .cont, hh => exact hh
    | .error e, hh =>
      obtain ⟨_, _, _, _, _, _, _, _, _, _, _, _, h⟩ := hh
      exact h.elim
/-- what the written part says of an own error's class with an __init__ -/
structure ErrC (K : PySem.W.Frag) (mg : Str → Option Value) (x : Str) (C fI : Addr) : Prop where
  gC : mg x = some (.ref C)
  o : OexC K C
  iC : PySem.W.findIn K (.ref C) "__init__" = some (some (.ref fI))
  tI : PySem.W.typeIn K (.ref fI) = some (.type "function")
end VG
namespace FR
open PySem PySem.Spec PyProof.Rows L2 VG
theorem seqT_upd {K : PySem.W.Frag} {H : Hp} {D t : Addr} {xs ys : List V} {zs : List V} (hD : H D = some (.lst ys)) (h : SqT K H t xs) : SqT K (upd H D (.lst zs)) t xs := by
  rcases h with (h | ⟨o, h⟩) | h
  · refine .inl (.inl ?_)
    rw [upd_ne (by intro e; subst e; rw [hD] at h; cases h)]
    exact h
  · refine .inl (.inr ⟨o, ?_⟩)
    rw [upd_ne (by intro e; subst e; rw [hD] at h; cases h)]
    exact h
  · exact .inr h
theorem Frs.upd {K : PySem.W.Frag} {H : Hp} {D : Addr} {ys zs : List V} (hD : H D = some (.lst ys)) : ∀ {vs : List V} {ps : List Q2}, Frs K H vs ps → Frs K (L2.upd H D (.lst zs)) vs ps
  | [], [], _ => trivial
  | _ :: _, _ :: _, ⟨⟨t, e1, h⟩, r⟩ => ⟨⟨t, e1, seqT_upd hD h⟩, r.upd hD⟩
  | [], _ :: _, h => h.elim
  | _ :: _, [], h => h.elim
section
variable {P : Program} {w : World} {K : PySem.W.Frag} {mg : Str → Option Value} {base : Heap}
def spInitW (K : PySem.W.Frag) (C : Addr) (fld : Str) : Sp := fun vs H Q _ => ∃ (a : Addr) (v : V), vs = [.ref a, v] ∧ H a = some (exo a C none) ∧ ∀ dx, H dx = none → dx ≠ a → Q .non (upd (upd H dx (exd dx [(fld, v)])) a (exo a C (some dx)))
end
end FR
namespace VG
open PySem PySem.Spec PyProof.Rows L2
structure ClG (P : Program) (w : World) (K : PySem.W.Frag) (mg : Str → Option Value) (base : Heap) (k : Nat) (x : Str) (sp : Sp) : Prop where
  ex : ∃ (f : Addr) (fd : FuncData) (ps : List Str), FnG P w K mg base k f fd ps sp ∧ mg x = some (.ref f) ∧ PySem.W.keepIn K (.ref f) = true ∧ Binds K fd ps []
section
variable {X : Cx} {k j : Nat} {x : Str} {sp : Sp} {p pos : Pos} {e : Expr} {es : List Expr} {t : TA}
theorem run_clg {f : Addr} {fd : FuncData} {ps : List Str} {pins : List (Addr × Obj)} {σ : L2.St} {H : Hp} {s : Shared} {Q : VK} {us : List Value} {vs : List V} (F : FnG X.prog X.w X.K X.mg X.base k f fd ps sp) (hg : X.A.guards = some []) (hr : Room k X.A)
    (hb : Binds X.K fd ps []) (I : Inv X pins σ H s) (r : Vals vs us) (h : sp vs H Q E0) : wpAny (model X.prog X.w) X.A (call (.ref f) us) (EP X pins σ Q) X.xe s := by
  have hl : us.length = ps.length := by
    rw [← r.length]
    exact F.len _ _ _ _ h
  have hb2 := hb s us I.kIn (by rw [List.append_nil]; exact hl)
  rw [List.append_nil] at hb2
  apply wpAny_call
  apply codeAny_mono (F.run X.A X.stack s H ⟨us, []⟩ us vs Q E0 hg hr I.env0 hb2 r h)
  intro rr s' hq
  match rr, hq with
  | .ok (.ret u), hq => exact I.after hq
theorem pe_clg (c : ClG X.prog X.w X.K X.mg X.base k x sp) (hgd : X.A.guards = some []) (hr : Room j X.A) (hk : k ≤ j) (hg : Gl X x) (ha : PA X (e :: es) t)
    (h1 : (x == ("__debug__" : Str)) = false := by decide) (h2 : starEach (e :: es) X.env = (false, eval e X.env) :: starEach es X.env := by rfl)
    (h3 : (backTo pos (starEach es X.env)).any (·.1) = false := by rfl) : PE X (.Call (.Name x p) (e :: es) [] pos) (tCall sp [] E0 t) := by
  obtain ⟨f, fd, ps, F, m, kp, b⟩ := c.ex
  constructor
  intro pins s σ H Q I h
  apply wpAny_Call_Name_kw
  apply ld_glob I hg m _ h1
  apply PySem.W.callWith_K (h₀ := X.base) I.ok.mod.kin kp _ h2 h3
  apply thn (ha.run pos pins s σ H _ I h)
  intro us s1 hh
  obtain ⟨vs, H1, I1, r, q⟩ := hh
  refine And.intro I1.kIn ?_
  exact run_clg F hgd (hr.mono hk) b I1 r (by rw [← List.append_nil vs]; exact q)
end
section
variable {X : Cx}
/-- repr of a truth value -/
theorem cr_reprB : CallR X (.builtin "repr") (fun xs H Q => ∃ b : Bool, xs = [.bl b] ∧ Q (.str (if b = true then (("True" : String) : Str) else (("False" : String) : Str))) H) := by
  intro pins s σ H vs us Q I r h
  obtain ⟨b, rfl, q⟩ := h
  cases r with
  | cons r1 r2 =>
    cases r2
    have e : _ = Value.bool b := r1
    subst e
    refine P.repr_of_bool ?_
    refine ⟨.str (if b = true then (("True" : String) : Str) else (("False" : String) : Str)), H, I.tok _, ⟨s.toks, ?_⟩, q⟩
    cases b <;> rfl
end
end VG
namespace HD
open PySem PySem.Spec PyProof.Rows L2 VG
def Hd (p q : Addr) (H : Hp) : Prop := ∃ (cs : List Int) (st : Int), H p = some (.lst [.ref q, .int st]) ∧ H q = some (.lst (cs.map V.int)) ∧ cs.length ≤ 63 ∧ 0 ≤ st ∧ st < 2147483647
def Keep (p q : Addr) (H H' : Hp) : Prop := ∀ b o, b ≠ p → b ≠ q → H b = some o → H' b = some o
theorem Keep.refl (p q : Addr) (H : Hp) : Keep p q H H := fun _ _ _ _ h => h
theorem Keep.trans {p q : Addr} {H H1 H2 : Hp} (a : Keep p q H H1) (b : Keep p q H1 H2) : Keep p q H H2 := fun x o n1 n2 h => b x o n1 n2 (a x o n1 n2 h)
theorem Keep.new {p q n : Addr} {o : HO} {H : Hp} (h : H n = none) : Keep p q H (upd H n o) := fun b x _ _ e => by
  rw [upd_ne (ne_of_none e h)]
  exact e
theorem Keep.at1 {p q : Addr} {o : HO} {H : Hp} : Keep p q H (upd H p o) := fun b x h _ e => by
  rw [upd_ne h]
  exact e
theorem Keep.at2 {p q : Addr} {o : HO} {H : Hp} : Keep p q H (upd H q o) := fun b x _ h e => by
  rw [upd_ne h]
  exact e
theorem Hd.ne {p q : Addr} {H : Hp} (h : Hd p q H) : p ≠ q := by
  obtain ⟨cs, st, h1, h2, _⟩ := h
  intro e
  subst e
  rw [h1] at h2
  cases cs with
  | nil => cases h2
  | cons c r => cases h2
theorem Hd.new {p q n : Addr} {o : HO} {H : Hp} (h : Hd p q H) (hn : H n = none) : Hd p q (upd H n o) := by
  obtain ⟨cs, st, h1, h2, h3⟩ := h
  exact ⟨cs, st, by rw [upd_ne (ne_of_none h1 hn)]; exact h1, by rw [upd_ne (ne_of_none h2 hn)]; exact h2, h3⟩
theorem Hd.neOf {p q n : Addr} {o : HO} {H : Hp} (h : Hd p q H) (hn : H n = some o) (ho : ∀ xs, o ≠ .lst xs) : n ≠ p ∧ n ≠ q := by
  obtain ⟨cs, st, h1, h2, _⟩ := h
  constructor
  · intro e
    subst e
    rw [h1] at hn
    exact ho _ (Option.some.inj hn).symm
  · intro e
    subst e
    rw [h2] at hn
    exact ho _ (Option.some.inj hn).symm
theorem Hd.free {p q n : Addr} {H : Hp} (h : Hd p q H) (hn : H n = none) : n ≠ p ∧ n ≠ q := by
  obtain ⟨cs, st, h1, h2, _⟩ := h
  exact ⟨(ne_of_none h1 hn).symm, (ne_of_none h2 hn).symm⟩
theorem dpAll_ints (K : PySem.W.Frag) (H : Hp) : ∀ cs : List Int, DpAll K H (cs.map V.int) (cs.map PyData.int)
  | [] => .nil
  | c :: cs => .cons (.int c) (dpAll_ints K H cs)
theorem dp_ints {K : PySem.W.Frag} {H : Hp} {q : Addr} {cs : List Int} (h : SqL K H q (cs.map V.int)) : Dp K H (.ref q) (.list (cs.map PyData.int)) := .lst h (dpAll_ints K H cs)
theorem lay_ints : ∀ cs : List Int, PyData.canLayAll0 (cs.map PyData.int) = true
  | [] => rfl
  | c :: cs => by
    show (PyData.canLay0 (.int c) && PyData.canLayAll0 (cs.map PyData.int)) = true
    rw [lay_ints cs]
    rfl
theorem depth_ints : ∀ cs : List Int, PyData.depthAll (cs.map PyData.int) = 0
  | [] => rfl
  | c :: cs => by
    show max (PyData.depth (.int c)) (PyData.depthAll (cs.map PyData.int)) = 0
    rw [depth_ints cs]
    rfl
theorem shaped_ints (cs : List Int) : SeqAt.shaped (.list (cs.map PyData.int)) = true := by
  unfold SeqAt.shaped
  rw [Bool.and_eq_true]
  refine ⟨?_, decide_eq_true ?_⟩
  · show PyData.canLayAll0 (cs.map PyData.int) = true
    exact lay_ints cs
  · show PyData.depthAll (cs.map PyData.int) + 1 ≤ 64
    rw [depth_ints]
    decide
theorem shaped_nil : SeqAt.shaped (.list []) = true := by decide +kernel
theorem eqv_nil (cs : List Int) : PyData.eqv (.list (cs.map PyData.int)) (.list []) = decide (cs = []) := by
  cases cs with
  | nil => rfl
  | cons c r => rfl
section
variable {P : Program} {w : World} {K : PySem.W.Frag} {mg : Str → Option Value} {base : Heap}
/-- a draw: some number below many -/
def spDraw : Sp := fun vs H Q _ => ∃ (p q : Addr) (many : Int), vs = [.ref p, .int many] ∧ Hd p q H ∧ 0 < many ∧ many < 1073741824 ∧ ∀ (H' : Hp) (r : Int), Hd p q H' → Keep p q H H' → 0 ≤ r → r < many → Q (.int r) H'
/-- one of some -/
def spPick (K : PySem.W.Frag) : Sp := fun vs H Q _ => ∃ (p q l : Addr) (xs : List V), vs = [.ref p, .ref l] ∧ Hd p q H ∧ H l = some (.lst xs) ∧ l ≠ p ∧ l ≠ q ∧ xs ≠ [] ∧ xs.length < 1000000 ∧ ∀ (H' : Hp) (v : V), Hd p q H' → Keep p q H H' → v ∈ xs → Q v H'
end
theorem same_put {H H' : Hp} {L : Addr} {o : HO} (h : Same H H') (n : H L = none) : Same H (upd H' L o) := fun b x e => by
  rw [upd_ne (ne_of_none e n)]
  exact h b x e
theorem _root_.HD.Hd.same {p q : Addr} {H H' : Hp} (h : Hd p q H) (s : Same H H') : Hd p q H' := by
  obtain ⟨cs, st, h1, h2, h3⟩ := h
  exact ⟨cs, st, s _ _ h1, s _ _ h2, h3⟩
theorem snocL {α : Type} (cs : List α) (h : cs ≠ []) : ∃ c0 c, cs = c0 ++ [c] := ⟨cs.dropLast, cs.getLast h, (List.dropLast_concat_getLast h).symm⟩
theorem fmod_lt (a : Int) {m : Int} (h : 0 < m) : 0 ≤ a.fmod m ∧ a.fmod m < m := ⟨Int.fmod_nonneg_of_pos a h, Int.fmod_lt_of_pos a h⟩
end HD
namespace K2
open PySem PySem.Spec PyProof.Rows L2 VG FR HD
theorem cut_ints (ns : List Int) (lo hi : Option Int) : ∃ ms : List Int, cutV (ns.map V.int) lo hi = ms.map V.int ∧ ms.length ≤ ns.length := by
  refine ⟨(ns.drop (HT.sIx (ns.map V.int).length 0 lo)).take (HT.sIx (ns.map V.int).length (ns.map V.int).length hi - HT.sIx (ns.map V.int).length 0 lo), ?_, ?_⟩
  · unfold cutV
    rw [List.map_take, List.map_drop]
  · rw [List.length_take, List.length_drop]
    omega
end K2
namespace FR
open PySem PySem.Spec PyProof.Rows L2 VG HD
theorem seqTK {K : PySem.W.Frag} {H H' : Hp} {p q t : Addr} {xs : List V} (hd : Hd p q H) (kp : Keep p q H H') (h : SqT K H t xs) : SqT K H' t xs := by
  rcases h with (h | ⟨o, h⟩) | h
  · have n := hd.neOf h (fun ys z => by cases z)
    exact .inl (.inl (kp _ _ n.1 n.2 h))
  · have n := hd.neOf h (fun ys z => by cases z)
    exact .inl (.inr ⟨o, kp _ _ n.1 n.2 h⟩)
  · exact .inr h
/-- Euclid's steps -/
theorem half {x y : Nat} (h : y < x) (h0 : 0 < y) : 2 * (x % y) < x := by
  have h1 := Nat.mod_lt x h0
  have h2 := Nat.div_add_mod x y
  have h3 : 1 ≤ x / y := (Nat.one_le_div_iff h0).mpr (Nat.le_of_lt h)
  have h4 : y * 1 ≤ y * (x / y) := Nat.mul_le_mul_left y h3
  omega
end FR
namespace VG
open PySem PySem.Spec PyProof.Rows L2
structure ClR (P : Program) (w : World) (K : PySem.W.Frag) (mg : Str → Option Value) (base : Heap) (k : Nat) (x : Str) (ks : List Str) (sp : Sp) : Prop where
  ex : ∃ (f : Addr) (fd : FuncData) (ps : List Str), FnOk P w K mg base CX0 k f fd ps sp ∧ mg x = some (.ref f) ∧ PySem.W.keepIn K (.ref f) = true ∧ KBinds K fd ps ks (fun us ws => us ++ ws.reverse) (fun vs zs => vs ++ zs.reverse)
section
variable {X : Cx} {k j : Nat} {x : Str} {sp : Sp} {p pos : Pos} {kws : List Keyword} {ks : List Str} {tk : TA}
def tCallKR (sp : Sp) (tk : TA) : TE := fun σ H Q => tk σ H fun zs H2 => sp zs.reverse H2 Q E0
theorem pe_clr (c : ClR X.prog X.w X.K X.mg X.base k x ks sp) (hr : Room j X.A) (hk : k ≤ j) (hg : Gl X x) (hkw : PK X kws tk)
    (h1 : (backToKw pos (keywordEach kws X.env)).all (·.1.isSome) = true := by rfl) (h2 : (backToKw pos (keywordEach kws X.env)).filterMap (·.1) = ks := by rfl)
    (h3 : (x == ("__debug__" : Str)) = false := by decide) (h4 : ((backTo pos (starEach [] X.env)).any (·.1) || (backToKw pos (keywordEach kws X.env)).any (·.1.isNone)) = false := by rfl) :
    PE X (.Call (.Name x p) [] kws pos) (tCallKR sp tk) := by
  obtain ⟨f, fd, ps, F, m, kp, b⟩ := c.ex
  constructor
  intro pins s σ H Q I h
  apply wpAny_Call_Name_kw
  apply ld_glob I hg m _ h3
  apply PySem.W.callWith_KW0 (h₀ := X.base) I.ok.mod.kin kp h1 _ h4
  apply thn (hkw.run pos pins s σ H _ I h)
  intro ws s2 hh
  obtain ⟨zs, H2, I2, rz, q2⟩ := hh
  refine And.intro I2.kIn ?_
  rw [h2]
  exact run_fnk (us := []) (vs := []) F (hr.mono hk) b pass0 I2 .nil rz q2
end
theorem vals_rev : ∀ {zs : List V} {ws : List Value}, Vals zs ws → Vals zs.reverse ws.reverse
  | _, _, .nil => .nil
  | _, _, .cons r rr => by
    rw [List.reverse_cons, List.reverse_cons]
    exact (vals_rev rr).append (.cons r .nil)
section
variable {P : Program} {w : World} {K : PySem.W.Frag} {mg : Str → Option Value} {base : Heap}
theorem kbinds_rev {x qual p1 p2 : Str} {st : Stmt} {f : Addr} {fd : FuncData} (F : Fun K x qual st f fd)
    (h0 : ∀ (kV doc pm : Value) (an : Option Addr) (cdv ct u v : Value), bindArgs (PySem.W.fnOf x qual (defArgs st) (defBody st) (defScope st) .none kV doc pm an cdv ct) ⟨[u, v], []⟩ = pure [(p1, u), (p2, v)])
    (h2 : ∀ (kV doc pm : Value) (an : Option Addr) (cdv ct u v : Value), bindArgs (PySem.W.fnOf x qual (defArgs st) (defBody st) (defScope st) .none kV doc pm an cdv ct) ⟨[], [(p2, v), (p1, u)]⟩ = pure [(p1, u), (p2, v)])
    (h1 : ∀ (kV doc pm : Value) (an : Option Addr) (cdv ct u v : Value), bindArgs (PySem.W.fnOf x qual (defArgs st) (defBody st) (defScope st) .none kV doc pm an cdv ct) ⟨[u], [(p2, v)]⟩ = pure [(p1, u), (p2, v)]) :
    KBinds K fd [p1, p2] [p2, p1] (fun us ws => us ++ ws.reverse) (fun vs zs => vs ++ zs.reverse) := by
  obtain ⟨oc, od, kV, doc, pm, an, cdv, ct, osl, rfl, lk, hcd⟩ := F.ex
  constructor
  · intro s us ws _ hl
    match us, ws, hl with
    | [], [v, u], _ => exact .of_eq (h2 kV doc pm an cdv ct u v)
    | [u], [v], _ => exact .of_eq (h1 kV doc pm an cdv ct u v)
    | [u, v], [], _ => exact .of_eq (h0 kV doc pm an cdv ct u v)
    | [], [], hl => cases hl
    | [], [_], hl => cases hl
    | [], _ :: _ :: _ :: _, hl => simp at hl
    | [_], [], hl => cases hl
    | [_], _ :: _ :: _, hl => simp at hl
    | [_, _], _ :: _, hl => simp at hl
    | _ :: _ :: _ :: _, ws, hl => simp at hl
  · intro vs us zs ws r1 r2
    exact r1.append (vals_rev r2)
end
end VG
namespace M2
end M2
namespace FR
open PySem PySem.Spec PyProof.Rows L2 VG HD
def dQ (p : Q2) : PyData := .tuple [.int p.1, .int p.2]
theorem sqt {K : PySem.W.Frag} {H : Hp} {t : Addr} {xs : List V} (h : H t = some (.tup xs)) : SqT K H t xs := .inl (.inl h)
end FR
namespace FR
open PySem PySem.Spec PyProof.Rows L2 VG HD
/-- the sizes that the law draws -/
def Sm (p : Q2) : Prop := p.1.natAbs ≤ 2000000 ∧ p.2.natAbs ≤ 2000000
theorem Sm.bt {p : Q2} (h : Sm p) {n : Nat} (hn : 21 ≤ n := by decide) : Bt n p := by
  have : (2 : Nat) ^ 21 = 2097152 := by decide
  exact (show Bt 21 p from ⟨by have := h.1; omega, by have := h.2; omega⟩).mono hn
end FR
namespace FR
open PySem PySem.Spec PyProof.Rows L2 VG HD
theorem ite_eq {c : Bool} (b : Bool) {A B : Prop} (e : c = b) (h : if b = true then A else B) : if c = true then A else B := by
  rw [e]
  exact h
theorem part_low {p : Q2} (h : M2.Low p.1 p.2) (k : Int) : M2.Low (p.1 - k * p.2) p.2 := by
  refine ⟨h.1, ?_⟩
  have h2 := h.2
  unfold M2.g at h2 ⊢
  have h3 : Int.gcd p.1 p.2 = 1 := h2
  show Int.gcd (p.1 - k * p.2) p.2 = 1
  rw [Int.gcd_sub_mul_right_left]
  exact h3
end FR
namespace VG
open PySem PySem.Spec PyProof.Rows L2
def rIsX (K : PySem.W.Frag) (a : Addr) (cls : Value) (d : Option Addr) : List V → Hp → VK → Prop := fun xs H Q =>
  ∃ (D dd : Addr) (fs : List (Str × V)) (c : V) (cv : Value) (b : Bool), cls = .ref D ∧ d = some dd ∧ H dd = some (.xd fs) ∧ ExcC K D ∧ xs = [.ref a, c] ∧ (∀ u, RelV c u → u = cv) ∧ PySem.W.kitOne K (.ref D) cv = some b ∧ Q (.bl b) H
theorem call_isX {X : Cx} {a : Addr} {oe : Obj} {cls : Value} {d : Option Addr} {pn : List (Addr × Obj)} (hz : Zc cls d oe) (hf : ∃ vs, oe.data = .fields vs) : CallR (X.suite a ((a, oe) :: pn)) (.builtin "isinstance") (rIsX X.K a cls d) := by
  intro pins s σ H xs us Q I r h
  obtain ⟨D, dd, fs, c, cv, b, rfl, rfl, ed, C, rfl, hcv, e, q⟩ := h
  cases r with
  | cons rx rr =>
    cases rr with
    | cons rt rr =>
      cases rr
      cases rx
      have ec := hcv _ rt
      subst ec
      obtain ⟨ha, _⟩ := I.pin (a, oe) (List.mem_append.mpr (.inl List.mem_cons_self))
      obtain ⟨vs, hd⟩ := hf
      have hx : ObjOk X.prog X.w H s.heap dd (.xd fs) := I.hok dd _ ed
      obtain ⟨mA, hns, hr⟩ := hx
      obtain ⟨od, ho, hl⟩ := lookIn_ns hns
      have J : PySem.W.InstAt s.heap a oe D (some od) := ⟨ha, hz.1, by unfold PySem.W.notCls; rw [hd] <;> rfl, by rw [hz.2]; exact ho⟩
      have hc : (PySem.W.clsIn X.K D).isSome = true := by
        obtain ⟨cd, hc, _⟩ := PySem.W.any_some C.hd
        rw [hc]
        rfl
      exact PySem.W.kia_one (PySem.W.kitx_exc hc C.hg C.hk C.hs C.ha C.hn C.ht C.hm) I.kIn J e (fun z => nomatch z) fun tk => ⟨.bl b, H, I.kept (t' := tk) fun _ _ z => z, rfl, q⟩
/-- a call, in a try, of a def that may let an own error out -/
structure ClX (P : Program) (w : World) (K : PySem.W.Frag) (mg : Str → Option Value) (base : Heap) (k : Nat) (x : Str) (sp : Sp) : Prop where
  ex : ∃ (f : Addr) (fd : FuncData) (ps : List Str), FnOk P w K mg base (L2.CX P w) k f fd ps sp ∧ mg x = some (.ref f) ∧ PySem.W.keepIn K (.ref f) = true ∧ Binds K fd ps []
section
variable {X : Cx} {k j : Nat} {x : Str} {sp : Sp} {p pos : Pos} {e : Expr} {es : List Expr} {t : TA} {W : WX}
theorem pe_clx (c : ClX X.prog X.w X.K X.mg X.base k x sp) (hr : Room j X.A) (hk : k ≤ j) (tk : Takes X W) (hg : Gl X x) (ha : PA X (e :: es) t)
    (h1 : (x == ("__debug__" : Str)) = false := by decide) (h2 : starEach (e :: es) X.env = (false, eval e X.env) :: starEach es X.env := by rfl)
    (h3 : (backTo pos (starEach es X.env)).any (·.1) = false := by rfl) : PE X (.Call (.Name x p) (e :: es) [] pos) (tCallS sp (WE W) t) :=
  let ⟨_, _, _, F, m, kp, b⟩ := c.ex
  pe_callS F (hr.mono hk) hg m kp b (fun σ => passAt tk σ) ha h1 h2 h3
end
end VG
namespace FR
open PySem PySem.Spec PyProof.Rows L2 VG HD
end FR
namespace VG
open PySem PySem.Spec PyProof.Rows L2
theorem units65 {k : Nat} {A : Around} (hr : Room k A) : A.units + 65 < cLine := by
  have := hr.un
  omega
end VG
namespace FR
/-- each q is t over B -/
def Ov (B : Int) : List Q2 → List Int → Prop
  | [], [] => True
  | q :: qs, t :: ts => (M2.Low q.1 q.2 ∧ q.1 * B = t * q.2) ∧ Ov B qs ts
  | _, _ => False
open PySem PySem.Spec PyProof.Rows L2 VG HD
end FR
namespace FR
open PySem PySem.Spec PyProof.Rows L2 VG HD
theorem Frs.keep {K : PySem.W.Frag} {H H' : Hp} {p q : Addr} (hd : Hd p q H) (kp : Keep p q H H') : ∀ {vs : List V} {ps : List Q2}, Frs K H vs ps → Frs K H' vs ps
  | [], [], _ => trivial
  | _ :: _, _ :: _, ⟨⟨t, e1, h⟩, r⟩ => ⟨⟨t, e1, seqTK hd kp h⟩, Frs.keep hd kp r⟩
  | [], _ :: _, h => h.elim
  | _ :: _, [], h => h.elim
theorem hd_put {p q D : Addr} {H : Hp} {o : HO} (h : Hd p q H) (n1 : D ≠ p) (n2 : D ≠ q) : Hd p q (L2.upd H D o) := by
  obtain ⟨cs, st, h1, h2, h3⟩ := h
  exact ⟨cs, st, by rw [upd_ne n1.symm]; exact h1, by rw [upd_ne n2.symm]; exact h2, h3⟩
end FR
namespace VG
open PySem PySem.Spec PyProof.Rows L2 HT
end VG
namespace FR
open PySem PySem.Spec PyProof.Rows L2 VG HD
theorem tyX_mono {K : PySem.W.Frag} {H H' : Hp} (e : Same H H') {v : V} {ty : String} (h : TyX K H v (.type ty)) : TyX K H' v (.type ty) := by
  cases h with
  | base b =>
    cases b with
    | non => exact .base .non
    | bl x => exact .base (.bl x)
    | int i => exact .base (.int i)
    | str x => exact .base (.str x)
    | flt x => exact .base (.flt x)
    | lst h => exact .base (.lst (e _ _ h))
    | frz h => exact .base (.frz (e _ _ h))
    | tup h => exact .base (.tup (e _ _ h))
    | dK h => exact .base (.dK (e _ _ h))
    | dT h => exact .base (.dT (e _ _ h))
  | byt b => exact .byt b
  | set h => exact .set (e _ _ h)
  | kList a b => exact .kList a b
  | kTuple a b => exact .kTuple a b
  | kDict a b => exact .kDict a b
  | fTuple h => exact .fTuple (e _ _ h)
  | fDict h => exact .fDict (e _ _ h)
theorem part_mono {K : PySem.W.Frag} {H H' : Hp} (e : Same H H') {v : V} {o : Option Int} (h : Part K H v o) : Part K H' v o := by
  rcases h with h | ⟨h1, ty, b1, b2, t, h2⟩
  · exact .inl h
  · exact .inr ⟨h1, ty, b1, b2, tyX_mono e t, h2⟩
/-- what is_fraction says of a value -/
def OddV (K : PySem.W.Frag) (H : Hp) (v : V) (r : Bool) : Prop :=
  (∃ ty : String, TyX K H v (.type ty) ∧ kitB ty "tuple" = some false ∧ r = false) ∨ (∃ t xs, v = .ref t ∧ SqT K H t xs ∧ xs.length ≠ 2 ∧ r = false) ∨
  ∃ t x y o1 o2, v = .ref t ∧ SqT K H t [x, y] ∧ Part K H x o1 ∧ Part K H y o2 ∧ r = okFr o1 o2 ∧ ∀ b, o2 = some b → b.natAbs < 2 ^ 900
theorem OddV.mono {K : PySem.W.Frag} {H H' : Hp} (e : Same H H') {v : V} {r : Bool} (h : OddV K H v r) : OddV K H' v r := by
  rcases h with ⟨ty, a, b⟩ | ⟨t, xs, a, b, c⟩ | ⟨t, x, y, o1, o2, a, b, c, d, f⟩
  · exact .inl ⟨ty, tyX_mono e a, b⟩
  · exact .inr (.inl ⟨t, xs, a, seqT e b, c⟩)
  · exact .inr (.inr ⟨t, x, y, o1, o2, a, seqT e b, part_mono e c, part_mono e d, f⟩)
def frz (p q : Addr) (H : Hp) : Hp := fun b => if b = p ∨ b = q then none else H b
theorem frz_at {p q t : Addr} {H : Hp} {o : HO} (h : H t = some o) (n : t ≠ p ∧ t ≠ q) : frz p q H t = some o := by
  unfold frz
  rw [if_neg (fun z => z.elim n.1 n.2)]
  exact h
theorem frz_keep {p q : Addr} {H H' : Hp} (h : Keep p q H H') : Same (frz p q H) H' := fun b o e => by
  unfold frz at e
  by_cases z : b = p ∨ b = q
  · rw [if_pos z] at e
    cases e
  · rw [if_neg z] at e
    exact h b o (fun y => z (.inl y)) (fun y => z (.inr y)) e
theorem kitN1 : kitB "NoneType" "int" = some false := by decide +kernel
theorem kitN2 : kitB "NoneType" "bool" = some false := by decide +kernel
theorem kitB1 : kitB "bool" "int" = some true := by decide +kernel
theorem kitB2 : kitB "bool" "bool" = some true := by decide +kernel
theorem kitS1 : kitB "str" "int" = some false := by decide +kernel
theorem kitS2 : kitB "str" "bool" = some false := by decide +kernel
theorem kitT1 : kitB "tuple" "int" = some false := by decide +kernel
theorem kitT2 : kitB "tuple" "bool" = some false := by decide +kernel
theorem all_cons {P : V → Prop} {x : V} {xs : List V} (h : P x) (t : ∀ v ∈ xs, P v) : ∀ v ∈ x :: xs, P v := fun v hv => by
  rcases List.mem_cons.mp hv with z | z
  · rw [z]; exact h
  · exact t v z
end FR
namespace FR
open PySem PySem.Spec PyProof.Rows L2 VG HD
end FR
namespace CK
open PySem PySem.Spec PyProof.Rows L2 VG FR
def spNum (K : PySem.W.Frag) : Sp := fun vs H Q _ => ∃ a : Int, vs = [.int a] ∧ Q (.bl (decide (0 ≤ a))) H
def spBelow : Sp := fun vs H Q _ => ∃ a n : Int, vs = [.int a, .int n] ∧ Q (.bl (decide (0 ≤ a ∧ a < n))) H
/-- numbers below, all of them right -/
def spNumsBelow (K : PySem.W.Frag) : Sp := fun vs H Q _ => ∃ (t : Addr) (cs : List Int) (n : Int), vs = [.ref t, .int n] ∧ SqT K H t (cs.map V.int) ∧ cs.length ≤ 1000 ∧ (∀ c ∈ cs, 0 ≤ c ∧ c < n) ∧ ∀ H', Same H H' → Q (.bl true) H'
def Asc : List Int → Prop
  | a :: b :: r => a < b ∧ Asc (b :: r)
  | _ => True
def LtV (x y : V) : Prop := (∃ a b : Int, x = .int a ∧ y = .int b ∧ a < b) ∨ ∃ a b : Str, x = .str a ∧ y = .str b ∧ a.cps.toList < b.cps.toList
def AscV (xs : List V) : Prop := ∀ (i : Nat) (x y : V), xs[i]? = some x → xs[i + 1]? = some y → LtV x y
def spAsc (K : PySem.W.Frag) : Sp := fun vs H Q _ => ∃ (t : Addr) (xs : List V), vs = [.ref t] ∧ SqT K H t xs ∧ xs.length ≤ 1000 ∧ AscV xs ∧ ∀ H', Same H H' → Q (.bl true) H'
def spLot (K : PySem.W.Frag) : Sp := fun vs H Q _ => ∃ (t : Addr) (cs : List Int) (n : Int), vs = [.ref t, .int n] ∧ SqT K H t (cs.map V.int) ∧ cs.length ≤ 1000 ∧ (∀ c ∈ cs, 0 ≤ c ∧ c < n) ∧ Asc cs ∧ ∀ H', Same H H' → Q (.bl true) H'
theorem Asc.get : ∀ {cs : List Int} {i : Nat} {a b : Int}, Asc cs → cs[i]? = some a → cs[i + 1]? = some b → a < b
  | [], _, _, _, _, h, _ => by simp at h
  | [_], 0, _, _, _, _, h => by simp at h
  | [_], _ + 1, _, _, _, h, _ => by simp at h
  | x :: y :: r, 0, a, b, h, ha, hb => by
    have e1 : x = a := Option.some.inj ha
    have e2 : y = b := Option.some.inj hb
    subst e1 e2
    exact h.1
  | x :: y :: r, i + 1, a, b, h, ha, hb => Asc.get (cs := y :: r) (i := i) h.2 ha hb
theorem asc_ints {cs : List Int} (h : Asc cs) : AscV (cs.map V.int) := by
  intro i x y hx hy
  rw [List.getElem?_map] at hx hy
  obtain ⟨a, ea, rfl⟩ := Option.map_eq_some_iff.mp hx
  obtain ⟨b, eb, rfl⟩ := Option.map_eq_some_iff.mp hy
  exact .inl ⟨a, b, rfl, rfl, h.get ea eb⟩
theorem cut1 {xs : List V} : cutV xs (some 1) none = xs.drop 1 := by
  unfold cutV
  have e : HT.sIx xs.length 0 (some 1) = min 1 xs.length := HT.sIx_nat xs.length 0 1
  rw [e, HT.sIx_none]
  cases xs with
  | nil => rfl
  | cons x xs =>
    have : min 1 (x :: xs).length = 1 := by rw [List.length_cons]; omega
    rw [this]
    exact List.take_of_length_le (by rw [List.length_drop]; omega)
end CK
namespace VG
open PySem PySem.Spec PyProof.Rows L2
theorem meets_enum1 {v : Value} {o : Obj} {H : Heap → Prop} (B : Begins v o H) :
    Meets (Builtin.«enumerate.__new__» ⟨[.type "enumerate", v], []⟩) (fun _ R s => H s.heap ∧
      R (.ok (.ret (.ref (s.heap.push o).objs.size))) { s with heap := (s.heap.push o).push { cls := .type "enumerate", data := .fields #[.none, .bool false, .ref s.heap.objs.size, rawInt 0, .none, .none] } }) :=
  .of_wp fun prog w A R s h => by
    obtain ⟨hp, g, d, tk, os⟩ := s
    obtain ⟨h1, h⟩ := h
    have hsub := sub_enumerate
    have it1 : ∀ {A' : Around} {E : Value → Shared → Prop} {Q : Value → Shared → Prop}, Q (.ref hp.objs.size) ⟨hp.push o, g, d, tk, os⟩ → wpAny (model prog w) A' (pyIter v) Q E ⟨hp, g, d, tk, os⟩ :=
      fun q => B.iter prog w _ _ ⟨hp, g, d, tk, os⟩ _ h1 q
    wp_walk using it1
    refine wpAny_stack_any fun st => wpAny_pure ?_
    split
    · rename_i c _ _ _ _ _
      cases (c == Value.type "enumerate")
      · wp_walk using it1
        exact ⟨_, rfl, h⟩
      · wp_walk using it1
        exact ⟨_, rfl, h⟩
    · wp_walk using it1
      exact ⟨_, rfl, h⟩
section
variable {prog : Program} {w : World} {A : Around} {E : Value → Shared → Prop} {s : Shared}
theorem enum1 {v : Value} {o : Obj} {H : Heap → Prop} {Q : Value → Shared → Prop} (B : Begins v o H) (h1 : H s.heap)
    (h : ∀ h', IsEnum h' (s.heap.objs.size + 1) s.heap.objs.size 0 .none → h'.get? s.heap.objs.size = some o → (∀ b o, s.heap.get? b = some o → h'.get? b = some o) → Q (.ref (s.heap.objs.size + 1)) { s with heap := h' }) :
    wpAny (model prog w) A (call (.type "enumerate") [v]) Q E s := by
  refine callType_new F.called_enumerate (by decide) (F.typeCall_enumerate_1 _) (F.newCall_enumerate_1 _) (fun obj => F.args_object_init_2 obj _) F.entry_enumerate_new (meets_enum1 B) ⟨h1, ?_⟩
  have hz : (s.heap.push o).objs.size = s.heap.objs.size + 1 := Heap.size_push ..
  show _ ∧ _
  rw [hz]
  have he : IsEnum ((s.heap.push o).push { cls := .type "enumerate", data := .fields #[.none, .bool false, .ref s.heap.objs.size, rawInt 0, .none, .none] }) (s.heap.objs.size + 1) s.heap.objs.size 0 .none := by
    have q := Heap.get?_push_size (s.heap.push o) (o := { cls := .type "enumerate", data := .fields #[.none, .bool false, .ref s.heap.objs.size, rawInt 0, .none, .none] }) rfl
    rw [hz] at q
    exact q
  exact ⟨⟨_, he, rfl⟩, h _ he (Heap.get?_push_of_some _ (Heap.get?_push_size _ B.free)) fun b o x => Heap.get?_push_of_some _ (Heap.get?_push_of_some _ x)⟩
end
/-- the tuple at a, each item in a new pair behind its index -/
def IteT (K : PySem.W.Frag) (a : Addr) : It :=
  ⟨fun i H => ∃ (xs : List V) (x : V), SqT K H a xs ∧ xs[i]? = some x, fun i H v H' => ∃ T x, v = .ref T ∧ H T = none ∧ H' = upd H T (.tup [.int (i : Nat), x]) ∧ ∀ xs, SqT K H a xs → xs[i]? = some x, fun i H => ∃ xs : List V, SqT K H a xs ∧ xs.length ≤ i⟩
theorem turn_enumT {P : Program} {w : World} {K : PySem.W.Frag} {elts : List Expr} {kk : Nat} {tpos : Pos} (a e it : Addr) :
    Turn P w K (.Tuple elts kk tpos) (IteT K a) [e, it] e (fun i h => (∃ old, IsEnum h e it ((i : Nat) : Int) old) ∧ h.IsTupleIter it a i ∧ e ≠ it ∧ a ≠ it ∧ e ≠ a) where
  mem := by simp
  obj := fun i h st b hb => by
    obtain ⟨⟨old, he⟩, ⟨o, ho, hc, hd⟩, _⟩ := st
    have e' : b = e ∨ b = it := by simpa using hb
    rcases e' with z | z
    · subst z
      exact ⟨_, he, fun v q => nomatch q⟩
    · subst z
      exact ⟨o, ho, fun v q => by rw [hd] at q; cases q⟩
  keep := fun i h h' st k => let ⟨⟨old, he⟩, hi, r⟩ := st; ⟨⟨old, k e (by simp) _ he⟩, hi.at fun o q => k it (by simp) o q, r⟩
  item := by
    intro X hP hw hK hc i pins s σ H E I hf st hg
    subst hP hw hK
    obtain ⟨⟨old, he⟩, hit, hne, hai, hea⟩ := st
    obtain ⟨xs, x, hq, hx⟩ := hg
    obtain ⟨its, rv, p, hz⟩ := I.tuple hq
    obtain ⟨u, hu, ru⟩ := rv.get hx
    have hel : e < s.heap.objs.size := Heap.lt_size he
    have hil : it < s.heap.objs.size := by obtain ⟨_, q, _⟩ := hit; exact Heap.lt_size q
    have hd := I.ok.hd hc
    have hlt : i < its.toArray.size := by
      have := (List.getElem?_eq_some_iff.mp hu).1
      simpa using this
    have st0 : s.heap.IsTupleIter it a i ∧ s.heap.IsTuple a its.toArray := ⟨hit, p⟩
    have nin : e ∉ [it, a] := fun z => by
      rcases List.mem_cons.mp z with z | z
      · exact hne z
      · exact hea (List.mem_singleton.mp z)
    refine wpAny_pyNext_enum_itemD (fp := [it, a]) (n := its.toArray.size) (P := fun i v => its.toArray[i]? = some v) (St := fun i h => h.IsTupleIter it a i ∧ h.IsTuple a its.toArray) (Draws.tuple (A := X.A.in1) (show X.A.in1.handled = none from hd) it a hai its.toArray) he st0 hlt hne nin fun u' h' tk hP' ho st' hT hsz hk => ?_
    have eu : u' = u := by
      have h1 : its.toArray[i]? = some u' := hP'
      have h2 : its.toArray[i]? = some u := by simpa using hu
      rw [h1] at h2
      exact Option.some.inj h2
    subst eu
    refine ⟨_, rfl, wpAny_letOwnedTupleGo_enum (s := { s with heap := h', toks := tk + 1 }) ho fun h'' he' sb => ?_⟩
    have hT2 : h''.get? s.heap.objs.size = some { cls := .type "tuple", data := .seq #[.int i tk, u'] } := (sb.2 _ (Nat.ne_of_gt hel)).trans hT
    have new : ObjOk X.prog X.w (upd H s.heap.objs.size (.tup [.int (i : Nat), x])) h'' s.heap.objs.size (.tup [.int (i : Nat), x]) :=
      ⟨by show 2 ≤ sizeLine; decide, [.int i tk, u'], .cons ⟨_, rfl⟩ (.cons ru .nil), ⟨_, hT2, rfl, _, rfl⟩⟩
    have I1 : Inv X pins σ (upd H s.heap.objs.size (.tup [.int (i : Nat), x])) { s with heap := h'', toks := tk + 1 } :=
      I.turnedNew (ch := [e, it]) (fun b ob hb q => (sb.2 b (fun z => hb (by simp [z]))).trans (hk b ob (fun z => hb (by simp [z])) (fun z => hb (by simp [z])) q)) hf (Nat.le_refl _) new
    refine ⟨.ref s.heap.objs.size, _, I1, rfl, ⟨_, x, rfl, I.hok.fresh (Nat.le_refl _), rfl, fun ys hy => by rw [I.tuple_inj hy hq]; exact hx⟩, ⟨⟨u', ?_⟩, st'.1.at fun o q => (sb.2 it (Ne.symm hne)).trans q, hne, hai, hea⟩, fun b hb => ?_⟩
    · have e1 : ((i + 1 : Nat) : Int) = (i : Int) + 1 := by omega
      rw [e1]
      exact he'
    · have hb' : b < s.heap.objs.size := by
        have e' : b = e ∨ b = it := by simpa using hb
        rcases e' with z | z
        · rw [z]; exact hel
        · rw [z]; exact hil
      rw [upd_ne (Nat.ne_of_lt hb')]
      exact (hf b hb).1
  done := by
    intro X hP hw hK hc i pins s σ H E I hf st hg
    subst hP hw hK
    obtain ⟨⟨old, he⟩, hit, hne, hai, hea⟩ := st
    obtain ⟨xs, hq, hx⟩ := hg
    obtain ⟨its, rv, p, hz⟩ := I.tuple hq
    obtain ⟨f0, f1, f2, f3, f4, f5⟩ := hf it (by simp)
    have hl := rv.length
    have hT : s.TypeIs (.ref e) "enumerate" := ⟨_, he, rfl⟩
    unfold pyNext
    refine wpAny_bind (wpAny_attempt (wpAny_callSpecial?_slot (name := Str.ofString "__next__") hT F.slot_enumerate_next (wpAny_call_entry F.slot_enumerate_next hT F.entry_enumerate_next ?_ (F.args_enumerate_next_1 _))))
    show wpAny _ _ (field (.ref e) 2 >>= _) _ _ _
    refine wpAny_bind (wpAny_field he rfl (x := .ref it) rfl ?_)
    refine wpAny_bind (wpAny_nextOf_tuple_end (I.ok.hd hc) hit p (by simp; omega) fun h' x' he' hx' => ?_)
    obtain ⟨o, ho, hc'⟩ := hx'
    refine wpAny_bind (wpAny_isInstance (T := "StopIteration") (b := true) ⟨o, ho, hc'⟩ isSubtype_stop ?_)
    exact wpAny_pure ⟨rfl, I.turned (t' := s.toks) (fun b o hb q => he' b o hb q) f0 f1 f3 f4 f5⟩
  self := fun A i s Q E st h => let ⟨⟨_, he⟩, _⟩ := st; wpAny_pyIter_enum he h
def iEnumT (K : PySem.W.Frag) (ta : TA) : TI := fun σ H R => ta σ H fun vs H1 => ∃ a xs, vs = [.ref a] ∧ SqT K H1 a xs ∧ R (IteT K a) H1
theorem pi_enumT {X : Cx} {e : Expr} {ta : TA} {p pos tpos : Pos} {elts : List Expr} {kk : Nat} (hg : Gl X "enumerate") (hm : X.mg "enumerate" = none) (ha : PA X [e] ta) (hs : starEach [e] X.env = [(false, eval e X.env)] := by rfl) :
    PI X (.Tuple elts kk tpos) (.Call (.Name "enumerate" p) [e] [] pos) (iEnumT X.K ta) := by
  refine ⟨fun pins s σ H R I h => ?_⟩
  refine Call_ (ld_blt I hg hm boot_enumerate (PyProof.Rows.callWith_type1 (thn (ha.run pos pins s σ H _ I h) fun us s1 ⟨vs, H1, I1, r1, q1⟩ => ?_) hs rfl))
  obtain ⟨a, xs, rfl, hq, q⟩ := q1
  cases r1 with
  | cons r rr =>
    cases rr
    cases r
    obtain ⟨its, rv, p', hz⟩ := I1.tuple hq
    have hal : a < s1.heap.objs.size := by obtain ⟨_, q, _⟩ := id p'; exact Heap.lt_size q
    refine enum1 (begins_tuple a its.toArray) p' fun h' he ho hk => wpAny_pyIter_enum he ?_
    have I2 : Inv X pins σ H1 { s1 with heap := h' } := I1.kept (t' := s1.toks) hk
    refine ⟨s1.heap.objs.size + 1, [s1.heap.objs.size + 1, s1.heap.objs.size], _, _, H1, rfl, I2, turn_enumT a (s1.heap.objs.size + 1) s1.heap.objs.size, ⟨⟨.none, he⟩, ⟨_, ho, rfl, rfl⟩, Nat.succ_ne_self _, Nat.ne_of_lt hal, Nat.ne_of_gt (Nat.lt_succ_of_lt hal)⟩, fun b hb => ?_, q⟩
    have hle : s1.heap.objs.size ≤ b := by
      have e' : b = s1.heap.objs.size + 1 ∨ b = s1.heap.objs.size := by simpa using hb
      rcases e' with z | z
      · rw [z]; exact Nat.le_add_right _ _
      · rw [z]; exact Nat.le_refl _
    exact I1.fpOk hle (I1.hok.fresh hle)
theorem walk_enumT {K : PySem.W.Frag} {a : Addr} {xs : List V} : Walk (IteT K a) xs.length (fun H => SqT K H a xs) (fun i H v H' => ∃ T x, v = .ref T ∧ H T = none ∧ H' = L2.upd H T (.tup [.int (i : Nat), x]) ∧ xs[i]? = some x) := by
  constructor
  · intro i H hi hG
    exact ⟨xs, xs[i], hG, List.getElem?_eq_getElem hi⟩
  · intro H hG
    exact ⟨xs, hG, Nat.le_refl _⟩
  · intro i H v H' hi hG hy
    obtain ⟨T, x, e1, e2, e3, e4⟩ := hy
    exact ⟨T, x, e1, e2, e3, e4 xs hG⟩
end VG
namespace CK
open PySem PySem.Spec PyProof.Rows L2 VG FR
/-- references to tuples of integers -/
def Tots (K : PySem.W.Frag) (H : Hp) : List V → List (List Int) → Prop
  | [], [] => True
  | v :: vs, c :: cs => (∃ t, v = .ref t ∧ SqT K H t (c.map V.int)) ∧ Tots K H vs cs
  | _, _ => False
theorem Tots.mono {K : PySem.W.Frag} {H H' : Hp} (e : Same H H') : ∀ {vs : List V} {cs : List (List Int)}, Tots K H vs cs → Tots K H' vs cs
  | [], [], _ => trivial
  | _ :: _, _ :: _, ⟨⟨t, e1, h⟩, r⟩ => ⟨⟨t, e1, seqT e h⟩, r.mono e⟩
  | [], _ :: _, h => h.elim
  | _ :: _, [], h => h.elim
theorem Tots.len {K : PySem.W.Frag} {H : Hp} : ∀ {vs : List V} {cs : List (List Int)}, Tots K H vs cs → vs.length = cs.length
  | [], [], _ => rfl
  | _ :: _, _ :: _, h => by rw [List.length_cons, List.length_cons, h.2.len]
  | [], _ :: _, h => h.elim
  | _ :: _, [], h => h.elim
theorem Tots.get {K : PySem.W.Frag} {H : Hp} : ∀ {vs : List V} {cs : List (List Int)} {i : Nat} {v : V}, Tots K H vs cs → vs[i]? = some v → ∃ t c, v = .ref t ∧ cs[i]? = some c ∧ SqT K H t (c.map V.int)
  | [], [], _, _, _, h => by simp at h
  | a :: _, c :: _, 0, v, h, e => by
    have e1 : a = v := Option.some.inj e
    subst e1
    obtain ⟨t, e2, q⟩ := h.1
    exact ⟨t, c, e2, rfl, q⟩
  | _ :: vs, _ :: cs, i + 1, v, h, e => h.2.get (i := i) e
  | [], _ :: _, _, _, h, _ => h.elim
  | _ :: _, [], _, _, h, _ => h.elim
/-- what the written part says of the class Table -/
structure TabC (K : PySem.W.Frag) (C : Addr) : Prop where
  c : Cls K C
  nk : NoAttr K C "kinds"
  nt : NoAttr K C "totals"
/-- a table: its names, its totals -/
def Tab (K : PySem.W.Frag) (C : Addr) (H : Hp) (a : Addr) (ks : List Str) (ts : List (List Int)) : Prop :=
  ∃ (dx k t : Addr) (xs : List V), H a = some (.ins C dx [((("kinds" : String) : Str), .ref k), ((("totals" : String) : Str), .ref t)]) ∧ SqT K H k (ks.map V.str) ∧ SqT K H t xs ∧ Tots K H xs ts
theorem Tab.mono {K : PySem.W.Frag} {C a : Addr} {H H' : Hp} {ks : List Str} {ts : List (List Int)} (e : Same H H') (h : Tab K C H a ks ts) : Tab K C H' a ks ts := by
  obtain ⟨dx, k, t, xs, h1, h2, h3, h4⟩ := h
  exact ⟨dx, k, t, xs, e _ _ h1, seqT e h2, seqT e h3, h4.mono e⟩
/-- the totals in which a kind lies -/
def twF (ts : List (List Int)) (kind : Int) (i : Nat) : List Int := ((List.range i).filter fun j => (ts.getD j []).contains kind).map fun j => ((j : Nat) : Int)
def totsWith (ts : List (List Int)) (kind : Int) : List Int := twF ts kind ts.length
theorem inV_ints (k : Int) : ∀ cs : List Int, inV (.int k) (cs.map V.int) = cs.contains k
  | [] => rfl
  | c :: cs => by
    have ih := inV_ints k cs
    unfold inV at ih ⊢
    rw [List.map_cons, List.any_cons, ih, List.contains_cons]
    congr 1
    show (c == k) = (k == c)
    rw [Bool.eq_iff_iff, beq_iff_eq, beq_iff_eq]
    exact ⟨Eq.symm, Eq.symm⟩
theorem flat_ints : ∀ cs : List Int, (cs.map V.int).all flatV = true
  | [] => rfl
  | c :: cs => by
    rw [List.map_cons, List.all_cons, flat_ints cs]
    rfl
end CK
namespace CK
open PySem PySem.Spec PyProof.Rows L2 VG FR
def LotOk (n : Int) (c : List Int) : Prop := c.length ≤ 1000 ∧ (∀ x ∈ c, 0 ≤ x ∧ x < n) ∧ Asc c
def spCheckTotals (K : PySem.W.Frag) : Sp := fun vs H Q _ => ∃ (t : Addr) (xs : List V) (ts : List (List Int)) (n : Int), vs = [.ref t, .int n] ∧ SqT K H t xs ∧ Tots K H xs ts ∧ ts.length ≤ 12 ∧ (∀ c ∈ ts, LotOk n c) ∧ ∀ H', Same H H' → Q .non H'
end CK
namespace CK
open PySem PySem.Spec PyProof.Rows L2 VG FR
abbrev cLETTERS : Str := "abcdefghijklmnopqrstuvwxyz"
theorem in_letters (c : Nat) : c ∈ cLETTERS.cps.toList ↔ 97 ≤ c ∧ c ≤ 122 := by
  have e : cLETTERS.cps.toList = (List.range 26).map (· + 97) := by decide +kernel
  rw [e, List.mem_map]
  constructor
  · rintro ⟨a, ha, rfl⟩
    have := List.mem_range.mp ha
    omega
  · intro h
    exact ⟨c - 97, List.mem_range.mpr (by omega), by omega⟩
def NameOk (z : Str) : Prop := 1 ≤ z.cps.size ∧ z.cps.size ≤ 6 ∧ ∀ c ∈ z.cps.toList, 97 ≤ c ∧ c ≤ 122
def spName : Sp := fun vs H Q _ => ∃ z : Str, vs = [.str z] ∧ NameOk z ∧ ∀ H', Same H H' → Q (.bl true) H'
def spNames (K : PySem.W.Frag) : Sp := fun vs H Q _ => ∃ (t : Addr) (ks : List Str), vs = [.ref t] ∧ SqT K H t (ks.map V.str) ∧ ks.length ≤ 1000 ∧ (∀ z ∈ ks, NameOk z) ∧ ∀ H', Same H H' → Q (.bl true) H'
def AscS (ks : List Str) : Prop := ∀ (i : Nat) (a b : Str), ks[i]? = some a → ks[i + 1]? = some b → a.cps.toList < b.cps.toList
theorem asc_strs {ks : List Str} (h : AscS ks) : AscV (ks.map V.str) := by
  intro i x y hx hy
  rw [List.getElem?_map] at hx hy
  obtain ⟨a, ea, rfl⟩ := Option.map_eq_some_iff.mp hx
  obtain ⟨b, eb, rfl⟩ := Option.map_eq_some_iff.mp hy
  exact .inr ⟨a, b, rfl, rfl, h i a b ea eb⟩
def KindsOk (ks : List Str) : Prop := 1 ≤ ks.length ∧ ks.length ≤ 12 ∧ (∀ z ∈ ks, NameOk z) ∧ AscS ks
def spCheckKinds (K : PySem.W.Frag) : Sp := fun vs H Q _ => ∃ (t : Addr) (ks : List Str), vs = [.ref t] ∧ SqT K H t (ks.map V.str) ∧ KindsOk ks ∧ ∀ H', Same H H' → Q .non H'
end CK
namespace CK
open PySem PySem.Spec PyProof.Rows L2 VG FR
/-- __init__ of a right table, at a new instance -/
def spInitT (K : PySem.W.Frag) (C : Addr) : Sp := fun vs H Q _ => ∃ (a dx k t : Addr) (ks : List Str) (xs : List V) (ts : List (List Int)), vs = [.ref a, .ref k, .ref t] ∧ H a = some (.ins C dx []) ∧ SqT K H k (ks.map V.str) ∧ KindsOk ks ∧ SqT K H t xs ∧ Tots K H xs ts ∧ ts.length ≤ 12 ∧
  (∀ c ∈ ts, LotOk ks.length c) ∧ ∀ H', (∀ b o, b ≠ a → H b = some o → H' b = some o) → H' a = some (.ins C dx [((("kinds" : String) : Str), .ref k), ((("totals" : String) : Str), .ref t)]) → Q .non H'
end CK
namespace CK
open PySem PySem.Spec PyProof.Rows L2 VG FR
/-- the numbers below i at which something holds -/
def pick (P : Nat → Bool) (i : Nat) : List Int := ((List.range i).filter P).map fun j => ((j : Nat) : Int)
theorem pick_yes {P : Nat → Bool} {i : Nat} (h : P i = true) : pick P (i + 1) = pick P i ++ [(i : Int)] := by
  unfold pick
  rw [List.range_succ, List.filter_append, List.map_append]
  have e2 : [i].filter P = [i] := by simp only [List.filter_cons, h, if_true, List.filter_nil]
  rw [e2]
  rfl
theorem pick_no {P : Nat → Bool} {i : Nat} (h : P i = false) : pick P (i + 1) = pick P i := by
  unfold pick
  rw [List.range_succ, List.filter_append, List.map_append]
  have e2 : [i].filter P = [] := by simp only [List.filter_cons, h, if_false, List.filter_nil, Bool.false_eq_true]
  rw [e2]
  exact List.append_nil _
def absI (a : Int) : Int := if a < 0 then -a else a
def agrP (one other : List Int) (j : Nat) : Bool := decide (absI (one.getD j 0) = 1) && decide (one.getD j 0 = other.getD j 0)
def agrL (cs ds : List Int) : List Int := pick (agrP cs ds) cs.length
def difL (cs ds : List Int) : List Int := (cs.zip ds).map fun x => x.1 - x.2
end CK
namespace VG
open PySem PySem.Spec PyProof.Rows L2
end VG
namespace VG
open PySem PySem.Spec PyProof.Rows L2
end VG
namespace CK
open PySem PySem.Spec PyProof.Rows L2 VG FR
def kI (c : List Int) : List L2.Key := c.map fun x => (Sum.inl x : L2.Key)
/-- the keys in the sequence in which they come about -/
def keysOf (f : Nat → List Int) : Nat → List (List Int)
  | 0 => []
  | n + 1 => if f n ∈ keysOf f n then keysOf f n else keysOf f n ++ [f n]
theorem keys_mem (f : Nat → List Int) : ∀ {n j : Nat}, j < n → f j ∈ keysOf f n
  | n + 1, j, h => by
    unfold keysOf
    by_cases e : f n ∈ keysOf f n
    · rw [if_pos e]
      rcases Nat.lt_or_ge j n with z | z
      · exact keys_mem f z
      · have : j = n := by omega
        subst this
        exact e
    · rw [if_neg e]
      rcases Nat.lt_or_ge j n with z | z
      · exact List.mem_append_left _ (keys_mem f z)
      · have : j = n := by omega
        subst this
        exact List.mem_append_right _ (List.mem_singleton.mpr rfl)
def memb (f : Nat → List Int) (c : List Int) (j : Nat) : Bool := decide (f j = c)
/-- the dict's entries -/
def mkKvs : List (List Int) → List Addr → List (List L2.Key × V)
  | c :: cs, l :: ls => (kI c, .ref l) :: mkKvs cs ls
  | _, _ => []
end CK
namespace CK
open PySem PySem.Spec PyProof.Rows L2 VG FR
def fT (ts : List (List Int)) (j : Nat) : List Int := totsWith ts j
/-- the groups in the heap, behind i kinds -/
structure Grp (H0 H : Hp) (D : Addr) (f : Nat → List Int) (i : Nat) (ls : List Addr) : Prop where
  d : H D = some (.dT (mkKvs (keysOf f i) ls))
  len : (keysOf f i).length = ls.length
  nd : ls.Nodup
  new : ∀ l ∈ ls, H0 l = none
  at_ : ∀ (j : Nat) (c : List Int) (l : Addr), (keysOf f i)[j]? = some c → ls[j]? = some l → H l = some (.lst ((pick (memb f c) i).map V.int))
theorem Grp.mono {H0 H H' : Hp} {D : Addr} {f : Nat → List Int} {i : Nat} {ls : List Addr} (g : Grp H0 H D f i ls) (e : Same H H') : Grp H0 H' D f i ls :=
  ⟨e _ _ g.d, g.len, g.nd, g.new, fun j c l h1 h2 => e _ _ (g.at_ j c l h1 h2)⟩
theorem pick_nil {P : Nat → Bool} {i : Nat} (h : ∀ j, j < i → P j = false) : pick P i = [] := by
  unfold pick
  have e : (List.range i).filter P = [] := List.filter_eq_nil_iff.mpr fun j hj => by
    rw [h j (List.mem_range.mp hj)]
    exact Bool.false_ne_true
  rw [e]
  rfl
theorem nodup_at {α : Type} : ∀ {l : List α} {i j : Nat} {x : α}, l.Nodup → l[i]? = some x → l[j]? = some x → i = j
  | [], _, _, _, _, h, _ => by simp at h
  | a :: l, 0, 0, _, _, _, _ => rfl
  | a :: l, 0, j + 1, x, n, h, k => by
    have e : a = x := Option.some.inj h
    subst e
    exact absurd (List.mem_of_getElem? (l := l) (i := j) k) (List.nodup_cons.mp n).1
  | a :: l, i + 1, 0, x, n, h, k => by
    have e : a = x := Option.some.inj k
    subst e
    exact absurd (List.mem_of_getElem? (l := l) (i := i) h) (List.nodup_cons.mp n).1
  | a :: l, i + 1, j + 1, x, n, h, k => by rw [nodup_at (l := l) (i := i) (j := j) (List.nodup_cons.mp n).2 h k]
/-- one more kind, of a new group -/
theorem Grp.fresh {H0 H : Hp} {D L : Addr} {f : Nat → List Int} {i : Nat} {ls : List Addr} (g : Grp H0 H D f i ls) (n : f i ∉ keysOf f i) (nL : H L = none) (n0 : H0 L = none) :
    Grp H0 (L2.upd (L2.upd (L2.upd H L (.lst [])) D (.dT (mkKvs (keysOf f i ++ [f i]) (ls ++ [L])))) L (.lst [V.int (i : Int)])) D f (i + 1) (ls ++ [L]) := by
  have ek : keysOf f (i + 1) = keysOf f i ++ [f i] := by
    show (if f i ∈ keysOf f i then keysOf f i else keysOf f i ++ [f i]) = _
    rw [if_neg n]
  have nDL : D ≠ L := ne_of_none g.d nL
  have there : ∀ l ∈ ls, l ≠ L ∧ l ≠ D := by
    intro l hl
    obtain ⟨j, ej⟩ := List.mem_iff_getElem?.mp hl
    have hj : j < (keysOf f i).length := by
      have := (List.getElem?_eq_some_iff.mp ej).1
      rw [g.len]
      exact this
    have h := g.at_ j _ l (List.getElem?_eq_getElem hj) ej
    exact ⟨ne_of_none h nL, ne_of h g.d (fun z => nomatch z)⟩
  refine ⟨?_, ?_, ?_, ?_, ?_⟩
  · rw [upd_ne nDL, upd_same, ek]
  · rw [ek, List.length_append, List.length_append, g.len]
    rfl
  · exact List.nodup_append.mpr ⟨g.nd, by simp, fun a ha b hb => by
      have : b = L := List.mem_singleton.mp hb
      subst this
      exact (there a ha).1⟩
  · intro l hl
    rcases List.mem_append.mp hl with z | z
    · exact g.new l z
    · have : l = L := List.mem_singleton.mp z
      subst this
      exact n0
  · intro j c l k1 k2
    rw [ek] at k1
    rcases Nat.lt_or_ge j ls.length with z | z
    · rw [List.getElem?_append_left (by rw [g.len]; exact z)] at k1
      rw [List.getElem?_append_left z] at k2
      have th := there l (List.mem_of_getElem? k2)
      have nc : f i ≠ c := fun q => n (q ▸ List.mem_of_getElem? k1)
      rw [upd_ne th.1, upd_ne th.2, upd_ne th.1, pick_no (by unfold memb; exact decide_eq_false nc)]
      exact g.at_ j c l k1 k2
    · rw [List.getElem?_append_right (by rw [g.len]; exact z)] at k1
      rw [List.getElem?_append_right z] at k2
      rw [g.len] at k1
      have j0 : j - ls.length = 0 := by
        have := (List.getElem?_eq_some_iff.mp k2).1
        rw [List.length_singleton] at this
        omega
      rw [j0] at k1 k2
      have e1 : f i = c := Option.some.inj k1
      have e2 : L = l := Option.some.inj k2
      subst e1 e2
      have p0 : pick (memb f (f i)) i = [] := pick_nil fun j hj => by
        unfold memb
        exact decide_eq_false (fun q => n (q ▸ keys_mem f hj))
      rw [upd_same, pick_yes (by unfold memb; exact decide_eq_true rfl), p0]
      rfl
end CK
namespace CK
open PySem PySem.Spec PyProof.Rows L2 VG FR
theorem Tots.snoc {K : PySem.W.Frag} {H : Hp} {t : Addr} {c : List Int} (hv : SqT K H t (c.map V.int)) : ∀ {vs : List V} {cs : List (List Int)}, Tots K H vs cs → Tots K H (vs ++ [.ref t]) (cs ++ [c])
  | [], [], _ => ⟨⟨t, rfl, hv⟩, trivial⟩
  | _ :: _, _ :: _, h => ⟨h.1, Tots.snoc hv h.2⟩
  | [], _ :: _, h => h.elim
  | _ :: _, [], h => h.elim
theorem Tots.upd {K : PySem.W.Frag} {H : Hp} {D : Addr} {ys zs : List V} (hD : H D = some (.lst ys)) : ∀ {vs : List V} {cs : List (List Int)}, Tots K H vs cs → Tots K (L2.upd H D (.lst zs)) vs cs
  | [], [], _ => trivial
  | _ :: _, _ :: _, ⟨⟨t, e1, h⟩, r⟩ => ⟨⟨t, e1, seqT_upd hD h⟩, Tots.upd hD r⟩
  | [], _ :: _, h => h.elim
  | _ :: _, [], h => h.elim
end CK
namespace CK
open PySem PySem.Spec PyProof.Rows L2 VG FR
theorem seqT_at {K : PySem.W.Frag} {H : Hp} {D t : Addr} {o o0 : HO} {xs : List V} (hD : H D = some o0) (h1 : ∀ ys, HO.tup ys ≠ o0) (h2 : ∀ od ys, HO.frz od (.tup ys) ≠ o0) (h : SqT K H t xs) : SqT K (L2.upd H D o) t xs := by
  rcases h with (h | ⟨o', h⟩) | h
  · exact .inl (.inl (by rw [upd_ne (ne_of h hD (h1 _))]; exact h))
  · exact .inl (.inr ⟨o', by rw [upd_ne (ne_of h hD (h2 _ _))]; exact h⟩)
  · exact .inr h
theorem Tots.at_ {K : PySem.W.Frag} {H : Hp} {D : Addr} {o o0 : HO} (hD : H D = some o0) (h1 : ∀ ys, HO.tup ys ≠ o0) (h2 : ∀ od ys, HO.frz od (.tup ys) ≠ o0) : ∀ {vs : List V} {cs : List (List Int)}, Tots K H vs cs → Tots K (L2.upd H D o) vs cs
  | [], [], _ => trivial
  | _ :: _, _ :: _, ⟨⟨t, e1, h⟩, r⟩ => ⟨⟨t, e1, seqT_at hD h1 h2 h⟩, Tots.at_ hD h1 h2 r⟩
  | [], _ :: _, h => h.elim
  | _ :: _, [], h => h.elim
abbrev Nums := List (L2.Key × V)
end CK
namespace VG
open PySem PySem.Spec PyProof.Rows L2
abbrev emptyS (w : World) : Obj := ⟨.type "set", none, .set #[] 0 (.fresh 0 0 (!w.params.followText "set-order")), #[]⟩
end VG
namespace VG
open PySem PySem.Spec PyProof.Rows L2
end VG
namespace M14
open M2
def Eqv (a b : Int × Int) : Prop := a.1 * b.2 = b.1 * a.2
theorem eqv_mk {a b : Int × Int} (ha : Low a.1 a.2) (hb : 0 < b.2) (h : Eqv a b) : a = mk b.1 b.2 := by
  have e := mk_eq (a := b.1) (b := b.2) (by omega)
  have l := mk_low (a := b.1) (b := b.2) (by omega)
  have h : a.1 * b.2 = b.1 * a.2 := h
  have c : a.1 * (mk b.1 b.2).2 = (mk b.1 b.2).1 * a.2 := by
    refine Int.eq_of_mul_eq_mul_right (a := b.2) (by omega) ?_
    grind
  have q := low_eq ha l c
  exact Prod.ext q.1 q.2
def absV (a : Int) : Int := if a < 0 then -a else a
theorem small_eqv {a b : Int × Int} (ha : 0 < a.2) (hb : 0 < b.2) (h : Eqv a b) : absV a.1 < a.2 ↔ absV b.1 < b.2 := by
  have h : a.1 * b.2 = b.1 * a.2 := h
  have e : absV a.1 * b.2 = absV b.1 * a.2 := by
    unfold absV
    by_cases x : a.1 < 0
    · have y : b.1 < 0 := by
        have z : b.1 * a.2 < 0 := by rw [← h]; exact Int.mul_neg_of_neg_of_pos x hb
        rcases Int.lt_or_le b.1 0 with q | q
        · exact q
        · have := Int.mul_nonneg q (Int.le_of_lt ha)
          omega
      rw [if_pos x, if_pos y, Int.neg_mul, Int.neg_mul, h]
    · have y : ¬ b.1 < 0 := by
        intro y
        have z : a.1 * b.2 < 0 := by rw [h]; exact Int.mul_neg_of_neg_of_pos y ha
        have := Int.mul_nonneg (show 0 ≤ a.1 by omega) (Int.le_of_lt hb)
        omega
      rw [if_neg x, if_neg y, h]
  constructor
  · intro k
    refine Int.lt_of_mul_lt_mul_right (a := a.2) ?_ (Int.le_of_lt ha)
    rw [← e]
    have := Int.mul_lt_mul_of_pos_right k hb
    rw [Int.mul_comm b.2 a.2]
    exact this
  · intro k
    refine Int.lt_of_mul_lt_mul_right (a := b.2) ?_ (Int.le_of_lt hb)
    rw [e]
    have := Int.mul_lt_mul_of_pos_right k ha
    rw [Int.mul_comm a.2 b.2]
    exact this
end M14
namespace M15
/-- no member twice, within a list or in two -/
def Apart (bs : List (List Int)) : Prop := bs.flatten.Nodup
theorem apart_get : ∀ {bs : List (List Int)} {i : Nat} {b : List Int}, Apart bs → bs[i]? = some b → b.Nodup
  | b :: bs, 0, c, h, e => by
    have : b = c := Option.some.inj e
    subst this
    exact (List.nodup_append.mp h).1
  | b :: bs, i + 1, c, h, e => apart_get (bs := bs) (i := i) (List.nodup_append.mp h).2.1 e
theorem apart_mem {bs : List (List Int)} {b : List Int} (h : Apart bs) (m : b ∈ bs) : b.Nodup := by
  obtain ⟨i, e⟩ := List.mem_iff_getElem?.mp m
  exact apart_get h e
end M15
namespace CK
open PySem PySem.Spec PyProof.Rows L2 VG FR
def BtL : List Nat → List Q2 → Prop
  | n :: ns, p :: ps => Bt n p ∧ BtL ns ps
  | [], [] => True
  | _, _ => False
def bits (e : Nat) (ns : List Nat) : Nat := (ns.map (· + e)).sum
theorem BtL.len : ∀ {ns : List Nat} {ps : List Q2}, BtL ns ps → ns.length = ps.length
  | [], [], _ => rfl
  | _ :: _, _ :: _, h => by rw [List.length_cons, List.length_cons, h.2.len]
  | [], _ :: _, h => h.elim
  | _ :: _, [], h => h.elim
theorem BtL.get : ∀ {ns : List Nat} {ps : List Q2} {i : Nat} {p : Q2}, BtL ns ps → ps[i]? = some p → ∃ n, ns[i]? = some n ∧ Bt n p
  | n :: _, p :: _, 0, q, h, e => by
    have e1 : p = q := Option.some.inj e
    subst e1
    exact ⟨n, rfl, h.1⟩
  | _ :: ns, _ :: ps, i + 1, q, h, e => h.2.get (i := i) e
  | [], [], _, _, _, e => by cases e
  | [], _ :: _, _, _, h, _ => h.elim
  | _ :: _, [], _, _, h, _ => h.elim
theorem bits_get {e : Nat} : ∀ {ns : List Nat} {i n : Nat}, ns[i]? = some n → n + e ≤ bits e ns
  | m :: ns, 0, n, h => by
    have : m = n := Option.some.inj h
    subst this
    show m + e ≤ (m + e) + (ns.map (· + e)).sum
    omega
  | m :: ns, i + 1, n, h => by
    have := bits_get (e := e) (ns := ns) (i := i) (n := n) h
    show n + e ≤ (m + e) + bits e ns
    omega
theorem bits_take {e : Nat} : ∀ (ns : List Nat) (i : Nat), bits e (ns.take i) ≤ bits e ns
  | [], _ => by simp [bits]
  | m :: ns, 0 => Nat.zero_le _
  | m :: ns, i + 1 => by
    have := bits_take (e := e) ns i
    show (m + e) + bits e (ns.take i) ≤ (m + e) + bits e ns
    omega
theorem BtL.take : ∀ {ns : List Nat} {ps : List Q2} (i : Nat), BtL ns ps → BtL (ns.take i) (ps.take i)
  | [], [], i, h => by
    rw [List.take_nil, List.take_nil]
    trivial
  | _ :: _, _ :: _, 0, h => trivial
  | _ :: _, _ :: _, i + 1, h => ⟨h.1, h.2.take i⟩
  | [], _ :: _, _, h => h.elim
  | _ :: _, [], _, h => h.elim
theorem sumL_ok : ∀ (ns : List Nat) (ps : List Q2) (a : Q2) (m : Nat), BtL ns ps → (∀ p ∈ ps, M2.Low p.1 p.2) → M2.Low a.1 a.2 → Bt m a → M2.Low (ps.foldl M2.add a).1 (ps.foldl M2.add a).2 ∧ Bt (m + bits 1 ns) (ps.foldl M2.add a)
  | [], [], a, m, _, _, h1, h2 => ⟨h1, h2⟩
  | n :: ns, p :: ps, a, m, hb, hp, h1, h2 => by
    have lp := hp p List.mem_cons_self
    have ad := M2.add_ok (p := a) (q := p) h1 lp
    have sz := M2.add_size (p := a) (q := p) h1 lp h2.1 h2.2 hb.1.1 hb.1.2
    have ih := sumL_ok ns ps (M2.add a p) (m + n + 1) hb.2 (fun q hq => hp q (List.mem_cons_of_mem _ hq)) ad.1 sz
    have e : m + bits 1 (n :: ns) = m + n + 1 + bits 1 ns := by
      show m + ((n + 1) + bits 1 ns) = _
      omega
    rw [e]
    exact ih
  | [], _ :: _, _, _, h, _, _, _ => h.elim
  | _ :: _, [], _, _, h, _, _, _ => h.elim
def spSumL (K : PySem.W.Frag) : Sp := fun vs H Q _ => ∃ (s : Addr) (xs : List V) (ps : List Q2) (ns : List Nat), vs = [.ref s] ∧ (SqT K H s xs ∨ SqL K H s xs) ∧ Frs K H xs ps ∧ BtL ns ps ∧ (∀ p ∈ ps, M2.Low p.1 p.2) ∧ bits 1 ns ≤ 2900 ∧ ∀ H' u, Same H H' → SqT K H' u (pV (sumQ ps)) → Q (.ref u) H'
end CK
namespace CK
open PySem PySem.Spec PyProof.Rows L2 VG FR
theorem nodup_le {α : Type} [DecidableEq α] : ∀ (l D : List α), l.Nodup → (∀ x ∈ l, x ∈ D) → l.length ≤ D.length
  | [], _, _, _ => Nat.zero_le _
  | a :: l, D, h, s => by
    have ⟨h1, h2⟩ := List.nodup_cons.mp h
    have ha := s a List.mem_cons_self
    have ih := nodup_le l (D.erase a) h2 fun x hx => (List.mem_erase_of_ne (fun e => h1 (by rw [← e]; exact hx))).mpr (s x (List.mem_cons_of_mem _ hx))
    rw [List.length_erase_of_mem ha] at ih
    have := List.length_pos_of_mem ha
    rw [List.length_cons]
    omega
end CK
namespace CK
open PySem PySem.Spec PyProof.Rows L2 VG FR
/-- entries that are integers, or not -/
def Parts (K : PySem.W.Frag) (H : Hp) : List V → List (Option Int) → Prop
  | x :: xs, o :: os => Part K H x o ∧ Parts K H xs os
  | [], [] => True
  | _, _ => False
theorem Parts.mono {K : PySem.W.Frag} {H H' : Hp} (e : Same H H') : ∀ {xs : List V} {os : List (Option Int)}, Parts K H xs os → Parts K H' xs os
  | [], [], _ => trivial
  | _ :: _, _ :: _, h => ⟨part_mono e h.1, h.2.mono e⟩
  | [], _ :: _, h => h.elim
  | _ :: _, [], h => h.elim
theorem Parts.len {K : PySem.W.Frag} {H : Hp} : ∀ {xs : List V} {os : List (Option Int)}, Parts K H xs os → xs.length = os.length
  | [], [], _ => rfl
  | _ :: _, _ :: _, h => by rw [List.length_cons, List.length_cons, h.2.len]
  | [], _ :: _, h => h.elim
  | _ :: _, [], h => h.elim
theorem Parts.get {K : PySem.W.Frag} {H : Hp} : ∀ {xs : List V} {os : List (Option Int)} {i : Nat} {x : V}, Parts K H xs os → xs[i]? = some x → ∃ o, os[i]? = some o ∧ Part K H x o
  | a :: _, o :: _, 0, x, h, e => by
    have e1 : a = x := Option.some.inj e
    subst e1
    exact ⟨o, rfl, h.1⟩
  | _ :: xs, _ :: os, i + 1, x, h, e => h.2.get (i := i) e
  | [], [], _, _, _, e => by cases e
  | [], _ :: _, _, _, h, _ => h.elim
  | _ :: _, [], _, _, h, _ => h.elim
/-- any value: no tuple, or a tuple with such entries -/
def AnyV (K : PySem.W.Frag) (H : Hp) (v : V) : Option (List (Option Int)) → Prop
  | none => ∃ ty : String, TyX K H v (.type ty) ∧ kitB ty "tuple" = some false
  | some os => ∃ p xs, v = .ref p ∧ SqT K H p xs ∧ Parts K H xs os ∧ os.length ≤ 1000
theorem AnyV.mono {K : PySem.W.Frag} {H H' : Hp} (e : Same H H') {v : V} : ∀ {o : Option (List (Option Int))}, AnyV K H v o → AnyV K H' v o
  | none, ⟨ty, h, k⟩ => ⟨ty, tyX_mono e h, k⟩
  | some _, ⟨p, xs, e1, h, r, l⟩ => ⟨p, xs, e1, seqT e h, r.mono e, l⟩
def EsOk (es : List Q2) : Prop := ∀ p ∈ es, M2.Low p.1 p.2 ∧ Bt 20 p
theorem bits_rep (e n k : Nat) : bits e (List.replicate k n) = k * (n + e) := by
  unfold bits
  rw [List.map_replicate, List.sum_replicate_nat]
theorem BtL.all : ∀ {ns : List Nat} {ps : List Q2} {m : Nat}, BtL ns ps → (∀ n ∈ ns, n ≤ m) → ∀ p ∈ ps, Bt m p
  | [], [], _, _, _, p, hp => by cases hp
  | n :: ns, q :: ps, m, h, hn, p, hp => by
    rcases List.mem_cons.mp hp with z | z
    · rw [z]
      exact h.1.mono (hn n List.mem_cons_self)
    · exact BtL.all h.2 (fun k hk => hn k (List.mem_cons_of_mem _ hk)) p z
  | [], _ :: _, _, h, _, _, _ => h.elim
  | _ :: _, [], _, h, _, _, _ => h.elim
end CK
namespace CK
open PySem PySem.Spec PyProof.Rows L2 VG FR HD
def On (p q : Addr) (G H : Hp) : Prop := Hd p q H ∧ Same G H ∧ G p = none ∧ G q = none
theorem frz_p (p q : Addr) (H : Hp) : frz p q H p = none ∧ frz p q H q = none := by
  unfold frz
  exact ⟨if_pos (.inl rfl), if_pos (.inr rfl)⟩
theorem frz_le {p q : Addr} {H : Hp} : Same (frz p q H) H := frz_keep (Keep.refl p q H)
theorem frz_cases {p q b : Addr} {o : HO} {H : Hp} (h : frz p q H b = some o) : b ≠ p ∧ b ≠ q ∧ H b = some o := by
  unfold frz at h
  by_cases z : b = p ∨ b = q
  · rw [if_pos z] at h
    cases h
  · rw [if_neg z] at h
    exact ⟨fun y => z (.inl y), fun y => z (.inr y), h⟩
section
variable {p q : Addr} {G H H' : Hp}
theorem On.start (h : Hd p q H) : On p q (frz p q H) H := ⟨h, frz_le, (frz_p p q H).1, (frz_p p q H).2⟩
theorem On.hd (h : On p q G H) : Hd p q H := h.1
theorem On.le (h : On p q G H) : Same G H := h.2.1
theorem On.neP (h : On p q G H) {b : Addr} {o : HO} (e : G b = some o) : b ≠ p ∧ b ≠ q := ⟨fun z => (by rw [z, h.2.2.1] at e; cases e), fun z => (by rw [z, h.2.2.2] at e; cases e)⟩
theorem On.draw (h : On p q G H) (hd : Hd p q H') (k : Keep p q H H') : On p q G H' :=
  ⟨hd, fun b o e => k b o (h.neP e).1 (h.neP e).2 (h.le b o e), h.2.2⟩
theorem On.same (h : On p q G H) (s : Same H H') : On p q G H' := ⟨h.1.same s, h.le.trans s, h.2.2⟩
theorem On.new (h : On p q G H) {n : Addr} {o : HO} (hn : H n = none) : On p q G (L2.upd H n o) := h.same (same_upd hn)
theorem On.free (h : On p q G H) {n : Addr} (hn : H n = none) : n ≠ p ∧ n ≠ q ∧ G n = none := ⟨(h.1.free hn).1, (h.1.free hn).2, h.le.free hn⟩
theorem On.put (h : On p q G H) {D : Addr} {o : HO} (f : D ≠ p ∧ D ≠ q ∧ G D = none) : On p q G (L2.upd H D o) :=
  ⟨hd_put h.1 f.1 f.2.1, fun b x e => by rw [upd_ne (ne_of_none e f.2.2)]; exact h.le b x e, h.2.2⟩
theorem On.base (h : On p q G H) : On p q (frz p q H) H ∧ Same G (frz p q H) := ⟨.start h.1, fun b o e => frz_at (h.le b o e) (h.neP e)⟩
theorem On.keep (h : On p q (frz p q H) H') : Keep p q H H' := fun b o n1 n2 e => h.le b o (frz_at e ⟨n1, n2⟩)
theorem On.drop {G0 : Hp} (h : On p q G H) (s : Same G0 G) : On p q G0 H := ⟨h.1, s.trans h.le, s.free h.2.2.1, s.free h.2.2.2⟩
end
abbrev cALPH : Str := "acdefghijklnop"
def lastC (t : Nat) : Nat := cALPH.cps.toList.getD (t % 14) 0
theorem last_ok (t : Nat) : cALPH.cps.toList[t % 14]? = some (lastC t) ∧ 97 ≤ lastC t ∧ lastC t ≤ 122 := by
  have h : ∀ i : Fin 14, cALPH.cps.toList[i.1]? = some (cALPH.cps.toList.getD i.1 0) ∧ 97 ≤ cALPH.cps.toList.getD i.1 0 ∧ cALPH.cps.toList.getD i.1 0 ≤ 122 := by decide +kernel
  exact h ⟨t % 14, Nat.mod_lt _ (by decide)⟩
/-- a word of a turn -/
def Wd (t : Nat) (z : Str) : Prop := ∃ pre : List Nat, z.cps.toList = pre ++ [lastC t] ∧ pre.length ≤ 2 ∧ ∀ c ∈ pre, 97 ≤ c ∧ c ≤ 122
theorem Wd.name {t : Nat} {z : Str} (h : Wd t z) : NameOk z := by
  obtain ⟨pre, e, l, a⟩ := h
  have sz : z.cps.size = pre.length + 1 := by rw [← Array.length_toList, e, List.length_append]; rfl
  refine ⟨by omega, by omega, fun c hc => ?_⟩
  rw [e] at hc
  rcases List.mem_append.mp hc with q | q
  · exact a c q
  · have := List.mem_singleton.mp q
    subst this
    exact (last_ok t).2
theorem rising_step : ∀ (p : Str) (l : List Str) (i : Nat) (a b : Str), risingS p l = true → (p :: l)[i]? = some a → (p :: l)[i + 1]? = some b → ltCps b.cps.toList a.cps.toList = false
  | p, [], i, a, b, _, _, h => by simp at h
  | p, x :: r, 0, a, b, h, ha, hb => by
    have e1 : p = a := Option.some.inj ha
    have e2 : x = b := Option.some.inj hb
    subst e1 e2
    have h : (!ltCps x.cps.toList p.cps.toList && risingS x r) = true := h
    rw [Bool.and_eq_true] at h
    simpa using h.1
  | p, x :: r, i + 1, a, b, h, ha, hb => by
    have h : (!ltCps x.cps.toList p.cps.toList && risingS x r) = true := h
    rw [Bool.and_eq_true] at h
    exact rising_step x r i a b h.2 ha hb
theorem ascS_of {ks : List Str} (h : sortedS ks = true) (n : ks.Nodup) : AscS ks := by
  intro i a b ha hb
  have ne : a ≠ b := fun z => by
    subst z
    have := nodup_at n ha hb
    omega
  have le : ltCps b.cps.toList a.cps.toList = false := by
    cases ks with
    | nil => simp at ha
    | cons p l => exact rising_step p l i a b h ha hb
  rw [ltCps_eq] at le
  have le := of_decide_eq_false le
  have ne2 : a.cps.toList ≠ b.cps.toList := fun z => ne (by
    obtain ⟨x⟩ := a
    obtain ⟨y⟩ := b
    have e : x = y := Array.toList_inj.mp z
    rw [e])
  rcases Std.lt_trichotomy a.cps.toList b.cps.toList with z | z | z
  · exact z
  · exact absurd z ne2
  · exact absurd z le
def spLawNames (K : PySem.W.Frag) : Sp := fun vs H Q _ => ∃ (p q : Addr) (m : Nat), vs = [.ref p, .int m] ∧ Hd p q H ∧ 1 ≤ m ∧ m ≤ 12 ∧ ∀ (H' : Hp) (u : Addr) (ks : List Str), On p q (frz p q H) H' → H' u = some (.tup (ks.map V.str)) → KindsOk ks → ks.length = m → Q (.ref u) H'
end CK
namespace CK
open PySem PySem.Spec PyProof.Rows L2 VG FR HD
theorem fmod_nat (i : Nat) {m : Nat} (h : 0 < m) : ((i : Int)).fmod (m : Int) = ((i % m : Nat) : Int) := by
  rw [Int.fmod_eq_emod_of_nonneg _ (by omega)]
  rfl
end CK
namespace CK
open PySem PySem.Spec PyProof.Rows L2 VG FR HD
def asInts (ys : List V) : List Int := ys.map fun v => match v with
  | .int a => a
  | _ => 0
theorem as_ints : ∀ c : List Int, asInts (c.map V.int) = c
  | [] => rfl
  | a :: c => by
    show a :: asInts (c.map V.int) = a :: c
    rw [as_ints c]
def rd (G : Hp) (v : V) : List Int := match v with
  | .ref t => match G t with
    | some (.lst ys) => asInts ys
    | _ => []
  | _ => []
def LOk (G : Hp) (v : V) : Prop := ∃ (t : Addr) (c : List Int), v = .ref t ∧ G t = some (.lst (c.map V.int))
theorem rd_eq {G : Hp} {t : Addr} {c : List Int} (h : G t = some (.lst (c.map V.int))) : rd G (.ref t) = c := by
  show (match G t with
    | some (.lst ys) => asInts ys
    | _ => []) = c
  rw [h]
  exact as_ints c
theorem LOk.get {G : Hp} {v : V} (h : LOk G v) : ∃ t, v = .ref t ∧ G t = some (.lst ((rd G v).map V.int)) := by
  obtain ⟨t, c, rfl, e⟩ := h
  exact ⟨t, rfl, by rw [rd_eq e]; exact e⟩
theorem LOk.mono {G G' : Hp} (s : Same G G') {v : V} (h : LOk G v) : LOk G' v ∧ rd G' v = rd G v := by
  obtain ⟨t, c, rfl, e⟩ := h
  exact ⟨⟨t, c, rfl, s _ _ e⟩, by rw [rd_eq e, rd_eq (s _ _ e)]⟩
def Ls (G : Hp) (xs : List V) : Prop := ∀ v ∈ xs, LOk G v
theorem Ls.mono {G G' : Hp} (s : Same G G') {xs : List V} (h : Ls G xs) : Ls G' xs ∧ xs.map (rd G') = xs.map (rd G) :=
  ⟨fun v hv => ((h v hv).mono s).1, List.map_congr_left fun v hv => ((h v hv).mono s).2⟩
theorem Ls.perm {G : Hp} {xs ys : List V} (p : ys.Perm xs) (h : Ls G xs) : Ls G ys := fun v hv => h v (p.mem_iff.mp hv)
theorem asc_lt : ∀ {l : List Int} {a : Int}, Asc (a :: l) → ∀ x ∈ l, a < x
  | b :: l, a, h, x, hx => by
    rcases List.mem_cons.mp hx with z | z
    · rw [z]
      exact h.1
    · exact Int.lt_trans h.1 (asc_lt h.2 x z)
theorem asc_nodup : ∀ {l : List Int}, Asc l → l.Nodup
  | [], _ => List.nodup_nil
  | a :: l, h => by
    refine List.nodup_cons.mpr ⟨fun z => ?_, asc_nodup (l := l) ?_⟩
    · have := asc_lt h a z
      omega
    · cases l with
      | nil => trivial
      | cons b r => exact h.2
/-- a lot of numbers below m -/
def LotI (m : Nat) (c : List Int) : Prop := Asc c ∧ ∀ x ∈ c, 0 ≤ x ∧ x < (m : Int)
theorem below_len {m : Nat} {c : List Int} (n : c.Nodup) (h : ∀ x ∈ c, 0 ≤ x ∧ x < (m : Int)) : c.length ≤ m := by
  have z := nodup_le c ((List.range m).map fun (j : Nat) => (j : Int)) n fun x hx => by
    have ⟨h1, h2⟩ := h x hx
    obtain ⟨j, rfl⟩ := Int.eq_ofNat_of_zero_le h1
    exact List.mem_map.mpr ⟨j, List.mem_range.mpr (by omega), rfl⟩
  rw [List.length_map, List.length_range] at z
  exact z
theorem LotI.len {m : Nat} {c : List Int} (h : LotI m c) : c.length ≤ m := below_len (asc_nodup h.1) h.2
/-- lists at given places -/
def Blk (H : Hp) : List Addr → List (List Int) → Prop
  | t :: ts, b :: bs => H t = some (.lst (b.map V.int)) ∧ Blk H ts bs
  | [], [] => True
  | _, _ => False
theorem Blk.len {H : Hp} : ∀ {ts : List Addr} {bs : List (List Int)}, Blk H ts bs → ts.length = bs.length
  | [], [], _ => rfl
  | _ :: _, _ :: _, h => by rw [List.length_cons, List.length_cons, h.2.len]
  | [], _ :: _, h => h.elim
  | _ :: _, [], h => h.elim
theorem Blk.imp {H H' : Hp} : ∀ {ts : List Addr} {bs : List (List Int)}, (∀ t ∈ ts, ∀ o, H t = some o → H' t = some o) → Blk H ts bs → Blk H' ts bs
  | [], [], _, _ => trivial
  | t :: ts, b :: bs, k, h => ⟨k t List.mem_cons_self _ h.1, Blk.imp (fun u hu => k u (List.mem_cons_of_mem _ hu)) h.2⟩
  | [], _ :: _, _, h => h.elim
  | _ :: _, [], _, h => h.elim
theorem Blk.get {H : Hp} : ∀ {ts : List Addr} {bs : List (List Int)} {j : Nat} {t : Addr}, Blk H ts bs → ts[j]? = some t → ∃ b, bs[j]? = some b ∧ H t = some (.lst (b.map V.int))
  | a :: _, b :: _, 0, t, h, e => by
    have e1 : a = t := Option.some.inj e
    subst e1
    exact ⟨b, rfl, h.1⟩
  | _ :: ts, _ :: bs, j + 1, t, h, e => h.2.get (j := j) e
  | [], [], _, _, _, e => by cases e
  | [], _ :: _, _, _, h, _ => h.elim
  | _ :: _, [], _, _, h, _ => h.elim
theorem Blk.at_ {H : Hp} {ts : List Addr} {bs : List (List Int)} (h : Blk H ts bs) {t : Addr} (m : t ∈ ts) : ∃ b, b ∈ bs ∧ H t = some (.lst (b.map V.int)) := by
  obtain ⟨j, e⟩ := List.mem_iff_getElem?.mp m
  obtain ⟨b, e2, k⟩ := h.get e
  exact ⟨b, List.mem_of_getElem? e2, k⟩
theorem Blk.snoc {H : Hp} {t : Addr} {b : List Int} (k : H t = some (.lst (b.map V.int))) : ∀ {ts : List Addr} {bs : List (List Int)}, Blk H ts bs → Blk H (ts ++ [t]) (bs ++ [b])
  | [], [], _ => ⟨k, trivial⟩
  | _ :: _, _ :: _, h => ⟨h.1, h.2.snoc k⟩
  | [], _ :: _, h => h.elim
  | _ :: _, [], h => h.elim
theorem Blk.set {H : Hp} {c : List Int} : ∀ {ts : List Addr} {bs : List (List Int)} {j : Nat} {t : Addr}, ts.Nodup → ts[j]? = some t → Blk H ts bs → Blk (L2.upd H t (.lst (c.map V.int))) ts (bs.set j c)
  | a :: ts, b :: bs, 0, t, n, e, h => by
    have e1 : a = t := Option.some.inj e
    subst e1
    refine ⟨upd_same, Blk.imp (fun u hu o k => ?_) h.2⟩
    have : u ≠ a := fun z => (List.nodup_cons.mp n).1 (z ▸ hu)
    rw [upd_ne this]
    exact k
  | a :: ts, b :: bs, j + 1, t, n, e, h => by
    have ha : a ≠ t := fun z => (List.nodup_cons.mp n).1 (z ▸ List.mem_of_getElem? (l := ts) (i := j) e)
    refine ⟨by rw [upd_ne ha]; exact h.1, Blk.set (j := j) (List.nodup_cons.mp n).2 e h.2⟩
  | [], [], _, _, _, e, _ => by cases e
  | [], _ :: _, _, _, _, _, h => h.elim
  | _ :: _, [], _, _, _, _, h => h.elim
/-- blocks: lists without a common member, together the numbers below m -/
def BlocksOk (m : Nat) (bs : List (List Int)) : Prop := M15.Apart bs ∧ bs ≠ [] ∧ bs.length ≤ 12 ∧ ∀ b ∈ bs, ∀ x ∈ b, 0 ≤ x ∧ x < (m : Int)
end CK
namespace CK
open PySem PySem.Spec PyProof.Rows L2 VG FR HD
/-- a list at F that grows by new lists -/
def Gw (p q : Addr) (H : Hp) (F : Addr) (ts : List Addr) (bs : List (List Int)) : Prop := H F = some (.lst (ts.map V.ref)) ∧ Blk H ts bs ∧ ∀ t ∈ ts, t ≠ F ∧ t ≠ p ∧ t ≠ q
section
variable {p q F : Addr} {H H' : Hp} {ts : List Addr} {bs : List (List Int)}
theorem Gw.nil (h : H F = some (.lst [])) : Gw p q H F [] [] := ⟨h, trivial, fun t h => by cases h⟩
theorem Gw.same (h : Gw p q H F ts bs) (s : Same H H') : Gw p q H' F ts bs := ⟨s _ _ h.1, Blk.imp (fun t _ o k => s _ _ k) h.2.1, h.2.2⟩
theorem Gw.draw (h : Gw p q H F ts bs) (f : F ≠ p ∧ F ≠ q) (k : Keep p q H H') : Gw p q H' F ts bs :=
  ⟨k _ _ f.1 f.2 h.1, Blk.imp (fun t ht o e => k _ _ (h.2.2 t ht).2.1 (h.2.2 t ht).2.2 e) h.2.1, h.2.2⟩
theorem Gw.push (h : Gw p q H F ts bs) {t : Addr} {b : List Int} (e : H t = some (.lst (b.map V.int))) (n : t ≠ F ∧ t ≠ p ∧ t ≠ q) : Gw p q (L2.upd H F (.lst (ts.map V.ref ++ [.ref t]))) F (ts ++ [t]) (bs ++ [b]) := by
  refine ⟨by rw [upd_same, List.map_append]; rfl, Blk.snoc (by rw [upd_ne n.1]; exact e) (Blk.imp (fun u hu o k => by rw [upd_ne (h.2.2 u hu).1]; exact k) h.2.1), fun u hu => ?_⟩
  rcases List.mem_append.mp hu with z | z
  · exact h.2.2 u z
  · rw [List.mem_singleton.mp z]
    exact n
theorem Gw.len (h : Gw p q H F ts bs) : ts.length = bs.length := h.2.1.len
end
def Distinct (m : Nat) (c : List Int) : Prop := c.Nodup ∧ ∀ x ∈ c, 0 ≤ x ∧ x < (m : Int)
theorem Distinct.len {m : Nat} {c : List Int} (h : Distinct m c) : c.length ≤ m := below_len h.1 h.2
theorem BlocksOk.one {m : Nat} {bs : List (List Int)} (h : BlocksOk m bs) {b : List Int} (hb : b ∈ bs) : Distinct m b := ⟨M15.apart_mem h.1 hb, h.2.2.2 b hb⟩
end CK
namespace CK
open PySem PySem.Spec PyProof.Rows L2 VG FR HD
def Fs (m : Nat) (G : Hp) (ys : List V) : Prop := ∀ v ∈ ys, LOk G v ∧ LotI m (rd G v)
theorem Fs.mono {m : Nat} {G G' : Hp} (s : Same G G') {ys : List V} (h : Fs m G ys) : Fs m G' ys := fun v hv => by
  have e := (h v hv).1.mono s
  exact ⟨e.1, by rw [e.2]; exact (h v hv).2⟩
theorem Fs.app {m : Nat} {G : Hp} {xs ys : List V} (h : Fs m G xs) (k : Fs m G ys) : Fs m G (xs ++ ys) := fun v hv => (List.mem_append.mp hv).elim (h v) (k v)
theorem Fs.sub {m : Nat} {G : Hp} {xs ys : List V} (h : Fs m G xs) (k : ∀ v ∈ ys, v ∈ xs) : Fs m G ys := fun v hv => h v (k v hv)
theorem cut0 {xs : List V} (k : Nat) : cutV xs none (some (k : Int)) = xs.take k := by
  unfold cutV
  rw [HT.sIx_none, HT.sIx_nat]
  have : xs.drop 0 = xs := List.drop_zero
  rw [this, Nat.sub_zero]
  rcases Nat.le_total k xs.length with h | h
  · rw [Nat.min_eq_left h]
  · rw [Nat.min_eq_right h, List.take_of_length_le (Nat.le_refl _), List.take_of_length_le h]
theorem keep_frz {p q : Addr} {H : Hp} : Keep p q H (frz p q H) := fun b o n1 n2 e => frz_at e ⟨n1, n2⟩
theorem Tots.frz {K : PySem.W.Frag} {p q : Addr} {H : Hp} (hd : Hd p q H) : ∀ {vs : List V} {cs : List (List Int)}, Tots K H vs cs → Tots K (frz p q H) vs cs
  | [], [], _ => trivial
  | _ :: _, _ :: _, ⟨⟨t, e, h⟩, r⟩ => ⟨⟨t, e, seqTK hd keep_frz h⟩, r.frz hd⟩
  | [], _ :: _, h => h.elim
  | _ :: _, [], h => h.elim
theorem asc_pw : ∀ {l : List Int}, l.Pairwise (· < ·) → Asc l
  | [], _ => trivial
  | [_], _ => trivial
  | a :: b :: r, h => by
    have ⟨h1, h2⟩ := List.pairwise_cons.mp h
    exact ⟨h1 b List.mem_cons_self, asc_pw h2⟩
end CK
namespace CK
open PySem PySem.Spec PyProof.Rows L2 VG FR HD
end CK
namespace CK
open PySem PySem.Spec PyProof.Rows L2 VG FR HD
/-- groups and their signs while they grow: H is the heap of before -/
def ClsW (H H' : Hp) (S F : Addr) (ss fs : List Addr) (sg bs : List (List Int)) : Prop := Same H H' ∧ H' S = some (.lst (ss.map V.ref)) ∧ Blk H' ss sg ∧ H' F = some (.lst (fs.map V.ref)) ∧ Blk H' fs bs ∧ fs.Nodup ∧
  (∀ t ∈ fs, t ≠ S ∧ t ≠ F ∧ H t = none) ∧ (∀ t ∈ ss, t ≠ S ∧ t ≠ F ∧ H t = none) ∧ ∀ t ∈ fs, t ∉ ss
theorem ClsW.same {H H1 H2 : Hp} {S F : Addr} {ss fs : List Addr} {sg bs : List (List Int)} (h : ClsW H H1 S F ss fs sg bs) (s : Same H1 H2) : ClsW H H2 S F ss fs sg bs :=
  ⟨h.1.trans s, s _ _ h.2.1, Blk.imp (fun t _ o k => s t o k) h.2.2.1, s _ _ h.2.2.2.1, Blk.imp (fun t _ o k => s t o k) h.2.2.2.2.1, h.2.2.2.2.2⟩
/-- a new sign, a new group -/
theorem ClsW.add {H H6 H7 H8 : Hp} {S F L T : Addr} {ss fs : List Addr} {sg bs : List (List Int)} {c : List Int} (h : ClsW H H6 S F ss fs sg bs) (nS : H S = none) (nF : H F = none) (kL : H6 L = some (.lst (c.map V.int))) (nL : L ≠ S ∧ L ≠ F ∧ H L = none) (Lf : L ∉ fs)
    (e7 : H7 = L2.upd H6 S (.lst (ss.map V.ref ++ [.ref L]))) (nT : H7 T = none) (e8 : H8 = L2.upd H7 T (.lst [])) (nSF : S ≠ F) :
    ClsW H (L2.upd H8 F (.lst (fs.map V.ref ++ [.ref T]))) S F (ss ++ [L]) (fs ++ [T]) (sg ++ [c]) (bs ++ [[]]) ∧ (L2.upd H8 F (.lst (fs.map V.ref ++ [.ref T]))) L = some (.lst (c.map V.int)) := by
  obtain ⟨sm, eS, bS, eF, bF, nd, avF, avS, dis⟩ := h
  have keep7 : ∀ t, t ≠ S → ∀ o, H6 t = some o → H7 t = some o := fun t n o k => by rw [e7, upd_ne n]; exact k
  have keep : ∀ t, t ≠ S → t ≠ F → ∀ o, H6 t = some o → (L2.upd H8 F (.lst (fs.map V.ref ++ [.ref T]))) t = some o := fun t n1 n2 o k => by
    rw [upd_ne n2, e8]
    exact same_upd nT _ _ (keep7 t n1 o k)
  have T0 : ∀ t, t ≠ S → H6 t ≠ none → t ≠ T := fun t n k z => by
    subst z
    cases e : H6 t with
    | none => exact k e
    | some o => rw [keep7 t n o e] at nT; cases nT
  have h7S : H7 S = some (.lst (ss.map V.ref ++ [.ref L])) := by rw [e7, upd_same]
  have nTS : T ≠ S := fun z => by subst z; rw [h7S] at nT; cases nT
  have nTF : T ≠ F := (T0 F nSF.symm (by rw [eF]; exact Option.some_ne_none _)).symm
  have HT : H T = none := by
    cases e : H T with
    | none => rfl
    | some o => exact absurd rfl (T0 T nTS (by rw [sm _ _ e]; exact Option.some_ne_none _))
  have inS : ∀ t ∈ ss, H6 t ≠ none := fun t ht => by obtain ⟨b, _, k⟩ := bS.at_ ht; rw [k]; exact Option.some_ne_none _
  have inF : ∀ t ∈ fs, H6 t ≠ none := fun t ht => by obtain ⟨b, _, k⟩ := bF.at_ ht; rw [k]; exact Option.some_ne_none _
  refine ⟨⟨fun b o e => keep b (fun z => by rw [z, nS] at e; cases e) (fun z => by rw [z, nF] at e; cases e) o (sm _ _ e), ?_, ?_, ?_, ?_, ?_, ?_, ?_, ?_⟩, keep L nL.1 nL.2.1 _ kL⟩
  · rw [upd_ne nSF, e8]
    rw [same_upd nT _ _ h7S, List.map_append]
    rfl
  · exact Blk.snoc (keep L nL.1 nL.2.1 _ kL) (Blk.imp (fun t ht o k => keep t (avS t ht).1 (avS t ht).2.1 o k) bS)
  · rw [upd_same, List.map_append]
    rfl
  · exact Blk.snoc (by rw [upd_ne nTF, e8, upd_same]; rfl) (Blk.imp (fun t ht o k => keep t (avF t ht).1 (avF t ht).2.1 o k) bF)
  · exact List.nodup_append.mpr ⟨nd, by simp, fun x hx y hy e => by
      have := List.mem_singleton.mp hy
      subst this
      exact T0 x (avF x hx).1 (inF x hx) e⟩
  · intro t ht
    rcases List.mem_append.mp ht with z | z
    · exact avF t z
    · rw [List.mem_singleton.mp z]
      exact ⟨nTS, nTF, HT⟩
  · intro t ht
    rcases List.mem_append.mp ht with z | z
    · exact avS t z
    · rw [List.mem_singleton.mp z]
      exact nL
  · intro t ht hs
    rcases List.mem_append.mp ht with z | z
    · rcases List.mem_append.mp hs with y | y
      · exact dis t z y
      · rw [List.mem_singleton.mp y] at z
        exact Lf z
    · have et := List.mem_singleton.mp z
      subst et
      rcases List.mem_append.mp hs with y | y
      · exact T0 t nTS (inS t y) rfl
      · exact T0 L nL.1 (by rw [kL]; exact Option.some_ne_none _) (List.mem_singleton.mp y).symm
/-- one more kind in a group -/
theorem ClsW.put {H H6 : Hp} {S F t : Addr} {ss fs : List Addr} {sg bs : List (List Int)} {j : Nat} {b : List Int} (h : ClsW H H6 S F ss fs sg bs) (et : fs[j]? = some t) : ClsW H (L2.upd H6 t (.lst (b.map V.int))) S F ss fs sg (bs.set j b) := by
  obtain ⟨sm, eS, bS, eF, bF, nd, avF, avS, dis⟩ := h
  have ht := List.mem_of_getElem? et
  have av := avF t ht
  refine ⟨fun x o e => ?_, ?_, ?_, ?_, Blk.set nd et bF, nd, avF, avS, dis⟩
  · rw [upd_ne (ne_of_none e av.2.2)]
    exact sm _ _ e
  · rw [upd_ne av.1.symm]
    exact eS
  · exact Blk.imp (fun u hu o k => by rw [upd_ne (fun z : u = t => dis t ht (by rw [← z]; exact hu))]; exact k) bS
  · rw [upd_ne av.2.1.symm]
    exact eF
end CK
namespace VG
open PySem PySem.Spec PyProof.Rows L2
abbrev tupO (items : Array Value) (n : Nat) (dd : Option Addr) (sl : Array (Option Value)) : Obj := ⟨.type "tuple", dd, .seq items n, sl⟩
theorem tup_once (l : Addr) (items : Array Value) (n : Nat) (dd : Option Addr) (sl : Array (Option Value)) (u : Tok) (ne : (items.isEmpty || (1 : Int) == 1) = true) :
    Meets (Builtin.«tuple.__mul__» ⟨[.ref l, .int 1 u], []⟩) (fun _ R s => s.heap.get? l = some (tupO items n dd sl) ∧ R (.ok (.ret (Value.ref l))) s) := .of_wp fun prog w A R s h => by
  obtain ⟨hp, g, d, tk, os⟩ := s; obtain ⟨hl, h⟩ := h
  have f1 := AutoSeq1.idx_int
  wp_walk using wpAny_loadPart' hl
  repeat (first
    | (refine wpAny_ite_true (decide_eq_true ne) ?_; wp_walk using wpAny_loadPart' hl)
    | (refine wpAny_ite_true rfl ?_; wp_walk using wpAny_loadPart' hl)
    | (refine wpAny_ite_false rfl ?_; wp_walk using wpAny_loadPart' hl))
  exact ⟨_, rfl, h⟩
theorem tup_none (l : Addr) (items : Array Value) (n : Nat) (dd : Option Addr) (sl : Array (Option Value)) (u : Tok) (ne : (items.isEmpty || (0 : Int) == 1) = false) :
    Meets (Builtin.«tuple.__mul__» ⟨[.ref l, .int 0 u], []⟩) (fun _ R s => s.heap.get? l = some (tupO items n dd sl) ∧ R (.ok (.ret (Value.ref s.heap.objs.size))) { s with heap := s.heap.push { cls := Value.type "tuple", data := Data.seq #[] } }) := .of_wp fun prog w A R s h => by
  obtain ⟨hp, g, d, tk, os⟩ := s; obtain ⟨hl, h⟩ := h
  have f1 := AutoSeq1.idx_int
  wp_walk using wpAny_loadPart' hl
  repeat (first
    | (refine wpAny_ite_false (decide_eq_false (by rw [ne]; exact Bool.false_ne_true)) ?_; wp_walk using wpAny_loadPart' hl)
    | (refine wpAny_ite_true rfl ?_; wp_walk using wpAny_loadPart' hl)
    | (refine wpAny_ite_false rfl ?_; wp_walk using wpAny_loadPart' hl))
  exact ⟨_, rfl, h⟩
section
variable {X : Cx}
def rRepA (K : PySem.W.Frag) : R2 := fun x y H Q => ∃ (l : Addr) (k : Nat) (xs : List V), x = .ref l ∧ y = .int k ∧ SqT K H l xs ∧ xs ≠ [] ∧ k ≤ 1000 ∧ xs.length ≤ 1000 ∧ ∀ p H', Same H H' → SqT K H' p (List.replicate k xs).flatten → Q (.ref p) H'
theorem op_repA : OpR X (binaryOp .Mult) (rRepA X.K) := by
  intro pins s σ H x y v u Q I rx ry h
  obtain ⟨l, k, xs, rfl, rfl, hT, hne, hk, hz, q⟩ := h
  by_cases k2 : 2 ≤ k
  · refine op_repT pins s σ H _ _ v u Q I rx ry ⟨l, (k : Int), xs, rfl, rfl, hT, hne, by omega, by omega, hz, fun p np => ?_⟩
    rw [Int.toNat_natCast]
    exact q p _ (fun b o e => by rw [upd_ne (ne_of_none e np)]; exact e) (.inl (.inl upd_same))
  cases rx
  obtain ⟨t, rfl⟩ := ry
  obtain ⟨its, r, ⟨⟨cls, dd, data, sl⟩, ho, hc, n, hd⟩, hs⟩ := I.tuple hT
  simp only at hc hd
  subst hc hd
  have hn : its ≠ [] := fun e => by
    have hle := r.length
    rw [e] at hle
    exact hne (List.eq_nil_of_length_eq_zero hle)
  have hi : its.toArray.isEmpty = false := by
    cases its with
    | nil => exact absurd rfl hn
    | cons a b => rfl
  by_cases k1 : k = 1
  · subst k1
    refine wpAny_binaryOp_repeat_ref (T := "tuple") (U := "int") (by decide) ⟨_, ho, rfl⟩ (fun s' => typeIs_int s' _ t) noFill_tuple_mul F.fills_int_mul F.slot_int_rmul repeat_tuple F.slot_int_index.lookup
      (call_meets F.slot_int_rmul (typeIs_int s _ t) F.entry_int_rmul (F.args_int_rmul_2 _ _) (int_rmul_tuple _ t l its.toArray n dd sl) ⟨ho, rfl, ⟨_, ho, rfl⟩, call_meets F.slot_tuple_mul ⟨_, ho, rfl⟩ F.entry_tuple_mul (F.args_tuple_mul_2 _ _)
        (tup_once l its.toArray n dd sl t (by rw [hi]; rfl)) ⟨ho, ?_⟩⟩)
    refine ⟨.ref l, H, I, rfl, q l H (Same.refl _) ?_⟩
    have e : (List.replicate 1 xs).flatten = xs := by simp
    rw [e]
    exact hT
  · have k0 : k = 0 := by omega
    subst k0
    refine wpAny_binaryOp_repeat_ref (T := "tuple") (U := "int") (by decide) ⟨_, ho, rfl⟩ (fun s' => typeIs_int s' _ t) noFill_tuple_mul F.fills_int_mul F.slot_int_rmul repeat_tuple F.slot_int_index.lookup
      (call_meets F.slot_int_rmul (typeIs_int s _ t) F.entry_int_rmul (F.args_int_rmul_2 _ _) (int_rmul_tuple _ t l its.toArray n dd sl) ⟨ho, rfl, ⟨_, ho, rfl⟩, call_meets F.slot_tuple_mul ⟨_, ho, rfl⟩ F.entry_tuple_mul (F.args_tuple_mul_2 _ _)
        (tup_none l its.toArray n dd sl t (by rw [hi]; rfl)) ⟨ho, ?_⟩⟩)
    have np := I.hok.fresh (Nat.le_refl s.heap.objs.size)
    refine ⟨.ref s.heap.objs.size, _, I.laid (t' := s.toks) (o := .tup []) (fun b ob e => Heap.get?_push_of_some _ e) (Nat.le_refl _) ⟨Nat.zero_le _, [], .nil, IsTup.new _ _⟩, rfl, q _ _ (fun b o e => by rw [upd_ne (ne_of_none e np)]; exact e) (.inl (.inl upd_same))⟩
end
section
variable {X : Cx}
def rCatM (K : PySem.W.Frag) : R2 := fun x y H Q => ∃ a b xs ys, x = .ref a ∧ y = .ref b ∧ SqT K H a xs ∧ SqT K H b ys ∧ xs.length + ys.length ≤ sizeLine ∧ ∀ t H', Same H H' → SqT K H' t (xs ++ ys) → Q (.ref t) H'
theorem op_catM : OpR X (binaryOp .Add) (rCatM X.K) := by
  intro pins s σ H x y v u Q I rx ry h
  obtain ⟨a, b, xs, ys, rfl, rfl, ha, hb, hl, q⟩ := h
  refine op_catA pins s σ H _ _ v u Q I rx ry ⟨a, b, xs, ys, rfl, rfl, ha, hb, hl, fun e => q b H (Same.refl _) ?_, fun _ e => q a H (Same.refl _) ?_, fun _ _ p np => q p _ (fun b o e => by rw [upd_ne (ne_of_none e np)]; exact e) (.inl (.inl upd_same))⟩
  · subst e
    exact hb
  · subst e
    rw [List.append_nil]
    exact ha
def rSlM (K : PySem.W.Frag) : V → Option Int → Option Int → Hp → VK → Prop := fun x lo hi H Q => ∃ a xs, x = .ref a ∧ SqT K H a xs ∧ ∀ t H', Same H H' → SqT K H' t (cutV xs lo hi) → Q (.ref t) H'
theorem cut_whole {xs : List V} {lo hi : Option Int} (h : HT.sIx xs.length 0 lo = 0 ∧ HT.sIx xs.length xs.length hi = xs.length) : cutV xs lo hi = xs := by
  unfold cutV
  rw [h.1, h.2, List.drop_zero, Nat.sub_zero]
  exact List.take_of_length_le (Nat.le_refl _)
theorem sl_tupM : SlR X (rSlM X.K) := by
  intro pins s σ H x v vl vu lo hi sl Q I rx hs pl pu h
  obtain ⟨a, xs, rfl, hS, q⟩ := h
  exact sl_tupA pins s σ H _ v vl vu lo hi sl Q I rx hs pl pu ⟨a, xs, rfl, hS, fun e => q a H (Same.refl _) (by rw [cut_whole e]; exact hS), fun _ p np => q p _ (fun b o e => by rw [upd_ne (ne_of_none e np)]; exact e) (.inl (.inl upd_same))⟩
end
end VG
namespace CK
open PySem PySem.Spec PyProof.Rows L2 VG FR HD
def Shn (d : PyData) (k B : Nat) : Prop := d.showable = true ∧ d.hasDict = false ∧ d.depth ≤ k ∧ d.shown.length ≤ B
theorem shn_int {a : Int} {k : Nat} (k0 : 0 < k) (h : a.natAbs < 2 ^ k) (hk : k ≤ 1900) : Shn (.int a) 0 (k + 1) := by
  have l2 : a.natAbs.log2 < k := by
    by_cases h0 : a.natAbs = 0
    · rw [h0]
      exact Nat.lt_of_le_of_lt (Nat.le_of_eq (by decide)) k0
    · exact (Nat.log2_lt h0).mpr h
  refine ⟨?_, by rw [PyData.hasDict], by simp [PyData.depth], ?_⟩
  · rw [PyData.showable]
    exact decide_eq_true (by omega)
  · show (Str.ofString (toString a)).length ≤ _
    rw [PySem.ofString_length]
    exact int_text_length_le k0 l2
def dI (c : List Int) : PyData := .tuple (c.map PyData.int)
theorem dp_I {K : PySem.W.Frag} {H : Hp} {t : Addr} {c : List Int} (h : SqT K H t (c.map V.int)) : Dp K H (.ref t) (dI c) := .tup h (dpAll_ints K H c)
def bT (b : Bool) : Str := if b = true then (("True" : String) : Str) else (("False" : String) : Str)
end CK
namespace CK
open PySem PySem.Spec PyProof.Rows L2 VG FR HD
theorem Parts.app {K : PySem.W.Frag} {H : Hp} : ∀ {xs ys : List V} {os ps : List (Option Int)}, Parts K H xs os → Parts K H ys ps → Parts K H (xs ++ ys) (os ++ ps)
  | [], _, [], _, _, h => h
  | _ :: _, _, _ :: _, _, h, k => ⟨h.1, h.2.app k⟩
  | [], _, _ :: _, _, h, _ => h.elim
  | _ :: _, _, [], _, h, _ => h.elim
theorem kitT1 : kitB "tuple" "int" = some false := by decide +kernel
theorem kitT2 : kitB "tuple" "bool" = some false := by decide +kernel
theorem kNT : kitB "NoneType" "tuple" = some false := by decide +kernel
theorem kIT : kitB "int" "tuple" = some false := by decide +kernel
theorem kST : kitB "str" "tuple" = some false := by decide +kernel
theorem kLT : kitB "list" "tuple" = some false := by decide +kernel
theorem kDT : kitB "dict" "tuple" = some false := by decide +kernel
theorem part_tup {K : PySem.W.Frag} {H : Hp} {t : Addr} {xs : List V} (h : SqT K H t xs) : Part K H (.ref t) none := .inr ⟨rfl, "tuple", false, false, tyT h, kitT1, kitT2, rfl⟩
theorem part_bl {K : PySem.W.Frag} {H : Hp} (b : Bool) : Part K H (.bl b) none := .inr ⟨rfl, "bool", true, true, .base (.bl b), kitB1, kitB2, rfl⟩
theorem AnyV.tup {K : PySem.W.Frag} {H : Hp} {t : Addr} {xs : List V} {os : List (Option Int)} (h : SqT K H t xs) (k : Parts K H xs os) (l : os.length ≤ 1000) : ∃ o, AnyV K H (.ref t) o := ⟨some os, t, xs, rfl, h, k, l⟩
end CK
namespace CK
open FR
end CK
namespace VG
open PySem PySem.Spec PyProof.Rows L2
structure MkT (P : Program) (w : World) (K : PySem.W.Frag) (mg : Str → Option Value) (base : Heap) (k : Nat) (x : Str) (C : Addr) (sp : Sp) : Prop where
  ex : ∃ (f : Addr) (fd : FuncData) (ps : List Str), Mk K C f ∧ FnOk P w K mg base CX0 k f fd ps sp ∧ mg x = some (.ref C) ∧ Binds K fd ps []
section
variable {X : Cx} {k j : Nat} {x : Str} {sp : Sp} {p pos : Pos} {e : Expr} {es : List Expr} {t : TA} {C : Addr}
theorem pe_mt (c : MkT X.prog X.w X.K X.mg X.base k x C sp) (hr : Room j X.A) (hk : k + 1 ≤ j) (hg : Gl X x) (ha : PA X (e :: es) t)
    (h1 : (x == ("__debug__" : Str)) = false := by decide) (h2 : starEach (e :: es) X.env = (false, eval e X.env) :: starEach es X.env := by rfl)
    (h3 : (backTo pos (starEach es X.env)).any (·.1) = false := by rfl) : PE X (.Call (.Name x p) (e :: es) [] pos) (tMake C sp [] E0 t) :=
  let ⟨_, _, _, M, F, m, b⟩ := c.ex
  pe_make M F (hr.mono hk) hg m b .nil pass0 ha h1 h2 h3
end
end VG
namespace CK
open PySem PySem.Spec PyProof.Rows L2 VG FR HD
theorem Tab.frz {K : PySem.W.Frag} {C a p q : Addr} {H : Hp} {ks : List Str} {ts : List (List Int)} (hd : Hd p q H) (h : Tab K C H a ks ts) : Tab K C (frz p q H) a ks ts := by
  obtain ⟨dx, k, t, xs, h1, h2, h3, h4⟩ := h
  obtain ⟨_, _, e1, e2, _⟩ := id hd
  have n1 : a ≠ p := fun z => by rw [z, e1] at h1; cases h1
  have n2 : a ≠ q := fun z => by rw [z, e2] at h1; cases h1
  exact ⟨dx, k, t, xs, frz_at h1 ⟨n1, n2⟩, seqTK hd keep_frz h2, seqTK hd keep_frz h3, h4.frz hd⟩
theorem tab_made {K : PySem.W.Frag} {C k t x dx : Addr} {H : Hp} {ks : List Str} {xs : List V} {ts : List (List Int)} {Qf : Hp → Prop} {E : XK} (hk : SqT K H k (ks.map V.str)) (ok : KindsOk ks) (ht : SqT K H t xs) (hT : Tots K H xs ts) (hl : ts.length ≤ 12) (hc : ∀ c ∈ ts, LotOk ks.length c) (nx : H x = none) (nd : H dx = none) (ne : dx ≠ x)
    (fin : ∀ H', Same H H' → Tab K C H' x ks ts → H x = none → Qf H') : spInitT K C (.ref x :: ([.ref k, .ref t] ++ [])) (L2.upd (L2.upd H dx (.own x)) x (.ins C dx [])) (fun v H2 => v = .non ∧ Qf H2) E := by
  have s1 := same_upd (o := .own x) nd
  have nx1 : L2.upd H dx (.own x) x = none := by rw [upd_ne ne.symm]; exact nx
  have s2 := s1.trans (same_upd (o := .ins C dx []) nx1)
  refine ⟨x, dx, k, t, ks, xs, ts, rfl, upd_same, seqT s2 hk, ok, seqT s2 ht, hT.mono s2, hl, hc, fun H' kp hx => ⟨rfl, ?_⟩⟩
  have s3 : Same H H' := fun b o e => kp b o (ne_of_none e nx) (s2 b o e)
  exact fin H' s3 ⟨dx, k, t, xs, hx, seqT s3 hk, seqT s3 ht, hT.mono s3⟩ nx
theorem dpAll_tots {K : PySem.W.Frag} {H : Hp} : ∀ {vs : List V} {ts : List (List Int)}, Tots K H vs ts → DpAll K H vs (ts.map dI)
  | [], [], _ => .nil
  | _ :: _, _ :: _, ⟨⟨t, e1, h⟩, r⟩ => by
    subst e1
    exact .cons (dp_I h) (dpAll_tots r)
  | [], _ :: _, h => h.elim
  | _ :: _, [], h => h.elim
/-- a row that was told or drawn -/
def RwOk (n : Nat) (G : Hp) (v : V) : Prop := ∃ (t : Addr) (c : List Int), v = .ref t ∧ G t = some (.tup (c.map V.int)) ∧ c.length = n ∧ ∀ x ∈ c, x.natAbs ≤ 5
theorem RwOk.mono {n : Nat} {G G' : Hp} {v : V} (s : Same G G') (h : RwOk n G v) : RwOk n G' v := by
  obtain ⟨t, c, e, k, l, z⟩ := h
  exact ⟨t, c, e, s _ _ k, l, z⟩
theorem RwOk.updL {n : Nat} {p q D : Addr} {H : Hp} {zs : List V} {o : HO} {v : V} (h : RwOk n (frz p q H) v) (k : H D = some (.lst zs)) : RwOk n (frz p q (L2.upd H D o)) v := by
  obtain ⟨t, c, e, kt, l, z⟩ := h
  obtain ⟨n1, n2, kt⟩ := frz_cases kt
  have ne : t ≠ D := fun y => by rw [y, k] at kt; cases kt
  exact ⟨t, c, e, frz_at (by rw [upd_ne ne]; exact kt) ⟨n1, n2⟩, l, z⟩
end CK
namespace CK
open PySem PySem.Spec PyProof.Rows L2 VG FR HD
def spHeapF (K : PySem.W.Frag) : Sp := fun vs H Q _ => ∃ (a : Addr) (ns : List Int), vs = [.ref a] ∧ SqL K H a (ns.map V.int) ∧ ns.length ≤ 63 ∧ ∀ H' p q, Hd p q H' → Same H H' → H p = none → H q = none → Q (.ref p) H'
end CK
namespace CK
open PySem PySem.Spec PyProof.Rows L2 VG FR HD
theorem es3 : EsOk [((1, 2) : Q2), ((1, 3) : Q2), ((1, 4) : Q2)] := by
  intro p hp
  have : p = ((1, 2) : Q2) ∨ p = ((1, 3) : Q2) ∨ p = ((1, 4) : Q2) := by simpa using hp
  rcases this with y | y | y <;> (rw [y]; exact ⟨⟨by decide, by decide⟩, ⟨by decide, by decide⟩⟩)
theorem es1 : EsOk [((9, 2) : Q2)] := by
  intro p hp
  have : p = ((9, 2) : Q2) := by simpa using hp
  rw [this]
  exact ⟨⟨by decide, by decide⟩, ⟨by decide, by decide⟩⟩
end CK
namespace VG
open PySem PySem.Spec PyProof.Rows L2
end VG
namespace CK
open PySem PySem.Spec PyProof.Rows L2 VG FR HD
inductive Stp where
  | tot (t : Nat) (s : Int)
  | less (c i j : Nat)
def stV : Stp → List V
  | .tot t s => [.str "total", .int t, .int s]
  | .less c i j => [.str "less", .int c, .int i, .int j]
def Sts (K : PySem.W.Frag) (H : Hp) : List V → List Stp → Prop
  | [], [] => True
  | v :: vs, c :: cs => (∃ t, v = .ref t ∧ SqT K H t (stV c)) ∧ Sts K H vs cs
  | _, _ => False
theorem Sts.mono {K : PySem.W.Frag} {H H' : Hp} (e : Same H H') : ∀ {vs : List V} {cs : List Stp}, Sts K H vs cs → Sts K H' vs cs
  | [], [], _ => trivial
  | _ :: _, _ :: _, ⟨⟨t, e1, h⟩, r⟩ => ⟨⟨t, e1, seqT e h⟩, r.mono e⟩
  | [], _ :: _, h => h.elim
  | _ :: _, [], h => h.elim
theorem Sts.len {K : PySem.W.Frag} {H : Hp} : ∀ {vs : List V} {cs : List Stp}, Sts K H vs cs → vs.length = cs.length
  | [], [], _ => rfl
  | _ :: _, _ :: _, h => by rw [List.length_cons, List.length_cons, h.2.len]
  | [], _ :: _, h => h.elim
  | _ :: _, [], h => h.elim
theorem Sts.get {K : PySem.W.Frag} {H : Hp} : ∀ {vs : List V} {cs : List Stp} {i : Nat} {v : V}, Sts K H vs cs → vs[i]? = some v → ∃ t c, v = .ref t ∧ cs[i]? = some c ∧ SqT K H t (stV c)
  | [], [], _, _, h, e => by simp at e
  | a :: _, c :: _, 0, v, h, e => by
    have e1 : a = v := Option.some.inj e
    subst e1
    obtain ⟨t, e2, q⟩ := h.1
    exact ⟨t, c, e2, rfl, q⟩
  | _ :: vs, _ :: cs, i + 1, v, h, e => h.2.get (i := i) e
  | [], _ :: _, _, _, h, _ => h.elim
  | _ :: _, [], _, _, h, _ => h.elim
theorem Sts.snoc {K : PySem.W.Frag} {H : Hp} {t : Addr} {c : Stp} (hv : SqT K H t (stV c)) : ∀ {vs : List V} {cs : List Stp}, Sts K H vs cs → Sts K H (vs ++ [.ref t]) (cs ++ [c])
  | [], [], _ => ⟨⟨t, rfl, hv⟩, trivial⟩
  | _ :: _, _ :: _, h => ⟨h.1, h.2.snoc hv⟩
  | [], _ :: _, h => h.elim
  | _ :: _, [], h => h.elim
theorem Sts.upd {K : PySem.W.Frag} {H : Hp} {D : Addr} {ys zs : List V} (hD : H D = some (.lst ys)) : ∀ {vs : List V} {cs : List Stp}, Sts K H vs cs → Sts K (L2.upd H D (.lst zs)) vs cs
  | [], [], _ => trivial
  | _ :: _, _ :: _, ⟨⟨t, e1, h⟩, r⟩ => ⟨⟨t, e1, seqT_upd hD h⟩, r.upd hD⟩
  | [], _ :: _, h => h.elim
  | _ :: _, [], h => h.elim
def oppL (cs : List Int) : List Int := cs.map fun a => -a
def beyB (cs : List Int) : Bool := cs.any fun c => decide (absI c > 1)
/-- the reckoning of a step -/
def recOf (bs known : List (List Int)) : Stp → List Int
  | .tot t s => if s = 1 then bs.getD t [] else oppL (bs.getD t [])
  | .less _ i j => difL (known.getD i []) (known.getD j [])
/-- a step that a derivation may have -/
def StOk (nb nk : Nat) : Stp → Prop
  | .tot t s => t < nb ∧ (s = 1 ∨ s = -1)
  | .less _ i j => i < nk ∧ j < nk
def along (bs : List (List Int)) : List Stp → List (List Int) → List (List Int)
  | [], known => known
  | s :: ss, known => along bs ss (known ++ [recOf bs known s])
/-- all rows have so many entries -/
def Rws (n : Nat) (bs : List (List Int)) : Prop := ∀ c ∈ bs, c.length = n
theorem Rws.getD {n : Nat} {bs : List (List Int)} (h : Rws n bs) {i : Nat} (hi : i < bs.length) : bs[i]? = some (bs.getD i []) ∧ (bs.getD i []).length = n := by
  have e : bs[i]? = some bs[i] := List.getElem?_eq_getElem hi
  have g : bs.getD i [] = bs[i] := by rw [List.getD_eq_getElem?_getD, e]; rfl
  exact ⟨by rw [g]; exact e, by rw [g]; exact h _ (List.getElem_mem hi)⟩
/-- the steps of a right derivation (what asks of agreements left out) -/
def DerOk (nb : Nat) (steps : List Stp) : Prop := ∀ i s, steps[i]? = some s → StOk nb i s
theorem along_len (bs : List (List Int)) : ∀ (ss : List Stp) (kn : List (List Int)), (along bs ss kn).length = kn.length + ss.length
  | [], kn => rfl
  | s :: ss, kn => by
    show (along bs ss (kn ++ [recOf bs kn s])).length = _
    rw [along_len bs ss]
    simp only [List.length_append, List.length_cons, List.length_nil]
    omega
end CK
namespace CK
open PySem PySem.Spec PyProof.Rows L2 VG FR HD
end CK
namespace CK
open PySem PySem.Spec PyProof.Rows L2 VG FR HD
end CK
namespace CK
open PySem PySem.Spec PyProof.Rows L2 VG FR HD
mutual
inductive Dv (K : PySem.W.Frag) (H : Hp) : V → PyData → Prop
  | non : Dv K H .non .none
  | bl (b : Bool) : Dv K H (.bl b) (.bool b)
  | int (i : Int) : Dv K H (.int i) (.int i)
  | str (x : Str) : Dv K H (.str x) (.str x)
  | lst {a : Addr} {xs : List V} {ds : List PyData} : H a = some (.lst xs) → DvAll K H xs ds → Dv K H (.ref a) (.list ds)
  | tup {a : Addr} {xs : List V} {ds : List PyData} : SqT K H a xs → DvAll K H xs ds → Dv K H (.ref a) (.tuple ds)
inductive DvAll (K : PySem.W.Frag) (H : Hp) : List V → List PyData → Prop
  | nil : DvAll K H [] []
  | cons {v : V} {vs : List V} {d : PyData} {ds : List PyData} : Dv K H v d → DvAll K H vs ds → DvAll K H (v :: vs) (d :: ds)
end
mutual
theorem Dv.mono {K : PySem.W.Frag} {H H' : Hp} (e : Same H H') : ∀ {v : V} {d : PyData}, Dv K H v d → Dv K H' v d
  | _, _, .non => .non
  | _, _, .bl b => .bl b
  | _, _, .int i => .int i
  | _, _, .str x => .str x
  | _, _, .lst h r => .lst (e _ _ h) (DvAll.mono e r)
  | _, _, .tup h r => .tup (seqT e h) (DvAll.mono e r)
theorem DvAll.mono {K : PySem.W.Frag} {H H' : Hp} (e : Same H H') : ∀ {vs : List V} {ds : List PyData}, DvAll K H vs ds → DvAll K H' vs ds
  | _, _, .nil => .nil
  | _, _, .cons h r => .cons (Dv.mono e h) (DvAll.mono e r)
end
theorem DvAll.len {K : PySem.W.Frag} {H : Hp} : ∀ {vs : List V} {ds : List PyData}, DvAll K H vs ds → vs.length = ds.length
  | _, _, .nil => rfl
  | _, _, .cons _ r => by rw [List.length_cons, List.length_cons, r.len]
def intO : PyData → Option Int
  | .int a => some a
  | _ => none
def isTupD : PyData → Bool
  | .tuple _ => true
  | _ => false
theorem kLI : kitB "list" "int" = some false := by decide +kernel
theorem kLB : kitB "list" "bool" = some false := by decide +kernel
theorem kBT : kitB "bool" "tuple" = some false := by decide +kernel
theorem Dv.part {K : PySem.W.Frag} {H : Hp} {v : V} {d : PyData} (h : Dv K H v d) : Part K H v (intO d) := by
  cases h with
  | non => exact .inr ⟨rfl, "NoneType", false, false, .base .non, kitN1, kitN2, rfl⟩
  | bl b => exact part_bl b
  | int i => exact .inl ⟨i, rfl, rfl⟩
  | str x => exact .inr ⟨rfl, "str", false, false, .base (.str _), kitS1, kitS2, rfl⟩
  | lst h r => exact .inr ⟨rfl, "list", false, false, .base (.lst h), kLI, kLB, rfl⟩
  | tup h r => exact part_tup h
theorem Dv.noTup {K : PySem.W.Frag} {H : Hp} {v : V} {d : PyData} (h : Dv K H v d) (n : isTupD d = false) : ∃ ty : String, TyX K H v (.type ty) ∧ kitB ty "tuple" = some false := by
  cases h with
  | non => exact ⟨"NoneType", .base .non, kNT⟩
  | bl b => exact ⟨"bool", .base (.bl b), kBT⟩
  | int i => exact ⟨"int", .base (.int i), kIT⟩
  | str x => exact ⟨"str", .base (.str x), kST⟩
  | lst h r => exact ⟨"list", .base (.lst h), kLT⟩
  | tup h r => cases n
theorem Dv.isT {K : PySem.W.Frag} {H : Hp} {v : V} {ds : List PyData} (h : Dv K H v (.tuple ds)) : ∃ a xs, v = .ref a ∧ SqT K H a xs ∧ DvAll K H xs ds := by
  cases h with
  | tup h r => exact ⟨_, _, rfl, h, r⟩
def numO : Option Int → Bool
  | some a => decide (0 ≤ a)
  | none => false
def belowO (n : Int) : Option Int → Bool
  | some a => decide (0 ≤ a ∧ a < n)
  | none => false
def spNumA (K : PySem.W.Frag) : Sp := fun vs H Q _ => ∃ (v : V) (o : Option Int), vs = [v] ∧ Part K H v o ∧ Q (.bl (numO o)) H
def spBelowA (K : PySem.W.Frag) : Sp := fun vs H Q _ => ∃ (v : V) (o : Option Int) (n : Int), vs = [v, .int n] ∧ Part K H v o ∧ Q (.bl (belowO n o)) H
end CK
namespace CK
open PySem PySem.Spec PyProof.Rows L2 VG FR HD
end CK
namespace CK
open PySem PySem.Spec PyProof.Rows L2 VG FR HD
def shortD : PyData → Prop
  | .tuple ds => ds.length ≤ 1000
  | _ => True
theorem DvAll.get {K : PySem.W.Frag} {H : Hp} : ∀ {xs : List V} {ds : List PyData} {i : Nat} {x : V}, DvAll K H xs ds → xs[i]? = some x → ∃ d, ds[i]? = some d ∧ Dv K H x d
  | _, _, i, x, .nil, e => by simp at e
  | _, _, 0, x, .cons h _, e => by
    have e1 := Option.some.inj e
    subst e1
    exact ⟨_, rfl, h⟩
  | _, _, i + 1, x, .cons _ r, e => r.get (i := i) e
end CK
namespace CK
open PySem PySem.Spec PyProof.Rows L2 VG FR HD
end CK
namespace CK
open PySem PySem.Spec PyProof.Rows L2 VG FR HD
end CK
namespace CK
open PySem PySem.Spec PyProof.Rows L2 VG FR HD
theorem Sts.append {K : PySem.W.Frag} {H : Hp} : ∀ {xs ys : List V} {a b : List Stp}, Sts K H xs a → Sts K H ys b → Sts K H (xs ++ ys) (a ++ b)
  | [], _, [], _, _, h => h
  | _ :: _, _, _ :: _, _, h1, h2 => ⟨h1.1, h1.2.append h2⟩
  | [], _, _ :: _, _, h, _ => h.elim
  | _ :: _, _, [], _, h, _ => h.elim
end CK
namespace CK
open PySem PySem.Spec PyProof.Rows L2 VG FR HD
def refsIn (x : Nat) : Option Stp → Bool
  | some (.less _ i j) => decide (x = i) || decide (x = j)
  | _ => false
def nz (steps : List Stp) : Nat → Nat → Bool
  | 0, x => decide (x + 1 = steps.length)
  | k + 1, x => nz steps k x || (nz steps k (steps.length - 1 - k) && refsIn x steps[steps.length - 1 - k]?)
def tk (k : Nat) : L2.Key × V := ((Sum.inl (k : Int) : L2.Key), .bl true)
/-- refs lie below -/
def Below' (steps : List Stp) : Prop := ∀ (i c a b : Nat), steps[i]? = some (Stp.less c a b) → a < i ∧ b < i
end CK
namespace CK
open PySem PySem.Spec PyProof.Rows L2 VG FR HD
theorem along_app (bs : List (List Int)) : ∀ (ss tt : List Stp) (kn : List (List Int)), along bs (ss ++ tt) kn = along bs tt (along bs ss kn)
  | [], _, _ => rfl
  | s :: ss, tt, kn => along_app bs ss tt (kn ++ [recOf bs kn s])
theorem along_pre (bs : List (List Int)) : ∀ (ss : List Stp) (kn : List (List Int)), ∃ r, along bs ss kn = kn ++ r
  | [], kn => ⟨[], (List.append_nil kn).symm⟩
  | s :: ss, kn => by
    obtain ⟨r, e⟩ := along_pre bs ss (kn ++ [recOf bs kn s])
    exact ⟨recOf bs kn s :: r, by show along bs ss (kn ++ [recOf bs kn s]) = _; rw [e]; simp⟩
theorem along_len0 (bs : List (List Int)) (ss : List Stp) : (along bs ss []).length = ss.length := by
  rw [along_len, List.length_nil, Nat.zero_add]
theorem along_takeE (bs : List (List Int)) (ss : List Stp) (i : Nat) : (along bs ss []).take i = along bs (ss.take i) [] := by
  obtain ⟨r, e⟩ := along_pre bs (ss.drop i) (along bs (ss.take i) [])
  rw [← along_app, List.take_append_drop] at e
  by_cases hi : i ≤ ss.length
  · have l : (along bs (ss.take i) []).length = i := by rw [along_len0, List.length_take]; omega
    rw [e, List.take_left' l]
  · rw [List.take_of_length_le (by rw [along_len0]; omega), List.take_of_length_le (by omega)]
theorem getD_take {R : List (List Int)} {a i : Nat} (h : a < i) : (R.take i).getD a [] = R.getD a [] := by
  rw [List.getD_eq_getElem?_getD, List.getD_eq_getElem?_getD, List.getElem?_take, if_pos h]
def RStp (nb many : Nat) (R : List (List Int)) (i : Nat) : Stp → Prop
  | .tot t s => t < nb ∧ (s = 1 ∨ s = -1)
  | .less c a b => c < many ∧ a < i ∧ b < i ∧ beyB (R.getD a []) = false ∧ beyB (R.getD b []) = false ∧ (agrL (R.getD a []) (R.getD b [])).contains (c : Int) = true
def RD (bs : List (List Int)) (many : Nat) (steps : List Stp) : Prop := ∀ i s, steps[i]? = some s → RStp bs.length many (along bs steps []) i s
theorem RD.below {bs : List (List Int)} {many : Nat} {steps : List Stp} (h : RD bs many steps) : Below' steps := fun i c a b e => ⟨(h i _ e).2.1, (h i _ e).2.2.1⟩
theorem RD.ok {bs : List (List Int)} {many : Nat} {steps : List Stp} (h : RD bs many steps) : DerOk bs.length steps := fun i s e => by
  have r := h i s e
  cases s with
  | tot t s => exact r
  | less c a b => exact ⟨r.2.1, r.2.2.1⟩
theorem RStp.take {nb many i : Nat} {R : List (List Int)} : ∀ {s : Stp}, RStp nb many (R.take i) i s ↔ RStp nb many R i s
  | .tot t s => Iff.rfl
  | .less c a b => by
    constructor
    · rintro ⟨h1, h2, h3, h4, h5, h6⟩
      rw [getD_take h2] at h4 h6
      rw [getD_take h3] at h5 h6
      exact ⟨h1, h2, h3, h4, h5, h6⟩
    · rintro ⟨h1, h2, h3, h4, h5, h6⟩
      refine ⟨h1, h2, h3, ?_, ?_, ?_⟩
      · rw [getD_take h2]; exact h4
      · rw [getD_take h3]; exact h5
      · rw [getD_take h2, getD_take h3]; exact h6
theorem RD.take {bs : List (List Int)} {many : Nat} {steps : List Stp} (h : RD bs many steps) (k : Nat) : RD bs many (steps.take k) := fun i s e => by
  have hi : i < k := by
    have := (List.getElem?_eq_some_iff.mp e).1
    rw [List.length_take] at this
    omega
  rw [List.getElem?_take, if_pos hi] at e
  have r := RStp.take.mpr (h i s e)
  rw [along_takeE] at r
  refine RStp.take.mp ?_
  rw [along_takeE, List.take_take, show min i k = i from by omega]
  exact r
theorem RD.more {bs : List (List Int)} {many : Nat} {steps : List Stp} (h : RD bs many steps) {s : Stp} (hs : RStp bs.length many (along bs steps []) steps.length s) : RD bs many (steps ++ [s]) := fun i x e => by
  refine RStp.take.mp ?_
  rw [along_takeE]
  by_cases hi : i < steps.length
  · rw [List.getElem?_append_left hi] at e
    rw [List.take_append_of_le_length (by omega), ← along_takeE]
    exact RStp.take.mpr (h i x e)
  · have hi2 : i = steps.length := by
      have := (List.getElem?_eq_some_iff.mp e).1
      rw [List.length_append] at this
      simp only [List.length_cons, List.length_nil] at this
      omega
    subst hi2
    rw [List.getElem?_append_right (Nat.le_refl _), Nat.sub_self] at e
    have e := Option.some.inj e
    subst e
    rw [List.take_left]
    exact hs
end CK
namespace CK
open PySem PySem.Spec PyProof.Rows L2 VG FR HD
end CK
namespace CK
open PySem PySem.Spec PyProof.Rows L2 VG FR HD
theorem Sts.keep {K : PySem.W.Frag} {H H' : Hp} {p q : Addr} (hd : Hd p q H) (kp : Keep p q H H') : ∀ {vs : List V} {cs : List Stp}, Sts K H vs cs → Sts K H' vs cs
  | [], [], _ => trivial
  | _ :: _, _ :: _, ⟨⟨t, e1, h⟩, r⟩ => ⟨⟨t, e1, seqTK hd kp h⟩, r.keep hd kp⟩
  | [], _ :: _, h => h.elim
  | _ :: _, [], h => h.elim
theorem Tots.keep {K : PySem.W.Frag} {H H' : Hp} {p q : Addr} (hd : Hd p q H) (kp : Keep p q H H') : ∀ {vs : List V} {cs : List (List Int)}, Tots K H vs cs → Tots K H' vs cs
  | [], [], _ => trivial
  | _ :: _, _ :: _, ⟨⟨t, e1, h⟩, r⟩ => ⟨⟨t, e1, seqTK hd kp h⟩, Tots.keep hd kp r⟩
  | [], _ :: _, h => h.elim
  | _ :: _, [], h => h.elim
theorem shaped_tots (ts : List (List Int)) : SeqAt.shaped (.list (ts.map dI)) = true := by
  have h : PyData.canLayAll0 (ts.map dI) = true ∧ PyData.depthAll (ts.map dI) ≤ 1 := by
    induction ts with
    | nil => exact ⟨rfl, Nat.zero_le _⟩
    | cons t ts ih =>
      refine ⟨?_, ?_⟩
      · show (PyData.canLay0 (dI t) && PyData.canLayAll0 (ts.map dI)) = true
        rw [ih.1, Bool.and_true]
        exact PySem.W.ke_canLayAll0 t
      · show max (PyData.depthAll (t.map PyData.int) + 1) (PyData.depthAll (ts.map dI)) ≤ 1
        rw [PySem.W.ke_depthAll]
        exact Nat.max_le.mpr ⟨Nat.le_refl _, ih.2⟩
  unfold SeqAt.shaped
  have e1 : PyData.canLay0 (.list (ts.map dI)) = true := h.1
  have e2 : PyData.depth (.list (ts.map dI)) ≤ 64 := by
    show PyData.depthAll _ + 1 ≤ 64
    have := h.2
    omega
  rw [e1, decide_eq_true e2]
  rfl
end CK
namespace VG
open PySem PySem.Spec PyProof.Rows L2
end VG
namespace CK
open PySem PySem.Spec PyProof.Rows L2 VG FR HD
end CK
namespace CK
open PySem PySem.Spec PyProof.Rows L2 VG FR HD
def Gd (n : Nat) (d : PyData) : Prop := d.canLay0 = true ∧ d.depth ≤ n
theorem Gd.up {n m : Nat} {d : PyData} (h : Gd n d) (hm : n ≤ m) : Gd m d := ⟨h.1, Nat.le_trans h.2 hm⟩
theorem Gd.shaped {n : Nat} {d : PyData} (h : Gd n d) (hn : n ≤ 64) : SeqAt.shaped d = true := by
  unfold SeqAt.shaped
  rw [h.1, decide_eq_true (Nat.le_trans h.2 hn)]
  rfl
end CK
namespace CK
open PySem PySem.Spec PyProof.Rows L2 VG FR HD
end CK
namespace CK
open PySem PySem.Spec PyProof.Rows L2 VG FR HD
/-- lists of ints, none of them D -/
def LsD (D : Addr) (H : Hp) : List V → List (List Int) → Prop
  | [], [] => True
  | v :: vs, c :: cs => (∃ t, v = .ref t ∧ t ≠ D ∧ H t = some (.lst (c.map V.int))) ∧ LsD D H vs cs
  | _, _ => False
theorem LsD.mono {D : Addr} {H H' : Hp} (e : Same H H') : ∀ {vs : List V} {cs : List (List Int)}, LsD D H vs cs → LsD D H' vs cs
  | [], [], _ => trivial
  | _ :: _, _ :: _, ⟨⟨t, e1, n, h⟩, r⟩ => ⟨⟨t, e1, n, e _ _ h⟩, r.mono e⟩
  | [], _ :: _, h => h.elim
  | _ :: _, [], h => h.elim
theorem LsD.len {D : Addr} {H : Hp} : ∀ {vs : List V} {cs : List (List Int)}, LsD D H vs cs → vs.length = cs.length
  | [], [], _ => rfl
  | _ :: _, _ :: _, h => by rw [List.length_cons, List.length_cons, h.2.len]
  | [], _ :: _, h => h.elim
  | _ :: _, [], h => h.elim
theorem LsD.snoc {D : Addr} {H : Hp} {t : Addr} {c : List Int} (n : t ≠ D) (h : H t = some (.lst (c.map V.int))) : ∀ {vs : List V} {cs : List (List Int)}, LsD D H vs cs → LsD D H (vs ++ [.ref t]) (cs ++ [c])
  | [], [], _ => ⟨⟨t, rfl, n, h⟩, trivial⟩
  | _ :: _, _ :: _, q => ⟨q.1, q.2.snoc n h⟩
  | [], _ :: _, q => q.elim
  | _ :: _, [], q => q.elim
theorem LsD.upd {D : Addr} {H : Hp} {o : HO} : ∀ {vs : List V} {cs : List (List Int)}, LsD D H vs cs → LsD D (L2.upd H D o) vs cs
  | [], [], _ => trivial
  | _ :: _, _ :: _, ⟨⟨t, e1, n, h⟩, r⟩ => ⟨⟨t, e1, n, by rw [upd_ne n]; exact h⟩, r.upd⟩
  | [], _ :: _, h => h.elim
  | _ :: _, [], h => h.elim
theorem LsD.get {D : Addr} {H : Hp} : ∀ {vs : List V} {cs : List (List Int)} {i : Nat}, LsD D H vs cs → i < cs.length → ∃ t, vs[i]? = some (.ref t) ∧ H t = some (.lst ((cs.getD i []).map V.int))
  | v :: _, _ :: _, 0, h, _ => by
    obtain ⟨t, e, _, q⟩ := h.1
    exact ⟨t, congrArg some e, q⟩
  | _ :: vs, _ :: cs, i + 1, h, l => h.2.get (i := i) (by simpa using l)
  | [], [], _, _, l => by simp at l
  | [], _ :: _, _, h, _ => h.elim
  | _ :: _, [], _, h, _ => h.elim
end CK
namespace CK
open PySem PySem.Spec PyProof.Rows L2 VG FR HD
end CK
namespace VG
open PySem PySem.Spec PyProof.Rows L2 HT
end VG
namespace CK
open PySem PySem.Spec PyProof.Rows L2 VG FR HD
def Lv (K : PySem.W.Frag) (G : Hp) (n : Nat) (v : V) : Prop := ∃ e, Dv K G v e ∧ Gd n e ∧ shortD e ∧ ∀ ds, e = .tuple ds → ∀ x ∈ ds, shortD x
theorem Lv.mono {K : PySem.W.Frag} {G G' : Hp} {n : Nat} {v : V} (s : Same G G') (h : Lv K G n v) : Lv K G' n v := by
  obtain ⟨e, h1, h2⟩ := h
  exact ⟨e, h1.mono s, h2⟩
theorem Lv.up {K : PySem.W.Frag} {G : Hp} {n m : Nat} {v : V} (h : Lv K G n v) (hm : n ≤ m) : Lv K G m v := by
  obtain ⟨e, h1, h2, h3⟩ := h
  exact ⟨e, h1, h2.up hm, h3⟩
theorem toG {K : PySem.W.Frag} {H : Hp} {p q t : Addr} {xs : List V} (hd : Hd p q H) (h : SqT K H t xs) : SqT K (frz p q H) t xs := seqTK hd keep_frz h
end CK
namespace CK
open PySem PySem.Spec PyProof.Rows L2 VG FR HD
end CK
namespace CK
open PySem PySem.Spec PyProof.Rows L2 VG FR HD
end CK
namespace CK
open PySem PySem.Spec PyProof.Rows L2 VG FR HD
def k0 : List Str := ["a"]
end CK
namespace VG
open PySem PySem.Spec PyProof.Rows L2
abbrev blankT : Obj := { cls := .none, data := .fields #[] }
/-- the places of the tables -/
def tabP (cs : List (Addr × Addr)) : List Addr := cs.map Prod.snd
theorem tabP_of {cs : List (Addr × Addr)} {c : Addr × Addr} (h : c ∈ cs) : c.2 ∈ tabP cs := List.mem_map_of_mem h
section
variable {P : Program} {w : World} {K : PySem.W.Frag} {mg mb : Str → Option Value}
theorem law_callGT {k : Nat} {fa a : Addr} {cs : List (Addr × Addr)} {fd : FuncData} {x : Str} {sp : Sp} {S0 : Shared} {us : List Value} {ns : List Int}
    (inK : K.In S0.heap) (gns : S0.heap.Ns mainGlobals mg) (bns : S0.heap.Ns builtinsNs mb) (boot : ∀ y : Str, y ≠ "__name__" → mb y = bootBuiltins y) (lim : S0.heap.NoLimit) (gen0 : S0.gens = #[])
    (tb : ∀ c ∈ cs, S0.heap.get? c.2 = some blankT) (tk : ∀ c ∈ cs, K.lookup c.2 = none) (th : ∀ c ∈ cs, PySem.W.CodeHd S0.heap c.1 c.2)
    (bm : ∃ (m : Addr) (ob : Obj), mg "__builtins__" = some (.ref m) ∧ m ≠ builtinsNs ∧ S0.heap.get? m = some ob ∧ ob.cls = .type "module" ∧ ob.dict = some builtinsNs ∧ ob.data = .plain)
    (ga : S0.heap.get? a = some { cls := .type "list", data := .seq us.toArray }) (isInts : IntsAre us ns) (short : ns.length ≤ sizeLine) (room : Room k callerA)
    (F : ∀ base : Heap, K.In base → base.Ns mainGlobals mg → (∀ c ∈ cs, LamX.TabB base mg c.1 c.2) → FnG P w K mg base k fa fd [x] sp) (binds : ∀ (s : Shared) (u : Value), BindsTo s fd ⟨[u], []⟩ [(x, u)])
    (told : ∀ H : Hp, (∀ c ∈ cs, H c.2 = some (.tbl #[])) → SqL K H a (ns.map V.int) → sp [.ref a] H (fun v _ => v = .bl true) fun _ _ _ => False) :
    codeAny (model P w) callerA (.call (.ref fa) ⟨[.ref a], []⟩) (fun r s' => r = .ok (.ret (.bool true)) ∧ OldK S0.heap s'.heap ∧ s'.os = S0.os ∧ AllBare s'.gens) S0 := by
  have vals := vals_ints isInts
  have nl := isInts.length
  have tabAt : ∀ {b : Addr}, b ∈ tabP cs → S0.heap.get? b = some blankT := by
    intro b m
    obtain ⟨c, mc, rfl⟩ := List.mem_map.mp m
    exact tb c mc
  have aOut : a ∉ tabP cs := by
    intro m
    have e := ga.symm.trans (tabAt m)
    have e2 := congrArg Obj.data (Option.some.inj e)
    cases e2
  -- the run, from a heap of which the script and the tables alone may be known
  have go : ∀ H : Hp, (∀ c ∈ cs, H c.2 = some (.tbl #[])) → SqL K H a (ns.map V.int) → HOk P w H S0.heap →
      (∀ b, H b = none ∨ b ∈ tabP cs ∨ (b = a ∧ ∃ ob ys, H b = some (.frz ob (.lst ys)))) → (H a ≠ none → K.lookup a = none) →
      codeAny (model P w) callerA (.call (.ref fa) ⟨[.ref a], []⟩) (fun r s' => r = .ok (.ret (.bool true)) ∧ OldK S0.heap s'.heap ∧ s'.os = S0.os ∧ AllBare s'.gens) S0 := by
    intro H hT hS hOk kinds hKa
    have untold : ∀ {b : Addr} {o : Obj}, S0.heap.get? b = some o → (∀ z n, o.data ≠ .seq z n) → o.data ≠ .fields #[] → H b = none := by
      intro b o e n1 n2
      rcases kinds b with z | z | ⟨z, _⟩
      · exact z
      · have q := (tabAt z).symm.trans e
        exact absurd (congrArg Obj.data (Option.some.inj q)).symm n2
      · subst z
        have q := ga.symm.trans e
        exact absurd (congrArg Obj.data (Option.some.inj q)).symm (n1 _ _)
    have dictFree : ∀ {b : Addr} {o : Obj} {es : Array DictEntry} {n : Nat}, S0.heap.get? b = some o → o.data = .dict es n → H b = none := by
      intro b o es n e d
      exact untold e (fun z m q => by rw [d] at q; cases q) (fun q => by rw [d] at q; cases q)
    have nsB : ∀ {b : Addr} {m : Str → Option Value}, S0.heap.Ns b m → (hidT S0.heap H).Ns b m := by
      intro b m q
      obtain ⟨o, es, n, e, d, r⟩ := q
      exact ⟨o, es, n, hidT_get e (dictFree e d), d, r⟩
    have kB : K.In (hidT S0.heap H) := by
      intro b o e
      refine hidT_get (inK b o e) ?_
      rcases kinds b with z | z | ⟨z, ob, ys, q⟩
      · exact z
      · obtain ⟨c, mc, rfl⟩ := List.mem_map.mp z
        exact absurd ((tk c mc).symm.trans e) (by simp)
      · subst z
        have q2 := hKa (by rw [q]; exact Option.some_ne_none _)
        exact absurd (q2.symm.trans e) (by simp)
    have md : Mod K mg (hidT S0.heap H) := by
      refine ⟨kB, nsB gns, ⟨mb, nsB bns, boot⟩, ?_⟩
      obtain ⟨m, l1, l2⟩ := lim
      exact ⟨m, nsB l1, l2⟩
    have tabsB : ∀ c ∈ cs, LamX.TabB (hidT S0.heap H) mg c.1 c.2 := by
      intro c mc
      have at2 := tb c mc
      constructor
      · obtain ⟨o, zs, fl, t1, fg, t2, inn, tx, t3, e1, h1, h2, h3, h4, h5, h6, h7, h8, hn⟩ := th c mc
        have keep := untold e1 (fun z n q => by rw [h2] at q; cases q) (fun q => by
          rw [h2] at q
          cases q
          simp at h3)
        exact ⟨o, zs, fl, t1, fg, t2, inn, tx, t3, hidT_get e1 keep, h1, h2, h3, h4, h5, h6, h7, h8, hn⟩
      · obtain ⟨m, ob, m1, m2, m3, m4, m5, m6⟩ := bm
        have notG : m ≠ mainGlobals := by
          intro q
          subst q
          obtain ⟨o, es, n, e, d, _⟩ := gns
          rw [Option.some.inj (m3.symm.trans e), d] at m6
          cases m6
        have notT : m ≠ c.2 := by
          intro q
          subst q
          rw [Option.some.inj (m3.symm.trans at2)] at m6
          cases m6
        have keep := untold m3 (fun z n q => by rw [m6] at q; cases q) (fun q => by rw [m6] at q; cases q)
        exact ⟨m, ob, m1, m2, notG, notT, hidT_get m3 keep, m4, m5, m6⟩
      · intro q
        obtain ⟨o, es, n, e, d, _⟩ := gns
        rw [q] at e
        rw [← Option.some.inj (at2.symm.trans e)] at d
        cases d
    have env0 : Env0 P w K mg (hidT S0.heap H) callerA [] S0 H :=
      ⟨rfl, md, fun b o e => of_hidT e, Nat.le_of_eq (hidT_size _ _), trivial, fun b m => absurd (show b ∈ ([] : List Addr) from m) List.not_mem_nil, hOk, .of_eq gen0⟩
    have ran := (F _ kB (nsB gns) tabsB).run callerA [] S0 H ⟨[.ref a], []⟩ [.ref a] [.ref a] _ _ rfl room env0 (binds S0 (.ref a)) (.cons rfl .nil) (told H hT hS)
    apply codeAny_mono ran
    intro r s' got
    match r, got with
    | .ok (.ret u), got =>
      obtain ⟨v, H', os, bare, un, hOk', rv, q⟩ := got
      have q : v = .bl true := q
      subst q
      have rv : u = Value.bool true := rv
      subst rv
      have kept : ∀ {b : Addr} {o : Obj}, b ∉ tabP cs → S0.heap.get? b = some o → s'.heap.get? b = some o := by
        intro b o nb e
        rcases kinds b with z | z | ⟨_, ob, ys, z⟩
        · exact un.keep b o e z (fun m => absurd (show b ∈ ([] : List Addr) from m) List.not_mem_nil) List.not_mem_nil
        · exact absurd z nb
        · have w1 := (hOk b _ z).1
          have w2 := (hOk' b _ (un.frzs b ob _ z)).1
          rw [Option.some.inj (e.symm.trans w1)]
          exact w2
      have more : ∀ c ∈ cs, ∃ ps : Array Value, s'.heap.get? c.2 = some { cls := .none, data := .fields ps } := by
        intro c mc
        obtain ⟨ps, z⟩ := un.tbls c.2 #[] (hT c mc)
        exact ⟨_, hOk' c.2 _ z⟩
      refine ⟨rfl, ⟨?_, ?_⟩, os, bare⟩
      · intro b o e
        by_cases m : b ∈ tabP cs
        · obtain ⟨c, mc, rfl⟩ := List.mem_map.mp m
          obtain ⟨ps, hp⟩ := more c mc
          have eo := Option.some.inj (e.symm.trans (tb c mc))
          subst eo
          refine .inr (.inl ⟨((th c mc).tab (tb c mc)).isCodeTable, rfl, #[], ps, rfl, ?_⟩)
          rw [Array.empty_append]
          exact hp
        · exact .inl (kept m e)
      · intro b o e
        by_cases m : b ∈ tabP cs
        · obtain ⟨c, mc, rfl⟩ := List.mem_map.mp m
          obtain ⟨ps, hp⟩ := more c mc
          exact ⟨_, hp⟩
        · exact ⟨o, kept m e⟩
  cases hk : K.lookup a with
  | some o =>
    have eo := Option.some.inj ((inK a o hk).symm.trans ga)
    subst eo
    refine go (fun b => if b ∈ tabP cs then some (.tbl #[]) else none) (fun c mc => if_pos (tabP_of mc)) ?_ ?_ ?_ ?_
    · refine .inr ⟨_, us.toArray, _, hk, rfl, rfl, rfl, ?_, by simpa using vals⟩
      rw [List.size_toArray, nl]
      exact short
    · intro b u z
      by_cases m : b ∈ tabP cs
      · have z' := (if_pos m).symm.trans z
        cases z'
        exact tabAt m
      · exact absurd ((if_neg m).symm.trans z) (by simp)
    · intro b
      by_cases m : b ∈ tabP cs
      · exact .inr (.inl m)
      · exact .inl (if_neg m)
    · intro q
      exact absurd (if_neg aOut) q
  | none =>
    refine go (fun b => if b = a then some (.frz { cls := .type "list", data := .seq us.toArray } (.lst (ns.map V.int))) else if b ∈ tabP cs then some (.tbl #[]) else none) (fun c mc => ?_) (.inl (.inr ⟨{ cls := .type "list", data := .seq us.toArray }, if_pos rfl⟩)) ?_ ?_ (fun _ => hk)
    · have ne : ¬ c.2 = a := fun q => aOut (q ▸ tabP_of mc)
      exact (if_neg ne).trans (if_pos (tabP_of mc))
    · intro b u z
      by_cases m : b = a
      · subst m
        have z' := (if_pos rfl).symm.trans z
        cases z'
        refine ⟨ga, ?_, us, _, vals, ga⟩
        rw [List.length_map]
        exact short
      · have z1 := (if_neg m).symm.trans z
        by_cases m2 : b ∈ tabP cs
        · have z2 := (if_pos m2).symm.trans z1
          cases z2
          exact tabAt m2
        · exact absurd ((if_neg m2).symm.trans z1) (by simp)
    · intro b
      by_cases m : b = a
      · exact .inr (.inr ⟨m, _, _, if_pos m⟩)
      · by_cases m2 : b ∈ tabP cs
        · exact .inr (.inl m2)
        · exact .inl ((if_neg m).trans (if_neg m2))
end
/-- the law's promise, with its tables, at the heap behind the module's top -/
def LawGT (l : PySem.W.OpenLaw) (w : World) (K : PySem.W.Frag) (k n : Nat) (x : Str) (mg : Str → Option Value) (fa : Addr) (h : Heap) : Prop :=
  ∃ (fd : FuncData) (cs : List (Addr × Addr)) (sp : Sp), (∀ c ∈ cs, h.get? c.2 = some blankT) ∧ (∀ c ∈ cs, K.lookup c.2 = none) ∧ (∀ c ∈ cs, PySem.W.CodeHd h c.1 c.2) ∧ (∀ (s : Shared) (u : Value), BindsTo s fd ⟨[u], []⟩ [(x, u)]) ∧
    (∀ (H : Hp) (a : Addr) (ns : List Int), ns.length ≤ n → (∀ z ∈ ns, Builtin.Int.intBits z ≤ 1048576) → (∀ c ∈ cs, H c.2 = some (.tbl #[])) → SqL K H a (ns.map V.int) → sp [.ref a] H (fun v _ => v = .bl true) fun _ _ _ => False) ∧
    ∀ base : Heap, K.In base → base.Ns mainGlobals mg → (∀ c ∈ cs, LamX.TabB base mg c.1 c.2) → FnG l.prog w K mg base k fa fd [x] sp
theorem walk_GT {l : PySem.W.OpenLaw} {n k : Nat} {q : Program} {loose : List Str} {XP : (Str → Option Value) → Heap → Prop} {YP : World → Heap → Prop} {d : DefRec} {K : Params → PySem.W.Frag} {x : Str}
    (hn : l.most = some n) (hn2 : n ≤ sizeLine) (hdf : d.params.defaults = []) (hr : Room k callerA) (hY : ∀ (w : World) (h : Heap), YP w h → (K w.params).In h)
    (F : ∀ (w : World) (mg : Str → Option Value) (fa : Addr) (h : Heap), YP w h → (K w.params).In h → h.Ns mainGlobals mg → mg d.name = some (.ref fa) → LawGT l w (K w.params) k n x mg fa h) :
    PySem.W.WalkO q loose XP YP l.row.toRowW d [] (fun f vs => PySem.call f vs) := by
  apply Att.attach_callB hn hdf
  intro w s₀ s₁ mg mb fa o pm cd doc a vs ns G Y ho hd hcd hmg hobj hints hlen hbits hg
  have inK := hY w _ Y
  obtain ⟨fd, cs, sp, tb, tk, th, bi, told, FF⟩ := F w mg fa _ Y inK G.T.g hmg
  exact law_callGT inK G.T.g G.T.b G.T.builtins G.T.nolimit hg tb tk th G.T.bmain hobj hints (Nat.le_trans hlen hn2) hr FF bi fun H hH hS => told H a ns hlen hbits hH hS
end VG
namespace CK
open PySem PySem.Spec PyProof.Rows L2 VG FR HD
/-- what is heard of an action: the word of its refusal, no word if it goes through -/
def THeard (C : Addr) : (XK → Hp → VK → Prop) → Hp → VK → Prop := fun tl H Q =>
  tl (fun cls d H' => cls = .ref C ∧ ∃ (dd : Addr) (w : Str), d = some dd ∧ H' dd = some (.xd [("word", .str w)]) ∧ Q (.str w) H') H (fun _ H' => Q (.str "") H')
theorem takes_len {X : Cx} {W : WX} (t : Takes X W) : Takes X (fun c d σ H => σ.length = X.N.length → W c d σ H) := fun u s' ⟨a, B, sI, pins, σ, H, cls, d, e, I, nb, up, sky, na, os, ag, w⟩ =>
  t u s' ⟨a, B, sI, pins, σ, H, cls, d, e, I, nb, up, sky, na, os, ag, w I.len⟩
theorem get_set_len {α : Type} {σ : List α} {n : Nat} {x : α} (h : σ.length = n) {i : Nat} (hi : i < n) : (σ.set i x)[i]? = some x := by
  rw [List.getElem?_set_self (by omega)]
end CK
namespace VG
open PySem PySem.Spec PyProof.Rows L2
/-- a def's facts, its code object at c -/
structure FunC (K : PySem.W.Frag) (x qual : Str) (st : Stmt) (f : Addr) (fd : FuncData) (c : Addr) : Prop where
  it : ∃ (cl : Value) (dc ann : Option Addr) (kws dd md cts : Value) (sl : Array (Option Value)),
    fd = PySem.W.fnOf x qual (defArgs st) (defBody st) (defScope st) .none kws dd md ann (.ref c) cts ∧ K.lookup f = some ⟨cl, dc, .func fd, sl⟩ ∧ PySem.W.codeIn K (.ref c) qual = true
  keep : PySem.W.keepIn K (.ref f) = true
theorem funC_mk {K : PySem.W.Frag} {x qual : Str} {st : Stmt} {f c : Addr} {cl : Value} {dc ann : Option Addr} {sl : Array (Option Value)} {kws dd md cts : Value}
    (at1 : K.lookup f = some ⟨cl, dc, .func (PySem.W.fnOf x qual (defArgs st) (defBody st) (defScope st) .none kws dd md ann (.ref c) cts), sl⟩)
    (at2 : PySem.W.codeIn K (.ref c) qual = true) (at3 : PySem.W.keepIn K (.ref f) = true) : FunC K x qual st f (PySem.W.fnOf x qual (defArgs st) (defBody st) (defScope st) .none kws dd md ann (.ref c) cts) c :=
  ⟨⟨cl, dc, ann, kws, dd, md, cts, sl, rfl, at1, at2⟩, at3⟩
theorem FunC.fun {K : PySem.W.Frag} {x qual : Str} {st : Stmt} {f c : Addr} {fd : FuncData} (F : FunC K x qual st f fd c) : Fun K x qual st f fd := by
  obtain ⟨cl, dc, ann, kws, dd, md, cts, sl, e1, e2, e3⟩ := F.it
  exact ⟨⟨cl, dc, kws, dd, md, ann, .ref c, cts, sl, e1, e2, e3⟩, F.keep⟩
section
variable {P : Program} {w : World} {K : PySem.W.Frag} {mg : Str → Option Value} {base : Heap}
theorem fnGC_of {k : Nat} {f c : Addr} {x qual : Str} {st : Stmt} {fd : FuncData} {N ps : List Str} {sp : Sp} (F : FunC K x qual st f fd c) (S : FnScope N ps (defScope st))
    (many : ∀ vs H Q E, sp vs H Q E → vs.length = ps.length)
    (body : ∀ (A : Around) (outer : List Env) (s : Shared) (H : Hp) (vs : List V) (Q : VK) (E : XK), A.guards = some [] →
      Room k (A.deeper (envOfC qual (defScope st) s.heap.objs.size f (.ref c))) → sp vs H Q E →
      ∃ t, PSs (cxOf CX0 P w K mg base N qual (defScope st) f (.ref c) A outer s H E).nox (defBody st) t ∧ t { nx := fun _ G => Q .non G, rt := Q } (start N vs) H) :
    FnG P w K mg base (k + 1) f fd ps sp := by
  obtain ⟨cl, dc, ann, kws, dd, md, cts, sl, rfl, at1, at2⟩ := F.it
  refine ⟨many, ?_⟩
  intro A outer s H args us vs Q E gs room env0 binds vals told
  have len := many _ _ _ _ told
  have inS : K.In s.heap := env0.mod.kin.keeps fun b o e => (env0.bs b o e).1
  have noLimit : s.heap.NoLimit := env0.mod.nolimit.keeps fun b o e => (env0.bs b o e).1
  have own : ∀ y ∈ ps.zip us, (defScope st).names.lookup y.1 = some .local ∨
      ((defScope st).names.lookup y.1 = some .cell ∧ ((cellsFrom (s.heap.objs.size + 1) (defScope st).names []).lookup y.1).isSome = true) := by
    rintro ⟨n, u⟩ mem
    rcases S.par n (List.of_mem_zip mem).1 with isL | isC
    · exact .inl isL
    · exact .inr ⟨isC, PySem.W.cellsFrom_some _ _ _ (.inl isC)⟩
  apply codeAny_call_function room.depth (inS _ _ at1) rfl S.co S.gen rfl (PySem.W.codeRec_of inS at2) (binds _ _ _ _ _)
  apply wpAny_newFunctionEnv_cells S.kind own
  intro env same s1 made
  subst same
  refine ⟨noLimit.keeps made.toInCall.keep, codeAny_func ?_⟩
  obtain ⟨t, run, told2⟩ := body A outer s H vs Q E gs (room.deeper _) told
  have I := inv_start (CX := CX0) (P := P) (w := w) (E := E) S room.hd env0 len vals made
  refine wpAny_mono (run.nox.run [] s1 (start N vs) H _ I told2) (fun how s2 out => ?_) fun _ _ out => out
  cases how with
  | brk => obtain ⟨_, _, _, no⟩ := out; exact no.elim
  | cont => obtain ⟨_, _, _, no⟩ := out; exact no.elim
  | next => obtain ⟨σ2, G, J, q⟩ := out; exact ⟨.non, G, J.os, J.bare, J.base, J.hok, rfl, q⟩
  | ret u => obtain ⟨v, σ2, G, J, rv, q⟩ := out; exact ⟨v, G, J.os, J.bare, J.base, J.hok, rv, q⟩
end
/-- a heap without tables: what is told of it outlives the making of lambdas -/
def NoTbl (G : Hp) : Prop := ∀ b ps, G b ≠ some (.tbl ps)
theorem NoTbl.over {G H H' : Hp} (n : NoTbl G) (s : Same G H) (e : LamX.ExtN H H') : Same G H' := fun b o h =>
  e b o (s b o h) fun ps z => n b ps (by rw [h, z])
theorem tabs_same {T : List (Addr × Str)} {H H' : Hp} (t : LamX.Tabs T H) (s : Same H H') : LamX.Tabs T H' := t.ext s
/-- a heap but for its tables -/
noncomputable def offT (H : Hp) : Hp := fun b => match H b with
  | some (.tbl _) => none
  | o => o
theorem offT_no (H : Hp) : NoTbl (offT H) := fun b ps h => by
  unfold offT at h
  split at h
  · cases h
  · rename_i n
    exact n ps h
theorem offT_same (H : Hp) : Same (offT H) H := fun b o h => by
  unfold offT at h
  split at h
  · cases h
  · exact h
end VG
namespace CK
open PySem PySem.Spec PyProof.Rows L2 VG FR HD
mutual
inductive Ov (K : PySem.W.Frag) (H : Hp) : V → PyData → Prop
  | non : Ov K H .non .none
  | bl (b : Bool) : Ov K H (.bl b) (.bool b)
  | int (i : Int) : Ov K H (.int i) (.int i)
  | str (x : Str) : Ov K H (.str x) (.str x)
  | dct {a : Addr} : H a = some (.dK []) → Ov K H (.ref a) (.dict [])
  | lst {a : Addr} {xs : List V} {ds : List PyData} : H a = some (.lst xs) → OvAll K H xs ds → Ov K H (.ref a) (.list ds)
  | tup {a : Addr} {xs : List V} {ds : List PyData} : SqT K H a xs → OvAll K H xs ds → Ov K H (.ref a) (.tuple ds)
inductive OvAll (K : PySem.W.Frag) (H : Hp) : List V → List PyData → Prop
  | nil : OvAll K H [] []
  | cons {v : V} {vs : List V} {d : PyData} {ds : List PyData} : Ov K H v d → OvAll K H vs ds → OvAll K H (v :: vs) (d :: ds)
end
mutual
theorem Ov.mono {K : PySem.W.Frag} {H H' : Hp} (e : Same H H') : ∀ {v : V} {d : PyData}, Ov K H v d → Ov K H' v d
  | _, _, .non => .non
  | _, _, .bl b => .bl b
  | _, _, .int i => .int i
  | _, _, .str x => .str x
  | _, _, .dct h => .dct (e _ _ h)
  | _, _, .lst h r => .lst (e _ _ h) (OvAll.mono e r)
  | _, _, .tup h r => .tup (seqT e h) (OvAll.mono e r)
theorem OvAll.mono {K : PySem.W.Frag} {H H' : Hp} (e : Same H H') : ∀ {vs : List V} {ds : List PyData}, OvAll K H vs ds → OvAll K H' vs ds
  | _, _, .nil => .nil
  | _, _, .cons h r => .cons (Ov.mono e h) (OvAll.mono e r)
end
theorem OvAll.len {K : PySem.W.Frag} {H : Hp} : ∀ {vs : List V} {ds : List PyData}, OvAll K H vs ds → vs.length = ds.length
  | _, _, .nil => rfl
  | _, _, .cons _ r => by rw [List.length_cons, List.length_cons, r.len]
theorem OvAll.get {K : PySem.W.Frag} {H : Hp} : ∀ {xs : List V} {ds : List PyData} {i : Nat} {x : V}, OvAll K H xs ds → xs[i]? = some x → ∃ d, ds[i]? = some d ∧ Ov K H x d
  | _, _, _, _, .nil, e => by simp at e
  | _, _, 0, _, .cons h _, e => by
    have e1 := Option.some.inj e
    subst e1
    exact ⟨_, rfl, h⟩
  | _, _, i + 1, _, .cons _ r, e => r.get (i := i) e
theorem kDI : kitB "dict" "int" = some false := by decide +kernel
theorem kDB : kitB "dict" "bool" = some false := by decide +kernel
theorem Ov.part {K : PySem.W.Frag} {H : Hp} {v : V} {d : PyData} (h : Ov K H v d) : Part K H v (intO d) := by
  cases h with
  | non => exact .inr ⟨rfl, "NoneType", false, false, .base .non, kitN1, kitN2, rfl⟩
  | bl b => exact part_bl b
  | int i => exact .inl ⟨i, rfl, rfl⟩
  | str x => exact .inr ⟨rfl, "str", false, false, .base (.str _), kitS1, kitS2, rfl⟩
  | dct h => exact .inr ⟨rfl, "dict", false, false, .base (.dK h), kDI, kDB, rfl⟩
  | lst h r => exact .inr ⟨rfl, "list", false, false, .base (.lst h), kLI, kLB, rfl⟩
  | tup h r => exact part_tup h
theorem Ov.noTup {K : PySem.W.Frag} {H : Hp} {v : V} {d : PyData} (h : Ov K H v d) (n : isTupD d = false) : ∃ ty : String, TyX K H v (.type ty) ∧ kitB ty "tuple" = some false := by
  cases h with
  | non => exact ⟨"NoneType", .base .non, kNT⟩
  | bl b => exact ⟨"bool", .base (.bl b), kBT⟩
  | int i => exact ⟨"int", .base (.int i), kIT⟩
  | str x => exact ⟨"str", .base (.str x), kST⟩
  | dct h => exact ⟨"dict", .base (.dK h), kDT⟩
  | lst h r => exact ⟨"list", .base (.lst h), kLT⟩
  | tup h r => cases n
theorem Ov.isT {K : PySem.W.Frag} {H : Hp} {v : V} {ds : List PyData} (h : Ov K H v (.tuple ds)) : ∃ a xs, v = .ref a ∧ SqT K H a xs ∧ OvAll K H xs ds := by
  cases h with
  | tup h r => exact ⟨_, _, rfl, h, r⟩
/-- numbers below n -/
def numsBD (n : Int) : PyData → Bool
  | .tuple ds => ds.all fun d => belowO n (intO d)
  | _ => false
/-- each less than the next -/
def ascB (cs : List Int) : Bool := (cs.zip (cs.drop 1)).all fun p => decide (p.1 < p.2)
def intsD : PyData → List Int
  | .tuple ds => ds.map fun d => (intO d).getD 0
  | _ => []
def lotD (n : Int) (d : PyData) : Bool := numsBD n d && ascB (intsD d)
def nameB (z : Str) : Bool := decide (1 ≤ z.length ∧ z.length ≤ 6) && z.cps.toList.all fun c => decide (c ∈ cLETTERS.cps.toList)
def nameD : PyData → Bool
  | .str z => nameB z
  | _ => false
def namesD : PyData → Bool
  | .tuple ds => ds.all nameD
  | _ => false
end CK
namespace CK
open PySem PySem.Spec PyProof.Rows L2 VG FR HD
def shortS : PyData → Prop
  | .str z => z.length ≤ 1000
  | _ => True
def tupD (n : Nat) : PyData → Bool
  | .tuple ds => decide (ds.length = n)
  | _ => false
def spTupA (K : PySem.W.Frag) : Sp := fun vs H Q _ => ∃ (v : V) (d : PyData) (n : Nat), vs = [v, .int n] ∧ Ov K H v d ∧ Q (.bl (tupD n d)) H
end CK
namespace CK
open PySem PySem.Spec PyProof.Rows L2 VG FR HD
/-- a table that can be -/
structure TabOk (ks : List Str) (ts : List (List Int)) : Prop where
  kinds : KindsOk ks
  len : ts.length ≤ 12
  lots : ∀ c ∈ ts, LotOk (ks.length : Int) c
theorem asc_of : ∀ {cs : List Int}, ascB cs = true → Asc cs
  | [], _ => trivial
  | [_], _ => trivial
  | a :: b :: r, h => by
    have h : (decide (a < b) && ascB (b :: r)) = true := h
    rw [Bool.and_eq_true] at h
    exact ⟨of_decide_eq_true h.1, asc_of h.2⟩
end CK
namespace VG
open PySem PySem.Spec PyProof.Rows L2
end VG
namespace VG
open PySem PySem.Spec PyProof.Rows L2 FR
/-- a tuple of the run, its object told: no dict of its own -/
def TupO (H : Hp) (p : Addr) (xs : List V) : Prop := ∃ ob : Obj, H p = some (.frz ob (.tup xs)) ∧ ob.cls = .type "tuple" ∧ ob.dict = none
theorem TupO.seq {K : PySem.W.Frag} {H : Hp} {p : Addr} {xs : List V} (t : TupO H p xs) : SqT K H p xs :=
  let ⟨ob, e, _, _⟩ := t
  .inl (.inr ⟨ob, e⟩)
theorem TupO.mono {H H' : Hp} {p : Addr} {xs : List V} (t : TupO H p xs) (e : Same H H') : TupO H' p xs :=
  let ⟨ob, e1, e2, e3⟩ := t
  ⟨ob, e _ _ e1, e2, e3⟩
end VG
namespace CK
open PySem PySem.Spec PyProof.Rows L2 VG FR HD
end CK
namespace CK
open PySem PySem.Spec PyProof.Rows L2 VG FR HD
/-- an ascending lot below n has at most n entries -/
theorem lot_small {n : Nat} {c : List Int} (h : LotOk (n : Int) c) : c.length ≤ n := by
  have pw : ∀ (c : List Int) (lo : Int), Asc c → (∀ x ∈ c, lo ≤ x ∧ x < (n : Int)) → (c.length : Int) ≤ (n : Int) - lo ∨ c = [] := by
    intro c
    induction c with
    | nil => intro lo _ _; exact .inr rfl
    | cons x r ih =>
      intro lo ha hb
      left
      have hx := hb x List.mem_cons_self
      cases r with
      | nil => simp; omega
      | cons y r2 =>
        have ha2 : x < y ∧ Asc (y :: r2) := ha
        have asc_all : ∀ (y : Int) (r : List Int), Asc (y :: r) → ∀ z ∈ y :: r, y ≤ z := by
          intro y r
          induction r generalizing y with
          | nil => intro _ z hz; rw [List.mem_singleton.mp hz]; exact Int.le_refl _
          | cons w r3 ih3 =>
            intro h3 z hz
            have h3 : y < w ∧ Asc (w :: r3) := h3
            rcases List.mem_cons.mp hz with e | m
            · rw [e]; exact Int.le_refl _
            · have := ih3 w h3.2 z m
              omega
        rcases ih (x + 1) ha2.2 (fun z hz => ⟨by have := asc_all y r2 ha2.2 z hz; omega, (hb z (List.mem_cons_of_mem _ hz)).2⟩) with q | q
        · rw [List.length_cons]
          omega
        · cases q
  rcases pw c 0 h.2.2 h.2.1 with q | q
  · omega
  · rw [q]; exact Nat.zero_le _
theorem TabOk.low {ks : List Str} {ts : List (List Int)} (h : TabOk ks ts) : ∀ c ∈ ts, c.length ≤ 60 ∧ ∀ x ∈ c, 0 ≤ x ∧ x < (ks.length : Int) := fun c hc =>
  ⟨by have := lot_small (h.lots c hc); have := h.kinds.2.1; omega, (h.lots c hc).2.1⟩
end CK
namespace CK
open PySem PySem.Spec PyProof.Rows L2 VG FR HD
end CK
namespace CK
open PySem PySem.Spec PyProof.Rows L2 VG FR HD
theorem tup_either {K : PySem.W.Frag} {H : Hp} {k : Addr} {xs : List V} {Q : VK} (h : SqL K H k xs ∨ SqT K H k xs) (fin : ∀ H' u, Same H H' → SqT K H' u xs → Q (.ref u) H') :
    ∃ p ys, ([V.ref k] : List V) = [V.ref p] ∧ ((SqL K H p ys ∧ ∀ l, H l = none → Q (.ref l) (L2.upd H l (.tup ys))) ∨ (SqT K H p ys ∧ Q (.ref p) H)) := by
  rcases h with h | h
  · exact ⟨k, xs, rfl, .inl ⟨h, fun l nl => fin _ l (same_upd nl) (sqt upd_same)⟩⟩
  · exact ⟨k, xs, rfl, .inr ⟨h, fin H k (Same.refl _) h⟩⟩
def rTupE (K : PySem.W.Frag) : List V → Hp → VK → Prop := fun vs H Q => ∃ (k : Addr) (xs : List V), vs = [.ref k] ∧ (SqL K H k xs ∨ SqT K H k xs) ∧ ∀ H' u, Same H H' → SqT K H' u xs → Q (.ref u) H'
theorem call_tupE {X : Cx} : CallR X (.type "tuple") (rTupE X.K) := fun pins s σ H vs us Q I rv h => by
  obtain ⟨k, xs, rfl, h1, h2⟩ := h
  exact call_tuple_of pins s σ H _ us Q I rv (tup_either h1 h2)
end CK
namespace CK
open PySem PySem.Spec PyProof.Rows L2 VG FR HD
theorem Shn.more {d : PyData} {k B k2 B2 : Nat} (h : Shn d k B) (hk : k ≤ k2) (hB : B ≤ B2) : Shn d k2 B2 := ⟨h.1, h.2.1, Nat.le_trans h.2.2.1 hk, Nat.le_trans h.2.2.2 hB⟩
end CK
namespace CK
open PySem PySem.Spec PyProof.Rows L2 VG FR HD
def hd0 (c : List Int) : Int := c.getD 0 0
end CK
namespace CK
open PySem PySem.Spec PyProof.Rows L2 VG FR HD
end CK
namespace CK
open PySem PySem.Spec PyProof.Rows L2 VG FR HD
end CK
namespace TU
open PySem PyProof.Rows
/-- the order of tuples of integers -/
def lexI : List Int → List Int → Bool
  | [], [] => false
  | [], _ :: _ => true
  | _ :: _, [] => false
  | x :: xs, y :: ys => if x = y then lexI xs ys else decide (x < y)
theorem lexI_asym : ∀ (a b : List Int), lexI a b = true → lexI b a = false
  | [], [], h => by cases h
  | [], _ :: _, _ => rfl
  | _ :: _, [], h => by cases h
  | x :: xs, y :: ys, h => by
    show (if y = x then lexI ys xs else decide (y < x)) = false
    have h : (if x = y then lexI xs ys else decide (x < y)) = true := h
    by_cases e : x = y
    · rw [if_pos e] at h
      rw [if_pos e.symm]
      exact lexI_asym xs ys h
    · rw [if_neg e] at h
      rw [if_neg (Ne.symm e)]
      have := of_decide_eq_true h
      exact decide_eq_false (by omega)
theorem lexI_tr : ∀ (a b c : List Int), lexI b a = false → lexI c b = false → lexI c a = false
  | [], _, [], _, _ => rfl
  | [], [], _ :: _, _, h => by first | exact h | rfl
  | [], _ :: _, _ :: _, _, _ => rfl
  | _ :: _, [], _, h, _ => by cases h
  | _ :: _, _ :: _, [], _, h => by cases h
  | x :: xs, y :: ys, z :: zs, h1, h2 => by
    have h1 : (if y = x then lexI ys xs else decide (y < x)) = false := h1
    have h2 : (if z = y then lexI zs ys else decide (z < y)) = false := h2
    show (if z = x then lexI zs xs else decide (z < x)) = false
    by_cases e1 : y = x
    · rw [if_pos e1] at h1
      by_cases e2 : z = y
      · rw [if_pos e2] at h2
        rw [if_pos (e2.trans e1)]
        exact lexI_tr xs ys zs h1 h2
      · rw [if_neg e2] at h2
        rw [if_neg (by rw [← e1]; exact e2), ← e1]
        exact h2
    · rw [if_neg e1] at h1
      have := of_decide_eq_false h1
      by_cases e2 : z = y
      · rw [if_neg (by rw [e2]; exact e1), e2]
        exact h1
      · rw [if_neg e2] at h2
        have := of_decide_eq_false h2
        rw [if_neg (by omega)]
        exact decide_eq_false (by omega)
theorem lexI_total : ∀ (a b : List Int), lexI a b = false → lexI b a = false → a = b
  | [], [], _, _ => rfl
  | [], _ :: _, h, _ => by cases h
  | _ :: _, [], _, h => by cases h
  | x :: xs, y :: ys, h1, h2 => by
    have h1 : (if x = y then lexI xs ys else decide (x < y)) = false := h1
    have h2 : (if y = x then lexI ys xs else decide (y < x)) = false := h2
    by_cases e : x = y
    · rw [if_pos e] at h1
      rw [if_pos e.symm] at h2
      rw [e, lexI_total xs ys h1 h2]
    · rw [if_neg e] at h1
      rw [if_neg (Ne.symm e)] at h2
      have := of_decide_eq_false h1
      have := of_decide_eq_false h2
      omega
theorem swo (k : Value → List Int) : SrtO.Swo fun v u => lexI (k v) (k u) := ⟨fun x y h => lexI_asym _ _ h, fun x y z h1 h2 => lexI_tr _ _ _ h1 h2⟩
/-- as the model walks: from place i on, k places left -/
theorem lexI_at : ∀ (xs ys pre pre2 : List Int), pre.length = pre2.length → Ob.lexAt (fun j => decide ((pre ++ xs).getD j 0 = (pre2 ++ ys).getD j 0)) (fun j => decide ((pre ++ xs).getD j 0 < (pre2 ++ ys).getD j 0)) (decide (xs.length < ys.length)) pre.length (min xs.length ys.length) = lexI xs ys
  | [], [], _, _, _ => rfl
  | [], _ :: ys, _, _, _ => by
    show Ob.lexAt _ _ (decide (0 < ys.length + 1)) _ (min 0 (ys.length + 1)) = true
    rw [Nat.zero_min]
    exact decide_eq_true (Nat.succ_pos _)
  | _ :: xs, [], _, _, _ => by
    show Ob.lexAt _ _ (decide (xs.length + 1 < 0)) _ (min (xs.length + 1) 0) = false
    rw [Nat.min_zero]
    exact decide_eq_false (Nat.not_lt_zero _)
  | x :: xs, y :: ys, pre, pre2, hl => by
    have e1 : (pre ++ x :: xs).getD pre.length 0 = x := by simp [List.getD_eq_getElem?_getD]
    have e2 : (pre2 ++ y :: ys).getD pre.length 0 = y := by rw [hl]; simp [List.getD_eq_getElem?_getD]
    show Ob.lexAt _ _ (decide (xs.length + 1 < ys.length + 1)) pre.length (min (xs.length + 1) (ys.length + 1)) = if x = y then lexI xs ys else decide (x < y)
    rw [show min (xs.length + 1) (ys.length + 1) = min xs.length ys.length + 1 by omega, Ob.lexAt_succ]
    simp only [e1, e2, decide_eq_true_eq]
    by_cases e : x = y
    · rw [if_pos e, if_pos e]
      have ih := lexI_at xs ys (pre ++ [x]) (pre2 ++ [y]) (by rw [List.length_append, List.length_append, hl]; rfl)
      rw [List.append_assoc, List.append_assoc, List.length_append] at ih
      rw [show decide (xs.length + 1 < ys.length + 1) = decide (xs.length < ys.length) from decide_eq_decide.mpr (by omega)]
      exact ih
    · rw [if_neg e, if_neg e]
theorem lexI_0 (xs ys : List Int) : Ob.lexAt (fun j => decide (xs.getD j 0 = ys.getD j 0)) (fun j => decide (xs.getD j 0 < ys.getD j 0)) (decide (xs.length < ys.length)) 0 (min xs.length ys.length) = lexI xs ys := lexI_at xs ys [] [] rfl
section
variable {prog : Program} {w : World} {A : Around} {E : Value → Shared → Prop} {s : Shared} {Q : Bool → Shared → Prop}
theorem lex_walk {b fin : Bool} {xs ys : List Value} {ns ms : List Int} (i : Nat) (hx : IntsAre xs ns) (hy : IntsAre ys ms) (hf : fin = decide (ns.length < ms.length)) (h : Q (lexI ns ms) s) : PySem.W.KatLex prog w A b fin Q (xs.zip ys) i s := by
  induction hx generalizing ys ms i with
  | nil =>
    cases hy with
    | nil =>
      have e : fin = false := by rw [hf]; rfl
      rw [e]
      exact PySem.W.kat_nil h
    | cons q u hy =>
      have e : fin = true := by rw [hf]; exact decide_eq_true (Nat.succ_pos _)
      rw [e]
      exact PySem.W.kat_nil h
  | @cons p t xs ns hx ih =>
    cases hy with
    | nil =>
      have e : fin = false := by rw [hf]; exact decide_eq_false (Nat.not_lt_zero _)
      rw [e]
      exact PySem.W.kat_nil h
    | @cons q u ys ms hy =>
      have hf' : fin = decide (ns.length < ms.length) := by
        rw [hf]
        exact decide_eq_decide.mpr (by rw [List.length_cons, List.length_cons]; omega)
      replace h : Q (if p = q then lexI ns ms else decide (p < q)) s := h
      show PySem.W.KatLex prog w A b fin Q ((Value.int p t, Value.int q u) :: xs.zip ys) i s
      refine PySem.W.kat_cons (wpAny_eqBool_int ?_)
      by_cases e : p = q
      · rw [if_pos e] at h
        subst e
        rw [beq_self_eq_true]
        refine PySem.W.kat_yes ?_
        exact ih (i + 1) hy hf' h
      · rw [if_neg e] at h
        rw [show (p == q) = false from beq_eq_false_iff_ne.mpr e]
        exact PySem.W.kat_no (TS.oneLt_ints _ h)
end
section
variable {prog : Program} {w : World} {A : Around} {E : Value → Shared → Prop} {s : Shared}
/-- two tuples, by < -/
theorem rc_lt {a b : Addr} {xs ys : Array Value} {ns ms : List Int} (ha : IsTup s.heap a xs) (hb : IsTup s.heap b ys) (i1 : IntsAre xs.toList ns) (i2 : IntsAre ys.toList ms) (hu : A.units < cLine) : Ob.RcOp .Lt A s (.ref a) (.ref b) (lexI ns ms) := by
  have e1 : xs.size = ns.length := by rw [← i1.length, Array.length_toList]
  have e2 : ys.size = ms.length := by rw [← i2.length, Array.length_toList]
  have at1 : ∀ j (h1 : j < xs.size), ∃ t, xs[j] = .int (ns.getD j 0) t := fun j h1 => PyProof.Rows.IntsAre.int_at i1 _ _ (by simp [h1])
  have at2 : ∀ j (h1 : j < ys.size), ∃ t, ys[j] = .int (ms.getD j 0) t := fun j h1 => PyProof.Rows.IntsAre.int_at i2 _ _ (by simp [h1])
  have R := Ob.RcOp.tuples_lt (A := A) (s := s) (e := fun j => decide (ns.getD j 0 = ms.getD j 0)) (r := fun j => decide (ns.getD j 0 < ms.getD j 0)) ha hb hu (fun j h1 h2 => by
    obtain ⟨t, et⟩ := at1 j h1
    obtain ⟨t', et'⟩ := at2 j h2
    rw [et, et']
    have z : (ns.getD j 0 == ms.getD j 0) = decide (ns.getD j 0 = ms.getD j 0) := by
      by_cases q : ns.getD j 0 = ms.getD j 0
      · rw [decide_eq_true q]; exact beq_iff_eq.mpr q
      · rw [decide_eq_false q]; exact beq_eq_false_iff_ne.mpr q
    rw [← z]
    exact SeqAt.EqAt.int_int _ _ _ _) (fun j h1 h2 _ => by
    obtain ⟨t, et⟩ := at1 j h1
    obtain ⟨t', et'⟩ := at2 j h2
    rw [et, et']
    exact Ob.RcOp.lt_int _ _ _ _)
  rw [e1, e2, lexI_0] at R
  exact R
/-- two tuples, as a sort of values of one type asks -/
theorem one_lt {a b : Addr} {xs ys : Array Value} {ns ms : List Int} {Q : Bool → Shared → Prop} (ha : IsTup s.heap a xs) (hb : IsTup s.heap b ys) (i1 : IntsAre xs.toList ns) (i2 : IntsAre ys.toList ms) (hu : A.units < cLine) (h : Q (lexI ns ms) s) (f : Bool) :
    wpAny (model prog w) A (oneLt' f (.ref a) (.ref b)) Q E s := by
  have e1 : xs.size = ns.length := by rw [← i1.length, Array.length_toList]
  have e2 : ys.size = ms.length := by rw [← i2.length, Array.length_toList]
  cases f with
  | false =>
    rw [oneLt'_eq]
    simp only [Bool.false_eq_true, if_false]
    exact wpAny_bind (rc_lt ha hb i1 i2 hu prog w E _ (wpAny_truthy_bool h))
  | true =>
    have at1 : ∀ j (h1 : j < xs.size), ∃ t, xs[j] = .int (ns.getD j 0) t := fun j h1 => PyProof.Rows.IntsAre.int_at i1 _ _ (by simp [h1])
    have at2 : ∀ j (h1 : j < ys.size), ∃ t, ys[j] = .int (ms.getD j 0) t := fun j h1 => PyProof.Rows.IntsAre.int_at i2 _ _ (by simp [h1])
    obtain ⟨⟨cls, dd, data, sl⟩, ho, hc, n, hd⟩ := id ha
    obtain ⟨⟨cls2, dd2, data2, sl2⟩, ho2, hc2, n2, hd2⟩ := id hb
    simp only at hc hd hc2 hd2
    subst hc hd hc2 hd2
    rw [oneLt'_eq]
    simp only [if_true]
    refine wpAny_bind (wpAny_cRoomFor hu ?_)
    refine wpAny_bind (wpAny_callSpecialIfBound?_slot (T := "tuple") ⟨_, ho, rfl⟩ F.slot_tuple_lt (call_meets F.slot_tuple_lt ⟨_, ho, rfl⟩ F.entry_tuple_lt (F.args_tuple_lt_2 _ _)
      (Ob.tuple_ltAt a b xs ys n n2 dd dd2 sl sl2 (fun j => decide (ns.getD j 0 = ms.getD j 0)) (fun j => decide (ns.getD j 0 < ms.getD j 0))) ⟨ho, ho2, fun j h1 h2 => ?_, fun j h1 h2 _ => ?_, ?_⟩))
    · obtain ⟨t, et⟩ := at1 j h1
      obtain ⟨t', et'⟩ := at2 j h2
      rw [et, et']
      have z : (ns.getD j 0 == ms.getD j 0) = decide (ns.getD j 0 = ms.getD j 0) := by
        by_cases q : ns.getD j 0 = ms.getD j 0
        · rw [decide_eq_true q]; exact beq_iff_eq.mpr q
        · rw [decide_eq_false q]; exact beq_eq_false_iff_ne.mpr q
      rw [← z]
      exact SeqAt.EqAt.int_int _ _ _ _
    · obtain ⟨t, et⟩ := at1 j h1
      obtain ⟨t', et'⟩ := at2 j h2
      rw [et, et']
      exact Ob.RcOp.lt_int _ _ _ _
    · rw [e1, e2, lexI_0]
      exact wpAny_truthy_bool h
/-- what is sorted: tuples of integers -/
def AllT (h : Heap) (vs : List Value) : Prop := ∀ v ∈ vs, ∃ ns, TS.TupInts h v ns
theorem AllT.keeps {h h' : Heap} {vs : List Value} (x : AllT h vs) (k : ∀ b o, h.get? b = some o → o.cls = .type "tuple" → h'.get? b = some o) : AllT h' vs := fun v hv =>
  let ⟨ns, t⟩ := x v hv; ⟨ns, t.keeps k⟩
/-- the first items -/
theorem firsts : ∀ (vs : List Value), AllT s.heap vs → ∃ fs : List (Option Value), fs.length = vs.length ∧ (∀ f, some f ∈ fs → ∃ n t, f = Value.int n t) ∧
    (∀ (Q : List (Option Value) → Shared → Prop) (E : Value → Shared → Prop), Q fs s → wpAny (model prog w) A (vs.mapM firstOfTuple') Q E s) ∧
    ((∀ f ∈ fs, f ≠ none) → ∃ gs, fs = gs.map some ∧ PySem.W.KatTups s.heap vs gs)
  | [], _ => by
    refine ⟨[], rfl, ?_, ?_, ?_⟩
    · intro f h
      cases h
    · intro Q E h
      rw [List.mapM_nil]
      exact wpAny_pure h
    · intro _
      exact ⟨[], rfl, PySem.W.KatTups.nil⟩
  | v :: vs, x => by
    obtain ⟨fs, l1, l2, l3, l4⟩ := firsts vs fun u hu => x u (List.mem_cons_of_mem _ hu)
    obtain ⟨ns, ⟨a, xs, rfl, ⟨o, ho, hc, n, hd⟩, i⟩⟩ := x v List.mem_cons_self
    refine ⟨xs[0]? :: fs, by rw [List.length_cons, l1, List.length_cons], fun f hf => ?_, fun Q E h => ?_, fun hn => ?_⟩
    · rcases List.mem_cons.mp hf with e | hf
      · have : f ∈ xs.toList := by
          have e2 : xs.toList[0]? = some f := by simpa using e.symm
          exact List.mem_of_getElem? e2
        exact i.all f this
      · exact l2 f hf
    · rw [List.mapM_cons]
      refine wpAny_bind ?_
      rw [PySem.W.kas_first_eq]
      refine wpAny_bind (PySem.W.Looks.here (show PySem.W.Looks (model prog w) s.heap (typeOf (.ref a)) o.cls from (PySem.W.Looks.ld ho).andThen .now) ?_)
      rw [hc, if_neg (by first | decide | simp)]
      refine wpAny_bind (listItems_at ho hd (wpAny_pure ?_))
      exact wpAny_bind (l3 (fun bs s' => wpAny (model prog w) A (pure (xs[0]? :: bs)) Q E s') E (wpAny_pure h))
    · obtain ⟨gs, e, k⟩ := l4 fun f hf => hn f (List.mem_cons_of_mem _ hf)
      have h0 := hn _ List.mem_cons_self
      cases q : xs[0]? with
      | none => exact absurd q h0
      | some g => exact ⟨g :: gs, by rw [e]; rfl, PySem.W.KatTups.cons ho hc hd q k⟩
/-- all are tuples -/
theorem types : ∀ (vs : List Value), AllT s.heap vs → ∀ Q : List Value → Shared → Prop, Q (vs.map fun _ => Value.type "tuple") s → wpAny (model prog w) A (vs.mapM typeOf) Q E s
  | [], _, Q, h => by rw [List.mapM_nil]; exact wpAny_pure h
  | v :: vs, x, Q, h => by
    obtain ⟨ns, ⟨a, xs, rfl, ⟨o, ho, hc, n, hd⟩, i⟩⟩ := x v List.mem_cons_self
    rw [List.mapM_cons]
    refine wpAny_bind (PySem.W.Looks.here (show PySem.W.Looks (model prog w) s.heap (typeOf (.ref a)) o.cls from (PySem.W.Looks.ld ho).andThen .now) ?_)
    rw [hc]
    exact wpAny_bind (types vs (fun u hu => x u (List.mem_cons_of_mem _ hu)) (fun bs s' => wpAny (model prog w) A (pure (Value.type "tuple" :: bs)) Q E s') (wpAny_pure h))
theorem cmp {vs : List Value} {k : Value → List Int} (κ : SortKind) (hκ : κ = general' ∨ κ = oneType' ∨ ∃ b, κ = tuples' b) (x : ∀ v ∈ vs, TS.TupInts s.heap v (k v)) (hu : A.units < cLine) : SrtO.Cmp prog w A s κ (fun p => p.1 ∈ vs) (SrtO.lt2 fun v u => lexI (k v) (k u)) := by
  intro p q hp hq
  have h1 := x _ hp
  have h2 := x _ hq
  show wpAny (model prog w) A (keyLt' κ p.1 q.1) (fun r s' => s' = s ∧ r = lexI (k p.1) (k q.1)) (fun _ _ => False) s
  obtain ⟨a, xs, e1, ha, i1⟩ := h1
  obtain ⟨b, ys, e2, hb, i2⟩ := h2
  rw [e1, e2]
  rw [e1] at i1
  rw [e2] at i2
  rcases hκ with rfl | rfl | ⟨c, rfl⟩
  · exact one_lt (Q := fun r s' => s' = s ∧ r = lexI (k (.ref a)) (k (.ref b))) ha hb i1 i2 hu ⟨rfl, rfl⟩ false
  · exact one_lt (Q := fun r s' => s' = s ∧ r = lexI (k (.ref a)) (k (.ref b))) ha hb i1 i2 hu ⟨rfl, rfl⟩ true
  · obtain ⟨o, ho, hc, n, hd⟩ := ha
    obtain ⟨o', ho', hc', n', hd'⟩ := hb
    refine PySem.W.kat_lt ho hd ho' hd' ?_
    refine lex_walk 0 i1 i2 ?_ ⟨rfl, rfl⟩
    rw [← i1.length, ← i2.length, Array.length_toList, Array.length_toList]
theorem sortable {a : Addr} {vs : List Value} {k : Value → List Int} (h2 : 2 ≤ vs.length) (x : ∀ v ∈ vs, TS.TupInts s.heap v (k v)) (ha : ∀ o, s.heap.get? a = some o → o.cls ≠ .type "tuple") (hu : A.units < cLine) : SrtO.SortableO prog w A s a vs fun v u => lexI (k v) (k u) := by
  intro h' keep
  have x' : ∀ v ∈ vs, TS.TupInts h' v (k v) := fun v hv => (x v hv).keeps fun b o e c => keep b o (fun z => by subst z; exact ha o e c) e
  have al : AllT h' vs := fun v hv => ⟨_, x' v hv⟩
  obtain ⟨fs, l1, l2, l3, l4⟩ := firsts (prog := prog) (w := w) (A := A) (s := { s with heap := h' }) vs al
  by_cases hn : ∀ f ∈ fs, f ≠ none
  · obtain ⟨gs, e, kt⟩ := l4 hn
    refine ⟨tuples' (Value.type "int" != Value.type "tuple"), fun Q E hq => ?_, cmp _ (.inr (.inr ⟨_, rfl⟩)) x' hu⟩
    refine PySem.W.kat_kind (T := Value.type "int") kt ?_ (fun f hf => ?_) rfl hq
    · have : gs.length = fs.length := by rw [e, List.length_map]
      omega
    · obtain ⟨n, t, rfl⟩ := l2 f (by rw [e]; exact List.mem_map.mpr ⟨f, hf, rfl⟩)
      exact PySem.W.Looks.of_pure rfl
  · have hall : (fs.toArray.all fun x => x.isSome) = false := by
      cases q : fs.toArray.all fun x => x.isSome with
      | false => rfl
      | true =>
        refine absurd (fun f hf => ?_) hn
        have q2 : fs.all (fun x => x.isSome) = true := by simpa using q
        have := List.all_eq_true.mp q2 f hf
        intro z
        rw [z] at this
        cases this
    have kk : ∀ (c : Bool), ((fs.toArray[0]?.bind id).isSome = c) → ∀ (Q : SortKind → Shared → Prop) (E : Value → Shared → Prop), Q (if c = true then general' else oneType') { s with heap := h' } → wpAny (model prog w) A (keyKind' vs.toArray) Q E { s with heap := h' } := by
      intro c hc Q E hq
      rw [keyKind'_eq, List.mapM_toArray, map_eq_pure_bind]
      refine wpAny_bind (wpAny_bind (l3 _ E (wpAny_pure ?_)))
      rw [if_neg (by rw [hall]; exact Bool.false_ne_true)]
      cases c with
      | true =>
        rw [if_pos hc]
        exact wpAny_pure hq
      | false =>
        rw [if_neg (by rw [hc]; exact Bool.false_ne_true)]
        rw [oneTypeOnly'_eq, List.mapM_toArray, map_eq_pure_bind]
        refine wpAny_bind (wpAny_bind (wpAny_bind (types vs al _ (wpAny_pure ?_))))
        have hall2 : ((List.map (fun _ => Value.type "tuple") vs).toArray.all fun x => x == Value.type "tuple") = true := by
          simp only [List.all_toArray, List.all_map, List.all_eq_true]
          intro _ _
          rfl
        have h0 : (List.map (fun _ => Value.type "tuple") vs).toArray[0]? = some (Value.type "tuple") := by
          cases vs with
          | nil => exact absurd h2 (by show ¬ 2 ≤ 0; decide)
          | cons _ _ => simp
        rw [h0]
        simp only [hall2, if_true]
        exact wpAny_pure (wpAny_pure hq)
    cases hc : (fs.toArray[0]?.bind id).isSome with
    | true => exact ⟨general', kk true hc, cmp _ (.inl rfl) x' hu⟩
    | false => exact ⟨oneType', kk false hc, cmp _ (.inr (.inl rfl)) x' hu⟩
end
end TU
namespace L2
open PySem PySem.Spec PyProof.Rows
end L2
namespace CK
open PySem PySem.Spec PyProof.Rows L2 VG FR HD
/-- ascending rows -/
def LexAsc (l : List (List Int)) : Prop := l.Pairwise fun a b => TU.lexI a b = true
theorem LexAsc.first {a b : List Int} {l m : List (List Int)} (ha : LexAsc (a :: l)) (hb : LexAsc (b :: m)) (h : ∀ c, c ∈ a :: l ↔ c ∈ b :: m) : a = b := by
  have ha' := (List.pairwise_cons.mp ha).1
  have hb' := (List.pairwise_cons.mp hb).1
  rcases List.mem_cons.mp ((h a).mp List.mem_cons_self) with e | m1
  · exact e
  · rcases List.mem_cons.mp ((h b).mpr List.mem_cons_self) with e | m2
    · exact e.symm
    · have q := TU.lexI_asym _ _ (hb' a m1)
      rw [ha' b m2] at q
      cases q
end CK
namespace VG
open PySem PySem.Spec PyProof.Rows L2
/-- the keys of some texts -/
def inS (ks : List Str) : Key → Bool := fun k => decide (∃ x ∈ ks, k = .inr x)
end VG
namespace PyProof.Rows
open PySem
end PyProof.Rows
namespace L2
open PySem PySem.Spec PyProof.Rows
end L2
namespace CK
open PySem PySem.Spec PyProof.Rows L2 VG FR HD
def strD : PyData → Str
  | .str z => z
  | _ => Str.empty
def strsD : PyData → List Str
  | .tuple ds => ds.map strD
  | _ => []
def renB (n : Nat) (d : PyData) : Bool := tupD n d && namesD d && decide (strsD d).Nodup
end CK
namespace CK
open PySem PySem.Spec PyProof.Rows L2 VG FR HD
/-- found classes and kinds' numbers while they grow: H is the heap of before -/
def FndW (H H' : Hp) (F N : Addr) (fs : List Addr) (bs : List (List Int)) (ns : List V) : Prop := Same H H' ∧ H' F = some (.lst (fs.map V.ref)) ∧ Blk H' fs bs ∧ H' N = some (.lst ns) ∧ fs.Nodup ∧ ∀ t ∈ fs, t ≠ F ∧ t ≠ N ∧ H t = none
theorem FndW.same {H H1 H2 : Hp} {F N : Addr} {fs : List Addr} {bs : List (List Int)} {ns : List V} (h : FndW H H1 F N fs bs ns) (s : Same H1 H2) : FndW H H2 F N fs bs ns :=
  ⟨h.1.trans s, s _ _ h.2.1, Blk.imp (fun t _ o k => s t o k) h.2.2.1, s _ _ h.2.2.2.1, h.2.2.2.2⟩
theorem FndW.add {H H6 : Hp} {F N T : Addr} {fs : List Addr} {bs : List (List Int)} {ns : List V} (h : FndW H H6 F N fs bs ns) (nF : H F = none) (nFN : F ≠ N) (nT : H6 T = none) :
    FndW H (L2.upd (L2.upd H6 T (.lst [])) F (.lst (fs.map V.ref ++ [.ref T]))) F N (fs ++ [T]) (bs ++ [[]]) ns := by
  obtain ⟨sm, eF, bF, eN, nd, av⟩ := h
  have sT := same_upd (o := .lst []) nT
  have nTF : T ≠ F := fun z => by subst z; rw [eF] at nT; cases nT
  have nTN : T ≠ N := fun z => by subst z; rw [eN] at nT; cases nT
  have HT : H T = none := sm.free nT
  have inF : ∀ t ∈ fs, H6 t ≠ none := fun t ht => by obtain ⟨b, _, k⟩ := bF.at_ ht; rw [k]; exact Option.some_ne_none _
  refine ⟨HD.same_put (sm.trans sT) nF, by rw [upd_same, List.map_append]; rfl, ?_, ?_, ?_, fun t ht => ?_⟩
  · exact Blk.snoc (by rw [upd_ne nTF, upd_same]; rfl) (Blk.imp (fun t ht o k => by rw [upd_ne (av t ht).1]; exact sT _ _ k) bF)
  · rw [upd_ne nFN.symm]
    exact sT _ _ eN
  · exact List.nodup_append.mpr ⟨nd, by simp, fun x hx y hy e => by
      have := List.mem_singleton.mp hy
      subst this
      subst e
      exact inF x hx nT⟩
  · rcases List.mem_append.mp ht with z | z
    · exact av t z
    · rw [List.mem_singleton.mp z]
      exact ⟨nTF, nTN, HT⟩
theorem FndW.put {H H6 : Hp} {F N t : Addr} {fs : List Addr} {bs : List (List Int)} {ns : List V} {j : Nat} {b : List Int} (h : FndW H H6 F N fs bs ns) (et : fs[j]? = some t) : FndW H (L2.upd H6 t (.lst (b.map V.int))) F N fs (bs.set j b) ns := by
  obtain ⟨sm, eF, bF, eN, nd, av⟩ := h
  have a := av t (List.mem_of_getElem? et)
  exact ⟨HD.same_put sm a.2.2, by rw [upd_ne a.1.symm]; exact eF, Blk.set nd et bF, by rw [upd_ne a.2.1.symm]; exact eN, nd, av⟩
theorem FndW.num {H H6 : Hp} {F N : Addr} {fs : List Addr} {bs : List (List Int)} {ns : List V} {v : V} (h : FndW H H6 F N fs bs ns) (nN : H N = none) (nFN : F ≠ N) : FndW H (L2.upd H6 N (.lst (ns ++ [v]))) F N fs bs (ns ++ [v]) := by
  obtain ⟨sm, eF, bF, eN, nd, av⟩ := h
  exact ⟨HD.same_put sm nN, by rw [upd_ne nFN]; exact eF, Blk.imp (fun t ht o k => by rw [upd_ne (av t ht).2.1]; exact k) bF, upd_same, nd, av⟩
end CK
namespace VG
open PySem PySem.Spec PyProof.Rows L2
end VG
namespace CK
open PySem PySem.Spec PyProof.Rows L2 VG FR HD
abbrev cABC : Str := "abcdefghijklmnopqrstuvwxyz"
theorem ixN_nat {n j : Nat} (h : j < n) : ixN n (j : Int) = some j := by
  unfold ixN
  rw [if_pos (by omega), if_pos (by omega), Int.toNat_natCast]
def nmB (z : Str) : Bool := decide (1 ≤ z.cps.size) && decide (z.cps.size ≤ 6) && z.cps.toList.all fun c => decide (97 ≤ c ∧ c ≤ 122)
theorem ok_of_B {z : Str} (h : nmB z = true) : NameOk z := by
  unfold nmB at h
  rw [Bool.and_eq_true, Bool.and_eq_true] at h
  exact ⟨of_decide_eq_true h.1.1, of_decide_eq_true h.1.2, fun c hc => of_decide_eq_true (List.all_eq_true.mp h.2 c hc)⟩
end CK
namespace CK
open PySem PySem.Spec PyProof.Rows L2 VG FR HD
theorem Tots.set {K : PySem.W.Frag} {H : Hp} {t : Addr} {c : List Int} (ht : SqT K H t (c.map V.int)) : ∀ {xs : List V} {ts : List (List Int)} (i : Nat), Tots K H xs ts → Tots K H (xs.set i (.ref t)) (ts.set i c)
  | [], [], _, _ => trivial
  | _ :: _, _ :: _, 0, h => ⟨⟨t, rfl, ht⟩, h.2⟩
  | _ :: xs, _ :: ts, i + 1, h => ⟨h.1, Tots.set ht (xs := xs) (ts := ts) i h.2⟩
/-- rows that are drawn: R lists them -/
def RowsW (p q : Addr) (G H : Hp) (R : Addr) (rs : List Addr) (bs : List (List Int)) : Prop := On p q G H ∧ H R = some (.lst (rs.map V.ref)) ∧ Blk H rs bs ∧ ∀ t ∈ rs, t ≠ p ∧ t ≠ q ∧ t ≠ R
theorem RowsW.draw {p q : Addr} {G H H' : Hp} {R : Addr} {rs : List Addr} {bs : List (List Int)} (h : RowsW p q G H R rs bs) (fR : R ≠ p ∧ R ≠ q) (hd : Hd p q H') (k : Keep p q H H') : RowsW p q G H' R rs bs :=
  ⟨h.1.draw hd k, k R _ fR.1 fR.2 h.2.1, Blk.imp (fun t ht o e => k t o (h.2.2.2 t ht).1 (h.2.2.2 t ht).2.1 e) h.2.2.1, h.2.2.2⟩
theorem RowsW.same {p q : Addr} {G H H' : Hp} {R : Addr} {rs : List Addr} {bs : List (List Int)} (h : RowsW p q G H R rs bs) (s : Same H H') : RowsW p q G H' R rs bs :=
  ⟨h.1.same s, s _ _ h.2.1, Blk.imp (fun t _ o e => s t o e) h.2.2.1, h.2.2.2⟩
theorem RowsW.put {p q : Addr} {G H : Hp} {R D : Addr} {o : HO} {rs : List Addr} {bs : List (List Int)} (h : RowsW p q G H R rs bs) (f : D ≠ p ∧ D ≠ q ∧ G D = none) (nR : R ≠ D) (nD : ∀ t ∈ rs, t ≠ D) : RowsW p q G (L2.upd H D o) R rs bs :=
  ⟨h.1.put f, by rw [upd_ne nR]; exact h.2.1, Blk.imp (fun t ht o e => by rw [upd_ne (nD t ht)]; exact e) h.2.2.1, h.2.2.2⟩
/-- one more row -/
theorem RowsW.add {p q : Addr} {G H : Hp} {R r : Addr} {rs : List Addr} {bs : List (List Int)} {b : List Int} (h : RowsW p q G H R rs bs) (fR : R ≠ p ∧ R ≠ q ∧ G R = none) (kr : H r = some (.lst (b.map V.int))) (nr : r ≠ p ∧ r ≠ q ∧ r ≠ R) : RowsW p q G (L2.upd H R (.lst (rs.map V.ref ++ [.ref r]))) R (rs ++ [r]) (bs ++ [b]) := by
  refine ⟨h.1.put fR, by rw [upd_same, List.map_append]; rfl, Blk.snoc (by rw [upd_ne nr.2.2]; exact kr) (Blk.imp (fun t ht o e => by rw [upd_ne (h.2.2.2 t ht).2.2]; exact e) h.2.2.1), fun t ht => ?_⟩
  rcases List.mem_append.mp ht with z | z
  · exact h.2.2.2 t z
  · rw [List.mem_singleton.mp z]
    exact nr
end CK
namespace CK
open PySem PySem.Spec PyProof.Rows L2 VG FR HD
end CK
namespace CK
open PySem PySem.Spec PyProof.Rows L2 VG FR HD
end CK
namespace CK
open PySem PySem.Spec PyProof.Rows L2 VG FR HD
end CK
namespace CK
open PySem PySem.Spec PyProof.Rows L2 VG FR HD
theorem extN_at {H H1 : Hp} (e : LamX.ExtN H H1) {b : Addr} {xs : List V} (h : H b = some (.lst xs)) : H1 b = some (.lst xs) := e b _ h fun _ z => by cases z
theorem tabs_put {T : List (Addr × Str)} {H : Hp} {D : Addr} {xs : List V} {o : HO} (t : LamX.Tabs T H) (h : H D = some (.lst xs)) : LamX.Tabs T (L2.upd H D o) := fun p hp => by
  obtain ⟨ps, h1, h2, h3⟩ := t p hp
  refine ⟨ps, ?_, h2, fun pos cv hc => ?_⟩
  · rw [upd_ne (fun z => by rw [z, h] at h1; cases h1)]
    exact h1
  · obtain ⟨c, e1, e2⟩ := h3 pos cv hc
    refine ⟨c, e1, ?_⟩
    rw [upd_ne (fun z => by rw [z, h] at e2; cases e2)]
    exact e2
/-- what once becomes -/
def OnceOf (L : List (List Int)) (os : List (List Int)) : Prop := LexAsc os ∧ ∀ c, c ∈ os ↔ c ∈ L ∧ c ≠ []
theorem OnceOf.add {L os : List (List Int)} {c : List Int} (h : OnceOf L os) (up : ∀ x ∈ L, TU.lexI c x = false) (n : c ≠ []) (no : c ∉ os) : OnceOf (L ++ [c]) (os ++ [c]) := by
  refine ⟨List.pairwise_append.mpr ⟨h.1, List.pairwise_singleton _ _, fun a ha b hb => ?_⟩, fun x => ?_⟩
  · have := List.mem_singleton.mp hb
    subst this
    cases q : TU.lexI a b with
    | true => rfl
    | false => exact absurd ((TU.lexI_total a b q (up a ((h.2 a).mp ha).1)) ▸ ha) no
  · rw [List.mem_append, List.mem_append, h.2 x]
    constructor
    · rintro (⟨a, b⟩ | a)
      · exact ⟨.inl a, b⟩
      · exact ⟨.inr a, by rw [List.mem_singleton.mp a]; exact n⟩
    · rintro ⟨a | a, b⟩
      · exact .inl ⟨a, b⟩
      · exact .inr a
end CK
namespace CK
open PySem PySem.Spec PyProof.Rows L2 VG FR HD
noncomputable def GB (p q : Addr) (H : Hp) : Hp := offT (frz p q H)
theorem gb_at {p q b : Addr} {H : Hp} {o : HO} (h : H b = some o) (n : b ≠ p ∧ b ≠ q) (nt : ∀ ps, o ≠ .tbl ps) : GB p q H b = some o := by
  unfold GB offT
  rw [frz_at h n]
  cases o <;> first | rfl | exact absurd rfl (nt _)
theorem gb_same (p q : Addr) (H : Hp) : Same (GB p q H) H := (offT_same _).trans frz_le
theorem gb_cases {p q b : Addr} {H : Hp} {o : HO} (h : GB p q H b = some o) : b ≠ p ∧ b ≠ q ∧ H b = some o ∧ ∀ ps, o ≠ .tbl ps := by
  have h1 := offT_same _ _ _ h
  have h2 := frz_cases h1
  exact ⟨h2.1, h2.2.1, h2.2.2, fun ps z => offT_no _ b ps (by rw [← z]; exact h)⟩
theorem gb_le {p q : Addr} {G H : Hp} (nG : NoTbl G) (gp : G p = none) (gq : G q = none) (s : Same G H) : Same G (GB p q H) := fun b o h =>
  gb_at (s _ _ h) ⟨(fun z => by rw [z, gp] at h; cases h), (fun z => by rw [z, gq] at h; cases h)⟩ fun ps z => nG b ps (by rw [← z]; exact h)
theorem seqT_gb {K : PySem.W.Frag} {p q t : Addr} {H : Hp} {xs : List V} (hd : Hd p q H) (h : SqT K H t xs) : SqT K (GB p q H) t xs := by
  have h1 : SqT K (frz p q H) t xs := seqTK hd keep_frz h
  have key : ∀ (H : Hp), SqT K H t xs → SqT K (offT H) t xs := fun H h => by
    rcases h with h | h
    · rcases h with h | ⟨ob, h⟩
      · exact .inl (.inl (by unfold offT; rw [h]))
      · exact .inl (.inr ⟨ob, by unfold offT; rw [h]⟩)
    · exact .inr h
  exact key _ h1
def OnT (T : List (Addr × Str)) (p q : Addr) (G H : Hp) : Prop := On p q G H ∧ LamX.Tabs T H ∧ NoTbl G
section
variable {T : List (Addr × Str)} {p q : Addr} {G H H' : Hp}
theorem OnT.start (h : Hd p q H) (t : LamX.Tabs T H) : OnT T p q (GB p q H) H := ⟨⟨h, gb_same p q H, by
  cases e : GB p q H p with
  | none => rfl
  | some o => exact absurd rfl (gb_cases e).1, by
  cases e : GB p q H q with
  | none => rfl
  | some o => exact absurd rfl (gb_cases e).2.1⟩, t, offT_no _⟩
theorem OnT.hd (h : OnT T p q G H) : Hd p q H := h.1.hd
theorem OnT.le (h : OnT T p q G H) : Same G H := h.1.le
theorem OnT.base (h : OnT T p q G H) : OnT T p q (GB p q H) H ∧ Same G (GB p q H) := ⟨.start h.hd h.2.1, gb_le h.2.2 h.1.2.2.1 h.1.2.2.2 h.le⟩
theorem OnT.drop {G0 : Hp} (h : OnT T p q G H) (s : Same G0 G) (n : NoTbl G0) : OnT T p q G0 H := ⟨h.1.drop s, h.2.1, n⟩
theorem OnT.same (h : OnT T p q G H) (s : Same H H') : OnT T p q G H' := ⟨h.1.same s, tabs_same h.2.1 s, h.2.2⟩
theorem OnT.new (h : OnT T p q G H) {n : Addr} {o : HO} (hn : H n = none) : OnT T p q G (L2.upd H n o) := h.same (same_upd hn)
theorem OnT.draw (h : OnT T p q G H) (hd : Hd p q H') (k : Keep p q H H') : OnT T p q G H' := by
  refine ⟨h.1.draw hd k, fun x hx => ?_, h.2.2⟩
  obtain ⟨ps, h1, h2, h3⟩ := h.2.1 x hx
  obtain ⟨cs, st, e1, e2, _⟩ := h.hd
  refine ⟨ps, k _ _ (fun z => by rw [z, e1] at h1; cases h1) (fun z => by rw [z, e2] at h1; cases h1) h1, h2, fun pos cv hc => ?_⟩
  obtain ⟨c, e3, e4⟩ := h3 pos cv hc
  exact ⟨c, e3, k _ _ (fun z => by rw [z, e1] at e4; cases e4) (fun z => by rw [z, e2] at e4; cases e4) e4⟩
theorem OnT.lam (h : OnT T p q G H) (e : LamX.ExtN H H') (t : LamX.Tabs T H') : OnT T p q G H' := by
  obtain ⟨cs, st, e1, e2, r⟩ := h.hd
  exact ⟨⟨⟨cs, st, extN_at e e1, extN_at e e2, r⟩, h.2.2.over h.le e, h.1.2.2⟩, t, h.2.2⟩
theorem OnT.put (h : OnT T p q G H) {D : Addr} {xs : List V} {o : HO} (hD : H D = some (.lst xs)) (f : D ≠ p ∧ D ≠ q ∧ G D = none) : OnT T p q G (L2.upd H D o) := ⟨h.1.put f, tabs_put h.2.1 hD, h.2.2⟩
theorem OnT.free (h : OnT T p q G H) {n : Addr} (hn : H n = none) : n ≠ p ∧ n ≠ q ∧ G n = none := h.1.free hn
end
/-- a value that is no lot below n -/
def Wr (K : PySem.W.Frag) (n : Int) (H : Hp) (v : V) : Prop := ∃ d, Ov K H v d ∧ lotD n d = false ∧ shortD d
theorem Wr.mono {K : PySem.W.Frag} {n : Int} {H H' : Hp} {v : V} (s : Same H H') (h : Wr K n H v) : Wr K n H' v := let ⟨d, a, b, c⟩ := h; ⟨d, a.mono s, b, c⟩
end CK
namespace CK
open PySem PySem.Spec PyProof.Rows L2 VG FR HD
/-- some of the first i numbers -/
def Somes (i : Nat) (cs : List Int) : Prop := cs.Pairwise (· < ·) ∧ cs.length ≤ i ∧ ∀ x ∈ cs, 0 ≤ x ∧ x < (i : Int)
theorem Somes.nil : Somes 0 [] := ⟨List.Pairwise.nil, Nat.le_refl _, fun x h => by cases h⟩
theorem Somes.add {i : Nat} {cs : List Int} (h : Somes i cs) : Somes (i + 1) (cs ++ [(i : Int)]) := by
  refine ⟨List.pairwise_append.mpr ⟨h.1, List.pairwise_singleton _ _, fun a ha b hb => ?_⟩, by rw [List.length_append]; have := h.2.1; show cs.length + 1 ≤ i + 1; omega, fun x hx => ?_⟩
  · have := List.mem_singleton.mp hb
    subst this
    exact (h.2.2 a ha).2
  · rcases List.mem_append.mp hx with z | z
    · have := h.2.2 x z
      omega
    · have := List.mem_singleton.mp z
      omega
end CK
namespace CK
open PySem PySem.Spec PyProof.Rows L2 VG FR HD
theorem cut_init (ys : List V) (x : V) : cutV (ys ++ [x]) none (some (-1)) = ys := by
  unfold cutV
  have e : HT.sIx (ys ++ [x]).length (ys ++ [x]).length (some (-1)) = ys.length := by
    show (if (-1 : Int) < 0 then ((-1 : Int) + ((ys ++ [x]).length : Int)).toNat else min (-1 : Int).toNat (ys ++ [x]).length) = ys.length
    rw [if_pos (by decide), List.length_append]
    show ((-1 : Int) + ((ys.length + 1 : Nat) : Int)).toNat = ys.length
    omega
  rw [e, HT.sIx_none]
  show (List.drop 0 (ys ++ [x])).take (ys.length - 0) = ys
  rw [List.drop_zero, Nat.sub_zero, List.take_left]
/-- a value that is no tuple of n unlike names -/
def Wn (K : PySem.W.Frag) (n : Nat) (H : Hp) (v : V) : Prop := ∃ d, Ov K H v d ∧ renB n d = false ∧ shortD d ∧ ∀ ds, d = .tuple ds → ∀ x ∈ ds, shortS x
theorem Wn.mono {K : PySem.W.Frag} {n : Nat} {H H' : Hp} {v : V} (s : Same H H') (h : Wn K n H v) : Wn K n H' v := let ⟨d, a, b⟩ := h; ⟨d, a.mono s, b⟩
end CK
namespace CK
open PySem PySem.Spec PyProof.Rows L2 VG FR HD
def litI : List Int → TA
  | [] => tNil
  | c :: cs => tCons (tC (.int c)) (litI cs)
def litS : List Str → TA
  | [] => tNil
  | c :: cs => tCons (tC (.str c)) (litS cs)
def litT : List (List Int) → TA
  | [] => tNil
  | c :: cs => tCons (tTup (litI c)) (litT cs)
theorem litI_at : ∀ (cs : List Int) (σ : L2.St) (H : Hp) (R : List V → Hp → Prop), R (cs.map V.int) H → litI cs σ H R
  | [], _, _, _, h => h
  | c :: cs, σ, H, R, h => litI_at cs σ H (fun xs H2 => R (.int c :: xs) H2) h
theorem litS_at : ∀ (cs : List Str) (σ : L2.St) (H : Hp) (R : List V → Hp → Prop), R (cs.map V.str) H → litS cs σ H R
  | [], _, _, _, h => h
  | c :: cs, σ, H, R, h => litS_at cs σ H (fun xs H2 => R (.str c :: xs) H2) h
theorem lit_ints {cs : List Int} {σ : L2.St} {H : Hp} {Q : VK} (l : cs.length ≤ 1000) (h : ∀ H' z, Same H H' → H' z = some (.tup (cs.map V.int)) → Q (.ref z) H') : tTup (litI cs) σ H Q :=
  litI_at cs σ H _ ⟨by rw [List.length_map]; have : sizeLine = 16777216 := by decide
                       omega, fun p np => h _ p (same_upd np) upd_same⟩
theorem lit_strs {cs : List Str} {σ : L2.St} {H : Hp} {Q : VK} (l : cs.length ≤ 1000) (h : ∀ H' z, Same H H' → H' z = some (.tup (cs.map V.str)) → Q (.ref z) H') : tTup (litS cs) σ H Q :=
  litS_at cs σ H _ ⟨by rw [List.length_map]; have : sizeLine = 16777216 := by decide
                       omega, fun p np => h _ p (same_upd np) upd_same⟩
theorem litT_at {K : PySem.W.Frag} : ∀ (cs : List (List Int)) (σ : L2.St) (H : Hp) (R : List V → Hp → Prop), (∀ c ∈ cs, c.length ≤ 1000) → (∀ H' xs, Same H H' → Tots K H' xs cs → R xs H') → litT cs σ H R
  | [], _, H, _, _, h => h H [] (Same.refl _) trivial
  | c :: cs, σ, H, R, l, h => lit_ints (Q := fun x H1 => litT cs σ H1 fun xs H2 => R (x :: xs) H2) (l c List.mem_cons_self) fun H1 z s1 kz => litT_at (K := K) cs σ H1 (fun xs H2 => R (.ref z :: xs) H2) (fun d hd => l d (List.mem_cons_of_mem _ hd)) fun H2 xs s2 hX => h H2 (.ref z :: xs) (s1.trans s2) ⟨⟨z, rfl, sqt (s2 _ _ kz)⟩, hX⟩
theorem lit_tots {K : PySem.W.Frag} {cs : List (List Int)} {σ : L2.St} {H : Hp} {Q : VK} (l : cs.length ≤ 1000 ∧ ∀ c ∈ cs, c.length ≤ 1000) (h : ∀ H' z xs, Same H H' → H' z = some (.tup xs) → Tots K H' xs cs → Q (.ref z) H') : tTup (litT cs) σ H Q :=
  litT_at (K := K) cs σ H _ l.2 fun H1 xs s1 hX => ⟨by rw [hX.len]; have : sizeLine = 16777216 := by decide
                                                       have := l.1; omega, fun p np => h _ p xs (s1.trans (same_upd np)) upd_same (hX.mono (same_upd np))⟩
def tE : List (List Int) := [[0, 2, 4], [], [2, 4], [3], [0, 2, 4]]
theorem asc_dec : ∀ ks : List Str, (ks.zip (ks.drop 1)).all (fun p => decide (p.1.cps.toList < p.2.cps.toList)) = true → AscS ks := by
  intro ks h i a b ha hb
  have hz : (ks.zip (ks.drop 1))[i]? = some (a, b) := by
    rw [List.getElem?_zip_eq_some]
    exact ⟨ha, by rw [List.getElem?_drop, Nat.add_comm]; exact hb⟩
  exact of_decide_eq_true (List.all_eq_true.mp h _ (List.mem_of_getElem? hz))
theorem kinds_dec {ks : List Str} (h1 : 1 ≤ ks.length ∧ ks.length ≤ 12) (h2 : ks.all nmB = true) (h3 : (ks.zip (ks.drop 1)).all (fun p => decide (p.1.cps.toList < p.2.cps.toList)) = true) : KindsOk ks :=
  ⟨h1.1, h1.2, fun z hz => ok_of_B (List.all_eq_true.mp h2 z hz), asc_dec ks h3⟩
def lotB (n : Int) (c : List Int) : Bool := decide (c.length ≤ 1000) && c.all (fun x => decide (0 ≤ x ∧ x < n)) && ascB c
theorem lot_dec {n : Int} {c : List Int} (h : lotB n c = true) : LotOk n c := by
  unfold lotB at h
  rw [Bool.and_eq_true, Bool.and_eq_true] at h
  exact ⟨of_decide_eq_true h.1.1, fun x hx => of_decide_eq_true (List.all_eq_true.mp h.1.2 x hx), asc_of h.2⟩
def kG : List Str := ["a"]
/-- the law -/
def spLawT (K : PySem.W.Frag) (T : List (Addr × Str)) : Sp := fun vs H Q _ => ∃ (a : Addr) (ns : List Int), vs = [.ref a] ∧ SqL K H a (ns.map V.int) ∧ ns.length ≤ 63 ∧ LamX.Tabs T H ∧ ∀ H', Q (.bl true) H'
end CK
namespace CK
open PySem PySem.Spec PyProof.Rows L2 VG FR HD
theorem tots_gb {K : PySem.W.Frag} {p q : Addr} {H : Hp} (hd : Hd p q H) : ∀ {xs : List V} {ts : List (List Int)}, Tots K H xs ts → Tots K (GB p q H) xs ts
  | [], [], h => h
  | [], _ :: _, h => h.elim
  | _ :: _, [], h => h.elim
  | _ :: _, _ :: _, ⟨⟨y, e, hy⟩, r⟩ => ⟨⟨y, e, seqT_gb hd hy⟩, tots_gb hd r⟩
theorem tab_gb {K : PySem.W.Frag} {C p q x : Addr} {H : Hp} {ks : List Str} {ts : List (List Int)} (hd : Hd p q H) (h : Tab K C H x ks ts) : Tab K C (GB p q H) x ks ts := by
  obtain ⟨dx, k, t, xs, o1, o2, o3, o4⟩ := h
  exact ⟨dx, k, t, xs, gb_at o1 (hd.neOf o1 (fun ys z => by cases z)) (fun _ z => by cases z), seqT_gb hd o2, seqT_gb hd o3, tots_gb hd o4⟩
theorem at_asg {te : TE} {g : TG} {u : TS} {D : Ends} {σ : L2.St} {H : Hp} (h : te σ H fun x H1 => g x σ H1 (u D)) : tSeq (tAsg te g) u D σ H := h
theorem at_make {cls : Addr} {sp : Sp} {ys : List V} {E : XK} {ta : TA} {σ : L2.St} {H : Hp} {Q : VK} (h : ta σ H fun xs H1 => tMake cls sp ys E (fun _ H Q => Q xs H) σ H1 Q) : tMake cls sp ys E ta σ H Q := h
theorem at_cons {ta : TE} {tr : TA} {σ : L2.St} {H : Hp} {R : List V → Hp → Prop} (h : ta σ H fun x H1 => tr σ H1 fun xs H2 => R (x :: xs) H2) : tCons ta tr σ H R := h
end CK
namespace M9
open M2 FR CK
def DL : Int := 21000000 * 999983
theorem DL_pos : 0 < DL := by decide
theorem DL_ne : DL ≠ 0 := by decide
def U (a : Int) : Int × Int := mk a DL
theorem U_low (a : Int) : Low (U a).1 (U a).2 := mk_low DL_ne
theorem U_eq (a : Int) : (U a).1 * DL = a * (U a).2 := mk_eq DL_ne
theorem U_of {p : Int × Int} {a : Int} (h : Low p.1 p.2) (e : p.1 * DL = a * p.2) : p = U a := M14.eqv_mk (b := (a, DL)) h DL_pos e
theorem add_U (a b : Int) : add (U a) (U b) = U (a + b) := by
  have la := U_low a
  have lb := U_low b
  obtain ⟨l, e⟩ := add_ok la lb
  refine U_of l ?_
  have ea := U_eq a
  have eb := U_eq b
  have pa := la.1
  have pb := lb.1
  refine Int.eq_of_mul_eq_mul_right (a := (U a).2 * (U b).2) (Int.ne_of_gt (Int.mul_pos pa pb)) ?_
  generalize (U a).1 = x at *
  generalize (U a).2 = y at *
  generalize (U b).1 = z at *
  generalize (U b).2 = t at *
  generalize (add (x, y) (z, t)).1 = m at *
  generalize (add (x, y) (z, t)).2 = n at *
  generalize DL = d at *
  grind
theorem low_neg {p : Int × Int} (h : Low p.1 p.2) : Low (-p.1) p.2 := ⟨h.1, by
  have := h.2
  unfold g at this ⊢
  rw [Int.natAbs_neg]
  exact this⟩
theorem neg_U (a : Int) : neg (U a) = U (-a) := by
  refine U_of (p := neg (U a)) (low_neg (U_low a)) ?_
  have e := U_eq a
  show -(U a).1 * DL = -a * (U a).2
  rw [Int.neg_mul, Int.neg_mul, e]
theorem U_bt {a : Int} {n : Nat} (h : a.natAbs < 2 ^ n) (hn : 45 ≤ n) : Bt n (U a) := by
  have s := mk_size (a := a) (b := DL) DL_ne
  refine ⟨Nat.lt_of_le_of_lt s.1 h, Nat.lt_of_le_of_lt s.2 (Nat.lt_of_lt_of_le ?_ (Nat.pow_le_pow_right (by decide) hn))⟩
  decide
def un (p : Int × Int) : Int := p.1 * (DL / p.2)
theorem U_un {p : Int × Int} (h : Low p.1 p.2) (d : p.2 ∣ DL) : U (un p) = p := by
  refine (U_of h ?_).symm
  obtain ⟨c, hc⟩ := d
  have pp := h.1
  unfold un
  rw [hc, Int.mul_ediv_cancel_left _ (by omega)]
  grind
theorem U_whole (n : Int) : U (n * DL) = (n, 1) := (U_of (p := (n, 1)) ⟨(by show (0 : Int) < 1; decide), by
  show Nat.gcd n.natAbs 1 = 1
  exact Nat.gcd_one_right _⟩ (by
  show n * DL = n * DL * 1
  rw [Int.mul_one])).symm
theorem U_zero : U 0 = (0, 1) := by
  have := U_whole 0
  rw [Int.zero_mul] at this
  exact this
theorem U_small (a : Int) : (if (U a).1 < 0 then -(U a).1 else (U a).1) < (U a).2 ↔ -DL < a ∧ a < DL := by
  have e := U_eq a
  have p := (U_low a).1
  have h := M14.small_eqv (a := U a) (b := (a, DL)) p DL_pos e
  unfold M14.absV at h
  rw [h]
  show (if a < 0 then -a else a) < DL ↔ _
  have := DL_pos
  split <;> omega
theorem U_floor (a : Int) : (U a).1 / (U a).2 = a / DL := by
  have e := U_eq a
  have p := (U_low a).1
  have d := DL_pos
  generalize (U a).1 = x at *
  generalize (U a).2 = y at *
  generalize DL = k at *
  have h1 : x * k / (y * k) = x / y := Int.mul_ediv_mul_of_pos_left x y d
  have h2 : a * y / (k * y) = a / k := Int.mul_ediv_mul_of_pos_left a k p
  rw [← h1, ← h2, e, Int.mul_comm k y]
theorem sum_from (cs : List Int) : ∀ a : Int, (cs.map U).foldl add (U a) = U (a + cs.sum) := by
  induction cs with
  | nil => intro a; simp
  | cons c cs ih =>
    intro a
    rw [List.map_cons, List.foldl_cons, add_U, ih, List.sum_cons, Int.add_assoc]
theorem sumQ_U (cs : List Int) : sumQ (cs.map U) = U cs.sum := by
  have h := sum_from cs 0
  rw [U_zero, Int.zero_add] at h
  exact h
theorem btL_U {n : Nat} (hn : 45 ≤ n) : ∀ (cs : List Int), (∀ c ∈ cs, c.natAbs < 2 ^ n) → BtL (List.replicate cs.length n) (cs.map U)
  | [], _ => trivial
  | c :: cs, h => ⟨U_bt (h c List.mem_cons_self) hn, btL_U hn cs fun d hd => h d (List.mem_cons_of_mem _ hd)⟩
theorem bits_rep (n : Nat) : ∀ k : Nat, bits 1 (List.replicate k n) = k * (n + 1)
  | 0 => (Nat.zero_mul _).symm
  | k + 1 => by
    show (n + 1) + bits 1 (List.replicate k n) = _
    rw [bits_rep n k, Nat.succ_mul]
    omega
/-- the wholes next to an amount of a parts -/
def choU (a : Int) : List Int := if a / DL = -(-a / DL) then [a / DL] else [a / DL, -(-a / DL)]
theorem cho_ex (a : Int) : -(-a / DL) = if a / DL * DL = a then a / DL else a / DL + 1 := by
  have d := DL_pos
  split
  · rename_i h
    have : -a = -(a / DL) * DL := by rw [Int.neg_mul, h]
    rw [this, Int.mul_ediv_cancel _ DL_ne]
    omega
  · rename_i h
    have m1 := Int.mul_ediv_add_emod a DL
    have m2 := Int.emod_nonneg a DL_ne
    have m3 := Int.emod_lt_of_pos a d
    have m4 : a % DL ≠ 0 := fun z => h (by rw [z, Int.add_zero, Int.mul_comm] at m1; exact m1)
    have e : -a = (DL - a % DL) + -(a / DL + 1) * DL := by grind
    rw [e, Int.add_mul_ediv_right _ _ DL_ne, Int.ediv_eq_zero_of_lt (by omega) (by omega)]
    omega
theorem cho_near {a n : Int} (h : n ∈ choU a) : (n * DL - a).natAbs < DL.natAbs := by
  have d := DL_pos
  have m1 := Int.mul_ediv_add_emod a DL
  have m2 := Int.emod_nonneg a DL_ne
  have m3 := Int.emod_lt_of_pos a d
  have c := cho_ex a
  have key : n = a / DL ∨ (n = a / DL + 1 ∧ a % DL ≠ 0) := by
    unfold choU at h
    split at h
    · exact .inl (by simpa using h)
    · rename_i q
      rcases List.mem_cons.mp h with z | z
      · exact .inl z
      · have z := List.mem_singleton.mp z
        rw [c] at z q
        split at z
        · exact .inl z
        · rename_i t
          exact .inr ⟨z, fun y => t (by rw [y, Int.add_zero, Int.mul_comm] at m1; exact m1)⟩
  rcases key with rfl | ⟨rfl, y⟩
  · have : a / DL * DL - a = -(a % DL) := by grind
    rw [this]
    omega
  · have : (a / DL + 1) * DL - a = DL - a % DL := by grind
    rw [this]
    omega
end M9
namespace CK
open PySem PySem.Spec PyProof.Rows L2 VG FR HD M9
def EU (K : PySem.W.Frag) (H : Hp) (a : Addr) (es : List Int) : Prop := ∃ xs, SqT K H a xs ∧ Frs K H xs (es.map U)
theorem EU.mono {K : PySem.W.Frag} {H H' : Hp} {a : Addr} {es : List Int} (s : Same H H') (h : EU K H a es) : EU K H' a es := by
  obtain ⟨xs, h1, h2⟩ := h
  exact ⟨xs, seqT s h1, h2.mono s⟩
/-- a line: its kind, its amount, its whole -/
abbrev Line := Nat × Q2 × Int
def LineAt (K : PySem.W.Frag) (H : Hp) (v : V) (r : Line) : Prop := ∃ t s, v = .ref t ∧ SqT K H t [.int r.1, .ref s, .int r.2.2] ∧ SqT K H s (pV r.2.1)
def Lines (K : PySem.W.Frag) (H : Hp) : List V → List Line → Prop
  | [], [] => True
  | v :: vs, r :: rs => LineAt K H v r ∧ Lines K H vs rs
  | _, _ => False
theorem LineAt.mono {K : PySem.W.Frag} {H H' : Hp} (s : Same H H') {v : V} {r : Line} (h : LineAt K H v r) : LineAt K H' v r := by
  obtain ⟨t, u, e, h1, h2⟩ := h
  exact ⟨t, u, e, seqT s h1, seqT s h2⟩
theorem Lines.mono {K : PySem.W.Frag} {H H' : Hp} (s : Same H H') : ∀ {vs : List V} {rs : List Line}, Lines K H vs rs → Lines K H' vs rs
  | [], [], _ => trivial
  | _ :: _, _ :: _, h => ⟨h.1.mono s, h.2.mono s⟩
  | [], _ :: _, h => h.elim
  | _ :: _, [], h => h.elim
theorem Lines.len {K : PySem.W.Frag} {H : Hp} : ∀ {vs : List V} {rs : List Line}, Lines K H vs rs → vs.length = rs.length
  | [], [], _ => rfl
  | _ :: _, _ :: _, h => by rw [List.length_cons, List.length_cons, h.2.len]
  | [], _ :: _, h => h.elim
  | _ :: _, [], h => h.elim
theorem Lines.get {K : PySem.W.Frag} {H : Hp} : ∀ {vs : List V} {rs : List Line} {i : Nat} {v : V}, Lines K H vs rs → vs[i]? = some v → ∃ r, rs[i]? = some r ∧ LineAt K H v r
  | [], [], _, _, _, h => by simp at h
  | a :: _, r :: _, 0, v, h, e => by
    have e1 : a = v := Option.some.inj e
    subst e1
    exact ⟨r, rfl, h.1⟩
  | _ :: vs, _ :: rs, i + 1, v, h, e => h.2.get (i := i) e
  | [], _ :: _, _, _, h, _ => h.elim
  | _ :: _, [], _, _, h, _ => h.elim
/-- an amount that the laws draw: small, in lowest terms, of the common bottom -/
structure AmtOk (p : Q2) : Prop where
  low : M2.Low p.1 p.2
  dvd : p.2 ∣ DL
  top : p.1.natAbs ≤ 1000000
theorem AmtOk.bt {p : Q2} (h : AmtOk p) : Bt 45 p := by
  refine ⟨Nat.lt_of_le_of_lt h.top (by decide), ?_⟩
  have h1 := Int.le_of_dvd DL_pos h.dvd
  have h2 := h.low.1
  have h3 : DL < 2 ^ 45 := by decide
  have h4 : p.2 < 2 ^ 45 := by omega
  omega
def lineU (p : Q2) (n : Int) : Int := n * DL - un p
structure LineOk (m : Nat) (r : Line) : Prop where
  kind : r.1 < m
  amt : AmtOk r.2.1
  whole : r.2.2.natAbs ≤ 1000001
  near : (lineU r.2.1 r.2.2).natAbs < 2 ^ 45
def addAt (es : List Int) (k : Nat) (d : Int) : List Int := es.set k (es.getD k 0 + d)
def behU (es : List Int) (r : Line) : List Int := addAt es r.1 (lineU r.2.1 r.2.2)
def errU (m : Nat) (rs : List Line) : List Int := rs.foldl behU (List.replicate m 0)
/-- none further off than so many lines are -/
def Within (n : Nat) (es : List Int) : Prop := ∀ e ∈ es, e.natAbs ≤ n * 2 ^ 45
theorem Within.mono {m n : Nat} (h : m ≤ n) {es : List Int} (w : Within m es) : Within n es := fun e he => Nat.le_trans (w e he) (Nat.mul_le_mul_right _ h)
theorem addAt_len (es : List Int) (k : Nat) (d : Int) : (addAt es k d).length = es.length := List.length_set ..
theorem beh_within {n : Nat} {es : List Int} {k : Nat} {d : Int} (h : Within n es) (hd : d.natAbs < 2 ^ 45) : Within (n + 1) (addAt es k d) := fun e he => by
  rcases List.mem_or_eq_of_mem_set he with z | z
  · exact h.mono (Nat.le_succ n) e z
  · subst z
    have h1 : (es.getD k 0).natAbs ≤ n * 2 ^ 45 := by
      rw [List.getD_eq_getElem?_getD]
      cases q : es[k]? with
      | none => exact Nat.zero_le _
      | some v => exact h v (List.mem_of_getElem? q)
    have := Int.natAbs_add_le (es.getD k 0) d
    omega
theorem errs_within (m : Nat) : ∀ (rs : List Line) (n : Nat) (es : List Int), es.length = m → Within n es → (∀ r ∈ rs, LineOk m r) → Within (n + rs.length) (rs.foldl behU es) ∧ (rs.foldl behU es).length = m
  | [], n, es, l, h, _ => ⟨h, l⟩
  | r :: rs, n, es, l, h, ho => by
    have hr := ho r List.mem_cons_self
    have := errs_within m rs (n + 1) (behU es r) (by unfold behU; rw [addAt_len]; exact l) (beh_within h hr.near) fun q hq => ho q (List.mem_cons_of_mem _ hq)
    rw [List.foldl_cons, List.length_cons]
    have e : n + (rs.length + 1) = n + 1 + rs.length := by omega
    rw [e]
    exact this
theorem within_zero (m : Nat) : Within 0 (List.replicate m 0) := fun e he => by
  rw [(List.mem_replicate.mp he).2]
  decide
theorem errU_within {m : Nat} {rs : List Line} (h : ∀ r ∈ rs, LineOk m r) : Within rs.length (errU m rs) ∧ (errU m rs).length = m := by
  have := errs_within m rs 0 (List.replicate m 0) (List.length_replicate ..) (within_zero m) h
  rw [Nat.zero_add] at this
  exact this
theorem frs_get {K : PySem.W.Frag} {H : Hp} : ∀ {ps : List Q2} {vs : List V} {i : Nat} {p : Q2}, Frs K H vs ps → ps[i]? = some p → ∃ t, vs[i]? = some (.ref t) ∧ SqT K H t (pV p)
  | [], [], _, _, _, h => by simp at h
  | p :: _, v :: _, 0, q, h, e => by
    have e1 : p = q := Option.some.inj e
    subst e1
    obtain ⟨t, e2, q⟩ := h.1
    exact ⟨t, by rw [e2]; rfl, q⟩
  | _ :: ps, _ :: vs, i + 1, p, h, e => frs_get (i := i) h.2 e
  | _ :: _, [], _, _, h, _ => h.elim
  | [], _ :: _, _, _, h, _ => h.elim
def spErrLine (K : PySem.W.Frag) : Sp := fun vs H Q _ => ∃ (s : Addr) (p : Q2) (n : Int), vs = [.ref s, .int n] ∧ SqT K H s (pV p) ∧ AmtOk p ∧ n.natAbs ≤ 1000001 ∧ ∀ H' u, Same H H' → H u = none → H' u = some (.tup (pV (U (lineU p n)))) → Q (.ref u) H'
def spSmalls (K : PySem.W.Frag) : Sp := fun vs H Q _ => ∃ (a : Addr) (es : List Int), vs = [.ref a] ∧ EU K H a es ∧ es.length ≤ 1000 ∧ ∀ H', Same H H' → Q (.bl (es.all fun e => decide (-DL < e ∧ e < DL))) H'
theorem within_lt {es : List Int} (h : Within 1000 es) : ∀ e ∈ es, e.natAbs < 2 ^ 60 := fun e he => Nat.lt_of_le_of_lt (h e he) (by decide)
end CK
namespace CK
open PySem PySem.Spec PyProof.Rows L2 VG FR HD M9
theorem Frs.updL {K : PySem.W.Frag} {H : Hp} {D : Addr} {ys zs : List V} (hD : H D = some (.lst ys)) : ∀ {vs : List V} {ps : List Q2}, Frs K H vs ps → Frs K (L2.upd H D (.lst zs)) vs ps
  | [], [], _ => trivial
  | _ :: _, _ :: _, ⟨⟨t, e1, h⟩, r⟩ => ⟨⟨t, e1, seqT_upd hD h⟩, Frs.updL hD r⟩
  | [], _ :: _, h => h.elim
  | _ :: _, [], h => h.elim
theorem EU.updL {K : PySem.W.Frag} {H : Hp} {D a : Addr} {ys zs : List V} {es : List Int} (hD : H D = some (.lst ys)) (h : EU K H a es) : EU K (L2.upd H D (.lst zs)) a es := by
  obtain ⟨xs, h1, h2⟩ := h
  exact ⟨xs, seqT_upd hD h1, Frs.updL hD h2⟩
/-- errors, one behind another -/
def EUs (K : PySem.W.Frag) (H : Hp) : List V → List (List Int) → Prop
  | [], [] => True
  | v :: vs, e :: es => (∃ u, v = .ref u ∧ EU K H u e) ∧ EUs K H vs es
  | _, _ => False
theorem EUs.mono {K : PySem.W.Frag} {H H' : Hp} (s : Same H H') : ∀ {vs : List V} {rs : List (List Int)}, EUs K H vs rs → EUs K H' vs rs
  | [], [], _ => trivial
  | _ :: _, _ :: _, ⟨⟨u, e, h⟩, r⟩ => ⟨⟨u, e, h.mono s⟩, EUs.mono s r⟩
  | [], _ :: _, h => h.elim
  | _ :: _, [], h => h.elim
theorem EUs.updL {K : PySem.W.Frag} {H : Hp} {D : Addr} {ys zs : List V} (hD : H D = some (.lst ys)) : ∀ {vs : List V} {rs : List (List Int)}, EUs K H vs rs → EUs K (L2.upd H D (.lst zs)) vs rs
  | [], [], _ => trivial
  | _ :: _, _ :: _, ⟨⟨u, e, h⟩, r⟩ => ⟨⟨u, e, h.updL hD⟩, EUs.updL hD r⟩
  | [], _ :: _, h => h.elim
  | _ :: _, [], h => h.elim
theorem EUs.snoc {K : PySem.W.Frag} {H : Hp} {u : Addr} {e : List Int} (hv : EU K H u e) : ∀ {vs : List V} {rs : List (List Int)}, EUs K H vs rs → EUs K H (vs ++ [.ref u]) (rs ++ [e])
  | [], [], _ => ⟨⟨u, rfl, hv⟩, trivial⟩
  | _ :: _, _ :: _, h => ⟨h.1, EUs.snoc hv h.2⟩
  | [], _ :: _, h => h.elim
  | _ :: _, [], h => h.elim
theorem EUs.len {K : PySem.W.Frag} {H : Hp} : ∀ {vs : List V} {rs : List (List Int)}, EUs K H vs rs → vs.length = rs.length
  | [], [], _ => rfl
  | _ :: _, _ :: _, h => by rw [List.length_cons, List.length_cons, EUs.len h.2]
  | [], _ :: _, h => h.elim
  | _ :: _, [], h => h.elim
theorem EUs.get {K : PySem.W.Frag} {H : Hp} : ∀ {vs : List V} {rs : List (List Int)} {i : Nat} {v : V}, EUs K H vs rs → vs[i]? = some v → ∃ u r, v = .ref u ∧ rs[i]? = some r ∧ EU K H u r
  | [], [], _, _, _, h => by simp at h
  | a :: _, r :: _, 0, v, h, e => by
    have e1 : a = v := Option.some.inj e
    subst e1
    obtain ⟨u, e2, q⟩ := h.1
    exact ⟨u, r, e2, rfl, q⟩
  | _ :: vs, _ :: rs, i + 1, v, h, e => EUs.get (i := i) h.2 e
  | [], _ :: _, _, _, h, _ => h.elim
  | _ :: _, [], _, _, h, _ => h.elim
theorem EUs.drop1 {K : PySem.W.Frag} {H : Hp} : ∀ {vs : List V} {rs : List (List Int)}, EUs K H vs rs → EUs K H (vs.drop 1) (rs.drop 1)
  | [], [], _ => trivial
  | _ :: _, _ :: _, h => h.2
  | [], _ :: _, h => h.elim
  | _ :: _, [], h => h.elim
theorem frs_snoc {K : PySem.W.Frag} {H : Hp} {t : Addr} {p : Q2} {vs : List V} {ps : List Q2} (hv : SqT K H t (pV p)) (h : Frs K H vs ps) : Frs K H (vs ++ [.ref t]) (ps ++ [p]) := Frs.snoc hv h
/-- the error of a total -/
def totU (es : List Int) (c : List Int) : Int := (c.map fun k => es.getD k.toNat 0).sum
def totsU (ts : List (List Int)) (es : List Int) : List Int := ts.map (totU es)
/-- how the errors of totals change with a line -/
def behT (ts : List (List Int)) (xs : List Int) (k : Int) (d : Int) : List Int := (ts.zip xs).map fun p => if p.1.contains k then p.2 + d else p.2
theorem asc_len : ∀ {c : List Int} {a n : Int}, Asc c → (∀ x ∈ c, a ≤ x ∧ x < n) → (c.length : Int) ≤ max 0 (n - a)
  | [], a, n, _, _ => by simp; omega
  | x :: xs, a, n, h, hb => by
    have h1 := hb x List.mem_cons_self
    have t : Asc xs := match xs, h with
      | [], _ => trivial
      | _ :: _, h => h.2
    have ih := asc_len (a := x + 1) (n := n) t fun y hy => ⟨by have := asc_lt h y hy; omega, (hb y (List.mem_cons_of_mem _ hy)).2⟩
    rw [List.length_cons]
    omega
theorem lot_len {m : Nat} {c : List Int} (h : LotOk (m : Int) c) : c.length ≤ m := by
  have := asc_len (a := 0) (n := (m : Int)) h.2.2 h.2.1
  omega
theorem errU_take {m : Nat} {rs : List Line} {i : Nat} {r : Line} (h : rs[i]? = some r) : errU m (rs.take (i + 1)) = behU (errU m (rs.take i)) r := by
  unfold errU
  rw [List.take_add_one, h, List.foldl_append]
  rfl
theorem errU_at {m : Nat} {rs : List Line} (i : Nat) (h : ∀ r ∈ rs, LineOk m r) (l : rs.length ≤ 1000) : Within 1000 (errU m (rs.take i)) ∧ (errU m (rs.take i)).length = m := by
  have := errU_within (m := m) (rs := rs.take i) fun r hr => h r (List.mem_of_mem_take hr)
  exact ⟨this.1.mono (by rw [List.length_take]; omega), this.2⟩
theorem sum_add_at {es : List Int} {k : Nat} {d : Int} (hk : k < es.length) : ∀ {c : List Int}, c.Nodup → (∀ x ∈ c, 0 ≤ x) → totU (addAt es k d) c = if c.contains (k : Int) then totU es c + d else totU es c
  | [], _, _ => rfl
  | x :: xs, nd, h0 => by
    have n2 := List.nodup_cons.mp nd
    have x0 := h0 x List.mem_cons_self
    have ih := sum_add_at (d := d) hk n2.2 fun y hy => h0 y (List.mem_cons_of_mem _ hy)
    have e1 : totU (addAt es k d) (x :: xs) = (addAt es k d).getD x.toNat 0 + totU (addAt es k d) xs := by
      unfold totU
      rw [List.map_cons, List.sum_cons]
    have e2 : totU es (x :: xs) = es.getD x.toNat 0 + totU es xs := by
      unfold totU
      rw [List.map_cons, List.sum_cons]
    rw [e1, e2, ih, List.contains_cons]
    by_cases q : (k : Int) = x
    · subst q
      have f : xs.contains (k : Int) = false := by
        rw [← Bool.not_eq_true, List.contains_iff_mem]
        exact n2.1
      have g : (addAt es k d).getD ((k : Int)).toNat 0 = es.getD k 0 + d := by
        unfold addAt
        rw [Int.toNat_natCast, List.getD_eq_getElem?_getD, List.getElem?_set_self hk]
        rfl
      rw [f, g, Int.toNat_natCast]
      simp
      omega
    · have f : ((k : Int) == x) = false := by simpa using q
      have g : (addAt es k d).getD x.toNat 0 = es.getD x.toNat 0 := by
        unfold addAt
        rw [List.getD_eq_getElem?_getD, List.getElem?_set_ne (by omega), List.getD_eq_getElem?_getD]
      rw [f, g, Bool.false_or]
      split <;> omega
theorem behT_eq {m : Nat} {ts : List (List Int)} {es : List Int} {k : Nat} {d : Int} (hk : k < es.length) (ok : ∀ c ∈ ts, LotOk (m : Int) c) : behT ts (totsU ts es) (k : Int) d = totsU ts (addAt es k d) := by
  unfold behT totsU
  rw [List.zip_map_right, List.map_map]
  have e : ts.zip ts = ts.map fun c => (c, c) := by
    induction ts with
    | nil => rfl
    | cons a as ih => rw [List.zip_cons_cons, List.map_cons, ih fun c hc => ok c (List.mem_cons_of_mem _ hc)]
  rw [e, List.map_map]
  refine List.map_congr_left fun c hc => ?_
  have o := ok c hc
  show (if c.contains (k : Int) then totU es c + d else totU es c) = _
  rw [sum_add_at hk (asc_nodup o.2.2) fun x hx => (o.2.1 x hx).1]
theorem tot_lt {es : List Int} (h : Within 1000 es) : ∀ c : List Int, (totU es c).natAbs ≤ c.length * (1000 * 2 ^ 45)
  | [] => Nat.zero_le _
  | x :: xs => by
    have ih := tot_lt h xs
    have e2 : totU es (x :: xs) = es.getD x.toNat 0 + totU es xs := by
      unfold totU
      rw [List.map_cons, List.sum_cons]
    have h1 : (es.getD x.toNat 0).natAbs ≤ 1000 * 2 ^ 45 := by
      rw [List.getD_eq_getElem?_getD]
      cases q : es[x.toNat]? with
      | none => exact Nat.zero_le _
      | some v => exact h v (List.mem_of_getElem? q)
    rw [e2, List.length_cons, Nat.succ_mul]
    have := Int.natAbs_add_le (es.getD x.toNat 0) (totU es xs)
    omega
/-- the errors of totals behind each line -/
def courseU (m : Nat) (ts : List (List Int)) (rs : List Line) : List (List Int) := (List.range (rs.length + 1)).map fun i => totsU ts (errU m (rs.take i))
def smallU (es : List Int) : Bool := es.all fun e => decide (-DL < e ∧ e < DL)
def firstU : List (List Int) → Nat → Option Nat
  | [], _ => none
  | e :: es, i => if smallU e then firstU es (i + 1) else some i
def offV : Option Nat → V
  | none => .non
  | some i => .int (i : Int)
def spNoErr (K : PySem.W.Frag) (C : Addr) : Sp := fun vs H Q _ => ∃ (a : Addr) (ks : List Str) (ts : List (List Int)), vs = [.ref a] ∧ Tab K C H a ks ts ∧ TabOk ks ts ∧ ∀ H' u, Same H H' → EU K H' u (List.replicate ks.length 0) → Q (.ref u) H'
def DayIn (K : PySem.W.Frag) (H : Hp) (d : Addr) (m : Nat) (rs : List Line) : Prop := ∃ xs, SqT K H d xs ∧ Lines K H xs rs ∧ (∀ r ∈ rs, LineOk m r) ∧ rs.length ≤ 900
theorem DayIn.mono {K : PySem.W.Frag} {H H' : Hp} {d : Addr} {m : Nat} {rs : List Line} (s : Same H H') (h : DayIn K H d m rs) : DayIn K H' d m rs := by
  obtain ⟨xs, h1, h2, h3⟩ := h
  exact ⟨xs, seqT s h1, h2.mono s, h3⟩
def spErrTot (K : PySem.W.Frag) (C : Addr) : Sp := fun vs H Q _ => ∃ (a e : Addr) (ks : List Str) (ts : List (List Int)) (es : List Int) (j : Nat) (c : List Int), vs = [.ref a, .ref e, .int (j : Int)] ∧ Tab K C H a ks ts ∧ TabOk ks ts ∧ EU K H e es ∧ es.length = ks.length ∧ Within 1000 es ∧ ts[j]? = some c ∧
  ∀ H' u, Same H H' → SqT K H' u (pV (U (totU es c))) → Q (.ref u) H'
def spTotsBy (K : PySem.W.Frag) (C : Addr) : Sp := fun vs H Q _ => ∃ (a e : Addr) (ks : List Str) (ts : List (List Int)) (es : List Int), vs = [.ref a, .ref e] ∧ Tab K C H a ks ts ∧ TabOk ks ts ∧ EU K H e es ∧ es.length = ks.length ∧ Within 1000 es ∧
  ∀ H' u, Same H H' → EU K H' u (totsU ts es) → Q (.ref u) H'
def spTotBeh (K : PySem.W.Frag) (C : Addr) : Sp := fun vs H Q _ => ∃ (a e s : Addr) (ks : List Str) (ts : List (List Int)) (es : List Int) (k : Nat) (d : Int), vs = [.ref a, .ref e, .int (k : Int), .ref s] ∧ Tab K C H a ks ts ∧ TabOk ks ts ∧ EU K H e es ∧ es.length = ts.length ∧ (∀ x ∈ es, x.natAbs < 2 ^ 60) ∧ SqT K H s (pV (U d)) ∧ d.natAbs < 2 ^ 60 ∧
  ∀ H' u, Same H H' → EU K H' u (behT ts es (k : Int) d) → Q (.ref u) H'
def spCourse (K : PySem.W.Frag) (C : Addr) : Sp := fun vs H Q _ => ∃ (a d : Addr) (ks : List Str) (ts : List (List Int)) (rs : List Line), vs = [.ref a, .ref d] ∧ Tab K C H a ks ts ∧ TabOk ks ts ∧ DayIn K H d ks.length rs ∧
  ∀ H' u ys, Same H H' → SqT K H' u ys → EUs K H' ys (courseU ks.length ts rs) → Q (.ref u) H'
def spFirst (K : PySem.W.Frag) (C : Addr) : Sp := fun vs H Q _ => ∃ (a d : Addr) (ks : List Str) (ts : List (List Int)) (rs : List Line), vs = [.ref a, .ref d] ∧ Tab K C H a ks ts ∧ TabOk ks ts ∧ DayIn K H d ks.length rs ∧
  ∀ H', Same H H' → Q (offV (firstU ((courseU ks.length ts rs).drop 1) 0)) H'
end CK
namespace CK
open PySem PySem.Spec PyProof.Rows L2 VG FR HD M9
theorem behT_take {ts : List (List Int)} {es : List Int} {i : Nat} {c : List Int} {x k d : Int} (h1 : ts[i]? = some c) (h2 : es[i]? = some x) : (behT ts es k d).take (i + 1) = (behT ts es k d).take i ++ [if c.contains k then x + d else x] := by
  unfold behT
  rw [← List.map_take, ← List.map_take, List.take_add_one, (List.getElem?_zip_eq_some (z := (c, x))).mpr ⟨h1, h2⟩, List.map_append]
  rfl
theorem course_len (m : Nat) (ts : List (List Int)) (rs : List Line) : (courseU m ts rs).length = rs.length + 1 := by
  unfold courseU
  rw [List.length_map, List.length_range]
/-- the course behind so many lines -/
def cou (m : Nat) (ts : List (List Int)) (rs : List Line) (i : Nat) : List (List Int) := (List.range (i + 1)).map fun i => totsU ts (errU m (rs.take i))
theorem cou_succ (m : Nat) (ts : List (List Int)) (rs : List Line) (i : Nat) : cou m ts rs (i + 1) = cou m ts rs i ++ [totsU ts (errU m (rs.take (i + 1)))] := by
  unfold cou
  rw [List.range_succ, List.map_append]
  rfl
theorem tots_len (ts : List (List Int)) (es : List Int) : (totsU ts es).length = ts.length := List.length_map _
theorem tots_zero (m : Nat) (ts : List (List Int)) : totsU ts (List.replicate m 0) = List.replicate ts.length 0 := by
  refine List.ext_getElem? fun i => ?_
  unfold totsU
  rw [List.getElem?_map]
  cases h : ts[i]? with
  | none =>
    have := List.getElem?_eq_none_iff.mp h
    rw [List.getElem?_eq_none_iff.mpr (by rw [List.length_replicate]; exact this)]
    rfl
  | some c =>
    obtain ⟨hi, _⟩ := List.getElem?_eq_some_iff.mp h
    rw [List.getElem?_replicate, if_pos hi]
    show some (totU _ c) = some 0
    have : ∀ c : List Int, totU (List.replicate m 0) c = 0 := by
      intro c
      induction c with
      | nil => rfl
      | cons x xs ih =>
        have e2 : totU (List.replicate m 0) (x :: xs) = (List.replicate m (0 : Int)).getD x.toNat 0 + totU (List.replicate m 0) xs := by
          unfold totU
          rw [List.map_cons, List.sum_cons]
        rw [e2, ih, List.getD_eq_getElem?_getD, List.getElem?_replicate]
        split <;> rfl
    rw [this]
theorem first_at : ∀ (l : List (List Int)) (i n : Nat), (∀ j < i, ∃ e, l[j]? = some e ∧ smallU e = true) → i ≤ l.length → firstU l n = firstU (l.drop i) (n + i)
  | l, 0, n, _, _ => by rw [List.drop_zero, Nat.add_zero]
  | [], i + 1, n, h, hl => by simp at hl
  | e :: l, i + 1, n, h, hl => by
    obtain ⟨e2, h2, h3⟩ := h 0 (by omega)
    have h2 : e = e2 := Option.some.inj h2
    subst h2
    have ih := first_at l i (n + 1) (fun j hj => h (j + 1) (by omega)) (by simpa using hl)
    rw [firstU, if_pos h3, ih, List.drop_succ_cons, Nat.add_assoc, Nat.add_comm 1 i]
end CK
namespace CK
open PySem PySem.Spec PyProof.Rows L2 VG FR HD M9
/-- what `raise R(v)` gives, in one word -/
theorem raisedV {K : PySem.W.Frag} {R : Addr} {fld : Str} {v : V} {σ : L2.St} {H : Hp} {E : XK} {ta : TA} (hta : ∀ Rr : List V → Hp → Prop, Rr [v] H → ta σ H Rr) (h : ∀ H' x, Same H H' → H x = none → H' x = some (.xd [(fld, v)]) → E (.ref R) (some x) H') :
    tMkO R (spInitW K R fld) [] ta σ H fun cls d H' => E cls d H' := by
  refine hta _ ⟨by show 1 ≤ 1000; decide, fun x nx => ?_⟩
  refine ⟨x, _, rfl, upd_same, fun dx n ne => ⟨rfl, dx, [(fld, v)], upd_same, ?_, ?_, ?_⟩⟩
  · rw [upd_ne ne, upd_same]
  · rw [upd_ne ne] at n
    exact n
  · rw [upd_ne ne] at n
    refine h _ dx (fun y o hy => ?_) n upd_same
    have hyd : y ≠ dx := ne_of_none hy n
    have hyx : y ≠ x := ne_of_none hy nx
    rw [upd_ne hyd, del_ne hyx, upd_ne hyx, upd_ne hyd, upd_ne hyx]
    exact hy
theorem Ov.intAt {K : PySem.W.Frag} {H : Hp} {v : V} {d : PyData} {a : Int} (h : Ov K H v d) (e : intO d = some a) : v = .int a := by
  cases h with
  | int i => rw [Option.some.inj e]
  | _ => cases e
/-- an amount: a fraction, neither top nor bottom above a million -/
def amtD : PyData → Bool
  | .tuple [x, y] => match intO x, intO y with
    | some a, some b => okFr (some a) (some b) && (decide (a.natAbs ≤ 1000000) && decide (b ≤ 1000000))
    | _, _ => false
  | _ => false
def pairD : PyData → Q2
  | .tuple [x, y] => ((intO x).getD 0, (intO y).getD 0)
  | _ => (0, 1)
theorem amt_tup {d : PyData} (e : amtD d = true) : ∃ x y a b, d = .tuple [x, y] ∧ intO x = some a ∧ intO y = some b ∧ okFr (some a) (some b) = true ∧ a.natAbs ≤ 1000000 ∧ b ≤ 1000000 := by
  unfold amtD at e
  split at e
  · rename_i x y
    split at e
    · rename_i a b ea eb
      rw [Bool.and_eq_true, Bool.and_eq_true] at e
      exact ⟨x, y, a, b, rfl, ea, eb, e.1, of_decide_eq_true e.2.1, of_decide_eq_true e.2.2⟩
    · cases e
  · cases e
theorem amt_len {ds : List PyData} (h : ds.length ≠ 2) : amtD (.tuple ds) = false := by
  cases q : amtD (.tuple ds) with
  | false => rfl
  | true =>
    obtain ⟨x, y, a, b, e, _⟩ := amt_tup q
    injection e with e
    rw [e] at h
    exact absurd rfl h
theorem amt_ints {x y : PyData} {a b : Int} (ex : intO x = some a) (ey : intO y = some b) : amtD (.tuple [x, y]) = (okFr (some a) (some b) && (decide (a.natAbs ≤ 1000000) && decide (b ≤ 1000000))) := by
  show (match intO x, intO y with
    | some a, some b => okFr (some a) (some b) && (decide (a.natAbs ≤ 1000000) && decide (b ≤ 1000000))
    | _, _ => false) = _
  rw [ex, ey]
theorem amt_not {x y : PyData} (h : okFr (intO x) (intO y) = false) : amtD (.tuple [x, y]) = false := by
  cases q : amtD (.tuple [x, y]) with
  | false => rfl
  | true =>
    obtain ⟨x2, y2, a, b, e, ex, ey, ok, _⟩ := amt_tup q
    injection e with e
    injection e with e1 e
    injection e with e2 e
    subst e1
    subst e2
    rw [ex, ey, ok] at h
    cases h
theorem okFr_ints {o1 o2 : Option Int} (h : okFr o1 o2 = true) : ∃ a b, o1 = some a ∧ o2 = some b := by
  cases o1 with
  | none => cases h
  | some a =>
    cases o2 with
    | none => cases h
    | some b => exact ⟨a, b, rfl, rfl⟩
theorem okFr_low {a b : Int} (h : okFr (some a) (some b) = true) : M2.Low a b := by
  unfold okFr at h
  rw [Bool.and_eq_true] at h
  exact ⟨of_decide_eq_true h.1, of_decide_eq_true h.2⟩
theorem amt_at {K : PySem.W.Frag} {H : Hp} {v : V} {d : PyData} (h : Ov K H v d) (e : amtD d = true) : ∃ s, v = .ref s ∧ SqT K H s (pV (pairD d)) ∧ M2.Low (pairD d).1 (pairD d).2 ∧ (pairD d).1.natAbs ≤ 1000000 ∧ (pairD d).2 ≤ 1000000 := by
  obtain ⟨x, y, a, b, rfl, ex, ey, ok, h1, h2⟩ := amt_tup e
  obtain ⟨p, xs, rfl, hS, hA⟩ := h.isT
  cases hA with
  | cons hx r =>
    cases r with
    | cons hy r =>
      cases r
      have ep : pairD (.tuple [x, y]) = (a, b) := by
        show ((intO x).getD 0, (intO y).getD 0) = (a, b)
        rw [ex, ey]
        rfl
      rw [hx.intAt ex, hy.intAt ey] at hS
      rw [ep]
      exact ⟨p, rfl, hS, okFr_low ok, h1, h2⟩
def choQ (p : Q2) : List Int := if p.1 / p.2 = -(-p.1 / p.2) then [p.1 / p.2] else [p.1 / p.2, -(-p.1 / p.2)]
theorem cho_U (a : Int) : choQ (U a) = choU a := by
  unfold choQ choU
  have e : -(U a).1 / (U a).2 = -a / DL := by
    have := U_floor (-a)
    rw [← neg_U] at this
    exact this
  rw [U_floor, e]
/-- a rounded line of a table of m kinds -/
def lineD (m : Nat) : PyData → Bool
  | .tuple [k, p, n] => belowO (m : Int) (intO k) && amtD p && (match intO n with
    | some n => (choQ (pairD p)).contains n
    | none => false)
  | _ => false
def lineFault (m : Nat) : PyData → Option Int
  | .tuple [k, p] => if belowO (m : Int) (intO k) = true then (if amtD p = true then none else some 1) else some 0
  | _ => some (-1)
def firstBad (m : Nat) : List PyData → Nat → Option Nat
  | [], _ => none
  | d :: ds, i => if lineD m d then firstBad m ds (i + 1) else some i
def dayFault (m : Nat) : PyData → Option Int
  | .tuple ds => if ds.length ≤ 400 then (firstBad m ds 0).map fun (i : Nat) => (i : Int) else some (-1)
  | _ => some (-1)
theorem bad_at (m : Nat) : ∀ (l : List PyData) (i n : Nat), (∀ j < i, ∃ e, l[j]? = some e ∧ lineD m e = true) → i ≤ l.length → firstBad m l n = firstBad m (l.drop i) (n + i)
  | l, 0, n, _, _ => by rw [List.drop_zero, Nat.add_zero]
  | [], i + 1, n, h, hl => by simp at hl
  | e :: l, i + 1, n, h, hl => by
    obtain ⟨e2, h2, h3⟩ := h 0 (by omega)
    have h2 : e = e2 := Option.some.inj h2
    subst h2
    have ih := bad_at m l i (n + 1) (fun j hj => h (j + 1) (by omega)) (by simpa using hl)
    rw [firstBad, if_pos h3, ih, List.drop_succ_cons, Nat.add_assoc, Nat.add_comm 1 i]
theorem tup3 {d : PyData} (h : tupD 3 d = true) : ∃ k p n, d = .tuple [k, p, n] := by
  cases d with
  | tuple ds =>
    have h : ds.length = 3 := of_decide_eq_true h
    match ds, h with
    | [k, p, n], _ => exact ⟨k, p, n, rfl⟩
  | _ => cases h
theorem line_tup {m : Nat} {d : PyData} (h : tupD 3 d = false) : lineD m d = false := by
  unfold lineD
  split
  · cases h
  · rfl
theorem line_at (m : Nat) (k p n : PyData) : lineD m (.tuple [k, p, n]) = (belowO (m : Int) (intO k) && amtD p && (match intO n with
    | some n => (choQ (pairD p)).contains n
    | none => false)) := rfl
def spAmt (K : PySem.W.Frag) : Sp := fun vs H Q _ => ∃ (v : V) (d : PyData), vs = [v] ∧ Ov K H v d ∧ Q (.bl (amtD d)) H
def spCho (K : PySem.W.Frag) : Sp := fun vs H Q _ => ∃ (s : Addr) (p : Q2), vs = [.ref s] ∧ SqT K H s (pV p) ∧ 0 < p.2 ∧ Bt 3000 p ∧ ∀ H' u, Same H H' → H u = none → H' u = some (.tup ((choQ p).map V.int)) → Q (.ref u) H'
def spRounded (K : PySem.W.Frag) (C : Addr) : Sp := fun vs H Q _ => ∃ (a : Addr) (v : V) (d : PyData) (ks : List Str) (ts : List (List Int)), vs = [.ref a, v] ∧ Tab K C H a ks ts ∧ TabOk ks ts ∧ Ov K H v d ∧ ∀ H', Same H H' → Q (.bl (lineD ks.length d)) H'
def spChk (K : PySem.W.Frag) (C R : Addr) (fault : Nat → PyData → Option Int) : Sp := fun vs H Q E => ∃ (a : Addr) (v : V) (d : PyData) (ks : List Str) (ts : List (List Int)), vs = [.ref a, v] ∧ Tab K C H a ks ts ∧ TabOk ks ts ∧ Ov K H v d ∧
  (fault ks.length d = none → ∀ H', Same H H' → Q .non H') ∧
  ∀ i : Int, fault ks.length d = some i → ∀ H' x, Same H H' → H x = none → H' x = some (.xd [((("at" : String) : Str), .int i)]) → E (.ref R) (some x) H'
end CK
namespace CK
open PySem PySem.Spec PyProof.Rows L2 VG FR HD M9
theorem day_tup {m : Nat} {d : PyData} (h : isTupD d = false) : dayFault m d = some (-1) := by
  cases d with
  | tuple ds => cases h
  | _ => rfl
theorem day_long {m : Nat} {ds : List PyData} (h : 400 < ds.length) : dayFault m (.tuple ds) = some (-1) := if_neg (by omega)
theorem day_at {m : Nat} {ds : List PyData} (h : ds.length ≤ 400) : dayFault m (.tuple ds) = (firstBad m ds 0).map fun (i : Nat) => (i : Int) := if_pos h
end CK
namespace CK
open PySem PySem.Spec PyProof.Rows L2 VG FR HD M9
def rowD : PyData → Line
  | .tuple [k, p, n] => (((intO k).getD 0).toNat, pairD p, (intO n).getD 0)
  | _ => (0, (0, 1), 0)
def itemsD : PyData → List PyData
  | .tuple ds => ds
  | _ => []
theorem bad_none {m : Nat} : ∀ {l : List PyData} {n : Nat}, firstBad m l n = none → ∀ x ∈ l, lineD m x = true
  | [], _, _, x, h => by cases h
  | d :: ds, n, e, x, h => by
    rw [firstBad] at e
    split at e
    · rename_i hd
      rcases List.mem_cons.mp h with z | z
      · subst z
        exact hd
      · exact bad_none e x z
    · cases e
theorem day_ok {m : Nat} {d : PyData} (h : dayFault m d = none) : ∃ ds, d = .tuple ds ∧ ds.length ≤ 400 ∧ ∀ x ∈ ds, lineD m x = true := by
  cases d with
  | tuple ds =>
    unfold dayFault at h
    dsimp only at h
    split at h
    · rename_i hl
      refine ⟨ds, rfl, hl, ?_⟩
      cases e : firstBad m ds 0 with
      | none => exact bad_none e
      | some i => rw [e] at h; cases h
    · cases h
  | _ => cases h
theorem line_shape {m : Nat} {d : PyData} (h : lineD m d = true) : ∃ k p n i, d = .tuple [k, p, n] ∧ belowO (m : Int) (intO k) = true ∧ amtD p = true ∧ intO n = some i ∧ i ∈ choQ (pairD p) := by
  cases q : tupD 3 d with
  | false => rw [line_tup q] at h; cases h
  | true =>
    obtain ⟨k, p, n, rfl⟩ := tup3 q
    rw [line_at, Bool.and_eq_true, Bool.and_eq_true] at h
    cases e : intO n with
    | none => rw [e] at h; cases h.2
    | some i =>
      rw [e] at h
      exact ⟨k, p, n, i, rfl, h.1.1, h.1.2, e, List.contains_iff_mem.mp h.2⟩
theorem cho_whole {a : Int} {n : Int} (ha : a.natAbs ≤ 1000000 * DL.natAbs) (h : n ∈ choU a) : n.natAbs ≤ 1000001 := by
  have c := cho_near h
  have d := DL_pos
  have h1 : (n * DL).natAbs ≤ a.natAbs + DL.natAbs := by
    have := Int.natAbs_add_le (n * DL - a) a
    rw [Int.sub_add_cancel] at this
    omega
  rw [Int.natAbs_mul] at h1
  have h2 : n.natAbs * DL.natAbs ≤ 1000001 * DL.natAbs := by omega
  exact Nat.le_of_mul_le_mul_right h2 (by omega)
theorem un_le {p : Q2} (low : M2.Low p.1 p.2) (t : p.1.natAbs ≤ 1000000) : (un p).natAbs ≤ 1000000 * DL.natAbs := by
  unfold un
  rw [Int.natAbs_mul]
  exact Nat.mul_le_mul t (M2.natAbs_div_le DL low.1)
theorem line_ok {m : Nat} {d : PyData} (h : lineD m d = true) (dv : (rowD d).2.1.2 ∣ DL) : LineOk m (rowD d) := by
  obtain ⟨k, p, n, i, rfl, hb, ha, hi, hc⟩ := line_shape h
  have dv : (pairD p).2 ∣ DL := dv
  obtain ⟨x, y, a, b, rfl, ex, ey, okf, h1, h2⟩ := amt_tup ha
  have ep : pairD (.tuple [x, y]) = (a, b) := by
    show ((intO x).getD 0, (intO y).getD 0) = (a, b)
    rw [ex, ey]
    rfl
  rw [ep] at dv hc
  have low := okFr_low okf
  have ao : AmtOk (a, b) := ⟨low, dv, h1⟩
  have hc2 : i ∈ choU (un (a, b)) := by
    rw [← cho_U, U_un low dv]
    exact hc
  have er : rowD (.tuple [k, .tuple [x, y], n]) = (((intO k).getD 0).toNat, (a, b), i) := by
    show (((intO k).getD 0).toNat, pairD (.tuple [x, y]), (intO n).getD 0) = _
    rw [ep, hi]
    rfl
  rw [er]
  refine ⟨?_, ao, cho_whole (un_le low h1) hc2, Nat.lt_of_lt_of_le (cho_near hc2) (by decide)⟩
  show ((intO k).getD 0).toNat < m
  cases ek : intO k with
  | none => rw [ek] at hb; cases hb
  | some j =>
    rw [ek] at hb
    have hb : decide (0 ≤ j ∧ j < (m : Int)) = true := hb
    have := of_decide_eq_true hb
    show j.toNat < m
    omega
theorem line_in {K : PySem.W.Frag} {H : Hp} {v : V} {m : Nat} {d : PyData} (h : Ov K H v d) (hl : lineD m d = true) : LineAt K H v (rowD d) := by
  obtain ⟨k, p, n, i, rfl, hb, ha, hi, _⟩ := line_shape hl
  obtain ⟨t, xs, rfl, hS, hA⟩ := h.isT
  cases hA with
  | cons hk r =>
  cases r with
  | cons hp r =>
  cases r with
  | cons hn r =>
  cases r
  cases ek : intO k with
  | none => rw [ek] at hb; cases hb
  | some j =>
    rw [ek] at hb
    have hb : decide (0 ≤ j ∧ j < (m : Int)) = true := hb
    have hj := of_decide_eq_true hb
    obtain ⟨s, rfl, hs, _⟩ := amt_at hp ha
    refine ⟨t, s, rfl, ?_, hs⟩
    show SqT K H t [.int ((((intO k).getD 0).toNat : Nat) : Int), .ref s, .int ((intO n).getD 0)]
    rw [hk.intAt ek, hn.intAt hi] at hS
    rw [ek, hi]
    have e : (((some j).getD 0).toNat : Int) = j := by
      show ((j.toNat : Nat) : Int) = j
      omega
    rw [e]
    exact hS
theorem lines_in {K : PySem.W.Frag} {H : Hp} {m : Nat} : ∀ {vs : List V} {ds : List PyData}, OvAll K H vs ds → (∀ x ∈ ds, lineD m x = true) → Lines K H vs (ds.map rowD)
  | _, _, .nil, _ => trivial
  | _, _, .cons h r, hl => ⟨line_in h (hl _ List.mem_cons_self), lines_in r fun x hx => hl x (List.mem_cons_of_mem _ hx)⟩
theorem day_in {K : PySem.W.Frag} {H : Hp} {v : V} {m : Nat} {d : PyData} (h : Ov K H v d) (hd : dayFault m d = none) (dv : ∀ x ∈ itemsD d, lineD m x = true → (rowD x).2.1.2 ∣ DL) : ∃ a, v = .ref a ∧ DayIn K H a m ((itemsD d).map rowD) := by
  obtain ⟨ds, rfl, hl, hb⟩ := day_ok hd
  obtain ⟨a, xs, rfl, hS, hA⟩ := h.isT
  refine ⟨a, rfl, xs, hS, lines_in hA hb, fun r hr => ?_, by rw [List.length_map]; show ds.length ≤ 900; omega⟩
  obtain ⟨x, hx, rfl⟩ := List.mem_map.mp hr
  exact line_ok (hb x hx) (dv x hx (hb x hx))
/-- a day that is kept, as the program tells it -/
def isDayD (m : Nat) (ts : List (List Int)) (d : PyData) (kept : Bool) : Bool := (dayFault m d).isNone && (!kept || (firstU ((courseU m ts ((itemsD d).map rowD)).drop 1) 0).isNone)
def spIsDay (K : PySem.W.Frag) (C : Addr) : Sp := fun vs H Q _ => ∃ (a : Addr) (v : V) (d : PyData) (b : Bool) (ks : List Str) (ts : List (List Int)), vs = [.ref a, v, .bl b] ∧ Tab K C H a ks ts ∧ TabOk ks ts ∧ Ov K H v d ∧ (∀ x ∈ itemsD d, lineD ks.length x = true → (rowD x).2.1.2 ∣ DL) ∧
  ∀ H', Same H H' → Q (.bl (isDayD ks.length ts d b)) H'
end CK
namespace CK
open PySem PySem.Spec PyProof.Rows L2 VG FR HD M9
def spFr9 : Sp := fun vs H Q _ => ∃ a b : Int, vs = [.int a, .int b] ∧ 0 < b ∧ a.natAbs < 2 ^ 450 ∧ b.natAbs < 2 ^ 450 ∧ ∀ H' u, Same H H' → H u = none → H' u = some (.tup (pV (M2.mk a b))) → Q (.ref u) H'
def spLawCho (K : PySem.W.Frag) : Sp := fun vs H Q _ => ∃ (s : Addr) (p : Q2), vs = [.ref s] ∧ SqT K H s (pV p) ∧ 0 < p.2 ∧ Bt 3000 p ∧ ∀ H' u, Same H H' → H u = none → H' u = some (.lst ((choQ p).map V.int)) → Q (.ref u) H'
theorem euc_step {x y i P : Nat} (h : x * y * 2 ^ i ≤ 2 * P) (o : y ≤ x) (y0 : 0 < y) : y * (x % y) * 2 ^ (i + 1) ≤ 2 * P := by
  have m := Nat.mod_lt x y0
  have d := Nat.div_add_mod x y
  have q : 1 ≤ x / y := Nat.div_pos o y0
  have h1 : y + x % y ≤ x := by
    have : y * 1 ≤ y * (x / y) := Nat.mul_le_mul_left y q
    omega
  have h2 : 2 * (x % y) ≤ x := by omega
  have h3 : y * (x % y) * 2 ≤ x * y := by
    calc y * (x % y) * 2 = y * (2 * (x % y)) := by rw [Nat.mul_assoc, Nat.mul_comm (x % y) 2]
      _ ≤ y * x := Nat.mul_le_mul_left y h2
      _ = x * y := Nat.mul_comm y x
  calc y * (x % y) * 2 ^ (i + 1) = y * (x % y) * 2 * 2 ^ i := by rw [Nat.pow_succ, Nat.mul_comm (2 ^ i) 2, ← Nat.mul_assoc]
    _ ≤ x * y * 2 ^ i := Nat.mul_le_mul_right _ h3
    _ ≤ 2 * P := h
theorem euc_end {x y P : Nat} (h : x * y * 2 ^ 999 ≤ 2 * P) (o : y ≤ x) (hp : P < 2 ^ 900) : y = 0 := by
  rcases Nat.eq_zero_or_pos y with z | z
  · exact z
  · exfalso
    have h1 : 1 * 2 ^ 999 ≤ x * y * 2 ^ 999 := Nat.mul_le_mul_right _ (Nat.mul_pos (by omega) z)
    have h2 : 2 * P < 2 * 2 ^ 900 := by omega
    have h3 : 2 * 2 ^ 900 ≤ 1 * 2 ^ 999 := by decide
    omega
theorem choQ_ex {p : Q2} (h : 0 < p.2) : choQ p = if p.1 / p.2 * p.2 = p.1 then [p.1 / p.2] else [p.1 / p.2, p.1 / p.2 + 1] := by
  obtain ⟨a, b⟩ := p
  show (if a / b = -(-a / b) then [a / b] else [a / b, -(-a / b)]) = if a / b * b = a then [a / b] else [a / b, a / b + 1]
  have hb : 0 < b := h
  have m1 := Int.mul_ediv_add_emod a b
  have m2 := Int.emod_nonneg a (Int.ne_of_gt hb)
  have m3 := Int.emod_lt_of_pos a hb
  by_cases e : a / b * b = a
  · have h1 : -a / b = -(a / b) := by
      have : -a = -(a / b) * b := by rw [Int.neg_mul, e]
      rw [this, Int.mul_ediv_cancel _ (by omega)]
    rw [if_pos e, if_pos (by omega)]
  · have m4 : a % b ≠ 0 := fun z => e (by rw [z, Int.add_zero, Int.mul_comm] at m1; exact m1)
    have h1 : -a / b = -(a / b + 1) := by
      have e2 : -a = (b - a % b) + -(a / b + 1) * b := by grind
      rw [e2, Int.add_mul_ediv_right _ _ (by omega), Int.ediv_eq_zero_of_lt (by omega) (by omega)]
      omega
    rw [if_neg e, if_neg (by omega), h1]
    congr 2
    omega
end CK
namespace CK
open PySem PySem.Spec PyProof.Rows L2 VG FR HD M9
end CK
namespace CK
open PySem PySem.Spec PyProof.Rows L2 VG FR HD M9
/-- the law's totals: a tuple of lots -/
def TotsIn (K : PySem.W.Frag) (H : Hp) (t : Addr) (m : Nat) (ts : List (List Int)) : Prop := ∃ xs, SqT K H t xs ∧ Tots K H xs ts ∧ ts.length ≤ 12 ∧ ∀ c ∈ ts, LotOk (m : Int) c
theorem TotsIn.mono {K : PySem.W.Frag} {H H' : Hp} {t : Addr} {m : Nat} {ts : List (List Int)} (s : Same H H') (h : TotsIn K H t m ts) : TotsIn K H' t m ts := by
  obtain ⟨xs, h1, h2, h3⟩ := h
  exact ⟨xs, seqT s h1, h2.mono s, h3⟩
theorem rep_one (v : V) : ∀ n : Nat, (List.replicate n [v]).flatten = List.replicate n v
  | 0 => rfl
  | n + 1 => by
    rw [List.replicate_succ, List.flatten_cons, rep_one v n, List.replicate_succ]
    rfl
end CK
namespace CK
open PySem PySem.Spec PyProof.Rows L2 VG FR HD M9
def fronts9 : List Str := [("" : String), ("b" : String), ("zz" : String), ("mnopq" : String)]
def lett9 (j : Nat) : Nat := cABC.cps.toList.getD ((2 * j) % 26) 0
def baseN9 (fr : Str) (j : Nat) : Str := fr ++ (⟨#[lett9 j]⟩ : Str)
def front9 (fr : Str) (b : Bool) : Str := if b = true then (("a" : String) : Str) else baseN9 fr 0
def namesL9 (fr : Str) (m : Nat) (b : Bool) : List Str := ((List.range m).map (baseN9 fr)).set 0 (front9 fr b)
theorem names9_all : (fronts9.all fun fr => [true, false].all fun b => decide ((namesL9 fr 12 b).map fun z => z.cps.toList).Nodup && (namesL9 fr 12 b).all nmB) = true := by decide +kernel
theorem names9_fine {fr : Str} (hf : fr ∈ fronts9) {m : Nat} (hm : m ≤ 12) (m1 : 1 ≤ m) (b : Bool) : (namesL9 fr m b).Nodup ∧ ∀ z ∈ namesL9 fr m b, NameOk z := by
  have h2 := List.all_eq_true.mp (List.all_eq_true.mp names9_all fr hf) b (by cases b <;> simp)
  rw [Bool.and_eq_true] at h2
  have e : namesL9 fr m b = (namesL9 fr 12 b).take m := by
    refine List.ext_getElem? fun j => ?_
    unfold namesL9
    by_cases jm : j < m
    · rw [List.getElem?_take_of_lt jm]
      by_cases ja : 0 = j
      · subst ja
        rw [List.getElem?_set_self (by rw [List.length_map, List.length_range]; exact m1), List.getElem?_set_self (by rw [List.length_map, List.length_range]; omega)]
      · rw [List.getElem?_set_ne ja, List.getElem?_set_ne ja, List.getElem?_map, List.getElem?_map, List.getElem?_range jm, List.getElem?_range (by omega)]
    · rw [List.getElem?_eq_none (by rw [List.length_set, List.length_map, List.length_range]; omega), List.getElem?_eq_none (by rw [List.length_take]; omega)]
  have nd : (namesL9 fr 12 b).Nodup := List.Pairwise.imp (fun {x y} h e => h (by rw [e])) (List.pairwise_map.mp (of_decide_eq_true h2.1))
  rw [e]
  exact ⟨nd.sublist (List.take_sublist _ _), fun z hz => ok_of_B (List.all_eq_true.mp h2.2 z (List.mem_of_mem_take hz))⟩
theorem lett9_at (j : Nat) (h : j < 12) : cABC.cps.toList[(2 * j) % 26]? = some (lett9 j) := by
  have all : ∀ i : Fin 12, cABC.cps.toList[(2 * i.1) % 26]? = some (lett9 i.1) := by decide +kernel
  exact all ⟨j, h⟩
theorem front9_len {fr : Str} (h : fr ∈ fronts9) : fr.length ≤ 5 := by
  have all : (fronts9.all fun z => decide (z.length ≤ 5)) = true := by decide +kernel
  exact of_decide_eq_true (List.all_eq_true.mp all fr h)
end CK
namespace CK
open PySem PySem.Spec PyProof.Rows L2 VG FR HD M9
theorem same_of {H H' : Hp} {z : Addr} {o : HO} (n : H z = none) (e : L2.upd H z o = H') : Same H H' := e ▸ same_upd n
theorem at_of {H H' : Hp} {z : Addr} {o : HO} (e : L2.upd H z o = H') : H' z = some o := e ▸ upd_same
theorem Tots.app {K : PySem.W.Frag} {H : Hp} : ∀ {xs ys : List V} {ts us : List (List Int)}, Tots K H xs ts → Tots K H ys us → Tots K H (xs ++ ys) (ts ++ us)
  | [], _, [], _, _, h => h
  | _ :: _, _, _ :: _, _, h, g => ⟨h.1, Tots.app h.2 g⟩
theorem Tots.take {K : PySem.W.Frag} {H : Hp} : ∀ {xs : List V} {ts : List (List Int)} (n : Nat), Tots K H xs ts → Tots K H (xs.take n) (ts.take n)
  | [], [], 0, _ => trivial
  | [], [], _ + 1, _ => trivial
  | _ :: _, _ :: _, 0, _ => trivial
  | _ :: _, _ :: _, n + 1, h => ⟨h.1, Tots.take n h.2⟩
theorem rgV_ints (n : Int) : ∃ cs : List Int, rgV 0 n = cs.map V.int ∧ cs.length = n.toNat := ⟨(List.range (n - 0).toNat).map fun i => (0 : Int) + (i : Nat), by unfold rgV; rw [List.map_map]; rfl, by rw [List.length_map, List.length_range, Int.sub_zero]⟩
/-- totals as they are drawn: D lists them -/
structure TotW (K : PySem.W.Frag) (p q : Addr) (G : Hp) (n : Nat) (H : Hp) (D : Addr) (xs : List V) (ts : List (List Int)) (i : Nat) : Prop where
  on : On p q G H
  lst : H D = some (.lst xs)
  tots : Tots K H xs ts
  len : ts.length = i
  ok : ∀ c ∈ ts, LotOk (n : Int) c
section
variable {K : PySem.W.Frag} {p q : Addr} {G H H' : Hp} {n : Nat} {D : Addr} {xs : List V} {ts : List (List Int)} {i : Nat}
theorem TotW.draw (h : TotW K p q G n H D xs ts i) (fD : D ≠ p ∧ D ≠ q) (hd : Hd p q H') (k : Keep p q H H') : TotW K p q G n H' D xs ts i :=
  ⟨h.on.draw hd k, k D _ fD.1 fD.2 h.lst, h.tots.keep h.on.hd k, h.len, h.ok⟩
theorem TotW.same (h : TotW K p q G n H D xs ts i) (s : Same H H') : TotW K p q G n H' D xs ts i := ⟨h.on.same s, s _ _ h.lst, h.tots.mono s, h.len, h.ok⟩
theorem TotW.put (h : TotW K p q G n H D xs ts i) {S : Addr} {ys zs : List V} (f : S ≠ p ∧ S ≠ q ∧ G S = none) (ne : D ≠ S) (k : H S = some (.lst ys)) : TotW K p q G n (L2.upd H S (.lst zs)) D xs ts i :=
  ⟨h.on.put f, by rw [upd_ne ne]; exact h.lst, h.tots.upd k, h.len, h.ok⟩
theorem TotW.add (h : TotW K p q G n H D xs ts i) {t : Addr} {c : List Int} (f : D ≠ p ∧ D ≠ q ∧ G D = none) (ht : SqT K H t (c.map V.int)) (hc : LotOk (n : Int) c) : TotW K p q G n (L2.upd H D (.lst (xs ++ [.ref t]))) D (xs ++ [.ref t]) (ts ++ [c]) (i + 1) :=
  ⟨h.on.put f, upd_same, Tots.upd h.lst (Tots.snoc ht h.tots), by rw [List.length_append, h.len]; rfl, fun d hd => (List.mem_append.mp hd).elim (h.ok d) fun z => by rw [List.mem_singleton.mp z]; exact hc⟩
end
def spLawTots9 (K : PySem.W.Frag) : Sp := fun vs H Q _ => ∃ (p q : Addr) (n : Nat), vs = [.ref p, .int (n : Int)] ∧ Hd p q H ∧ 1 ≤ n ∧ n ≤ 12 ∧
  ∀ (H' : Hp) (u : Addr) (xs : List V) (ts : List (List Int)), On p q (frz p q H) H' → H' u = some (.tup xs) → Tots K H' xs ts → ts.length ≤ 12 → (∀ c ∈ ts, LotOk (n : Int) c) → Q (.ref u) H'
end CK
namespace CK
open PySem PySem.Spec PyProof.Rows L2 VG FR HD M9
theorem amt_mk {a b : Int} (b0 : 0 < b) (bd : b ∣ DL) (ha : a.natAbs ≤ 1000000) : AmtOk (M2.mk a b) := by
  refine ⟨M2.mk_low (by omega), ?_, Nat.le_trans (M2.mk_size (by omega)).1 ha⟩
  rw [M2.mk_pos b0]
  show b / (M2.g a b : Int) ∣ DL
  have gd : ((M2.g a b : Nat) : Int) ∣ b := by
    have := Nat.gcd_dvd_right a.natAbs b.natAbs
    exact Int.ofNat_dvd_left.mpr this
  exact Int.dvd_trans (Int.ediv_dvd_of_dvd gd) bd
end CK
namespace VG
open PySem PySem.Spec PyProof.Rows L2
end VG
namespace CK
open PySem PySem.Spec PyProof.Rows L2 VG FR HD M9
theorem EU.keep {K : PySem.W.Frag} {H H' : Hp} {p q a : Addr} {es : List Int} (hd : Hd p q H) (kp : Keep p q H H') (h : EU K H a es) : EU K H' a es := by
  obtain ⟨xs, h1, h2⟩ := h
  exact ⟨xs, seqTK hd kp h1, h2.keep hd kp⟩
theorem LineAt.keep {K : PySem.W.Frag} {H H' : Hp} {p q : Addr} (hd : Hd p q H) (kp : Keep p q H H') {v : V} {r : Line} (h : LineAt K H v r) : LineAt K H' v r := by
  obtain ⟨t, s, e, h1, h2⟩ := h
  exact ⟨t, s, e, seqTK hd kp h1, seqTK hd kp h2⟩
theorem Lines.keep {K : PySem.W.Frag} {H H' : Hp} {p q : Addr} (hd : Hd p q H) (kp : Keep p q H H') : ∀ {vs : List V} {rs : List Line}, Lines K H vs rs → Lines K H' vs rs
  | [], [], _ => trivial
  | _ :: _, _ :: _, h => ⟨h.1.keep hd kp, Lines.keep hd kp h.2⟩
  | [], _ :: _, h => h.elim
  | _ :: _, [], h => h.elim
theorem Lines.updL {K : PySem.W.Frag} {H : Hp} {D : Addr} {ys zs : List V} (hD : H D = some (.lst ys)) : ∀ {vs : List V} {rs : List Line}, Lines K H vs rs → Lines K (L2.upd H D (.lst zs)) vs rs
  | [], [], _ => trivial
  | _ :: _, _ :: _, h => ⟨by
    obtain ⟨t, s, e, h1, h2⟩ := h.1
    exact ⟨t, s, e, seqT_upd hD h1, seqT_upd hD h2⟩, Lines.updL hD h.2⟩
  | [], _ :: _, h => h.elim
  | _ :: _, [], h => h.elim
theorem Lines.snoc {K : PySem.W.Frag} {H : Hp} {v : V} {r : Line} (hv : LineAt K H v r) : ∀ {vs : List V} {rs : List Line}, Lines K H vs rs → Lines K H (vs ++ [v]) (rs ++ [r])
  | [], [], _ => ⟨hv, trivial⟩
  | _ :: _, _ :: _, h => ⟨h.1, Lines.snoc hv h.2⟩
  | [], _ :: _, h => h.elim
  | _ :: _, [], h => h.elim
theorem line_of {m k : Nat} {p : Q2} {n : Int} (hk : k < m) (ha : AmtOk p) (hn : n ∈ choQ p) : LineOk m (k, p, n) := by
  have hc2 : n ∈ choU (un p) := by
    rw [← cho_U, U_un ha.low ha.dvd]
    exact hn
  exact ⟨hk, ha, cho_whole (un_le ha.low ha.top) hc2, Nat.lt_of_lt_of_le (cho_near hc2) (by decide)⟩
theorem choQ_ne (p : Q2) : choQ p ≠ [] ∧ (choQ p).length ≤ 2 := by
  unfold choQ
  split
  · exact ⟨by simp, by simp⟩
  · exact ⟨by simp, by simp⟩
theorem AmtOk.bt3 {p : Q2} (h : AmtOk p) : Bt 3000 p := ⟨Nat.lt_of_lt_of_le h.bt.1 (Nat.pow_le_pow_right (by decide) (by decide)), Nat.lt_of_lt_of_le h.bt.2 (Nat.pow_le_pow_right (by decide) (by decide))⟩
/-- a day as it is drawn: D lists its lines, e the errors behind them -/
structure DayW (K : PySem.W.Frag) (p q : Addr) (G : Hp) (m : Nat) (H : Hp) (D e : Addr) (xs : List V) (rs : List Line) (i : Nat) : Prop where
  on : On p q G H
  lst : H D = some (.lst xs)
  lines : Lines K H xs rs
  len : rs.length = i
  ok : ∀ r ∈ rs, LineOk m r
  err : EU K H e (errU m rs)
section
variable {K : PySem.W.Frag} {p q : Addr} {G H H' : Hp} {m : Nat} {D e : Addr} {xs : List V} {rs : List Line} {i : Nat}
theorem DayW.draw (h : DayW K p q G m H D e xs rs i) (fD : D ≠ p ∧ D ≠ q) (hd : Hd p q H') (k : Keep p q H H') : DayW K p q G m H' D e xs rs i :=
  ⟨h.on.draw hd k, k D _ fD.1 fD.2 h.lst, h.lines.keep h.on.hd k, h.len, h.ok, h.err.keep h.on.hd k⟩
theorem DayW.same (h : DayW K p q G m H D e xs rs i) (s : Same H H') : DayW K p q G m H' D e xs rs i := ⟨h.on.same s, s _ _ h.lst, h.lines.mono s, h.len, h.ok, h.err.mono s⟩
theorem DayW.put (h : DayW K p q G m H D e xs rs i) {S : Addr} {ys zs : List V} (f : S ≠ p ∧ S ≠ q ∧ G S = none) (ne : D ≠ S) (k : H S = some (.lst ys)) : DayW K p q G m (L2.upd H S (.lst zs)) D e xs rs i :=
  ⟨h.on.put f, by rw [upd_ne ne]; exact h.lst, h.lines.updL k, h.len, h.ok, h.err.updL k⟩
end
end CK
namespace VG
open PySem PySem.Spec PyProof.Rows L2
/-- an exception has come down to this def: what a clause may lean on -/
structure Came (X : Cx) (ps : List (Addr × Obj)) (x : Addr) (G : Heap) (before now : Shared) (y : L2.St) (Y : Hp) (kl : Value) (dd : Option Addr) : Prop where
  inv : Inv X ps y Y before
  ground : ∀ b o, before.heap.get? b = some o → b ∉ frs X.stack → G.get? b = some o
  fly : HandSPX.FlyingZ G (X.env :: X.outer) x (Zc kl dd) now.heap
  up : before.heap.UpToSlots now.heap
  own : Y x = none
  os : now.os = before.os
  gens : AllBare now.gens
section
variable {X : Cx} {ps : List (Addr × Obj)} {x : Addr} {G : Heap} {before now : Shared} {y : L2.St} {Y : Hp} {kl : Value} {dd : Option Addr}
theorem Came.stands (c : Came X ps x G before now y Y kl dd) : Inv X ps y Y now := c.inv.landed c.ground c.fly.1 c.up c.os c.gens
theorem Came.suite (hf : X.env.frame = some X.env.locals) (c : Came X ps x G before now y Y kl dd) :
    ∃ ob, now.heap.get? x = some ob ∧ Zc kl dd ob ∧ (∃ vs, ob.data = .fields vs) ∧ Inv (X.suite x ((x, ob) :: (X.pn ++ ps))) [] y Y now := by
  obtain ⟨ob, vs, e, z, dt⟩ := c.fly.there
  have off : x ∉ frs (X.env :: X.outer) := fun m => by
    obtain ⟨_, o2, e2, q⟩ := c.fly.2.2.1.mem m
    cases e.symm.trans e2
    exact q _ dt
  refine ⟨ob, e, z, ⟨vs, dt⟩, c.stands.suite e dt c.own (fun q => off ?_) (fun q => off ?_)⟩
  · exact List.mem_filterMap.mpr ⟨X.env, List.mem_cons_self, by rw [hf, q]⟩
  · obtain ⟨v, h1, h2⟩ := List.mem_filterMap.mp q
    exact List.mem_filterMap.mpr ⟨v, List.mem_cons_of_mem _ h1, h2⟩
end
structure ClXR (P : Program) (w : World) (K : PySem.W.Frag) (mg : Str → Option Value) (base : Heap) (k : Nat) (x : Str) (ks : List Str) (sp : Sp) : Prop where
  ex : ∃ (f : Addr) (fd : FuncData) (ps : List Str), FnOk P w K mg base (L2.CX P w) k f fd ps sp ∧ mg x = some (.ref f) ∧ PySem.W.keepIn K (.ref f) = true ∧ KBinds K fd ps ks (fun us ws => us ++ ws.reverse) (fun vs zs => vs ++ zs.reverse)
structure ClN (P : Program) (w : World) (K : PySem.W.Frag) (mg : Str → Option Value) (base : Heap) (k : Nat) (x : Str) (n : Nat) (ks : List Str) (gV : List V → List V → List V) (sp : Sp) : Prop where
  ex : ∃ (f : Addr) (fd : FuncData) (ps : List Str) (g : List Value → List Value → List Value), FnOk P w K mg base CX0 k f fd ps sp ∧ mg x = some (.ref f) ∧ PySem.W.keepIn K (.ref f) = true ∧ KBn K fd ps n ks g gV
section
variable {X : Cx} {k j n : Nat} {x : Str} {sp : Sp} {p pos : Pos} {e : Expr} {es : List Expr} {kws : List Keyword} {ks : List Str} {t tk : TA} {gV : List V → List V → List V}
theorem pe_cln (c : ClN X.prog X.w X.K X.mg X.base k x n ks gV sp) (hr : Room j X.A) (hk : k ≤ j) (hg : Gl X x) (ha : PA X (e :: es) t) (hkw : PK X kws tk)
    (h1 : (backToKw pos (keywordEach kws X.env)).all (·.1.isSome) = true := by rfl) (h2 : (backToKw pos (keywordEach kws X.env)).filterMap (·.1) = ks := by rfl)
    (h3 : (x == ("__debug__" : Str)) = false := by decide) (h5 : starEach (e :: es) X.env = (false, eval e X.env) :: starEach es X.env := by rfl)
    (h4 : ((backTo pos (starEach (e :: es) X.env)).any (·.1) || (backToKw pos (keywordEach kws X.env)).any (·.1.isNone)) = false := by rfl) :
    PE X (.Call (.Name x p) (e :: es) kws pos) (tCallN n ks.length sp gV E0 t tk) := by
  obtain ⟨f, fd, ps, g, F, m, kp, b⟩ := c.ex
  exact pe_callN F (hr.mono hk) hg m kp b pass0 ha hkw h1 h2 h3 h5 h4
end
theorem kbn_of {K : PySem.W.Frag} {x qual : Str} {params : Arguments} {body : List Stmt} {scope : Scope} {dvs : List V} {f : Addr} {fd : FuncData} {ps : List Str} {n : Nat} {ks : List Str} {g : List Value → List Value → List Value} {gV : List V → List V → List V}
    (F : FunD K x qual params body scope dvs [] f fd) (hd : dvs ≠ [])
    (h : ∀ (T : Addr) (kV doc pm : Value) (an : Option Addr) (cdv ct : Value) (us its ws : List Value), us.length = n → its.length = dvs.length → ws.length = ks.length →
      ∃ c, bindArgs (PySem.W.fnOf x qual params body scope (.ref T) kV doc pm an cdv ct) ⟨us, ks.zip ws⟩ = seqItems? (.ref T) >>= c ∧ c (some its.toArray) = pure (ps.zip (g us ws)))
    (rel : ∀ {vs : List V} {us : List Value} {zs : List V} {ws : List Value}, Vals vs us → Vals zs ws → Vals (gV vs zs) (g us ws)) : KBn K fd ps n ks g gV := by
  obtain ⟨oc, od, dV, kV, doc, pm, an, cdv, ct, osl, rfl, lk, hcd, hD, hK⟩ := F.ex
  rcases hD with ⟨e, _⟩ | ⟨_, T, o, its, m, rfl, lT, oT, rT⟩
  · exact absurd e hd
  · refine ⟨fun s us ws X l1 l2 => BindsTo.of_looks fun M => ?_, rel⟩
    obtain ⟨c, e1, e2⟩ := h T kV doc pm an cdv ct us its ws l1 rT.length.symm l2
    rw [e1]
    exact looks_items X lT oT (.of_pure e2)
end VG
namespace CK
open PySem PySem.Spec PyProof.Rows L2 VG FR HD
section
variable {X : Cx} {pins : List (Addr × Obj)} {σ : L2.St} {H : Hp} {s : Shared}
mutual
theorem Ov.reads (I : Inv X pins σ H s) : ∀ (d : PyData) (v : V) (u : Value), Ov X.K H v d → RelV v u → ∃ as, Reads s.heap u d as
  | .none, _, _, h, r => by
    cases h
    cases r
    exact ⟨[], Reads.none⟩
  | .bool b, _, _, h, r => by
    cases h
    cases r
    exact ⟨[], Reads.bool b⟩
  | .int i, _, _, h, r => by
    cases h
    obtain ⟨t, rfl⟩ := r
    exact ⟨[], Reads.int i t⟩
  | .str x, _, _, h, r => by
    cases h
    obtain ⟨t, rfl⟩ := r
    exact ⟨[], Reads.str x t⟩
  | .list ds, _, _, h, r => by
    cases h with
    | @lst a xs _ hs ha =>
      cases r
      obtain ⟨its, rv, ⟨o, n, ho, hc, _, hd⟩, _⟩ := I.list (show SqL X.K H a xs from .inl (.inl hs))
      obtain ⟨as, hr⟩ := Ov.readsAll I ds _ its ha rv
      exact ⟨a :: as, Reads.list ho hc hd hr⟩
  | .tuple ds, _, _, h, r => by
    cases h with
    | tup hs ha =>
      cases r
      obtain ⟨its, rv, ⟨o, ho, hc, n, hd⟩, _⟩ := I.tuple hs
      obtain ⟨as, hr⟩ := Ov.readsAll I ds _ its ha rv
      exact ⟨as, Reads.tuple ho hc hd hr⟩
  | .dict kvs, _, _, h, r => by
    cases h with
    | @dct a hs =>
      cases r
      obtain ⟨_, ns, vs, rel, o, es, ep, ho, hx, hd, _, prs, _⟩ := dk_of I.hok hs
      have v0 : vs = [] := by
        cases rel
        rfl
      subst v0
      have e0 : es.toList = [] := List.eq_nil_of_length_eq_zero prs.length
      exact ⟨[a], Reads.dict (h := s.heap) (kvs := []) (as := []) (bs := []) ho hx.1 hd (by rw [e0]; exact ReadsAll.nil) (by rw [e0]; exact ReadsAll.nil)⟩
theorem Ov.readsAll (I : Inv X pins σ H s) : ∀ (ds : List PyData) (vs : List V) (us : List Value), OvAll X.K H vs ds → Vals vs us → ∃ as, ReadsAll s.heap us ds as
  | [], _, _, h, r => by
    cases h
    cases r
    exact ⟨[], ReadsAll.nil⟩
  | d :: ds, _, _, h, r => by
    cases h with
    | cons h1 h2 =>
      cases r with
      | cons r1 r2 =>
        obtain ⟨as, q1⟩ := Ov.reads I d _ _ h1 r1
        obtain ⟨bs, q2⟩ := Ov.readsAll I ds _ _ h2 r2
        exact ⟨as ++ bs, ReadsAll.cons q1 q2⟩
end
/-- how a value shows itself within others -/
def Rep (X : Cx) (s : Shared) (u : Value) (d : PyData) : Prop := ∃ bs, ReadAtMost s.heap d.depth bs ∧ ReprK X.prog X.w bs s.heap d.depth u d.shown
mutual
theorem Ov.rep (I : Inv X pins σ H s) : ∀ (d : PyData) (v : V) (u : Value), Ov X.K H v d → RelV v u → d.showable = true → d.shown.length ≤ sizeLine → Rep X s u d
  | .none, _, _, h, r, _, _ => by
    cases h
    cases r
    refine ⟨[], (fun _ z => nomatch z), ?_⟩
    rw [PyData.shown]
    exact .of_is ReprIs.none _ _ _
  | .bool b, _, _, h, r, _, _ => by
    cases h
    cases r
    refine ⟨[], (fun _ z => nomatch z), ?_⟩
    rw [PyData.shown]
    exact .of_is (ReprIs.bool b) _ _ _
  | .int i, _, _, h, r, hs, _ => by
    cases h
    obtain ⟨t, rfl⟩ := r
    refine ⟨[], (fun _ z => nomatch z), ?_⟩
    rw [PyData.showable] at hs
    rw [PyData.shown]
    exact .of_is (ReprIs.int t (of_decide_eq_true hs)) _ _ _
  | .str x, _, _, h, r, _, hz => by
    cases h
    obtain ⟨t, rfl⟩ := r
    refine ⟨[], (fun _ z => nomatch z), ?_⟩
    rw [PyData.shown] at hz ⊢
    exact .of_is (ReprIs.str x t hz) _ _ _
  | .list ds, _, _, h, r, hs, hz => by
    cases h with
    | @lst a xs _ hl ha =>
      cases r
      obtain ⟨its, rv, ⟨o, n, ho, hc, _, hd⟩, _⟩ := I.list (show SqL X.K H a xs from .inl (.inl hl))
      obtain ⟨as, hr⟩ := Ov.readsAll I ds _ its ha rv
      rw [PyData.showable] at hs
      have hz2 : (listText (PyData.shownAll ds)).length ≤ sizeLine := hz
      obtain ⟨bs, hb, hk⟩ := Ov.repAll I ds _ its ha rv hs fun t ht => Nat.le_trans (listText_mem_le ht) hz2
      have rd : Reads s.heap (.ref a) (.list ds) (a :: as) := Reads.list ho hc hd hr
      have dp : PyData.depthAll ds < (PyData.list ds).depth := by
        rw [PyData.depth]
        omega
      refine ⟨a :: bs, ReadAtMost.cons rd (Nat.le_of_lt dp) hb, ?_⟩
      have hna := not_mem_of_deeper rd dp hb
      cases its with
      | nil =>
        cases hr
        exact ReprK.listEmpty ho hc hd
      | cons x l =>
        rw [PyData.depth]
        exact ReprK.list ho hc hd hna (by simpa using hk.length_eq) (fun i y e => hk.item i y (by simpa using e))
  | .tuple ds, _, _, h, r, hs, hz => by
    cases h with
    | @tup a xs _ hl ha =>
      cases r
      obtain ⟨its, rv, ⟨o, ho, hc, n, hd⟩, _⟩ := I.tuple hl
      obtain ⟨as, hr⟩ := Ov.readsAll I ds _ its ha rv
      rw [PyData.showable] at hs
      have hz2 : (tupleText (PyData.shownAll ds)).length ≤ sizeLine := hz
      obtain ⟨bs, hb, hk⟩ := Ov.repAll I ds _ its ha rv hs fun t ht => Nat.le_trans (tupleText_mem_le ht) hz2
      have rd : Reads s.heap (.ref a) (.tuple ds) as := Reads.tuple ho hc hd hr
      have dp : PyData.depthAll ds < (PyData.tuple ds).depth := by
        rw [PyData.depth]
        omega
      refine ⟨a :: bs, ReadAtMost.cons rd (Nat.le_of_lt dp) hb, ?_⟩
      rw [PyData.depth]
      exact ReprK.tuple ho hc hd (not_mem_of_deeper rd dp hb) hk
  | .dict kvs, _, _, h, r, hs, hz => by
    cases h with
    | @dct a hd0 =>
      cases r
      obtain ⟨_, ns, vs, rel, o, es, ep, ho, hx, hd, _, prs, _⟩ := dk_of I.hok hd0
      have v0 : vs = [] := by
        cases rel
        rfl
      subst v0
      have e0 : es.toList = [] := List.eq_nil_of_length_eq_zero prs.length
      have rd : Reads s.heap (.ref a) (.dict []) [a] := Reads.dict (kvs := []) (as := []) (bs := []) ho hx.1 hd (by rw [e0]; exact ReadsAll.nil) (by rw [e0]; exact ReadsAll.nil)
      refine ⟨[a], ReadAtMost.cons (n := 0) rd (Nat.zero_le _) (fun _ z => nomatch z), ?_⟩
      rw [PyData.depth]
      exact ReprK.dict (as := []) ho hx.1 hd ns List.not_mem_nil (by rw [e0]; exact .nil)
theorem Ov.repAll (I : Inv X pins σ H s) : ∀ (ds : List PyData) (vs : List V) (us : List Value), OvAll X.K H vs ds → Vals vs us → PyData.showableAll ds = true → (∀ t ∈ PyData.shownAll ds, t.length ≤ sizeLine) →
    ∃ bs, ReadAtMost s.heap (PyData.depthAll ds) bs ∧ ReprAllK X.prog X.w bs s.heap (PyData.depthAll ds) us (PyData.shownAll ds)
  | [], _, _, h, r, _, _ => by
    cases h
    cases r
    refine ⟨[], (fun _ z => nomatch z), ?_⟩
    rw [PyData.shownAll]
    exact .nil
  | d :: ds, _, _, h, r, hs, hz => by
    cases h with
    | cons h1 h2 =>
      cases r with
      | cons r1 r2 =>
        rw [PyData.showableAll, Bool.and_eq_true] at hs
        rw [PyData.shownAll] at hz
        obtain ⟨b1, q1, k1⟩ := Ov.rep I d _ _ h1 r1 hs.1 (hz _ List.mem_cons_self)
        obtain ⟨b2, q2, k2⟩ := Ov.repAll I ds _ _ h2 r2 hs.2 fun t ht => hz t (List.mem_cons_of_mem _ ht)
        rw [PyData.depthAll, PyData.shownAll]
        exact ⟨b1 ++ b2, (q1.mono (Nat.le_max_left _ _)).append (q2.mono (Nat.le_max_right _ _)), .cons ((k1.more fun b hb => List.mem_append_left _ hb).level_le (Nat.le_max_left _ _)) (k2.more_le (fun b hb => List.mem_append_right _ hb) (Nat.le_max_right _ _))⟩
end
end
def rReprO (K : PySem.W.Frag) : List V → Hp → VK → Prop := fun xs H Q =>
  ∃ v d, xs = [v] ∧ Ov K H v d ∧ d.showable = true ∧ d.depth ≤ 60 ∧ d.shown.length ≤ sizeLine ∧ Q (.str d.shown) H
theorem cr_reprO {X : Cx} (hg : X.A.guards = some []) (hu : X.A.units + 64 < cLine) : CallR X (.builtin "repr") (rReprO X.K) := by
  intro pins s σ H vs us Q I r h
  obtain ⟨v, d, rfl, hd, h1, h2, h3, q⟩ := h
  cases r with
  | @cons _ u _ _ r1 r2 =>
    cases r2
    have go : ∀ (T idr : String) (a : Addr), s.TypeIs (.ref a) T → SlotG T "__repr__" idr →
        (∀ (E Q : Value → Shared → Prop), (∀ h' u tk, (∀ b o, s.heap.get? b = some o → h'.get? b = some o) → Q (.str d.shown u) { s with heap := h', toks := tk }) → wpAny (model X.prog X.w) X.A.in1 (call (.builtin idr) [.ref a]) Q E s) →
        wpAny (model X.prog X.w) X.A (call (.builtin "repr") [.ref a]) (fun u s1 => ∃ v H1, Inv X pins σ H1 s1 ∧ RelV v u ∧ Q v H1) X.xe s := fun T idr a ty sl run =>
      call_repr_slot (by omega) ty sl (run _ _ fun h' u tk hk => ⟨_, _, rfl, ⟨.str (PyData.shown _), H, I.kept hk, ⟨u, rfl⟩, q⟩⟩)
    cases hd with
    | non =>
      cases r1
      exact P.repr_of_none ⟨.str (PyData.none).shown, H, I.tok _, ⟨s.toks, rfl⟩, q⟩
    | bl b =>
      cases r1
      refine P.repr_of_bool ⟨.str (PyData.bool b).shown, H, I.tok _, ⟨s.toks, ?_⟩, q⟩
      cases b <;> rfl
    | int i =>
      obtain ⟨t, rfl⟩ := r1
      rw [PyData.showable] at h1
      exact P.repr_of_int (of_decide_eq_true h1) ⟨.str (PyData.int i).shown, H, I.tok _, ⟨s.toks, rfl⟩, q⟩
    | str x =>
      obtain ⟨t, rfl⟩ := r1
      exact P.repr_of_str ⟨.str (PyData.str x).shown, H, I.tok _, ⟨s.toks, rfl⟩, q⟩ h3
    | @dct a hd0 =>
      cases r1
      obtain ⟨_, ns, vs, rel, o, es, ep, ho, hx, hd, _, prs, _⟩ := dk_of I.hok hd0
      have v0 : vs = [] := by
        cases rel
        rfl
      subst v0
      have e0 : es.toList = [] := List.eq_nil_of_length_eq_zero prs.length
      exact go "dict" "dict.__repr__" a ⟨o, ho, hx.1⟩ F.slot_dict_repr fun E Q hQ => call_dict_reprK (as := []) (ps := []) (d := 0) ho hx.1 hd ns List.not_mem_nil (by rw [e0]; exact .nil) (g := []) hg (fun b _ => Clear.nil b) (by show X.A.units + 1 + (0 + 1) < cLine; omega) (fun _ _ z => z) hQ h3
    | @lst a xs ds hl ha =>
      cases r1
      obtain ⟨its, rv, ⟨o, n, ho, hc, _, hd⟩, _⟩ := I.list (show SqL X.K H a xs from .inl (.inl hl))
      obtain ⟨as, hr⟩ := Ov.readsAll I ds _ its ha rv
      rw [PyData.showable] at h1
      have hz2 : (listText (PyData.shownAll ds)).length ≤ sizeLine := h3
      obtain ⟨bs, hb, hk⟩ := Ov.repAll I ds _ its ha rv h1 fun t ht => Nat.le_trans (listText_mem_le ht) hz2
      have rd : Reads s.heap (.ref a) (.list ds) (a :: as) := Reads.list ho hc hd hr
      rw [PyData.depth] at h2
      have hna := not_mem_of_deeper rd (n := PyData.depthAll ds) (by rw [PyData.depth]; omega) hb
      refine go "list" "list.__repr__" a ⟨o, ho, hc⟩ F.slot_list_repr.toG fun E Q hQ => ?_
      cases its with
      | nil =>
        cases hr
        exact call_list_repr_empty ⟨o, ho, hc⟩ ho hd (hQ s.heap _ _ fun _ _ z => z)
      | cons x l =>
        exact call_list_reprK ho hc hd hna (by simpa using hk.length_eq) (fun i y e => hk.item i y (by simpa using e)) (g := []) hg (fun b _ => Clear.nil b) (by show X.A.units + 1 + (PyData.depthAll ds + 1) < cLine; omega) (fun _ _ z => z) hQ hz2
    | @tup a xs ds hl ha =>
      cases r1
      obtain ⟨its, rv, ⟨o, ho, hc, n, hd⟩, _⟩ := I.tuple hl
      obtain ⟨as, hr⟩ := Ov.readsAll I ds _ its ha rv
      rw [PyData.showable] at h1
      have hz2 : (tupleText (PyData.shownAll ds)).length ≤ sizeLine := h3
      obtain ⟨bs, hb, hk⟩ := Ov.repAll I ds _ its ha rv h1 fun t ht => Nat.le_trans (tupleText_mem_le ht) hz2
      have rd : Reads s.heap (.ref a) (.tuple ds) as := Reads.tuple ho hc hd hr
      rw [PyData.depth] at h2
      have hna := not_mem_of_deeper rd (n := PyData.depthAll ds) (by rw [PyData.depth]; omega) hb
      exact go "tuple" "tuple.__repr__" a ⟨o, ho, hc⟩ F.slot_tuple_repr fun E Q hQ => call_tuple_reprK ho hc hd hna hk (g := []) hg (fun b _ => Clear.nil b) (by show X.A.units + 1 + (PyData.depthAll ds + 1) < cLine; omega) (fun _ _ z => z) hQ hz2
def ShO (k B : Nat) (d : PyData) : Prop := d.showable = true ∧ d.depth ≤ k ∧ d.shown.length ≤ B
theorem ShO.mono {k B k' B' : Nat} {d : PyData} (h : ShO k B d) (hk : k ≤ k') (hB : B ≤ B') : ShO k' B' d := ⟨h.1, Nat.le_trans h.2.1 hk, Nat.le_trans h.2.2 hB⟩
theorem Shn.o {k B : Nat} {d : PyData} (h : Shn d k B) : ShO k B d := ⟨h.1, h.2.2.1, h.2.2.2⟩
theorem shO_all {k B : Nat} : ∀ ds : List PyData, (∀ d ∈ ds, ShO k B d) → PyData.showableAll ds = true ∧ PyData.depthAll ds ≤ k ∧ piled (PyData.shownAll ds) ≤ (B + 2) * ds.length
  | [], _ => ⟨by simp [PyData.showableAll], by simp [PyData.depthAll], by simp [PyData.shownAll, piled]⟩
  | d :: ds, h => by
    have ⟨a1, a3, a4⟩ := h d List.mem_cons_self
    have ⟨b1, b3, b4⟩ := shO_all ds fun e he => h e (List.mem_cons_of_mem _ he)
    refine ⟨?_, ?_, ?_⟩
    · rw [PyData.showableAll, a1, b1]
      rfl
    · rw [PyData.depthAll]
      omega
    · rw [PyData.shownAll, piled_cons, List.length_cons, Nat.mul_succ]
      omega
theorem shO_tup {k B n : Nat} {ds : List PyData} (h : ∀ d ∈ ds, ShO k B d) (hn : ds.length ≤ n) : ShO (k + 1) ((B + 2) * n + 2) (.tuple ds) := by
  have ⟨b1, b3, b4⟩ := shO_all ds h
  refine ⟨?_, ?_, ?_⟩
  · rw [PyData.showable]
    exact b1
  · rw [PyData.depth]
    omega
  · show (tupleText (PyData.shownAll ds)).length ≤ _
    have e := fmt_text (PyData.shownAll ds)
    have m : (B + 2) * ds.length ≤ (B + 2) * n := Nat.mul_le_mul_left _ hn
    omega
/-- atoms -/
def Atm (d : PyData) : Prop := ShO 1 60 d
theorem atm_int {a : Int} (h : a.natAbs < 2 ^ 50) : Atm (.int a) := (Shn.o (shn_int (k := 50) (by decide) h (by decide))).mono (by decide) (by decide)
end CK
namespace CK
open PySem PySem.Spec PyProof.Rows L2 VG FR HD M9
end CK
namespace CK
open PySem PySem.Spec PyProof.Rows L2 VG FR HD M9
end CK
namespace CK
open PySem PySem.Spec PyProof.Rows L2 VG FR HD M9
/-- what was heard of one -/
def HeardIs (K : PySem.W.Frag) (H : Hp) (z : Str) : Option Int → V → Prop
  | none, w => w = .non
  | some i, w => ∃ u, w = .ref u ∧ SqT K H u [.str z, .int i]
theorem HeardIs.mono {K : PySem.W.Frag} {H H' : Hp} {z : Str} (s : Same H H') : ∀ {o : Option Int} {w : V}, HeardIs K H z o w → HeardIs K H' z o w
  | none, _, h => h
  | some _, _, ⟨u, e, h⟩ => ⟨u, e, seqT s h⟩
theorem seqT_off {K : PySem.W.Frag} {H : Hp} {t : Addr} {xs : List V} (h : SqT K H t xs) : SqT K (offT H) t xs := by
  rcases h with h | h
  · rcases h with h | ⟨ob, h⟩
    · exact .inl (.inl (by unfold offT; rw [h]))
    · exact .inl (.inr ⟨ob, by unfold offT; rw [h]⟩)
  · exact .inr h
theorem offT_over {H H' : Hp} (e : LamX.ExtN H H') : Same (offT H) H' := (offT_no H).over (offT_same H) e
theorem HeardIs.ext {K : PySem.W.Frag} {H H' : Hp} {z : Str} (e : LamX.ExtN H H') : ∀ {o : Option Int} {w : V}, HeardIs K H z o w → HeardIs K H' z o w
  | none, _, h => h
  | some _, _, ⟨u, e1, h⟩ => ⟨u, e1, seqT (offT_over e) (seqT_off h)⟩
theorem HeardIs.updL {K : PySem.W.Frag} {H : Hp} {z : Str} {D : Addr} {ys zs : List V} (hD : H D = some (.lst ys)) : ∀ {o : Option Int} {w : V}, HeardIs K H z o w → HeardIs K (L2.upd H D (.lst zs)) z o w
  | none, _, h => h
  | some _, _, ⟨u, e, h⟩ => ⟨u, e, seqT_upd hD h⟩
theorem line_lt {m : Nat} {d : PyData} {i : Int} (h : lineFault m d = some i) : i.natAbs ≤ 1000 := by
  unfold lineFault at h
  split at h
  · split at h
    · split at h
      · cases h
      · rw [← Option.some.inj h]; decide
    · rw [← Option.some.inj h]; decide
  · rw [← Option.some.inj h]; decide
end CK
namespace CK
open PySem PySem.Spec PyProof.Rows L2 VG FR HD M9
end CK
namespace CK
open PySem PySem.Spec PyProof.Rows L2 VG FR HD M9
/-- values of which something is so -/
def AllP (K : PySem.W.Frag) (F : Hp) (P : PyData → Prop) (vs : List V) : Prop := ∀ v ∈ vs, ∃ d, Ov K F v d ∧ P d
theorem AllP.mono {K : PySem.W.Frag} {F F' : Hp} {P : PyData → Prop} {vs : List V} (s : Same F F') (h : AllP K F P vs) : AllP K F' P vs := fun v hv => by
  obtain ⟨d, a, b⟩ := h v hv
  exact ⟨d, a.mono s, b⟩
theorem AllP.app {K : PySem.W.Frag} {F : Hp} {P : PyData → Prop} {vs us : List V} (h : AllP K F P vs) (g : AllP K F P us) : AllP K F P (vs ++ us) := fun v hv => (List.mem_append.mp hv).elim (h v) (g v)
theorem sh_tup2 {ds : List PyData} (h : ∀ d ∈ ds, Atm d) (l : ds.length ≤ 3) : ShO 2 200 (.tuple ds) := (shO_tup (k := 1) (B := 60) (n := 3) h l).mono (by decide) (by decide)
/-- pairs, the first of A, the second of B -/
def PrsIn (K : PySem.W.Frag) (H : Hp) (A B ws : List V) : Prop := ∀ w ∈ ws, ∃ z x y, w = .ref z ∧ SqT K H z [x, y] ∧ x ∈ A ∧ y ∈ B
section
variable {K : PySem.W.Frag} {H H' : Hp} {A B ws : List V}
theorem PrsIn.mono (s : Same H H') (h : PrsIn K H A B ws) : PrsIn K H' A B ws := fun w hw => by
  obtain ⟨z, x, y, e, h1, h2⟩ := h w hw
  exact ⟨z, x, y, e, seqT s h1, h2⟩
theorem PrsIn.keep {p q : Addr} (h : PrsIn K H A B ws) (hd : Hd p q H) (kp : Keep p q H H') : PrsIn K H' A B ws := fun w hw => by
  obtain ⟨z, x, y, e, h1, h2⟩ := h w hw
  exact ⟨z, x, y, e, seqTK hd kp h1, h2⟩
theorem PrsIn.updL {D : Addr} {ys zs : List V} (hD : H D = some (.lst ys)) (h : PrsIn K H A B ws) : PrsIn K (L2.upd H D (.lst zs)) A B ws := fun w hw => by
  obtain ⟨z, x, y, e, h1, h2⟩ := h w hw
  exact ⟨z, x, y, e, seqT_upd hD h1, h2⟩
theorem PrsIn.add {z : Addr} {x y : V} (h : PrsIn K H A B ws) (hz : SqT K H z [x, y]) (hx : x ∈ A) (hy : y ∈ B) : PrsIn K H A B (ws ++ [.ref z]) := fun w hw => (List.mem_append.mp hw).elim (h w) fun e => ⟨z, x, y, List.mem_singleton.mp e, hz, hx, hy⟩
end
end CK
namespace CK
open PySem PySem.Spec PyProof.Rows L2 VG FR HD M9
def lineP (r : Line) : PyData := .tuple [.int (r.1 : Int), dQ r.2.1, .int r.2.2]
/-- an item of a day, right or odd -/
def IV (m : Nat) (d : PyData) : Prop := ShO 4 3000 d ∧ (lineD m d = true → (rowD d).2.1.2 ∣ DL)
theorem OvAll.app {K : PySem.W.Frag} {H : Hp} : ∀ {vs us : List V} {ds es : List PyData}, OvAll K H vs ds → OvAll K H us es → OvAll K H (vs ++ us) (ds ++ es)
  | _, _, _, _, .nil, h => h
  | _, _, _, _, .cons a r, h => .cons a (r.app h)
theorem OvAll.take {K : PySem.W.Frag} {H : Hp} : ∀ {vs : List V} {ds : List PyData} (n : Nat), OvAll K H vs ds → OvAll K H (vs.take n) (ds.take n)
  | _, _, 0, h => by rw [List.take_zero, List.take_zero]; exact .nil
  | _, _, _ + 1, .nil => .nil
  | _, _, n + 1, .cons a r => .cons a (r.take n)
theorem OvAll.drop {K : PySem.W.Frag} {H : Hp} : ∀ {vs : List V} {ds : List PyData} (n : Nat), OvAll K H vs ds → OvAll K H (vs.drop n) (ds.drop n)
  | _, _, 0, h => h
  | _, _, _ + 1, .nil => .nil
  | _, _, n + 1, .cons a r => r.drop n
theorem sh_q {p : Q2} (h : AmtOk p) : ShO 2 200 (dQ p) := by
  have b := h.bt
  unfold Bt at b
  exact sh_tup2 (fun x hx => by
    simp only [List.mem_cons, List.not_mem_nil, or_false] at hx
    rcases hx with e | e <;> subst e <;> exact atm_int (by omega)) (Nat.le_of_ble_eq_true rfl)
theorem sh_four {ds : List PyData} (h : ∀ d ∈ ds, ShO 2 300 d) (l : ds.length ≤ 4) : ShO 4 3000 (.tuple ds) := (shO_tup (k := 2) (B := 300) (n := 4) h l).mono (by decide) (by decide)
theorem atm2 {d : PyData} (h : Atm d) : ShO 2 300 d := h.mono (by decide) (by decide)
theorem lines_iv {m : Nat} {rs : List Line} (ho : ∀ r ∈ rs, LineOk m r) (hm : m ≤ 12) : ∀ x ∈ rs.map lineP, IV m x := fun x hx => by
  obtain ⟨r, hr, rfl⟩ := List.mem_map.mp hx
  have lo := ho r hr
  have h1 := lo.kind
  have h2 := lo.whole
  refine ⟨sh_four (fun y hy => ?_) (Nat.le_of_ble_eq_true rfl), fun _ => lo.amt.dvd⟩
  simp only [List.mem_cons, List.not_mem_nil, or_false] at hy
  rcases hy with e | e | e
  · rw [e]; exact atm2 (atm_int (by omega))
  · rw [e]; exact (sh_q lo.amt).mono (Nat.le_refl 2) (by decide)
  · rw [e]; exact atm2 (atm_int (by omega))
/-- days of which one item is another one of B -/
def RowsIn (K : PySem.W.Frag) (H : Hp) (xs : List V) (a : Nat) (B ws : List V) : Prop := ∀ w ∈ ws, ∃ z y, w = .ref z ∧ SqT K H z (xs.take a ++ [y] ++ xs.drop (a + 1)) ∧ y ∈ B
section
variable {K : PySem.W.Frag} {H H' : Hp} {xs B ws : List V} {a : Nat}
theorem RowsIn.mono (s : Same H H') (h : RowsIn K H xs a B ws) : RowsIn K H' xs a B ws := fun w hw => by
  obtain ⟨z, y, e, h1, h2⟩ := h w hw
  exact ⟨z, y, e, seqT s h1, h2⟩
theorem RowsIn.keep {p q : Addr} (h : RowsIn K H xs a B ws) (hd : Hd p q H) (kp : Keep p q H H') : RowsIn K H' xs a B ws := fun w hw => by
  obtain ⟨z, y, e, h1, h2⟩ := h w hw
  exact ⟨z, y, e, seqTK hd kp h1, h2⟩
theorem RowsIn.updL {D : Addr} {ys zs : List V} (hD : H D = some (.lst ys)) (h : RowsIn K H xs a B ws) : RowsIn K (L2.upd H D (.lst zs)) xs a B ws := fun w hw => by
  obtain ⟨z, y, e, h1, h2⟩ := h w hw
  exact ⟨z, y, e, seqT_upd hD h1, h2⟩
theorem RowsIn.add {z : Addr} {y : V} (h : RowsIn K H xs a B ws) (hz : SqT K H z (xs.take a ++ [y] ++ xs.drop (a + 1))) (hy : y ∈ B) : RowsIn K H xs a B (ws ++ [.ref z]) := fun w hw => (List.mem_append.mp hw).elim (h w) fun e => ⟨z, y, List.mem_singleton.mp e, hz, hy⟩
end
end CK
namespace CK
open PySem PySem.Spec PyProof.Rows L2 VG FR HD M9
theorem rowLP {r : Line} : rowD (lineP r) = r := by
  obtain ⟨k, ⟨a, b⟩, n⟩ := r
  show (((some ((k : Int))).getD 0).toNat, (a, b), n) = (k, (a, b), n)
  rw [Option.getD_some, Int.toNat_natCast]
theorem ov_line {K : PySem.W.Frag} {H : Hp} {v : V} {r : Line} (h : LineAt K H v r) : Ov K H v (lineP r) := by
  obtain ⟨t, s, e, h1, h2⟩ := h
  subst e
  exact .tup h1 (.cons (.int _) (.cons (.tup h2 (.cons (.int _) (.cons (.int _) .nil))) (.cons (.int _) .nil)))
def spLong (K : PySem.W.Frag) (T : List (Addr × Str)) : Sp := fun vs H Q _ => ∃ (p q : Addr), vs = [.ref p] ∧ Hd p q H ∧ LamX.Tabs T H ∧ ∀ H', OnT T p q (GB p q H) H' → Q (.bl true) H'
end CK
namespace CK
open PySem PySem.Spec PyProof.Rows L2 VG FR HD M9
theorem lines_ov2 {K : PySem.W.Frag} {H : Hp} : ∀ {vs : List V} {rs : List Line}, Lines K H vs rs → OvAll K H vs (rs.map lineP)
  | [], [], _ => .nil
  | _ :: _, _ :: _, ⟨h, r⟩ => .cons (ov_line h) (lines_ov2 r)
  | [], _ :: _, h => h.elim
  | _ :: _, [], h => h.elim
theorem seqT_ext {K : PySem.W.Frag} {F F' : Hp} (e : LamX.ExtN F F') {t : Addr} {xs : List V} (h : SqT K F t xs) : SqT K F' t xs := by
  rcases h with h | h
  · rcases h with h | ⟨ob, h⟩
    · exact .inl (.inl (e _ _ h fun _ z => by cases z))
    · exact .inl (.inr ⟨ob, e _ _ h fun _ z => by cases z⟩)
  · exact .inr h
mutual
theorem Ov.ext {K : PySem.W.Frag} {F F' : Hp} (e : LamX.ExtN F F') : ∀ {v : V} {d : PyData}, Ov K F v d → Ov K F' v d
  | _, _, .non => .non
  | _, _, .bl b => .bl b
  | _, _, .int i => .int i
  | _, _, .str x => .str x
  | _, _, .dct h => .dct (e _ _ h fun _ z => by cases z)
  | _, _, .lst h r => .lst (e _ _ h fun _ z => by cases z) (OvAll.ext e r)
  | _, _, .tup h r => .tup (seqT_ext e h) (OvAll.ext e r)
theorem OvAll.ext {K : PySem.W.Frag} {F F' : Hp} (e : LamX.ExtN F F') : ∀ {vs : List V} {ds : List PyData}, OvAll K F vs ds → OvAll K F' vs ds
  | _, _, .nil => .nil
  | _, _, .cons h r => .cons (Ov.ext e h) (OvAll.ext e r)
end
theorem totsIn_gb {K : PySem.W.Frag} {p q t : Addr} {H : Hp} {m : Nat} {ts : List (List Int)} (hd : Hd p q H) (h : TotsIn K H t m ts) : TotsIn K (GB p q H) t m ts := by
  obtain ⟨xs, h1, h2, h3⟩ := h
  exact ⟨xs, seqT_gb hd h1, tots_gb hd h2, h3⟩
theorem day_dv {m : Nat} {rs : List Line} (ho : ∀ r ∈ rs, LineOk m r) : ∀ x ∈ itemsD (.tuple (rs.map lineP)), lineD m x = true → (rowD x).2.1.2 ∣ DL := fun x hx _ => by
  have hx : x ∈ rs.map lineP := hx
  obtain ⟨r, hr, rfl⟩ := List.mem_map.mp hx
  rw [rowLP]
  exact (ho r hr).amt.dvd
theorem sqL_gb {K : PySem.W.Frag} {p q a : Addr} {H H' : Hp} {xs : List V} (np : H p = none) (nq : H q = none) (s : Same H H') (h : SqL K H a xs) : SqL K (GB p q H') a xs := by
  rcases h with h | h
  · rcases h with h | ⟨ob, h⟩
    · exact .inl (.inl (gb_at (s _ _ h) ⟨ne_of_none h np, ne_of_none h nq⟩ fun _ z => by cases z))
    · exact .inl (.inr ⟨ob, gb_at (s _ _ h) ⟨ne_of_none h np, ne_of_none h nq⟩ fun _ z => by cases z⟩)
  · exact .inr h
def kX : List Str := ["cup", "jam", "tea"]
def tX : List (List Int) := [[0, 1, 2], [0, 2], [1, 2]]
theorem okX : TabOk kX tX := ⟨kinds_dec (by decide) (by decide +kernel) (by decide +kernel), by decide, fun c hc => lot_dec (List.all_eq_true.mp (by decide +kernel : tX.all (lotB (kX.length : Int)) = true) c hc)⟩
end CK
namespace CK
open PySem PySem.Spec PyProof.Rows L2 VG FR HD M9
theorem bt3 {p : Q2} (h1 : p.1.natAbs < 2 ^ 20) (h2 : p.2.natAbs < 2 ^ 20) : Bt 3000 p := ⟨Nat.lt_of_lt_of_le h1 (Nat.pow_le_pow_right (by decide) (by decide)), Nat.lt_of_lt_of_le h2 (Nat.pow_le_pow_right (by decide) (by decide))⟩
end CK
namespace K10
open PySem PySem.Spec PyProof.Rows L2 VG FR CK HD M9
open K2 (cut_ints)
def topS (i : Nat) : Stmt := PySem.Challenge.pw_centsatonce_k10_whole_kept_days_of_told.main.body.getD i (.Pass ⟨0, 0, 0, 0⟩)
abbrev s_is_an_integer : Stmt := topS 4
abbrev N_is_an_integer : List Str := ["value"]
theorem sc_is_an_integer : FnScope N_is_an_integer ["value"] (defScope s_is_an_integer) := ⟨rfl, rfl, rfl, by decide +kernel, rfl, by decide +kernel, by decide +kernel⟩
abbrev s_is_number : Stmt := topS 5
abbrev N_is_number : List Str := ["value"]
theorem sc_is_number : FnScope N_is_number ["value"] (defScope s_is_number) := ⟨rfl, rfl, rfl, by decide +kernel, rfl, by decide +kernel, by decide +kernel⟩
abbrev s_is_number_below : Stmt := topS 6
abbrev N_is_number_below : List Str := ["value", "many"]
theorem sc_is_number_below : FnScope N_is_number_below ["value", "many"] (defScope s_is_number_below) := ⟨rfl, rfl, rfl, by decide +kernel, rfl, by decide +kernel, by decide +kernel⟩
abbrev s_are_numbers_below : Stmt := topS 10
abbrev N_are_numbers_below : List Str := ["value", "many", "item"]
theorem sc_are_numbers_below : FnScope N_are_numbers_below ["value", "many"] (defScope s_are_numbers_below) := ⟨rfl, rfl, rfl, by decide +kernel, rfl, by decide +kernel, by decide +kernel⟩
abbrev s_is_ascending : Stmt := topS 11
abbrev N_is_ascending : List Str := ["some", "one", "other"]
theorem sc_is_ascending : FnScope N_is_ascending ["some"] (defScope s_is_ascending) := ⟨rfl, rfl, rfl, by decide +kernel, rfl, by decide +kernel, by decide +kernel⟩
abbrev s_is_lot_below : Stmt := topS 12
abbrev N_is_lot_below : List Str := ["value", "many"]
theorem sc_is_lot_below : FnScope N_is_lot_below ["value", "many"] (defScope s_is_lot_below) := ⟨rfl, rfl, rfl, by decide +kernel, rfl, by decide +kernel, by decide +kernel⟩
abbrev s_check_totals : Stmt := topS 52
abbrev N_check_totals : List Str := ["totals", "many", "at", "total"]
theorem sc_check_totals : FnScope N_check_totals ["totals", "many"] (defScope s_check_totals) := ⟨rfl, rfl, rfl, by decide +kernel, rfl, by decide +kernel, by decide +kernel⟩
abbrev s_is_name : Stmt := topS 7
abbrev N_is_name : List Str := ["value", "letter"]
theorem sc_is_name : FnScope N_is_name ["value"] (defScope s_is_name) := ⟨rfl, rfl, rfl, by decide +kernel, rfl, by decide +kernel, by decide +kernel⟩
abbrev s_are_names : Stmt := topS 9
abbrev N_are_names : List Str := ["value", "item"]
theorem sc_are_names : FnScope N_are_names ["value"] (defScope s_are_names) := ⟨rfl, rfl, rfl, by decide +kernel, rfl, by decide +kernel, by decide +kernel⟩
abbrev s_check_kinds : Stmt := topS 51
abbrev N_check_kinds : List Str := ["kinds"]
theorem sc_check_kinds : FnScope N_check_kinds ["kinds"] (defScope s_check_kinds) := ⟨rfl, rfl, rfl, by decide +kernel, rfl, by decide +kernel, by decide +kernel⟩
abbrev i_Table : Stmt := inClass (topS 50) 0
theorem sc_i_Table : FnScope ["self", "kinds", "totals"] ["self", "kinds", "totals"] (defScope i_Table) := ⟨rfl, rfl, rfl, by decide +kernel, rfl, by decide +kernel, by decide +kernel⟩
abbrev s_is_tuple_of : Stmt := topS 8
abbrev N_is_tuple_of : List Str := ["value", "many"]
theorem sc_is_tuple_of : FnScope N_is_tuple_of ["value", "many"] (defScope s_is_tuple_of) := ⟨rfl, rfl, rfl, by decide +kernel, rfl, by decide +kernel, by decide +kernel⟩
abbrev s_added : Stmt := topS 21
abbrev N_added : List Str := ["one", "other", "top", "bottom", "more", "under", "shared", "rest", "high", "common"]
theorem sc_added : FnScope N_added ["one", "other"] (defScope s_added) := ⟨rfl, rfl, rfl, by decide +kernel, rfl, by decide +kernel, by decide +kernel⟩
abbrev s__law_draw : Stmt := topS 55
abbrev N__law_draw : List Str := ["heap", "many", "rest"]
theorem sc__law_draw : FnScope N__law_draw ["heap", "many"] (defScope s__law_draw) := ⟨rfl, rfl, rfl, by decide +kernel, rfl, by decide +kernel, by decide +kernel⟩
abbrev s__law_pick : Stmt := topS 56
abbrev N__law_pick : List Str := ["heap", "some"]
theorem sc__law_pick : FnScope N__law_pick ["heap", "some"] (defScope s__law_pick) := ⟨rfl, rfl, rfl, by decide +kernel, rfl, by decide +kernel, by decide +kernel⟩
abbrev s__law_heap : Stmt := topS 54
abbrev N__law_heap : List Str := ["script", "cell", "cells", "stir"]
theorem sc__law_heap : FnScope N__law_heap ["script"] (defScope s__law_heap) := ⟨rfl, rfl, rfl, by decide +kernel, rfl, by decide +kernel, by decide +kernel⟩
abbrev s_is_fraction : Stmt := topS 20
abbrev N_is_fraction : List Str := ["value", "top", "bottom"]
theorem sc_is_fraction : FnScope N_is_fraction ["value"] (defScope s_is_fraction) := ⟨rfl, rfl, rfl, by decide +kernel, rfl, by decide +kernel, by decide +kernel⟩
abbrev s_opposite_of : Stmt := topS 22
abbrev N_opposite_of : List Str := ["one", "top", "bottom"]
theorem sc_opposite_of : FnScope N_opposite_of ["one"] (defScope s_opposite_of) := ⟨rfl, rfl, rfl, by decide +kernel, rfl, by decide +kernel, by decide +kernel⟩
abbrev s_taken : Stmt := topS 23
abbrev N_taken : List Str := ["one", "other"]
theorem sc_taken : FnScope N_taken ["one", "other"] (defScope s_taken) := ⟨rfl, rfl, rfl, by decide +kernel, rfl, by decide +kernel, by decide +kernel⟩
abbrev s_is_small : Stmt := topS 24
abbrev N_is_small : List Str := ["one"]
theorem sc_is_small : FnScope N_is_small ["one"] (defScope s_is_small) := ⟨rfl, rfl, rfl, by decide +kernel, rfl, by decide +kernel, by decide +kernel⟩
abbrev s_floor_of : Stmt := topS 26
abbrev N_floor_of : List Str := ["one"]
theorem sc_floor_of : FnScope N_floor_of ["one"] (defScope s_floor_of) := ⟨rfl, rfl, rfl, by decide +kernel, rfl, by decide +kernel, by decide +kernel⟩
abbrev s_ceiling_of : Stmt := topS 27
abbrev N_ceiling_of : List Str := ["one"]
theorem sc_ceiling_of : FnScope N_ceiling_of ["one"] (defScope s_ceiling_of) := ⟨rfl, rfl, rfl, by decide +kernel, rfl, by decide +kernel, by decide +kernel⟩
abbrev s_sum_of : Stmt := topS 28
abbrev N_sum_of : List Str := ["some", "total", "one"]
theorem sc_sum_of : FnScope N_sum_of ["some"] (defScope s_sum_of) := ⟨rfl, rfl, rfl, by decide +kernel, rfl, by decide +kernel, by decide +kernel⟩
abbrev s_error_of_line : Stmt := topS 36
abbrev N_error_of_line : List Str := ["amount", "whole"]
theorem sc_error_of_line : FnScope N_error_of_line ["amount", "whole"] (defScope s_error_of_line) := ⟨rfl, rfl, rfl, by decide +kernel, rfl, by decide +kernel, by decide +kernel⟩
abbrev s_are_small : Stmt := topS 25
abbrev N_are_small : List Str := ["some", "one"]
theorem sc_are_small : FnScope N_are_small ["some"] (defScope s_are_small) := ⟨rfl, rfl, rfl, by decide +kernel, rfl, by decide +kernel, by decide +kernel⟩
abbrev s_no_errors : Stmt := topS 37
abbrev N_no_errors : List Str := ["table", "_"]
theorem sc_no_errors : FnScope N_no_errors ["table"] (defScope s_no_errors) := ⟨rfl, rfl, rfl, by decide +kernel, rfl, by decide +kernel, by decide +kernel⟩
abbrev s_error_of_total : Stmt := topS 38
abbrev N_error_of_total : List Str := ["table", "errors", "total", "kind"]
theorem sc_error_of_total : FnScope N_error_of_total ["table", "errors", "total"] (defScope s_error_of_total) := ⟨rfl, rfl, rfl, by decide +kernel, rfl, by decide +kernel, by decide +kernel⟩
abbrev s_totals_by : Stmt := topS 39
abbrev N_totals_by : List Str := ["table", "errors", "total"]
theorem sc_totals_by : FnScope N_totals_by ["table", "errors"] (defScope s_totals_by) := ⟨rfl, rfl, rfl, by decide +kernel, rfl, by decide +kernel, by decide +kernel⟩
abbrev s_totals_behind : Stmt := topS 40
abbrev N_totals_behind : List Str := ["table", "errors", "kind", "change", "behind", "total", "error"]
theorem sc_totals_behind : FnScope N_totals_behind ["table", "errors", "kind", "change"] (defScope s_totals_behind) := ⟨rfl, rfl, rfl, by decide +kernel, rfl, by decide +kernel, by decide +kernel⟩
abbrev s_course_of : Stmt := topS 41
abbrev N_course_of : List Str := ["table", "day", "errors", "course", "kind", "amount", "whole", "_"]
theorem sc_course_of : FnScope N_course_of ["table", "day"] (defScope s_course_of) := ⟨rfl, rfl, rfl, by decide +kernel, rfl, by decide +kernel, by decide +kernel⟩
abbrev s_first_off : Stmt := topS 42
abbrev N_first_off : List Str := ["table", "day", "at", "errors"]
theorem sc_first_off : FnScope N_first_off ["table", "day"] (defScope s_first_off) := ⟨rfl, rfl, rfl, by decide +kernel, rfl, by decide +kernel, by decide +kernel⟩
abbrev s_is_amount : Stmt := topS 32
abbrev N_is_amount : List Str := ["value"]
theorem sc_is_amount : FnScope N_is_amount ["value"] (defScope s_is_amount) := ⟨rfl, rfl, rfl, by decide +kernel, rfl, by decide +kernel, by decide +kernel⟩
abbrev s_choices : Stmt := topS 33
abbrev N_choices : List Str := ["amount", "low", "high"]
theorem sc_choices : FnScope N_choices ["amount"] (defScope s_choices) := ⟨rfl, rfl, rfl, by decide +kernel, rfl, by decide +kernel, by decide +kernel⟩
abbrev s_is_rounded_line : Stmt := topS 34
abbrev N_is_rounded_line : List Str := ["table", "value", "kind", "amount", "whole"]
theorem sc_is_rounded_line : FnScope N_is_rounded_line ["table", "value"] (defScope s_is_rounded_line) := ⟨rfl, rfl, rfl, by decide +kernel, rfl, by decide +kernel, by decide +kernel⟩
abbrev s_check_day : Stmt := topS 35
abbrev N_check_day : List Str := ["table", "value", "at", "line"]
theorem sc_check_day : FnScope N_check_day ["table", "value"] (defScope s_check_day) := ⟨rfl, rfl, rfl, by decide +kernel, rfl, by decide +kernel, by decide +kernel⟩
abbrev s_is_day : Stmt := topS 43
abbrev N_is_day : List Str := ["table", "value", "kept"]
theorem sc_is_day : FnScope N_is_day ["table", "value", "kept"] (defScope s_is_day) := ⟨rfl, rfl, rfl, by decide +kernel, rfl, by decide +kernel, by decide +kernel⟩
abbrev s__law_fraction : Stmt := topS 59
abbrev N__law_fraction : List Str := ["top", "bottom", "one", "other", "step"]
theorem sc__law_fraction : FnScope N__law_fraction ["top", "bottom"] (defScope s__law_fraction) := ⟨rfl, rfl, rfl, by decide +kernel, rfl, by decide +kernel, by decide +kernel⟩
abbrev s__law_choices : Stmt := topS 60
abbrev N__law_choices : List Str := ["amount", "low"]
theorem sc__law_choices : FnScope N__law_choices ["amount"] (defScope s__law_choices) := ⟨rfl, rfl, rfl, by decide +kernel, rfl, by decide +kernel, by decide +kernel⟩
abbrev s__law_names : Stmt := topS 57
abbrev N__law_names : List Str := ["heap", "many", "letters", "front", "found", "at"]
theorem sc__law_names : FnScope N__law_names ["heap", "many"] (defScope s__law_names) := ⟨rfl, rfl, rfl, by decide +kernel, rfl, by decide +kernel, by decide +kernel⟩
abbrev s__law_totals : Stmt := topS 58
abbrev N__law_totals : List Str := ["heap", "many", "found", "shape", "at", "some", "kind"]
theorem sc__law_totals : FnScope N__law_totals ["heap", "many"] (defScope s__law_totals) := ⟨rfl, rfl, rfl, by decide +kernel, rfl, by decide +kernel, by decide +kernel⟩
section
variable {P : Program} {w : World} {K : PySem.W.Frag} {mg : Str → Option Value} {base : Heap}
theorem ok_is_an_integer {f : Addr} {fd : FuncData} (F : Fun K "is_an_integer" "is_an_integer" s_is_an_integer f fd) (z_isinstance : mg "isinstance" = none) (z_int : mg "int" = none) (z_bool : mg "bool" = none) :
    FnOk P w K mg base CX0 1 f fd ["value"] (spInt K) := by
  refine F.ok sc_is_an_integer (fun vs H Q E h => ?_) (fun cdv A outer s H vs Q E hr h => ?_)
  · obtain ⟨v, o, rfl, _⟩ := h
    rfl
  · obtain ⟨v, o, rfl, hp, q⟩ := h
    refine ⟨_, (pss_one (ps_ret (pe_and (pe_callB call_isi (by rfl) z_isinstance (by decide +kernel) (pa_cons (pv 0) (pa_cons (pe_bltn (v := .ty "int") (by rfl) z_int (by decide +kernel) rfl) pa_nil))) (pe_one (pe_not (pe_callB call_isi (by rfl) z_isinstance (by decide +kernel) (pa_cons (pv 0) (pa_cons (pe_bltn (v := .ty "bool") (by rfl) z_bool (by decide +kernel) rfl) pa_nil)))))))), ?_⟩
    rcases hp with ⟨a, rfl, rfl⟩ | ⟨rfl, ty, b1, b2, t, k1, k2, e⟩
    · refine ⟨_, rfl, _, _, _, _, true, rfl, .ty "int", .base (.int a), kb1, true, rfl, iteT ?_⟩
      exact ⟨_, rfl, _, _, _, _, false, rfl, .ty "bool", .base (.int a), kb2, _, rfl, q⟩
    · refine ⟨_, rfl, _, _, _, _, b1, rfl, .ty "int", t, kit_ty k1, b1, rfl, ?_⟩
      cases b1 with
      | false => exact iteF q
      | true =>
        refine iteT ⟨_, rfl, _, _, _, _, b2, rfl, .ty "bool", t, kit_ty k2, _, rfl, ?_⟩
        have e2 : (!b2) = false := e
        rw [e2]
        exact q
theorem ok_is_number {f : Addr} {fd : FuncData} (F : Fun K "is_number" "is_number" s_is_number f fd) (C_is_an_integer : Cl P w K mg base 1 "is_an_integer" (spInt K)) : FnOk P w K mg base CX0 2 f fd ["value"] (spNum K) := by
  refine F.ok sc_is_number (fun vs H Q E h => ?_) (fun cdv A outer s H vs Q E hr h => ?_)
  · obtain ⟨_, rfl, _⟩ := h
    rfl
  · obtain ⟨a, rfl, q⟩ := h
    refine ⟨_, (pss_one (ps_ret (pe_and (pe_cl C_is_an_integer hr (by decide) rfl (pa_cons (pv 0) pa_nil)) (pe_one (pe_cmpR op_ge (pv 0) pe_int (nomark _)))))), ?_⟩
    refine ⟨_, rfl, _, some a, rfl, .inl ⟨_, rfl, rfl⟩, true, rfl, iteT ?_⟩
    exact ⟨_, rfl, _, _, rfl, rfl, q⟩
theorem ok_is_number_below {f : Addr} {fd : FuncData} (F : Fun K "is_number_below" "is_number_below" s_is_number_below f fd) (C_is_number : Cl P w K mg base 2 "is_number" (spNum K)) : FnOk P w K mg base CX0 3 f fd ["value", "many"] spBelow := by
  refine F.ok sc_is_number_below (fun vs H Q E h => ?_) (fun cdv A outer s H vs Q E hr h => ?_)
  · obtain ⟨_, _, rfl, _⟩ := h
    rfl
  · obtain ⟨a, n, rfl, q⟩ := h
    refine ⟨_, (pss_one (ps_ret (pe_and (pe_cl C_is_number hr (by decide) rfl (pa_cons (pv 0) pa_nil)) (pe_one (pe_cmpR op_lt (pv 0) (pv 1) (nomark _)))))), ?_⟩
    refine ⟨_, rfl, a, rfl, _, rfl, ite2 (fun e => ?_) (fun e => ?_)⟩
    · have ha := of_decide_eq_true e
      refine ⟨_, rfl, _, rfl, _, _, rfl, rfl, ?_⟩
      have e2 : decide (a < n) = decide (0 ≤ a ∧ a < n) := decide_eq_decide.mpr ⟨fun z => ⟨ha, z⟩, fun z => z.2⟩
      show Q (.bl (decide (a < n))) H
      rw [e2]
      exact q
    · have ha : ¬ 0 ≤ a := fun z => e (decide_eq_true z)
      have e1 : decide (0 ≤ a ∧ a < n) = false := decide_eq_false (fun z => ha z.1)
      rw [e1] at q
      exact q
theorem ok_are_numbers_below {f : Addr} {fd : FuncData} (F : Fun K "are_numbers_below" "are_numbers_below" s_are_numbers_below f fd) (C_is_number_below : Cl P w K mg base 3 "is_number_below" spBelow) (z_isinstance : mg "isinstance" = none) (z_tuple : mg "tuple" = none) (z_all : mg "all" = none) :
    FnOk P w K mg base CX0 4 f fd ["value", "many"] (spNumsBelow K) := by
  refine F.ok sc_are_numbers_below (fun vs H Q E h => ?_) (fun cdv A outer s H vs Q E hr h => ?_)
  · obtain ⟨_, _, _, rfl, _⟩ := h
    rfl
  · obtain ⟨t, cs, n, rfl, hS, hl, hc, fin⟩ := h
    refine ⟨_, (pss_one (ps_ret (pe_and (pe_callB call_isi (by rfl) z_isinstance (by decide +kernel) (pa_cons (pv 0) (pa_cons (pe_bltn (v := .ty "tuple") (by rfl) z_tuple (by decide +kernel) rfl) pa_nil))) (pe_one (pe_callB (cr_all rfl) (by rfl) z_all (by decide +kernel) (pa_cons (pe_lc (own := [("item", 2)]) (by rfl) sc_are_numbers_below.nd (pi_tup (pv 0)) (blkOk_by (own := [("item", 2)]) (N := N_are_numbers_below) (sc := defScope s_are_numbers_below) (by decide +kernel)) (fun _ _ _ _ _ => (pg_name (i := 2) sc_are_numbers_below.nd rfl (.inl rfl))) (fun _ _ _ _ _ => pts_nil) (fun _ _ _ _ _ => (pe_cl C_is_number_below hr (by decide) rfl (pa_cons (pv 2) (pa_cons (pv 1) pa_nil))))) pa_nil)))))), ?_⟩
    refine ⟨_, rfl, _, _, _, _, true, rfl, .ty "tuple", tyT hS, kit_ty (by decide +kernel), true, rfl, iteT ?_⟩
    refine ⟨_, rfl, t, rfl, ⟨_, hS⟩, fun D nD => ?_⟩
    refine lc_it (walk_tup (K := K) (a := t) (xs := cs.map V.int)) (fun i H' => Same H H' ∧ ∃ bs : List Bool, bs.length = i ∧ bs.all id = true ∧ H' D = some (.lst (bs.map V.bl))) ⟨same_upd nD, [], rfl, rfl, upd_same⟩ (fun i H' _ h => seqT h.1 hS) ?_ ?_
    · rintro i v H1 H2 hi ⟨sm, bs, el, ea, hD⟩ ⟨e2, ex⟩
      subst e2
      rw [List.getElem?_map] at ex
      obtain ⟨c, ec, rfl⟩ := Option.map_eq_some_iff.mp ex
      have ⟨c0, c1⟩ := hc c (List.mem_of_getElem? ec)
      refine ⟨rfl, _, rfl, _, rfl, c, n, rfl, ?_⟩
      have il : i < cs.length := (List.getElem?_eq_some_iff.mp ec).1
      rw [decide_eq_true (⟨c0, c1⟩ : 0 ≤ c ∧ c < n)]
      refine ⟨bs.map V.bl, hD, ?_, HD.same_put sm nD, bs ++ [true], by rw [List.length_append, el]; rfl, ?_, ?_⟩
      · rw [List.length_map]
        have : sizeLine = 16777216 := by decide
        omega
      · rw [List.all_append, ea]
        rfl
      · rw [upd_same, List.map_append]
        rfl
    · rintro H1 ⟨sm, bs, el, ea, hD⟩
      refine ⟨D, bs, rfl, .inl (.inl hD), ?_⟩
      rw [ea]
      exact fin H1 sm
theorem ok_is_ascending {f : Addr} {fd : FuncData} (F : Fun K "is_ascending" "is_ascending" s_is_ascending f fd) (z_all : mg "all" = none) (z_zip : mg "zip" = none) : FnOk P w K mg base CX0 1 f fd ["some"] (spAsc K) := by
  refine F.ok sc_is_ascending (fun vs H Q E h => ?_) (fun cdv A outer s H vs Q E hr h => ?_)
  · obtain ⟨_, _, rfl, _⟩ := h
    rfl
  · obtain ⟨t, xs, rfl, hS, hl, hasc, fin⟩ := h
    refine ⟨_, (pss_one (ps_ret (pe_callB (cr_all rfl) (by rfl) z_all (by decide +kernel) (pa_cons (pe_lc (own := [("one", 1), ("other", 2)]) (by rfl) sc_is_ascending.nd (RZ.pi_zipA (by rfl) z_zip (pa_cons (pv 0) (pa_cons (pe_meet (pe_slice sl_tupA (pv 0) (po_some pe_int) po_none)) pa_nil))) (blkOk_by (own := [("one", 1), ("other", 2)]) (N := N_is_ascending) (sc := defScope s_is_ascending) (by decide +kernel)) (fun _ _ _ _ _ => (show PG _ _ (gTup K 2 _) from pg_tup rfl (pgs_cons (pg_name (i := 1) sc_is_ascending.nd rfl (.inl rfl)) (pgs_cons (pg_name (i := 2) sc_is_ascending.nd rfl (.inl rfl)) pgs_nil)))) (fun _ _ _ _ _ => pts_nil) (fun _ _ _ _ _ => (pe_cmpR (op_lt.or op_lt_str) (pv 1) (pv 2) (nomark _)))) pa_nil)))), ?_⟩
    refine ⟨_, rfl, fun v H' => ∃ u, v = .ref u ∧ Same H H' ∧ SqT K H' u (xs.drop 1), ?_, ?_⟩
    · refine ⟨_, rfl, 1, rfl, ?_⟩
      refine ⟨t, xs, rfl, hS, fun z => ?_, fun z u nu => ?_⟩
      · have e : HT.sIx xs.length 0 (some 1) = min 1 xs.length := HT.sIx_nat xs.length 0 1
        have e0 : xs.length = 0 := by
          have := z.1
          rw [e] at this
          omega
        have x0 : xs = [] := List.eq_nil_of_length_eq_zero e0
        subst x0
        exact ⟨t, rfl, Same.refl _, hS⟩
      · refine ⟨u, rfl, same_upd nu, ?_⟩
        have h := sqt (K := K) (upd_same (H := H) (a := u) (o := .tup (cutV xs (some 1) none)))
        rw [cut1] at h ⊢
        exact h
    rintro v H1 ⟨u, rfl, sm1, hU⟩
    have hS1 := seqT sm1 hS
    refine ⟨t, u, xs, xs.drop 1, rfl, .inr ⟨hS1, hU, fun D nD => ?_⟩⟩
    refine lc_it (walk_zipT (K := K) (a := t) (b := u) (xs := xs) (ys := xs.drop 1) (n := xs.length - 1) (by rw [List.length_drop]; omega)) (fun i H' => Same H1 H' ∧ ∃ bs : List Bool, bs.length = i ∧ bs.all id = true ∧ H' D = some (.lst (bs.map V.bl))) ⟨same_upd nD, [], rfl, rfl, upd_same⟩ (fun i H' _ h => ⟨seqT h.1 hS1, seqT h.1 hU⟩) ?_ ?_
    · rintro i v H2 H3 hi ⟨sm, bs, el, ea, hD⟩ ⟨T, x, y, rfl, nT, rfl, ex, ey⟩
      have ey2 : xs[i + 1]? = some y := by
        have z : (xs.drop 1)[i]? = some y := ey
        rw [List.getElem?_drop, Nat.add_comm] at z
        exact z
      have sT := same_upd (o := .tup [x, y]) nT
      have hlt := hasc i x y ex ey2
      have fin2 : ∃ acc : List V, (L2.upd H2 T (.tup [x, y])) D = some (.lst acc) ∧ acc.length < sizeLine ∧ Same H1 (L2.upd (L2.upd H2 T (.tup [x, y])) D (.lst (acc ++ [V.bl true]))) ∧ ∃ bs : List Bool, bs.length = i + 1 ∧ bs.all id = true ∧ (L2.upd (L2.upd H2 T (.tup [x, y])) D (.lst (acc ++ [V.bl true]))) D = some (.lst (bs.map V.bl)) := by
        refine ⟨bs.map V.bl, sT _ _ hD, ?_, HD.same_put (sm.trans sT) nD, bs ++ [true], by rw [List.length_append, el]; rfl, ?_, ?_⟩
        · have : sizeLine = 16777216 := by decide
          rw [List.length_map]
          omega
        · rw [List.all_append, ea]
          rfl
        · rw [upd_same, List.map_append]
          rfl
      obtain ⟨acc, f1, f2, f3, f4⟩ := fin2
      refine ⟨T, _, rfl, .inl (.inl upd_same), rfl, _, _, rfl, _, _, rfl, rfl, rfl, _, rfl, _, rfl, ?_⟩
      rcases hlt with ⟨a, b, rfl, rfl, ab⟩ | ⟨a, b, rfl, rfl, ab⟩
      · refine .inl ⟨_, _, rfl, rfl, acc, f1, f2, ?_⟩
        have e : decide (a < b) = true := decide_eq_true ab
        simp only [e]
        exact ⟨f3, f4⟩
      · refine .inr ⟨a, b, rfl, rfl, acc, f1, f2, ?_⟩
        have e : decide (a.cps.toList < b.cps.toList) = true := decide_eq_true ab
        rw [e]
        exact ⟨f3, f4⟩
    · rintro H2 ⟨sm, bs, el, ea, hD⟩
      refine ⟨D, bs, rfl, .inl (.inl hD), ?_⟩
      rw [ea]
      exact fin H2 (sm1.trans sm)
theorem ok_is_lot_below {f : Addr} {fd : FuncData} (F : Fun K "is_lot_below" "is_lot_below" s_is_lot_below f fd) (C_are_numbers_below : Cl P w K mg base 4 "are_numbers_below" (spNumsBelow K)) (C_is_ascending : Cl P w K mg base 1 "is_ascending" (spAsc K)) :
    FnOk P w K mg base CX0 5 f fd ["value", "many"] (spLot K) := by
  refine F.ok sc_is_lot_below (fun vs H Q E h => ?_) (fun cdv A outer s H vs Q E hr h => ?_)
  · obtain ⟨_, _, _, rfl, _⟩ := h
    rfl
  · obtain ⟨t, cs, n, rfl, hS, hl, hc, ha, fin⟩ := h
    refine ⟨_, (pss_one (ps_ret (pe_and (pe_cl C_are_numbers_below hr (by decide) rfl (pa_cons (pv 0) (pa_cons (pv 1) pa_nil))) (pe_one (pe_cl C_is_ascending hr (by decide) rfl (pa_cons (pv 0) pa_nil)))))), ?_⟩
    refine ⟨_, rfl, _, rfl, t, cs, n, rfl, hS, hl, hc, fun H1 sm => ⟨true, rfl, iteT ?_⟩⟩
    exact ⟨_, rfl, t, _, rfl, seqT sm hS, by rw [List.length_map]; exact hl, asc_ints ha, fun H2 sm2 => fin H2 (sm.trans sm2)⟩
theorem ok_check_totals {f fi Ci : Addr} {fd fdi : FuncData} {tk : Tok} (F : Fun K "check_totals" "check_totals" s_check_totals f fd) (C_is_lot_below : Cl P w K mg base 5 "is_lot_below" (spLot K)) (m_MOST_TOTALS : mg "MOST_TOTALS" = some (.int 12 tk))
    (e_InvalidTable : ErrC K mg "InvalidTable" Ci fi) (i_InvalidTable : FnOk P w K mg base CX0 1 fi fdi ["self", "at"] (spInitW K Ci "at")) (b_InvalidTable : Binds K fdi ["self", "at"] [])
    (z_isinstance : mg "isinstance" = none) (z_tuple : mg "tuple" = none) (z_len : mg "len" = none) (z_enumerate : mg "enumerate" = none) :
    FnOk P w K mg base (L2.CX P w) 6 f fd ["totals", "many"] (spCheckTotals K) := by
  refine F.okX sc_check_totals (fun vs H Q E h => ?_) (fun cdv A outer s H vs Q E hr h => ?_)
  · obtain ⟨_, _, _, _, rfl, _⟩ := h
    rfl
  · obtain ⟨t, xs, ts, n, rfl, hS, hT, hl, ho, fin⟩ := h
    refine ⟨_, (pss_cons (ps_if (PW.pt (pw_or (pt_not (pt_val (pe_callB call_isi (by rfl) z_isinstance (by decide +kernel) (pa_cons (pv 0) (pa_cons (pe_bltn (v := .ty "tuple") (by rfl) z_tuple (by decide +kernel) rfl) pa_nil))))) (pw_or1 (pt_cmpR op_gt (pe_callB call_len_seq (by rfl) z_len (by decide +kernel) (pa_cons (pv 0) pa_nil)) (pe_glob (v := .int 12) rfl m_MOST_TOTALS ⟨_, rfl⟩) (nomark _)))))
      (pss_one (ps_raise rfl (takes_of rfl rfl rfl rfl) (pmk_oex e_InvalidTable.o e_InvalidTable.iC e_InvalidTable.tI i_InvalidTable (hr.mono (by decide)) b_InvalidTable .nil pass0 rfl e_InvalidTable.gC (pa_cons (pe_un un_neg pe_int) pa_nil))))
      pss_nil)
    (pss_one (ps_for (passes_of rfl) rfl (pi_enumT (by rfl) z_enumerate (pa_cons (pv 0) pa_nil)) (pg_tup rfl (pgs_cons (pg_name (i := 2) sc_check_totals.nd rfl (.inl rfl)) (pgs_cons (pg_name (i := 3) sc_check_totals.nd rfl (.inl rfl)) pgs_nil)))
      (pss_one (ps_if (pt_not (pt_val (pe_cl C_is_lot_below hr (by decide) rfl (pa_cons (pv 3) (pa_cons (pv 1) pa_nil)))))
        (pss_one (ps_raise rfl (takes_of rfl rfl rfl rfl) (pmk_oex e_InvalidTable.o e_InvalidTable.iC e_InvalidTable.tI i_InvalidTable (hr.mono (by decide)) b_InvalidTable .nil pass0 rfl e_InvalidTable.gC (pa_cons (pv 2) pa_nil))))
        pss_nil))))), ?_⟩
    have lx := hT.len
    refine ⟨_, rfl, _, _, _, _, true, rfl, .ty "tuple", tyT hS, kit_ty (by decide +kernel), true, rfl, iteF ?_⟩
    refine ⟨_, rfl, t, _, rfl, .inr hS, _, _, rfl, rfl, _, rfl, ite2 (fun z => ?_) (fun z => ?_)⟩
    · have : (xs.length : Int) > 12 := of_decide_eq_true z
      omega
    refine ⟨_, rfl, t, xs, rfl, hS, ?_⟩
    refine for_it (walk_enumT (K := K) (a := t) (xs := xs)) (fun i σ H' => Same H H' ∧ ∃ y2 y3 : Option V, σ = [some (.ref t), some (.int n), y2, y3]) ⟨Same.refl _, _, _, rfl⟩ (fun i σ H' _ h => seqT h.1 hS) ?_ ?_
    · rintro i v σ H2 H3 hi ⟨sm, y2, y3, rfl⟩ ⟨U, x, rfl, nU, rfl, ex⟩
      obtain ⟨u, c, rfl, ec, hu⟩ := hT.get ex
      have sU := same_upd (o := .tup [.int (i : Nat), .ref u]) nU
      have ok := ho c (List.mem_of_getElem? ec)
      refine ⟨U, _, rfl, .inl (.inl upd_same), rfl, _, _, rfl, _, _, rfl, rfl, ?_⟩
      refine ⟨_, rfl, _, rfl, u, c, n, rfl, seqT (sm.trans sU) hu, ok.1, ok.2.1, ok.2.2, fun H4 s4 => ⟨true, rfl, iteF ?_⟩⟩
      exact ⟨(sm.trans sU).trans s4, _, _, rfl⟩
    · rintro σ H2 ⟨sm, y2, y3, rfl⟩
      exact fin H2 sm
theorem ok_is_name {f : Addr} {fd : FuncData} {tk : Tok} (F : Fun K "is_name" "is_name" s_is_name f fd) (m_LETTERS : ∃ u, mg "LETTERS" = some (.str cLETTERS u)) (m_LONGEST_NAME : mg "LONGEST_NAME" = some (.int 6 tk))
    (z_isinstance : mg "isinstance" = none) (z_str : mg "str" = none) (z_len : mg "len" = none) (z_all : mg "all" = none) : FnOk P w K mg base CX0 1 f fd ["value"] spName := by
  refine F.ok sc_is_name (fun vs H Q E h => ?_) (fun cdv A outer s H vs Q E hr h => ?_)
  · obtain ⟨_, rfl, _⟩ := h
    rfl
  · obtain ⟨z, rfl, ⟨n1, n2, n3⟩, fin⟩ := h
    refine ⟨_, (pss_cons (ps_if (PW.pt (pw_or (pt_not (pt_val (pe_callB call_isi (by rfl) z_isinstance (by decide +kernel) (pa_cons (pv 0) (pa_cons (pe_bltn (v := .ty "str") (by rfl) z_str (by decide +kernel) rfl) pa_nil))))) (pw_or1 (pt_not (pt_chain op_le op_le pe_int (pe_callB call_len_str (by rfl) z_len (by decide +kernel) (pa_cons (pv 0) pa_nil)) (pe_glob (v := .int 6) rfl m_LONGEST_NAME ⟨_, rfl⟩))))))
      (pss_one (ps_ret pe_bl))
      pss_nil)
    (pss_one (ps_ret (pe_callB (cr_all rfl) (by rfl) z_all (by decide +kernel) (pa_cons (pe_lc (own := [("letter", 1)]) (by rfl) sc_is_name.nd (pi_str (pv 0)) (blkOk_by (own := [("letter", 1)]) (N := N_is_name) (sc := defScope s_is_name) (by decide +kernel)) (fun _ _ _ _ _ => (pg_name (i := 1) sc_is_name.nd rfl (.inl rfl))) (fun _ _ _ _ _ => pts_nil) (fun _ _ _ _ _ => (pe_cmpR op_in_sign (pv 1) (pe_gs rfl m_LETTERS) rfl))) pa_nil))))), ?_⟩
    refine ⟨_, rfl, _, _, _, _, true, rfl, .ty "str", .base (.str z), kit_ty (by decide +kernel), true, rfl, iteF ?_⟩
    have zl : z.length = z.cps.size := rfl
    refine ⟨_, rfl, z, rfl, ?_, _, _, rfl, rfl, _, rfl, ite_eq true (decide_eq_true (by show (1 : Int) ≤ (z.length : Nat); omega)) (iteT ?_)⟩
    · have : sizeLine = 16777216 := by decide
      omega
    refine ⟨_, _, rfl, rfl, _, rfl, ite_eq false ?_ (iteF ?_)⟩
    · have e : decide (((z.length : Nat) : Int) ≤ 6) = true := decide_eq_true (by omega)
      rw [e]
      rfl
    refine ⟨_, rfl, z, rfl, fun D nD => ?_⟩
    refine lc_it (walk_str (z := z)) (fun i H' => Same H H' ∧ ∃ bs : List Bool, bs.length = i ∧ bs.all id = true ∧ H' D = some (.lst (bs.map V.bl))) ⟨same_upd nD, [], rfl, rfl, upd_same⟩ (fun _ _ _ _ => trivial) ?_ ?_
    · rintro i v H2 H3 hi ⟨sm, bs, el, ea, hD⟩ ⟨e2, c, ec, rfl⟩
      subst e2
      have cm : c ∈ z.cps.toList := by
        have q : z.cps.toList[i]? = some c := by rw [Array.getElem?_toList]; exact ec
        exact List.mem_of_getElem? q
      refine ⟨rfl, _, rfl, c, _, rfl, rfl, ?_⟩
      rw [decide_eq_true ((in_letters c).mpr (n3 c cm))]
      refine ⟨bs.map V.bl, hD, ?_, HD.same_put sm nD, bs ++ [true], by rw [List.length_append, el]; rfl, ?_, ?_⟩
      · rw [List.length_map]
        have : sizeLine = 16777216 := by decide
        omega
      · rw [List.all_append, ea]
        rfl
      · rw [upd_same, List.map_append]
        rfl
    · rintro H2 ⟨sm, bs, el, ea, hD⟩
      refine ⟨D, bs, rfl, .inl (.inl hD), ?_⟩
      rw [ea]
      exact fin H2 sm
theorem ok_are_names {f : Addr} {fd : FuncData} (F : Fun K "are_names" "are_names" s_are_names f fd) (C_is_name : Cl P w K mg base 1 "is_name" spName) (z_isinstance : mg "isinstance" = none) (z_tuple : mg "tuple" = none) (z_all : mg "all" = none) :
    FnOk P w K mg base CX0 2 f fd ["value"] (spNames K) := by
  refine F.ok sc_are_names (fun vs H Q E h => ?_) (fun cdv A outer s H vs Q E hr h => ?_)
  · obtain ⟨_, _, rfl, _⟩ := h
    rfl
  · obtain ⟨t, ks, rfl, hS, hl, hc, fin⟩ := h
    refine ⟨_, (pss_one (ps_ret (pe_and (pe_callB call_isi (by rfl) z_isinstance (by decide +kernel) (pa_cons (pv 0) (pa_cons (pe_bltn (v := .ty "tuple") (by rfl) z_tuple (by decide +kernel) rfl) pa_nil))) (pe_one (pe_callB (cr_all rfl) (by rfl) z_all (by decide +kernel) (pa_cons (pe_lc (own := [("item", 1)]) (by rfl) sc_are_names.nd (pi_tup (pv 0)) (blkOk_by (own := [("item", 1)]) (N := N_are_names) (sc := defScope s_are_names) (by decide +kernel)) (fun _ _ _ _ _ => (pg_name (i := 1) sc_are_names.nd rfl (.inl rfl))) (fun _ _ _ _ _ => pts_nil) (fun _ _ _ _ _ => (pe_cl C_is_name hr (by decide) rfl (pa_cons (pv 1) pa_nil)))) pa_nil)))))), ?_⟩
    refine ⟨_, rfl, _, _, _, _, true, rfl, .ty "tuple", tyT hS, kit_ty (by decide +kernel), true, rfl, iteT ?_⟩
    refine ⟨_, rfl, t, rfl, ⟨_, hS⟩, fun D nD => ?_⟩
    refine lc_it (walk_tup (K := K) (a := t) (xs := ks.map V.str)) (fun i H' => Same H H' ∧ ∃ bs : List Bool, bs.length = i ∧ bs.all id = true ∧ H' D = some (.lst (bs.map V.bl))) ⟨same_upd nD, [], rfl, rfl, upd_same⟩ (fun i H' _ h => seqT h.1 hS) ?_ ?_
    · rintro i v H1 H2 hi ⟨sm, bs, el, ea, hD⟩ ⟨e2, ex⟩
      subst e2
      rw [List.getElem?_map] at ex
      obtain ⟨z, ec, rfl⟩ := Option.map_eq_some_iff.mp ex
      have il : i < ks.length := (List.getElem?_eq_some_iff.mp ec).1
      refine ⟨rfl, _, rfl, z, rfl, hc z (List.mem_of_getElem? ec), fun H3 s3 => ?_⟩
      have sm3 := sm.trans s3
      refine ⟨bs.map V.bl, s3 _ _ hD, ?_, HD.same_put sm3 nD, bs ++ [true], by rw [List.length_append, el]; rfl, ?_, ?_⟩
      · rw [List.length_map]
        have : sizeLine = 16777216 := by decide
        omega
      · rw [List.all_append, ea]
        rfl
      · rw [upd_same, List.map_append]
        rfl
    · rintro H1 ⟨sm, bs, el, ea, hD⟩
      refine ⟨D, bs, rfl, .inl (.inl hD), ?_⟩
      rw [ea]
      exact fin H1 sm
theorem ok_check_kinds {f fi Ci : Addr} {fd fdi : FuncData} {tk : Tok} (F : Fun K "check_kinds" "check_kinds" s_check_kinds f fd) (C_are_names : Cl P w K mg base 2 "are_names" (spNames K)) (C_is_ascending : Cl P w K mg base 1 "is_ascending" (spAsc K)) (m_MOST_KINDS : mg "MOST_KINDS" = some (.int 12 tk))
    (e_InvalidTable : ErrC K mg "InvalidTable" Ci fi) (i_InvalidTable : FnOk P w K mg base CX0 1 fi fdi ["self", "at"] (spInitW K Ci "at")) (b_InvalidTable : Binds K fdi ["self", "at"] [])
    (z_isinstance : mg "isinstance" = none) (z_tuple : mg "tuple" = none) (z_len : mg "len" = none) :
    FnOk P w K mg base (L2.CX P w) 3 f fd ["kinds"] (spCheckKinds K) := by
  refine F.okX sc_check_kinds (fun vs H Q E h => ?_) (fun cdv A outer s H vs Q E hr h => ?_)
  · obtain ⟨_, _, rfl, _⟩ := h
    rfl
  · obtain ⟨t, ks, rfl, hS, ⟨l1, l2, l3, l4⟩, fin⟩ := h
    refine ⟨_, (pss_cons (ps_if (PW.pt (pw_or (pt_not (pt_val (pe_callB call_isi (by rfl) z_isinstance (by decide +kernel) (pa_cons (pv 0) (pa_cons (pe_bltn (v := .ty "tuple") (by rfl) z_tuple (by decide +kernel) rfl) pa_nil))))) (pw_or1 (pt_not (pt_chain op_le op_le pe_int (pe_callB call_len_seq (by rfl) z_len (by decide +kernel) (pa_cons (pv 0) pa_nil)) (pe_glob (v := .int 12) rfl m_MOST_KINDS ⟨_, rfl⟩))))))
      (pss_one (ps_raise rfl (takes_of rfl rfl rfl rfl) (pmk_oex e_InvalidTable.o e_InvalidTable.iC e_InvalidTable.tI i_InvalidTable (hr.mono (by decide)) b_InvalidTable .nil pass0 rfl e_InvalidTable.gC (pa_cons (pe_un un_neg pe_int) pa_nil))))
      pss_nil)
    (pss_one (ps_if (PW.pt (pw_or (pt_not (pt_val (pe_cl C_are_names hr (by decide) rfl (pa_cons (pv 0) pa_nil)))) (pw_or1 (pt_not (pt_val (pe_cl C_is_ascending hr (by decide) rfl (pa_cons (pv 0) pa_nil)))))))
      (pss_one (ps_raise rfl (takes_of rfl rfl rfl rfl) (pmk_oex e_InvalidTable.o e_InvalidTable.iC e_InvalidTable.tI i_InvalidTable (hr.mono (by decide)) b_InvalidTable .nil pass0 rfl e_InvalidTable.gC (pa_cons (pe_un un_neg pe_int) pa_nil))))
      pss_nil))), ?_⟩
    have ll : (ks.map V.str).length = ks.length := List.length_map _
    refine ⟨_, rfl, _, _, _, _, true, rfl, .ty "tuple", tyT hS, kit_ty (by decide +kernel), true, rfl, iteF ?_⟩
    refine ⟨_, rfl, t, _, rfl, .inr hS, _, _, rfl, rfl, _, rfl, ite_eq true (decide_eq_true (by omega)) (iteT ?_)⟩
    refine ⟨_, _, rfl, rfl, _, rfl, ite_eq false ?_ (iteF ?_)⟩
    · have e : decide ((((ks.map V.str).length : Nat) : Int) ≤ 12) = true := decide_eq_true (by omega)
      rw [e]
      rfl
    refine ⟨_, rfl, t, ks, rfl, hS, by omega, l3, fun H1 s1 => ⟨true, rfl, iteF ?_⟩⟩
    refine ⟨_, rfl, t, _, rfl, seqT s1 hS, by omega, asc_strs l4, fun H2 s2 => ⟨true, rfl, iteF ?_⟩⟩
    exact fin H2 (s1.trans s2)
theorem ok_init_Table {f C : Addr} {fd : FuncData} (F : Fun K "__init__" "Table.__init__" i_Table f fd) (T : TabC K C) (C_check_kinds : Cl P w K mg base 3 "check_kinds" (fun vs H Q _ => spCheckKinds K vs H Q E0)) (C_check_totals : Cl P w K mg base 6 "check_totals" (fun vs H Q _ => spCheckTotals K vs H Q E0))
    (z_len : mg "len" = none) : FnOk P w K mg base CX0 7 f fd ["self", "kinds", "totals"] (spInitT K C) := by
  refine F.ok sc_i_Table (fun vs H Q E h => ?_) (fun cdv A outer s H vs Q E hr h => ?_)
  · obtain ⟨_, _, _, _, _, _, _, rfl, _⟩ := h
    rfl
  · obtain ⟨a, dx, k, t, ks, xs, ts, rfl, ha, hk, ok, ht, hT, hl, hc, fin⟩ := h
    refine ⟨_, (pss_cons (ps_expr (pe_cl C_check_kinds hr (by decide) rfl (pa_cons (pv 1) pa_nil)))
      (pss_cons (ps_expr (pe_cl C_check_totals hr (by decide) rfl (pa_cons (pv 2) (pa_cons (pe_callB call_len_seq (by rfl) z_len (by decide +kernel) (pa_cons (pv 1) pa_nil)) pa_nil))))
      (pss_cons (ps_fld (pv 0) (pv 1) (by rfl))
      (pss_one (ps_fld (pv 0) (pv 2) (by rfl)))))), ?_⟩
    refine ⟨_, rfl, k, ks, rfl, hk, ok, fun H1 s1 => ?_⟩
    have hk1 := seqT s1 hk
    have e : ((ks.map V.str).length : Int) = (ks.length : Nat) := by rw [List.length_map]
    refine ⟨_, rfl, _, rfl, k, _, rfl, .inr hk1, t, xs, ts, _, rfl, seqT s1 ht, hT.mono s1, hl, fun c h => by rw [e]; exact hc c h, fun H2 s2 => ?_⟩
    have s12 := s1.trans s2
    refine ⟨_, rfl, _, rfl, a, C, dx, [], rfl, s12 _ _ ha, T.c, T.nk, by decide, ?_⟩
    refine ⟨_, rfl, _, rfl, a, C, dx, _, rfl, upd_same, T.c, T.nt, by show 1 < 1000; decide, ?_⟩
    refine fin _ (fun b o nb hb => ?_) ?_
    · rw [upd_ne nb, upd_ne nb]
      exact s12 b o hb
    · rw [upd_same]
      rfl
theorem ok_is_tuple_of {f : Addr} {fd : FuncData} (F : Fun K "is_tuple_of" "is_tuple_of" s_is_tuple_of f fd) (z_isinstance : mg "isinstance" = none) (z_tuple : mg "tuple" = none) (z_len : mg "len" = none) :
    FnOk P w K mg base CX0 1 f fd ["value", "many"] (spTup K) := by
  refine F.ok sc_is_tuple_of (fun vs H Q E h => ?_) (fun cdv A outer s H vs Q E hr h => ?_)
  · obtain ⟨v, o, rfl, _⟩ := h
    rfl
  · obtain ⟨v, n, rfl, h⟩ := h
    refine ⟨_, (pss_one (ps_ret (pe_and (pe_callB call_isi (by rfl) z_isinstance (by decide +kernel) (pa_cons (pv 0) (pa_cons (pe_bltn (v := .ty "tuple") (by rfl) z_tuple (by decide +kernel) rfl) pa_nil))) (pe_one (pe_cmpR op_eq (pe_callB call_len_seq (by rfl) z_len (by decide +kernel) (pa_cons (pv 0) pa_nil)) (pv 1) (nomark _)))))), ?_⟩
    rcases h with ⟨ty, t, k, q⟩ | ⟨p, xs, rfl, hS, q⟩
    · exact ⟨_, rfl, _, _, _, _, false, rfl, .ty "tuple", t, kit_ty k, false, rfl, iteF q⟩
    · refine ⟨_, rfl, _, _, _, _, true, rfl, .ty "tuple", tyT hS, kit_ty (by decide +kernel), true, rfl, iteT ⟨_, rfl, p, xs, rfl, .inr hS, _, rfl, rfl, ?_⟩⟩
      have e : decide (V.int (xs.length : Int) = V.int (n : Int)) = decide (xs.length = n) := by
        by_cases h : xs.length = n
        · rw [decide_eq_true h, decide_eq_true (by rw [h])]
        · rw [decide_eq_false h, decide_eq_false (fun z => h (by have := V.int.inj z; omega))]
      rw [e]
      exact q
theorem ok_added {f : Addr} {fd : FuncData} (F : Fun K "added" "added" s_added f fd) (m_gcd : mg "gcd" = some (.builtin "math.gcd")) :
    FnOk P w K mg base CX0 1 f fd ["one", "other"] (spAdd K) := by
  refine F.ok sc_added (fun vs H Q E h => ?_) (fun cdv A outer s H vs Q E hr h => ?_)
  · obtain ⟨_, _, _, _, rfl, _⟩ := h
    rfl
  · obtain ⟨s1, t1, p, q, rfl, h1, h2, lp, lq, bp, bq, fin⟩ := h
    refine ⟨_, (pss_cons (ps_asg (pv 0) (pg_tup rfl (pgs_cons (pg_name (i := 2) sc_added.nd rfl (.inl rfl)) (pgs_cons (pg_name (i := 3) sc_added.nd rfl (.inl rfl)) pgs_nil))))
    (pss_cons (ps_asg (pv 1) (pg_tup rfl (pgs_cons (pg_name (i := 4) sc_added.nd rfl (.inl rfl)) (pgs_cons (pg_name (i := 5) sc_added.nd rfl (.inl rfl)) pgs_nil))))
    (pss_cons (ps_set (i := 6) sc_added.nd rfl (.inl rfl) (pe_callBfun cr_gcd rfl m_gcd (pa_cons (pv 3) (pa_cons (pv 5) pa_nil))))
    (pss_cons (ps_set (i := 7) sc_added.nd rfl (.inl rfl) (pe_op op_fdivW (pv 3) (pv 6)))
    (pss_cons (ps_set (i := 8) sc_added.nd rfl (.inl rfl) (pe_op op_add (pe_op op_mulW (pv 2) (pe_op op_fdivW (pv 5) (pv 6))) (pe_op op_mulW (pv 4) (pv 7))))
    (pss_cons (ps_set (i := 9) sc_added.nd rfl (.inl rfl) (pe_callBfun cr_gcd rfl m_gcd (pa_cons (pv 8) (pa_cons (pv 6) pa_nil))))
    (pss_one (ps_ret (pe_tup (pa_cons (pe_op op_fdivW (pv 8) (pv 9)) (pa_cons (pe_op op_mulW (pv 7) (pe_op op_fdivW (pv 5) (pv 9))) pa_nil))))))))))), ?_⟩
    have hb := lp.1
    have hd := lq.1
    have gp := M2.g_pos (a := p.2) (b := q.2) (by omega)
    have gs : M2.g p.2 q.2 ≤ q.2.natAbs := Nat.gcd_le_right _ (by omega)
    have gb : ((M2.g p.2 q.2 : Nat) : Int).natAbs < 2 ^ 3000 := by
      rw [Int.natAbs_natCast]
      exact Nat.lt_of_le_of_lt gs bq.2
    have W1 : CDivW p.2 ((M2.g p.2 q.2 : Nat) : Int) := wide_div (by omega) gb (by decide) (by decide)
    have W2 : CDivW q.2 ((M2.g p.2 q.2 : Nat) : Int) := wide_div (by omega) gb (by decide) (by decide)
    have l1 : (p.2 / ((M2.g p.2 q.2 : Nat) : Int)).natAbs < 2 ^ 3000 := Nat.lt_of_le_of_lt (M2.natAbs_div_le _ (by omega)) bp.2
    have l2 : (q.2 / ((M2.g p.2 q.2 : Nat) : Int)).natAbs < 2 ^ 3000 := Nat.lt_of_le_of_lt (M2.natAbs_div_le _ (by omega)) bq.2
    refine ⟨_, rfl, s1, _, rfl, h1, rfl, _, _, rfl, _, _, rfl, rfl, ?_⟩
    refine ⟨_, rfl, t1, _, rfl, h2, rfl, _, _, rfl, _, _, rfl, rfl, ?_⟩
    refine ⟨_, rfl, _, rfl, p.2, q.2, rfl, ?_⟩
    refine ⟨_, rfl, _, rfl, _, _, rfl, rfl, W1, ?_⟩
    refine ⟨_, rfl, _, rfl, _, rfl, _, _, rfl, rfl, W2, _, _, rfl, rfl, mulW (up bp.1 (by decide)) (up l2 (by decide)), _, rfl, _, rfl, _, _, rfl, rfl, mulW (up bq.1 (by decide)) (up l1 (by decide)), _, _, rfl, rfl, ?_⟩
    refine ⟨_, rfl, _, rfl, _, _, rfl, ?_⟩
    have kp := M2.g_pos (a := p.1 * (q.2 / ((M2.g p.2 q.2 : Nat) : Int)) + q.1 * (p.2 / ((M2.g p.2 q.2 : Nat) : Int))) (b := ((M2.g p.2 q.2 : Nat) : Int)) (by omega)
    have ks : M2.g (p.1 * (q.2 / ((M2.g p.2 q.2 : Nat) : Int)) + q.1 * (p.2 / ((M2.g p.2 q.2 : Nat) : Int))) ((M2.g p.2 q.2 : Nat) : Int) ≤ ((M2.g p.2 q.2 : Nat) : Int).natAbs := Nat.gcd_le_right _ (by omega)
    have kb : ((M2.g (p.1 * (q.2 / ((M2.g p.2 q.2 : Nat) : Int)) + q.1 * (p.2 / ((M2.g p.2 q.2 : Nat) : Int))) ((M2.g p.2 q.2 : Nat) : Int) : Nat) : Int).natAbs < 2 ^ 3000 := by
      rw [Int.natAbs_natCast]
      exact Nat.lt_of_le_of_lt ks gb
    have W3 : ∀ x : Int, CDivW x ((M2.g (p.1 * (q.2 / ((M2.g p.2 q.2 : Nat) : Int)) + q.1 * (p.2 / ((M2.g p.2 q.2 : Nat) : Int))) ((M2.g p.2 q.2 : Nat) : Int) : Nat) : Int) := fun x => wide_div (by omega) kb (by decide) (by decide)
    have l3 : (q.2 / ((M2.g (p.1 * (q.2 / ((M2.g p.2 q.2 : Nat) : Int)) + q.1 * (p.2 / ((M2.g p.2 q.2 : Nat) : Int))) ((M2.g p.2 q.2 : Nat) : Int) : Nat) : Int)).natAbs < 2 ^ 3000 := Nat.lt_of_le_of_lt (M2.natAbs_div_le _ (by omega)) bq.2
    refine ⟨_, rfl, _, rfl, _, _, rfl, rfl, W3 _, _, rfl, _, rfl, _, rfl, _, _, rfl, rfl, W3 _, _, _, rfl, rfl, mulW (up l1 (by decide)) (up l3 (by decide)), by show 2 ≤ sizeLine; decide, fun u nu => ?_⟩
    exact fin _ u (same_upd nu) nu upd_same
theorem ok__law_draw {f : Addr} {fd : FuncData} (F : Fun K "_law_draw" "_law_draw" s__law_draw f fd) (z_int : mg "int" = none) :
    FnOk P w K mg base CX0 1 f fd ["heap", "many"] spDraw := by
  refine F.ok sc__law_draw (fun vs H Q E h => ?_) (fun cdv A outer s H vs Q E hr h => ?_)
  · obtain ⟨p, q, many, rfl, _⟩ := h
    rfl
  · obtain ⟨p, q, many, rfl, hd, m0, m1, fin⟩ := h
    refine ⟨_, (pss_cut (ps_while PassesOwn.never (PW.pt (pw_and (pt_cmpR (op_neD hr.units) (pe_ix ix_list (pv 0) pe_int (fun _ _ => rfl)) (pe_lst pa_nil) (nomark _)) (pw_and1 (pt_cmpR op_eq (pe_ix ix_list (pe_ix ix_list (pv 0) pe_int (fun _ _ => rfl)) (pe_un un_neg pe_int) (fun _ _ => rfl)) pe_int (nomark _)))))
      (pss_one (ps_expr (pe_bm0 PySem.F.plainAttrs_list PySem.F.slot_list_pop PySem.F.type_list_pop mt_pop (pe_ix ix_list (pv 0) pe_int (fun _ _ => rfl))))))
    (pss_cons (ps_if (pt_cmpR (op_neD hr.units) (pe_ix ix_list (pv 0) pe_int (fun _ _ => rfl)) (pe_lst pa_nil) (nomark _))
      (pss_cons (ps_set (i := 2) sc__law_draw.nd rfl (.inl rfl) (pe_bm0 PySem.F.plainAttrs_list PySem.F.slot_list_pop PySem.F.type_list_pop mt_pop (pe_ix ix_list (pv 0) pe_int (fun _ _ => rfl))))
      (pss_cons (ps_expr (pe_bm PySem.F.plainAttrs_list PySem.F.slot_list_append PySem.F.type_list_append mt_append (pe_ix ix_list (pv 0) pe_int (fun _ _ => rfl)) (pa_cons (pe_op op_fdivN (pv 2) (pv 1)) pa_nil)))
      (pss_one (ps_ret (pe_op op_modN (pe_callTy call_int1 (by rfl) z_int (by decide +kernel) (pa_cons (pv 2) pa_nil)) (pv 1))))))
      pss_nil)
    (pss_cons (ps_asg (pe_op op_modN (pe_callTy call_int1 (by rfl) z_int (by decide +kernel) (pa_cons (pe_op op_add (pe_op op_mul (pe_ix ix_list (pv 0) pe_int (fun _ _ => rfl)) pe_int) pe_int) pa_nil)) pe_int) (pg_sub (pv 0) pe_int set_list))
    (pss_one (ps_ret (pe_op op_modN (pe_callTy call_int1 (by rfl) z_int (by decide +kernel) (pa_cons (pe_op op_fdivN (pe_ix ix_list (pv 0) pe_int (fun _ _ => rfl)) pe_int) pa_nil)) (pv 1))))))), ?_⟩
    obtain ⟨cs, st, h1, h2, h3, h4, h5⟩ := hd
    have at0 : ∀ x y : V, atI [x, y] 0 = some x := fun _ _ => rfl
    have at1 : ∀ x y : V, atI [x, y] 1 = some y := fun _ _ => rfl
    refine ⟨fun σ H' => σ = [some (.ref p), some (.int many), none] ∧ Keep p q H H' ∧ ∃ cs : List Int, H' p = some (.lst [.ref q, .int st]) ∧ H' q = some (.lst (cs.map V.int)) ∧ cs.length ≤ 63, ?_, ?_⟩
    · -- the loop
      refine ⟨fun m σ H' => ∃ cs : List Int, m = cs.length ∧ σ = [some (.ref p), some (.int many), none] ∧ Keep p q H H' ∧ H' p = some (.lst [.ref q, .int st]) ∧ H' q = some (.lst (cs.map V.int)) ∧ cs.length ≤ 63,
        ⟨_, cs, rfl, rfl, Keep.refl _ _ _, h1, h2, h3⟩, ?_⟩
      rintro m σ H1 ⟨cs, rfl, rfl, kp, h1, h2, h3⟩
      refine ⟨_, rfl, p, _, 0, .ref q, rfl, rfl, .inl (.inl h1), at0 _ _, Nat.zero_le _, fun l nl => ?_⟩
      have n1 : p ≠ l := ne_of_none h1 nl
      have n2 : q ≠ l := ne_of_none h2 nl
      have g1 : (upd H1 l (.lst [])) p = some (.lst [.ref q, .int st]) := by
        rw [upd_ne n1]
        exact h1
      have g2 : (upd H1 l (.lst [])) q = some (.lst (cs.map V.int)) := by
        rw [upd_ne n2]
        exact h2
      have kp1 : Keep p q H (upd H1 l (.lst [])) := kp.trans (Keep.new nl)
      refine ⟨_, .list [], dp_ints (.inl (.inl g2)), .lst (.inl (.inl upd_same)) .nil, shaped_ints _, shaped_nil, _, rfl, ?_⟩
      rw [eqv_nil]
      by_cases hc : cs = []
      · rw [decide_eq_true hc]
        refine iteF ⟨rfl, kp1, cs, g1, g2, h3⟩
      · rw [decide_eq_false hc]
        refine iteT ?_
        obtain ⟨c0, c, rfl⟩ := snocL cs hc
        have gl : atI ((c0 ++ [c]).map V.int) (-1) = some (.int c) := by
          rw [List.map_append]
          exact atI_last _ _
        refine ⟨_, rfl, p, _, 0, .ref q, rfl, rfl, .inl (.inl g1), at0 _ _, 1, rfl, q, _, -1, _, rfl, rfl, .inl (.inl g2), gl, rfl, _, rfl, ite2 (fun e => ?_) (fun e => ?_)⟩
        · refine ⟨fun σ' H'' => σ' = [some (.ref p), some (.int many), none] ∧ Keep p q H H'' ∧ H'' p = some (.lst [.ref q, .int st]) ∧ H'' q = some (.lst (c0.map V.int)), fun σ' H'' hN => ?_, ?_⟩
          · obtain ⟨e1, e2, e3, e4⟩ := hN
            rw [List.length_append, List.length_cons, List.length_nil] at h3
            exact ⟨c0.length, by rw [List.length_append, List.length_cons, List.length_nil]; omega, c0, rfl, e1, e2, e3, e4, by omega⟩
          · refine ⟨_, rfl, p, _, 0, .ref q, rfl, rfl, .inl (.inl g1), at0 _ _, .inl ⟨rfl, _, .inl (.inl g2)⟩, q, _, .int c, rfl, rfl, g2, ?_, rfl, kp1.trans Keep.at2, ?_, ?_⟩
            · rw [List.map_append, List.length_append, List.getElem?_append_right (by simp)]
              simp
            · rw [upd_ne (show p ≠ q from Hd.ne (H := upd H1 l (.lst [])) ⟨_, _, g1, g2, h3, h4, h5⟩)]
              exact g1
            · rw [upd_same, List.map_append]
              simp
        · exact ⟨rfl, kp1, _, g1, g2, h3⟩
    · rintro σ H1 ⟨rfl, kp, cs, h1, h2, h3⟩
      refine ⟨_, rfl, p, _, 0, .ref q, rfl, rfl, .inl (.inl h1), at0 _ _, Nat.zero_le _, fun l nl => ?_⟩
      have n1 : p ≠ l := ne_of_none h1 nl
      have n2 : q ≠ l := ne_of_none h2 nl
      have g1 : (upd H1 l (.lst [])) p = some (.lst [.ref q, .int st]) := by
        rw [upd_ne n1]
        exact h1
      have g2 : (upd H1 l (.lst [])) q = some (.lst (cs.map V.int)) := by
        rw [upd_ne n2]
        exact h2
      have kp1 : Keep p q H (upd H1 l (.lst [])) := kp.trans (Keep.new nl)
      have hpq : p ≠ q := Hd.ne (H := upd H1 l (.lst [])) ⟨_, _, g1, g2, h3, h4, h5⟩
      refine ⟨_, .list [], dp_ints (.inl (.inl g2)), .lst (.inl (.inl upd_same)) .nil, shaped_ints _, shaped_nil, _, rfl, ?_⟩
      rw [eqv_nil]
      by_cases hc : cs = []
      · -- from the number
        rw [decide_eq_true hc]
        refine iteF ?_
        have b1 : -(2 ^ 64) < st ∧ st < 2 ^ 64 := ⟨by omega, by omega⟩
        have fm := fmod_lt (st * 48271 + 17) (m := 2147483647) (by decide)
        refine ⟨_, rfl, p, _, 1, .int st, rfl, rfl, .inl (.inl g1), at1 _ _, _, _, rfl, rfl, .inl b1, _, _, rfl, rfl, .inl ⟨_, rfl, _, _, rfl, rfl, by show (2147483647 : Int) ≠ 0; decide, ?_⟩⟩
        refine ⟨_, rfl, p, _, 1, 1, rfl, rfl, g1, rfl, ?_⟩
        have g3 : (upd (upd H1 l (.lst [])) p (.lst ([V.ref q, V.int st].set 1 (V.int ((st * 48271 + 17).fmod 2147483647))))) p = some (.lst [.ref q, .int ((st * 48271 + 17).fmod 2147483647)]) := upd_same
        refine ⟨_, rfl, p, _, 1, .int ((st * 48271 + 17).fmod 2147483647), rfl, rfl, .inl (.inl g3), at1 _ _, _, _, rfl, rfl, ⟨by decide, by decide⟩, .inl ⟨_, rfl, _, rfl, _, _, rfl, rfl, by omega, ?_⟩⟩
        have fm2 := fmod_lt (((st * 48271 + 17).fmod 2147483647).fdiv 32) m0
        refine fin _ _ ⟨cs, _, g3, ?_, h3, fm.1, fm.2⟩ (kp1.trans Keep.at1) fm2.1 fm2.2
        rw [upd_ne hpq.symm]
        exact g2
      · rw [decide_eq_false hc]
        refine iteT ?_
        obtain ⟨c0, c, rfl⟩ := snocL cs hc
        have gp : (List.map V.int (c0 ++ [c]))[(List.map V.int (c0 ++ [c])).length - 1]? = some (.int c) := by
          rw [List.map_append, List.length_append, List.getElem?_append_right (by simp)]
          simp
        refine ⟨_, rfl, p, _, 0, .ref q, rfl, rfl, .inl (.inl g1), at0 _ _, .inl ⟨rfl, _, .inl (.inl g2)⟩, q, _, .int c, rfl, rfl, g2, gp, ?_⟩
        have dl : (List.map V.int (c0 ++ [c])).dropLast = c0.map V.int := by
          rw [List.map_append]
          simp
        rw [dl]
        have g3 : (upd (upd H1 l (.lst [])) q (.lst (c0.map V.int))) p = some (.lst [.ref q, .int st]) := by
          rw [upd_ne hpq]
          exact g1
        have g4 : (upd (upd H1 l (.lst [])) q (.lst (c0.map V.int))) q = some (.lst (c0.map V.int)) := upd_same
        refine ⟨_, rfl, p, _, 0, .ref q, rfl, rfl, .inl (.inl g3), at0 _ _, .inl ⟨rfl, _, .inl (.inl g4)⟩, _, rfl, _, rfl, _, _, rfl, rfl, ⟨by omega, by omega⟩, q, _, _, rfl, rfl, g4, ?_, ?_⟩
        · rw [List.length_append, List.length_cons, List.length_nil] at h3
          rw [List.length_map]
          exact small1000 (by omega)
        · refine ⟨_, rfl, .inl ⟨_, rfl, _, rfl, _, _, rfl, rfl, by omega, ?_⟩⟩
          have fm := fmod_lt c m0
          refine fin _ _ ⟨c0 ++ [c.fdiv many], st, ?_, ?_, ?_, h4, h5⟩ ((kp1.trans Keep.at2).trans Keep.at2) fm.1 fm.2
          · rw [upd_ne hpq]
            exact g3
          · rw [upd_same, List.map_append]
            rfl
          · rw [List.length_append, List.length_cons, List.length_nil] at h3 ⊢
            exact h3
theorem ok__law_pick {f : Addr} {fd : FuncData} (F : Fun K "_law_pick" "_law_pick" s__law_pick f fd) (C__law_draw : Cl P w K mg base 1 "_law_draw" spDraw) (z_len : mg "len" = none) :
    FnOk P w K mg base CX0 2 f fd ["heap", "some"] (spPick K) := by
  refine F.ok sc__law_pick (fun vs H Q E h => ?_) (fun cdv A outer s H vs Q E hr h => ?_)
  · obtain ⟨p, q, l, xs, rfl, _⟩ := h
    rfl
  · obtain ⟨p, q, l, xs, rfl, hd, hl, n1, n2, hx, hz, fin⟩ := h
    refine ⟨_, (pss_one (ps_ret (pe_ix ix_list (pv 1) (pe_cl C__law_draw hr (by decide) rfl (pa_cons (pv 0) (pa_cons (pe_callB call_len_seq (by rfl) z_len (by decide +kernel) (pa_cons (pv 1) pa_nil)) pa_nil))) (fun _ _ => rfl)))), ?_⟩
    have h0 : 0 < xs.length := List.length_pos_iff.mpr hx
    refine ⟨_, rfl, _, rfl, _, rfl, l, xs, rfl, .inl (.inl (.inl hl)), p, q, _, rfl, hd, by omega, by omega, fun H' r hd' kp r0 r1 => ?_⟩
    have hl' := kp l _ n1 n2 hl
    obtain ⟨j, rfl⟩ := Int.eq_ofNat_of_zero_le r0
    have hj : j < xs.length := by omega
    refine ⟨l, xs, _, xs[j], rfl, rfl, .inl (.inl hl'), atI_nat (List.getElem?_eq_getElem hj), ?_⟩
    exact fin _ _ hd' kp (List.getElem_mem hj)
theorem ok__law_heapF {f : Addr} {fd : FuncData} (F : Fun K "_law_heap" "_law_heap" s__law_heap f fd) (z_int : mg "int" = none) (z_abs : mg "abs" = none) :
    FnOk P w K mg base CX0 1 f fd ["script"] (spHeapF K) := by
  refine F.ok sc__law_heap (fun vs H Q E h => ?_) (fun cdv A outer s H vs Q E hr h => ?_)
  · obtain ⟨a, ns, rfl, _⟩ := h
    rfl
  · obtain ⟨a, ns, rfl, hS, hn, fin⟩ := h
    refine ⟨_, (pss_cons (ps_par (i := 2) (j := 3) (by rfl) sc__law_heap.nd rfl rfl (by decide) rfl rfl (pa_cons (pe_lc (own := [("cell", 1)]) (by rfl) sc__law_heap.nd (pi_list (pe_slice sl_list (pv 0) po_none (po_some pe_int))) (blkOk_by (own := [("cell", 1)]) (N := N__law_heap) (sc := defScope s__law_heap) (by decide +kernel)) (fun _ _ _ _ _ => (pg_name (i := 1) sc__law_heap.nd rfl (.inl rfl))) (fun _ _ _ _ _ => pts_nil) (fun _ _ _ _ _ => (pe_op op_add (pe_op op_mul pe_int (pe_callB call_abs (by rfl) z_abs (by decide +kernel) (pa_cons (pv 1) pa_nil))) (pe_callTy call_int1 (by rfl) z_int (by decide +kernel) (pa_cons (pe_cmpR op_lt (pv 1) pe_int (nomark _)) pa_nil))))) (pa_cons pe_int pa_nil)) (by rfl))
    (pss_cut (ps_for PassesOwn.never rfl (pi_list (pv 2)) (pg_name (i := 1) sc__law_heap.nd rfl (.inl rfl))
      (pss_one (ps_set (i := 3) sc__law_heap.nd rfl (.inl rfl) (pe_op op_modN (pe_callTy call_int1 (by rfl) z_int (by decide +kernel) (pa_cons (pe_op op_add (pe_op op_add (pe_op op_mul (pv 3) pe_int) (pe_op op_modN (pe_callTy call_int1 (by rfl) z_int (by decide +kernel) (pa_cons (pv 1) pa_nil)) pe_int)) pe_int) pa_nil)) pe_int))))
    (pss_one (ps_ret (pe_lst (pa_cons (pe_revL (pe_lc (own := [("cell", 1)]) (by rfl) sc__law_heap.nd (pi_list (pv 2)) (blkOk_by (own := [("cell", 1)]) (N := N__law_heap) (sc := defScope s__law_heap) (by decide +kernel)) (fun _ _ _ _ _ => (pg_name (i := 1) sc__law_heap.nd rfl (.inl rfl))) (fun _ _ _ _ _ => (pts_one (pt_cmpR op_ge (pv 1) (pe_op op_pow pe_int pe_int) (nomark _)))) (fun _ _ _ _ _ => (pv 1)))) (pa_cons (pv 3) pa_nil))))))), ?_⟩
    obtain ⟨ms, em, hm⟩ := cut_ints ns none (some 60)
    refine ⟨_, rfl, _, rfl, a, _, rfl, hS, fun c nc => ?_⟩
    rw [em]
    have s1 : Same H (upd H c (.lst (ms.map V.int))) := FR.same_upd nc
    refine ⟨c, rfl, ⟨_, .inl (.inl upd_same)⟩, fun D nD => ?_⟩
    have ncD : c ≠ D := ne_of_none upd_same nD
    refine lc_it (walk_list (K := K) (a := c) (xs := ms.map V.int)) (fun i H' => Same H H' ∧ H' c = some (.lst (ms.map V.int)) ∧ ∃ cs : List Int, cs.length = i ∧ H' D = some (.lst (cs.map V.int))) ?_ ?_ ?_ ?_
    · exact ⟨s1.trans (FR.same_upd nD), by rw [upd_ne ncD]; exact upd_same, [], rfl, upd_same⟩
    · rintro i H' _ ⟨_, h2, _⟩
      exact .inl (.inl h2)
    · rintro i x H1 H' hi ⟨sm, hc, cs, el, hD⟩ ⟨rfl, ex⟩
      rw [List.length_map] at hi
      rw [List.getElem?_map, List.getElem?_eq_getElem hi] at ex
      have e1 : V.int ms[i] = x := Option.some.inj ex
      subst e1
      refine ⟨rfl, _, rfl, _, rfl, _, _, rfl, rfl, .inl ⟨by decide, by decide⟩, _, rfl, _, _, rfl, rfl, .inr ⟨_, rfl, _, _, rfl, rfl, ?_⟩⟩
      refine ⟨cs.map V.int, hD, ?_, ?_, ?_, ?_⟩
      · rw [List.length_map]
        exact small1000 (by omega)
      · have nH : H D = none := s1.free nD
        exact HD.same_put sm nH
      · rw [upd_ne ncD]
        exact hc
      · refine ⟨cs ++ [2 * (if ms[i] < 0 then -ms[i] else ms[i]) + (if decide (ms[i] < 0) = true then 1 else 0)], by rw [List.length_append, el]; rfl, ?_⟩
        rw [upd_same, List.map_append]
        rfl
    · rintro H1 ⟨sm, hc, cs, el, hD⟩
      rw [List.length_map] at el
      have hcs : cs.length ≤ 63 := by omega
      refine ⟨_, _, rfl, ?_⟩
      -- the loop over the cells
      refine ⟨fun σ H' => H' = H1 ∧ ∃ (y1 : Option V) (st : Int), σ = [some (.ref a), y1, some (.ref D), some (.int st)] ∧ 0 ≤ st ∧ st < 2147483647, ?_, ?_⟩
      · refine ⟨_, rfl, D, rfl, ⟨_, .inl (.inl hD)⟩, ?_⟩
        refine for_it (walk_list (K := K) (a := D) (xs := cs.map V.int)) (fun i σ H' => H' = H1 ∧ ∃ (y1 : Option V) (st : Int), σ = [some (.ref a), y1, some (.ref D), some (.int st)] ∧ 0 ≤ st ∧ st < 2147483647) ?_ ?_ ?_ ?_
        · exact ⟨rfl, _, 40487, rfl, by decide, by decide⟩
        · rintro i σ H' _ ⟨rfl, _⟩
          exact .inl (.inl hD)
        · rintro i x σ H' H'' hi ⟨rfl, y1, st, rfl, h1, h2⟩ ⟨rfl, ex⟩
          rw [List.length_map] at hi
          rw [List.getElem?_map, List.getElem?_eq_getElem hi] at ex
          have e1 : V.int cs[i] = x := Option.some.inj ex
          subst e1
          have fm := fmod_lt (st * 69621 + (cs[i]).fmod 2147483563 + 29) (m := 2147483647) (by decide)
          refine ⟨_, rfl, _, _, rfl, rfl, .inl ⟨by omega, by omega⟩, _, rfl, .inl ⟨_, rfl, _, _, rfl, rfl, by show (2147483563 : Int) ≠ 0; decide, _, _, rfl, rfl, _, _, rfl, rfl, .inl ⟨_, rfl, _, _, rfl, rfl, by show (2147483647 : Int) ≠ 0; decide, ?_⟩⟩⟩
          exact ⟨rfl, _, _, rfl, fm.1, fm.2⟩
        · rintro σ H' ⟨rfl, h⟩
          exact ⟨rfl, h⟩
      · rintro σ H' ⟨rfl, y1, st, rfl, h1, h2⟩
        refine ⟨_, rfl, D, rfl, ⟨_, .inl (.inl hD)⟩, fun B nB => ?_⟩
        have nDB : D ≠ B := ne_of_none hD nB
        refine lc_it (walk_list (K := K) (a := D) (xs := cs.map V.int)) (fun i H2 => Same H H2 ∧ H2 D = some (.lst (cs.map V.int)) ∧ ∃ ds : List Int, ds.length ≤ i ∧ H2 B = some (.lst (ds.map V.int))) ?_ ?_ ?_ ?_
        · exact ⟨sm.trans (FR.same_upd nB), by rw [upd_ne nDB]; exact hD, [], Nat.le_refl _, upd_same⟩
        · rintro i H2 _ ⟨_, g2, _⟩
          exact .inl (.inl g2)
        · rintro i x H2 H3 hi ⟨sm2, hD2, ds, el2, hB⟩ ⟨rfl, ex⟩
          rw [List.length_map] at hi
          rw [List.getElem?_map, List.getElem?_eq_getElem hi] at ex
          have e1 : V.int cs[i] = x := Option.some.inj ex
          subst e1
          refine ⟨rfl, _, rfl, _, _, rfl, rfl, ⟨by decide, by decide, by decide⟩, _, _, rfl, rfl, _, rfl, ite2 (fun e => ?_) (fun e => ?_)⟩
          · refine ⟨_, rfl, ds.map V.int, hB, ?_, HD.same_put sm2 (sm.free nB), ?_, ?_⟩
            · rw [List.length_map]
              exact small1000 (by omega)
            · rw [upd_ne nDB]
              exact hD2
            · refine ⟨ds ++ [cs[i]], by rw [List.length_append, List.length_cons, List.length_nil]; omega, ?_⟩
              rw [upd_same, List.map_append]
              rfl
          · exact ⟨sm2, hD2, ds, by omega, hB⟩
        · rintro H2 ⟨sm2, hD2, ds, el2, hB⟩
          rw [List.length_map] at el2
          refine ⟨B, _, rfl, .inl (.inl hB), fun q nq => ?_⟩
          refine ⟨_, rfl, by show 2 ≤ sizeLine; decide, fun p np => ?_⟩
          have npq : q ≠ p := ne_of_none upd_same np
          refine fin _ p q ⟨ds.reverse, st, upd_same, ?_, ?_, h1, h2⟩ ((sm2.trans (FR.same_upd nq)).trans (FR.same_upd np)) ((sm2.trans (FR.same_upd nq)).free np) (sm2.free nq)
          · rw [upd_ne npq, upd_same, List.map_reverse]
          · rw [List.length_reverse]
            omega
theorem ok_is_fraction {f : Addr} {fd : FuncData} (F : Fun K "is_fraction" "is_fraction" s_is_fraction f fd) (C_is_an_integer : Cl P w K mg base 1 "is_an_integer" (spInt K)) (C_is_tuple_of : Cl P w K mg base 1 "is_tuple_of" (spTup K)) (m_gcd : mg "gcd" = some (.builtin "math.gcd")) :
    FnOk P w K mg base CX0 2 f fd ["value"] (spIsFr K) := by
  refine F.ok sc_is_fraction (fun vs H Q E h => ?_) (fun cdv A outer s H vs Q E hr h => ?_)
  · obtain ⟨v, rfl, _⟩ := h
    rfl
  · obtain ⟨v, rfl, h⟩ := h
    refine ⟨_, (pss_cons (ps_if (pt_not (pt_val (pe_cl C_is_tuple_of hr (by decide) rfl (pa_cons (pv 0) (pa_cons pe_int pa_nil)))))
      (pss_one (ps_ret pe_bl))
      pss_nil)
    (pss_cons (ps_asg (pv 0) (pg_tup rfl (pgs_cons (pg_name (i := 1) sc_is_fraction.nd rfl (.inl rfl)) (pgs_cons (pg_name (i := 2) sc_is_fraction.nd rfl (.inl rfl)) pgs_nil))))
    (pss_cons (ps_if (PW.pt (pw_or (pt_not (pt_val (pe_cl C_is_an_integer hr (by decide) rfl (pa_cons (pv 1) pa_nil)))) (pw_or1 (pt_not (pt_val (pe_cl C_is_an_integer hr (by decide) rfl (pa_cons (pv 2) pa_nil)))))))
      (pss_one (ps_ret pe_bl))
      pss_nil)
    (pss_one (ps_ret (pe_and (pe_cmpR op_gt (pv 2) pe_int (nomark _)) (pe_one (pe_cmpR op_eq (pe_callBfun cr_gcd rfl m_gcd (pa_cons (pv 1) (pa_cons (pv 2) pa_nil))) pe_int (nomark _))))))))), ?_⟩
    rcases h with ⟨ty, t, k, q⟩ | ⟨p, xs, rfl, hS, hl, q⟩ | ⟨p, x, y, o1, o2, rfl, hS, h1, h2, q⟩
    · exact ⟨_, rfl, v, 2, rfl, .inl ⟨ty, t, k, _, rfl, iteT q⟩⟩
    · refine ⟨_, rfl, _, 2, rfl, .inr ⟨p, xs, rfl, hS, _, rfl, ?_⟩⟩
      rw [decide_eq_false hl]
      exact iteT q
    · refine ⟨_, rfl, _, 2, rfl, .inr ⟨p, _, rfl, hS, _, rfl, ?_⟩⟩
      refine iteF ?_
      refine ⟨_, rfl, p, _, rfl, hS, rfl, _, _, rfl, _, _, rfl, rfl, ?_⟩
      refine ⟨_, rfl, x, o1, rfl, h1, _, rfl, ?_⟩
      rcases h1 with ⟨a, rfl, rfl⟩ | ⟨rfl, _⟩
      · refine iteF ⟨_, rfl, y, o2, rfl, h2, _, rfl, ?_⟩
        rcases h2 with ⟨b, rfl, rfl⟩ | ⟨rfl, _⟩
        · refine iteF ⟨_, rfl, _, _, rfl, rfl, _, rfl, ?_⟩
          have q2 : Q (.bl (decide (0 < b) && decide (M2.g a b = 1))) H := q
          by_cases hb : 0 < b
          · rw [decide_eq_true hb, Bool.true_and] at q2
            rw [decide_eq_true (show b > 0 from hb)]
            refine iteT ⟨_, rfl, _, rfl, a, b, rfl, rfl, ?_⟩
            have e : decide (V.int ((Nat.gcd a.natAbs b.natAbs : Nat) : Int) = V.int 1) = decide (M2.g a b = 1) := by
              by_cases h : M2.g a b = 1
              · rw [decide_eq_true h, decide_eq_true]
                show V.int ((M2.g a b : Nat) : Int) = V.int 1
                rw [h]
                rfl
              · rw [decide_eq_false h, decide_eq_false]
                intro z
                have z2 : ((M2.g a b : Nat) : Int) = 1 := V.int.inj z
                omega
            rw [e]
            exact q2
          · rw [decide_eq_false hb, Bool.false_and] at q2
            rw [decide_eq_false (show ¬ b > 0 from hb)]
            exact iteF q2
        · exact iteT q
      · have q2 : Q (.bl false) H := by
          cases o2 <;> exact q
        exact iteT (iteT q2)
theorem ok_opposite_of {f : Addr} {fd : FuncData} (F : Fun K "opposite_of" "opposite_of" s_opposite_of f fd) :
    FnOk P w K mg base CX0 1 f fd ["one"] (spOpp K) := by
  refine F.ok sc_opposite_of (fun vs H Q E h => ?_) (fun cdv A outer s H vs Q E hr h => ?_)
  · obtain ⟨_, _, rfl, _⟩ := h
    rfl
  · obtain ⟨s1, p, rfl, h1, fin⟩ := h
    refine ⟨_, (pss_cons (ps_asg (pv 0) (pg_tup rfl (pgs_cons (pg_name (i := 1) sc_opposite_of.nd rfl (.inl rfl)) (pgs_cons (pg_name (i := 2) sc_opposite_of.nd rfl (.inl rfl)) pgs_nil))))
    (pss_one (ps_ret (pe_tup (pa_cons (pe_un un_neg (pv 1)) (pa_cons (pv 2) pa_nil)))))), ?_⟩
    refine ⟨_, rfl, s1, _, rfl, h1, rfl, _, _, rfl, _, _, rfl, rfl, ?_⟩
    refine ⟨_, rfl, _, rfl, _, rfl, by show 2 ≤ sizeLine; decide, fun u nu => ?_⟩
    exact fin _ u (same_upd nu) nu upd_same
theorem ok_taken {f : Addr} {fd : FuncData} (F : Fun K "taken" "taken" s_taken f fd) (C_added : Cl P w K mg base 1 "added" (spAdd K)) (C_opposite_of : Cl P w K mg base 1 "opposite_of" (spOpp K)) :
    FnOk P w K mg base CX0 2 f fd ["one", "other"] (spTaken K) := by
  refine F.ok sc_taken (fun vs H Q E h => ?_) (fun cdv A outer s H vs Q E hr h => ?_)
  · obtain ⟨_, _, _, _, rfl, _⟩ := h
    rfl
  · obtain ⟨s1, t1, p, q, rfl, h1, h2, lp, lq, bp, bq, fin⟩ := h
    refine ⟨_, (pss_one (ps_ret (pe_cl C_added hr (by decide) rfl (pa_cons (pv 0) (pa_cons (pe_cl C_opposite_of hr (by decide) rfl (pa_cons (pv 1) pa_nil)) pa_nil))))), ?_⟩
    refine ⟨_, rfl, _, rfl, t1, q, rfl, h2, fun H1 u sm nu hu => ?_⟩
    have lq2 : M2.Low (neg q).1 (neg q).2 := ⟨lq.1, by
      have := lq.2
      unfold M2.g at this ⊢
      show Nat.gcd (-q.1).natAbs q.2.natAbs = 1
      rw [Int.natAbs_neg]
      exact this⟩
    have bq2 : Bt 3000 (neg q) := ⟨by show (-q.1).natAbs < _; rw [Int.natAbs_neg]; exact bq.1, bq.2⟩
    refine ⟨s1, u, p, neg q, rfl, seqT sm h1, .inl (.inl hu), lp, lq2, bp, bq2, fun H2 u2 sm2 nu2 hu2 => ?_⟩
    exact fin H2 u2 (sm.trans sm2) (sm.free nu2) hu2
theorem ok_is_small {f : Addr} {fd : FuncData} (F : Fun K "is_small" "is_small" s_is_small f fd) (z_abs : mg "abs" = none) :
    FnOk P w K mg base CX0 1 f fd ["one"] (spSmall K) := by
  refine F.ok sc_is_small (fun vs H Q E h => ?_) (fun cdv A outer s H vs Q E hr h => ?_)
  · obtain ⟨_, _, rfl, _⟩ := h
    rfl
  · obtain ⟨s1, p, rfl, h1, fin⟩ := h
    refine ⟨_, (pss_one (ps_ret (pe_cmpR op_lt (pe_callB call_abs (by rfl) z_abs (by decide +kernel) (pa_cons (pe_ix ix_tup (pv 0) pe_int (fun _ _ => rfl)) pa_nil)) (pe_ix ix_tup (pv 0) pe_int (fun _ _ => rfl)) (nomark _)))), ?_⟩
    exact ⟨_, rfl, s1, _, _, _, rfl, rfl, h1, at0 _ _, _, rfl, _, rfl, s1, _, _, _, rfl, rfl, h1, at1 _ _, _, _, rfl, rfl, fin⟩
theorem ok_floor_of {f : Addr} {fd : FuncData} (F : Fun K "floor_of" "floor_of" s_floor_of f fd) :
    FnOk P w K mg base CX0 1 f fd ["one"] (spFloor K) := by
  refine F.ok sc_floor_of (fun vs H Q E h => ?_) (fun cdv A outer s H vs Q E hr h => ?_)
  · obtain ⟨_, _, rfl, _⟩ := h
    rfl
  · obtain ⟨s1, p, rfl, h1, hp, bp, fin⟩ := h
    refine ⟨_, (pss_one (ps_ret (pe_op op_fdivW (pe_ix ix_tup (pv 0) pe_int (fun _ _ => rfl)) (pe_ix ix_tup (pv 0) pe_int (fun _ _ => rfl))))), ?_⟩
    exact ⟨_, rfl, s1, _, _, _, rfl, rfl, h1, at0 _ _, _, rfl, s1, _, _, _, rfl, rfl, h1, at1 _ _, _, _, rfl, rfl, wide_div hp bp.2 (by decide) (by decide), fin⟩
theorem ok_ceiling_of {f : Addr} {fd : FuncData} (F : Fun K "ceiling_of" "ceiling_of" s_ceiling_of f fd) :
    FnOk P w K mg base CX0 1 f fd ["one"] (spCeil K) := by
  refine F.ok sc_ceiling_of (fun vs H Q E h => ?_) (fun cdv A outer s H vs Q E hr h => ?_)
  · obtain ⟨_, _, rfl, _⟩ := h
    rfl
  · obtain ⟨s1, p, rfl, h1, hp, bp, fin⟩ := h
    refine ⟨_, (pss_one (ps_ret (pe_un un_neg (pe_op op_fdivW (pe_un un_neg (pe_ix ix_tup (pv 0) pe_int (fun _ _ => rfl))) (pe_ix ix_tup (pv 0) pe_int (fun _ _ => rfl)))))), ?_⟩
    exact ⟨_, rfl, s1, _, _, _, rfl, rfl, h1, at0 _ _, _, rfl, _, rfl, s1, _, _, _, rfl, rfl, h1, at1 _ _, _, _, rfl, rfl, wide_div hp bp.2 (by decide) (by decide), _, rfl, fin⟩
theorem ok_sum_of {f zz : Addr} {fd : FuncData} (F : Fun K "sum_of" "sum_of" s_sum_of f fd) (C_added : Cl P w K mg base 1 "added" (spAdd K)) (m_ZERO : mg "ZERO" = some (.ref zz)) (hz : ∀ H, SqT K H zz (pV (0, 1))) :
    FnOk P w K mg base CX0 2 f fd ["some"] (spSumL K) := by
  refine F.ok sc_sum_of (fun vs H Q E h => ?_) (fun cdv A outer s H vs Q E hr h => ?_)
  · obtain ⟨_, _, _, _, rfl, _⟩ := h
    rfl
  · obtain ⟨s1, xs, ps, ns, rfl, hS, hF, hb, hp, hn, fin⟩ := h
    refine ⟨_, (pss_cons (ps_set (i := 1) sc_sum_of.nd rfl (.inl rfl) (pe_glob (v := .ref zz) rfl m_ZERO rfl))
    (pss_cut (ps_for PassesOwn.never rfl (pi_any (pv 0)) (pg_name (i := 2) sc_sum_of.nd rfl (.inl rfl))
      (pss_one (ps_set (i := 1) sc_sum_of.nd rfl (.inl rfl) (pe_cl C_added hr (by decide) rfl (pa_cons (pv 1) (pa_cons (pv 2) pa_nil))))))
    (pss_one (ps_ret (pv 1))))), ?_⟩
    have lxs := hF.len
    refine ⟨fun σ H' => ∃ (u : Addr) (y : Option V), σ = [some (.ref s1), some (.ref u), y] ∧ Same H H' ∧ SqT K H' u (pV (sumQ ps)), ?_, ?_⟩
    · have go : ∀ (J : It), (Walk J xs.length (fun H' => Same H H') (fun i H v H' => H' = H ∧ xs[i]? = some v)) → ∀ (D : Ends), (∀ σ' H', (∃ (u : Addr) (y : Option V), σ' = [some (.ref s1), some (.ref u), y] ∧ Same H H' ∧ SqT K H' u (pV (sumQ ps))) → D.nx σ' H') →
          ∃ W : Nat → Nat → L2.St → Hp → Prop, (∃ m, W 0 m [some (V.ref s1), some (V.ref zz), none] H) ∧ ∀ i m σ H', W i m σ H' →
            (J.stop i H' ∧ D.nx σ H') ∨ (J.go i H' ∧ ∃ N : L2.St → Hp → Prop, (∀ σ' H'', N σ' H'' → ∃ m', m' < m ∧ W (i + 1) m' σ' H'') ∧ ∀ x H'', J.yld i H' x H'' → gName 2 x σ H'' fun σ2 H2 => tAsg (tCall (spAdd K) [] E0 (tCons (tVar 1) (tCons (tVar 2) tNil))) (gName 1) { D with nx := N, ct := N, bk := D.nx } σ2 H2) := by
        intro J wk D hD
        refine for_it wk (fun i σ H' => ∃ (u : Addr) (y : Option V), σ = [some (.ref s1), some (.ref u), y] ∧ Same H H' ∧ SqT K H' u (pV ((ps.take i).foldl M2.add (0, 1)))) ⟨zz, none, rfl, Same.refl _, hz H⟩ ?_ ?_ ?_
        · rintro i σ H' _ ⟨u, y, _, sm, _⟩
          exact sm
        · rintro i x σ H1 H2 hi ⟨u, y, rfl, sm, hu⟩ ⟨e2, ex⟩
          subst e2
          obtain ⟨t, p, rfl, ep, ht⟩ := hF.get ex
          have hpm := hp p (List.mem_of_getElem? ep)
          obtain ⟨n, en, bn⟩ := hb.get ep
          have so := sumL_ok (ns.take i) (ps.take i) (0, 1) 1 (hb.take i) (fun q hq => hp q (List.mem_of_mem_take hq)) ⟨by decide, by decide⟩ ⟨by decide, by decide⟩
          have b1 := bits_take (e := 1) ns i
          have b2 := bits_get (e := 1) en
          refine ⟨_, rfl, _, rfl, u, t, _, p, rfl, hu, seqT sm ht, so.1, hpm, so.2.mono (by omega), bn.mono (by omega), fun H3 v sm3 nv hv => ?_⟩
          refine ⟨v, _, rfl, sm.trans sm3, .inl (.inl ?_)⟩
          rw [hv, List.take_add_one, ep, List.foldl_append]
          rfl
        · rintro σ H' ⟨u, y, rfl, sm, hu⟩
          refine hD _ _ ⟨u, y, rfl, sm, ?_⟩
          rw [List.take_of_length_le (by rw [lxs]; exact Nat.le_refl _)] at hu
          exact hu
      rcases hS with hS | hS
      · exact ⟨s1, rfl, .inr ⟨⟨_, hS⟩, go _ (walk_tup.mono (fun H' sm => seqT sm hS) (fun i H1 x H2 _ _ h => h)) _ (fun _ _ h => h)⟩⟩
      · exact ⟨s1, rfl, .inl ⟨⟨_, hS⟩, go _ (walk_list.mono (fun H' sm => sm.seq hS) (fun i H1 x H2 _ _ h => h)) _ (fun _ _ h => h)⟩⟩
    · rintro σ H' ⟨u, y, rfl, sm, hu⟩
      exact ⟨_, rfl, fin H' u sm hu⟩
theorem ok_is_numberA {f : Addr} {fd : FuncData} (F : Fun K "is_number" "is_number" s_is_number f fd) (C_is_an_integer : Cl P w K mg base 1 "is_an_integer" (spInt K)) : FnOk P w K mg base CX0 2 f fd ["value"] (spNumA K) := by
  refine F.ok sc_is_number (fun vs H Q E h => ?_) (fun cdv A outer s H vs Q E hr h => ?_)
  · obtain ⟨_, _, rfl, _⟩ := h
    rfl
  · obtain ⟨v, o, rfl, hp, q⟩ := h
    refine ⟨_, (pss_one (ps_ret (pe_and (pe_cl C_is_an_integer hr (by decide) rfl (pa_cons (pv 0) pa_nil)) (pe_one (pe_cmpR op_ge (pv 0) pe_int (nomark _)))))), ?_⟩
    refine ⟨_, rfl, v, o, rfl, hp, o.isSome, rfl, ?_⟩
    cases o with
    | none => exact iteF q
    | some a =>
      rcases hp with ⟨b, rfl, e⟩ | ⟨e, _⟩
      · have e := Option.some.inj e
        subst e
        exact iteT ⟨_, rfl, _, _, rfl, rfl, q⟩
      · cases e
theorem ok_is_number_belowA {f : Addr} {fd : FuncData} (F : Fun K "is_number_below" "is_number_below" s_is_number_below f fd) (C_is_number : Cl P w K mg base 2 "is_number" (spNumA K)) : FnOk P w K mg base CX0 3 f fd ["value", "many"] (spBelowA K) := by
  refine F.ok sc_is_number_below (fun vs H Q E h => ?_) (fun cdv A outer s H vs Q E hr h => ?_)
  · obtain ⟨_, _, _, rfl, _⟩ := h
    rfl
  · obtain ⟨v, o, n, rfl, hp, q⟩ := h
    refine ⟨_, (pss_one (ps_ret (pe_and (pe_cl C_is_number hr (by decide) rfl (pa_cons (pv 0) pa_nil)) (pe_one (pe_cmpR op_lt (pv 0) (pv 1) (nomark _)))))), ?_⟩
    refine ⟨_, rfl, v, o, rfl, hp, numO o, rfl, ?_⟩
    cases o with
    | none => exact iteF q
    | some a =>
      rcases hp with ⟨b, rfl, e⟩ | ⟨e, _⟩
      · have e := Option.some.inj e
        subst e
        show if decide (0 ≤ a) = true then _ else _
        by_cases ha : 0 ≤ a
        · rw [decide_eq_true ha]
          refine iteT ⟨_, rfl, _, rfl, _, _, rfl, rfl, ?_⟩
          have e2 : decide (a < n) = decide (0 ≤ a ∧ a < n) := decide_eq_decide.mpr ⟨fun z => ⟨ha, z⟩, fun z => z.2⟩
          show Q (.bl (decide (a < n))) H
          rw [e2]
          exact q
        · rw [decide_eq_false ha]
          have e1 : belowO n (some a) = false := decide_eq_false (fun z => ha z.1)
          rw [e1] at q
          exact iteF q
      · cases e
theorem ok_is_tuple_ofA {f : Addr} {fd : FuncData} (F : Fun K "is_tuple_of" "is_tuple_of" s_is_tuple_of f fd) (z_isinstance : mg "isinstance" = none) (z_tuple : mg "tuple" = none) (z_len : mg "len" = none) :
    FnOk P w K mg base CX0 1 f fd ["value", "many"] (spTupA K) := by
  refine F.ok sc_is_tuple_of (fun vs H Q E h => ?_) (fun cdv A outer s H vs Q E hr h => ?_)
  · obtain ⟨_, _, _, rfl, _⟩ := h
    rfl
  · obtain ⟨v, d, n, rfl, hd, q⟩ := h
    refine ⟨_, (pss_one (ps_ret (pe_and (pe_callB call_isi (by rfl) z_isinstance (by decide +kernel) (pa_cons (pv 0) (pa_cons (pe_bltn (v := .ty "tuple") (by rfl) z_tuple (by decide +kernel) rfl) pa_nil))) (pe_one (pe_cmpR op_eq (pe_callB call_len_seq (by rfl) z_len (by decide +kernel) (pa_cons (pv 0) pa_nil)) (pv 1) (nomark _)))))), ?_⟩
    cases hT : isTupD d with
    | false =>
      obtain ⟨ty, T, k⟩ := hd.noTup hT
      have e : tupD n d = false := by
        cases d with
        | tuple ds => cases hT
        | _ => rfl
      rw [e] at q
      exact ⟨_, rfl, _, _, _, _, false, rfl, .ty "tuple", T, kit_ty k, false, rfl, iteF q⟩
    | true =>
      cases d with
      | tuple ds =>
        obtain ⟨p, xs, rfl, hS, hA⟩ := hd.isT
        refine ⟨_, rfl, _, _, _, _, true, rfl, .ty "tuple", tyT hS, kit_ty (by decide +kernel), true, rfl, iteT ⟨_, rfl, p, xs, rfl, .inr hS, _, rfl, rfl, ?_⟩⟩
        have e : decide (V.int (xs.length : Int) = V.int (n : Int)) = tupD n (.tuple ds) := by
          rw [hA.len]
          show _ = decide (ds.length = n)
          by_cases h : ds.length = n
          · rw [decide_eq_true h, decide_eq_true (by rw [h])]
          · rw [decide_eq_false h, decide_eq_false (fun z => h (by have := V.int.inj z; omega))]
        rw [e]
        exact q
      | _ => cases hT
theorem ok_error_of_line {f : Addr} {fd : FuncData} (F : Fun K "error_of_line" "error_of_line" s_error_of_line f fd) (C_taken : Cl P w K mg base 2 "taken" (spTaken K)) : FnOk P w K mg base CX0 3 f fd ["amount", "whole"] (spErrLine K) := by
  refine F.ok sc_error_of_line (fun vs H Q E h => ?_) (fun cdv A outer s H vs Q E hr h => ?_)
  · obtain ⟨_, _, _, rfl, _⟩ := h
    rfl
  · obtain ⟨t, p, n, rfl, hS, ho, hn, fin⟩ := h
    refine ⟨_, (pss_one (ps_ret (pe_cl C_taken hr (by decide) rfl (pa_cons (pe_tup (pa_cons (pv 1) (pa_cons pe_int pa_nil))) (pa_cons (pv 0) pa_nil))))), ?_⟩
    refine ⟨_, rfl, by show 2 ≤ sizeLine; decide, fun w1 nw => ?_⟩
    have s1 := same_upd (o := .tup [.int n, .int 1]) nw
    refine ⟨_, rfl, ?_⟩
    refine ⟨w1, t, (n, 1), p, rfl, .inl (.inl upd_same), seqT s1 hS, ⟨(by show (0 : Int) < 1; decide), Nat.gcd_one_right _⟩, ho.low, ⟨Nat.lt_of_le_of_lt hn (by decide), (by show (1 : Int).natAbs < _; decide)⟩, ho.bt.mono (by decide), fun H' u s2 nu hu => ?_⟩
    refine fin H' u (s1.trans s2) (s1.free nu) ?_
    have e : M2.add (n, 1) (neg p) = U (lineU p n) := by
      rw [← U_whole n]
      conv => lhs; rw [← U_un ho.low ho.dvd]
      rw [neg_U, add_U]
      rfl
    rw [hu, e]
theorem ok_are_small {f : Addr} {fd : FuncData} (F : Fun K "are_small" "are_small" s_are_small f fd) (C_is_small : Cl P w K mg base 1 "is_small" (spSmall K)) (z_all : mg "all" = none) : FnOk P w K mg base CX0 2 f fd ["some"] (spSmalls K) := by
  refine F.ok sc_are_small (fun vs H Q E h => ?_) (fun cdv A outer s H vs Q E hr h => ?_)
  · obtain ⟨_, _, rfl, _⟩ := h
    rfl
  · obtain ⟨a, es, rfl, ⟨xs, hA, hF⟩, hl, fin⟩ := h
    refine ⟨_, (pss_one (ps_ret (pe_callB (cr_all rfl) (by rfl) z_all (by decide +kernel) (pa_cons (pe_lc (own := [("one", 1)]) (by rfl) sc_are_small.nd (pi_tup (pv 0)) (blkOk_by (own := [("one", 1)]) (N := N_are_small) (sc := defScope s_are_small) (by decide +kernel)) (fun _ _ _ _ _ => (pg_name (i := 1) sc_are_small.nd rfl (.inl rfl))) (fun _ _ _ _ _ => pts_nil) (fun _ _ _ _ _ => (pe_cl C_is_small hr (by decide) rfl (pa_cons (pv 1) pa_nil)))) pa_nil)))), ?_⟩
    have lx := hF.len
    rw [List.length_map] at lx
    have big : sizeLine = 16777216 := by decide
    refine ⟨_, rfl, a, rfl, ⟨_, hA⟩, fun D nD => ?_⟩
    refine lc_it (walk_tup (K := K) (a := a) (xs := xs)) (fun i H' => Same H H' ∧ H' D = some (.lst ((((es.take i).map fun e => decide (-DL < e ∧ e < DL)).map V.bl)))) ⟨same_upd nD, upd_same⟩ (fun i H' _ h => seqT h.1 hA) ?_ ?_
    · rintro i v H1 H2 hi ⟨sm, hD⟩ ⟨e2, ex⟩
      subst e2
      obtain ⟨t, p, rfl, ep, ht⟩ := hF.get ex
      rw [List.getElem?_map] at ep
      obtain ⟨c, ec, rfl⟩ := Option.map_eq_some_iff.mp ep
      refine ⟨rfl, _, rfl, t, U c, rfl, seqT sm ht, ?_⟩
      have e1 : decide ((if (U c).1 < 0 then -(U c).1 else (U c).1) < (U c).2) = decide (-DL < c ∧ c < DL) := by
        rw [Bool.eq_iff_iff, decide_eq_true_iff, decide_eq_true_iff]
        exact U_small c
      rw [e1]
      refine ⟨_, hD, ?_, HD.same_put sm nD, ?_⟩
      · rw [List.length_map, List.length_map, List.length_take]
        omega
      · rw [upd_same, List.take_add_one, ec, List.map_append, List.map_append]
        rfl
    · rintro H1 ⟨sm, hD⟩
      rw [List.take_of_length_le (by omega)] at hD
      refine ⟨D, _, rfl, .inl (.inl hD), ?_⟩
      have e : (es.map fun e => decide (-DL < e ∧ e < DL)).all id = es.all fun e => decide (-DL < e ∧ e < DL) := by
        rw [List.all_map]
        rfl
      rw [e]
      exact fin H1 sm
theorem ok_no_errors {f C zz : Addr} {fd : FuncData} (F : Fun K "no_errors" "no_errors" s_no_errors f fd) (T : TabC K C) (m_ZERO : mg "ZERO" = some (.ref zz)) (hz : ∀ H, SqT K H zz (pV (0, 1))) (z_tuple : mg "tuple" = none) : FnOk P w K mg base CX0 1 f fd ["table"] (spNoErr K C) := by
  refine F.ok sc_no_errors (fun vs H Q E h => ?_) (fun cdv A outer s H vs Q E hr h => ?_)
  · obtain ⟨_, _, _, rfl, _⟩ := h
    rfl
  · obtain ⟨a, ks, ts, rfl, hTab, ok, fin⟩ := h
    refine ⟨_, (pss_one (ps_ret (pe_callTy call_tupE (by rfl) z_tuple (by decide +kernel) (pa_cons (pe_lc (own := [("_", 1)]) (by rfl) sc_no_errors.nd (pi_tup (pe_fld (pv 0) (by rfl))) (blkOk_by (own := [("_", 1)]) (N := N_no_errors) (sc := defScope s_no_errors) (by decide +kernel)) (fun _ _ _ _ _ => (pg_name (i := 1) sc_no_errors.nd rfl (.inl rfl))) (fun _ _ _ _ _ => pts_nil) (fun _ _ _ _ _ => (pe_glob (v := .ref zz) rfl m_ZERO rfl))) pa_nil)))), ?_⟩
    have big : sizeLine = 16777216 := by decide
    have lk := ok.kinds.2.1
    obtain ⟨dx, k, t, ys, hO, hK, hS, hT⟩ := hTab
    refine ⟨_, rfl, a, C, dx, _, .ref k, rfl, hO, T.c, T.nk, rfl, k, rfl, ⟨_, hK⟩, fun D nD => ?_⟩
    refine lc_it (walk_tup (K := K) (a := k) (xs := ks.map V.str)) (fun i H' => Same H H' ∧ H' D = some (.lst (List.replicate i (V.ref zz)))) ⟨same_upd nD, upd_same⟩ (fun i H' _ h => seqT h.1 hK) ?_ ?_
    · rintro i v H1 H2 hi ⟨sm, hD⟩ ⟨e2, ex⟩
      subst e2
      rw [List.length_map] at hi
      refine ⟨rfl, _, hD, ?_, HD.same_put sm nD, ?_⟩
      · rw [List.length_replicate]
        omega
      · rw [upd_same, List.replicate_succ']
    · rintro H1 ⟨sm, hD⟩
      rw [List.length_map] at hD
      refine ⟨D, _, rfl, .inl (.inl (.inl hD)), fun H2 u s2 hu => fin H2 u (sm.trans s2) ⟨_, hu, ?_⟩⟩
      have : ∀ n : Nat, Frs K H2 (List.replicate n (V.ref zz)) ((List.replicate n (0 : Int)).map U) := by
        intro n
        induction n with
        | zero => exact trivial
        | succ n ih => exact ⟨⟨zz, rfl, by rw [U_zero]; exact hz H2⟩, ih⟩
      exact this _
theorem ok_error_of_total {f C : Addr} {fd : FuncData} (F : Fun K "error_of_total" "error_of_total" s_error_of_total f fd) (T : TabC K C) (C_sum_of : Cl P w K mg base 2 "sum_of" (spSumL K)) : FnOk P w K mg base CX0 3 f fd ["table", "errors", "total"] (spErrTot K C) := by
  refine F.ok sc_error_of_total (fun vs H Q E h => ?_) (fun cdv A outer s H vs Q E hr h => ?_)
  · obtain ⟨_, _, _, _, _, _, _, rfl, _⟩ := h
    rfl
  · obtain ⟨a, e, ks, ts, es, j, c, rfl, hTab, ok, ⟨xs, hE, hF⟩, le, hw, ec, fin⟩ := h
    refine ⟨_, (pss_one (ps_ret (pe_cl C_sum_of hr (by decide) rfl (pa_cons (pe_lc (own := [("kind", 3)]) (by rfl) sc_error_of_total.nd (pi_tup (pe_ix ix_tup (pe_fld (pv 0) (by rfl)) (pv 2) (fun _ _ => rfl))) (blkOk_by (own := [("kind", 3)]) (N := N_error_of_total) (sc := defScope s_error_of_total) (by decide +kernel)) (fun _ _ _ _ _ => (pg_name (i := 3) sc_error_of_total.nd rfl (.inl rfl))) (fun _ _ _ _ _ => pts_nil) (fun _ _ _ _ _ => (pe_ix (show IxR _ (rIxT K) from ix_tup) (pv 1) (pv 3) (fun _ _ => rfl)))) pa_nil)))), ?_⟩
    have big : sizeLine = 16777216 := by decide
    have lk := ok.kinds.2.1
    have lo := ok.lots c (List.mem_of_getElem? ec)
    have lc := lot_len lo
    obtain ⟨dx, k, t, ys, hO, hK, hS, hT⟩ := hTab
    have ly := hT.len
    obtain ⟨hj, _⟩ := List.getElem?_eq_some_iff.mp ec
    obtain ⟨y, ey⟩ : ∃ y, ys[j]? = some y := ⟨ys[j]'(by omega), List.getElem?_eq_getElem (by omega)⟩
    obtain ⟨tt, c2, rfl, ec2, htt⟩ := hT.get ey
    rw [ec] at ec2
    obtain rfl := Option.some.inj ec2
    refine ⟨_, rfl, a, C, dx, _, .ref t, rfl, hO, T.c, T.nt, rfl, _, rfl, t, _, _, _, rfl, rfl, hS, atI_nat ey, tt, rfl, ⟨_, htt⟩, fun D nD => ?_⟩
    refine lc_it (walk_tup (K := K) (a := tt) (xs := c.map V.int)) (fun i H' => Same H H' ∧ ∃ zs, H' D = some (.lst zs) ∧ Frs K H' zs (((c.take i).map fun k => es.getD k.toNat 0).map U)) ⟨same_upd nD, [], upd_same, trivial⟩ (fun i H' _ h => seqT h.1 htt) ?_ ?_
    · rintro i v H1 H2 hi ⟨sm, zs, hD, hz⟩ ⟨e2, ex⟩
      subst e2
      rw [List.length_map] at hi
      rw [List.getElem?_map] at ex
      obtain ⟨kk, ek, rfl⟩ := Option.map_eq_some_iff.mp ex
      have ⟨k0, k1⟩ := lo.2.1 kk (List.mem_of_getElem? ek)
      obtain ⟨m, rfl⟩ := Int.eq_ofNat_of_zero_le k0
      have hm : m < es.length := by omega
      obtain ⟨b, eb⟩ : ∃ b, es[m]? = some b := ⟨_, List.getElem?_eq_getElem hm⟩
      obtain ⟨q, e3, hq⟩ := frs_get (p := U b) (i := m) hF (by rw [List.getElem?_map, eb]; rfl)
      have lz := hz.len
      rw [List.length_map, List.length_map, List.length_take] at lz
      refine ⟨rfl, _, rfl, _, rfl, e, _, _, _, rfl, rfl, seqT sm hE, atI_nat e3, zs, hD, by omega, HD.same_put sm nD, zs ++ [.ref q], upd_same, ?_⟩
      have hq2 : SqT K (L2.upd H2 D (.lst (zs ++ [.ref q]))) q (pV (U b)) := seqT_upd hD (seqT sm hq)
      rw [List.take_add_one, ek, List.map_append, List.map_append]
      show Frs K _ (zs ++ [V.ref q]) (_ ++ [U (es.getD ((m : Int)).toNat 0)])
      rw [Int.toNat_natCast, List.getD_eq_getElem?_getD, eb]
      exact frs_snoc hq2 (Frs.updL hD hz)
    · rintro H1 ⟨sm, zs, hD, hz⟩
      rw [List.take_of_length_le (by rw [List.length_map]; exact Nat.le_refl _)] at hz
      have lb : ∀ x ∈ c.map (fun k => es.getD k.toNat 0), x.natAbs < 2 ^ 60 := fun x hx => by
        obtain ⟨k, _, rfl⟩ := List.mem_map.mp hx
        rw [List.getD_eq_getElem?_getD]
        cases q : es[k.toNat]? with
        | none => exact (by decide : (0 : Int).natAbs < 2 ^ 60)
        | some v => exact within_lt hw v (List.mem_of_getElem? q)
      refine ⟨D, zs, _, _, rfl, .inr (.inl (.inl hD)), hz, btL_U (n := 60) (by decide) _ lb, fun p hp => ?_, ?_, fun H2 u s2 hu => ?_⟩
      · obtain ⟨x, _, rfl⟩ := List.mem_map.mp hp
        exact U_low x
      · rw [M9.bits_rep, List.length_map]
        omega
      · rw [sumQ_U] at hu
        exact fin H2 u (sm.trans s2) hu
theorem ok_totals_by {f C : Addr} {fd : FuncData} (F : Fun K "totals_by" "totals_by" s_totals_by f fd) (T : TabC K C) (C_error_of_total : Cl P w K mg base 3 "error_of_total" (spErrTot K C)) (z_tuple : mg "tuple" = none) (z_len : mg "len" = none) (z_range : mg "range" = none) : FnOk P w K mg base CX0 4 f fd ["table", "errors"] (spTotsBy K C) := by
  refine F.ok sc_totals_by (fun vs H Q E h => ?_) (fun cdv A outer s H vs Q E hr h => ?_)
  · obtain ⟨_, _, _, _, _, rfl, _⟩ := h
    rfl
  · obtain ⟨a, e, ks, ts, es, rfl, hTab, ok, hE, le, hw, fin⟩ := h
    refine ⟨_, (pss_one (ps_ret (pe_callTy call_tupE (by rfl) z_tuple (by decide +kernel) (pa_cons (pe_lc (own := [("total", 2)]) (by rfl) sc_totals_by.nd (pi_range1 (by rfl) z_range (pa_cons (pe_callB call_len_seq (by rfl) z_len (by decide +kernel) (pa_cons (pe_fld (pv 0) (by rfl)) pa_nil)) pa_nil)) (blkOk_by (own := [("total", 2)]) (N := N_totals_by) (sc := defScope s_totals_by) (by decide +kernel)) (fun _ _ _ _ _ => (pg_name (i := 2) sc_totals_by.nd rfl (.inl rfl))) (fun _ _ _ _ _ => pts_nil) (fun _ _ _ _ _ => (pe_cl C_error_of_total hr (by decide) rfl (pa_cons (pv 0) (pa_cons (pv 1) (pa_cons (pv 2) pa_nil)))))) pa_nil)))), ?_⟩
    have big : sizeLine = 16777216 := by decide
    have lt := ok.len
    have hTab0 := hTab
    obtain ⟨dx, k, t, ys, hO, hK, hS, hT⟩ := hTab
    have ly := hT.len
    refine ⟨_, rfl, a, C, dx, _, .ref t, rfl, hO, T.c, T.nt, rfl, _, ys, rfl, .inr hS, _, rfl, by omega, by omega, fun D nD => ?_⟩
    refine lc_it (walk_range (lo := 0) (n := ys.length)) (fun i H' => Same H H' ∧ ∃ zs, H' D = some (.lst zs) ∧ Frs K H' zs (((ts.take i).map (totU es)).map U)) ⟨same_upd nD, [], upd_same, trivial⟩ (fun i H' _ h => trivial) ?_ ?_
    · rintro i v H1 H2 hi ⟨sm, zs, hD, hz⟩ ⟨rfl, rfl⟩
      obtain ⟨c, ec⟩ : ∃ c, ts[i]? = some c := ⟨ts[i]'(by omega), List.getElem?_eq_getElem (by omega)⟩
      have lz := hz.len
      rw [List.length_map, List.length_map, List.length_take] at lz
      refine ⟨rfl, _, rfl, _, rfl, _, rfl, a, e, ks, ts, es, i, c, by show [V.ref a, V.ref e, V.int (0 + (i : Int))] = _; rw [Int.zero_add], hTab0.mono sm, ok, hE.mono sm, le, hw, ec, fun H3 u s3 hu => ?_⟩
      have hD3 := s3 _ _ hD
      refine ⟨zs, hD3, by omega, HD.same_put (sm.trans s3) nD, zs ++ [.ref u], upd_same, ?_⟩
      rw [List.take_add_one, ec, List.map_append, List.map_append]
      exact frs_snoc (seqT_upd hD3 hu) (Frs.updL hD3 (hz.mono s3))
    · rintro H1 ⟨sm, zs, hD, hz⟩
      rw [ly, List.take_length] at hz
      refine ⟨D, _, rfl, .inl (.inl (.inl hD)), fun H2 u s2 hu => fin H2 u (sm.trans s2) ⟨zs, hu, hz.mono s2⟩⟩
theorem ok_totals_behind {f C : Addr} {fd : FuncData} (F : Fun K "totals_behind" "totals_behind" s_totals_behind f fd) (T : TabC K C) (C_added : Cl P w K mg base 1 "added" (spAdd K)) (z_zip : mg "zip" = none) (z_tuple : mg "tuple" = none) : FnOk P w K mg base CX0 2 f fd ["table", "errors", "kind", "change"] (spTotBeh K C) := by
  refine F.ok sc_totals_behind (fun vs H Q E h => ?_) (fun cdv A outer s H vs Q E hr h => ?_)
  · obtain ⟨_, _, _, _, _, _, _, _, rfl, _⟩ := h
    rfl
  · obtain ⟨a, e, q, ks, ts, es, k, d, rfl, hTab, ok, ⟨xs, hE, hF⟩, le, hw, hq, hd, fin⟩ := h
    refine ⟨_, (pss_cons (ps_set (i := 4) sc_totals_behind.nd rfl (.inl rfl) (pe_lst pa_nil))
    (pss_cut (ps_for PassesOwn.never rfl (RZ.pi_zipA (by rfl) z_zip (pa_cons (pe_fld (pv 0) (by rfl)) (pa_cons (pv 1) pa_nil))) (pg_tup rfl (pgs_cons (pg_name (i := 5) sc_totals_behind.nd rfl (.inl rfl)) (pgs_cons (pg_name (i := 6) sc_totals_behind.nd rfl (.inl rfl)) pgs_nil)))
      (pss_one (ps_expr (pe_bm PySem.F.plainAttrs_list PySem.F.slot_list_append PySem.F.type_list_append mt_append (pv 4) (pa_cons (pe_ifExp (pt_cmpR op_in_seq (pv 2) (pv 5) rfl) (pe_cl C_added hr (by decide) rfl (pa_cons (pv 6) (pa_cons (pv 3) pa_nil))) (pv 6)) pa_nil)))))
    (pss_one (ps_ret (pe_callTy call_tupE (by rfl) z_tuple (by decide +kernel) (pa_cons (pv 4) pa_nil)))))), ?_⟩
    have big : sizeLine = 16777216 := by decide
    have lt := ok.len
    have lx := hF.len
    rw [List.length_map] at lx
    obtain ⟨dx, kk, t, ys, hO, hK, hS, hT⟩ := hTab
    have ly := hT.len
    refine ⟨by show 0 ≤ sizeLine; exact Nat.zero_le _, fun D nD => ?_⟩
    have sD := same_upd (o := .lst []) nD
    have kD := upd_same (H := H) (a := D) (o := .lst [])
    generalize L2.upd H D (.lst []) = H1 at sD kD ⊢
    refine ⟨fun σ H' => (∃ y5 y6 : Option V, σ = [some (.ref a), some (.ref e), some (.int k), some (.ref q), some (.ref D), y5, y6]) ∧ Same H H' ∧ ∃ zs, H' D = some (.lst zs) ∧ Frs K H' zs ((behT ts es k d).map U), ?_, ?_⟩
    · refine ⟨_, rfl, a, C, dx, _, .ref t, rfl, sD _ _ hO, T.c, T.nt, rfl, _, rfl, t, e, _, _, rfl, .inr ⟨seqT sD hS, seqT sD hE, ?_⟩⟩
      refine for_it (walk_zipT (K := K) (a := t) (b := e) (xs := ys) (ys := xs) (n := ts.length) (by omega)) (fun i σ H' => (∃ y5 y6 : Option V, σ = [some (.ref a), some (.ref e), some (.int k), some (.ref q), some (.ref D), y5, y6]) ∧ Same H H' ∧ ∃ zs, H' D = some (.lst zs) ∧ Frs K H' zs (((behT ts es k d).take i).map U)) ⟨⟨_, _, rfl⟩, sD, [], kD, trivial⟩ (fun i σ H' _ h => ⟨seqT h.2.1 hS, seqT h.2.1 hE⟩) ?_ ?_
      · rintro i v σ H2 H3 hi ⟨⟨y5, y6, rfl⟩, sm, zs, hD, hz⟩ ⟨W, x, y, rfl, nW, rfl, ex, ey⟩
        obtain ⟨tt, c, rfl, ec, htt⟩ := hT.get ex
        obtain ⟨u, p, rfl, ep, hu⟩ := hF.get ey
        rw [List.getElem?_map] at ep
        obtain ⟨b, eb, rfl⟩ := Option.map_eq_some_iff.mp ep
        have sW := same_upd (o := .tup [.ref tt, .ref u]) nW
        have sm2 := sm.trans sW
        have hD2 := sW _ _ hD
        have hz2 := hz.mono sW
        have lz := hz.len
        rw [List.length_map, List.length_take] at lz
        have hbm := hw b (List.mem_of_getElem? eb)
        refine ⟨W, _, rfl, .inl (.inl upd_same), rfl, _, _, rfl, _, _, rfl, rfl, ?_⟩
        refine ⟨_, rfl, .inl ⟨rfl, _, .inl (.inl hD2)⟩, _, rfl, _, rfl, tt, c.map V.int, rfl, .inr (seqT sm2 htt), rfl, flat_ints c, _, rfl, ?_⟩
        have bt := behT_take (k := (k : Int)) (d := d) ec eb
        generalize L2.upd H2 W (.tup [.ref tt, .ref u]) = H4 at sm2 hD2 hz2 ⊢
        have fill : ∀ (H5 : Hp) (z : Addr) (r : Int), Same H4 H5 → SqT K H5 z (pV (U r)) → (if c.contains (k : Int) then b + d else b) = r → ∃ (o : Addr) (us : List V) (x : V), V.ref D = .ref o ∧ [V.ref z] = [x] ∧ H5 o = some (.lst us) ∧ us.length < sizeLine ∧ ((∃ y5 y6 : Option V, [some (V.ref a), some (.ref e), some (.int k), some (.ref q), some (.ref D), some (.ref tt), some (.ref u)] = [some (V.ref a), some (.ref e), some (.int k), some (.ref q), some (.ref D), y5, y6]) ∧ Same H (L2.upd H5 o (.lst (us ++ [x]))) ∧ ∃ zs, (L2.upd H5 o (.lst (us ++ [x]))) D = some (.lst zs) ∧ Frs K (L2.upd H5 o (.lst (us ++ [x]))) zs (((behT ts es k d).take (i + 1)).map U)) := by
          intro H5 z r s5 hz5 er
          have hD5 := s5 _ _ hD2
          refine ⟨D, zs, .ref z, rfl, rfl, hD5, by omega, ⟨_, _, rfl⟩, HD.same_put (sm2.trans s5) nD, zs ++ [.ref z], upd_same, ?_⟩
          rw [bt, er, List.map_append]
          exact frs_snoc (seqT_upd hD5 hz5) (Frs.updL hD5 (hz2.mono s5))
        have ei := inV_ints (k : Int) c
        rw [ei]
        cases hc : c.contains (k : Int) with
        | true =>
          refine iteT ⟨_, rfl, _, rfl, u, q, U b, U d, rfl, seqT sm2 hu, seqT sm2 hq, U_low _, U_low _, (U_bt (n := 60) hbm (by decide)).mono (by decide), (U_bt (n := 60) hd (by decide)).mono (by decide), fun H5 z s5 nz hz5 => ?_⟩
          rw [add_U] at hz5
          exact fill H5 z (b + d) s5 (.inl (.inl hz5)) (if_pos hc)
        | false =>
          refine iteF ⟨_, rfl, ?_⟩
          exact fill H4 u b (Same.refl _) (seqT sm2 hu) (if_neg (by rw [hc]; exact Bool.false_ne_true))
      · rintro σ H2 ⟨y, sm, zs, hD, hz⟩
        have lb : (behT ts es (k : Int) d).length = ts.length := by unfold behT; rw [List.length_map, List.length_zip]; omega
        rw [List.take_of_length_le (by omega)] at hz
        exact ⟨y, sm, zs, hD, hz⟩
    · rintro σ H2 ⟨⟨y5, y6, rfl⟩, sm, zs, hD, hz⟩
      refine ⟨_, rfl, D, zs, rfl, .inl (.inl (.inl hD)), fun H3 u s3 hu => fin H3 u (sm.trans s3) ⟨zs, hu, hz.mono s3⟩⟩
theorem ok_course_of {f C zz : Addr} {fd : FuncData} (F : Fun K "course_of" "course_of" s_course_of f fd) (T : TabC K C) (m_ZERO : mg "ZERO" = some (.ref zz)) (hz : ∀ H, SqT K H zz (pV (0, 1))) (C_totals_behind : Cl P w K mg base 2 "totals_behind" (spTotBeh K C)) (C_error_of_line : Cl P w K mg base 3 "error_of_line" (spErrLine K)) (z_tuple : mg "tuple" = none) : FnOk P w K mg base CX0 4 f fd ["table", "day"] (spCourse K C) := by
  refine F.ok sc_course_of (fun vs H Q E h => ?_) (fun cdv A outer s H vs Q E hr h => ?_)
  · obtain ⟨_, _, _, _, _, rfl, _⟩ := h
    rfl
  · obtain ⟨a, d, ks, ts, rs, rfl, hTab, ok, ⟨xs, hD, hL, ho, hl⟩, fin⟩ := h
    refine ⟨_, (pss_cons (ps_set (i := 2) sc_course_of.nd rfl (.inl rfl) (pe_callTy call_tupE (by rfl) z_tuple (by decide +kernel) (pa_cons (pe_lc (own := [("_", 7)]) (by rfl) sc_course_of.nd (pi_tup (pe_fld (pv 0) (by rfl))) (blkOk_by (own := [("_", 7)]) (N := N_course_of) (sc := defScope s_course_of) (by decide +kernel)) (fun _ _ _ _ _ => (pg_name (i := 7) sc_course_of.nd rfl (.inl rfl))) (fun _ _ _ _ _ => pts_nil) (fun _ _ _ _ _ => (pe_glob (v := .ref zz) rfl m_ZERO rfl))) pa_nil)))
    (pss_cons (ps_set (i := 3) sc_course_of.nd rfl (.inl rfl) (pe_lst (pa_cons (pv 2) pa_nil)))
    (pss_cut (ps_for PassesOwn.never rfl (pi_tup (pv 1)) (pg_tup rfl (pgs_cons (pg_name (i := 4) sc_course_of.nd rfl (.inl rfl)) (pgs_cons (pg_name (i := 5) sc_course_of.nd rfl (.inl rfl)) (pgs_cons (pg_name (i := 6) sc_course_of.nd rfl (.inl rfl)) pgs_nil))))
      (pss_cons (ps_set (i := 2) sc_course_of.nd rfl (.inl rfl) (pe_cl C_totals_behind hr (by decide) rfl (pa_cons (pv 0) (pa_cons (pv 2) (pa_cons (pv 4) (pa_cons (pe_cl C_error_of_line hr (by decide) rfl (pa_cons (pv 5) (pa_cons (pv 6) pa_nil))) pa_nil))))))
      (pss_one (ps_expr (pe_bm PySem.F.plainAttrs_list PySem.F.slot_list_append PySem.F.type_list_append mt_append (pv 3) (pa_cons (pv 2) pa_nil))))))
    (pss_one (ps_ret (pe_callTy call_tupE (by rfl) z_tuple (by decide +kernel) (pa_cons (pv 3) pa_nil))))))), ?_⟩
    have big : sizeLine = 16777216 := by decide
    have lt := ok.len
    have lk := ok.kinds.2.1
    have lx := hL.len
    have hTab0 := hTab
    obtain ⟨dx, kk, t, ys, hO, hK, hS, hT⟩ := hTab
    have ly := hT.len
    refine ⟨_, rfl, a, C, dx, _, .ref t, rfl, hO, T.c, T.nt, rfl, t, rfl, ⟨_, hS⟩, fun D nD => ?_⟩
    refine lc_it (walk_tup (K := K) (a := t) (xs := ys)) (fun i H' => Same H H' ∧ H' D = some (.lst (List.replicate i (V.ref zz)))) ⟨same_upd nD, upd_same⟩ (fun i H' _ h => seqT h.1 hS) ?_ ?_
    · rintro i v H1 H2 hi ⟨sm, hD⟩ ⟨e2, ex⟩
      subst e2
      refine ⟨rfl, _, hD, ?_, HD.same_put sm nD, ?_⟩
      · rw [List.length_replicate]
        omega
      · rw [upd_same, List.replicate_succ']
    · rintro H1 ⟨sm1, hD1⟩
      refine ⟨D, _, rfl, .inl (.inl (.inl hD1)), fun H2 u s2 hu => ?_⟩
      have s12 := sm1.trans s2
      have hE0 : EU K H2 u (totsU ts (errU ks.length (rs.take 0))) := by
        refine ⟨_, hu, ?_⟩
        have e : totsU ts (errU ks.length (rs.take 0)) = List.replicate ts.length 0 := tots_zero ks.length ts
        rw [e, ly]
        have : ∀ n : Nat, Frs K H2 (List.replicate n (V.ref zz)) ((List.replicate n (0 : Int)).map U) := by
          intro n
          induction n with
          | zero => exact trivial
          | succ n ih => exact ⟨⟨zz, rfl, by rw [U_zero]; exact hz H2⟩, ih⟩
        exact this _
      clear hD1 hu
      refine ⟨_, rfl, by show 1 ≤ sizeLine; decide, fun L nL => ?_⟩
      have sL := same_upd (o := .lst [.ref u]) nL
      have kL := upd_same (H := H2) (a := L) (o := .lst [V.ref u])
      have nL0 := s12.free nL
      generalize L2.upd H2 L (.lst [.ref u]) = H3 at sL kL ⊢
      have s13 := s12.trans sL
      have hE1 := hE0.mono sL
      refine ⟨fun σ H' => (∃ y2 y4 y5 y6 y7 : Option V, σ = [some (.ref a), some (.ref d), y2, some (.ref L), y4, y5, y6, y7]) ∧ Same H H' ∧ ∃ us, H' L = some (.lst us) ∧ EUs K H' us (courseU ks.length ts rs), ?_, ?_⟩
      · refine ⟨_, rfl, d, rfl, ⟨_, seqT s13 hD⟩, ?_⟩
        refine for_it (walk_tup (K := K) (a := d) (xs := xs)) (fun i σ H' => (∃ (u : Addr) (y4 y5 y6 y7 : Option V), σ = [some (.ref a), some (.ref d), some (.ref u), some (.ref L), y4, y5, y6, y7] ∧ EU K H' u (totsU ts (errU ks.length (rs.take i)))) ∧ Same H H' ∧ ∃ us, H' L = some (.lst us) ∧ EUs K H' us (cou ks.length ts rs i)) ⟨⟨u, _, _, _, _, rfl, hE1⟩, s13, [.ref u], kL, ⟨⟨u, rfl, hE1⟩, trivial⟩⟩ (fun i σ H' _ h => seqT h.2.1 hD) ?_ ?_
        · rintro i x σ H4 H5 hi ⟨⟨u, y4, y5, y6, y7, rfl, hE⟩, sm, us, kL, hus⟩ ⟨rfl, ex⟩
          obtain ⟨r, er, t1, q, rfl, h1, h2⟩ := hL.get ex
          have hrm := ho r (List.mem_of_getElem? er)
          have ew := errU_at i ho (by omega)
          refine ⟨t1, _, rfl, seqT sm h1, rfl, _, _, rfl, _, _, rfl, _, _, rfl, rfl, ?_⟩
          refine ⟨_, rfl, _, rfl, _, rfl, _, rfl, _, rfl, q, _, _, rfl, seqT sm h2, hrm.amt, hrm.whole, fun H6 u6 s6 nu6 hu6 => ?_⟩
          refine ⟨a, u, u6, ks, ts, _, r.1, _, rfl, hTab0.mono (sm.trans s6), ok, hE.mono s6, tots_len ts _, fun x hx => ?_, .inl (.inl hu6), Nat.lt_trans hrm.near (by decide), fun H7 u7 s7 hu7 => ?_⟩
          · obtain ⟨c, hc, rfl⟩ := List.mem_map.mp hx
            have lc := lot_len (ok.lots c hc)
            have b := tot_lt ew.1 c
            have : c.length * (1000 * 2 ^ 45) ≤ 12 * (1000 * 2 ^ 45) := Nat.mul_le_mul_right _ (by omega)
            have : 12 * (1000 * 2 ^ 45) < 2 ^ 60 := by decide
            omega
          · have hk : r.1 < (errU ks.length (rs.take i)).length := by rw [ew.2]; exact hrm.kind
            rw [behT_eq hk ok.lots] at hu7
            have e7 : totsU ts (addAt (errU ks.length (rs.take i)) r.1 (lineU r.2.1 r.2.2)) = totsU ts (errU ks.length (rs.take (i + 1))) := by
              rw [errU_take er]
              rfl
            rw [e7] at hu7
            have s67 := s6.trans s7
            have kL7 := s67 _ _ kL
            have lus := hus.len
            have lcu : (cou ks.length ts rs i).length = i + 1 := by unfold cou; rw [List.length_map, List.length_range]
            refine ⟨_, rfl, .inl ⟨rfl, _, .inl (.inl kL7)⟩, _, rfl, L, us, _, rfl, rfl, kL7, by omega, ⟨_, _, _, _, _, rfl, hu7.updL kL7⟩, HD.same_put (sm.trans s67) nL0, us ++ [.ref u7], upd_same, ?_⟩
            rw [cou_succ]
            exact EUs.updL kL7 (EUs.snoc hu7 (hus.mono s67))
        · rintro σ H4 ⟨⟨u, y4, y5, y6, y7, rfl, _⟩, sm, us, kL, hus⟩
          rw [lx] at hus
          exact ⟨⟨_, _, _, _, _, rfl⟩, sm, us, kL, hus⟩
      · rintro σ H4 ⟨⟨y2, y4, y5, y6, y7, rfl⟩, sm, us, kL, hus⟩
        exact ⟨_, rfl, L, us, rfl, .inl (.inl (.inl kL)), fun H5 u s5 hu => fin H5 u us (sm.trans s5) hu (hus.mono s5)⟩
theorem ok_first_off {f C : Addr} {fd : FuncData} (F : Fun K "first_off" "first_off" s_first_off f fd) (C_course_of : Cl P w K mg base 4 "course_of" (spCourse K C)) (C_are_small : Cl P w K mg base 2 "are_small" (spSmalls K)) (z_enumerate : mg "enumerate" = none) : FnOk P w K mg base CX0 5 f fd ["table", "day"] (spFirst K C) := by
  refine F.ok sc_first_off (fun vs H Q E h => ?_) (fun cdv A outer s H vs Q E hr h => ?_)
  · obtain ⟨_, _, _, _, _, rfl, _⟩ := h
    rfl
  · obtain ⟨a, d, ks, ts, rs, rfl, hTab, ok, hD, fin⟩ := h
    refine ⟨_, (pss_cut (ps_for PassesOwn.never rfl (pi_enumT (by rfl) z_enumerate (pa_cons (pe_slice sl_tupM (pe_cl C_course_of hr (by decide) rfl (pa_cons (pv 0) (pa_cons (pv 1) pa_nil))) (po_some pe_int) po_none) pa_nil)) (pg_tup rfl (pgs_cons (pg_name (i := 2) sc_first_off.nd rfl (.inl rfl)) (pgs_cons (pg_name (i := 3) sc_first_off.nd rfl (.inl rfl)) pgs_nil)))
      (pss_one (ps_if (pt_not (pt_val (pe_cl C_are_small hr (by decide) rfl (pa_cons (pv 3) pa_nil))))
        (pss_one (ps_ret (pv 2)))
        pss_nil)))
    (pss_one (ps_ret pe_non))), ?_⟩
    have lt := ok.len
    have hl := hD
    obtain ⟨_, _, _, _, hl⟩ := hl
    refine ⟨fun σ H' => Same H H' ∧ firstU ((courseU ks.length ts rs).drop 1) 0 = none, ?_, ?_⟩
    · refine ⟨_, rfl, _, rfl, a, d, ks, ts, rs, rfl, hTab, ok, hD, fun H1 u ys s1 hu hy => ?_⟩
      refine ⟨1, rfl, u, ys, rfl, hu, fun c H2 s2 g2 => ?_⟩
      rw [cut1] at g2
      have hy1 := (hy.mono s2).drop1
      have lc := course_len ks.length ts rs
      have each : ∀ e ∈ (courseU ks.length ts rs).drop 1, e.length ≤ 1000 := fun e he => by
        obtain ⟨i, _, rfl⟩ := List.mem_map.mp (List.mem_of_mem_drop he)
        rw [tots_len]
        omega
      have ld : ((courseU ks.length ts rs).drop 1).length = rs.length := by rw [List.length_drop, lc]; omega
      generalize (courseU ks.length ts rs).drop 1 = cs at hy1 fin each ld ⊢
      generalize ys.drop 1 = zs at g2 hy1
      have lz := hy1.len
      have s12 := s1.trans s2
      refine ⟨c, zs, rfl, g2, ?_⟩
      refine for_it (walk_enumT (K := K) (a := c) (xs := zs)) (fun i σ H' => (∃ y2 y3 : Option V, σ = [some (.ref a), some (.ref d), y2, y3]) ∧ Same H2 H' ∧ ∀ j < i, ∃ e, cs[j]? = some e ∧ smallU e = true) ⟨⟨_, _, rfl⟩, Same.refl _, fun j hj => by omega⟩ (fun i σ H' _ h => seqT h.2.1 g2) ?_ ?_
      · rintro i v σ H3 H4 hi ⟨⟨y2, y3, rfl⟩, sm, all⟩ ⟨W, x, rfl, nW, rfl, ex⟩
        obtain ⟨u2, es, rfl, ees, hes⟩ := hy1.get ex
        have sW := same_upd (o := .tup [.int (i : Nat), .ref u2]) nW
        have sm2 := sm.trans sW
        refine ⟨W, _, rfl, .inl (.inl upd_same), rfl, _, _, rfl, _, _, rfl, rfl, ?_⟩
        refine ⟨_, rfl, u2, es, rfl, hes.mono sm2, each es (List.mem_of_getElem? ees), fun H5 s5 => ?_⟩
        cases hs : smallU es with
        | true =>
          have hs2 : (es.all fun e => decide (-DL < e ∧ e < DL)) = true := hs
          rw [hs2]
          refine ⟨_, rfl, iteF ?_⟩
          refine ⟨⟨_, _, rfl⟩, sm2.trans s5, fun j hj => ?_⟩
          rcases Nat.lt_or_eq_of_le (Nat.le_of_lt_succ hj) with z | z
          · exact all j z
          · subst z
            exact ⟨es, ees, hs⟩
        | false =>
          have hs2 : (es.all fun e => decide (-DL < e ∧ e < DL)) = false := hs
          rw [hs2]
          refine ⟨_, rfl, iteT ⟨_, rfl, ?_⟩⟩
          have q := fin H5 (s12.trans (sm2.trans s5))
          have hlt : i < cs.length := by omega
          rw [first_at cs i 0 all (by omega)] at q
          obtain ⟨hq1, hq2⟩ := List.getElem?_eq_some_iff.mp ees
          rw [List.drop_eq_getElem_cons hlt, hq2] at q
          have e : firstU (es :: cs.drop (i + 1)) (0 + i) = some i := by
            rw [firstU, hs, Nat.zero_add]
            rfl
          rw [e] at q
          exact q
      · rintro σ H3 ⟨⟨y2, y3, rfl⟩, sm, all⟩
        refine ⟨s12.trans sm, ?_⟩
        rw [lz] at all
        rw [first_at cs cs.length 0 all (Nat.le_refl _), List.drop_length]
        rfl
    · rintro σ H2 ⟨sm, e⟩
      have q := fin H2 sm
      rw [e] at q
      exact q
theorem ok_is_amount {f : Addr} {fd : FuncData} {tk : Tok} (F : Fun K "is_amount" "is_amount" s_is_amount f fd) (C_is_fraction : Cl P w K mg base 2 "is_fraction" (spIsFr K)) (m_MILLION : mg "MILLION" = some (.int 1000000 tk)) (z_abs : mg "abs" = none) : FnOk P w K mg base CX0 3 f fd ["value"] (spAmt K) := by
  refine F.ok sc_is_amount (fun vs H Q E h => ?_) (fun cdv A outer s H vs Q E hr h => ?_)
  · obtain ⟨_, _, rfl, _⟩ := h
    rfl
  · obtain ⟨v, d, rfl, hd, fin⟩ := h
    refine ⟨_, (pss_one (ps_ret (pe_and (pe_cl C_is_fraction hr (by decide) rfl (pa_cons (pv 0) pa_nil)) (pe_and (pe_cmpR op_le (pe_callB call_abs (by rfl) z_abs (by decide +kernel) (pa_cons (pe_ix ix_tup (pv 0) pe_int (fun _ _ => rfl)) pa_nil)) (pe_glob (v := .int 1000000) rfl m_MILLION ⟨_, rfl⟩) (nomark _)) (pe_one (pe_cmpR op_le (pe_ix ix_tup (pv 0) pe_int (fun _ _ => rfl)) (pe_glob (v := .int 1000000) rfl m_MILLION ⟨_, rfl⟩) (nomark _))))))), ?_⟩
    cases hT : isTupD d with
    | false =>
      obtain ⟨ty, t, k⟩ := hd.noTup hT
      have e : amtD d = false := by
        cases d with
        | tuple ds => cases hT
        | _ => rfl
      rw [e] at fin
      exact ⟨_, rfl, v, rfl, .inl ⟨ty, t, k, _, rfl, iteF fin⟩⟩
    | true =>
      cases d with
      | tuple ds =>
        obtain ⟨p, xs, rfl, hS, hA⟩ := hd.isT
        have lx := hA.len
        by_cases l2 : ds.length = 2
        · cases hA with
          | nil => cases l2
          | @cons x _ dx _ hx r =>
            cases r with
            | nil => cases l2
            | @cons y _ dy _ hy r =>
              cases r with
              | cons _ _ =>
                rw [List.length_cons, List.length_cons, List.length_cons] at l2
                omega
              | nil =>
                refine ⟨_, rfl, _, rfl, .inr (.inr ⟨p, x, y, intO dx, intO dy, rfl, hS, hx.part, hy.part, ?_⟩)⟩
                cases ho : okFr (intO dx) (intO dy) with
                | false =>
                  rw [amt_not ho] at fin
                  exact ⟨_, rfl, iteF fin⟩
                | true =>
                  obtain ⟨a, b, ex, ey⟩ := okFr_ints ho
                  rw [ex, ey] at ho
                  rw [amt_ints ex ey, ho, Bool.true_and] at fin
                  have e1 := hx.intAt ex
                  have e2 := hy.intAt ey
                  subst e1
                  subst e2
                  have ea : decide ((if a < 0 then -a else a) ≤ 1000000) = decide (a.natAbs ≤ 1000000) := by
                    rw [Bool.eq_iff_iff, decide_eq_true_iff, decide_eq_true_iff]
                    split <;> omega
                  refine ⟨_, rfl, iteT ⟨_, rfl, p, _, _, _, rfl, rfl, hS, at0 _ _, _, rfl, _, _, rfl, rfl, _, rfl, ?_⟩⟩
                  rw [ea]
                  generalize decide (a.natAbs ≤ 1000000) = u at fin
                  cases u with
                  | false => exact iteF fin
                  | true => exact iteT ⟨_, rfl, p, _, _, _, rfl, rfl, hS, at1 _ _, _, _, rfl, rfl, fin⟩
        · rw [amt_len l2] at fin
          exact ⟨_, rfl, _, rfl, .inr (.inl ⟨p, _, rfl, hS, by omega, _, rfl, iteF fin⟩)⟩
      | _ => cases hT
theorem ok_choices {f : Addr} {fd : FuncData} (F : Fun K "choices" "choices" s_choices f fd) (C_floor_of : Cl P w K mg base 1 "floor_of" (spFloor K)) (C_ceiling_of : Cl P w K mg base 1 "ceiling_of" (spCeil K)) : FnOk P w K mg base CX0 2 f fd ["amount"] (spCho K) := by
  refine F.ok sc_choices (fun vs H Q E h => ?_) (fun cdv A outer s H vs Q E hr h => ?_)
  · obtain ⟨_, _, rfl, _⟩ := h
    rfl
  · obtain ⟨t, p, rfl, hS, hp, hb, fin⟩ := h
    refine ⟨_, (pss_cons (ps_par (i := 1) (j := 2) (by rfl) sc_choices.nd rfl rfl (by decide) rfl rfl (pa_cons (pe_cl C_floor_of hr (by decide) rfl (pa_cons (pv 0) pa_nil)) (pa_cons (pe_cl C_ceiling_of hr (by decide) rfl (pa_cons (pv 0) pa_nil)) pa_nil)) (by rfl))
    (pss_one (ps_ret (pe_ifExp (pt_cmpR op_eq (pv 1) (pv 2) (nomark _)) (pe_tup (pa_cons (pv 1) pa_nil)) (pe_tup (pa_cons (pv 1) (pa_cons (pv 2) pa_nil))))))), ?_⟩
    unfold choQ at fin
    refine ⟨_, rfl, t, p, rfl, hS, hp, hb, _, rfl, t, p, rfl, hS, hp, hb, ?_⟩
    refine ⟨_, _, rfl, _, rfl, _, rfl, rfl, _, rfl, ?_⟩
    by_cases h : p.1 / p.2 = -(-p.1 / p.2)
    · rw [if_pos h] at fin
      rw [decide_eq_true (by rw [← h])]
      refine iteT ⟨_, rfl, by show 1 ≤ sizeLine; decide, fun u nu => ?_⟩
      exact fin _ u (same_upd nu) nu upd_same
    · rw [if_neg h] at fin
      rw [decide_eq_false (fun z => h (V.int.inj z))]
      refine iteF ⟨_, rfl, _, rfl, by show 2 ≤ sizeLine; decide, fun u nu => ?_⟩
      exact fin _ u (same_upd nu) nu upd_same
theorem ok_is_rounded_line {f C : Addr} {fd : FuncData} (F : Fun K "is_rounded_line" "is_rounded_line" s_is_rounded_line f fd) (T : TabC K C) (C_is_tuple_of : Cl P w K mg base 1 "is_tuple_of" (spTupA K)) (C_is_number_below : Cl P w K mg base 3 "is_number_below" (spBelowA K)) (C_is_amount : Cl P w K mg base 3 "is_amount" (spAmt K)) (C_is_an_integer : Cl P w K mg base 1 "is_an_integer" (spInt K)) (C_choices : Cl P w K mg base 2 "choices" (spCho K)) (z_len : mg "len" = none) : FnOk P w K mg base CX0 4 f fd ["table", "value"] (spRounded K C) := by
  refine F.ok sc_is_rounded_line (fun vs H Q E h => ?_) (fun cdv A outer s H vs Q E hr h => ?_)
  · obtain ⟨_, _, _, _, _, rfl, _⟩ := h
    rfl
  · obtain ⟨a, v, d, ks, ts, rfl, hTab, ok, hd, fin⟩ := h
    refine ⟨_, (pss_cons (ps_if (pt_not (pt_val (pe_cl C_is_tuple_of hr (by decide) rfl (pa_cons (pv 1) (pa_cons pe_int pa_nil)))))
      (pss_one (ps_ret pe_bl))
      pss_nil)
    (pss_cons (ps_asg (pv 1) (pg_tup rfl (pgs_cons (pg_name (i := 2) sc_is_rounded_line.nd rfl (.inl rfl)) (pgs_cons (pg_name (i := 3) sc_is_rounded_line.nd rfl (.inl rfl)) (pgs_cons (pg_name (i := 4) sc_is_rounded_line.nd rfl (.inl rfl)) pgs_nil)))))
    (pss_cons (ps_if (PW.pt (pw_or (pt_not (pt_val (pe_cl C_is_number_below hr (by decide) rfl (pa_cons (pv 2) (pa_cons (pe_callB call_len_seq (by rfl) z_len (by decide +kernel) (pa_cons (pe_fld (pv 0) (by rfl)) pa_nil)) pa_nil))))) (pw_or1 (pt_not (pt_val (pe_cl C_is_amount hr (by decide) rfl (pa_cons (pv 3) pa_nil)))))))
      (pss_one (ps_ret pe_bl))
      pss_nil)
    (pss_one (ps_ret (pe_and (pe_cl C_is_an_integer hr (by decide) rfl (pa_cons (pv 4) pa_nil)) (pe_one (pe_cmpR op_in_seq (pv 4) (pe_cl C_choices hr (by decide) rfl (pa_cons (pv 3) pa_nil)) rfl)))))))), ?_⟩
    have q0 := fin H (Same.refl _)
    cases h3 : tupD 3 d with
    | false =>
      rw [line_tup h3] at q0
      refine ⟨_, rfl, v, d, 3, rfl, hd, ?_⟩
      rw [h3]
      exact ⟨_, rfl, iteT q0⟩
    | true =>
      obtain ⟨dk, dp, dn, rfl⟩ := tup3 h3
      obtain ⟨t, xs, rfl, hS, hA⟩ := hd.isT
      cases hA with
      | @cons k _ _ _ hk r =>
      cases r with
      | @cons p _ _ _ hp r =>
      cases r with
      | @cons n _ _ _ hn r =>
      cases r with
      | nil =>
      obtain ⟨dx, kk, tt, ys, hO, hK, hS2, hT⟩ := hTab
      refine ⟨_, rfl, _, _, 3, rfl, hd, ?_⟩
      rw [h3]
      refine ⟨_, rfl, iteF ?_⟩
      refine ⟨_, rfl, t, _, rfl, hS, rfl, _, _, rfl, _, _, rfl, _, _, rfl, rfl, ?_⟩
      rw [line_at] at q0
      refine ⟨_, rfl, _, rfl, a, C, dx, _, .ref kk, rfl, hO, T.c, T.nk, rfl, kk, ks.map V.str, rfl, .inr hK, ?_⟩
      rw [List.length_map]
      refine ⟨k, intO dk, (ks.length : Int), rfl, hk.part, _, rfl, ?_⟩
      have fin2 : ∀ H', Same H H' → Q (.bl (belowO (ks.length : Int) (intO dk) && amtD dp && (match intO dn with
        | some n => (choQ (pairD dp)).contains n
        | none => false))) H' := fin
      cases hb : belowO (ks.length : Int) (intO dk) with
      | false =>
        rw [hb, Bool.false_and, Bool.false_and] at q0
        exact iteT q0
      | true =>
        rw [hb, Bool.true_and] at q0
        rw [hb, Bool.true_and] at fin2
        refine iteF ⟨_, rfl, p, dp, rfl, hp, _, rfl, ?_⟩
        cases ha : amtD dp with
        | false =>
          rw [ha, Bool.false_and] at q0
          exact iteT q0
        | true =>
          rw [ha, Bool.true_and] at q0
          rw [ha, Bool.true_and] at fin2
          refine iteF ⟨_, rfl, n, intO dn, rfl, hn.part, ?_⟩
          cases hi : intO dn with
          | none =>
            rw [hi] at q0
            exact ⟨_, rfl, iteF q0⟩
          | some i =>
            rw [hi] at fin2
            have en := hn.intAt hi
            subst en
            obtain ⟨s1, rfl, hs1, low, b1, b2⟩ := amt_at hp ha
            have bt : Bt 3000 (pairD dp) := ⟨Nat.lt_of_le_of_lt b1 (by decide), Nat.lt_of_le_of_lt (show (pairD dp).2.natAbs ≤ 1000000 by have := low.1; omega) (by decide)⟩
            refine ⟨_, rfl, iteT ⟨_, rfl, _, rfl, s1, pairD dp, rfl, hs1, low.1, bt, fun H' u s' nu hu => ?_⟩⟩
            refine ⟨u, _, rfl, .inr (.inl (.inl hu)), rfl, flat_ints _, ?_⟩
            have q2 := fin2 H' s'
            have e := inV_ints i (choQ (pairD dp))
            have q3 : Q (.bl ((choQ (pairD dp)).contains i)) H' := q2
            rw [← e] at q3
            exact q3
theorem ok_check_day {f fi C ID : Addr} {fd fdi : FuncData} {tk : Tok} (F : Fun K "check_day" "check_day" s_check_day f fd) (C_is_rounded_line : Cl P w K mg base 4 "is_rounded_line" (spRounded K C)) (m_MOST_LINES : mg "MOST_LINES" = some (.int 400 tk))
    (e_InvalidDay : ErrC K mg "InvalidDay" ID fi) (i_InvalidDay : FnOk P w K mg base CX0 1 fi fdi ["self", "at"] (spInitW K ID "at")) (b_InvalidDay : Binds K fdi ["self", "at"] []) (z_isinstance : mg "isinstance" = none) (z_tuple : mg "tuple" = none) (z_len : mg "len" = none) (z_enumerate : mg "enumerate" = none) : FnOk P w K mg base (L2.CX P w) 5 f fd ["table", "value"] (spChk K C ID dayFault) := by
  refine F.okX sc_check_day (fun vs H Q E h => ?_) (fun cdv A outer s H vs Q E hr h => ?_)
  · obtain ⟨_, _, _, _, _, rfl, _⟩ := h
    rfl
  · obtain ⟨a, v, d, ks, ts, rfl, hTab, ok, hd, fin, err⟩ := h
    refine ⟨_, (pss_cons (ps_if (PW.pt (pw_or (pt_not (pt_val (pe_callB call_isi (by rfl) z_isinstance (by decide +kernel) (pa_cons (pv 1) (pa_cons (pe_bltn (v := .ty "tuple") (by rfl) z_tuple (by decide +kernel) rfl) pa_nil))))) (pw_or1 (pt_cmpR op_gt (pe_callB call_len_seq (by rfl) z_len (by decide +kernel) (pa_cons (pv 1) pa_nil)) (pe_glob (v := .int 400) rfl m_MOST_LINES ⟨_, rfl⟩) (nomark _)))))
      (pss_one (ps_raise rfl (takes_of rfl rfl rfl rfl) (pmk_oex e_InvalidDay.o e_InvalidDay.iC e_InvalidDay.tI i_InvalidDay (hr.mono (by decide)) b_InvalidDay .nil pass0 rfl e_InvalidDay.gC (pa_cons (pe_un un_neg pe_int) pa_nil))))
      pss_nil)
    (pss_one (ps_for (passes_of rfl) rfl (pi_enumT (by rfl) z_enumerate (pa_cons (pv 1) pa_nil)) (pg_tup rfl (pgs_cons (pg_name (i := 2) sc_check_day.nd rfl (.inl rfl)) (pgs_cons (pg_name (i := 3) sc_check_day.nd rfl (.inl rfl)) pgs_nil)))
      (pss_one (ps_if (pt_not (pt_val (pe_cl C_is_rounded_line hr (by decide) rfl (pa_cons (pv 0) (pa_cons (pv 3) pa_nil)))))
        (pss_one (ps_raise rfl (takes_of rfl rfl rfl rfl) (pmk_oex e_InvalidDay.o e_InvalidDay.iC e_InvalidDay.tI i_InvalidDay (hr.mono (by decide)) b_InvalidDay .nil pass0 rfl e_InvalidDay.gC (pa_cons (pv 2) pa_nil))))
        pss_nil))))), ?_⟩
    cases hT : isTupD d with
    | false =>
      obtain ⟨ty, t, k⟩ := hd.noTup hT
      refine ⟨_, rfl, _, _, _, _, false, rfl, .ty "tuple", t, kit_ty k, false, rfl, iteT ?_⟩
      refine iteT ?_
      exact raisedV (v := .int (-1)) (fun Rr h => ⟨_, rfl, h⟩) (err (-1) (day_tup hT))
    | true =>
      cases d with
      | tuple ds =>
        obtain ⟨p, xs, rfl, hS, hA⟩ := hd.isT
        have lx := hA.len
        refine ⟨_, rfl, _, _, _, _, true, rfl, .ty "tuple", tyT hS, kit_ty (by decide +kernel), true, rfl, iteF ?_⟩
        refine ⟨_, rfl, p, _, rfl, .inr hS, _, _, rfl, rfl, _, rfl, ite2 (fun z => ?_) (fun z => ?_)⟩
        · have z2 : (xs.length : Int) > 400 := of_decide_eq_true z
          exact raisedV (v := .int (-1)) (fun Rr h => ⟨_, rfl, h⟩) (err (-1) (day_long (by omega)))
        · have z2 : ¬ (xs.length : Int) > 400 := fun q => z (decide_eq_true q)
          rw [day_at (by omega)] at fin
          have err2 : ∀ i : Int, (firstBad ks.length ds 0).map (fun (i : Nat) => (i : Int)) = some i → ∀ H' x, Same H H' → H x = none → H' x = some (.xd [((("at" : String) : Str), .int i)]) → E (.ref ID) (some x) H' := fun i hi => err i (by rw [day_at (by omega)]; exact hi)
          clear err
          refine ⟨_, rfl, p, xs, rfl, hS, ?_⟩
          refine for_it (walk_enumT (K := K) (a := p) (xs := xs)) (fun i σ H' => Same H H' ∧ (∃ y2 y3 : Option V, σ = [some (.ref a), some (.ref p), y2, y3]) ∧ ∀ j < i, ∃ e, ds[j]? = some e ∧ lineD ks.length e = true) ⟨Same.refl _, ⟨_, _, rfl⟩, fun j hj => by omega⟩ (fun i σ H' _ h => seqT h.1 hS) ?_ ?_
          · rintro i v σ H2 H3 hi ⟨sm, ⟨y2, y3, rfl⟩, all⟩ ⟨W, x, rfl, nW, rfl, ex⟩
            obtain ⟨dx, edx, hdx⟩ := hA.get ex
            have sW := same_upd (o := .tup [.int (i : Nat), x]) nW
            have sm2 := sm.trans sW
            refine ⟨W, _, rfl, .inl (.inl upd_same), rfl, _, _, rfl, _, _, rfl, rfl, ?_⟩
            refine ⟨_, rfl, _, rfl, a, x, dx, ks, ts, rfl, hTab.mono sm2, ok, hdx.mono sm2, fun H4 s4 => ?_⟩
            have sm4 := sm2.trans s4
            cases hb : lineD ks.length dx with
            | true =>
              refine ⟨_, rfl, iteF ⟨sm4, ⟨_, _, rfl⟩, fun j hj => ?_⟩⟩
              rcases Nat.lt_or_eq_of_le (Nat.le_of_lt_succ hj) with z | z
              · exact all j z
              · subst z
                exact ⟨dx, edx, hb⟩
            | false =>
              have hlt : i < ds.length := by omega
              have e : firstBad ks.length ds 0 = some i := by
                rw [bad_at ks.length ds i 0 all (by omega), List.drop_eq_getElem_cons hlt]
                obtain ⟨_, hq⟩ := List.getElem?_eq_some_iff.mp edx
                rw [hq, firstBad, hb, Nat.zero_add]
                rfl
              refine ⟨_, rfl, iteT (raisedV (v := .int (i : Int)) (fun Rr h => ⟨_, rfl, h⟩) fun H' x' s5 nx hx => err2 (i : Int) (by rw [e]; rfl) H' x' (sm4.trans s5) (sm4.free nx) hx)⟩
          · rintro σ H2 ⟨sm, ⟨y2, y3, rfl⟩, all⟩
            rw [lx] at all
            refine fin ?_ H2 sm
            rw [bad_at ks.length ds ds.length 0 all (Nat.le_refl _), List.drop_length]
            rfl
      | _ => cases hT
theorem ok_is_day {f C ID : Addr} {fd : FuncData} (F : C8.Fun K "is_day" "is_day" s_is_day f fd) (X_check_day : ClX P w K mg base 5 "check_day" (spChk K C ID dayFault)) (m_InvalidDay : mg "InvalidDay" = some (.ref ID)) (te : PySem.W.exmOne K (.ref ID) (.ref ID) = some true) (C_first_off : Cl P w K mg base 5 "first_off" (spFirst K C)) : FnOk P w K mg base CX0 7 f fd ["table", "value", "kept"] (spIsDay K C) := by
  refine C8.fn0 F (show FnScope N_is_day ["table", "value", "kept"] (C8.fnScope s_is_day) from sc_is_day) (fun vs H Q E h => ?_) (fun cdv A outer s H vs Q E hr h => ?_)
  · obtain ⟨_, _, _, _, _, _, rfl, _⟩ := h
    rfl
  · obtain ⟨a, v, d, b, ks, ts, rfl, hTab, ok, hd, dv, fin⟩ := h
    refine ⟨_, (pss_cons (ps_try_only rfl rfl ⟨rfl, by decide, .inl m_InvalidDay⟩ takes0 (fun W pn xe tk _ => (pss_one (ps_expr (pe_clx X_check_day hr (by decide) tk rfl (pa_cons (pv 0) (pa_cons (pv 1) pa_nil))))))
      (fun a oe cls d pn _ _ => (pss_one (ps_ret pe_bl))))
    (pss_one (ps_ret (pe_or (pe_cmpR op_notBl (pv 2) pe_bl (nomark _)) (pe_one (pe_cmpR op_isN (pe_cl C_first_off hr (by decide) rfl (pa_cons (pv 0) (pa_cons (pv 1) pa_nil))) pe_non (nomark _))))))), ?_⟩
    unfold isDayD at fin
    refine ⟨_, rfl, _, rfl, a, v, d, ks, ts, rfl, hTab, ok, hd, fun hn H1 s1 => ?_, fun i hi H1 x s1 nx hx => ?_⟩
    · rw [hn] at fin
      obtain ⟨dd, rfl, hday⟩ := day_in hd hn dv
      have fin : ∀ H', Same H H' → Q (.bl (!b || (firstU ((courseU ks.length ts ((itemsD d).map rowD)).drop 1) 0).isNone)) H' := fin
      cases b with
      | false => exact ⟨_, rfl, false, true, rfl, rfl, _, rfl, iteT (fin H1 s1)⟩
      | true =>
        refine ⟨_, rfl, true, true, rfl, rfl, _, rfl, iteF ⟨_, rfl, _, rfl, a, dd, ks, ts, _, rfl, hTab.mono s1, ok, hday.mono s1, fun H2 s2 => ⟨rfl, ?_⟩⟩⟩
        have q := fin H2 (s1.trans s2)
        generalize firstU ((courseU ks.length ts ((itemsD d).map rowD)).drop 1) 0 = o at q ⊢
        cases o with
        | none => exact q
        | some i => exact q
    · rw [hi] at fin
      exact ⟨true, te, fun _ y hy => fin H1 s1, fun q => nomatch q⟩
theorem ok__law_fraction {f : Addr} {fd : FuncData} (F : Fun K "_law_fraction" "_law_fraction" s__law_fraction f fd) (z_int : mg "int" = none) (z_abs : mg "abs" = none) (z_range : mg "range" = none) : FnOk P w K mg base CX0 1 f fd ["top", "bottom"] spFr9 := by
  refine F.ok sc__law_fraction (fun vs H Q E h => ?_) (fun cdv A outer s H vs Q E hr h => ?_)
  · obtain ⟨_, _, rfl, _⟩ := h
    rfl
  · obtain ⟨a, b, rfl, b0, sa, sb, fin⟩ := h
    refine ⟨_, (pss_cons (ps_par (i := 2) (j := 3) (by rfl) sc__law_fraction.nd rfl rfl (by decide) rfl rfl (pa_cons (pe_callB call_abs (by rfl) z_abs (by decide +kernel) (pa_cons (pv 0) pa_nil)) (pa_cons (pv 1) pa_nil)) (by rfl))
    (pss_cut (ps_for PassesOwn.never rfl (pi_range1 (by rfl) z_range (pa_cons pe_int pa_nil)) (pg_name (i := 4) sc__law_fraction.nd rfl (.inl rfl))
      (pss_cons (ps_if (pt_cmpR op_eq (pv 3) pe_int (nomark _))
        (pss_one ps_break)
        pss_nil)
      (pss_one (ps_par (i := 2) (j := 3) (by rfl) sc__law_fraction.nd rfl rfl (by decide) rfl rfl (pa_cons (pv 3) (pa_cons (pe_op op_modN (pe_callTy call_int1 (by rfl) z_int (by decide +kernel) (pa_cons (pv 2) pa_nil)) (pv 3)) pa_nil)) (by rfl)))))
    (pss_one (ps_ret (pe_tup (pa_cons (pe_callTy call_int1 (by rfl) z_int (by decide +kernel) (pa_cons (pe_op op_fdivW (pv 0) (pv 2)) pa_nil)) (pa_cons (pe_callTy call_int1 (by rfl) z_int (by decide +kernel) (pa_cons (pe_op op_fdivW (pv 1) (pv 2)) pa_nil)) pa_nil))))))), ?_⟩
    have ab : (if a < 0 then -a else a) = ((a.natAbs : Nat) : Int) := by split <;> omega
    have bb : b = ((b.natAbs : Nat) : Int) := by omega
    have hP : a.natAbs * b.natAbs < 2 ^ 900 := by
      have := Nat.mul_lt_mul'' sa sb
      exact Nat.lt_of_lt_of_le this (by decide)
    refine ⟨_, rfl, _, rfl, _, rfl, _, _, rfl, ?_⟩
    refine ⟨fun σ H' => H' = H ∧ ∃ y3 y4, σ = [some (.int a), some (.int b), some (.int (M2.g a b : Nat)), y3, y4], ?_, ?_⟩
    · refine ⟨_, rfl, by decide, by decide, ?_⟩
      refine for_it (walk_range (lo := 0) (n := (999 : Int).toNat)) (fun i σ H' => H' = H ∧ ∃ (x y : Nat) (y4 : Option V), σ = [some (.int a), some (.int b), some (.int x), some (.int y), y4] ∧ Nat.gcd x y = M2.g a b ∧ x * y * 2 ^ i ≤ 2 * (a.natAbs * b.natAbs) ∧ ((i = 0 ∧ x * y ≤ a.natAbs * b.natAbs) ∨ y ≤ x)) ⟨rfl, a.natAbs, b.natAbs, none, ?_, rfl, by rw [Nat.pow_zero, Nat.mul_one]; omega, .inl ⟨rfl, Nat.le_refl _⟩⟩ (fun _ _ _ _ _ => trivial) ?_ ?_
      · show [some (V.int a), some (V.int b), some (V.int (if a < 0 then -a else a)), some (V.int b), none] = _
        rw [ab, ← bb]
      · rintro i v σ H1 H2 hi ⟨rfl, x, y, y4, rfl, g, le, or_⟩ ⟨rfl, rfl⟩
        refine ⟨_, rfl, rfl, _, rfl, ite2 (fun z => ?_) (fun z => ?_)⟩
        · have y0 : y = 0 := by
            have := V.int.inj (of_decide_eq_true z)
            omega
          subst y0
          rw [Nat.gcd_zero_right] at g
          exact ⟨rfl, some (V.int ((0 : Nat) : Int)), some (V.int (0 + (i : Int))), by rw [← g]; rfl⟩
        · have y0 : y ≠ 0 := fun e => by subst e; exact z (decide_eq_true rfl)
          refine ⟨_, rfl, _, rfl, .inl ⟨_, rfl, _, rfl, _, _, rfl, rfl, by show ((y : Nat) : Int) ≠ 0; omega, _, _, rfl, rfl, y, x % y, some (V.int (0 + (i : Int))), ?_, ?_, ?_, .inr (Nat.le_of_lt (Nat.mod_lt _ (by omega)))⟩⟩
          · show [some (V.int a), some (V.int b), some (V.int (y : Int)), some (V.int ((x : Int).fmod (y : Int))), some (V.int (0 + (i : Int)))] = _
            rw [fmod_nat x (Nat.pos_of_ne_zero y0)]
          · rw [← g, Nat.gcd_comm y, ← Nat.gcd_rec, Nat.gcd_comm]
          · by_cases o : y ≤ x
            · exact euc_step le o (Nat.pos_of_ne_zero y0)
            · obtain ⟨i0, le9⟩ := or_.resolve_right o
              subst i0
              rw [Nat.mod_eq_of_lt (by omega), Nat.mul_comm y x]
              rw [Nat.pow_zero, Nat.mul_one] at le
              show x * y * 2 ^ (0 + 1) ≤ _
              omega
      · rintro σ H1 ⟨rfl, x, y, y4, rfl, g, le, or_⟩
        have y0 := euc_end le (or_.resolve_left (fun q => absurd q.1 (by decide))) hP
        subst y0
        rw [Nat.gcd_zero_right] at g
        exact ⟨rfl, _, _, by rw [← g]⟩
    · rintro σ H1 ⟨rfl, y3, y4, rfl⟩
      have gp := M2.g_pos (a := a) (b := b) (by omega)
      have gl : M2.g a b ≤ b.natAbs := Nat.gcd_le_right _ (by omega)
      have gb : ((M2.g a b : Nat) : Int).natAbs < 2 ^ 450 := by
        rw [Int.natAbs_natCast]
        exact Nat.lt_of_le_of_lt gl sb
      have W1 : ∀ x : Int, CDivW x ((M2.g a b : Nat) : Int) := fun x => wide_div (by omega) gb (by decide) (by decide)
      refine ⟨_, rfl, _, rfl, _, _, rfl, rfl, W1 _, .inl ⟨_, rfl, _, rfl, _, rfl, _, _, rfl, rfl, W1 _, .inl ⟨_, rfl, by show 2 ≤ sizeLine; decide, fun u nu => ?_⟩⟩⟩
      refine fin _ u (same_upd nu) nu ?_
      rw [upd_same, M2.mk_pos b0]
      rfl
theorem ok__law_choices {f : Addr} {fd : FuncData} (F : Fun K "_law_choices" "_law_choices" s__law_choices f fd) (z_int : mg "int" = none) : FnOk P w K mg base CX0 1 f fd ["amount"] (spLawCho K) := by
  refine F.ok sc__law_choices (fun vs H Q E h => ?_) (fun cdv A outer s H vs Q E hr h => ?_)
  · obtain ⟨_, _, rfl, _⟩ := h
    rfl
  · obtain ⟨t, p, rfl, hS, hp, hb, fin⟩ := h
    refine ⟨_, (pss_cons (ps_set (i := 1) sc__law_choices.nd rfl (.inl rfl) (pe_callTy call_int1 (by rfl) z_int (by decide +kernel) (pa_cons (pe_op op_fdivW (pe_ix ix_tup (pv 0) pe_int (fun _ _ => rfl)) (pe_ix ix_tup (pv 0) pe_int (fun _ _ => rfl))) pa_nil)))
    (pss_one (ps_ret (pe_ifExp (pt_cmpR op_eq (pe_op op_mulW (pv 1) (pe_ix ix_tup (pv 0) pe_int (fun _ _ => rfl))) (pe_ix ix_tup (pv 0) pe_int (fun _ _ => rfl)) (nomark _)) (pe_lst (pa_cons (pv 1) pa_nil)) (pe_lst (pa_cons (pv 1) (pa_cons (pe_op op_add (pv 1) pe_int) pa_nil))))))), ?_⟩
    rw [choQ_ex hp] at fin
    have W1 : CDivW p.1 p.2 := wide_div hp hb.2 (by decide) (by decide)
    have lq : (p.1 / p.2).natAbs < 2 ^ 3000 := Nat.lt_of_le_of_lt (M2.natAbs_div_le _ hp) hb.1
    have W2 : CMulW (p.1 / p.2) p.2 := mulW (up lq (by decide)) (up hb.2 (by decide))
    refine ⟨_, rfl, t, _, _, _, rfl, rfl, hS, at0 _ _, _, rfl, t, _, _, _, rfl, rfl, hS, at1 _ _, _, _, rfl, rfl, W1, .inl ⟨_, rfl, ?_⟩⟩
    refine ⟨_, rfl, _, rfl, t, _, _, _, rfl, rfl, hS, at1 _ _, _, _, rfl, rfl, W2, _, rfl, t, _, _, _, rfl, rfl, hS, at0 _ _, rfl, _, rfl, ?_⟩
    by_cases h : p.1 / p.2 * p.2 = p.1
    · rw [if_pos h] at fin
      rw [decide_eq_true (congrArg V.int h)]
      refine iteT ⟨_, rfl, by show 1 ≤ sizeLine; decide, fun u nu => ?_⟩
      exact fin _ u (same_upd nu) nu upd_same
    · rw [if_neg h] at fin
      rw [decide_eq_false (fun z => h (V.int.inj z))]
      refine iteF ⟨_, rfl, _, rfl, _, _, rfl, rfl, by show 2 ≤ sizeLine; decide, fun u nu => ?_⟩
      exact fin _ u (same_upd nu) nu upd_same
theorem ok__law_names {f : Addr} {fd : FuncData} (F : Fun K "_law_names" "_law_names" s__law_names f fd) (C__law_draw : Cl P w K mg base 1 "_law_draw" spDraw) (C__law_pick : Cl P w K mg base 2 "_law_pick" (spPick K))
    (z_int : mg "int" = none) (z_range : mg "range" = none) (z_tuple : mg "tuple" = none) (z_sorted : mg "sorted" = none) :
    FnOk P w K mg base CX0 3 f fd ["heap", "many"] (spLawNames K) := by
  refine F.ok sc__law_names (fun vs H Q E h => ?_) (fun cdv A outer s H vs Q E hr h => ?_)
  · obtain ⟨p, q, m, rfl, _⟩ := h
    rfl
  · obtain ⟨p, q, m, rfl, hd, m0, m1, fin⟩ := h
    refine ⟨_, (pss_cons (ps_asg (pe_tup (pa_cons pe_str (pa_cons (pe_cl C__law_pick hr (by decide) rfl (pa_cons (pv 0) (pa_cons (pe_lst (pa_cons pe_str (pa_cons pe_str (pa_cons pe_str (pa_cons pe_str pa_nil))))) pa_nil))) pa_nil))) (pg_tup rfl (pgs_cons (pg_name (i := 2) sc__law_names.nd rfl (.inr rfl)) (pgs_cons (pg_name (i := 3) sc__law_names.nd rfl (.inr rfl)) pgs_nil))))
    (pss_cons (ps_setLc (i := 4) (own := [("at", 5)]) (by rfl) sc__law_names.nd rfl rfl (sw_true rfl rfl rfl (by decide +kernel)) (pi_range1 (by rfl) z_range (pa_cons (pv 1) pa_nil)) (blkOk_by (own := [("at", 5)]) (N := N__law_names) (sc := defScope s__law_names) (by decide +kernel)) (fun _ _ _ _ _ => (pg_name (i := 5) sc__law_names.nd rfl (.inl rfl))) (fun _ _ _ _ _ => pts_nil) (fun _ _ _ _ _ => (pe_op op_add_str (pv 3) (pe_item_str (pv 2) (pe_op op_modN (pe_callTy call_int1 (by rfl) z_int (by decide +kernel) (pa_cons (pe_op op_mulW (pv 5) pe_int) pa_nil)) pe_int) (fun _ _ => rfl)))))
    (pss_cons (ps_asg (pe_meet (pe_ifExp (pt_cmpR op_eq (pe_cl C__law_draw hr (by decide) rfl (pa_cons (pv 0) (pa_cons pe_int pa_nil))) pe_int (nomark _)) pe_str (pe_ix ix_list (pv 4) pe_int (fun _ _ => rfl)))) (pg_sub (pv 4) pe_int set_list))
    (pss_one (ps_ret (pe_callTy call_tuple_of (by rfl) z_tuple (by decide +kernel) (pa_cons (pe_callB cr_sortedS (by rfl) z_sorted (by decide +kernel) (pa_cons (pv 4) pa_nil)) pa_nil))))))), ?_⟩
    have big : sizeLine = 16777216 := by decide
    have on0 := On.start hd
    refine ⟨_, rfl, by show 4 ≤ sizeLine; decide, fun L nL => ?_⟩
    have fL := on0.free nL
    have on1 := on0.new (o := .lst [.str ("" : String), .str ("b" : String), .str ("zz" : String), .str ("mnopq" : String)]) nL
    refine ⟨p, q, L, _, rfl, on1.hd, upd_same, fL.1, fL.2.1, by simp, by show 4 < 1000000; decide, fun H2 v hd2 kp2 hv => ?_⟩
    have on2 := on1.draw hd2 kp2
    obtain ⟨fr, hfr, rfl⟩ : ∃ fr ∈ fronts9, v = V.str fr := by
      have e : ([.str ("" : String), .str ("b" : String), .str ("zz" : String), .str ("mnopq" : String)] : List V) = fronts9.map V.str := rfl
      rw [e] at hv
      obtain ⟨z, hz, e⟩ := List.mem_map.mp hv
      exact ⟨z, hz, e.symm⟩
    refine ⟨by show 2 ≤ sizeLine; decide, fun T nT => ?_⟩
    have on3 := on2.new (o := .tup [.str cABC, .str fr]) nT
    refine ⟨T, _, rfl, sqt upd_same, rfl, _, _, rfl, _, _, rfl, rfl, ?_⟩
    generalize L2.upd H2 T (.tup [.str cABC, .str fr]) = H3 at on3 ⊢
    clear on1 on2 kp2 hd2 hv nL nT
    refine ⟨_, rfl, _, rfl, by omega, by omega, fun D nD => ?_⟩
    have fD := on3.free nD
    generalize frz p q H = G at *
    have fl5 := front9_len hfr
    refine lc_it (walk_range (lo := 0) (n := ((m : Nat) : Int).toNat)) (fun i H' => On p q G H' ∧ H' D = some (.lst (((List.range i).map (baseN9 fr)).map V.str))) ⟨on3.new nD, upd_same⟩ (fun _ _ _ _ => trivial) ?_ ?_
    · rintro i x H4 H5 hi ⟨on4, kD⟩ ⟨rfl, rfl⟩
      have hi2 : i < m := by have : i < ((m : Nat) : Int).toNat := hi; omega
      have e0 : (0 : Int) + (i : Nat) = (i : Nat) := Int.zero_add _
      have hmod : (((0 : Int) + (i : Nat)) * 2).fmod 26 = (((2 * i) % 26 : Nat) : Int) := by
        have := fmod_nat (2 * i) (m := 26) (by decide)
        rw [← this, e0]
        congr 1
        omega
      have hm2 : (2 * i) % 26 < 26 := Nat.mod_lt _ (by decide)
      refine ⟨rfl, _, rfl, _, rfl, _, rfl, _, _, rfl, rfl, mulW (up (n := 40) (by omega) (by decide)) (up (n := 40) (by decide) (by decide)), .inl ⟨_, rfl, _, _, rfl, rfl, by show (26 : Int) ≠ 0; decide, cABC, _, lett9 i, rfl, rfl, ?_, ?_, ?_, ?_, ?_⟩⟩
      · rw [hmod]; omega
      · rw [hmod, show ((2 : Int) ^ 63) = 9223372036854775808 from by decide]
        omega
      · rw [hmod, show cABC.length = 26 from by decide +kernel]
        omega
      · rw [hmod, Int.toNat_natCast, ← Array.getElem?_toList]
        exact lett9_at i (by omega)
      refine ⟨_, _, rfl, rfl, by show fr.length + 1 ≤ sizeLine; omega, _, kD, by rw [List.length_map, List.length_map, List.length_range]; omega, on4.put fD, ?_⟩
      rw [upd_same, List.range_succ, List.map_append, List.map_append]
      rfl
    clear on3
    rintro H4 ⟨on4, kD⟩
    rw [Int.toNat_natCast] at kD
    have eat : (((List.range m).map (baseN9 fr)).map V.str)[0]? = some (.str (baseN9 fr 0)) := by
      rw [List.getElem?_map, List.getElem?_map, List.getElem?_range (by omega)]
      rfl
    refine ⟨fun v H' => ∃ b : Bool, v = .str (front9 fr b) ∧ On p q G H' ∧ H' D = some (.lst (((List.range m).map (baseN9 fr)).map V.str)), ?_, ?_⟩
    · refine ⟨_, rfl, p, q, _, rfl, on4.hd, by decide, by decide, fun H5 r hd5 kp5 r0 r1 => ⟨rfl, _, rfl, ite2 (fun _ => ⟨true, rfl, on4.draw hd5 kp5, kp5 D _ fD.1 fD.2.1 kD⟩) (fun _ => ?_)⟩⟩
      exact ⟨_, rfl, D, _, _, _, rfl, rfl, .inl (.inl (kp5 D _ fD.1 fD.2.1 kD)), atI_nat (j := 0) eat, false, rfl, on4.draw hd5 kp5, kp5 D _ fD.1 fD.2.1 kD⟩
    · rintro _ H6 ⟨b, rfl, on6, k6⟩
      have ea : ixN (((List.range m).map (baseN9 fr)).map V.str).length ((0 : Nat) : Int) = some 0 := ixN_nat (by rw [List.length_map, List.length_map, List.length_range]; exact m0)
      refine ⟨_, rfl, D, _, _, 0, rfl, rfl, k6, ea, ?_⟩
      have eset : (((List.range m).map (baseN9 fr)).map V.str).set 0 (V.str (front9 fr b)) = (namesL9 fr m b).map V.str := by
        unfold namesL9
        rw [List.map_set]
      have k7 : (L2.upd H6 D (.lst ((((List.range m).map (baseN9 fr)).map V.str).set 0 (V.str (front9 fr b))))) D = some (.lst ((namesL9 fr m b).map V.str)) := by rw [upd_same, eset]
      have on7 : On p q G (L2.upd H6 D (.lst ((((List.range m).map (baseN9 fr)).map V.str).set 0 (V.str (front9 fr b))))) := on6.put fD
      have ll : (namesL9 fr m b).length = m := by unfold namesL9; rw [List.length_set, List.length_map, List.length_range]
      refine ⟨_, rfl, D, namesL9 fr m b, rfl, .inl (.inl k7), by omega, fun ys S pm so nS => ?_⟩
      have on8 := on7.new (o := .lst (ys.map V.str)) nS
      refine ⟨S, _, rfl, .inl ⟨.inl (.inl upd_same), fun u nu => ?_⟩⟩
      have on9 := on8.new (o := .tup (ys.map V.str)) nu
      have ⟨nd, ok⟩ := names9_fine hfr m1 m0 b
      have lp := pm.length_eq
      exact fin _ u ys on9 upd_same ⟨by omega, by omega, fun z hz => ok z (pm.mem_iff.mp hz), ascS_of so (pm.nodup_iff.mpr nd)⟩ (by omega)
theorem ok__law_totals {f : Addr} {fd : FuncData} (F : Fun K "_law_totals" "_law_totals" s__law_totals f fd) (C__law_draw : Cl P w K mg base 1 "_law_draw" spDraw) (C__law_pick : Cl P w K mg base 2 "_law_pick" (spPick K))
    (z_int : mg "int" = none) (z_range : mg "range" = none) (z_tuple : mg "tuple" = none) (z_list : mg "list" = none) :
    FnOk P w K mg base CX0 3 f fd ["heap", "many"] (spLawTots9 K) := by
  refine F.ok sc__law_totals (fun vs H Q E h => ?_) (fun cdv A outer s H vs Q E hr h => ?_)
  · obtain ⟨p, q, n, rfl, _⟩ := h
    rfl
  · obtain ⟨p, q, n, rfl, hd, n1, n12, fin⟩ := h
    refine ⟨_, (pss_cons (ps_par (i := 2) (j := 3) (by rfl) sc__law_totals.nd rfl rfl (by decide) rfl rfl (pa_cons (pe_lst pa_nil) (pa_cons (pe_cl C__law_draw hr (by decide) rfl (pa_cons (pv 0) (pa_cons pe_int pa_nil))) pa_nil)) (by rfl))
    (pss_cut (ps_for PassesOwn.never rfl (pi_range1 (by rfl) z_range (pa_cons (pe_cl C__law_pick hr (by decide) rfl (pa_cons (pv 0) (pa_cons (pe_lst (pa_cons pe_int (pa_cons pe_int (pa_cons pe_int (pa_cons pe_int (pa_cons pe_int (pa_cons pe_int pa_nil))))))) pa_nil))) pa_nil)) (pg_name (i := 4) sc__law_totals.nd rfl (.inl rfl))
      (pss_cons (ps_set (i := 5) sc__law_totals.nd rfl (.inr rfl) (pe_lc (own := [("kind", 6)]) (by rfl) sc__law_totals.nd (pi_range1 (by rfl) z_range (pa_cons (pv 1) pa_nil)) (blkOk_by (own := [("kind", 6)]) (N := N__law_totals) (sc := defScope s__law_totals) (by decide +kernel)) (fun _ _ _ _ _ => (pg_name (i := 6) sc__law_totals.nd rfl (.inl rfl))) (fun _ _ _ _ _ => (pts_one (pt_cmpR op_eq (pe_cl C__law_draw hr (by decide) rfl (pa_cons (pv 0) (pa_cons pe_int pa_nil))) pe_int (nomark _)))) (fun _ _ _ _ _ => (pv 6))))
      (pss_cut (ps_if (pt_cmpR op_eq (pv 3) pe_int (nomark _))
        (pss_one (ps_set (i := 5) sc__law_totals.nd rfl (.inr rfl) (pe_lst (pa_cons (pe_cl C__law_draw hr (by decide) rfl (pa_cons (pv 0) (pa_cons (pv 1) pa_nil))) (pa_cons (pe_cl C__law_draw hr (by decide) rfl (pa_cons (pv 0) (pa_cons (pv 1) pa_nil))) pa_nil)))))
        pss_nil)
      (pss_cut (ps_if (pt_cmpR op_eq (pv 3) pe_int (nomark _))
        (pss_one (ps_set (i := 5) sc__law_totals.nd rfl (.inr rfl) (pe_listRg rfl (by rfl) z_list (prg_1 (by rfl) z_range (pe_op op_modN (pe_callTy call_int1 (by rfl) z_int (by decide +kernel) (pa_cons (pe_op op_add (pv 4) pe_int) pa_nil)) (pe_callTy call_int1 (by rfl) z_int (by decide +kernel) (pa_cons (pe_op op_add (pv 1) pe_int) pa_nil)))))))
        pss_nil)
      (pss_cut (ps_if (pt_cmpR op_eq (pv 3) pe_int (nomark _))
        (pss_one (ps_set (i := 5) sc__law_totals.nd rfl (.inr rfl) (pe_lst (pa_cons (pe_op op_modN (pe_callTy call_int1 (by rfl) z_int (by decide +kernel) (pa_cons (pv 4) pa_nil)) (pv 1)) (pa_cons (pe_op op_modN (pe_callTy call_int1 (by rfl) z_int (by decide +kernel) (pa_cons (pe_op op_add (pv 4) pe_int) pa_nil)) (pv 1)) pa_nil)))))
        pss_nil)
      (pss_one (ps_expr (pe_bm PySem.F.plainAttrs_list PySem.F.slot_list_append PySem.F.type_list_append mt_append (pv 2) (pa_cons (pe_callTy call_tuple_of (by rfl) z_tuple (by decide +kernel) (pa_cons (pe_lc (own := [("kind", 6)]) (by rfl) sc__law_totals.nd (pi_range1 (by rfl) z_range (pa_cons (pv 1) pa_nil)) (blkOk_by (own := [("kind", 6)]) (N := N__law_totals) (sc := defScope s__law_totals) (by decide +kernel)) (fun _ _ _ _ _ => (pg_name (i := 6) sc__law_totals.nd rfl (.inl rfl))) (fun _ _ _ _ _ => (pts_one (pt_cmpR (show OpR _ (compareOp .In) (rIn K false) from op_in_seq) (pv 6) (pv 5) rfl))) (fun _ _ _ _ _ => (pv 6))) pa_nil)) pa_nil)))))))))
    (pss_cut (ps_if (PW.pt (pw_and (pt_cmpR (op_neD hr.units) (pv 2) (pe_lst pa_nil) (nomark _)) (pw_and1 (pt_cmpR op_eq (pe_cl C__law_draw hr (by decide) rfl (pa_cons (pv 0) (pa_cons pe_int pa_nil))) pe_int (nomark _)))))
      (pss_one (ps_set (i := 2) sc__law_totals.nd rfl (.inl rfl) (pe_cl C__law_pick hr (by decide) rfl (pa_cons (pv 0) (pa_cons (pe_lst (pa_cons (pe_op op_cat (pv 2) (pe_slice sl_list (pv 2) po_none (po_some pe_int))) (pa_cons (pe_op op_cat (pv 2) (pe_lst (pa_cons (pe_tup pa_nil) pa_nil))) pa_nil))) pa_nil)))))
      pss_nil)
    (pss_one (ps_ret (pe_callTy call_tuple_of (by rfl) z_tuple (by decide +kernel) (pa_cons (pv 2) pa_nil))))))), ?_⟩
    have big : sizeLine = 16777216 := by decide
    have on0 := On.start hd
    refine ⟨by show 0 ≤ sizeLine; exact Nat.zero_le _, fun D nD => ?_⟩
    have fD := on0.free nD
    have on1 := on0.new (o := .lst []) nD
    have kD := upd_same (H := H) (a := D) (o := .lst [])
    generalize L2.upd H D (.lst []) = H1 at on1 kD ⊢
    generalize frz p q H = G at *
    refine ⟨_, rfl, p, q, _, rfl, on1.hd, by decide, by decide, fun H2 sh hd2 kp2 r0 r1 => ?_⟩
    have W2 : TotW K p q G n H2 D [] [] 0 := ⟨on1.draw hd2 kp2, kp2 D _ fD.1 fD.2.1 kD, trivial, rfl, fun c h => by cases h⟩
    refine ⟨_, _, rfl, ?_⟩
    clear on1 kD hd2 kp2
    refine ⟨fun σ H' => (∃ y4 y5 : Option V, σ = [some (.ref p), some (.int n), some (.ref D), some (.int sh), y4, y5, none]) ∧ ∃ xs ts i, TotW K p q G n H' D xs ts i ∧ i ≤ 4, ?_, ?_⟩
    · refine ⟨_, rfl, by show 6 ≤ sizeLine; decide, fun L nL => ?_⟩
      have fL := W2.on.free nL
      have W3 := W2.same (same_upd (o := .lst [.int 3, .int 2, .int 4, .int 1, .int 3, .int 0]) nL)
      refine ⟨p, q, L, _, rfl, W3.on.hd, upd_same, fL.1, fL.2.1, by simp, by show 6 < 1000000; decide, fun H4 v hd4 kp4 hv => ?_⟩
      have W4 := W3.draw ⟨fD.1, fD.2.1⟩ hd4 kp4
      obtain ⟨k, rfl, k4⟩ : ∃ k : Nat, v = .int (k : Int) ∧ k ≤ 4 := by
        simp only [List.mem_cons, List.not_mem_nil, or_false] at hv
        rcases hv with e | e | e | e | e | e
        · exact ⟨3, e, by decide⟩
        · exact ⟨2, e, by decide⟩
        · exact ⟨4, e, by decide⟩
        · exact ⟨1, e, by decide⟩
        · exact ⟨3, e, by decide⟩
        · exact ⟨0, e, by decide⟩
      clear W2 W3 hd4 kp4 hv nL
      refine ⟨_, rfl, by omega, by omega, ?_⟩
      refine for_it (walk_range (lo := 0) (n := ((k : Nat) : Int).toNat)) (fun i σ H' => (∃ y4 y5 : Option V, σ = [some (.ref p), some (.int n), some (.ref D), some (.int sh), y4, y5, none]) ∧ ∃ xs ts, TotW K p q G n H' D xs ts i) ⟨⟨_, _, rfl⟩, [], [], W4⟩ (fun _ _ _ _ _ => trivial) ?_ ?_
      · rintro i x σ H5 H6 hi ⟨⟨y4, y5, rfl⟩, xs, ts, W⟩ ⟨rfl, rfl⟩
        have hi2 : i < k := by have : i < ((k : Nat) : Int).toNat := hi; omega
        have e0 : (0 : Int) + (i : Nat) = (i : Nat) := Int.zero_add _
        let St : L2.St → Hp → Prop := fun σ H' => (∃ (S : Addr) (c : List Int), σ = [some (.ref p), some (.int n), some (.ref D), some (.int sh), some (.int ((0 : Int) + (i : Nat))), some (.ref S), none] ∧ H' S = some (.lst (c.map V.int)) ∧ c.length ≤ 100) ∧ TotW K p q G n H' D xs ts i
        -- some
        refine ⟨_, rfl, _, rfl, by omega, by omega, fun S nS => ?_⟩
        have fS := W.on.free nS
        have nDS : D ≠ S := ne_of_none W.lst nS
        refine lc_it (walk_range (lo := 0) (n := ((n : Nat) : Int).toNat)) (fun j H' => TotW K p q G n H' D xs ts i ∧ ∃ c : List Int, H' S = some (.lst (c.map V.int)) ∧ c.length ≤ j) ⟨W.same (same_upd nS), [], upd_same, Nat.le_refl _⟩ (fun _ _ _ _ => trivial) ?_ ?_
        · rintro j x H7 H8 hj ⟨W7, c, kS, lc⟩ ⟨rfl, rfl⟩
          have hj2 : j < n := by have : j < ((n : Nat) : Int).toNat := hj; omega
          refine ⟨rfl, _, rfl, p, q, _, rfl, W7.on.hd, by decide, by decide, fun H9 r hd9 kp9 r0 r1 => ?_⟩
          have W9 := W7.draw ⟨fD.1, fD.2.1⟩ hd9 kp9
          have kS9 := kp9 S _ fS.1 fS.2.1 kS
          refine ⟨rfl, _, rfl, ite2 (fun _ => ?_) (fun _ => ⟨W9, c, kS9, by omega⟩)⟩
          refine ⟨_, rfl, _, kS9, by rw [List.length_map]; omega, W9.put fS nDS kS9, c ++ [(0 : Int) + (j : Nat)], by rw [upd_same, List.map_append]; rfl, by rw [List.length_append]; show c.length + 1 ≤ j + 1; omega⟩
        rintro H7 ⟨W7, c, kS, lc⟩
        have st7 : St [some (.ref p), some (.int n), some (.ref D), some (.int sh), some (.int ((0 : Int) + (i : Nat))), some (.ref S), none] H7 := ⟨⟨S, c, rfl, kS, by omega⟩, W7⟩
        clear W7 kS lc c W
        -- two drawn ones
        refine ⟨St, ?_, ?_⟩
        · refine ⟨_, rfl, rfl, _, rfl, ite2 (fun _ => ?_) (fun _ => st7)⟩
          obtain ⟨_, W7⟩ := st7
          refine ⟨_, rfl, _, rfl, p, q, _, rfl, W7.on.hd, by omega, by omega, fun H8 r hd8 kp8 r0 r1 => ?_⟩
          have W8 := W7.draw ⟨fD.1, fD.2.1⟩ hd8 kp8
          refine ⟨_, rfl, _, rfl, p, q, _, rfl, W8.on.hd, by omega, by omega, fun H9 t hd9 kp9 t0 t1 => ?_⟩
          have W9 := W8.draw ⟨fD.1, fD.2.1⟩ hd9 kp9
          refine ⟨by show 2 ≤ sizeLine; decide, fun Z nZ => ?_⟩
          exact ⟨⟨Z, [r, t], rfl, upd_same, by show 2 ≤ 100; decide⟩, W9.same (same_upd nZ)⟩
        clear st7
        rintro σ H8 ⟨⟨S8, c8, rfl, kS8, l8⟩, W8⟩
        -- the first ones
        refine ⟨St, ?_, ?_⟩
        · refine ⟨_, rfl, rfl, _, rfl, ite2 (fun _ => ?_) (fun _ => ⟨⟨S8, c8, rfl, kS8, l8⟩, W8⟩)⟩
          have fm := fmod_lt ((0 : Int) + (i : Nat) + 1) (m := (n : Int) + 1) (by omega)
          refine ⟨_, rfl, _, _, rfl, rfl, .inl ⟨_, rfl, _, rfl, _, _, rfl, rfl, .inl ⟨_, rfl, _, _, rfl, rfl, by show (n : Int) + 1 ≠ 0; omega, _, rfl, RgOk.of_le (by decide) (by omega) (by decide) (by omega), fun Z nZ => ?_⟩⟩⟩
          obtain ⟨cs, ecs, lcs⟩ := rgV_ints (((0 : Int) + (i : Nat) + 1).fmod ((n : Int) + 1))
          exact ⟨⟨Z, cs, rfl, by rw [upd_same, ecs], by omega⟩, W8.same (same_upd nZ)⟩
        rintro σ H9 ⟨⟨S9, c9, rfl, kS9, l9⟩, W9⟩
        -- rings
        refine ⟨St, ?_, ?_⟩
        · refine ⟨_, rfl, rfl, _, rfl, ite2 (fun _ => ?_) (fun _ => ⟨⟨S9, c9, rfl, kS9, l9⟩, W9⟩)⟩
          refine ⟨_, rfl, .inl ⟨_, rfl, _, rfl, _, _, rfl, rfl, by show (n : Int) ≠ 0; omega, _, rfl, _, _, rfl, rfl, .inl ⟨_, rfl, _, rfl, _, _, rfl, rfl, by show (n : Int) ≠ 0; omega, by show 2 ≤ sizeLine; decide, fun Z nZ => ?_⟩⟩⟩
          exact ⟨⟨Z, [_, _], rfl, upd_same, by show 2 ≤ 100; decide⟩, W9.same (same_upd nZ)⟩
        rintro σ H10 ⟨⟨S10, c10, rfl, kS10, l10⟩, W10⟩
        refine ⟨_, rfl, .inl ⟨rfl, _, .inl (.inl W10.lst)⟩, _, rfl, _, rfl, by omega, by omega, fun L nL => ?_⟩
        have fL := W10.on.free nL
        have nDL : D ≠ L := ne_of_none W10.lst nL
        have nSL : S10 ≠ L := ne_of_none kS10 nL
        refine lc_it (walk_range (lo := 0) (n := ((n : Nat) : Int).toNat)) (fun j H' => TotW K p q G n H' D xs ts i ∧ H' S10 = some (.lst (c10.map V.int)) ∧ ∃ c : List Int, H' L = some (.lst (c.map V.int)) ∧ c.length ≤ j ∧ (∀ x ∈ c, 0 ≤ x ∧ x < (j : Int)) ∧ c.Pairwise (· < ·)) ⟨W10.same (same_upd nL), same_upd nL _ _ kS10, [], upd_same, Nat.le_refl _, fun x h => (by cases h), List.Pairwise.nil⟩ (fun _ _ _ _ => trivial) ?_ ?_
        · rintro j x H11 H12 hj ⟨W11, kS11, c, kL, lc, bc, pc⟩ ⟨rfl, rfl⟩
          have hj2 : j < n := by have : j < ((n : Nat) : Int).toNat := hj; omega
          refine ⟨rfl, _, rfl, _, rfl, S10, c10.map V.int, rfl, .inl (.inl (.inl kS11)), rfl, flat_ints c10, _, rfl, ite2 (fun _ => ?_) (fun _ => ⟨W11, kS11, c, kL, by omega, fun x hx => (by have := bc x hx; omega), pc⟩)⟩
          refine ⟨_, rfl, _, kL, by rw [List.length_map]; omega, W11.put fL nDL kL, by rw [upd_ne nSL]; exact kS11, c ++ [(0 : Int) + (j : Nat)], by rw [upd_same, List.map_append]; rfl, by rw [List.length_append]; show c.length + 1 ≤ j + 1; omega, fun x hx => ?_, ?_⟩
          · rcases List.mem_append.mp hx with z | z
            · have := bc x z
              omega
            · have := List.mem_singleton.mp z
              omega
          · refine List.pairwise_append.mpr ⟨pc, List.pairwise_singleton _ _, fun a ha b hb => ?_⟩
            have := bc a ha
            have := List.mem_singleton.mp hb
            omega
        rintro H11 ⟨W11, kS11, c, kL, lc, bc, pc⟩
        refine ⟨L, _, rfl, .inl ⟨.inl (.inl kL), fun u nu => ?_⟩⟩
        have W12 := W11.same (same_upd (o := .tup (c.map V.int)) nu)
        have ku := upd_same (H := H11) (a := u) (o := .tup (c.map V.int))
        generalize L2.upd H11 u (.tup (c.map V.int)) = H12 at W12 ku ⊢
        have lx := W12.tots.len
        have lt := W12.len
        exact ⟨D, _, _, rfl, rfl, W12.lst, by omega, ⟨_, _, rfl⟩, _, _, W12.add fD (.inl (.inl ku)) ⟨by omega, fun x hx => (by have := bc x hx; omega), asc_pw pc⟩⟩
      · rintro σ H5 ⟨⟨y4, y5, rfl⟩, xs, ts, W⟩
        exact ⟨⟨_, _, rfl⟩, xs, ts, _, W, by omega⟩
    · rintro σ H3 ⟨⟨y4, y5, rfl⟩, xs, ts, i, W, i4⟩
      have lt := W.len
      have lx := W.tots.len
      refine ⟨fun σ H' => ∃ (D2 : Addr) (ys : List V) (us : List (List Int)), σ = [some (.ref p), some (.int n), some (.ref D2), some (.int sh), y4, y5, none] ∧ On p q G H' ∧ H' D2 = some (.lst ys) ∧ Tots K H' ys us ∧ us.length ≤ 12 ∧ ∀ c ∈ us, LotOk (n : Int) c, ?_, ?_⟩
      · have stay : ∀ H', TotW K p q G n H' D xs ts i → ∃ (D2 : Addr) (ys : List V) (us : List (List Int)), [some (V.ref p), some (.int n), some (.ref D), some (.int sh), y4, y5, none] = [some (V.ref p), some (.int n), some (.ref D2), some (.int sh), y4, y5, none] ∧ On p q G H' ∧ H' D2 = some (.lst ys) ∧ Tots K H' ys us ∧ us.length ≤ 12 ∧ ∀ c ∈ us, LotOk (n : Int) c :=
          fun H' W' => ⟨D, xs, ts, rfl, W'.on, W'.lst, W'.tots, by omega, W'.ok⟩
        refine ⟨_, rfl, ?_⟩
        refine ⟨Nat.le_of_ble_eq_true rfl, fun Z nZ => ?_⟩
        generalize eH4 : L2.upd _ Z _ = H4
        have s4 := same_of nZ eH4
        have kZ := at_of eH4
        clear eH4
        have W4 := W.same s4
        refine ⟨_, _, .lst (.inl (.inl W4.lst)) (dpAll_tots W4.tots), .lst (.inl (.inl kZ)) .nil, shaped_tots ts, shaped_nil, _, rfl, ?_⟩
        generalize (!PyData.eqv (.list (ts.map dI)) (.list [])) = b
        cases b with
        | false => exact iteF (stay H4 W4)
        | true =>
          refine iteT ⟨_, rfl, p, q, _, rfl, W4.on.hd, by decide, by decide, fun H5 r hd5 kp5 r0 r1 => ⟨rfl, _, rfl, ite2 (fun _ => ?_) (fun _ => stay H5 (W4.draw ⟨fD.1, fD.2.1⟩ hd5 kp5))⟩⟩
          have W5 := W4.draw ⟨fD.1, fD.2.1⟩ hd5 kp5
          refine ⟨_, rfl, _, rfl, _, rfl, _, rfl, D, xs, rfl, .inl (.inl W5.lst), fun S nS => ?_⟩
          rw [show cutV xs none (some (1 : Int)) = xs.take 1 from cut0 1]
          have s6 := same_upd (o := .lst (xs.take 1)) nS
          have kS := upd_same (H := H5) (a := S) (o := .lst (xs.take 1))
          generalize L2.upd H5 S (.lst (xs.take 1)) = H6 at s6 kS ⊢
          have W6 := W5.same s6
          have lt1 : (xs.take 1).length ≤ 1 := by rw [List.length_take]; omega
          refine ⟨D, S, _, _, rfl, rfl, W6.lst, kS, by omega, fun X nX => ?_⟩
          have s7 := same_upd (o := .lst (xs ++ xs.take 1)) nX
          have kX := upd_same (H := H6) (a := X) (o := .lst (xs ++ xs.take 1))
          generalize L2.upd H6 X (.lst (xs ++ xs.take 1)) = H7 at s7 kX ⊢
          have W7 := W6.same s7
          refine ⟨_, rfl, ?_⟩
          refine ⟨Nat.le_of_ble_eq_true rfl, fun E8 nE8 => ?_⟩
          generalize eH8 : L2.upd _ E8 _ = H8
          have s8 := same_of nE8 eH8
          have kE8 := at_of eH8
          clear eH8
          refine ⟨Nat.le_of_ble_eq_true rfl, fun L9 nL9 => ?_⟩
          generalize eH9 : L2.upd _ L9 _ = H9
          have s9 := same_of nL9 eH9
          have kL9 := at_of eH9
          clear eH9
          have W9 := (W7.same s8).same s9
          refine ⟨D, L9, _, _, rfl, rfl, W9.lst, kL9, by show xs.length + 1 ≤ sizeLine; omega, fun Y nY => ?_⟩
          have s10 := same_upd (o := .lst (xs ++ [.ref E8])) nY
          have kY := upd_same (H := H9) (a := Y) (o := .lst (xs ++ [.ref E8]))
          generalize L2.upd H9 Y (.lst (xs ++ [.ref E8])) = H10 at s10 kY ⊢
          have W10 := W9.same s10
          have kX10 := ((s8.trans s9).trans s10) _ _ kX
          have kE10 := (s9.trans s10) _ _ kE8
          refine ⟨by show 2 ≤ sizeLine; decide, fun M nM => ?_⟩
          have fM := W10.on.free nM
          have s11 := same_upd (o := .lst [.ref X, .ref Y]) nM
          have W11 := W10.same s11
          have fX := W10.on.hd
          refine ⟨p, q, M, _, rfl, W11.on.hd, upd_same, fM.1, fM.2.1, by simp, by show 2 < 1000000; decide, fun H12 v hd12 kp12 hv => ?_⟩
          have W12 := W11.draw ⟨fD.1, fD.2.1⟩ hd12 kp12
          have neX := W6.on.free nX
          have neY := W9.on.free nY
          simp only [List.mem_cons, List.not_mem_nil, or_false] at hv
          rcases hv with rfl | rfl
          · exact ⟨X, xs ++ xs.take 1, ts ++ ts.take 1, rfl, W12.on, kp12 X _ neX.1 neX.2.1 (s11 _ _ kX10), W12.tots.app (W12.tots.take 1), by rw [List.length_append, List.length_take]; omega, fun c hc => (List.mem_append.mp hc).elim (W12.ok c) fun z => W12.ok c (List.mem_of_mem_take z)⟩
          · refine ⟨Y, xs ++ [.ref E8], ts ++ [[]], rfl, W12.on, kp12 Y _ neY.1 neY.2.1 (s11 _ _ kY), Tots.snoc (seqTK W11.on.hd kp12 (.inl (.inl (s11 _ _ kE10)))) W12.tots, by rw [List.length_append]; show ts.length + 1 ≤ 12; omega, fun c hc => (List.mem_append.mp hc).elim (W12.ok c) fun z => ?_⟩
            rw [List.mem_singleton.mp z]
            exact ⟨by decide, fun x h => absurd h List.not_mem_nil, trivial⟩
      · rintro σ H4 ⟨D2, ys, us, rfl, on4, k4, t4, l4, o4⟩
        refine ⟨_, rfl, D2, ys, rfl, .inl ⟨.inl (.inl k4), fun u nu => ?_⟩⟩
        exact fin _ u ys us (on4.new nu) upd_same (t4.mono (same_upd nu)) l4 o4
end
end K10
namespace CK
open PySem PySem.Spec PyProof.Rows L2 VG FR HD M9
def LR {α : Type} (R : V → α → Prop) : List V → List α → Prop
  | [], [] => True
  | v :: vs, r :: rs => R v r ∧ LR R vs rs
  | _, _ => False
theorem LR.imp {α : Type} {R R' : V → α → Prop} (h : ∀ v r, R v r → R' v r) : ∀ {vs : List V} {rs : List α}, LR R vs rs → LR R' vs rs
  | [], [], _ => trivial
  | _ :: _, _ :: _, q => ⟨h _ _ q.1, LR.imp h q.2⟩
  | [], _ :: _, q => q.elim
  | _ :: _, [], q => q.elim
theorem LR.len {α : Type} {R : V → α → Prop} : ∀ {vs : List V} {rs : List α}, LR R vs rs → vs.length = rs.length
  | [], [], _ => rfl
  | _ :: _, _ :: _, q => by rw [List.length_cons, List.length_cons, LR.len q.2]
  | [], _ :: _, q => q.elim
  | _ :: _, [], q => q.elim
theorem LR.get {α : Type} {R : V → α → Prop} : ∀ {vs : List V} {rs : List α} {i : Nat} {v : V}, LR R vs rs → vs[i]? = some v → ∃ r, rs[i]? = some r ∧ R v r
  | [], [], _, _, _, h => by simp at h
  | a :: _, r :: _, 0, v, h, e => by
    have e1 : a = v := Option.some.inj e
    subst e1
    exact ⟨r, rfl, h.1⟩
  | _ :: vs, _ :: rs, i + 1, v, h, e => LR.get (i := i) h.2 e
  | [], _ :: _, _, _, h, _ => h.elim
  | _ :: _, [], _, _, h, _ => h.elim
theorem LR.append {α : Type} {R : V → α → Prop} : ∀ {vs : List V} {rs : List α} {ws : List V} {ss : List α}, LR R vs rs → LR R ws ss → LR R (vs ++ ws) (rs ++ ss)
  | [], [], _, _, _, q => q
  | _ :: _, _ :: _, _, _, p, q => ⟨p.1, LR.append p.2 q⟩
  | [], _ :: _, _, _, h, _ => h.elim
  | _ :: _, [], _, _, h, _ => h.elim
theorem LR.map {α β : Type} {R : V → α → Prop} {R' : V → β → Prop} {f : V → V} {g : α → β} (h : ∀ v r, R v r → R' (f v) (g r)) : ∀ {vs : List V} {rs : List α}, LR R vs rs → LR R' (vs.map f) (rs.map g)
  | [], [], _ => trivial
  | _ :: _, _ :: _, q => ⟨h _ _ q.1, LR.map h q.2⟩
  | [], _ :: _, q => q.elim
  | _ :: _, [], q => q.elim
theorem LR.take {α : Type} {R : V → α → Prop} : ∀ {vs : List V} {rs : List α} (n : Nat), LR R vs rs → LR R (vs.take n) (rs.take n)
  | _, _, 0, _ => trivial
  | [], [], _ + 1, _ => trivial
  | _ :: _, _ :: _, n + 1, q => ⟨q.1, LR.take n q.2⟩
  | [], _ :: _, _ + 1, q => q.elim
  | _ :: _, [], _ + 1, q => q.elim
abbrev Told := Nat × Q2
def TdAt (K : PySem.W.Frag) (H : Hp) (v : V) (l : Told) : Prop := ∃ t s, v = .ref t ∧ SqT K H t [.int l.1, .ref s] ∧ SqT K H s (pV l.2)
theorem TdAt.mono {K : PySem.W.Frag} {H H' : Hp} (s : Same H H') {v : V} {l : Told} (h : TdAt K H v l) : TdAt K H' v l := by
  obtain ⟨t, u, e, h1, h2⟩ := h
  exact ⟨t, u, e, seqT s h1, seqT s h2⟩
structure TdOk (m : Nat) (l : Told) : Prop where
  kind : l.1 < m
  amt : AmtOk l.2
def ToldIn (K : PySem.W.Frag) (H : Hp) (a : Addr) (m : Nat) (ls : List Told) : Prop := ∃ xs, SqT K H a xs ∧ LR (TdAt K H) xs ls ∧ ∀ l ∈ ls, TdOk m l
theorem ToldIn.mono {K : PySem.W.Frag} {H H' : Hp} (s : Same H H') {a : Addr} {m : Nat} {ls : List Told} (h : ToldIn K H a m ls) : ToldIn K H' a m ls := by
  obtain ⟨xs, h1, h2, h3⟩ := h
  exact ⟨xs, seqT s h1, h2.imp fun _ _ q => q.mono s, h3⟩
def DayT (K : PySem.W.Frag) (H : Hp) (d : Addr) (rs : List Line) : Prop := ∃ xs, SqT K H d xs ∧ Lines K H xs rs
theorem DayT.mono {K : PySem.W.Frag} {H H' : Hp} (s : Same H H') {d : Addr} {rs : List Line} (h : DayT K H d rs) : DayT K H' d rs := by
  obtain ⟨xs, h1, h2⟩ := h
  exact ⟨xs, seqT s h1, h2.mono s⟩
theorem DayT.updL {K : PySem.W.Frag} {H : Hp} {D d : Addr} {ys zs : List V} {rs : List Line} (hD : H D = some (.lst ys)) (h : DayT K H d rs) : DayT K (L2.upd H D (.lst zs)) d rs := by
  obtain ⟨xs, h1, h2⟩ := h
  exact ⟨xs, seqT_upd hD h1, Lines.updL hD h2⟩
def DayV (K : PySem.W.Frag) (H : Hp) (v : V) (rs : List Line) : Prop := ∃ d, v = .ref d ∧ DayT K H d rs
theorem DayV.mono {K : PySem.W.Frag} {H H' : Hp} (s : Same H H') {v : V} {rs : List Line} (h : DayV K H v rs) : DayV K H' v rs := by
  obtain ⟨d, e, h⟩ := h
  exact ⟨d, e, h.mono s⟩
theorem DayV.updL {K : PySem.W.Frag} {H : Hp} {D : Addr} {v : V} {ys zs : List V} {rs : List Line} (hD : H D = some (.lst ys)) (h : DayV K H v rs) : DayV K (L2.upd H D (.lst zs)) v rs := by
  obtain ⟨d, e, h⟩ := h
  exact ⟨d, e, h.updL hD⟩
abbrev KSt := List Line × List Int
def KAt (K : PySem.W.Frag) (H : Hp) (v : V) (st : KSt) : Prop := ∃ t d e, v = .ref t ∧ SqT K H t [.ref d, .ref e] ∧ DayT K H d st.1 ∧ EU K H e st.2
theorem KAt.mono {K : PySem.W.Frag} {H H' : Hp} (s : Same H H') {v : V} {st : KSt} (h : KAt K H v st) : KAt K H' v st := by
  obtain ⟨t, d, e, r, h1, h2, h3⟩ := h
  exact ⟨t, d, e, r, seqT s h1, h2.mono s, h3.mono s⟩
theorem KAt.updL {K : PySem.W.Frag} {H : Hp} {D : Addr} {v : V} {ys zs : List V} {st : KSt} (hD : H D = some (.lst ys)) (h : KAt K H v st) : KAt K (L2.upd H D (.lst zs)) v st := by
  obtain ⟨t, d, e, r, h1, h2, h3⟩ := h
  exact ⟨t, d, e, r, seqT_upd hD h1, h2.updL hD, h3.updL hD⟩
def oneK (ts : List (List Int)) (l : Told) (st : KSt) (n : Int) : List KSt := if smallU (behT ts st.2 (l.1 : Int) (lineU l.2 n)) then [(st.1 ++ [(l.1, l.2, n)], behT ts st.2 (l.1 : Int) (lineU l.2 n))] else []
def dayK (ts : List (List Int)) (l : Told) (st : KSt) : List KSt := (choQ l.2).flatMap (oneK ts l st)
def stepK (ts : List (List Int)) (found : List KSt) (l : Told) : List KSt := found.flatMap (dayK ts l)
def runK (ts : List (List Int)) (ls : List Told) : List KSt := ls.foldl (stepK ts) [([], List.replicate ts.length 0)]
def keptU (ts : List (List Int)) (ls : List Told) : List (List Line) := (runK ts ls).map (·.1)
theorem flat_take {α β : Type} {f : α → List β} {l : List α} {i : Nat} {x : α} (h : l[i]? = some x) : (l.take (i + 1)).flatMap f = (l.take i).flatMap f ++ f x := by
  rw [List.take_add_one, h, List.flatMap_append]
  simp
theorem runK_take {ts : List (List Int)} {ls : List Told} {i : Nat} {l : Told} (h : ls[i]? = some l) : runK ts (ls.take (i + 1)) = stepK ts (runK ts (ls.take i)) l := by
  unfold runK
  rw [List.take_add_one, h, List.foldl_append]
  rfl
structure KOk (m n : Nat) (ts : List (List Int)) (st : KSt) : Prop where
  len : st.2.length = ts.length
  near : ∀ x ∈ st.2, -DL < x ∧ x < DL
  many : st.1.length = n
  lines : ∀ r ∈ st.1, LineOk m r
theorem behT_len {ts : List (List Int)} {es : List Int} {k d : Int} (h : es.length = ts.length) : (behT ts es k d).length = ts.length := by
  unfold behT
  rw [List.length_map, List.length_zip]
  omega
theorem small_mem {es : List Int} (h : smallU es = true) : ∀ x ∈ es, -DL < x ∧ x < DL := fun x hx => of_decide_eq_true (List.all_eq_true.mp h x hx)
theorem KOk.one {m n : Nat} {ts : List (List Int)} {st : KSt} {l : Told} {z : Int} (h : KOk m n ts st) (hl : TdOk m l) (hz : z ∈ choQ l.2) : ∀ x ∈ oneK ts l st z, KOk m (n + 1) ts x := fun x hx => by
  unfold oneK at hx
  split at hx
  · rename_i hs
    rw [List.mem_singleton.mp hx]
    refine ⟨behT_len h.len, small_mem hs, by rw [List.length_append, h.many]; rfl, fun r hr => ?_⟩
    rcases List.mem_append.mp hr with q | q
    · exact h.lines r q
    · rw [List.mem_singleton.mp q]
      exact line_of hl.kind hl.amt hz
  · cases hx
theorem flat_len {α β : Type} {f : α → List β} {c : Nat} (h : ∀ x, (f x).length ≤ c) : ∀ l : List α, (l.flatMap f).length ≤ c * l.length
  | [] => Nat.zero_le _
  | x :: l => by
    have := flat_len h l
    have := h x
    rw [List.flatMap_cons, List.length_append, List.length_cons, Nat.mul_succ]
    omega
theorem one_len (ts : List (List Int)) (l : Told) (st : KSt) (n : Int) : (oneK ts l st n).length ≤ 1 := by
  unfold oneK
  split
  · exact Nat.le_refl 1
  · exact Nat.zero_le 1
theorem day_len (ts : List (List Int)) (l : Told) (st : KSt) : (dayK ts l st).length ≤ 2 := by
  have c := (choQ_ne l.2).2
  have := flat_len (one_len ts l st) (choQ l.2)
  unfold dayK
  omega
theorem runK_ok {m : Nat} {ts : List (List Int)} : ∀ (ls : List Told) (n : Nat) (found : List KSt), (∀ l ∈ ls, TdOk m l) → (∀ st ∈ found, KOk m n ts st) → (∀ st ∈ ls.foldl (stepK ts) found, KOk m (n + ls.length) ts st) ∧ (ls.foldl (stepK ts) found).length ≤ found.length * 2 ^ ls.length
  | [], n, found, _, h => ⟨h, Nat.le_of_eq (Nat.mul_one _).symm⟩
  | l :: ls, n, found, hl, h => by
    have hl1 := hl l List.mem_cons_self
    have stepl : ∀ F : List KSt, (stepK ts F l).length ≤ F.length * 2 := fun F => by
      rw [Nat.mul_comm]
      exact flat_len (day_len ts l) F
    have ih := runK_ok ls (n + 1) (stepK ts found l) (fun x hx => hl x (List.mem_cons_of_mem _ hx)) (fun x hx => by
      obtain ⟨st, hst, hx⟩ := List.mem_flatMap.mp hx
      obtain ⟨z, hz, hx⟩ := List.mem_flatMap.mp hx
      exact (h st hst).one hl1 hz x hx)
    refine ⟨fun x hx => ?_, Nat.le_trans ih.2 ?_⟩
    · have e : n + (ls.length + 1) = n + 1 + ls.length := by omega
      rw [List.length_cons, e]
      exact ih.1 x hx
    · have s := Nat.mul_le_mul_right (2 ^ ls.length) (stepl found)
      rw [List.length_cons, Nat.pow_succ, Nat.mul_comm (2 ^ ls.length) 2, ← Nat.mul_assoc]
      exact s
theorem run_ok {m : Nat} {ts : List (List Int)} {ls : List Told} (h : ∀ l ∈ ls, TdOk m l) : (∀ st ∈ runK ts ls, KOk m ls.length ts st) ∧ (runK ts ls).length ≤ 2 ^ ls.length := by
  have q := runK_ok (m := m) (ts := ts) ls 0 [([], List.replicate ts.length 0)] h (fun st hst => by
    rw [List.mem_singleton.mp hst]
    refine ⟨List.length_replicate, fun x hx => ?_, rfl, fun r hr => absurd hr List.not_mem_nil⟩
    rw [List.eq_of_mem_replicate hx]
    exact ⟨by decide, by decide⟩)
  rw [Nat.zero_add, List.length_singleton, Nat.one_mul] at q
  exact q
def DaysT (K : PySem.W.Frag) (H : Hp) (a : Addr) (ds : List (List Line)) : Prop := ∃ xs, SqT K H a xs ∧ LR (DayV K H) xs ds
theorem DaysT.mono {K : PySem.W.Frag} {H H' : Hp} (s : Same H H') {a : Addr} {ds : List (List Line)} (h : DaysT K H a ds) : DaysT K H' a ds := by
  obtain ⟨xs, h1, h2⟩ := h
  exact ⟨xs, seqT s h1, h2.imp fun _ _ q => q.mono s⟩
def spKept (K : PySem.W.Frag) (C R : Addr) : Sp := fun vs H Q E => ∃ (a l : Addr) (ks : List Str) (ts : List (List Int)) (ls : List Told), vs = [.ref a, .ref l] ∧ Tab K C H a ks ts ∧ TabOk ks ts ∧ ToldIn K H l ks.length ls ∧ ls.length ≤ 100 ∧
  (ls.length ≤ 12 → ∀ H' u, Same H H' → DaysT K H' u (keptU ts ls) → Q (.ref u) H') ∧
  (12 < ls.length → ∀ H' x, Same H H' → H x = none → H' x = some (.xd [((("word" : String) : Str), .str ("size" : String))]) → E (.ref R) (some x) H')
end CK
namespace K10
open PySem PySem.Spec PyProof.Rows L2 VG FR CK HD M9
abbrev s_kept_days : Stmt := topS 46
abbrev N_kept_days : List Str := ["table", "lines", "found", "kind", "amount", "longer", "day", "errors", "whole", "behind"]
theorem sc_kept_days : FnScope N_kept_days ["table", "lines"] (defScope s_kept_days) := ⟨rfl, rfl, rfl, by decide +kernel, rfl, by decide +kernel, by decide +kernel⟩
section
variable {P : Program} {w : World} {K : PySem.W.Frag} {mg : Str → Option Value} {base : Heap}
theorem ok_kept_days {f fi C R : Addr} {fd fdi : FuncData} {tk : Tok} (F : Fun K "kept_days" "kept_days" s_kept_days f fd) (C_no_errors : Cl P w K mg base 1 "no_errors" (spNoErr K C)) (C_totals_by : Cl P w K mg base 4 "totals_by" (spTotsBy K C)) (C_choices : Cl P w K mg base 2 "choices" (spCho K)) (C_totals_behind : Cl P w K mg base 2 "totals_behind" (spTotBeh K C)) (C_error_of_line : Cl P w K mg base 3 "error_of_line" (spErrLine K)) (C_are_small : Cl P w K mg base 2 "are_small" (spSmalls K))
    (m_MOST_GAME_LINES : mg "MOST_GAME_LINES" = some (.int 12 tk)) (e_Refused : ErrC K mg "Refused" R fi) (i_Refused : FnOk P w K mg base CX0 1 fi fdi ["self", "word"] (spInitW K R "word")) (b_Refused : Binds K fdi ["self", "word"] []) (z_tuple : mg "tuple" = none) (z_len : mg "len" = none) : FnOk P w K mg base (L2.CX P w) 5 f fd ["table", "lines"] (spKept K C R) := by
  refine F.okX sc_kept_days (fun vs H Q E h => ?_) (fun cdv A outer s H vs Q E hr h => ?_)
  · obtain ⟨_, _, _, _, _, rfl, _⟩ := h
    rfl
  · obtain ⟨a, l, ks, ts, ls, rfl, hTab, ok, ⟨xs, hS, hL, hlo⟩, l100, fin, err⟩ := h
    refine ⟨_, (pss_cons (ps_if (pt_cmpR op_gt (pe_callB call_len_seq (by rfl) z_len (by decide +kernel) (pa_cons (pv 1) pa_nil)) (pe_glob (v := .int 12) rfl m_MOST_GAME_LINES ⟨_, rfl⟩) (nomark _))
      (pss_one (ps_raise rfl (takes_of rfl rfl rfl rfl) (pmk_oex e_Refused.o e_Refused.iC e_Refused.tI i_Refused (hr.mono (by decide)) b_Refused .nil pass0 rfl e_Refused.gC (pa_cons pe_str pa_nil))))
      pss_nil)
    (pss_cons (ps_set (i := 2) sc_kept_days.nd rfl (.inl rfl) (pe_lst (pa_cons (pe_tup (pa_cons (pe_tup pa_nil) (pa_cons (pe_cl C_totals_by hr (by decide) rfl (pa_cons (pv 0) (pa_cons (pe_cl C_no_errors hr (by decide) rfl (pa_cons (pv 0) pa_nil)) pa_nil))) pa_nil))) pa_nil)))
    (pss_cut (ps_for (passes_of rfl) rfl (pi_tup (pv 1)) (pg_tup rfl (pgs_cons (pg_name (i := 3) sc_kept_days.nd rfl (.inl rfl)) (pgs_cons (pg_name (i := 4) sc_kept_days.nd rfl (.inl rfl)) pgs_nil)))
      (pss_cons (ps_set (i := 5) sc_kept_days.nd rfl (.inl rfl) (pe_lst pa_nil))
      (pss_cut (ps_for (passes_of rfl) rfl (pi_list (pv 2)) (pg_tup rfl (pgs_cons (pg_name (i := 6) sc_kept_days.nd rfl (.inl rfl)) (pgs_cons (pg_name (i := 7) sc_kept_days.nd rfl (.inl rfl)) pgs_nil)))
        (pss_one (ps_for (passes_of rfl) rfl (pi_tup (pe_cl C_choices hr (by decide) rfl (pa_cons (pv 4) pa_nil))) (pg_name (i := 8) sc_kept_days.nd rfl (.inl rfl))
          (pss_cons (ps_set (i := 9) sc_kept_days.nd rfl (.inl rfl) (pe_cl C_totals_behind hr (by decide) rfl (pa_cons (pv 0) (pa_cons (pv 7) (pa_cons (pv 3) (pa_cons (pe_cl C_error_of_line hr (by decide) rfl (pa_cons (pv 4) (pa_cons (pv 8) pa_nil))) pa_nil))))))
          (pss_one (ps_if (pt_val (pe_cl C_are_small hr (by decide) rfl (pa_cons (pv 9) pa_nil)))
            (pss_one (ps_expr (pe_bm PySem.F.plainAttrs_list PySem.F.slot_list_append PySem.F.type_list_append mt_append (pv 5) (pa_cons (pe_tup (pa_cons (pe_op op_catM (pv 6) (pe_tup (pa_cons (pe_tup (pa_cons (pv 3) (pa_cons (pv 4) (pa_cons (pv 8) pa_nil)))) pa_nil))) (pa_cons (pv 9) pa_nil))) pa_nil))))
            pss_nil))))))
      (pss_one (ps_set (i := 2) sc_kept_days.nd rfl (.inl rfl) (pv 5))))))
    (pss_one (ps_ret (pe_callTy call_tupE (by rfl) z_tuple (by decide +kernel) (pa_cons (pe_lc (own := [("day", 6), ("errors", 7)]) (by rfl) sc_kept_days.nd (pi_list (pv 2)) (blkOk_by (own := [("day", 6), ("errors", 7)]) (N := N_kept_days) (sc := defScope s_kept_days) (by decide +kernel)) (fun _ _ _ _ _ => (show PG _ _ (gTup K 2 _) from pg_tup rfl (pgs_cons (pg_name (i := 6) sc_kept_days.nd rfl (.inl rfl)) (pgs_cons (pg_name (i := 7) sc_kept_days.nd rfl (.inl rfl)) pgs_nil)))) (fun _ _ _ _ _ => pts_nil) (fun _ _ _ _ _ => (pv 6))) pa_nil))))))), ?_⟩
    have big : sizeLine = 16777216 := by decide
    have lx := hL.len
    refine ⟨_, rfl, l, _, rfl, .inr hS, _, _, rfl, rfl, _, rfl, ite2 (fun z => ?_) (fun z => ?_)⟩
    · have z2 : (xs.length : Int) > 12 := of_decide_eq_true z
      exact raisedV (v := .str ("size" : String)) (fun Rr h => h) (err (by omega))
    · have z2 : ¬ (xs.length : Int) > 12 := fun q => z (decide_eq_true q)
      have l12 : ls.length ≤ 12 := by omega
      have fin := fin l12
      clear err z
      refine ⟨by show 0 ≤ sizeLine; exact Nat.zero_le _, fun D0 nD0 => ?_⟩
      generalize eH1 : L2.upd H D0 (.tup []) = H1
      have s1 := same_of nD0 eH1
      have k1 := at_of eH1
      clear eH1
      refine ⟨_, rfl, _, rfl, a, ks, ts, rfl, hTab.mono s1, ok, fun H2 u2 s2 hE2 => ?_⟩
      refine ⟨a, u2, ks, ts, _, rfl, hTab.mono (s1.trans s2), ok, hE2, List.length_replicate, fun x hx => ?_, fun H3 e0 s3 hE3 => ?_⟩
      · rw [List.eq_of_mem_replicate hx]
        exact Nat.zero_le _
      rw [tots_zero] at hE3
      refine ⟨by show 2 ≤ sizeLine; decide, fun T0 nT0 => ?_⟩
      generalize eH4 : L2.upd H3 T0 _ = H4
      have s4 := same_of nT0 eH4
      have k4 := at_of eH4
      clear eH4
      refine ⟨by show 1 ≤ sizeLine; decide, fun F0 nF0 => ?_⟩
      generalize eH5 : L2.upd H4 F0 _ = H5
      have s5 := same_of nF0 eH5
      have k5 := at_of eH5
      clear eH5
      have s05 := s1.trans (s2.trans (s3.trans (s4.trans s5)))
      have start : LR (KAt K H5) [V.ref T0] (runK ts (ls.take 0)) := ⟨⟨T0, D0, e0, rfl, .inl (.inl (s5 _ _ k4)), ⟨[], .inl (.inl ((s2.trans (s3.trans (s4.trans s5))) _ _ k1)), trivial⟩, hE3.mono (s4.trans s5)⟩, trivial⟩
      clear nD0 k1 hE2 hE3 nT0 k4 nF0
      refine ⟨fun σ H' => (∃ (G : Addr) (us : List V), (∃ y3 y4 y5 y6 y7 y8 y9 : Option V, σ = [some (.ref a), some (.ref l), some (.ref G), y3, y4, y5, y6, y7, y8, y9]) ∧ H' G = some (.lst us) ∧ LR (KAt K H') us (runK ts ls)) ∧ Same H H', ?_, ?_⟩
      · refine ⟨_, rfl, l, rfl, ⟨_, seqT s05 hS⟩, ?_⟩
        refine for_it (walk_tup (K := K) (a := l) (xs := xs)) (fun i σ H' => (∃ (G : Addr) (us : List V), (∃ y3 y4 y5 y6 y7 y8 y9 : Option V, σ = [some (.ref a), some (.ref l), some (.ref G), y3, y4, y5, y6, y7, y8, y9]) ∧ H' G = some (.lst us) ∧ LR (KAt K H') us (runK ts (ls.take i))) ∧ Same H H')
          ⟨⟨F0, _, ⟨_, _, _, _, _, _, _, rfl⟩, k5, start⟩, s05⟩ (fun i σ H' _ h => seqT h.2 hS) ?_ ?_
        · clear start k5 s05 s1 s2 s3 s4 s5
          rintro i x σ H6 H7 hi ⟨⟨G, us, ⟨y3, y4, y5, y6, y7, y8, y9, rfl⟩, kG, hus⟩, sm⟩ ⟨rfl, ex⟩
          obtain ⟨td, etd, t1, q, rfl, h1, h2⟩ := hL.get ex
          have tdo := hlo td (List.mem_of_getElem? etd)
          have run := run_ok (ts := ts) (m := ks.length) (ls := ls.take i) fun x hx => hlo x (List.mem_of_mem_take hx)
          have rt := runK_take (ts := ts) etd
          generalize runK ts (ls.take i) = R0 at hus run rt ⊢
          have l2 : R0.length ≤ 4096 := by
            have : (ls.take i).length ≤ 12 := by rw [List.length_take]; omega
            have := Nat.pow_le_pow_right (show 0 < 2 by decide) this
            have e : 2 ^ 12 = 4096 := by decide
            omega
          refine ⟨t1, _, rfl, seqT sm h1, rfl, _, _, rfl, _, _, rfl, rfl, ?_⟩
          refine ⟨by show 0 ≤ sizeLine; exact Nat.zero_le _, fun L nL => ?_⟩
          generalize eH8 : L2.upd H7 L _ = H8
          have s8 := same_of nL eH8
          have kL := at_of eH8
          clear eH8
          refine ⟨fun σ H' => (∃ y6 y7 y8 y9 : Option V, σ = [some (.ref a), some (.ref l), some (.ref G), some (.int td.1), some (.ref q), some (.ref L), y6, y7, y8, y9]) ∧ Same H7 H' ∧ ∃ zs, H' L = some (.lst zs) ∧ LR (KAt K H') zs (stepK ts R0 td), ?_, ?_⟩
          · refine ⟨_, rfl, G, rfl, ⟨us, .inl (.inl (s8 _ _ kG))⟩, ?_⟩
            refine for_it (walk_list (K := K) (a := G) (xs := us)) (fun j σ H' => (∃ y6 y7 y8 y9 : Option V, σ = [some (.ref a), some (.ref l), some (.ref G), some (.int td.1), some (.ref q), some (.ref L), y6, y7, y8, y9]) ∧ Same H7 H' ∧ ∃ zs, H' L = some (.lst zs) ∧ LR (KAt K H') zs ((R0.take j).flatMap (dayK ts td)))
              ⟨⟨_, _, _, _, rfl⟩, s8, [], kL, trivial⟩ (fun j σ H' _ h => .inl (.inl (h.2.1 _ _ kG))) ?_ ?_
            · clear s8 kL
              rintro j v σ H8 H9 hj ⟨⟨y6, y7, y8, y9, rfl⟩, s9, zs, kL, hzs⟩ ⟨rfl, ev⟩
              obtain ⟨st, est, t2, d, e, rfl, g1, g2, g3⟩ := hus.get ev
              have sto := run.1 st (List.mem_of_getElem? est)
              have ft := flat_take (f := dayK ts td) est
              have fl := flat_len (f := dayK ts td) (day_len ts td) (R0.take j)
              have tl : (R0.take j).length ≤ 4096 := by rw [List.length_take]; omega
              generalize (R0.take j).flatMap (dayK ts td) = B at hzs ft fl ⊢
              refine ⟨t2, _, rfl, seqT s9 g1, rfl, _, _, rfl, _, _, rfl, rfl, ?_⟩
              refine ⟨_, rfl, q, _, rfl, seqT (sm.trans s9) h2, tdo.amt.low.1, tdo.amt.bt.mono (by decide), fun H10 c s10 n10 k10 => ?_⟩
              have kL10 := s10 _ _ kL
              have hz10 : LR (KAt K H10) zs B := hzs.imp fun _ _ q => q.mono s10
              refine ⟨c, rfl, ⟨_, .inl (.inl k10)⟩, ?_⟩
              have cl := (choQ_ne td.2).2
              refine for_it (walk_tup (K := K) (a := c) (xs := (choQ td.2).map V.int)) (fun m σ H' => (∃ y8 y9 : Option V, σ = [some (.ref a), some (.ref l), some (.ref G), some (.int td.1), some (.ref q), some (.ref L), some (.ref d), some (.ref e), y8, y9]) ∧ Same H7 H' ∧ SqT K H' c ((choQ td.2).map V.int) ∧ ∃ zs, H' L = some (.lst zs) ∧ LR (KAt K H') zs (B ++ ((choQ td.2).take m).flatMap (oneK ts td st)))
                ⟨⟨_, _, rfl⟩, s9.trans s10, .inl (.inl k10), zs, kL10, by rw [List.take_zero, List.flatMap_nil, List.append_nil]; exact hz10⟩ (fun m σ H' _ h => h.2.2.1) ?_ ?_
              · clear s9 s10 n10 k10 kL10 hz10 hzs kL y8 y9
                rintro m v σ H11 H12 hm ⟨⟨y8, y9, rfl⟩, s12, kc, zs, kL, hzs⟩ ⟨rfl, en⟩
                rw [List.getElem?_map] at en
                obtain ⟨n, hn, rfl⟩ := Option.map_eq_some_iff.mp en
                have nm := List.mem_of_getElem? hn
                have lo := line_of tdo.kind tdo.amt nm
                have ft2 := flat_take (f := oneK ts td st) hn
                have fl2 := flat_len (f := oneK ts td st) (one_len ts td st) ((choQ td.2).take m)
                have tl2 : ((choQ td.2).take m).length ≤ 2 := by rw [List.length_take]; omega
                have lz := hzs.len
                rw [List.length_append] at lz
                refine ⟨_, rfl, _, rfl, _, rfl, _, rfl, _, rfl, q, _, _, rfl, seqT (sm.trans s12) h2, tdo.amt, lo.whole, fun H13 u s13 nu hu => ?_⟩
                refine ⟨a, e, u, ks, ts, _, td.1, _, rfl, hTab.mono (sm.trans (s12.trans s13)), ok, g3.mono (s12.trans s13), sto.len, fun x hx => ?_, .inl (.inl hu), Nat.lt_trans lo.near (by decide), fun H14 b s14 hb => ?_⟩
                · have := sto.near x hx
                  have : DL < 2 ^ 60 := by decide
                  omega
                have lb := behT_len (k := (td.1 : Int)) (d := lineU td.2 n) sto.len
                have lt := ok.len
                refine ⟨_, rfl, b, _, rfl, hb, by omega, fun H15 s15 => ?_⟩
                have s1215 := s13.trans (s14.trans s15)
                have kL15 := s1215 _ _ kL
                have hz15 : LR (KAt K H15) zs _ := hzs.imp fun _ _ q => q.mono s1215
                have hb15 := hb.mono s15
                have kc15 := seqT s1215 kc
                have s15' := s12.trans s1215
                rw [ft2]
                cases hs : smallU (behT ts st.2 (td.1 : Int) (lineU td.2 n)) with
                | true =>
                  have hs2 : ((behT ts st.2 (td.1 : Int) (lineU td.2 n)).all fun e => decide (-DL < e ∧ e < DL)) = true := hs
                  have eo : oneK ts td st n = [(st.1 ++ [(td.1, td.2, n)], behT ts st.2 (td.1 : Int) (lineU td.2 n))] := by unfold oneK; rw [if_pos hs]
                  rw [hs2]
                  refine ⟨_, rfl, iteT ?_⟩
                  refine ⟨_, rfl, .inl ⟨rfl, _, .inl (.inl kL15)⟩, ?_⟩
                  obtain ⟨dxs, d1, d2⟩ := g2
                  refine ⟨_, rfl, _, rfl, _, rfl, _, rfl, by show 3 ≤ sizeLine; decide, fun w nw => ?_⟩
                  generalize eH16 : L2.upd H15 w _ = H16
                  have s16 := same_of nw eH16
                  have k16 := at_of eH16
                  clear eH16
                  refine ⟨by show 1 ≤ sizeLine; decide, fun o no => ?_⟩
                  generalize eH17 : L2.upd H16 o _ = H17
                  have s17 := same_of no eH17
                  have k17 := at_of eH17
                  clear eH17
                  have ld := d2.len
                  have lm := sto.many
                  have lti : (ls.take i).length ≤ 12 := by rw [List.length_take]; omega
                  refine ⟨d, o, dxs, [.ref w], rfl, rfl, seqT (s15'.trans (s16.trans s17)) d1, .inl (.inl k17), by show dxs.length + 1 ≤ sizeLine; omega, fun z H18 s18 hz => ?_⟩
                  refine ⟨_, rfl, by show 2 ≤ sizeLine; decide, fun x nx => ?_⟩
                  generalize eH19 : L2.upd H18 x _ = H19
                  have s19 := same_of nx eH19
                  have k19 := at_of eH19
                  clear eH19
                  have s1519 := s16.trans (s17.trans (s18.trans s19))
                  have kL19 := s1519 _ _ kL15
                  have lw : LineAt K H19 (.ref w) (td.1, td.2, n) := ⟨w, q, rfl, .inl (.inl ((s17.trans (s18.trans s19)) _ _ k16)), seqT (sm.trans (s15'.trans s1519)) h2⟩
                  have day : DayT K H19 z (st.1 ++ [(td.1, td.2, n)]) := ⟨_, seqT s19 hz, Lines.snoc lw (d2.mono (s15'.trans s1519))⟩
                  have new : KAt K H19 (.ref x) (st.1 ++ [(td.1, td.2, n)], behT ts st.2 (td.1 : Int) (lineU td.2 n)) := ⟨x, z, b, rfl, .inl (.inl k19), day, hb15.mono s1519⟩
                  refine ⟨L, zs, .ref x, rfl, rfl, kL19, by omega, ⟨_, _, rfl⟩, HD.same_put (s15'.trans s1519) nL, seqT_upd kL19 (seqT s1519 kc15), zs ++ [.ref x], upd_same, ?_⟩
                  rw [eo, ← List.append_assoc]
                  exact ((hz15.imp fun _ _ q => q.mono s1519).append (show LR (KAt K H19) [.ref x] [(st.1 ++ [(td.1, td.2, n)], behT ts st.2 (td.1 : Int) (lineU td.2 n))] from ⟨new, trivial⟩)).imp fun _ _ q => q.updL kL19
                | false =>
                  have hs2 : ((behT ts st.2 (td.1 : Int) (lineU td.2 n)).all fun e => decide (-DL < e ∧ e < DL)) = false := hs
                  have eo : oneK ts td st n = [] := by unfold oneK; rw [if_neg (by rw [hs]; exact Bool.false_ne_true)]
                  rw [hs2]
                  refine ⟨_, rfl, iteF ⟨⟨_, _, rfl⟩, s15', kc15, zs, kL15, ?_⟩⟩
                  rw [eo, List.append_nil]
                  exact hz15
              · rintro σ H11 ⟨⟨y8, y9, rfl⟩, s11, kc, zs, kL, hzs⟩
                rw [List.length_map, List.take_of_length_le (Nat.le_refl _)] at hzs
                refine ⟨⟨_, _, _, _, rfl⟩, s11, zs, kL, ?_⟩
                rw [ft]
                exact hzs
            · rintro σ H8 ⟨⟨y6, y7, y8, y9, rfl⟩, s9, zs, kL, hzs⟩
              have lu := hus.len
              rw [lu, List.take_of_length_le (Nat.le_refl _)] at hzs
              exact ⟨⟨_, _, _, _, rfl⟩, s9, zs, kL, hzs⟩
          · rintro σ H9 ⟨⟨y6, y7, y8, y9, rfl⟩, s9, zs, kz, hz⟩
            refine ⟨_, rfl, ⟨L, zs, ⟨_, _, _, _, _, _, _, rfl⟩, kz, ?_⟩, sm.trans s9⟩
            rw [rt]
            exact hz
        · rintro σ H6 ⟨⟨G, us, y, kG, hus⟩, sm⟩
          rw [lx, List.take_of_length_le (Nat.le_refl _)] at hus
          exact ⟨⟨G, us, y, kG, hus⟩, sm⟩
      · rintro σ H6 ⟨⟨G, us, ⟨y3, y4, y5, y6, y7, y8, y9, rfl⟩, kG, hus⟩, sm⟩
        have run := run_ok (ts := ts) (m := ks.length) hlo
        have lu := hus.len
        have l2 : (runK ts ls).length ≤ 4096 := by
          have := Nat.pow_le_pow_right (show 0 < 2 by decide) l12
          have e : 2 ^ 12 = 4096 := by decide
          omega
        refine ⟨_, rfl, G, rfl, ⟨us, .inl (.inl kG)⟩, fun D nD => ?_⟩
        refine lc_it (walk_list (K := K) (a := G) (xs := us)) (fun i H' => Same H6 H' ∧ ∃ zs, H' D = some (.lst zs) ∧ LR (DayV K H') zs (((runK ts ls).take i).map (·.1))) ⟨same_upd nD, [], upd_same, trivial⟩ (fun i H' _ h => .inl (.inl (h.1 _ _ kG))) ?_ ?_
        · rintro i v H7 H8 hi ⟨s7, zs, kD, hzs⟩ ⟨e2, ev⟩
          subst e2
          obtain ⟨st, est, t2, d, e, rfl, g1, g2, g3⟩ := hus.get ev
          refine ⟨t2, _, rfl, seqT s7 g1, rfl, _, _, rfl, _, _, rfl, rfl, rfl, ?_⟩
          have lz := hzs.len
          rw [List.length_map, List.length_take] at lz
          refine ⟨_, rfl, zs, kD, by omega, HD.same_put s7 nD, zs ++ [.ref d], upd_same, ?_⟩
          rw [List.take_add_one, est, List.map_append]
          exact (hzs.append (show LR (DayV K H8) [.ref d] [st.1] from ⟨⟨d, rfl, g2.mono s7⟩, trivial⟩)).imp fun _ _ q => q.updL kD
        · rintro H7 ⟨s7, zs, kD, hzs⟩
          rw [lu, List.take_of_length_le (Nat.le_refl _)] at hzs
          exact ⟨D, zs, rfl, .inl (.inl (.inl kD)), fun H8 u s8 hu => fin H8 u (sm.trans (s7.trans s8)) ⟨zs, hu, hzs.imp fun _ _ q => q.mono s8⟩⟩
end
end K10
namespace CK
open PySem PySem.Spec PyProof.Rows L2 VG FR HD M9
/-- a small amount -/
structure AmtS (p : Q2) : Prop where
  ok : AmtOk p
  top : p.1.natAbs ≤ 40
  bot : p.2 ≤ 6
def spAmtK (K : PySem.W.Frag) : Sp := fun vs H Q _ => ∃ (p q : Addr), vs = [.ref p] ∧ Hd p q H ∧ ∀ (H' : Hp) (u : Addr) (r : Q2), On p q (frz p q H) H' → SqT K H' u (pV r) → AmtS r → r.1.natAbs ≤ 20 → Q (.ref u) H'
def dayR (l : Told) (rs : List Line) : List (List Line) := (choQ l.2).map fun n => rs ++ [(l.1, l.2, n)]
def stepR (found : List (List Line)) (l : Told) : List (List Line) := found.flatMap (dayR l)
def rndU (ls : List Told) : List (List Line) := ls.foldl stepR [[]]
theorem rndU_take {ls : List Told} {i : Nat} {l : Told} (h : ls[i]? = some l) : rndU (ls.take (i + 1)) = stepR (rndU (ls.take i)) l := by
  unfold rndU
  rw [List.take_add_one, h, List.foldl_append]
  rfl
theorem rnd_ok : ∀ (ls : List Told) (n : Nat) (F : List (List Line)), (∀ rs ∈ F, rs.length = n) → (∀ rs ∈ ls.foldl stepR F, rs.length = n + ls.length) ∧ (ls.foldl stepR F).length ≤ F.length * 2 ^ ls.length
  | [], n, F, h => ⟨h, Nat.le_of_eq (Nat.mul_one _).symm⟩
  | l :: ls, n, F, h => by
    have st : (stepR F l).length ≤ F.length * 2 := by
      rw [Nat.mul_comm]
      exact flat_len (fun rs => by
        have := (choQ_ne l.2).2
        unfold dayR
        rw [List.length_map]
        exact this) F
    have ih := rnd_ok ls (n + 1) (stepR F l) fun rs hr => by
      obtain ⟨r0, h0, hr⟩ := List.mem_flatMap.mp hr
      obtain ⟨z, _, rfl⟩ := List.mem_map.mp hr
      rw [List.length_append, h r0 h0]
      rfl
    refine ⟨fun rs hr => ?_, Nat.le_trans ih.2 ?_⟩
    · have e : n + (ls.length + 1) = n + 1 + ls.length := by omega
      rw [List.length_cons, e]
      exact ih.1 rs hr
    · have s := Nat.mul_le_mul_right (2 ^ ls.length) st
      rw [List.length_cons, Nat.pow_succ, Nat.mul_comm (2 ^ ls.length) 2, ← Nat.mul_assoc]
      exact s
theorem rndU_ok (ls : List Told) : (∀ rs ∈ rndU ls, rs.length = ls.length) ∧ (rndU ls).length ≤ 2 ^ ls.length := by
  have q := rnd_ok ls 0 [[]] fun rs h => by rw [List.mem_singleton.mp h]; rfl
  rw [Nat.zero_add, List.length_singleton, Nat.one_mul] at q
  exact q
def spRnd (K : PySem.W.Frag) : Sp := fun vs H Q _ => ∃ (l : Addr) (m : Nat) (ls : List Told), vs = [.ref l] ∧ ToldIn K H l m ls ∧ ls.length ≤ 12 ∧
  ∀ H' u xs, Same H H' → H u = none → H' u = some (.lst xs) → LR (DayV K H') xs (rndU ls) → Q (.ref u) H'
end CK
namespace K10
open PySem PySem.Spec PyProof.Rows L2 VG FR CK HD M9
abbrev s__law_amount : Stmt := topS 61
abbrev N__law_amount : List Str := ["heap", "bottom"]
theorem sc__law_amount : FnScope N__law_amount ["heap"] (defScope s__law_amount) := ⟨rfl, rfl, rfl, by decide +kernel, rfl, by decide +kernel, by decide +kernel⟩
abbrev s__law_roundings : Stmt := topS 63
abbrev N__law_roundings : List Str := ["lines", "found", "kind", "amount", "longer", "day", "whole"]
theorem sc__law_roundings : FnScope N__law_roundings ["lines"] (defScope s__law_roundings) := ⟨rfl, rfl, rfl, by decide +kernel, rfl, by decide +kernel, by decide +kernel⟩
section
variable {P : Program} {w : World} {K : PySem.W.Frag} {mg : Str → Option Value} {base : Heap}
theorem ok__law_amount {f : Addr} {fd : FuncData} (F : Fun K "_law_amount" "_law_amount" s__law_amount f fd) (C__law_draw : Cl P w K mg base 1 "_law_draw" spDraw) (C__law_pick : Cl P w K mg base 2 "_law_pick" (spPick K)) (C__law_fraction : Cl P w K mg base 1 "_law_fraction" spFr9) :
    FnOk P w K mg base CX0 3 f fd ["heap"] (spAmtK K) := by
  refine F.ok sc__law_amount (fun vs H Q E h => ?_) (fun cdv A outer s H vs Q E hr h => ?_)
  · obtain ⟨p, q, rfl, _⟩ := h
    rfl
  · obtain ⟨p, q, rfl, hd, fin⟩ := h
    refine ⟨_, (pss_cons (ps_set (i := 1) sc__law_amount.nd rfl (.inl rfl) (pe_cl C__law_pick hr (by decide) rfl (pa_cons (pv 0) (pa_cons (pe_lst (pa_cons pe_int (pa_cons pe_int (pa_cons pe_int (pa_cons pe_int (pa_cons pe_int (pa_cons pe_int (pa_cons pe_int (pa_cons pe_int pa_nil))))))))) pa_nil))))
    (pss_one (ps_ret (pe_cl C__law_fraction hr (by decide) rfl (pa_cons (pe_op op_sub (pe_cl C__law_draw hr (by decide) rfl (pa_cons (pv 0) (pa_cons (pe_op op_mulW pe_int (pv 1)) pa_nil))) (pe_op op_mulW pe_int (pv 1))) (pa_cons (pv 1) pa_nil)))))), ?_⟩
    have on0 := On.start hd
    refine ⟨_, rfl, by show 8 ≤ sizeLine; decide, fun L nL => ?_⟩
    have fL := on0.free nL
    have on1 := on0.new (o := .lst [.int 2, .int 3, .int 2, .int 1, .int 4, .int 2, .int 5, .int 6]) nL
    refine ⟨p, q, L, _, rfl, on1.hd, upd_same, fL.1, fL.2.1, by simp, by show 8 < 1000000; decide, fun H2 v hd2 kp2 hv => ?_⟩
    have on2 := on1.draw hd2 kp2
    obtain ⟨b, rfl, b0, b12, bd⟩ : ∃ b : Int, v = .int b ∧ 0 < b ∧ b ≤ 6 ∧ b ∣ DL := by
      simp only [List.mem_cons, List.not_mem_nil, or_false] at hv
      rcases hv with e | e | e | e | e | e | e | e <;> exact ⟨_, e, by decide, by decide, by decide⟩
    clear on1 hd2 kp2 hv nL fL on0
    generalize frz p q H = G at *
    refine ⟨_, rfl, _, rfl, _, _, rfl, rfl, mulW (up (n := 40) (by decide) (by decide)) (up (n := 40) (by omega) (by decide)), p, q, _, rfl, on2.hd, by omega, by omega, fun H4 r hd4 kp4 r0 r1 => ?_⟩
    have on4 := on2.draw hd4 kp4
    refine ⟨_, rfl, _, _, rfl, rfl, mulW (up (n := 40) (by decide) (by decide)) (up (n := 40) (by omega) (by decide)), _, _, rfl, rfl, _, rfl, ?_⟩
    refine ⟨_, _, rfl, b0, Nat.lt_of_le_of_lt (m := 1000) (by omega) (by decide), Nat.lt_of_le_of_lt (m := 1000) (by omega) (by decide), fun H5 u s5 nu hu => ?_⟩
    have ms := M2.mk_size (a := r - 2 * b) (b := b) (by omega)
    have ml := M2.mk_low (a := r - 2 * b) (b := b) (by omega)
    refine fin H5 u _ (on4.same s5) (.inl (.inl hu)) ⟨amt_mk b0 bd (by omega), by omega, ?_⟩ (by omega)
    have := ml.1
    omega
theorem ok__law_roundings {f : Addr} {fd : FuncData} (F : Fun K "_law_roundings" "_law_roundings" s__law_roundings f fd) (C__law_choices : Cl P w K mg base 1 "_law_choices" (spLawCho K)) :
    FnOk P w K mg base CX0 2 f fd ["lines"] (spRnd K) := by
  refine F.ok sc__law_roundings (fun vs H Q E h => ?_) (fun cdv A outer s H vs Q E hr h => ?_)
  · obtain ⟨_, _, _, rfl, _⟩ := h
    rfl
  · obtain ⟨l, m, ls, rfl, ⟨xs, hS, hL, hlo⟩, l12, fin⟩ := h
    refine ⟨_, (pss_cons (ps_set (i := 1) sc__law_roundings.nd rfl (.inl rfl) (pe_lst (pa_cons (pe_tup pa_nil) pa_nil)))
    (pss_cut (ps_for PassesOwn.never rfl (pi_tup (pv 0)) (pg_tup rfl (pgs_cons (pg_name (i := 2) sc__law_roundings.nd rfl (.inr rfl)) (pgs_cons (pg_name (i := 3) sc__law_roundings.nd rfl (.inr rfl)) pgs_nil)))
      (pss_cons (ps_set (i := 4) sc__law_roundings.nd rfl (.inl rfl) (pe_lst pa_nil))
      (pss_cut (ps_for PassesOwn.never rfl (pi_list (pv 1)) (pg_name (i := 5) sc__law_roundings.nd rfl (.inr rfl))
        (pss_one (ps_set (i := 4) sc__law_roundings.nd rfl (.inl rfl) (pe_op op_cat (pv 4) (pe_lc (own := [("whole", 6)]) (by rfl) sc__law_roundings.nd (pi_list (pe_cl C__law_choices hr (by decide) rfl (pa_cons (pv 3) pa_nil))) (blkOk_by (own := [("whole", 6)]) (N := N__law_roundings) (sc := defScope s__law_roundings) (by decide +kernel)) (fun _ _ _ _ _ => (pg_name (i := 6) sc__law_roundings.nd rfl (.inl rfl))) (fun _ _ _ _ _ => pts_nil) (fun _ _ _ _ _ => (pe_op (show OpR _ (binaryOp .Add) (rCatM K) from op_catM) (pv 5) (pe_tup (pa_cons (pe_tup (pa_cons (pv 2) (pa_cons (pv 3) (pa_cons (pv 6) pa_nil)))) pa_nil)))))))))
      (pss_one (ps_set (i := 1) sc__law_roundings.nd rfl (.inl rfl) (pv 4))))))
    (pss_one (ps_ret (pv 1))))), ?_⟩
    have big : sizeLine = 16777216 := by decide
    have lx := hL.len
    refine ⟨by show 0 ≤ sizeLine; exact Nat.zero_le _, fun D0 nD0 => ?_⟩
    generalize eH1 : L2.upd H D0 (.tup []) = H1
    have s1 := same_of nD0 eH1
    have k1 := at_of eH1
    clear eH1
    refine ⟨by show 1 ≤ sizeLine; decide, fun F0 nF0 => ?_⟩
    generalize eH2 : L2.upd H1 F0 _ = H2
    have s2 := same_of nF0 eH2
    have k2 := at_of eH2
    clear eH2
    refine ⟨fun σ H' => (∃ (G : Addr) (us : List V), (∃ y2 y3 y4 y5 y6 : Option V, σ = [some (.ref l), some (.ref G), y2, y3, y4, y5, y6]) ∧ H G = none ∧ H' G = some (.lst us) ∧ LR (DayV K H') us (rndU ls)) ∧ Same H H', ?_, ?_⟩
    · refine ⟨_, rfl, l, rfl, ⟨_, seqT (s1.trans s2) hS⟩, ?_⟩
      refine for_it (walk_tup (K := K) (a := l) (xs := xs)) (fun i σ H' => (∃ (G : Addr) (us : List V), (∃ y2 y3 y4 y5 y6 : Option V, σ = [some (.ref l), some (.ref G), y2, y3, y4, y5, y6]) ∧ H G = none ∧ H' G = some (.lst us) ∧ LR (DayV K H') us (rndU (ls.take i))) ∧ Same H H')
        ⟨⟨F0, _, ⟨_, _, _, _, _, rfl⟩, s1.free nF0, k2, ⟨⟨D0, rfl, [], .inl (.inl (s2 _ _ k1)), trivial⟩, trivial⟩⟩, s1.trans s2⟩ (fun i σ H' _ h => seqT h.2 hS) ?_ ?_
      · clear s1 s2 k1 k2 nD0 nF0
        rintro i x σ H6 H7 hi ⟨⟨G, us, ⟨y2, y3, y4, y5, y6, rfl⟩, nG, kG, hus⟩, sm⟩ ⟨rfl, ex⟩
        obtain ⟨td, etd, t1, q, rfl, h1, h2⟩ := hL.get ex
        have tdo := hlo td (List.mem_of_getElem? etd)
        have run := rndU_ok (ls.take i)
        have rt := rndU_take etd
        generalize rndU (ls.take i) = R0 at hus run rt ⊢
        have ti : (ls.take i).length ≤ 12 := by rw [List.length_take]; omega
        have l2 : R0.length ≤ 4096 := by
          have := Nat.pow_le_pow_right (show 0 < 2 by decide) ti
          have e : 2 ^ 12 = 4096 := by decide
          omega
        refine ⟨t1, _, rfl, seqT sm h1, rfl, _, _, rfl, _, _, rfl, rfl, ?_⟩
        refine ⟨by show 0 ≤ sizeLine; exact Nat.zero_le _, fun L nL => ?_⟩
        generalize eH8 : L2.upd H7 L _ = H8
        have s8 := same_of nL eH8
        have kL := at_of eH8
        clear eH8
        refine ⟨fun σ H' => (∃ (L : Addr) (zs : List V), (∃ y5 y6 : Option V, σ = [some (.ref l), some (.ref G), some (.int td.1), some (.ref q), some (.ref L), y5, y6]) ∧ H L = none ∧ H' L = some (.lst zs) ∧ LR (DayV K H') zs (stepR R0 td)) ∧ Same H7 H', ?_, ?_⟩
        · refine ⟨_, rfl, G, rfl, ⟨us, .inl (.inl (s8 _ _ kG))⟩, ?_⟩
          refine for_it (walk_list (K := K) (a := G) (xs := us)) (fun j σ H' => (∃ (L : Addr) (zs : List V), (∃ y5 y6 : Option V, σ = [some (.ref l), some (.ref G), some (.int td.1), some (.ref q), some (.ref L), y5, y6]) ∧ H L = none ∧ H' L = some (.lst zs) ∧ LR (DayV K H') zs ((R0.take j).flatMap (dayR td))) ∧ Same H7 H')
            ⟨⟨L, [], ⟨_, _, rfl⟩, sm.free nL, kL, trivial⟩, s8⟩ (fun j σ H' _ h => .inl (.inl (h.2 _ _ kG))) ?_ ?_
          · clear s8 kL nL
            rintro j v σ H8 H9 hj ⟨⟨L, zs, ⟨y5, y6, rfl⟩, nL, kL, hzs⟩, s9⟩ ⟨rfl, ev⟩
            obtain ⟨rs, ers, d, rfl, dxs, d1, d2⟩ := hus.get ev
            have lrs := run.1 rs (List.mem_of_getElem? ers)
            have ft := flat_take (f := dayR td) ers
            have fl := flat_len (f := dayR td) (c := 2) (fun rs => by unfold dayR; rw [List.length_map]; exact (choQ_ne td.2).2) (R0.take j)
            have tl : (R0.take j).length ≤ 4096 := by rw [List.length_take]; omega
            generalize (R0.take j).flatMap (dayR td) = B at hzs ft fl ⊢
            have lz := hzs.len
            have ld := d2.len
            have cl := (choQ_ne td.2).2
            refine ⟨_, rfl, ?_⟩
            refine ⟨_, rfl, q, td.2, rfl, seqT (sm.trans s9) h2, tdo.amt.low.1, tdo.amt.bt3, fun H10 c s10 n10 k10 => ?_⟩
            refine ⟨c, rfl, ⟨_, .inl (.inl k10)⟩, fun D nD => ?_⟩
            have s710 := s9.trans s10
            refine lc_it (walk_list (K := K) (a := c) (xs := (choQ td.2).map V.int)) (fun k H' => Same H10 H' ∧ ∃ ys, H' D = some (.lst ys) ∧ LR (DayV K H') ys (((choQ td.2).take k).map fun n => rs ++ [(td.1, td.2, n)])) ⟨same_upd nD, [], upd_same, trivial⟩ (fun k H' _ h => .inl (.inl (h.1 _ _ k10))) ?_ ?_
            · rintro k v H11 H12 hk ⟨s12, ys, kD, hys⟩ ⟨e2, en⟩
              subst e2
              rw [List.getElem?_map] at en
              obtain ⟨n, hn, rfl⟩ := Option.map_eq_some_iff.mp en
              have ly := hys.len
              rw [List.length_map, List.length_take] at ly
              refine ⟨rfl, ?_⟩
              refine ⟨_, rfl, _, rfl, _, rfl, _, rfl, by show 3 ≤ sizeLine; decide, fun w nw => ?_⟩
              generalize eH13 : L2.upd H12 w _ = H13
              have s13 := same_of nw eH13
              have k13 := at_of eH13
              clear eH13
              refine ⟨by show 1 ≤ sizeLine; decide, fun o no => ?_⟩
              generalize eH14 : L2.upd H13 o _ = H14
              have s14 := same_of no eH14
              have k14 := at_of eH14
              clear eH14
              have s714 := s710.trans (s12.trans (s13.trans s14))
              refine ⟨d, o, dxs, [.ref w], rfl, rfl, seqT s714 d1, .inl (.inl k14), by show dxs.length + 1 ≤ sizeLine; omega, fun z H15 s15 hz => ?_⟩
              have s1215 := s13.trans (s14.trans s15)
              have kD15 := s1215 _ _ kD
              have lw : LineAt K H15 (.ref w) (td.1, td.2, n) := ⟨w, q, rfl, .inl (.inl ((s14.trans s15) _ _ k13)), seqT (sm.trans (s714.trans s15)) h2⟩
              have day : DayV K H15 (.ref z) (rs ++ [(td.1, td.2, n)]) := ⟨z, rfl, _, hz, Lines.snoc lw (d2.mono (s714.trans s15))⟩
              refine ⟨ys, kD15, by omega, HD.same_put (s12.trans s1215) nD, ys ++ [.ref z], upd_same, ?_⟩
              rw [List.take_add_one, hn, List.map_append]
              exact ((hys.imp fun _ _ q => q.mono s1215).append (show LR (DayV K H15) [.ref z] [rs ++ [(td.1, td.2, n)]] from ⟨day, trivial⟩)).imp fun _ _ q => q.updL kD15
            · rintro H11 ⟨s11, ys, kD, hys⟩
              rw [List.length_map, List.take_of_length_le (Nat.le_refl _)] at hys
              have ly := hys.len
              rw [List.length_map] at ly
              refine ⟨L, D, zs, ys, rfl, rfl, (s10.trans s11) _ _ kL, kD, by omega, fun z nz => ?_⟩
              generalize eH12 : L2.upd H11 z _ = H12
              have s12 := same_of nz eH12
              have k12 := at_of eH12
              clear eH12
              have s1012 := s11.trans s12
              refine ⟨⟨z, _, ⟨_, _, rfl⟩, (sm.trans (s710.trans s11)).free nz, k12, ?_⟩, s710.trans s1012⟩
              rw [ft]
              exact (hzs.imp fun _ _ q => q.mono (s10.trans s1012)).append (hys.imp fun _ _ q => q.mono s12)
          · rintro σ H9 ⟨⟨L, zs, y, nL, kL, hzs⟩, s9⟩
            rw [hus.len, List.take_of_length_le (Nat.le_refl _)] at hzs
            exact ⟨⟨L, zs, y, nL, kL, hzs⟩, s9⟩
        · rintro σ H9 ⟨⟨L, zs, ⟨y5, y6, rfl⟩, nL, kL, hzs⟩, s9⟩
          refine ⟨_, rfl, ⟨L, zs, ⟨_, _, _, _, _, rfl⟩, nL, kL, ?_⟩, sm.trans s9⟩
          rw [rt]
          exact hzs
      · rintro σ H6 ⟨⟨G, us, y, nG, kG, hus⟩, sm⟩
        rw [lx, List.take_of_length_le (Nat.le_refl _)] at hus
        exact ⟨⟨G, us, y, nG, kG, hus⟩, sm⟩
    · rintro σ H6 ⟨⟨G, us, ⟨y2, y3, y4, y5, y6, rfl⟩, nG, kG, hus⟩, sm⟩
      exact ⟨_, rfl, fin H6 G us sm nG kG hus⟩
end
end K10
namespace CK
open PySem PySem.Spec PyProof.Rows L2 VG FR HD M9
def offU (ts : List (List Int)) (zs : List Int) (r : Line) : List Int := behT ts zs (r.1 : Int) (lineU r.2.1 r.2.2)
def keptF (ts : List (List Int)) : List Int → List Line → Bool
  | _, [] => true
  | zs, r :: rs => if smallU (offU ts zs r) then keptF ts (offU ts zs r) rs else false
def keptB (ts : List (List Int)) (rs : List Line) : Bool := keptF ts (List.replicate ts.length 0) rs
def endU (ts : List (List Int)) (rs : List Line) : List Int := rs.foldl (offU ts) (List.replicate ts.length 0)
theorem keptF_snoc (ts : List (List Int)) (r : Line) : ∀ (rs : List Line) (zs : List Int), keptF ts zs (rs ++ [r]) = (keptF ts zs rs && smallU (offU ts (rs.foldl (offU ts) zs) r))
  | [], zs => by
    show (if smallU (offU ts zs r) then true else false) = (true && smallU (offU ts zs r))
    cases smallU (offU ts zs r) <;> rfl
  | a :: rs, zs => by
    show (if smallU (offU ts zs a) then keptF ts (offU ts zs a) (rs ++ [r]) else false) = ((if smallU (offU ts zs a) then keptF ts (offU ts zs a) rs else false) && _)
    rw [List.foldl_cons]
    cases smallU (offU ts zs a) with
    | true =>
      rw [if_pos rfl, if_pos rfl]
      exact keptF_snoc ts r rs _
    | false => rfl
/-- what is kept is what of all roundings is kept -/
theorem step_eq (ts : List (List Int)) (l : Told) : ∀ F : List (List Line), stepK ts ((F.filter (keptB ts)).map fun rs => (rs, endU ts rs)) l = ((stepR F l).filter (keptB ts)).map fun rs => (rs, endU ts rs)
  | [] => rfl
  | rs :: F => by
    have ih := step_eq ts l F
    have e1 : stepR (rs :: F) l = dayR l rs ++ stepR F l := rfl
    rw [e1, List.filter_append, List.map_append, ← ih]
    have day : ∀ cs : List Int, ((cs.map fun n => rs ++ [(l.1, l.2, n)]).filter (keptB ts)).map (fun rs => (rs, endU ts rs)) = if keptB ts rs then cs.flatMap (oneK ts l (rs, endU ts rs)) else [] := by
      intro cs
      induction cs with
      | nil => cases keptB ts rs <;> rfl
      | cons n cs ih2 =>
        have ks : keptB ts (rs ++ [(l.1, l.2, n)]) = (keptB ts rs && smallU (offU ts (endU ts rs) (l.1, l.2, n))) := keptF_snoc ts _ rs _
        have es : endU ts (rs ++ [(l.1, l.2, n)]) = offU ts (endU ts rs) (l.1, l.2, n) := by
          unfold endU
          rw [List.foldl_append]
          rfl
        rw [List.map_cons, List.filter_cons, ks]
        cases hk : keptB ts rs with
        | false =>
          rw [hk] at ih2
          rw [Bool.false_and, if_neg Bool.false_ne_true, ih2, if_neg Bool.false_ne_true, if_neg Bool.false_ne_true]
        | true =>
          rw [hk, if_pos rfl] at ih2
          rw [Bool.true_and, if_pos rfl, List.flatMap_cons]
          unfold oneK
          cases hs : smallU (offU ts (endU ts rs) (l.1, l.2, n)) with
          | false =>
            have hs2 : smallU (behT ts (rs, endU ts rs).2 (l.1 : Int) (lineU l.2 n)) = false := hs
            rw [if_neg Bool.false_ne_true, hs2, if_neg Bool.false_ne_true, ih2]
            rfl
          | true =>
            have hs2 : smallU (behT ts (rs, endU ts rs).2 (l.1 : Int) (lineU l.2 n)) = true := hs
            rw [if_pos rfl, hs2, if_pos rfl, List.map_cons, ih2, es]
            rfl
    have d := day (choQ l.2)
    unfold dayR
    rw [d, List.filter_cons]
    cases keptB ts rs with
    | true => rfl
    | false => rfl
theorem run_eq (ts : List (List Int)) : ∀ (ls : List Told) (F : List (List Line)), ls.foldl (stepK ts) ((F.filter (keptB ts)).map fun rs => (rs, endU ts rs)) = ((ls.foldl stepR F).filter (keptB ts)).map fun rs => (rs, endU ts rs)
  | [], _ => rfl
  | l :: ls, F => by
    rw [List.foldl_cons, List.foldl_cons, step_eq]
    exact run_eq ts ls _
theorem kept_eq (ts : List (List Int)) (ls : List Told) : keptU ts ls = (rndU ls).filter (keptB ts) := by
  have q := run_eq ts ls [[]]
  have e : (([[]] : List (List Line)).filter (keptB ts)).map (fun rs => (rs, endU ts rs)) = [([], List.replicate ts.length 0)] := rfl
  rw [e] at q
  unfold keptU runK
  rw [q, List.map_map]
  exact List.map_id _
def wStep (W : Int) (r : Line) : Int := W * r.2.2 - r.2.1.1 * (W / r.2.1.2)
def offN (ts : List (List Int)) (W : Int) (os : List Int) (r : Line) : List Int := behT ts os (r.1 : Int) (wStep W r)
def smallI (W : Int) (os : List Int) : Bool := os.all fun e => decide (0 - W < e ∧ e < W)
def keptI (ts : List (List Int)) (W : Int) : List Int → List Line → Bool
  | _, [] => true
  | os, r :: rs => if smallI W (offN ts W os r) then keptI ts W (offN ts W os r) rs else false
def bots (rs : List Line) : Int := (rs.map fun r => r.2.1.2).foldl (· * ·) 1
theorem step_scale {W : Int} {r : Line} (h1 : r.2.1.2 ∣ W) (h2 : r.2.1.2 ∣ DL) (h0 : 0 < r.2.1.2) : wStep W r * DL = W * lineU r.2.1 r.2.2 := by
  unfold wStep lineU un
  obtain ⟨a, rfl⟩ := h1
  obtain ⟨b, hb⟩ := h2
  rw [hb, Int.mul_ediv_cancel_left _ (by omega), Int.mul_ediv_cancel_left _ (by omega)]
  simp only [Int.sub_mul, Int.mul_sub]
  have e1 : r.2.1.2 * a * r.2.2 * (r.2.1.2 * b) = r.2.1.2 * a * (r.2.2 * (r.2.1.2 * b)) := Int.mul_assoc _ _ _
  have e2 : r.2.1.1 * a * (r.2.1.2 * b) = r.2.1.2 * a * (r.2.1.1 * b) := by
    simp only [Int.mul_comm, Int.mul_left_comm, Int.mul_assoc]
  rw [e1, e2]
theorem beh_scale {W k s d : Int} (e : s * DL = W * d) : ∀ {ts : List (List Int)} {os zs : List Int}, os.map (· * DL) = zs.map (W * ·) → (behT ts os k s).map (· * DL) = (behT ts zs k d).map (W * ·)
  | [], _, _, _ => rfl
  | _ :: _, [], [], _ => rfl
  | _ :: _, [], _ :: _, h => by cases h
  | _ :: _, _ :: _, [], h => by cases h
  | c :: ts, o :: os, z :: zs, h => by
    rw [List.map_cons, List.map_cons] at h
    have h1 := List.head_eq_of_cons_eq h
    have h2 := List.tail_eq_of_cons_eq h
    have ih := beh_scale (ts := ts) (k := k) e h2
    have e1 : behT (c :: ts) (o :: os) k s = (if c.contains k then o + s else o) :: behT ts os k s := rfl
    have e2 : behT (c :: ts) (z :: zs) k d = (if c.contains k then z + d else z) :: behT ts zs k d := rfl
    rw [e1, e2, List.map_cons, List.map_cons, ih]
    have h1 : o * DL = W * z := h1
    congr 1
    cases c.contains k with
    | true =>
      show (o + s) * DL = W * (z + d)
      rw [Int.add_mul, Int.mul_add, h1, e]
    | false => exact h1
theorem small_scale {W : Int} (hW : 0 < W) {os zs : List Int} (h : os.map (· * DL) = zs.map (W * ·)) : smallI W os = smallU zs := by
  have e1 : smallI W os = (os.map (· * DL)).all fun x => decide (0 - W * DL < x ∧ x < W * DL) := by
    unfold smallI
    rw [List.all_map]
    congr 1
    funext x
    show decide (0 - W < x ∧ x < W) = decide (0 - W * DL < x * DL ∧ x * DL < W * DL)
    rw [decide_eq_decide]
    have a : 0 - W < x ↔ 0 - W * DL < x * DL := by
      have q := Int.mul_lt_mul_right (a := DL) (b := 0 - W) (c := x) DL_pos
      rw [Int.sub_mul, Int.zero_mul] at q
      exact q.symm
    have b : x < W ↔ x * DL < W * DL := (Int.mul_lt_mul_right DL_pos).symm
    rw [a, b]
  have e2 : smallU zs = (zs.map (W * ·)).all fun x => decide (0 - W * DL < x ∧ x < W * DL) := by
    unfold smallU
    rw [List.all_map]
    congr 1
    funext x
    show decide (-DL < x ∧ x < DL) = decide (0 - W * DL < W * x ∧ W * x < W * DL)
    rw [decide_eq_decide]
    have a : -DL < x ↔ 0 - W * DL < W * x := by
      have q := Int.mul_lt_mul_left (a := W) (b := -DL) (c := x) hW
      rw [Int.mul_neg] at q
      rw [Int.zero_sub]
      exact q.symm
    have b : x < DL ↔ W * x < W * DL := (Int.mul_lt_mul_left hW).symm
    rw [a, b]
  rw [e1, e2, h]
theorem kept_scale {ts : List (List Int)} {W : Int} (hW : 0 < W) : ∀ {rs : List Line} {os zs : List Int}, (∀ r ∈ rs, r.2.1.2 ∣ W ∧ r.2.1.2 ∣ DL ∧ 0 < r.2.1.2) → os.map (· * DL) = zs.map (W * ·) → keptI ts W os rs = keptF ts zs rs
  | [], _, _, _, _ => rfl
  | r :: rs, os, zs, h, e => by
    obtain ⟨h1, h2, h3⟩ := h r List.mem_cons_self
    have b : (offN ts W os r).map (· * DL) = (offU ts zs r).map (W * ·) := beh_scale (k := (r.1 : Int)) (step_scale h1 h2 h3) e
    have s := small_scale hW b
    have ih := kept_scale (ts := ts) hW (rs := rs) (fun x hx => h x (List.mem_cons_of_mem _ hx)) b
    show (if smallI W (offN ts W os r) then keptI ts W (offN ts W os r) rs else false) = (if smallU (offU ts zs r) then keptF ts (offU ts zs r) rs else false)
    rw [s, ih]
theorem bots_acc : ∀ (l : List Int) (a : Int), l.foldl (· * ·) a = a * l.foldl (· * ·) 1
  | [], a => (Int.mul_one a).symm
  | x :: l, a => by
    rw [List.foldl_cons, List.foldl_cons, bots_acc l (a * x), bots_acc l (1 * x), Int.one_mul, Int.mul_assoc]
theorem bots_dvd : ∀ (l : List Int) (x : Int), x ∈ l → x ∣ l.foldl (· * ·) 1
  | a :: l, x, h => by
    rw [List.foldl_cons, Int.one_mul, bots_acc]
    rcases List.mem_cons.mp h with e | h
    · rw [e]
      exact Int.dvd_mul_right _ _
    · exact Int.dvd_trans (bots_dvd l x h) (Int.dvd_mul_left _ _)
theorem bots_pos : ∀ l : List Int, (∀ x ∈ l, 0 < x ∧ x ≤ 6) → 0 < l.foldl (· * ·) 1 ∧ l.foldl (· * ·) 1 ≤ 6 ^ l.length
  | [], _ => ⟨by decide, by decide⟩
  | a :: l, h => by
    have ih := bots_pos l fun x hx => h x (List.mem_cons_of_mem _ hx)
    obtain ⟨a0, a6⟩ := h a List.mem_cons_self
    rw [List.foldl_cons, Int.one_mul, bots_acc, List.length_cons]
    refine ⟨Int.mul_pos a0 ih.1, ?_⟩
    have := Int.mul_le_mul a6 ih.2 (Int.le_of_lt ih.1) (by decide)
    rw [Int.pow_succ, Int.mul_comm ((6 : Int) ^ l.length)]
    exact this
/-- a line of a small amount, rounded -/
structure RowS (m : Nat) (r : Line) : Prop where
  kind : r.1 < m
  amt : AmtS r.2.1
  whole : r.2.2 ∈ choQ r.2.1
theorem RowS.ok {m : Nat} {r : Line} (h : RowS m r) : LineOk m r := line_of h.kind h.amt.ok h.whole
structure TdS (m : Nat) (l : Told) : Prop where
  kind : l.1 < m
  amt : AmtS l.2
theorem rnd_rows {m : Nat} : ∀ (ls : List Told) (F : List (List Line)), (∀ l ∈ ls, TdS m l) → (∀ rs ∈ F, ∀ r ∈ rs, RowS m r) → ∀ rs ∈ ls.foldl stepR F, ∀ r ∈ rs, RowS m r
  | [], _, _, h => h
  | l :: ls, F, hl, h => by
    refine rnd_rows ls (stepR F l) (fun x hx => hl x (List.mem_cons_of_mem _ hx)) fun rs hr r hm => ?_
    obtain ⟨r0, h0, hr⟩ := List.mem_flatMap.mp hr
    obtain ⟨z, hz, rfl⟩ := List.mem_map.mp hr
    rcases List.mem_append.mp hm with q | q
    · exact h r0 h0 r q
    · rw [List.mem_singleton.mp q]
      have := hl l List.mem_cons_self
      exact ⟨this.kind, this.amt, hz⟩
theorem rndU_rows {m : Nat} {ls : List Told} (h : ∀ l ∈ ls, TdS m l) : ∀ rs ∈ rndU ls, ∀ r ∈ rs, RowS m r := rnd_rows ls [[]] h fun rs hr r hm => by
  rw [List.mem_singleton.mp hr] at hm
  cases hm
def spLawKept (K : PySem.W.Frag) : Sp := fun vs H Q _ => ∃ (t d : Addr) (m : Nat) (ts : List (List Int)) (rs : List Line), vs = [.ref t, .ref d] ∧ TotsIn K H t m ts ∧ DayT K H d rs ∧ (∀ r ∈ rs, RowS m r) ∧ rs.length ≤ 12 ∧ ∀ H', Same H H' → Q (.bl (keptB ts rs)) H'
end CK
namespace CK
open PySem PySem.Spec PyProof.Rows L2 VG FR HD M9
theorem bots_take {rs : List Line} {i : Nat} {r : Line} (h : rs[i]? = some r) : bots (rs.take (i + 1)) = bots (rs.take i) * r.2.1.2 := by
  unfold bots
  rw [List.take_add_one, h, List.map_append, List.foldl_append]
  rfl
theorem bots_lt {m : Nat} {rs : List Line} (h : ∀ r ∈ rs, RowS m r) (l : rs.length ≤ 12) : 0 < bots rs ∧ bots rs < 2 ^ 40 := by
  have q := bots_pos (rs.map fun r => r.2.1.2) fun x hx => by
    obtain ⟨r, hr, rfl⟩ := List.mem_map.mp hx
    exact ⟨(h r hr).amt.ok.low.1, (h r hr).amt.bot⟩
  rw [List.length_map] at q
  have e : (6 : Int) ^ rs.length ≤ 6 ^ 12 := by
    have := Nat.pow_le_pow_right (show 0 < 6 by decide) l
    have c : ∀ n : Nat, ((6 : Int) ^ n) = ((6 ^ n : Nat) : Int) := fun n => by simp
    rw [c, c]
    exact Int.ofNat_le.mpr this
  have e2 : (6 : Int) ^ 12 < 2 ^ 40 := by decide
  exact ⟨q.1, Int.lt_of_le_of_lt (Int.le_trans q.2 e) e2⟩
theorem beh_get {ts : List (List Int)} {os : List Int} {i : Nat} {c : List Int} {x k s : Int} (h1 : ts[i]? = some c) (h2 : os[i]? = some x) : (behT ts os k s)[i]? = some (if c.contains k then x + s else x) := by
  unfold behT
  rw [List.getElem?_map, (List.getElem?_zip_eq_some (z := (c, x))).mpr ⟨h1, h2⟩]
  rfl
end CK
namespace K10
open PySem PySem.Spec PyProof.Rows L2 VG FR CK HD M9
abbrev s__law_kept : Stmt := topS 62
abbrev N__law_kept : List Str := ["totals", "day", "whole", "off", "kind", "amount", "rounded", "step", "total", "at", "one"]
theorem sc__law_kept : FnScope N__law_kept ["totals", "day"] (defScope s__law_kept) := ⟨rfl, rfl, rfl, by decide +kernel, rfl, by decide +kernel, by decide +kernel⟩
section
variable {P : Program} {w : World} {K : PySem.W.Frag} {mg : Str → Option Value} {base : Heap}
theorem ok__law_kept {f : Addr} {fd : FuncData} (F : Fun K "_law_kept" "_law_kept" s__law_kept f fd) (z_int : mg "int" = none) (z_range : mg "range" = none) (z_len : mg "len" = none) (z_all : mg "all" = none) :
    FnOk P w K mg base CX0 1 f fd ["totals", "day"] (spLawKept K) := by
  refine F.ok sc__law_kept (fun vs H Q E h => ?_) (fun cdv A outer s H vs Q E hr h => ?_)
  · obtain ⟨_, _, _, _, _, rfl, _⟩ := h
    rfl
  · obtain ⟨t, d, m, ts, rs, rfl, ⟨xs, hS, hT, lt, lots⟩, ⟨dxs, hD, hL⟩, ho, l12, fin⟩ := h
    refine ⟨_, (pss_cons (ps_asg (pe_tup (pa_cons pe_int (pa_cons (pe_lc (own := [("total", 8)]) (by rfl) sc__law_kept.nd (pi_tup (pv 0)) (blkOk_by (own := [("total", 8)]) (N := N__law_kept) (sc := defScope s__law_kept) (by decide +kernel)) (fun _ _ _ _ _ => (pg_name (i := 8) sc__law_kept.nd rfl (.inl rfl))) (fun _ _ _ _ _ => pts_nil) (fun _ _ _ _ _ => pe_int)) pa_nil))) (pg_tup rfl (pgs_cons (pg_name (i := 2) sc__law_kept.nd rfl (.inr rfl)) (pgs_cons (pg_name (i := 3) sc__law_kept.nd rfl (.inr rfl)) pgs_nil))))
    (pss_cut (ps_for PassesOwn.never rfl (pi_tup (pv 1)) (pg_tup rfl (pgs_cons (pg_name (i := 4) sc__law_kept.nd rfl (.inr rfl)) (pgs_cons (pg_name (i := 5) sc__law_kept.nd rfl (.inl rfl)) (pgs_cons (pg_name (i := 6) sc__law_kept.nd rfl (.inl rfl)) pgs_nil))))
      (pss_one (ps_set (i := 2) sc__law_kept.nd rfl (.inr rfl) (pe_op op_mulW (pv 2) (pe_ix ix_tup (pv 5) pe_int (fun _ _ => rfl))))))
    (pss_cut (ps_for PassesOwn.never rfl (pi_tup (pv 1)) (pg_tup rfl (pgs_cons (pg_name (i := 4) sc__law_kept.nd rfl (.inr rfl)) (pgs_cons (pg_name (i := 5) sc__law_kept.nd rfl (.inl rfl)) (pgs_cons (pg_name (i := 6) sc__law_kept.nd rfl (.inl rfl)) pgs_nil))))
      (pss_cons (ps_set (i := 7) sc__law_kept.nd rfl (.inr rfl) (pe_op op_sub (pe_op op_mulW (pv 2) (pv 6)) (pe_op op_mulW (pe_ix ix_tup (pv 5) pe_int (fun _ _ => rfl)) (pe_callTy call_int1 (by rfl) z_int (by decide +kernel) (pa_cons (pe_op op_fdivW (pv 2) (pe_ix ix_tup (pv 5) pe_int (fun _ _ => rfl))) pa_nil)))))
      (pss_cons (ps_set (i := 3) sc__law_kept.nd rfl (.inr rfl) (pe_lc (own := [("at", 9)]) (by rfl) sc__law_kept.nd (pi_range1 (by rfl) z_range (pa_cons (pe_callB call_len_seq (by rfl) z_len (by decide +kernel) (pa_cons (pv 0) pa_nil)) pa_nil)) (blkOk_by (own := [("at", 9)]) (N := N__law_kept) (sc := defScope s__law_kept) (by decide +kernel)) (fun _ _ _ _ _ => (pg_name (i := 9) sc__law_kept.nd rfl (.inl rfl))) (fun _ _ _ _ _ => pts_nil) (fun _ _ _ _ _ => (pe_op op_add (pe_ix (show IxR _ (rIxL K) from ix_list) (pv 3) (pv 9) (fun _ _ => rfl)) (pe_ifExp (pt_cmpR (show OpR _ (compareOp .In) (rIn K false) from op_in_seq) (pv 4) (pe_ix (show IxR _ (rIxT K) from ix_tup) (pv 0) (pv 9) (fun _ _ => rfl)) rfl) (pv 7) pe_int)))))
      (pss_one (ps_if (pt_not (pt_val (pe_callB (cr_all rfl) (by rfl) z_all (by decide +kernel) (pa_cons (pe_lc (own := [("one", 10)]) (by rfl) sc__law_kept.nd (pi_list (pv 3)) (blkOk_by (own := [("one", 10)]) (N := N__law_kept) (sc := defScope s__law_kept) (by decide +kernel)) (fun _ _ _ _ _ => (pg_name (i := 10) sc__law_kept.nd rfl (.inl rfl))) (fun _ _ _ _ _ => pts_nil) (fun _ _ _ _ _ => (pe_chain op_lt op_lt (pe_op op_sub pe_int (pv 2)) (pv 10) (pv 2)))) pa_nil))))
        (pss_one (ps_ret pe_bl))
        pss_nil)))))
    (pss_one (ps_ret pe_bl))))), ?_⟩
    have big : sizeLine = 16777216 := by decide
    have lx := hT.len
    have ld := hL.len
    refine ⟨_, rfl, t, rfl, ⟨_, hS⟩, fun O nO => ?_⟩
    refine lc_it (walk_tup (K := K) (a := t) (xs := xs)) (fun i H' => Same H H' ∧ H' O = some (.lst ((List.replicate i (0 : Int)).map V.int))) ⟨same_upd nO, upd_same⟩ (fun i H' _ h => seqT h.1 hS) ?_ ?_
    · rintro i v H1 H2 hi ⟨sm, hO⟩ ⟨e2, ex⟩
      subst e2
      refine ⟨rfl, _, hO, ?_, HD.same_put sm nO, ?_⟩
      · rw [List.length_map, List.length_replicate]
        omega
      · rw [upd_same, List.replicate_succ', List.map_append]
        rfl
    · rintro H1 ⟨s1, kO⟩
      rw [lx] at kO
      refine ⟨by show 2 ≤ sizeLine; decide, fun T0 nT0 => ?_⟩
      generalize eH2 : L2.upd H1 T0 _ = H2
      have s2 := same_of nT0 eH2
      have k2 := at_of eH2
      clear eH2
      have s02 := s1.trans s2
      have kO2 := s2 _ _ kO
      refine ⟨T0, _, rfl, .inl (.inl k2), rfl, _, _, rfl, _, _, rfl, rfl, ?_⟩
      have hD2 := seqT s02 hD
      refine ⟨fun σ H' => (∃ y4 y5 y6 y7 y8 y9 y10 : Option V, σ = [some (.ref t), some (.ref d), some (.int (bots rs)), some (.ref O), y4, y5, y6, y7, y8, y9, y10]) ∧ H' = H2, ?_, ?_⟩
      · refine ⟨_, rfl, d, rfl, ⟨_, hD2⟩, ?_⟩
        refine for_it (walk_tup (K := K) (a := d) (xs := dxs)) (fun i σ H' => (∃ y4 y5 y6 y7 y8 y9 y10 : Option V, σ = [some (.ref t), some (.ref d), some (.int (bots (rs.take i))), some (.ref O), y4, y5, y6, y7, y8, y9, y10]) ∧ H' = H2) ⟨⟨_, _, _, _, _, _, _, rfl⟩, rfl⟩ (fun i σ H' _ h => by rw [h.2]; exact hD2) ?_ ?_
        · rintro i v σ H3 H4 hi ⟨⟨y4, y5, y6, y7, y8, y9, y10, rfl⟩, e3⟩ ⟨rfl, ex⟩
          subst e3
          obtain ⟨r, er, t1, q, rfl, h1, h2⟩ := hL.get ex
          have hrs := ho r (List.mem_of_getElem? er)
          have bl := bots_lt (rs := rs.take i) (fun x hx => ho x (List.mem_of_mem_take hx)) (by rw [List.length_take]; omega)
          have b6 := hrs.amt.bot
          have b0 := hrs.amt.ok.low.1
          have eb := bots_take er
          generalize bots (rs.take (i + 1)) = B2 at eb ⊢
          subst eb
          refine ⟨t1, _, rfl, seqT s02 h1, rfl, _, _, rfl, _, _, rfl, _, _, rfl, rfl, ?_⟩
          refine ⟨_, rfl, _, rfl, q, _, _, _, rfl, rfl, seqT s02 h2, at1 _ _, _, _, rfl, rfl, mulW (up (n := 40) (by omega) (by decide)) (up (n := 40) (by omega) (by decide)), ?_⟩
          exact ⟨⟨_, _, _, _, _, _, _, rfl⟩, rfl⟩
        · rintro σ H3 ⟨⟨y4, y5, y6, y7, y8, y9, y10, rfl⟩, e3⟩
          rw [ld, List.take_of_length_le (Nat.le_refl _)]
          exact ⟨⟨_, _, _, _, _, _, _, rfl⟩, e3⟩
      · rintro σ H3 ⟨⟨y4, y5, y6, y7, y8, y9, y10, rfl⟩, rfl⟩
        have hW := bots_lt ho l12
        have sc := kept_scale (ts := ts) hW.1 (rs := rs) (os := List.replicate ts.length 0) (zs := List.replicate ts.length 0) (fun r hr => ⟨bots_dvd _ _ (List.mem_map_of_mem hr), (ho r hr).amt.ok.dvd, (ho r hr).amt.ok.low.1⟩) (by rw [List.map_replicate, List.map_replicate, Int.zero_mul, Int.mul_zero])
        have sc2 : keptI ts (bots rs) (List.replicate ts.length 0) rs = keptB ts rs := sc
        generalize bots rs = W at hW sc sc2 ⊢
        have fin2 : ∀ H', Same H3 H' → Q (.bl (keptI ts W (List.replicate ts.length 0) rs)) H' := fun H' s => by
          rw [sc2]
          exact fin H' (s02.trans s)
        have hD3 := seqT s02 hD
        have hS3 := seqT s02 hS
        refine ⟨fun σ H' => Same H3 H' ∧ keptI ts W (List.replicate ts.length 0) rs = true, ?_, ?_⟩
        · refine ⟨_, rfl, d, rfl, ⟨_, hD3⟩, ?_⟩
          refine for_it (walk_tup (K := K) (a := d) (xs := dxs)) (fun i σ H' => (∃ (O : Addr) (os : List Int), (∃ y4 y5 y6 y7 y8 y9 y10 : Option V, σ = [some (.ref t), some (.ref d), some (.int W), some (.ref O), y4, y5, y6, y7, y8, y9, y10]) ∧ H' O = some (.lst (os.map V.int)) ∧ os.length = ts.length ∧ (∀ o ∈ os, o.natAbs < 2 ^ 40) ∧ keptI ts W (List.replicate ts.length 0) rs = keptI ts W os (rs.drop i)) ∧ Same H3 H')
            ⟨⟨O, _, ⟨_, _, _, _, _, _, _, rfl⟩, kO2, List.length_replicate, fun o ho => by rw [List.eq_of_mem_replicate ho]; decide, rfl⟩, Same.refl _⟩ (fun i σ H' _ h => seqT h.2 hD3) ?_ ?_
          · clear kO2 k2 kO
            rintro i v σ H4 H5 hi ⟨⟨O, os, ⟨y4, y5, y6, y7, y8, y9, y10, rfl⟩, kO, lo, near, ek⟩, s4⟩ ⟨rfl, ex⟩
            obtain ⟨r, er, t1, q, rfl, h1, h2⟩ := hL.get ex
            have hrs := ho r (List.mem_of_getElem? er)
            have dr : rs.drop i = r :: rs.drop (i + 1) := by
              obtain ⟨hi2, e⟩ := List.getElem?_eq_some_iff.mp er
              rw [List.drop_eq_getElem_cons hi2, e]
            have ek2 : keptI ts W (List.replicate ts.length 0) rs = if smallI W (offN ts W os r) then keptI ts W (offN ts W os r) (rs.drop (i + 1)) else false := by rw [ek, dr]; rfl
            have b6 := hrs.amt.bot
            have b0 := hrs.amt.ok.low.1
            have bt := hrs.amt.top
            have wl := hrs.ok.whole
            have hq := seqT (s02.trans s4) h2
            have dl : (W / r.2.1.2).natAbs < 2 ^ 40 := Nat.lt_of_le_of_lt (M2.natAbs_div_le W b0) (by omega)
            refine ⟨t1, _, rfl, seqT (s02.trans s4) h1, rfl, _, _, rfl, _, _, rfl, _, _, rfl, rfl, ?_⟩
            refine ⟨_, rfl, _, rfl, _, _, rfl, rfl, mulW (up (n := 40) (by omega) (by decide)) (up (n := 40) (by omega) (by decide)), ?_⟩
            refine ⟨_, rfl, q, _, _, _, rfl, rfl, hq, at0 _ _, _, rfl, _, rfl, q, _, _, _, rfl, rfl, hq, at1 _ _, _, _, rfl, rfl, wide_div b0 (b := 40) (by omega) (by decide) (by decide), .inl ⟨_, rfl, ?_⟩⟩
            refine ⟨_, _, rfl, rfl, mulW (up (n := 40) (by omega) (by decide)) (up (n := 40) dl (by decide)), _, _, rfl, rfl, ?_⟩
            have sl : (wStep W r).natAbs < 2 ^ 90 := by
              have a1 : (W * r.2.2).natAbs ≤ 2 ^ 40 * 1000001 := by
                rw [Int.natAbs_mul]
                exact Nat.mul_le_mul (by omega) wl
              have a2 : (r.2.1.1 * (W / r.2.1.2)).natAbs ≤ 40 * 2 ^ 40 := by
                rw [Int.natAbs_mul]
                exact Nat.mul_le_mul bt (Nat.le_of_lt dl)
              unfold wStep
              omega
            refine ⟨_, rfl, t, xs, rfl, .inr (seqT s4 hS3), _, rfl, by omega, by omega, fun D nD => ?_⟩
            refine lc_it (walk_range (lo := 0) (n := ((xs.length : Nat) : Int).toNat)) (fun j H' => Same H5 H' ∧ H' D = some (.lst (((offN ts W os r).take j).map V.int))) ⟨same_upd nD, upd_same⟩ (fun _ _ _ _ => trivial) ?_ ?_
            · rintro j v H6 H7 hj ⟨s6, kD⟩ ⟨rfl, rfl⟩
              have hj2 : j < xs.length := by have : j < ((xs.length : Nat) : Int).toNat := hj; omega
              obtain ⟨v, ev⟩ : ∃ v, xs[j]? = some v := ⟨_, List.getElem?_eq_getElem hj2⟩
              obtain ⟨tt, c, rfl, ec, htt⟩ := hT.get ev
              obtain ⟨x, ox⟩ : ∃ x, os[j]? = some x := ⟨_, List.getElem?_eq_getElem (by omega)⟩
              have ixx : atI xs ((0 : Int) + (j : Nat)) = some (.ref tt) := by rw [Int.zero_add]; exact atI_nat ev
              have ixo : atI (os.map V.int) ((0 : Int) + (j : Nat)) = some (.int x) := by rw [Int.zero_add]; exact atI_nat (by rw [List.getElem?_map, ox]; rfl)
              have bg := beh_get (k := (r.1 : Int)) (s := wStep W r) ec ox
              have bg2 : (offN ts W os r)[j]? = some (if c.contains (r.1 : Int) then x + wStep W r else x) := bg
              have fl : (((offN ts W os r).take j).map V.int).length < sizeLine := by
                rw [List.length_map, List.length_take]
                omega
              refine ⟨rfl, _, rfl, _, rfl, O, _, _, _, rfl, rfl, .inl (.inl (s6 _ _ kO)), ixo, ?_⟩
              refine ⟨_, rfl, _, rfl, _, rfl, t, _, _, _, rfl, rfl, seqT (s4.trans s6) hS3, ixx, tt, c.map V.int, rfl, .inr (seqT (s02.trans (s4.trans s6)) htt), rfl, flat_ints c, _, rfl, ?_⟩
              rw [inV_ints]
              have endj : ∀ z : Int, (if c.contains (r.1 : Int) then x + wStep W r else x) = z → (L2.upd H7 D (.lst (((offN ts W os r).take j).map V.int ++ [V.int z]))) D = some (.lst (((offN ts W os r).take (j + 1)).map V.int)) := fun z ez => by
                rw [upd_same, List.take_add_one, bg2, ez, List.map_append]
                rfl
              cases hc : c.contains (r.1 : Int) with
              | true => exact iteT ⟨_, rfl, _, _, rfl, rfl, _, kD, fl, HD.same_put s6 nD, endj _ (by rw [hc]; rfl)⟩
              | false => exact iteF ⟨_, _, rfl, rfl, _, kD, fl, HD.same_put s6 nD, endj (x + 0) (by rw [hc, Int.add_zero]; rfl)⟩
            · rintro H6 ⟨s6, kD⟩
              have lof : (offN ts W os r).length = ts.length := behT_len lo
              rw [List.take_of_length_le (by have : ((xs.length : Nat) : Int).toNat = xs.length := Int.toNat_natCast _; omega)] at kD
              have sD : SqL K H6 D ((offN ts W os r).map V.int) := .inl (.inl kD)
              refine ⟨_, rfl, D, rfl, ⟨_, sD⟩, fun B nB => ?_⟩
              refine lc_it (walk_list (K := K) (a := D) (xs := (offN ts W os r).map V.int)) (fun j H' => Same H6 H' ∧ H' B = some (.lst ((((offN ts W os r).take j).map fun e => decide (0 - W < e ∧ e < W)).map V.bl))) ⟨same_upd nB, upd_same⟩ (fun j H' _ h => .inl (.inl (h.1 _ _ kD))) ?_ ?_
              · rintro j v H7 H8 hj ⟨s7, kB⟩ ⟨e2, ex⟩
                subst e2
                rw [List.getElem?_map] at ex
                obtain ⟨x, ox, rfl⟩ := Option.map_eq_some_iff.mp ex
                have fl : ((((offN ts W os r).take j).map fun e => decide (0 - W < e ∧ e < W)).map V.bl).length < sizeLine := by
                  rw [List.length_map, List.length_map, List.length_take]
                  omega
                have endj : ∀ b : Bool, decide (0 - W < x ∧ x < W) = b → (L2.upd H8 B (.lst ((((offN ts W os r).take j).map fun e => decide (0 - W < e ∧ e < W)).map V.bl ++ [V.bl b]))) B = some (.lst ((((offN ts W os r).take (j + 1)).map fun e => decide (0 - W < e ∧ e < W)).map V.bl)) := fun b eb => by
                  rw [upd_same, List.take_add_one, ox, List.map_append, List.map_append, ← eb]
                  rfl
                refine ⟨rfl, _, rfl, _, _, rfl, rfl, _, rfl, _, _, rfl, rfl, _, rfl, ite2 (fun z => ?_) (fun z => ?_)⟩
                · have z1 : 0 - W < x := of_decide_eq_true z
                  refine ⟨_, rfl, _, _, rfl, rfl, _, kB, fl, HD.same_put s7 nB, endj (decide (x < W)) ?_⟩
                  rw [decide_eq_decide]
                  exact ⟨fun q => q.2, fun q => ⟨z1, q⟩⟩
                · have z1 : ¬ 0 - W < x := fun q => z (decide_eq_true q)
                  exact ⟨_, kB, fl, HD.same_put s7 nB, endj false (decide_eq_false fun q => z1 q.1)⟩
              · rintro H7 ⟨s7, kB⟩
                rw [List.length_map, List.take_of_length_le (Nat.le_refl _)] at kB
                refine ⟨B, _, rfl, .inl (.inl kB), ?_⟩
                have e1 : ((offN ts W os r).map fun e => decide (0 - W < e ∧ e < W)).all id = smallI W (offN ts W os r) := by
                  rw [List.all_map]
                  rfl
                rw [e1]
                have s57 := s6.trans s7
                cases hs : smallI W (offN ts W os r) with
                | true =>
                  rw [hs, if_pos rfl] at ek2
                  have nr : ∀ o ∈ offN ts W os r, o.natAbs < 2 ^ 40 := fun o ho => by
                    have := of_decide_eq_true (List.all_eq_true.mp hs o ho)
                    omega
                  exact ⟨_, rfl, iteF ⟨⟨D, _, ⟨_, _, _, _, _, _, _, rfl⟩, s7 _ _ kD, lof, nr, ek2⟩, s4.trans s57⟩⟩
                | false =>
                  rw [hs, if_neg Bool.false_ne_true] at ek2
                  refine ⟨_, rfl, iteT ?_⟩
                  have q := fin2 H7 (s4.trans s57)
                  rw [ek2] at q
                  exact q
          · rintro σ H4 ⟨⟨O, os, y, kO, lo, near, ek⟩, s4⟩
            rw [ld, List.drop_length] at ek
            exact ⟨s4, ek⟩
        · rintro σ H4 ⟨s4, ek⟩
          have q := fin2 H4 s4
          rw [ek] at q
          exact q
end
end K10
namespace VG
open PySem PySem.Spec PyProof.Rows L2
section
variable {X : Cx}
/-- in, of a tuple of data -/
def rInT (K : PySem.W.Frag) : R2 := fun x y H Q => ∃ d ds, Dp K H x d ∧ Dp K H y (.tuple ds) ∧ SeqAt.shaped d = true ∧ SeqAt.shaped (.tuple ds) = true ∧ Q (.bl (ds.any fun z => PyData.eqv z d)) H
theorem op_inT (hu : X.A.units + 65 < cLine) : OpR X (compareOp .In) (rInT X.K) := by
  intro pins s σ H x y v u Q I rx ry h
  obtain ⟨d, ds, hd, he, sd, se, q⟩ := h
  obtain ⟨as, r1⟩ := Dp.reads I d x v hd rx
  obtain ⟨bs, r2⟩ := Dp.reads I (.tuple ds) y u he ry
  exact SeqAt.in_tuple_reads r2 r1 (SeqAt.canLay_of_shaped se) (SeqAt.canLay_of_shaped sd) (room_in_shaped sd hu) ⟨.bl _, H, I, rfl, q⟩
end
end VG
namespace CK
open PySem PySem.Spec PyProof.Rows L2 VG FR HD M9
def dayP (rs : List Line) : PyData := .tuple (rs.map lineP)
def daysP (ds : List (List Line)) : PyData := .tuple (ds.map dayP)
theorem ov_day {K : PySem.W.Frag} {H : Hp} {d : Addr} {rs : List Line} (h : DayT K H d rs) : Ov K H (.ref d) (dayP rs) := by
  obtain ⟨xs, h1, h2⟩ := h
  exact .tup h1 (lines_ov2 h2)
theorem ov_dayv {K : PySem.W.Frag} {H : Hp} : ∀ {vs : List V} {ds : List (List Line)}, LR (DayV K H) vs ds → OvAll K H vs (ds.map dayP)
  | [], [], _ => .nil
  | _ :: _, _ :: _, ⟨⟨d, e, h⟩, r⟩ => by
    subst e
    exact .cons (ov_day h) (ov_dayv r)
  | [], _ :: _, h => h.elim
  | _ :: _, [], h => h.elim
theorem ov_days {K : PySem.W.Frag} {H : Hp} {a : Addr} {ds : List (List Line)} (h : DaysT K H a ds) : Ov K H (.ref a) (daysP ds) := by
  obtain ⟨xs, h1, h2⟩ := h
  exact .tup h1 (ov_dayv h2)
theorem dp_line {K : PySem.W.Frag} {H : Hp} {v : V} {r : Line} (h : LineAt K H v r) : Dp K H v (lineP r) := by
  obtain ⟨t, s, e, h1, h2⟩ := h
  subst e
  exact .tup h1 (.cons (.int _) (.cons (.tup h2 (.cons (.int _) (.cons (.int _) .nil))) (.cons (.int _) .nil)))
theorem dp_lines {K : PySem.W.Frag} {H : Hp} : ∀ {vs : List V} {rs : List Line}, Lines K H vs rs → DpAll K H vs (rs.map lineP)
  | [], [], _ => .nil
  | _ :: _, _ :: _, ⟨h, r⟩ => .cons (dp_line h) (dp_lines r)
  | [], _ :: _, h => h.elim
  | _ :: _, [], h => h.elim
theorem dp_day {K : PySem.W.Frag} {H : Hp} {d : Addr} {rs : List Line} (h : DayT K H d rs) : Dp K H (.ref d) (dayP rs) := by
  obtain ⟨xs, h1, h2⟩ := h
  exact .tup h1 (dp_lines h2)
theorem dp_dayv {K : PySem.W.Frag} {H : Hp} : ∀ {vs : List V} {ds : List (List Line)}, LR (DayV K H) vs ds → DpAll K H vs (ds.map dayP)
  | [], [], _ => .nil
  | _ :: _, _ :: _, ⟨⟨d, e, h⟩, r⟩ => by
    subst e
    exact .cons (dp_day h) (dp_dayv r)
  | [], _ :: _, h => h.elim
  | _ :: _, [], h => h.elim
theorem dp_days {K : PySem.W.Frag} {H : Hp} {a : Addr} {ds : List (List Line)} (h : DaysT K H a ds) : Dp K H (.ref a) (daysP ds) := by
  obtain ⟨xs, h1, h2⟩ := h
  exact .tup h1 (dp_dayv h2)
theorem lay_map {α : Type} {f : α → PyData} {k : Nat} (h : ∀ x, (f x).canLay0 = true ∧ (f x).depth ≤ k) : ∀ l : List α, PyData.canLayAll0 (l.map f) = true ∧ PyData.depthAll (l.map f) ≤ k
  | [] => ⟨by simp [PyData.canLayAll0], by simp [PyData.depthAll]⟩
  | x :: l => by
    have ⟨a, b⟩ := h x
    have ⟨c, d⟩ := lay_map h l
    refine ⟨?_, ?_⟩
    · rw [List.map_cons, PyData.canLayAll0, a, c]
      rfl
    · rw [List.map_cons, PyData.depthAll]
      omega
theorem lay_line (r : Line) : (lineP r).canLay0 = true ∧ (lineP r).depth ≤ 2 := by
  refine ⟨?_, ?_⟩
  · simp [lineP, dQ, PyData.canLay0, PyData.canLayAll0]
  · simp [lineP, dQ, PyData.depth, PyData.depthAll]
theorem lay_day (rs : List Line) : (dayP rs).canLay0 = true ∧ (dayP rs).depth ≤ 3 := by
  have ⟨a, b⟩ := lay_map lay_line rs
  refine ⟨?_, ?_⟩
  · unfold dayP
    rw [PyData.canLay0]
    exact a
  · unfold dayP
    rw [PyData.depth]
    omega
theorem lay_days (ds : List (List Line)) : (daysP ds).canLay0 = true ∧ (daysP ds).depth ≤ 4 := by
  have ⟨a, b⟩ := lay_map lay_day ds
  refine ⟨?_, ?_⟩
  · unfold daysP
    rw [PyData.canLay0]
    exact a
  · unfold daysP
    rw [PyData.depth]
    omega
theorem shaped_day (rs : List Line) : SeqAt.shaped (dayP rs) = true := by
  have ⟨a, b⟩ := lay_day rs
  unfold SeqAt.shaped
  rw [a, Bool.true_and]
  exact decide_eq_true (by omega)
theorem shaped_days (ds : List (List Line)) : SeqAt.shaped (daysP ds) = true := by
  have ⟨a, b⟩ := lay_days ds
  unfold SeqAt.shaped
  rw [a, Bool.true_and]
  exact decide_eq_true (by omega)
theorem eqv_map {α : Type} [DecidableEq α] {f : α → PyData} (h : ∀ x y, PyData.eqv (f x) (f y) = decide (x = y)) : ∀ l m : List α, PyData.eqvAll (l.map f) (m.map f) = decide (l = m)
  | [], [] => by simp [PyData.eqvAll]
  | [], y :: m => by simp [PyData.eqvAll]
  | x :: l, [] => by simp [PyData.eqvAll]
  | x :: l, y :: m => by
    rw [List.map_cons, List.map_cons, PyData.eqvAll, h, eqv_map h l m, Bool.eq_iff_iff, Bool.and_eq_true, decide_eq_true_iff, decide_eq_true_iff, decide_eq_true_iff, List.cons.injEq]
theorem eqv_line (r s : Line) : PyData.eqv (lineP r) (lineP s) = decide (r = s) := by
  obtain ⟨k, ⟨a, b⟩, n⟩ := r
  obtain ⟨k', ⟨a', b'⟩, n'⟩ := s
  rw [Bool.eq_iff_iff, decide_eq_true_iff]
  simp only [lineP, dQ, PyData.eqv, PyData.eqvAll, Bool.and_eq_true, beq_iff_eq, Bool.and_true, Prod.mk.injEq, Int.ofNat_inj]
theorem eqv_day (rs ss : List Line) : PyData.eqv (dayP rs) (dayP ss) = decide (rs = ss) := by
  unfold dayP
  rw [PyData.eqv]
  exact eqv_map eqv_line rs ss
theorem eqv_days (ds es : List (List Line)) : PyData.eqv (daysP ds) (daysP es) = decide (ds = es) := by
  unfold daysP
  rw [PyData.eqv]
  exact eqv_map eqv_day ds es
theorem any_day (ds : List (List Line)) (rs : List Line) : ((ds.map dayP).any fun z => PyData.eqv z (dayP rs)) = decide (rs ∈ ds) := by
  rw [List.any_map, Bool.eq_iff_iff, List.any_eq_true, decide_eq_true_iff]
  constructor
  · rintro ⟨x, hx, e⟩
    have e : PyData.eqv (dayP x) (dayP rs) = true := e
    rw [eqv_day] at e
    rw [← of_decide_eq_true e]
    exact hx
  · intro h
    refine ⟨rs, h, ?_⟩
    show PyData.eqv (dayP rs) (dayP rs) = true
    rw [eqv_day]
    exact decide_eq_true rfl
theorem sho_days {m : Nat} {ds : List (List Line)} (h : ∀ rs ∈ ds, (∀ r ∈ rs, LineOk m r) ∧ rs.length ≤ 12) (hm : m ≤ 12) (l : ds.length ≤ 64) : ShO 60 16000000 (daysP ds) := by
  refine (shO_tup (k := 5) (B := 36026) (n := 64) (fun x hx => ?_) (by rw [List.length_map]; exact l)).mono (by decide) (by decide)
  obtain ⟨rs, hr, rfl⟩ := List.mem_map.mp hx
  have q := h rs hr
  exact (shO_tup (k := 4) (B := 3000) (n := 12) (fun x hx => (lines_iv q.1 hm x hx).1) (by rw [List.length_map]; exact q.2)).mono (by decide) (by decide)
theorem okFr_of {a b : Int} (h : M2.Low a b) : okFr (some a) (some b) = true := by
  show (decide (0 < b) && decide (M2.g a b = 1)) = true
  rw [decide_eq_true h.1, decide_eq_true h.2]
  rfl
theorem line_good {m : Nat} {r : Line} (h : RowS m r) : lineD m (lineP r) = true := by
  obtain ⟨k, ⟨a, b⟩, n⟩ := r
  have lw := h.amt.ok.low
  have b6 : b ≤ 6 := h.amt.bot
  have t4 : a.natAbs ≤ 40 := h.amt.top
  have hk : k < m := h.kind
  have hn : n ∈ choQ (a, b) := h.whole
  have e1 : amtD (dQ (a, b)) = true := by
    show (okFr (some a) (some b) && (decide (a.natAbs ≤ 1000000) && decide (b ≤ 1000000))) = true
    rw [decide_eq_true (show a.natAbs ≤ 1000000 by omega), decide_eq_true (show b ≤ 1000000 by omega), Bool.and_true, Bool.and_true]
    exact okFr_of lw
  show (belowO (m : Int) (some (k : Int)) && amtD (dQ (a, b)) && (choQ (a, b)).contains n) = true
  rw [e1, List.contains_iff_mem.mpr hn, Bool.and_true, Bool.and_true]
  exact decide_eq_true ⟨Int.natCast_nonneg k, Int.ofNat_lt.mpr hk⟩
theorem day_good {m : Nat} {rs : List Line} (h : ∀ r ∈ rs, RowS m r) (l : rs.length ≤ 400) : dayFault m (dayP rs) = none := by
  have key : ∀ (rs : List Line) (i : Nat), (∀ r ∈ rs, RowS m r) → firstBad m (rs.map lineP) i = none := by
    intro rs
    induction rs with
    | nil => intro i _; rfl
    | cons r rs ih =>
      intro i h
      rw [List.map_cons, firstBad, if_pos (line_good (h r List.mem_cons_self))]
      exact ih (i + 1) fun x hx => h x (List.mem_cons_of_mem _ hx)
  unfold dayP
  rw [day_at (by rw [List.length_map]; exact l), key rs 0 h]
  rfl
theorem first_isn : ∀ (l : List (List Int)) (i : Nat), (firstU l i).isNone = l.all smallU
  | [], _ => rfl
  | e :: l, i => by
    rw [firstU, List.all_cons]
    cases smallU e with
    | true => rw [if_pos rfl, Bool.true_and]; exact first_isn l (i + 1)
    | false => rfl
theorem kept_course {m : Nat} {ts : List (List Int)} (ok : ∀ c ∈ ts, LotOk (m : Int) c) : ∀ (rs : List Line) (es : List Int), es.length = m → (∀ r ∈ rs, r.1 < m) →
    keptF ts (totsU ts es) rs = ((List.range rs.length).map fun i => totsU ts ((rs.take (i + 1)).foldl behU es)).all smallU
  | [], _, _, _ => rfl
  | r :: rs, es, le, h => by
    have hk : r.1 < es.length := by rw [le]; exact h r List.mem_cons_self
    have e1 : offU ts (totsU ts es) r = totsU ts (behU es r) := behT_eq hk ok
    have l2 : (behU es r).length = m := by
      unfold behU addAt
      rw [List.length_set, le]
    have ih := kept_course ok rs (behU es r) l2 fun x hx => h x (List.mem_cons_of_mem _ hx)
    show (if smallU (offU ts (totsU ts es) r) then keptF ts (offU ts (totsU ts es) r) rs else false) = _
    rw [e1, ih, List.length_cons, List.range_succ_eq_map, List.map_cons, List.all_cons, List.map_map]
    show _ = (smallU (totsU ts (behU es r)) && (List.map (fun i => totsU ts (List.foldl behU (behU es r) (rs.take (i + 1)))) (List.range rs.length)).all smallU)
    cases smallU (totsU ts (behU es r)) <;> rfl
theorem kept_day {m : Nat} {ts : List (List Int)} {rs : List Line} (ok : ∀ c ∈ ts, LotOk (m : Int) c) (h : ∀ r ∈ rs, RowS m r) (l : rs.length ≤ 400) (b : Bool) : isDayD m ts (dayP rs) b = (!b || keptB ts rs) := by
  unfold isDayD
  rw [day_good h l]
  have er : ((itemsD (dayP rs)).map rowD) = rs := by
    show (rs.map lineP).map rowD = rs
    rw [List.map_map]
    conv => rhs; rw [← List.map_id rs]
    exact List.map_congr_left fun r _ => rfl
  rw [er, first_isn]
  have c := kept_course ok rs (List.replicate m 0) List.length_replicate fun r hr => (h r hr).kind
  rw [tots_zero] at c
  have e3 : ((courseU m ts rs).drop 1).all smallU = keptB ts rs := by
    unfold keptB
    rw [c]
    unfold courseU
    rw [List.range_succ_eq_map, List.map_cons, List.drop_succ_cons, List.drop_zero, List.map_map]
    rfl
  rw [e3, show (none : Option Int).isNone = true from rfl, Bool.true_and]
theorem keptB_init (ts : List (List Int)) (rs : List Line) (h : keptB ts rs = true) : keptB ts rs.dropLast = true := by
  by_cases e : rs = []
  · subst e
    rfl
  · have q := keptF_snoc ts (rs.getLast e) rs.dropLast (List.replicate ts.length 0)
    rw [List.dropLast_concat_getLast e] at q
    unfold keptB at h ⊢
    rw [q, Bool.and_eq_true] at h
    exact h.1
end CK
namespace K10
open PySem PySem.Spec PyProof.Rows L2 VG FR CK HD M9
abbrev s__law_heard : Stmt := topS 64
abbrev N__law_heard : List Str := ["action", "error"]
theorem sc__law_heard : FnScope N__law_heard ["action"] (defScope s__law_heard) := ⟨rfl, rfl, rfl, by decide +kernel, rfl, by decide +kernel, by decide +kernel⟩
theorem heard_gives {X : Cx} {C Ct g : Addr} {q : Str} {cdg : Value} (m_Refused : X.mg "Refused" = some (.ref C)) (m_TillError : X.mg "TillError" = some (.ref Ct))
    (T_xf : XfC X.K C) (hno_word : PySem.W.findIn X.K (.ref C) "word" = some none) (te : PySem.W.exmOne X.K (.ref C) (.ref C) = some true) (exC : ExcC X.K C)
    (k1 : PySem.W.kitOne X.K (.ref C) (.ref Ct) = some true) (z_isinstance : X.mg "isinstance" = none) :
    LamX.GivesTo X N__law_heard "_law_heard" (defScope s__law_heard) g cdg (defBody s__law_heard) "action" q (THeard C) := by
  intro f c' s H Q tl act hc h
  refine ⟨_, (pss_cons (ps_try_as (X := (cxOf C8.CX0 X.prog X.w X.K X.mg X.base N__law_heard "_law_heard" (defScope s__law_heard) g cdg X.A X.stack s H C8.E0).nox) (i := 1) (c := .ref C)
      (tb := fun W D σ H => ∃ Ech : XK, (∀ cls d σ' H', Ech cls d H' → σ'.length = 2 → W cls d σ' H') ∧ σ[0]? = some (some (.ref f)) ∧ H c' = some (LamX.CodeO c' q) ∧ tl Ech H (fun _ H' => D.nx σ H'))
      rfl rfl sc__law_heard.nd rfl rfl ⟨rfl, by decide, .inl m_Refused⟩ takes0 (fun W pn xe tk _ => ?_)
      (fun a oe cls d pn hz hf => pss_one (ps_ret (pe_ifExp (pt_val (pe_callB (show CallR _ (.builtin "isinstance") (rIsX X.K a cls d) from call_isX hz hf) (by rfl) z_isinstance (by decide +kernel) (pa_cons (pv 1) (pa_cons (pe_glob (v := .ref _) rfl m_TillError rfl) pa_nil))))
        (pe_xf T_xf hno_word hz hf (pv 1)) pe_str))))
    (pss_one (ps_ret pe_str))), ?_⟩
  · refine ⟨fun pins s' σ H' D I h' => ?_⟩
    obtain ⟨Ech, hW, h1, h2, h3⟩ := h'
    exact PSs.run (pss_one (ps_expr (act _ pn xe Ech _ _ (takes_len tk) hW))) pins s' σ H' D I ⟨h1, h2, h3⟩
  · refine ⟨fun cls d H' => cls = .ref C ∧ ∃ (dd : Addr) (w : Str), d = some dd ∧ H' dd = some (.xd [("word", .str w)]) ∧ Q (.str w) H', fun cls d σ' H' hE hl => ?_, rfl, hc, h⟩
    obtain ⟨rfl, dd, w, rfl, hd, hq⟩ := hE
    refine ⟨true, te, fun _ x hx => ?_, fun z => nomatch z⟩
    have hg : ∀ v : Option V, (σ'.set 1 v)[1]? = some v := fun v => get_set_len hl (by decide)
    refine ⟨_, hg _, C, dd, _, _, _, true, rfl, rfl, hd, exC, rfl, fun u r => r, k1, true, rfl, iteT ?_⟩
    exact ⟨_, hg _, rfl, rfl, dd, _, _, rfl, hd, rfl, hq⟩
/-- what is known of `_law_heard` and of the error that it hears -/
structure Hrd (K : PySem.W.Frag) (mg : Str → Option Value) (C : Addr) : Prop where
  ex : ∃ (g Ct : Addr) (fd : FuncData), Fun K "_law_heard" "_law_heard" s__law_heard g fd ∧ mg "_law_heard" = some (.ref g) ∧ mg "Refused" = some (.ref C) ∧ mg "TillError" = some (.ref Ct) ∧ PySem.W.kitOne K (.ref C) (.ref Ct) = some true
  xf : XfC K C
  no : PySem.W.findIn K (.ref C) "word" = some none
  te : PySem.W.exmOne K (.ref C) (.ref C) = some true
  xc : ExcC K C
  zi : mg "isinstance" = none
def lamQ (q : Str) : Str := q ++ "<lambda>"
/-- _law_heard(lambda: body) -/
theorem pe_heard {X : Cx} {C : Addr} {T : List (Addr × Str)} {c P : Addr} {k : Nat} {params : Arguments} {body : Expr} {scope : Scope} {t : XK → TE} {p lpos pos : Pos} (hd : Hrd X.K X.mg C) (hg : Gl X "_law_heard")
    (TB : LamX.TabB X.base X.mg c P) (code : X.env.code = .ref c) (inT : (P, lamQ X.env.qual) ∈ T) (oneT : ∀ p ∈ T, p.1 = P → p.2 = lamQ X.env.qual) (room : Room (k + 2) X.A) (L : LamX.LamS X.env.scope scope) (plain : defaultsOf params X.env = ([], []))
    (bind : ∀ (q : Str) (cl : List (Str × Addr)) (pm cv ctv : Value), bindArgs (PySem.W.kla_fn "<lambda>" q params body scope cl pm cv ctv) ⟨[], []⟩ = pure [])
    (run : ∀ (A : Around) (outer : List Env) (s : Shared) (H : Hp) (E : XK) (f c' : Addr), Room k (A.deeper (LamX.lamEnv X scope s.heap.objs.size f c')) → PE (LamX.lamCx X A outer s H E scope f c') body (t E)) :
    PE X (.Call (.Name "_law_heard" p) [.Lambda params body scope lpos] [] pos) (LamX.tLam T (THeard C) t) := by
  obtain ⟨g, Ct, fd, F, mg, mR, mT, k1⟩ := hd.ex
  have binds := F.binds (ps := ["action"]) (fun _ _ _ _ _ _ us hl => match us, hl with | [_], _ => rfl)
  have kp := F.kp
  obtain ⟨oc, od, kV, doc, pm, an, cdv, ct, osl, rfl, lk, hcd⟩ := F.ex
  exact LamX.pe_lamcall (Ng := N__law_heard) (a := "action") hg mg kp lk hcd binds sc__law_heard rfl (Or.inl rfl) (heard_gives mR mT hd.xf hd.no hd.te hd.xc k1 hd.zi) TB code inT oneT room L plain bind run
end K10
namespace CK
open PySem PySem.Spec PyProof.Rows L2 VG FR HD M9
theorem cut_tail : ∀ ys : List V, cutV ys none (some (-1)) = ys.dropLast := fun ys => by
  by_cases h : ys = []
  · subst h
    rfl
  · obtain ⟨c0, c, e⟩ := snocL ys h
    subst e
    rw [cut_init, List.dropLast_concat]
theorem LR.dropLast {α : Type} {R : V → α → Prop} {vs : List V} {rs : List α} (h : LR R vs rs) : LR R vs.dropLast rs.dropLast := by
  rw [List.dropLast_eq_take, List.dropLast_eq_take, h.len]
  exact h.take _
theorem lines_take {K : PySem.W.Frag} {H : Hp} : ∀ {vs : List V} {rs : List Line} (n : Nat), Lines K H vs rs → Lines K H (vs.take n) (rs.take n)
  | _, _, 0, _ => trivial
  | [], [], _ + 1, _ => trivial
  | _ :: _, _ :: _, n + 1, h => ⟨h.1, lines_take n h.2⟩
  | [], _ :: _, _ + 1, h => h.elim
  | _ :: _, [], _ + 1, h => h.elim
theorem lines_last {K : PySem.W.Frag} {H : Hp} {vs : List V} {rs : List Line} (h : Lines K H vs rs) : Lines K H vs.dropLast rs.dropLast := by
  rw [List.dropLast_eq_take, List.dropLast_eq_take, h.len]
  exact lines_take _ h
theorem rndU_last {ls : List Told} (h : ls ≠ []) {rs : List Line} (hr : rs ∈ rndU ls) : rs.dropLast ∈ rndU ls.dropLast := by
  have e : rndU ls = stepR (rndU ls.dropLast) (ls.getLast h) := by
    conv => lhs; rw [← List.dropLast_concat_getLast h]
    unfold rndU
    rw [List.foldl_append]
    rfl
  rw [e] at hr
  obtain ⟨r0, h0, hr⟩ := List.mem_flatMap.mp hr
  obtain ⟨z, _, rfl⟩ := List.mem_map.mp hr
  rw [List.dropLast_concat]
  exact h0
theorem rnd_last {ls : List Told} {rs : List Line} (hr : rs ∈ rndU ls) : rs.dropLast ∈ rndU ls.dropLast := by
  by_cases h : ls = []
  · subst h
    rw [List.mem_singleton.mp hr]
    exact List.mem_singleton.mpr rfl
  · exact rndU_last h hr
theorem kept_last {ts : List (List Int)} {ls : List Told} {rs : List Line} (h : rs ∈ keptU ts ls) : rs.dropLast ∈ keptU ts ls.dropLast := by
  rw [kept_eq, List.mem_filter] at h ⊢
  exact ⟨rnd_last h.1, keptB_init ts rs h.2⟩
theorem TdS.told {m : Nat} {l : Told} (h : TdS m l) : TdOk m l := ⟨h.kind, h.amt.ok⟩
theorem rnd_ne : ∀ ls : List Told, rndU ls ≠ [] := fun ls => by
  have key : ∀ (ls : List Told) (F : List (List Line)), F ≠ [] → ls.foldl stepR F ≠ [] := by
    intro ls
    induction ls with
    | nil => intro F h; exact h
    | cons l ls ih =>
      intro F h
      refine ih (stepR F l) fun z => ?_
      cases F with
      | nil => exact h rfl
      | cons rs F =>
        have e : stepR (rs :: F) l = dayR l rs ++ stepR F l := rfl
        rw [e] at z
        have := (List.append_eq_nil_iff.mp z).1
        exact (choQ_ne l.2).1 (List.map_eq_nil_iff.mp this)
  exact key ls [[]] (by simp)
theorem DayT.frz {K : PySem.W.Frag} {p q : Addr} {H : Hp} (hd : Hd p q H) {d : Addr} {rs : List Line} (h : DayT K H d rs) : DayT K (frz p q H) d rs := by
  obtain ⟨xs, h1, h2⟩ := h
  refine ⟨xs, seqTK hd keep_frz h1, ?_⟩
  have key : ∀ (vs : List V) (rs : List Line), Lines K H vs rs → Lines K (FR.frz p q H) vs rs := by
    intro vs
    induction vs with
    | nil =>
      intro rs h
      cases rs with
      | nil => trivial
      | cons r rs => exact h.elim
    | cons v vs ih =>
      intro rs h
      cases rs with
      | nil => exact h.elim
      | cons r rs =>
        obtain ⟨⟨t, s, e, a, b⟩, c⟩ := h
        exact ⟨⟨t, s, e, seqTK hd keep_frz a, seqTK hd keep_frz b⟩, ih rs c⟩
  exact key xs rs h2
theorem DayV.frz {K : PySem.W.Frag} {p q : Addr} {H : Hp} (hd : Hd p q H) {v : V} {rs : List Line} (h : DayV K H v rs) : DayV K (FR.frz p q H) v rs := by
  obtain ⟨d, e, h⟩ := h
  exact ⟨d, e, h.frz hd⟩
theorem DaysT.frz {K : PySem.W.Frag} {p q : Addr} {H : Hp} (hd : Hd p q H) {a : Addr} {ds : List (List Line)} (h : DaysT K H a ds) : DaysT K (FR.frz p q H) a ds := by
  obtain ⟨xs, h1, h2⟩ := h
  exact ⟨xs, seqTK hd keep_frz h1, h2.imp fun _ _ q => q.frz hd⟩
/-- told lines of small amounts -/
def SmallIn (K : PySem.W.Frag) (H : Hp) (a : Addr) (m : Nat) (ls : List Told) : Prop := ∃ xs, SqT K H a xs ∧ LR (TdAt K H) xs ls ∧ ∀ l ∈ ls, TdS m l
theorem SmallIn.mono {K : PySem.W.Frag} {H H' : Hp} (s : Same H H') {a : Addr} {m : Nat} {ls : List Told} (h : SmallIn K H a m ls) : SmallIn K H' a m ls := by
  obtain ⟨xs, h1, h2, h3⟩ := h
  exact ⟨xs, seqT s h1, h2.imp fun _ _ q => q.mono s, h3⟩
theorem SmallIn.told {K : PySem.W.Frag} {H : Hp} {a : Addr} {m : Nat} {ls : List Told} (h : SmallIn K H a m ls) : ToldIn K H a m ls := by
  obtain ⟨xs, h1, h2, h3⟩ := h
  exact ⟨xs, h1, h2, fun l hl => (h3 l hl).told⟩
def spRightK (K : PySem.W.Frag) (C : Addr) : Sp := fun vs H Q _ => ∃ (p q a t l : Addr) (G : Hp) (ks : List Str) (ts : List (List Int)) (ls : List Told), vs = [.ref p, .ref a, .ref t, .ref l] ∧ On p q G H ∧ Tab K C G a ks ts ∧ TabOk ks ts ∧ TotsIn K G t ks.length ts ∧
  SmallIn K G l ks.length ls ∧ ls.length ≤ 6 ∧ ∀ H', On p q G H' → Q (.bl true) H'
end CK
namespace K10
open PySem PySem.Spec PyProof.Rows L2 VG FR CK HD M9
abbrev s__law_right : Stmt := topS 65
abbrev N__law_right : List Str := ["heap", "table", "totals", "lines", "every", "day", "due", "fewer", "again"]
theorem sc__law_right : FnScope N__law_right ["heap", "table", "totals", "lines"] (defScope s__law_right) := ⟨rfl, rfl, rfl, by decide +kernel, rfl, by decide +kernel, by decide +kernel⟩
section
variable {P : Program} {w : World} {K : PySem.W.Frag} {mg : Str → Option Value} {base : Heap}
theorem ok__law_right {f C R : Addr} {fd : FuncData} (F : Fun K "_law_right" "_law_right" s__law_right f fd) (C__law_roundings : Cl P w K mg base 2 "_law_roundings" (spRnd K)) (C__law_kept : Cl P w K mg base 1 "_law_kept" (spLawKept K)) (C__law_pick : Cl P w K mg base 2 "_law_pick" (spPick K))
    (C_kept_days : Cl P w K mg base 5 "kept_days" (fun vs H Q _ => spKept K C R vs H Q E0)) (CR_kept_days : ClR P w K mg base 5 "kept_days" ["lines", "table"] (fun vs H Q _ => spKept K C R vs H Q E0))
    (Cd_is_day : C8.Cal P w K mg base 7 "is_day" (spIsDay K C) [.bl true]) (CN_is_day : ClN P w K mg base 7 "is_day" 2 ["kept"] (fun vs zs => vs ++ zs) (spIsDay K C))
    (z_repr : mg "repr" = none) (z_tuple : mg "tuple" = none) (z_range : mg "range" = none) (z_list : mg "list" = none) (z_all : mg "all" = none) : FnG P w K mg base 9 f fd ["heap", "table", "totals", "lines"] (spRightK K C) := by
  refine fnG_of F sc__law_right (fun vs H Q E h => ?_) (fun cdv A outer s H vs Q E hg hr h => ?_)
  · obtain ⟨_, _, _, _, _, _, _, _, _, rfl, _⟩ := h
    rfl
  · obtain ⟨p, q, a, t, l, G, ks, ts, ls, rfl, on, hTab, ok, hTots, hSm, l6, fin⟩ := h
    refine ⟨_, (pss_cons (ps_set (i := 4) sc__law_right.nd rfl (.inr rfl) (pe_cl C__law_roundings hr (by decide) rfl (pa_cons (pv 3) pa_nil)))
    (pss_cons (ps_set (i := 6) sc__law_right.nd rfl (.inl rfl) (pe_callTy call_tupE (by rfl) z_tuple (by decide +kernel) (pa_cons (pe_lc (own := [("day", 5)]) (by rfl) sc__law_right.nd (pi_list (pv 4)) (blkOk_by (own := [("day", 5)]) (N := N__law_right) (sc := defScope s__law_right) (by decide +kernel)) (fun _ _ _ _ _ => (pg_name (i := 5) sc__law_right.nd rfl (.inl rfl))) (fun _ _ _ _ _ => (pts_one (pt_val (pe_cl C__law_kept hr (by decide) rfl (pa_cons (pv 2) (pa_cons (pv 5) pa_nil)))))) (fun _ _ _ _ _ => (pv 5))) pa_nil)))
    (pss_cons (ps_if (PW.pt (pw_or (pt_cmpR op_ne (pe_callB (cr_reprO hg hr.units) (by rfl) z_repr (by decide +kernel) (pa_cons (pe_cl C_kept_days hr (by decide) rfl (pa_cons (pv 1) (pa_cons (pv 3) pa_nil))) pa_nil)) (pe_callB (cr_reprO hg hr.units) (by rfl) z_repr (by decide +kernel) (pa_cons (pv 6) pa_nil)) (nomark _)) (pw_or1 (pt_cmpR (op_neD hr.units) (pe_clr CR_kept_days hr (by decide) rfl (pk_cons (pv 3) (pk_cons (pv 1) pk_nil))) (pv 6) (nomark _)))))
      (pss_one (ps_ret pe_bl))
      pss_nil)
    (pss_cut (ps_for PassesOwn.never rfl (pi_list (pe_op op_cat (pe_lc (own := [("again", 8)]) (by rfl) sc__law_right.nd (pi_range1 (by rfl) z_range (pa_cons pe_int pa_nil)) (blkOk_by (own := [("again", 8)]) (N := N__law_right) (sc := defScope s__law_right) (by decide +kernel)) (fun _ _ _ _ _ => (pg_name (i := 8) sc__law_right.nd rfl (.inl rfl))) (fun _ _ _ _ _ => pts_nil) (fun _ _ _ _ _ => (pe_cl C__law_pick hr (by decide) rfl (pa_cons (pv 0) (pa_cons (pv 4) pa_nil))))) (pe_callTy call_list_of (by rfl) z_list (by decide +kernel) (pa_cons (pe_slice sl_tupM (pv 6) po_none (po_some pe_int)) pa_nil)))) (pg_name (i := 5) sc__law_right.nd rfl (.inl rfl))
      (pss_one (ps_if (PW.pt (pw_or (pt_cmpR op_ne (pe_callB cr_reprB (by rfl) z_repr (by decide +kernel) (pa_cons (C8.pe_c Cd_is_day hr (by decide) rfl (pa_cons (pv 1) (pa_cons (pv 5) pa_nil))) pa_nil)) (pe_callB cr_reprB (by rfl) z_repr (by decide +kernel) (pa_cons (pe_cmpR (op_inT (units65 hr)) (pv 5) (pv 6) rfl) pa_nil)) (nomark _)) (pw_or1 (pt_cmpR op_notBl (pe_cln CN_is_day hr (by decide) rfl (pa_cons (pv 1) (pa_cons (pv 5) pa_nil)) (pk_cons pe_bl pk_nil)) pe_bl (nomark _)))))
        (pss_one (ps_ret pe_bl))
        pss_nil)))
    (pss_cons (ps_set (i := 7) sc__law_right.nd rfl (.inr rfl) (pe_cl C_kept_days hr (by decide) rfl (pa_cons (pv 1) (pa_cons (pe_slice sl_tupM (pv 3) po_none (po_some (pe_un un_neg pe_int))) pa_nil))))
    (pss_one (ps_ret (pe_callB (cr_all rfl) (by rfl) z_all (by decide +kernel) (pa_cons (pe_lc (own := [("day", 5)]) (by rfl) sc__law_right.nd (pi_tup (pv 6)) (blkOk_by (own := [("day", 5)]) (N := N__law_right) (sc := defScope s__law_right) (by decide +kernel)) (fun _ _ _ _ _ => (pg_name (i := 5) sc__law_right.nd rfl (.inl rfl))) (fun _ _ _ _ _ => pts_nil) (fun _ _ _ _ _ => (pe_cmpR (show OpR _ (compareOp .In) (rInT K) from op_inT (units65 hr)) (pe_slice (show SlR _ (rSlM K) from sl_tupM) (pv 5) po_none (po_some (pe_un un_neg pe_int))) (pv 7) rfl))) pa_nil))))))))), ?_⟩
    have big : sizeLine = 16777216 := by decide
    have hm : ks.length ≤ 12 := ok.kinds.2.1
    have rows : ∀ rs ∈ rndU ls, ∀ r ∈ rs, RowS ks.length r := by
      obtain ⟨_, _, _, h⟩ := hSm
      exact rndU_rows h
    have rk := rndU_ok ls
    have l64 : (rndU ls).length ≤ 64 := by
      have := Nat.pow_le_pow_right (show 0 < 2 by decide) l6
      have e : 2 ^ 6 = 64 := by decide
      omega
    have ke := kept_eq ts ls
    have kl : (keptU ts ls).length ≤ 64 := by
      rw [ke]
      exact Nat.le_trans (List.length_filter_le _ _) l64
    have inR : ∀ rs ∈ keptU ts ls, rs ∈ rndU ls := fun rs h => by
      rw [ke] at h
      exact (List.mem_filter.mp h).1
    have sh := sho_days (m := ks.length) (ds := keptU ts ls) (fun rs h => ⟨fun r hr => (rows rs (inR rs h) r hr).ok, by rw [rk.1 rs (inR rs h)]; omega⟩) hm kl
    have sz : (daysP (keptU ts ls)).shown.length ≤ sizeLine := by have := sh.2.2; omega
    refine ⟨_, rfl, l, ks.length, ls, rfl, (hSm.told).mono on.le, by omega, fun H1 E1 xs s1 n1 k1 hx => ?_⟩
    have on1 := on.same s1
    have f1 := on.free n1
    refine ⟨_, rfl, E1, rfl, ⟨xs, .inl (.inl k1)⟩, fun D nD => ?_⟩
    refine lc_it (walk_list (K := K) (a := E1) (xs := xs)) (fun i H' => Same H1 H' ∧ ∃ ys, H' D = some (.lst ys) ∧ LR (DayV K H') ys (((rndU ls).take i).filter (keptB ts))) ⟨same_upd nD, [], upd_same, trivial⟩ (fun i H' _ h => .inl (.inl (h.1 _ _ k1))) ?_ ?_
    · rintro i v H2 H3 hi ⟨s3, ys, kD, hys⟩ ⟨e2, ev⟩
      subst e2
      obtain ⟨rs, ers, d, rfl, hd⟩ := hx.get ev
      have mr := List.mem_of_getElem? ers
      have ly := hys.len
      have fl := List.length_filter_le (keptB ts) ((rndU ls).take i)
      rw [List.length_take] at fl
      refine ⟨rfl, _, rfl, _, rfl, t, d, ks.length, ts, rs, rfl, hTots.mono (on1.le.trans s3), ⟨_, seqT s3 hd.choose_spec.1, hd.choose_spec.2.mono s3⟩, rows rs mr, by rw [rk.1 rs mr]; omega, fun H4 s4 => ?_⟩
      have nx : ((rndU ls).take (i + 1)).filter (keptB ts) = ((rndU ls).take i).filter (keptB ts) ++ (if keptB ts rs then [rs] else []) := by
        rw [List.take_add_one, ers, List.filter_append]
        congr 1
        show [rs].filter (keptB ts) = _
        rw [List.filter_cons]
        rfl
      rw [nx]
      have hy4 : LR (DayV K H4) ys _ := hys.imp fun _ _ q => q.mono s4
      have kD4 := s4 _ _ kD
      cases hk : keptB ts rs with
      | true =>
        refine ⟨_, rfl, _, rfl, _, kD4, by omega, HD.same_put (s3.trans s4) nD, ys ++ [.ref d], upd_same, ?_⟩
        rw [if_pos rfl]
        exact (hy4.append (show LR (DayV K H4) [.ref d] [rs] from ⟨⟨d, rfl, hd.mono (s3.trans s4)⟩, trivial⟩)).imp fun _ _ q => q.updL kD4
      | false =>
        refine ⟨_, rfl, s3.trans s4, ys, kD4, ?_⟩
        rw [if_neg Bool.false_ne_true, List.append_nil]
        exact hy4
    · rintro H2 ⟨s2, ys, kD, hys⟩
      rw [hx.len, List.take_of_length_le (Nat.le_refl _), ← ke] at hys
      refine ⟨D, ys, rfl, .inl (.inl (.inl kD)), fun H3 u s3 hu => ?_⟩
      have hu3 : DaysT K H3 u (keptU ts ls) := ⟨ys, hu, hys.imp fun _ _ q => q.mono s3⟩
      have on3 := on1.same (s2.trans s3)
      have k13 := (s2.trans s3) _ _ k1
      have hx3 : LR (DayV K H3) xs (rndU ls) := hx.imp fun _ _ q => q.mono (s2.trans s3)
      clear hys kD nD
      refine ⟨_, rfl, _, rfl, a, l, ks, ts, ls, rfl, hTab.mono on3.le, ok, hSm.told.mono on3.le, by omega, fun _ H4 u4 s4 hu4 => ?_, fun z => absurd z (by omega)⟩
      refine ⟨.ref u4, daysP (keptU ts ls), rfl, ov_days hu4, sh.1, sh.2.1, sz, ?_⟩
      refine ⟨_, rfl, .ref u, daysP (keptU ts ls), rfl, ov_days (hu3.mono s4), sh.1, sh.2.1, sz, rfl, _, rfl, ite_eq false (congrArg Bool.not (decide_eq_true rfl)) (iteF ?_)⟩
      have on4 := on3.same s4
      refine ⟨_, rfl, _, rfl, a, l, ks, ts, ls, rfl, hTab.mono on4.le, ok, hSm.told.mono on4.le, by omega, fun _ H5 u5 s5 hu5 => ?_, fun z => absurd z (by omega)⟩
      have s35 := s4.trans s5
      have on5 := on4.same s5
      refine ⟨_, rfl, _, _, dp_days hu5, dp_days (hu3.mono s35), shaped_days _, shaped_days _, _, rfl, ite_eq false (congrArg Bool.not ((eqv_days _ _).trans (decide_eq_true rfl))) (iteF ?_)⟩
      have hu5' := hu3.mono s35
      have k5 := s35 _ _ k13
      have hx5 : LR (DayV K H5) xs (rndU ls) := hx3.imp fun _ _ q => q.mono s35
      clear hu4 hu5 hu hu3 hx3 k13
      have base := On.start on5.hd
      have kB := frz_at k5 ⟨f1.1, f1.2.1⟩
      have uB := hu5'.frz on5.hd
      have xB : LR (DayV K (frz p q H5)) xs (rndU ls) := hx5.imp fun _ _ q => q.frz on5.hd
      have GB := on5.base.2
      have xne : xs ≠ [] := fun z => by
        have := hx5.len
        rw [z] at this
        exact rnd_ne ls (List.eq_nil_of_length_eq_zero this.symm)
      have lx := hx5.len
      have fin : ∀ H', On p q (frz p q H5) H' → Q (.bl true) H' := fun H' o => fin H' (o.drop GB)
      clear hu5' hx5 k5
      generalize frz p q H5 = B at *
      refine ⟨fun σ H' => (∃ y5 y7 y8 : Option V, σ = [some (.ref p), some (.ref a), some (.ref t), some (.ref l), some (.ref E1), y5, some (.ref u), y7, y8]) ∧ On p q B H', ?_, ?_⟩
      · refine ⟨_, rfl, by decide, by decide, fun D nD => ?_⟩
        have fD := base.free nD
        refine lc_it (walk_range (lo := 0) (n := (3 : Int).toNat)) (fun i H' => On p q B H' ∧ ∃ zs, H' D = some (.lst zs) ∧ zs.length = i ∧ ∀ v ∈ zs, ∃ rs ∈ rndU ls, DayV K B v rs) ⟨base.new nD, [], upd_same, rfl, fun v hv => absurd hv List.not_mem_nil⟩ (fun _ _ _ _ => trivial) ?_ ?_
        · rintro i v H6 H7 hi ⟨on6, zs, kD, lz, hz⟩ ⟨rfl, rfl⟩
          have hi2 : i < 3 := hi
          refine ⟨rfl, _, rfl, _, rfl, p, q, E1, xs, rfl, on6.hd, on6.le _ _ kB, f1.1, f1.2.1, xne, by omega, fun H8 v hd8 kp8 hv => ?_⟩
          have on8 := on6.draw hd8 kp8
          have kD8 := kp8 _ _ fD.1 fD.2.1 kD
          refine ⟨zs, kD8, by omega, on8.put fD, zs ++ [v], upd_same, by rw [List.length_append, lz]; rfl, fun x hx => ?_⟩
          rcases List.mem_append.mp hx with h | h
          · exact hz x h
          · rw [List.mem_singleton.mp h]
            obtain ⟨j, ej⟩ := List.mem_iff_getElem?.mp hv
            obtain ⟨rs, er, hd⟩ := xB.get ej
            exact ⟨rs, List.mem_of_getElem? er, hd⟩
        · rintro H6 ⟨on6, zs, kD, lz, hz⟩
          have lz3 : zs.length = 3 := lz
          obtain ⟨ys, hy1, hy2⟩ := uB
          have ly := hy2.len
          refine ⟨_, rfl, _, rfl, u, ys, rfl, seqT on6.le hy1, fun t7 H7 s7 ht7 => ?_⟩
          rw [show cutV ys none (some (3 : Int)) = ys.take 3 from cut0 3] at ht7
          refine ⟨t7, _, rfl, .inr ht7, fun L nL => ?_⟩
          have on7 := on6.same s7
          have s8 := same_upd (o := .lst (ys.take 3)) nL
          have k8 := upd_same (H := H7) (a := L) (o := .lst (ys.take 3))
          generalize L2.upd H7 L (.lst (ys.take 3)) = H8 at s8 k8 ⊢
          refine ⟨D, L, zs, _, rfl, rfl, (s7.trans s8) _ _ kD, k8, by rw [List.length_take]; omega, fun Z nZ => ?_⟩
          have on9 := (on7.same s8).new (o := .lst (zs ++ ys.take 3)) nZ
          have k9 := upd_same (H := H8) (a := Z) (o := .lst (zs ++ ys.take 3))
          have fZ := (on7.same s8).free nZ
          generalize L2.upd H8 Z (.lst (zs ++ ys.take 3)) = H9 at on9 k9 ⊢
          have all : ∀ v ∈ zs ++ ys.take 3, ∃ rs ∈ rndU ls, DayV K B v rs := fun v hv => by
            rcases List.mem_append.mp hv with h | h
            · exact hz v h
            · obtain ⟨j, ej⟩ := List.mem_iff_getElem?.mp (List.mem_of_mem_take h)
              obtain ⟨rs, er, hd⟩ := hy2.get ej
              exact ⟨rs, inR rs (List.mem_of_getElem? er), hd⟩
          have uB : DaysT K B u (keptU ts ls) := ⟨ys, hy1, hy2⟩
          generalize zs ++ ys.take 3 = ws at k9 all ⊢
          clear k8 s8 ht7 hz lz3 lz kD on6 on7 s7 nL nZ
          refine ⟨Z, rfl, ⟨_, .inl (.inl k9)⟩, ?_⟩
          refine for_it (walk_list (K := K) (a := Z) (xs := ws)) (fun i σ H' => (∃ y5 y7 y8 : Option V, σ = [some (.ref p), some (.ref a), some (.ref t), some (.ref l), some (.ref E1), y5, some (.ref u), y7, y8]) ∧ On p q B H' ∧ H' Z = some (.lst ws)) ⟨⟨_, _, _, rfl⟩, on9, k9⟩ (fun i σ H' _ h => .inl (.inl h.2.2)) ?_ ?_
          · rintro i v σ H10 H11 hi ⟨⟨y5, y7, y8, rfl⟩, on10, k10⟩ ⟨rfl, ev⟩
            obtain ⟨rs, mr, d, rfl, hd⟩ := all v (List.mem_of_getElem? ev)
            have ro := rows rs mr
            have lo : ∀ r ∈ rs, LineOk ks.length r := fun r hr => (ro r hr).ok
            have lr : rs.length ≤ 400 := by rw [rk.1 rs mr]; omega
            have kd := kept_day (ts := ts) ok.lots ro lr
            refine ⟨_, rfl, _, rfl, a, .ref d, dayP rs, true, ks, ts, rfl, hTab.mono (GB.trans on10.le), ok, ov_day (hd.mono on10.le), day_dv lo, fun H12 s12 => ?_⟩
            rw [kd]
            have on12 := on10.same s12
            refine ⟨_, rfl, _, rfl, _, rfl, _, _, dp_day (hd.mono on12.le), dp_days (uB.mono on12.le), shaped_day _, shaped_days _, ?_⟩
            rw [any_day]
            have e : decide (rs ∈ keptU ts ls) = (!true || keptB ts rs) := by
              rw [ke, Bool.not_true, Bool.false_or, Bool.eq_iff_iff, decide_eq_true_iff, List.mem_filter]
              exact ⟨fun q => q.2, fun q => ⟨mr, q⟩⟩
            rw [e]
            refine ⟨_, rfl, rfl, _, rfl, ite_eq false (congrArg Bool.not (decide_eq_true rfl)) (iteF ?_)⟩
            refine ⟨_, rfl, _, rfl, rfl, rfl, a, .ref d, dayP rs, false, ks, ts, rfl, hTab.mono (GB.trans on12.le), ok, ov_day (hd.mono on12.le), day_dv lo, fun H13 s13 => ?_⟩
            rw [kd]
            refine ⟨true, true, rfl, rfl, _, rfl, iteF ?_⟩
            exact ⟨⟨_, _, _, rfl⟩, on12.same s13, (s12.trans s13) _ _ k10⟩
          · rintro σ H10 ⟨y, on10, _⟩
            exact ⟨y, on10⟩
      · rintro σ H6 ⟨⟨y5, y7, y8, rfl⟩, on6⟩
        have hSm6 := hSm.mono (GB.trans on6.le)
        have hSm6' := hSm6
        obtain ⟨lv, hlv, hll, hls⟩ := hSm6
        refine ⟨_, rfl, _, rfl, _, rfl, _, rfl, l, lv, rfl, hlv, fun l2 H7 s7 hl2 => ?_⟩
        rw [cut_tail] at hl2
        have told : SmallIn K H7 l2 ks.length ls.dropLast := ⟨_, hl2, (hll.dropLast).imp fun _ _ q => q.mono s7, fun x hx => hls x (List.mem_of_mem_take (by rw [List.dropLast_eq_take] at hx; exact hx))⟩
        have on7 := on6.same s7
        refine ⟨a, l2, ks, ts, ls.dropLast, rfl, hTab.mono (GB.trans on7.le), ok, told.told, by rw [List.length_dropLast]; omega, fun _ H8 f8 s8 hf8 => ?_, fun z => absurd z (by rw [List.length_dropLast]; omega)⟩
        have on8 := on7.same s8
        obtain ⟨ys, hy1, hy2⟩ := uB.mono on8.le
        refine ⟨_, rfl, u, rfl, ⟨_, hy1⟩, fun D nD => ?_⟩
        refine lc_it (walk_tup (K := K) (a := u) (xs := ys)) (fun i H' => Same H8 H' ∧ H' D = some (.lst (List.replicate i (V.bl true)))) ⟨same_upd nD, upd_same⟩ (fun i H' _ h => seqT h.1 hy1) ?_ ?_
        · rintro i v H9 H10 hi ⟨s10, kD⟩ ⟨e2, ev⟩
          subst e2
          obtain ⟨rs, ers, d, rfl, dxs, hd1, hd2⟩ := hy2.get ev
          have mk := kept_last (List.mem_of_getElem? ers)
          refine ⟨rfl, _, rfl, _, rfl, _, rfl, d, dxs, rfl, seqT s10 hd1, fun d2 H11 s11 h11 => ?_⟩
          rw [cut_tail] at h11
          have dt : DayT K H11 d2 rs.dropLast := ⟨_, h11, (lines_last hd2).mono (s10.trans s11)⟩
          have s811 := s10.trans s11
          refine ⟨_, rfl, _, _, dp_day dt, dp_days (hf8.mono s811), shaped_day _, shaped_days _, ?_⟩
          rw [any_day, decide_eq_true mk]
          refine ⟨_, s11 _ _ kD, ?_, HD.same_put s811 nD, ?_⟩
          · rw [List.length_replicate]
            have := hy2.len
            omega
          · rw [upd_same, List.replicate_succ']
        · rintro H9 ⟨s9, kD⟩
          have e : List.replicate ys.length (V.bl true) = (List.replicate ys.length true).map V.bl := (List.map_replicate ..).symm
          rw [e] at kD
          refine ⟨D, _, rfl, .inl (.inl kD), ?_⟩
          have e2 : (List.replicate ys.length true).all id = true := List.all_eq_true.mpr fun x hx => List.eq_of_mem_replicate hx
          rw [e2]
          exact fin H9 (on8.same s9)
end
end K10
namespace DS
open PySem PySem.Spec PyProof.Rows L2 VG FR CK HD M9 TU Srt
def LineIs (h : Heap) (v : Value) (l : Told) (n : Int) : Prop := ∃ (t u : Addr) (T1 T2 T3 T4 : Tok), v = .ref t ∧ h.IsTuple t #[.int (l.1 : Int) T1, .ref u, .int n T2] ∧ h.IsTuple u #[.int l.2.1 T3, .int l.2.2 T4]
inductive LinesAre (h : Heap) : List Value → List Told → List Int → Prop
  | nil : LinesAre h [] [] []
  | cons {v : Value} {vs : List Value} {l : Told} {fr : List Told} {n : Int} {ns : List Int} : LineIs h v l n → LinesAre h vs fr ns → LinesAre h (v :: vs) (l :: fr) (n :: ns)
def DayIs (h : Heap) (v : Value) (fr : List Told) (ns : List Int) : Prop := ∃ (a : Addr) (xs : Array Value), v = .ref a ∧ h.IsTuple a xs ∧ LinesAre h xs.toList fr ns
abbrev Kp (h h' : Heap) : Prop := ∀ b o, h.get? b = some o → o.cls = .type "tuple" → h'.get? b = some o
theorem tup_keeps {h h' : Heap} {a : Addr} {xs : Array Value} (k : Kp h h') (x : h.IsTuple a xs) : h'.IsTuple a xs := by
  obtain ⟨o, ho, hc, r⟩ := x
  exact ⟨o, k _ _ ho hc, hc, r⟩
theorem LineIs.keeps {h h' : Heap} (k : Kp h h') {v : Value} {l : Told} {n : Int} (x : LineIs h v l n) : LineIs h' v l n := by
  obtain ⟨t, u, T1, T2, T3, T4, e, a, b⟩ := x
  exact ⟨t, u, T1, T2, T3, T4, e, tup_keeps k a, tup_keeps k b⟩
theorem LinesAre.keeps {h h' : Heap} (k : Kp h h') : ∀ {vs : List Value} {fr : List Told} {ns : List Int}, LinesAre h vs fr ns → LinesAre h' vs fr ns
  | _, _, _, .nil => .nil
  | _, _, _, .cons a r => .cons (a.keeps k) (r.keeps k)
theorem DayIs.keeps {h h' : Heap} (k : Kp h h') {v : Value} {fr : List Told} {ns : List Int} (x : DayIs h v fr ns) : DayIs h' v fr ns := by
  obtain ⟨a, xs, e, t, r⟩ := x
  exact ⟨a, xs, e, tup_keeps k t, r.keeps k⟩
/-- the wholes, as the heap has them -/
def nth2 (h : Heap) (v : Value) : Int := match v with
  | .ref t => match h.get? t with
    | some o => match o.data with
      | .seq xs _ => match xs[2]? with
        | some (Value.int n _) => n
        | _ => 0
      | _ => 0
    | none => 0
  | _ => 0
def whOf (h : Heap) (v : Value) : List Int := match v with
  | .ref a => match h.get? a with
    | some o => match o.data with
      | .seq xs _ => xs.toList.map (nth2 h)
      | _ => []
    | none => []
  | _ => []
theorem LineIs.nth {h : Heap} {v : Value} {l : Told} {n : Int} (x : LineIs h v l n) : nth2 h v = n := by
  obtain ⟨t, u, T1, T2, T3, T4, rfl, ⟨o, ho, hc, m, hd⟩, b⟩ := x
  unfold nth2
  dsimp only
  rw [ho]
  dsimp only
  rw [hd]
  rfl
theorem LinesAre.nth {h : Heap} : ∀ {vs : List Value} {fr : List Told} {ns : List Int}, LinesAre h vs fr ns → vs.map (nth2 h) = ns
  | _, _, _, .nil => rfl
  | _, _, _, .cons a r => by rw [List.map_cons, a.nth, r.nth]
theorem DayIs.wh {h : Heap} {v : Value} {fr : List Told} {ns : List Int} (x : DayIs h v fr ns) : whOf h v = ns := by
  obtain ⟨a, xs, rfl, ⟨o, ho, hc, m, hd⟩, r⟩ := x
  unfold whOf
  dsimp only
  rw [ho]
  dsimp only
  rw [hd]
  exact r.nth
section
variable {prog : Program} {w : World} {A : Around} {E : Value → Shared → Prop} {s : Shared}
theorem amt_reads {h : Heap} {u : Addr} {p : Q2} {T3 T4 : Tok} (b : h.IsTuple u #[.int p.1 T3, .int p.2 T4]) : ∃ as, Reads h (.ref u) (dQ p) as := by
  obtain ⟨o, ho, hc, m, hd⟩ := b
  exact ⟨_, Reads.tuple ho hc hd (ReadsAll.cons (Reads.int _ _) (ReadsAll.cons (Reads.int _ _) ReadsAll.nil))⟩
theorem LineIs.reads {h : Heap} {v : Value} {l : Told} {n : Int} (x : LineIs h v l n) : ∃ as, Reads h v (lineP (l.1, l.2, n)) as := by
  obtain ⟨t, u, T1, T2, T3, T4, rfl, ⟨o, ho, hc, m, hd⟩, b⟩ := x
  obtain ⟨as, r⟩ := amt_reads b
  exact ⟨_, Reads.tuple ho hc hd (ReadsAll.cons (Reads.int _ _) (ReadsAll.cons r (ReadsAll.cons (Reads.int _ _) ReadsAll.nil)))⟩
theorem line_eq {v v' : Value} {l : Told} {n n' : Int} (h1 : LineIs s.heap v l n) (h2 : LineIs s.heap v' l n') (hu : A.units + 10 < cLine) : SeqAt.EqAt A s v v' (decide (n = n')) := by
  obtain ⟨as, r1⟩ := h1.reads
  obtain ⟨bs, r2⟩ := h2.reads
  have ly := lay_line (l.1, l.2, n)
  have ly2 := lay_line (l.1, l.2, n')
  have q := SeqAt.eqAt_reads _ _ A s v v' _ _ r1 r2 ly.1 ly2.1 (by have := ly.2; omega)
  rw [eqv_line] at q
  have e : decide (((l.1, l.2, n) : Line) = (l.1, l.2, n')) = decide (n = n') := by
    rw [decide_eq_decide]
    simp
  rw [e] at q
  exact q
theorem line_lt {v v' : Value} {l : Told} {n n' : Int} (h1 : LineIs s.heap v l n) (h2 : LineIs s.heap v' l n') (hu : A.units + 10 < cLine) : Ob.RcOp .Lt A s v v' (decide (n < n')) := by
  obtain ⟨t, u, T1, T2, T3, T4, rfl, a, b⟩ := h1
  obtain ⟨t', u', T1', T2', T3', T4', rfl, a', b'⟩ := h2
  obtain ⟨as, r1⟩ := amt_reads b
  obtain ⟨bs, r2⟩ := amt_reads b'
  have lay : (dQ l.2).canLay0 = true := by simp [dQ, PyData.canLay0, PyData.canLayAll0]
  have dep : (dQ l.2).depth ≤ 2 := by simp [dQ, PyData.depth, PyData.depthAll]
  have R := Ob.RcOp.tuples_lt (A := A) (s := s) (e := fun j => if j = 2 then decide (n = n') else true) (r := fun _ => decide (n < n')) a a' (by omega)
    (fun j h1 h2 => by
      have hj : j < 3 := h1
      match j, hj with
      | 0, _ =>
        have q := SeqAt.EqAt.int_int (A := A.in1) (s := s) (l.1 : Int) T1 (l.1 : Int) T1'
        rw [beq_self_eq_true] at q
        exact q
      | 1, _ =>
        have q := SeqAt.eqAt_reads (dQ l.2) (dQ l.2) A.in1 s (.ref u) (.ref u') _ _ r1 r2 lay lay (by show A.units + 1 + _ < cLine; omega)
        have e : PyData.eqv (dQ l.2) (dQ l.2) = true := by simp [dQ, PyData.eqv, PyData.eqvAll]
        rw [e] at q
        exact q
      | 2, _ =>
        have q := SeqAt.EqAt.int_int (A := A.in1) (s := s) n T2 n' T2'
        have e : (n == n') = decide (n = n') := by
          by_cases z : n = n'
          · rw [decide_eq_true z]; exact beq_iff_eq.mpr z
          · rw [decide_eq_false z]; exact beq_eq_false_iff_ne.mpr z
        rw [e] at q
        exact q)
    (fun j h1 h2 he => by
      have hj : j < 3 := h1
      match j, hj, he with
      | 0, _, he => cases he
      | 1, _, he => cases he
      | 2, _, _ => exact Ob.RcOp.lt_int _ _ _ _)
  have e : Ob.lexAt (fun j => if j = 2 then decide (n = n') else true) (fun _ => decide (n < n')) (decide ((3 : Nat) < 3)) 0 3 = decide (n < n') := by
    rw [Ob.lexAt_succ, if_pos (if_neg (by decide)), Ob.lexAt_succ, if_pos (if_neg (by decide)), Ob.lexAt_succ, Ob.lexAt_zero]
    by_cases z : n = n'
    · rw [if_pos (by simp [z])]
      subst z
      simp
    · rw [if_neg (by simp [z])]
  have R2 : Ob.RcOp .Lt A s (.ref t) (.ref t') (Ob.lexAt (fun j => if j = 2 then decide (n = n') else true) (fun _ => decide (n < n')) (decide ((3 : Nat) < 3)) 0 3) := R
  rw [e] at R2
  exact R2
theorem lines_walk {Q : Bool → Shared → Prop} : ∀ {xs ys : List Value} {fr : List Told} {ns ms : List Int} (i : Nat), LinesAre s.heap xs fr ns → LinesAre s.heap ys fr ms → A.units + 10 < cLine → Q (lexI ns ms) s → PySem.W.KatLex prog w A false false Q (xs.zip ys) i s
  | _, _, _, _, _, i, .nil, .nil, _, h => PySem.W.kat_nil h
  | _, _, _, _, _, i, .cons (v := x) (n := n) (ns := ns) a r, .cons (v := y) (n := m) (ns := ms) b q, hu, h => by
    have h : Q (if n = m then lexI ns ms else decide (n < m)) s := h
    refine PySem.W.kat_cons (line_eq a b hu prog w _ _ ?_)
    by_cases e : n = m
    · rw [if_pos e] at h
      rw [decide_eq_true e]
      exact PySem.W.kat_yes (lines_walk (i + 1) r q hu h)
    · rw [if_neg e] at h
      rw [decide_eq_false e]
      refine PySem.W.kat_no ?_
      show wpAny (model prog w) A (oneLt' false x y) Q _ s
      rw [oneLt'_eq]
      simp only [Bool.false_eq_true, if_false]
      exact wpAny_bind (line_lt a b hu prog w _ _ (wpAny_truthy_bool h))
theorem LinesAre.size {h : Heap} : ∀ {vs : List Value} {fr : List Told} {ns : List Int}, LinesAre h vs fr ns → vs.length = fr.length ∧ ns.length = fr.length
  | _, _, _, .nil => ⟨rfl, rfl⟩
  | _, _, _, .cons _ r => by
    have := r.size
    simp only [List.length_cons]
    omega
theorem firsts {fr : List Told} (fne : fr ≠ []) {k : Value → List Int} : ∀ (vs : List Value), (∀ v ∈ vs, DayIs s.heap v fr (k v)) → ∃ gs : List Value, gs.length = vs.length ∧ PySem.W.KatTups s.heap vs gs ∧ ∀ g ∈ gs, ∃ l n, LineIs s.heap g l n
  | [], _ => ⟨[], rfl, PySem.W.KatTups.nil, fun g hg => absurd hg List.not_mem_nil⟩
  | v :: vs, x => by
    obtain ⟨gs, l1, kt, all⟩ := firsts fne vs fun u hu => x u (List.mem_cons_of_mem _ hu)
    obtain ⟨a, xs, rfl, ⟨o, ho, hc, n, hd⟩, i⟩ := x v List.mem_cons_self
    generalize k (.ref a) = ns at i
    obtain ⟨xl⟩ := xs
    have i : LinesAre s.heap xl fr ns := i
    cases i with
    | nil => exact absurd rfl fne
    | @cons y ys l fr2 m ms b r =>
      refine ⟨y :: gs, by rw [List.length_cons, List.length_cons, l1], PySem.W.KatTups.cons ho hc hd (by simp) kt, fun g hg => ?_⟩
      rcases List.mem_cons.mp hg with e | hg
      · subst e
        exact ⟨l, m, b⟩
      · exact all g hg
theorem sortable {a : Addr} {vs : List Value} {k : Value → List Int} {fr : List Told} (fne : fr ≠ []) (h2 : 2 ≤ vs.length) (x : ∀ v ∈ vs, DayIs s.heap v fr (k v)) (ha : ∀ o, s.heap.get? a = some o → o.cls ≠ .type "tuple") (hu : A.units + 10 < cLine) : SrtO.SortableO prog w A s a vs fun v u => lexI (k v) (k u) := by
  intro h' keep
  have x' : ∀ v ∈ vs, DayIs h' v fr (k v) := fun v hv => (x v hv).keeps fun b o e c => keep b o (fun z => by subst z; exact ha o e c) e
  obtain ⟨gs, l1, kt, all⟩ := firsts (s := { s with heap := h' }) fne vs x'
  have eb : (Value.type "tuple" != Value.type "tuple") = false := by rfl
  refine ⟨tuples' (Value.type "tuple" != Value.type "tuple"), fun Q E hq => ?_, ?_⟩
  · refine PySem.W.kat_kind (T := Value.type "tuple") kt (by omega) (fun g hg => ?_) rfl hq
    obtain ⟨l, n, t, u, _, _, _, _, rfl, ⟨o, ho, hc, _⟩, _⟩ := all g hg
    have q : PySem.W.Looks (model prog w) h' (typeOf (.ref t)) o.cls := (PySem.W.Looks.ld ho).andThen .now
    rw [hc] at q
    exact q
  · rw [eb]
    intro p q hp hq
    show wpAny (model prog w) A (keyLt' (tuples' false) p.1 q.1) (fun r s' => s' = { s with heap := h' } ∧ r = lexI (k p.1) (k q.1)) (fun _ _ => False) { s with heap := h' }
    obtain ⟨b, xs, e1, ⟨o, ho, hc, n, hd⟩, i1⟩ := x' _ hp
    obtain ⟨c, ys, e2, ⟨o', ho', hc', n', hd'⟩, i2⟩ := x' _ hq
    rw [e1, e2]
    rw [e1] at i1
    rw [e2] at i2
    refine PySem.W.kat_lt ho hd ho' hd' ?_
    have z : decide (xs.size < ys.size) = false := by
      have a1 := i1.size.1
      have a2 := i2.size.1
      rw [Array.length_toList] at a1 a2
      exact decide_eq_false (by omega)
    rw [z]
    exact lines_walk (s := { s with heap := h' }) 0 i1 i2 hu ⟨rfl, rfl⟩
end
end DS
namespace L2
open PySem PySem.Spec PyProof.Rows VG FR CK HD M9
def frameOf (rs : List Line) : List Told := rs.map fun r => (r.1, r.2.1)
def whole (rs : List Line) : List Int := rs.map fun r => r.2.2
section
variable {X : Cx} {pins : List (Addr × Obj)} {σ : L2.St} {H : Hp} {s : Shared}
theorem tup_two (I : Inv X pins σ H s) {u : Addr} {a b : Int} (h : SqT X.K H u [.int a, .int b]) : ∃ T1 T2, s.heap.IsTuple u #[.int a T1, .int b T2] := by
  obtain ⟨its, rv, pl, _⟩ := I.tuple h
  obtain ⟨u1, u2, rfl, r1, r2⟩ := vals2 rv
  obtain ⟨T1, rfl⟩ := r1
  obtain ⟨T2, rfl⟩ := r2
  exact ⟨T1, T2, pl⟩
theorem line_raw (I : Inv X pins σ H s) {v : V} {r : Line} {u : Value} (h : LineAt X.K H v r) (e : RelV v u) : DS.LineIs s.heap u (r.1, r.2.1) r.2.2 := by
  obtain ⟨t, q, rfl, h1, h2⟩ := h
  cases e
  obtain ⟨its, rv, pl, _⟩ := I.tuple h1
  obtain ⟨T3, T4, pq⟩ := tup_two I h2
  cases rv with
  | cons r1 rv =>
    cases rv with
    | cons r2 rv =>
      cases rv with
      | cons r3 rv =>
        cases rv
        obtain ⟨T1, rfl⟩ := r1
        cases r2
        obtain ⟨T2, rfl⟩ := r3
        exact ⟨t, q, T1, T2, T3, T4, rfl, pl, pq⟩
theorem lines_raw (I : Inv X pins σ H s) : ∀ {vs : List V} {rs : List Line} {us : List Value}, Lines X.K H vs rs → Vals vs us → DS.LinesAre s.heap us (frameOf rs) (whole rs)
  | [], [], _, _, r => by
    cases r
    exact .nil
  | _ :: _, _ :: _, _, h, r => by
    cases r with
    | cons r1 r2 => exact .cons (line_raw I h.1 r1) (lines_raw I h.2 r2)
  | [], _ :: _, _, h, _ => h.elim
  | _ :: _, [], _, h, _ => h.elim
theorem day_raw (I : Inv X pins σ H s) {d : Addr} {rs : List Line} (h : DayT X.K H d rs) : DS.DayIs s.heap (.ref d) (frameOf rs) (whole rs) := by
  obtain ⟨xs, h1, h2⟩ := h
  obtain ⟨its, rv, pl, _⟩ := I.tuple h1
  exact ⟨d, its.toArray, rfl, pl, by simpa using lines_raw I h2 rv⟩
end
section
variable {X : Cx}
/-- sorted(list of days that differ in their wholes alone), a day told by its wholes -/
def rSortN (K : PySem.W.Frag) : List V → Hp → VK → Prop := fun vs H Q => ∃ (a : Addr) (L : List (Addr × List Int)) (fr : List Told), vs = [V.ref a] ∧ SqL K H a (L.map fun q => V.ref q.1) ∧ (∀ p ∈ L, ∃ rs, DayT K H p.1 rs ∧ frameOf rs = fr ∧ whole rs = p.2) ∧ (2 ≤ L.length → fr ≠ []) ∧
  ∀ (L' : List (Addr × List Int)) (p : Addr), L'.Perm L → L'.Pairwise (fun q r => TU.lexI r.2 q.2 = false) → H p = none → Q (.ref p) (upd H p (.lst (L'.map fun q => V.ref q.1)))
theorem cr_sortN (hu : X.A.units + 20 < cLine) : CallR X (.builtin "sorted") (rSortN X.K) := by
  intro pins s σ H vs us Q I r h
  obtain ⟨a, L, fr, rfl, hs, hk, hfr, q⟩ := h
  obtain ⟨its, rv, hl, hz⟩ := I.list hs
  rw [Vals.ref1 r]
  have eits := refs_of_vals rv
  have tk : ∀ p ∈ L, DS.DayIs s.heap (.ref p.1) fr p.2 := fun p hp => by
    obtain ⟨rs, h1, h2, h3⟩ := hk p hp
    rw [← h2, ← h3]
    exact day_raw I h1
  have lits : its.length = L.length := by rw [eits, List.length_map]
  have hz2 : its.length ≤ sizeLine := by rw [← rv.length]; exact hz
  refine SrtO.sorted_ord (TU.swo fun v => DS.whOf s.heap v) hl.isList hz2 (fun h2 h₁ a' ho keep => ?_) fun out hs hb => ?_
  · have x : ∀ v ∈ its, DS.DayIs h₁ v fr (DS.whOf s.heap v) := fun v hv => by
      rw [eits] at hv
      obtain ⟨p, hp, e⟩ := List.mem_map.mp hv
      have t := tk p hp
      rw [← e, t.wh]
      exact t.keeps fun b o e _ => (keep b o e).2
    refine DS.sortable (s := { s with heap := h₁ }) (hfr (by omega)) h2 x (fun o e c => ?_) (by simp only [PyProof.Rows.units_in1]; omega)
    have e' : some o = some (seqObj "list" its.toArray 0) := e.symm.trans ho
    have e2 : o = seqObj "list" its.toArray 0 := Option.some.inj e'
    rw [e2] at c
    have c' : Value.type "list" = Value.type "tuple" := c
    injection c' with c''
    exact absurd c'' (by decide)
  · have pmo : out.Perm its := hb.perm
    let g : Value → Addr × List Int := fun v => match v with
      | .ref b => (b, DS.whOf s.heap (.ref b))
      | _ => (0, [])
    have gp : ∀ p ∈ L, g (.ref p.1) = p := fun p hp => Prod.ext rfl (tk p hp).wh
    have gL : its.map g = L := by
      rw [eits, List.map_map]
      conv => rhs; rw [← List.map_id L]
      exact List.map_congr_left fun p hp => gp p hp
    have at_ : ∀ v ∈ out, ∃ p ∈ L, v = .ref p.1 := fun v hv => by
      have hi := pmo.mem_iff.mp hv
      rw [eits] at hi
      obtain ⟨p, hp, e⟩ := List.mem_map.mp hi
      exact ⟨p, hp, e.symm⟩
    have back : (out.map g).map (fun q => Value.ref q.1) = out := by
      rw [List.map_map]
      conv => rhs; rw [← List.map_id out]
      refine List.map_congr_left fun v hv => ?_
      obtain ⟨p, hp, rfl⟩ := at_ v hv
      rfl
    have pL : (out.map g).Perm L := by
      have z := pmo.map g
      rw [gL] at z
      exact z
    have pw : (out.map g).Pairwise (fun q r => TU.lexI r.2 q.2 = false) := by
      refine List.pairwise_map.mpr (List.Pairwise.imp_of_mem (fun {u v} hu hv hle => ?_) hs)
      obtain ⟨p, hp, rfl⟩ := at_ u hu
      obtain ⟨r, hr, rfl⟩ := at_ v hv
      exact hle
    obtain ⟨ep, he'⟩ := PyProof.Rows.sortedAll_at s.heap its out.toArray
    have hvv : Vals ((out.map g).map fun q => V.ref q.1) out.toArray.toList := by
      have z := vals_of_refs (out.map g)
      rw [back] at z
      simpa using z
    have hlen : ((out.map g).map fun q => V.ref q.1).length ≤ sizeLine := by rw [List.length_map, List.length_map, pmo.length_eq]; exact hz2
    exact ⟨.ref _, upd H (s.heap.objs.size + 1) (.lst ((out.map g).map fun q => V.ref q.1)), I.laid (t' := s.toks) (fun _ _ => PyProof.Rows.sortedAll_old) (Nat.le_succ _) ⟨hlen, out.toArray.toList, ep, hvv, he'⟩, rfl, q _ _ pL pw (I.hok.fresh (Nat.le_succ _))⟩
end
/-- two orders of one row that are both right are one -/
theorem sorted_one {α : Type} {R : α → α → Prop} : ∀ {l m : List α}, l.Perm m → l.Pairwise R → m.Pairwise R → (∀ a ∈ l, ∀ b ∈ l, R a b → R b a → a = b) → l = m
  | [], m, p, _, _, _ => p.nil_eq
  | a :: l, [], p, _, _, _ => absurd p.length_eq (by simp)
  | a :: l, b :: m, p, hl, hm, anti => by
    have e : a = b := by
      have ha : a ∈ b :: m := p.mem_iff.mp List.mem_cons_self
      have hb : b ∈ a :: l := p.mem_iff.mpr List.mem_cons_self
      rcases List.mem_cons.mp ha with e | ha
      · exact e
      · rcases List.mem_cons.mp hb with e | hb
        · exact e.symm
        · exact anti a List.mem_cons_self b (List.mem_cons_of_mem _ hb) ((List.pairwise_cons.mp hl).1 b hb) ((List.pairwise_cons.mp hm).1 a ha)
    subst e
    rw [sorted_one p.cons_inv (List.pairwise_cons.mp hl).2 (List.pairwise_cons.mp hm).2 fun x hx y hy => anti x (List.mem_cons_of_mem _ hx) y (List.mem_cons_of_mem _ hy)]
end L2
namespace CK
open PySem PySem.Spec PyProof.Rows L2 VG FR HD M9
def negL (l : Told) : Told := (l.1, (0 - l.2.1, l.2.2))
def negR (r : Line) : Line := (r.1, (0 - r.2.1.1, r.2.1.2), 0 - r.2.2)
theorem low_neg {a b : Int} (h : M2.Low a b) : M2.Low (0 - a) b := by
  obtain ⟨h1, h2⟩ := h
  refine ⟨h1, ?_⟩
  unfold M2.g at h2 ⊢
  rw [Int.zero_sub, Int.natAbs_neg]
  exact h2
theorem AmtS.neg {p : Q2} (h : AmtS p) : AmtS (0 - p.1, p.2) := ⟨⟨low_neg h.ok.low, h.ok.dvd, by show (0 - p.1).natAbs ≤ _; have := h.ok.top; omega⟩, by show (0 - p.1).natAbs ≤ _; have := h.top; omega, h.bot⟩
theorem cho_neg {p : Q2} (hb : 0 < p.2) : choQ (0 - p.1, p.2) = ((choQ p).map fun n => 0 - n).reverse := by
  unfold choQ
  dsimp only
  have e1 : (0 - p.1) / p.2 = -(-((0 - p.1) / p.2)) := by omega
  have z : 0 - p.1 = -p.1 := Int.zero_sub _
  rw [z, Int.neg_neg]
  by_cases h : p.1 / p.2 = -(-p.1 / p.2)
  · rw [if_pos h, if_pos (by omega)]
    show [-p.1 / p.2] = [0 - p.1 / p.2]
    congr 1
    omega
  · rw [if_neg h, if_neg (by omega)]
    show [-p.1 / p.2, -(p.1 / p.2)] = [0 - -(-p.1 / p.2), 0 - p.1 / p.2]
    congr 1
    · omega
    · congr 1
      omega
theorem lineU_neg (p : Q2) (n : Int) : lineU (0 - p.1, p.2) (0 - n) = -lineU p n := by
  unfold lineU un
  dsimp only
  rw [Int.sub_mul, Int.sub_mul, Int.zero_mul, Int.zero_mul]
  omega
theorem behT_neg {k d : Int} : ∀ {ts : List (List Int)} {zs : List Int}, behT ts (zs.map fun z => -z) k (-d) = (behT ts zs k d).map fun z => -z
  | [], _ => rfl
  | _ :: _, [] => rfl
  | c :: ts, z :: zs => by
    have ih := behT_neg (k := k) (d := d) (ts := ts) (zs := zs)
    have e1 : behT (c :: ts) ((z :: zs).map fun z => -z) k (-d) = (if c.contains k then -z + -d else -z) :: behT ts (zs.map fun z => -z) k (-d) := rfl
    have e2 : behT (c :: ts) (z :: zs) k d = (if c.contains k then z + d else z) :: behT ts zs k d := rfl
    rw [e1, e2, List.map_cons, ih]
    congr 1
    split <;> omega
theorem small_neg (zs : List Int) : smallU (zs.map fun z => -z) = smallU zs := by
  unfold smallU
  rw [List.all_map]
  congr 1
  funext z
  show decide (-DL < -z ∧ -z < DL) = decide (-DL < z ∧ z < DL)
  rw [decide_eq_decide]
  omega
theorem keptF_neg (ts : List (List Int)) : ∀ (rs : List Line) (zs : List Int), keptF ts (zs.map fun z => -z) (rs.map negR) = keptF ts zs rs
  | [], _ => rfl
  | r :: rs, zs => by
    have e : offU ts (zs.map fun z => -z) (negR r) = (offU ts zs r).map fun z => -z := by
      unfold offU
      show behT ts _ (r.1 : Int) (lineU (0 - r.2.1.1, r.2.1.2) (0 - r.2.2)) = _
      rw [lineU_neg]
      exact behT_neg
    show (if smallU (offU ts (zs.map fun z => -z) (negR r)) then keptF ts (offU ts (zs.map fun z => -z) (negR r)) (rs.map negR) else false) = (if smallU (offU ts zs r) then keptF ts (offU ts zs r) rs else false)
    rw [e, small_neg, keptF_neg ts rs]
theorem keptB_neg (ts : List (List Int)) (rs : List Line) : keptB ts (rs.map negR) = keptB ts rs := by
  have q := keptF_neg ts rs (List.replicate ts.length 0)
  rw [List.map_replicate] at q
  exact q
theorem rnd_neg : ∀ (ls : List Told) (F : List (List Line)), (∀ l ∈ ls, 0 < l.2.2) → (ls.map negL).foldl stepR ((F.map fun rs => rs.map negR).reverse) = ((ls.foldl stepR F).map fun rs => rs.map negR).reverse
  | [], _, _ => rfl
  | l :: ls, F, h => by
    rw [List.map_cons, List.foldl_cons, List.foldl_cons, ← rnd_neg ls (stepR F l) fun x hx => h x (List.mem_cons_of_mem _ hx)]
    congr 1
    unfold stepR
    rw [List.map_flatMap, List.reverse_flatMap, ← List.map_reverse, List.flatMap_map]
    congr 1
    funext rs
    unfold dayR
    show (choQ (0 - l.2.1, l.2.2)).map _ = _
    rw [cho_neg (h l List.mem_cons_self)]
    show _ = (List.map (fun rs => rs.map negR) (List.map (fun n => rs ++ [(l.1, l.2, n)]) (choQ l.2))).reverse
    rw [List.map_reverse, List.map_map, List.map_map]
    congr 1
    refine List.map_congr_left fun n _ => ?_
    show rs.map negR ++ [(l.1, (0 - l.2.1, l.2.2), 0 - n)] = (rs ++ [(l.1, l.2, n)]).map negR
    rw [List.map_append]
    rfl
theorem kept_neg {ts : List (List Int)} {ls : List Told} (h : ∀ l ∈ ls, 0 < l.2.2) : keptU ts (ls.map negL) = ((keptU ts ls).map fun rs => rs.map negR).reverse := by
  have q := rnd_neg ls [[]] h
  have q2 : rndU (ls.map negL) = ((rndU ls).map fun rs => rs.map negR).reverse := q
  rw [kept_eq, kept_eq, q2, List.filter_reverse, List.filter_map]
  congr 2
  congr 1
  funext rs
  exact keptB_neg ts rs
end CK
namespace CK
open PySem PySem.Spec PyProof.Rows L2 VG FR HD M9 TU
theorem lexI_own : ∀ a : List Int, lexI a a = false
  | [] => rfl
  | x :: a => by
    show (if x = x then lexI a a else decide (x < x)) = false
    rw [if_pos rfl]
    exact lexI_own a
theorem lexI_snoc {x y : Int} : ∀ {a b : List Int}, a.length = b.length → lexI (a ++ [x]) (b ++ [y]) = if a = b then decide (x < y) else lexI a b
  | [], [], _ => by
    show (if x = y then lexI [] [] else decide (x < y)) = _
    rw [if_pos rfl]
    by_cases e : x = y
    · rw [if_pos e]
      subst e
      simp [lexI]
    · rw [if_neg e]
  | [], _ :: _, h => by cases h
  | _ :: _, [], h => by cases h
  | u :: a, v :: b, h => by
    have ih := lexI_snoc (x := x) (y := y) (a := a) (b := b) (Nat.succ.inj h)
    show (if u = v then lexI (a ++ [x]) (b ++ [y]) else decide (u < v)) = if u :: a = v :: b then decide (x < y) else (if u = v then lexI a b else decide (u < v))
    by_cases e : u = v
    · subst e
      rw [if_pos rfl, if_pos rfl, ih]
      by_cases e2 : a = b
      · rw [if_pos e2, if_pos (by rw [e2])]
      · rw [if_neg e2, if_neg (fun z => e2 (List.cons.inj z).2)]
    · rw [if_neg e, if_neg e, if_neg (fun z => e (List.cons.inj z).1)]
theorem lexI_neg : ∀ {a b : List Int}, a.length = b.length → lexI (a.map fun n => 0 - n) (b.map fun n => 0 - n) = lexI b a
  | [], [], _ => rfl
  | [], _ :: _, h => by cases h
  | _ :: _, [], h => by cases h
  | u :: a, v :: b, h => by
    have ih := lexI_neg (a := a) (b := b) (Nat.succ.inj h)
    show (if 0 - u = 0 - v then lexI (a.map fun n => 0 - n) (b.map fun n => 0 - n) else decide (0 - u < 0 - v)) = if v = u then lexI b a else decide (v < u)
    rw [ih]
    by_cases e : v = u
    · rw [if_pos e, if_pos (by omega)]
    · rw [if_neg e, if_neg (by omega), decide_eq_decide]
      omega
abbrev AscD (F : List (List Line)) : Prop := F.Pairwise fun r s => lexI (whole r) (whole s) = true
theorem whole_snoc (rs : List Line) (r : Line) : whole (rs ++ [r]) = whole rs ++ [r.2.2] := by
  unfold whole
  rw [List.map_append]
  rfl
theorem cho_asc {p : Q2} (hp : 0 < p.2) : (choQ p).Pairwise (· < ·) := by
  rw [choQ_ex hp]
  split
  · exact List.pairwise_singleton _ _
  · refine List.pairwise_cons.mpr ⟨fun x hx => ?_, List.pairwise_singleton _ _⟩
    rw [List.mem_singleton.mp hx]
    omega
theorem rnd_asc : ∀ (ls : List Told) (n : Nat) (F : List (List Line)), (∀ l ∈ ls, 0 < l.2.2) → (∀ rs ∈ F, rs.length = n) → AscD F → AscD (ls.foldl stepR F)
  | [], _, _, _, _, h => h
  | l :: ls, n, F, hl, hn, h => by
    refine rnd_asc ls (n + 1) (stepR F l) (fun x hx => hl x (List.mem_cons_of_mem _ hx)) (fun rs hr => ?_) ?_
    · obtain ⟨r0, h0, hr⟩ := List.mem_flatMap.mp hr
      obtain ⟨z, _, rfl⟩ := List.mem_map.mp hr
      rw [List.length_append, hn r0 h0]
      rfl
    · refine List.pairwise_flatMap.mpr ⟨fun rs hr => ?_, ?_⟩
      · refine List.pairwise_map.mpr ((cho_asc (hl l List.mem_cons_self)).imp fun {a b} hab => ?_)
        rw [whole_snoc, whole_snoc, lexI_snoc rfl, if_pos rfl]
        exact decide_eq_true hab
      · refine List.Pairwise.imp_of_mem (fun {r s} hr hs hrs => ?_) h
        intro x hx y hy
        obtain ⟨a, _, rfl⟩ := List.mem_map.mp hx
        obtain ⟨b, _, rfl⟩ := List.mem_map.mp hy
        have le : (whole r).length = (whole s).length := by
          unfold whole
          rw [List.length_map, List.length_map, hn r hr, hn s hs]
        rw [whole_snoc, whole_snoc, lexI_snoc le, if_neg (fun z => by rw [z, lexI_own] at hrs; cases hrs)]
        exact hrs
theorem kept_asc {ts : List (List Int)} {ls : List Told} (h : ∀ l ∈ ls, 0 < l.2.2) : AscD (keptU ts ls) := by
  rw [kept_eq]
  exact (rnd_asc ls 0 [[]] h (fun rs hr => by rw [List.mem_singleton.mp hr]; rfl) (List.pairwise_singleton _ _)).filter _
theorem pw_any {α : Type} {R : α → α → Prop} : ∀ {l : List α}, l.Pairwise R → ∀ a ∈ l, ∀ b ∈ l, a = b ∨ R a b ∨ R b a
  | x :: l, h, a, ha, b, hb => by
    obtain ⟨h1, h2⟩ := List.pairwise_cons.mp h
    rcases List.mem_cons.mp ha with ea | ha
    · rcases List.mem_cons.mp hb with eb | hb
      · exact .inl (ea.trans eb.symm)
      · rw [ea]
        exact .inr (.inl (h1 b hb))
    · rcases List.mem_cons.mp hb with eb | hb
      · rw [eb]
        exact .inr (.inr (h1 a ha))
      · exact pw_any h2 a ha b hb
/-- a falling row, sorted, is turned round -/
theorem fall_sorted {L L' : List (Addr × List Int)} (h : L.Pairwise fun a b => lexI b.2 a.2 = true) (p : L'.Perm L) (s : L'.Pairwise fun q r => lexI r.2 q.2 = false) : L' = L.reverse := by
  refine sorted_one (p.trans L.reverse_perm.symm) s ?_ fun a ha b hb hab hba => ?_
  · refine List.pairwise_reverse.mpr (h.imp fun {a b} z => ?_)
    exact lexI_asym _ _ z
  · rcases pw_any h a (p.mem_iff.mp ha) b (p.mem_iff.mp hb) with e | e | e
    · exact e
    · rw [hab] at e
      cases e
    · rw [hba] at e
      cases e
theorem frame_rnd : ∀ (ls : List Told) (pre : List Told) (F : List (List Line)), (∀ rs ∈ F, L2.frameOf rs = pre) → ∀ rs ∈ ls.foldl stepR F, L2.frameOf rs = pre ++ ls
  | [], pre, F, h => by
    rw [List.append_nil]
    exact h
  | l :: ls, pre, F, h => by
    have q := frame_rnd ls (pre ++ [l]) (stepR F l) fun rs hr => by
      obtain ⟨r0, h0, hr⟩ := List.mem_flatMap.mp hr
      obtain ⟨z, _, rfl⟩ := List.mem_map.mp hr
      unfold L2.frameOf
      rw [List.map_append]
      show L2.frameOf r0 ++ [l] = pre ++ [l]
      rw [h r0 h0]
    rw [List.append_assoc] at q
    exact q
theorem kept_frame {ts : List (List Int)} {ls : List Told} : ∀ rs ∈ keptU ts ls, L2.frameOf rs = ls := fun rs h => by
  rw [kept_eq] at h
  exact frame_rnd ls [] [[]] (fun rs hr => by rw [List.mem_singleton.mp hr]; rfl) rs (List.mem_filter.mp h).1
def shL (l : Told) (e : Int) : Told := (l.1, (l.2.1 + e * l.2.2, l.2.2))
def shR (r : Line) (e : Int) : Line := (r.1, (r.2.1.1 + e * r.2.1.2, r.2.1.2), r.2.2 + e)
theorem low_sh {a b : Int} (h : M2.Low a b) (e : Int) : M2.Low (a + e * b) b := by
  have q := part_low (p := (a, b)) h (-e)
  have z : a - -e * b = a + e * b := by rw [Int.neg_mul]; omega
  rw [show (a, b).1 - -e * (a, b).2 = a - -e * b from rfl, z] at q
  exact q
theorem cho_sh {p : Q2} (hb : 0 < p.2) (e : Int) : choQ (p.1 + e * p.2, p.2) = (choQ p).map fun n => n + e := by
  have d1 : (p.1 + e * p.2) / p.2 = p.1 / p.2 + e := Int.add_mul_ediv_right _ _ (by omega)
  rw [choQ_ex (p := (p.1 + e * p.2, p.2)) hb, choQ_ex hb]
  dsimp only
  rw [d1, Int.add_mul]
  by_cases h : p.1 / p.2 * p.2 = p.1
  · rw [if_pos h, if_pos (by rw [h])]
    rfl
  · rw [if_neg h, if_neg (by omega)]
    show [p.1 / p.2 + e, p.1 / p.2 + e + 1] = [p.1 / p.2 + e, p.1 / p.2 + 1 + e]
    rw [show p.1 / p.2 + e + 1 = p.1 / p.2 + 1 + e by omega]
theorem lineU_sh {p : Q2} (hb : 0 < p.2) (hd : p.2 ∣ DL) (n e : Int) : lineU (p.1 + e * p.2, p.2) (n + e) = lineU p n := by
  unfold lineU un
  dsimp only
  rw [Int.add_mul, Int.add_mul, Int.mul_assoc e, Int.mul_ediv_cancel' hd]
  omega
theorem keptF_sh (ts : List (List Int)) : ∀ (rs : List Line) (es : List Int) (zs : List Int), rs.length = es.length → (∀ r ∈ rs, 0 < r.2.1.2 ∧ r.2.1.2 ∣ DL) → keptF ts zs (List.zipWith shR rs es) = keptF ts zs rs
  | [], _, _, _, _ => rfl
  | _ :: _, [], _, h, _ => by cases h
  | r :: rs, e :: es, zs, h, hr => by
    have ⟨h1, h2⟩ := hr r List.mem_cons_self
    have eo : offU ts zs (shR r e) = offU ts zs r := by
      unfold offU
      show behT ts zs (r.1 : Int) (lineU (r.2.1.1 + e * r.2.1.2, r.2.1.2) (r.2.2 + e)) = _
      rw [lineU_sh h1 h2]
    show (if smallU (offU ts zs (shR r e)) then keptF ts (offU ts zs (shR r e)) (List.zipWith shR rs es) else false) = (if smallU (offU ts zs r) then keptF ts (offU ts zs r) rs else false)
    rw [eo, keptF_sh ts rs es _ (Nat.succ.inj h) fun x hx => hr x (List.mem_cons_of_mem _ hx)]
theorem rnd_sh : ∀ (ls : List Told) (es pre : List Int) (F : List (List Line)), ls.length = es.length → (∀ l ∈ ls, 0 < l.2.2) → (∀ rs ∈ F, rs.length = pre.length) →
    (List.zipWith shL ls es).foldl stepR (F.map fun rs => List.zipWith shR rs pre) = (ls.foldl stepR F).map fun rs => List.zipWith shR rs (pre ++ es)
  | [], [], pre, F, _, _, _ => by
    rw [List.append_nil]
    rfl
  | [], _ :: _, _, _, h, _, _ => by cases h
  | _ :: _, [], _, _, h, _, _ => by cases h
  | l :: ls, e :: es, pre, F, h, hl, hn => by
    have ih := rnd_sh ls es (pre ++ [e]) (stepR F l) (Nat.succ.inj h) (fun x hx => hl x (List.mem_cons_of_mem _ hx)) fun rs hr => by
      obtain ⟨r0, h0, hr⟩ := List.mem_flatMap.mp hr
      obtain ⟨z, _, rfl⟩ := List.mem_map.mp hr
      rw [List.length_append, hn r0 h0, List.length_append]
      rfl
    rw [List.append_assoc] at ih
    rw [List.zipWith_cons_cons, List.foldl_cons, List.foldl_cons]
    refine Eq.trans ?_ ih
    congr 1
    unfold stepR
    rw [List.map_flatMap, List.flatMap_map]
    have key : ∀ rs ∈ F, dayR (shL l e) (List.zipWith shR rs pre) = (dayR l rs).map fun rs => List.zipWith shR rs (pre ++ [e]) := fun rs hr => by
      unfold dayR
      show (choQ (l.2.1 + e * l.2.2, l.2.2)).map _ = _
      rw [cho_sh (hl l List.mem_cons_self), List.map_map, List.map_map]
      refine List.map_congr_left fun n _ => ?_
      show List.zipWith shR rs pre ++ [(l.1, (l.2.1 + e * l.2.2, l.2.2), n + e)] = List.zipWith shR (rs ++ [(l.1, l.2, n)]) (pre ++ [e])
      rw [List.zipWith_append (hn rs hr)]
      rfl
    clear ih hn
    induction F with
    | nil => rfl
    | cons rs F ihF =>
      rw [List.flatMap_cons, List.flatMap_cons, key rs List.mem_cons_self, ihF fun x hx => key x (List.mem_cons_of_mem _ hx)]
theorem kept_sh {m : Nat} {ts : List (List Int)} {ls : List Told} {es : List Int} (he : ls.length = es.length) (h : ∀ l ∈ ls, TdS m l) : keptU ts (List.zipWith shL ls es) = (keptU ts ls).map fun rs => List.zipWith shR rs es := by
  have q := rnd_sh ls es [] [[]] he (fun l hl => (h l hl).amt.ok.low.1) fun rs hr => by rw [List.mem_singleton.mp hr]; rfl
  have q2 : rndU (List.zipWith shL ls es) = (rndU ls).map fun rs => List.zipWith shR rs es := q
  rw [kept_eq, kept_eq, q2, List.filter_map]
  congr 1
  refine List.filter_congr fun rs hr => ?_
  have len := (rndU_ok ls).1 rs hr
  have rows := rndU_rows h rs hr
  exact keptF_sh ts rs es _ (len.trans he) fun r hr => ⟨(rows r hr).amt.ok.low.1, (rows r hr).amt.ok.dvd⟩
theorem AmtS.sh {p : Q2} (h : AmtS p) (t : p.1.natAbs ≤ 20) {e : Int} (he : e.natAbs ≤ 3) : AmtS (p.1 + e * p.2, p.2) := by
  have b0 := h.ok.low.1
  have b6 := h.bot
  have c : (e * p.2).natAbs ≤ 3 * 6 := by
    rw [Int.natAbs_mul]
    exact Nat.mul_le_mul he (by omega)
  exact ⟨⟨low_sh h.ok.low e, h.ok.dvd, by show (p.1 + e * p.2).natAbs ≤ _; omega⟩, by show (p.1 + e * p.2).natAbs ≤ _; omega, b6⟩
end CK
namespace VG
open PySem PySem.Spec PyProof.Rows L2
/-- the tuple at a and the list at b as they stand at each turn, the items in new pairs -/
def ItzM (K : PySem.W.Frag) (a b : Addr) : It :=
  ⟨fun i H => ∃ (xs ys : List V) (x y : V), SqT K H a xs ∧ SqL K H b ys ∧ xs[i]? = some x ∧ ys[i]? = some y,
    fun i H v H' => ∃ T x y, v = .ref T ∧ H T = none ∧ H' = upd H T (.tup [x, y]) ∧ (∀ xs, SqT K H a xs → xs[i]? = some x) ∧ ∀ ys, SqL K H b ys → ys[i]? = some y,
    fun i H => ∃ xs ys : List V, SqT K H a xs ∧ SqL K H b ys ∧ xs.length = ys.length ∧ xs.length = i⟩
theorem turn_zipM {P : Program} {w : World} {K : PySem.W.Frag} {elts : List Expr} {kk : Nat} {tpos : Pos} {a b z TI TO i1 i2 : Addr} (S : ZipSep2 z TI TO i1 i2 [i1, a] [i2, b]) (n1 : a ≠ i1) (n2 : b ≠ i2) :
    Turn P w K (.Tuple elts kk tpos) (ItzM K a b) [z, TI, TO, i1, i2] z (fun i h => IsZip h z TI TO .none ∧ IsTupOf2 h TI (.ref i1) (.ref i2) ∧ (∃ x y, IsTupOf2 h TO x y) ∧ h.IsTupleIter i1 a i ∧ h.IsListIter i2 b i) where
  mem := by simp
  obj := fun i h st c hc => by
    obtain ⟨hz, hTI, ⟨x, y, hTO⟩, ⟨o1, e1, _, d1⟩, ⟨o2, e2, _, d2⟩⟩ := st
    have e' : c = z ∨ c = TI ∨ c = TO ∨ c = i1 ∨ c = i2 := by simpa using hc
    rcases e' with q | q | q | q | q
    · rw [q]; exact ⟨_, hz, fun v q => nomatch q⟩
    · rw [q]; exact ⟨_, hTI, fun v q => nomatch q⟩
    · rw [q]; exact ⟨_, hTO, fun v q => nomatch q⟩
    · rw [q]; exact ⟨o1, e1, fun v q => by rw [d1] at q; cases q⟩
    · rw [q]; exact ⟨o2, e2, fun v q => by rw [d2] at q; cases q⟩
  keep := fun i h h' st k => by
    obtain ⟨hz, hTI, ⟨x, y, hTO⟩, h1, h2⟩ := st
    exact ⟨k z (by simp) _ hz, k TI (by simp) _ hTI, ⟨x, y, k TO (by simp) _ hTO⟩, h1.at fun o q => k i1 (by simp) o q, h2.at fun o q => k i2 (by simp) o q⟩
  item := by
    intro X hP hw hK hc i pins s σ H E I hf st hg
    subst hP hw hK
    obtain ⟨hz, hTI, hTO, h1, h2⟩ := st
    obtain ⟨xs, ys, x, y, hqx, hqy, hx, hy⟩ := hg
    obtain ⟨its, rv, p, _⟩ := I.tuple hqx
    obtain ⟨its2, rv2, p2, _⟩ := I.list hqy
    obtain ⟨u, hu, ru⟩ := rv.get hx
    obtain ⟨u2, hu2, ru2⟩ := rv2.get hy
    have hd := I.ok.hd hc
    have l1 := (List.getElem?_eq_some_iff.mp hu).1
    have l2 := (List.getElem?_eq_some_iff.mp hu2).1
    have W := GoesN.zip2 (elts := elts) (x1 := kk) (pos := tpos) S (Draws.tuple (prog := X.prog) (w := X.w) (A := X.A.in1) (show X.A.in1.handled = none from hd) i1 a n1 its.toArray) (Draws.list (show X.A.in1.handled = none from hd) i2 b n2 its2.toArray)
    have lv : ∀ c ∈ [z, TI, TO, i1, i2], c < s.heap.objs.size := fun c hcm => by
      have e' : c = z ∨ c = TI ∨ c = TO ∨ c = i1 ∨ c = i2 := by simpa using hcm
      obtain ⟨_, _, hTO'⟩ := hTO
      rcases e' with q | q | q | q | q
      · rw [q]; exact Heap.lt_size hz
      · rw [q]; exact Heap.lt_size hTI
      · rw [q]; exact Heap.lt_size hTO'
      · rw [q]; obtain ⟨_, e1, _⟩ := h1; exact Heap.lt_size e1
      · rw [q]; obtain ⟨_, e2, _⟩ := h2; exact Heap.lt_size e2
    refine wpAny_mono (W.goes i s (fun v s2 => ∃ x H', Inv X pins σ H' s2 ∧ RelV x v ∧ (ItzM X.K a b).yld i H x H' ∧ (IsZip s2.heap z TI TO .none ∧ IsTupOf2 s2.heap TI (.ref i1) (.ref i2) ∧ (∃ x y, IsTupOf2 s2.heap TO x y) ∧ s2.heap.IsTupleIter i1 a (i + 1) ∧ s2.heap.IsListIter i2 b (i + 1)) ∧ ∀ c ∈ [z, TI, TO, i1, i2], H' c = none) E (by simp; omega) ⟨hz, hTI, hTO, ⟨h1, p⟩, ⟨h2, p2.isList⟩⟩ fun v h' tk hY st' hk htk => ?_) (fun r s1 q => q) fun _ _ q => q
    obtain ⟨T, v1, v2, rfl, hn, e1, e2, hT⟩ := hY
    have e1' : v1 = u := by
      have a1 : its[i]? = some v1 := by simpa using e1
      rw [hu] at a1
      exact (Option.some.inj a1).symm
    have e2' : v2 = u2 := by
      have a1 : its2[i]? = some v2 := by simpa using e2
      rw [hu2] at a1
      exact (Option.some.inj a1).symm
    subst e1' e2'
    have new : ObjOk X.prog X.w (upd H T (.tup [x, y])) h' T (.tup [x, y]) := ⟨by show 2 ≤ sizeLine; decide, [v1, v2], .cons ru (.cons ru2 .nil), hT⟩
    have I1 : Inv X pins σ (upd H T (.tup [x, y])) { s with heap := h', toks := tk } :=
      I.turnedNew (ch := [z, TI, TO, i1, i2]) (fun c o hb q => hk c o (fun z => hb (by simp only [List.mem_cons, List.not_mem_nil, or_false] at z ⊢; rcases z with z | z | z | z <;> simp [z])) q) hf hn new
    obtain ⟨g1, g2, g3, g4, g5⟩ := st'
    refine ⟨.ref T, _, I1, rfl, ⟨T, x, y, rfl, I.hok.fresh hn, rfl, fun l hl => by rw [I.tuple_inj hl hqx]; exact hx, fun l hl => by rw [I.list_inj hl hqy]; exact hy⟩, ⟨g1, g2, g3, g4.1, g5.1⟩, fun c hcm => ?_⟩
    have hlt := lv c hcm
    rw [upd_ne (by have : c < T := Nat.lt_of_lt_of_le hlt hn; exact Nat.ne_of_lt this)]
    exact (hf c hcm).1
  done := by
    intro X hP hw hK hc i pins s σ H E I hf st hg
    subst hP hw hK
    obtain ⟨hz, hTI, hTO, h1, h2⟩ := st
    obtain ⟨xs, ys, hqx, hqy, hl, rfl⟩ := hg
    obtain ⟨its, rv, p, _⟩ := I.tuple hqx
    obtain ⟨its2, rv2, p2, _⟩ := I.list hqy
    have hd := I.ok.hd hc
    have l1 := rv.length
    have l2 := rv2.length
    have W := GoesN.zip2 (elts := elts) (x1 := kk) (pos := tpos) S (Draws.tuple (prog := X.prog) (w := X.w) (A := X.A.in1) (show X.A.in1.handled = none from hd) i1 a n1 its.toArray) (Draws.list (show X.A.in1.handled = none from hd) i2 b n2 its2.toArray)
    have em : min its.toArray.size its2.toArray.size = xs.length := by
      simp
      omega
    refine W.stops s (fun s1 => Inv X pins σ H s1) E (by rw [em]; exact ⟨hz, hTI, hTO, ⟨h1, p⟩, ⟨h2, p2.isList⟩⟩) fun h' tk hk htk => ?_
    exact I.turnedL (t' := tk) (ch := [z, TI, TO, i1, i2]) (fun c o hb q => hk c o (fun z => hb (by simp only [List.mem_cons, List.not_mem_nil, or_false] at z ⊢; rcases z with z | z | z | z <;> simp [z])) q) hf
  self := fun A i s Q E st h => wpAny_pyIter_zip st.1 h
def iZipM (K : PySem.W.Frag) (ta : TA) : TI := fun σ H R => ta σ H fun vs H1 => ∃ a b xs ys, vs = [.ref a, .ref b] ∧ SqT K H1 a xs ∧ SqL K H1 b ys ∧ R (ItzM K a b) H1
theorem pi_zipM {X : Cx} {e e2 : Expr} {ta : TA} {p pos tpos : Pos} {elts : List Expr} {kk : Nat} (hg : Gl X "zip") (hm : X.mg "zip" = none) (ha : PA X [e, e2] ta)
    (hs : starEach [e, e2] X.env = (false, eval e X.env) :: starEach [e2] X.env := by rfl) (hpl : (backTo pos (starEach [e2] X.env)).any (·.1) = false := by rfl) :
    PI X (.Tuple elts kk tpos) (.Call (.Name "zip" p) [e, e2] [] pos) (iZipM X.K ta) := by
  refine ⟨fun pins s σ H R I h => ?_⟩
  refine Call_ (ld_blt I hg hm PyProof.Rows.boot_zip (PyProof.Rows.callWith_type1 (thn (ha.run pos pins s σ H _ I h) fun us s1 ⟨vs, H1, I1, r1, q1⟩ => ?_) hs hpl))
  obtain ⟨a, b, xs, ys, ex, hqx, hqy, q⟩ := q1
  subst ex
  cases r1 with
  | cons r rr =>
    cases rr with
    | cons r' rr =>
      cases rr
      cases r
      cases r'
      obtain ⟨its, rv, p1, _⟩ := I1.tuple hqx
      obtain ⟨its2, rv2, p2, _⟩ := I1.list hqy
      have la : a < s1.heap.objs.size := by obtain ⟨_, e, _⟩ := id p1; exact Heap.lt_size e
      have lb : b < s1.heap.objs.size := p2.lt
      refine zip_begins2 (begins_tuple a its.toArray) (begins_list b its2.toArray) p1 p2.isList fun h' hz hTI hTO h1 h2 hsz hk => wpAny_pyIter_zip hz ?_
      have I2 : Inv X pins σ H1 { s1 with heap := h' } := I1.kept (t' := s1.toks) hk
      refine ⟨s1.heap.objs.size + 4, [s1.heap.objs.size + 4, s1.heap.objs.size + 2, s1.heap.objs.size + 3, s1.heap.objs.size, s1.heap.objs.size + 1], _, _, H1, rfl, I2, turn_zipM (zip_sep2 (fp1 := [a]) (fp2 := [b]) (fun c hc => by rw [List.mem_singleton.mp hc]; exact la) (fun c hc => by rw [List.mem_singleton.mp hc]; exact lb)) (Nat.ne_of_lt la) (Nat.ne_of_lt (Nat.lt_succ_of_lt lb)), ⟨hz, hTI, ⟨_, _, hTO⟩, ⟨_, h1, rfl, rfl⟩, ⟨_, h2, rfl, rfl⟩⟩, fun c hcm => ?_, q⟩
      have e' : c = s1.heap.objs.size + 4 ∨ c = s1.heap.objs.size + 2 ∨ c = s1.heap.objs.size + 3 ∨ c = s1.heap.objs.size ∨ c = s1.heap.objs.size + 1 := by simpa using hcm
      have hle : s1.heap.objs.size ≤ c := by
        rcases e' with z | z | z | z | z
        · rw [z]; exact Nat.le_add_right _ _
        · rw [z]; exact Nat.le_add_right _ _
        · rw [z]; exact Nat.le_add_right _ _
        · rw [z]; exact Nat.le_refl _
        · rw [z]; exact Nat.le_add_right _ _
      exact I1.fpOk hle (I1.hok.fresh hle)
theorem walk_zipM {K : PySem.W.Frag} {a b : Addr} {xs ys : List V} (hl : xs.length = ys.length) : Walk (ItzM K a b) xs.length (fun H => SqT K H a xs ∧ SqL K H b ys) (YPair (fun i => xs[i]?) (fun i => ys[i]?)) := by
  constructor
  · intro i H hi hG
    have h1 : i < xs.length := hi
    have h2 : i < ys.length := by omega
    exact ⟨xs, ys, xs[i], ys[i], hG.1, hG.2, List.getElem?_eq_getElem h1, List.getElem?_eq_getElem h2⟩
  · intro H hG
    exact ⟨xs, ys, hG.1, hG.2, hl, rfl⟩
  · intro i H v H' hi hG hy
    obtain ⟨T, x, y, e1, e2, e3, e4, e5⟩ := hy
    exact ⟨T, x, y, e1, e2, e3, e4 xs hG.1, e5 ys hG.2⟩
end VG
namespace CK
open PySem PySem.Spec PyProof.Rows L2 VG FR HD M9 TU
theorem TdAt.updL {K : PySem.W.Frag} {H : Hp} {D : Addr} {v : V} {ys zs : List V} {l : Told} (hD : H D = some (.lst ys)) (h : TdAt K H v l) : TdAt K (L2.upd H D (.lst zs)) v l := by
  obtain ⟨t, u, e, h1, h2⟩ := h
  exact ⟨t, u, e, seqT_upd hD h1, seqT_upd hD h2⟩
theorem LR.reverse {α : Type} {R : V → α → Prop} : ∀ {vs : List V} {rs : List α}, LR R vs rs → LR R vs.reverse rs.reverse
  | [], [], _ => trivial
  | v :: vs, r :: rs, h => by
    rw [List.reverse_cons, List.reverse_cons]
    exact (LR.reverse h.2).append (show LR R [v] [r] from ⟨h.1, trivial⟩)
  | [], _ :: _, h => h.elim
  | _ :: _, [], h => h.elim
theorem days_rows {K : PySem.W.Frag} {H : Hp} : ∀ {zs : List V} {ds : List (List Line)}, LR (DayV K H) zs ds → ∃ L : List (Addr × List Int), zs = L.map (fun q => V.ref q.1) ∧ L.map (·.2) = ds.map whole ∧ ∀ p ∈ L, ∃ rs ∈ ds, DayT K H p.1 rs ∧ whole rs = p.2
  | [], [], _ => ⟨[], rfl, rfl, fun p hp => absurd hp List.not_mem_nil⟩
  | _ :: _, rs :: _, ⟨⟨d, e, h⟩, r⟩ => by
    obtain ⟨L, e1, e2, h3⟩ := days_rows r
    subst e
    refine ⟨(d, whole rs) :: L, by rw [e1]; rfl, by rw [List.map_cons, List.map_cons, e2], fun p hp => ?_⟩
    rcases List.mem_cons.mp hp with z | hp
    · subst z
      exact ⟨rs, List.mem_cons_self, h, rfl⟩
    · obtain ⟨r2, hr2, q⟩ := h3 p hp
      exact ⟨r2, List.mem_cons_of_mem _ hr2, q⟩
  | [], _ :: _, h => h.elim
  | _ :: _, [], h => h.elim
theorem sh_told {m : Nat} : ∀ {ls : List Told} {es : List Int}, (∀ x ∈ ls, TdS m x) → (∀ x ∈ ls, x.2.1.natAbs ≤ 20) → (∀ e ∈ es, e.natAbs ≤ 3) → ∀ x ∈ List.zipWith shL ls es, TdOk m x
  | [], _, _, _, _, x, hx => by cases hx
  | _ :: _, [], _, _, _, x, hx => by cases hx
  | l :: ls, e :: es, h1, h2, h3, x, hx => by
    rw [List.zipWith_cons_cons] at hx
    rcases List.mem_cons.mp hx with z | hx
    · subst z
      have t := h1 l List.mem_cons_self
      exact ⟨t.kind, (t.amt.sh (h2 l List.mem_cons_self) (h3 e List.mem_cons_self)).ok⟩
    · exact sh_told (fun x hx => h1 x (List.mem_cons_of_mem _ hx)) (fun x hx => h2 x (List.mem_cons_of_mem _ hx)) (fun x hx => h3 x (List.mem_cons_of_mem _ hx)) x hx
theorem units20 {k : Nat} {A : Around} (hr : Room k A) : A.units + 20 < cLine := by
  have := hr.un
  omega
def spTurned (K : PySem.W.Frag) (C : Addr) : Sp := fun vs H Q _ => ∃ (p q a l : Addr) (G : Hp) (ks : List Str) (ts : List (List Int)) (ls : List Told), vs = [.ref p, .ref a, .ref l] ∧ On p q G H ∧ Tab K C G a ks ts ∧ TabOk ks ts ∧ SmallIn K G l ks.length ls ∧
  (∀ x ∈ ls, x.2.1.natAbs ≤ 20) ∧ ls.length ≤ 6 ∧ ∀ H', On p q G H' → Q (.bl true) H'
end CK
namespace K10
open PySem PySem.Spec PyProof.Rows L2 VG FR CK HD M9
abbrev s__law_turned_right : Stmt := topS 66
abbrev N__law_turned_right : List Str := ["heap", "table", "lines", "days", "more", "other", "turned", "day", "line", "kind", "amount", "extra", "whole", "item"]
theorem sc__law_turned_right : FnScope N__law_turned_right ["heap", "table", "lines"] (defScope s__law_turned_right) := ⟨rfl, rfl, rfl, by decide +kernel, rfl, by decide +kernel, by decide +kernel⟩
section
variable {P : Program} {w : World} {K : PySem.W.Frag} {mg : Str → Option Value} {base : Heap}
theorem ok__law_turned_right {f C R : Addr} {fd : FuncData} (F : Fun K "_law_turned_right" "_law_turned_right" s__law_turned_right f fd) (C__law_draw : Cl P w K mg base 1 "_law_draw" spDraw) (C_kept_days : Cl P w K mg base 5 "kept_days" (fun vs H Q _ => spKept K C R vs H Q E0))
    (z_tuple : mg "tuple" = none) (z_sorted : mg "sorted" = none) (z_zip : mg "zip" = none) : FnOk P w K mg base CX0 9 f fd ["heap", "table", "lines"] (spTurned K C) := by
  refine F.ok sc__law_turned_right (fun vs H Q E h => ?_) (fun cdv A outer s H vs Q E hr h => ?_)
  · obtain ⟨_, _, _, _, _, _, _, _, rfl, _⟩ := h
    rfl
  · obtain ⟨p, q, a, l, G, ks, ts, ls, rfl, on, hTab, ok, hSm, h20, l6, fin⟩ := h
    refine ⟨_, (pss_cons (ps_asg (pe_tup (pa_cons (pe_cl C_kept_days hr (by decide) rfl (pa_cons (pv 1) (pa_cons (pv 2) pa_nil))) (pa_cons (pe_lc (own := [("line", 8)]) (by rfl) sc__law_turned_right.nd (pi_tup (pv 2)) (blkOk_by (own := [("line", 8)]) (N := N__law_turned_right) (sc := defScope s__law_turned_right) (by decide +kernel)) (fun _ _ _ _ _ => (pg_name (i := 8) sc__law_turned_right.nd rfl (.inl rfl))) (fun _ _ _ _ _ => pts_nil) (fun _ _ _ _ _ => (pe_op op_sub (pe_cl C__law_draw hr (by decide) rfl (pa_cons (pv 0) (pa_cons pe_int pa_nil))) pe_int))) pa_nil))) (pg_tup rfl (pgs_cons (pg_name (i := 3) sc__law_turned_right.nd rfl (.inl rfl)) (pgs_cons (pg_name (i := 4) sc__law_turned_right.nd rfl (.inr rfl)) pgs_nil))))
    (pss_cut (ps_set (i := 5) sc__law_turned_right.nd rfl (.inl rfl) (pe_callTy call_tupE (by rfl) z_tuple (by decide +kernel) (pa_cons (pe_lc (own := [("kind", 9), ("amount", 10)]) (by rfl) sc__law_turned_right.nd (pi_tup (pv 2)) (blkOk_by (own := [("kind", 9), ("amount", 10)]) (N := N__law_turned_right) (sc := defScope s__law_turned_right) (by decide +kernel)) (fun _ _ _ _ _ => (show PG _ _ (gTup K 2 _) from pg_tup rfl (pgs_cons (pg_name (i := 9) sc__law_turned_right.nd rfl (.inl rfl)) (pgs_cons (pg_name (i := 10) sc__law_turned_right.nd rfl (.inl rfl)) pgs_nil)))) (fun _ _ _ _ _ => pts_nil) (fun _ _ _ _ _ => (pe_tup (pa_cons (pv 9) (pa_cons (pe_tup (pa_cons (pe_op op_sub pe_int (pe_ix (show IxR _ (rIxT K) from ix_tup) (pv 10) pe_int (fun _ _ => rfl))) (pa_cons (pe_ix (show IxR _ (rIxT K) from ix_tup) (pv 10) pe_int (fun _ _ => rfl)) pa_nil))) pa_nil))))) pa_nil)))
    (pss_cons (ps_setLc (i := 6) (own := [("day", 7)]) (by rfl) sc__law_turned_right.nd rfl rfl (sw_true rfl rfl rfl (by decide +kernel)) (pi_tup (pv 3)) (blkOk_by (own := [("day", 7)]) (N := N__law_turned_right) (sc := defScope s__law_turned_right) (by decide +kernel)) (fun _ _ _ _ _ => (pg_name (i := 7) sc__law_turned_right.nd rfl (.inl rfl))) (fun _ _ _ _ _ => pts_nil) (fun _ _ _ _ _ => (pe_callTy (show CallR _ (.type "tuple") (rTupE K) from call_tupE) (by rfl) z_tuple (by decide +kernel) (pa_cons (pe_lc (own := [("kind", 9), ("amount", 10), ("whole", 12)]) (by rfl) sc__law_turned_right.nd (show PI _ _ _ (iTup K _) from pi_tup (pv 7)) (blkOk_by (own := [("kind", 9), ("amount", 10), ("whole", 12)]) (N := N__law_turned_right) (sc := { kind := .function, names := [((".0" : String), .local), (("day" : String), .local), (("tuple" : String), .globalImplicit)], isGenerator := false, isCoroutine := false }) (by decide +kernel)) (fun _ _ _ _ _ => (show PG _ _ (gTup K 3 _) from pg_tup rfl (pgs_cons (pg_name (i := 9) sc__law_turned_right.nd rfl (.inl rfl)) (pgs_cons (pg_name (i := 10) sc__law_turned_right.nd rfl (.inl rfl)) (pgs_cons (pg_name (i := 12) sc__law_turned_right.nd rfl (.inl rfl)) pgs_nil))))) (fun _ _ _ _ _ => pts_nil) (fun _ _ _ _ _ => (pe_tup (pa_cons (pv 9) (pa_cons (pe_tup (pa_cons (pe_op op_sub pe_int (pe_ix (show IxR _ (rIxT K) from ix_tup) (pv 10) pe_int (fun _ _ => rfl))) (pa_cons (pe_ix (show IxR _ (rIxT K) from ix_tup) (pv 10) pe_int (fun _ _ => rfl)) pa_nil))) (pa_cons (pe_op op_sub pe_int (pv 12)) pa_nil)))))) pa_nil))))
    (pss_cons (ps_if (pt_cmpR (op_neD hr.units) (pe_cl C_kept_days hr (by decide) rfl (pa_cons (pv 1) (pa_cons (pv 5) pa_nil))) (pe_callTy call_tupE (by rfl) z_tuple (by decide +kernel) (pa_cons (pe_callB (cr_sortN (units20 hr)) (by rfl) z_sorted (by decide +kernel) (pa_cons (pv 6) pa_nil)) pa_nil)) (nomark _))
      (pss_one (ps_ret pe_bl))
      pss_nil)
    (pss_cut (ps_set (i := 5) sc__law_turned_right.nd rfl (.inl rfl) (pe_callTy call_tupE (by rfl) z_tuple (by decide +kernel) (pa_cons (pe_lc (own := [("line", 8), ("extra", 11)]) (by rfl) sc__law_turned_right.nd (pi_zipM (by rfl) z_zip (pa_cons (pv 2) (pa_cons (pv 4) pa_nil))) (blkOk_by (own := [("line", 8), ("extra", 11)]) (N := N__law_turned_right) (sc := defScope s__law_turned_right) (by decide +kernel)) (fun _ _ _ _ _ => (show PG _ _ (gTup K 2 _) from pg_tup rfl (pgs_cons (pg_name (i := 8) sc__law_turned_right.nd rfl (.inl rfl)) (pgs_cons (pg_name (i := 11) sc__law_turned_right.nd rfl (.inl rfl)) pgs_nil)))) (fun _ _ _ _ _ => pts_nil) (fun _ _ _ _ _ => (pe_tup (pa_cons (pe_ix (show IxR _ (rIxT K) from ix_tup) (pv 8) pe_int (fun _ _ => rfl)) (pa_cons (pe_tup (pa_cons (pe_op op_add (pe_ix (show IxR _ (rIxT K) from ix_tup) (pe_ix (show IxR _ (rIxT K) from ix_tup) (pv 8) pe_int (fun _ _ => rfl)) pe_int (fun _ _ => rfl)) (pe_op op_mulW (pv 11) (pe_ix (show IxR _ (rIxT K) from ix_tup) (pe_ix (show IxR _ (rIxT K) from ix_tup) (pv 8) pe_int (fun _ _ => rfl)) pe_int (fun _ _ => rfl)))) (pa_cons (pe_ix (show IxR _ (rIxT K) from ix_tup) (pe_ix (show IxR _ (rIxT K) from ix_tup) (pv 8) pe_int (fun _ _ => rfl)) pe_int (fun _ _ => rfl)) pa_nil))) pa_nil))))) pa_nil)))
    (pss_cons (ps_setLc (i := 6) (own := [("day", 7)]) (by rfl) sc__law_turned_right.nd rfl rfl (sw_true rfl rfl rfl (by decide +kernel)) (pi_tup (pv 3)) (blkOk_by (own := [("day", 7)]) (N := N__law_turned_right) (sc := defScope s__law_turned_right) (by decide +kernel)) (fun _ _ _ _ _ => (pg_name (i := 7) sc__law_turned_right.nd rfl (.inl rfl))) (fun _ _ _ _ _ => pts_nil) (fun _ _ _ _ _ => (pe_callTy (show CallR _ (.type "tuple") (rTupE K) from call_tupE) (by rfl) z_tuple (by decide +kernel) (pa_cons (pe_lc (own := [("item", 13), ("extra", 11)]) (by rfl) sc__law_turned_right.nd (show PI _ _ _ (iZipM K _) from pi_zipM (by rfl) z_zip (pa_cons (pv 7) (pa_cons (pv 4) pa_nil))) (blkOk_by (own := [("item", 13), ("extra", 11)]) (N := N__law_turned_right) (sc := { kind := .function, names := [((".0" : String), .local), (("day" : String), .local), (("tuple" : String), .globalImplicit), (("zip" : String), .globalImplicit), (("more" : String), .cell)], isGenerator := false, isCoroutine := false }) (by decide +kernel)) (fun _ _ _ _ _ => (show PG _ _ (gTup K 2 _) from pg_tup rfl (pgs_cons (pg_name (i := 13) sc__law_turned_right.nd rfl (.inl rfl)) (pgs_cons (pg_name (i := 11) sc__law_turned_right.nd rfl (.inl rfl)) pgs_nil)))) (fun _ _ _ _ _ => pts_nil) (fun _ _ _ _ _ => (pe_tup (pa_cons (pe_ix (show IxR _ (rIxT K) from ix_tup) (pv 13) pe_int (fun _ _ => rfl)) (pa_cons (pe_tup (pa_cons (pe_op op_add (pe_ix (show IxR _ (rIxT K) from ix_tup) (pe_ix (show IxR _ (rIxT K) from ix_tup) (pv 13) pe_int (fun _ _ => rfl)) pe_int (fun _ _ => rfl)) (pe_op op_mulW (pv 11) (pe_ix (show IxR _ (rIxT K) from ix_tup) (pe_ix (show IxR _ (rIxT K) from ix_tup) (pv 13) pe_int (fun _ _ => rfl)) pe_int (fun _ _ => rfl)))) (pa_cons (pe_ix (show IxR _ (rIxT K) from ix_tup) (pe_ix (show IxR _ (rIxT K) from ix_tup) (pv 13) pe_int (fun _ _ => rfl)) pe_int (fun _ _ => rfl)) pa_nil))) (pa_cons (pe_op op_add (pe_ix (show IxR _ (rIxT K) from ix_tup) (pv 13) pe_int (fun _ _ => rfl)) (pv 11)) pa_nil)))))) pa_nil))))
    (pss_one (ps_ret (pe_cmpR (op_eqD hr.units) (pe_cl C_kept_days hr (by decide) rfl (pa_cons (pv 1) (pa_cons (pv 5) pa_nil))) (pe_callTy call_tupE (by rfl) z_tuple (by decide +kernel) (pa_cons (pv 6) pa_nil)) (nomark _)))))))))), ?_⟩
    have big : sizeLine = 16777216 := by decide
    have pos : ∀ x ∈ ls, 0 < x.2.2 := by
      obtain ⟨_, _, _, h⟩ := hSm
      exact fun x hx => (h x hx).amt.ok.low.1
    have tds : ∀ x ∈ ls, TdS ks.length x := by
      obtain ⟨_, _, _, h⟩ := hSm
      exact h
    have run := run_ok (ts := ts) (m := ks.length) (ls := ls) fun x hx => (tds x hx).told
    have kl : (keptU ts ls).length ≤ 64 := by
      unfold keptU
      rw [List.length_map]
      have := Nat.pow_le_pow_right (show 0 < 2 by decide) l6
      have e : 2 ^ 6 = 64 := by decide
      omega
    have k6 : ∀ rs ∈ keptU ts ls, rs.length = ls.length := fun rs h => by
      rw [kept_eq] at h
      exact (rndU_ok ls).1 rs (List.mem_filter.mp h).1
    refine ⟨_, rfl, _, rfl, a, l, ks, ts, ls, rfl, hTab.mono on.le, ok, hSm.told.mono on.le, by omega, fun _ H1 u1 s1 hu1 => ?_, fun z => absurd z (by omega)⟩
    have on1 := on.same s1
    have uB := hu1.frz on1.hd
    have GB := on1.base.2
    have base := On.start on1.hd
    generalize frz p q H1 = B at *
    obtain ⟨lv, hS, hL, _⟩ := hSm
    have ll := hL.len
    refine ⟨_, rfl, l, rfl, ⟨_, seqT (GB.trans base.le) hS⟩, fun D nD => ?_⟩
    have fD := base.free nD
    refine lc_it (walk_tup (K := K) (a := l) (xs := lv)) (fun i H' => On p q B H' ∧ ∃ es : List Int, H' D = some (.lst (es.map V.int)) ∧ es.length = i ∧ ∀ e ∈ es, e.natAbs ≤ 3) ⟨base.new nD, [], upd_same, rfl, fun e he => absurd he List.not_mem_nil⟩ (fun i H' _ h => seqT (GB.trans h.1.le) hS) ?_ ?_
    · rintro i v H2 H3 hi ⟨on2, es, kD, le, e3⟩ ⟨e2, ex⟩
      subst e2
      refine ⟨rfl, _, rfl, p, q, _, rfl, on2.hd, by decide, by decide, fun H4 r hd4 kp4 r0 r1 => ?_⟩
      have on4 := on2.draw hd4 kp4
      refine ⟨_, _, rfl, rfl, _, kp4 _ _ fD.1 fD.2.1 kD, by rw [List.length_map]; omega, on4.put fD, es ++ [r - 3], by rw [upd_same, List.map_append]; rfl, by rw [List.length_append, le]; rfl, fun e he => ?_⟩
      rcases List.mem_append.mp he with h | h
      · exact e3 e h
      · rw [List.mem_singleton.mp h]
        omega
    rintro H2 ⟨on2, es, kD, le, e3⟩
    have le2 : ls.length = es.length := by rw [le, ll]
    refine ⟨by show 2 ≤ sizeLine; decide, fun T0 nT0 => ?_⟩
    generalize eH3 : L2.upd H2 T0 _ = H3
    have s3 := same_of nT0 eH3
    have k3 := at_of eH3
    clear eH3
    refine ⟨T0, _, rfl, .inl (.inl k3), rfl, _, _, rfl, _, _, rfl, rfl, ?_⟩
    have on3 := on2.same s3
    have hu3 := uB.mono on3.le
    have kD3 := s3 _ _ kD
    have hTab3 := hTab.mono (GB.trans on3.le)
    have hS3 := seqT (GB.trans on3.le) hS
    have hL3 : LR (TdAt K H3) lv ls := hL.imp fun _ _ q => q.mono (GB.trans on3.le)
    have fin : ∀ H', Same H3 H' → Q (.bl true) H' := fun H' s => fin H' ((on3.same s).drop GB)
    clear kD on2 on3 uB hu1 on1 GB base hTab hS hL k3 s3 nT0 fD s1 on
    -- the lines turned round
    refine ⟨fun σ H' => (∃ o1 : Addr, (∃ y6 y7 y8 y9 y10 y11 y12 y13 : Option V, σ = [some (.ref p), some (.ref a), some (.ref l), some (.ref u1), some (.ref D), some (.ref o1), y6, y7, y8, y9, y10, y11, y12, y13]) ∧ ToldIn K H' o1 ks.length (ls.map negL)) ∧ Same H3 H', ?_, ?_⟩
    refine ⟨_, rfl, l, rfl, ⟨_, hS3⟩, fun O nO => ?_⟩
    refine lc_it (walk_tup (K := K) (a := l) (xs := lv)) (fun i H' => Same H3 H' ∧ ∃ zs, H' O = some (.lst zs) ∧ LR (TdAt K H') zs ((ls.take i).map negL)) ⟨same_upd nO, [], upd_same, trivial⟩ (fun i H' _ h => seqT h.1 hS3) ?_ ?_
    · rintro i v H4 H5 hi ⟨s4, zs, kO, hzs⟩ ⟨e2, ex⟩
      subst e2
      obtain ⟨td, etd, t1, w1, rfl, h1, h2⟩ := hL3.get ex
      have lz := hzs.len
      rw [List.length_map, List.length_take] at lz
      have hq := seqT s4 h2
      refine ⟨t1, _, rfl, seqT s4 h1, rfl, _, _, rfl, _, _, rfl, rfl, rfl, ?_⟩
      refine ⟨_, rfl, _, rfl, w1, _, _, _, rfl, rfl, hq, at0 _ _, _, _, rfl, rfl, _, rfl, w1, _, _, _, rfl, rfl, hq, at1 _ _, by show 2 ≤ sizeLine; decide, fun y ny => ?_⟩
      generalize eH6 : L2.upd H5 y _ = H6
      have s6 := same_of ny eH6
      have k6 := at_of eH6
      clear eH6
      refine ⟨by show 2 ≤ sizeLine; decide, fun x nx => ?_⟩
      generalize eH7 : L2.upd H6 x _ = H7
      have s7 := same_of nx eH7
      have k7 := at_of eH7
      clear eH7
      have kO7 := (s6.trans s7) _ _ kO
      refine ⟨zs, kO7, by omega, HD.same_put (s4.trans (s6.trans s7)) nO, zs ++ [.ref x], upd_same, ?_⟩
      rw [List.take_add_one, etd, List.map_append]
      exact ((hzs.imp fun _ _ q => q.mono (s6.trans s7)).append (show LR (TdAt K H7) [.ref x] [negL td] from ⟨⟨x, y, rfl, .inl (.inl k7), .inl (.inl (s7 _ _ k6))⟩, trivial⟩)).imp fun _ _ q => q.updL kO7
    rintro H4 ⟨s4, zs, kO, hzs⟩
    rw [ll, List.take_of_length_le (Nat.le_refl _)] at hzs
    refine ⟨O, zs, rfl, .inl (.inl (.inl kO)), fun H5 o1 s5 ho1 => ?_⟩
    have hO : ToldIn K H5 o1 ks.length (ls.map negL) := ⟨zs, ho1, hzs.imp fun _ _ q => q.mono s5, fun x hx => by
      obtain ⟨y, hy, rfl⟩ := List.mem_map.mp hx
      exact ⟨(tds y hy).kind, (tds y hy).amt.neg.ok⟩⟩
    exact ⟨⟨o1, ⟨_, _, _, _, _, _, _, _, rfl⟩, hO⟩, s4.trans s5⟩
    rintro σ H5 ⟨⟨o1, ⟨y6, y7, y8, y9, y10, y11, y12, y13, rfl⟩, hO⟩, s35⟩
    -- the days turned round
    have hu5 := hu3.mono s35
    obtain ⟨dv, hdv, hdl⟩ := hu5
    have ldv := hdl.len
    refine ⟨_, rfl, u1, rfl, ⟨_, hdv⟩, fun T nT => ?_⟩
    refine lc_it (walk_tup (K := K) (a := u1) (xs := dv)) (fun i H' => Same H5 H' ∧ ∃ zs, H' T = some (.lst zs) ∧ LR (DayV K H') zs (((keptU ts ls).take i).map fun rs => rs.map negR)) ⟨same_upd nT, [], upd_same, trivial⟩ (fun i H' _ h => seqT h.1 hdv) ?_ ?_
    · rintro i v H6 H7 hi ⟨s6, zs, kT, hzs⟩ ⟨e2, ex⟩
      subst e2
      obtain ⟨rs, ers, d, rfl, dxs, hd1, hd2⟩ := hdl.get ex
      have mr := List.mem_of_getElem? ers
      have lrs := k6 rs mr
      have ld := hd2.len
      have lz := hzs.len
      rw [List.length_map, List.length_take] at lz
      refine ⟨rfl, ?_⟩
      refine ⟨_, rfl, d, rfl, ⟨_, seqT s6 hd1⟩, fun I nI => ?_⟩
      refine lc_it (walk_tup (K := K) (a := d) (xs := dxs)) (fun j H' => Same H7 H' ∧ ∃ ws, H' I = some (.lst ws) ∧ Lines K H' ws ((rs.take j).map negR)) ⟨same_upd nI, [], upd_same, trivial⟩ (fun j H' _ h => seqT (s6.trans h.1) hd1) ?_ ?_
      · rintro j v H8 H9 hj ⟨s8, ws, kI, hws⟩ ⟨e2, ev⟩
        subst e2
        obtain ⟨r, er, t1, w1, rfl, h1, h2⟩ := hd2.get ev
        have lw := hws.len
        rw [List.length_map, List.length_take] at lw
        have s69 := s6.trans s8
        have hq := seqT s69 h2
        refine ⟨t1, _, rfl, seqT s69 h1, rfl, _, _, rfl, _, _, rfl, _, _, rfl, rfl, ?_⟩
        refine ⟨rfl, ?_⟩
        refine ⟨_, rfl, _, rfl, w1, _, _, _, rfl, rfl, hq, at0 _ _, _, _, rfl, rfl, _, rfl, w1, _, _, _, rfl, rfl, hq, at1 _ _, by show 2 ≤ sizeLine; decide, fun y ny => ?_⟩
        generalize eH10 : L2.upd H9 y _ = H10
        have s10 := same_of ny eH10
        have k10 := at_of eH10
        clear eH10
        refine ⟨_, rfl, _, _, rfl, rfl, by show 3 ≤ sizeLine; decide, fun x nx => ?_⟩
        generalize eH11 : L2.upd H10 x _ = H11
        have s11 := same_of nx eH11
        have k11 := at_of eH11
        clear eH11
        have kI11 := (s10.trans s11) _ _ kI
        refine ⟨ws, kI11, by omega, HD.same_put (s8.trans (s10.trans s11)) nI, ws ++ [.ref x], upd_same, ?_⟩
        rw [List.take_add_one, er, List.map_append]
        have new : LineAt K H11 (.ref x) (negR r) := ⟨x, y, rfl, .inl (.inl k11), .inl (.inl (s11 _ _ k10))⟩
        exact Lines.updL kI11 (Lines.snoc new (hws.mono (s10.trans s11)))
      · rintro H8 ⟨s8, ws, kI, hws⟩
        rw [ld, List.take_of_length_le (Nat.le_refl _)] at hws
        refine ⟨I, ws, rfl, .inl (.inl (.inl kI)), fun H9 z s9 hz => ?_⟩
        have kT9 := (s8.trans s9) _ _ kT
        refine ⟨zs, kT9, by omega, HD.same_put (s6.trans (s8.trans s9)) nT, zs ++ [.ref z], upd_same, ?_⟩
        rw [List.take_add_one, ers, List.map_append]
        have new : DayV K H9 (.ref z) (rs.map negR) := ⟨z, rfl, ws, hz, hws.mono s9⟩
        exact ((hzs.imp fun _ _ q => q.mono (s8.trans s9)).append (show LR (DayV K H9) [.ref z] [rs.map negR] from ⟨new, trivial⟩)).imp fun _ _ q => q.updL kT9
    rintro H6 ⟨s6, zs, kT, hzs⟩
    rw [ldv, List.take_of_length_le (Nat.le_refl _)] at hzs
    have s36 := s35.trans s6
    refine ⟨_, rfl, _, rfl, a, o1, ks, ts, ls.map negL, rfl, hTab3.mono s36, ok, hO.mono s6, by rw [List.length_map]; omega, fun _ H7 u7 s7 hu7 => ?_, fun z => absurd z (by rw [List.length_map]; omega)⟩
    rw [kept_neg pos] at hu7
    obtain ⟨L, eL, e2, hLr⟩ := days_rows (hzs.imp fun _ _ q => q.mono s7)
    have lL : L.length = (keptU ts ls).length := by
      have := congrArg List.length e2
      rw [List.length_map, List.length_map, List.length_map] at this
      exact this
    have kT7 := s7 _ _ kT
    rw [eL] at kT7
    refine ⟨_, rfl, T, L, ls.map negL, rfl, .inl (.inl kT7), fun x hx => ?_, fun h2 z => ?_, fun L' pp pm pw np => ?_⟩
    · obtain ⟨rs, hr, hd, hw⟩ := hLr x hx
      obtain ⟨r0, h0, rfl⟩ := List.mem_map.mp hr
      refine ⟨_, hd, ?_, hw⟩
      have f0 := kept_frame r0 h0
      show (r0.map negR).map (fun r => (r.1, r.2.1)) = ls.map negL
      conv => rhs; rw [← f0]
      show _ = (r0.map fun r => (r.1, r.2.1)).map negL
      rw [List.map_map, List.map_map]
      rfl
    · have e0 : ls = [] := List.map_eq_nil_iff.mp z
      have := run.2
      rw [e0] at this
      unfold keptU at lL
      rw [List.length_map, e0] at lL
      have one : 2 ^ ([] : List Told).length = 1 := rfl
      omega
    · have fall : L.Pairwise fun a b => TU.lexI b.2 a.2 = true := by
        have q : (L.map (·.2)).Pairwise fun a b => TU.lexI b a = true := by
          rw [e2, List.map_map]
          refine List.pairwise_map.mpr (List.Pairwise.imp_of_mem (fun {r s} hr hs hrs => ?_) (kept_asc (ts := ts) pos))
          have n1 : ∀ rs : List Line, whole (rs.map negR) = (whole rs).map fun n => 0 - n := fun rs => by
            unfold whole
            rw [List.map_map, List.map_map]
            rfl
          show TU.lexI (whole (s.map negR)) (whole (r.map negR)) = true
          rw [n1, n1, lexI_neg (by unfold whole; rw [List.length_map, List.length_map, k6 r hr, k6 s hs])]
          exact hrs
        exact List.pairwise_map.mp q
      have eS := fall_sorted fall pm pw
      subst eS
      generalize eH8 : L2.upd H7 pp _ = H8
      have s8 := same_of np eH8
      have k8 := at_of eH8
      clear eH8
      refine ⟨pp, _, rfl, .inl (.inl (.inl k8)), fun H9 z s9 hz => ?_⟩
      have s79 := s8.trans s9
      have hz2 : DaysT K H9 z ((keptU ts ls).map fun rs => rs.map negR).reverse := by
        refine ⟨_, hz, ?_⟩
        rw [List.map_reverse, ← eL]
        exact (hzs.imp fun _ _ q => q.mono (s7.trans s79)).reverse
      refine ⟨_, _, dp_days (hu7.mono s79), dp_days hz2, shaped_days _, shaped_days _, _, rfl, ite_eq false (congrArg Bool.not ((eqv_days _ _).trans (decide_eq_true rfl))) (iteF ?_)⟩
      have s39 := s36.trans (s7.trans s79)
      clear hz2 hz k8 s9 s8 hu7 hzs kT kT7 eL e2 hLr lL s79 s7 hO s6 s36 s35 hdl hdv
      -- the lines moved
      have hS9 := seqT s39 hS3
      have hL9 : LR (TdAt K H9) lv ls := hL3.imp fun _ _ q => q.mono s39
      have kD9 := s39 _ _ kD3
      have fin9 : ∀ H', Same H9 H' → Q (.bl true) H' := fun H' s => fin H' (s39.trans s)
      have hu9 := hu3.mono s39
      have hTab9 := hTab3.mono s39
      clear fin hL3 hS3 kD3 hu3 hTab3 s39
      refine ⟨fun σ H' => (∃ o2 : Addr, (∃ y6 y7 y8 y9 y10 y11 y12 y13 : Option V, σ = [some (.ref p), some (.ref a), some (.ref l), some (.ref u1), some (.ref D), some (.ref o2), y6, y7, y8, y9, y10, y11, y12, y13]) ∧ ToldIn K H' o2 ks.length (List.zipWith shL ls es)) ∧ Same H9 H', ?_, ?_⟩
      · refine ⟨_, rfl, _, rfl, l, D, lv, es.map V.int, rfl, hS9, .inl (.inl kD9), fun O nO => ?_⟩
        refine lc_it (walk_zipM (K := K) (a := l) (b := D) (xs := lv) (ys := es.map V.int) (by rw [List.length_map]; omega)) (fun i H' => Same H9 H' ∧ ∃ zs, H' O = some (.lst zs) ∧ LR (TdAt K H') zs ((List.zipWith shL ls es).take i)) ⟨same_upd nO, [], upd_same, trivial⟩ (fun i H' _ h => ⟨seqT h.1 hS9, .inl (.inl (h.1 _ _ kD9))⟩) ?_ ?_
        · rintro i v H10 H11 hi ⟨s10, zs, kO, hzs⟩ ⟨W, x, y, rfl, nW, rfl, ex, ey⟩
          obtain ⟨td, etd, t1, w1, rfl, h1, h2⟩ := hL9.get ex
          have ey : (es.map V.int)[i]? = some y := ey
          rw [List.getElem?_map] at ey
          obtain ⟨e, ee, rfl⟩ := Option.map_eq_some_iff.mp ey
          have lz := hzs.len
          have lzw : (List.zipWith shL ls es).length = ls.length := by rw [List.length_zipWith]; omega
          rw [List.length_take] at lz
          have ez : (List.zipWith shL ls es)[i]? = some (shL td e) := by
            rw [List.getElem?_zipWith, etd, ee]
          have s11 := same_upd (o := .tup [.ref t1, .int e]) nW
          have k11 := upd_same (H := H10) (a := W) (o := .tup [.ref t1, .int e])
          generalize L2.upd H10 W (.tup [.ref t1, .int e]) = H12 at s11 k11 ⊢
          have s912 := s10.trans s11
          have ht := seqT s912 h1
          have hq := seqT s912 h2
          have tdo := (tds td (List.mem_of_getElem? etd)).amt
          have b0 := tdo.ok.low.1
          have b6 := tdo.bot
          have ei := e3 e (List.mem_of_getElem? ee)
          refine ⟨W, _, rfl, .inl (.inl k11), rfl, _, _, rfl, _, _, rfl, rfl, rfl, ?_⟩
          refine ⟨_, rfl, t1, _, _, _, rfl, rfl, ht, at0 _ _, ?_⟩
          refine ⟨_, rfl, t1, _, _, _, rfl, rfl, ht, at1 _ _, w1, _, _, _, rfl, rfl, hq, at0 _ _, ?_⟩
          refine ⟨_, rfl, _, rfl, t1, _, _, _, rfl, rfl, ht, at1 _ _, w1, _, _, _, rfl, rfl, hq, at1 _ _, _, _, rfl, rfl, mulW (up (n := 40) (by omega) (by decide)) (up (n := 40) (by omega) (by decide)), _, _, rfl, rfl, ?_⟩
          refine ⟨_, rfl, t1, _, _, _, rfl, rfl, ht, at1 _ _, w1, _, _, _, rfl, rfl, hq, at1 _ _, by show 2 ≤ sizeLine; decide, fun y ny => ?_⟩
          generalize eH13 : L2.upd H12 y _ = H13
          have s13 := same_of ny eH13
          have k13 := at_of eH13
          clear eH13
          refine ⟨by show 2 ≤ sizeLine; decide, fun x nx => ?_⟩
          generalize eH14 : L2.upd H13 x _ = H14
          have s14 := same_of nx eH14
          have k14 := at_of eH14
          clear eH14
          have s1014 := s11.trans (s13.trans s14)
          have kO14 := s1014 _ _ kO
          refine ⟨zs, kO14, by omega, HD.same_put (s10.trans s1014) nO, zs ++ [.ref x], upd_same, ?_⟩
          rw [List.take_add_one, ez]
          exact ((hzs.imp fun _ _ q => q.mono s1014).append (show LR (TdAt K H14) [.ref x] [shL td e] from ⟨⟨x, y, rfl, .inl (.inl k14), .inl (.inl (s14 _ _ k13))⟩, trivial⟩)).imp fun _ _ q => q.updL kO14
        · rintro H10 ⟨s10, zs, kO, hzs⟩
          rw [List.take_of_length_le (by rw [List.length_zipWith]; omega)] at hzs
          refine ⟨O, zs, rfl, .inl (.inl (.inl kO)), fun H11 o2 s11 ho2 => ?_⟩
          exact ⟨⟨o2, ⟨_, _, _, _, _, _, _, _, rfl⟩, zs, ho2, hzs.imp fun _ _ q => q.mono s11, sh_told tds h20 e3⟩, s10.trans s11⟩
      · rintro σ H10 ⟨⟨o2, ⟨y6, y7, y8, y9, y10, y11, y12, y13, rfl⟩, hO⟩, s10⟩
        obtain ⟨dv, hdv, hdl⟩ := hu9.mono s10
        have ldv := hdl.len
        have kD10 := s10 _ _ kD9
        refine ⟨_, rfl, u1, rfl, ⟨_, hdv⟩, fun T nT => ?_⟩
        refine lc_it (walk_tup (K := K) (a := u1) (xs := dv)) (fun i H' => Same H10 H' ∧ ∃ zs, H' T = some (.lst zs) ∧ LR (DayV K H') zs (((keptU ts ls).take i).map fun rs => List.zipWith shR rs es)) ⟨same_upd nT, [], upd_same, trivial⟩ (fun i H' _ h => seqT h.1 hdv) ?_ ?_
        · rintro i v H11 H12 hi ⟨s12, zs, kT, hzs⟩ ⟨e2, ex⟩
          subst e2
          obtain ⟨rs, ers, d, rfl, dxs, hd1, hd2⟩ := hdl.get ex
          have mr := List.mem_of_getElem? ers
          have lrs := k6 rs mr
          have ld := hd2.len
          have lz := hzs.len
          rw [List.length_map, List.length_take] at lz
          have rows : ∀ r ∈ rs, RowS ks.length r := by
            rw [kept_eq] at mr
            exact rndU_rows tds rs (List.mem_filter.mp mr).1
          have lzw : (List.zipWith shR rs es).length = ls.length := by rw [List.length_zipWith]; omega
          refine ⟨rfl, ?_⟩
          refine ⟨_, rfl, _, rfl, d, D, dxs, es.map V.int, rfl, seqT s12 hd1, .inl (.inl (s12 _ _ kD10)), fun I nI => ?_⟩
          refine lc_it (walk_zipM (K := K) (a := d) (b := D) (xs := dxs) (ys := es.map V.int) (by rw [List.length_map]; omega)) (fun j H' => Same H12 H' ∧ ∃ ws, H' I = some (.lst ws) ∧ Lines K H' ws ((List.zipWith shR rs es).take j)) ⟨same_upd nI, [], upd_same, trivial⟩ (fun j H' _ h => ⟨seqT (s12.trans h.1) hd1, .inl (.inl ((s12.trans h.1) _ _ kD10))⟩) ?_ ?_
          · rintro j v H13 H14 hj ⟨s14, ws, kI, hws⟩ ⟨W, x, y, rfl, nW, rfl, ev, ey⟩
            obtain ⟨r, er, t1, w1, rfl, h1, h2⟩ := hd2.get ev
            have ey : (es.map V.int)[j]? = some y := ey
            rw [List.getElem?_map] at ey
            obtain ⟨e, ee, rfl⟩ := Option.map_eq_some_iff.mp ey
            have lw := hws.len
            rw [List.length_take] at lw
            have ez : (List.zipWith shR rs es)[j]? = some (shR r e) := by
              rw [List.getElem?_zipWith, er, ee]
            have s15 := same_upd (o := .tup [.ref t1, .int e]) nW
            have k15 := upd_same (H := H13) (a := W) (o := .tup [.ref t1, .int e])
            generalize L2.upd H13 W (.tup [.ref t1, .int e]) = H15 at s15 k15 ⊢
            have s1015 := s12.trans (s14.trans s15)
            have ht := seqT s1015 h1
            have hq := seqT s1015 h2
            have ro := rows r (List.mem_of_getElem? er)
            have b0 := ro.amt.ok.low.1
            have b6 := ro.amt.bot
            have ei := e3 e (List.mem_of_getElem? ee)
            refine ⟨W, _, rfl, .inl (.inl k15), rfl, _, _, rfl, _, _, rfl, rfl, rfl, ?_⟩
            refine ⟨_, rfl, t1, _, _, _, rfl, rfl, ht, atI_nat (j := 0) rfl, ?_⟩
            refine ⟨_, rfl, t1, _, _, _, rfl, rfl, ht, atI_nat (j := 1) rfl, w1, _, _, _, rfl, rfl, hq, at0 _ _, ?_⟩
            refine ⟨_, rfl, _, rfl, t1, _, _, _, rfl, rfl, ht, atI_nat (j := 1) rfl, w1, _, _, _, rfl, rfl, hq, at1 _ _, _, _, rfl, rfl, mulW (up (n := 40) (by omega) (by decide)) (up (n := 40) (by omega) (by decide)), _, _, rfl, rfl, ?_⟩
            refine ⟨_, rfl, t1, _, _, _, rfl, rfl, ht, atI_nat (j := 1) rfl, w1, _, _, _, rfl, rfl, hq, at1 _ _, by show 2 ≤ sizeLine; decide, fun y ny => ?_⟩
            generalize eH16 : L2.upd H15 y _ = H16
            have s16 := same_of ny eH16
            have k16 := at_of eH16
            clear eH16
            refine ⟨_, rfl, t1, _, _, _, rfl, rfl, seqT s16 ht, atI_nat (j := 2) rfl, _, rfl, _, _, rfl, rfl, by show 3 ≤ sizeLine; decide, fun x nx => ?_⟩
            generalize eH17 : L2.upd H16 x _ = H17
            have s17 := same_of nx eH17
            have k17 := at_of eH17
            clear eH17
            have s1317 := s15.trans (s16.trans s17)
            have kI17 := s1317 _ _ kI
            refine ⟨ws, kI17, by omega, HD.same_put (s14.trans s1317) nI, ws ++ [.ref x], upd_same, ?_⟩
            rw [List.take_add_one, ez]
            have new : LineAt K H17 (.ref x) (shR r e) := ⟨x, y, rfl, .inl (.inl k17), .inl (.inl (s17 _ _ k16))⟩
            exact Lines.updL kI17 (Lines.snoc new (hws.mono s1317))
          · rintro H13 ⟨s13, ws, kI, hws⟩
            rw [List.take_of_length_le (by omega)] at hws
            refine ⟨I, ws, rfl, .inl (.inl (.inl kI)), fun H14 z s14 hz => ?_⟩
            have kT14 := (s13.trans s14) _ _ kT
            refine ⟨zs, kT14, by omega, HD.same_put (s12.trans (s13.trans s14)) nT, zs ++ [.ref z], upd_same, ?_⟩
            rw [List.take_add_one, ers, List.map_append]
            have new : DayV K H14 (.ref z) (List.zipWith shR rs es) := ⟨z, rfl, ws, hz, hws.mono s14⟩
            exact ((hzs.imp fun _ _ q => q.mono (s13.trans s14)).append (show LR (DayV K H14) [.ref z] [List.zipWith shR rs es] from ⟨new, trivial⟩)).imp fun _ _ q => q.updL kT14
        rintro H11 ⟨s11, zs, kT, hzs⟩
        rw [ldv, List.take_of_length_le (Nat.le_refl _)] at hzs
        refine ⟨_, rfl, _, rfl, a, o2, ks, ts, List.zipWith shL ls es, rfl, hTab9.mono (s10.trans s11), ok, hO.mono s11, by rw [List.length_zipWith]; omega, fun _ H12 u8 s12 hu8 => ?_, fun z => absurd z (by rw [List.length_zipWith]; omega)⟩
        rw [kept_sh le2 tds] at hu8
        refine ⟨_, rfl, T, zs, rfl, .inl (.inl (.inl (s12 _ _ kT))), fun H13 z s13 hz => ?_⟩
        have hz2 : DaysT K H13 z ((keptU ts ls).map fun rs => List.zipWith shR rs es) := ⟨zs, hz, hzs.imp fun _ _ q => q.mono (s12.trans s13)⟩
        refine ⟨_, _, dp_days (hu8.mono s13), dp_days hz2, shaped_days _, shaped_days _, ?_⟩
        rw [eqv_days, decide_eq_true rfl]
        exact fin9 H13 (s10.trans (s11.trans (s12.trans s13)))
end
end K10
namespace CK
open PySem PySem.Spec PyProof.Rows L2 VG FR HD M9
theorem half_line {K : PySem.W.Frag} {σ : L2.St} {H : Hp} {Q : VK} (k : Nat) (h : ∀ H' v, Same H H' → TdAt K H' v (k, (1, 2)) → Q v H') : tTup (tCons (tC (.int (k : Int))) (tCons (tTup (tCons (tC (.int 1)) (tCons (tC (.int 2)) tNil))) tNil)) σ H Q := by
  refine ⟨Nat.le_of_ble_eq_true rfl, fun y ny => ?_⟩
  generalize eH1 : L2.upd H y _ = H1
  have s1 := same_of ny eH1
  have k1 := at_of eH1
  clear eH1
  refine ⟨Nat.le_of_ble_eq_true rfl, fun x nx => ?_⟩
  generalize eH2 : L2.upd H1 x _ = H2
  have s2 := same_of nx eH2
  have k2 := at_of eH2
  clear eH2
  exact h H2 (.ref x) (s1.trans s2) ⟨x, y, rfl, .inl (.inl k2), .inl (.inl (s2 _ _ k1))⟩
theorem told3 {K : PySem.W.Frag} {σ : L2.St} {H : Hp} {Q : VK} (k1 k2 k3 : Fin 3) (h : ∀ H' u, Same H H' → ToldIn K H' u 3 [(k1.val, (1, 2)), (k2.val, (1, 2)), (k3.val, (1, 2))] → Q (.ref u) H') :
    tTup (tCons (tTup (tCons (tC (.int (k1.val : Int))) (tCons (tTup (tCons (tC (.int 1)) (tCons (tC (.int 2)) tNil))) tNil))) (tCons (tTup (tCons (tC (.int (k2.val : Int))) (tCons (tTup (tCons (tC (.int 1)) (tCons (tC (.int 2)) tNil))) tNil))) (tCons (tTup (tCons (tC (.int (k3.val : Int))) (tCons (tTup (tCons (tC (.int 1)) (tCons (tC (.int 2)) tNil))) tNil))) tNil))) σ H Q := by
  refine at_cons (half_line (K := K) k1.val fun H1 v1 s1 h1 => ?_)
  refine at_cons (half_line (K := K) k2.val fun H2 v2 s2 h2 => ?_)
  refine at_cons (half_line (K := K) k3.val fun H3 v3 s3 h3 => ?_)
  refine ⟨Nat.le_of_ble_eq_true rfl, fun x nx => ?_⟩
  generalize eH4 : L2.upd H3 x _ = H4
  have s4 := same_of nx eH4
  have k4 := at_of eH4
  clear eH4
  have half : AmtOk (1, 2) := ⟨⟨by decide, by decide +kernel⟩, by decide, by decide⟩
  refine h H4 x (s1.trans (s2.trans (s3.trans s4))) ⟨_, .inl (.inl k4), ⟨h1.mono (s2.trans (s3.trans s4)), h2.mono (s3.trans s4), h3.mono s4, trivial⟩, fun l hl => ?_⟩
  simp only [List.mem_cons, List.not_mem_nil, or_false] at hl
  rcases hl with e | e | e <;> (rw [e]; exact ⟨Fin.isLt _, half⟩)
theorem ex1 : keptU tX [((1 : Fin 3).val, (1, 2)), ((0 : Fin 3).val, (1, 2)), ((2 : Fin 3).val, (1, 2))] = [] := by decide +kernel
theorem ex2 : keptU tX [] = [[]] := by decide +kernel
theorem ex3 : keptU tX [((0 : Fin 3).val, (1, 2)), ((2 : Fin 3).val, (1, 2)), ((1 : Fin 3).val, (1, 2))] = [[(0, (1, 2), 0), (2, (1, 2), 1), (1, (1, 2), 0)], [(0, (1, 2), 1), (2, (1, 2), 0), (1, (1, 2), 1)]] := by decide +kernel
theorem ex4 : keptU [] [(0, (1, 2))] = [[(0, (1, 2), 0)], [(0, (1, 2), 1)]] := by decide +kernel
theorem okA1 : TabOk ["a"] [] := ⟨kinds_dec (by decide) (by decide +kernel) (by decide +kernel), by decide, fun c hc => absurd hc List.not_mem_nil⟩
theorem rounded_half {K : PySem.W.Frag} {σ : L2.St} {H : Hp} {Q : VK} (k : Nat) (n : Int) (h : ∀ H' v, Same H H' → LineAt K H' v (k, (1, 2), n) → Q v H') : tTup (tCons (tC (.int (k : Int))) (tCons (tTup (tCons (tC (.int 1)) (tCons (tC (.int 2)) tNil))) (tCons (tC (.int n)) tNil))) σ H Q := by
  refine ⟨Nat.le_of_ble_eq_true rfl, fun y ny => ?_⟩
  generalize eH1 : L2.upd H y _ = H1
  have s1 := same_of ny eH1
  have k1 := at_of eH1
  clear eH1
  refine ⟨Nat.le_of_ble_eq_true rfl, fun x nx => ?_⟩
  generalize eH2 : L2.upd H1 x _ = H2
  have s2 := same_of nx eH2
  have k2 := at_of eH2
  clear eH2
  exact h H2 (.ref x) (s1.trans s2) ⟨x, y, rfl, .inl (.inl k2), .inl (.inl (s2 _ _ k1))⟩
theorem shaped_nilT : SeqAt.shaped (.tuple []) = true := by decide +kernel
theorem TdAt.up {K : PySem.W.Frag} {H H' : Hp} {v : V} {l : Told} (h : TdAt K H v l) (f : ∀ t xs, SqT K H t xs → SqT K H' t xs) : TdAt K H' v l := by
  obtain ⟨t, s, e, a, b⟩ := h
  exact ⟨t, s, e, f _ _ a, f _ _ b⟩
theorem SmallIn.up {K : PySem.W.Frag} {H H' : Hp} {a : Addr} {m : Nat} {ls : List Told} (h : SmallIn K H a m ls) (f : ∀ t xs, SqT K H t xs → SqT K H' t xs) : SmallIn K H' a m ls := by
  obtain ⟨xs, h1, h2, h3⟩ := h
  refine ⟨xs, f _ _ h1, h2.imp fun v l q => ?_, h3⟩
  obtain ⟨t, s, e, a, b⟩ := q
  exact ⟨t, s, e, f _ _ a, f _ _ b⟩
end CK
namespace K10
open PySem PySem.Spec PyProof.Rows L2 VG FR CK HD M9
abbrev s_law : Stmt := topS 68
abbrev N_law : List Str := ["script", "heap", "turn", "many", "totals", "table", "halves", "size", "lines", "days", "day", "at", "item"]
theorem sc_law : FnScope N_law ["script"] (defScope s_law) := ⟨rfl, rfl, rfl, by decide +kernel, rfl, by decide +kernel, by decide +kernel⟩
section
variable {P : Program} {w : World} {K : PySem.W.Frag} {mg : Str → Option Value} {base : Heap}
theorem ok_law {f C R : Addr} {fd : FuncData} {T : List (Addr × Str)} (F : Fun K "law" "law" s_law f fd) (T_Table : MkT P w K mg base 7 "Table" C (spInitT K C))
    (C__law_heap : Cl P w K mg base 1 "_law_heap" (spHeapF K)) (C__law_draw : Cl P w K mg base 1 "_law_draw" spDraw) (C__law_pick : Cl P w K mg base 2 "_law_pick" (spPick K)) (C__law_names : Cl P w K mg base 3 "_law_names" (spLawNames K)) (C__law_totals : Cl P w K mg base 3 "_law_totals" (spLawTots9 K))
    (C__law_amount : Cl P w K mg base 3 "_law_amount" (spAmtK K)) (G__law_right : ClG P w K mg base 9 "_law_right" (spRightK K C)) (C__law_turned_right : Cl P w K mg base 9 "_law_turned_right" (spTurned K C)) (G__law_large_right : ClG P w K mg base 15 "_law_large_right" (spLong K T))
    (C_kept_days : Cl P w K mg base 5 "kept_days" (fun vs H Q _ => spKept K C R vs H Q E0)) (z_len : mg "len" = none) (z_int : mg "int" = none) (z_range : mg "range" = none) (z_tuple : mg "tuple" = none) : FnG P w K mg base 17 f fd ["script"] (spLawT K T) := by
  refine fnG_of F sc_law (fun vs H Q E h => ?_) (fun cdv A outer s H vs Q E hg hr h => ?_)
  · obtain ⟨_, _, rfl, _⟩ := h
    rfl
  · obtain ⟨a, sc, rfl, hS0, l63, tbs, fin⟩ := h
    refine ⟨_, (pss_cons (ps_set (i := 1) sc_law.nd rfl (.inr rfl) (pe_cl C__law_heap hr (by decide) rfl (pa_cons (pv 0) pa_nil)))
    (pss_cut (ps_for PassesOwn.never rfl (pi_range1 (by rfl) z_range (pa_cons (pe_op op_add (pe_op op_add pe_int (pe_callTy call_int1 (by rfl) z_int (by decide +kernel) (pa_cons (pe_cmpR op_gt (pe_callB call_len_seq (by rfl) z_len (by decide +kernel) (pa_cons (pv 0) pa_nil)) pe_int (nomark _)) pa_nil))) (pe_callTy call_int1 (by rfl) z_int (by decide +kernel) (pa_cons (pe_cmpR op_gt (pe_callB call_len_seq (by rfl) z_len (by decide +kernel) (pa_cons (pv 0) pa_nil)) pe_int (nomark _)) pa_nil))) pa_nil)) (pg_name (i := 2) sc_law.nd rfl (.inl rfl))
      (pss_cons (ps_set (i := 3) sc_law.nd rfl (.inr rfl) (pe_cl C__law_pick hr (by decide) rfl (pa_cons (pv 1) (pa_cons (pe_lst (pa_cons pe_int (pa_cons pe_int (pa_cons pe_int (pa_cons pe_int (pa_cons pe_int pa_nil)))))) pa_nil))))
      (pss_cons (ps_set (i := 4) sc_law.nd rfl (.inl rfl) (pe_cl C__law_totals hr (by decide) rfl (pa_cons (pv 1) (pa_cons (pv 3) pa_nil))))
      (pss_cons (ps_set (i := 5) sc_law.nd rfl (.inl rfl) (pe_mt T_Table hr (by decide) rfl (pa_cons (pe_cl C__law_names hr (by decide) rfl (pa_cons (pv 1) (pa_cons (pv 3) pa_nil))) (pa_cons (pv 4) pa_nil))))
      (pss_cons (ps_set (i := 6) sc_law.nd rfl (.inr rfl) (pe_cmpR op_eq (pe_cl C__law_draw hr (by decide) rfl (pa_cons (pv 1) (pa_cons pe_int pa_nil))) pe_int (nomark _)))
      (pss_cons (ps_set (i := 7) sc_law.nd rfl (.inl rfl) (pe_cl C__law_pick hr (by decide) rfl (pa_cons (pv 1) (pa_cons (pe_lst (pa_cons pe_int (pa_cons pe_int (pa_cons pe_int (pa_cons pe_int (pa_cons pe_int (pa_cons pe_int (pa_cons pe_int pa_nil)))))))) pa_nil))))
      (pss_cons (ps_set (i := 8) sc_law.nd rfl (.inl rfl) (pe_callTy call_tupE (by rfl) z_tuple (by decide +kernel) (pa_cons (pe_lc (own := [("at", 11)]) (by rfl) sc_law.nd (pi_range1 (by rfl) z_range (pa_cons (pv 7) pa_nil)) (blkOk_by (own := [("at", 11)]) (N := N_law) (sc := defScope s_law) (by decide +kernel)) (fun _ _ _ _ _ => (pg_name (i := 11) sc_law.nd rfl (.inl rfl))) (fun _ _ _ _ _ => pts_nil) (fun _ _ _ _ _ => (pe_tup (pa_cons (pe_cl C__law_draw hr (by decide) rfl (pa_cons (pv 1) (pa_cons (pv 3) pa_nil))) (pa_cons (pe_meet (pe_ifExp (pt_val (pv 6)) (pe_tup (pa_cons pe_int (pa_cons pe_int pa_nil))) (pe_cl C__law_amount hr (by decide) rfl (pa_cons (pv 1) pa_nil)))) pa_nil))))) pa_nil)))
      (pss_one (ps_if (PW.pt (pw_or (pt_not (pt_val (pe_clg G__law_right hg hr (by decide) rfl (pa_cons (pv 1) (pa_cons (pv 5) (pa_cons (pv 4) (pa_cons (pv 8) pa_nil))))))) (pw_or1 (pt_not (pt_val (pe_cl C__law_turned_right hr (by decide) rfl (pa_cons (pv 1) (pa_cons (pv 5) (pa_cons (pv 8) pa_nil)))))))))
        (pss_one (ps_ret pe_bl))
        pss_nil)))))))))
    (pss_cut (ps_if (PW.pt (pw_and (pt_cmpR op_eq (pe_cl C__law_draw hr (by decide) rfl (pa_cons (pv 1) (pa_cons pe_int pa_nil))) pe_int (nomark _)) (pw_and1 (pt_not (pt_val (pe_clg G__law_large_right hg hr (by decide) rfl (pa_cons (pv 1) pa_nil)))))))
      (pss_one (ps_ret pe_bl))
      pss_nil)
    (pss_cons (ps_set (i := 5) sc_law.nd rfl (.inl rfl) (pe_mt T_Table hr (by decide) rfl (pa_cons (pe_tup (pa_cons pe_str (pa_cons pe_str (pa_cons pe_str pa_nil)))) (pa_cons (pe_tup (pa_cons (pe_tup (pa_cons pe_int (pa_cons pe_int (pa_cons pe_int pa_nil)))) (pa_cons (pe_tup (pa_cons pe_int (pa_cons pe_int pa_nil))) (pa_cons (pe_tup (pa_cons pe_int (pa_cons pe_int pa_nil))) pa_nil)))) pa_nil))))
    (pss_cons (ps_if (PW.pt (pw_or (pt_cmpR (op_neD hr.units) (pe_cl C_kept_days hr (by decide) rfl (pa_cons (pv 5) (pa_cons (pe_tup (pa_cons (pe_tup (pa_cons pe_int (pa_cons (pe_tup (pa_cons pe_int (pa_cons pe_int pa_nil))) pa_nil))) (pa_cons (pe_tup (pa_cons pe_int (pa_cons (pe_tup (pa_cons pe_int (pa_cons pe_int pa_nil))) pa_nil))) (pa_cons (pe_tup (pa_cons pe_int (pa_cons (pe_tup (pa_cons pe_int (pa_cons pe_int pa_nil))) pa_nil))) pa_nil)))) pa_nil))) (pe_tup pa_nil) (nomark _)) (pw_or1 (pt_cmpR (op_neD hr.units) (pe_cl C_kept_days hr (by decide) rfl (pa_cons (pv 5) (pa_cons (pe_tup pa_nil) pa_nil))) (pe_tup (pa_cons (pe_tup pa_nil) pa_nil)) (nomark _)))))
      (pss_one (ps_ret pe_bl))
      pss_nil)
    (pss_cons (ps_set (i := 9) sc_law.nd rfl (.inl rfl) (pe_cl C_kept_days hr (by decide) rfl (pa_cons (pv 5) (pa_cons (pe_tup (pa_cons (pe_tup (pa_cons pe_int (pa_cons (pe_tup (pa_cons pe_int (pa_cons pe_int pa_nil))) pa_nil))) (pa_cons (pe_tup (pa_cons pe_int (pa_cons (pe_tup (pa_cons pe_int (pa_cons pe_int pa_nil))) pa_nil))) (pa_cons (pe_tup (pa_cons pe_int (pa_cons (pe_tup (pa_cons pe_int (pa_cons pe_int pa_nil))) pa_nil))) pa_nil)))) pa_nil))))
    (pss_cons (ps_if (pt_cmpR (op_neD hr.units) (pe_lc (own := [("day", 10)]) (by rfl) sc_law.nd (pi_tup (pv 9)) (blkOk_by (own := [("day", 10)]) (N := N_law) (sc := defScope s_law) (by decide +kernel)) (fun _ _ _ _ _ => (pg_name (i := 10) sc_law.nd rfl (.inl rfl))) (fun _ _ _ _ _ => pts_nil) (fun _ _ _ _ _ => (pe_lc (own := [("item", 12)]) (by rfl) sc_law.nd (show PI _ _ _ (iTup K _) from pi_tup (pv 10)) (blkOk_by (own := [("item", 12)]) (N := N_law) (sc := { kind := .function, names := [((".0" : String), .local), (("day" : String), .local)], isGenerator := false, isCoroutine := false }) (by decide +kernel)) (fun _ _ _ _ _ => (pg_name (i := 12) sc_law.nd rfl (.inl rfl))) (fun _ _ _ _ _ => pts_nil) (fun _ _ _ _ _ => (pe_ix (show IxR _ (rIxT K) from ix_tup) (pv 12) pe_int (fun _ _ => rfl)))))) (pe_lst (pa_cons (pe_lst (pa_cons pe_int (pa_cons pe_int (pa_cons pe_int pa_nil)))) (pa_cons (pe_lst (pa_cons pe_int (pa_cons pe_int (pa_cons pe_int pa_nil)))) pa_nil))) (nomark _))
      (pss_one (ps_ret pe_bl))
      pss_nil)
    (pss_one (ps_ret (pe_cmpR (op_eqD hr.units) (pe_cl C_kept_days hr (by decide) rfl (pa_cons (pe_mt T_Table hr (by decide) rfl (pa_cons (pe_tup (pa_cons pe_str pa_nil)) (pa_cons (pe_tup pa_nil) pa_nil))) (pa_cons (pe_tup (pa_cons (pe_tup (pa_cons pe_int (pa_cons (pe_tup (pa_cons pe_int (pa_cons pe_int pa_nil))) pa_nil))) pa_nil)) pa_nil))) (pe_tup (pa_cons (pe_tup (pa_cons (pe_tup (pa_cons pe_int (pa_cons (pe_tup (pa_cons pe_int (pa_cons pe_int pa_nil))) (pa_cons pe_int pa_nil)))) pa_nil)) (pa_cons (pe_tup (pa_cons (pe_tup (pa_cons pe_int (pa_cons (pe_tup (pa_cons pe_int (pa_cons pe_int pa_nil))) (pa_cons pe_int pa_nil)))) pa_nil)) pa_nil))) (nomark _))))))))))), ?_⟩
    have big : sizeLine = 16777216 := by decide
    refine ⟨_, rfl, a, sc, rfl, hS0, l63, fun H1 p q hd1 s1 np nq => ?_⟩
    have on0 := OnT.start (T := T) hd1 (tabs_same tbs s1)
    have hS := sqL_gb np nq s1 hS0
    have nG := on0.2.2
    clear hS0 np nq tbs s1 hd1
    generalize GB p q H1 = G at on0 nG hS
    refine ⟨fun σ H' => (∃ y2 y3 y4 y5 y6 y7 y8 y9 y10 y11 y12 : Option V, σ = [some (.ref a), some (.ref p), y2, y3, y4, y5, y6, y7, y8, y9, y10, y11, y12]) ∧ OnT T p q G H', ?_, ?_⟩
    · refine ⟨_, rfl, a, sc.map V.int, rfl, .inl (on0.le.seq hS), _, _, rfl, rfl, .inr ⟨_, rfl, _, _, rfl, rfl, _, rfl, a, sc.map V.int, rfl, .inl (on0.le.seq hS), _, _, rfl, rfl, .inr ⟨_, rfl, _, _, rfl, rfl, _, rfl, ?_, ?_, ?_⟩⟩⟩
      · split <;> split <;> decide
      · split <;> split <;> decide
      · refine for_it (walk_range (lo := 0)) (fun i σ H' => (∃ y2 y3 y4 y5 y6 y7 y8 y9 y10 y11 y12 : Option V, σ = [some (.ref a), some (.ref p), y2, y3, y4, y5, y6, y7, y8, y9, y10, y11, y12]) ∧ OnT T p q G H') ⟨⟨_, _, _, _, _, _, _, _, _, _, _, rfl⟩, on0⟩ (fun _ _ _ _ _ => trivial) ?_ ?_
        · clear on0
          rintro i x σ H2 H3 hi ⟨⟨y2, y3, y4, y5, y6, y7, y8, y9, y10, y11, y12, rfl⟩, on1⟩ ⟨rfl, rfl⟩
          -- how many kinds
          refine ⟨_, rfl, by show 5 ≤ sizeLine; decide, fun L nL => ?_⟩
          have fL := on1.free nL
          have on2 := on1.new (o := .lst [.int 3, .int 4, .int 2, .int 5, .int 1]) nL
          refine ⟨p, q, L, _, rfl, on2.hd, upd_same, fL.1, fL.2.1, by simp, by show 5 < 1000000; decide, fun H4 v hd4 kp4 hv => ?_⟩
          have on4 := on2.draw hd4 kp4
          obtain ⟨m, rfl, m1, m12⟩ : ∃ m : Nat, v = .int m ∧ 1 ≤ m ∧ m ≤ 12 := by
            simp only [List.mem_cons, List.not_mem_nil, or_false] at hv
            rcases hv with e | e | e | e | e
            · exact ⟨3, e, by decide, by decide⟩
            · exact ⟨4, e, by decide, by decide⟩
            · exact ⟨2, e, by decide, by decide⟩
            · exact ⟨5, e, by decide, by decide⟩
            · exact ⟨1, e, by decide, by decide⟩
          clear on1 on2 nL fL hd4 kp4 hv
          -- the totals
          refine ⟨_, rfl, _, rfl, p, q, m, rfl, on4.hd, m1, m12, fun H6 t xs ts on6' kt hX lt okT => ?_⟩
          have on6 := on4.draw on6'.hd on6'.keep
          have htI : TotsIn K (GB p q H6) t m ts := totsIn_gb on6.hd ⟨xs, sqt kt, hX, lt, okT⟩
          have ⟨on7, g6⟩ := on6.base
          have back6 : ∀ {H'}, OnT T p q (GB p q H6) H' → OnT T p q G H' := fun h => h.drop g6 nG
          clear on4 on6 on6' kt hX g6
          generalize GB p q H6 = G1 at on7 htI back6
          -- the table
          refine ⟨_, rfl, _, rfl, p, q, m, rfl, on7.hd, m1, m12, fun H8 u ks on8' ku okK lks => ?_⟩
          subst lks
          have on8 := on7.draw on8'.hd on8'.keep
          obtain ⟨xs, hSt, hTt, ltt, lots⟩ := id htI
          refine ⟨_, rfl, fun x dx nx nd ne => tab_made (sqt ku) okK (seqT on8.le hSt) (hTt.mono on8.le) ltt lots nx nd ne fun H9 s9 tab na => ?_⟩
          have ok : TabOk ks ts := ⟨okK, ltt, lots⟩
          have on9 := on8.same s9
          have tabG := tab_gb on9.hd tab
          have ⟨on10, g9⟩ := on9.base
          have nG1 := on7.2.2
          have back9 : ∀ {H'}, OnT T p q (GB p q H9) H' → OnT T p q G H' := fun h => back6 (h.drop g9 nG1)
          have htG := htI.mono g9
          clear on7 on8 on8' on9 ku tab na s9 hSt hTt nx nd ne back6 g9 htI
          generalize GB p q H9 = G2 at on10 tabG back9 htG
          have nG2 := on10.2.2
          -- halves
          refine ⟨_, rfl, p, q, _, rfl, on10.hd, by decide, by decide, fun H11 r hd11 kp11 r0 r1 => ⟨rfl, ?_⟩⟩
          have on11 := on10.draw hd11 kp11
          generalize hb : decide (V.int r = V.int 0) = hv
          clear hd11 kp11 r0 r1 hb on10
          -- how many lines
          refine ⟨_, rfl, by show 7 ≤ sizeLine; decide, fun L nL => ?_⟩
          have fL := on11.free nL
          have on12 := on11.new (o := .lst [.int 4, .int 3, .int 5, .int 2, .int 6, .int 1, .int 0]) nL
          refine ⟨p, q, L, _, rfl, on12.hd, upd_same, fL.1, fL.2.1, by simp, by show 7 < 1000000; decide, fun H13 v hd13 kp13 hv => ?_⟩
          have on13 := on12.draw hd13 kp13
          obtain ⟨n, rfl, n6⟩ : ∃ n : Nat, v = .int n ∧ n ≤ 6 := by
            simp only [List.mem_cons, List.not_mem_nil, or_false] at hv
            rcases hv with e | e | e | e | e | e | e
            · exact ⟨4, e, by decide⟩
            · exact ⟨3, e, by decide⟩
            · exact ⟨5, e, by decide⟩
            · exact ⟨2, e, by decide⟩
            · exact ⟨6, e, by decide⟩
            · exact ⟨1, e, by decide⟩
            · exact ⟨0, e, by decide⟩
          clear on12 hd13 kp13 hv nL fL on11
          have ⟨on14, g13⟩ := on13.base
          have back : ∀ {H'}, OnT T p q (GB p q H13) H' → OnT T p q G H' := fun h => back9 (h.drop g13 nG2)
          have tab3 := tabG.mono g13
          have ht3 := htG.mono g13
          clear on13 g13 back9 tabG htG
          generalize GB p q H13 = G3 at on14 back tab3 ht3
          refine ⟨_, rfl, _, rfl, by omega, by omega, fun D nD => ?_⟩
          have fD := on14.free nD
          refine lc_it (walk_range (lo := 0) (n := ((n : Nat) : Int).toNat)) (fun i H' => OnT T p q G3 H' ∧ ∃ (zs : List V) (ls : List Told), H' D = some (.lst zs) ∧ LR (TdAt K H') zs ls ∧ ls.length = i ∧ ∀ l ∈ ls, TdS ks.length l ∧ l.2.1.natAbs ≤ 20) ⟨on14.new nD, [], [], upd_same, trivial, rfl, fun l hl => absurd hl List.not_mem_nil⟩ (fun _ _ _ _ => trivial) ?_ ?_
          · clear on14 nD
            rintro j v H14 H15 hj ⟨on15, zs, ls, kD, hzs, lls, hls⟩ ⟨rfl, rfl⟩
            have hj2 : j < ((n : Nat) : Int).toNat := hj
            have lz := hzs.len
            refine ⟨rfl, _, rfl, _, rfl, p, q, _, rfl, on15.hd, by omega, by omega, fun H16 r hd16 kp16 r0 r1 => ?_⟩
            have on16 := on15.draw hd16 kp16
            have kD16 := kp16 _ _ fD.1 fD.2.1 kD
            have hz16 : LR (TdAt K H16) zs ls := hzs.imp fun _ _ q => q.up fun _ _ z => seqTK on15.hd kp16 z
            obtain ⟨k, rfl⟩ := Int.eq_ofNat_of_zero_le r0
            clear on15 kD hzs hd16 kp16 r0
            refine ⟨fun w H' => ∃ (s : Addr) (pr : Q2), w = .ref s ∧ SqT K H' s (pV pr) ∧ AmtS pr ∧ pr.1.natAbs ≤ 20 ∧ OnT T p q G3 H' ∧ H' D = some (.lst zs) ∧ LR (TdAt K H') zs ls, ?_, ?_⟩
            · refine ⟨_, rfl, hv, rfl, ?_⟩
              cases hv with
              | true =>
                refine iteT ⟨by show 2 ≤ sizeLine; decide, fun y ny => ?_⟩
                have s17 := same_upd (o := .tup [.int 1, .int 2]) ny
                exact ⟨y, (1, 2), rfl, .inl (.inl upd_same), ⟨⟨⟨by decide, by decide +kernel⟩, by decide, by decide⟩, by decide, by decide⟩, by decide, on16.same s17, s17 _ _ kD16, hz16.imp fun _ _ q => q.mono s17⟩
              | false =>
                refine iteF ⟨_, rfl, p, q, rfl, on16.hd, fun H17 u pr on17 hu hs h20 => ?_⟩
                have kp17 := on17.keep
                exact ⟨u, pr, rfl, hu, hs, h20, on16.draw on17.hd kp17, kp17 _ _ fD.1 fD.2.1 kD16, hz16.imp fun _ _ q => q.up fun _ _ z => seqTK on16.hd kp17 z⟩
            clear on16 kD16 hz16
            rintro _ H17 ⟨s, pr, rfl, hpr, hs, h20, on17, kD17, hz17⟩
            refine ⟨by show 2 ≤ sizeLine; decide, fun x nx => ?_⟩
            generalize eH18 : L2.upd H17 x _ = H18
            have s18 := same_of nx eH18
            have k18 := at_of eH18
            clear eH18
            have kD18 := s18 _ _ kD17
            refine ⟨zs, kD18, by omega, (on17.same s18).put kD18 fD, zs ++ [.ref x], ls ++ [(k, pr)], upd_same, ?_, by rw [List.length_append, lls]; rfl, fun l hl => ?_⟩
            · exact ((hz17.imp fun _ _ q => q.mono s18).append (show LR (TdAt K H18) [.ref x] [(k, pr)] from ⟨⟨x, s, rfl, .inl (.inl k18), seqT s18 hpr⟩, trivial⟩)).imp fun _ _ q => q.updL kD18
            · rcases List.mem_append.mp hl with z | z
              · exact hls l z
              · rw [List.mem_singleton.mp z]
                exact ⟨⟨Int.ofNat_lt.mp r1, hs⟩, h20⟩
          · rintro H14 ⟨on15, zs, ls, kD, hzs, lls, hls⟩
            have l6 : ls.length ≤ 6 := by
              rw [lls]
              have : ((n : Nat) : Int).toNat = n := Int.toNat_natCast _
              omega
            refine ⟨D, zs, rfl, .inl (.inl (.inl kD)), fun H15 lw s15 hlw => ?_⟩
            have on16 := on15.same s15
            have small : SmallIn K H15 lw ks.length ls := ⟨zs, hlw, hzs.imp fun _ _ q => q.mono s15, fun l hl => (hls l hl).1⟩
            have smF := small.up fun t xs h => seqTK on16.hd keep_frz h
            have gF := on16.1.base.2
            clear on15 kD hzs lls hlw s15 small
            refine ⟨_, rfl, _, rfl, _, rfl, _, rfl, p, q, x, t, lw, frz p q H15, ks, ts, ls, rfl, On.start on16.hd, tab3.mono gF, ok, ht3.mono gF, smF, l6, fun H16 onR => ⟨_, rfl, iteF ?_⟩⟩
            have on17 := on16.draw onR.hd onR.keep
            have gF2 := on17.1.base.2
            refine ⟨_, rfl, _, rfl, _, rfl, p, q, x, lw, frz p q H16, ks, ts, ls, rfl, On.start on17.hd, tab3.mono gF2, ok, (smF.mono onR.le).up fun t xs h => seqTK on17.hd keep_frz h, fun l hl => (hls l hl).2, l6, fun H17 onS => ⟨_, rfl, iteF ?_⟩⟩
            exact ⟨⟨_, _, _, _, _, _, _, _, _, _, _, rfl⟩, back (on17.draw onS.hd onS.keep)⟩
        · rintro σ H2 ⟨y, on⟩
          exact ⟨y, on⟩
    · rintro σ H2 ⟨⟨y2, y3, y4, y5, y6, y7, y8, y9, y10, y11, y12, rfl⟩, on2⟩
      refine ⟨fun σ H' => (∃ y2 y3 y4 y5 y6 y7 y8 y9 y10 y11 y12 : Option V, σ = [some (.ref a), some (.ref p), y2, y3, y4, y5, y6, y7, y8, y9, y10, y11, y12]) ∧ OnT T p q G H', ?_, ?_⟩
      · refine ⟨_, rfl, p, q, _, rfl, on2.hd, by decide, by decide, fun H3 r hd3 kp3 r0 r1 => ⟨rfl, _, rfl, ite2 (fun _ => ?_) (fun _ => ⟨⟨_, _, _, _, _, _, _, _, _, _, _, rfl⟩, on2.draw hd3 kp3⟩)⟩⟩
        have on3 := on2.draw hd3 kp3
        refine ⟨_, rfl, p, q, rfl, on3.hd, on3.2.1, fun H4 on4 => ⟨_, rfl, iteF ?_⟩⟩
        exact ⟨⟨_, _, _, _, _, _, _, _, _, _, _, rfl⟩, on4.drop on3.base.2 nG⟩
      clear on2
      rintro σ H3 ⟨⟨y2, y3, y4, y5, y6, y7, y8, y9, y10, y11, y12, rfl⟩, on3⟩
      -- the example
      refine at_asg (at_make (at_cons (lit_strs (cs := kX) (by decide) fun H4 u s4 ku => ?_)))
      refine at_cons (lit_tots (K := K) (cs := tX) ⟨by decide, by decide⟩ fun H5 t xs s5 kt hX => ?_)
      refine fun x dx nx nd ne => tab_made (sqt (s5 _ _ ku)) okX.kinds (sqt kt) hX okX.len okX.lots nx nd ne fun H6 s6 tab na => ?_
      clear s4 s5 s6 ku kt hX na nx nd ne on3 hS nG
      refine ⟨_, rfl, ?_⟩
      refine at_cons (told3 (K := K) 1 0 2 fun H7 l1 s7 h7 => ?_)
      refine ⟨x, l1, kX, tX, _, rfl, tab.mono s7, okX, h7, by decide, fun _ H8 u8 s8 hu8 => ?_, fun z => absurd z (by decide)⟩
      rw [ex1] at hu8
      refine ⟨Nat.le_of_ble_eq_true rfl, fun z1 nz1 => ?_⟩
      generalize eH9 : L2.upd H8 z1 _ = H9
      have s9 := same_of nz1 eH9
      have k9 := at_of eH9
      clear eH9
      refine ⟨_, _, dp_days (hu8.mono s9), .tup (sqt k9) .nil, shaped_days _, shaped_nilT, _, rfl, ite_eq false (by decide +kernel) (iteF ?_)⟩
      refine ⟨_, rfl, Nat.le_of_ble_eq_true rfl, fun z2 nz2 => ?_⟩
      generalize eH10 : L2.upd H9 z2 _ = H10
      have s10 := same_of nz2 eH10
      have k10 := at_of eH10
      clear eH10
      have t10 := s7.trans (s8.trans (s9.trans s10))
      refine ⟨x, z2, kX, tX, [], rfl, tab.mono t10, okX, ⟨[], sqt k10, trivial, fun l hl => absurd hl List.not_mem_nil⟩, by decide, fun _ H11 u11 s11 hu11 => ?_, fun z => absurd z (by decide)⟩
      rw [ex2] at hu11
      refine ⟨Nat.le_of_ble_eq_true rfl, fun z3 nz3 => ?_⟩
      generalize eH12 : L2.upd H11 z3 _ = H12
      have s12 := same_of nz3 eH12
      have k12 := at_of eH12
      clear eH12
      refine ⟨Nat.le_of_ble_eq_true rfl, fun z4 nz4 => ?_⟩
      generalize eH13 : L2.upd H12 z4 _ = H13
      have s13 := same_of nz4 eH13
      have k13 := at_of eH13
      clear eH13
      refine ⟨daysP [[]], daysP [[]], dp_days (hu11.mono (s12.trans s13)), .tup (sqt k13) (.cons (.tup (sqt (s13 _ _ k12)) .nil) .nil), shaped_days _, shaped_days _, _, rfl, ite_eq false (by decide +kernel) (iteF ?_)⟩
      have tab13 := tab.mono (t10.trans (s11.trans (s12.trans s13)))
      clear tab s7 s8 s9 s10 s11 s12 s13 t10 hu8 hu11 h7 k9 k10 k12 k13 nz1 nz2 nz3 nz4
      -- days that can be kept
      refine ⟨_, rfl, ?_⟩
      refine at_cons (told3 (K := K) 0 2 1 fun H14 l2 s14 h14 => ?_)
      refine ⟨x, l2, kX, tX, _, rfl, tab13.mono s14, okX, h14, by decide, fun _ H15 u15 s15 hu15 => ?_, fun z => absurd z (by decide)⟩
      rw [ex3] at hu15
      obtain ⟨dv, hdv, hdl⟩ := hu15
      generalize eds : ([[(0, (1, 2), 0), (2, (1, 2), 1), (1, (1, 2), 0)], [(0, (1, 2), 1), (2, (1, 2), 0), (1, (1, 2), 1)]] : List (List Line)) = ds at hdl
      have lds : ds.length = 2 := by rw [← eds]; rfl
      have l3 : ∀ rs ∈ ds, rs.length = 3 := fun rs hr => by
        rw [← eds] at hr
        simp only [List.mem_cons, List.not_mem_nil, or_false] at hr
        rcases hr with e | e <;> (rw [e]; rfl)
      have ldv := hdl.len
      refine ⟨_, rfl, u15, rfl, ⟨_, hdv⟩, fun D nD => ?_⟩
      refine lc_it (walk_tup (K := K) (a := u15) (xs := dv)) (fun i H' => Same H15 H' ∧ ∃ zs, H' D = some (.lst zs) ∧ LR (fun v rs => ∃ L : Addr, v = .ref L ∧ L ≠ D ∧ H' L = some (.lst ((whole rs).map V.int))) zs (ds.take i)) ⟨same_upd nD, [], upd_same, trivial⟩ (fun i H' _ h => seqT h.1 hdv) ?_ ?_
      · rintro i v H16 H17 hi ⟨s17, zs, kD, hzs⟩ ⟨e2, ex⟩
        subst e2
        obtain ⟨rs, ers, d, rfl, dxs, hd1, hd2⟩ := hdl.get ex
        have lrs := l3 rs (List.mem_of_getElem? ers)
        have ld := hd2.len
        have lz := hzs.len
        rw [List.length_take] at lz
        refine ⟨rfl, ?_⟩
        refine ⟨_, rfl, d, rfl, ⟨_, seqT s17 hd1⟩, fun L nL => ?_⟩
        refine lc_it (walk_tup (K := K) (a := d) (xs := dxs)) (fun j H' => Same H17 H' ∧ H' L = some (.lst (((whole rs).take j).map V.int))) ⟨same_upd nL, upd_same⟩ (fun j H' _ h => seqT (s17.trans h.1) hd1) ?_ ?_
        · rintro j v H18 H19 hj ⟨s19, kL⟩ ⟨e2, ev⟩
          subst e2
          obtain ⟨r, er, t1, w1, rfl, h1, h2⟩ := hd2.get ev
          have ew : (whole rs)[j]? = some r.2.2 := by
            unfold whole
            rw [List.getElem?_map, er]
            rfl
          refine ⟨rfl, _, rfl, t1, _, _, _, rfl, rfl, seqT (s17.trans s19) h1, atI_nat (j := 2) rfl, _, kL, ?_, HD.same_put s19 nL, ?_⟩
          · rw [List.length_map, List.length_take]
            omega
          · rw [upd_same, List.take_add_one, ew, List.map_append]
            rfl
        · rintro H18 ⟨s18, kL⟩
          have lw : (whole rs).length = dxs.length := by
            unfold whole
            rw [List.length_map]
            omega
          rw [List.take_of_length_le (by omega)] at kL
          have kD18 := s18 _ _ kD
          have ne : L ≠ D := fun z => by rw [z, kD] at nL; cases nL
          refine ⟨zs, kD18, by omega, HD.same_put (s17.trans s18) nD, zs ++ [.ref L], upd_same, ?_⟩
          rw [List.take_add_one, ers]
          have old : LR (fun v rs => ∃ L : Addr, v = .ref L ∧ L ≠ D ∧ H18 L = some (.lst ((whole rs).map V.int))) zs (ds.take i) := hzs.imp fun _ _ ⟨A, e, n, k⟩ => ⟨A, e, n, s18 _ _ k⟩
          exact (old.append (show LR (fun v rs => ∃ L : Addr, v = .ref L ∧ L ≠ D ∧ H18 L = some (.lst ((whole rs).map V.int))) [.ref L] [rs] from ⟨⟨L, rfl, ne, kL⟩, trivial⟩)).imp fun _ _ ⟨A, e, n, k⟩ => ⟨A, e, n, by rw [upd_ne n]; exact k⟩
      rintro H16 ⟨s16, zs, kD, hzs⟩
      rw [List.take_of_length_le (by omega), ← eds] at hzs
      obtain ⟨v1, v2, rfl, ⟨A1, rfl, _, a1⟩, ⟨A2, rfl, _, a2⟩⟩ : ∃ v1 v2, zs = [v1, v2] ∧ (∃ L : Addr, v1 = .ref L ∧ L ≠ D ∧ H16 L = some (.lst ([0, 1, 0].map V.int))) ∧ (∃ L : Addr, v2 = .ref L ∧ L ≠ D ∧ H16 L = some (.lst ([1, 0, 1].map V.int))) := by
        match zs, hzs with
        | [v1, v2], ⟨h1, h2, _⟩ => exact ⟨v1, v2, rfl, h1, h2⟩
      refine ⟨Nat.le_of_ble_eq_true rfl, fun b1 nb1 => ?_⟩
      generalize eH17 : L2.upd H16 b1 _ = H17
      have s17 := same_of nb1 eH17
      have k17 := at_of eH17
      clear eH17
      refine ⟨Nat.le_of_ble_eq_true rfl, fun b2 nb2 => ?_⟩
      generalize eH18 : L2.upd H17 b2 _ = H18
      have s18 := same_of nb2 eH18
      have k18 := at_of eH18
      clear eH18
      refine ⟨Nat.le_of_ble_eq_true rfl, fun b3 nb3 => ?_⟩
      generalize eH19 : L2.upd H18 b3 _ = H19
      have s19 := same_of nb3 eH19
      have k19 := at_of eH19
      clear eH19
      have t19 := s17.trans (s18.trans s19)
      have dI3 : ∀ (L : Addr) (x y z : Int), H19 L = some (.lst [.int x, .int y, .int z]) → Dp K H19 (.ref L) (.list [.int x, .int y, .int z]) := fun L x y z h => .lst (.inl (.inl h)) (.cons (.int _) (.cons (.int _) (.cons (.int _) .nil)))
      refine ⟨_, _, .lst (.inl (.inl (t19 _ _ kD))) (.cons (dI3 A1 0 1 0 (t19 _ _ a1)) (.cons (dI3 A2 1 0 1 (t19 _ _ a2)) .nil)), .lst (.inl (.inl k19)) (.cons (dI3 b1 0 1 0 ((s18.trans s19) _ _ k17)) (.cons (dI3 b2 1 0 1 (s19 _ _ k18)) .nil)), by decide +kernel, by decide +kernel, _, rfl, ite_eq false (by decide +kernel) (iteF ?_)⟩
      clear tab13 hdl hdv ldv hzs kD a1 a2 k17 k18 k19 s14 s15 s16 s17 s18 s19 t19 dI3 h14
      -- a table without totals
      dsimp only [tNext, tRet, tOp, tCall]
      refine at_cons (at_make (at_cons (lit_strs (cs := ["a"]) (by decide) fun J1 u1 r1 ku => ?_)))
      refine at_cons (lit_tots (K := K) (cs := ([] : List (List Int))) ⟨by decide, by decide⟩ fun J2 t xs r2 kt hX => ?_)
      refine fun x2 dx nx nd ne => tab_made (sqt (r2 _ _ ku)) okA1.kinds (sqt kt) hX okA1.len okA1.lots nx nd ne fun J3 r3 tab na => ?_
      clear r1 r2 r3 ku kt hX na nx nd ne
      refine at_cons (at_cons (half_line (K := K) 0 fun J4 v4 r4 h4 => ?_))
      refine ⟨Nat.le_of_ble_eq_true rfl, fun w nw => ?_⟩
      generalize eJ5 : L2.upd J4 w _ = J5
      have r5 := same_of nw eJ5
      have k5 := at_of eJ5
      clear eJ5
      refine ⟨x2, w, ["a"], [], [(0, (1, 2))], rfl, tab.mono (r4.trans r5), okA1, ⟨_, sqt k5, ⟨h4.mono r5, trivial⟩, fun l hl => by rw [List.mem_singleton.mp hl]; exact ⟨by decide, ⟨⟨by decide, by decide +kernel⟩, by decide, by decide⟩⟩⟩, by decide, fun _ J6 u6 r6 hu6 => ?_, fun z => absurd z (by decide)⟩
      rw [ex4] at hu6
      refine at_cons (at_cons (rounded_half (K := K) 0 0 fun J7 v7 r7 h7 => ?_))
      refine ⟨Nat.le_of_ble_eq_true rfl, fun d1 n1 => ?_⟩
      generalize eJ8 : L2.upd J7 d1 _ = J8
      have r8 := same_of n1 eJ8
      have k8 := at_of eJ8
      clear eJ8
      refine at_cons (at_cons (rounded_half (K := K) 0 1 fun J9 v9 r9 h9 => ?_))
      refine ⟨Nat.le_of_ble_eq_true rfl, fun d2 n2 => ?_⟩
      generalize eJ10 : L2.upd J9 d2 _ = J10
      have r10 := same_of n2 eJ10
      have k10 := at_of eJ10
      clear eJ10
      refine ⟨Nat.le_of_ble_eq_true rfl, fun e n3 => ?_⟩
      generalize eJ11 : L2.upd J10 e _ = J11
      have r11 := same_of n3 eJ11
      have k11 := at_of eJ11
      clear eJ11
      have q10 := r10.trans r11
      have q9 := r9.trans q10
      have q8 := r8.trans q9
      have lit : DaysT K J11 e [[(0, (1, 2), 0)], [(0, (1, 2), 1)]] := ⟨_, sqt k11, ⟨d1, rfl, _, sqt (q9 _ _ k8), h7.mono q8, trivial⟩, ⟨d2, rfl, _, sqt (r11 _ _ k10), h9.mono q10, trivial⟩, trivial⟩
      refine ⟨_, _, dp_days (hu6.mono (r7.trans q8)), dp_days lit, shaped_days _, shaped_days _, ?_⟩
      rw [eqv_days, decide_eq_true rfl]
      exact fin J11
end
end K10
namespace CK
open PySem PySem.Spec PyProof.Rows L2 VG FR HD M9
def kL2 : List Str := ["k", "n"]
def tL2 : List (List Int) := [[0]]
theorem okL2 : TabOk kL2 tL2 := ⟨kinds_dec (by decide) (by decide +kernel) (by decide +kernel), by decide, fun c hc => lot_dec (List.all_eq_true.mp (by decide +kernel : tL2.all (lotB (kL2.length : Int)) = true) c hc)⟩
def halfT (b : Bool) : Told := (0, (if b then -1 else 1, 2))
theorem halves_keep (b : Bool) : (keptU tL2 (List.replicate 12 (halfT b))).length = 64 := by cases b <;> decide +kernel
theorem halves_nodup (b : Bool) : (keptU tL2 (List.replicate 12 (halfT b))).Nodup := by cases b <;> decide +kernel
theorem wholes_keep : keptU tL2 (List.replicate 12 (1, (3, 1))) = [List.replicate 12 (1, (3, 1), 3)] := by decide +kernel
/-- len(set(days)), days a tuple of days that are apart -/
def tLenSetD (K : PySem.W.Frag) (ta : TE) : TE := fun σ H Q => ta σ H fun x H1 => ∃ (a : Addr) (ds : List (List Line)), x = .ref a ∧ DaysT K H1 a ds ∧ ds.Nodup ∧ ds.length ≤ 64 ∧ ∀ H2, Same H1 H2 → Q (.int (ds.length : Nat)) H2
def LenSetD : Prop := ∀ (X : Cx) (a : Expr) (ta : TE) (p p2 q pos : Pos), X.calm = true → X.A.units + 64 < cLine → Gl X "len" → X.mg "len" = none → Gl X "set" → X.mg "set" = none → PE X a ta → starEach [a] X.env = (false, eval a X.env) :: starEach [] X.env →
  PE X (.Call (.Name "len" p) [.Call (.Name "set" p2) [a] [] q] [] pos) (tLenSetD X.K ta)
theorem cutV_len (xs : List V) (lo hi : Option Int) : (cutV xs lo hi).length ≤ xs.length := by
  unfold cutV
  rw [List.length_take, List.length_drop]
  omega
theorem lr_rep {α : Type} {R : V → α → Prop} {v : V} {r : α} (h : R v r) : ∀ n : Nat, LR R (List.replicate n v) (List.replicate n r)
  | 0 => trivial
  | n + 1 => ⟨h, lr_rep h n⟩
theorem lines_repK {K : PySem.W.Frag} {H : Hp} {v : V} {r : Line} (h : LineAt K H v r) : ∀ n : Nat, Lines K H (List.replicate n v) (List.replicate n r)
  | 0 => trivial
  | n + 1 => ⟨h, lines_repK h n⟩
theorem mem_cutK {xs : List V} {lo hi : Option Int} {v : V} (h : v ∈ cutV xs lo hi) : v ∈ xs := by
  unfold cutV at h
  exact List.mem_of_mem_drop (List.mem_of_mem_take h)
end CK
namespace K10
open PySem PySem.Spec PyProof.Rows L2 VG FR CK HD M9
abbrev s__law_large_right : Stmt := topS 67
abbrev N__law_large_right : List Str := ["heap", "half", "days", "line", "table", "day"]
theorem sc__law_large_right : FnScope N__law_large_right ["heap"] (defScope s__law_large_right) := ⟨rfl, rfl, rfl, by decide +kernel, rfl, by decide +kernel, by decide +kernel⟩
section
variable {P : Program} {w : World} {K : PySem.W.Frag} {mg : Str → Option Value} {base : Heap}
theorem ok__law_large_right {f c0 Pt C R : Addr} {fd : FuncData} {T : List (Addr × Str)} (LS : LenSetD) (F : FunC K "_law_large_right" "_law_large_right" s__law_large_right f fd c0) (T_Table : MkT P w K mg base 7 "Table" C (spInitT K C))
    (hrd : Hrd K mg R) (TB : LamX.TabB base mg c0 Pt) (inT : (Pt, lamQ (("_law_large_right" : Str) ++ ".<locals>.")) ∈ T) (oneT : ∀ p ∈ T, p.1 = Pt → p.2 = lamQ (("_law_large_right" : Str) ++ ".<locals>."))
    (C__law_draw : Cl P w K mg base 1 "_law_draw" spDraw) (C__law_kept : Cl P w K mg base 1 "_law_kept" (spLawKept K)) (C_kept_days : Cl P w K mg base 5 "kept_days" (fun vs H Q _ => spKept K C R vs H Q E0)) (X_kept_days : ClX P w K mg base 5 "kept_days" (spKept K C R))
    (z_len : mg "len" = none) (z_set : mg "set" = none) (z_all : mg "all" = none) : FnG P w K mg base 15 f fd ["heap"] (spLong K T) := by
  refine fnGC_of F sc__law_large_right (fun vs H Q E h => ?_) (fun A outer s H vs Q E hg hr h => ?_)
  · obtain ⟨_, _, rfl, _⟩ := h
    rfl
  · obtain ⟨p, q, rfl, hd, tabs, fin⟩ := h
    refine ⟨_, (pss_cons (ps_asg (pe_tup (pa_cons (pe_mt T_Table hr (by decide) rfl (pa_cons (pe_tup (pa_cons pe_str (pa_cons pe_str pa_nil))) (pa_cons (pe_tup (pa_cons (pe_tup (pa_cons pe_int pa_nil)) pa_nil)) pa_nil))) (pa_cons (pe_tup (pa_cons pe_int (pa_cons (pe_tup (pa_cons (pe_op op_sub pe_int (pe_op op_mulW pe_int (pe_cl C__law_draw hr (by decide) rfl (pa_cons (pv 0) (pa_cons pe_int pa_nil))))) (pa_cons pe_int pa_nil))) pa_nil))) pa_nil))) (pg_tup rfl (pgs_cons (pg_name (i := 4) sc__law_large_right.nd rfl (.inr rfl)) (pgs_cons (pg_name (i := 1) sc__law_large_right.nd rfl (.inl rfl)) pgs_nil))))
    (pss_cons (ps_set (i := 2) sc__law_large_right.nd rfl (.inl rfl) (pe_cl C_kept_days hr (by decide) rfl (pa_cons (pv 4) (pa_cons (pe_op (show OpR _ (binaryOp .Mult) (rRepA K) from op_repA) (pe_tup (pa_cons (pv 1) pa_nil)) pe_int) pa_nil))))
    (pss_cons (ps_if (PW.pt (pw_or (pt_cmpR op_ne (pe_callB call_len_seq (by rfl) z_len (by decide +kernel) (pa_cons (pv 2) pa_nil)) pe_int (nomark _)) (pw_or (pt_cmpR op_ne (LS _ _ _ _ _ _ _ rfl hr.units rfl z_len rfl z_set (pv 2) rfl) pe_int (nomark _)) (pw_or1 (pt_not (pt_val (pe_callB (cr_all rfl) (by rfl) z_all (by decide +kernel) (pa_cons (pe_lc (own := [("day", 5)]) (by rfl) sc__law_large_right.nd (pi_tup (pe_op op_catM (pe_slice sl_tupM (pv 2) po_none (po_some pe_int)) (pe_slice sl_tupM (pv 2) (po_some (pe_un un_neg pe_int)) po_none))) (blkOk_by (own := [("day", 5)]) (N := N__law_large_right) (sc := defScope s__law_large_right) (by decide +kernel)) (fun _ _ _ _ _ => (pg_name (i := 5) sc__law_large_right.nd rfl (.inl rfl))) (fun _ _ _ _ _ => pts_nil) (fun _ _ _ _ _ => (pe_cl C__law_kept hr (by decide) rfl (pa_cons (pe_tup (pa_cons (pe_tup (pa_cons pe_int pa_nil)) pa_nil)) (pa_cons (pv 5) pa_nil))))) pa_nil))))))))
      (pss_one (ps_ret pe_bl))
      pss_nil)
    (pss_cut (ps_for PassesOwn.never rfl (pi_tup (pe_tup (pa_cons (pv 1) (pa_cons (pe_tup (pa_cons pe_int (pa_cons (pe_tup (pa_cons pe_int (pa_cons pe_int pa_nil))) pa_nil))) pa_nil)))) (pg_name (i := 3) sc__law_large_right.nd rfl (.inr rfl))
      (pss_one (ps_if (pt_cmpR op_ne (pe_meet (pe_heard (k := 9) (T := T) hrd rfl TB rfl inT oneT (hr.mono (by decide)) (show LamX.LamS (defScope s__law_large_right) _ from LamX.lamS_by (by decide +kernel)) rfl (fun _ _ _ _ _ => rfl) (fun A2 outer2 s2 H2 E2 f2 c2 hr2 => pe_clx X_kept_days hr2 (by decide) (takes_of (E := E2) rfl rfl rfl rfl) rfl (pa_cons (pv 4) (pa_cons (pe_op (show OpR _ (binaryOp .Mult) (rRepA K) from op_repA) (pe_tup (pa_cons (pv 3) pa_nil)) pe_int) pa_nil))))) pe_str (nomark _))
        (pss_one (ps_ret pe_bl))
        pss_nil)))
    (pss_one (ps_ret (pe_cmpR (op_eqD hr.units) (pe_cl C_kept_days hr (by decide) rfl (pa_cons (pv 4) (pa_cons (pe_op (show OpR _ (binaryOp .Mult) (rRepA K) from op_repA) (pe_tup (pa_cons (pe_tup (pa_cons pe_int (pa_cons (pe_tup (pa_cons pe_int (pa_cons pe_int pa_nil))) pa_nil))) pa_nil)) pe_int) pa_nil))) (pe_tup (pa_cons (pe_op (show OpR _ (binaryOp .Mult) (rRepA K) from op_repA) (pe_tup (pa_cons (pe_tup (pa_cons pe_int (pa_cons (pe_tup (pa_cons pe_int (pa_cons pe_int pa_nil))) (pa_cons pe_int pa_nil)))) pa_nil)) pe_int) pa_nil)) (nomark _)))))))), ?_⟩
    have on0 := OnT.start (T := T) hd tabs
    have nG := on0.2.2
    generalize GB p q H = G at on0 nG fin
    refine ⟨Nat.le_of_ble_eq_true rfl, fun u nu => ?_⟩
    generalize e1 : L2.upd _ u _ = H1
    have s1 := same_of nu e1
    have ku : H1 u = some (.tup (kL2.map V.str)) := at_of e1
    refine ⟨Nat.le_of_ble_eq_true rfl, fun z nz => ?_⟩
    generalize e2 : L2.upd _ z _ = H2
    have s2 := same_of nz e2
    have kz : H2 z = some (.tup (([0] : List Int).map V.int)) := at_of e2
    refine ⟨Nat.le_of_ble_eq_true rfl, fun y ny => ?_⟩
    generalize e3 : L2.upd _ y _ = H3
    have s3 := same_of ny e3
    have ky := at_of e3
    refine fun x dx nx nd ne => tab_made (sqt ((s2.trans s3) _ _ ku)) okL2.kinds (sqt ky) (ts := tL2) ⟨⟨z, rfl, sqt (s3 _ _ kz)⟩, trivial⟩ okL2.len okL2.lots nx nd ne fun H4 s4 tab na => ?_
    have on4 := ((((on0.same s1).same s2).same s3).same s4)
    have tab4 := tab_gb on4.hd tab
    have ⟨B4, g4⟩ := on4.base
    have nG4 := B4.2.2
    have back : ∀ {H'}, OnT T p q (GB p q H4) H' → OnT T p q G H' := fun h => h.drop g4 nG
    clear e1 e2 e3 s1 s2 s3 s4 ku kz ky nu nz ny nx nd ne na on4 g4 tab on0
    generalize GB p q H4 = G4 at tab4 B4 nG4 back
    -- the half
    refine ⟨_, rfl, p, q, _, rfl, B4.hd, by decide, by decide, fun H5 r hd5 kp5 r0 r1 => ?_⟩
    have on5 := B4.draw hd5 kp5
    refine ⟨_, _, rfl, rfl, mulW (up (n := 40) (by decide) (by decide)) (up (n := 40) (by omega) (by decide)), _, _, rfl, rfl, Nat.le_of_ble_eq_true rfl, fun w nw => ?_⟩
    obtain ⟨b, eb⟩ : ∃ b : Bool, (1 : Int) - 2 * r = if b then -1 else 1 := by
      by_cases h : r = 0
      · exact ⟨false, by rw [h]; rfl⟩
      · exact ⟨true, by rw [show r = 1 by omega]; rfl⟩
    generalize e6 : L2.upd _ w _ = H6
    have s6 := same_of nw e6
    have k6 := at_of e6
    refine ⟨Nat.le_of_ble_eq_true rfl, fun h1 n1 => ?_⟩
    generalize e7 : L2.upd _ h1 _ = H7
    have s7 := same_of n1 e7
    have k7 := at_of e7
    refine ⟨Nat.le_of_ble_eq_true rfl, fun o no => ?_⟩
    generalize e8 : L2.upd _ o _ = H8
    have s8 := same_of no e8
    have k8 := at_of e8
    refine ⟨o, _, rfl, .inl (.inl k8), rfl, _, _, rfl, _, _, rfl, rfl, ?_⟩
    have on8 := ((on5.same s6).same s7).same s8
    have td8 : TdAt K H8 (.ref h1) (halfT b) := by
      refine ⟨h1, w, rfl, .inl (.inl (s8 _ _ k7)), .inl (.inl ?_)⟩
      have k := (s7.trans s8) _ _ k6
      have k : H8 w = some (.tup [.int (1 - 2 * r), .int 2]) := k
      rw [eb] at k
      exact k
    clear e6 e7 e8 s6 s7 s8 k6 k7 k8 nw n1 no on5 hd5 kp5 B4 eb r0 r1
    have half : TdS 2 (halfT b) := by cases b <;> exact ⟨by decide, ⟨⟨⟨by decide, by decide +kernel⟩, by decide, by decide⟩, by decide, by decide⟩⟩
    have tdG : TdAt K (GB p q H8) (.ref h1) (halfT b) := td8.up fun t xs h => seqT_gb on8.hd h
    have ⟨B8, g8⟩ := on8.base
    have tab8 := tab4.mono g8
    have back8 : ∀ {H'}, OnT T p q (GB p q H8) H' → OnT T p q G H' := fun h => back (h.drop g8 nG4)
    have nG8 := B8.2.2
    clear on8 td8 g8 back tab4
    generalize GB p q H8 = G8 at tdG B8 tab8 back8 nG8
    -- the days of twelve halves
    refine ⟨_, rfl, _, rfl, Nat.le_of_ble_eq_true rfl, fun y ny => ?_⟩
    generalize e1 : L2.upd _ y _ = J1
    have t1 := same_of ny e1
    have k1 := at_of e1
    refine ⟨y, 12, [.ref h1], rfl, rfl, sqt k1, by simp, by decide, (by show 1 ≤ 1000; decide), fun w1 J2 t2 hw => ?_⟩
    rw [rep_one] at hw
    have on2 := (B8.same t1).same t2
    have hk := halves_keep b
    have hn := halves_nodup b
    have rows : ∀ rs ∈ keptU tL2 (List.replicate 12 (halfT b)), (∀ r ∈ rs, RowS 2 r) ∧ rs.length ≤ 12 ∧ keptB tL2 rs = true := fun rs hr => by
      rw [kept_eq, List.mem_filter] at hr
      have q := (rndU_ok (List.replicate 12 (halfT b))).1 rs hr.1
      rw [List.length_replicate] at q
      exact ⟨rndU_rows (fun l hl => by rw [List.eq_of_mem_replicate hl]; exact half) rs hr.1, by omega, hr.2⟩
    refine ⟨x, w1, kL2, tL2, List.replicate 12 (halfT b), rfl, tab8.mono on2.le, okL2, ⟨_, hw, lr_rep (tdG.mono on2.le) 12, fun l hl => by rw [List.eq_of_mem_replicate hl]; exact half.told⟩, by rw [List.length_replicate]; decide, fun _ J3 u t3 hu => ?_, fun z => absurd z (by rw [List.length_replicate]; decide)⟩
    generalize keptU tL2 (List.replicate 12 (halfT b)) = ds at hk hn rows hu
    obtain ⟨dv, hdv, hdl⟩ := hu
    have ldv := hdl.len
    have on3 := on2.same t3
    have e64 : (dv.length : Int) = 64 := by omega
    clear e1 t1 k1 ny hw t2 t3 on2 B8
    refine ⟨_, rfl, u, dv, rfl, .inr hdv, rfl, _, rfl, ite_eq false (congrArg Bool.not (decide_eq_true (congrArg V.int e64))) (iteF ?_)⟩
    refine ⟨_, rfl, u, ds, rfl, ⟨dv, hdv, hdl⟩, hn, by omega, fun J4 t4 => ?_⟩
    have on4 := on3.same t4
    refine ⟨rfl, _, rfl, ite_eq false (congrArg Bool.not (decide_eq_true (congrArg V.int (by omega)))) (iteF ?_)⟩
    have hdv4 := seqT t4 hdv
    have hdl4 : LR (DayV K J4) dv ds := hdl.imp fun _ _ q => q.mono t4
    clear hdv hdl on3 t4
    refine ⟨_, rfl, _, rfl, u, dv, rfl, hdv4, fun c1 J5 t5 h5 => ?_⟩
    refine ⟨_, rfl, _, rfl, _, rfl, u, dv, rfl, seqT t5 hdv4, fun c2 J6 t6 h6 => ?_⟩
    refine ⟨c1, c2, _, _, rfl, rfl, seqT t6 h5, h6, ?_, fun c3 J7 t7 h7 => ?_⟩
    · have a1 := (cutV_len dv none (some 3))
      have a2 := (cutV_len dv (some (-3)) none)
      have big : sizeLine = 16777216 := by decide
      omega
    have inD : ∀ v ∈ cutV dv none (some 3) ++ cutV dv (some (-3)) none, v ∈ dv := fun v hv => by
      rcases List.mem_append.mp hv with h | h <;> exact mem_cutK h
    have l7 : (cutV dv none (some 3) ++ cutV dv (some (-3)) none).length ≤ 200 := by
      have a1 := (cutV_len dv none (some 3))
      have a2 := (cutV_len dv (some (-3)) none)
      rw [List.length_append]
      omega
    generalize cutV dv none (some 3) ++ cutV dv (some (-3)) none = cs at inD h7 l7
    have on7 := ((on4.same t5).same t6).same t7
    have hdl7 : LR (DayV K J7) dv ds := hdl4.imp fun _ _ q => q.mono (t5.trans (t6.trans t7))
    clear hdv4 hdl4 h5 h6 t5 t6 t7 on4
    refine ⟨c3, rfl, ⟨_, h7⟩, fun D nD => ?_⟩
    refine lc_it (walk_tup (K := K) (a := c3) (xs := cs)) (fun i H' => Same J7 H' ∧ H' D = some (.lst (List.replicate i (V.bl true)))) ⟨same_upd nD, upd_same⟩ (fun i H' _ h => seqT h.1 h7) ?_ ?_
    · rintro i v J8 J9 hi ⟨t9, kD⟩ ⟨e2, ev⟩
      subst e2
      obtain ⟨j, ej⟩ := List.mem_iff_getElem?.mp (inD v (List.mem_of_getElem? ev))
      obtain ⟨rs, ers, d, rfl, hday⟩ := hdl7.get ej
      have rr := rows rs (List.mem_of_getElem? ers)
      refine ⟨rfl, Nat.le_of_ble_eq_true rfl, fun z nz => ?_⟩
      generalize e1 : L2.upd _ z _ = J10
      have t10 := same_of nz e1
      have k10 : J10 z = some (.tup (([0] : List Int).map V.int)) := at_of e1
      refine ⟨Nat.le_of_ble_eq_true rfl, fun y ny => ?_⟩
      generalize e2 : L2.upd _ y _ = J11
      have t11 := same_of ny e2
      have k11 := at_of e2
      have t911 := t9.trans (t10.trans t11)
      refine ⟨_, rfl, y, d, 2, tL2, rs, rfl, ⟨_, sqt k11, ⟨⟨z, rfl, sqt (t11 _ _ k10)⟩, trivial⟩, okL2.len, okL2.lots⟩, hday.mono t911, rr.1, rr.2.1, fun J12 t12 => ?_⟩
      rw [rr.2.2]
      refine ⟨_, (t10.trans (t11.trans t12)) _ _ kD, ?_, HD.same_put (t911.trans t12) nD, ?_⟩
      · rw [List.length_replicate]
        have big : sizeLine = 16777216 := by decide
        omega
      · rw [upd_same, List.replicate_succ']
    rintro J8 ⟨t8, kD⟩
    have e : List.replicate cs.length (V.bl true) = (List.replicate cs.length true).map V.bl := (List.map_replicate ..).symm
    rw [e] at kD
    refine ⟨D, _, rfl, .inl (.inl kD), ?_⟩
    have e2 : (List.replicate cs.length true).all id = true := List.all_eq_true.mpr fun x hx => List.eq_of_mem_replicate hx
    rw [e2]
    refine ⟨_, rfl, iteF ?_⟩
    have on8 := on7.same t8
    clear e e2 kD t8 on7 hdl7 nD h7 inD l7 rows hn hk e64 ldv
    refine ⟨fun σ H' => (∃ y2 y3 y5 : Option V, σ = [some (.ref p), some (.ref h1), y2, y3, some (.ref x), y5]) ∧ OnT T p q G8 H', ?_, ?_⟩
    · refine ⟨_, rfl, Nat.le_of_ble_eq_true rfl, fun a1 n1 => ?_⟩
      generalize e1 : L2.upd _ a1 _ = J9
      have t1 := same_of n1 e1
      have k1 := at_of e1
      refine ⟨Nat.le_of_ble_eq_true rfl, fun b1 n2 => ?_⟩
      generalize e2 : L2.upd _ b1 _ = J10
      have t2 := same_of n2 e2
      have k2 := at_of e2
      refine ⟨Nat.le_of_ble_eq_true rfl, fun c1 n3 => ?_⟩
      generalize e3 : L2.upd _ c1 _ = J11
      have t3 := same_of n3 e3
      have k3 := at_of e3
      have on11 := ((on8.same t1).same t2).same t3
      have td2 : TdAt K (GB p q J11) (.ref b1) (1, (3, 1)) := ⟨b1, a1, rfl, seqT_gb on11.hd (.inl (.inl (t3 _ _ k2))), seqT_gb on11.hd (.inl (.inl ((t2.trans t3) _ _ k1)))⟩
      have sc := seqT_gb (K := K) on11.hd (sqt k3)
      have ⟨B11, g11⟩ := on11.base
      have td1 := tdG.mono g11
      have tab11 := tab8.mono g11
      have back11 : ∀ {H'}, OnT T p q (GB p q J11) H' → OnT T p q G8 H' := fun h => h.drop g11 nG8
      clear e1 e2 e3 t1 t2 t3 k1 k2 k3 n1 n2 n3 on11 g11 on8
      generalize GB p q J11 = G11 at td2 sc B11 td1 tab11 back11
      refine ⟨c1, rfl, ⟨_, seqT B11.le sc⟩, ?_⟩
      refine for_it (walk_tup (K := K) (a := c1) (xs := [.ref h1, .ref b1])) (fun i σ H' => (∃ y2 y3 y5 : Option V, σ = [some (.ref p), some (.ref h1), y2, y3, some (.ref x), y5]) ∧ OnT T p q G11 H') ⟨⟨_, _, _, rfl⟩, B11⟩ (fun i σ H' _ h => seqT h.2.le sc) ?_ ?_
      · rintro i v σ J12 J13 hi ⟨⟨y2, y3, y5, rfl⟩, onA⟩ ⟨rfl, ev⟩
        obtain ⟨td, htd, hok⟩ : ∃ td, TdAt K G11 v td ∧ TdOk 2 td := by
          have m := List.mem_of_getElem? ev
          simp only [List.mem_cons, List.not_mem_nil, or_false] at m
          rcases m with e | e
          · exact ⟨_, e ▸ td1, half.told⟩
          · exact ⟨_, e ▸ td2, ⟨by decide, ⟨⟨by decide, by decide +kernel⟩, by decide, by decide⟩⟩⟩
        refine ⟨fun w H' => w = V.str ("size" : String) ∧ OnT T p q G11 H', ⟨onA.2.1, fun J14 e14 tb14 => ?_⟩, ?_⟩
        · have onB := onA.lam e14 tb14
          refine ⟨_, rfl, _, rfl, Nat.le_of_ble_eq_true rfl, fun y ny => ?_⟩
          generalize e1 : L2.upd _ y _ = J15
          have t1 := same_of ny e1
          have k1 := at_of e1
          refine ⟨y, 13, [v], rfl, rfl, sqt k1, by simp, by decide, (by show 1 ≤ 1000; decide), fun w3 J16 t2 hw => ?_⟩
          rw [rep_one] at hw
          have onC := (onB.same t1).same t2
          refine ⟨x, w3, kL2, tL2, List.replicate 13 td, rfl, tab11.mono onC.le, okL2, ⟨_, hw, lr_rep (htd.mono onC.le) 13, fun l hl => by rw [List.eq_of_mem_replicate hl]; exact hok⟩, by rw [List.length_replicate]; decide, fun z => absurd z (by rw [List.length_replicate]; decide), fun _ J17 xx t3 nx hx => ?_⟩
          exact ⟨rfl, xx, _, rfl, hx, rfl, onC.same t3⟩
        rintro w J14 ⟨rfl, onB⟩
        exact ⟨rfl, _, rfl, ite_eq false (congrArg Bool.not (decide_eq_true rfl)) (iteF ⟨⟨_, _, _, rfl⟩, onB⟩)⟩
      · rintro σ J12 ⟨y, onA⟩
        exact ⟨y, back11 onA⟩
    clear on8
    rintro σ J9 ⟨⟨y2, y3, y5, rfl⟩, on9⟩
    refine ⟨_, rfl, Nat.le_of_ble_eq_true rfl, fun a1 n1 => ?_⟩
    generalize e1 : L2.upd _ a1 _ = K1
    have t1 := same_of n1 e1
    have k1 := at_of e1
    refine ⟨Nat.le_of_ble_eq_true rfl, fun b1 n2 => ?_⟩
    generalize e2 : L2.upd _ b1 _ = K2
    have t2 := same_of n2 e2
    have k2 := at_of e2
    refine ⟨Nat.le_of_ble_eq_true rfl, fun c1 n3 => ?_⟩
    generalize e3 : L2.upd _ c1 _ = K3
    have t3 := same_of n3 e3
    have k3 := at_of e3
    have on3 := ((on9.same t1).same t2).same t3
    have td : TdAt K K3 (.ref b1) (1, (3, 1)) := ⟨b1, a1, rfl, sqt (t3 _ _ k2), sqt ((t2.trans t3) _ _ k1)⟩
    refine ⟨c1, 12, [.ref b1], rfl, rfl, sqt k3, by simp, by decide, (by show 1 ≤ 1000; decide), fun w1 K4 t4 hw => ?_⟩
    rw [rep_one] at hw
    have on4 := on3.same t4
    refine ⟨x, w1, kL2, tL2, List.replicate 12 (1, (3, 1)), rfl, tab8.mono on4.le, okL2, ⟨_, hw, lr_rep (td.mono t4) 12, fun l hl => by rw [List.eq_of_mem_replicate hl]; exact ⟨by decide, ⟨⟨by decide, by decide +kernel⟩, by decide, by decide⟩⟩⟩, by rw [List.length_replicate]; decide, fun _ K5 u5 t5 hu => ?_, fun z => absurd z (by rw [List.length_replicate]; decide)⟩
    rw [wholes_keep] at hu
    have on5 := on4.same t5
    clear e1 e2 e3 t1 t2 t3 k1 k2 k3 n1 n2 n3 on3 on4 on9 td hw t4 t5
    refine ⟨Nat.le_of_ble_eq_true rfl, fun a2 n1 => ?_⟩
    generalize e1 : L2.upd _ a2 _ = K6
    have t1 := same_of n1 e1
    have k1 := at_of e1
    refine ⟨Nat.le_of_ble_eq_true rfl, fun b2 n2 => ?_⟩
    generalize e2 : L2.upd _ b2 _ = K7
    have t2 := same_of n2 e2
    have k2 := at_of e2
    refine ⟨Nat.le_of_ble_eq_true rfl, fun c2 n3 => ?_⟩
    generalize e3 : L2.upd _ c2 _ = K8
    have t3 := same_of n3 e3
    have k3 := at_of e3
    have ln : LineAt K K8 (.ref b2) (1, (3, 1), 3) := ⟨b2, a2, rfl, sqt (t3 _ _ k2), sqt ((t2.trans t3) _ _ k1)⟩
    refine ⟨c2, 12, [.ref b2], rfl, rfl, sqt k3, by simp, by decide, (by show 1 ≤ 1000; decide), fun w2 K9 t4 hw => ?_⟩
    rw [rep_one] at hw
    refine ⟨Nat.le_of_ble_eq_true rfl, fun o no => ?_⟩
    generalize e4 : L2.upd _ o _ = K10
    have t5 := same_of no e4
    have k5 := at_of e4
    have tt := t1.trans (t2.trans (t3.trans (t4.trans t5)))
    have lit : DaysT K K10 o [List.replicate 12 (1, (3, 1), 3)] := ⟨_, sqt k5, ⟨w2, rfl, _, seqT t5 hw, lines_repK (ln.mono (t4.trans t5)) 12⟩, trivial⟩
    refine ⟨_, _, dp_days (hu.mono tt), dp_days lit, shaped_days _, shaped_days _, ?_⟩
    rw [eqv_days, decide_eq_true rfl]
    exact fin K10 (back8 (on5.same tt))
end
end K10
namespace VG
open PySem PySem.Spec PyProof.Rows L2
mutual
def Nums : NestedKey → Prop
  | .num _ => True
  | .tup ks => NumsA ks
  | .none => False
  | .text _ => False
def NumsA : List NestedKey → Prop
  | [] => True
  | k :: ks => Nums k ∧ NumsA ks
end
/-- b is such a tuple, not too deep -/
def KeyA (h : Heap) (k : NestedKey) (b : Addr) : Prop := NestedIs h k (.ref b) ∧ k.depth ≤ 8 ∧ Nums k
theorem keyA_keep {h h' : Heap} {k : NestedKey} {b : Addr} (x : KeyA h k b) (kp : ∀ c o, h.get? c = some o → h'.get? c = some o) : KeyA h' k b := ⟨NestedIs.at (fun c o _ _ at_ _ => kp c o at_) k _ x.1, x.2⟩
section
variable {P : Program} {w : World} {A : Around} {E : Value → Shared → Prop} {s : Shared}
/-- a question that a value answers so, wherever it is asked -/
def Says (P : Program) (w : World) (f : Value → Sem Bool) (b : Bool) (s : Shared) (v : Value) : Prop := ∀ (A : Around) (E : Value → Shared → Prop) (Q : Bool → Shared → Prop), Q b s → wpAny (model P w) A (f v) Q E s
theorem hash_tupN {n : Nat} {a : Addr} {o : Obj} {vs : Array Value} {m : Nat} (at_ : s.heap.get? a = some o) (oc : o.cls = .type "tuple") (od : o.data = .seq vs m) (all : ∀ v ∈ vs.toList, Says P w (hashByValue n) true s v) : Says P w (hashByValue (n + 1)) true s (.ref a) := fun A E Q fin => by
  unfold hashByValue
  refine wpAny_bind (wpAny_specialOf (T := "tuple") ⟨o, at_, oc⟩ F.slot_tuple_hash.lookup ?_)
  show wpAny _ _ (seqItems? (.ref a) >>= fun _ => _) _ _ s
  refine wpAny_bind (wpAny_seqItems at_ od (wpAny_bind ?_))
  show wpAny _ _ (forIn vs (none, ()) _) _ _ s
  rw [← Array.forIn_toList]
  refine wpAny_forIn_list _ (fun left r z => r.1 = none ∧ z = s ∧ ∀ v ∈ left, Says P w (hashByValue n) true s v) _ (fun v left r z got => ?_) (fun r z got => ?_) _ _ ⟨rfl, rfl, all⟩
  · obtain ⟨_, rfl, each⟩ := got
    refine wpAny_bind (each v List.mem_cons_self _ _ _ ?_)
    simp only [Bool.not_true, Bool.false_eq_true, if_false]
    exact wpAny_pure ⟨rfl, rfl, fun u m => each u (List.mem_cons_of_mem _ m)⟩
  · obtain ⟨r1, r2⟩ := r
    obtain ⟨z1, rfl, _⟩ := got
    simp only at z1
    subst z1
    exact wpAny_pure fin
theorem class_tupN {n : Nat} {a : Addr} {o : Obj} {vs : Array Value} {m : Nat} (at_ : s.heap.get? a = some o) (oc : o.cls = .type "tuple") (od : o.data = .seq vs m) (all : ∀ v ∈ vs.toList, Says P w (ofAClassStatement n) false s v) : Says P w (ofAClassStatement (n + 1)) false s (.ref a) := fun A E Q fin => by
  unfold ofAClassStatement
  refine wpAny_bind (wpAny_typeOf (T := "tuple") ⟨o, at_, oc⟩ ?_)
  dsimp only
  simp only [show (("tuple" : String) == "tuple") = true from by decide, if_true, Bool.not_true, Bool.false_eq_true, if_false]
  try refine wpAny_bind (wpAny_pure ?_)
  try simp only [Bool.not_true, Bool.false_eq_true, if_false]
  show wpAny _ _ (seqItems? (.ref a) >>= fun _ => _) _ _ s
  refine wpAny_bind (wpAny_seqItems at_ od ?_)
  dsimp only
  refine wpAny_bind ?_
  show wpAny _ _ (forIn vs (none, ()) _) _ _ s
  rw [← Array.forIn_toList]
  refine wpAny_forIn_list _ (fun left r z => r.1 = none ∧ z = s ∧ ∀ v ∈ left, Says P w (ofAClassStatement n) false s v) _ (fun v left r z got => ?_) (fun r z got => ?_) _ _ ⟨rfl, rfl, all⟩
  · obtain ⟨_, rfl, each⟩ := got
    refine wpAny_bind (each v List.mem_cons_self _ _ _ ?_)
    simp only [Bool.false_eq_true, if_false]
    exact wpAny_pure ⟨rfl, rfl, fun u m => each u (List.mem_cons_of_mem _ m)⟩
  · obtain ⟨r1, r2⟩ := r
    obtain ⟨z1, rfl, _⟩ := got
    simp only at z1
    subst z1
    exact wpAny_pure fin
theorem hash_val {n : Nat} {v : Value} (h : hashByValue n v = pure true) : Says P w (hashByValue n) true s v := fun A E Q fin => by
  rw [h]
  exact wpAny_pure fin
theorem class_val {n : Nat} {v : Value} (h : ofAClassStatement n v = pure false) : Says P w (ofAClassStatement n) false s v := fun A E Q fin => by
  rw [h]
  exact wpAny_pure fin
mutual
theorem says_hash : ∀ (k : NestedKey) (v : Value) (n : Nat), NestedIs s.heap k v → k.depth ≤ n → Nums k → Says P w (hashByValue n) true s v
  | .num i, _, n, x, _, _ => by cases x <;> exact hash_val (by cases n <;> rfl)
  | .tup ks, _, n, x, d, nm => by
    cases x with
    | tup a1 a2 a3 a4 =>
      simp only [NestedKey.depth] at d
      cases n with
      | zero => omega
      | succ n => exact hash_tupN a1 a2 a3 (says_hashes ks _ n a4 (by omega) nm)
theorem says_hashes : ∀ (ks : List NestedKey) (vs : List Value) (n : Nat), NestedAll s.heap ks vs → NestedKey.depthAll ks ≤ n → NumsA ks → ∀ v ∈ vs, Says P w (hashByValue n) true s v
  | [], _, n, x, _, _, v, m => by cases x; cases m
  | k :: ks, _, n, x, d, nm, v, m => by
    cases x with
    | cons x1 x2 =>
      simp only [NestedKey.depthAll] at d
      rcases List.mem_cons.mp m with e | m
      · rw [e]; exact says_hash k _ n x1 (by omega) nm.1
      · exact says_hashes ks _ n x2 (by omega) nm.2 v m
end
mutual
theorem says_class : ∀ (k : NestedKey) (v : Value) (n : Nat), NestedIs s.heap k v → k.depth ≤ n → Nums k → Says P w (ofAClassStatement n) false s v
  | .num i, _, n, x, _, _ => by cases x <;> exact class_val (by cases n <;> rfl)
  | .tup ks, _, n, x, d, nm => by
    cases x with
    | tup a1 a2 a3 a4 =>
      simp only [NestedKey.depth] at d
      cases n with
      | zero => omega
      | succ n => exact class_tupN a1 a2 a3 (says_classes ks _ n a4 (by omega) nm)
theorem says_classes : ∀ (ks : List NestedKey) (vs : List Value) (n : Nat), NestedAll s.heap ks vs → NestedKey.depthAll ks ≤ n → NumsA ks → ∀ v ∈ vs, Says P w (ofAClassStatement n) false s v
  | [], _, n, x, _, _, v, m => by cases x; cases m
  | k :: ks, _, n, x, d, nm, v, m => by
    cases x with
    | cons x1 x2 =>
      simp only [NestedKey.depthAll] at d
      rcases List.mem_cons.mp m with e | m
      · rw [e]; exact says_class k _ n x1 (by omega) nm.1
      · exact says_classes ks _ n x2 (by omega) nm.2 v m
end
/-- such a search shows nothing -/
theorem unseenN {k : NestedKey} {b : Addr} {Q : Bool → Shared → Prop} (x : KeyA s.heap k b) {ys : List Value} (all : ∀ y ∈ ys, ∃ k' c, y = Value.ref c ∧ KeyA s.heap k' c) (fin : Q false s) : wpAny (model P w) A (searchCouldBeSeen (.ref b) ys) Q E s := by
  unfold searchCouldBeSeen
  refine wpAny_bind ?_
  refine wpAny_forIn_list _ (fun left r z => r.1 = none ∧ z = s ∧ ∀ y ∈ left, ∃ k' c, y = Value.ref c ∧ KeyA s.heap k' c) _ (fun y left r z got => ?_) (fun r z got => ?_) _ _ ⟨rfl, rfl, all⟩
  · obtain ⟨_, rfl, each⟩ := got
    obtain ⟨k2, c, rfl, y⟩ := each y List.mem_cons_self
    have more : ∀ y ∈ left, ∃ k' c, y = Value.ref c ∧ KeyA z.heap k' c := fun u m => each u (List.mem_cons_of_mem _ m)
    dsimp only
    by_cases same : (b == c || (carriedByValue (.ref b) && carriedByValue (.ref c))) = true
    · exact wp_if_pos same (wpAny_pure ⟨rfl, rfl, more⟩)
    · refine wp_if_neg same (wpAny_bind (quiet_key _ _ 8 _ x.1 x.2.1 _ _ _ ?_))
      simp only [Bool.not_true, Bool.false_eq_true, if_false]
      refine wpAny_bind (quiet_key _ _ 8 _ y.1 y.2.1 _ _ _ ?_)
      simp only [Bool.not_true, Bool.false_eq_true, if_false]
      refine wpAny_bind (says_class _ _ 8 x.1 x.2.1 x.2.2 _ _ _ ?_)
      simp only [Bool.false_eq_true, if_false]
      refine wpAny_bind (says_class _ _ 8 y.1 y.2.1 y.2.2 _ _ _ ?_)
      simp only [Bool.false_eq_true, if_false]
      exact wpAny_pure ⟨rfl, rfl, more⟩
  · obtain ⟨r1, r2⟩ := r
    obtain ⟨z1, rfl, _⟩ := got
    simp only at z1
    subst z1
    exact wpAny_pure fin
/-- a set that holds the keys ks -/
structure NSet (w : World) (h0 h : Heap) (a : Addr) (ks : List NestedKey) (es : Array (Int × Value)) (ep : Nat) (t : SetTable) : Prop where
  ob : ∃ o, h.get? a = some o ∧ o.ExactSet ∧ o.data = .set es ep t
  size : es.size = ks.length
  tab : TabOk t (es.toList.map (·.1))
  good : ∀ r ∈ es.toList, ∃ k b, k ∈ ks ∧ r = (k.hash w, .ref b) ∧ KeyA h0 k b
  plain : t.plain = true
  led : w.params.followText "set-order" = true ∨ t.led = true
  room : es.size * 5 < t.mask * 3
variable {h0 : Heap} {a : Addr} {ks : List NestedKey} {es : Array (Int × Value)} {ep : Nat} {t : SetTable}
theorem NSet.fits {h : Heap} (N : NSet w h0 h a ks es ep t) : t.fits es.size = true := by
  have e := N.tab.sz
  have r := N.room
  rw [List.length_map, Array.length_toList] at e
  unfold SetTable.fits SetTable.fill
  rw [N.tab.dm, Bool.and_eq_true, beq_iff_eq, decide_eq_true_eq]
  show t.place.size = es.size ∧ t.place.size + 0 ≤ t.mask
  omega
theorem no_dummy (m : Nat) : ∀ (n : Nat) (p : SetTable.Probe), p.dummy = none → (nth m p n).dummy = none
  | 0, _, h => h
  | n + 1, p, h => no_dummy m n (adv m p) (by
    unfold adv
    split <;> exact h)
/-- a key that the set hasn't: the way ends at an empty slot -/
theorem search_gone (N : NSet w h0 s.heap a ks es ep t) (kp : ∀ c o, h0.get? c = some o → s.heap.get? c = some o) {x : Addr} {k : NestedKey} (key0 : KeyA h0 k x) (u8 : A.units + 8 < cLine) (new : k ∉ ks) {K : Nat} (bound : K < 10 * SetTable.turns t.mask)
    (free : way t.mask (k.hash w) K ∉ t.place.toList) (full : ∀ c, c < K → way t.mask (k.hash w) c ∈ t.place.toList) {Q : SetFound → Shared → Prop} (fin : Q (.free (way t.mask (k.hash w) K) false) s) :
    ∀ (f c : Nat) (st : Option SetTable.Probe), st.getD (t.probeStart (k.hash w)) = nth t.mask (runAt t.mask (SetTable.bits (k.hash w) % (t.mask + 1)) (SetTable.bits (k.hash w))) c → c ≤ K → K - c < f → wpAny (model P w) A (setSearchFrom a (.ref x) (k.hash w) true f st) Q E s
  | 0, c, st, _, _, lt => absurd lt (Nat.not_lt_zero _)
  | f + 1, c, st, e0, le, lt => by
    obtain ⟨o, at_, ex, od⟩ := N.ob
    have key := keyA_keep key0 kp
    generalize hp : runAt t.mask (SetTable.bits (k.hash w) % (t.mask + 1)) (SetTable.bits (k.hash w)) = p0 at e0
    have wy : ∀ q, way t.mask (k.hash w) q = (nth t.mask p0 q).j := fun q => by rw [← hp]
    have sh : ∀ q, nth t.mask (nth t.mask p0 c) q = nth t.mask p0 (c + q) := fun q => (nth_add t.mask c p0 q).symm
    have dn : (nth t.mask p0 c).dummy = none := no_dummy _ _ _ (by rw [← hp]; rfl)
    rw [setSearchFrom_succ]
    refine wpAny_bind (wpAny_setState_of at_ od N.fits ?_)
    dsimp only
    refine wp_if_neg (by unfold SetTable.gaveWay; rw [mask_odd N.tab.mok]; decide) ?_
    try refine wpAny_bind (wpAny_pure ?_)
    have two := go_spec t N.tab.ris N.tab.dm (fun i => (es[i]?.map (·.1)).getD 0) (k.hash w) (10 * SetTable.turns t.mask) (K - c) (nth t.mask p0 c) dn (by omega)
      (fun q lq => by rw [sh, ← wy]; exact full (c + q) (by omega)) (by rw [sh, ← wy, show c + (K - c) = K by omega]; exact free)
    rw [← e0] at two
    rcases two with ⟨q, i, lq, hi, same, _, found⟩ | ⟨_, none_⟩
    · rw [show t.probe (fun i => (es[i]?.map (·.1)).getD 0) (k.hash w) (st.getD (t.probeStart (k.hash w))) = _ from found]
      dsimp only
      rw [e0, sh] at hi
      have il : i < es.size := by
        have l1 := (List.getElem?_eq_some_iff.mp hi).1
        have l2 := N.tab.sz
        rw [List.length_map, Array.length_toList] at l2
        rw [Array.length_toList] at l1
        omega
      have ent : es[i]? = some es[i] := Array.getElem?_eq_getElem il
      obtain ⟨k2, b, in2, er, key02⟩ := N.good es[i] (by simp)
      have key2 := keyA_keep key02 kp
      rw [er] at ent
      have ne : k2 ≠ k := fun e => new (e ▸ in2)
      have rest : wpAny (model P w) A (searchRest a (.ref x) (k.hash w) true f es t (nth t.mask (st.getD (t.probeStart (k.hash w))) q).j i (nth t.mask (st.getD (t.probeStart (k.hash w))) (q + 1))) Q E s := by
        rw [e0, sh, sh]
        unfold searchRest
        rw [ent]
        dsimp only
        refine wpAny_bind (wpAny_holding ((nestedKind P w).eqBool (x := k2) (y := k) u8 ⟨key2.1, key2.2.1⟩ ⟨key.1, key.2.1⟩ ?_))
        rw [decide_eq_false ne]
        refine wpAny_bind (wpAny_setState_of at_ od N.fits ?_)
        dsimp only
        refine wp_if_neg (by decide) ?_
        try refine wpAny_bind (wpAny_pure ?_)
        rw [sameMem]
        dsimp only
        have live : t.slot (nth t.mask p0 (c + q)).j = .live i := slot_live N.tab.ris hi
        simp only [if_true, live, ent]
        refine wpAny_bind (wpAny_isSame_ref_self (wpAny_bind (wpAny_pure ?_)))
        simp only [if_true]
        refine wp_if_neg (by decide) ?_
        exact search_gone N kp key0 u8 new bound free full fin f (c + (q + 1)) _ (by rw [hp]; rfl) (by omega) (by omega)
      by_cases ld : t.led = true
      · refine wp_if_neg (by simp [ld]) ?_
        try refine wpAny_bind (wpAny_pure ?_)
        exact rest
      · refine wp_if_pos (by simp [ld]) (wpAny_bind (unseenN key (fun y m => ?_) (wp_if_neg (by decide) ?_)))
        · obtain ⟨r, mr, rfl⟩ := List.mem_map.mp m
          have mr1 : r ∈ es ∧ r.1 = k.hash w := by simpa using mr
          obtain ⟨k3, b3, _, e3, key3⟩ := N.good r (by simpa using mr1.1)
          exact ⟨k3, b3, by rw [e3], keyA_keep key3 kp⟩
        · try refine wpAny_bind (wpAny_pure ?_)
          exact rest
    · rw [show t.probe (fun i => (es[i]?.map (·.1)).getD 0) (k.hash w) (st.getD (t.probeStart (k.hash w))) = _ from none_]
      dsimp only
      rw [e0, sh, ← wy, show c + (K - c) = K by omega]
      exact wpAny_pure fin
theorem search_new (N : NSet w h0 s.heap a ks es ep t) (kp : ∀ c o, h0.get? c = some o → s.heap.get? c = some o) {x : Addr} {k : NestedKey} (key0 : KeyA h0 k x) (u8 : A.units + 8 < cLine) (new : k ∉ ks) {Q : SetFound → Shared → Prop}
    (fin : ∀ K, way t.mask (k.hash w) K ∉ t.place.toList → (∀ c, c < K → way t.mask (k.hash w) c ∈ t.place.toList) → Q (.free (way t.mask (k.hash w) K) false) s) : wpAny (model P w) A (setSearch a (.ref x) (k.hash w) true) Q E s := by
  have r := N.room
  obtain ⟨K, bound, free, full⟩ := N.tab.first (by rw [List.length_map, Array.length_toList]; omega) (k.hash w)
  have few : 10 * SetTable.turns t.mask ≤ 1420 := by
    unfold SetTable.turns
    rcases N.tab.mok with e | e | e <;> omega
  exact search_gone N kp key0 u8 new bound free full (fin K free full) 100000 0 none rfl (Nat.zero_le _) (by omega)
end
end VG
namespace VG
open PySem PySem.Spec PyProof.Rows L2
section
variable {P : Program} {w : World} {A : Around} {E : Value → Shared → Prop} {s : Shared}
theorem perm_at {α : Type} (l : List α) (p : Nat) (x : α) : (l.take p ++ x :: l.drop p).Perm (x :: l) := by
  have e : (l.take p ++ x :: l.drop p).Perm (x :: (l.take p ++ l.drop p)) := List.perm_middle
  rwa [List.take_append_drop] at e
theorem picked {α : Type} [Inhabited α] (es : Array α) {order : Array Nat} (pm : order.toList.Perm (List.range es.size)) : (order.filterMap (es[·]?)).toList = order.toList.map (fun i => es[i]!) := by
  have go : ∀ l : List Nat, (∀ i ∈ l, i < es.size) → l.filterMap (fun i => es[i]?) = l.map fun i => es[i]! := by
    intro l
    induction l with
    | nil => intro _; rfl
    | cons i l ih =>
      intro h
      have hi := h i List.mem_cons_self
      rw [List.filterMap_cons_some (Array.getElem?_eq_getElem hi), ih fun j m => h j (List.mem_cons_of_mem _ m), List.map_cons]
      congr 1
      simp [hi]
  rw [Array.toList_filterMap]
  exact go _ fun i m => List.mem_range.mp (pm.mem_iff.mp m)
theorem all_of {α : Type} [Inhabited α] (es : Array α) : (List.range es.size).map (fun i => es[i]!) = es.toList := by
  refine List.ext_getElem (by simp) fun i h1 h2 => ?_
  have hi : i < es.size := by simpa using h1
  simp [hi]
variable {h0 : Heap} {a : Addr} {ks : List NestedKey} {es : Array (Int × Value)} {ep : Nat} {t : SetTable}
/-- laid anew, larger -/
theorem relay_new {o : Obj} (at_ : s.heap.get? a = some o) (ex : o.ExactSet) (od : o.data = .set es ep t) (size : es.size = ks.length) (place : t.place.size = es.size) (dm : t.dummies = #[]) (le : es.size ≤ t.mask)
    (good : ∀ r ∈ es.toList, ∃ k b, k ∈ ks ∧ r = (k.hash w, .ref b) ∧ KeyA h0 k b) (plain : t.plain = true) (led : w.params.followText "set-order" = true ∨ t.led = true) {wanted M : Nat}
    (sM : SetTable.sizeAbove wanted - 1 = M) (mok : MaskOk M) (s128 : SetTable.sizeAbove wanted ≤ 128) (room : es.size * 5 < M * 3) {Q : Unit → Shared → Prop}
    (fin : ∀ hp es' ep' t', Heap.SameBut a s.heap hp → NSet w h0 hp a ks es' ep' t' → Q () { s with heap := hp }) : wpAny (model P w) A (setRelay a wanted) Q E s := by
  have fits : t.fits es.size = true := by
    unfold SetTable.fits SetTable.fill
    rw [dm, Bool.and_eq_true, beq_iff_eq, decide_eq_true_eq]
    show t.place.size = es.size ∧ t.place.size + 0 ≤ t.mask
    omega
  have eM : M ≤ 127 := by rcases mok with e | e | e <;> omega
  obtain ⟨t2, order, e, pm, T, em, el, ep2, ed⟩ := relaid_ok t (hs := es.map (·.1)) (wanted := wanted) sM mok (by rw [Array.size_map]; omega)
  rw [Array.size_map] at pm
  have rows := picked es pm
  generalize hes2 : order.filterMap (es[·]?) = es2 at rows
  have pr : es2.toList.Perm es.toList := by
    rw [rows, ← all_of es]
    exact pm.map _
  have sz2 : es2.size = es.size := by
    have l := pr.length_eq
    rwa [Array.length_toList, Array.length_toList] at l
  have T2 : TabOk t2 (es2.toList.map (·.1)) := by
    rw [rows, List.map_map]
    have e3 : (order.toList.map fun i => (es.map (·.1)).getD i 0) = order.toList.map ((fun r : Int × Value => r.1) ∘ fun i => es[i]!) := by
      refine List.map_congr_left fun i m => ?_
      have hi : i < es.size := List.mem_range.mp (pm.mem_iff.mp m)
      simp [Array.getD_eq_getD_getElem?, hi]
    rw [← e3]
    exact T
  rw [setRelay_eq]
  refine wpAny_bind (wpAny_setState_of at_ od fits ?_)
  dsimp only
  refine wp_if_neg (by rw [sizeLine_eq]; omega) ?_
  try refine wpAny_bind (wpAny_pure ?_)
  rw [e]
  dsimp only
  rw [hes2]
  refine wpAny_bind (wp_if_neg (by rw [sz2]; simp) ?_)
  try refine wpAny_bind (wpAny_pure ?_)
  refine wpAny_pure ?_
  dsimp only
  refine wpAny_storeSet_of at_ od ?_ (by rw [sz2, sizeLine_eq]; omega)
  have sb : Heap.SameBut a s.heap (s.heap.update a (Obj.putSet es2 t2)) := Heap.SameBut.update ..
  refine fin _ es2 (ep + 1) t2 sb ⟨⟨_, store_at at_ od, ⟨ex.1, ex.2.1, ex.2.2⟩, rfl⟩, sz2.trans size, T2, fun r m => ?_, by rw [ep2]; exact plain, by rw [el]; exact led, by rw [sz2, em]; exact room⟩
  obtain ⟨k, b, m2, er, key⟩ := good r (pr.mem_iff.mp m)
  exact ⟨k, b, m2, er, key⟩
/-- a new key put in -/
theorem add_new (N : NSet w h0 s.heap a ks es ep t) (kp : ∀ c o, h0.get? c = some o → s.heap.get? c = some o) {x : Addr} {k : NestedKey} (key0 : KeyA h0 k x) (u8 : A.units + 8 < cLine) (new : k ∉ ks) (few : ks.length ≤ 70) {Q : Bool → Shared → Prop}
    (fin : ∀ b hp es' ep' t', Heap.SameBut a s.heap hp → NSet w h0 hp a (k :: ks) es' ep' t' → Q b { s with heap := hp }) : wpAny (model P w) A (setAddHashed a (.ref x) (k.hash w)) Q E s := by
  obtain ⟨o, at_, ex, od⟩ := N.ob
  have nsz := N.size
  have key := keyA_keep key0 kp
  have nroom := N.room
  unfold setAddHashed
  refine wpAny_holding ?_
  rw [show (100000 : Nat) = 99999 + 1 from rfl, setAddHashedIn_succ]
  refine wpAny_bind (wpAny_setState_of at_ od N.fits ?_)
  dsimp only
  refine wp_if_neg (by simp [byScan, Value.scannable]) ?_
  try refine wpAny_bind (wpAny_pure ?_)
  refine wpAny_bind (search_new N kp key0 u8 new fun K free full => ?_)
  dsimp only
  refine wpAny_bind (wpAny_setState_of at_ od N.fits ?_)
  dsimp only
  obtain ⟨q1, q2, q3, q4, q5, q6, q7, q8, q9⟩ := N.tab.put free full
  have pl := q6.trans N.plain
  generalize t.put (way t.mask (k.hash w) K) = both at q1 q3 q4 q5 q6 q7 q8 q9 pl ⊢
  obtain ⟨t1, p⟩ := both
  dsimp only at q1 q3 q4 q5 q6 q7 q8 q9 pl ⊢
  subst q1
  have hsh := says_hash (P := P) (w := w) (s := s) k _ 8 key.1 key.2.1 key.2.2
  first
    | (refine wpAny_bind ?_; refine wp_if_pos pl ?_; refine hsh _ _ _ ?_)
    | refine wp_if_pos pl (wpAny_bind (hsh _ _ _ ?_))
  simp only [if_true]
  have into := SetTable.toList_insertAt es (SetTable.below t.place (way t.mask (k.hash w) K)) (k.hash w, Value.ref x)
  generalize hpp : SetTable.below t.place (way t.mask (k.hash w) K) = p at q2 q3 into ⊢
  generalize SetTable.insertAt es p (k.hash w, Value.ref x) = es1 at into ⊢
  have pm := perm_at es.toList p (k.hash w, Value.ref x)
  rw [← into] at pm
  have sz1 : es1.size = es.size + 1 := by
    have l := pm.length_eq
    rwa [List.length_cons, Array.length_toList, Array.length_toList] at l
  have tab1 : TabOk t1 (es1.toList.map (·.1)) := by
    rw [into, List.map_append, List.map_cons, List.map_take, List.map_drop]
    exact q3
  refine wpAny_bind (wpAny_storeSet_of at_ od ?_ (by rw [sz1, sizeLine_eq]; omega))
  have sb : Heap.SameBut a s.heap (s.heap.update a (Obj.putSet es1 t1)) := Heap.SameBut.update ..
  have at1 := store_at (es' := es1) (t' := t1) at_ od
  generalize s.heap.update a (Obj.putSet es1 t1) = h1 at sb at1 ⊢
  have good1 : ∀ r ∈ es1.toList, ∃ k2 b, k2 ∈ k :: ks ∧ r = (k2.hash w, .ref b) ∧ KeyA h0 k2 b := fun r m => by
    rcases List.mem_cons.mp (pm.mem_iff.mp m) with e | m
    · exact ⟨k, x, List.mem_cons_self, e, key0⟩
    · obtain ⟨k2, b, m2, e2, key2⟩ := N.good r m
      exact ⟨k2, b, List.mem_cons_of_mem _ m2, e2, key2⟩
  have led1 : w.params.followText "set-order" = true ∨ t1.led = true := by rw [q5]; exact N.led
  have size1 : es1.size = (k :: ks).length := by rw [sz1, nsz]; rfl
  have fill : t1.fill = es1.size := by rw [q9, List.length_map, Array.length_toList, sz1]
  by_cases fl : t1.tooFull = true
  · first
      | (refine wpAny_bind ?_; refine wp_if_pos (by simp [fl]) ?_)
      | (refine wp_if_pos (by simp [fl]) ?_; refine wpAny_bind ?_)
    have full5 : es1.size * 5 ≥ t1.mask * 3 := by
      have g := fl
      unfold SetTable.tooFull at g
      rwa [decide_eq_true_eq, fill] at g
    have place1 : t1.place.size = es1.size := by
      have g := q3.sz
      have g2 := tab1.sz
      rwa [List.length_map, Array.length_toList] at g2
    have at_mask : (t.mask = 7 ∧ es.size = 4) ∨ (t.mask = 31 ∧ es.size = 18) := by
      rcases N.tab.mok with e | e | e
      · left; rw [q4, e] at full5; rw [e] at nroom; exact ⟨e, by omega⟩
      · right; rw [q4, e] at full5; rw [e] at nroom; exact ⟨e, by omega⟩
      · exfalso; rw [q4, e] at full5; omega
    have go : ∀ M, SetTable.sizeAbove (SetTable.grown (es.size + 1)) - 1 = M → MaskOk M → SetTable.sizeAbove (SetTable.grown (es.size + 1)) ≤ 128 → es1.size * 5 < M * 3 →
        wpAny (model P w) A (setRelay a (SetTable.grown (es.size + 1))) (fun _ z => wpAny (model P w) A (pure true) Q E z) E { s with heap := h1 } := fun M g1 g2 g3 g4 => by
      refine relay_new (s := { s with heap := h1 }) (ks := k :: ks) at1 ⟨ex.1, ex.2.1, ex.2.2⟩ rfl size1 place1 q3.dm (by rw [sz1, q4]; rcases at_mask with ⟨e, e2⟩ | ⟨e, e2⟩ <;> omega) good1 pl led1 g1 g2 g3 g4 fun hp es2 ep2 t2 sb2 N2 => ?_
      exact wpAny_pure (fin true hp es2 ep2 t2 (sb.trans sb2) N2)
    rcases at_mask with ⟨_, e2⟩ | ⟨_, e2⟩
    · exact go 31 (by rw [e2, size_20]) (.inr (.inl rfl)) (by rw [e2, size_20]; decide) (by omega)
    · exact go 127 (by rw [e2, size_76]) (.inr (.inr rfl)) (by rw [e2, size_76]; decide) (by omega)
  · first
      | refine wp_if_neg (by simp [fl]) ?_
      | (refine wpAny_bind ?_; refine wp_if_neg (by simp [fl]) ?_; refine wpAny_pure ?_)
    refine wpAny_pure (fin true h1 es1 (ep + 1) t1 sb ⟨⟨_, at1, ⟨ex.1, ex.2.1, ex.2.2⟩, rfl⟩, size1, tab1, good1, pl, led1, ?_⟩)
    have g := fl
    unfold SetTable.tooFull at g
    rw [decide_eq_true_eq, fill] at g
    omega
theorem nset_new {h : Heap} {a : Addr} (at_ : h.get? a = some { cls := .type "set", dict := none, data := .set #[] 0 (.fresh 0 0 (!w.params.followText "set-order")) }) : NSet w h0 h a [] #[] 0 (.fresh 0 0 (!w.params.followText "set-order")) where
  ob := ⟨_, at_, ⟨rfl, rfl, rfl⟩, rfl⟩
  size := rfl
  tab := ⟨List.Pairwise.nil, rfl, rfl, .inl rfl, fun x m => (by cases m), fun i h j e => (by simp at e)⟩
  good := fun r m => (by cases m)
  plain := rfl
  led := by
    show _ ∨ (!w.params.followText "set-order") = true
    cases w.params.followText "set-order"
    · exact .inr rfl
    · exact .inl rfl
  room := show 0 * 5 < 7 * 3 from by decide
theorem NSet.stay {h h' : Heap} (N : NSet w h0 h a ks es ep t) (own : ∀ o, h.get? a = some o → h'.get? a = some o) : NSet w h0 h' a ks es ep t := by
  obtain ⟨o, at_, r⟩ := N.ob
  exact ⟨⟨o, own o at_, r⟩, N.size, N.tab, N.good, N.plain, N.led, N.room⟩
end
end VG
namespace VG
open PySem PySem.Spec PyProof.Rows L2
section
variable {P : Program} {w : World} {A : Around} {E : Value → Shared → Prop} {s : Shared}
/-- set.update's own loop, over keys that are apart -/
theorem update_new {I : Addr} {fp wr : List Addr} {G : Array GenState → Array GenState → Prop} {n : Nat} {Pv : Nat → Value → Prop} {St : Nat → Shared → Prop} {R : Result → Shared → Prop}
    (W : WalksS P w A.in1 I fp wr G n Pv St) (S : Addr) (offS : S ∉ fp) (ns : List NestedKey) (len : n = ns.length) (few : ns.length ≤ 70) (apart : ns.Nodup) (h0 : Heap) (val : ∀ i v, Pv i v → ∃ k b, ns[i]? = some k ∧ v = .ref b ∧ KeyA h0 k b)
    (newS : h0.get? S = none) (newW : ∀ b ∈ wr, h0.get? b = none) (u8 : A.in1.units + 8 < cLine) :
    ∀ (left i : Nat) (s : Shared), n - i = left → i ≤ n → St i s → (∀ b o, h0.get? b = some o → s.heap.get? b = some o) → (∃ ks es ep t, ks.Perm (ns.take i) ∧ NSet w h0 s.heap S ks es ep t) →
      (∀ z ks es ep t, Moved (S :: wr) G s z → ks.Perm ns → NSet w h0 z.heap S ks es ep t → R (.ok (.ret .none)) z) →
      codeAny (model P w) A (.builtin "set.update.loop" ⟨[.ref S, .ref I], []⟩) R s := by
  have offW : S ∉ wr := fun h => offS (W.sub _ h)
  have sub : ∀ b ∈ wr, b ∈ S :: wr := fun b m => List.mem_cons_of_mem _ m
  have held : ∀ {s z : Shared}, Moved wr G s z → (∀ b o, h0.get? b = some o → s.heap.get? b = some o) → ∀ b o, h0.get? b = some o → z.heap.get? b = some o := fun mv kp b o e =>
    mv.heap b o (fun m => by rw [newW b m] at e; cases e) (kp b o e)
  intro left
  induction left with
  | zero =>
    intro i s hl hi hst kp ⟨ks, es, ep, t, pm, N⟩ hR
    obtain rfl : i = n := by omega
    refine codeAny_builtin F.entry_set_update_loop ?_
    rw [Around.under_plainId F.plain_set_update_loop _]
    show wpAny _ A.in1 (pyNext (.ref I) >>= _) _ _ s
    refine wpAny_bind (W.done s _ _ hst fun z mv => ?_)
    show wpAny _ A.in1 (ret Value.none) _ _ z
    have N2 := N.stay fun o e => mv.heap S o offW e
    rw [List.take_of_length_le (by omega)] at pm
    exact wpAny_pure (hR z ks es ep t (mv.mono sub) pm N2)
  | succ left ih =>
    intro i s hl hi hst kp ⟨ks, es, ep, t, pm, N⟩ hR
    have lt : i < n := by omega
    refine codeAny_builtin F.entry_set_update_loop ?_
    rw [Around.under_plainId F.plain_set_update_loop _]
    show wpAny _ A.in1 (pyNext (.ref I) >>= _) _ _ s
    refine wpAny_bind (W.item i s _ _ lt hst fun v z hv hst2 mv => ?_)
    obtain ⟨k, b, hk, rfl, key0⟩ := val i v hv
    have kp2 := held mv kp
    have N2 := N.stay fun o e => mv.heap S o offW e
    have key := keyA_keep key0 kp2
    have new : k ∉ ks := fun m => by
      have m1 := pm.mem_iff.mp m
      obtain ⟨j, hj, e⟩ := List.getElem_of_mem m1
      rw [List.length_take] at hj
      rw [List.getElem_take] at e
      obtain ⟨li, e2⟩ := List.getElem?_eq_some_iff.mp hk
      have ne := List.pairwise_iff_getElem.mp apart j i (by omega) li (by omega)
      exact ne (e.trans e2.symm)
    have kl : ks.length ≤ 70 := by
      have l := pm.length_eq
      rw [List.length_take] at l
      omega
    show wpAny _ A.in1 (holding [Value.ref b] (setAdd S (.ref b)) >>= _) _ _ z
    refine wpAny_bind (wpAny_holding ?_)
    unfold setAdd
    refine wpAny_holding (wpAny_bind ((nestedKind P w).pyHash (k := k) u8 ⟨key.1, key.2.1⟩ ?_))
    refine add_new (s := { z with toks := z.toks + k.draws }) N2 kp2 key0 u8 new kl fun bb hp es2 ep2 t2 sb N3 => ?_
    have kp3 : ∀ b o, h0.get? b = some o → hp.get? b = some o := fun b o e => (sb.2 b (fun y => by rw [y, newS] at e; cases e)).trans (kp2 b o e)
    have tk : ns.take (i + 1) = ns.take i ++ [k] := by rw [List.take_succ, hk] <;> rfl
    have pm3 : (k :: ks).Perm (ns.take (i + 1)) := by
      rw [tk]
      exact (pm.cons k).trans (List.perm_append_singleton k _).symm
    refine wpAny_pure ⟨plainId_quiet F.plain_set_update_loop _, ih (i + 1) _ (by omega) lt (W.frame _ z _ _ hst2 (Nat.le_add_right _ _) fun b m o e => ?_) kp3 ⟨k :: ks, es2, ep2, t2, pm3, N3⟩ fun y ks3 es3 ep3 t3 mv3 pm4 N4 => ?_⟩
    · rw [sb.2 b (fun q : b = S => offS (by rw [← q]; exact m))]; exact e
    · refine hR y ks3 es3 ep3 t3 (Moved.trans W.gtrans ((mv.mono sub).then_heap (Nat.le_add_right _ _) fun b o m e => ?_) mv3) pm4 N4
      rw [sb.2 b (fun q : b = S => m (by rw [q]; exact List.mem_cons_self))]; exact e
end
end VG
namespace VG
open PySem PySem.Spec PyProof.Rows L2
section
variable {P : Program} {w : World} {A : Around} {E : Value → Shared → Prop} {s : Shared}
set_option maxHeartbeats 6400000 in
theorem set_tupN {l : Addr} {us : Array Value} (ns : List NestedKey) {Q : Value → Shared → Prop} (calm : A.handled = none) (hl : s.heap.IsTuple l us) (size : us.size = ns.length) (few : ns.length ≤ 70) (apart : ns.Nodup)
    (val : ∀ (i : Nat) (v : Value), us[i]? = some v → ∃ k b, ns[i]? = some k ∧ v = .ref b ∧ KeyA s.heap k b) (u16 : A.units + 16 < cLine)
    (fin : ∀ (hp : Heap) (tk : Nat) ks es ep t, ks.Perm ns → NSet w s.heap hp s.heap.objs.size ks es ep t → (∀ b o, s.heap.get? b = some o → hp.get? b = some o) → Q (.ref s.heap.objs.size) { s with heap := hp, toks := tk }) :
    wpAny (model P w) A (call (.type "set") [.ref l]) Q E s := by
  obtain ⟨cc, tl, mro⟩ := F.called_set.mro; have made := F.called_set.made; have sub := F.called_set.sub
  refine wpAny_call (codeAny_of_tree ?_); show wpAny _ _ (callAny (.type "set") _) _ _ _
  refine wpAny_pure ⟨Code.quiet_builtin _ (by decide +kernel), codeAny_builtin F.entry_type_call ?_⟩; rw [Around.under_plain (weight_type_call_type "set" [.ref l] []) rfl]
  have nt := F.called_set.notType; have cr := F.called_set.canCreate; have tc := F.typeCall_set_1 (.ref l)
  repeat (any_goals (first | assumption | wp_step))
  refine codeAny_mono (code_set_led1 (.ref l) (E := E) (Q₁ := fun obj s₁ => obj = .ref s.heap.objs.size ∧ s₁ = { s with heap := s.heap.push (emptyS w) }) ⟨rfl, rfl⟩) fun r s₁ got => ?_
  match r, got with
  | .error e, got => exact got
  | .ok (.ret obj), got =>
    obtain ⟨rfl, rfl⟩ := got
    have new : (s.heap.push (emptyS w)).get? s.heap.objs.size = some (emptyS w) := Heap.get?_push_size _ rfl
    have ty : Shared.TypeIs { s with heap := s.heap.push (emptyS w) } (.ref s.heap.objs.size) "set" := ⟨_, new, rfl⟩
    have il := F.called_set.init.lookup; have ib := F.called_set.init.bind (.ref s.heap.objs.size)
    repeat (any_goals (first | assumption | wp_step))
    refine codeAny_mono (codeAny_call_builtin (R := wants (fun r t => r = .none ∧ ∃ hp tk ks es ep tb, t = { s with heap := hp, toks := tk } ∧ ks.Perm ns ∧ NSet w s.heap hp s.heap.objs.size ks es ep tb ∧
      (∀ b o, s.heap.get? b = some o → hp.get? b = some o)) E) F.called_set.init.plain F.entry_set_init (check_set_init_1 ty ?_)) fun r₂ t got2 => ?_
    · obtain ⟨⟨cls, dict, data, slots⟩, at_, hc, nl, hd⟩ := hl
      simp only at hc hd
      subst hc hd
      have at2 : (s.heap.push (emptyS w)).get? l = some { cls := .type "tuple", dict := dict, data := .seq us nl, slots := slots } := Heap.get?_push_of_some _ at_
      have hsls := F.sub_tuple_set; have hslf := F.sub_tuple_frozenset; have hne : (Value.type "tuple" == Value.type "dict") = false := by decide
      have isl : (s.heap.push (emptyS w)).IsTuple l us := ⟨_, at2, rfl, nl, rfl⟩
      unfold Builtin.«set.__init__» noKeywords Builtin.Frozenset.updateFrom; generalize hPI : pyIter = PI
      wp_walk
      subst hPI
      refine wpAny_pyIter_tuple isl ?_
      refine wpAny_bind (wpAny_runValue ?_)
      have ls : l < s.heap.objs.size := Heap.lt_size at_; have calm3 : A.in1.in1.in1.handled = none := by simp [calm]
      have ps : (s.heap.push (emptyS w)).objs.size = s.heap.objs.size + 1 := Heap.size_push ..
      have nI : l ≠ (s.heap.push (emptyS w)).objs.size := by rw [ps]; exact Nat.ne_of_lt (Nat.lt_succ_of_lt ls)
      have nS : s.heap.objs.size ∉ [(s.heap.push (emptyS w)).objs.size, l] := by
        rw [ps]
        intro z
        rcases List.mem_cons.mp z with z | z
        · exact Nat.ne_of_lt (Nat.lt_succ_self _) z
        · exact Nat.ne_of_gt ls (List.mem_singleton.mp z)
      have gone : ∀ b, s.heap.objs.size ≤ b → s.heap.get? b = none := fun b le => by
        cases q : s.heap.get? b with
        | none => rfl
        | some o => exact absurd (Nat.lt_of_lt_of_le (Heap.lt_size q) le) (Nat.lt_irrefl _)
      have u8 : A.in1.in1.in1.units + 8 < cLine := by
        show A.units + 1 + 1 + 1 + 8 < cLine
        omega
      refine update_new ((Walks.tuple calm3 _ l nI us).toS) s.heap.objs.size nS ns size few apart s.heap val (gone _ (Nat.le_refl _)) (fun b m => gone b (by rw [List.mem_singleton.mp m, ps]; exact Nat.le_succ _)) u8 (us.size - 0) 0 _ (by omega) (Nat.zero_le _)
        ⟨⟨_, Heap.get?_push_size _ rfl, rfl, rfl⟩, (isl.push _)⟩ (fun b o e => Heap.get?_push_of_some _ (Heap.get?_push_of_some _ e)) ⟨[], #[], 0, _, List.Perm.refl _, nset_new (Heap.get?_push_of_some _ new)⟩ ?_
      intro z ks es ep tb hm pm N
      obtain ⟨hp, g2, d2, tk2, os2⟩ := z
      have eg : g2 = s.gens := hm.gens; have ed : d2 = s.drawn := hm.drawn; have eo : os2 = s.os := hm.os
      subst eg ed eo
      refine wpAny_pure ?_
      show wpAny _ _ (ret Value.none) _ _ _
      refine wpAny_pure ⟨rfl, hp, tk2, ks, es, ep, tb, rfl, pm, N, fun b o e => ?_⟩
      have b0 : b < s.heap.objs.size := Heap.lt_size e
      refine hm.heap b o ?_ (Heap.get?_push_of_some _ (Heap.get?_push_of_some _ e))
      intro z
      rcases List.mem_cons.mp z with z | z
      · exact Nat.ne_of_lt b0 z
      · have z := List.mem_singleton.mp z
        rw [ps] at z
        exact Nat.ne_of_lt (Nat.lt_succ_of_lt b0) z
    · match r₂, got2 with
      | .error e, got2 => exact got2
      | .ok (.ret r), got2 =>
        obtain ⟨rfl, hp, tk, ks, es, ep, tb, rfl, a1, a2, a3⟩ := got2
        repeat (any_goals (first | assumption | wp_step))
        exact fin _ _ _ _ _ _ a1 a2 a3
      | .ok .next, got2 => exact got2.elim
      | .ok .brk, got2 => exact got2.elim
      | .ok .cont, got2 => exact got2.elim
  | .ok .next, got => exact got.elim
  | .ok .brk, got => exact got.elim
  | .ok .cont, got => exact got.elim
end
section
variable {X : Cx}
/-- the keys that values are -/
inductive KeysA (h : Heap) : List NestedKey → List Value → Prop
  | nil : KeysA h [] []
  | cons {k ks b us} : KeyA h k b → KeysA h ks us → KeysA h (k :: ks) (.ref b :: us)
theorem KeysA.get {h : Heap} : ∀ {ks : List NestedKey} {us : List Value} {i : Nat} {v : Value}, KeysA h ks us → us[i]? = some v → ∃ k b, ks[i]? = some k ∧ v = .ref b ∧ KeyA h k b
  | _, _, 0, _, .cons x _, e => by
    obtain rfl := Option.some.inj e
    exact ⟨_, _, rfl, rfl, x⟩
  | _, _, i + 1, _, .cons _ t, e => t.get (i := i) (by simpa using e)
  | _, _, i, _, .nil, e => by simp at e
theorem KeysA.len {h : Heap} : ∀ {ks : List NestedKey} {us : List Value}, KeysA h ks us → us.length = ks.length
  | _, _, .nil => rfl
  | _, _, .cons _ t => congrArg (· + 1) t.len
/-- what Pr tells of x: a tuple whose items are keys, apart, 70 at most -/
def TellsN (X : Cx) (Pr : V → Hp → VK → Prop) : Prop := ∀ x H Q, Pr x H Q → ∃ (l : Addr) (xs : List V) (ns : List NestedKey), x = V.ref l ∧ SqT X.K H l xs ∧ ns.length ≤ 70 ∧ ns.Nodup ∧
  (∀ {pins σ s}, Inv X pins σ H s → ∀ us, Vals xs us → KeysA s.heap ns us) ∧ Q (.int ns.length) H
theorem pe_lenSetN {Pr : V → Hp → VK → Prop} (tells : TellsN X Pr) {a : Expr} {ta : TE} {p p2 q pos : Pos} (hc : X.calm = true) (hu : X.A.units + 64 < cLine) (hg : Gl X "len") (hm : X.mg "len" = none) (hg2 : Gl X "set") (hm2 : X.mg "set" = none) (ha : PE X a ta)
    (na : starEach [a] X.env = (false, eval a X.env) :: starEach [] X.env := by rfl) : PE X (.Call (.Name "len" p) [.Call (.Name "set" p2) [a] [] q] [] pos) (fun σ H Q => ta σ H fun x H1 => Pr x H1 Q) := by
  refine ⟨fun pins s σ H Q I h => Call_ (ld_blt I hg hm PySem.boot_len ?_)⟩
  refine PyProof.Rows.callWith_builtin1 (PyProof.Rows.args_cons ?_ rfl) rfl rfl
  refine Call_ (ld_blt I hg2 hm2 PyProof.Rows.boot_set ?_)
  refine PyProof.Rows.callWith_type1 (PyProof.Rows.args_cons (thn (ha.run pins s σ H _ I h) fun v s1 ⟨x, H1, I1, r1, q1⟩ => PyProof.Rows.args_nil ?_) na) na rfl
  obtain ⟨l, xs, ns, rfl, hq, few, apart, keys, q1⟩ := tells _ _ _ q1
  cases r1
  obtain ⟨its, r, pl, hz⟩ := I1.tuple hq
  have ka := keys I1 _ r
  refine set_tupN ns (I1.ok.hd hc) pl (by rw [List.size_toArray]; exact ka.len) few apart (fun i v e => ka.get (by simpa using e)) (by omega) fun hp tk ks es ep t pm N kp => ?_
  refine PyProof.Rows.args_nil ?_
  obtain ⟨o, at_, ex, od⟩ := N.ob
  have sz : es.size = ns.length := by rw [N.size, pm.length_eq]
  exact call_len_set at_ ex od N.fits (by rw [sz]; omega) ⟨.int ns.length, H1, (I1.kept (t' := tk) kp).tok _, ⟨_, by rw [sz]⟩, q1⟩
end
end VG
namespace CK
open PySem PySem.Spec PyProof.Rows L2 VG FR HD M9
def lineN (r : Line) : NestedKey := .tup [.num r.1, .tup [.num r.2.1.1, .num r.2.1.2], .num r.2.2]
def dayN (rs : List Line) : NestedKey := .tup (rs.map lineN)
theorem lineN_inj {r r' : Line} (h : lineN r = lineN r') : r = r' := by
  obtain ⟨a, ⟨b, c⟩, d⟩ := r
  obtain ⟨a', ⟨b', c'⟩, d'⟩ := r'
  simp only [lineN, NestedKey.tup.injEq, List.cons.injEq, NestedKey.num.injEq, and_true] at h
  obtain ⟨h1, ⟨h2, h3⟩, h4⟩ := h
  have h0 : a = a' := by omega
  rw [h0, h2, h3, h4]
theorem dayN_inj {x y : List Line} (h : dayN x = dayN y) : x = y := by
  have e : x.map lineN = y.map lineN := by
    unfold dayN at h
    injection h
  exact (List.map_inj_right (fun _ _ h => lineN_inj h)).mp e
theorem dayN_deep (rs : List Line) : (dayN rs).depth ≤ 8 := by
  have g : ∀ l : List Line, NestedKey.depthAll (l.map lineN) ≤ 2 := by
    intro l
    induction l with
    | nil => simp [NestedKey.depthAll]
    | cons r l ih =>
      have e : (lineN r).depth = 2 := by simp [lineN, NestedKey.depth, NestedKey.depthAll]
      rw [List.map_cons, NestedKey.depthAll, e]
      omega
  have := g rs
  simp only [dayN, NestedKey.depth]
  omega
theorem dayN_nums (rs : List Line) : VG.Nums (dayN rs) := by
  have g : ∀ l : List Line, VG.NumsA (l.map lineN) := by
    intro l
    induction l with
    | nil => exact trivial
    | cons r l ih => exact ⟨⟨trivial, ⟨trivial, trivial, trivial⟩, trivial, trivial⟩, ih⟩
  exact g rs
section
variable {X : Cx} {pins : List (Addr × Obj)} {σ : L2.St} {H : Hp} {s : Shared}
theorem nested_of (I : Inv X pins σ H s) {t : Addr} {xs : List V} {ks : List NestedKey} (h : SqT X.K H t xs) (all : ∀ us, Vals xs us → NestedAll s.heap ks us) : NestedIs s.heap (.tup ks) (.ref t) := by
  obtain ⟨its, rv, ⟨o, at_, oc, n, od⟩, _⟩ := I.tuple h
  exact .tup at_ oc od (all _ (by simpa using rv))
theorem nested_line (I : Inv X pins σ H s) {v : V} {r : Line} (h : LineAt X.K H v r) {u : Value} (rel : RelV v u) : NestedIs s.heap (lineN r) u := by
  obtain ⟨t, p, rfl, ht, hp⟩ := h
  obtain rfl : u = .ref t := rel
  refine nested_of I ht fun us rv => ?_
  cases rv with
  | cons r1 rv =>
    cases rv with
    | cons r2 rv =>
      cases rv with
      | cons r3 rv =>
        cases rv
        obtain ⟨t1, rfl⟩ := r1
        obtain rfl := r2
        obtain ⟨t3, rfl⟩ := r3
        refine .cons (.int _ _) (.cons (nested_of I hp fun us rv => ?_) (.cons (.int _ _) .nil))
        cases rv with
        | cons r1 rv =>
          cases rv with
          | cons r2 rv =>
            cases rv
            obtain ⟨t1, rfl⟩ := r1
            obtain ⟨t2, rfl⟩ := r2
            exact .cons (.int _ _) (.cons (.int _ _) .nil)
theorem nested_lines (I : Inv X pins σ H s) : ∀ {vs : List V} {rs : List Line} {us : List Value}, Lines X.K H vs rs → Vals vs us → NestedAll s.heap (rs.map lineN) us
  | [], [], _, _, .nil => .nil
  | _ :: _, _ :: _, _, h, .cons r t => .cons (nested_line I h.1 r) (nested_lines I h.2 t)
theorem key_day (I : Inv X pins σ H s) {d : Addr} {rs : List Line} (h : DayT X.K H d rs) : KeyA s.heap (dayN rs) d := by
  obtain ⟨xs, hd, hl⟩ := h
  exact ⟨nested_of I hd fun us rv => nested_lines I hl rv, dayN_deep rs, dayN_nums rs⟩
theorem keys_days (I : Inv X pins σ H s) : ∀ {vs : List V} {ds : List (List Line)} {us : List Value}, LR (DayV X.K H) vs ds → Vals vs us → KeysA s.heap (ds.map dayN) us
  | [], [], _, _, .nil => .nil
  | _ :: _, _ :: _, _, h, .cons r t => by
    obtain ⟨⟨d, rfl, hd⟩, h2⟩ := h
    obtain rfl := r
    exact .cons (key_day I hd) (keys_days I h2 t)
end
theorem lenSetD : LenSetD := by
  intro X a ta p p2 q pos hc hu hg hm hg2 hm2 ha na
  refine pe_lenSetN (X := X) (Pr := fun x H1 Q => ∃ (a : Addr) (ds : List (List Line)), x = .ref a ∧ DaysT X.K H1 a ds ∧ ds.Nodup ∧ ds.length ≤ 64 ∧ ∀ H2, Same H1 H2 → Q (.int (ds.length : Nat)) H2) (fun x H Q h => ?_) hc hu hg hm hg2 hm2 ha na
  obtain ⟨l, ds, rfl, ⟨xs, hs, hl⟩, nd, few, fin⟩ := h
  refine ⟨l, xs, ds.map dayN, rfl, hs, by rw [List.length_map]; omega, ?_, fun I us rv => keys_days I hl rv, ?_⟩
  · exact List.pairwise_map.mpr (nd.imp fun ne e => ne (dayN_inj e))
  · rw [List.length_map]
    exact fin H (Same.refl _)
end CK
namespace K10
open PySem PySem.Spec PyProof.Rows L2 VG FR CK HD M9
abbrev i_InvalidTable : Stmt := inClass (topS 15) 0
abbrev i_InvalidDay : Stmt := inClass (topS 16) 0
abbrev i_Refused : Stmt := inClass (topS 17) 0
theorem sc_initA : FnScope ["self", "at"] ["self", "at"] (defScope i_InvalidTable) := ⟨rfl, rfl, rfl, by decide +kernel, rfl, by decide +kernel, by decide +kernel⟩
theorem sc_initD : FnScope ["self", "at"] ["self", "at"] (defScope i_InvalidDay) := ⟨rfl, rfl, rfl, by decide +kernel, rfl, by decide +kernel, by decide +kernel⟩
theorem sc_initR : FnScope ["self", "word"] ["self", "word"] (defScope i_Refused) := ⟨rfl, rfl, rfl, by decide +kernel, rfl, by decide +kernel, by decide +kernel⟩
section
variable {P : Program} {w : World} {K : PySem.W.Frag} {mg : Str → Option Value} {base : Heap}
theorem ok_initA {f C : Addr} {fd : FuncData} (F : Fun K "__init__" "InvalidTable.__init__" i_InvalidTable f fd) (o : OexC K C) (hw : PySem.W.findIn K (.ref C) "at" = some none) :
    FnOk P w K mg base CX0 1 f fd ["self", "at"] (spInitW K C "at") := by
  refine F.ok sc_initA (fun vs H Q E h => ?_) (fun cdv A outer s H vs Q E hr h => ?_)
  · obtain ⟨_, _, rfl, _⟩ := h
    rfl
  · obtain ⟨a, v, rfl, ha, fin⟩ := h
    refine ⟨_, pss_one (ps_ost (pv 0) (pv 1)), ?_⟩
    exact ⟨_, rfl, _, rfl, a, C, rfl, o, hw, .inl ⟨ha, fun dx n ne => fin dx n ne⟩⟩
theorem ok_initD {f C : Addr} {fd : FuncData} (F : Fun K "__init__" "InvalidDay.__init__" i_InvalidDay f fd) (o : OexC K C) (hw : PySem.W.findIn K (.ref C) "at" = some none) :
    FnOk P w K mg base CX0 1 f fd ["self", "at"] (spInitW K C "at") := by
  refine F.ok sc_initD (fun vs H Q E h => ?_) (fun cdv A outer s H vs Q E hr h => ?_)
  · obtain ⟨_, _, rfl, _⟩ := h
    rfl
  · obtain ⟨a, v, rfl, ha, fin⟩ := h
    refine ⟨_, pss_one (ps_ost (pv 0) (pv 1)), ?_⟩
    exact ⟨_, rfl, _, rfl, a, C, rfl, o, hw, .inl ⟨ha, fun dx n ne => fin dx n ne⟩⟩
theorem ok_initR {f C : Addr} {fd : FuncData} (F : Fun K "__init__" "Refused.__init__" i_Refused f fd) (o : OexC K C) (hw : PySem.W.findIn K (.ref C) "word" = some none) :
    FnOk P w K mg base CX0 1 f fd ["self", "word"] (spInitW K C "word") := by
  refine F.ok sc_initR (fun vs H Q E h => ?_) (fun cdv A outer s H vs Q E hr h => ?_)
  · obtain ⟨_, _, rfl, _⟩ := h
    rfl
  · obtain ⟨a, v, rfl, ha, fin⟩ := h
    refine ⟨_, pss_one (ps_ost (pv 0) (pv 1)), ?_⟩
    exact ⟨_, rfl, _, rfl, a, C, rfl, o, hw, .inl ⟨ha, fun dx n ne => fin dx n ne⟩⟩
theorem kit_own {C D : Addr} {b : Bool} (h1 : PySem.W.isClsIn K D = true) (h2 : PySem.W.typeIn K (.ref D) = some (.type "type")) (h3 : PySem.W.subIn K (.ref C) (.ref D) = some b) (h4 : C = D → b = true) :
    PySem.W.kitOne K (.ref C) (.ref D) = some b := by
  unfold PySem.W.kitOne
  by_cases e : C = D
  · have hb := h4 e
    subst e
    subst hb
    rw [if_pos (by simp)]
  · rw [if_neg (by simp [e])]
    have e1 : (PySem.W.clsIn K D).isSome = true := h1
    show (if ((PySem.W.clsIn K D).isSome && PySem.W.typeIn K (.ref D) == some (.type "type")) = true then PySem.W.subIn K (.ref C) (.ref D) else none) = some b
    rw [e1, h2, h3]
    rfl
end
theorem all_mk (LS : LenSetD) {l : PySem.W.OpenLaw} {w : World} {K : PySem.W.Frag} {h : Heap} {mg : Str → Option Value} {fa : Addr} (X : K.In h) (G : h.Ns mainGlobals mg) (hfa : mg "law" = some (.ref fa))
    {f0 f1 f2 f3 f4 f5 f6 f7 f8 f9 f10 f11 f12 f13 f14 f15 f16 f17 f18 f19 f20 f21 f22 f23 f24 f25 f26 f27 f28 f29 f30 f31 f32 f33 f34 f35 f36 f37 f38 f39 f40 f41 f42 f43 f44 f45 f46 f47 : Addr}
    {cc46 Pt46 : Addr}
    {od0 an0 od1 an1 od2 an2 od3 an3 od4 an4 od5 an5 od6 an6 od7 an7 od8 an8 od9 an9 od10 an10 od11 an11 od12 an12 od13 an13 od14 an14 od15 an15 od16 an16 od17 an17 od18 an18 od19 an19 od20 an20 od21 an21 od22 an22 od23 an23 od24 an24 od25 an25 od26 an26 od27 an27 od28 an28 od29 an29 od30 an30 od31 an31 od32 an32 od33 an33 od34 an34 od35 an35 od36 an36 od37 an37 od38 an38 od39 an39 od40 an40 od41 an41 od42 an42 od43 an43 od44 an44 od45 an45 od46 an46 od47 an47 : Option Addr} {sl0 sl1 sl2 sl3 sl4 sl5 sl6 sl7 sl8 sl9 sl10 sl11 sl12 sl13 sl14 sl15 sl16 sl17 sl18 sl19 sl20 sl21 sl22 sl23 sl24 sl25 sl26 sl27 sl28 sl29 sl30 sl31 sl32 sl33 sl34 sl35 sl36 sl37 sl38 sl39 sl40 sl41 sl42 sl43 sl44 sl45 sl46 sl47 : Array (Option Value)}
    {oc0 kV0 dc0 pm0 cd0 ct0 oc1 kV1 dc1 pm1 cd1 ct1 oc2 kV2 dc2 pm2 cd2 ct2 oc3 kV3 dc3 pm3 cd3 ct3 oc4 kV4 dc4 pm4 cd4 ct4 oc5 kV5 dc5 pm5 cd5 ct5 oc6 kV6 dc6 pm6 cd6 ct6 oc7 kV7 dc7 pm7 cd7 ct7 oc8 kV8 dc8 pm8 cd8 ct8 oc9 kV9 dc9 pm9 cd9 ct9 oc10 kV10 dc10 pm10 cd10 ct10 oc11 kV11 dc11 pm11 cd11 ct11 oc12 kV12 dc12 pm12 cd12 ct12 oc13 kV13 dc13 pm13 cd13 ct13 oc14 kV14 dc14 pm14 cd14 ct14 oc15 kV15 dc15 pm15 cd15 ct15 oc16 kV16 dc16 pm16 cd16 ct16 oc17 kV17 dc17 pm17 cd17 ct17 oc18 kV18 dc18 pm18 cd18 ct18 oc19 kV19 dc19 pm19 cd19 ct19 oc20 kV20 dc20 pm20 cd20 ct20 oc21 kV21 dc21 pm21 cd21 ct21 oc22 kV22 dc22 pm22 cd22 ct22 oc23 kV23 dc23 pm23 cd23 ct23 oc24 kV24 dc24 pm24 cd24 ct24 oc25 kV25 dc25 pm25 cd25 ct25 oc26 kV26 dc26 pm26 cd26 ct26 oc27 kV27 dc27 pm27 cd27 ct27 oc28 kV28 dc28 pm28 cd28 ct28 oc29 kV29 dc29 pm29 cd29 ct29 oc30 kV30 dc30 pm30 cd30 ct30 oc31 kV31 dc31 pm31 cd31 ct31 oc32 kV32 dc32 pm32 cd32 ct32 oc33 kV33 dc33 pm33 cd33 ct33 oc34 kV34 dc34 pm34 cd34 ct34 oc35 kV35 dc35 pm35 cd35 ct35 oc36 kV36 dc36 pm36 cd36 ct36 oc37 kV37 dc37 pm37 cd37 ct37 oc38 kV38 dc38 pm38 cd38 ct38 oc39 kV39 dc39 pm39 cd39 ct39 oc40 kV40 dc40 pm40 cd40 ct40 oc41 kV41 dc41 pm41 cd41 ct41 oc42 kV42 dc42 pm42 cd42 ct42 oc43 kV43 dc43 pm43 cd43 ct43 oc44 kV44 dc44 pm44 cd44 ct44 oc45 kV45 dc45 pm45 cd45 ct45 oc46 kV46 dc46 pm46 ct46 oc47 kV47 dc47 pm47 cd47 ct47 : Value}
    {qc46 : Value} {qd46 : Option Addr} {vs46 : Array Value} {qs46 : Array (Option Value)}
    {TD : Addr} {ocD : Value} {odD : Option Addr} {nD : Nat} {slD : Array (Option Value)}
    (a0 : PySem.W.nsIn K mainGlobals "is_an_integer" = some (some (.ref f0)))
    (l0 : K.lookup f0 = some ⟨oc0, od0, .func (PySem.W.fnOf "is_an_integer" "is_an_integer" (defArgs s_is_an_integer) (defBody s_is_an_integer) (defScope s_is_an_integer) .none kV0 dc0 pm0 an0 cd0 ct0), sl0⟩)
    (c0 : PySem.W.codeIn K cd0 "is_an_integer" = true) (k0 : PySem.W.keepIn K (.ref f0) = true)
    (a1 : PySem.W.nsIn K mainGlobals "is_number" = some (some (.ref f1)))
    (l1 : K.lookup f1 = some ⟨oc1, od1, .func (PySem.W.fnOf "is_number" "is_number" (defArgs s_is_number) (defBody s_is_number) (defScope s_is_number) .none kV1 dc1 pm1 an1 cd1 ct1), sl1⟩)
    (c1 : PySem.W.codeIn K cd1 "is_number" = true) (k1 : PySem.W.keepIn K (.ref f1) = true)
    (a2 : PySem.W.nsIn K mainGlobals "is_number_below" = some (some (.ref f2)))
    (l2 : K.lookup f2 = some ⟨oc2, od2, .func (PySem.W.fnOf "is_number_below" "is_number_below" (defArgs s_is_number_below) (defBody s_is_number_below) (defScope s_is_number_below) .none kV2 dc2 pm2 an2 cd2 ct2), sl2⟩)
    (c2 : PySem.W.codeIn K cd2 "is_number_below" = true) (k2 : PySem.W.keepIn K (.ref f2) = true)
    (a3 : PySem.W.nsIn K mainGlobals "is_name" = some (some (.ref f3)))
    (l3 : K.lookup f3 = some ⟨oc3, od3, .func (PySem.W.fnOf "is_name" "is_name" (defArgs s_is_name) (defBody s_is_name) (defScope s_is_name) .none kV3 dc3 pm3 an3 cd3 ct3), sl3⟩)
    (c3 : PySem.W.codeIn K cd3 "is_name" = true) (k3 : PySem.W.keepIn K (.ref f3) = true)
    (a4 : PySem.W.nsIn K mainGlobals "is_tuple_of" = some (some (.ref f4)))
    (l4 : K.lookup f4 = some ⟨oc4, od4, .func (PySem.W.fnOf "is_tuple_of" "is_tuple_of" (defArgs s_is_tuple_of) (defBody s_is_tuple_of) (defScope s_is_tuple_of) .none kV4 dc4 pm4 an4 cd4 ct4), sl4⟩)
    (c4 : PySem.W.codeIn K cd4 "is_tuple_of" = true) (k4 : PySem.W.keepIn K (.ref f4) = true)
    (a5 : PySem.W.nsIn K mainGlobals "are_names" = some (some (.ref f5)))
    (l5 : K.lookup f5 = some ⟨oc5, od5, .func (PySem.W.fnOf "are_names" "are_names" (defArgs s_are_names) (defBody s_are_names) (defScope s_are_names) .none kV5 dc5 pm5 an5 cd5 ct5), sl5⟩)
    (c5 : PySem.W.codeIn K cd5 "are_names" = true) (k5 : PySem.W.keepIn K (.ref f5) = true)
    (a6 : PySem.W.nsIn K mainGlobals "are_numbers_below" = some (some (.ref f6)))
    (l6 : K.lookup f6 = some ⟨oc6, od6, .func (PySem.W.fnOf "are_numbers_below" "are_numbers_below" (defArgs s_are_numbers_below) (defBody s_are_numbers_below) (defScope s_are_numbers_below) .none kV6 dc6 pm6 an6 cd6 ct6), sl6⟩)
    (c6 : PySem.W.codeIn K cd6 "are_numbers_below" = true) (k6 : PySem.W.keepIn K (.ref f6) = true)
    (a7 : PySem.W.nsIn K mainGlobals "is_ascending" = some (some (.ref f7)))
    (l7 : K.lookup f7 = some ⟨oc7, od7, .func (PySem.W.fnOf "is_ascending" "is_ascending" (defArgs s_is_ascending) (defBody s_is_ascending) (defScope s_is_ascending) .none kV7 dc7 pm7 an7 cd7 ct7), sl7⟩)
    (c7 : PySem.W.codeIn K cd7 "is_ascending" = true) (k7 : PySem.W.keepIn K (.ref f7) = true)
    (a8 : PySem.W.nsIn K mainGlobals "is_lot_below" = some (some (.ref f8)))
    (l8 : K.lookup f8 = some ⟨oc8, od8, .func (PySem.W.fnOf "is_lot_below" "is_lot_below" (defArgs s_is_lot_below) (defBody s_is_lot_below) (defScope s_is_lot_below) .none kV8 dc8 pm8 an8 cd8 ct8), sl8⟩)
    (c8 : PySem.W.codeIn K cd8 "is_lot_below" = true) (k8 : PySem.W.keepIn K (.ref f8) = true)
    (a9 : PySem.W.nsIn K mainGlobals "is_fraction" = some (some (.ref f9)))
    (l9 : K.lookup f9 = some ⟨oc9, od9, .func (PySem.W.fnOf "is_fraction" "is_fraction" (defArgs s_is_fraction) (defBody s_is_fraction) (defScope s_is_fraction) .none kV9 dc9 pm9 an9 cd9 ct9), sl9⟩)
    (c9 : PySem.W.codeIn K cd9 "is_fraction" = true) (k9 : PySem.W.keepIn K (.ref f9) = true)
    (a10 : PySem.W.nsIn K mainGlobals "added" = some (some (.ref f10)))
    (l10 : K.lookup f10 = some ⟨oc10, od10, .func (PySem.W.fnOf "added" "added" (defArgs s_added) (defBody s_added) (defScope s_added) .none kV10 dc10 pm10 an10 cd10 ct10), sl10⟩)
    (c10 : PySem.W.codeIn K cd10 "added" = true) (k10 : PySem.W.keepIn K (.ref f10) = true)
    (a11 : PySem.W.nsIn K mainGlobals "opposite_of" = some (some (.ref f11)))
    (l11 : K.lookup f11 = some ⟨oc11, od11, .func (PySem.W.fnOf "opposite_of" "opposite_of" (defArgs s_opposite_of) (defBody s_opposite_of) (defScope s_opposite_of) .none kV11 dc11 pm11 an11 cd11 ct11), sl11⟩)
    (c11 : PySem.W.codeIn K cd11 "opposite_of" = true) (k11 : PySem.W.keepIn K (.ref f11) = true)
    (a12 : PySem.W.nsIn K mainGlobals "taken" = some (some (.ref f12)))
    (l12 : K.lookup f12 = some ⟨oc12, od12, .func (PySem.W.fnOf "taken" "taken" (defArgs s_taken) (defBody s_taken) (defScope s_taken) .none kV12 dc12 pm12 an12 cd12 ct12), sl12⟩)
    (c12 : PySem.W.codeIn K cd12 "taken" = true) (k12 : PySem.W.keepIn K (.ref f12) = true)
    (a13 : PySem.W.nsIn K mainGlobals "is_small" = some (some (.ref f13)))
    (l13 : K.lookup f13 = some ⟨oc13, od13, .func (PySem.W.fnOf "is_small" "is_small" (defArgs s_is_small) (defBody s_is_small) (defScope s_is_small) .none kV13 dc13 pm13 an13 cd13 ct13), sl13⟩)
    (c13 : PySem.W.codeIn K cd13 "is_small" = true) (k13 : PySem.W.keepIn K (.ref f13) = true)
    (a14 : PySem.W.nsIn K mainGlobals "are_small" = some (some (.ref f14)))
    (l14 : K.lookup f14 = some ⟨oc14, od14, .func (PySem.W.fnOf "are_small" "are_small" (defArgs s_are_small) (defBody s_are_small) (defScope s_are_small) .none kV14 dc14 pm14 an14 cd14 ct14), sl14⟩)
    (c14 : PySem.W.codeIn K cd14 "are_small" = true) (k14 : PySem.W.keepIn K (.ref f14) = true)
    (a15 : PySem.W.nsIn K mainGlobals "floor_of" = some (some (.ref f15)))
    (l15 : K.lookup f15 = some ⟨oc15, od15, .func (PySem.W.fnOf "floor_of" "floor_of" (defArgs s_floor_of) (defBody s_floor_of) (defScope s_floor_of) .none kV15 dc15 pm15 an15 cd15 ct15), sl15⟩)
    (c15 : PySem.W.codeIn K cd15 "floor_of" = true) (k15 : PySem.W.keepIn K (.ref f15) = true)
    (a16 : PySem.W.nsIn K mainGlobals "ceiling_of" = some (some (.ref f16)))
    (l16 : K.lookup f16 = some ⟨oc16, od16, .func (PySem.W.fnOf "ceiling_of" "ceiling_of" (defArgs s_ceiling_of) (defBody s_ceiling_of) (defScope s_ceiling_of) .none kV16 dc16 pm16 an16 cd16 ct16), sl16⟩)
    (c16 : PySem.W.codeIn K cd16 "ceiling_of" = true) (k16 : PySem.W.keepIn K (.ref f16) = true)
    (a17 : PySem.W.nsIn K mainGlobals "sum_of" = some (some (.ref f17)))
    (l17 : K.lookup f17 = some ⟨oc17, od17, .func (PySem.W.fnOf "sum_of" "sum_of" (defArgs s_sum_of) (defBody s_sum_of) (defScope s_sum_of) .none kV17 dc17 pm17 an17 cd17 ct17), sl17⟩)
    (c17 : PySem.W.codeIn K cd17 "sum_of" = true) (k17 : PySem.W.keepIn K (.ref f17) = true)
    (a18 : PySem.W.nsIn K mainGlobals "is_amount" = some (some (.ref f18)))
    (l18 : K.lookup f18 = some ⟨oc18, od18, .func (PySem.W.fnOf "is_amount" "is_amount" (defArgs s_is_amount) (defBody s_is_amount) (defScope s_is_amount) .none kV18 dc18 pm18 an18 cd18 ct18), sl18⟩)
    (c18 : PySem.W.codeIn K cd18 "is_amount" = true) (k18 : PySem.W.keepIn K (.ref f18) = true)
    (a19 : PySem.W.nsIn K mainGlobals "choices" = some (some (.ref f19)))
    (l19 : K.lookup f19 = some ⟨oc19, od19, .func (PySem.W.fnOf "choices" "choices" (defArgs s_choices) (defBody s_choices) (defScope s_choices) .none kV19 dc19 pm19 an19 cd19 ct19), sl19⟩)
    (c19 : PySem.W.codeIn K cd19 "choices" = true) (k19 : PySem.W.keepIn K (.ref f19) = true)
    (a20 : PySem.W.nsIn K mainGlobals "is_rounded_line" = some (some (.ref f20)))
    (l20 : K.lookup f20 = some ⟨oc20, od20, .func (PySem.W.fnOf "is_rounded_line" "is_rounded_line" (defArgs s_is_rounded_line) (defBody s_is_rounded_line) (defScope s_is_rounded_line) .none kV20 dc20 pm20 an20 cd20 ct20), sl20⟩)
    (c20 : PySem.W.codeIn K cd20 "is_rounded_line" = true) (k20 : PySem.W.keepIn K (.ref f20) = true)
    (a21 : PySem.W.nsIn K mainGlobals "check_day" = some (some (.ref f21)))
    (l21 : K.lookup f21 = some ⟨oc21, od21, .func (PySem.W.fnOf "check_day" "check_day" (defArgs s_check_day) (defBody s_check_day) (defScope s_check_day) .none kV21 dc21 pm21 an21 cd21 ct21), sl21⟩)
    (c21 : PySem.W.codeIn K cd21 "check_day" = true) (k21 : PySem.W.keepIn K (.ref f21) = true)
    (a22 : PySem.W.nsIn K mainGlobals "error_of_line" = some (some (.ref f22)))
    (l22 : K.lookup f22 = some ⟨oc22, od22, .func (PySem.W.fnOf "error_of_line" "error_of_line" (defArgs s_error_of_line) (defBody s_error_of_line) (defScope s_error_of_line) .none kV22 dc22 pm22 an22 cd22 ct22), sl22⟩)
    (c22 : PySem.W.codeIn K cd22 "error_of_line" = true) (k22 : PySem.W.keepIn K (.ref f22) = true)
    (a23 : PySem.W.nsIn K mainGlobals "no_errors" = some (some (.ref f23)))
    (l23 : K.lookup f23 = some ⟨oc23, od23, .func (PySem.W.fnOf "no_errors" "no_errors" (defArgs s_no_errors) (defBody s_no_errors) (defScope s_no_errors) .none kV23 dc23 pm23 an23 cd23 ct23), sl23⟩)
    (c23 : PySem.W.codeIn K cd23 "no_errors" = true) (k23 : PySem.W.keepIn K (.ref f23) = true)
    (a24 : PySem.W.nsIn K mainGlobals "error_of_total" = some (some (.ref f24)))
    (l24 : K.lookup f24 = some ⟨oc24, od24, .func (PySem.W.fnOf "error_of_total" "error_of_total" (defArgs s_error_of_total) (defBody s_error_of_total) (defScope s_error_of_total) .none kV24 dc24 pm24 an24 cd24 ct24), sl24⟩)
    (c24 : PySem.W.codeIn K cd24 "error_of_total" = true) (k24 : PySem.W.keepIn K (.ref f24) = true)
    (a25 : PySem.W.nsIn K mainGlobals "totals_by" = some (some (.ref f25)))
    (l25 : K.lookup f25 = some ⟨oc25, od25, .func (PySem.W.fnOf "totals_by" "totals_by" (defArgs s_totals_by) (defBody s_totals_by) (defScope s_totals_by) .none kV25 dc25 pm25 an25 cd25 ct25), sl25⟩)
    (c25 : PySem.W.codeIn K cd25 "totals_by" = true) (k25 : PySem.W.keepIn K (.ref f25) = true)
    (a26 : PySem.W.nsIn K mainGlobals "totals_behind" = some (some (.ref f26)))
    (l26 : K.lookup f26 = some ⟨oc26, od26, .func (PySem.W.fnOf "totals_behind" "totals_behind" (defArgs s_totals_behind) (defBody s_totals_behind) (defScope s_totals_behind) .none kV26 dc26 pm26 an26 cd26 ct26), sl26⟩)
    (c26 : PySem.W.codeIn K cd26 "totals_behind" = true) (k26 : PySem.W.keepIn K (.ref f26) = true)
    (a27 : PySem.W.nsIn K mainGlobals "course_of" = some (some (.ref f27)))
    (l27 : K.lookup f27 = some ⟨oc27, od27, .func (PySem.W.fnOf "course_of" "course_of" (defArgs s_course_of) (defBody s_course_of) (defScope s_course_of) .none kV27 dc27 pm27 an27 cd27 ct27), sl27⟩)
    (c27 : PySem.W.codeIn K cd27 "course_of" = true) (k27 : PySem.W.keepIn K (.ref f27) = true)
    (a28 : PySem.W.nsIn K mainGlobals "first_off" = some (some (.ref f28)))
    (l28 : K.lookup f28 = some ⟨oc28, od28, .func (PySem.W.fnOf "first_off" "first_off" (defArgs s_first_off) (defBody s_first_off) (defScope s_first_off) .none kV28 dc28 pm28 an28 cd28 ct28), sl28⟩)
    (c28 : PySem.W.codeIn K cd28 "first_off" = true) (k28 : PySem.W.keepIn K (.ref f28) = true)
    (a29 : PySem.W.nsIn K mainGlobals "is_day" = some (some (.ref f29)))
    (l29 : K.lookup f29 = some ⟨oc29, od29, .func (PySem.W.fnOf "is_day" "is_day" (defArgs s_is_day) (defBody s_is_day) (defScope s_is_day) (.ref TD) kV29 dc29 pm29 an29 cd29 ct29), sl29⟩)
    (c29 : PySem.W.codeIn K cd29 "is_day" = true) (k29 : PySem.W.keepIn K (.ref f29) = true)
    (a30 : PySem.W.nsIn K mainGlobals "kept_days" = some (some (.ref f30)))
    (l30 : K.lookup f30 = some ⟨oc30, od30, .func (PySem.W.fnOf "kept_days" "kept_days" (defArgs s_kept_days) (defBody s_kept_days) (defScope s_kept_days) .none kV30 dc30 pm30 an30 cd30 ct30), sl30⟩)
    (c30 : PySem.W.codeIn K cd30 "kept_days" = true) (k30 : PySem.W.keepIn K (.ref f30) = true)
    (a31 : PySem.W.nsIn K mainGlobals "check_kinds" = some (some (.ref f31)))
    (l31 : K.lookup f31 = some ⟨oc31, od31, .func (PySem.W.fnOf "check_kinds" "check_kinds" (defArgs s_check_kinds) (defBody s_check_kinds) (defScope s_check_kinds) .none kV31 dc31 pm31 an31 cd31 ct31), sl31⟩)
    (c31 : PySem.W.codeIn K cd31 "check_kinds" = true) (k31 : PySem.W.keepIn K (.ref f31) = true)
    (a32 : PySem.W.nsIn K mainGlobals "check_totals" = some (some (.ref f32)))
    (l32 : K.lookup f32 = some ⟨oc32, od32, .func (PySem.W.fnOf "check_totals" "check_totals" (defArgs s_check_totals) (defBody s_check_totals) (defScope s_check_totals) .none kV32 dc32 pm32 an32 cd32 ct32), sl32⟩)
    (c32 : PySem.W.codeIn K cd32 "check_totals" = true) (k32 : PySem.W.keepIn K (.ref f32) = true)
    (a33 : PySem.W.nsIn K mainGlobals "_law_heap" = some (some (.ref f33)))
    (l33 : K.lookup f33 = some ⟨oc33, od33, .func (PySem.W.fnOf "_law_heap" "_law_heap" (defArgs s__law_heap) (defBody s__law_heap) (defScope s__law_heap) .none kV33 dc33 pm33 an33 cd33 ct33), sl33⟩)
    (c33 : PySem.W.codeIn K cd33 "_law_heap" = true) (k33 : PySem.W.keepIn K (.ref f33) = true)
    (a34 : PySem.W.nsIn K mainGlobals "_law_draw" = some (some (.ref f34)))
    (l34 : K.lookup f34 = some ⟨oc34, od34, .func (PySem.W.fnOf "_law_draw" "_law_draw" (defArgs s__law_draw) (defBody s__law_draw) (defScope s__law_draw) .none kV34 dc34 pm34 an34 cd34 ct34), sl34⟩)
    (c34 : PySem.W.codeIn K cd34 "_law_draw" = true) (k34 : PySem.W.keepIn K (.ref f34) = true)
    (a35 : PySem.W.nsIn K mainGlobals "_law_pick" = some (some (.ref f35)))
    (l35 : K.lookup f35 = some ⟨oc35, od35, .func (PySem.W.fnOf "_law_pick" "_law_pick" (defArgs s__law_pick) (defBody s__law_pick) (defScope s__law_pick) .none kV35 dc35 pm35 an35 cd35 ct35), sl35⟩)
    (c35 : PySem.W.codeIn K cd35 "_law_pick" = true) (k35 : PySem.W.keepIn K (.ref f35) = true)
    (a36 : PySem.W.nsIn K mainGlobals "_law_names" = some (some (.ref f36)))
    (l36 : K.lookup f36 = some ⟨oc36, od36, .func (PySem.W.fnOf "_law_names" "_law_names" (defArgs s__law_names) (defBody s__law_names) (defScope s__law_names) .none kV36 dc36 pm36 an36 cd36 ct36), sl36⟩)
    (c36 : PySem.W.codeIn K cd36 "_law_names" = true) (k36 : PySem.W.keepIn K (.ref f36) = true)
    (a37 : PySem.W.nsIn K mainGlobals "_law_totals" = some (some (.ref f37)))
    (l37 : K.lookup f37 = some ⟨oc37, od37, .func (PySem.W.fnOf "_law_totals" "_law_totals" (defArgs s__law_totals) (defBody s__law_totals) (defScope s__law_totals) .none kV37 dc37 pm37 an37 cd37 ct37), sl37⟩)
    (c37 : PySem.W.codeIn K cd37 "_law_totals" = true) (k37 : PySem.W.keepIn K (.ref f37) = true)
    (a38 : PySem.W.nsIn K mainGlobals "_law_fraction" = some (some (.ref f38)))
    (l38 : K.lookup f38 = some ⟨oc38, od38, .func (PySem.W.fnOf "_law_fraction" "_law_fraction" (defArgs s__law_fraction) (defBody s__law_fraction) (defScope s__law_fraction) .none kV38 dc38 pm38 an38 cd38 ct38), sl38⟩)
    (c38 : PySem.W.codeIn K cd38 "_law_fraction" = true) (k38 : PySem.W.keepIn K (.ref f38) = true)
    (a39 : PySem.W.nsIn K mainGlobals "_law_choices" = some (some (.ref f39)))
    (l39 : K.lookup f39 = some ⟨oc39, od39, .func (PySem.W.fnOf "_law_choices" "_law_choices" (defArgs s__law_choices) (defBody s__law_choices) (defScope s__law_choices) .none kV39 dc39 pm39 an39 cd39 ct39), sl39⟩)
    (c39 : PySem.W.codeIn K cd39 "_law_choices" = true) (k39 : PySem.W.keepIn K (.ref f39) = true)
    (a40 : PySem.W.nsIn K mainGlobals "_law_amount" = some (some (.ref f40)))
    (l40 : K.lookup f40 = some ⟨oc40, od40, .func (PySem.W.fnOf "_law_amount" "_law_amount" (defArgs s__law_amount) (defBody s__law_amount) (defScope s__law_amount) .none kV40 dc40 pm40 an40 cd40 ct40), sl40⟩)
    (c40 : PySem.W.codeIn K cd40 "_law_amount" = true) (k40 : PySem.W.keepIn K (.ref f40) = true)
    (a41 : PySem.W.nsIn K mainGlobals "_law_kept" = some (some (.ref f41)))
    (l41 : K.lookup f41 = some ⟨oc41, od41, .func (PySem.W.fnOf "_law_kept" "_law_kept" (defArgs s__law_kept) (defBody s__law_kept) (defScope s__law_kept) .none kV41 dc41 pm41 an41 cd41 ct41), sl41⟩)
    (c41 : PySem.W.codeIn K cd41 "_law_kept" = true) (k41 : PySem.W.keepIn K (.ref f41) = true)
    (a42 : PySem.W.nsIn K mainGlobals "_law_roundings" = some (some (.ref f42)))
    (l42 : K.lookup f42 = some ⟨oc42, od42, .func (PySem.W.fnOf "_law_roundings" "_law_roundings" (defArgs s__law_roundings) (defBody s__law_roundings) (defScope s__law_roundings) .none kV42 dc42 pm42 an42 cd42 ct42), sl42⟩)
    (c42 : PySem.W.codeIn K cd42 "_law_roundings" = true) (k42 : PySem.W.keepIn K (.ref f42) = true)
    (a43 : PySem.W.nsIn K mainGlobals "_law_heard" = some (some (.ref f43)))
    (l43 : K.lookup f43 = some ⟨oc43, od43, .func (PySem.W.fnOf "_law_heard" "_law_heard" (defArgs s__law_heard) (defBody s__law_heard) (defScope s__law_heard) .none kV43 dc43 pm43 an43 cd43 ct43), sl43⟩)
    (c43 : PySem.W.codeIn K cd43 "_law_heard" = true) (k43 : PySem.W.keepIn K (.ref f43) = true)
    (a44 : PySem.W.nsIn K mainGlobals "_law_right" = some (some (.ref f44)))
    (l44 : K.lookup f44 = some ⟨oc44, od44, .func (PySem.W.fnOf "_law_right" "_law_right" (defArgs s__law_right) (defBody s__law_right) (defScope s__law_right) .none kV44 dc44 pm44 an44 cd44 ct44), sl44⟩)
    (c44 : PySem.W.codeIn K cd44 "_law_right" = true) (k44 : PySem.W.keepIn K (.ref f44) = true)
    (a45 : PySem.W.nsIn K mainGlobals "_law_turned_right" = some (some (.ref f45)))
    (l45 : K.lookup f45 = some ⟨oc45, od45, .func (PySem.W.fnOf "_law_turned_right" "_law_turned_right" (defArgs s__law_turned_right) (defBody s__law_turned_right) (defScope s__law_turned_right) .none kV45 dc45 pm45 an45 cd45 ct45), sl45⟩)
    (c45 : PySem.W.codeIn K cd45 "_law_turned_right" = true) (k45 : PySem.W.keepIn K (.ref f45) = true)
    (a46 : PySem.W.nsIn K mainGlobals "_law_large_right" = some (some (.ref f46)))
    (l46 : K.lookup f46 = some ⟨oc46, od46, .func (PySem.W.fnOf "_law_large_right" "_law_large_right" (defArgs s__law_large_right) (defBody s__law_large_right) (defScope s__law_large_right) .none kV46 dc46 pm46 an46 (.ref cc46) ct46), sl46⟩)
    (c46 : PySem.W.codeIn K (.ref cc46) "_law_large_right" = true) (k46 : PySem.W.keepIn K (.ref f46) = true)
    (a47 : PySem.W.nsIn K mainGlobals "law" = some (some (.ref f47)))
    (l47 : K.lookup f47 = some ⟨oc47, od47, .func (PySem.W.fnOf "law" "law" (defArgs s_law) (defBody s_law) (defScope s_law) .none kV47 dc47 pm47 an47 cd47 ct47), sl47⟩)
    (c47 : PySem.W.codeIn K cd47 "law" = true) (k47 : PySem.W.keepIn K (.ref f47) = true)
    (lTD : K.lookup TD = some ⟨ocD, odD, .seq #[.bool true] nD, slD⟩)
    (x46 : K.lookup cc46 = some ⟨qc46, qd46, .fields vs46, qs46⟩) (p46 : (vs46[11]? : Option Value) = some (.ref Pt46)) (h46 : PySem.W.CodeHd h cc46 Pt46) (t46 : h.get? Pt46 = some blankT) (n46 : K.lookup Pt46 = none)
    {Ct CA EA fIA : Addr} {nmA qA : Str} {bsA : List Value} {snA : List Str} {subA : List Value} {abA : Bool} {colA : Option Bool} {ddA : Option Addr} {m0A m1A m2A m3A m5A : Option Value}
    {odIA anIA : Option Addr} {slIA : Array (Option Value)} {ocIA kVIA dcIA pmIA cdIA ctIA : Value}
    (aCA : PySem.W.nsIn K mainGlobals "InvalidTable" = some (some (.ref CA)))
    (xLA : K.lookup CA = some (excClassObj nmA qA CA EA bsA [.ref Ct, .type "ValueError", .type "Exception", .type "BaseException", .type "object"] true snA subA abA colA ddA m0A m1A m2A m3A m5A "ValueError.__new__"))
    (saA : PySem.W.findIn K (.ref CA) "__setattr__" = some (some (.builtin "object.__setattr__"))) (nwA : PySem.W.findIn K (.ref CA) "at" = some none)
    (iIA : PySem.W.findIn K (.ref CA) "__init__" = some (some (.ref fIA))) (tIA : PySem.W.typeIn K (.ref fIA) = some (.type "function"))
    (lIA : K.lookup fIA = some ⟨ocIA, odIA, .func (PySem.W.fnOf "__init__" "InvalidTable.__init__" (defArgs i_InvalidTable) (defBody i_InvalidTable) (defScope i_InvalidTable) .none kVIA dcIA pmIA anIA cdIA ctIA), slIA⟩) (cIA : PySem.W.codeIn K cdIA "InvalidTable.__init__" = true) (kIA : PySem.W.keepIn K (.ref fIA) = true)
    (kCA : PySem.W.keepIn K (.ref CA) = true) (eCA : PySem.W.subIn K (.ref CA) (.type "BaseException") = some true) (tCA : PySem.W.typeIn K (.ref CA) = some (.type "type"))
    {CD ED fID : Addr} {nmD qD : Str} {bsD : List Value} {snD : List Str} {subD : List Value} {abD : Bool} {colD : Option Bool} {ddD : Option Addr} {m0D m1D m2D m3D m5D : Option Value}
    {odID anID : Option Addr} {slID : Array (Option Value)} {ocID kVID dcID pmID cdID ctID : Value}
    (aCD : PySem.W.nsIn K mainGlobals "InvalidDay" = some (some (.ref CD)))
    (xLD : K.lookup CD = some (excClassObj nmD qD CD ED bsD [.ref Ct, .type "ValueError", .type "Exception", .type "BaseException", .type "object"] true snD subD abD colD ddD m0D m1D m2D m3D m5D "ValueError.__new__"))
    (saD : PySem.W.findIn K (.ref CD) "__setattr__" = some (some (.builtin "object.__setattr__"))) (nwD : PySem.W.findIn K (.ref CD) "at" = some none)
    (iID : PySem.W.findIn K (.ref CD) "__init__" = some (some (.ref fID))) (tID : PySem.W.typeIn K (.ref fID) = some (.type "function"))
    (lID : K.lookup fID = some ⟨ocID, odID, .func (PySem.W.fnOf "__init__" "InvalidDay.__init__" (defArgs i_InvalidDay) (defBody i_InvalidDay) (defScope i_InvalidDay) .none kVID dcID pmID anID cdID ctID), slID⟩) (cID : PySem.W.codeIn K cdID "InvalidDay.__init__" = true) (kID : PySem.W.keepIn K (.ref fID) = true)
    (kCD : PySem.W.keepIn K (.ref CD) = true) (eCD : PySem.W.subIn K (.ref CD) (.type "BaseException") = some true) (tCD : PySem.W.typeIn K (.ref CD) = some (.type "type"))
    {CR ER fIR : Addr} {nmR qR : Str} {bsR : List Value} {snR : List Str} {subR : List Value} {abR : Bool} {colR : Option Bool} {ddR : Option Addr} {m0R m1R m2R m3R m5R : Option Value}
    {odIR anIR : Option Addr} {slIR : Array (Option Value)} {ocIR kVIR dcIR pmIR cdIR ctIR : Value}
    (aCR : PySem.W.nsIn K mainGlobals "Refused" = some (some (.ref CR)))
    (xLR : K.lookup CR = some (excClassObj nmR qR CR ER bsR [.ref Ct, .type "ValueError", .type "Exception", .type "BaseException", .type "object"] true snR subR abR colR ddR m0R m1R m2R m3R m5R "ValueError.__new__"))
    (saR : PySem.W.findIn K (.ref CR) "__setattr__" = some (some (.builtin "object.__setattr__"))) (nwR : PySem.W.findIn K (.ref CR) "word" = some none)
    (iIR : PySem.W.findIn K (.ref CR) "__init__" = some (some (.ref fIR))) (tIR : PySem.W.typeIn K (.ref fIR) = some (.type "function"))
    (lIR : K.lookup fIR = some ⟨ocIR, odIR, .func (PySem.W.fnOf "__init__" "Refused.__init__" (defArgs i_Refused) (defBody i_Refused) (defScope i_Refused) .none kVIR dcIR pmIR anIR cdIR ctIR), slIR⟩) (cIR : PySem.W.codeIn K cdIR "Refused.__init__" = true) (kIR : PySem.W.keepIn K (.ref fIR) = true)
    (kCR : PySem.W.keepIn K (.ref CR) = true) (eCR : PySem.W.subIn K (.ref CR) (.type "BaseException") = some true) (tCR : PySem.W.typeIn K (.ref CR) = some (.type "type"))
    (aE : PySem.W.nsIn K mainGlobals "TillError" = some (some (.ref Ct)))
    (xa : PySem.W.findIn K (.ref CR) "__class__" = some (some (.builtin "object.__class__"))) (xn : PySem.W.specialIn K (.builtin "object.__class__") "__get__" = some (some (.builtin "getset_descriptor.__get__"))) (xt : PySem.W.takesIn K (.builtin "object.__class__") = some true)
    (isE : PySem.W.isClsIn K Ct = true) (tE : PySem.W.typeIn K (.ref Ct) = some (.type "type")) (sCD : PySem.W.subIn K (.ref CD) (.ref CD) = some true) (hCD : PySem.W.hasDictIn K CD = true)
    (gaR : PySem.W.findIn K (.ref CR) "__getattribute__" = some (some (.builtin "BaseException.__getattribute__"))) (ggR : PySem.W.findIn K (.ref CR) "__getattr__" = some none) (hCR : PySem.W.hasDictIn K CR = true) (sCR : PySem.W.subIn K (.ref CR) (.ref CR) = some true)
    (xmR : PySem.W.mroIn K CR (.type "object") = some true) (sTR : PySem.W.subIn K (.ref CR) (.ref Ct) = some true)
    {CT fT zz : Addr} {odT anT : Option Addr} {slT : Array (Option Value)} {ocT kVT dcT pmT cdT ctT : Value} {zd : Option Addr} {zt1 zt2 tk1 tk2 tk3 tk4 tk5 tk6 tkL : Tok} {zn : Nat} {zsl : Array (Option Value)}
    (aT : PySem.W.nsIn K mainGlobals "Table" = some (some (.ref CT)))
    (iT : PySem.W.findIn K (.ref CT) "__init__" = some (some (.ref fT))) (jT : PySem.W.isFn K (.ref fT) = true)
    (lT : K.lookup fT = some ⟨ocT, odT, .func (PySem.W.fnOf "__init__" "Table.__init__" (defArgs i_Table) (defBody i_Table) (defScope i_Table) .none kVT dcT pmT anT cdT ctT), slT⟩) (cT : PySem.W.codeIn K cdT "Table.__init__" = true) (kT : PySem.W.keepIn K (.ref fT) = true)
    (pgT : PySem.W.plainGet K CT Str.empty = true) (hdT : PySem.W.hasDictIn K CT = true) (poT : PySem.W.plainOver K CT = true) (saT : PySem.W.findIn K (.ref CT) "__setattr__" = some (some (.builtin "object.__setattr__"))) (mkT : PySem.W.makesIn K CT = true) (kcT : PySem.W.keepIn K (.ref CT) = true)
    (nkT : PySem.W.findIn K (.ref CT) "kinds" = some none) (ntT : PySem.W.findIn K (.ref CT) "totals" = some none)
    (mL : PySem.W.nsIn K mainGlobals "LETTERS" = some (some (.str cLETTERS tkL))) (m1 : PySem.W.nsIn K mainGlobals "LONGEST_NAME" = some (some (.int 6 tk1)))
    (m2 : PySem.W.nsIn K mainGlobals "MOST_KINDS" = some (some (.int 12 tk2))) (m3 : PySem.W.nsIn K mainGlobals "MOST_TOTALS" = some (some (.int 12 tk3)))
    (m4 : PySem.W.nsIn K mainGlobals "MILLION" = some (some (.int 1000000 tk4))) (m5 : PySem.W.nsIn K mainGlobals "MOST_LINES" = some (some (.int 400 tk5))) (m6 : PySem.W.nsIn K mainGlobals "MOST_GAME_LINES" = some (some (.int 12 tk6)))
    (aZ : PySem.W.nsIn K mainGlobals "ZERO" = some (some (.ref zz))) (zL : K.lookup zz = some ⟨.type "tuple", zd, .seq #[.int 0 zt1, .int 1 zt2] zn, zsl⟩)
    (aG : PySem.W.nsIn K mainGlobals "gcd" = some (some (.builtin "math.gcd")))
    (z_isinstance : PySem.W.nsIn K mainGlobals "isinstance" = some none)
    (z_int : PySem.W.nsIn K mainGlobals "int" = some none)
    (z_bool : PySem.W.nsIn K mainGlobals "bool" = some none)
    (z_str : PySem.W.nsIn K mainGlobals "str" = some none)
    (z_tuple : PySem.W.nsIn K mainGlobals "tuple" = some none)
    (z_list : PySem.W.nsIn K mainGlobals "list" = some none)
    (z_len : PySem.W.nsIn K mainGlobals "len" = some none)
    (z_abs : PySem.W.nsIn K mainGlobals "abs" = some none)
    (z_range : PySem.W.nsIn K mainGlobals "range" = some none)
    (z_zip : PySem.W.nsIn K mainGlobals "zip" = some none)
    (z_all : PySem.W.nsIn K mainGlobals "all" = some none)
    (z_repr : PySem.W.nsIn K mainGlobals "repr" = some none)
    (z_enumerate : PySem.W.nsIn K mainGlobals "enumerate" = some none)
    (z_sorted : PySem.W.nsIn K mainGlobals "sorted" = some none)
    (z_set : PySem.W.nsIn K mainGlobals "set" = some none)
    : LawGT l w K 17 63 "script" mg fa h := by
  have e := hfa.symm.trans (PySem.W.mg_of X G a47)
  cases e
  have F0 := fun_mk (st := s_is_an_integer) l0 c0 k0
  have F1 := fun_mk (st := s_is_number) l1 c1 k1
  have F2 := fun_mk (st := s_is_number_below) l2 c2 k2
  have F3 := fun_mk (st := s_is_name) l3 c3 k3
  have F4 := fun_mk (st := s_is_tuple_of) l4 c4 k4
  have F5 := fun_mk (st := s_are_names) l5 c5 k5
  have F6 := fun_mk (st := s_are_numbers_below) l6 c6 k6
  have F7 := fun_mk (st := s_is_ascending) l7 c7 k7
  have F8 := fun_mk (st := s_is_lot_below) l8 c8 k8
  have F9 := fun_mk (st := s_is_fraction) l9 c9 k9
  have F10 := fun_mk (st := s_added) l10 c10 k10
  have F11 := fun_mk (st := s_opposite_of) l11 c11 k11
  have F12 := fun_mk (st := s_taken) l12 c12 k12
  have F13 := fun_mk (st := s_is_small) l13 c13 k13
  have F14 := fun_mk (st := s_are_small) l14 c14 k14
  have F15 := fun_mk (st := s_floor_of) l15 c15 k15
  have F16 := fun_mk (st := s_ceiling_of) l16 c16 k16
  have F17 := fun_mk (st := s_sum_of) l17 c17 k17
  have F18 := fun_mk (st := s_is_amount) l18 c18 k18
  have F19 := fun_mk (st := s_choices) l19 c19 k19
  have F20 := fun_mk (st := s_is_rounded_line) l20 c20 k20
  have F21 := fun_mk (st := s_check_day) l21 c21 k21
  have F22 := fun_mk (st := s_error_of_line) l22 c22 k22
  have F23 := fun_mk (st := s_no_errors) l23 c23 k23
  have F24 := fun_mk (st := s_error_of_total) l24 c24 k24
  have F25 := fun_mk (st := s_totals_by) l25 c25 k25
  have F26 := fun_mk (st := s_totals_behind) l26 c26 k26
  have F27 := fun_mk (st := s_course_of) l27 c27 k27
  have F28 := fun_mk (st := s_first_off) l28 c28 k28
  have F29 : C8.Fun K "is_day" "is_day" s_is_day f29 _ := ⟨⟨oc29, od29, .ref TD, kV29, dc29, pm29, an29, cd29, ct29, sl29, rfl, l29, c29⟩⟩
  have FD29 : FunD K "is_day" "is_day" (defArgs s_is_day) (defBody s_is_day) (defScope s_is_day) [.bl true] [] f29 (PySem.W.fnOf "is_day" "is_day" (defArgs s_is_day) (defBody s_is_day) (defScope s_is_day) (.ref TD) kV29 dc29 pm29 an29 cd29 ct29) := ⟨⟨oc29, od29, .ref TD, kV29, dc29, pm29, an29, cd29, ct29, sl29, rfl, l29, c29, .inr ⟨by simp, TD, _, [.bool true], nD, rfl, lTD, rfl, .cons rfl .nil⟩, .inl rfl⟩, k29⟩
  have F30 := fun_mk (st := s_kept_days) l30 c30 k30
  have F31 := fun_mk (st := s_check_kinds) l31 c31 k31
  have F32 := fun_mk (st := s_check_totals) l32 c32 k32
  have F33 := fun_mk (st := s__law_heap) l33 c33 k33
  have F34 := fun_mk (st := s__law_draw) l34 c34 k34
  have F35 := fun_mk (st := s__law_pick) l35 c35 k35
  have F36 := fun_mk (st := s__law_names) l36 c36 k36
  have F37 := fun_mk (st := s__law_totals) l37 c37 k37
  have F38 := fun_mk (st := s__law_fraction) l38 c38 k38
  have F39 := fun_mk (st := s__law_choices) l39 c39 k39
  have F40 := fun_mk (st := s__law_amount) l40 c40 k40
  have F41 := fun_mk (st := s__law_kept) l41 c41 k41
  have F42 := fun_mk (st := s__law_roundings) l42 c42 k42
  have F43 := fun_mk (st := s__law_heard) l43 c43 k43
  have F44 := fun_mk (st := s__law_right) l44 c44 k44
  have F45 := fun_mk (st := s__law_turned_right) l45 c45 k45
  have F46 := funC_mk (st := s__law_large_right) l46 c46 k46
  have F47 := fun_mk (st := s_law) l47 c47 k47
  have FIA := fun_mk (st := i_InvalidTable) lIA cIA kIA
  have FIR := fun_mk (st := i_Refused) lIR cIR kIR
  have FID := fun_mk (st := i_InvalidDay) lID cID kID
  have FT := fun_mk (st := i_Table) lT cT kT
  have b0 := F0.binds (ps := ["value"]) fun _ _ _ _ _ _ us hl => match us, hl with | [_], _ => rfl
  have g0 := PySem.W.mg_of X G a0
  have b1 := F1.binds (ps := ["value"]) fun _ _ _ _ _ _ us hl => match us, hl with | [_], _ => rfl
  have g1 := PySem.W.mg_of X G a1
  have b2 := F2.binds (ps := ["value", "many"]) fun _ _ _ _ _ _ us hl => match us, hl with | [_, _], _ => rfl
  have g2 := PySem.W.mg_of X G a2
  have b3 := F3.binds (ps := ["value"]) fun _ _ _ _ _ _ us hl => match us, hl with | [_], _ => rfl
  have g3 := PySem.W.mg_of X G a3
  have b4 := F4.binds (ps := ["value", "many"]) fun _ _ _ _ _ _ us hl => match us, hl with | [_, _], _ => rfl
  have g4 := PySem.W.mg_of X G a4
  have b5 := F5.binds (ps := ["value"]) fun _ _ _ _ _ _ us hl => match us, hl with | [_], _ => rfl
  have g5 := PySem.W.mg_of X G a5
  have b6 := F6.binds (ps := ["value", "many"]) fun _ _ _ _ _ _ us hl => match us, hl with | [_, _], _ => rfl
  have g6 := PySem.W.mg_of X G a6
  have b7 := F7.binds (ps := ["some"]) fun _ _ _ _ _ _ us hl => match us, hl with | [_], _ => rfl
  have g7 := PySem.W.mg_of X G a7
  have b8 := F8.binds (ps := ["value", "many"]) fun _ _ _ _ _ _ us hl => match us, hl with | [_, _], _ => rfl
  have g8 := PySem.W.mg_of X G a8
  have b9 := F9.binds (ps := ["value"]) fun _ _ _ _ _ _ us hl => match us, hl with | [_], _ => rfl
  have g9 := PySem.W.mg_of X G a9
  have b10 := F10.binds (ps := ["one", "other"]) fun _ _ _ _ _ _ us hl => match us, hl with | [_, _], _ => rfl
  have g10 := PySem.W.mg_of X G a10
  have b11 := F11.binds (ps := ["one"]) fun _ _ _ _ _ _ us hl => match us, hl with | [_], _ => rfl
  have g11 := PySem.W.mg_of X G a11
  have b12 := F12.binds (ps := ["one", "other"]) fun _ _ _ _ _ _ us hl => match us, hl with | [_, _], _ => rfl
  have g12 := PySem.W.mg_of X G a12
  have b13 := F13.binds (ps := ["one"]) fun _ _ _ _ _ _ us hl => match us, hl with | [_], _ => rfl
  have g13 := PySem.W.mg_of X G a13
  have b14 := F14.binds (ps := ["some"]) fun _ _ _ _ _ _ us hl => match us, hl with | [_], _ => rfl
  have g14 := PySem.W.mg_of X G a14
  have b15 := F15.binds (ps := ["one"]) fun _ _ _ _ _ _ us hl => match us, hl with | [_], _ => rfl
  have g15 := PySem.W.mg_of X G a15
  have b16 := F16.binds (ps := ["one"]) fun _ _ _ _ _ _ us hl => match us, hl with | [_], _ => rfl
  have g16 := PySem.W.mg_of X G a16
  have b17 := F17.binds (ps := ["some"]) fun _ _ _ _ _ _ us hl => match us, hl with | [_], _ => rfl
  have g17 := PySem.W.mg_of X G a17
  have b18 := F18.binds (ps := ["value"]) fun _ _ _ _ _ _ us hl => match us, hl with | [_], _ => rfl
  have g18 := PySem.W.mg_of X G a18
  have b19 := F19.binds (ps := ["amount"]) fun _ _ _ _ _ _ us hl => match us, hl with | [_], _ => rfl
  have g19 := PySem.W.mg_of X G a19
  have b20 := F20.binds (ps := ["table", "value"]) fun _ _ _ _ _ _ us hl => match us, hl with | [_, _], _ => rfl
  have g20 := PySem.W.mg_of X G a20
  have b21 := F21.binds (ps := ["table", "value"]) fun _ _ _ _ _ _ us hl => match us, hl with | [_, _], _ => rfl
  have g21 := PySem.W.mg_of X G a21
  have b22 := F22.binds (ps := ["amount", "whole"]) fun _ _ _ _ _ _ us hl => match us, hl with | [_, _], _ => rfl
  have g22 := PySem.W.mg_of X G a22
  have b23 := F23.binds (ps := ["table"]) fun _ _ _ _ _ _ us hl => match us, hl with | [_], _ => rfl
  have g23 := PySem.W.mg_of X G a23
  have b24 := F24.binds (ps := ["table", "errors", "total"]) fun _ _ _ _ _ _ us hl => match us, hl with | [_, _, _], _ => rfl
  have g24 := PySem.W.mg_of X G a24
  have b25 := F25.binds (ps := ["table", "errors"]) fun _ _ _ _ _ _ us hl => match us, hl with | [_, _], _ => rfl
  have g25 := PySem.W.mg_of X G a25
  have b26 := F26.binds (ps := ["table", "errors", "kind", "change"]) fun _ _ _ _ _ _ us hl => match us, hl with | [_, _, _, _], _ => rfl
  have g26 := PySem.W.mg_of X G a26
  have b27 := F27.binds (ps := ["table", "day"]) fun _ _ _ _ _ _ us hl => match us, hl with | [_, _], _ => rfl
  have g27 := PySem.W.mg_of X G a27
  have b28 := F28.binds (ps := ["table", "day"]) fun _ _ _ _ _ _ us hl => match us, hl with | [_, _], _ => rfl
  have g28 := PySem.W.mg_of X G a28
  obtain ⟨ds3, v3, b29⟩ := FD29.binds1 (ps := ["table", "value", "kept"]) 3 1 (by simp) rfl (fun _ _ _ _ _ _ _ us its hl hi => match us, hl, its, hi with | [_, _, _], _, [_], _ => ⟨_, rfl, rfl⟩)
  cases v3
  obtain ⟨ds2, v2, b2_29⟩ := FD29.binds1 (ps := ["table", "value", "kept"]) 2 0 (by simp) rfl (fun _ _ _ _ _ _ _ us its hl hi => match us, hl, its, hi with | [_, _], _, [_], _ => ⟨_, rfl, rfl⟩)
  have kn2 := kbn_of (ps := ["table", "value", "kept"]) (n := 2) (ks := ["kept"]) (g := fun us ws => us ++ ws) (gV := fun vs zs => vs ++ zs) FD29 (by simp) (fun _ _ _ _ _ _ _ us its ws hu hi hw => match us, hu, its, hi, ws, hw with | [_, _], _, [_], _, [_], _ => ⟨_, rfl, rfl⟩) (fun r1 r2 => r1.append r2)
  have g29 := PySem.W.mg_of X G a29
  have b30 := F30.binds (ps := ["table", "lines"]) fun _ _ _ _ _ _ us hl => match us, hl with | [_, _], _ => rfl
  have g30 := PySem.W.mg_of X G a30
  have b31 := F31.binds (ps := ["kinds"]) fun _ _ _ _ _ _ us hl => match us, hl with | [_], _ => rfl
  have g31 := PySem.W.mg_of X G a31
  have b32 := F32.binds (ps := ["totals", "many"]) fun _ _ _ _ _ _ us hl => match us, hl with | [_, _], _ => rfl
  have g32 := PySem.W.mg_of X G a32
  have b33 := F33.binds (ps := ["script"]) fun _ _ _ _ _ _ us hl => match us, hl with | [_], _ => rfl
  have g33 := PySem.W.mg_of X G a33
  have b34 := F34.binds (ps := ["heap", "many"]) fun _ _ _ _ _ _ us hl => match us, hl with | [_, _], _ => rfl
  have g34 := PySem.W.mg_of X G a34
  have b35 := F35.binds (ps := ["heap", "some"]) fun _ _ _ _ _ _ us hl => match us, hl with | [_, _], _ => rfl
  have g35 := PySem.W.mg_of X G a35
  have b36 := F36.binds (ps := ["heap", "many"]) fun _ _ _ _ _ _ us hl => match us, hl with | [_, _], _ => rfl
  have g36 := PySem.W.mg_of X G a36
  have b37 := F37.binds (ps := ["heap", "many"]) fun _ _ _ _ _ _ us hl => match us, hl with | [_, _], _ => rfl
  have g37 := PySem.W.mg_of X G a37
  have b38 := F38.binds (ps := ["top", "bottom"]) fun _ _ _ _ _ _ us hl => match us, hl with | [_, _], _ => rfl
  have g38 := PySem.W.mg_of X G a38
  have b39 := F39.binds (ps := ["amount"]) fun _ _ _ _ _ _ us hl => match us, hl with | [_], _ => rfl
  have g39 := PySem.W.mg_of X G a39
  have b40 := F40.binds (ps := ["heap"]) fun _ _ _ _ _ _ us hl => match us, hl with | [_], _ => rfl
  have g40 := PySem.W.mg_of X G a40
  have b41 := F41.binds (ps := ["totals", "day"]) fun _ _ _ _ _ _ us hl => match us, hl with | [_, _], _ => rfl
  have g41 := PySem.W.mg_of X G a41
  have b42 := F42.binds (ps := ["lines"]) fun _ _ _ _ _ _ us hl => match us, hl with | [_], _ => rfl
  have g42 := PySem.W.mg_of X G a42
  have b43 := F43.binds (ps := ["action"]) fun _ _ _ _ _ _ us hl => match us, hl with | [_], _ => rfl
  have g43 := PySem.W.mg_of X G a43
  have b44 := F44.binds (ps := ["heap", "table", "totals", "lines"]) fun _ _ _ _ _ _ us hl => match us, hl with | [_, _, _, _], _ => rfl
  have g44 := PySem.W.mg_of X G a44
  have b45 := F45.binds (ps := ["heap", "table", "lines"]) fun _ _ _ _ _ _ us hl => match us, hl with | [_, _, _], _ => rfl
  have g45 := PySem.W.mg_of X G a45
  have b46 := F46.fun.binds (ps := ["heap"]) fun _ _ _ _ _ _ us hl => match us, hl with | [_], _ => rfl
  have g46 := PySem.W.mg_of X G a46
  have bIA := FIA.binds (ps := ["self", "at"]) fun _ _ _ _ _ _ us hl => match us, hl with | [_, _], _ => rfl
  have bID := FID.binds (ps := ["self", "at"]) fun _ _ _ _ _ _ us hl => match us, hl with | [_, _], _ => rfl
  have bIR := FIR.binds (ps := ["self", "word"]) fun _ _ _ _ _ _ us hl => match us, hl with | [_, _], _ => rfl
  have bT := FT.binds (ps := ["self", "kinds", "totals"]) fun _ _ _ _ _ _ us hl => match us, hl with | [_, _, _], _ => rfl
  have kr30 := kbinds_rev (p1 := "table") (p2 := "lines") F30 (fun _ _ _ _ _ _ _ _ => rfl) (fun _ _ _ _ _ _ _ _ => rfl) (fun _ _ _ _ _ _ _ _ => rfl)
  have y_isinstance := PySem.W.mg_none_of X G z_isinstance
  have y_int := PySem.W.mg_none_of X G z_int
  have y_bool := PySem.W.mg_none_of X G z_bool
  have y_str := PySem.W.mg_none_of X G z_str
  have y_tuple := PySem.W.mg_none_of X G z_tuple
  have y_list := PySem.W.mg_none_of X G z_list
  have y_len := PySem.W.mg_none_of X G z_len
  have y_abs := PySem.W.mg_none_of X G z_abs
  have y_range := PySem.W.mg_none_of X G z_range
  have y_zip := PySem.W.mg_none_of X G z_zip
  have y_all := PySem.W.mg_none_of X G z_all
  have y_repr := PySem.W.mg_none_of X G z_repr
  have y_enumerate := PySem.W.mg_none_of X G z_enumerate
  have y_sorted := PySem.W.mg_none_of X G z_sorted
  have y_set := PySem.W.mg_none_of X G z_set
  have gZ := PySem.W.mg_of X G aZ
  have gG := PySem.W.mg_of X G aG
  have gL := PySem.W.mg_of X G mL
  have gm1 := PySem.W.mg_of X G m1
  have gm2 := PySem.W.mg_of X G m2
  have gm3 := PySem.W.mg_of X G m3
  have gm4 := PySem.W.mg_of X G m4
  have gm5 := PySem.W.mg_of X G m5
  have gm6 := PySem.W.mg_of X G m6
  have hz : ∀ H, SqT K H zz (pV (0, 1)) := fun H => .inr ⟨_, _, _, zL, rfl, rfl, by show 2 ≤ sizeLine; decide, .cons ⟨_, rfl⟩ (.cons ⟨_, rfl⟩ .nil)⟩
  have oA : OexC K CA := ⟨⟨nmA, qA, EA, bsA, _, snA, subA, abA, colA, ddA, m0A, m1A, m2A, m3A, m5A, xLA, rfl⟩, saA, eCA, tCA, kCA⟩
  have eA : ErrC K mg "InvalidTable" CA fIA := ⟨PySem.W.mg_of X G aCA, oA, iIA, tIA⟩
  have oD : OexC K CD := ⟨⟨nmD, qD, ED, bsD, _, snD, subD, abD, colD, ddD, m0D, m1D, m2D, m3D, m5D, xLD, rfl⟩, saD, eCD, tCD, kCD⟩
  have eD : ErrC K mg "InvalidDay" CD fID := ⟨PySem.W.mg_of X G aCD, oD, iID, tID⟩
  have oR : OexC K CR := ⟨⟨nmR, qR, ER, bsR, _, snR, subR, abR, colR, ddR, m0R, m1R, m2R, m3R, m5R, xLR, rfl⟩, saR, eCR, tCR, kCR⟩
  have eR : ErrC K mg "Refused" CR fIR := ⟨PySem.W.mg_of X G aCR, oR, iIR, tIR⟩
  have kk1 : PySem.W.kitOne K (.ref CR) (.ref Ct) = some true := kit_own isE tE sTR (fun _ => rfl)
  have tDD : PySem.W.exmOne K (.ref CD) (.ref CD) = some true := PySem.W.exm_ref eCD hCD tCD sCD
  have hrd : Hrd K mg CR := ⟨⟨f43, Ct, _, F43, g43, eR.gC, PySem.W.mg_of X G aE, kk1⟩, ⟨gaR, ggR, eCR, hCR⟩, nwR, PySem.W.exm_ref eCR hCR tCR sCR, ⟨gaR, ggR, eCR, hCR, xa, xn, xt, xmR⟩, y_isinstance⟩
  have TC : TabC K CT := ⟨⟨pgT, hdT, poT, saT⟩, nkT, ntT⟩
  have gT := PySem.W.mg_of X G aT
  refine ⟨PySem.W.fnOf "law" "law" (defArgs s_law) (defBody s_law) (defScope s_law) .none kV47 dc47 pm47 an47 cd47 ct47, [(cc46, Pt46)], spLawT K [(Pt46, lamQ (("_law_large_right" : Str) ++ ".<locals>."))], ?_, ?_, ?_, fun s v => .of_eq rfl, ?_, fun base _ _ tb => ?_⟩
  · intro c m
    simp only [List.mem_cons, List.not_mem_nil, or_false] at m
    rcases m with rfl
    · exact t46
  · intro c m
    simp only [List.mem_cons, List.not_mem_nil, or_false] at m
    rcases m with rfl
    · exact n46
  · intro c m
    simp only [List.mem_cons, List.not_mem_nil, or_false] at m
    rcases m with rfl
    · exact h46
  · intro H a ns hl _ hT hS
    refine ⟨a, ns, rfl, hS, hl, ?_, fun _ => rfl⟩
    intro p m
    simp only [List.mem_cons, List.not_mem_nil, or_false] at m
    rcases m with rfl
    · exact LamX.TabS.nil (hT (cc46, Pt46) (.head _))
  have TB46 := tb (cc46, Pt46) (.head _)
  have in46 : (Pt46, lamQ (("_law_large_right" : Str) ++ ".<locals>.")) ∈ [(Pt46, lamQ (("_law_large_right" : Str) ++ ".<locals>."))] := (.head _)
  have one46 : ∀ p ∈ [(Pt46, lamQ (("_law_large_right" : Str) ++ ".<locals>."))], p.1 = Pt46 → p.2 = lamQ (("_law_large_right" : Str) ++ ".<locals>.") := by
    intro p m z
    simp only [List.mem_cons, List.not_mem_nil, or_false] at m
    rcases m with rfl
    · rfl
  generalize [(Pt46, lamQ (("_law_large_right" : Str) ++ ".<locals>."))] = T at *
  have T_is_an_integer := (ok_is_an_integer F0 y_isinstance y_int y_bool : FnOk l.prog w K mg base CX0 1 _ _ _ (spInt K))
  have C_is_an_integer : Cl l.prog w K mg base 1 "is_an_integer" (spInt K) := ⟨⟨f0, _, _, T_is_an_integer, g0, F0.kp, b0⟩⟩
  have T_is_number := (ok_is_number F1 C_is_an_integer : FnOk l.prog w K mg base CX0 2 _ _ _ (spNum K))
  have C_is_number : Cl l.prog w K mg base 2 "is_number" (spNum K) := ⟨⟨f1, _, _, T_is_number, g1, F1.kp, b1⟩⟩
  have T_is_number_below := (ok_is_number_below F2 C_is_number : FnOk l.prog w K mg base CX0 3 _ _ _ spBelow)
  have C_is_number_below : Cl l.prog w K mg base 3 "is_number_below" spBelow := ⟨⟨f2, _, _, T_is_number_below, g2, F2.kp, b2⟩⟩
  have T_are_numbers_below := (ok_are_numbers_below F6 C_is_number_below y_isinstance y_tuple y_all : FnOk l.prog w K mg base CX0 4 _ _ _ (spNumsBelow K))
  have C_are_numbers_below : Cl l.prog w K mg base 4 "are_numbers_below" (spNumsBelow K) := ⟨⟨f6, _, _, T_are_numbers_below, g6, F6.kp, b6⟩⟩
  have T_is_ascending := (ok_is_ascending F7 y_all y_zip : FnOk l.prog w K mg base CX0 1 _ _ _ (spAsc K))
  have C_is_ascending : Cl l.prog w K mg base 1 "is_ascending" (spAsc K) := ⟨⟨f7, _, _, T_is_ascending, g7, F7.kp, b7⟩⟩
  have T_is_lot_below := (ok_is_lot_below F8 C_are_numbers_below C_is_ascending : FnOk l.prog w K mg base CX0 5 _ _ _ (spLot K))
  have C_is_lot_below : Cl l.prog w K mg base 5 "is_lot_below" (spLot K) := ⟨⟨f8, _, _, T_is_lot_below, g8, F8.kp, b8⟩⟩
  have TXt : FnOk l.prog w K mg base (L2.CX l.prog w) 6 _ _ _ (spCheckTotals K) := ok_check_totals F32 C_is_lot_below gm3 eA (ok_initA FIA oA nwA) bIA y_isinstance y_tuple y_len y_enumerate
  have T_check_totals := (fn_calm TXt : FnOk l.prog w K mg base CX0 6 _ _ _ (fun vs H Q _ => spCheckTotals K vs H Q E0))
  have C_check_totals : Cl l.prog w K mg base 6 "check_totals" (fun vs H Q _ => spCheckTotals K vs H Q E0) := ⟨⟨f32, _, _, T_check_totals, g32, F32.kp, b32⟩⟩
  have T_is_name := (ok_is_name F3 ⟨_, gL⟩ gm1 y_isinstance y_str y_len y_all : FnOk l.prog w K mg base CX0 1 _ _ _ spName)
  have C_is_name : Cl l.prog w K mg base 1 "is_name" spName := ⟨⟨f3, _, _, T_is_name, g3, F3.kp, b3⟩⟩
  have T_are_names := (ok_are_names F5 C_is_name y_isinstance y_tuple y_all : FnOk l.prog w K mg base CX0 2 _ _ _ (spNames K))
  have C_are_names : Cl l.prog w K mg base 2 "are_names" (spNames K) := ⟨⟨f5, _, _, T_are_names, g5, F5.kp, b5⟩⟩
  have TXk : FnOk l.prog w K mg base (L2.CX l.prog w) 3 _ _ _ (spCheckKinds K) := ok_check_kinds F31 C_are_names C_is_ascending gm2 eA (ok_initA FIA oA nwA) bIA y_isinstance y_tuple y_len
  have T_check_kinds := (fn_calm TXk : FnOk l.prog w K mg base CX0 3 _ _ _ (fun vs H Q _ => spCheckKinds K vs H Q E0))
  have C_check_kinds : Cl l.prog w K mg base 3 "check_kinds" (fun vs H Q _ => spCheckKinds K vs H Q E0) := ⟨⟨f31, _, _, T_check_kinds, g31, F31.kp, b31⟩⟩
  have T_Table : MkT l.prog w K mg base 7 "Table" CT (spInitT K CT) := ⟨⟨fT, _, _, ⟨mkT, iT, jT, kcT⟩, ok_init_Table FT TC C_check_kinds C_check_totals y_len, gT, bT⟩⟩
  have T_is_tuple_of := (ok_is_tuple_of F4 y_isinstance y_tuple y_len : FnOk l.prog w K mg base CX0 1 _ _ _ (spTup K))
  have C_is_tuple_of : Cl l.prog w K mg base 1 "is_tuple_of" (spTup K) := ⟨⟨f4, _, _, T_is_tuple_of, g4, F4.kp, b4⟩⟩
  have TA_is_tuple_of := (ok_is_tuple_ofA F4 y_isinstance y_tuple y_len : FnOk l.prog w K mg base CX0 1 _ _ _ (spTupA K))
  have CA_is_tuple_of : Cl l.prog w K mg base 1 "is_tuple_of" (spTupA K) := ⟨⟨f4, _, _, TA_is_tuple_of, g4, F4.kp, b4⟩⟩
  have TA_is_number := (ok_is_numberA F1 C_is_an_integer : FnOk l.prog w K mg base CX0 2 _ _ _ (spNumA K))
  have CA_is_number : Cl l.prog w K mg base 2 "is_number" (spNumA K) := ⟨⟨f1, _, _, TA_is_number, g1, F1.kp, b1⟩⟩
  have TA_is_number_below := (ok_is_number_belowA F2 CA_is_number : FnOk l.prog w K mg base CX0 3 _ _ _ (spBelowA K))
  have CA_is_number_below : Cl l.prog w K mg base 3 "is_number_below" (spBelowA K) := ⟨⟨f2, _, _, TA_is_number_below, g2, F2.kp, b2⟩⟩
  have T_added := (ok_added F10 gG : FnOk l.prog w K mg base CX0 1 _ _ _ (spAdd K))
  have C_added : Cl l.prog w K mg base 1 "added" (spAdd K) := ⟨⟨f10, _, _, T_added, g10, F10.kp, b10⟩⟩
  have T_is_fraction := (ok_is_fraction F9 C_is_an_integer C_is_tuple_of gG : FnOk l.prog w K mg base CX0 2 _ _ _ (spIsFr K))
  have C_is_fraction : Cl l.prog w K mg base 2 "is_fraction" (spIsFr K) := ⟨⟨f9, _, _, T_is_fraction, g9, F9.kp, b9⟩⟩
  have T_opposite_of := (ok_opposite_of F11  : FnOk l.prog w K mg base CX0 1 _ _ _ (spOpp K))
  have C_opposite_of : Cl l.prog w K mg base 1 "opposite_of" (spOpp K) := ⟨⟨f11, _, _, T_opposite_of, g11, F11.kp, b11⟩⟩
  have T_taken := (ok_taken F12 C_added C_opposite_of : FnOk l.prog w K mg base CX0 2 _ _ _ (spTaken K))
  have C_taken : Cl l.prog w K mg base 2 "taken" (spTaken K) := ⟨⟨f12, _, _, T_taken, g12, F12.kp, b12⟩⟩
  have T_is_small := (ok_is_small F13 y_abs : FnOk l.prog w K mg base CX0 1 _ _ _ (spSmall K))
  have C_is_small : Cl l.prog w K mg base 1 "is_small" (spSmall K) := ⟨⟨f13, _, _, T_is_small, g13, F13.kp, b13⟩⟩
  have T_floor_of := (ok_floor_of F15  : FnOk l.prog w K mg base CX0 1 _ _ _ (spFloor K))
  have C_floor_of : Cl l.prog w K mg base 1 "floor_of" (spFloor K) := ⟨⟨f15, _, _, T_floor_of, g15, F15.kp, b15⟩⟩
  have T_ceiling_of := (ok_ceiling_of F16  : FnOk l.prog w K mg base CX0 1 _ _ _ (spCeil K))
  have C_ceiling_of : Cl l.prog w K mg base 1 "ceiling_of" (spCeil K) := ⟨⟨f16, _, _, T_ceiling_of, g16, F16.kp, b16⟩⟩
  have T_sum_of := (ok_sum_of F17 C_added gZ hz : FnOk l.prog w K mg base CX0 2 _ _ _ (spSumL K))
  have C_sum_of : Cl l.prog w K mg base 2 "sum_of" (spSumL K) := ⟨⟨f17, _, _, T_sum_of, g17, F17.kp, b17⟩⟩
  have T_error_of_line := (ok_error_of_line F22 C_taken : FnOk l.prog w K mg base CX0 3 _ _ _ (spErrLine K))
  have C_error_of_line : Cl l.prog w K mg base 3 "error_of_line" (spErrLine K) := ⟨⟨f22, _, _, T_error_of_line, g22, F22.kp, b22⟩⟩
  have T_are_small := (ok_are_small F14 C_is_small y_all : FnOk l.prog w K mg base CX0 2 _ _ _ (spSmalls K))
  have C_are_small : Cl l.prog w K mg base 2 "are_small" (spSmalls K) := ⟨⟨f14, _, _, T_are_small, g14, F14.kp, b14⟩⟩
  have T_no_errors := (ok_no_errors F23 TC gZ hz y_tuple : FnOk l.prog w K mg base CX0 1 _ _ _ (spNoErr K CT))
  have C_no_errors : Cl l.prog w K mg base 1 "no_errors" (spNoErr K CT) := ⟨⟨f23, _, _, T_no_errors, g23, F23.kp, b23⟩⟩
  have T_error_of_total := (ok_error_of_total F24 TC C_sum_of : FnOk l.prog w K mg base CX0 3 _ _ _ (spErrTot K CT))
  have C_error_of_total : Cl l.prog w K mg base 3 "error_of_total" (spErrTot K CT) := ⟨⟨f24, _, _, T_error_of_total, g24, F24.kp, b24⟩⟩
  have T_totals_by := (ok_totals_by F25 TC C_error_of_total y_tuple y_len y_range : FnOk l.prog w K mg base CX0 4 _ _ _ (spTotsBy K CT))
  have C_totals_by : Cl l.prog w K mg base 4 "totals_by" (spTotsBy K CT) := ⟨⟨f25, _, _, T_totals_by, g25, F25.kp, b25⟩⟩
  have T_totals_behind := (ok_totals_behind F26 TC C_added y_zip y_tuple : FnOk l.prog w K mg base CX0 2 _ _ _ (spTotBeh K CT))
  have C_totals_behind : Cl l.prog w K mg base 2 "totals_behind" (spTotBeh K CT) := ⟨⟨f26, _, _, T_totals_behind, g26, F26.kp, b26⟩⟩
  have T_course_of := (ok_course_of F27 TC gZ hz C_totals_behind C_error_of_line y_tuple : FnOk l.prog w K mg base CX0 4 _ _ _ (spCourse K CT))
  have C_course_of : Cl l.prog w K mg base 4 "course_of" (spCourse K CT) := ⟨⟨f27, _, _, T_course_of, g27, F27.kp, b27⟩⟩
  have T_first_off := (ok_first_off F28 C_course_of C_are_small y_enumerate : FnOk l.prog w K mg base CX0 5 _ _ _ (spFirst K CT))
  have C_first_off : Cl l.prog w K mg base 5 "first_off" (spFirst K CT) := ⟨⟨f28, _, _, T_first_off, g28, F28.kp, b28⟩⟩
  have T_is_amount := (ok_is_amount F18 C_is_fraction gm4 y_abs : FnOk l.prog w K mg base CX0 3 _ _ _ (spAmt K))
  have C_is_amount : Cl l.prog w K mg base 3 "is_amount" (spAmt K) := ⟨⟨f18, _, _, T_is_amount, g18, F18.kp, b18⟩⟩
  have T_choices := (ok_choices F19 C_floor_of C_ceiling_of : FnOk l.prog w K mg base CX0 2 _ _ _ (spCho K))
  have C_choices : Cl l.prog w K mg base 2 "choices" (spCho K) := ⟨⟨f19, _, _, T_choices, g19, F19.kp, b19⟩⟩
  have T_is_rounded_line := (ok_is_rounded_line F20 TC CA_is_tuple_of CA_is_number_below C_is_amount C_is_an_integer C_choices y_len : FnOk l.prog w K mg base CX0 4 _ _ _ (spRounded K CT))
  have C_is_rounded_line : Cl l.prog w K mg base 4 "is_rounded_line" (spRounded K CT) := ⟨⟨f20, _, _, T_is_rounded_line, g20, F20.kp, b20⟩⟩
  have TX_check_day : FnOk l.prog w K mg base (L2.CX l.prog w) 5 _ _ _ (spChk K CT CD dayFault) := ok_check_day F21 C_is_rounded_line gm5 eD (ok_initD FID oD nwD) bID y_isinstance y_tuple y_len y_enumerate
  have X_check_day : ClX l.prog w K mg base 5 "check_day" (spChk K CT CD dayFault) := ⟨⟨f21, _, _, TX_check_day, g21, F21.kp, b21⟩⟩
  have T_is_day := (ok_is_day F29 X_check_day eD.gC tDD C_first_off : FnOk l.prog w K mg base CX0 7 _ _ _ (spIsDay K CT))
  have C_is_day : Cl l.prog w K mg base 7 "is_day" (spIsDay K CT) := ⟨⟨f29, _, _, T_is_day, g29, FD29.kp, b29⟩⟩
  have Cd_is_day : C8.Cal l.prog w K mg base 7 "is_day" (spIsDay K CT) [.bl true] := ⟨⟨f29, _, _, _, T_is_day, g29, FD29.kp, b2_29, v2⟩⟩
  have CN_is_day : ClN l.prog w K mg base 7 "is_day" 2 ["kept"] (fun vs zs => vs ++ zs) (spIsDay K CT) := ⟨⟨f29, _, _, _, T_is_day, g29, FD29.kp, kn2⟩⟩
  have iR := (ok_initR FIR oR nwR : FnOk l.prog w K mg base CX0 1 _ _ _ (spInitW K CR "word"))
  have TX_kept_days : FnOk l.prog w K mg base (L2.CX l.prog w) 5 _ _ _ (spKept K CT CR) := ok_kept_days F30 C_no_errors C_totals_by C_choices C_totals_behind C_error_of_line C_are_small gm6 eR iR bIR y_tuple y_len
  have X_kept_days : ClX l.prog w K mg base 5 "kept_days" (spKept K CT CR) := ⟨⟨f30, _, _, TX_kept_days, g30, F30.kp, b30⟩⟩
  have XR_kept_days : ClXR l.prog w K mg base 5 "kept_days" ["lines", "table"] (spKept K CT CR) := ⟨⟨f30, _, _, TX_kept_days, g30, F30.kp, kr30⟩⟩
  have T_kept_days := (fn_calm TX_kept_days : FnOk l.prog w K mg base CX0 5 _ _ _ (fun vs H Q _ => spKept K CT CR vs H Q E0))
  have C_kept_days : Cl l.prog w K mg base 5 "kept_days" (fun vs H Q _ => spKept K CT CR vs H Q E0) := ⟨⟨f30, _, _, T_kept_days, g30, F30.kp, b30⟩⟩
  have CR_kept_days : ClR l.prog w K mg base 5 "kept_days" ["lines", "table"] (fun vs H Q _ => spKept K CT CR vs H Q E0) := ⟨⟨f30, _, _, T_kept_days, g30, F30.kp, kr30⟩⟩
  have T__law_heap := (ok__law_heapF F33 y_int y_abs : FnOk l.prog w K mg base CX0 1 _ _ _ (spHeapF K))
  have C__law_heap : Cl l.prog w K mg base 1 "_law_heap" (spHeapF K) := ⟨⟨f33, _, _, T__law_heap, g33, F33.kp, b33⟩⟩
  have T__law_draw := (ok__law_draw F34 y_int : FnOk l.prog w K mg base CX0 1 _ _ _ spDraw)
  have C__law_draw : Cl l.prog w K mg base 1 "_law_draw" spDraw := ⟨⟨f34, _, _, T__law_draw, g34, F34.kp, b34⟩⟩
  have T__law_pick := (ok__law_pick F35 C__law_draw y_len : FnOk l.prog w K mg base CX0 2 _ _ _ (spPick K))
  have C__law_pick : Cl l.prog w K mg base 2 "_law_pick" (spPick K) := ⟨⟨f35, _, _, T__law_pick, g35, F35.kp, b35⟩⟩
  have T__law_names := (ok__law_names F36 C__law_draw C__law_pick y_int y_range y_tuple y_sorted : FnOk l.prog w K mg base CX0 3 _ _ _ (spLawNames K))
  have C__law_names : Cl l.prog w K mg base 3 "_law_names" (spLawNames K) := ⟨⟨f36, _, _, T__law_names, g36, F36.kp, b36⟩⟩
  have T__law_totals := (ok__law_totals F37 C__law_draw C__law_pick y_int y_range y_tuple y_list : FnOk l.prog w K mg base CX0 3 _ _ _ (spLawTots9 K))
  have C__law_totals : Cl l.prog w K mg base 3 "_law_totals" (spLawTots9 K) := ⟨⟨f37, _, _, T__law_totals, g37, F37.kp, b37⟩⟩
  have T__law_fraction := (ok__law_fraction F38 y_int y_abs y_range : FnOk l.prog w K mg base CX0 1 _ _ _ spFr9)
  have C__law_fraction : Cl l.prog w K mg base 1 "_law_fraction" spFr9 := ⟨⟨f38, _, _, T__law_fraction, g38, F38.kp, b38⟩⟩
  have T__law_choices := (ok__law_choices F39 y_int : FnOk l.prog w K mg base CX0 1 _ _ _ (spLawCho K))
  have C__law_choices : Cl l.prog w K mg base 1 "_law_choices" (spLawCho K) := ⟨⟨f39, _, _, T__law_choices, g39, F39.kp, b39⟩⟩
  have T__law_amount := (ok__law_amount F40 C__law_draw C__law_pick C__law_fraction : FnOk l.prog w K mg base CX0 3 _ _ _ (spAmtK K))
  have C__law_amount : Cl l.prog w K mg base 3 "_law_amount" (spAmtK K) := ⟨⟨f40, _, _, T__law_amount, g40, F40.kp, b40⟩⟩
  have T__law_kept := (ok__law_kept F41 y_int y_range y_len y_all : FnOk l.prog w K mg base CX0 1 _ _ _ (spLawKept K))
  have C__law_kept : Cl l.prog w K mg base 1 "_law_kept" (spLawKept K) := ⟨⟨f41, _, _, T__law_kept, g41, F41.kp, b41⟩⟩
  have T__law_roundings := (ok__law_roundings F42 C__law_choices : FnOk l.prog w K mg base CX0 2 _ _ _ (spRnd K))
  have C__law_roundings : Cl l.prog w K mg base 2 "_law_roundings" (spRnd K) := ⟨⟨f42, _, _, T__law_roundings, g42, F42.kp, b42⟩⟩
  have G__law_right : ClG l.prog w K mg base 9 "_law_right" (spRightK K CT) := ⟨⟨f44, _, _, ok__law_right F44 C__law_roundings C__law_kept C__law_pick C_kept_days CR_kept_days Cd_is_day CN_is_day y_repr y_tuple y_range y_list y_all, g44, F44.kp, b44⟩⟩
  have T__law_turned_right := (ok__law_turned_right F45 C__law_draw C_kept_days y_tuple y_sorted y_zip : FnOk l.prog w K mg base CX0 9 _ _ _ (spTurned K CT))
  have C__law_turned_right : Cl l.prog w K mg base 9 "_law_turned_right" (spTurned K CT) := ⟨⟨f45, _, _, T__law_turned_right, g45, F45.kp, b45⟩⟩
  have G__law_large_right : ClG l.prog w K mg base 15 "_law_large_right" (spLong K T) := ⟨⟨f46, _, _, ok__law_large_right LS F46 T_Table hrd TB46 in46 one46  C__law_draw C__law_kept C_kept_days X_kept_days y_len y_set y_all, g46, F46.fun.kp, b46⟩⟩
  exact ok_law F47 T_Table C__law_heap C__law_draw C__law_pick C__law_names C__law_totals C__law_amount G__law_right C__law_turned_right G__law_large_right C_kept_days y_len y_int y_range y_tuple
end K10
open PySem PySem.W PyProof.Rows
set_option maxHeartbeats 0 in
theorem PySem.Challenge.cw_centsatonce_k10_whole_kept_days_of_told_holds : PySem.Challenge.rw_centsatonce_k10_whole_kept_days_of_told.Holds := by
  w_on; o_law; k_head; (case hw => w_witness2)
  k_fill
  refine VG.walk_GT (l := PySem.Challenge.rw_centsatonce_k10_whole_kept_days_of_told) (n := 63) (k := 17) (x := "script") rfl (by decide) rfl ⟨rfl, by decide, by decide⟩ (fun w h Y => PySem.W.km_in_of Y) ?F
  case F =>
    intro w mg fa h Y KX G hmg
    refine' K10.all_mk CK.lenSetD KX G hmg ?a0 ?l0 ?c0 ?k0 ?a1 ?l1 ?c1 ?k1 ?a2 ?l2 ?c2 ?k2 ?a3 ?l3 ?c3 ?k3 ?a4 ?l4 ?c4 ?k4 ?a5 ?l5 ?c5 ?k5 ?a6 ?l6 ?c6 ?k6 ?a7 ?l7 ?c7 ?k7 ?a8 ?l8 ?c8 ?k8 ?a9 ?l9 ?c9 ?k9 ?a10 ?l10 ?c10 ?k10 ?a11 ?l11 ?c11 ?k11 ?a12 ?l12 ?c12 ?k12 ?a13 ?l13 ?c13 ?k13 ?a14 ?l14 ?c14 ?k14 ?a15 ?l15 ?c15 ?k15 ?a16 ?l16 ?c16 ?k16 ?a17 ?l17 ?c17 ?k17 ?a18 ?l18 ?c18 ?k18 ?a19 ?l19 ?c19 ?k19 ?a20 ?l20 ?c20 ?k20 ?a21 ?l21 ?c21 ?k21 ?a22 ?l22 ?c22 ?k22 ?a23 ?l23 ?c23 ?k23 ?a24 ?l24 ?c24 ?k24 ?a25 ?l25 ?c25 ?k25 ?a26 ?l26 ?c26 ?k26 ?a27 ?l27 ?c27 ?k27 ?a28 ?l28 ?c28 ?k28 ?a29 ?l29 ?c29 ?k29 ?a30 ?l30 ?c30 ?k30 ?a31 ?l31 ?c31 ?k31 ?a32 ?l32 ?c32 ?k32 ?a33 ?l33 ?c33 ?k33 ?a34 ?l34 ?c34 ?k34 ?a35 ?l35 ?c35 ?k35 ?a36 ?l36 ?c36 ?k36 ?a37 ?l37 ?c37 ?k37 ?a38 ?l38 ?c38 ?k38 ?a39 ?l39 ?c39 ?k39 ?a40 ?l40 ?c40 ?k40 ?a41 ?l41 ?c41 ?k41 ?a42 ?l42 ?c42 ?k42 ?a43 ?l43 ?c43 ?k43 ?a44 ?l44 ?c44 ?k44 ?a45 ?l45 ?c45 ?k45 ?a46 ?l46 ?c46 ?k46 ?a47 ?l47 ?c47 ?k47 ?lTD ?x46 ?p46 ?h46 ?t46 ?n46 ?aCA ?xLA ?saA ?nwA ?iIA ?tIA ?lIA ?cIA ?kIA ?kCA ?eCA ?tCA ?aCD ?xLD ?saD ?nwD ?iID ?tID ?lID ?cID ?kID ?kCD ?eCD ?tCD ?aCR ?xLR ?saR ?nwR ?iIR ?tIR ?lIR ?cIR ?kIR ?kCR ?eCR ?tCR ?aE ?xa ?xn ?xt ?isE ?tE ?sCD ?hCD ?gaR ?ggR ?hCR ?sCR ?xmR ?sTR ?aT ?iT ?jT ?lT ?cT ?kT ?pgT ?hdT ?poT ?saT ?mkT ?kcT ?nkT ?ntT ?mL ?m1 ?m2 ?m3 ?m4 ?m5 ?m6 ?aZ ?zL ?aG ?z_isinstance ?z_int ?z_bool ?z_str ?z_tuple ?z_list ?z_len ?z_abs ?z_range ?z_zip ?z_all ?z_repr ?z_enumerate ?z_sorted ?z_set
    (case a0 => k_is); (case l0 => k_is); (case c0 => k_is); (case k0 => k_is); (case a1 => k_is); (case l1 => k_is); (case c1 => k_is); (case k1 => k_is); (case a2 => k_is); (case l2 => k_is); (case c2 => k_is); (case k2 => k_is); (case a3 => k_is); (case l3 => k_is); (case c3 => k_is); (case k3 => k_is); (case a4 => k_is); (case l4 => k_is); (case c4 => k_is); (case k4 => k_is); (case a5 => k_is); (case l5 => k_is); (case c5 => k_is); (case k5 => k_is); (case a6 => k_is); (case l6 => k_is); (case c6 => k_is); (case k6 => k_is); (case a7 => k_is); (case l7 => k_is); (case c7 => k_is); (case k7 => k_is); (case a8 => k_is); (case l8 => k_is); (case c8 => k_is); (case k8 => k_is); (case a9 => k_is); (case l9 => k_is); (case c9 => k_is); (case k9 => k_is); (case a10 => k_is); (case l10 => k_is); (case c10 => k_is); (case k10 => k_is); (case a11 => k_is); (case l11 => k_is); (case c11 => k_is); (case k11 => k_is); (case a12 => k_is); (case l12 => k_is); (case c12 => k_is); (case k12 => k_is); (case a13 => k_is); (case l13 => k_is); (case c13 => k_is); (case k13 => k_is); (case a14 => k_is); (case l14 => k_is); (case c14 => k_is); (case k14 => k_is); (case a15 => k_is); (case l15 => k_is); (case c15 => k_is); (case k15 => k_is); (case a16 => k_is); (case l16 => k_is); (case c16 => k_is); (case k16 => k_is); (case a17 => k_is); (case l17 => k_is); (case c17 => k_is); (case k17 => k_is); (case a18 => k_is); (case l18 => k_is); (case c18 => k_is); (case k18 => k_is); (case a19 => k_is); (case l19 => k_is); (case c19 => k_is); (case k19 => k_is); (case a20 => k_is); (case l20 => k_is); (case c20 => k_is); (case k20 => k_is); (case a21 => k_is); (case l21 => k_is); (case c21 => k_is); (case k21 => k_is); (case a22 => k_is); (case l22 => k_is); (case c22 => k_is); (case k22 => k_is); (case a23 => k_is); (case l23 => k_is); (case c23 => k_is); (case k23 => k_is); (case a24 => k_is); (case l24 => k_is); (case c24 => k_is); (case k24 => k_is); (case a25 => k_is); (case l25 => k_is); (case c25 => k_is); (case k25 => k_is); (case a26 => k_is); (case l26 => k_is); (case c26 => k_is); (case k26 => k_is); (case a27 => k_is); (case l27 => k_is); (case c27 => k_is); (case k27 => k_is); (case a28 => k_is); (case l28 => k_is); (case c28 => k_is); (case k28 => k_is); (case a29 => k_is); (case l29 => k_is); (case c29 => k_is); (case k29 => k_is); (case a30 => k_is); (case l30 => k_is); (case c30 => k_is); (case k30 => k_is); (case a31 => k_is); (case l31 => k_is); (case c31 => k_is); (case k31 => k_is); (case a32 => k_is); (case l32 => k_is); (case c32 => k_is); (case k32 => k_is); (case a33 => k_is); (case l33 => k_is); (case c33 => k_is); (case k33 => k_is); (case a34 => k_is); (case l34 => k_is); (case c34 => k_is); (case k34 => k_is); (case a35 => k_is); (case l35 => k_is); (case c35 => k_is); (case k35 => k_is); (case a36 => k_is); (case l36 => k_is); (case c36 => k_is); (case k36 => k_is); (case a37 => k_is); (case l37 => k_is); (case c37 => k_is); (case k37 => k_is); (case a38 => k_is); (case l38 => k_is); (case c38 => k_is); (case k38 => k_is); (case a39 => k_is); (case l39 => k_is); (case c39 => k_is); (case k39 => k_is); (case a40 => k_is); (case l40 => k_is); (case c40 => k_is); (case k40 => k_is); (case a41 => k_is); (case l41 => k_is); (case c41 => k_is); (case k41 => k_is); (case a42 => k_is); (case l42 => k_is); (case c42 => k_is); (case k42 => k_is); (case a43 => k_is); (case l43 => k_is); (case c43 => k_is); (case k43 => k_is); (case a44 => k_is); (case l44 => k_is); (case c44 => k_is); (case k44 => k_is); (case a45 => k_is); (case l45 => k_is); (case c45 => k_is); (case k45 => k_is); (case a46 => k_is); (case l46 => k_is); (case c46 => k_is); (case k46 => k_is); (case a47 => k_is); (case l47 => k_is); (case c47 => k_is); (case k47 => k_is); (case lTD => k_is); (case aCA => k_is); (case xLA => k_is); (case saA => k_is); (case nwA => k_is); (case iIA => k_is); (case tIA => k_is); (case lIA => k_is); (case cIA => k_is); (case kIA => k_is); (case kCA => k_is); (case eCA => k_is); (case tCA => k_is); (case aCD => k_is); (case xLD => k_is); (case saD => k_is); (case nwD => k_is); (case iID => k_is); (case tID => k_is); (case lID => k_is); (case cID => k_is); (case kID => k_is); (case kCD => k_is); (case eCD => k_is); (case tCD => k_is); (case aCR => k_is); (case xLR => k_is); (case saR => k_is); (case nwR => k_is); (case iIR => k_is); (case tIR => k_is); (case lIR => k_is); (case cIR => k_is); (case kIR => k_is); (case kCR => k_is); (case eCR => k_is); (case tCR => k_is); (case aE => k_is); (case xa => k_is); (case xn => k_is); (case xt => k_is); (case isE => k_is); (case tE => k_is); (case sCD => first | rfl | k_is); (case hCD => k_is); (case gaR => k_is); (case ggR => k_is); (case hCR => k_is); (case sCR => first | rfl | k_is); (case xmR => k_is); (case sTR => k_is); (case aT => k_is); (case iT => k_is); (case jT => k_is); (case lT => k_is); (case cT => k_is); (case kT => k_is); (case pgT => k_is); (case hdT => k_is); (case poT => k_is); (case saT => k_is); (case mkT => k_is); (case kcT => k_is); (case nkT => k_is); (case ntT => k_is); (case mL => k_is); (case m1 => k_is); (case m2 => k_is); (case m3 => k_is); (case m4 => k_is); (case m5 => k_is); (case m6 => k_is); (case aZ => k_is); (case zL => k_is); (case aG => k_is); (case z_isinstance => k_is); (case z_int => k_is); (case z_bool => k_is); (case z_str => k_is); (case z_tuple => k_is); (case z_list => k_is); (case z_len => k_is); (case z_abs => k_is); (case z_range => k_is); (case z_zip => k_is); (case z_all => k_is); (case z_repr => k_is); (case z_enumerate => k_is); (case z_sorted => k_is); (case z_set => k_is); (case x46 => k_is); (case p46 => rfl); (case h46 => exact PySem.W.codeHd_of_K KX (by kernel_rfl)); (case t46 => exact PySem.W.km_tabs_of Y _ (by k_mem)); (case n46 => kernel_rfl)
