import PyProof.Rows.All
import Wide.All
import OpenK.AllK
import Wide.FinOn
import PyProof.ReprReads
import PyProof.ReprRoads
import PyProof.StrOps2
import HandS.ForMost
import HandS.Walk
import HandS.Style
import HandS.TupAny
import HandS.EndBits
import HandS.IsInst
import HandS.Gcd
import HandS.Wide
import HandS.Zip
import HandS.ForExc
import HandS.ExcInit
import KE.KExcIs
import HandS.ExcIs
import HandS.ExcField
import HandS.Deep
import HandS.FStrTup
import KE.GoesEnum
import HandS.Iter
import HandS.Dict
import HandS.SetKeys
import PyProof.DictMoreH
import KE.KDictWalk
import HandS.SetFor
import HandS.Strs
import HandS.Conv
import HandS.TupMul
import HandS.DictComp
import HandS.RevRange
import PyProof.WalksMore
import HandS.RaiseMore
import HandS.Flow
import HandS.EndTab
import PyProof.ReprLen
import HandS.TupSets
import HandS.TupLe
import HandS.SortOrd
import PyProof.SetRoads
import HandS.List
import PyProof.Rows.SortStr
import HandS.OwnEq
import KE.KLam
import PySem.Challenge.RW_centsatonce_k03_whole_classes_and_tables
set_option Elab.async false
set_option linter.all false
set_option maxRecDepth 100000
set_option maxHeartbeats 8000000
set_option exponentiation.threshold 10000
namespace VG
open PySem PySem.Spec PyProof.Rows L2
structure FnG (P : Program) (w : World) (K : PySem.W.Frag) (mg : Str → Option Value) (base : Heap) (k : Nat) (f : Addr) (fd : FuncData) (ps : List Str) (sp : Sp) : Prop where
  len : ∀ vs H Q E, sp vs H Q E → vs.length = ps.length
  run : ∀ (A : Around) (outer : List Env) (s : Shared) (H : Hp) (args : Args) (us : List Value) (vs : List V) (Q : VK) (E : XK),
    A.guards = some [] → Room k A → Env0 P w K mg base A outer s H → BindsTo s fd args (ps.zip us) → Vals vs us → sp vs H Q E →
    codeAny (model P w) A (.call (.ref f) args) (CR CX0 outer P w H s Q E) s
section
variable {P : Program} {w : World} {K : PySem.W.Frag} {mg : Str → Option Value} {base : Heap}
theorem fnG_of {k : Nat} {f : Addr} {x qual : Str} {st : Stmt} {fd : FuncData} {N ps : List Str} {sp : Sp} (F : Fun K x qual st f fd) (S : FnScope N ps (defScope st))
    (hlen : ∀ vs H Q E, sp vs H Q E → vs.length = ps.length)
    (hb : ∀ (cdv : Value) (A : Around) (outer : List Env) (s : Shared) (H : Hp) (vs : List V) (Q : VK) (E : XK), A.guards = some [] →
      Room k (A.deeper (envOfC qual (defScope st) s.heap.objs.size f cdv)) → sp vs H Q E →
      ∃ t, PSs (cxOf CX0 P w K mg base N qual (defScope st) f cdv A outer s H E).nox (defBody st) t ∧ t { nx := fun _ H' => Q .non H', rt := Q } (start N vs) H) :
    FnG P w K mg base (k + 1) f fd ps sp := by
  obtain ⟨oc, od, kV, doc, pm, an, cdv, ct, osl, rfl, lk, hcd⟩ := F.ex
  constructor
  · exact hlen
  · intro A outer s H args us vs Q E hg hr e0 hbi r hsp
    have nl := hlen _ _ _ _ hsp
    have inK : K.In s.heap := e0.mod.kin.keeps fun b o z => (e0.bs b o z).1
    have noL : s.heap.NoLimit := e0.mod.nolimit.keeps fun b o z => (e0.bs b o z).1
    have kinds : ∀ y ∈ ps.zip us, (defScope st).names.lookup y.1 = some .local ∨
        ((defScope st).names.lookup y.1 = some .cell ∧ ((cellsFrom (s.heap.objs.size + 1) (defScope st).names []).lookup y.1).isSome = true) := by
      intro y hy
      obtain ⟨n, v⟩ := y
      cases S.par n (List.of_mem_zip hy).1 with
      | inl q => exact Or.inl q
      | inr q => exact Or.inr ⟨q, PySem.W.cellsFrom_some _ _ _ (.inl q)⟩
    apply codeAny_call_function hr.depth (inK _ _ lk) rfl S.co S.gen rfl (PySem.W.codeRec_of inK hcd) (hbi _ _ _ _ _)
    apply wpAny_newFunctionEnv_cells S.kind kinds
    intro env he s1 xx
    subst he
    refine And.intro (noL.keeps xx.toInCall.keep) (codeAny_func ?_)
    obtain ⟨t, ht, hq⟩ := hb cdv A outer s H vs Q E hg (hr.deeper _) hsp
    have I := inv_start (CX := CX0) (P := P) (w := w) (E := E) S hr.hd e0 nl r xx
    apply wpAny_mono (ht.nox.run [] s1 (start N vs) H _ I hq)
    · intro fl s' hs
      cases fl with
      | ret u =>
        obtain ⟨v, σ', H', J, rv, q⟩ := hs
        exact ⟨v, H', J.os, J.bare, J.base, J.hok, rv, q⟩
      | next =>
        obtain ⟨σ', H', J, q⟩ := hs
        exact ⟨V.non, H', J.os, J.bare, J.base, J.hok, rfl, q⟩
      | brk =>
        obtain ⟨_, _, _, q⟩ := hs
        exact False.elim q
      | cont =>
        obtain ⟨_, _, _, q⟩ := hs
        exact False.elim q
    · intro e s' hs
      exact hs
end
end VG
namespace VG
open PySem PySem.Spec PyProof.Rows L2
section
variable {X : Cx} {st : Stmt} {rest : List Stmt} {t u : TS}
def tCut (t u : TS) : TS := fun D σ H => ∃ J : L2.St → Hp → Prop, t { D with nx := J } σ H ∧ ∀ σ' H', J σ' H' → u D σ' H'
theorem pss_cut (h1 : PS X st t) (h2 : PSs X rest u) : PSs X (st :: rest) (tCut t u) := by
  constructor
  intro pins s σ H D I h
  obtain ⟨J, a, b⟩ := h
  apply wpAny_execs_cons
  apply thn (h1.run pins s σ H { D with nx := J } I a)
  intro f s1 q
  cases f with
  | next =>
    obtain ⟨σ', H', I', q⟩ := q
    exact h2.run pins s1 σ' H' D I' (b σ' H' q)
  | ret v => exact q
  | brk => exact q
  | cont => exact q
end
section
variable {X : Cx} {e : Expr} {c : TT} {te : TE}
def tMeetE (te : TE) : TE := fun σ H Q => ∃ J : V → Hp → Prop, te σ H J ∧ ∀ v H', J v H' → Q v H'
theorem pe_meet (h : PE X e te) : PE X e (tMeetE te) := by
  constructor
  intro pins s σ H Q I hh
  obtain ⟨J, a, b⟩ := hh
  apply thn (h.run pins s σ H J I a)
  intro d s1 q
  obtain ⟨v, H', I', r, q⟩ := q
  exact ⟨v, H', I', r, b _ _ q⟩
end
structure Cl (P : Program) (w : World) (K : PySem.W.Frag) (mg : Str → Option Value) (base : Heap) (k : Nat) (x : Str) (sp : Sp) : Prop where
  ex : ∃ (f : Addr) (fd : FuncData) (ps : List Str), FnOk P w K mg base CX0 k f fd ps sp ∧ mg x = some (.ref f) ∧ PySem.W.keepIn K (.ref f) = true ∧ Binds K fd ps []
section
variable {X : Cx} {k j : Nat} {x : Str} {sp : Sp} {p pos : Pos} {e : Expr} {es : List Expr} {t : TA}
theorem pe_cl (c : Cl X.prog X.w X.K X.mg X.base k x sp) (hr : Room j X.A) (hk : k ≤ j) (hg : Gl X x) (ha : PA X (e :: es) t)
    (h1 : (x == ("__debug__" : Str)) = false := by decide) (h2 : starEach (e :: es) X.env = (false, eval e X.env) :: starEach es X.env := by rfl)
    (h3 : (backTo pos (starEach es X.env)).any (·.1) = false := by rfl) : PE X (.Call (.Name x p) (e :: es) [] pos) (tCall sp [] E0 t) :=
  let ⟨_, _, _, F, m, kp, b⟩ := c.ex
  pe_call F (hr.mono hk) hg m kp b .nil pass0 ha h1 h2 h3
/-- a module's name that holds a text -/
theorem pe_gs {z : Str} (hg : Gl X x) (h : ∃ u, X.mg x = some (.str z u)) (h1 : (x == ("__debug__" : Str)) = false := by decide) :
    PE X (.Name x pos) (tC (.str z)) := by
  obtain ⟨u, m⟩ := h
  exact pe_glob (v := .str z) hg m ⟨u, rfl⟩ h1
/-- repr of data, where no repr is under way -/
def rRepr (K : PySem.W.Frag) : List V → Hp → VK → Prop := fun xs H Q =>
  ∃ a d, xs = [.ref a] ∧ Dp K H (.ref a) d ∧ d.showable = true ∧ d.hasDict = false ∧ d.depth ≤ 60 ∧ d.shown.length ≤ sizeLine ∧ Q (.str d.shown) H
theorem cr_repr (hg : X.A.guards = some []) (hu : X.A.units + 64 < cLine) : CallR X (.builtin "repr") (rRepr X.K) := by
  intro pins s σ H vs us Q I r h
  obtain ⟨a, d, rfl, hd, h1, h2, h3, h4, q⟩ := h
  rw [Vals.ref1 r]
  obtain ⟨as, rd⟩ := Dp.reads I d (.ref a) (.ref a) hd rfl
  refine repr_of_reads' rd h1 (PyData.noDict_hsm h2) hg (by omega) (fun _ _ z => z) (fun h' u tk hk => ?_) h4
  exact ⟨.str d.shown, H, I.kept hk, ⟨u, rfl⟩, q⟩
end
end VG
namespace VG
open PySem PySem.Spec PyProof.Rows L2
structure ClK (P : Program) (w : World) (K : PySem.W.Frag) (mg : Str → Option Value) (base : Heap) (k : Nat) (x : Str) (ks : List Str) (sp : Sp) : Prop where
  ex : ∃ (f : Addr) (fd : FuncData) (ps : List Str), FnOk P w K mg base CX0 k f fd ps sp ∧ mg x = some (.ref f) ∧ PySem.W.keepIn K (.ref f) = true ∧ KBinds K fd ps ks (fun us ws => us ++ ws) (fun vs zs => vs ++ zs)
section
variable {X : Cx} {k j : Nat} {x : Str} {sp : Sp} {p pos : Pos} {kws : List Keyword} {ks : List Str} {tk : TA}
def tCallK0 (sp : Sp) (tk : TA) : TE := fun σ H Q => tk σ H fun zs H2 => sp zs H2 Q E0
theorem pe_clk0 (c : ClK X.prog X.w X.K X.mg X.base k x ks sp) (hr : Room j X.A) (hk : k ≤ j) (hg : Gl X x) (hkw : PK X kws tk)
    (h1 : (backToKw pos (keywordEach kws X.env)).all (·.1.isSome) = true := by rfl) (h2 : (backToKw pos (keywordEach kws X.env)).filterMap (·.1) = ks := by rfl)
    (h3 : (x == ("__debug__" : Str)) = false := by decide) (h4 : ((backTo pos (starEach [] X.env)).any (·.1) || (backToKw pos (keywordEach kws X.env)).any (·.1.isNone)) = false := by rfl) :
    PE X (.Call (.Name x p) [] kws pos) (tCallK0 sp tk) := by
  obtain ⟨f, fd, ps, F, m, kp, b⟩ := c.ex
  constructor
  intro pins s σ H Q I h
  apply wpAny_Call_Name_kw
  apply ld_glob I hg m _ h3
  apply PySem.W.callWith_KW0 (h₀ := X.base) I.ok.mod.kin kp h1 _ h4
  apply thn (hkw.run pos pins s σ H _ I h)
  intro ws s2 hh
  obtain ⟨zs, H2, I2, rz, q2⟩ := hh
  refine And.intro I2.kIn ?_
  rw [h2]
  exact run_fnk (us := []) (vs := []) F (hr.mono hk) b pass0 I2 .nil rz q2
end
section
variable {P : Program} {w : World} {K : PySem.W.Frag} {mg : Str → Option Value} {base : Heap}
/-- one parameter, given by position or by its name -/
theorem kbinds_one {x qual p : Str} {st : Stmt} {f : Addr} {fd : FuncData} (F : Fun K x qual st f fd)
    (h1 : ∀ (kV doc pm : Value) (an : Option Addr) (cdv ct u : Value), bindArgs (PySem.W.fnOf x qual (defArgs st) (defBody st) (defScope st) .none kV doc pm an cdv ct) ⟨[u], []⟩ = pure [(p, u)])
    (h2 : ∀ (kV doc pm : Value) (an : Option Addr) (cdv ct u : Value), bindArgs (PySem.W.fnOf x qual (defArgs st) (defBody st) (defScope st) .none kV doc pm an cdv ct) ⟨[], [(p, u)]⟩ = pure [(p, u)]) :
    KBinds K fd [p] [p] (fun us ws => us ++ ws) (fun vs zs => vs ++ zs) := by
  obtain ⟨oc, od, kV, doc, pm, an, cdv, ct, osl, rfl, lk, hcd⟩ := F.ex
  constructor
  · intro s us ws _ hl
    match us, ws, hl with
    | [u], [], _ => exact .of_eq (h1 kV doc pm an cdv ct u)
    | [], [u], _ => exact .of_eq (h2 kV doc pm an cdv ct u)
    | [], [], hl => cases hl
    | [], _ :: _ :: _, hl => cases hl
    | [_], _ :: _, hl => cases hl
    | _ :: _ :: _, ws, hl =>
      simp at hl
  · intro vs us zs ws r1 r2
    exact r1.append r2
end
end VG
namespace M2
def g (a b : Int) : Nat := Nat.gcd a.natAbs b.natAbs
/-- bottom above 0, no common divisor -/
def Low (a b : Int) : Prop := 0 < b ∧ g a b = 1
theorem Low.pos {a b : Int} (h : Low a b) : 0 < b := h.1
/-- fraction_of of the text, for a bottom that is not 0 -/
def mk (a b : Int) : Int × Int :=
  let s : Int := if b < 0 then -(g a b : Int) else (g a b : Int)
  (a.fdiv s, b.fdiv s)
/-- added of the text -/
def add (p q : Int × Int) : Int × Int :=
  let s : Int := g p.2 q.2
  let rest := p.2 / s
  let high := p.1 * (q.2 / s) + q.1 * rest
  let common : Int := g high s
  (high / common, rest * (q.2 / common))
end M2
namespace FR
open PySem PySem.Spec PyProof.Rows L2 VG
abbrev Q2 := Int × Int
def pV (p : Q2) : List V := [.int p.1, .int p.2]
def Bt (n : Nat) (p : Q2) : Prop := p.1.natAbs < 2 ^ n ∧ p.2.natAbs < 2 ^ n
theorem Bt.mono {m n : Nat} {p : Q2} (h : Bt m p) (hm : m ≤ n) : Bt n p := ⟨Nat.lt_of_lt_of_le h.1 (Nat.pow_le_pow_right (by decide) hm), Nat.lt_of_lt_of_le h.2 (Nat.pow_le_pow_right (by decide) hm)⟩
theorem same_upd {H : Hp} {p : Addr} {o : HO} (h : H p = none) : Same H (upd H p o) := fun b x e => by
  rw [upd_ne (ne_of_none e h)]
  exact e
theorem seqT {K : PySem.W.Frag} {H H' : Hp} {a : Addr} {xs : List V} (e : Same H H') (h : SqT K H a xs) : SqT K H' a xs := by
  rcases h with (h | ⟨o, h⟩) | h
  · exact .inl (.inl (e _ _ h))
  · exact .inl (.inr ⟨o, e _ _ h⟩)
  · exact .inr h
theorem tyT {K : PySem.W.Frag} {H : Hp} {a : Addr} {xs : List V} (h : SqT K H a xs) : TyX K H (.ref a) (.type "tuple") := by
  rcases h with (h | ⟨o, h⟩) | ⟨o, its, n, h1, h2, h3⟩
  · exact .base (.tup h)
  · exact .fTuple h
  · exact .kTuple h1 h2
theorem kb1 {K : PySem.W.Frag} : PySem.W.kitOne K (.type "int") (.type "int") = some true := kit_ty (by decide +kernel)
theorem kb2 {K : PySem.W.Frag} : PySem.W.kitOne K (.type "int") (.type "bool") = some false := kit_ty (by decide +kernel)
def Frs (K : PySem.W.Frag) (H : Hp) : List V → List Q2 → Prop
  | [], [] => True
  | v :: vs, p :: ps => (∃ t, v = .ref t ∧ SqT K H t (pV p)) ∧ Frs K H vs ps
  | _, _ => False
theorem Frs.mono {K : PySem.W.Frag} {H H' : Hp} (e : Same H H') : ∀ {vs : List V} {ps : List Q2}, Frs K H vs ps → Frs K H' vs ps
  | [], [], _ => trivial
  | _ :: _, _ :: _, ⟨⟨t, e1, h⟩, r⟩ => ⟨⟨t, e1, seqT e h⟩, r.mono e⟩
  | [], _ :: _, h => h.elim
  | _ :: _, [], h => h.elim
theorem Frs.len {K : PySem.W.Frag} {H : Hp} : ∀ {vs : List V} {ps : List Q2}, Frs K H vs ps → vs.length = ps.length
  | [], [], _ => rfl
  | _ :: _, _ :: _, h => by rw [List.length_cons, List.length_cons, h.2.len]
  | [], _ :: _, h => h.elim
  | _ :: _, [], h => h.elim
theorem Frs.get {K : PySem.W.Frag} {H : Hp} : ∀ {vs : List V} {ps : List Q2} {i : Nat} {v : V}, Frs K H vs ps → vs[i]? = some v → ∃ t p, v = .ref t ∧ ps[i]? = some p ∧ SqT K H t (pV p)
  | [], [], _, _, _, h => by simp at h
  | a :: _, p :: _, 0, v, h, e => by
    have e1 : a = v := Option.some.inj e
    subst e1
    obtain ⟨t, e2, q⟩ := h.1
    exact ⟨t, p, e2, rfl, q⟩
  | _ :: vs, _ :: ps, i + 1, v, h, e => h.2.get (i := i) e
  | [], _ :: _, _, _, h, _ => h.elim
  | _ :: _, [], _, _, h, _ => h.elim
theorem Frs.snoc {K : PySem.W.Frag} {H : Hp} {t : Addr} {p : Q2} (hv : SqT K H t (pV p)) : ∀ {vs : List V} {ps : List Q2}, Frs K H vs ps → Frs K H (vs ++ [.ref t]) (ps ++ [p])
  | [], [], _ => ⟨⟨t, rfl, hv⟩, trivial⟩
  | _ :: _, _ :: _, h => ⟨h.1, h.2.snoc hv⟩
  | [], _ :: _, h => h.elim
  | _ :: _, [], h => h.elim
/-- what a value is to is_fraction: a whole number, or none -/
def Part (K : PySem.W.Frag) (H : Hp) (x : V) (o : Option Int) : Prop :=
  (∃ a, x = .int a ∧ o = some a) ∨ (o = none ∧ ∃ (ty : String) (b1 b2 : Bool), TyX K H x (.type ty) ∧ kitB ty "int" = some b1 ∧ kitB ty "bool" = some b2 ∧ (b1 && !b2) = false)
def okFr : Option Int → Option Int → Bool
  | some a, some b => decide (0 < b) && decide (M2.g a b = 1)
  | _, _ => false
section
variable {P : Program} {w : World} {K : PySem.W.Frag} {mg : Str → Option Value} {base : Heap}
def spInt (K : PySem.W.Frag) : Sp := fun vs H Q _ => ∃ (v : V) (o : Option Int), vs = [v] ∧ Part K H v o ∧ Q (.bl o.isSome) H
end
theorem at0 (x y : V) : atI [x, y] 0 = some x := rfl
theorem at1 (x y : V) : atI [x, y] 1 = some y := rfl
theorem mulW {i j : Int} (h1 : i.natAbs < 2 ^ 400000) (h2 : j.natAbs < 2 ^ 400000) : CMulW i j := wide_mul h1 h2 (by decide) (by decide) (by decide)
theorem up {n m : Nat} {x : Nat} (h : x < 2 ^ n) (hm : n ≤ m) : x < 2 ^ m := Nat.lt_of_lt_of_le h (Nat.pow_le_pow_right (by decide) hm)
end FR
namespace VG
open PySem PySem.Spec PyProof.Rows L2
theorem walk_zipT {K : PySem.W.Frag} {a b : Addr} {xs ys : List V} {n : Nat} (hn : n = min xs.length ys.length) : Walk (RZ.ItzT K a b) n (fun H => SqT K H a xs ∧ SqT K H b ys) (YPair (fun i => xs[i]?) (fun i => ys[i]?)) := by
  constructor
  · intro i H hi hG
    have h1 : i < xs.length := by omega
    have h2 : i < ys.length := by omega
    exact ⟨xs, ys, xs[i], ys[i], hG.1, hG.2, List.getElem?_eq_getElem h1, List.getElem?_eq_getElem h2⟩
  · intro H hG
    exact ⟨xs, ys, hG.1, hG.2, by omega⟩
  · intro i H v H' hi hG hy
    obtain ⟨T, x, y, e1, e2, e3, e4, e5⟩ := hy
    exact ⟨T, x, y, e1, e2, e3, e4 xs hG.1, e5 ys hG.2⟩
/-- a def that may let errors out, where it lets none -/
theorem fn_calm {P : Program} {w : World} {K : PySem.W.Frag} {mg : Str → Option Value} {base : Heap} {k : Nat} {f : Addr} {fd : FuncData} {ps : List Str} {sp : Sp} (F : FnOk P w K mg base (L2.CX P w) k f fd ps sp) :
    FnOk P w K mg base CX0 k f fd ps (fun vs H Q _ => sp vs H Q E0) := by
  constructor
  · intro vs H Q E h
    exact F.len vs H Q E0 h
  · intro A outer s H args us vs Q E hr e0 hb hv hs
    apply codeAny_mono (F.run A outer s H args us vs Q E0 hr e0 hb hv hs)
    intro r s' hh
    match r, hh with
    | .ok (.ret u), hh => exact hh
    | .ok .next, hh => exact hh
    | .ok .brk, hh => exact hh
    | .ok .cont, hh => exact hh
    | .error e, hh =>
      obtain ⟨_, _, _, _, _, _, _, _, _, _, _, _, h⟩ := hh
      exact h.elim
/-- what the written part says of an own error's class with an __init__ -/
structure ErrC (K : PySem.W.Frag) (mg : Str → Option Value) (x : Str) (C fI : Addr) : Prop where
  gC : mg x = some (.ref C)
  o : OexC K C
  iC : PySem.W.findIn K (.ref C) "__init__" = some (some (.ref fI))
  tI : PySem.W.typeIn K (.ref fI) = some (.type "function")
end VG
namespace FR
open PySem PySem.Spec PyProof.Rows L2 VG
theorem seqT_upd {K : PySem.W.Frag} {H : Hp} {D t : Addr} {xs ys : List V} {zs : List V} (hD : H D = some (.lst ys)) (h : SqT K H t xs) : SqT K (upd H D (.lst zs)) t xs := by
  rcases h with (h | ⟨o, h⟩) | h
  · refine .inl (.inl ?_)
    rw [upd_ne (by intro e; subst e; rw [hD] at h; cases h)]
    exact h
  · refine .inl (.inr ⟨o, ?_⟩)
    rw [upd_ne (by intro e; subst e; rw [hD] at h; cases h)]
    exact h
  · exact .inr h
theorem Frs.upd {K : PySem.W.Frag} {H : Hp} {D : Addr} {ys zs : List V} (hD : H D = some (.lst ys)) : ∀ {vs : List V} {ps : List Q2}, Frs K H vs ps → Frs K (L2.upd H D (.lst zs)) vs ps
  | [], [], _ => trivial
  | _ :: _, _ :: _, ⟨⟨t, e1, h⟩, r⟩ => ⟨⟨t, e1, seqT_upd hD h⟩, r.upd hD⟩
  | [], _ :: _, h => h.elim
  | _ :: _, [], h => h.elim
section
variable {P : Program} {w : World} {K : PySem.W.Frag} {mg : Str → Option Value} {base : Heap}
def spInitW (K : PySem.W.Frag) (C : Addr) (fld : Str) : Sp := fun vs H Q _ => ∃ (a : Addr) (v : V), vs = [.ref a, v] ∧ H a = some (exo a C none) ∧ ∀ dx, H dx = none → dx ≠ a → Q .non (upd (upd H dx (exd dx [(fld, v)])) a (exo a C (some dx)))
end
end FR
namespace VG
open PySem PySem.Spec PyProof.Rows L2
structure ClG (P : Program) (w : World) (K : PySem.W.Frag) (mg : Str → Option Value) (base : Heap) (k : Nat) (x : Str) (sp : Sp) : Prop where
  ex : ∃ (f : Addr) (fd : FuncData) (ps : List Str), FnG P w K mg base k f fd ps sp ∧ mg x = some (.ref f) ∧ PySem.W.keepIn K (.ref f) = true ∧ Binds K fd ps []
section
variable {X : Cx} {k j : Nat} {x : Str} {sp : Sp} {p pos : Pos} {e : Expr} {es : List Expr} {t : TA}
theorem run_clg {f : Addr} {fd : FuncData} {ps : List Str} {pins : List (Addr × Obj)} {σ : L2.St} {H : Hp} {s : Shared} {Q : VK} {us : List Value} {vs : List V} (F : FnG X.prog X.w X.K X.mg X.base k f fd ps sp) (hg : X.A.guards = some []) (hr : Room k X.A)
    (hb : Binds X.K fd ps []) (I : Inv X pins σ H s) (r : Vals vs us) (h : sp vs H Q E0) : wpAny (model X.prog X.w) X.A (call (.ref f) us) (EP X pins σ Q) X.xe s := by
  have hl : us.length = ps.length := by
    rw [← r.length]
    exact F.len _ _ _ _ h
  have hb2 := hb s us I.kIn (by rw [List.append_nil]; exact hl)
  rw [List.append_nil] at hb2
  apply wpAny_call
  apply codeAny_mono (F.run X.A X.stack s H ⟨us, []⟩ us vs Q E0 hg hr I.env0 hb2 r h)
  intro rr s' hq
  match rr, hq with
  | .ok (.ret u), hq => exact I.after hq
theorem pe_clg (c : ClG X.prog X.w X.K X.mg X.base k x sp) (hgd : X.A.guards = some []) (hr : Room j X.A) (hk : k ≤ j) (hg : Gl X x) (ha : PA X (e :: es) t)
    (h1 : (x == ("__debug__" : Str)) = false := by decide) (h2 : starEach (e :: es) X.env = (false, eval e X.env) :: starEach es X.env := by rfl)
    (h3 : (backTo pos (starEach es X.env)).any (·.1) = false := by rfl) : PE X (.Call (.Name x p) (e :: es) [] pos) (tCall sp [] E0 t) := by
  obtain ⟨f, fd, ps, F, m, kp, b⟩ := c.ex
  constructor
  intro pins s σ H Q I h
  apply wpAny_Call_Name_kw
  apply ld_glob I hg m _ h1
  apply PySem.W.callWith_K (h₀ := X.base) I.ok.mod.kin kp _ h2 h3
  apply thn (ha.run pos pins s σ H _ I h)
  intro us s1 hh
  obtain ⟨vs, H1, I1, r, q⟩ := hh
  refine And.intro I1.kIn ?_
  exact run_clg F hgd (hr.mono hk) b I1 r (by rw [← List.append_nil vs]; exact q)
end
end VG
namespace HD
open PySem PySem.Spec PyProof.Rows L2 VG
def Hd (p q : Addr) (H : Hp) : Prop := ∃ (cs : List Int) (st : Int), H p = some (.lst [.ref q, .int st]) ∧ H q = some (.lst (cs.map V.int)) ∧ cs.length ≤ 63 ∧ 0 ≤ st ∧ st < 2147483647
def Keep (p q : Addr) (H H' : Hp) : Prop := ∀ b o, b ≠ p → b ≠ q → H b = some o → H' b = some o
theorem Keep.refl (p q : Addr) (H : Hp) : Keep p q H H := fun _ _ _ _ h => h
theorem Keep.trans {p q : Addr} {H H1 H2 : Hp} (a : Keep p q H H1) (b : Keep p q H1 H2) : Keep p q H H2 := fun x o n1 n2 h => b x o n1 n2 (a x o n1 n2 h)
theorem Keep.new {p q n : Addr} {o : HO} {H : Hp} (h : H n = none) : Keep p q H (upd H n o) := fun b x _ _ e => by
  rw [upd_ne (ne_of_none e h)]
  exact e
theorem Keep.at1 {p q : Addr} {o : HO} {H : Hp} : Keep p q H (upd H p o) := fun b x h _ e => by
  rw [upd_ne h]
  exact e
theorem Keep.at2 {p q : Addr} {o : HO} {H : Hp} : Keep p q H (upd H q o) := fun b x _ h e => by
  rw [upd_ne h]
  exact e
theorem Hd.ne {p q : Addr} {H : Hp} (h : Hd p q H) : p ≠ q := by
  obtain ⟨cs, st, h1, h2, _⟩ := h
  intro e
  subst e
  rw [h1] at h2
  cases cs with
  | nil => cases h2
  | cons c r => cases h2
theorem Hd.new {p q n : Addr} {o : HO} {H : Hp} (h : Hd p q H) (hn : H n = none) : Hd p q (upd H n o) := by
  obtain ⟨cs, st, h1, h2, h3⟩ := h
  exact ⟨cs, st, by rw [upd_ne (ne_of_none h1 hn)]; exact h1, by rw [upd_ne (ne_of_none h2 hn)]; exact h2, h3⟩
theorem Hd.neOf {p q n : Addr} {o : HO} {H : Hp} (h : Hd p q H) (hn : H n = some o) (ho : ∀ xs, o ≠ .lst xs) : n ≠ p ∧ n ≠ q := by
  obtain ⟨cs, st, h1, h2, _⟩ := h
  constructor
  · intro e
    subst e
    rw [h1] at hn
    exact ho _ (Option.some.inj hn).symm
  · intro e
    subst e
    rw [h2] at hn
    exact ho _ (Option.some.inj hn).symm
theorem Hd.free {p q n : Addr} {H : Hp} (h : Hd p q H) (hn : H n = none) : n ≠ p ∧ n ≠ q := by
  obtain ⟨cs, st, h1, h2, _⟩ := h
  exact ⟨(ne_of_none h1 hn).symm, (ne_of_none h2 hn).symm⟩
theorem dpAll_ints (K : PySem.W.Frag) (H : Hp) : ∀ cs : List Int, DpAll K H (cs.map V.int) (cs.map PyData.int)
  | [] => .nil
  | c :: cs => .cons (.int c) (dpAll_ints K H cs)
theorem dp_ints {K : PySem.W.Frag} {H : Hp} {q : Addr} {cs : List Int} (h : SqL K H q (cs.map V.int)) : Dp K H (.ref q) (.list (cs.map PyData.int)) := .lst h (dpAll_ints K H cs)
theorem lay_ints : ∀ cs : List Int, PyData.canLayAll0 (cs.map PyData.int) = true
  | [] => rfl
  | c :: cs => by
    show (PyData.canLay0 (.int c) && PyData.canLayAll0 (cs.map PyData.int)) = true
    rw [lay_ints cs]
    rfl
theorem depth_ints : ∀ cs : List Int, PyData.depthAll (cs.map PyData.int) = 0
  | [] => rfl
  | c :: cs => by
    show max (PyData.depth (.int c)) (PyData.depthAll (cs.map PyData.int)) = 0
    rw [depth_ints cs]
    rfl
theorem shaped_ints (cs : List Int) : SeqAt.shaped (.list (cs.map PyData.int)) = true := by
  unfold SeqAt.shaped
  rw [Bool.and_eq_true]
  refine ⟨?_, decide_eq_true ?_⟩
  · show PyData.canLayAll0 (cs.map PyData.int) = true
    exact lay_ints cs
  · show PyData.depthAll (cs.map PyData.int) + 1 ≤ 64
    rw [depth_ints]
    decide
theorem shaped_nil : SeqAt.shaped (.list []) = true := by decide +kernel
theorem eqv_nil (cs : List Int) : PyData.eqv (.list (cs.map PyData.int)) (.list []) = decide (cs = []) := by
  cases cs with
  | nil => rfl
  | cons c r => rfl
section
variable {P : Program} {w : World} {K : PySem.W.Frag} {mg : Str → Option Value} {base : Heap}
/-- a draw: some number below many -/
def spDraw : Sp := fun vs H Q _ => ∃ (p q : Addr) (many : Int), vs = [.ref p, .int many] ∧ Hd p q H ∧ 0 < many ∧ many < 1073741824 ∧ ∀ (H' : Hp) (r : Int), Hd p q H' → Keep p q H H' → 0 ≤ r → r < many → Q (.int r) H'
/-- one of some -/
def spPick (K : PySem.W.Frag) : Sp := fun vs H Q _ => ∃ (p q l : Addr) (xs : List V), vs = [.ref p, .ref l] ∧ Hd p q H ∧ H l = some (.lst xs) ∧ l ≠ p ∧ l ≠ q ∧ xs ≠ [] ∧ xs.length < 1000000 ∧ ∀ (H' : Hp) (v : V), Hd p q H' → Keep p q H H' → v ∈ xs → Q v H'
end
theorem same_put {H H' : Hp} {L : Addr} {o : HO} (h : Same H H') (n : H L = none) : Same H (upd H' L o) := fun b x e => by
  rw [upd_ne (ne_of_none e n)]
  exact h b x e
theorem _root_.HD.Hd.same {p q : Addr} {H H' : Hp} (h : Hd p q H) (s : Same H H') : Hd p q H' := by
  obtain ⟨cs, st, h1, h2, h3⟩ := h
  exact ⟨cs, st, s _ _ h1, s _ _ h2, h3⟩
theorem snocL {α : Type} (cs : List α) (h : cs ≠ []) : ∃ c0 c, cs = c0 ++ [c] := ⟨cs.dropLast, cs.getLast h, (List.dropLast_concat_getLast h).symm⟩
theorem fmod_lt (a : Int) {m : Int} (h : 0 < m) : 0 ≤ a.fmod m ∧ a.fmod m < m := ⟨Int.fmod_nonneg_of_pos a h, Int.fmod_lt_of_pos a h⟩
end HD
namespace K2
open PySem PySem.Spec PyProof.Rows L2 VG FR HD
theorem cut_ints (ns : List Int) (lo hi : Option Int) : ∃ ms : List Int, cutV (ns.map V.int) lo hi = ms.map V.int ∧ ms.length ≤ ns.length := by
  refine ⟨(ns.drop (HT.sIx (ns.map V.int).length 0 lo)).take (HT.sIx (ns.map V.int).length (ns.map V.int).length hi - HT.sIx (ns.map V.int).length 0 lo), ?_, ?_⟩
  · unfold cutV
    rw [List.map_take, List.map_drop]
  · rw [List.length_take, List.length_drop]
    omega
end K2
namespace FR
open PySem PySem.Spec PyProof.Rows L2 VG HD
theorem seqTK {K : PySem.W.Frag} {H H' : Hp} {p q t : Addr} {xs : List V} (hd : Hd p q H) (kp : Keep p q H H') (h : SqT K H t xs) : SqT K H' t xs := by
  rcases h with (h | ⟨o, h⟩) | h
  · have n := hd.neOf h (fun ys z => by cases z)
    exact .inl (.inl (kp _ _ n.1 n.2 h))
  · have n := hd.neOf h (fun ys z => by cases z)
    exact .inl (.inr ⟨o, kp _ _ n.1 n.2 h⟩)
  · exact .inr h
section
/-- the law's own judge, where it must say yes -/
def spIs (K : PySem.W.Frag) : Sp := fun vs H Q _ => ∃ (t : Addr) (p : Q2) (a b : Int), vs = [.ref t, .int a, .int b] ∧ SqT K H t (pV p) ∧ M2.Low p.1 p.2 ∧ p.1 * b = a * p.2 ∧ Bt 890 p ∧ a.natAbs < 2 ^ 8000 ∧ b.natAbs < 2 ^ 8000 ∧ ∀ H', Same H H' → Q (.bl true) H'
end
end FR
namespace VG
open PySem PySem.Spec PyProof.Rows L2
structure ClR (P : Program) (w : World) (K : PySem.W.Frag) (mg : Str → Option Value) (base : Heap) (k : Nat) (x : Str) (ks : List Str) (sp : Sp) : Prop where
  ex : ∃ (f : Addr) (fd : FuncData) (ps : List Str), FnOk P w K mg base CX0 k f fd ps sp ∧ mg x = some (.ref f) ∧ PySem.W.keepIn K (.ref f) = true ∧ KBinds K fd ps ks (fun us ws => us ++ ws.reverse) (fun vs zs => vs ++ zs.reverse)
section
variable {X : Cx} {k j : Nat} {x : Str} {sp : Sp} {p pos : Pos} {kws : List Keyword} {ks : List Str} {tk : TA}
def tCallKR (sp : Sp) (tk : TA) : TE := fun σ H Q => tk σ H fun zs H2 => sp zs.reverse H2 Q E0
theorem pe_clr (c : ClR X.prog X.w X.K X.mg X.base k x ks sp) (hr : Room j X.A) (hk : k ≤ j) (hg : Gl X x) (hkw : PK X kws tk)
    (h1 : (backToKw pos (keywordEach kws X.env)).all (·.1.isSome) = true := by rfl) (h2 : (backToKw pos (keywordEach kws X.env)).filterMap (·.1) = ks := by rfl)
    (h3 : (x == ("__debug__" : Str)) = false := by decide) (h4 : ((backTo pos (starEach [] X.env)).any (·.1) || (backToKw pos (keywordEach kws X.env)).any (·.1.isNone)) = false := by rfl) :
    PE X (.Call (.Name x p) [] kws pos) (tCallKR sp tk) := by
  obtain ⟨f, fd, ps, F, m, kp, b⟩ := c.ex
  constructor
  intro pins s σ H Q I h
  apply wpAny_Call_Name_kw
  apply ld_glob I hg m _ h3
  apply PySem.W.callWith_KW0 (h₀ := X.base) I.ok.mod.kin kp h1 _ h4
  apply thn (hkw.run pos pins s σ H _ I h)
  intro ws s2 hh
  obtain ⟨zs, H2, I2, rz, q2⟩ := hh
  refine And.intro I2.kIn ?_
  rw [h2]
  exact run_fnk (us := []) (vs := []) F (hr.mono hk) b pass0 I2 .nil rz q2
end
theorem vals_rev : ∀ {zs : List V} {ws : List Value}, Vals zs ws → Vals zs.reverse ws.reverse
  | _, _, .nil => .nil
  | _, _, .cons r rr => by
    rw [List.reverse_cons, List.reverse_cons]
    exact (vals_rev rr).append (.cons r .nil)
section
variable {P : Program} {w : World} {K : PySem.W.Frag} {mg : Str → Option Value} {base : Heap}
theorem kbinds_rev {x qual p1 p2 : Str} {st : Stmt} {f : Addr} {fd : FuncData} (F : Fun K x qual st f fd)
    (h0 : ∀ (kV doc pm : Value) (an : Option Addr) (cdv ct u v : Value), bindArgs (PySem.W.fnOf x qual (defArgs st) (defBody st) (defScope st) .none kV doc pm an cdv ct) ⟨[u, v], []⟩ = pure [(p1, u), (p2, v)])
    (h2 : ∀ (kV doc pm : Value) (an : Option Addr) (cdv ct u v : Value), bindArgs (PySem.W.fnOf x qual (defArgs st) (defBody st) (defScope st) .none kV doc pm an cdv ct) ⟨[], [(p2, v), (p1, u)]⟩ = pure [(p1, u), (p2, v)])
    (h1 : ∀ (kV doc pm : Value) (an : Option Addr) (cdv ct u v : Value), bindArgs (PySem.W.fnOf x qual (defArgs st) (defBody st) (defScope st) .none kV doc pm an cdv ct) ⟨[u], [(p2, v)]⟩ = pure [(p1, u), (p2, v)]) :
    KBinds K fd [p1, p2] [p2, p1] (fun us ws => us ++ ws.reverse) (fun vs zs => vs ++ zs.reverse) := by
  obtain ⟨oc, od, kV, doc, pm, an, cdv, ct, osl, rfl, lk, hcd⟩ := F.ex
  constructor
  · intro s us ws _ hl
    match us, ws, hl with
    | [], [v, u], _ => exact .of_eq (h2 kV doc pm an cdv ct u v)
    | [u], [v], _ => exact .of_eq (h1 kV doc pm an cdv ct u v)
    | [u, v], [], _ => exact .of_eq (h0 kV doc pm an cdv ct u v)
    | [], [], hl => cases hl
    | [], [_], hl => cases hl
    | [], _ :: _ :: _ :: _, hl => simp at hl
    | [_], [], hl => cases hl
    | [_], _ :: _ :: _, hl => simp at hl
    | [_, _], _ :: _, hl => simp at hl
    | _ :: _ :: _ :: _, ws, hl => simp at hl
  · intro vs us zs ws r1 r2
    exact r1.append (vals_rev r2)
end
end VG
namespace M2
end M2
namespace FR
open PySem PySem.Spec PyProof.Rows L2 VG HD
theorem sqt {K : PySem.W.Frag} {H : Hp} {t : Addr} {xs : List V} (h : H t = some (.tup xs)) : SqT K H t xs := .inl (.inl h)
end FR
namespace FR
open PySem PySem.Spec PyProof.Rows L2 VG HD
end FR
namespace FR
open PySem PySem.Spec PyProof.Rows L2 VG HD
theorem ite_eq {c : Bool} (b : Bool) {A B : Prop} (e : c = b) (h : if b = true then A else B) : if c = true then A else B := by
  rw [e]
  exact h
end FR
namespace VG
open PySem PySem.Spec PyProof.Rows L2
def rIsX (K : PySem.W.Frag) (a : Addr) (cls : Value) (d : Option Addr) : List V → Hp → VK → Prop := fun xs H Q =>
  ∃ (D dd : Addr) (fs : List (Str × V)) (c : V) (cv : Value) (b : Bool), cls = .ref D ∧ d = some dd ∧ H dd = some (.xd fs) ∧ ExcC K D ∧ xs = [.ref a, c] ∧ (∀ u, RelV c u → u = cv) ∧ PySem.W.kitOne K (.ref D) cv = some b ∧ Q (.bl b) H
theorem call_isX {X : Cx} {a : Addr} {oe : Obj} {cls : Value} {d : Option Addr} {pn : List (Addr × Obj)} (hz : Zc cls d oe) (hf : ∃ vs, oe.data = .fields vs) : CallR (X.suite a ((a, oe) :: pn)) (.builtin "isinstance") (rIsX X.K a cls d) := by
  intro pins s σ H xs us Q I r h
  obtain ⟨D, dd, fs, c, cv, b, rfl, rfl, ed, C, rfl, hcv, e, q⟩ := h
  cases r with
  | cons rx rr =>
    cases rr with
    | cons rt rr =>
      cases rr
      cases rx
      have ec := hcv _ rt
      subst ec
      obtain ⟨ha, _⟩ := I.pin (a, oe) (List.mem_append.mpr (.inl List.mem_cons_self))
      obtain ⟨vs, hd⟩ := hf
      have hx : ObjOk X.prog X.w H s.heap dd (.xd fs) := I.hok dd _ ed
      obtain ⟨mA, hns, hr⟩ := hx
      obtain ⟨od, ho, hl⟩ := lookIn_ns hns
      have J : PySem.W.InstAt s.heap a oe D (some od) := ⟨ha, hz.1, by unfold PySem.W.notCls; rw [hd] <;> rfl, by rw [hz.2]; exact ho⟩
      have hc : (PySem.W.clsIn X.K D).isSome = true := by
        obtain ⟨cd, hc, _⟩ := PySem.W.any_some C.hd
        rw [hc]
        rfl
      exact PySem.W.kia_one (PySem.W.kitx_exc hc C.hg C.hk C.hs C.ha C.hn C.ht C.hm) I.kIn J e (fun z => nomatch z) fun tk => ⟨.bl b, H, I.kept (t' := tk) fun _ _ z => z, rfl, q⟩
/-- a call, in a try, of a def that may let an own error out -/
structure ClX (P : Program) (w : World) (K : PySem.W.Frag) (mg : Str → Option Value) (base : Heap) (k : Nat) (x : Str) (sp : Sp) : Prop where
  ex : ∃ (f : Addr) (fd : FuncData) (ps : List Str), FnOk P w K mg base (L2.CX P w) k f fd ps sp ∧ mg x = some (.ref f) ∧ PySem.W.keepIn K (.ref f) = true ∧ Binds K fd ps []
section
variable {X : Cx} {k j : Nat} {x : Str} {sp : Sp} {p pos : Pos} {e : Expr} {es : List Expr} {t : TA} {W : WX}
theorem pe_clx (c : ClX X.prog X.w X.K X.mg X.base k x sp) (hr : Room j X.A) (hk : k ≤ j) (tk : Takes X W) (hg : Gl X x) (ha : PA X (e :: es) t)
    (h1 : (x == ("__debug__" : Str)) = false := by decide) (h2 : starEach (e :: es) X.env = (false, eval e X.env) :: starEach es X.env := by rfl)
    (h3 : (backTo pos (starEach es X.env)).any (·.1) = false := by rfl) : PE X (.Call (.Name x p) (e :: es) [] pos) (tCallS sp (WE W) t) :=
  let ⟨_, _, _, F, m, kp, b⟩ := c.ex
  pe_callS F (hr.mono hk) hg m kp b (fun σ => passAt tk σ) ha h1 h2 h3
end
end VG
namespace FR
open PySem PySem.Spec PyProof.Rows L2 VG HD
end FR
namespace VG
open PySem PySem.Spec PyProof.Rows L2
theorem units65 {k : Nat} {A : Around} (hr : Room k A) : A.units + 65 < cLine := by
  have := hr.un
  omega
end VG
namespace FR
/-- each q is t over B -/
def Ov (B : Int) : List Q2 → List Int → Prop
  | [], [] => True
  | q :: qs, t :: ts => (M2.Low q.1 q.2 ∧ q.1 * B = t * q.2) ∧ Ov B qs ts
  | _, _ => False
open PySem PySem.Spec PyProof.Rows L2 VG HD
end FR
namespace FR
open PySem PySem.Spec PyProof.Rows L2 VG HD
theorem Frs.keep {K : PySem.W.Frag} {H H' : Hp} {p q : Addr} (hd : Hd p q H) (kp : Keep p q H H') : ∀ {vs : List V} {ps : List Q2}, Frs K H vs ps → Frs K H' vs ps
  | [], [], _ => trivial
  | _ :: _, _ :: _, ⟨⟨t, e1, h⟩, r⟩ => ⟨⟨t, e1, seqTK hd kp h⟩, Frs.keep hd kp r⟩
  | [], _ :: _, h => h.elim
  | _ :: _, [], h => h.elim
theorem hd_put {p q D : Addr} {H : Hp} {o : HO} (h : Hd p q H) (n1 : D ≠ p) (n2 : D ≠ q) : Hd p q (L2.upd H D o) := by
  obtain ⟨cs, st, h1, h2, h3⟩ := h
  exact ⟨cs, st, by rw [upd_ne n1.symm]; exact h1, by rw [upd_ne n2.symm]; exact h2, h3⟩
end FR
namespace VG
open PySem PySem.Spec PyProof.Rows L2 HT
end VG
namespace FR
open PySem PySem.Spec PyProof.Rows L2 VG HD
theorem tyX_mono {K : PySem.W.Frag} {H H' : Hp} (e : Same H H') {v : V} {ty : String} (h : TyX K H v (.type ty)) : TyX K H' v (.type ty) := by
  cases h with
  | base b =>
    cases b with
    | non => exact .base .non
    | bl x => exact .base (.bl x)
    | int i => exact .base (.int i)
    | str x => exact .base (.str x)
    | flt x => exact .base (.flt x)
    | lst h => exact .base (.lst (e _ _ h))
    | frz h => exact .base (.frz (e _ _ h))
    | tup h => exact .base (.tup (e _ _ h))
    | dK h => exact .base (.dK (e _ _ h))
    | dT h => exact .base (.dT (e _ _ h))
  | byt b => exact .byt b
  | set h => exact .set (e _ _ h)
  | kList a b => exact .kList a b
  | kTuple a b => exact .kTuple a b
  | kDict a b => exact .kDict a b
  | fTuple h => exact .fTuple (e _ _ h)
  | fDict h => exact .fDict (e _ _ h)
theorem part_mono {K : PySem.W.Frag} {H H' : Hp} (e : Same H H') {v : V} {o : Option Int} (h : Part K H v o) : Part K H' v o := by
  rcases h with h | ⟨h1, ty, b1, b2, t, h2⟩
  · exact .inl h
  · exact .inr ⟨h1, ty, b1, b2, tyX_mono e t, h2⟩
/-- what is_fraction says of a value -/
def OddV (K : PySem.W.Frag) (H : Hp) (v : V) (r : Bool) : Prop :=
  (∃ ty : String, TyX K H v (.type ty) ∧ kitB ty "tuple" = some false ∧ r = false) ∨ (∃ t xs, v = .ref t ∧ SqT K H t xs ∧ xs.length ≠ 2 ∧ r = false) ∨
  ∃ t x y o1 o2, v = .ref t ∧ SqT K H t [x, y] ∧ Part K H x o1 ∧ Part K H y o2 ∧ r = okFr o1 o2 ∧ ∀ b, o2 = some b → b.natAbs < 2 ^ 900
theorem OddV.mono {K : PySem.W.Frag} {H H' : Hp} (e : Same H H') {v : V} {r : Bool} (h : OddV K H v r) : OddV K H' v r := by
  rcases h with ⟨ty, a, b⟩ | ⟨t, xs, a, b, c⟩ | ⟨t, x, y, o1, o2, a, b, c, d, f⟩
  · exact .inl ⟨ty, tyX_mono e a, b⟩
  · exact .inr (.inl ⟨t, xs, a, seqT e b, c⟩)
  · exact .inr (.inr ⟨t, x, y, o1, o2, a, seqT e b, part_mono e c, part_mono e d, f⟩)
def frz (p q : Addr) (H : Hp) : Hp := fun b => if b = p ∨ b = q then none else H b
theorem frz_at {p q t : Addr} {H : Hp} {o : HO} (h : H t = some o) (n : t ≠ p ∧ t ≠ q) : frz p q H t = some o := by
  unfold frz
  rw [if_neg (fun z => z.elim n.1 n.2)]
  exact h
theorem frz_keep {p q : Addr} {H H' : Hp} (h : Keep p q H H') : Same (frz p q H) H' := fun b o e => by
  unfold frz at e
  by_cases z : b = p ∨ b = q
  · rw [if_pos z] at e
    cases e
  · rw [if_neg z] at e
    exact h b o (fun y => z (.inl y)) (fun y => z (.inr y)) e
theorem kitN1 : kitB "NoneType" "int" = some false := by decide +kernel
theorem kitN2 : kitB "NoneType" "bool" = some false := by decide +kernel
theorem kitB1 : kitB "bool" "int" = some true := by decide +kernel
theorem kitB2 : kitB "bool" "bool" = some true := by decide +kernel
theorem kitS1 : kitB "str" "int" = some false := by decide +kernel
theorem kitS2 : kitB "str" "bool" = some false := by decide +kernel
theorem kitT1 : kitB "tuple" "int" = some false := by decide +kernel
theorem kitT2 : kitB "tuple" "bool" = some false := by decide +kernel
theorem all_cons {P : V → Prop} {x : V} {xs : List V} (h : P x) (t : ∀ v ∈ xs, P v) : ∀ v ∈ x :: xs, P v := fun v hv => by
  rcases List.mem_cons.mp hv with z | z
  · rw [z]; exact h
  · exact t v z
end FR
namespace FR
open PySem PySem.Spec PyProof.Rows L2 VG HD
end FR
namespace CK
open PySem PySem.Spec PyProof.Rows L2 VG FR
def spNum (K : PySem.W.Frag) : Sp := fun vs H Q _ => ∃ a : Int, vs = [.int a] ∧ Q (.bl (decide (0 ≤ a))) H
def spBelow : Sp := fun vs H Q _ => ∃ a n : Int, vs = [.int a, .int n] ∧ Q (.bl (decide (0 ≤ a ∧ a < n))) H
/-- numbers below, all of them right -/
def spNumsBelow (K : PySem.W.Frag) : Sp := fun vs H Q _ => ∃ (t : Addr) (cs : List Int) (n : Int), vs = [.ref t, .int n] ∧ SqT K H t (cs.map V.int) ∧ cs.length ≤ 1000 ∧ (∀ c ∈ cs, 0 ≤ c ∧ c < n) ∧ ∀ H', Same H H' → Q (.bl true) H'
def Asc : List Int → Prop
  | a :: b :: r => a < b ∧ Asc (b :: r)
  | _ => True
def LtV (x y : V) : Prop := (∃ a b : Int, x = .int a ∧ y = .int b ∧ a < b) ∨ ∃ a b : Str, x = .str a ∧ y = .str b ∧ a.cps.toList < b.cps.toList
def AscV (xs : List V) : Prop := ∀ (i : Nat) (x y : V), xs[i]? = some x → xs[i + 1]? = some y → LtV x y
def spAsc (K : PySem.W.Frag) : Sp := fun vs H Q _ => ∃ (t : Addr) (xs : List V), vs = [.ref t] ∧ SqT K H t xs ∧ xs.length ≤ 1000 ∧ AscV xs ∧ ∀ H', Same H H' → Q (.bl true) H'
def spLot (K : PySem.W.Frag) : Sp := fun vs H Q _ => ∃ (t : Addr) (cs : List Int) (n : Int), vs = [.ref t, .int n] ∧ SqT K H t (cs.map V.int) ∧ cs.length ≤ 1000 ∧ (∀ c ∈ cs, 0 ≤ c ∧ c < n) ∧ Asc cs ∧ ∀ H', Same H H' → Q (.bl true) H'
theorem Asc.get : ∀ {cs : List Int} {i : Nat} {a b : Int}, Asc cs → cs[i]? = some a → cs[i + 1]? = some b → a < b
  | [], _, _, _, _, h, _ => by simp at h
  | [_], 0, _, _, _, _, h => by simp at h
  | [_], _ + 1, _, _, _, h, _ => by simp at h
  | x :: y :: r, 0, a, b, h, ha, hb => by
    have e1 : x = a := Option.some.inj ha
    have e2 : y = b := Option.some.inj hb
    subst e1 e2
    exact h.1
  | x :: y :: r, i + 1, a, b, h, ha, hb => Asc.get (cs := y :: r) (i := i) h.2 ha hb
theorem asc_ints {cs : List Int} (h : Asc cs) : AscV (cs.map V.int) := by
  intro i x y hx hy
  rw [List.getElem?_map] at hx hy
  obtain ⟨a, ea, rfl⟩ := Option.map_eq_some_iff.mp hx
  obtain ⟨b, eb, rfl⟩ := Option.map_eq_some_iff.mp hy
  exact .inl ⟨a, b, rfl, rfl, h.get ea eb⟩
theorem cut1 {xs : List V} : cutV xs (some 1) none = xs.drop 1 := by
  unfold cutV
  have e : HT.sIx xs.length 0 (some 1) = min 1 xs.length := HT.sIx_nat xs.length 0 1
  rw [e, HT.sIx_none]
  cases xs with
  | nil => rfl
  | cons x xs =>
    have : min 1 (x :: xs).length = 1 := by rw [List.length_cons]; omega
    rw [this]
    exact List.take_of_length_le (by rw [List.length_drop]; omega)
end CK
namespace VG
open PySem PySem.Spec PyProof.Rows L2
theorem meets_enum1 {v : Value} {o : Obj} {H : Heap → Prop} (B : Begins v o H) :
    Meets (Builtin.«enumerate.__new__» ⟨[.type "enumerate", v], []⟩) (fun _ R s => H s.heap ∧
      R (.ok (.ret (.ref (s.heap.push o).objs.size))) { s with heap := (s.heap.push o).push { cls := .type "enumerate", data := .fields #[.none, .bool false, .ref s.heap.objs.size, rawInt 0, .none, .none] } }) :=
  .of_wp fun prog w A R s h => by
    obtain ⟨hp, g, d, tk, os⟩ := s
    obtain ⟨h1, h⟩ := h
    have hsub := sub_enumerate
    have it1 : ∀ {A' : Around} {E : Value → Shared → Prop} {Q : Value → Shared → Prop}, Q (.ref hp.objs.size) ⟨hp.push o, g, d, tk, os⟩ → wpAny (model prog w) A' (pyIter v) Q E ⟨hp, g, d, tk, os⟩ :=
      fun q => B.iter prog w _ _ ⟨hp, g, d, tk, os⟩ _ h1 q
    wp_walk using it1
    refine wpAny_stack_any fun st => wpAny_pure ?_
    split
    · rename_i c _ _ _ _ _
      cases (c == Value.type "enumerate")
      · wp_walk using it1
        exact ⟨_, rfl, h⟩
      · wp_walk using it1
        exact ⟨_, rfl, h⟩
    · wp_walk using it1
      exact ⟨_, rfl, h⟩
section
variable {prog : Program} {w : World} {A : Around} {E : Value → Shared → Prop} {s : Shared}
theorem enum1 {v : Value} {o : Obj} {H : Heap → Prop} {Q : Value → Shared → Prop} (B : Begins v o H) (h1 : H s.heap)
    (h : ∀ h', IsEnum h' (s.heap.objs.size + 1) s.heap.objs.size 0 .none → h'.get? s.heap.objs.size = some o → (∀ b o, s.heap.get? b = some o → h'.get? b = some o) → Q (.ref (s.heap.objs.size + 1)) { s with heap := h' }) :
    wpAny (model prog w) A (call (.type "enumerate") [v]) Q E s := by
  refine callType_new F.called_enumerate (by decide) (F.typeCall_enumerate_1 _) (F.newCall_enumerate_1 _) (fun obj => F.args_object_init_2 obj _) F.entry_enumerate_new (meets_enum1 B) ⟨h1, ?_⟩
  have hz : (s.heap.push o).objs.size = s.heap.objs.size + 1 := Heap.size_push ..
  show _ ∧ _
  rw [hz]
  have he : IsEnum ((s.heap.push o).push { cls := .type "enumerate", data := .fields #[.none, .bool false, .ref s.heap.objs.size, rawInt 0, .none, .none] }) (s.heap.objs.size + 1) s.heap.objs.size 0 .none := by
    have q := Heap.get?_push_size (s.heap.push o) (o := { cls := .type "enumerate", data := .fields #[.none, .bool false, .ref s.heap.objs.size, rawInt 0, .none, .none] }) rfl
    rw [hz] at q
    exact q
  exact ⟨⟨_, he, rfl⟩, h _ he (Heap.get?_push_of_some _ (Heap.get?_push_size _ B.free)) fun b o x => Heap.get?_push_of_some _ (Heap.get?_push_of_some _ x)⟩
end
/-- the tuple at a, each item in a new pair behind its index -/
def IteT (K : PySem.W.Frag) (a : Addr) : It :=
  ⟨fun i H => ∃ (xs : List V) (x : V), SqT K H a xs ∧ xs[i]? = some x, fun i H v H' => ∃ T x, v = .ref T ∧ H T = none ∧ H' = upd H T (.tup [.int (i : Nat), x]) ∧ ∀ xs, SqT K H a xs → xs[i]? = some x, fun i H => ∃ xs : List V, SqT K H a xs ∧ xs.length ≤ i⟩
theorem turn_enumT {P : Program} {w : World} {K : PySem.W.Frag} {elts : List Expr} {kk : Nat} {tpos : Pos} (a e it : Addr) :
    Turn P w K (.Tuple elts kk tpos) (IteT K a) [e, it] e (fun i h => (∃ old, IsEnum h e it ((i : Nat) : Int) old) ∧ h.IsTupleIter it a i ∧ e ≠ it ∧ a ≠ it ∧ e ≠ a) where
  mem := by simp
  obj := fun i h st b hb => by
    obtain ⟨⟨old, he⟩, ⟨o, ho, hc, hd⟩, _⟩ := st
    have e' : b = e ∨ b = it := by simpa using hb
    rcases e' with z | z
    · subst z
      exact ⟨_, he, fun v q => nomatch q⟩
    · subst z
      exact ⟨o, ho, fun v q => by rw [hd] at q; cases q⟩
  keep := fun i h h' st k => let ⟨⟨old, he⟩, hi, r⟩ := st; ⟨⟨old, k e (by simp) _ he⟩, hi.at fun o q => k it (by simp) o q, r⟩
  item := by
    intro X hP hw hK hc i pins s σ H E I hf st hg
    subst hP hw hK
    obtain ⟨⟨old, he⟩, hit, hne, hai, hea⟩ := st
    obtain ⟨xs, x, hq, hx⟩ := hg
    obtain ⟨its, rv, p, hz⟩ := I.tuple hq
    obtain ⟨u, hu, ru⟩ := rv.get hx
    have hel : e < s.heap.objs.size := Heap.lt_size he
    have hil : it < s.heap.objs.size := by obtain ⟨_, q, _⟩ := hit; exact Heap.lt_size q
    have hd := I.ok.hd hc
    have hlt : i < its.toArray.size := by
      have := (List.getElem?_eq_some_iff.mp hu).1
      simpa using this
    have st0 : s.heap.IsTupleIter it a i ∧ s.heap.IsTuple a its.toArray := ⟨hit, p⟩
    have nin : e ∉ [it, a] := fun z => by
      rcases List.mem_cons.mp z with z | z
      · exact hne z
      · exact hea (List.mem_singleton.mp z)
    refine wpAny_pyNext_enum_itemD (fp := [it, a]) (n := its.toArray.size) (P := fun i v => its.toArray[i]? = some v) (St := fun i h => h.IsTupleIter it a i ∧ h.IsTuple a its.toArray) (Draws.tuple (A := X.A.in1) (show X.A.in1.handled = none from hd) it a hai its.toArray) he st0 hlt hne nin fun u' h' tk hP' ho st' hT hsz hk => ?_
    have eu : u' = u := by
      have h1 : its.toArray[i]? = some u' := hP'
      have h2 : its.toArray[i]? = some u := by simpa using hu
      rw [h1] at h2
      exact Option.some.inj h2
    subst eu
    refine ⟨_, rfl, wpAny_letOwnedTupleGo_enum (s := { s with heap := h', toks := tk + 1 }) ho fun h'' he' sb => ?_⟩
    have hT2 : h''.get? s.heap.objs.size = some { cls := .type "tuple", data := .seq #[.int i tk, u'] } := (sb.2 _ (Nat.ne_of_gt hel)).trans hT
    have new : ObjOk X.prog X.w (upd H s.heap.objs.size (.tup [.int (i : Nat), x])) h'' s.heap.objs.size (.tup [.int (i : Nat), x]) :=
      ⟨by show 2 ≤ sizeLine; decide, [.int i tk, u'], .cons ⟨_, rfl⟩ (.cons ru .nil), ⟨_, hT2, rfl, _, rfl⟩⟩
    have I1 : Inv X pins σ (upd H s.heap.objs.size (.tup [.int (i : Nat), x])) { s with heap := h'', toks := tk + 1 } :=
      I.turnedNew (ch := [e, it]) (fun b ob hb q => (sb.2 b (fun z => hb (by simp [z]))).trans (hk b ob (fun z => hb (by simp [z])) (fun z => hb (by simp [z])) q)) hf (Nat.le_refl _) new
    refine ⟨.ref s.heap.objs.size, _, I1, rfl, ⟨_, x, rfl, I.hok.fresh (Nat.le_refl _), rfl, fun ys hy => by rw [I.tuple_inj hy hq]; exact hx⟩, ⟨⟨u', ?_⟩, st'.1.at fun o q => (sb.2 it (Ne.symm hne)).trans q, hne, hai, hea⟩, fun b hb => ?_⟩
    · have e1 : ((i + 1 : Nat) : Int) = (i : Int) + 1 := by omega
      rw [e1]
      exact he'
    · have hb' : b < s.heap.objs.size := by
        have e' : b = e ∨ b = it := by simpa using hb
        rcases e' with z | z
        · rw [z]; exact hel
        · rw [z]; exact hil
      rw [upd_ne (Nat.ne_of_lt hb')]
      exact (hf b hb).1
  done := by
    intro X hP hw hK hc i pins s σ H E I hf st hg
    subst hP hw hK
    obtain ⟨⟨old, he⟩, hit, hne, hai, hea⟩ := st
    obtain ⟨xs, hq, hx⟩ := hg
    obtain ⟨its, rv, p, hz⟩ := I.tuple hq
    obtain ⟨f0, f1, f2, f3, f4, f5⟩ := hf it (by simp)
    have hl := rv.length
    have hT : s.TypeIs (.ref e) "enumerate" := ⟨_, he, rfl⟩
    unfold pyNext
    refine wpAny_bind (wpAny_attempt (wpAny_callSpecial?_slot (name := Str.ofString "__next__") hT F.slot_enumerate_next (wpAny_call_entry F.slot_enumerate_next hT F.entry_enumerate_next ?_ (F.args_enumerate_next_1 _))))
    show wpAny _ _ (field (.ref e) 2 >>= _) _ _ _
    refine wpAny_bind (wpAny_field he rfl (x := .ref it) rfl ?_)
    refine wpAny_bind (wpAny_nextOf_tuple_end (I.ok.hd hc) hit p (by simp; omega) fun h' x' he' hx' => ?_)
    obtain ⟨o, ho, hc'⟩ := hx'
    refine wpAny_bind (wpAny_isInstance (T := "StopIteration") (b := true) ⟨o, ho, hc'⟩ isSubtype_stop ?_)
    exact wpAny_pure ⟨rfl, I.turned (t' := s.toks) (fun b o hb q => he' b o hb q) f0 f1 f3 f4 f5⟩
  self := fun A i s Q E st h => let ⟨⟨_, he⟩, _⟩ := st; wpAny_pyIter_enum he h
def iEnumT (K : PySem.W.Frag) (ta : TA) : TI := fun σ H R => ta σ H fun vs H1 => ∃ a xs, vs = [.ref a] ∧ SqT K H1 a xs ∧ R (IteT K a) H1
theorem pi_enumT {X : Cx} {e : Expr} {ta : TA} {p pos tpos : Pos} {elts : List Expr} {kk : Nat} (hg : Gl X "enumerate") (hm : X.mg "enumerate" = none) (ha : PA X [e] ta) (hs : starEach [e] X.env = [(false, eval e X.env)] := by rfl) :
    PI X (.Tuple elts kk tpos) (.Call (.Name "enumerate" p) [e] [] pos) (iEnumT X.K ta) := by
  refine ⟨fun pins s σ H R I h => ?_⟩
  refine Call_ (ld_blt I hg hm boot_enumerate (PyProof.Rows.callWith_type1 (thn (ha.run pos pins s σ H _ I h) fun us s1 ⟨vs, H1, I1, r1, q1⟩ => ?_) hs rfl))
  obtain ⟨a, xs, rfl, hq, q⟩ := q1
  cases r1 with
  | cons r rr =>
    cases rr
    cases r
    obtain ⟨its, rv, p', hz⟩ := I1.tuple hq
    have hal : a < s1.heap.objs.size := by obtain ⟨_, q, _⟩ := id p'; exact Heap.lt_size q
    refine enum1 (begins_tuple a its.toArray) p' fun h' he ho hk => wpAny_pyIter_enum he ?_
    have I2 : Inv X pins σ H1 { s1 with heap := h' } := I1.kept (t' := s1.toks) hk
    refine ⟨s1.heap.objs.size + 1, [s1.heap.objs.size + 1, s1.heap.objs.size], _, _, H1, rfl, I2, turn_enumT a (s1.heap.objs.size + 1) s1.heap.objs.size, ⟨⟨.none, he⟩, ⟨_, ho, rfl, rfl⟩, Nat.succ_ne_self _, Nat.ne_of_lt hal, Nat.ne_of_gt (Nat.lt_succ_of_lt hal)⟩, fun b hb => ?_, q⟩
    have hle : s1.heap.objs.size ≤ b := by
      have e' : b = s1.heap.objs.size + 1 ∨ b = s1.heap.objs.size := by simpa using hb
      rcases e' with z | z
      · rw [z]; exact Nat.le_add_right _ _
      · rw [z]; exact Nat.le_refl _
    exact I1.fpOk hle (I1.hok.fresh hle)
theorem walk_enumT {K : PySem.W.Frag} {a : Addr} {xs : List V} : Walk (IteT K a) xs.length (fun H => SqT K H a xs) (fun i H v H' => ∃ T x, v = .ref T ∧ H T = none ∧ H' = L2.upd H T (.tup [.int (i : Nat), x]) ∧ xs[i]? = some x) := by
  constructor
  · intro i H hi hG
    exact ⟨xs, xs[i], hG, List.getElem?_eq_getElem hi⟩
  · intro H hG
    exact ⟨xs, hG, Nat.le_refl _⟩
  · intro i H v H' hi hG hy
    obtain ⟨T, x, e1, e2, e3, e4⟩ := hy
    exact ⟨T, x, e1, e2, e3, e4 xs hG⟩
end VG
namespace CK
open PySem PySem.Spec PyProof.Rows L2 VG FR
/-- references to tuples of integers -/
def Tots (K : PySem.W.Frag) (H : Hp) : List V → List (List Int) → Prop
  | [], [] => True
  | v :: vs, c :: cs => (∃ t, v = .ref t ∧ SqT K H t (c.map V.int)) ∧ Tots K H vs cs
  | _, _ => False
theorem Tots.mono {K : PySem.W.Frag} {H H' : Hp} (e : Same H H') : ∀ {vs : List V} {cs : List (List Int)}, Tots K H vs cs → Tots K H' vs cs
  | [], [], _ => trivial
  | _ :: _, _ :: _, ⟨⟨t, e1, h⟩, r⟩ => ⟨⟨t, e1, seqT e h⟩, r.mono e⟩
  | [], _ :: _, h => h.elim
  | _ :: _, [], h => h.elim
theorem Tots.len {K : PySem.W.Frag} {H : Hp} : ∀ {vs : List V} {cs : List (List Int)}, Tots K H vs cs → vs.length = cs.length
  | [], [], _ => rfl
  | _ :: _, _ :: _, h => by rw [List.length_cons, List.length_cons, h.2.len]
  | [], _ :: _, h => h.elim
  | _ :: _, [], h => h.elim
theorem Tots.get {K : PySem.W.Frag} {H : Hp} : ∀ {vs : List V} {cs : List (List Int)} {i : Nat} {v : V}, Tots K H vs cs → vs[i]? = some v → ∃ t c, v = .ref t ∧ cs[i]? = some c ∧ SqT K H t (c.map V.int)
  | [], [], _, _, _, h => by simp at h
  | a :: _, c :: _, 0, v, h, e => by
    have e1 : a = v := Option.some.inj e
    subst e1
    obtain ⟨t, e2, q⟩ := h.1
    exact ⟨t, c, e2, rfl, q⟩
  | _ :: vs, _ :: cs, i + 1, v, h, e => h.2.get (i := i) e
  | [], _ :: _, _, _, h, _ => h.elim
  | _ :: _, [], _, _, h, _ => h.elim
/-- what the written part says of the class Table -/
structure TabC (K : PySem.W.Frag) (C : Addr) : Prop where
  c : Cls K C
  nk : NoAttr K C "kinds"
  nt : NoAttr K C "totals"
/-- a table: its names, its totals -/
def Tab (K : PySem.W.Frag) (C : Addr) (H : Hp) (a : Addr) (ks : List Str) (ts : List (List Int)) : Prop :=
  ∃ (dx k t : Addr) (xs : List V), H a = some (.ins C dx [((("kinds" : String) : Str), .ref k), ((("totals" : String) : Str), .ref t)]) ∧ SqT K H k (ks.map V.str) ∧ SqT K H t xs ∧ Tots K H xs ts
theorem Tab.mono {K : PySem.W.Frag} {C a : Addr} {H H' : Hp} {ks : List Str} {ts : List (List Int)} (e : Same H H') (h : Tab K C H a ks ts) : Tab K C H' a ks ts := by
  obtain ⟨dx, k, t, xs, h1, h2, h3, h4⟩ := h
  exact ⟨dx, k, t, xs, e _ _ h1, seqT e h2, seqT e h3, h4.mono e⟩
/-- the totals in which a kind lies -/
def twF (ts : List (List Int)) (kind : Int) (i : Nat) : List Int := ((List.range i).filter fun j => (ts.getD j []).contains kind).map fun j => ((j : Nat) : Int)
def totsWith (ts : List (List Int)) (kind : Int) : List Int := twF ts kind ts.length
def spTotalsWith (K : PySem.W.Frag) (C : Addr) : Sp := fun vs H Q _ => ∃ (a : Addr) (ks : List Str) (ts : List (List Int)) (kind : Int), vs = [.ref a, .int kind] ∧ Tab K C H a ks ts ∧ ts.length ≤ 1000 ∧ ∀ H' u, Same H H' → H u = none → H' u = some (.tup ((totsWith ts kind).map V.int)) → Q (.ref u) H'
theorem twF_yes {ts : List (List Int)} {kind : Int} {i : Nat} {c : List Int} (e : ts[i]? = some c) (h : c.contains kind = true) : twF ts kind (i + 1) = twF ts kind i ++ [(i : Int)] := by
  unfold twF
  have g : ts.getD i [] = c := by rw [List.getD_eq_getElem?_getD, e]; rfl
  rw [List.range_succ, List.filter_append, List.map_append]
  have e2 : [i].filter (fun j => (ts.getD j []).contains kind) = [i] := by simp only [List.filter_cons, g, h, if_true, List.filter_nil]
  rw [e2]
  rfl
theorem twF_no {ts : List (List Int)} {kind : Int} {i : Nat} {c : List Int} (e : ts[i]? = some c) (h : c.contains kind = false) : twF ts kind (i + 1) = twF ts kind i := by
  unfold twF
  have g : ts.getD i [] = c := by rw [List.getD_eq_getElem?_getD, e]; rfl
  rw [List.range_succ, List.filter_append, List.map_append]
  have e2 : [i].filter (fun j => (ts.getD j []).contains kind) = [] := by simp only [List.filter_cons, g, h, if_false, List.filter_nil, Bool.false_eq_true]
  rw [e2]
  exact List.append_nil _
theorem twF_len (ts : List (List Int)) (kind : Int) (i : Nat) : (twF ts kind i).length ≤ i := by
  unfold twF
  rw [List.length_map]
  exact Nat.le_trans (List.length_filter_le _ _) (by rw [List.length_range]; exact Nat.le_refl _)
theorem inV_ints (k : Int) : ∀ cs : List Int, inV (.int k) (cs.map V.int) = cs.contains k
  | [] => rfl
  | c :: cs => by
    have ih := inV_ints k cs
    unfold inV at ih ⊢
    rw [List.map_cons, List.any_cons, ih, List.contains_cons]
    congr 1
    show (c == k) = (k == c)
    rw [Bool.eq_iff_iff, beq_iff_eq, beq_iff_eq]
    exact ⟨Eq.symm, Eq.symm⟩
theorem flat_ints : ∀ cs : List Int, (cs.map V.int).all flatV = true
  | [] => rfl
  | c :: cs => by
    rw [List.map_cons, List.all_cons, flat_ints cs]
    rfl
end CK
namespace CK
open PySem PySem.Spec PyProof.Rows L2 VG FR
def LotOk (n : Int) (c : List Int) : Prop := c.length ≤ 1000 ∧ (∀ x ∈ c, 0 ≤ x ∧ x < n) ∧ Asc c
def spCheckTotals (K : PySem.W.Frag) : Sp := fun vs H Q _ => ∃ (t : Addr) (xs : List V) (ts : List (List Int)) (n : Int), vs = [.ref t, .int n] ∧ SqT K H t xs ∧ Tots K H xs ts ∧ ts.length ≤ 12 ∧ (∀ c ∈ ts, LotOk n c) ∧ ∀ H', Same H H' → Q .non H'
end CK
namespace CK
open PySem PySem.Spec PyProof.Rows L2 VG FR
abbrev cLETTERS : Str := "abcdefghijklmnopqrstuvwxyz"
theorem in_letters (c : Nat) : c ∈ cLETTERS.cps.toList ↔ 97 ≤ c ∧ c ≤ 122 := by
  have e : cLETTERS.cps.toList = (List.range 26).map (· + 97) := by decide +kernel
  rw [e, List.mem_map]
  constructor
  · rintro ⟨a, ha, rfl⟩
    have := List.mem_range.mp ha
    omega
  · intro h
    exact ⟨c - 97, List.mem_range.mpr (by omega), by omega⟩
def NameOk (z : Str) : Prop := 1 ≤ z.cps.size ∧ z.cps.size ≤ 6 ∧ ∀ c ∈ z.cps.toList, 97 ≤ c ∧ c ≤ 122
def spName : Sp := fun vs H Q _ => ∃ z : Str, vs = [.str z] ∧ NameOk z ∧ ∀ H', Same H H' → Q (.bl true) H'
def spNames (K : PySem.W.Frag) : Sp := fun vs H Q _ => ∃ (t : Addr) (ks : List Str), vs = [.ref t] ∧ SqT K H t (ks.map V.str) ∧ ks.length ≤ 1000 ∧ (∀ z ∈ ks, NameOk z) ∧ ∀ H', Same H H' → Q (.bl true) H'
def AscS (ks : List Str) : Prop := ∀ (i : Nat) (a b : Str), ks[i]? = some a → ks[i + 1]? = some b → a.cps.toList < b.cps.toList
theorem asc_strs {ks : List Str} (h : AscS ks) : AscV (ks.map V.str) := by
  intro i x y hx hy
  rw [List.getElem?_map] at hx hy
  obtain ⟨a, ea, rfl⟩ := Option.map_eq_some_iff.mp hx
  obtain ⟨b, eb, rfl⟩ := Option.map_eq_some_iff.mp hy
  exact .inr ⟨a, b, rfl, rfl, h i a b ea eb⟩
def KindsOk (ks : List Str) : Prop := 1 ≤ ks.length ∧ ks.length ≤ 12 ∧ (∀ z ∈ ks, NameOk z) ∧ AscS ks
def spCheckKinds (K : PySem.W.Frag) : Sp := fun vs H Q _ => ∃ (t : Addr) (ks : List Str), vs = [.ref t] ∧ SqT K H t (ks.map V.str) ∧ KindsOk ks ∧ ∀ H', Same H H' → Q .non H'
end CK
namespace CK
open PySem PySem.Spec PyProof.Rows L2 VG FR
/-- __init__ of a right table, at a new instance -/
def spInitT (K : PySem.W.Frag) (C : Addr) : Sp := fun vs H Q _ => ∃ (a dx k t : Addr) (ks : List Str) (xs : List V) (ts : List (List Int)), vs = [.ref a, .ref k, .ref t] ∧ H a = some (.ins C dx []) ∧ SqT K H k (ks.map V.str) ∧ KindsOk ks ∧ SqT K H t xs ∧ Tots K H xs ts ∧ ts.length ≤ 12 ∧
  (∀ c ∈ ts, LotOk ks.length c) ∧ ∀ H', (∀ b o, b ≠ a → H b = some o → H' b = some o) → H' a = some (.ins C dx [((("kinds" : String) : Str), .ref k), ((("totals" : String) : Str), .ref t)]) → Q .non H'
end CK
namespace CK
open PySem PySem.Spec PyProof.Rows L2 VG FR
/-- the numbers below i at which something holds -/
def pick (P : Nat → Bool) (i : Nat) : List Int := ((List.range i).filter P).map fun j => ((j : Nat) : Int)
theorem pick_yes {P : Nat → Bool} {i : Nat} (h : P i = true) : pick P (i + 1) = pick P i ++ [(i : Int)] := by
  unfold pick
  rw [List.range_succ, List.filter_append, List.map_append]
  have e2 : [i].filter P = [i] := by simp only [List.filter_cons, h, if_true, List.filter_nil]
  rw [e2]
  rfl
theorem pick_no {P : Nat → Bool} {i : Nat} (h : P i = false) : pick P (i + 1) = pick P i := by
  unfold pick
  rw [List.range_succ, List.filter_append, List.map_append]
  have e2 : [i].filter P = [] := by simp only [List.filter_cons, h, if_false, List.filter_nil, Bool.false_eq_true]
  rw [e2]
  exact List.append_nil _
theorem pick_len (P : Nat → Bool) (i : Nat) : (pick P i).length ≤ i := by
  unfold pick
  rw [List.length_map]
  exact Nat.le_trans (List.length_filter_le _ _) (by rw [List.length_range]; exact Nat.le_refl _)
def absI (a : Int) : Int := if a < 0 then -a else a
def agrP (one other : List Int) (j : Nat) : Bool := decide (absI (one.getD j 0) = 1) && decide (one.getD j 0 = other.getD j 0)
def agrL (cs ds : List Int) : List Int := pick (agrP cs ds) cs.length
def difL (cs ds : List Int) : List Int := (cs.zip ds).map fun x => x.1 - x.2
end CK
namespace VG
open PySem PySem.Spec PyProof.Rows L2
section
variable {X : Cx} {pins : List (Addr × Obj)} {σ : L2.St} {H : Hp} {s : Shared} {a b : Addr} {r : Value} {d : V} {k : List Key} {A : Around} {E : Value → Shared → Prop}
theorem d_setdT {kvs : List (List Key × V)} {Q : Value → Shared → Prop} (hu : A.units + 1 < cLine) (I : Inv X pins σ H s) (e : H a = some (.dT kvs)) (eb : H b = some (.tup (k.map kV))) (rd : RelV d r) (hl : kvs.length < sizeLine)
    (h1 : ∀ v, valV kvs k = some v → ∀ (w' : Value) (s' : Shared), Inv X pins σ H s' → RelV v w' → Q w' s') (h2 : valV kvs k = none → ∀ (w' : Value) (s' : Shared), Inv X pins σ (upd H a (.dT (putK kvs k d))) s' → RelV d w' → Q w' s') :
    wpAny (model X.prog X.w) A (call (.builtin "dict.setdefault") [.ref a, .ref b, r]) Q E s := by
  obtain ⟨z, hd, xs, rel, dd⟩ := dt_of I.hok e
  have hz : xs.length ≤ sizeLine := by
    rw [← Paired.length rel]
    exact z
  have hl2 : (putK kvs k d).length ≤ sizeLine := by
    have := length_putK kvs k d
    omega
  refine call_setdefault_heap (hsz := hz) (tupleKind_room_in1 hu) (key_of I.hok eb) hd dd (fun p hp => ?_) (fun hn h' dd' hs => ?_)
  · have q := rel.val k
    rw [hp] at q
    cases q0 : valV kvs k with
    | none =>
      rw [q0] at q
      exact (show False from q).elim
    | some v0 =>
      rw [q0] at q
      exact h1 v0 q0 _ _ (I.tok _) q
  · have q := rel.val k
    rw [hn] at q
    cases q0 : valV kvs k with
    | some v0 =>
      rw [q0] at q
      exact (show False from q).elim
    | none =>
      obtain ⟨qo, es, ep, hq, g2, g3, g4, _, g5⟩ := dd'
      refine h2 q0 _ _ (d_write I (by rw [e]; exact True.intro) hs ⟨qo, hq⟩ ⟨hl2, hd, _, (rel.put k eb rd).keeps fun c ys ec => ?_, qo, es, ep, hq, g2, g3, g4, g5⟩) rd
      rw [upd_ne (ne_of ec e (fun z => nomatch z))]
      exact ec
end
def tDSetT (td ty tx : TE) : TE := fun σ H Q => td σ H fun x H1 => ∃ a, x = .ref a ∧ IsD H1 a ∧ ty σ H1 fun y H2 => tx σ H2 fun z H3 => ∃ (kvs : List (List Key × V)) (k : List Key) (b : Addr), H3 a = some (.dT kvs) ∧ y = .ref b ∧ H3 b = some (.tup (k.map kV)) ∧ kvs.length < sizeLine ∧
  (∀ v, valV kvs k = some v → Q v H3) ∧ (valV kvs k = none → Q z (upd H3 a (.dT (putK kvs k z))))
section
variable {X : Cx} {o e f : Expr} {td ty tx : TE} {apos cpos : Pos}
theorem pe_dsetT (hu : X.A.units + 1 < cLine) (ho : PE X o td) (he : PE X e ty) (hf : PE X f tx) (m : M2 X o "setdefault" apos e f cpos) : PE X (.Call (.Attribute o "setdefault" apos) [e, f] [] cpos) (tDSetT td ty tx) := by
  refine ⟨fun pins s σ H Q I h => ?_⟩
  refine wpAny_Call_method m.base m.few m.line PySem.F.plainAttrs_dict PySem.F.slot_dict_setdefault PySem.F.type_dict_setdefault (thn (ho.run pins s σ H _ I h) fun u s1 ⟨x, H1, I1, rx, a, ex, d, q1⟩ => ?_)
  subst ex
  obtain rfl : u = Value.ref a := rx
  obtain ⟨t1, t2, _⟩ := isD_at I1 d
  refine ⟨t1, t2, ?_⟩
  rw [m.trees]
  refine Calls.callWith_builtin rfl (Calls.evalArgs_plain (Calls.spliced_cons (thn (he.run pins s1 σ H1 _ I1 q1) fun iv s2 ⟨y, H2, I2, ry, q2⟩ =>
    Calls.spliced_cons (thn (hf.run pins s2 σ H2 _ I2 q2) fun fv s3 ⟨z, H3, I3, rz, kvs, k, b, ea, ey, eb, hl, q3, q4⟩ => Calls.spliced_nil ?_))))
  subst ey
  obtain rfl : iv = Value.ref b := ry
  exact d_setdT hu I3 ea eb rz hl (fun v hv w' s4 I4 rw' => ⟨v, _, I4, rw', q3 v hv⟩) fun hn w' s4 I4 rw' => ⟨z, _, I4, rw', q4 hn⟩
end
end VG
namespace VG
open PySem PySem.Spec PyProof.Rows L2
section
variable {X : Cx} {pins : List (Addr × Obj)} {σ : L2.St} {H : Hp} {s : Shared} {d : Addr} {o : Obj}
theorem frzT2 {kvs : List (List Key × V)} (I : Inv X pins σ H s) (h : H d = some (.frz o (.dT kvs))) :
    (d == sysModules) = false ∧ s.heap.get? d = some o ∧ o.ExactDict ∧ ∃ (es : Array DictEntry) (ep : Nat), o.data = .dict es ep ∧ es.size = kvs.length ∧
      ∀ (i : Nat) (k : List Key) (v : V), kvs[i]? = some (k, v) → ∃ (en : DictEntry) (q : Addr), es[i]? = some en ∧ en.key = .ref q ∧ H q = some (.tup (k.map kV)) ∧ RelV v en.val := by
  obtain ⟨hd, z, hs, xs, pr, o', es, ep, ho, hx, hdt, he, _⟩ := I.hok d _ h
  rw [hd] at ho
  cases ho
  refine ⟨hs, hd, hx, es, ep, hdt, ?_, fun i k v e => ?_⟩
  · have l1 : es.size = xs.length := size_of_entries he
    have l2 : kvs.length = xs.length := Paired.length pr
    omega
  · obtain ⟨b, hb, e1, e2, e3⟩ := L2.paired_get pr e
    have q := entry_at he i
    rw [hb] at q
    exact ⟨_, b.2.1, q, rfl, e2, e3⟩
end
/-- the pairs, the key its own tuple, each pair a new one -/
def ItiT (d : Addr) (o : Obj) (kvs : List (List Key × V)) : It :=
  ⟨fun i H => H d = some (.frz o (.dT kvs)) ∧ i < kvs.length, fun i H x H' => ∃ (T : Addr) (k : List Key) (v : V) (q : Addr), kvs[i]? = some (k, v) ∧ x = .ref T ∧ H q = some (.tup (k.map kV)) ∧ H T = none ∧ H' = upd H T (.tup [.ref q, v]), fun i H => H d = some (.frz o (.dT kvs)) ∧ kvs.length ≤ i⟩
section
variable {P : Program} {w : World} {K : PySem.W.Frag} {d : Addr} {o : Obj} {es : Array DictEntry} {ep : Nat}
theorem turn_itemsT {kvs : List (List Key × V)} {elts : List Expr} {kk : Nat} {tpos : Pos} (it : Addr) (hod : o.data = .dict es ep) :
    Turn P w K (.Tuple elts kk tpos) (ItiT d o kvs) [it] it (fun i h => ∃ ok ov, IsItemIter h it d i kvs.length ep ok ov) where
  mem := by simp
  obj := fun i h st b hb => by
    have e : b = it := by simpa using hb
    subst e
    obtain ⟨ok, ov, e⟩ := st
    exact ⟨_, e, fun v z => nomatch z⟩
  keep := fun i h h' st k => let ⟨ok, ov, e⟩ := st; ⟨ok, ov, k it (by simp) _ e⟩
  item := by
    intro X hP hw hK hc i pins s σ H E I hf st hg
    subst hP hw hK
    obtain ⟨hd, hi⟩ := hg
    obtain ⟨hs, hgd, hx, es', ep', hdt, hsz, ent⟩ := frzT2 I hd
    obtain ⟨rfl, rfl⟩ := L2.dict_ep hod hdt
    obtain ⟨⟨k, v⟩, hkv⟩ : ∃ p, kvs[i]? = some p := ⟨kvs[i], List.getElem?_eq_getElem hi⟩
    obtain ⟨en, q, hen, hkey, hq, hv⟩ := ent i k v hkv
    obtain ⟨ok, ov, he⟩ := st
    have hlt : it < s.heap.objs.size := Heap.lt_size he
    have hie : i < es'.size := by omega
    have eget : es'[i] = en := by
      have z : es'[i]? = some es'[i] := Array.getElem?_eq_getElem hie
      rw [z] at hen
      exact Option.some.inj hen
    rw [← hsz] at he
    refine wpAny_pyNext_items_item_raw he ⟨o, hgd, hx, hdt⟩ hie fun h' ho hT hz hk => ?_
    rw [eget] at ho hT
    refine ⟨_, rfl, wpAny_letOwnedTupleGo_items (s := { s with heap := h' }) ho fun h'' he' sb => ?_⟩
    have hT2 : h''.get? s.heap.objs.size = some { cls := .type "tuple", data := .seq #[en.key, en.val] } := (sb.2 _ (Nat.ne_of_gt hlt)).trans hT
    have new : ObjOk X.prog X.w (upd H s.heap.objs.size (.tup [.ref q, v])) h'' s.heap.objs.size (.tup [.ref q, v]) :=
      ⟨by show 2 ≤ sizeLine; decide, [en.key, en.val], .cons hkey (.cons hv .nil), ⟨_, hT2, rfl, _, rfl⟩⟩
    have I1 : Inv X pins σ (upd H s.heap.objs.size (.tup [.ref q, v])) { s with heap := h'' } :=
      I.turnedNew (t' := s.toks) (ch := [it]) (fun b ob hb e => (sb.2 b (by simpa using hb)).trans (hk b ob (by simpa using hb) e)) hf (Nat.le_refl _) new
    refine ⟨.ref s.heap.objs.size, _, I1, rfl, ⟨_, k, v, q, hkv, rfl, hq, I.hok.fresh (Nat.le_refl _), rfl⟩, ⟨en.key, en.val, ?_⟩, fun b hb => ?_⟩
    · rw [← hsz]
      exact he'
    · have e : b = it := by simpa using hb
      rw [e, upd_ne (Nat.ne_of_lt hlt)]
      exact (hf it (by simp)).1
  done := by
    intro X hP hw hK hc i pins s σ H E I hf st hg
    subst hP hw hK
    obtain ⟨hd, hi⟩ := hg
    obtain ⟨f0, f1, f2, f3, f4, f5⟩ := hf it (by simp)
    obtain ⟨hs, hgd, hx, es', ep', hdt, hsz, ent⟩ := frzT2 I hd
    obtain ⟨rfl, rfl⟩ := L2.dict_ep hod hdt
    obtain ⟨ok, ov, he⟩ := st
    rw [← hsz] at he
    exact wpAny_pyNext_items_end_raw (I.ok.hd hc) he ⟨o, hgd, hx, hdt⟩ (by omega) fun h' eb => ⟨rfl, I.turned (t' := s.toks) (fun b ob hb e => eb b ob hb e) f0 f1 f3 f4 f5⟩
  self := fun A i s Q E st h => let ⟨_, _, e⟩ := st; PySem.W.kcp_self e h
end
def iItemsT (td : TE) : TI := fun σ H R => td σ H fun x H1 => ∃ d o kvs, x = .ref d ∧ H1 d = some (.frz o (.dT kvs)) ∧ R (ItiT d o kvs) H1
section
variable {X : Cx} {e : Expr} {td : TE} {apos cpos : Pos}
theorem pi_itemsT {elts : List Expr} {kk : Nat} {tpos : Pos} (he : PE X e td) (hbase : attributeBase e "items" X.env (eval e X.env) = eval e X.env := by rfl) (hline : (apos.endLine == cpos.line) = true := by rfl) :
    PI X (.Tuple elts kk tpos) (.Call (.Attribute e "items" apos) [] [] cpos) (iItemsT td) := by
  refine ⟨fun pins s σ H R I h => ?_⟩
  refine wpAny_Call_method (T := "dict") (id := "dict.items") hbase rfl hline F.plainAttrs_dict F.slot_dict_items F.type_dict_items (thn (he.run pins s σ H _ I h) fun u s1 ⟨x, H1, I1, rx, d, o, kvs, ex, hd, q⟩ => ?_)
  subst ex
  obtain rfl : u = Value.ref d := rx
  obtain ⟨hs, hgd, hx, es, ep, hdt, hsz, ent⟩ := frzT2 I1 hd
  have raw : s1.heap.DictRaw d es ep := ⟨o, hgd, hx, hdt⟩
  refine ⟨raw.typeIs, fun b eb => ?_, ?_⟩
  · cases eb
    exact ⟨o, hgd, hx.2.1⟩
  have I2 : Inv X pins σ H1 { s1 with heap := s1.heap.push { cls := .type "dict_items", data := .fields #[.ref d] } } := I1.kept (t' := s1.toks) fun b ob q => Heap.get?_push_of_some _ q
  have fin : wpAny (model X.prog X.w) X.A (pyIter (.ref s1.heap.objs.size)) (PIE X pins σ (.Tuple elts kk tpos) R) X.xe { s1 with heap := s1.heap.push { cls := .type "dict_items", data := .fields #[.ref d] } } := by
    refine wpAny_pyIter_items_raw (d := d) ⟨_, Heap.get?_push_size _ rfl, rfl, rfl⟩ (raw.at fun o e => Heap.get?_push_of_some _ e) (pi_one (tk := s1.toks) I2 _ (turn_itemsT _ hdt) ⟨.none, .none, ?_⟩ q)
    rw [hsz]
    exact Heap.get?_push_size _ rfl
  show wpAny _ _ (callWith cpos (.builtin "dict.items") [.ref d] [] []) _ X.xe s1
  exact method_meetsIn F.slot_dict_items F.entry_dict_items rfl (PySem.evalArgs_none ⟨rfl, raw.typeIs, F.args_dict_items_1 _, _, meets_dict_items_raw d hs, ⟨⟨es, ep, raw⟩, fin⟩⟩)
end
/-- truth, the written part told -/
def tTru (K : PySem.W.Frag) (ta : TE) : TT := fun σ H Q => ta σ H fun x H' => ∃ k, TruV K x H' k ∧ Q k H'
theorem pt_tru {X : Cx} {K : PySem.W.Frag} {a : Expr} {ta : TE} (hK : X.K = K) (ha : PE X a ta) (he : ∀ whole, isTrue a X.env whole = (do let v ← whole; standAt a.pos; holding [v] (truthy v))) : PT X a (tTru K ta) := by
  subst hK
  exact pt_truth ha he
/-- tuple(x), the written part told -/
def rTupOf (K : PySem.W.Frag) : List V → Hp → VK → Prop := fun xs H Q => ∃ p ys, xs = [.ref p] ∧ ((SqL K H p ys ∧ ∀ l, H l = none → Q (.ref l) (L2.upd H l (.tup ys))) ∨ SqT K H p ys ∧ Q (.ref p) H)
theorem call_tupK {X : Cx} : CallR X (.type "tuple") (rTupOf X.K) := call_tuple_of
theorem units1 {k : Nat} {A : Around} (hr : Room k A) : A.units + 1 < cLine := by
  have := hr.un
  omega
theorem walk_itemsT {d : Addr} {o : Obj} {kvs : List (List Key × V)} : Walk (ItiT d o kvs) kvs.length (fun H => H d = some (.frz o (.dT kvs))) (fun i H x H' => ∃ (T : Addr) (k : List Key) (v : V) (q : Addr), kvs[i]? = some (k, v) ∧ x = .ref T ∧ H q = some (.tup (k.map kV)) ∧ H T = none ∧ H' = L2.upd H T (.tup [.ref q, v])) := by
  constructor
  · intro i H hi hG
    exact ⟨hG, hi⟩
  · intro H hG
    exact ⟨hG, Nat.le_refl _⟩
  · intro i H v H' hi hG hy
    exact hy
end VG
namespace CK
open PySem PySem.Spec PyProof.Rows L2 VG FR
def kI (c : List Int) : List L2.Key := c.map fun x => (Sum.inl x : L2.Key)
theorem kI_inj {a b : List Int} (h : kI a = kI b) : a = b := by
  unfold kI at h
  induction a generalizing b with
  | nil =>
    cases b with
    | nil => rfl
    | cons y ys => cases h
  | cons x xs ih =>
    cases b with
    | nil => cases h
    | cons y ys =>
      rw [List.map_cons, List.map_cons] at h
      obtain ⟨h1, h2⟩ := List.cons.inj h
      rw [Sum.inl.inj h1, ih h2]
theorem kI_kV (c : List Int) : (kI c).map kV = c.map V.int := by
  unfold kI
  rw [List.map_map]
  rfl
/-- the keys in the sequence in which they come about -/
def keysOf (f : Nat → List Int) : Nat → List (List Int)
  | 0 => []
  | n + 1 => if f n ∈ keysOf f n then keysOf f n else keysOf f n ++ [f n]
theorem keys_mem (f : Nat → List Int) : ∀ {n j : Nat}, j < n → f j ∈ keysOf f n
  | n + 1, j, h => by
    unfold keysOf
    by_cases e : f n ∈ keysOf f n
    · rw [if_pos e]
      rcases Nat.lt_or_ge j n with z | z
      · exact keys_mem f z
      · have : j = n := by omega
        subst this
        exact e
    · rw [if_neg e]
      rcases Nat.lt_or_ge j n with z | z
      · exact List.mem_append_left _ (keys_mem f z)
      · have : j = n := by omega
        subst this
        exact List.mem_append_right _ (List.mem_singleton.mpr rfl)
theorem keys_nodup (f : Nat → List Int) : ∀ n, (keysOf f n).Nodup
  | 0 => List.nodup_nil
  | n + 1 => by
    unfold keysOf
    by_cases e : f n ∈ keysOf f n
    · rw [if_pos e]
      exact keys_nodup f n
    · rw [if_neg e]
      exact List.nodup_append.mpr ⟨keys_nodup f n, by simp, fun a ha b hb => by
        have : b = f n := List.mem_singleton.mp hb
        subst this
        exact fun z => e (z ▸ ha)⟩
theorem keys_len (f : Nat → List Int) : ∀ n, (keysOf f n).length ≤ n
  | 0 => Nat.le_refl _
  | n + 1 => by
    unfold keysOf
    have := keys_len f n
    split
    · omega
    · rw [List.length_append, List.length_singleton]
      omega
def memb (f : Nat → List Int) (c : List Int) (j : Nat) : Bool := decide (f j = c)
/-- the dict's entries -/
def mkKvs : List (List Int) → List Addr → List (List L2.Key × V)
  | c :: cs, l :: ls => (kI c, .ref l) :: mkKvs cs ls
  | _, _ => []
theorem mk_len : ∀ {cs : List (List Int)} {ls : List Addr}, cs.length = ls.length → (mkKvs cs ls).length = cs.length
  | [], [], _ => rfl
  | _ :: cs, _ :: ls, h => by
    show (mkKvs cs ls).length + 1 = cs.length + 1
    rw [mk_len (Nat.succ.inj h)]
  | [], _ :: _, h => by cases h
  | _ :: _, [], h => by cases h
theorem mk_val {c : List Int} : ∀ {cs : List (List Int)} {ls : List Addr} {v : V}, cs.length = ls.length → valV (mkKvs cs ls) (kI c) = some v → ∃ (i : Nat) (l : Addr), cs[i]? = some c ∧ ls[i]? = some l ∧ v = .ref l
  | [], [], v, _, h => by cases h
  | d :: cs, l :: ls, v, e, h => by
    by_cases q : kI d = kI c
    · have q2 := kI_inj q
      subst q2
      have : valV (mkKvs (d :: cs) (l :: ls)) (kI d) = some (.ref l) := valV_pos (p := (kI d, V.ref l)) rfl
      rw [this] at h
      exact ⟨0, l, rfl, rfl, (Option.some.inj h).symm⟩
    · have : valV (mkKvs (d :: cs) (l :: ls)) (kI c) = valV (mkKvs cs ls) (kI c) := valV_neg (p := (kI d, V.ref l)) q
      rw [this] at h
      obtain ⟨i, m, h1, h2, h3⟩ := mk_val (Nat.succ.inj e) h
      exact ⟨i + 1, m, h1, h2, h3⟩
  | [], _ :: _, _, h, _ => by cases h
  | _ :: _, [], _, h, _ => by cases h
theorem mk_none {c : List Int} : ∀ {cs : List (List Int)} {ls : List Addr}, cs.length = ls.length → valV (mkKvs cs ls) (kI c) = none → c ∉ cs
  | [], [], _, _ => List.not_mem_nil
  | d :: cs, l :: ls, e, h => by
    by_cases q : kI d = kI c
    · have : valV (mkKvs (d :: cs) (l :: ls)) (kI c) = some (.ref l) := valV_pos (p := (kI d, V.ref l)) q
      rw [this] at h
      cases h
    · have : valV (mkKvs (d :: cs) (l :: ls)) (kI c) = valV (mkKvs cs ls) (kI c) := valV_neg (p := (kI d, V.ref l)) q
      rw [this] at h
      have ih := mk_none (Nat.succ.inj e) h
      intro z
      rcases List.mem_cons.mp z with z | z
      · subst z
        exact q rfl
      · exact ih z
  | [], _ :: _, h, _ => by cases h
  | _ :: _, [], h, _ => by cases h
theorem mk_snoc {c : List Int} {l : Addr} : ∀ {cs : List (List Int)} {ls : List Addr}, cs.length = ls.length → mkKvs (cs ++ [c]) (ls ++ [l]) = mkKvs cs ls ++ [(kI c, .ref l)]
  | [], [], _ => rfl
  | d :: cs, m :: ls, e => by
    show (kI d, V.ref m) :: mkKvs (cs ++ [c]) (ls ++ [l]) = _
    rw [mk_snoc (Nat.succ.inj e)]
    rfl
  | [], _ :: _, h => by cases h
  | _ :: _, [], h => by cases h
theorem mk_put {c : List Int} {l : Addr} {cs : List (List Int)} {ls : List Addr} (e : cs.length = ls.length) (h : valV (mkKvs cs ls) (kI c) = none) : putK (mkKvs cs ls) (kI c) (.ref l) = mkKvs (cs ++ [c]) (ls ++ [l]) := by
  unfold putK
  rw [valV_any, h]
  rw [if_neg (by simp), mk_snoc e]
theorem mk_get : ∀ {cs : List (List Int)} {ls : List Addr} {i : Nat} {k : List L2.Key} {v : V}, cs.length = ls.length → (mkKvs cs ls)[i]? = some (k, v) → ∃ c l, cs[i]? = some c ∧ ls[i]? = some l ∧ k = kI c ∧ v = .ref l
  | [], [], _, _, _, _, h => by cases h
  | d :: cs, l :: ls, 0, k, v, e, h => by
    have q : (kI d, V.ref l) = (k, v) := Option.some.inj h
    obtain ⟨q1, q2⟩ := Prod.mk.inj q
    exact ⟨d, l, rfl, rfl, q1.symm, q2.symm⟩
  | d :: cs, l :: ls, i + 1, k, v, e, h => mk_get (i := i) (Nat.succ.inj e) h
  | [], _ :: _, _, _, _, h, _ => by cases h
  | _ :: _, [], _, _, _, h, _ => by cases h
end CK
namespace CK
open PySem PySem.Spec PyProof.Rows L2 VG FR
def fT (ts : List (List Int)) (j : Nat) : List Int := totsWith ts j
def classesL (ts : List (List Int)) (n : Nat) : List (List Int) := ((keysOf (fT ts) n).filter fun c => !c.isEmpty).map fun c => pick (memb (fT ts) c) n
def spClasses (K : PySem.W.Frag) (C : Addr) : Sp := fun vs H Q _ => ∃ (a : Addr) (ks : List Str) (ts : List (List Int)), vs = [.ref a] ∧ Tab K C H a ks ts ∧ ts.length ≤ 1000 ∧ ks.length ≤ 1000 ∧
  ∀ H' u xs, Same H H' → H u = none → H' u = some (.tup xs) → Tots K H' xs (classesL ts ks.length) → Q (.ref u) H'
/-- the groups in the heap, behind i kinds -/
structure Grp (H0 H : Hp) (D : Addr) (f : Nat → List Int) (i : Nat) (ls : List Addr) : Prop where
  d : H D = some (.dT (mkKvs (keysOf f i) ls))
  len : (keysOf f i).length = ls.length
  nd : ls.Nodup
  new : ∀ l ∈ ls, H0 l = none
  at_ : ∀ (j : Nat) (c : List Int) (l : Addr), (keysOf f i)[j]? = some c → ls[j]? = some l → H l = some (.lst ((pick (memb f c) i).map V.int))
theorem Grp.mono {H0 H H' : Hp} {D : Addr} {f : Nat → List Int} {i : Nat} {ls : List Addr} (g : Grp H0 H D f i ls) (e : Same H H') : Grp H0 H' D f i ls :=
  ⟨e _ _ g.d, g.len, g.nd, g.new, fun j c l h1 h2 => e _ _ (g.at_ j c l h1 h2)⟩
theorem pick_nil {P : Nat → Bool} {i : Nat} (h : ∀ j, j < i → P j = false) : pick P i = [] := by
  unfold pick
  have e : (List.range i).filter P = [] := List.filter_eq_nil_iff.mpr fun j hj => by
    rw [h j (List.mem_range.mp hj)]
    exact Bool.false_ne_true
  rw [e]
  rfl
theorem nodup_at {α : Type} : ∀ {l : List α} {i j : Nat} {x : α}, l.Nodup → l[i]? = some x → l[j]? = some x → i = j
  | [], _, _, _, _, h, _ => by simp at h
  | a :: l, 0, 0, _, _, _, _ => rfl
  | a :: l, 0, j + 1, x, n, h, k => by
    have e : a = x := Option.some.inj h
    subst e
    exact absurd (List.mem_of_getElem? (l := l) (i := j) k) (List.nodup_cons.mp n).1
  | a :: l, i + 1, 0, x, n, h, k => by
    have e : a = x := Option.some.inj k
    subst e
    exact absurd (List.mem_of_getElem? (l := l) (i := i) h) (List.nodup_cons.mp n).1
  | a :: l, i + 1, j + 1, x, n, h, k => by rw [nodup_at (l := l) (i := i) (j := j) (List.nodup_cons.mp n).2 h k]
/-- one more kind, of a group that is there -/
theorem Grp.old {H0 H : Hp} {D l : Addr} {f : Nat → List Int} {i j : Nat} {ls : List Addr} (g : Grp H0 H D f i ls) (h1 : (keysOf f i)[j]? = some (f i)) (h2 : ls[j]? = some l) :
    Grp H0 (L2.upd H l (.lst ((pick (memb f (f i)) i).map V.int ++ [V.int (i : Int)]))) D f (i + 1) ls := by
  have hl := g.at_ j _ l h1 h2
  have ek : keysOf f (i + 1) = keysOf f i := by
    show (if f i ∈ keysOf f i then keysOf f i else keysOf f i ++ [f i]) = _
    rw [if_pos (List.mem_of_getElem? h1)]
  refine ⟨?_, by rw [ek]; exact g.len, g.nd, g.new, ?_⟩
  · rw [ek, upd_ne (ne_of g.d hl (fun z => nomatch z))]
    exact g.d
  · intro m c l' k1 k2
    rw [ek] at k1
    by_cases e : m = j
    · subst e
      have e1 : c = f i := Option.some.inj (k1.symm.trans h1)
      have e2 : l' = l := Option.some.inj (k2.symm.trans h2)
      subst e1 e2
      rw [upd_same, pick_yes (by unfold memb; exact decide_eq_true rfl), List.map_append]
      rfl
    · have nl : l' ≠ l := fun z => by
        subst z
        exact e (nodup_at g.nd k2 h2)
      have nc : c ≠ f i := fun z => by
        subst z
        exact e (nodup_at (keys_nodup f i) k1 h1)
      rw [upd_ne nl, pick_no (by unfold memb; exact decide_eq_false (fun z => nc z.symm))]
      exact g.at_ m c l' k1 k2
/-- one more kind, of a new group -/
theorem Grp.fresh {H0 H : Hp} {D L : Addr} {f : Nat → List Int} {i : Nat} {ls : List Addr} (g : Grp H0 H D f i ls) (n : f i ∉ keysOf f i) (nL : H L = none) (n0 : H0 L = none) :
    Grp H0 (L2.upd (L2.upd (L2.upd H L (.lst [])) D (.dT (mkKvs (keysOf f i ++ [f i]) (ls ++ [L])))) L (.lst [V.int (i : Int)])) D f (i + 1) (ls ++ [L]) := by
  have ek : keysOf f (i + 1) = keysOf f i ++ [f i] := by
    show (if f i ∈ keysOf f i then keysOf f i else keysOf f i ++ [f i]) = _
    rw [if_neg n]
  have nDL : D ≠ L := ne_of_none g.d nL
  have there : ∀ l ∈ ls, l ≠ L ∧ l ≠ D := by
    intro l hl
    obtain ⟨j, ej⟩ := List.mem_iff_getElem?.mp hl
    have hj : j < (keysOf f i).length := by
      have := (List.getElem?_eq_some_iff.mp ej).1
      rw [g.len]
      exact this
    have h := g.at_ j _ l (List.getElem?_eq_getElem hj) ej
    exact ⟨ne_of_none h nL, ne_of h g.d (fun z => nomatch z)⟩
  refine ⟨?_, ?_, ?_, ?_, ?_⟩
  · rw [upd_ne nDL, upd_same, ek]
  · rw [ek, List.length_append, List.length_append, g.len]
    rfl
  · exact List.nodup_append.mpr ⟨g.nd, by simp, fun a ha b hb => by
      have : b = L := List.mem_singleton.mp hb
      subst this
      exact (there a ha).1⟩
  · intro l hl
    rcases List.mem_append.mp hl with z | z
    · exact g.new l z
    · have : l = L := List.mem_singleton.mp z
      subst this
      exact n0
  · intro j c l k1 k2
    rw [ek] at k1
    rcases Nat.lt_or_ge j ls.length with z | z
    · rw [List.getElem?_append_left (by rw [g.len]; exact z)] at k1
      rw [List.getElem?_append_left z] at k2
      have th := there l (List.mem_of_getElem? k2)
      have nc : f i ≠ c := fun q => n (q ▸ List.mem_of_getElem? k1)
      rw [upd_ne th.1, upd_ne th.2, upd_ne th.1, pick_no (by unfold memb; exact decide_eq_false nc)]
      exact g.at_ j c l k1 k2
    · rw [List.getElem?_append_right (by rw [g.len]; exact z)] at k1
      rw [List.getElem?_append_right z] at k2
      rw [g.len] at k1
      have j0 : j - ls.length = 0 := by
        have := (List.getElem?_eq_some_iff.mp k2).1
        rw [List.length_singleton] at this
        omega
      rw [j0] at k1 k2
      have e1 : f i = c := Option.some.inj k1
      have e2 : L = l := Option.some.inj k2
      subst e1 e2
      have p0 : pick (memb f (f i)) i = [] := pick_nil fun j hj => by
        unfold memb
        exact decide_eq_false (fun q => n (q ▸ keys_mem f hj))
      rw [upd_same, pick_yes (by unfold memb; exact decide_eq_true rfl), p0]
      rfl
end CK
namespace CK
open PySem PySem.Spec PyProof.Rows L2 VG FR
theorem seqT_unlock {K : PySem.W.Frag} {H : Hp} {D t : Addr} {od : Obj} {kvs : List (List L2.Key × V)} {o : HO} {xs : List V} (hD : H D = some (.frz od (.dT kvs))) (h : SqT K H t xs) : SqT K (L2.upd H D o) t xs := by
  rcases h with (h | ⟨o', h⟩) | h
  · exact .inl (.inl (by rw [upd_ne (ne_of h hD (fun z => nomatch z))]; exact h))
  · exact .inl (.inr ⟨o', by rw [upd_ne (ne_of h hD (fun z => by cases z))]; exact h⟩)
  · exact .inr h
theorem Tots.unlock {K : PySem.W.Frag} {H : Hp} {D : Addr} {od : Obj} {kvs : List (List L2.Key × V)} {o : HO} (hD : H D = some (.frz od (.dT kvs))) : ∀ {vs : List V} {cs : List (List Int)}, Tots K H vs cs → Tots K (L2.upd H D o) vs cs
  | [], [], _ => trivial
  | _ :: _, _ :: _, ⟨⟨t, e1, h⟩, r⟩ => ⟨⟨t, e1, seqT_unlock hD h⟩, Tots.unlock hD r⟩
  | [], _ :: _, h => h.elim
  | _ :: _, [], h => h.elim
theorem Tots.snoc {K : PySem.W.Frag} {H : Hp} {t : Addr} {c : List Int} (hv : SqT K H t (c.map V.int)) : ∀ {vs : List V} {cs : List (List Int)}, Tots K H vs cs → Tots K H (vs ++ [.ref t]) (cs ++ [c])
  | [], [], _ => ⟨⟨t, rfl, hv⟩, trivial⟩
  | _ :: _, _ :: _, h => ⟨h.1, Tots.snoc hv h.2⟩
  | [], _ :: _, h => h.elim
  | _ :: _, [], h => h.elim
theorem Tots.upd {K : PySem.W.Frag} {H : Hp} {D : Addr} {ys zs : List V} (hD : H D = some (.lst ys)) : ∀ {vs : List V} {cs : List (List Int)}, Tots K H vs cs → Tots K (L2.upd H D (.lst zs)) vs cs
  | [], [], _ => trivial
  | _ :: _, _ :: _, ⟨⟨t, e1, h⟩, r⟩ => ⟨⟨t, e1, seqT_upd hD h⟩, Tots.upd hD r⟩
  | [], _ :: _, h => h.elim
  | _ :: _, [], h => h.elim
/-- what has come about behind i groups -/
def outL (f : Nat → List Int) (n i : Nat) : List (List Int) := (((keysOf f n).take i).filter fun c => !c.isEmpty).map fun c => pick (memb f c) n
theorem out_yes {f : Nat → List Int} {n i : Nat} {c : List Int} (e : (keysOf f n)[i]? = some c) (h : (!c.isEmpty) = true) : outL f n (i + 1) = outL f n i ++ [pick (memb f c) n] := by
  unfold outL
  rw [List.take_add_one, e, List.filter_append, List.map_append]
  have e2 : (some c).toList.filter (fun c => !c.isEmpty) = [c] := by
    show [c].filter _ = _
    simp only [List.filter_cons, h, if_true, List.filter_nil]
  rw [e2]
  rfl
theorem out_no {f : Nat → List Int} {n i : Nat} {c : List Int} (e : (keysOf f n)[i]? = some c) (h : (!c.isEmpty) = false) : outL f n (i + 1) = outL f n i := by
  unfold outL
  rw [List.take_add_one, e, List.filter_append, List.map_append]
  have e2 : (some c).toList.filter (fun c => !c.isEmpty) = [] := by
    show [c].filter _ = _
    simp only [List.filter_cons, h, if_false, List.filter_nil, Bool.false_eq_true]
  rw [e2]
  exact List.append_nil _
end CK
namespace CK
open PySem PySem.Spec PyProof.Rows L2 VG FR
theorem seqT_at {K : PySem.W.Frag} {H : Hp} {D t : Addr} {o o0 : HO} {xs : List V} (hD : H D = some o0) (h1 : ∀ ys, HO.tup ys ≠ o0) (h2 : ∀ od ys, HO.frz od (.tup ys) ≠ o0) (h : SqT K H t xs) : SqT K (L2.upd H D o) t xs := by
  rcases h with (h | ⟨o', h⟩) | h
  · exact .inl (.inl (by rw [upd_ne (ne_of h hD (h1 _))]; exact h))
  · exact .inl (.inr ⟨o', by rw [upd_ne (ne_of h hD (h2 _ _))]; exact h⟩)
  · exact .inr h
theorem Tots.at_ {K : PySem.W.Frag} {H : Hp} {D : Addr} {o o0 : HO} (hD : H D = some o0) (h1 : ∀ ys, HO.tup ys ≠ o0) (h2 : ∀ od ys, HO.frz od (.tup ys) ≠ o0) : ∀ {vs : List V} {cs : List (List Int)}, Tots K H vs cs → Tots K (L2.upd H D o) vs cs
  | [], [], _ => trivial
  | _ :: _, _ :: _, ⟨⟨t, e1, h⟩, r⟩ => ⟨⟨t, e1, seqT_at hD h1 h2 h⟩, Tots.at_ hD h1 h2 r⟩
  | [], _ :: _, h => h.elim
  | _ :: _, [], h => h.elim
abbrev Nums := List (L2.Key × V)
def putRow (g : Nums) (at_ : Nat) (c : List Int) : Nums := c.foldl (fun g k => putK g (Sum.inl k : L2.Key) (V.int (at_ : Int))) g
def numF (cs : List (List Int)) : Nat → Nums
  | 0 => []
  | i + 1 => putRow (numF cs i) i (cs.getD i [])
/-- the number of a kind's class, None if it has none -/
def numV (cs : List (List Int)) (k : Int) : V := (valV (numF cs cs.length) (Sum.inl k : L2.Key)).getD .non
theorem row_len (at_ : Nat) : ∀ (c : List Int) (g : Nums), (putRow g at_ c).length ≤ g.length + c.length
  | [], g => Nat.le_refl _
  | k :: c, g => by
    have h := row_len at_ c (putK g (Sum.inl k : L2.Key) (V.int (at_ : Int)))
    have h2 := length_putK g (Sum.inl k : L2.Key) (V.int (at_ : Int))
    show (putRow (putK g _ _) at_ c).length ≤ _
    rw [List.length_cons]
    omega
theorem num_len {cs : List (List Int)} (h : ∀ c ∈ cs, c.length ≤ 1000) : ∀ i, i ≤ cs.length → (numF cs i).length ≤ i * 1000
  | 0, _ => Nat.le_refl _
  | i + 1, hi => by
    have ih := num_len h i (by omega)
    have hc : (cs.getD i []).length ≤ 1000 := by
      rw [List.getD_eq_getElem?_getD, List.getElem?_eq_getElem (by omega)]
      exact h _ (List.getElem_mem _)
    have := row_len i (cs.getD i []) (numF cs i)
    show (putRow (numF cs i) i (cs.getD i [])).length ≤ _
    rw [Nat.succ_mul]
    omega
theorem row_take {g : Nums} {at_ i : Nat} {c : List Int} {k : Int} (e : c[i]? = some k) : putRow g at_ (c.take (i + 1)) = putK (putRow g at_ (c.take i)) (Sum.inl k : L2.Key) (V.int (at_ : Int)) := by
  unfold putRow
  rw [List.take_add_one, e, List.foldl_append]
  rfl
theorem classes_len (ts : List (List Int)) (n : Nat) : (classesL ts n).length ≤ n ∧ ∀ c ∈ classesL ts n, c.length ≤ n := by
  constructor
  · unfold classesL
    rw [List.length_map]
    exact Nat.le_trans (List.length_filter_le _ _) (keys_len _ n)
  · intro c hc
    unfold classesL at hc
    obtain ⟨k, _, rfl⟩ := List.mem_map.mp hc
    exact pick_len _ n
def spNumbers (K : PySem.W.Frag) (C : Addr) : Sp := fun vs H Q _ => ∃ (a : Addr) (ks : List Str) (ts : List (List Int)), vs = [.ref a] ∧ Tab K C H a ks ts ∧ ts.length ≤ 1000 ∧ ks.length ≤ 1000 ∧
  ∀ H' u, Same H H' → H u = none → H' u = some (.tup ((List.range ks.length).map fun j => numV (classesL ts ks.length) ((j : Nat) : Int))) → Q (.ref u) H'
end CK
namespace VG
open PySem PySem.Spec PyProof.Rows L2
abbrev emptyS (w : World) : Obj := ⟨.type "set", none, .set #[] 0 (.fresh 0 0 (!w.params.followText "set-order")), #[]⟩
section
variable {P : Program} {w : World} {A : Around} {E : Value → Shared → Prop} {s : Shared}
set_option maxHeartbeats 6400000 in
theorem set_listI {l : Addr} {us : Array Value} (ks : List Int) {Q : Value → Shared → Prop} (calm : A.handled = none) (hl : s.heap.IsList l us) (hi : IntsAre us.toList ks) (room : ks.length + 1 < scanBound)
    (fin : ∀ (hp : Heap) (tk c : Nat), SetR w hp s.heap.objs.size (fun j => decide (j ∈ ks)) c → c ≤ ks.length → (∀ b o, s.heap.get? b = some o → hp.get? b = some o) → Q (.ref s.heap.objs.size) { s with heap := hp, toks := tk }) :
    wpAny (model P w) A (call (.type "set") [.ref l]) Q E s := by
  have size : us.size = ks.length := by have z := IntsAre.length hi; rw [Array.length_toList] at z; exact z
  obtain ⟨cc, tl, mro⟩ := F.called_set.mro; have made := F.called_set.made; have sub := F.called_set.sub
  refine wpAny_call (codeAny_of_tree ?_); show wpAny _ _ (callAny (.type "set") _) _ _ _
  refine wpAny_pure ⟨Code.quiet_builtin _ (by decide +kernel), codeAny_builtin F.entry_type_call ?_⟩; rw [Around.under_plain (weight_type_call_type "set" [.ref l] []) rfl]
  have nt := F.called_set.notType; have cr := F.called_set.canCreate; have tc := F.typeCall_set_1 (.ref l)
  repeat (any_goals (first | assumption | wp_step))
  refine codeAny_mono (code_set_led1 (.ref l) (E := E) (Q₁ := fun obj s₁ => obj = .ref s.heap.objs.size ∧ s₁ = { s with heap := s.heap.push (emptyS w) }) ⟨rfl, rfl⟩) fun r s₁ got => ?_
  match r, got with
  | .error e, got => exact got
  | .ok (.ret obj), got =>
    obtain ⟨rfl, rfl⟩ := got
    have new : (s.heap.push (emptyS w)).get? s.heap.objs.size = some (emptyS w) := Heap.get?_push_size _ rfl
    have ty : Shared.TypeIs { s with heap := s.heap.push (emptyS w) } (.ref s.heap.objs.size) "set" := ⟨_, new, rfl⟩
    have il := F.called_set.init.lookup; have ib := F.called_set.init.bind (.ref s.heap.objs.size)
    repeat (any_goals (first | assumption | wp_step))
    refine codeAny_mono (codeAny_call_builtin (R := wants (fun r t => r = .none ∧ ∃ hp tk c, t = { s with heap := hp, toks := tk } ∧ SetR w hp s.heap.objs.size (fun j => decide (j ∈ ks)) c ∧ c ≤ ks.length ∧
      (∀ b o, s.heap.get? b = some o → hp.get? b = some o)) E) F.called_set.init.plain F.entry_set_init (check_set_init_1 ty ?_)) fun r₂ t got2 => ?_
    · obtain ⟨⟨cls, dict, data, slots⟩, at_, hc, nl, hd⟩ := hl
      simp only at hc hd
      subst hc hd
      have at2 : (s.heap.push (emptyS w)).get? l = some { cls := .type "list", dict := dict, data := .seq us nl, slots := slots } := Heap.get?_push_of_some _ at_
      have hsls := F.sub_list_set; have hslf := F.sub_list_frozenset; have hne : (Value.type "list" == Value.type "dict") = false := by decide
      have isl : (s.heap.push (emptyS w)).IsList l us := ⟨_, at2, rfl, nl, rfl⟩
      unfold Builtin.«set.__init__» noKeywords Builtin.Frozenset.updateFrom; generalize hPI : pyIter = PI
      wp_walk
      subst hPI
      refine wpAny_pyIter_list isl ?_
      refine wpAny_bind (wpAny_runValue ?_)
      have ls : l < s.heap.objs.size := Heap.lt_size at_; have calm3 : A.in1.in1.in1.handled = none := by simp [calm]
      have ps : (s.heap.push (emptyS w)).objs.size = s.heap.objs.size + 1 := Heap.size_push ..
      have nI : l ≠ (s.heap.push (emptyS w)).objs.size := by rw [ps]; exact Nat.ne_of_lt (Nat.lt_succ_of_lt ls)
      have nS : s.heap.objs.size ∉ [(s.heap.push (emptyS w)).objs.size, l] := by
        rw [ps]
        intro z
        rcases List.mem_cons.mp z with z | z
        · exact Nat.ne_of_lt (Nat.lt_succ_self _) z
        · exact Nat.ne_of_gt ls (List.mem_singleton.mp z)
      have val : ∀ (i : Nat) (v : Value), us[i]? = some v → ∃ k t, ks[i]? = some k ∧ v = .int k t := by
        intro i v hv
        have il : i < ks.length := by rw [← size]; exact (Array.getElem?_eq_some_iff.mp hv).1
        obtain ⟨t, e⟩ := PyProof.Rows.IntsAre.int_at hi i v (by rw [Array.getElem?_toList]; exact hv)
        exact ⟨ks[i], t, List.getElem?_eq_getElem il, by rw [e, List.getD_eq_getElem?_getD, List.getElem?_eq_getElem il] <;> rfl⟩
      refine set_update_ints ((Walks.list calm3 _ l nI us).toS) s.heap.objs.size nS ks size room val (us.size - 0) 0 _ (by omega) (Nat.zero_le _) ⟨⟨_, Heap.get?_push_size _ rfl, rfl, rfl⟩, (isl.push _)⟩ ⟨0, Nat.le_refl 0, setR_new_at (Heap.get?_push_of_some _ new)⟩ ?_
      intro s' c' hm hc' hS'
      obtain ⟨hp, g2, d2, tk2, os2⟩ := s'
      have eg : g2 = s.gens := hm.gens; have ed : d2 = s.drawn := hm.drawn; have eo : os2 = s.os := hm.os
      subst eg ed eo
      refine wpAny_pure ?_
      show wpAny _ _ (ret Value.none) _ _ _
      refine wpAny_pure ⟨rfl, hp, tk2, c', rfl, hS', by rw [← size]; exact hc', fun b o e => ?_⟩
      have b0 : b < s.heap.objs.size := Heap.lt_size e
      refine hm.heap b o ?_ (Heap.get?_push_of_some _ (Heap.get?_push_of_some _ e))
      intro z
      rcases List.mem_cons.mp z with z | z
      · exact Nat.ne_of_lt b0 z
      · have z := List.mem_singleton.mp z
        rw [ps] at z
        exact Nat.ne_of_lt (Nat.lt_succ_of_lt b0) z
    · match r₂, got2 with
      | .error e, got2 => exact got2
      | .ok (.ret r), got2 =>
        obtain ⟨rfl, hp, tk, c, rfl, a1, a2, a3⟩ := got2
        repeat (any_goals (first | assumption | wp_step))
        exact fin _ _ _ a1 a2 a3
      | .ok .next, got2 => exact got2.elim
      | .ok .brk, got2 => exact got2.elim
      | .ok .cont, got2 => exact got2.elim
  | .ok .next, got => exact got.elim
  | .ok .brk, got => exact got.elim
  | .ok .cont, got => exact got.elim
end
section
variable {X : Cx}
def rSetL (K : PySem.W.Frag) (w : World) : List V → Hp → VK → Prop := fun vs H Q => ∃ (a : Addr) (ks : List Int), vs = [.ref a] ∧ SqL K H a (ks.map V.int) ∧ ks.length ≤ 1000 ∧ ∀ (p : Addr) (c : Nat), H p = none → c ≤ ks.length → Q (.ref p) (upd H p (SetO w p (fun j => decide (j ∈ ks)) c))
theorem cr_setL (hc : X.calm = true) : CallR X (.type "set") (rSetL X.K X.w) := by
  intro pins s σ H vs us Q I r h
  obtain ⟨a, ks, rfl, hS, hl, q⟩ := h
  rw [Vals.ref1 r]
  obtain ⟨its, rv, pl, hz⟩ := I.list hS
  have hi : IntsAre its.toArray.toList ks := ints_of_vals rv
  refine set_listI ks (I.ok.hd hc) pl.isList hi (by unfold scanBound; omega) fun hp tk c R hcn kp => ?_
  have fr : H s.heap.objs.size = none := I.hok.fresh (Nat.le_refl _)
  exact ⟨.ref _, upd H s.heap.objs.size (SetO X.w s.heap.objs.size (fun j => decide (j ∈ ks)) c), I.laid (t' := tk) kp (Nat.le_refl _) (setO_new R), rfl, q _ c fr hcn⟩
end
end VG
namespace VG
open PySem PySem.Spec PyProof.Rows L2
section
variable {X : Cx}
def rLenK (K : PySem.W.Frag) : List V → Hp → VK → Prop := fun xs H Q => ∃ p ys, xs = [V.ref p] ∧ (SqL K H p ys ∨ SqT K H p ys) ∧ Q (.int ys.length) H
theorem call_lenK : CallR X (.builtin "len") (rLenK X.K) := call_len_seq
end
end VG
namespace M15
/-- no member twice, within a list or in two -/
def Apart (bs : List (List Int)) : Prop := bs.flatten.Nodup
end M15
namespace CK
open PySem PySem.Spec PyProof.Rows L2 VG FR
def BtL : List Nat → List Q2 → Prop
  | n :: ns, p :: ps => Bt n p ∧ BtL ns ps
  | [], [] => True
  | _, _ => False
theorem BtL.len : ∀ {ns : List Nat} {ps : List Q2}, BtL ns ps → ns.length = ps.length
  | [], [], _ => rfl
  | _ :: _, _ :: _, h => by rw [List.length_cons, List.length_cons, h.2.len]
  | [], _ :: _, h => h.elim
  | _ :: _, [], h => h.elim
theorem BtL.get : ∀ {ns : List Nat} {ps : List Q2} {i : Nat} {p : Q2}, BtL ns ps → ps[i]? = some p → ∃ n, ns[i]? = some n ∧ Bt n p
  | n :: _, p :: _, 0, q, h, e => by
    have e1 : p = q := Option.some.inj e
    subst e1
    exact ⟨n, rfl, h.1⟩
  | _ :: ns, _ :: ps, i + 1, q, h, e => h.2.get (i := i) e
  | [], [], _, _, _, e => by cases e
  | [], _ :: _, _, _, h, _ => h.elim
  | _ :: _, [], _, _, h, _ => h.elim
theorem BtL.take : ∀ {ns : List Nat} {ps : List Q2} (i : Nat), BtL ns ps → BtL (ns.take i) (ps.take i)
  | [], [], i, h => by
    rw [List.take_nil, List.take_nil]
    trivial
  | _ :: _, _ :: _, 0, h => trivial
  | _ :: _, _ :: _, i + 1, h => ⟨h.1, h.2.take i⟩
  | [], _ :: _, _, h => h.elim
  | _ :: _, [], _, h => h.elim
end CK
namespace CK
open PySem PySem.Spec PyProof.Rows L2 VG FR
theorem mem_pick {P : Nat → Bool} {n : Nat} {x : Int} : x ∈ pick P n ↔ ∃ j : Nat, j < n ∧ P j = true ∧ x = (j : Int) := by
  unfold pick
  constructor
  · intro h
    obtain ⟨j, hj, rfl⟩ := List.mem_map.mp h
    have ⟨h1, h2⟩ := List.mem_filter.mp hj
    exact ⟨j, List.mem_range.mp h1, h2, rfl⟩
  · rintro ⟨j, h1, h2, rfl⟩
    exact List.mem_map.mpr ⟨j, List.mem_filter.mpr ⟨List.mem_range.mpr h1, h2⟩, rfl⟩
theorem pick_nodup (P : Nat → Bool) (n : Nat) : (pick P n).Nodup := by
  unfold pick
  refine List.pairwise_map.mpr ?_
  have h : (List.range n).Nodup := List.nodup_range
  exact (List.Pairwise.filter P h).imp fun z e => z (by omega)
theorem keys_from (f : Nat → List Int) : ∀ {n : Nat} {c : List Int}, c ∈ keysOf f n → ∃ j, j < n ∧ f j = c
  | n + 1, c, h => by
    unfold keysOf at h
    by_cases e : f n ∈ keysOf f n
    · rw [if_pos e] at h
      obtain ⟨j, h1, h2⟩ := keys_from f h
      exact ⟨j, by omega, h2⟩
    · rw [if_neg e] at h
      rcases List.mem_append.mp h with z | z
      · obtain ⟨j, h1, h2⟩ := keys_from f z
        exact ⟨j, by omega, h2⟩
      · exact ⟨n, by omega, (List.mem_singleton.mp z).symm⟩
def sgL (f : Nat → List Int) (n : Nat) : List (List Int) := (keysOf f n).filter fun c => !c.isEmpty
theorem sg_nodup (f : Nat → List Int) (n : Nat) : (sgL f n).Nodup := List.Pairwise.filter _ (keys_nodup f n)
theorem classes_eq (ts : List (List Int)) (n : Nat) : classesL ts n = (sgL (fT ts) n).map fun c => pick (memb (fT ts) c) n := rfl
theorem picks_apart (f : Nat → List Int) (n : Nat) : ∀ (ks : List (List Int)), ks.Nodup → M15.Apart (ks.map fun c => pick (memb f c) n)
  | [], _ => List.nodup_nil
  | c :: ks, h => by
    have ⟨h1, h2⟩ := List.nodup_cons.mp h
    show (pick (memb f c) n ++ (ks.map fun c => pick (memb f c) n).flatten).Nodup
    refine List.nodup_append.mpr ⟨pick_nodup _ _, picks_apart f n ks h2, fun x hx y hy e => ?_⟩
    obtain ⟨l, hl, hy⟩ := List.mem_flatten.mp hy
    obtain ⟨d, hd, rfl⟩ := List.mem_map.mp hl
    obtain ⟨i, i1, i2, i3⟩ := mem_pick.mp hx
    obtain ⟨j, j1, j2, j3⟩ := mem_pick.mp hy
    have e2 : i = j := by omega
    subst e2
    have q1 : f i = c := of_decide_eq_true i2
    have q2 : f i = d := of_decide_eq_true j2
    exact h1 (by rw [← q1, q2]; exact hd)
theorem classes_apart (ts : List (List Int)) (n : Nat) : M15.Apart (classesL ts n) := picks_apart _ _ _ (sg_nodup _ _)
theorem nodup_le {α : Type} [DecidableEq α] : ∀ (l D : List α), l.Nodup → (∀ x ∈ l, x ∈ D) → l.length ≤ D.length
  | [], _, _, _ => Nat.zero_le _
  | a :: l, D, h, s => by
    have ⟨h1, h2⟩ := List.nodup_cons.mp h
    have ha := s a List.mem_cons_self
    have ih := nodup_le l (D.erase a) h2 fun x hx => (List.mem_erase_of_ne (fun e => h1 (by rw [← e]; exact hx))).mpr (s x (List.mem_cons_of_mem _ hx))
    rw [List.length_erase_of_mem ha] at ih
    have := List.length_pos_of_mem ha
    rw [List.length_cons]
    omega
theorem classes_below {ts : List (List Int)} {n : Nat} {c : List Int} {x : Int} (hc : c ∈ classesL ts n) (hx : x ∈ c) : ∃ j : Nat, j < n ∧ x = (j : Int) := by
  rw [classes_eq] at hc
  obtain ⟨d, hd, rfl⟩ := List.mem_map.mp hc
  obtain ⟨j, j1, _, rfl⟩ := mem_pick.mp hx
  exact ⟨j, j1, rfl⟩
theorem mem_tw {ts : List (List Int)} {k : Int} {t : Nat} {c : List Int} (e : ts[t]? = some c) : (t : Int) ∈ totsWith ts k ↔ c.contains k = true := by
  have g : ts.getD t [] = c := by rw [List.getD_eq_getElem?_getD, e]; rfl
  have hl := (List.getElem?_eq_some_iff.mp e).1
  have h := mem_pick (P := fun j => (ts.getD j []).contains k) (n := ts.length) (x := (t : Int))
  have q : totsWith ts k = pick (fun j => (ts.getD j []).contains k) ts.length := rfl
  rw [q, h]
  constructor
  · rintro ⟨j, _, h2, h3⟩
    have : j = t := by omega
    subst this
    rw [g] at h2
    exact h2
  · intro z
    exact ⟨t, hl, by rw [g]; exact z, rfl⟩
/-- a kind of some total has a class, just one -/
theorem cls_one {ts : List (List Int)} {n j : Nat} {c : List Int} (hc : c ∈ ts) (hj : j < n) (hk : (j : Int) ∈ c) : ∃ a : Nat, ∃ cl, (classesL ts n)[a]? = some cl ∧ (j : Int) ∈ cl ∧ ∀ b d, (classesL ts n)[b]? = some d → (j : Int) ∈ d → b = a := by
  obtain ⟨t, et⟩ := List.mem_iff_getElem?.mp hc
  have ht : (t : Int) ∈ fT ts j := (mem_tw et).mpr (List.contains_iff_mem.mpr hk)
  have hs : fT ts j ∈ sgL (fT ts) n := List.mem_filter.mpr ⟨keys_mem _ hj, by
    cases h : fT ts j with
    | nil => rw [h] at ht; cases ht
    | cons _ _ => rfl⟩
  obtain ⟨a, ea⟩ := List.mem_iff_getElem?.mp hs
  refine ⟨a, pick (memb (fT ts) (fT ts j)) n, by rw [classes_eq, List.getElem?_map, ea]; rfl, mem_pick.mpr ⟨j, hj, decide_eq_true rfl, rfl⟩, fun b d hb hd => ?_⟩
  rw [classes_eq, List.getElem?_map] at hb
  obtain ⟨key, ek, rfl⟩ := Option.map_eq_some_iff.mp hb
  obtain ⟨i, i1, i2, i3⟩ := mem_pick.mp hd
  have : i = j := by omega
  subst this
  have q : fT ts i = key := of_decide_eq_true i2
  subst q
  exact nodup_at (sg_nodup _ _) ek ea
theorem row_val (at_ : Nat) (k : Int) : ∀ (c : List Int) (g : Nums), valV (putRow g at_ c) (Sum.inl k : L2.Key) = if k ∈ c then some (V.int (at_ : Int)) else valV g (Sum.inl k : L2.Key)
  | [], g => by simp [putRow]
  | x :: c, g => by
    have ih := row_val at_ k c (putK g (Sum.inl x : L2.Key) (V.int (at_ : Int)))
    show valV (putRow (putK g (Sum.inl x : L2.Key) (V.int (at_ : Int))) at_ c) _ = _
    rw [ih, valV_put]
    by_cases h1 : k ∈ c
    · rw [if_pos h1, if_pos (List.mem_cons_of_mem _ h1)]
    · rw [if_neg h1]
      by_cases h2 : k = x
      · subst h2
        rw [if_pos rfl, if_pos List.mem_cons_self]
      · rw [if_neg (fun z => h2 (Sum.inl.inj z)), if_neg (fun z => (List.mem_cons.mp z).elim h2 h1)]
theorem num_val {cs : List (List Int)} {k : Int} {a : Nat} (hk : k ∈ cs.getD a []) (only : ∀ b, b ≠ a → k ∉ cs.getD b []) : ∀ i, a < i → valV (numF cs i) (Sum.inl k : L2.Key) = some (V.int (a : Int))
  | 0, h => by omega
  | i + 1, h => by
    show valV (putRow (numF cs i) i (cs.getD i [])) _ = _
    rw [row_val]
    by_cases e : i = a
    · subst e
      rw [if_pos hk]
    · rw [if_neg (only i e)]
      exact num_val hk only i (by omega)
theorem num_of {cs : List (List Int)} {k : Int} {a : Nat} {cl : List Int} (ha : cs[a]? = some cl) (hk : k ∈ cl) (only : ∀ b d, cs[b]? = some d → k ∈ d → b = a) : numV cs k = .int (a : Int) := by
  have g : cs.getD a [] = cl := by rw [List.getD_eq_getElem?_getD, ha]; rfl
  unfold numV
  rw [num_val (a := a) (by rw [g]; exact hk) (fun b nb hb => ?_) cs.length (List.getElem?_eq_some_iff.mp ha).1]
  · rfl
  · rw [List.getD_eq_getElem?_getD] at hb
    cases hc : cs[b]? with
    | none => rw [hc] at hb; cases hb
    | some d =>
      rw [hc] at hb
      exact nb (only b d hc hb)
def headI (c : List Int) : Int := c.getD 0 0
theorem rec_iff {ts : List (List Int)} {n : Nat} {c cl : List Int} {a : Nat} (hc : c ∈ ts) (ok : ∀ x ∈ c, 0 ≤ x ∧ x < (n : Int)) (ha : (classesL ts n)[a]? = some cl) : (∃ k ∈ c, numV (classesL ts n) k = V.int (a : Int)) ↔ c.contains (headI cl) = true := by
  obtain ⟨t, et⟩ := List.mem_iff_getElem?.mp hc
  have ha' := ha
  rw [classes_eq, List.getElem?_map] at ha'
  obtain ⟨key, ek, e2⟩ := Option.map_eq_some_iff.mp ha'
  have hkey := (List.mem_filter.mp (List.mem_of_getElem? ek)).1
  obtain ⟨j1, l1, f1⟩ := keys_from _ hkey
  have ne : cl ≠ [] := by
    intro z
    have : (j1 : Int) ∈ cl := by rw [← e2]; exact mem_pick.mpr ⟨j1, l1, decide_eq_true f1, rfl⟩
    rw [z] at this
    cases this
  have hm : headI cl ∈ cl := by
    cases cl with
    | nil => exact absurd rfl ne
    | cons x r => exact List.mem_cons_self
  have hm2 := hm
  rw [← e2] at hm2
  obtain ⟨j0, l0, f0, e0⟩ := mem_pick.mp hm2
  have f0 : fT ts j0 = key := of_decide_eq_true f0
  rw [e2] at e0
  constructor
  · rintro ⟨k, hk, hn⟩
    have ⟨k0, k1⟩ := ok k hk
    obtain ⟨j, rfl⟩ := Int.eq_ofNat_of_zero_le k0
    obtain ⟨a2, cl2, g1, g2, g3⟩ := cls_one (n := n) hc (by omega) hk
    rw [num_of g1 g2 g3] at hn
    have : a2 = a := by have := V.int.inj hn; omega
    subst this
    have e3 : cl2 = cl := Option.some.inj (g1.symm.trans ha)
    subst e3
    rw [← e2] at g2
    obtain ⟨j', l', f', e'⟩ := mem_pick.mp g2
    have : j' = j := by omega
    subst this
    have f' : fT ts j' = key := of_decide_eq_true f'
    have z : (t : Int) ∈ fT ts j' := (mem_tw et).mpr (List.contains_iff_mem.mpr hk)
    rw [f', ← f0] at z
    rw [e0]
    exact (mem_tw et).mp z
  · intro z
    have hk := List.contains_iff_mem.mp z
    rw [e0] at hk
    obtain ⟨a2, cl2, g1, g2, g3⟩ := cls_one hc l0 hk
    refine ⟨(j0 : Int), hk, ?_⟩
    have : a = a2 := g3 a cl ha (by rw [← e0]; exact hm)
    subst this
    exact num_of g1 g2 g3
def numI (cs : List (List Int)) (k : Int) : Int := match numV cs k with
  | .int a => a
  | _ => 0
theorem num_int {ts : List (List Int)} {n : Nat} {c : List Int} {k : Int} (hc : c ∈ ts) (ok : ∀ x ∈ c, 0 ≤ x ∧ x < (n : Int)) (hk : k ∈ c) : numV (classesL ts n) k = V.int (numI (classesL ts n) k) := by
  have ⟨k0, k1⟩ := ok k hk
  obtain ⟨j, rfl⟩ := Int.eq_ofNat_of_zero_le k0
  obtain ⟨a2, cl2, g1, g2, g3⟩ := cls_one (n := n) hc (by omega) hk
  have e := num_of g1 g2 g3
  unfold numI
  rw [e]
end CK
namespace CK
open PySem PySem.Spec PyProof.Rows L2 VG FR
/-- entries that are integers, or not -/
def Parts (K : PySem.W.Frag) (H : Hp) : List V → List (Option Int) → Prop
  | x :: xs, o :: os => Part K H x o ∧ Parts K H xs os
  | [], [] => True
  | _, _ => False
theorem Parts.mono {K : PySem.W.Frag} {H H' : Hp} (e : Same H H') : ∀ {xs : List V} {os : List (Option Int)}, Parts K H xs os → Parts K H' xs os
  | [], [], _ => trivial
  | _ :: _, _ :: _, h => ⟨part_mono e h.1, h.2.mono e⟩
  | [], _ :: _, h => h.elim
  | _ :: _, [], h => h.elim
theorem Parts.len {K : PySem.W.Frag} {H : Hp} : ∀ {xs : List V} {os : List (Option Int)}, Parts K H xs os → xs.length = os.length
  | [], [], _ => rfl
  | _ :: _, _ :: _, h => by rw [List.length_cons, List.length_cons, h.2.len]
  | [], _ :: _, h => h.elim
  | _ :: _, [], h => h.elim
theorem Parts.get {K : PySem.W.Frag} {H : Hp} : ∀ {xs : List V} {os : List (Option Int)} {i : Nat} {x : V}, Parts K H xs os → xs[i]? = some x → ∃ o, os[i]? = some o ∧ Part K H x o
  | a :: _, o :: _, 0, x, h, e => by
    have e1 : a = x := Option.some.inj e
    subst e1
    exact ⟨o, rfl, h.1⟩
  | _ :: xs, _ :: os, i + 1, x, h, e => h.2.get (i := i) e
  | [], [], _, _, _, e => by cases e
  | [], _ :: _, _, _, h, _ => h.elim
  | _ :: _, [], _, _, h, _ => h.elim
/-- any value: no tuple, or a tuple with such entries -/
def AnyV (K : PySem.W.Frag) (H : Hp) (v : V) : Option (List (Option Int)) → Prop
  | none => ∃ ty : String, TyX K H v (.type ty) ∧ kitB ty "tuple" = some false
  | some os => ∃ p xs, v = .ref p ∧ SqT K H p xs ∧ Parts K H xs os ∧ os.length ≤ 1000
theorem AnyV.mono {K : PySem.W.Frag} {H H' : Hp} (e : Same H H') {v : V} : ∀ {o : Option (List (Option Int))}, AnyV K H v o → AnyV K H' v o
  | none, ⟨ty, h, k⟩ => ⟨ty, tyX_mono e h, k⟩
  | some _, ⟨p, xs, e1, h, r, l⟩ => ⟨p, xs, e1, seqT e h, r.mono e, l⟩
theorem BtL.all : ∀ {ns : List Nat} {ps : List Q2} {m : Nat}, BtL ns ps → (∀ n ∈ ns, n ≤ m) → ∀ p ∈ ps, Bt m p
  | [], [], _, _, _, p, hp => by cases hp
  | n :: ns, q :: ps, m, h, hn, p, hp => by
    rcases List.mem_cons.mp hp with z | z
    · rw [z]
      exact h.1.mono (hn n List.mem_cons_self)
    · exact BtL.all h.2 (fun k hk => hn k (List.mem_cons_of_mem _ hk)) p z
  | [], _ :: _, _, h, _, _, _ => h.elim
  | _ :: _, [], _, h, _, _, _ => h.elim
end CK
namespace CK
open PySem PySem.Spec PyProof.Rows L2 VG FR HD
def On (p q : Addr) (G H : Hp) : Prop := Hd p q H ∧ Same G H ∧ G p = none ∧ G q = none
theorem frz_p (p q : Addr) (H : Hp) : frz p q H p = none ∧ frz p q H q = none := by
  unfold frz
  exact ⟨if_pos (.inl rfl), if_pos (.inr rfl)⟩
theorem frz_le {p q : Addr} {H : Hp} : Same (frz p q H) H := frz_keep (Keep.refl p q H)
theorem frz_cases {p q b : Addr} {o : HO} {H : Hp} (h : frz p q H b = some o) : b ≠ p ∧ b ≠ q ∧ H b = some o := by
  unfold frz at h
  by_cases z : b = p ∨ b = q
  · rw [if_pos z] at h
    cases h
  · rw [if_neg z] at h
    exact ⟨fun y => z (.inl y), fun y => z (.inr y), h⟩
section
variable {p q : Addr} {G H H' : Hp}
theorem On.start (h : Hd p q H) : On p q (frz p q H) H := ⟨h, frz_le, (frz_p p q H).1, (frz_p p q H).2⟩
theorem On.hd (h : On p q G H) : Hd p q H := h.1
theorem On.le (h : On p q G H) : Same G H := h.2.1
theorem On.neP (h : On p q G H) {b : Addr} {o : HO} (e : G b = some o) : b ≠ p ∧ b ≠ q := ⟨fun z => (by rw [z, h.2.2.1] at e; cases e), fun z => (by rw [z, h.2.2.2] at e; cases e)⟩
theorem On.draw (h : On p q G H) (hd : Hd p q H') (k : Keep p q H H') : On p q G H' :=
  ⟨hd, fun b o e => k b o (h.neP e).1 (h.neP e).2 (h.le b o e), h.2.2⟩
theorem On.same (h : On p q G H) (s : Same H H') : On p q G H' := ⟨h.1.same s, h.le.trans s, h.2.2⟩
theorem On.new (h : On p q G H) {n : Addr} {o : HO} (hn : H n = none) : On p q G (L2.upd H n o) := h.same (same_upd hn)
theorem On.free (h : On p q G H) {n : Addr} (hn : H n = none) : n ≠ p ∧ n ≠ q ∧ G n = none := ⟨(h.1.free hn).1, (h.1.free hn).2, h.le.free hn⟩
theorem On.put (h : On p q G H) {D : Addr} {o : HO} (f : D ≠ p ∧ D ≠ q ∧ G D = none) : On p q G (L2.upd H D o) :=
  ⟨hd_put h.1 f.1 f.2.1, fun b x e => by rw [upd_ne (ne_of_none e f.2.2)]; exact h.le b x e, h.2.2⟩
theorem On.base (h : On p q G H) : On p q (frz p q H) H ∧ Same G (frz p q H) := ⟨.start h.1, fun b o e => frz_at (h.le b o e) (h.neP e)⟩
theorem On.keep (h : On p q (frz p q H) H') : Keep p q H H' := fun b o n1 n2 e => h.le b o (frz_at e ⟨n1, n2⟩)
theorem On.drop {G0 : Hp} (h : On p q G H) (s : Same G0 G) : On p q G0 H := ⟨h.1, s.trans h.le, s.free h.2.2.1, s.free h.2.2.2⟩
end
theorem atN {α : Type} {xs : List α} {k : Nat} (h : k < xs.length) : seqIndex? (k : Int) xs.length = some k := by
  unfold seqIndex?
  have : ¬ (k : Int) < 0 := by omega
  rw [if_neg this]
  have : (0 : Int) ≤ (k : Int) ∧ (k : Int) < (xs.length : Int) := by omega
  first
    | rw [if_pos this, Int.toNat_natCast]
    | simp [h]
theorem perm_move {xs ls fs : List V} {k : Nat} {y : V} (h : (ls ++ fs).Perm xs) (hy : ls[k]? = some y) : (ls.eraseIdx k ++ (fs ++ [y])).Perm xs := by
  refine List.Perm.trans ?_ h
  have hk := (List.getElem?_eq_some_iff.mp hy)
  obtain ⟨hk, ey⟩ := hk
  have e1 : ls.Perm (y :: ls.eraseIdx k) := by
    have e := List.eraseIdx_eq_take_drop_succ ls k
    have e2 : ls = ls.take k ++ (y :: ls.drop (k + 1)) := by
      rw [← ey, List.getElem_cons_drop, List.take_append_drop]
    rw [e]
    conv => lhs; rw [e2]
    exact List.perm_middle
  have e3 : (ls.eraseIdx k ++ (fs ++ [y])).Perm (y :: (ls.eraseIdx k ++ fs)) := by
    rw [← List.append_assoc]
    exact (List.perm_append_comm (l₁ := ls.eraseIdx k ++ fs) (l₂ := [y]))
  exact e3.trans (List.Perm.append_right fs e1).symm
abbrev cALPH : Str := "acdefghijklnop"
def lastC (t : Nat) : Nat := cALPH.cps.toList.getD (t % 14) 0
theorem last_ok (t : Nat) : cALPH.cps.toList[t % 14]? = some (lastC t) ∧ 97 ≤ lastC t ∧ lastC t ≤ 122 := by
  have h : ∀ i : Fin 14, cALPH.cps.toList[i.1]? = some (cALPH.cps.toList.getD i.1 0) ∧ 97 ≤ cALPH.cps.toList.getD i.1 0 ∧ cALPH.cps.toList.getD i.1 0 ≤ 122 := by decide +kernel
  exact h ⟨t % 14, Nat.mod_lt _ (by decide)⟩
/-- a word of a turn -/
def Wd (t : Nat) (z : Str) : Prop := ∃ pre : List Nat, z.cps.toList = pre ++ [lastC t] ∧ pre.length ≤ 2 ∧ ∀ c ∈ pre, 97 ≤ c ∧ c ≤ 122
theorem Wd.name {t : Nat} {z : Str} (h : Wd t z) : NameOk z := by
  obtain ⟨pre, e, l, a⟩ := h
  have sz : z.cps.size = pre.length + 1 := by rw [← Array.length_toList, e, List.length_append]; rfl
  refine ⟨by omega, by omega, fun c hc => ?_⟩
  rw [e] at hc
  rcases List.mem_append.mp hc with q | q
  · exact a c q
  · have := List.mem_singleton.mp q
    subst this
    exact (last_ok t).2
theorem rising_step : ∀ (p : Str) (l : List Str) (i : Nat) (a b : Str), risingS p l = true → (p :: l)[i]? = some a → (p :: l)[i + 1]? = some b → ltCps b.cps.toList a.cps.toList = false
  | p, [], i, a, b, _, _, h => by simp at h
  | p, x :: r, 0, a, b, h, ha, hb => by
    have e1 : p = a := Option.some.inj ha
    have e2 : x = b := Option.some.inj hb
    subst e1 e2
    have h : (!ltCps x.cps.toList p.cps.toList && risingS x r) = true := h
    rw [Bool.and_eq_true] at h
    simpa using h.1
  | p, x :: r, i + 1, a, b, h, ha, hb => by
    have h : (!ltCps x.cps.toList p.cps.toList && risingS x r) = true := h
    rw [Bool.and_eq_true] at h
    exact rising_step x r i a b h.2 ha hb
theorem ascS_of {ks : List Str} (h : sortedS ks = true) (n : ks.Nodup) : AscS ks := by
  intro i a b ha hb
  have ne : a ≠ b := fun z => by
    subst z
    have := nodup_at n ha hb
    omega
  have le : ltCps b.cps.toList a.cps.toList = false := by
    cases ks with
    | nil => simp at ha
    | cons p l => exact rising_step p l i a b h ha hb
  rw [ltCps_eq] at le
  have le := of_decide_eq_false le
  have ne2 : a.cps.toList ≠ b.cps.toList := fun z => ne (by
    obtain ⟨x⟩ := a
    obtain ⟨y⟩ := b
    have e : x = y := Array.toList_inj.mp z
    rw [e])
  rcases Std.lt_trichotomy a.cps.toList b.cps.toList with z | z | z
  · exact z
  · exact absurd z ne2
  · exact absurd z le
theorem flat_strs : ∀ cs : List Str, (cs.map V.str).all flatV = true
  | [] => rfl
  | c :: cs => by
    rw [List.map_cons, List.all_cons, flat_strs cs]
    rfl
def spLawNames (K : PySem.W.Frag) : Sp := fun vs H Q _ => ∃ (p q : Addr) (m : Nat), vs = [.ref p, .int m] ∧ Hd p q H ∧ 1 ≤ m ∧ m ≤ 12 ∧ ∀ (H' : Hp) (u : Addr) (ks : List Str), On p q (frz p q H) H' → H' u = some (.tup (ks.map V.str)) → KindsOk ks → ks.length = m → Q (.ref u) H'
end CK
namespace CK
open PySem PySem.Spec PyProof.Rows L2 VG FR HD
theorem fmod_nat (i : Nat) {m : Nat} (h : 0 < m) : ((i : Int)).fmod (m : Int) = ((i % m : Nat) : Int) := by
  rw [Int.fmod_eq_emod_of_nonneg _ (by omega)]
  rfl
end CK
namespace CK
open PySem PySem.Spec PyProof.Rows L2 VG FR HD
def asInts (ys : List V) : List Int := ys.map fun v => match v with
  | .int a => a
  | _ => 0
theorem as_ints : ∀ c : List Int, asInts (c.map V.int) = c
  | [] => rfl
  | a :: c => by
    show a :: asInts (c.map V.int) = a :: c
    rw [as_ints c]
def rd (G : Hp) (v : V) : List Int := match v with
  | .ref t => match G t with
    | some (.lst ys) => asInts ys
    | _ => []
  | _ => []
def LOk (G : Hp) (v : V) : Prop := ∃ (t : Addr) (c : List Int), v = .ref t ∧ G t = some (.lst (c.map V.int))
theorem rd_eq {G : Hp} {t : Addr} {c : List Int} (h : G t = some (.lst (c.map V.int))) : rd G (.ref t) = c := by
  show (match G t with
    | some (.lst ys) => asInts ys
    | _ => []) = c
  rw [h]
  exact as_ints c
theorem LOk.get {G : Hp} {v : V} (h : LOk G v) : ∃ t, v = .ref t ∧ G t = some (.lst ((rd G v).map V.int)) := by
  obtain ⟨t, c, rfl, e⟩ := h
  exact ⟨t, rfl, by rw [rd_eq e]; exact e⟩
theorem LOk.mono {G G' : Hp} (s : Same G G') {v : V} (h : LOk G v) : LOk G' v ∧ rd G' v = rd G v := by
  obtain ⟨t, c, rfl, e⟩ := h
  exact ⟨⟨t, c, rfl, s _ _ e⟩, by rw [rd_eq e, rd_eq (s _ _ e)]⟩
def Ls (G : Hp) (xs : List V) : Prop := ∀ v ∈ xs, LOk G v
theorem Ls.mono {G G' : Hp} (s : Same G G') {xs : List V} (h : Ls G xs) : Ls G' xs ∧ xs.map (rd G') = xs.map (rd G) :=
  ⟨fun v hv => ((h v hv).mono s).1, List.map_congr_left fun v hv => ((h v hv).mono s).2⟩
theorem Ls.perm {G : Hp} {xs ys : List V} (p : ys.Perm xs) (h : Ls G xs) : Ls G ys := fun v hv => h v (p.mem_iff.mp hv)
theorem asc_lt : ∀ {l : List Int} {a : Int}, Asc (a :: l) → ∀ x ∈ l, a < x
  | b :: l, a, h, x, hx => by
    rcases List.mem_cons.mp hx with z | z
    · rw [z]
      exact h.1
    · exact Int.lt_trans h.1 (asc_lt h.2 x z)
theorem asc_nodup : ∀ {l : List Int}, Asc l → l.Nodup
  | [], _ => List.nodup_nil
  | a :: l, h => by
    refine List.nodup_cons.mpr ⟨fun z => ?_, asc_nodup (l := l) ?_⟩
    · have := asc_lt h a z
      omega
    · cases l with
      | nil => trivial
      | cons b r => exact h.2
/-- a lot of numbers below m -/
def LotI (m : Nat) (c : List Int) : Prop := Asc c ∧ ∀ x ∈ c, 0 ≤ x ∧ x < (m : Int)
theorem below_len {m : Nat} {c : List Int} (n : c.Nodup) (h : ∀ x ∈ c, 0 ≤ x ∧ x < (m : Int)) : c.length ≤ m := by
  have z := nodup_le c ((List.range m).map fun (j : Nat) => (j : Int)) n fun x hx => by
    have ⟨h1, h2⟩ := h x hx
    obtain ⟨j, rfl⟩ := Int.eq_ofNat_of_zero_le h1
    exact List.mem_map.mpr ⟨j, List.mem_range.mpr (by omega), rfl⟩
  rw [List.length_map, List.length_range] at z
  exact z
theorem LotI.len {m : Nat} {c : List Int} (h : LotI m c) : c.length ≤ m := below_len (asc_nodup h.1) h.2
/-- lists at given places -/
def Blk (H : Hp) : List Addr → List (List Int) → Prop
  | t :: ts, b :: bs => H t = some (.lst (b.map V.int)) ∧ Blk H ts bs
  | [], [] => True
  | _, _ => False
theorem Blk.len {H : Hp} : ∀ {ts : List Addr} {bs : List (List Int)}, Blk H ts bs → ts.length = bs.length
  | [], [], _ => rfl
  | _ :: _, _ :: _, h => by rw [List.length_cons, List.length_cons, h.2.len]
  | [], _ :: _, h => h.elim
  | _ :: _, [], h => h.elim
theorem Blk.imp {H H' : Hp} : ∀ {ts : List Addr} {bs : List (List Int)}, (∀ t ∈ ts, ∀ o, H t = some o → H' t = some o) → Blk H ts bs → Blk H' ts bs
  | [], [], _, _ => trivial
  | t :: ts, b :: bs, k, h => ⟨k t List.mem_cons_self _ h.1, Blk.imp (fun u hu => k u (List.mem_cons_of_mem _ hu)) h.2⟩
  | [], _ :: _, _, h => h.elim
  | _ :: _, [], _, h => h.elim
theorem Blk.get {H : Hp} : ∀ {ts : List Addr} {bs : List (List Int)} {j : Nat} {t : Addr}, Blk H ts bs → ts[j]? = some t → ∃ b, bs[j]? = some b ∧ H t = some (.lst (b.map V.int))
  | a :: _, b :: _, 0, t, h, e => by
    have e1 : a = t := Option.some.inj e
    subst e1
    exact ⟨b, rfl, h.1⟩
  | _ :: ts, _ :: bs, j + 1, t, h, e => h.2.get (j := j) e
  | [], [], _, _, _, e => by cases e
  | [], _ :: _, _, _, h, _ => h.elim
  | _ :: _, [], _, _, h, _ => h.elim
theorem Blk.at_ {H : Hp} {ts : List Addr} {bs : List (List Int)} (h : Blk H ts bs) {t : Addr} (m : t ∈ ts) : ∃ b, b ∈ bs ∧ H t = some (.lst (b.map V.int)) := by
  obtain ⟨j, e⟩ := List.mem_iff_getElem?.mp m
  obtain ⟨b, e2, k⟩ := h.get e
  exact ⟨b, List.mem_of_getElem? e2, k⟩
theorem Blk.snoc {H : Hp} {t : Addr} {b : List Int} (k : H t = some (.lst (b.map V.int))) : ∀ {ts : List Addr} {bs : List (List Int)}, Blk H ts bs → Blk H (ts ++ [t]) (bs ++ [b])
  | [], [], _ => ⟨k, trivial⟩
  | _ :: _, _ :: _, h => ⟨h.1, h.2.snoc k⟩
  | [], _ :: _, h => h.elim
  | _ :: _, [], h => h.elim
theorem Blk.set {H : Hp} {c : List Int} : ∀ {ts : List Addr} {bs : List (List Int)} {j : Nat} {t : Addr}, ts.Nodup → ts[j]? = some t → Blk H ts bs → Blk (L2.upd H t (.lst (c.map V.int))) ts (bs.set j c)
  | a :: ts, b :: bs, 0, t, n, e, h => by
    have e1 : a = t := Option.some.inj e
    subst e1
    refine ⟨upd_same, Blk.imp (fun u hu o k => ?_) h.2⟩
    have : u ≠ a := fun z => (List.nodup_cons.mp n).1 (z ▸ hu)
    rw [upd_ne this]
    exact k
  | a :: ts, b :: bs, j + 1, t, n, e, h => by
    have ha : a ≠ t := fun z => (List.nodup_cons.mp n).1 (z ▸ List.mem_of_getElem? (l := ts) (i := j) e)
    refine ⟨by rw [upd_ne ha]; exact h.1, Blk.set (j := j) (List.nodup_cons.mp n).2 e h.2⟩
  | [], [], _, _, _, e, _ => by cases e
  | [], _ :: _, _, _, _, _, h => h.elim
  | _ :: _, [], _, _, _, _, h => h.elim
end CK
namespace CK
open PySem PySem.Spec PyProof.Rows L2 VG FR HD
/-- a list at F that grows by new lists -/
def Gw (p q : Addr) (H : Hp) (F : Addr) (ts : List Addr) (bs : List (List Int)) : Prop := H F = some (.lst (ts.map V.ref)) ∧ Blk H ts bs ∧ ∀ t ∈ ts, t ≠ F ∧ t ≠ p ∧ t ≠ q
section
variable {p q F : Addr} {H H' : Hp} {ts : List Addr} {bs : List (List Int)}
theorem Gw.nil (h : H F = some (.lst [])) : Gw p q H F [] [] := ⟨h, trivial, fun t h => by cases h⟩
theorem Gw.same (h : Gw p q H F ts bs) (s : Same H H') : Gw p q H' F ts bs := ⟨s _ _ h.1, Blk.imp (fun t _ o k => s _ _ k) h.2.1, h.2.2⟩
theorem Gw.draw (h : Gw p q H F ts bs) (f : F ≠ p ∧ F ≠ q) (k : Keep p q H H') : Gw p q H' F ts bs :=
  ⟨k _ _ f.1 f.2 h.1, Blk.imp (fun t ht o e => k _ _ (h.2.2 t ht).2.1 (h.2.2 t ht).2.2 e) h.2.1, h.2.2⟩
theorem Gw.push (h : Gw p q H F ts bs) {t : Addr} {b : List Int} (e : H t = some (.lst (b.map V.int))) (n : t ≠ F ∧ t ≠ p ∧ t ≠ q) : Gw p q (L2.upd H F (.lst (ts.map V.ref ++ [.ref t]))) F (ts ++ [t]) (bs ++ [b]) := by
  refine ⟨by rw [upd_same, List.map_append]; rfl, Blk.snoc (by rw [upd_ne n.1]; exact e) (Blk.imp (fun u hu o k => by rw [upd_ne (h.2.2 u hu).1]; exact k) h.2.1), fun u hu => ?_⟩
  rcases List.mem_append.mp hu with z | z
  · exact h.2.2 u z
  · rw [List.mem_singleton.mp z]
    exact n
theorem Gw.len (h : Gw p q H F ts bs) : ts.length = bs.length := h.2.1.len
end
def Distinct (m : Nat) (c : List Int) : Prop := c.Nodup ∧ ∀ x ∈ c, 0 ≤ x ∧ x < (m : Int)
theorem Distinct.len {m : Nat} {c : List Int} (h : Distinct m c) : c.length ≤ m := below_len h.1 h.2
end CK
namespace CK
open PySem PySem.Spec PyProof.Rows L2 VG FR HD
def Fs (m : Nat) (G : Hp) (ys : List V) : Prop := ∀ v ∈ ys, LOk G v ∧ LotI m (rd G v)
theorem Fs.mono {m : Nat} {G G' : Hp} (s : Same G G') {ys : List V} (h : Fs m G ys) : Fs m G' ys := fun v hv => by
  have e := (h v hv).1.mono s
  exact ⟨e.1, by rw [e.2]; exact (h v hv).2⟩
theorem Fs.sub {m : Nat} {G : Hp} {xs ys : List V} (h : Fs m G xs) (k : ∀ v ∈ ys, v ∈ xs) : Fs m G ys := fun v hv => h v (k v hv)
theorem cut0 {xs : List V} (k : Nat) : cutV xs none (some (k : Int)) = xs.take k := by
  unfold cutV
  rw [HT.sIx_none, HT.sIx_nat]
  have : xs.drop 0 = xs := List.drop_zero
  rw [this, Nat.sub_zero]
  rcases Nat.le_total k xs.length with h | h
  · rw [Nat.min_eq_left h]
  · rw [Nat.min_eq_right h, List.take_of_length_le (Nat.le_refl _), List.take_of_length_le h]
theorem keep_frz {p q : Addr} {H : Hp} : Keep p q H (frz p q H) := fun b o n1 n2 e => frz_at e ⟨n1, n2⟩
theorem Tots.frz {K : PySem.W.Frag} {p q : Addr} {H : Hp} (hd : Hd p q H) : ∀ {vs : List V} {cs : List (List Int)}, Tots K H vs cs → Tots K (frz p q H) vs cs
  | [], [], _ => trivial
  | _ :: _, _ :: _, ⟨⟨t, e, h⟩, r⟩ => ⟨⟨t, e, seqTK hd keep_frz h⟩, r.frz hd⟩
  | [], _ :: _, h => h.elim
  | _ :: _, [], h => h.elim
theorem asc_pw : ∀ {l : List Int}, l.Pairwise (· < ·) → Asc l
  | [], _ => trivial
  | [_], _ => trivial
  | a :: b :: r, h => by
    have ⟨h1, h2⟩ := List.pairwise_cons.mp h
    exact ⟨h1 b List.mem_cons_self, asc_pw h2⟩
end CK
namespace CK
open PySem PySem.Spec PyProof.Rows L2 VG FR HD
end CK
namespace CK
open PySem PySem.Spec PyProof.Rows L2 VG FR HD
theorem eqvAll_ints : ∀ a b : List Int, PyData.eqvAll (a.map PyData.int) (b.map PyData.int) = decide (a = b)
  | [], [] => by simp [PyData.eqvAll]
  | [], _ :: _ => by simp [PyData.eqvAll]
  | _ :: _, [] => by simp [PyData.eqvAll]
  | x :: a, y :: b => by
    have ih := eqvAll_ints a b
    rw [List.map_cons, List.map_cons, PyData.eqvAll, ih, PyData.eqv]
    by_cases h : x = y
    · subst h
      by_cases k : a = b
      · subst k
        simp
      · simp [k]
    · simp [h]
theorem eqv_ints (a b : List Int) : PyData.eqv (.list (a.map PyData.int)) (.list (b.map PyData.int)) = decide (a = b) := by
  rw [PyData.eqv]
  exact eqvAll_ints a b
def dL (cs : List (List Int)) : List PyData := cs.map fun c => .list (c.map PyData.int)
theorem dpBlk {K : PySem.W.Frag} {H : Hp} : ∀ {ts : List Addr} {bs : List (List Int)}, Blk H ts bs → DpAll K H (ts.map V.ref) (dL bs)
  | [], [], _ => .nil
  | _ :: _, _ :: _, h => .cons (dp_ints (.inl (.inl h.1))) (dpBlk h.2)
  | [], _ :: _, h => h.elim
  | _ :: _, [], h => h.elim
theorem shaped_dL (cs : List (List Int)) : SeqAt.shaped (.list (dL cs)) = true := by
  have h : ∀ cs : List (List Int), PyData.canLayAll0 (dL cs) = true ∧ PyData.depthAll (dL cs) ≤ 1 := by
    intro cs
    induction cs with
    | nil => exact ⟨rfl, Nat.zero_le _⟩
    | cons c cs ih =>
      refine ⟨?_, ?_⟩
      · show (PyData.canLayAll0 (c.map PyData.int) && PyData.canLayAll0 (dL cs)) = true
        rw [ih.1, lay_ints]
        rfl
      · show max (PyData.depthAll (c.map PyData.int) + 1) (PyData.depthAll (dL cs)) ≤ 1
        rw [depth_ints]
        omega
  have ⟨h1, h2⟩ := h cs
  unfold SeqAt.shaped
  rw [Bool.and_eq_true]
  refine ⟨h1, decide_eq_true ?_⟩
  show PyData.depthAll (dL cs) + 1 ≤ 64
  omega
theorem sg_succ (f : Nat → List Int) (i : Nat) : sgL f (i + 1) = if f i = [] ∨ f i ∈ sgL f i then sgL f i else sgL f i ++ [f i] := by
  have e : sgL f (i + 1) = (if f i ∈ keysOf f i then keysOf f i else keysOf f i ++ [f i]).filter fun c => !c.isEmpty := rfl
  rw [e]
  by_cases h : f i = []
  · rw [show (if f i = [] ∨ f i ∈ sgL f i then sgL f i else sgL f i ++ [f i]) = sgL f i from if_pos (.inl h)]
    by_cases k : f i ∈ keysOf f i
    · rw [if_pos k]
      rfl
    · rw [if_neg k, List.filter_append, h]
      show _ ++ [] = _
      exact List.append_nil _
  · have he : (!(f i).isEmpty) = true := by
      cases hc : f i with
      | nil => exact absurd hc h
      | cons _ _ => rfl
    by_cases k : f i ∈ keysOf f i
    · have ks : f i ∈ sgL f i := List.mem_filter.mpr ⟨k, he⟩
      rw [if_pos k, show (if f i = [] ∨ f i ∈ sgL f i then sgL f i else sgL f i ++ [f i]) = sgL f i from if_pos (.inr ks)]
      rfl
    · have nk : ¬ (f i = [] ∨ f i ∈ sgL f i) := fun z => z.elim h fun y => k (List.mem_filter.mp y).1
      rw [if_neg k, if_neg nk, List.filter_append]
      show sgL f i ++ _ = sgL f i ++ _
      congr 1
      rw [List.filter_cons, he]
      rfl
theorem sg_ne {f : Nat → List Int} {i : Nat} {c : List Int} (h : c ∈ sgL f i) : c ≠ [] := fun z => by
  have := (List.mem_filter.mp h).2
  rw [z] at this
  cases this
def pk (f : Nat → List Int) (i : Nat) (sg : List (List Int)) : List (List Int) := sg.map fun c => pick (memb f c) i
theorem pk_old {f : Nat → List Int} {i : Nat} {sg : List (List Int)} (h : f i ∉ sg) : pk f (i + 1) sg = pk f i sg := by
  unfold pk
  refine List.map_congr_left fun c hc => pick_no (decide_eq_false fun z => h (z ▸ hc))
theorem pk_new {f : Nat → List Int} {i j : Nat} {sg : List (List Int)} (n : sg.Nodup) (h : sg[j]? = some (f i)) (hj : j < (pk f i sg).length) : (pk f i sg).set j ((pk f i sg)[j] ++ [(i : Int)]) = pk f (i + 1) sg := by
  refine List.ext_getElem? fun k => ?_
  have hjs : j < sg.length := (List.getElem?_eq_some_iff.mp h).1
  by_cases e : j = k
  · subst e
    rw [List.getElem?_set_self hj]
    have e1 : (pk f i sg)[j]? = some (pick (memb f (f i)) i) := by unfold pk; rw [List.getElem?_map, h]; rfl
    have e2 : (pk f (i + 1) sg)[j]? = some (pick (memb f (f i)) (i + 1)) := by unfold pk; rw [List.getElem?_map, h]; rfl
    have e3 : (pk f i sg)[j] = pick (memb f (f i)) i := by
      have := List.getElem?_eq_getElem hj
      rw [e1] at this
      exact (Option.some.inj this).symm
    rw [e2, e3, pick_yes (decide_eq_true rfl)]
  · rw [List.getElem?_set_ne e]
    unfold pk
    rw [List.getElem?_map, List.getElem?_map]
    cases hk : sg[k]? with
    | none => rfl
    | some c =>
      have nc : f i ≠ c := fun z => e (nodup_at n (z ▸ h) hk)
      show some (pick (memb f c) i) = some (pick (memb f c) (i + 1))
      rw [pick_no (decide_eq_false nc)]
theorem pk_fresh {f : Nat → List Int} {i : Nat} (h : f i ∉ sgL f i) (ne : f i ≠ []) : pick (memb f (f i)) i = [] := pick_nil fun j hj => decide_eq_false fun q => h (List.mem_filter.mpr ⟨by rw [← q]; exact keys_mem f hj, by
  cases hc : f i with
  | nil => exact absurd hc ne
  | cons _ _ => rfl⟩)
/-- groups and their signs while they grow: H is the heap of before -/
def ClsW (H H' : Hp) (S F : Addr) (ss fs : List Addr) (sg bs : List (List Int)) : Prop := Same H H' ∧ H' S = some (.lst (ss.map V.ref)) ∧ Blk H' ss sg ∧ H' F = some (.lst (fs.map V.ref)) ∧ Blk H' fs bs ∧ fs.Nodup ∧
  (∀ t ∈ fs, t ≠ S ∧ t ≠ F ∧ H t = none) ∧ (∀ t ∈ ss, t ≠ S ∧ t ≠ F ∧ H t = none) ∧ ∀ t ∈ fs, t ∉ ss
theorem ClsW.same {H H1 H2 : Hp} {S F : Addr} {ss fs : List Addr} {sg bs : List (List Int)} (h : ClsW H H1 S F ss fs sg bs) (s : Same H1 H2) : ClsW H H2 S F ss fs sg bs :=
  ⟨h.1.trans s, s _ _ h.2.1, Blk.imp (fun t _ o k => s t o k) h.2.2.1, s _ _ h.2.2.2.1, Blk.imp (fun t _ o k => s t o k) h.2.2.2.2.1, h.2.2.2.2.2⟩
/-- a new sign, a new group -/
theorem ClsW.add {H H6 H7 H8 : Hp} {S F L T : Addr} {ss fs : List Addr} {sg bs : List (List Int)} {c : List Int} (h : ClsW H H6 S F ss fs sg bs) (nS : H S = none) (nF : H F = none) (kL : H6 L = some (.lst (c.map V.int))) (nL : L ≠ S ∧ L ≠ F ∧ H L = none) (Lf : L ∉ fs)
    (e7 : H7 = L2.upd H6 S (.lst (ss.map V.ref ++ [.ref L]))) (nT : H7 T = none) (e8 : H8 = L2.upd H7 T (.lst [])) (nSF : S ≠ F) :
    ClsW H (L2.upd H8 F (.lst (fs.map V.ref ++ [.ref T]))) S F (ss ++ [L]) (fs ++ [T]) (sg ++ [c]) (bs ++ [[]]) ∧ (L2.upd H8 F (.lst (fs.map V.ref ++ [.ref T]))) L = some (.lst (c.map V.int)) := by
  obtain ⟨sm, eS, bS, eF, bF, nd, avF, avS, dis⟩ := h
  have keep7 : ∀ t, t ≠ S → ∀ o, H6 t = some o → H7 t = some o := fun t n o k => by rw [e7, upd_ne n]; exact k
  have keep : ∀ t, t ≠ S → t ≠ F → ∀ o, H6 t = some o → (L2.upd H8 F (.lst (fs.map V.ref ++ [.ref T]))) t = some o := fun t n1 n2 o k => by
    rw [upd_ne n2, e8]
    exact same_upd nT _ _ (keep7 t n1 o k)
  have T0 : ∀ t, t ≠ S → H6 t ≠ none → t ≠ T := fun t n k z => by
    subst z
    cases e : H6 t with
    | none => exact k e
    | some o => rw [keep7 t n o e] at nT; cases nT
  have h7S : H7 S = some (.lst (ss.map V.ref ++ [.ref L])) := by rw [e7, upd_same]
  have nTS : T ≠ S := fun z => by subst z; rw [h7S] at nT; cases nT
  have nTF : T ≠ F := (T0 F nSF.symm (by rw [eF]; exact Option.some_ne_none _)).symm
  have HT : H T = none := by
    cases e : H T with
    | none => rfl
    | some o => exact absurd rfl (T0 T nTS (by rw [sm _ _ e]; exact Option.some_ne_none _))
  have inS : ∀ t ∈ ss, H6 t ≠ none := fun t ht => by obtain ⟨b, _, k⟩ := bS.at_ ht; rw [k]; exact Option.some_ne_none _
  have inF : ∀ t ∈ fs, H6 t ≠ none := fun t ht => by obtain ⟨b, _, k⟩ := bF.at_ ht; rw [k]; exact Option.some_ne_none _
  refine ⟨⟨fun b o e => keep b (fun z => by rw [z, nS] at e; cases e) (fun z => by rw [z, nF] at e; cases e) o (sm _ _ e), ?_, ?_, ?_, ?_, ?_, ?_, ?_, ?_⟩, keep L nL.1 nL.2.1 _ kL⟩
  · rw [upd_ne nSF, e8]
    rw [same_upd nT _ _ h7S, List.map_append]
    rfl
  · exact Blk.snoc (keep L nL.1 nL.2.1 _ kL) (Blk.imp (fun t ht o k => keep t (avS t ht).1 (avS t ht).2.1 o k) bS)
  · rw [upd_same, List.map_append]
    rfl
  · exact Blk.snoc (by rw [upd_ne nTF, e8, upd_same]; rfl) (Blk.imp (fun t ht o k => keep t (avF t ht).1 (avF t ht).2.1 o k) bF)
  · exact List.nodup_append.mpr ⟨nd, by simp, fun x hx y hy e => by
      have := List.mem_singleton.mp hy
      subst this
      exact T0 x (avF x hx).1 (inF x hx) e⟩
  · intro t ht
    rcases List.mem_append.mp ht with z | z
    · exact avF t z
    · rw [List.mem_singleton.mp z]
      exact ⟨nTS, nTF, HT⟩
  · intro t ht
    rcases List.mem_append.mp ht with z | z
    · exact avS t z
    · rw [List.mem_singleton.mp z]
      exact nL
  · intro t ht hs
    rcases List.mem_append.mp ht with z | z
    · rcases List.mem_append.mp hs with y | y
      · exact dis t z y
      · rw [List.mem_singleton.mp y] at z
        exact Lf z
    · have et := List.mem_singleton.mp z
      subst et
      rcases List.mem_append.mp hs with y | y
      · exact T0 t nTS (inS t y) rfl
      · exact T0 L nL.1 (by rw [kL]; exact Option.some_ne_none _) (List.mem_singleton.mp y).symm
/-- one more kind in a group -/
theorem ClsW.put {H H6 : Hp} {S F t : Addr} {ss fs : List Addr} {sg bs : List (List Int)} {j : Nat} {b : List Int} (h : ClsW H H6 S F ss fs sg bs) (et : fs[j]? = some t) : ClsW H (L2.upd H6 t (.lst (b.map V.int))) S F ss fs sg (bs.set j b) := by
  obtain ⟨sm, eS, bS, eF, bF, nd, avF, avS, dis⟩ := h
  have ht := List.mem_of_getElem? et
  have av := avF t ht
  refine ⟨fun x o e => ?_, ?_, ?_, ?_, Blk.set nd et bF, nd, avF, avS, dis⟩
  · rw [upd_ne (ne_of_none e av.2.2)]
    exact sm _ _ e
  · rw [upd_ne av.1.symm]
    exact eS
  · exact Blk.imp (fun u hu o k => by rw [upd_ne (fun z : u = t => dis t ht (by rw [← z]; exact hu))]; exact k) bS
  · rw [upd_ne av.2.1.symm]
    exact eF
end CK
namespace VG
open PySem PySem.Spec PyProof.Rows L2
abbrev tupO (items : Array Value) (n : Nat) (dd : Option Addr) (sl : Array (Option Value)) : Obj := ⟨.type "tuple", dd, .seq items n, sl⟩
theorem tup_once (l : Addr) (items : Array Value) (n : Nat) (dd : Option Addr) (sl : Array (Option Value)) (u : Tok) (ne : (items.isEmpty || (1 : Int) == 1) = true) :
    Meets (Builtin.«tuple.__mul__» ⟨[.ref l, .int 1 u], []⟩) (fun _ R s => s.heap.get? l = some (tupO items n dd sl) ∧ R (.ok (.ret (Value.ref l))) s) := .of_wp fun prog w A R s h => by
  obtain ⟨hp, g, d, tk, os⟩ := s; obtain ⟨hl, h⟩ := h
  have f1 := AutoSeq1.idx_int
  wp_walk using wpAny_loadPart' hl
  repeat (first
    | (refine wpAny_ite_true (decide_eq_true ne) ?_; wp_walk using wpAny_loadPart' hl)
    | (refine wpAny_ite_true rfl ?_; wp_walk using wpAny_loadPart' hl)
    | (refine wpAny_ite_false rfl ?_; wp_walk using wpAny_loadPart' hl))
  exact ⟨_, rfl, h⟩
theorem tup_none (l : Addr) (items : Array Value) (n : Nat) (dd : Option Addr) (sl : Array (Option Value)) (u : Tok) (ne : (items.isEmpty || (0 : Int) == 1) = false) :
    Meets (Builtin.«tuple.__mul__» ⟨[.ref l, .int 0 u], []⟩) (fun _ R s => s.heap.get? l = some (tupO items n dd sl) ∧ R (.ok (.ret (Value.ref s.heap.objs.size))) { s with heap := s.heap.push { cls := Value.type "tuple", data := Data.seq #[] } }) := .of_wp fun prog w A R s h => by
  obtain ⟨hp, g, d, tk, os⟩ := s; obtain ⟨hl, h⟩ := h
  have f1 := AutoSeq1.idx_int
  wp_walk using wpAny_loadPart' hl
  repeat (first
    | (refine wpAny_ite_false (decide_eq_false (by rw [ne]; exact Bool.false_ne_true)) ?_; wp_walk using wpAny_loadPart' hl)
    | (refine wpAny_ite_true rfl ?_; wp_walk using wpAny_loadPart' hl)
    | (refine wpAny_ite_false rfl ?_; wp_walk using wpAny_loadPart' hl))
  exact ⟨_, rfl, h⟩
section
variable {X : Cx}
def rRepA (K : PySem.W.Frag) : R2 := fun x y H Q => ∃ (l : Addr) (k : Nat) (xs : List V), x = .ref l ∧ y = .int k ∧ SqT K H l xs ∧ xs ≠ [] ∧ k ≤ 1000 ∧ xs.length ≤ 1000 ∧ ∀ p H', Same H H' → SqT K H' p (List.replicate k xs).flatten → Q (.ref p) H'
theorem op_repA : OpR X (binaryOp .Mult) (rRepA X.K) := by
  intro pins s σ H x y v u Q I rx ry h
  obtain ⟨l, k, xs, rfl, rfl, hT, hne, hk, hz, q⟩ := h
  by_cases k2 : 2 ≤ k
  · refine op_repT pins s σ H _ _ v u Q I rx ry ⟨l, (k : Int), xs, rfl, rfl, hT, hne, by omega, by omega, hz, fun p np => ?_⟩
    rw [Int.toNat_natCast]
    exact q p _ (fun b o e => by rw [upd_ne (ne_of_none e np)]; exact e) (.inl (.inl upd_same))
  cases rx
  obtain ⟨t, rfl⟩ := ry
  obtain ⟨its, r, ⟨⟨cls, dd, data, sl⟩, ho, hc, n, hd⟩, hs⟩ := I.tuple hT
  simp only at hc hd
  subst hc hd
  have hn : its ≠ [] := fun e => by
    have hle := r.length
    rw [e] at hle
    exact hne (List.eq_nil_of_length_eq_zero hle)
  have hi : its.toArray.isEmpty = false := by
    cases its with
    | nil => exact absurd rfl hn
    | cons a b => rfl
  by_cases k1 : k = 1
  · subst k1
    refine wpAny_binaryOp_repeat_ref (T := "tuple") (U := "int") (by decide) ⟨_, ho, rfl⟩ (fun s' => typeIs_int s' _ t) noFill_tuple_mul F.fills_int_mul F.slot_int_rmul repeat_tuple F.slot_int_index.lookup
      (call_meets F.slot_int_rmul (typeIs_int s _ t) F.entry_int_rmul (F.args_int_rmul_2 _ _) (int_rmul_tuple _ t l its.toArray n dd sl) ⟨ho, rfl, ⟨_, ho, rfl⟩, call_meets F.slot_tuple_mul ⟨_, ho, rfl⟩ F.entry_tuple_mul (F.args_tuple_mul_2 _ _)
        (tup_once l its.toArray n dd sl t (by rw [hi]; rfl)) ⟨ho, ?_⟩⟩)
    refine ⟨.ref l, H, I, rfl, q l H (Same.refl _) ?_⟩
    have e : (List.replicate 1 xs).flatten = xs := by simp
    rw [e]
    exact hT
  · have k0 : k = 0 := by omega
    subst k0
    refine wpAny_binaryOp_repeat_ref (T := "tuple") (U := "int") (by decide) ⟨_, ho, rfl⟩ (fun s' => typeIs_int s' _ t) noFill_tuple_mul F.fills_int_mul F.slot_int_rmul repeat_tuple F.slot_int_index.lookup
      (call_meets F.slot_int_rmul (typeIs_int s _ t) F.entry_int_rmul (F.args_int_rmul_2 _ _) (int_rmul_tuple _ t l its.toArray n dd sl) ⟨ho, rfl, ⟨_, ho, rfl⟩, call_meets F.slot_tuple_mul ⟨_, ho, rfl⟩ F.entry_tuple_mul (F.args_tuple_mul_2 _ _)
        (tup_none l its.toArray n dd sl t (by rw [hi]; rfl)) ⟨ho, ?_⟩⟩)
    have np := I.hok.fresh (Nat.le_refl s.heap.objs.size)
    refine ⟨.ref s.heap.objs.size, _, I.laid (t' := s.toks) (o := .tup []) (fun b ob e => Heap.get?_push_of_some _ e) (Nat.le_refl _) ⟨Nat.zero_le _, [], .nil, IsTup.new _ _⟩, rfl, q _ _ (fun b o e => by rw [upd_ne (ne_of_none e np)]; exact e) (.inl (.inl upd_same))⟩
end
section
variable {X : Cx}
def rCatM (K : PySem.W.Frag) : R2 := fun x y H Q => ∃ a b xs ys, x = .ref a ∧ y = .ref b ∧ SqT K H a xs ∧ SqT K H b ys ∧ xs.length + ys.length ≤ sizeLine ∧ ∀ t H', Same H H' → SqT K H' t (xs ++ ys) → Q (.ref t) H'
theorem op_catM : OpR X (binaryOp .Add) (rCatM X.K) := by
  intro pins s σ H x y v u Q I rx ry h
  obtain ⟨a, b, xs, ys, rfl, rfl, ha, hb, hl, q⟩ := h
  refine op_catA pins s σ H _ _ v u Q I rx ry ⟨a, b, xs, ys, rfl, rfl, ha, hb, hl, fun e => q b H (Same.refl _) ?_, fun _ e => q a H (Same.refl _) ?_, fun _ _ p np => q p _ (fun b o e => by rw [upd_ne (ne_of_none e np)]; exact e) (.inl (.inl upd_same))⟩
  · subst e
    exact hb
  · subst e
    rw [List.append_nil]
    exact ha
def rSlM (K : PySem.W.Frag) : V → Option Int → Option Int → Hp → VK → Prop := fun x lo hi H Q => ∃ a xs, x = .ref a ∧ SqT K H a xs ∧ ∀ t H', Same H H' → SqT K H' t (cutV xs lo hi) → Q (.ref t) H'
theorem cut_whole {xs : List V} {lo hi : Option Int} (h : HT.sIx xs.length 0 lo = 0 ∧ HT.sIx xs.length xs.length hi = xs.length) : cutV xs lo hi = xs := by
  unfold cutV
  rw [h.1, h.2, List.drop_zero, Nat.sub_zero]
  exact List.take_of_length_le (Nat.le_refl _)
theorem sl_tupM : SlR X (rSlM X.K) := by
  intro pins s σ H x v vl vu lo hi sl Q I rx hs pl pu h
  obtain ⟨a, xs, rfl, hS, q⟩ := h
  exact sl_tupA pins s σ H _ v vl vu lo hi sl Q I rx hs pl pu ⟨a, xs, rfl, hS, fun e => q a H (Same.refl _) (by rw [cut_whole e]; exact hS), fun _ p np => q p _ (fun b o e => by rw [upd_ne (ne_of_none e np)]; exact e) (.inl (.inl upd_same))⟩
end
end VG
namespace CK
open PySem PySem.Spec PyProof.Rows L2 VG FR HD
def Shn (d : PyData) (k B : Nat) : Prop := d.showable = true ∧ d.hasDict = false ∧ d.depth ≤ k ∧ d.shown.length ≤ B
theorem shn_all {k B : Nat} : ∀ ds : List PyData, (∀ d ∈ ds, Shn d k B) → PyData.showableAll ds = true ∧ PyData.hasDictAll ds = false ∧ PyData.depthAll ds ≤ k ∧ piled (PyData.shownAll ds) ≤ (B + 2) * ds.length
  | [], _ => ⟨by simp [PyData.showableAll], by simp [PyData.hasDictAll], by simp [PyData.depthAll], by simp [PyData.shownAll, piled]⟩
  | d :: ds, h => by
    have ⟨a1, a2, a3, a4⟩ := h d List.mem_cons_self
    have ⟨b1, b2, b3, b4⟩ := shn_all ds fun e he => h e (List.mem_cons_of_mem _ he)
    refine ⟨?_, ?_, ?_, ?_⟩
    · rw [PyData.showableAll, a1, b1]
      rfl
    · rw [PyData.hasDictAll, a2, b2]
      rfl
    · rw [PyData.depthAll]
      omega
    · rw [PyData.shownAll, piled_cons, List.length_cons, Nat.mul_succ]
      omega
theorem shn_tup {k B n : Nat} {ds : List PyData} (h : ∀ d ∈ ds, Shn d k B) (hn : ds.length ≤ n) : Shn (.tuple ds) (k + 1) ((B + 2) * n + 2) := by
  have ⟨b1, b2, b3, b4⟩ := shn_all ds h
  refine ⟨?_, ?_, ?_, ?_⟩
  · rw [PyData.showable]
    exact b1
  · rw [PyData.hasDict]
    exact b2
  · rw [PyData.depth]
    omega
  · show (tupleText (PyData.shownAll ds)).length ≤ _
    have e := fmt_text (PyData.shownAll ds)
    have m : (B + 2) * ds.length ≤ (B + 2) * n := Nat.mul_le_mul_left _ hn
    omega
theorem shn_int {a : Int} {k : Nat} (k0 : 0 < k) (h : a.natAbs < 2 ^ k) (hk : k ≤ 1900) : Shn (.int a) 0 (k + 1) := by
  have l2 : a.natAbs.log2 < k := by
    by_cases h0 : a.natAbs = 0
    · rw [h0]
      exact Nat.lt_of_le_of_lt (Nat.le_of_eq (by decide)) k0
    · exact (Nat.log2_lt h0).mpr h
  refine ⟨?_, by rw [PyData.hasDict], by simp [PyData.depth], ?_⟩
  · rw [PyData.showable]
    exact decide_eq_true (by omega)
  · show (Str.ofString (toString a)).length ≤ _
    rw [PySem.ofString_length]
    exact int_text_length_le k0 l2
def dI (c : List Int) : PyData := .tuple (c.map PyData.int)
theorem shn_dI {c : List Int} {n : Nat} (h : ∀ x ∈ c, x.natAbs < 2 ^ 24) (hn : c.length ≤ n) : Shn (dI c) 1 (27 * n + 2) := shn_tup (k := 0) (B := 25) (fun d hd => by
  obtain ⟨x, hx, rfl⟩ := List.mem_map.mp hd
  exact shn_int (by decide) (h x hx) (by decide)) (by rw [List.length_map]; exact hn)
theorem dp_I {K : PySem.W.Frag} {H : Hp} {t : Addr} {c : List Int} (h : SqT K H t (c.map V.int)) : Dp K H (.ref t) (dI c) := .tup h (dpAll_ints K H c)
theorem Shn.r {d : PyData} {k B : Nat} (s : Shn d k B) (hk : k ≤ 60 := by decide) (hB : B ≤ 16777216 := by decide) : d.showable = true ∧ d.hasDict = false ∧ d.depth ≤ 60 ∧ d.shown.length ≤ sizeLine :=
  ⟨s.1, s.2.1, Nat.le_trans s.2.2.1 hk, Nat.le_trans s.2.2.2 (Nat.le_trans hB (by decide))⟩
theorem eqv_dI (a b : List Int) : PyData.eqv (dI a) (dI b) = decide (a = b) := by
  show PyData.eqv (.tuple (a.map PyData.int)) (.tuple (b.map PyData.int)) = _
  rw [PyData.eqv]
  exact eqvAll_ints a b
def bT (b : Bool) : Str := if b = true then (("True" : String) : Str) else (("False" : String) : Str)
end CK
namespace CK
open PySem PySem.Spec PyProof.Rows L2 VG FR HD
theorem Parts.ints {K : PySem.W.Frag} {H : Hp} : ∀ c : List Int, Parts K H (c.map V.int) (c.map some)
  | [] => trivial
  | a :: c => ⟨.inl ⟨a, rfl, rfl⟩, Parts.ints c⟩
theorem kitT1 : kitB "tuple" "int" = some false := by decide +kernel
theorem kitT2 : kitB "tuple" "bool" = some false := by decide +kernel
theorem kNT : kitB "NoneType" "tuple" = some false := by decide +kernel
theorem kIT : kitB "int" "tuple" = some false := by decide +kernel
theorem kST : kitB "str" "tuple" = some false := by decide +kernel
theorem kLT : kitB "list" "tuple" = some false := by decide +kernel
theorem kDT : kitB "dict" "tuple" = some false := by decide +kernel
theorem part_tup {K : PySem.W.Frag} {H : Hp} {t : Addr} {xs : List V} (h : SqT K H t xs) : Part K H (.ref t) none := .inr ⟨rfl, "tuple", false, false, tyT h, kitT1, kitT2, rfl⟩
theorem part_bl {K : PySem.W.Frag} {H : Hp} (b : Bool) : Part K H (.bl b) none := .inr ⟨rfl, "bool", true, true, .base (.bl b), kitB1, kitB2, rfl⟩
theorem AnyV.tup {K : PySem.W.Frag} {H : Hp} {t : Addr} {xs : List V} {os : List (Option Int)} (h : SqT K H t xs) (k : Parts K H xs os) (l : os.length ≤ 1000) : ∃ o, AnyV K H (.ref t) o := ⟨some os, t, xs, rfl, h, k, l⟩
end CK
namespace CK
open FR
theorem flat_sub (p : List Int → Bool) : ∀ cs : List (List Int), (cs.filter p).flatten.Sublist cs.flatten
  | [] => List.Sublist.refl _
  | c :: cs => by
    have ih := flat_sub p cs
    rw [List.filter_cons, List.flatten_cons]
    by_cases h : p c = true
    · rw [if_pos h, List.flatten_cons]
      exact List.Sublist.append (List.Sublist.refl _) ih
    · rw [if_neg h]
      exact ih.trans (List.sublist_append_right _ _)
theorem whole_perm {ts : List (List Int)} {n : Nat} {c : List Int} (hc : c ∈ ts) (nd : c.Nodup) (ok : ∀ x ∈ c, 0 ≤ x ∧ x < (n : Int)) : c.Perm ((classesL ts n).filter fun cl => c.contains (headI cl)).flatten := by
  refine (List.perm_ext_iff_of_nodup nd ?_).mpr fun x => ?_
  · have h : ((classesL ts n).flatten).Nodup := classes_apart ts n
    exact List.Pairwise.sublist (flat_sub _ _) h
  · constructor
    · intro hx
      have ⟨k0, k1⟩ := ok x hx
      obtain ⟨j, rfl⟩ := Int.eq_ofNat_of_zero_le k0
      obtain ⟨a, cl, g1, g2, g3⟩ := cls_one (n := n) hc (by omega) hx
      refine List.mem_flatten.mpr ⟨cl, List.mem_filter.mpr ⟨List.mem_of_getElem? g1, ?_⟩, g2⟩
      exact (rec_iff hc ok g1).mp ⟨_, hx, num_of g1 g2 g3⟩
    · intro hx
      obtain ⟨cl, hl, hx⟩ := List.mem_flatten.mp hx
      obtain ⟨h1, h2⟩ := List.mem_filter.mp hl
      obtain ⟨t, et⟩ := List.mem_iff_getElem?.mp hc
      rw [classes_eq] at h1
      obtain ⟨key, hk, rfl⟩ := List.mem_map.mp h1
      have hm : headI (pick (memb (fT ts) key) n) ∈ pick (memb (fT ts) key) n := by
        generalize pick (memb (fT ts) key) n = cl at hx
        cases cl with
        | nil => cases hx
        | cons y r => exact List.mem_cons_self
      obtain ⟨i, i1, i2, i3⟩ := mem_pick.mp hx
      obtain ⟨j, j1, j2, j3⟩ := mem_pick.mp hm
      have q1 : fT ts i = key := of_decide_eq_true i2
      have q2 : fT ts j = key := of_decide_eq_true j2
      have h2 : c.contains (headI (pick (memb (fT ts) key) n)) = true := h2
      rw [j3] at h2
      have z : (t : Int) ∈ fT ts j := (mem_tw et).mpr h2
      rw [q2, ← q1] at z
      rw [i3]
      exact List.contains_iff_mem.mp ((mem_tw et).mp z)
end CK
namespace VG
open PySem PySem.Spec PyProof.Rows L2
structure MkT (P : Program) (w : World) (K : PySem.W.Frag) (mg : Str → Option Value) (base : Heap) (k : Nat) (x : Str) (C : Addr) (sp : Sp) : Prop where
  ex : ∃ (f : Addr) (fd : FuncData) (ps : List Str), Mk K C f ∧ FnOk P w K mg base CX0 k f fd ps sp ∧ mg x = some (.ref C) ∧ Binds K fd ps []
section
variable {X : Cx} {k j : Nat} {x : Str} {sp : Sp} {p pos : Pos} {e : Expr} {es : List Expr} {t : TA} {C : Addr}
theorem pe_mt (c : MkT X.prog X.w X.K X.mg X.base k x C sp) (hr : Room j X.A) (hk : k + 1 ≤ j) (hg : Gl X x) (ha : PA X (e :: es) t)
    (h1 : (x == ("__debug__" : Str)) = false := by decide) (h2 : starEach (e :: es) X.env = (false, eval e X.env) :: starEach es X.env := by rfl)
    (h3 : (backTo pos (starEach es X.env)).any (·.1) = false := by rfl) : PE X (.Call (.Name x p) (e :: es) [] pos) (tMake C sp [] E0 t) :=
  let ⟨_, _, _, M, F, m, b⟩ := c.ex
  pe_make M F (hr.mono hk) hg m b .nil pass0 ha h1 h2 h3
end
end VG
namespace CK
open PySem PySem.Spec PyProof.Rows L2 VG FR HD
theorem Tab.frz {K : PySem.W.Frag} {C a p q : Addr} {H : Hp} {ks : List Str} {ts : List (List Int)} (hd : Hd p q H) (h : Tab K C H a ks ts) : Tab K C (frz p q H) a ks ts := by
  obtain ⟨dx, k, t, xs, h1, h2, h3, h4⟩ := h
  obtain ⟨_, _, e1, e2, _⟩ := id hd
  have n1 : a ≠ p := fun z => by rw [z, e1] at h1; cases h1
  have n2 : a ≠ q := fun z => by rw [z, e2] at h1; cases h1
  exact ⟨dx, k, t, xs, frz_at h1 ⟨n1, n2⟩, seqTK hd keep_frz h2, seqTK hd keep_frz h3, h4.frz hd⟩
theorem tab_made {K : PySem.W.Frag} {C k t x dx : Addr} {H : Hp} {ks : List Str} {xs : List V} {ts : List (List Int)} {Qf : Hp → Prop} {E : XK} (hk : SqT K H k (ks.map V.str)) (ok : KindsOk ks) (ht : SqT K H t xs) (hT : Tots K H xs ts) (hl : ts.length ≤ 12) (hc : ∀ c ∈ ts, LotOk ks.length c) (nx : H x = none) (nd : H dx = none) (ne : dx ≠ x)
    (fin : ∀ H', Same H H' → Tab K C H' x ks ts → H x = none → Qf H') : spInitT K C (.ref x :: ([.ref k, .ref t] ++ [])) (L2.upd (L2.upd H dx (.own x)) x (.ins C dx [])) (fun v H2 => v = .non ∧ Qf H2) E := by
  have s1 := same_upd (o := .own x) nd
  have nx1 : L2.upd H dx (.own x) x = none := by rw [upd_ne ne.symm]; exact nx
  have s2 := s1.trans (same_upd (o := .ins C dx []) nx1)
  refine ⟨x, dx, k, t, ks, xs, ts, rfl, upd_same, seqT s2 hk, ok, seqT s2 ht, hT.mono s2, hl, hc, fun H' kp hx => ⟨rfl, ?_⟩⟩
  have s3 : Same H H' := fun b o e => kp b o (ne_of_none e nx) (s2 b o e)
  exact fin H' s3 ⟨dx, k, t, xs, hx, seqT s3 hk, seqT s3 ht, hT.mono s3⟩ nx
theorem dpAll_tots {K : PySem.W.Frag} {H : Hp} : ∀ {vs : List V} {ts : List (List Int)}, Tots K H vs ts → DpAll K H vs (ts.map dI)
  | [], [], _ => .nil
  | _ :: _, _ :: _, ⟨⟨t, e1, h⟩, r⟩ => by
    subst e1
    exact .cons (dp_I h) (dpAll_tots r)
  | [], _ :: _, h => h.elim
  | _ :: _, [], h => h.elim
theorem cls_ne {ts : List (List Int)} {n : Nat} : ∀ d ∈ classesL ts n, d ≠ [] := by
  intro d hd z
  rw [classes_eq] at hd
  obtain ⟨key, hk, rfl⟩ := List.mem_map.mp hd
  obtain ⟨j, l1, f1⟩ := keys_from _ (List.mem_filter.mp hk).1
  have : (j : Int) ∈ pick (memb (fT ts) key) n := mem_pick.mpr ⟨j, l1, decide_eq_true f1, rfl⟩
  rw [z] at this
  cases this
/-- a row that was told or drawn -/
def RwOk (n : Nat) (G : Hp) (v : V) : Prop := ∃ (t : Addr) (c : List Int), v = .ref t ∧ G t = some (.tup (c.map V.int)) ∧ c.length = n ∧ ∀ x ∈ c, x.natAbs ≤ 5
theorem RwOk.mono {n : Nat} {G G' : Hp} {v : V} (s : Same G G') (h : RwOk n G v) : RwOk n G' v := by
  obtain ⟨t, c, e, k, l, z⟩ := h
  exact ⟨t, c, e, s _ _ k, l, z⟩
end CK
namespace CK
open PySem PySem.Spec PyProof.Rows L2 VG FR HD
def spHeapF (K : PySem.W.Frag) : Sp := fun vs H Q _ => ∃ (a : Addr) (ns : List Int), vs = [.ref a] ∧ SqL K H a (ns.map V.int) ∧ ns.length ≤ 63 ∧ ∀ H' p q, Hd p q H' → Same H H' → H p = none → H q = none → Q (.ref p) H'
end CK
namespace CK
open PySem PySem.Spec PyProof.Rows L2 VG FR HD
end CK
namespace VG
open PySem PySem.Spec PyProof.Rows L2
end VG
namespace CK
open PySem PySem.Spec PyProof.Rows L2 VG FR HD
inductive Stp where
  | tot (t : Nat) (s : Int)
  | less (c i j : Nat)
def stV : Stp → List V
  | .tot t s => [.str "total", .int t, .int s]
  | .less c i j => [.str "less", .int c, .int i, .int j]
def Sts (K : PySem.W.Frag) (H : Hp) : List V → List Stp → Prop
  | [], [] => True
  | v :: vs, c :: cs => (∃ t, v = .ref t ∧ SqT K H t (stV c)) ∧ Sts K H vs cs
  | _, _ => False
theorem Sts.mono {K : PySem.W.Frag} {H H' : Hp} (e : Same H H') : ∀ {vs : List V} {cs : List Stp}, Sts K H vs cs → Sts K H' vs cs
  | [], [], _ => trivial
  | _ :: _, _ :: _, ⟨⟨t, e1, h⟩, r⟩ => ⟨⟨t, e1, seqT e h⟩, r.mono e⟩
  | [], _ :: _, h => h.elim
  | _ :: _, [], h => h.elim
theorem Sts.len {K : PySem.W.Frag} {H : Hp} : ∀ {vs : List V} {cs : List Stp}, Sts K H vs cs → vs.length = cs.length
  | [], [], _ => rfl
  | _ :: _, _ :: _, h => by rw [List.length_cons, List.length_cons, h.2.len]
  | [], _ :: _, h => h.elim
  | _ :: _, [], h => h.elim
theorem Sts.get {K : PySem.W.Frag} {H : Hp} : ∀ {vs : List V} {cs : List Stp} {i : Nat} {v : V}, Sts K H vs cs → vs[i]? = some v → ∃ t c, v = .ref t ∧ cs[i]? = some c ∧ SqT K H t (stV c)
  | [], [], _, _, h, e => by simp at e
  | a :: _, c :: _, 0, v, h, e => by
    have e1 : a = v := Option.some.inj e
    subst e1
    obtain ⟨t, e2, q⟩ := h.1
    exact ⟨t, c, e2, rfl, q⟩
  | _ :: vs, _ :: cs, i + 1, v, h, e => h.2.get (i := i) e
  | [], _ :: _, _, _, h, _ => h.elim
  | _ :: _, [], _, _, h, _ => h.elim
theorem Sts.snoc {K : PySem.W.Frag} {H : Hp} {t : Addr} {c : Stp} (hv : SqT K H t (stV c)) : ∀ {vs : List V} {cs : List Stp}, Sts K H vs cs → Sts K H (vs ++ [.ref t]) (cs ++ [c])
  | [], [], _ => ⟨⟨t, rfl, hv⟩, trivial⟩
  | _ :: _, _ :: _, h => ⟨h.1, h.2.snoc hv⟩
  | [], _ :: _, h => h.elim
  | _ :: _, [], h => h.elim
theorem Sts.upd {K : PySem.W.Frag} {H : Hp} {D : Addr} {ys zs : List V} (hD : H D = some (.lst ys)) : ∀ {vs : List V} {cs : List Stp}, Sts K H vs cs → Sts K (L2.upd H D (.lst zs)) vs cs
  | [], [], _ => trivial
  | _ :: _, _ :: _, ⟨⟨t, e1, h⟩, r⟩ => ⟨⟨t, e1, seqT_upd hD h⟩, r.upd hD⟩
  | [], _ :: _, h => h.elim
  | _ :: _, [], h => h.elim
def oppL (cs : List Int) : List Int := cs.map fun a => -a
def beyB (cs : List Int) : Bool := cs.any fun c => decide (absI c > 1)
/-- the reckoning of a step -/
def recOf (bs known : List (List Int)) : Stp → List Int
  | .tot t s => if s = 1 then bs.getD t [] else oppL (bs.getD t [])
  | .less _ i j => difL (known.getD i []) (known.getD j [])
/-- a step that a derivation may have -/
def StOk (nb nk : Nat) : Stp → Prop
  | .tot t s => t < nb ∧ (s = 1 ∨ s = -1)
  | .less _ i j => i < nk ∧ j < nk
def along (bs : List (List Int)) : List Stp → List (List Int) → List (List Int)
  | [], known => known
  | s :: ss, known => along bs ss (known ++ [recOf bs known s])
/-- all rows have so many entries -/
def Rws (n : Nat) (bs : List (List Int)) : Prop := ∀ c ∈ bs, c.length = n
theorem Rws.getD {n : Nat} {bs : List (List Int)} (h : Rws n bs) {i : Nat} (hi : i < bs.length) : bs[i]? = some (bs.getD i []) ∧ (bs.getD i []).length = n := by
  have e : bs[i]? = some bs[i] := List.getElem?_eq_getElem hi
  have g : bs.getD i [] = bs[i] := by rw [List.getD_eq_getElem?_getD, e]; rfl
  exact ⟨by rw [g]; exact e, by rw [g]; exact h _ (List.getElem_mem hi)⟩
/-- the steps of a right derivation (what asks of agreements left out) -/
def DerOk (nb : Nat) (steps : List Stp) : Prop := ∀ i s, steps[i]? = some s → StOk nb i s
theorem along_len (bs : List (List Int)) : ∀ (ss : List Stp) (kn : List (List Int)), (along bs ss kn).length = kn.length + ss.length
  | [], kn => rfl
  | s :: ss, kn => by
    show (along bs ss (kn ++ [recOf bs kn s])).length = _
    rw [along_len bs ss]
    simp only [List.length_append, List.length_cons, List.length_nil]
    omega
end CK
namespace CK
open PySem PySem.Spec PyProof.Rows L2 VG FR HD
end CK
namespace CK
open PySem PySem.Spec PyProof.Rows L2 VG FR HD
end CK
namespace CK
open PySem PySem.Spec PyProof.Rows L2 VG FR HD
mutual
inductive Dv (K : PySem.W.Frag) (H : Hp) : V → PyData → Prop
  | non : Dv K H .non .none
  | bl (b : Bool) : Dv K H (.bl b) (.bool b)
  | int (i : Int) : Dv K H (.int i) (.int i)
  | str (x : Str) : Dv K H (.str x) (.str x)
  | lst {a : Addr} {xs : List V} {ds : List PyData} : H a = some (.lst xs) → DvAll K H xs ds → Dv K H (.ref a) (.list ds)
  | tup {a : Addr} {xs : List V} {ds : List PyData} : SqT K H a xs → DvAll K H xs ds → Dv K H (.ref a) (.tuple ds)
inductive DvAll (K : PySem.W.Frag) (H : Hp) : List V → List PyData → Prop
  | nil : DvAll K H [] []
  | cons {v : V} {vs : List V} {d : PyData} {ds : List PyData} : Dv K H v d → DvAll K H vs ds → DvAll K H (v :: vs) (d :: ds)
end
mutual
theorem Dv.mono {K : PySem.W.Frag} {H H' : Hp} (e : Same H H') : ∀ {v : V} {d : PyData}, Dv K H v d → Dv K H' v d
  | _, _, .non => .non
  | _, _, .bl b => .bl b
  | _, _, .int i => .int i
  | _, _, .str x => .str x
  | _, _, .lst h r => .lst (e _ _ h) (DvAll.mono e r)
  | _, _, .tup h r => .tup (seqT e h) (DvAll.mono e r)
theorem DvAll.mono {K : PySem.W.Frag} {H H' : Hp} (e : Same H H') : ∀ {vs : List V} {ds : List PyData}, DvAll K H vs ds → DvAll K H' vs ds
  | _, _, .nil => .nil
  | _, _, .cons h r => .cons (Dv.mono e h) (DvAll.mono e r)
end
theorem DvAll.len {K : PySem.W.Frag} {H : Hp} : ∀ {vs : List V} {ds : List PyData}, DvAll K H vs ds → vs.length = ds.length
  | _, _, .nil => rfl
  | _, _, .cons _ r => by rw [List.length_cons, List.length_cons, r.len]
theorem at00 (x : V) (xs : List V) : atI (x :: xs) 0 = some x := atI_nat (j := 0) rfl
def intO : PyData → Option Int
  | .int a => some a
  | _ => none
def isTupD : PyData → Bool
  | .tuple _ => true
  | _ => false
def isStrD : PyData → Bool
  | .str _ => true
  | _ => false
theorem kLI : kitB "list" "int" = some false := by decide +kernel
theorem kLB : kitB "list" "bool" = some false := by decide +kernel
theorem kBT : kitB "bool" "tuple" = some false := by decide +kernel
theorem kNS : kitB "NoneType" "str" = some false := by decide +kernel
theorem kBS : kitB "bool" "str" = some false := by decide +kernel
theorem kIS : kitB "int" "str" = some false := by decide +kernel
theorem kSS : kitB "str" "str" = some true := by decide +kernel
theorem kLS : kitB "list" "str" = some false := by decide +kernel
theorem kTS : kitB "tuple" "str" = some false := by decide +kernel
theorem Dv.part {K : PySem.W.Frag} {H : Hp} {v : V} {d : PyData} (h : Dv K H v d) : Part K H v (intO d) := by
  cases h with
  | non => exact .inr ⟨rfl, "NoneType", false, false, .base .non, kitN1, kitN2, rfl⟩
  | bl b => exact part_bl b
  | int i => exact .inl ⟨i, rfl, rfl⟩
  | str x => exact .inr ⟨rfl, "str", false, false, .base (.str _), kitS1, kitS2, rfl⟩
  | lst h r => exact .inr ⟨rfl, "list", false, false, .base (.lst h), kLI, kLB, rfl⟩
  | tup h r => exact part_tup h
theorem Dv.noTup {K : PySem.W.Frag} {H : Hp} {v : V} {d : PyData} (h : Dv K H v d) (n : isTupD d = false) : ∃ ty : String, TyX K H v (.type ty) ∧ kitB ty "tuple" = some false := by
  cases h with
  | non => exact ⟨"NoneType", .base .non, kNT⟩
  | bl b => exact ⟨"bool", .base (.bl b), kBT⟩
  | int i => exact ⟨"int", .base (.int i), kIT⟩
  | str x => exact ⟨"str", .base (.str x), kST⟩
  | lst h r => exact ⟨"list", .base (.lst h), kLT⟩
  | tup h r => cases n
theorem Dv.isS {K : PySem.W.Frag} {H : Hp} {v : V} {d : PyData} (h : Dv K H v d) : ∃ ty : String, TyX K H v (.type ty) ∧ kitB ty "str" = some (isStrD d) := by
  cases h with
  | non => exact ⟨"NoneType", .base .non, kNS⟩
  | bl b => exact ⟨"bool", .base (.bl b), kBS⟩
  | int i => exact ⟨"int", .base (.int i), kIS⟩
  | str x => exact ⟨"str", .base (.str x), kSS⟩
  | lst h r => exact ⟨"list", .base (.lst h), kLS⟩
  | tup h r => exact ⟨"tuple", tyT h, kTS⟩
theorem Dv.isT {K : PySem.W.Frag} {H : Hp} {v : V} {ds : List PyData} (h : Dv K H v (.tuple ds)) : ∃ a xs, v = .ref a ∧ SqT K H a xs ∧ DvAll K H xs ds := by
  cases h with
  | tup h r => exact ⟨_, _, rfl, h, r⟩
def numO : Option Int → Bool
  | some a => decide (0 ≤ a)
  | none => false
def belowO (n : Int) : Option Int → Bool
  | some a => decide (0 ≤ a ∧ a < n)
  | none => false
def spNumA (K : PySem.W.Frag) : Sp := fun vs H Q _ => ∃ (v : V) (o : Option Int), vs = [v] ∧ Part K H v o ∧ Q (.bl (numO o)) H
def spBelowA (K : PySem.W.Frag) : Sp := fun vs H Q _ => ∃ (v : V) (o : Option Int) (n : Int), vs = [v, .int n] ∧ Part K H v o ∧ Q (.bl (belowO n o)) H
end CK
namespace CK
open PySem PySem.Spec PyProof.Rows L2 VG FR HD
end CK
namespace CK
open PySem PySem.Spec PyProof.Rows L2 VG FR HD
def shortD : PyData → Prop
  | .tuple ds => ds.length ≤ 1000
  | _ => True
theorem DvAll.get {K : PySem.W.Frag} {H : Hp} : ∀ {xs : List V} {ds : List PyData} {i : Nat} {x : V}, DvAll K H xs ds → xs[i]? = some x → ∃ d, ds[i]? = some d ∧ Dv K H x d
  | _, _, i, x, .nil, e => by simp at e
  | _, _, 0, x, .cons h _, e => by
    have e1 := Option.some.inj e
    subst e1
    exact ⟨_, rfl, h⟩
  | _, _, i + 1, x, .cons _ r, e => r.get (i := i) e
end CK
namespace CK
open PySem PySem.Spec PyProof.Rows L2 VG FR HD
end CK
namespace CK
open PySem PySem.Spec PyProof.Rows L2 VG FR HD
theorem shaped_nil2 : SeqAt.shaped (.tuple []) = true := by decide
end CK
namespace CK
open PySem PySem.Spec PyProof.Rows L2 VG FR HD
theorem Sts.append {K : PySem.W.Frag} {H : Hp} : ∀ {xs ys : List V} {a b : List Stp}, Sts K H xs a → Sts K H ys b → Sts K H (xs ++ ys) (a ++ b)
  | [], _, [], _, _, h => h
  | _ :: _, _, _ :: _, _, h1, h2 => ⟨h1.1, h1.2.append h2⟩
  | [], _, _ :: _, _, h, _ => h.elim
  | _ :: _, _, [], _, h, _ => h.elim
end CK
namespace CK
open PySem PySem.Spec PyProof.Rows L2 VG FR HD
def refsIn (x : Nat) : Option Stp → Bool
  | some (.less _ i j) => decide (x = i) || decide (x = j)
  | _ => false
def nz (steps : List Stp) : Nat → Nat → Bool
  | 0, x => decide (x + 1 = steps.length)
  | k + 1, x => nz steps k x || (nz steps k (steps.length - 1 - k) && refsIn x steps[steps.length - 1 - k]?)
def tk (k : Nat) : L2.Key × V := ((Sum.inl (k : Int) : L2.Key), .bl true)
end CK
namespace CK
open PySem PySem.Spec PyProof.Rows L2 VG FR HD
theorem along_app (bs : List (List Int)) : ∀ (ss tt : List Stp) (kn : List (List Int)), along bs (ss ++ tt) kn = along bs tt (along bs ss kn)
  | [], _, _ => rfl
  | s :: ss, tt, kn => along_app bs ss tt (kn ++ [recOf bs kn s])
theorem along_pre (bs : List (List Int)) : ∀ (ss : List Stp) (kn : List (List Int)), ∃ r, along bs ss kn = kn ++ r
  | [], kn => ⟨[], (List.append_nil kn).symm⟩
  | s :: ss, kn => by
    obtain ⟨r, e⟩ := along_pre bs ss (kn ++ [recOf bs kn s])
    exact ⟨recOf bs kn s :: r, by show along bs ss (kn ++ [recOf bs kn s]) = _; rw [e]; simp⟩
theorem along_len0 (bs : List (List Int)) (ss : List Stp) : (along bs ss []).length = ss.length := by
  rw [along_len, List.length_nil, Nat.zero_add]
theorem along_takeE (bs : List (List Int)) (ss : List Stp) (i : Nat) : (along bs ss []).take i = along bs (ss.take i) [] := by
  obtain ⟨r, e⟩ := along_pre bs (ss.drop i) (along bs (ss.take i) [])
  rw [← along_app, List.take_append_drop] at e
  by_cases hi : i ≤ ss.length
  · have l : (along bs (ss.take i) []).length = i := by rw [along_len0, List.length_take]; omega
    rw [e, List.take_left' l]
  · rw [List.take_of_length_le (by rw [along_len0]; omega), List.take_of_length_le (by omega)]
theorem getD_take {R : List (List Int)} {a i : Nat} (h : a < i) : (R.take i).getD a [] = R.getD a [] := by
  rw [List.getD_eq_getElem?_getD, List.getD_eq_getElem?_getD, List.getElem?_take, if_pos h]
def RStp (nb many : Nat) (R : List (List Int)) (i : Nat) : Stp → Prop
  | .tot t s => t < nb ∧ (s = 1 ∨ s = -1)
  | .less c a b => c < many ∧ a < i ∧ b < i ∧ beyB (R.getD a []) = false ∧ beyB (R.getD b []) = false ∧ (agrL (R.getD a []) (R.getD b [])).contains (c : Int) = true
def RD (bs : List (List Int)) (many : Nat) (steps : List Stp) : Prop := ∀ i s, steps[i]? = some s → RStp bs.length many (along bs steps []) i s
theorem RD.ok {bs : List (List Int)} {many : Nat} {steps : List Stp} (h : RD bs many steps) : DerOk bs.length steps := fun i s e => by
  have r := h i s e
  cases s with
  | tot t s => exact r
  | less c a b => exact ⟨r.2.1, r.2.2.1⟩
theorem RStp.take {nb many i : Nat} {R : List (List Int)} : ∀ {s : Stp}, RStp nb many (R.take i) i s ↔ RStp nb many R i s
  | .tot t s => Iff.rfl
  | .less c a b => by
    constructor
    · rintro ⟨h1, h2, h3, h4, h5, h6⟩
      rw [getD_take h2] at h4 h6
      rw [getD_take h3] at h5 h6
      exact ⟨h1, h2, h3, h4, h5, h6⟩
    · rintro ⟨h1, h2, h3, h4, h5, h6⟩
      refine ⟨h1, h2, h3, ?_, ?_, ?_⟩
      · rw [getD_take h2]; exact h4
      · rw [getD_take h3]; exact h5
      · rw [getD_take h2, getD_take h3]; exact h6
theorem RD.take {bs : List (List Int)} {many : Nat} {steps : List Stp} (h : RD bs many steps) (k : Nat) : RD bs many (steps.take k) := fun i s e => by
  have hi : i < k := by
    have := (List.getElem?_eq_some_iff.mp e).1
    rw [List.length_take] at this
    omega
  rw [List.getElem?_take, if_pos hi] at e
  have r := RStp.take.mpr (h i s e)
  rw [along_takeE] at r
  refine RStp.take.mp ?_
  rw [along_takeE, List.take_take, show min i k = i from by omega]
  exact r
theorem RD.more {bs : List (List Int)} {many : Nat} {steps : List Stp} (h : RD bs many steps) {s : Stp} (hs : RStp bs.length many (along bs steps []) steps.length s) : RD bs many (steps ++ [s]) := fun i x e => by
  refine RStp.take.mp ?_
  rw [along_takeE]
  by_cases hi : i < steps.length
  · rw [List.getElem?_append_left hi] at e
    rw [List.take_append_of_le_length (by omega), ← along_takeE]
    exact RStp.take.mpr (h i x e)
  · have hi2 : i = steps.length := by
      have := (List.getElem?_eq_some_iff.mp e).1
      rw [List.length_append] at this
      simp only [List.length_cons, List.length_nil] at this
      omega
    subst hi2
    rw [List.getElem?_append_right (Nat.le_refl _), Nat.sub_self] at e
    have e := Option.some.inj e
    subst e
    rw [List.take_left]
    exact hs
end CK
namespace CK
open PySem PySem.Spec PyProof.Rows L2 VG FR HD
end CK
namespace CK
open PySem PySem.Spec PyProof.Rows L2 VG FR HD
theorem Sts.keep {K : PySem.W.Frag} {H H' : Hp} {p q : Addr} (hd : Hd p q H) (kp : Keep p q H H') : ∀ {vs : List V} {cs : List Stp}, Sts K H vs cs → Sts K H' vs cs
  | [], [], _ => trivial
  | _ :: _, _ :: _, ⟨⟨t, e1, h⟩, r⟩ => ⟨⟨t, e1, seqTK hd kp h⟩, r.keep hd kp⟩
  | [], _ :: _, h => h.elim
  | _ :: _, [], h => h.elim
theorem Tots.keep {K : PySem.W.Frag} {H H' : Hp} {p q : Addr} (hd : Hd p q H) (kp : Keep p q H H') : ∀ {vs : List V} {cs : List (List Int)}, Tots K H vs cs → Tots K H' vs cs
  | [], [], _ => trivial
  | _ :: _, _ :: _, ⟨⟨t, e1, h⟩, r⟩ => ⟨⟨t, e1, seqTK hd kp h⟩, Tots.keep hd kp r⟩
  | [], _ :: _, h => h.elim
  | _ :: _, [], h => h.elim
theorem shaped_tots (ts : List (List Int)) : SeqAt.shaped (.list (ts.map dI)) = true := by
  have h : PyData.canLayAll0 (ts.map dI) = true ∧ PyData.depthAll (ts.map dI) ≤ 1 := by
    induction ts with
    | nil => exact ⟨rfl, Nat.zero_le _⟩
    | cons t ts ih =>
      refine ⟨?_, ?_⟩
      · show (PyData.canLay0 (dI t) && PyData.canLayAll0 (ts.map dI)) = true
        rw [ih.1, Bool.and_true]
        exact PySem.W.ke_canLayAll0 t
      · show max (PyData.depthAll (t.map PyData.int) + 1) (PyData.depthAll (ts.map dI)) ≤ 1
        rw [PySem.W.ke_depthAll]
        exact Nat.max_le.mpr ⟨Nat.le_refl _, ih.2⟩
  unfold SeqAt.shaped
  have e1 : PyData.canLay0 (.list (ts.map dI)) = true := h.1
  have e2 : PyData.depth (.list (ts.map dI)) ≤ 64 := by
    show PyData.depthAll _ + 1 ≤ 64
    have := h.2
    omega
  rw [e1, decide_eq_true e2]
  rfl
end CK
namespace VG
open PySem PySem.Spec PyProof.Rows L2
end VG
namespace CK
open PySem PySem.Spec PyProof.Rows L2 VG FR HD
end CK
namespace CK
open PySem PySem.Spec PyProof.Rows L2 VG FR HD
def Gd (n : Nat) (d : PyData) : Prop := d.canLay0 = true ∧ d.depth ≤ n
theorem gd_all {n : Nat} : ∀ {ds : List PyData}, (∀ d ∈ ds, Gd n d) → PyData.canLayAll0 ds = true ∧ PyData.depthAll ds ≤ n
  | [], _ => ⟨rfl, Nat.zero_le _⟩
  | d :: ds, h => by
    have ⟨a1, a2⟩ := h d List.mem_cons_self
    have ⟨b1, b2⟩ := gd_all (ds := ds) fun e he => h e (List.mem_cons_of_mem _ he)
    refine ⟨?_, ?_⟩
    · show (PyData.canLay0 d && PyData.canLayAll0 ds) = true
      rw [a1, b1]
      rfl
    · show max (PyData.depth d) (PyData.depthAll ds) ≤ n
      omega
theorem gd_tup {n : Nat} {ds : List PyData} (h : ∀ d ∈ ds, Gd n d) : Gd (n + 1) (.tuple ds) := ⟨(gd_all h).1, Nat.succ_le_succ (gd_all h).2⟩
theorem gd_lst {n : Nat} {ds : List PyData} (h : ∀ d ∈ ds, Gd n d) : Gd (n + 1) (.list ds) := ⟨(gd_all h).1, Nat.succ_le_succ (gd_all h).2⟩
theorem gd_int (n : Nat) (a : Int) : Gd n (.int a) := ⟨rfl, Nat.zero_le _⟩
theorem gd_non (n : Nat) : Gd n .none := ⟨rfl, Nat.zero_le _⟩
theorem gd_str (n : Nat) {x : Str} (h : PyData.strOk x = true) : Gd n (.str x) := ⟨h, Nat.zero_le _⟩
theorem Gd.shaped {n : Nat} {d : PyData} (h : Gd n d) (hn : n ≤ 64) : SeqAt.shaped d = true := by
  unfold SeqAt.shaped
  rw [h.1, decide_eq_true (Nat.le_trans h.2 hn)]
  rfl
end CK
namespace CK
open PySem PySem.Spec PyProof.Rows L2 VG FR HD
end CK
namespace CK
open PySem PySem.Spec PyProof.Rows L2 VG FR HD
/-- lists of ints, none of them D -/
def LsD (D : Addr) (H : Hp) : List V → List (List Int) → Prop
  | [], [] => True
  | v :: vs, c :: cs => (∃ t, v = .ref t ∧ t ≠ D ∧ H t = some (.lst (c.map V.int))) ∧ LsD D H vs cs
  | _, _ => False
theorem LsD.mono {D : Addr} {H H' : Hp} (e : Same H H') : ∀ {vs : List V} {cs : List (List Int)}, LsD D H vs cs → LsD D H' vs cs
  | [], [], _ => trivial
  | _ :: _, _ :: _, ⟨⟨t, e1, n, h⟩, r⟩ => ⟨⟨t, e1, n, e _ _ h⟩, r.mono e⟩
  | [], _ :: _, h => h.elim
  | _ :: _, [], h => h.elim
theorem LsD.len {D : Addr} {H : Hp} : ∀ {vs : List V} {cs : List (List Int)}, LsD D H vs cs → vs.length = cs.length
  | [], [], _ => rfl
  | _ :: _, _ :: _, h => by rw [List.length_cons, List.length_cons, h.2.len]
  | [], _ :: _, h => h.elim
  | _ :: _, [], h => h.elim
theorem LsD.snoc {D : Addr} {H : Hp} {t : Addr} {c : List Int} (n : t ≠ D) (h : H t = some (.lst (c.map V.int))) : ∀ {vs : List V} {cs : List (List Int)}, LsD D H vs cs → LsD D H (vs ++ [.ref t]) (cs ++ [c])
  | [], [], _ => ⟨⟨t, rfl, n, h⟩, trivial⟩
  | _ :: _, _ :: _, q => ⟨q.1, q.2.snoc n h⟩
  | [], _ :: _, q => q.elim
  | _ :: _, [], q => q.elim
theorem LsD.upd {D : Addr} {H : Hp} {o : HO} : ∀ {vs : List V} {cs : List (List Int)}, LsD D H vs cs → LsD D (L2.upd H D o) vs cs
  | [], [], _ => trivial
  | _ :: _, _ :: _, ⟨⟨t, e1, n, h⟩, r⟩ => ⟨⟨t, e1, n, by rw [upd_ne n]; exact h⟩, r.upd⟩
  | [], _ :: _, h => h.elim
  | _ :: _, [], h => h.elim
theorem LsD.get {D : Addr} {H : Hp} : ∀ {vs : List V} {cs : List (List Int)} {i : Nat}, LsD D H vs cs → i < cs.length → ∃ t, vs[i]? = some (.ref t) ∧ H t = some (.lst ((cs.getD i []).map V.int))
  | v :: _, _ :: _, 0, h, _ => by
    obtain ⟨t, e, _, q⟩ := h.1
    exact ⟨t, congrArg some e, q⟩
  | _ :: vs, _ :: cs, i + 1, h, l => h.2.get (i := i) (by simpa using l)
  | [], [], _, _, l => by simp at l
  | [], _ :: _, _, h, _ => h.elim
  | _ :: _, [], _, h, _ => h.elim
end CK
namespace CK
open PySem PySem.Spec PyProof.Rows L2 VG FR HD
end CK
namespace VG
open PySem PySem.Spec PyProof.Rows L2 HT
end VG
namespace CK
open PySem PySem.Spec PyProof.Rows L2 VG FR HD
def Lv (K : PySem.W.Frag) (G : Hp) (n : Nat) (v : V) : Prop := ∃ e, Dv K G v e ∧ Gd n e ∧ shortD e ∧ ∀ ds, e = .tuple ds → ∀ x ∈ ds, shortD x
theorem Lv.mono {K : PySem.W.Frag} {G G' : Hp} {n : Nat} {v : V} (s : Same G G') (h : Lv K G n v) : Lv K G' n v := by
  obtain ⟨e, h1, h2⟩ := h
  exact ⟨e, h1.mono s, h2⟩
end CK
namespace CK
open PySem PySem.Spec PyProof.Rows L2 VG FR HD
theorem gd_dI (c : List Int) : Gd 1 (dI c) := gd_tup fun d hd => by
  obtain ⟨x, _, rfl⟩ := List.mem_map.mp hd
  exact gd_int 0 x
end CK
namespace CK
open PySem PySem.Spec PyProof.Rows L2 VG FR HD
end CK
namespace CK
open PySem PySem.Spec PyProof.Rows L2 VG FR HD
def k0 : List Str := ["a"]
end CK
namespace VG
open PySem PySem.Spec PyProof.Rows L2
abbrev blankT : Obj := { cls := .none, data := .fields #[] }
/-- the places of the tables -/
def tabP (cs : List (Addr × Addr)) : List Addr := cs.map Prod.snd
theorem tabP_of {cs : List (Addr × Addr)} {c : Addr × Addr} (h : c ∈ cs) : c.2 ∈ tabP cs := List.mem_map_of_mem h
section
variable {P : Program} {w : World} {K : PySem.W.Frag} {mg mb : Str → Option Value}
theorem law_callGT {k : Nat} {fa a : Addr} {cs : List (Addr × Addr)} {fd : FuncData} {x : Str} {sp : Sp} {S0 : Shared} {us : List Value} {ns : List Int}
    (inK : K.In S0.heap) (gns : S0.heap.Ns mainGlobals mg) (bns : S0.heap.Ns builtinsNs mb) (boot : ∀ y : Str, y ≠ "__name__" → mb y = bootBuiltins y) (lim : S0.heap.NoLimit) (gen0 : S0.gens = #[])
    (tb : ∀ c ∈ cs, S0.heap.get? c.2 = some blankT) (tk : ∀ c ∈ cs, K.lookup c.2 = none) (th : ∀ c ∈ cs, PySem.W.CodeHd S0.heap c.1 c.2)
    (bm : ∃ (m : Addr) (ob : Obj), mg "__builtins__" = some (.ref m) ∧ m ≠ builtinsNs ∧ S0.heap.get? m = some ob ∧ ob.cls = .type "module" ∧ ob.dict = some builtinsNs ∧ ob.data = .plain)
    (ga : S0.heap.get? a = some { cls := .type "list", data := .seq us.toArray }) (isInts : IntsAre us ns) (short : ns.length ≤ sizeLine) (room : Room k callerA)
    (F : ∀ base : Heap, K.In base → base.Ns mainGlobals mg → (∀ c ∈ cs, LamX.TabB base mg c.1 c.2) → FnG P w K mg base k fa fd [x] sp) (binds : ∀ (s : Shared) (u : Value), BindsTo s fd ⟨[u], []⟩ [(x, u)])
    (told : ∀ H : Hp, (∀ c ∈ cs, H c.2 = some (.tbl #[])) → SqL K H a (ns.map V.int) → sp [.ref a] H (fun v _ => v = .bl true) fun _ _ _ => False) :
    codeAny (model P w) callerA (.call (.ref fa) ⟨[.ref a], []⟩) (fun r s' => r = .ok (.ret (.bool true)) ∧ OldK S0.heap s'.heap ∧ s'.os = S0.os ∧ AllBare s'.gens) S0 := by
  have vals := vals_ints isInts
  have nl := isInts.length
  have tabAt : ∀ {b : Addr}, b ∈ tabP cs → S0.heap.get? b = some blankT := by
    intro b m
    obtain ⟨c, mc, rfl⟩ := List.mem_map.mp m
    exact tb c mc
  have aOut : a ∉ tabP cs := by
    intro m
    have e := ga.symm.trans (tabAt m)
    have e2 := congrArg Obj.data (Option.some.inj e)
    cases e2
  -- the run, from a heap of which the script and the tables alone may be known
  have go : ∀ H : Hp, (∀ c ∈ cs, H c.2 = some (.tbl #[])) → SqL K H a (ns.map V.int) → HOk P w H S0.heap →
      (∀ b, H b = none ∨ b ∈ tabP cs ∨ (b = a ∧ ∃ ob ys, H b = some (.frz ob (.lst ys)))) → (H a ≠ none → K.lookup a = none) →
      codeAny (model P w) callerA (.call (.ref fa) ⟨[.ref a], []⟩) (fun r s' => r = .ok (.ret (.bool true)) ∧ OldK S0.heap s'.heap ∧ s'.os = S0.os ∧ AllBare s'.gens) S0 := by
    intro H hT hS hOk kinds hKa
    have untold : ∀ {b : Addr} {o : Obj}, S0.heap.get? b = some o → (∀ z n, o.data ≠ .seq z n) → o.data ≠ .fields #[] → H b = none := by
      intro b o e n1 n2
      rcases kinds b with z | z | ⟨z, _⟩
      · exact z
      · have q := (tabAt z).symm.trans e
        exact absurd (congrArg Obj.data (Option.some.inj q)).symm n2
      · subst z
        have q := ga.symm.trans e
        exact absurd (congrArg Obj.data (Option.some.inj q)).symm (n1 _ _)
    have dictFree : ∀ {b : Addr} {o : Obj} {es : Array DictEntry} {n : Nat}, S0.heap.get? b = some o → o.data = .dict es n → H b = none := by
      intro b o es n e d
      exact untold e (fun z m q => by rw [d] at q; cases q) (fun q => by rw [d] at q; cases q)
    have nsB : ∀ {b : Addr} {m : Str → Option Value}, S0.heap.Ns b m → (hidT S0.heap H).Ns b m := by
      intro b m q
      obtain ⟨o, es, n, e, d, r⟩ := q
      exact ⟨o, es, n, hidT_get e (dictFree e d), d, r⟩
    have kB : K.In (hidT S0.heap H) := by
      intro b o e
      refine hidT_get (inK b o e) ?_
      rcases kinds b with z | z | ⟨z, ob, ys, q⟩
      · exact z
      · obtain ⟨c, mc, rfl⟩ := List.mem_map.mp z
        exact absurd ((tk c mc).symm.trans e) (by simp)
      · subst z
        have q2 := hKa (by rw [q]; exact Option.some_ne_none _)
        exact absurd (q2.symm.trans e) (by simp)
    have md : Mod K mg (hidT S0.heap H) := by
      refine ⟨kB, nsB gns, ⟨mb, nsB bns, boot⟩, ?_⟩
      obtain ⟨m, l1, l2⟩ := lim
      exact ⟨m, nsB l1, l2⟩
    have tabsB : ∀ c ∈ cs, LamX.TabB (hidT S0.heap H) mg c.1 c.2 := by
      intro c mc
      have at2 := tb c mc
      constructor
      · obtain ⟨o, zs, fl, t1, fg, t2, inn, tx, t3, e1, h1, h2, h3, h4, h5, h6, h7, h8, hn⟩ := th c mc
        have keep := untold e1 (fun z n q => by rw [h2] at q; cases q) (fun q => by
          rw [h2] at q
          cases q
          simp at h3)
        exact ⟨o, zs, fl, t1, fg, t2, inn, tx, t3, hidT_get e1 keep, h1, h2, h3, h4, h5, h6, h7, h8, hn⟩
      · obtain ⟨m, ob, m1, m2, m3, m4, m5, m6⟩ := bm
        have notG : m ≠ mainGlobals := by
          intro q
          subst q
          obtain ⟨o, es, n, e, d, _⟩ := gns
          rw [Option.some.inj (m3.symm.trans e), d] at m6
          cases m6
        have notT : m ≠ c.2 := by
          intro q
          subst q
          rw [Option.some.inj (m3.symm.trans at2)] at m6
          cases m6
        have keep := untold m3 (fun z n q => by rw [m6] at q; cases q) (fun q => by rw [m6] at q; cases q)
        exact ⟨m, ob, m1, m2, notG, notT, hidT_get m3 keep, m4, m5, m6⟩
      · intro q
        obtain ⟨o, es, n, e, d, _⟩ := gns
        rw [q] at e
        rw [← Option.some.inj (at2.symm.trans e)] at d
        cases d
    have env0 : Env0 P w K mg (hidT S0.heap H) callerA [] S0 H :=
      ⟨rfl, md, fun b o e => of_hidT e, Nat.le_of_eq (hidT_size _ _), trivial, fun b m => absurd (show b ∈ ([] : List Addr) from m) List.not_mem_nil, hOk, .of_eq gen0⟩
    have ran := (F _ kB (nsB gns) tabsB).run callerA [] S0 H ⟨[.ref a], []⟩ [.ref a] [.ref a] _ _ rfl room env0 (binds S0 (.ref a)) (.cons rfl .nil) (told H hT hS)
    apply codeAny_mono ran
    intro r s' got
    match r, got with
    | .ok (.ret u), got =>
      obtain ⟨v, H', os, bare, un, hOk', rv, q⟩ := got
      have q : v = .bl true := q
      subst q
      have rv : u = Value.bool true := rv
      subst rv
      have kept : ∀ {b : Addr} {o : Obj}, b ∉ tabP cs → S0.heap.get? b = some o → s'.heap.get? b = some o := by
        intro b o nb e
        rcases kinds b with z | z | ⟨_, ob, ys, z⟩
        · exact un.keep b o e z (fun m => absurd (show b ∈ ([] : List Addr) from m) List.not_mem_nil) List.not_mem_nil
        · exact absurd z nb
        · have w1 := (hOk b _ z).1
          have w2 := (hOk' b _ (un.frzs b ob _ z)).1
          rw [Option.some.inj (e.symm.trans w1)]
          exact w2
      have more : ∀ c ∈ cs, ∃ ps : Array Value, s'.heap.get? c.2 = some { cls := .none, data := .fields ps } := by
        intro c mc
        obtain ⟨ps, z⟩ := un.tbls c.2 #[] (hT c mc)
        exact ⟨_, hOk' c.2 _ z⟩
      refine ⟨rfl, ⟨?_, ?_⟩, os, bare⟩
      · intro b o e
        by_cases m : b ∈ tabP cs
        · obtain ⟨c, mc, rfl⟩ := List.mem_map.mp m
          obtain ⟨ps, hp⟩ := more c mc
          have eo := Option.some.inj (e.symm.trans (tb c mc))
          subst eo
          refine .inr (.inl ⟨((th c mc).tab (tb c mc)).isCodeTable, rfl, #[], ps, rfl, ?_⟩)
          rw [Array.empty_append]
          exact hp
        · exact .inl (kept m e)
      · intro b o e
        by_cases m : b ∈ tabP cs
        · obtain ⟨c, mc, rfl⟩ := List.mem_map.mp m
          obtain ⟨ps, hp⟩ := more c mc
          exact ⟨_, hp⟩
        · exact ⟨o, kept m e⟩
  cases hk : K.lookup a with
  | some o =>
    have eo := Option.some.inj ((inK a o hk).symm.trans ga)
    subst eo
    refine go (fun b => if b ∈ tabP cs then some (.tbl #[]) else none) (fun c mc => if_pos (tabP_of mc)) ?_ ?_ ?_ ?_
    · refine .inr ⟨_, us.toArray, _, hk, rfl, rfl, rfl, ?_, by simpa using vals⟩
      rw [List.size_toArray, nl]
      exact short
    · intro b u z
      by_cases m : b ∈ tabP cs
      · have z' := (if_pos m).symm.trans z
        cases z'
        exact tabAt m
      · exact absurd ((if_neg m).symm.trans z) (by simp)
    · intro b
      by_cases m : b ∈ tabP cs
      · exact .inr (.inl m)
      · exact .inl (if_neg m)
    · intro q
      exact absurd (if_neg aOut) q
  | none =>
    refine go (fun b => if b = a then some (.frz { cls := .type "list", data := .seq us.toArray } (.lst (ns.map V.int))) else if b ∈ tabP cs then some (.tbl #[]) else none) (fun c mc => ?_) (.inl (.inr ⟨{ cls := .type "list", data := .seq us.toArray }, if_pos rfl⟩)) ?_ ?_ (fun _ => hk)
    · have ne : ¬ c.2 = a := fun q => aOut (q ▸ tabP_of mc)
      exact (if_neg ne).trans (if_pos (tabP_of mc))
    · intro b u z
      by_cases m : b = a
      · subst m
        have z' := (if_pos rfl).symm.trans z
        cases z'
        refine ⟨ga, ?_, us, _, vals, ga⟩
        rw [List.length_map]
        exact short
      · have z1 := (if_neg m).symm.trans z
        by_cases m2 : b ∈ tabP cs
        · have z2 := (if_pos m2).symm.trans z1
          cases z2
          exact tabAt m2
        · exact absurd ((if_neg m2).symm.trans z1) (by simp)
    · intro b
      by_cases m : b = a
      · exact .inr (.inr ⟨m, _, _, if_pos m⟩)
      · by_cases m2 : b ∈ tabP cs
        · exact .inr (.inl m2)
        · exact .inl ((if_neg m).trans (if_neg m2))
end
/-- the law's promise, with its tables, at the heap behind the module's top -/
def LawGT (l : PySem.W.OpenLaw) (w : World) (K : PySem.W.Frag) (k n : Nat) (x : Str) (mg : Str → Option Value) (fa : Addr) (h : Heap) : Prop :=
  ∃ (fd : FuncData) (cs : List (Addr × Addr)) (sp : Sp), (∀ c ∈ cs, h.get? c.2 = some blankT) ∧ (∀ c ∈ cs, K.lookup c.2 = none) ∧ (∀ c ∈ cs, PySem.W.CodeHd h c.1 c.2) ∧ (∀ (s : Shared) (u : Value), BindsTo s fd ⟨[u], []⟩ [(x, u)]) ∧
    (∀ (H : Hp) (a : Addr) (ns : List Int), ns.length ≤ n → (∀ z ∈ ns, Builtin.Int.intBits z ≤ 1048576) → (∀ c ∈ cs, H c.2 = some (.tbl #[])) → SqL K H a (ns.map V.int) → sp [.ref a] H (fun v _ => v = .bl true) fun _ _ _ => False) ∧
    ∀ base : Heap, K.In base → base.Ns mainGlobals mg → (∀ c ∈ cs, LamX.TabB base mg c.1 c.2) → FnG l.prog w K mg base k fa fd [x] sp
theorem walk_GT {l : PySem.W.OpenLaw} {n k : Nat} {q : Program} {loose : List Str} {XP : (Str → Option Value) → Heap → Prop} {YP : World → Heap → Prop} {d : DefRec} {K : Params → PySem.W.Frag} {x : Str}
    (hn : l.most = some n) (hn2 : n ≤ sizeLine) (hdf : d.params.defaults = []) (hr : Room k callerA) (hY : ∀ (w : World) (h : Heap), YP w h → (K w.params).In h)
    (F : ∀ (w : World) (mg : Str → Option Value) (fa : Addr) (h : Heap), YP w h → (K w.params).In h → h.Ns mainGlobals mg → mg d.name = some (.ref fa) → LawGT l w (K w.params) k n x mg fa h) :
    PySem.W.WalkO q loose XP YP l.row.toRowW d [] (fun f vs => PySem.call f vs) := by
  apply Att.attach_callB hn hdf
  intro w s₀ s₁ mg mb fa o pm cd doc a vs ns G Y ho hd hcd hmg hobj hints hlen hbits hg
  have inK := hY w _ Y
  obtain ⟨fd, cs, sp, tb, tk, th, bi, told, FF⟩ := F w mg fa _ Y inK G.T.g hmg
  exact law_callGT inK G.T.g G.T.b G.T.builtins G.T.nolimit hg tb tk th G.T.bmain hobj hints (Nat.le_trans hlen hn2) hr FF bi fun H hH hS => told H a ns hlen hbits hH hS
end VG
namespace K03
open PySem PySem.Spec PyProof.Rows L2 VG FR CK HD
open K2 (cut_ints)
def topS (i : Nat) : Stmt := PySem.Challenge.pw_centsatonce_k03_whole_classes_and_tables.main.body.getD i (.Pass ⟨0, 0, 0, 0⟩)
abbrev s_is_an_integer : Stmt := topS 3
abbrev N_is_an_integer : List Str := ["value"]
theorem sc_is_an_integer : FnScope N_is_an_integer ["value"] (defScope s_is_an_integer) := ⟨rfl, rfl, rfl, by decide +kernel, rfl, by decide +kernel, by decide +kernel⟩
abbrev s_is_number : Stmt := topS 4
abbrev N_is_number : List Str := ["value"]
theorem sc_is_number : FnScope N_is_number ["value"] (defScope s_is_number) := ⟨rfl, rfl, rfl, by decide +kernel, rfl, by decide +kernel, by decide +kernel⟩
abbrev s_is_number_below : Stmt := topS 5
abbrev N_is_number_below : List Str := ["value", "many"]
theorem sc_is_number_below : FnScope N_is_number_below ["value", "many"] (defScope s_is_number_below) := ⟨rfl, rfl, rfl, by decide +kernel, rfl, by decide +kernel, by decide +kernel⟩
abbrev s_are_numbers_below : Stmt := topS 9
abbrev N_are_numbers_below : List Str := ["value", "many", "item"]
theorem sc_are_numbers_below : FnScope N_are_numbers_below ["value", "many"] (defScope s_are_numbers_below) := ⟨rfl, rfl, rfl, by decide +kernel, rfl, by decide +kernel, by decide +kernel⟩
abbrev s_is_ascending : Stmt := topS 11
abbrev N_is_ascending : List Str := ["some", "one", "other"]
theorem sc_is_ascending : FnScope N_is_ascending ["some"] (defScope s_is_ascending) := ⟨rfl, rfl, rfl, by decide +kernel, rfl, by decide +kernel, by decide +kernel⟩
abbrev s_is_lot_below : Stmt := topS 12
abbrev N_is_lot_below : List Str := ["value", "many"]
theorem sc_is_lot_below : FnScope N_is_lot_below ["value", "many"] (defScope s_is_lot_below) := ⟨rfl, rfl, rfl, by decide +kernel, rfl, by decide +kernel, by decide +kernel⟩
abbrev s_totals_with : Stmt := topS 23
abbrev N_totals_with : List Str := ["table", "kind", "at", "total"]
theorem sc_totals_with : FnScope N_totals_with ["table", "kind"] (defScope s_totals_with) := ⟨rfl, rfl, rfl, by decide +kernel, rfl, by decide +kernel, by decide +kernel⟩
abbrev s_check_totals : Stmt := topS 22
abbrev N_check_totals : List Str := ["totals", "many", "at", "total"]
theorem sc_check_totals : FnScope N_check_totals ["totals", "many"] (defScope s_check_totals) := ⟨rfl, rfl, rfl, by decide +kernel, rfl, by decide +kernel, by decide +kernel⟩
abbrev s_is_name : Stmt := topS 6
abbrev N_is_name : List Str := ["value", "letter"]
theorem sc_is_name : FnScope N_is_name ["value"] (defScope s_is_name) := ⟨rfl, rfl, rfl, by decide +kernel, rfl, by decide +kernel, by decide +kernel⟩
abbrev s_are_names : Stmt := topS 8
abbrev N_are_names : List Str := ["value", "item"]
theorem sc_are_names : FnScope N_are_names ["value"] (defScope s_are_names) := ⟨rfl, rfl, rfl, by decide +kernel, rfl, by decide +kernel, by decide +kernel⟩
abbrev s_check_kinds : Stmt := topS 21
abbrev N_check_kinds : List Str := ["kinds"]
theorem sc_check_kinds : FnScope N_check_kinds ["kinds"] (defScope s_check_kinds) := ⟨rfl, rfl, rfl, by decide +kernel, rfl, by decide +kernel, by decide +kernel⟩
abbrev i_Table : Stmt := inClass (topS 20) 0
theorem sc_i_Table : FnScope ["self", "kinds", "totals"] ["self", "kinds", "totals"] (defScope i_Table) := ⟨rfl, rfl, rfl, by decide +kernel, rfl, by decide +kernel, by decide +kernel⟩
abbrev s_classes_of : Stmt := topS 24
abbrev N_classes_of : List Str := ["table", "by_totals", "kind", "totals", "kinds"]
theorem sc_classes_of : FnScope N_classes_of ["table"] (defScope s_classes_of) := ⟨rfl, rfl, rfl, by decide +kernel, rfl, by decide +kernel, by decide +kernel⟩
abbrev s_class_numbers : Stmt := topS 25
abbrev N_class_numbers : List Str := ["table", "numbers", "at", "kinds", "kind"]
theorem sc_class_numbers : FnScope N_class_numbers ["table"] (defScope s_class_numbers) := ⟨rfl, rfl, rfl, by decide +kernel, rfl, by decide +kernel, by decide +kernel⟩
abbrev s_totals_by_classes : Stmt := topS 27
abbrev N_totals_by_classes : List Str := ["table", "numbers", "total", "kind"]
theorem sc_totals_by_classes : FnScope N_totals_by_classes ["table"] (defScope s_totals_by_classes) := ⟨rfl, rfl, rfl, by decide +kernel, rfl, by decide +kernel, by decide +kernel⟩
abbrev s_is_tuple_of : Stmt := topS 7
abbrev N_is_tuple_of : List Str := ["value", "many"]
theorem sc_is_tuple_of : FnScope N_is_tuple_of ["value", "many"] (defScope s_is_tuple_of) := ⟨rfl, rfl, rfl, by decide +kernel, rfl, by decide +kernel, by decide +kernel⟩
abbrev s__law_draw : Stmt := topS 37
abbrev N__law_draw : List Str := ["heap", "many", "rest"]
theorem sc__law_draw : FnScope N__law_draw ["heap", "many"] (defScope s__law_draw) := ⟨rfl, rfl, rfl, by decide +kernel, rfl, by decide +kernel, by decide +kernel⟩
abbrev s__law_pick : Stmt := topS 38
abbrev N__law_pick : List Str := ["heap", "some"]
theorem sc__law_pick : FnScope N__law_pick ["heap", "some"] (defScope s__law_pick) := ⟨rfl, rfl, rfl, by decide +kernel, rfl, by decide +kernel, by decide +kernel⟩
abbrev s__law_heap : Stmt := topS 36
abbrev N__law_heap : List Str := ["script", "cell", "cells", "stir"]
theorem sc__law_heap : FnScope N__law_heap ["script"] (defScope s__law_heap) := ⟨rfl, rfl, rfl, by decide +kernel, rfl, by decide +kernel, by decide +kernel⟩
section
variable {P : Program} {w : World} {K : PySem.W.Frag} {mg : Str → Option Value} {base : Heap}
theorem ok_is_an_integer {f : Addr} {fd : FuncData} (F : Fun K "is_an_integer" "is_an_integer" s_is_an_integer f fd) (z_isinstance : mg "isinstance" = none) (z_int : mg "int" = none) (z_bool : mg "bool" = none) :
    FnOk P w K mg base CX0 1 f fd ["value"] (spInt K) := by
  refine F.ok sc_is_an_integer (fun vs H Q E h => ?_) (fun cdv A outer s H vs Q E hr h => ?_)
  · obtain ⟨v, o, rfl, _⟩ := h
    rfl
  · obtain ⟨v, o, rfl, hp, q⟩ := h
    refine ⟨_, (pss_one (ps_ret (pe_and (pe_callB call_isi (by rfl) z_isinstance (by decide +kernel) (pa_cons (pv 0) (pa_cons (pe_bltn (v := .ty "int") (by rfl) z_int (by decide +kernel) rfl) pa_nil))) (pe_one (pe_not (pe_callB call_isi (by rfl) z_isinstance (by decide +kernel) (pa_cons (pv 0) (pa_cons (pe_bltn (v := .ty "bool") (by rfl) z_bool (by decide +kernel) rfl) pa_nil)))))))), ?_⟩
    rcases hp with ⟨a, rfl, rfl⟩ | ⟨rfl, ty, b1, b2, t, k1, k2, e⟩
    · refine ⟨_, rfl, _, _, _, _, true, rfl, .ty "int", .base (.int a), kb1, true, rfl, iteT ?_⟩
      exact ⟨_, rfl, _, _, _, _, false, rfl, .ty "bool", .base (.int a), kb2, _, rfl, q⟩
    · refine ⟨_, rfl, _, _, _, _, b1, rfl, .ty "int", t, kit_ty k1, b1, rfl, ?_⟩
      cases b1 with
      | false => exact iteF q
      | true =>
        refine iteT ⟨_, rfl, _, _, _, _, b2, rfl, .ty "bool", t, kit_ty k2, _, rfl, ?_⟩
        have e2 : (!b2) = false := e
        rw [e2]
        exact q
theorem ok_is_number {f : Addr} {fd : FuncData} (F : Fun K "is_number" "is_number" s_is_number f fd) (C_is_an_integer : Cl P w K mg base 1 "is_an_integer" (spInt K)) : FnOk P w K mg base CX0 2 f fd ["value"] (spNum K) := by
  refine F.ok sc_is_number (fun vs H Q E h => ?_) (fun cdv A outer s H vs Q E hr h => ?_)
  · obtain ⟨_, rfl, _⟩ := h
    rfl
  · obtain ⟨a, rfl, q⟩ := h
    refine ⟨_, (pss_one (ps_ret (pe_and (pe_cl C_is_an_integer hr (by decide) rfl (pa_cons (pv 0) pa_nil)) (pe_one (pe_cmpR op_ge (pv 0) pe_int (nomark _)))))), ?_⟩
    refine ⟨_, rfl, _, some a, rfl, .inl ⟨_, rfl, rfl⟩, true, rfl, iteT ?_⟩
    exact ⟨_, rfl, _, _, rfl, rfl, q⟩
theorem ok_is_number_below {f : Addr} {fd : FuncData} (F : Fun K "is_number_below" "is_number_below" s_is_number_below f fd) (C_is_number : Cl P w K mg base 2 "is_number" (spNum K)) : FnOk P w K mg base CX0 3 f fd ["value", "many"] spBelow := by
  refine F.ok sc_is_number_below (fun vs H Q E h => ?_) (fun cdv A outer s H vs Q E hr h => ?_)
  · obtain ⟨_, _, rfl, _⟩ := h
    rfl
  · obtain ⟨a, n, rfl, q⟩ := h
    refine ⟨_, (pss_one (ps_ret (pe_and (pe_cl C_is_number hr (by decide) rfl (pa_cons (pv 0) pa_nil)) (pe_one (pe_cmpR op_lt (pv 0) (pv 1) (nomark _)))))), ?_⟩
    refine ⟨_, rfl, a, rfl, _, rfl, ite2 (fun e => ?_) (fun e => ?_)⟩
    · have ha := of_decide_eq_true e
      refine ⟨_, rfl, _, rfl, _, _, rfl, rfl, ?_⟩
      have e2 : decide (a < n) = decide (0 ≤ a ∧ a < n) := decide_eq_decide.mpr ⟨fun z => ⟨ha, z⟩, fun z => z.2⟩
      show Q (.bl (decide (a < n))) H
      rw [e2]
      exact q
    · have ha : ¬ 0 ≤ a := fun z => e (decide_eq_true z)
      have e1 : decide (0 ≤ a ∧ a < n) = false := decide_eq_false (fun z => ha z.1)
      rw [e1] at q
      exact q
theorem ok_are_numbers_below {f : Addr} {fd : FuncData} (F : Fun K "are_numbers_below" "are_numbers_below" s_are_numbers_below f fd) (C_is_number_below : Cl P w K mg base 3 "is_number_below" spBelow) (z_isinstance : mg "isinstance" = none) (z_tuple : mg "tuple" = none) (z_all : mg "all" = none) :
    FnOk P w K mg base CX0 4 f fd ["value", "many"] (spNumsBelow K) := by
  refine F.ok sc_are_numbers_below (fun vs H Q E h => ?_) (fun cdv A outer s H vs Q E hr h => ?_)
  · obtain ⟨_, _, _, rfl, _⟩ := h
    rfl
  · obtain ⟨t, cs, n, rfl, hS, hl, hc, fin⟩ := h
    refine ⟨_, (pss_one (ps_ret (pe_and (pe_callB call_isi (by rfl) z_isinstance (by decide +kernel) (pa_cons (pv 0) (pa_cons (pe_bltn (v := .ty "tuple") (by rfl) z_tuple (by decide +kernel) rfl) pa_nil))) (pe_one (pe_callB (cr_all rfl) (by rfl) z_all (by decide +kernel) (pa_cons (pe_lc (own := [("item", 2)]) (by rfl) sc_are_numbers_below.nd (pi_tup (pv 0)) (blkOk_by (own := [("item", 2)]) (N := N_are_numbers_below) (sc := defScope s_are_numbers_below) (by decide +kernel)) (fun _ _ _ _ _ => (pg_name (i := 2) sc_are_numbers_below.nd rfl (.inl rfl))) (fun _ _ _ _ _ => pts_nil) (fun _ _ _ _ _ => (pe_cl C_is_number_below hr (by decide) rfl (pa_cons (pv 2) (pa_cons (pv 1) pa_nil))))) pa_nil)))))), ?_⟩
    refine ⟨_, rfl, _, _, _, _, true, rfl, .ty "tuple", tyT hS, kit_ty (by decide +kernel), true, rfl, iteT ?_⟩
    refine ⟨_, rfl, t, rfl, ⟨_, hS⟩, fun D nD => ?_⟩
    refine lc_it (walk_tup (K := K) (a := t) (xs := cs.map V.int)) (fun i H' => Same H H' ∧ ∃ bs : List Bool, bs.length = i ∧ bs.all id = true ∧ H' D = some (.lst (bs.map V.bl))) ⟨same_upd nD, [], rfl, rfl, upd_same⟩ (fun i H' _ h => seqT h.1 hS) ?_ ?_
    · rintro i v H1 H2 hi ⟨sm, bs, el, ea, hD⟩ ⟨e2, ex⟩
      subst e2
      rw [List.getElem?_map] at ex
      obtain ⟨c, ec, rfl⟩ := Option.map_eq_some_iff.mp ex
      have ⟨c0, c1⟩ := hc c (List.mem_of_getElem? ec)
      refine ⟨rfl, _, rfl, _, rfl, c, n, rfl, ?_⟩
      have il : i < cs.length := (List.getElem?_eq_some_iff.mp ec).1
      rw [decide_eq_true (⟨c0, c1⟩ : 0 ≤ c ∧ c < n)]
      refine ⟨bs.map V.bl, hD, ?_, HD.same_put sm nD, bs ++ [true], by rw [List.length_append, el]; rfl, ?_, ?_⟩
      · rw [List.length_map]
        have : sizeLine = 16777216 := by decide
        omega
      · rw [List.all_append, ea]
        rfl
      · rw [upd_same, List.map_append]
        rfl
    · rintro H1 ⟨sm, bs, el, ea, hD⟩
      refine ⟨D, bs, rfl, .inl (.inl hD), ?_⟩
      rw [ea]
      exact fin H1 sm
theorem ok_is_ascending {f : Addr} {fd : FuncData} (F : Fun K "is_ascending" "is_ascending" s_is_ascending f fd) (z_all : mg "all" = none) (z_zip : mg "zip" = none) : FnOk P w K mg base CX0 1 f fd ["some"] (spAsc K) := by
  refine F.ok sc_is_ascending (fun vs H Q E h => ?_) (fun cdv A outer s H vs Q E hr h => ?_)
  · obtain ⟨_, _, rfl, _⟩ := h
    rfl
  · obtain ⟨t, xs, rfl, hS, hl, hasc, fin⟩ := h
    refine ⟨_, (pss_one (ps_ret (pe_callB (cr_all rfl) (by rfl) z_all (by decide +kernel) (pa_cons (pe_lc (own := [("one", 1), ("other", 2)]) (by rfl) sc_is_ascending.nd (RZ.pi_zipA (by rfl) z_zip (pa_cons (pv 0) (pa_cons (pe_meet (pe_slice sl_tupA (pv 0) (po_some pe_int) po_none)) pa_nil))) (blkOk_by (own := [("one", 1), ("other", 2)]) (N := N_is_ascending) (sc := defScope s_is_ascending) (by decide +kernel)) (fun _ _ _ _ _ => (show PG _ _ (gTup K 2 _) from pg_tup rfl (pgs_cons (pg_name (i := 1) sc_is_ascending.nd rfl (.inl rfl)) (pgs_cons (pg_name (i := 2) sc_is_ascending.nd rfl (.inl rfl)) pgs_nil)))) (fun _ _ _ _ _ => pts_nil) (fun _ _ _ _ _ => (pe_cmpR (op_lt.or op_lt_str) (pv 1) (pv 2) (nomark _)))) pa_nil)))), ?_⟩
    refine ⟨_, rfl, fun v H' => ∃ u, v = .ref u ∧ Same H H' ∧ SqT K H' u (xs.drop 1), ?_, ?_⟩
    · refine ⟨_, rfl, 1, rfl, ?_⟩
      refine ⟨t, xs, rfl, hS, fun z => ?_, fun z u nu => ?_⟩
      · have e : HT.sIx xs.length 0 (some 1) = min 1 xs.length := HT.sIx_nat xs.length 0 1
        have e0 : xs.length = 0 := by
          have := z.1
          rw [e] at this
          omega
        have x0 : xs = [] := List.eq_nil_of_length_eq_zero e0
        subst x0
        exact ⟨t, rfl, Same.refl _, hS⟩
      · refine ⟨u, rfl, same_upd nu, ?_⟩
        have h := sqt (K := K) (upd_same (H := H) (a := u) (o := .tup (cutV xs (some 1) none)))
        rw [cut1] at h ⊢
        exact h
    rintro v H1 ⟨u, rfl, sm1, hU⟩
    have hS1 := seqT sm1 hS
    refine ⟨t, u, xs, xs.drop 1, rfl, .inr ⟨hS1, hU, fun D nD => ?_⟩⟩
    refine lc_it (walk_zipT (K := K) (a := t) (b := u) (xs := xs) (ys := xs.drop 1) (n := xs.length - 1) (by rw [List.length_drop]; omega)) (fun i H' => Same H1 H' ∧ ∃ bs : List Bool, bs.length = i ∧ bs.all id = true ∧ H' D = some (.lst (bs.map V.bl))) ⟨same_upd nD, [], rfl, rfl, upd_same⟩ (fun i H' _ h => ⟨seqT h.1 hS1, seqT h.1 hU⟩) ?_ ?_
    · rintro i v H2 H3 hi ⟨sm, bs, el, ea, hD⟩ ⟨T, x, y, rfl, nT, rfl, ex, ey⟩
      have ey2 : xs[i + 1]? = some y := by
        have z : (xs.drop 1)[i]? = some y := ey
        rw [List.getElem?_drop, Nat.add_comm] at z
        exact z
      have sT := same_upd (o := .tup [x, y]) nT
      have hlt := hasc i x y ex ey2
      have fin2 : ∃ acc : List V, (L2.upd H2 T (.tup [x, y])) D = some (.lst acc) ∧ acc.length < sizeLine ∧ Same H1 (L2.upd (L2.upd H2 T (.tup [x, y])) D (.lst (acc ++ [V.bl true]))) ∧ ∃ bs : List Bool, bs.length = i + 1 ∧ bs.all id = true ∧ (L2.upd (L2.upd H2 T (.tup [x, y])) D (.lst (acc ++ [V.bl true]))) D = some (.lst (bs.map V.bl)) := by
        refine ⟨bs.map V.bl, sT _ _ hD, ?_, HD.same_put (sm.trans sT) nD, bs ++ [true], by rw [List.length_append, el]; rfl, ?_, ?_⟩
        · have : sizeLine = 16777216 := by decide
          rw [List.length_map]
          omega
        · rw [List.all_append, ea]
          rfl
        · rw [upd_same, List.map_append]
          rfl
      obtain ⟨acc, f1, f2, f3, f4⟩ := fin2
      refine ⟨T, _, rfl, .inl (.inl upd_same), rfl, _, _, rfl, _, _, rfl, rfl, rfl, _, rfl, _, rfl, ?_⟩
      rcases hlt with ⟨a, b, rfl, rfl, ab⟩ | ⟨a, b, rfl, rfl, ab⟩
      · refine .inl ⟨_, _, rfl, rfl, acc, f1, f2, ?_⟩
        have e : decide (a < b) = true := decide_eq_true ab
        simp only [e]
        exact ⟨f3, f4⟩
      · refine .inr ⟨a, b, rfl, rfl, acc, f1, f2, ?_⟩
        have e : decide (a.cps.toList < b.cps.toList) = true := decide_eq_true ab
        rw [e]
        exact ⟨f3, f4⟩
    · rintro H2 ⟨sm, bs, el, ea, hD⟩
      refine ⟨D, bs, rfl, .inl (.inl hD), ?_⟩
      rw [ea]
      exact fin H2 (sm1.trans sm)
theorem ok_is_lot_below {f : Addr} {fd : FuncData} (F : Fun K "is_lot_below" "is_lot_below" s_is_lot_below f fd) (C_are_numbers_below : Cl P w K mg base 4 "are_numbers_below" (spNumsBelow K)) (C_is_ascending : Cl P w K mg base 1 "is_ascending" (spAsc K)) :
    FnOk P w K mg base CX0 5 f fd ["value", "many"] (spLot K) := by
  refine F.ok sc_is_lot_below (fun vs H Q E h => ?_) (fun cdv A outer s H vs Q E hr h => ?_)
  · obtain ⟨_, _, _, rfl, _⟩ := h
    rfl
  · obtain ⟨t, cs, n, rfl, hS, hl, hc, ha, fin⟩ := h
    refine ⟨_, (pss_one (ps_ret (pe_and (pe_cl C_are_numbers_below hr (by decide) rfl (pa_cons (pv 0) (pa_cons (pv 1) pa_nil))) (pe_one (pe_cl C_is_ascending hr (by decide) rfl (pa_cons (pv 0) pa_nil)))))), ?_⟩
    refine ⟨_, rfl, _, rfl, t, cs, n, rfl, hS, hl, hc, fun H1 sm => ⟨true, rfl, iteT ?_⟩⟩
    exact ⟨_, rfl, t, _, rfl, seqT sm hS, by rw [List.length_map]; exact hl, asc_ints ha, fun H2 sm2 => fin H2 (sm.trans sm2)⟩
theorem ok_totals_with {f C : Addr} {fd : FuncData} (F : Fun K "totals_with" "totals_with" s_totals_with f fd) (T : TabC K C) (z_enumerate : mg "enumerate" = none) (z_tuple : mg "tuple" = none) : FnOk P w K mg base CX0 1 f fd ["table", "kind"] (spTotalsWith K C) := by
  refine F.ok sc_totals_with (fun vs H Q E h => ?_) (fun cdv A outer s H vs Q E hr h => ?_)
  · obtain ⟨_, _, _, _, rfl, _⟩ := h
    rfl
  · obtain ⟨a, ks, ts, kind, rfl, ⟨dx, k, t, xs, hO, hK, hS, hT⟩, hl, fin⟩ := h
    refine ⟨_, (pss_one (ps_ret (pe_callTy call_tuple_of (by rfl) z_tuple (by decide +kernel) (pa_cons (pe_lc (own := [("at", 2), ("total", 3)]) (by rfl) sc_totals_with.nd (pi_enumT (by rfl) z_enumerate (pa_cons (pe_fld (pv 0) (by rfl)) pa_nil)) (blkOk_by (own := [("at", 2), ("total", 3)]) (N := N_totals_with) (sc := defScope s_totals_with) (by decide +kernel)) (fun _ _ _ _ _ => (show PG _ _ (gTup K 2 _) from pg_tup rfl (pgs_cons (pg_name (i := 2) sc_totals_with.nd rfl (.inl rfl)) (pgs_cons (pg_name (i := 3) sc_totals_with.nd rfl (.inl rfl)) pgs_nil)))) (fun _ _ _ _ _ => (pts_one (pt_cmpR (show OpR _ (compareOp .In) (rIn K false) from op_in_seq) (pv 1) (pv 3) rfl))) (fun _ _ _ _ _ => (pv 2))) pa_nil)))), ?_⟩
    have lx := hT.len
    refine ⟨_, rfl, a, C, dx, _, .ref t, rfl, hO, T.c, T.nt, rfl, t, xs, rfl, hS, fun D nD => ?_⟩
    refine lc_it (walk_enumT (K := K) (a := t) (xs := xs)) (fun i H' => Same H H' ∧ H' D = some (.lst ((twF ts kind i).map V.int))) ⟨same_upd nD, upd_same⟩ (fun i H' _ h => seqT h.1 hS) ?_ ?_
    · rintro i v H2 H3 hi ⟨sm, hD⟩ ⟨U, x, rfl, nU, rfl, ex⟩
      obtain ⟨u, c, rfl, ec, hu⟩ := hT.get ex
      have sU := same_upd (o := .tup [.int (i : Nat), .ref u]) nU
      refine ⟨U, _, rfl, .inl (.inl upd_same), rfl, _, _, rfl, _, _, rfl, rfl, rfl, ?_⟩
      have sm2 := sm.trans sU
      refine ⟨_, rfl, _, rfl, u, c.map V.int, rfl, .inr (seqT sm2 hu), rfl, flat_ints c, _, rfl, ?_⟩
      have hD2 := sU _ _ hD
      rw [inV_ints]
      cases hc : c.contains kind with
      | true =>
        refine iteT ⟨_, rfl, _, hD2, ?_, HD.same_put sm2 nD, ?_⟩
        · have := twF_len ts kind i
          have z : sizeLine = 16777216 := by decide
          have : i < xs.length := hi
          rw [List.length_map]
          omega
        · rw [upd_same, twF_yes ec hc, List.map_append]
          rfl
      | false =>
        refine iteF ⟨sm2, ?_⟩
        rw [twF_no ec hc]
        exact hD2
    · rintro H2 ⟨sm, hD⟩
      rw [lx] at hD
      refine ⟨D, _, rfl, .inl ⟨.inl (.inl hD), fun u nu => ?_⟩⟩
      exact fin _ u (sm.trans (same_upd nu)) (sm.free nu) upd_same
theorem ok_check_totals {f fi Ci : Addr} {fd fdi : FuncData} {tk : Tok} (F : Fun K "check_totals" "check_totals" s_check_totals f fd) (C_is_lot_below : Cl P w K mg base 5 "is_lot_below" (spLot K)) (m_MOST_TOTALS : mg "MOST_TOTALS" = some (.int 12 tk))
    (e_InvalidTable : ErrC K mg "InvalidTable" Ci fi) (i_InvalidTable : FnOk P w K mg base CX0 1 fi fdi ["self", "at"] (spInitW K Ci "at")) (b_InvalidTable : Binds K fdi ["self", "at"] [])
    (z_isinstance : mg "isinstance" = none) (z_tuple : mg "tuple" = none) (z_len : mg "len" = none) (z_enumerate : mg "enumerate" = none) :
    FnOk P w K mg base (L2.CX P w) 6 f fd ["totals", "many"] (spCheckTotals K) := by
  refine F.okX sc_check_totals (fun vs H Q E h => ?_) (fun cdv A outer s H vs Q E hr h => ?_)
  · obtain ⟨_, _, _, _, rfl, _⟩ := h
    rfl
  · obtain ⟨t, xs, ts, n, rfl, hS, hT, hl, ho, fin⟩ := h
    refine ⟨_, (pss_cons (ps_if (PW.pt (pw_or (pt_not (pt_val (pe_callB call_isi (by rfl) z_isinstance (by decide +kernel) (pa_cons (pv 0) (pa_cons (pe_bltn (v := .ty "tuple") (by rfl) z_tuple (by decide +kernel) rfl) pa_nil))))) (pw_or1 (pt_cmpR op_gt (pe_callB call_len_seq (by rfl) z_len (by decide +kernel) (pa_cons (pv 0) pa_nil)) (pe_glob (v := .int 12) rfl m_MOST_TOTALS ⟨_, rfl⟩) (nomark _)))))
      (pss_one (ps_raise rfl (takes_of rfl rfl rfl rfl) (pmk_oex e_InvalidTable.o e_InvalidTable.iC e_InvalidTable.tI i_InvalidTable (hr.mono (by decide)) b_InvalidTable .nil pass0 rfl e_InvalidTable.gC (pa_cons (pe_un un_neg pe_int) pa_nil))))
      pss_nil)
    (pss_one (ps_for (passes_of rfl) rfl (pi_enumT (by rfl) z_enumerate (pa_cons (pv 0) pa_nil)) (pg_tup rfl (pgs_cons (pg_name (i := 2) sc_check_totals.nd rfl (.inl rfl)) (pgs_cons (pg_name (i := 3) sc_check_totals.nd rfl (.inl rfl)) pgs_nil)))
      (pss_one (ps_if (pt_not (pt_val (pe_cl C_is_lot_below hr (by decide) rfl (pa_cons (pv 3) (pa_cons (pv 1) pa_nil)))))
        (pss_one (ps_raise rfl (takes_of rfl rfl rfl rfl) (pmk_oex e_InvalidTable.o e_InvalidTable.iC e_InvalidTable.tI i_InvalidTable (hr.mono (by decide)) b_InvalidTable .nil pass0 rfl e_InvalidTable.gC (pa_cons (pv 2) pa_nil))))
        pss_nil))))), ?_⟩
    have lx := hT.len
    refine ⟨_, rfl, _, _, _, _, true, rfl, .ty "tuple", tyT hS, kit_ty (by decide +kernel), true, rfl, iteF ?_⟩
    refine ⟨_, rfl, t, _, rfl, .inr hS, _, _, rfl, rfl, _, rfl, ite2 (fun z => ?_) (fun z => ?_)⟩
    · have : (xs.length : Int) > 12 := of_decide_eq_true z
      omega
    refine ⟨_, rfl, t, xs, rfl, hS, ?_⟩
    refine for_it (walk_enumT (K := K) (a := t) (xs := xs)) (fun i σ H' => Same H H' ∧ ∃ y2 y3 : Option V, σ = [some (.ref t), some (.int n), y2, y3]) ⟨Same.refl _, _, _, rfl⟩ (fun i σ H' _ h => seqT h.1 hS) ?_ ?_
    · rintro i v σ H2 H3 hi ⟨sm, y2, y3, rfl⟩ ⟨U, x, rfl, nU, rfl, ex⟩
      obtain ⟨u, c, rfl, ec, hu⟩ := hT.get ex
      have sU := same_upd (o := .tup [.int (i : Nat), .ref u]) nU
      have ok := ho c (List.mem_of_getElem? ec)
      refine ⟨U, _, rfl, .inl (.inl upd_same), rfl, _, _, rfl, _, _, rfl, rfl, ?_⟩
      refine ⟨_, rfl, _, rfl, u, c, n, rfl, seqT (sm.trans sU) hu, ok.1, ok.2.1, ok.2.2, fun H4 s4 => ⟨true, rfl, iteF ?_⟩⟩
      exact ⟨(sm.trans sU).trans s4, _, _, rfl⟩
    · rintro σ H2 ⟨sm, y2, y3, rfl⟩
      exact fin H2 sm
theorem ok_is_name {f : Addr} {fd : FuncData} {tk : Tok} (F : Fun K "is_name" "is_name" s_is_name f fd) (m_LETTERS : ∃ u, mg "LETTERS" = some (.str cLETTERS u)) (m_LONGEST_NAME : mg "LONGEST_NAME" = some (.int 6 tk))
    (z_isinstance : mg "isinstance" = none) (z_str : mg "str" = none) (z_len : mg "len" = none) (z_all : mg "all" = none) : FnOk P w K mg base CX0 1 f fd ["value"] spName := by
  refine F.ok sc_is_name (fun vs H Q E h => ?_) (fun cdv A outer s H vs Q E hr h => ?_)
  · obtain ⟨_, rfl, _⟩ := h
    rfl
  · obtain ⟨z, rfl, ⟨n1, n2, n3⟩, fin⟩ := h
    refine ⟨_, (pss_cons (ps_if (PW.pt (pw_or (pt_not (pt_val (pe_callB call_isi (by rfl) z_isinstance (by decide +kernel) (pa_cons (pv 0) (pa_cons (pe_bltn (v := .ty "str") (by rfl) z_str (by decide +kernel) rfl) pa_nil))))) (pw_or1 (pt_not (pt_chain op_le op_le pe_int (pe_callB call_len_str (by rfl) z_len (by decide +kernel) (pa_cons (pv 0) pa_nil)) (pe_glob (v := .int 6) rfl m_LONGEST_NAME ⟨_, rfl⟩))))))
      (pss_one (ps_ret pe_bl))
      pss_nil)
    (pss_one (ps_ret (pe_callB (cr_all rfl) (by rfl) z_all (by decide +kernel) (pa_cons (pe_lc (own := [("letter", 1)]) (by rfl) sc_is_name.nd (pi_str (pv 0)) (blkOk_by (own := [("letter", 1)]) (N := N_is_name) (sc := defScope s_is_name) (by decide +kernel)) (fun _ _ _ _ _ => (pg_name (i := 1) sc_is_name.nd rfl (.inl rfl))) (fun _ _ _ _ _ => pts_nil) (fun _ _ _ _ _ => (pe_cmpR op_in_sign (pv 1) (pe_gs rfl m_LETTERS) rfl))) pa_nil))))), ?_⟩
    refine ⟨_, rfl, _, _, _, _, true, rfl, .ty "str", .base (.str z), kit_ty (by decide +kernel), true, rfl, iteF ?_⟩
    have zl : z.length = z.cps.size := rfl
    refine ⟨_, rfl, z, rfl, ?_, _, _, rfl, rfl, _, rfl, ite_eq true (decide_eq_true (by show (1 : Int) ≤ (z.length : Nat); omega)) (iteT ?_)⟩
    · have : sizeLine = 16777216 := by decide
      omega
    refine ⟨_, _, rfl, rfl, _, rfl, ite_eq false ?_ (iteF ?_)⟩
    · have e : decide (((z.length : Nat) : Int) ≤ 6) = true := decide_eq_true (by omega)
      rw [e]
      rfl
    refine ⟨_, rfl, z, rfl, fun D nD => ?_⟩
    refine lc_it (walk_str (z := z)) (fun i H' => Same H H' ∧ ∃ bs : List Bool, bs.length = i ∧ bs.all id = true ∧ H' D = some (.lst (bs.map V.bl))) ⟨same_upd nD, [], rfl, rfl, upd_same⟩ (fun _ _ _ _ => trivial) ?_ ?_
    · rintro i v H2 H3 hi ⟨sm, bs, el, ea, hD⟩ ⟨e2, c, ec, rfl⟩
      subst e2
      have cm : c ∈ z.cps.toList := by
        have q : z.cps.toList[i]? = some c := by rw [Array.getElem?_toList]; exact ec
        exact List.mem_of_getElem? q
      refine ⟨rfl, _, rfl, c, _, rfl, rfl, ?_⟩
      rw [decide_eq_true ((in_letters c).mpr (n3 c cm))]
      refine ⟨bs.map V.bl, hD, ?_, HD.same_put sm nD, bs ++ [true], by rw [List.length_append, el]; rfl, ?_, ?_⟩
      · rw [List.length_map]
        have : sizeLine = 16777216 := by decide
        omega
      · rw [List.all_append, ea]
        rfl
      · rw [upd_same, List.map_append]
        rfl
    · rintro H2 ⟨sm, bs, el, ea, hD⟩
      refine ⟨D, bs, rfl, .inl (.inl hD), ?_⟩
      rw [ea]
      exact fin H2 sm
theorem ok_are_names {f : Addr} {fd : FuncData} (F : Fun K "are_names" "are_names" s_are_names f fd) (C_is_name : Cl P w K mg base 1 "is_name" spName) (z_isinstance : mg "isinstance" = none) (z_tuple : mg "tuple" = none) (z_all : mg "all" = none) :
    FnOk P w K mg base CX0 2 f fd ["value"] (spNames K) := by
  refine F.ok sc_are_names (fun vs H Q E h => ?_) (fun cdv A outer s H vs Q E hr h => ?_)
  · obtain ⟨_, _, rfl, _⟩ := h
    rfl
  · obtain ⟨t, ks, rfl, hS, hl, hc, fin⟩ := h
    refine ⟨_, (pss_one (ps_ret (pe_and (pe_callB call_isi (by rfl) z_isinstance (by decide +kernel) (pa_cons (pv 0) (pa_cons (pe_bltn (v := .ty "tuple") (by rfl) z_tuple (by decide +kernel) rfl) pa_nil))) (pe_one (pe_callB (cr_all rfl) (by rfl) z_all (by decide +kernel) (pa_cons (pe_lc (own := [("item", 1)]) (by rfl) sc_are_names.nd (pi_tup (pv 0)) (blkOk_by (own := [("item", 1)]) (N := N_are_names) (sc := defScope s_are_names) (by decide +kernel)) (fun _ _ _ _ _ => (pg_name (i := 1) sc_are_names.nd rfl (.inl rfl))) (fun _ _ _ _ _ => pts_nil) (fun _ _ _ _ _ => (pe_cl C_is_name hr (by decide) rfl (pa_cons (pv 1) pa_nil)))) pa_nil)))))), ?_⟩
    refine ⟨_, rfl, _, _, _, _, true, rfl, .ty "tuple", tyT hS, kit_ty (by decide +kernel), true, rfl, iteT ?_⟩
    refine ⟨_, rfl, t, rfl, ⟨_, hS⟩, fun D nD => ?_⟩
    refine lc_it (walk_tup (K := K) (a := t) (xs := ks.map V.str)) (fun i H' => Same H H' ∧ ∃ bs : List Bool, bs.length = i ∧ bs.all id = true ∧ H' D = some (.lst (bs.map V.bl))) ⟨same_upd nD, [], rfl, rfl, upd_same⟩ (fun i H' _ h => seqT h.1 hS) ?_ ?_
    · rintro i v H1 H2 hi ⟨sm, bs, el, ea, hD⟩ ⟨e2, ex⟩
      subst e2
      rw [List.getElem?_map] at ex
      obtain ⟨z, ec, rfl⟩ := Option.map_eq_some_iff.mp ex
      have il : i < ks.length := (List.getElem?_eq_some_iff.mp ec).1
      refine ⟨rfl, _, rfl, z, rfl, hc z (List.mem_of_getElem? ec), fun H3 s3 => ?_⟩
      have sm3 := sm.trans s3
      refine ⟨bs.map V.bl, s3 _ _ hD, ?_, HD.same_put sm3 nD, bs ++ [true], by rw [List.length_append, el]; rfl, ?_, ?_⟩
      · rw [List.length_map]
        have : sizeLine = 16777216 := by decide
        omega
      · rw [List.all_append, ea]
        rfl
      · rw [upd_same, List.map_append]
        rfl
    · rintro H1 ⟨sm, bs, el, ea, hD⟩
      refine ⟨D, bs, rfl, .inl (.inl hD), ?_⟩
      rw [ea]
      exact fin H1 sm
theorem ok_check_kinds {f fi Ci : Addr} {fd fdi : FuncData} {tk : Tok} (F : Fun K "check_kinds" "check_kinds" s_check_kinds f fd) (C_are_names : Cl P w K mg base 2 "are_names" (spNames K)) (C_is_ascending : Cl P w K mg base 1 "is_ascending" (spAsc K)) (m_MOST_KINDS : mg "MOST_KINDS" = some (.int 12 tk))
    (e_InvalidTable : ErrC K mg "InvalidTable" Ci fi) (i_InvalidTable : FnOk P w K mg base CX0 1 fi fdi ["self", "at"] (spInitW K Ci "at")) (b_InvalidTable : Binds K fdi ["self", "at"] [])
    (z_isinstance : mg "isinstance" = none) (z_tuple : mg "tuple" = none) (z_len : mg "len" = none) :
    FnOk P w K mg base (L2.CX P w) 3 f fd ["kinds"] (spCheckKinds K) := by
  refine F.okX sc_check_kinds (fun vs H Q E h => ?_) (fun cdv A outer s H vs Q E hr h => ?_)
  · obtain ⟨_, _, rfl, _⟩ := h
    rfl
  · obtain ⟨t, ks, rfl, hS, ⟨l1, l2, l3, l4⟩, fin⟩ := h
    refine ⟨_, (pss_cons (ps_if (PW.pt (pw_or (pt_not (pt_val (pe_callB call_isi (by rfl) z_isinstance (by decide +kernel) (pa_cons (pv 0) (pa_cons (pe_bltn (v := .ty "tuple") (by rfl) z_tuple (by decide +kernel) rfl) pa_nil))))) (pw_or1 (pt_not (pt_chain op_le op_le pe_int (pe_callB call_len_seq (by rfl) z_len (by decide +kernel) (pa_cons (pv 0) pa_nil)) (pe_glob (v := .int 12) rfl m_MOST_KINDS ⟨_, rfl⟩))))))
      (pss_one (ps_raise rfl (takes_of rfl rfl rfl rfl) (pmk_oex e_InvalidTable.o e_InvalidTable.iC e_InvalidTable.tI i_InvalidTable (hr.mono (by decide)) b_InvalidTable .nil pass0 rfl e_InvalidTable.gC (pa_cons (pe_un un_neg pe_int) pa_nil))))
      pss_nil)
    (pss_one (ps_if (PW.pt (pw_or (pt_not (pt_val (pe_cl C_are_names hr (by decide) rfl (pa_cons (pv 0) pa_nil)))) (pw_or1 (pt_not (pt_val (pe_cl C_is_ascending hr (by decide) rfl (pa_cons (pv 0) pa_nil)))))))
      (pss_one (ps_raise rfl (takes_of rfl rfl rfl rfl) (pmk_oex e_InvalidTable.o e_InvalidTable.iC e_InvalidTable.tI i_InvalidTable (hr.mono (by decide)) b_InvalidTable .nil pass0 rfl e_InvalidTable.gC (pa_cons (pe_un un_neg pe_int) pa_nil))))
      pss_nil))), ?_⟩
    have ll : (ks.map V.str).length = ks.length := List.length_map _
    refine ⟨_, rfl, _, _, _, _, true, rfl, .ty "tuple", tyT hS, kit_ty (by decide +kernel), true, rfl, iteF ?_⟩
    refine ⟨_, rfl, t, _, rfl, .inr hS, _, _, rfl, rfl, _, rfl, ite_eq true (decide_eq_true (by omega)) (iteT ?_)⟩
    refine ⟨_, _, rfl, rfl, _, rfl, ite_eq false ?_ (iteF ?_)⟩
    · have e : decide ((((ks.map V.str).length : Nat) : Int) ≤ 12) = true := decide_eq_true (by omega)
      rw [e]
      rfl
    refine ⟨_, rfl, t, ks, rfl, hS, by omega, l3, fun H1 s1 => ⟨true, rfl, iteF ?_⟩⟩
    refine ⟨_, rfl, t, _, rfl, seqT s1 hS, by omega, asc_strs l4, fun H2 s2 => ⟨true, rfl, iteF ?_⟩⟩
    exact fin H2 (s1.trans s2)
theorem ok_init_Table {f C : Addr} {fd : FuncData} (F : Fun K "__init__" "Table.__init__" i_Table f fd) (T : TabC K C) (C_check_kinds : Cl P w K mg base 3 "check_kinds" (fun vs H Q _ => spCheckKinds K vs H Q E0)) (C_check_totals : Cl P w K mg base 6 "check_totals" (fun vs H Q _ => spCheckTotals K vs H Q E0))
    (z_len : mg "len" = none) : FnOk P w K mg base CX0 7 f fd ["self", "kinds", "totals"] (spInitT K C) := by
  refine F.ok sc_i_Table (fun vs H Q E h => ?_) (fun cdv A outer s H vs Q E hr h => ?_)
  · obtain ⟨_, _, _, _, _, _, _, rfl, _⟩ := h
    rfl
  · obtain ⟨a, dx, k, t, ks, xs, ts, rfl, ha, hk, ok, ht, hT, hl, hc, fin⟩ := h
    refine ⟨_, (pss_cons (ps_expr (pe_cl C_check_kinds hr (by decide) rfl (pa_cons (pv 1) pa_nil)))
      (pss_cons (ps_expr (pe_cl C_check_totals hr (by decide) rfl (pa_cons (pv 2) (pa_cons (pe_callB call_len_seq (by rfl) z_len (by decide +kernel) (pa_cons (pv 1) pa_nil)) pa_nil))))
      (pss_cons (ps_fld (pv 0) (pv 1) (by rfl))
      (pss_one (ps_fld (pv 0) (pv 2) (by rfl)))))), ?_⟩
    refine ⟨_, rfl, k, ks, rfl, hk, ok, fun H1 s1 => ?_⟩
    have hk1 := seqT s1 hk
    have e : ((ks.map V.str).length : Int) = (ks.length : Nat) := by rw [List.length_map]
    refine ⟨_, rfl, _, rfl, k, _, rfl, .inr hk1, t, xs, ts, _, rfl, seqT s1 ht, hT.mono s1, hl, fun c h => by rw [e]; exact hc c h, fun H2 s2 => ?_⟩
    have s12 := s1.trans s2
    refine ⟨_, rfl, _, rfl, a, C, dx, [], rfl, s12 _ _ ha, T.c, T.nk, by decide, ?_⟩
    refine ⟨_, rfl, _, rfl, a, C, dx, _, rfl, upd_same, T.c, T.nt, by show 1 < 1000; decide, ?_⟩
    refine fin _ (fun b o nb hb => ?_) ?_
    · rw [upd_ne nb, upd_ne nb]
      exact s12 b o hb
    · rw [upd_same]
      rfl
theorem ok_classes_of {f C : Addr} {fd : FuncData} (F : Fun K "classes_of" "classes_of" s_classes_of f fd) (T : TabC K C) (C_totals_with : Cl P w K mg base 1 "totals_with" (spTotalsWith K C)) (z_range : mg "range" = none) (z_len : mg "len" = none) (z_tuple : mg "tuple" = none) :
    FnOk P w K mg base CX0 2 f fd ["table"] (spClasses K C) := by
  refine F.ok sc_classes_of (fun vs H Q E h => ?_) (fun cdv A outer s H vs Q E hr h => ?_)
  · obtain ⟨_, _, _, rfl, _⟩ := h
    rfl
  · obtain ⟨a, ks, ts, rfl, hTab, lt, lk, fin⟩ := h
    refine ⟨_, (pss_cons (ps_set (i := 1) sc_classes_of.nd rfl (.inl rfl) pe_dnewT)
    (pss_cut (ps_for PassesOwn.never rfl (pi_range1 (by rfl) z_range (pa_cons (pe_callB call_len_seq (by rfl) z_len (by decide +kernel) (pa_cons (pe_fld (pv 0) (by rfl)) pa_nil)) pa_nil)) (pg_name (i := 2) sc_classes_of.nd rfl (.inl rfl))
      (pss_one (ps_expr (pe_bm PySem.F.plainAttrs_list PySem.F.slot_list_append PySem.F.type_list_append mt_append (pe_dsetT (units1 hr) (pv 1) (pe_cl C_totals_with hr (by decide) rfl (pa_cons (pv 0) (pa_cons (pv 2) pa_nil))) (pe_lst pa_nil) ⟨rfl, rfl, rfl, rfl⟩) (pa_cons (pv 2) pa_nil)))))
    (pss_one (ps_ret (pe_callTy call_tuple_of (by rfl) z_tuple (by decide +kernel) (pa_cons (pe_lock (pe_lc (own := [("totals", 3), ("kinds", 4)]) (by rfl) sc_classes_of.nd (pi_itemsT (pv 1)) (blkOk_by (own := [("totals", 3), ("kinds", 4)]) (N := N_classes_of) (sc := defScope s_classes_of) (by decide +kernel)) (fun _ _ _ _ _ => (show PG _ _ (gTup K 2 _) from pg_tup rfl (pgs_cons (pg_name (i := 3) sc_classes_of.nd rfl (.inl rfl)) (pgs_cons (pg_name (i := 4) sc_classes_of.nd rfl (.inl rfl)) pgs_nil)))) (fun _ _ _ _ _ => (pts_one (pt_tru (K := K) rfl (pv 3) (by intro _; rfl)))) (fun _ _ _ _ _ => (pe_callTy (show CallR _ (.type "tuple") (rTupOf K) from call_tupK) (by rfl) z_tuple (by decide +kernel) (pa_cons (pv 4) pa_nil))))) pa_nil)))))), ?_⟩
    refine fun D nD => ?_
    have sD := same_upd (o := .dT []) nD
    obtain ⟨dx, k, t, xs, hO, hK, hS, hT⟩ := hTab
    have hTab : Tab K C H a ks ts := ⟨dx, k, t, xs, hO, hK, hS, hT⟩
    have aD : a ≠ D := ne_of_none hO nD
    refine ⟨fun σ H' => ∃ (y2 : Option V) (ls : List Addr), σ = [some (.ref a), some (.ref D), y2, none, none] ∧ Same H H' ∧ Grp H H' D (fT ts) ks.length ls, ?_, ?_⟩
    · refine ⟨_, rfl, a, C, dx, _, .ref k, rfl, sD _ _ hO, T.c, T.nk, rfl, k, _, rfl, .inr (seqT sD hK), _, rfl, by rw [List.length_map]; omega, by rw [List.length_map]; omega, ?_⟩
      refine for_it (walk_range (lo := 0) (n := (ks.map V.str).length)) (fun i σ H' => ∃ (y2 : Option V) (ls : List Addr), σ = [some (.ref a), some (.ref D), y2, none, none] ∧ Same H H' ∧ Grp H H' D (fT ts) i ls) ?_ (fun _ _ _ _ _ => trivial) ?_ ?_
      · exact ⟨none, [], rfl, sD, ⟨upd_same, rfl, List.nodup_nil, (fun l hl => by cases hl), (fun j c l h => by cases h)⟩⟩
      · rintro i v σ Ha Hb hi ⟨y2, ls, rfl, sm, g⟩ ⟨e, rfl⟩
        subst e
        refine ⟨_, rfl, D, rfl, .inr ⟨_, .inl g.d⟩, ?_⟩
        refine ⟨_, rfl, _, rfl, a, ks, ts, _, rfl, hTab.mono sm, lt, fun H2 u s2 nu hu => ?_⟩
        refine ⟨by show 0 ≤ sizeLine; decide, fun L nL => ?_⟩
        have g2 := g.mono s2
        have sm2 := sm.trans s2
        have sL := same_upd (o := .lst []) nL
        have g3 := g2.mono sL
        have sm3 := sm2.trans sL
        have e0 : (0 : Int) + (i : Nat) = (i : Nat) := Int.zero_add _
        rw [e0] at hu
        have hi2 : i < ks.length := by
          have : i < (ks.map V.str).length := hi
          rw [List.length_map] at this
          exact this
        have small : ∀ n : Nat, n ≤ 1000 → n < sizeLine := fun n hn => by
          have : sizeLine = 16777216 := by decide
          omega
        refine ⟨_, kI (fT ts i), u, g3.d, rfl, ?_, ?_, fun v hv => ?_, fun hn => ?_⟩
        · rw [kI_kV]
          exact sL _ _ hu
        · rw [mk_len g.len]
          have := keys_len (fT ts) i
          exact small _ (by omega)
        · obtain ⟨j, l, k1, k2, rfl⟩ := mk_val g.len hv
          have hl := g3.at_ j _ l k1 k2
          refine ⟨.inl ⟨rfl, _, .inl (.inl hl)⟩, _, rfl, l, _, _, rfl, rfl, hl, ?_, ?_⟩
          · have := pick_len (memb (fT ts) (fT ts i)) i
            rw [List.length_map]
            exact small _ (by omega)
          · have gg := g3.old k1 k2
            rw [← e0] at gg
            refine ⟨_, ls, rfl, ?_, gg⟩
            intro b o hb
            have nb : b ≠ l := ne_of_none hb (g.new l (List.mem_of_getElem? k2))
            rw [upd_ne nb]
            exact sm3 b o hb
        · have nk := mk_none g.len hn
          have nDL : D ≠ L := ne_of_none g2.d nL
          have hLL : (L2.upd (L2.upd H2 L (.lst [])) D (.dT (putK (mkKvs (keysOf (fT ts) i) ls) (kI (fT ts i)) (.ref L)))) L = some (.lst []) := by
            rw [upd_ne nDL.symm, upd_same]
          refine ⟨.inl ⟨rfl, _, .inl (.inl hLL)⟩, _, rfl, L, _, _, rfl, rfl, hLL, by show 0 < sizeLine; decide, ?_⟩
          rw [mk_put g.len hn]
          have gg := g2.fresh nk nL (sm2.free nL)
          rw [← e0] at gg
          refine ⟨_, ls ++ [L], rfl, ?_, gg⟩
          intro b o hb
          have nbL : b ≠ L := ne_of_none (sm2 b o hb) nL
          have nbD : b ≠ D := ne_of_none hb nD
          rw [upd_ne nbL, upd_ne nbD, upd_ne nbL]
          exact sm2 b o hb
      · rintro σ H' ⟨y2, ls, rfl, sm, g⟩
        rw [List.length_map] at g
        exact ⟨y2, ls, rfl, sm, g⟩
    · rintro σ H1 ⟨y2, ls, rfl, sm, g⟩
      refine ⟨D, _, g.d, trivial, fun od => ?_⟩
      have g1 := g
      have hfr : (L2.upd H1 D (.frz od (.dT (mkKvs (keysOf (fT ts) ks.length) ls)))) D = some (.frz od (.dT (mkKvs (keysOf (fT ts) ks.length) ls))) := upd_same
      have lists : ∀ (j : Nat) (c : List Int) (l : Addr), (keysOf (fT ts) ks.length)[j]? = some c → ls[j]? = some l → (L2.upd H1 D (.frz od (.dT (mkKvs (keysOf (fT ts) ks.length) ls)))) l = some (.lst ((pick (memb (fT ts) c) ks.length).map V.int)) := by
        intro j c l k1 k2
        have h := g.at_ j c l k1 k2
        rw [upd_ne (ne_of h g.d (fun z => nomatch z))]
        exact h
      have keepF : ∀ (b : Addr) (o : HO), H b = some o → (L2.upd H1 D (.frz od (.dT (mkKvs (keysOf (fT ts) ks.length) ls)))) b = some o := by
        intro b o hb
        rw [upd_ne (ne_of_none hb nD)]
        exact sm b o hb
      generalize L2.upd H1 D (.frz od (.dT (mkKvs (keysOf (fT ts) ks.length) ls))) = HF at hfr lists keepF ⊢
      refine ⟨_, rfl, D, od, _, rfl, hfr, fun M nM => ?_⟩
      have kl := keys_len (fT ts) ks.length
      refine lc_it (walk_itemsT (d := D) (o := od) (kvs := mkKvs (keysOf (fT ts) ks.length) ls)) (fun i H' => Same HF H' ∧ ∃ xs, H' M = some (.lst xs) ∧ Tots K H' xs (outL (fT ts) ks.length i) ∧ xs.length ≤ i) ⟨same_upd nM, [], upd_same, trivial, Nat.le_refl _⟩ (fun i H' _ h => h.1 _ _ hfr) ?_ ?_
      · rintro i v H2 H3 hi ⟨sm2, xs2, hM, hx, hl2⟩ ⟨U, kk, v', q, hkv, rfl, hq, nU, rfl⟩
        obtain ⟨c, l, k1, k2, rfl, rfl⟩ := mk_get g.len hkv
        have sU := same_upd (o := .tup [.ref q, .ref l]) nU
        have sm3 := sm2.trans sU
        have il : i < (keysOf (fT ts) ks.length).length := (List.getElem?_eq_some_iff.mp k1).1
        rw [kI_kV] at hq
        refine ⟨U, _, rfl, .inl (.inl upd_same), rfl, _, _, rfl, _, _, rfl, rfl, rfl, ?_⟩
        refine ⟨_, rfl, _, .inr (.inl ⟨_, sqt (sU _ _ hq), rfl⟩), ?_⟩
        have em : (!(c.map V.int).isEmpty) = !c.isEmpty := by cases c <;> rfl
        rw [em]
        cases hc : !c.isEmpty with
        | true =>
          refine iteT ⟨_, rfl, l, _, rfl, .inl ⟨.inl (.inl (sm3 _ _ (lists i c l k1 k2))), fun u nu => ?_⟩⟩
          have su := same_upd (o := .tup ((pick (memb (fT ts) c) ks.length).map V.int)) nu
          have hM2 := su _ _ (sU _ _ hM)
          refine ⟨_, hM2, ?_, HD.same_put (sm3.trans su) nM, xs2 ++ [.ref u], upd_same, ?_, by rw [List.length_append]; exact Nat.succ_le_succ hl2⟩
          · have : sizeLine = 16777216 := by decide
            omega
          · rw [out_yes k1 hc]
            exact Tots.upd hM2 (Tots.snoc (sqt upd_same) (hx.mono (sU.trans su)))
        | false =>
          refine iteF ⟨sm3, xs2, sU _ _ hM, ?_, by omega⟩
          rw [out_no k1 hc]
          exact hx.mono sU
      · rintro H2 ⟨sm2, xs2, hM, hx, hl2⟩
        have h2D := sm2 _ _ hfr
        refine ⟨h2D, ?_⟩
        have nMD : M ≠ D := ne_of hM h2D (fun z => nomatch z)
        have hM2 : (L2.upd H2 D (.dT (mkKvs (keysOf (fT ts) ks.length) ls))) M = some (.lst xs2) := by
          rw [upd_ne nMD]
          exact hM
        refine ⟨M, xs2, rfl, .inl ⟨.inl (.inl hM2), fun u nu => ?_⟩⟩
        have su := same_upd (o := .tup xs2) nu
        refine fin _ u xs2 (fun b o hb => ?_) ?_ upd_same ?_
        · have nb : b ≠ D := ne_of_none hb nD
          refine su _ _ ?_
          rw [upd_ne nb]
          exact sm2 _ _ (keepF b o hb)
        · cases hu : H u with
          | none => rfl
          | some o =>
            have nb : u ≠ D := ne_of_none hu nD
            have := sm2 _ _ (keepF u o hu)
            rw [upd_ne nb, this] at nu
            cases nu
        · have eo : outL (fT ts) ks.length (mkKvs (keysOf (fT ts) ks.length) ls).length = classesL ts ks.length := by
            unfold outL classesL
            rw [mk_len g.len, List.take_of_length_le (Nat.le_refl _)]
          rw [eo] at hx
          exact (Tots.unlock h2D hx).mono su
theorem ok_class_numbers {f C : Addr} {fd : FuncData} (F : Fun K "class_numbers" "class_numbers" s_class_numbers f fd) (T : TabC K C) (C_classes_of : Cl P w K mg base 2 "classes_of" (spClasses K C)) (z_enumerate : mg "enumerate" = none) (z_range : mg "range" = none) (z_len : mg "len" = none) (z_tuple : mg "tuple" = none) :
    FnOk P w K mg base CX0 3 f fd ["table"] (spNumbers K C) := by
  refine F.ok sc_class_numbers (fun vs H Q E h => ?_) (fun cdv A outer s H vs Q E hr h => ?_)
  · obtain ⟨_, _, _, rfl, _⟩ := h
    rfl
  · obtain ⟨a, ks, ts, rfl, hTab, lt, lk, fin⟩ := h
    refine ⟨_, (pss_cons (ps_set (i := 1) sc_class_numbers.nd rfl (.inr rfl) pe_dnewK)
    (pss_cut (ps_for PassesOwn.never rfl (pi_enumT (by rfl) z_enumerate (pa_cons (pe_cl C_classes_of hr (by decide) rfl (pa_cons (pv 0) pa_nil)) pa_nil)) (pg_tup rfl (pgs_cons (pg_name (i := 2) sc_class_numbers.nd rfl (.inl rfl)) (pgs_cons (pg_name (i := 3) sc_class_numbers.nd rfl (.inl rfl)) pgs_nil)))
      (pss_one (ps_for PassesOwn.never rfl (pi_tup (pv 3)) (pg_name (i := 4) sc_class_numbers.nd rfl (.inl rfl))
        (pss_one (ps_dput (units1 hr) (pv 1) (pv 4) (pv 2) (by rfl))))))
    (pss_one (ps_ret (pe_callTy call_tuple_of (by rfl) z_tuple (by decide +kernel) (pa_cons (pe_lc (own := [("kind", 4)]) (by rfl) sc_class_numbers.nd (pi_range1 (by rfl) z_range (pa_cons (pe_callB call_len_seq (by rfl) z_len (by decide +kernel) (pa_cons (pe_fld (pv 0) (by rfl)) pa_nil)) pa_nil)) (blkOk_by (own := [("kind", 4)]) (N := N_class_numbers) (sc := defScope s_class_numbers) (by decide +kernel)) (fun _ _ _ _ _ => (pg_name (i := 4) sc_class_numbers.nd rfl (.inl rfl))) (fun _ _ _ _ _ => pts_nil) (fun _ _ _ _ _ => (pe_dget1 (units1 hr) (pv 1) (pv 4) ⟨rfl, rfl, rfl, rfl⟩))) pa_nil)))))), ?_⟩
    refine fun D nD => ?_
    have sD := same_upd (o := .dK []) nD
    have ⟨cl1, cl2⟩ := classes_len ts ks.length
    generalize hcs : classesL ts ks.length = cs at cl1 cl2 fin
    refine ⟨fun σ H' => (∃ y2 y3 y4 : Option V, σ = [some (.ref a), some (.ref D), y2, y3, y4]) ∧ Same H H' ∧ H' D = some (.dK (numF cs cs.length)), ?_, ?_⟩
    · refine ⟨_, rfl, a, ks, ts, rfl, hTab.mono sD, lt, lk, fun H1 u xs s1 nu hu hx => ?_⟩
      rw [hcs] at hx
      have lx := hx.len
      have sm1 := sD.trans s1
      refine ⟨u, xs, rfl, sqt hu, ?_⟩
      have hD1 := s1 _ _ (upd_same (H := H) (a := D) (o := .dK []))
      refine for_it (walk_enumT (K := K) (a := u) (xs := xs)) (fun i σ H' => (∃ y2 y3 y4 : Option V, σ = [some (.ref a), some (.ref D), y2, y3, y4]) ∧ Same H H' ∧ H' D = some (.dK (numF cs i)) ∧ SqT K H' u xs ∧ Tots K H' xs cs) ⟨⟨_, _, _, rfl⟩, sm1, hD1, sqt hu, hx⟩ (fun i σ H' _ h => h.2.2.2.1) ?_ ?_
      · rintro i v σ H2 H3 hi ⟨⟨y2, y3, y4, rfl⟩, sm2, hD2, hS2, hT2⟩ ⟨U, x, rfl, nU, rfl, ex⟩
        obtain ⟨tt, c, rfl, ec, ht⟩ := hT2.get ex
        have sU := same_upd (o := .tup [.int (i : Nat), .ref tt]) nU
        have ic : i < cs.length := (List.getElem?_eq_some_iff.mp ec).1
        have lc := cl2 c (List.mem_of_getElem? ec)
        have gd : cs.getD i [] = c := by rw [List.getD_eq_getElem?_getD, ec]; rfl
        have nl := num_len (cs := cs) (fun c hc => Nat.le_trans (cl2 c hc) lk) i (by omega)
        refine ⟨U, _, rfl, .inl (.inl upd_same), rfl, _, _, rfl, _, _, rfl, rfl, ?_⟩
        refine ⟨_, rfl, tt, rfl, ⟨_, seqT sU ht⟩, ?_⟩
        refine for_it (walk_tup (K := K) (a := tt) (xs := c.map V.int)) (fun j σ H' => (∃ y4 : Option V, σ = [some (.ref a), some (.ref D), some (.int (i : Nat)), some (.ref tt), y4]) ∧ Same H H' ∧ H' D = some (.dK (putRow (numF cs i) i (c.take j))) ∧ SqT K H' u xs ∧ Tots K H' xs cs ∧ SqT K H' tt (c.map V.int)) ⟨⟨_, rfl⟩, sm2.trans sU, sU _ _ hD2, seqT sU hS2, hT2.mono sU, seqT sU ht⟩ (fun j σ H' _ h => h.2.2.2.2.2) ?_ ?_
        · rintro j v σ H4 H5 hj ⟨⟨y4', rfl⟩, sm4, hD4, hS4, hT4, ht4⟩ ⟨e5, ex5⟩
          subst e5
          rw [List.getElem?_map] at ex5
          obtain ⟨kk, ek, rfl⟩ := Option.map_eq_some_iff.mp ex5
          have jl : j < c.length := (List.getElem?_eq_some_iff.mp ek).1
          have rl := row_len i (c.take j) (numF cs i)
          have n1 : ∀ (g : Nums) (ys : List V), HO.tup ys ≠ HO.dK g := fun g ys z => nomatch z
          have n2 : ∀ (g : Nums) (od : Obj) (ys : List V), HO.frz od (.tup ys) ≠ HO.dK g := fun g od ys z => nomatch z
          refine ⟨_, rfl, _, rfl, _, rfl, D, _, rfl, DPut.k (k := (Sum.inl kk : L2.Key)) hD4 ?_, ?_⟩
          · have : sizeLine = 16777216 := by decide
            rw [List.length_take] at rl
            have h3 : i * 1000 ≤ 1000 * 1000 := Nat.mul_le_mul_right _ (by omega)
            omega
          · refine ⟨⟨_, rfl⟩, ?_, ?_, seqT_at hD4 (n1 _) (n2 _) hS4, Tots.at_ hD4 (n1 _) (n2 _) hT4, seqT_at hD4 (n1 _) (n2 _) ht4⟩
            · intro b o hb
              rw [upd_ne (ne_of_none hb nD)]
              exact sm4 b o hb
            · rw [upd_same, row_take ek]
        · rintro σ H4 ⟨⟨y4', rfl⟩, sm4, hD4, hS4, hT4, ht4⟩
          rw [List.take_of_length_le (by rw [List.length_map]; exact Nat.le_refl _)] at hD4
          refine ⟨⟨_, _, _, rfl⟩, sm4, ?_, hS4, hT4⟩
          rw [hD4]
          show some (HO.dK (putRow (numF cs i) i c)) = some (HO.dK (putRow (numF cs i) i (cs.getD i [])))
          rw [gd]
      · rintro σ H2 ⟨⟨y2, y3, y4, rfl⟩, sm2, hD2, hS2, hT2⟩
        rw [lx] at hD2
        exact ⟨⟨_, _, _, rfl⟩, sm2, hD2⟩
    · rintro σ H2 ⟨⟨y2, y3, y4, rfl⟩, sm2, hD2⟩
      have hTab2 := hTab.mono sm2
      obtain ⟨dx, k, t, ys, hO, hK, hS, hT⟩ := hTab2
      refine ⟨_, rfl, a, C, dx, _, .ref k, rfl, hO, T.c, T.nk, rfl, k, _, rfl, .inr hK, _, rfl, by rw [List.length_map]; omega, by rw [List.length_map]; omega, fun M nM => ?_⟩
      refine lc_it (walk_range (lo := 0) (n := (ks.map V.str).length)) (fun i H' => Same H2 H' ∧ H' M = some (.lst ((List.range i).map fun j => numV cs ((j : Nat) : Int)))) ⟨same_upd nM, upd_same⟩ (fun _ _ _ _ => trivial) ?_ ?_
      · rintro i v H3 H4 hi ⟨sm3, hM⟩ ⟨e, rfl⟩
        subst e
        have e0 : (0 : Int) + (i : Nat) = (i : Nat) := Int.zero_add _
        have il : i < ks.length := by
          have : i < (ks.map V.str).length := hi
          rw [List.length_map] at this
          exact this
        have hD3 := sm3 _ _ hD2
        refine ⟨rfl, _, rfl, D, rfl, .inl ⟨_, .inl hD3⟩, _, rfl, _, DGet.k (k := (Sum.inl (0 + (i : Nat)) : L2.Key)) hD3, ?_⟩
        refine ⟨_, hM, ?_, HD.same_put sm3 nM, ?_⟩
        · rw [List.length_map, List.length_range]
          have : sizeLine = 16777216 := by decide
          omega
        · rw [upd_same, List.range_succ, List.map_append, e0]
          rfl
      · rintro H3 ⟨sm3, hM⟩
        rw [List.length_map] at hM
        refine ⟨M, _, rfl, .inl ⟨.inl (.inl hM), fun u nu => ?_⟩⟩
        have sall := sm2.trans (sm3.trans (same_upd (o := .tup ((List.range ks.length).map fun j => numV cs ((j : Nat) : Int))) nu))
        exact fin _ u sall ((sm2.trans sm3).free nu) upd_same
theorem ok__law_draw {f : Addr} {fd : FuncData} (F : Fun K "_law_draw" "_law_draw" s__law_draw f fd) (z_int : mg "int" = none) :
    FnOk P w K mg base CX0 1 f fd ["heap", "many"] spDraw := by
  refine F.ok sc__law_draw (fun vs H Q E h => ?_) (fun cdv A outer s H vs Q E hr h => ?_)
  · obtain ⟨p, q, many, rfl, _⟩ := h
    rfl
  · obtain ⟨p, q, many, rfl, hd, m0, m1, fin⟩ := h
    refine ⟨_, (pss_cut (ps_while PassesOwn.never (PW.pt (pw_and (pt_cmpR (op_neD hr.units) (pe_ix ix_list (pv 0) pe_int (fun _ _ => rfl)) (pe_lst pa_nil) (nomark _)) (pw_and1 (pt_cmpR op_eq (pe_ix ix_list (pe_ix ix_list (pv 0) pe_int (fun _ _ => rfl)) (pe_un un_neg pe_int) (fun _ _ => rfl)) pe_int (nomark _)))))
      (pss_one (ps_expr (pe_bm0 PySem.F.plainAttrs_list PySem.F.slot_list_pop PySem.F.type_list_pop mt_pop (pe_ix ix_list (pv 0) pe_int (fun _ _ => rfl))))))
    (pss_cons (ps_if (pt_cmpR (op_neD hr.units) (pe_ix ix_list (pv 0) pe_int (fun _ _ => rfl)) (pe_lst pa_nil) (nomark _))
      (pss_cons (ps_set (i := 2) sc__law_draw.nd rfl (.inl rfl) (pe_bm0 PySem.F.plainAttrs_list PySem.F.slot_list_pop PySem.F.type_list_pop mt_pop (pe_ix ix_list (pv 0) pe_int (fun _ _ => rfl))))
      (pss_cons (ps_expr (pe_bm PySem.F.plainAttrs_list PySem.F.slot_list_append PySem.F.type_list_append mt_append (pe_ix ix_list (pv 0) pe_int (fun _ _ => rfl)) (pa_cons (pe_op op_fdivN (pv 2) (pv 1)) pa_nil)))
      (pss_one (ps_ret (pe_op op_modN (pe_callTy call_int1 (by rfl) z_int (by decide +kernel) (pa_cons (pv 2) pa_nil)) (pv 1))))))
      pss_nil)
    (pss_cons (ps_asg (pe_op op_modN (pe_callTy call_int1 (by rfl) z_int (by decide +kernel) (pa_cons (pe_op op_add (pe_op op_mul (pe_ix ix_list (pv 0) pe_int (fun _ _ => rfl)) pe_int) pe_int) pa_nil)) pe_int) (pg_sub (pv 0) pe_int set_list))
    (pss_one (ps_ret (pe_op op_modN (pe_callTy call_int1 (by rfl) z_int (by decide +kernel) (pa_cons (pe_op op_fdivN (pe_ix ix_list (pv 0) pe_int (fun _ _ => rfl)) pe_int) pa_nil)) (pv 1))))))), ?_⟩
    obtain ⟨cs, st, h1, h2, h3, h4, h5⟩ := hd
    have at0 : ∀ x y : V, atI [x, y] 0 = some x := fun _ _ => rfl
    have at1 : ∀ x y : V, atI [x, y] 1 = some y := fun _ _ => rfl
    refine ⟨fun σ H' => σ = [some (.ref p), some (.int many), none] ∧ Keep p q H H' ∧ ∃ cs : List Int, H' p = some (.lst [.ref q, .int st]) ∧ H' q = some (.lst (cs.map V.int)) ∧ cs.length ≤ 63, ?_, ?_⟩
    · -- the loop
      refine ⟨fun m σ H' => ∃ cs : List Int, m = cs.length ∧ σ = [some (.ref p), some (.int many), none] ∧ Keep p q H H' ∧ H' p = some (.lst [.ref q, .int st]) ∧ H' q = some (.lst (cs.map V.int)) ∧ cs.length ≤ 63,
        ⟨_, cs, rfl, rfl, Keep.refl _ _ _, h1, h2, h3⟩, ?_⟩
      rintro m σ H1 ⟨cs, rfl, rfl, kp, h1, h2, h3⟩
      refine ⟨_, rfl, p, _, 0, .ref q, rfl, rfl, .inl (.inl h1), at0 _ _, Nat.zero_le _, fun l nl => ?_⟩
      have n1 : p ≠ l := ne_of_none h1 nl
      have n2 : q ≠ l := ne_of_none h2 nl
      have g1 : (upd H1 l (.lst [])) p = some (.lst [.ref q, .int st]) := by
        rw [upd_ne n1]
        exact h1
      have g2 : (upd H1 l (.lst [])) q = some (.lst (cs.map V.int)) := by
        rw [upd_ne n2]
        exact h2
      have kp1 : Keep p q H (upd H1 l (.lst [])) := kp.trans (Keep.new nl)
      refine ⟨_, .list [], dp_ints (.inl (.inl g2)), .lst (.inl (.inl upd_same)) .nil, shaped_ints _, shaped_nil, _, rfl, ?_⟩
      rw [eqv_nil]
      by_cases hc : cs = []
      · rw [decide_eq_true hc]
        refine iteF ⟨rfl, kp1, cs, g1, g2, h3⟩
      · rw [decide_eq_false hc]
        refine iteT ?_
        obtain ⟨c0, c, rfl⟩ := snocL cs hc
        have gl : atI ((c0 ++ [c]).map V.int) (-1) = some (.int c) := by
          rw [List.map_append]
          exact atI_last _ _
        refine ⟨_, rfl, p, _, 0, .ref q, rfl, rfl, .inl (.inl g1), at0 _ _, 1, rfl, q, _, -1, _, rfl, rfl, .inl (.inl g2), gl, rfl, _, rfl, ite2 (fun e => ?_) (fun e => ?_)⟩
        · refine ⟨fun σ' H'' => σ' = [some (.ref p), some (.int many), none] ∧ Keep p q H H'' ∧ H'' p = some (.lst [.ref q, .int st]) ∧ H'' q = some (.lst (c0.map V.int)), fun σ' H'' hN => ?_, ?_⟩
          · obtain ⟨e1, e2, e3, e4⟩ := hN
            rw [List.length_append, List.length_cons, List.length_nil] at h3
            exact ⟨c0.length, by rw [List.length_append, List.length_cons, List.length_nil]; omega, c0, rfl, e1, e2, e3, e4, by omega⟩
          · refine ⟨_, rfl, p, _, 0, .ref q, rfl, rfl, .inl (.inl g1), at0 _ _, .inl ⟨rfl, _, .inl (.inl g2)⟩, q, _, .int c, rfl, rfl, g2, ?_, rfl, kp1.trans Keep.at2, ?_, ?_⟩
            · rw [List.map_append, List.length_append, List.getElem?_append_right (by simp)]
              simp
            · rw [upd_ne (show p ≠ q from Hd.ne (H := upd H1 l (.lst [])) ⟨_, _, g1, g2, h3, h4, h5⟩)]
              exact g1
            · rw [upd_same, List.map_append]
              simp
        · exact ⟨rfl, kp1, _, g1, g2, h3⟩
    · rintro σ H1 ⟨rfl, kp, cs, h1, h2, h3⟩
      refine ⟨_, rfl, p, _, 0, .ref q, rfl, rfl, .inl (.inl h1), at0 _ _, Nat.zero_le _, fun l nl => ?_⟩
      have n1 : p ≠ l := ne_of_none h1 nl
      have n2 : q ≠ l := ne_of_none h2 nl
      have g1 : (upd H1 l (.lst [])) p = some (.lst [.ref q, .int st]) := by
        rw [upd_ne n1]
        exact h1
      have g2 : (upd H1 l (.lst [])) q = some (.lst (cs.map V.int)) := by
        rw [upd_ne n2]
        exact h2
      have kp1 : Keep p q H (upd H1 l (.lst [])) := kp.trans (Keep.new nl)
      have hpq : p ≠ q := Hd.ne (H := upd H1 l (.lst [])) ⟨_, _, g1, g2, h3, h4, h5⟩
      refine ⟨_, .list [], dp_ints (.inl (.inl g2)), .lst (.inl (.inl upd_same)) .nil, shaped_ints _, shaped_nil, _, rfl, ?_⟩
      rw [eqv_nil]
      by_cases hc : cs = []
      · -- from the number
        rw [decide_eq_true hc]
        refine iteF ?_
        have b1 : -(2 ^ 64) < st ∧ st < 2 ^ 64 := ⟨by omega, by omega⟩
        have fm := fmod_lt (st * 48271 + 17) (m := 2147483647) (by decide)
        refine ⟨_, rfl, p, _, 1, .int st, rfl, rfl, .inl (.inl g1), at1 _ _, _, _, rfl, rfl, .inl b1, _, _, rfl, rfl, .inl ⟨_, rfl, _, _, rfl, rfl, by show (2147483647 : Int) ≠ 0; decide, ?_⟩⟩
        refine ⟨_, rfl, p, _, 1, 1, rfl, rfl, g1, rfl, ?_⟩
        have g3 : (upd (upd H1 l (.lst [])) p (.lst ([V.ref q, V.int st].set 1 (V.int ((st * 48271 + 17).fmod 2147483647))))) p = some (.lst [.ref q, .int ((st * 48271 + 17).fmod 2147483647)]) := upd_same
        refine ⟨_, rfl, p, _, 1, .int ((st * 48271 + 17).fmod 2147483647), rfl, rfl, .inl (.inl g3), at1 _ _, _, _, rfl, rfl, ⟨by decide, by decide⟩, .inl ⟨_, rfl, _, rfl, _, _, rfl, rfl, by omega, ?_⟩⟩
        have fm2 := fmod_lt (((st * 48271 + 17).fmod 2147483647).fdiv 32) m0
        refine fin _ _ ⟨cs, _, g3, ?_, h3, fm.1, fm.2⟩ (kp1.trans Keep.at1) fm2.1 fm2.2
        rw [upd_ne hpq.symm]
        exact g2
      · rw [decide_eq_false hc]
        refine iteT ?_
        obtain ⟨c0, c, rfl⟩ := snocL cs hc
        have gp : (List.map V.int (c0 ++ [c]))[(List.map V.int (c0 ++ [c])).length - 1]? = some (.int c) := by
          rw [List.map_append, List.length_append, List.getElem?_append_right (by simp)]
          simp
        refine ⟨_, rfl, p, _, 0, .ref q, rfl, rfl, .inl (.inl g1), at0 _ _, .inl ⟨rfl, _, .inl (.inl g2)⟩, q, _, .int c, rfl, rfl, g2, gp, ?_⟩
        have dl : (List.map V.int (c0 ++ [c])).dropLast = c0.map V.int := by
          rw [List.map_append]
          simp
        rw [dl]
        have g3 : (upd (upd H1 l (.lst [])) q (.lst (c0.map V.int))) p = some (.lst [.ref q, .int st]) := by
          rw [upd_ne hpq]
          exact g1
        have g4 : (upd (upd H1 l (.lst [])) q (.lst (c0.map V.int))) q = some (.lst (c0.map V.int)) := upd_same
        refine ⟨_, rfl, p, _, 0, .ref q, rfl, rfl, .inl (.inl g3), at0 _ _, .inl ⟨rfl, _, .inl (.inl g4)⟩, _, rfl, _, rfl, _, _, rfl, rfl, ⟨by omega, by omega⟩, q, _, _, rfl, rfl, g4, ?_, ?_⟩
        · rw [List.length_append, List.length_cons, List.length_nil] at h3
          rw [List.length_map]
          exact small1000 (by omega)
        · refine ⟨_, rfl, .inl ⟨_, rfl, _, rfl, _, _, rfl, rfl, by omega, ?_⟩⟩
          have fm := fmod_lt c m0
          refine fin _ _ ⟨c0 ++ [c.fdiv many], st, ?_, ?_, ?_, h4, h5⟩ ((kp1.trans Keep.at2).trans Keep.at2) fm.1 fm.2
          · rw [upd_ne hpq]
            exact g3
          · rw [upd_same, List.map_append]
            rfl
          · rw [List.length_append, List.length_cons, List.length_nil] at h3 ⊢
            exact h3
theorem ok__law_pick {f : Addr} {fd : FuncData} (F : Fun K "_law_pick" "_law_pick" s__law_pick f fd) (C__law_draw : Cl P w K mg base 1 "_law_draw" spDraw) (z_len : mg "len" = none) :
    FnOk P w K mg base CX0 2 f fd ["heap", "some"] (spPick K) := by
  refine F.ok sc__law_pick (fun vs H Q E h => ?_) (fun cdv A outer s H vs Q E hr h => ?_)
  · obtain ⟨p, q, l, xs, rfl, _⟩ := h
    rfl
  · obtain ⟨p, q, l, xs, rfl, hd, hl, n1, n2, hx, hz, fin⟩ := h
    refine ⟨_, (pss_one (ps_ret (pe_ix ix_list (pv 1) (pe_cl C__law_draw hr (by decide) rfl (pa_cons (pv 0) (pa_cons (pe_callB call_len_seq (by rfl) z_len (by decide +kernel) (pa_cons (pv 1) pa_nil)) pa_nil))) (fun _ _ => rfl)))), ?_⟩
    have h0 : 0 < xs.length := List.length_pos_iff.mpr hx
    refine ⟨_, rfl, _, rfl, _, rfl, l, xs, rfl, .inl (.inl (.inl hl)), p, q, _, rfl, hd, by omega, by omega, fun H' r hd' kp r0 r1 => ?_⟩
    have hl' := kp l _ n1 n2 hl
    obtain ⟨j, rfl⟩ := Int.eq_ofNat_of_zero_le r0
    have hj : j < xs.length := by omega
    refine ⟨l, xs, _, xs[j], rfl, rfl, .inl (.inl hl'), atI_nat (List.getElem?_eq_getElem hj), ?_⟩
    exact fin _ _ hd' kp (List.getElem_mem hj)
theorem ok__law_heapF {f : Addr} {fd : FuncData} (F : Fun K "_law_heap" "_law_heap" s__law_heap f fd) (z_int : mg "int" = none) (z_abs : mg "abs" = none) :
    FnOk P w K mg base CX0 1 f fd ["script"] (spHeapF K) := by
  refine F.ok sc__law_heap (fun vs H Q E h => ?_) (fun cdv A outer s H vs Q E hr h => ?_)
  · obtain ⟨a, ns, rfl, _⟩ := h
    rfl
  · obtain ⟨a, ns, rfl, hS, hn, fin⟩ := h
    refine ⟨_, (pss_cons (ps_par (i := 2) (j := 3) (by rfl) sc__law_heap.nd rfl rfl (by decide) rfl rfl (pa_cons (pe_lc (own := [("cell", 1)]) (by rfl) sc__law_heap.nd (pi_list (pe_slice sl_list (pv 0) po_none (po_some pe_int))) (blkOk_by (own := [("cell", 1)]) (N := N__law_heap) (sc := defScope s__law_heap) (by decide +kernel)) (fun _ _ _ _ _ => (pg_name (i := 1) sc__law_heap.nd rfl (.inl rfl))) (fun _ _ _ _ _ => pts_nil) (fun _ _ _ _ _ => (pe_op op_add (pe_op op_mul pe_int (pe_callB call_abs (by rfl) z_abs (by decide +kernel) (pa_cons (pv 1) pa_nil))) (pe_callTy call_int1 (by rfl) z_int (by decide +kernel) (pa_cons (pe_cmpR op_lt (pv 1) pe_int (nomark _)) pa_nil))))) (pa_cons pe_int pa_nil)) (by rfl))
    (pss_cut (ps_for PassesOwn.never rfl (pi_list (pv 2)) (pg_name (i := 1) sc__law_heap.nd rfl (.inl rfl))
      (pss_one (ps_set (i := 3) sc__law_heap.nd rfl (.inl rfl) (pe_op op_modN (pe_callTy call_int1 (by rfl) z_int (by decide +kernel) (pa_cons (pe_op op_add (pe_op op_add (pe_op op_mul (pv 3) pe_int) (pe_op op_modN (pe_callTy call_int1 (by rfl) z_int (by decide +kernel) (pa_cons (pv 1) pa_nil)) pe_int)) pe_int) pa_nil)) pe_int))))
    (pss_one (ps_ret (pe_lst (pa_cons (pe_revL (pe_lc (own := [("cell", 1)]) (by rfl) sc__law_heap.nd (pi_list (pv 2)) (blkOk_by (own := [("cell", 1)]) (N := N__law_heap) (sc := defScope s__law_heap) (by decide +kernel)) (fun _ _ _ _ _ => (pg_name (i := 1) sc__law_heap.nd rfl (.inl rfl))) (fun _ _ _ _ _ => (pts_one (pt_cmpR op_ge (pv 1) (pe_op op_pow pe_int pe_int) (nomark _)))) (fun _ _ _ _ _ => (pv 1)))) (pa_cons (pv 3) pa_nil))))))), ?_⟩
    obtain ⟨ms, em, hm⟩ := cut_ints ns none (some 60)
    refine ⟨_, rfl, _, rfl, a, _, rfl, hS, fun c nc => ?_⟩
    rw [em]
    have s1 : Same H (upd H c (.lst (ms.map V.int))) := FR.same_upd nc
    refine ⟨c, rfl, ⟨_, .inl (.inl upd_same)⟩, fun D nD => ?_⟩
    have ncD : c ≠ D := ne_of_none upd_same nD
    refine lc_it (walk_list (K := K) (a := c) (xs := ms.map V.int)) (fun i H' => Same H H' ∧ H' c = some (.lst (ms.map V.int)) ∧ ∃ cs : List Int, cs.length = i ∧ H' D = some (.lst (cs.map V.int))) ?_ ?_ ?_ ?_
    · exact ⟨s1.trans (FR.same_upd nD), by rw [upd_ne ncD]; exact upd_same, [], rfl, upd_same⟩
    · rintro i H' _ ⟨_, h2, _⟩
      exact .inl (.inl h2)
    · rintro i x H1 H' hi ⟨sm, hc, cs, el, hD⟩ ⟨rfl, ex⟩
      rw [List.length_map] at hi
      rw [List.getElem?_map, List.getElem?_eq_getElem hi] at ex
      have e1 : V.int ms[i] = x := Option.some.inj ex
      subst e1
      refine ⟨rfl, _, rfl, _, rfl, _, _, rfl, rfl, .inl ⟨by decide, by decide⟩, _, rfl, _, _, rfl, rfl, .inr ⟨_, rfl, _, _, rfl, rfl, ?_⟩⟩
      refine ⟨cs.map V.int, hD, ?_, ?_, ?_, ?_⟩
      · rw [List.length_map]
        exact small1000 (by omega)
      · have nH : H D = none := s1.free nD
        exact HD.same_put sm nH
      · rw [upd_ne ncD]
        exact hc
      · refine ⟨cs ++ [2 * (if ms[i] < 0 then -ms[i] else ms[i]) + (if decide (ms[i] < 0) = true then 1 else 0)], by rw [List.length_append, el]; rfl, ?_⟩
        rw [upd_same, List.map_append]
        rfl
    · rintro H1 ⟨sm, hc, cs, el, hD⟩
      rw [List.length_map] at el
      have hcs : cs.length ≤ 63 := by omega
      refine ⟨_, _, rfl, ?_⟩
      -- the loop over the cells
      refine ⟨fun σ H' => H' = H1 ∧ ∃ (y1 : Option V) (st : Int), σ = [some (.ref a), y1, some (.ref D), some (.int st)] ∧ 0 ≤ st ∧ st < 2147483647, ?_, ?_⟩
      · refine ⟨_, rfl, D, rfl, ⟨_, .inl (.inl hD)⟩, ?_⟩
        refine for_it (walk_list (K := K) (a := D) (xs := cs.map V.int)) (fun i σ H' => H' = H1 ∧ ∃ (y1 : Option V) (st : Int), σ = [some (.ref a), y1, some (.ref D), some (.int st)] ∧ 0 ≤ st ∧ st < 2147483647) ?_ ?_ ?_ ?_
        · exact ⟨rfl, _, 30011, rfl, by decide, by decide⟩
        · rintro i σ H' _ ⟨rfl, _⟩
          exact .inl (.inl hD)
        · rintro i x σ H' H'' hi ⟨rfl, y1, st, rfl, h1, h2⟩ ⟨rfl, ex⟩
          rw [List.length_map] at hi
          rw [List.getElem?_map, List.getElem?_eq_getElem hi] at ex
          have e1 : V.int cs[i] = x := Option.some.inj ex
          subst e1
          have fm := fmod_lt (st * 69621 + (cs[i]).fmod 2147483563 + 29) (m := 2147483647) (by decide)
          refine ⟨_, rfl, _, _, rfl, rfl, .inl ⟨by omega, by omega⟩, _, rfl, .inl ⟨_, rfl, _, _, rfl, rfl, by show (2147483563 : Int) ≠ 0; decide, _, _, rfl, rfl, _, _, rfl, rfl, .inl ⟨_, rfl, _, _, rfl, rfl, by show (2147483647 : Int) ≠ 0; decide, ?_⟩⟩⟩
          exact ⟨rfl, _, _, rfl, fm.1, fm.2⟩
        · rintro σ H' ⟨rfl, h⟩
          exact ⟨rfl, h⟩
      · rintro σ H' ⟨rfl, y1, st, rfl, h1, h2⟩
        refine ⟨_, rfl, D, rfl, ⟨_, .inl (.inl hD)⟩, fun B nB => ?_⟩
        have nDB : D ≠ B := ne_of_none hD nB
        refine lc_it (walk_list (K := K) (a := D) (xs := cs.map V.int)) (fun i H2 => Same H H2 ∧ H2 D = some (.lst (cs.map V.int)) ∧ ∃ ds : List Int, ds.length ≤ i ∧ H2 B = some (.lst (ds.map V.int))) ?_ ?_ ?_ ?_
        · exact ⟨sm.trans (FR.same_upd nB), by rw [upd_ne nDB]; exact hD, [], Nat.le_refl _, upd_same⟩
        · rintro i H2 _ ⟨_, g2, _⟩
          exact .inl (.inl g2)
        · rintro i x H2 H3 hi ⟨sm2, hD2, ds, el2, hB⟩ ⟨rfl, ex⟩
          rw [List.length_map] at hi
          rw [List.getElem?_map, List.getElem?_eq_getElem hi] at ex
          have e1 : V.int cs[i] = x := Option.some.inj ex
          subst e1
          refine ⟨rfl, _, rfl, _, _, rfl, rfl, ⟨by decide, by decide, by decide⟩, _, _, rfl, rfl, _, rfl, ite2 (fun e => ?_) (fun e => ?_)⟩
          · refine ⟨_, rfl, ds.map V.int, hB, ?_, HD.same_put sm2 (sm.free nB), ?_, ?_⟩
            · rw [List.length_map]
              exact small1000 (by omega)
            · rw [upd_ne nDB]
              exact hD2
            · refine ⟨ds ++ [cs[i]], by rw [List.length_append, List.length_cons, List.length_nil]; omega, ?_⟩
              rw [upd_same, List.map_append]
              rfl
          · exact ⟨sm2, hD2, ds, by omega, hB⟩
        · rintro H2 ⟨sm2, hD2, ds, el2, hB⟩
          rw [List.length_map] at el2
          refine ⟨B, _, rfl, .inl (.inl hB), fun q nq => ?_⟩
          refine ⟨_, rfl, by show 2 ≤ sizeLine; decide, fun p np => ?_⟩
          have npq : q ≠ p := ne_of_none upd_same np
          refine fin _ p q ⟨ds.reverse, st, upd_same, ?_, ?_, h1, h2⟩ ((sm2.trans (FR.same_upd nq)).trans (FR.same_upd np)) ((sm2.trans (FR.same_upd nq)).free np) (sm2.free nq)
          · rw [upd_ne npq, upd_same, List.map_reverse]
          · rw [List.length_reverse]
            omega
end
end K03
namespace CK
open PySem PySem.Spec PyProof.Rows L2 VG FR HD
/-- what is heard of an action: the word of its refusal, no word if it goes through -/
def THeard (C : Addr) : (XK → Hp → VK → Prop) → Hp → VK → Prop := fun tl H Q =>
  tl (fun cls d H' => cls = .ref C ∧ ∃ (dd : Addr) (w : Str), d = some dd ∧ H' dd = some (.xd [("word", .str w)]) ∧ Q (.str w) H') H (fun _ H' => Q (.str "") H')
theorem takes_len {X : Cx} {W : WX} (t : Takes X W) : Takes X (fun c d σ H => σ.length = X.N.length → W c d σ H) := fun u s' ⟨a, B, sI, pins, σ, H, cls, d, e, I, nb, up, sky, na, os, ag, w⟩ =>
  t u s' ⟨a, B, sI, pins, σ, H, cls, d, e, I, nb, up, sky, na, os, ag, w I.len⟩
theorem get_set_len {α : Type} {σ : List α} {n : Nat} {x : α} (h : σ.length = n) {i : Nat} (hi : i < n) : (σ.set i x)[i]? = some x := by
  rw [List.getElem?_set_self (by omega)]
end CK
namespace K03
open PySem PySem.Spec PyProof.Rows L2 VG FR CK HD
abbrev s__law_heard : Stmt := topS 42
abbrev N__law_heard : List Str := ["action", "error"]
theorem sc__law_heard : FnScope N__law_heard ["action"] (defScope s__law_heard) := ⟨rfl, rfl, rfl, by decide +kernel, rfl, by decide +kernel, by decide +kernel⟩
theorem heard_gives {X : Cx} {C Ct Ci g : Addr} {q : Str} {cdg : Value} (m_Refused : X.mg "Refused" = some (.ref C)) (m_TillError : X.mg "TillError" = some (.ref Ct)) (m_InvalidTable : X.mg "InvalidTable" = some (.ref Ci))
    (T_xf : XfC X.K C) (hno_word : PySem.W.findIn X.K (.ref C) "word" = some none) (te : PySem.W.exmOne X.K (.ref C) (.ref C) = some true) (exC : ExcC X.K C)
    (k1 : PySem.W.kitOne X.K (.ref C) (.ref Ct) = some true) (k2 : PySem.W.kitOne X.K (.ref C) (.ref Ci) = some false) (z_isinstance : X.mg "isinstance" = none) :
    LamX.GivesTo X N__law_heard "_law_heard" (defScope s__law_heard) g cdg (defBody s__law_heard) "action" q (THeard C) := by
  intro f c' s H Q tl act hc h
  refine ⟨_, (pss_cons (ps_try_as (X := (cxOf C8.CX0 X.prog X.w X.K X.mg X.base N__law_heard "_law_heard" (defScope s__law_heard) g cdg X.A X.stack s H C8.E0).nox) (i := 1) (c := .ref C)
      (tb := fun W D σ H => ∃ Ech : XK, (∀ cls d σ' H', Ech cls d H' → σ'.length = 2 → W cls d σ' H') ∧ σ[0]? = some (some (.ref f)) ∧ H c' = some (LamX.CodeO c' q) ∧ tl Ech H (fun _ H' => D.nx σ H'))
      rfl rfl sc__law_heard.nd rfl rfl ⟨rfl, by decide, .inl m_Refused⟩ takes0 (fun W pn xe tk _ => ?_)
      (fun a oe cls d pn hz hf => pss_one (ps_ret (pe_ifExp (PW.pt (pw_and
          (pt_val (pe_callB (show CallR _ (.builtin "isinstance") (rIsX X.K a cls d) from call_isX hz hf) (by rfl) z_isinstance (by decide +kernel) (pa_cons (pv 1) (pa_cons (pe_glob (v := .ref _) rfl m_TillError rfl) pa_nil))))
          (pw_and1 (pt_not (pt_val (pe_callB (show CallR _ (.builtin "isinstance") (rIsX X.K a cls d) from call_isX hz hf) (by rfl) z_isinstance (by decide +kernel) (pa_cons (pv 1) (pa_cons (pe_glob (v := .ref _) rfl m_InvalidTable rfl) pa_nil))))))))
        (pe_xf T_xf hno_word hz hf (pv 1)) pe_str))))
    (pss_one (ps_ret pe_str))), ?_⟩
  · refine ⟨fun pins s' σ H' D I h' => ?_⟩
    obtain ⟨Ech, hW, h1, h2, h3⟩ := h'
    exact PSs.run (pss_one (ps_expr (act _ pn xe Ech _ _ (takes_len tk) hW))) pins s' σ H' D I ⟨h1, h2, h3⟩
  · refine ⟨fun cls d H' => cls = .ref C ∧ ∃ (dd : Addr) (w : Str), d = some dd ∧ H' dd = some (.xd [("word", .str w)]) ∧ Q (.str w) H', fun cls d σ' H' hE hl => ?_, rfl, hc, h⟩
    obtain ⟨rfl, dd, w, rfl, hd, hq⟩ := hE
    refine ⟨true, te, fun _ x hx => ?_, fun z => nomatch z⟩
    have hg : ∀ v : Option V, (σ'.set 1 v)[1]? = some v := fun v => get_set_len hl (by decide)
    refine ⟨_, hg _, C, dd, _, _, _, true, rfl, rfl, hd, exC, rfl, fun u r => r, k1, true, rfl, iteT ?_⟩
    refine ⟨_, hg _, C, dd, _, _, _, false, rfl, rfl, hd, exC, rfl, fun u r => r, k2, false, rfl, iteT ?_⟩
    exact ⟨_, hg _, rfl, rfl, dd, _, _, rfl, hd, rfl, hq⟩
end K03
namespace VG
open PySem PySem.Spec PyProof.Rows L2
/-- a def's facts, its code object at c -/
structure FunC (K : PySem.W.Frag) (x qual : Str) (st : Stmt) (f : Addr) (fd : FuncData) (c : Addr) : Prop where
  it : ∃ (cl : Value) (dc ann : Option Addr) (kws dd md cts : Value) (sl : Array (Option Value)),
    fd = PySem.W.fnOf x qual (defArgs st) (defBody st) (defScope st) .none kws dd md ann (.ref c) cts ∧ K.lookup f = some ⟨cl, dc, .func fd, sl⟩ ∧ PySem.W.codeIn K (.ref c) qual = true
  keep : PySem.W.keepIn K (.ref f) = true
theorem funC_mk {K : PySem.W.Frag} {x qual : Str} {st : Stmt} {f c : Addr} {cl : Value} {dc ann : Option Addr} {sl : Array (Option Value)} {kws dd md cts : Value}
    (at1 : K.lookup f = some ⟨cl, dc, .func (PySem.W.fnOf x qual (defArgs st) (defBody st) (defScope st) .none kws dd md ann (.ref c) cts), sl⟩)
    (at2 : PySem.W.codeIn K (.ref c) qual = true) (at3 : PySem.W.keepIn K (.ref f) = true) : FunC K x qual st f (PySem.W.fnOf x qual (defArgs st) (defBody st) (defScope st) .none kws dd md ann (.ref c) cts) c :=
  ⟨⟨cl, dc, ann, kws, dd, md, cts, sl, rfl, at1, at2⟩, at3⟩
theorem FunC.fun {K : PySem.W.Frag} {x qual : Str} {st : Stmt} {f c : Addr} {fd : FuncData} (F : FunC K x qual st f fd c) : Fun K x qual st f fd := by
  obtain ⟨cl, dc, ann, kws, dd, md, cts, sl, e1, e2, e3⟩ := F.it
  exact ⟨⟨cl, dc, kws, dd, md, ann, .ref c, cts, sl, e1, e2, e3⟩, F.keep⟩
section
variable {P : Program} {w : World} {K : PySem.W.Frag} {mg : Str → Option Value} {base : Heap}
theorem fnGC_of {k : Nat} {f c : Addr} {x qual : Str} {st : Stmt} {fd : FuncData} {N ps : List Str} {sp : Sp} (F : FunC K x qual st f fd c) (S : FnScope N ps (defScope st))
    (many : ∀ vs H Q E, sp vs H Q E → vs.length = ps.length)
    (body : ∀ (A : Around) (outer : List Env) (s : Shared) (H : Hp) (vs : List V) (Q : VK) (E : XK), A.guards = some [] →
      Room k (A.deeper (envOfC qual (defScope st) s.heap.objs.size f (.ref c))) → sp vs H Q E →
      ∃ t, PSs (cxOf CX0 P w K mg base N qual (defScope st) f (.ref c) A outer s H E).nox (defBody st) t ∧ t { nx := fun _ G => Q .non G, rt := Q } (start N vs) H) :
    FnG P w K mg base (k + 1) f fd ps sp := by
  obtain ⟨cl, dc, ann, kws, dd, md, cts, sl, rfl, at1, at2⟩ := F.it
  refine ⟨many, ?_⟩
  intro A outer s H args us vs Q E gs room env0 binds vals told
  have len := many _ _ _ _ told
  have inS : K.In s.heap := env0.mod.kin.keeps fun b o e => (env0.bs b o e).1
  have noLimit : s.heap.NoLimit := env0.mod.nolimit.keeps fun b o e => (env0.bs b o e).1
  have own : ∀ y ∈ ps.zip us, (defScope st).names.lookup y.1 = some .local ∨
      ((defScope st).names.lookup y.1 = some .cell ∧ ((cellsFrom (s.heap.objs.size + 1) (defScope st).names []).lookup y.1).isSome = true) := by
    rintro ⟨n, u⟩ mem
    rcases S.par n (List.of_mem_zip mem).1 with isL | isC
    · exact .inl isL
    · exact .inr ⟨isC, PySem.W.cellsFrom_some _ _ _ (.inl isC)⟩
  apply codeAny_call_function room.depth (inS _ _ at1) rfl S.co S.gen rfl (PySem.W.codeRec_of inS at2) (binds _ _ _ _ _)
  apply wpAny_newFunctionEnv_cells S.kind own
  intro env same s1 made
  subst same
  refine ⟨noLimit.keeps made.toInCall.keep, codeAny_func ?_⟩
  obtain ⟨t, run, told2⟩ := body A outer s H vs Q E gs (room.deeper _) told
  have I := inv_start (CX := CX0) (P := P) (w := w) (E := E) S room.hd env0 len vals made
  refine wpAny_mono (run.nox.run [] s1 (start N vs) H _ I told2) (fun how s2 out => ?_) fun _ _ out => out
  cases how with
  | brk => obtain ⟨_, _, _, no⟩ := out; exact no.elim
  | cont => obtain ⟨_, _, _, no⟩ := out; exact no.elim
  | next => obtain ⟨σ2, G, J, q⟩ := out; exact ⟨.non, G, J.os, J.bare, J.base, J.hok, rfl, q⟩
  | ret u => obtain ⟨v, σ2, G, J, rv, q⟩ := out; exact ⟨v, G, J.os, J.bare, J.base, J.hok, rv, q⟩
end
/-- a heap without tables: what is told of it outlives the making of lambdas -/
def NoTbl (G : Hp) : Prop := ∀ b ps, G b ≠ some (.tbl ps)
theorem NoTbl.over {G H H' : Hp} (n : NoTbl G) (s : Same G H) (e : LamX.ExtN H H') : Same G H' := fun b o h =>
  e b o (s b o h) fun ps z => n b ps (by rw [h, z])
theorem tabs_same {T : List (Addr × Str)} {H H' : Hp} (t : LamX.Tabs T H) (s : Same H H') : LamX.Tabs T H' := t.ext s
/-- a heap but for its tables -/
noncomputable def offT (H : Hp) : Hp := fun b => match H b with
  | some (.tbl _) => none
  | o => o
theorem offT_no (H : Hp) : NoTbl (offT H) := fun b ps h => by
  unfold offT at h
  split at h
  · cases h
  · rename_i n
    exact n ps h
theorem offT_same (H : Hp) : Same (offT H) H := fun b o h => by
  unfold offT at h
  split at h
  · cases h
  · exact h
end VG
namespace CK
open PySem PySem.Spec PyProof.Rows L2 VG FR HD
mutual
inductive Ov (K : PySem.W.Frag) (H : Hp) : V → PyData → Prop
  | non : Ov K H .non .none
  | bl (b : Bool) : Ov K H (.bl b) (.bool b)
  | int (i : Int) : Ov K H (.int i) (.int i)
  | str (x : Str) : Ov K H (.str x) (.str x)
  | dct {a : Addr} : H a = some (.dK []) → Ov K H (.ref a) (.dict [])
  | lst {a : Addr} {xs : List V} {ds : List PyData} : H a = some (.lst xs) → OvAll K H xs ds → Ov K H (.ref a) (.list ds)
  | tup {a : Addr} {xs : List V} {ds : List PyData} : SqT K H a xs → OvAll K H xs ds → Ov K H (.ref a) (.tuple ds)
inductive OvAll (K : PySem.W.Frag) (H : Hp) : List V → List PyData → Prop
  | nil : OvAll K H [] []
  | cons {v : V} {vs : List V} {d : PyData} {ds : List PyData} : Ov K H v d → OvAll K H vs ds → OvAll K H (v :: vs) (d :: ds)
end
mutual
theorem Ov.mono {K : PySem.W.Frag} {H H' : Hp} (e : Same H H') : ∀ {v : V} {d : PyData}, Ov K H v d → Ov K H' v d
  | _, _, .non => .non
  | _, _, .bl b => .bl b
  | _, _, .int i => .int i
  | _, _, .str x => .str x
  | _, _, .dct h => .dct (e _ _ h)
  | _, _, .lst h r => .lst (e _ _ h) (OvAll.mono e r)
  | _, _, .tup h r => .tup (seqT e h) (OvAll.mono e r)
theorem OvAll.mono {K : PySem.W.Frag} {H H' : Hp} (e : Same H H') : ∀ {vs : List V} {ds : List PyData}, OvAll K H vs ds → OvAll K H' vs ds
  | _, _, .nil => .nil
  | _, _, .cons h r => .cons (Ov.mono e h) (OvAll.mono e r)
end
theorem OvAll.len {K : PySem.W.Frag} {H : Hp} : ∀ {vs : List V} {ds : List PyData}, OvAll K H vs ds → vs.length = ds.length
  | _, _, .nil => rfl
  | _, _, .cons _ r => by rw [List.length_cons, List.length_cons, r.len]
theorem OvAll.get {K : PySem.W.Frag} {H : Hp} : ∀ {xs : List V} {ds : List PyData} {i : Nat} {x : V}, OvAll K H xs ds → xs[i]? = some x → ∃ d, ds[i]? = some d ∧ Ov K H x d
  | _, _, _, _, .nil, e => by simp at e
  | _, _, 0, _, .cons h _, e => by
    have e1 := Option.some.inj e
    subst e1
    exact ⟨_, rfl, h⟩
  | _, _, i + 1, _, .cons _ r, e => r.get (i := i) e
theorem Ov.ints {K : PySem.W.Frag} {H : Hp} {a : Addr} {cs : List Int} (h : SqT K H a (cs.map V.int)) : Ov K H (.ref a) (.tuple (cs.map PyData.int)) := by
  refine .tup h ?_
  clear h
  induction cs with
  | nil => exact .nil
  | cons c r ih => exact .cons (.int c) ih
theorem Ov.strs {K : PySem.W.Frag} {H : Hp} {a : Addr} {ks : List Str} (h : SqT K H a (ks.map V.str)) : Ov K H (.ref a) (.tuple (ks.map PyData.str)) := by
  refine .tup h ?_
  clear h
  induction ks with
  | nil => exact .nil
  | cons c r ih => exact .cons (.str c) ih
theorem kDI : kitB "dict" "int" = some false := by decide +kernel
theorem kDB : kitB "dict" "bool" = some false := by decide +kernel
theorem kDS : kitB "dict" "str" = some false := by decide +kernel
theorem Ov.part {K : PySem.W.Frag} {H : Hp} {v : V} {d : PyData} (h : Ov K H v d) : Part K H v (intO d) := by
  cases h with
  | non => exact .inr ⟨rfl, "NoneType", false, false, .base .non, kitN1, kitN2, rfl⟩
  | bl b => exact part_bl b
  | int i => exact .inl ⟨i, rfl, rfl⟩
  | str x => exact .inr ⟨rfl, "str", false, false, .base (.str _), kitS1, kitS2, rfl⟩
  | dct h => exact .inr ⟨rfl, "dict", false, false, .base (.dK h), kDI, kDB, rfl⟩
  | lst h r => exact .inr ⟨rfl, "list", false, false, .base (.lst h), kLI, kLB, rfl⟩
  | tup h r => exact part_tup h
theorem Ov.noTup {K : PySem.W.Frag} {H : Hp} {v : V} {d : PyData} (h : Ov K H v d) (n : isTupD d = false) : ∃ ty : String, TyX K H v (.type ty) ∧ kitB ty "tuple" = some false := by
  cases h with
  | non => exact ⟨"NoneType", .base .non, kNT⟩
  | bl b => exact ⟨"bool", .base (.bl b), kBT⟩
  | int i => exact ⟨"int", .base (.int i), kIT⟩
  | str x => exact ⟨"str", .base (.str x), kST⟩
  | dct h => exact ⟨"dict", .base (.dK h), kDT⟩
  | lst h r => exact ⟨"list", .base (.lst h), kLT⟩
  | tup h r => cases n
theorem Ov.isS {K : PySem.W.Frag} {H : Hp} {v : V} {d : PyData} (h : Ov K H v d) : ∃ ty : String, TyX K H v (.type ty) ∧ kitB ty "str" = some (isStrD d) := by
  cases h with
  | non => exact ⟨"NoneType", .base .non, kNS⟩
  | bl b => exact ⟨"bool", .base (.bl b), kBS⟩
  | int i => exact ⟨"int", .base (.int i), kIS⟩
  | str x => exact ⟨"str", .base (.str x), kSS⟩
  | dct h => exact ⟨"dict", .base (.dK h), kDS⟩
  | lst h r => exact ⟨"list", .base (.lst h), kLS⟩
  | tup h r => exact ⟨"tuple", tyT h, kTS⟩
theorem Ov.isT {K : PySem.W.Frag} {H : Hp} {v : V} {ds : List PyData} (h : Ov K H v (.tuple ds)) : ∃ a xs, v = .ref a ∧ SqT K H a xs ∧ OvAll K H xs ds := by
  cases h with
  | tup h r => exact ⟨_, _, rfl, h, r⟩
/-- numbers below n -/
def numsBD (n : Int) : PyData → Bool
  | .tuple ds => ds.all fun d => belowO n (intO d)
  | _ => false
/-- each less than the next -/
def ascB (cs : List Int) : Bool := (cs.zip (cs.drop 1)).all fun p => decide (p.1 < p.2)
def intsD : PyData → List Int
  | .tuple ds => ds.map fun d => (intO d).getD 0
  | _ => []
def lotD (n : Int) (d : PyData) : Bool := numsBD n d && ascB (intsD d)
def nameB (z : Str) : Bool := decide (1 ≤ z.length ∧ z.length ≤ 6) && z.cps.toList.all fun c => decide (c ∈ cLETTERS.cps.toList)
def nameD : PyData → Bool
  | .str z => nameB z
  | _ => false
def namesD : PyData → Bool
  | .tuple ds => ds.all nameD
  | _ => false
def spNumsA (K : PySem.W.Frag) : Sp := fun vs H Q _ => ∃ (v : V) (d : PyData) (n : Int), vs = [v, .int n] ∧ Ov K H v d ∧ shortD d ∧ ∀ H', Same H H' → Q (.bl (numsBD n d)) H'
def spAscA (K : PySem.W.Frag) : Sp := fun vs H Q _ => ∃ (t : Addr) (cs : List Int), vs = [.ref t] ∧ SqT K H t (cs.map V.int) ∧ cs.length ≤ 1000 ∧ ∀ H', Same H H' → Q (.bl (ascB cs)) H'
def spLotA (K : PySem.W.Frag) : Sp := fun vs H Q _ => ∃ (v : V) (d : PyData) (n : Int), vs = [v, .int n] ∧ Ov K H v d ∧ shortD d ∧ ∀ H', Same H H' → Q (.bl (lotD n d)) H'
theorem nums_ints {K : PySem.W.Frag} {H : Hp} {n : Int} : ∀ {xs : List V} {ds : List PyData}, OvAll K H xs ds → (ds.all fun d => belowO n (intO d)) = true → xs = (intsD (.tuple ds)).map V.int
  | _, _, .nil, _ => rfl
  | _, _, .cons h r, e => by
    rw [List.all_cons, Bool.and_eq_true] at e
    cases h with
    | int i => exact congrArg (V.int i :: ·) (nums_ints r e.2)
    | _ => cases e.1
end CK
namespace K03
open PySem PySem.Spec PyProof.Rows L2 VG FR CK HD
section
variable {P : Program} {w : World} {K : PySem.W.Frag} {mg : Str → Option Value} {base : Heap}
theorem ok_is_numberA {f : Addr} {fd : FuncData} (F : Fun K "is_number" "is_number" s_is_number f fd) (C_is_an_integer : Cl P w K mg base 1 "is_an_integer" (spInt K)) : FnOk P w K mg base CX0 2 f fd ["value"] (spNumA K) := by
  refine F.ok sc_is_number (fun vs H Q E h => ?_) (fun cdv A outer s H vs Q E hr h => ?_)
  · obtain ⟨_, _, rfl, _⟩ := h
    rfl
  · obtain ⟨v, o, rfl, hp, q⟩ := h
    refine ⟨_, (pss_one (ps_ret (pe_and (pe_cl C_is_an_integer hr (by decide) rfl (pa_cons (pv 0) pa_nil)) (pe_one (pe_cmpR op_ge (pv 0) pe_int (nomark _)))))), ?_⟩
    refine ⟨_, rfl, v, o, rfl, hp, o.isSome, rfl, ?_⟩
    cases o with
    | none => exact iteF q
    | some a =>
      rcases hp with ⟨b, rfl, e⟩ | ⟨e, _⟩
      · have e := Option.some.inj e
        subst e
        exact iteT ⟨_, rfl, _, _, rfl, rfl, q⟩
      · cases e
theorem ok_is_number_belowA {f : Addr} {fd : FuncData} (F : Fun K "is_number_below" "is_number_below" s_is_number_below f fd) (C_is_number : Cl P w K mg base 2 "is_number" (spNumA K)) : FnOk P w K mg base CX0 3 f fd ["value", "many"] (spBelowA K) := by
  refine F.ok sc_is_number_below (fun vs H Q E h => ?_) (fun cdv A outer s H vs Q E hr h => ?_)
  · obtain ⟨_, _, _, rfl, _⟩ := h
    rfl
  · obtain ⟨v, o, n, rfl, hp, q⟩ := h
    refine ⟨_, (pss_one (ps_ret (pe_and (pe_cl C_is_number hr (by decide) rfl (pa_cons (pv 0) pa_nil)) (pe_one (pe_cmpR op_lt (pv 0) (pv 1) (nomark _)))))), ?_⟩
    refine ⟨_, rfl, v, o, rfl, hp, numO o, rfl, ?_⟩
    cases o with
    | none => exact iteF q
    | some a =>
      rcases hp with ⟨b, rfl, e⟩ | ⟨e, _⟩
      · have e := Option.some.inj e
        subst e
        show if decide (0 ≤ a) = true then _ else _
        by_cases ha : 0 ≤ a
        · rw [decide_eq_true ha]
          refine iteT ⟨_, rfl, _, rfl, _, _, rfl, rfl, ?_⟩
          have e2 : decide (a < n) = decide (0 ≤ a ∧ a < n) := decide_eq_decide.mpr ⟨fun z => ⟨ha, z⟩, fun z => z.2⟩
          show Q (.bl (decide (a < n))) H
          rw [e2]
          exact q
        · rw [decide_eq_false ha]
          have e1 : belowO n (some a) = false := decide_eq_false (fun z => ha z.1)
          rw [e1] at q
          exact iteF q
      · cases e
theorem ok_are_numbers_belowA {f : Addr} {fd : FuncData} (F : Fun K "are_numbers_below" "are_numbers_below" s_are_numbers_below f fd) (C_is_number_below : Cl P w K mg base 3 "is_number_below" (spBelowA K)) (z_isinstance : mg "isinstance" = none) (z_tuple : mg "tuple" = none) (z_all : mg "all" = none) :
    FnOk P w K mg base CX0 4 f fd ["value", "many"] (spNumsA K) := by
  refine F.ok sc_are_numbers_below (fun vs H Q E h => ?_) (fun cdv A outer s H vs Q E hr h => ?_)
  · obtain ⟨_, _, _, rfl, _⟩ := h
    rfl
  · obtain ⟨v, d, n, rfl, hd, sh, fin⟩ := h
    refine ⟨_, (pss_one (ps_ret (pe_and (pe_callB call_isi (by rfl) z_isinstance (by decide +kernel) (pa_cons (pv 0) (pa_cons (pe_bltn (v := .ty "tuple") (by rfl) z_tuple (by decide +kernel) rfl) pa_nil))) (pe_one (pe_callB (cr_all rfl) (by rfl) z_all (by decide +kernel) (pa_cons (pe_lc (own := [("item", 2)]) (by rfl) sc_are_numbers_below.nd (pi_tup (pv 0)) (blkOk_by (own := [("item", 2)]) (N := N_are_numbers_below) (sc := defScope s_are_numbers_below) (by decide +kernel)) (fun _ _ _ _ _ => (pg_name (i := 2) sc_are_numbers_below.nd rfl (.inl rfl))) (fun _ _ _ _ _ => pts_nil) (fun _ _ _ _ _ => (pe_cl C_is_number_below hr (by decide) rfl (pa_cons (pv 2) (pa_cons (pv 1) pa_nil))))) pa_nil)))))), ?_⟩
    cases hT : isTupD d with
    | false =>
      obtain ⟨ty, T, k⟩ := hd.noTup hT
      have q := fin H (Same.refl _)
      have e : numsBD n d = false := by
        cases d with
        | tuple ds => cases hT
        | _ => rfl
      rw [e] at q
      exact ⟨_, rfl, _, _, _, _, false, rfl, .ty "tuple", T, kit_ty k, false, rfl, iteF q⟩
    | true =>
      cases d with
      | tuple ds =>
        obtain ⟨p, xs, rfl, hS, hA⟩ := hd.isT
        have lx := hA.len
        have sh : ds.length ≤ 1000 := sh
        refine ⟨_, rfl, _, _, _, _, true, rfl, .ty "tuple", tyT hS, kit_ty (by decide +kernel), true, rfl, iteT ?_⟩
        refine ⟨_, rfl, p, rfl, ⟨_, hS⟩, fun D nD => ?_⟩
        refine lc_it (walk_tup (K := K) (a := p) (xs := xs)) (fun i H' => Same H H' ∧ H' D = some (.lst (((ds.take i).map fun d => belowO n (intO d)).map V.bl))) ⟨same_upd nD, upd_same⟩ (fun i H' _ h => seqT h.1 hS) ?_ ?_
        · rintro i x H1 H2 hi ⟨sm, hD⟩ ⟨rfl, ex⟩
          obtain ⟨d, ed, hx⟩ := hA.get ex
          have il : i < ds.length := (List.getElem?_eq_some_iff.mp ed).1
          refine ⟨rfl, _, rfl, _, rfl, x, intO d, n, rfl, (hx.mono sm).part, _, hD, ?_, HD.same_put sm nD, ?_⟩
          · rw [List.length_map, List.length_map, List.length_take]
            have : sizeLine = 16777216 := by decide
            omega
          · rw [upd_same, List.take_add_one, ed, List.map_append, List.map_append]
            rfl
        · rintro H1 ⟨sm, hD⟩
          rw [lx, List.take_length] at hD
          refine ⟨D, _, rfl, .inl (.inl hD), ?_⟩
          have e : (ds.map fun d => belowO n (intO d)).all id = numsBD n (.tuple ds) := by
            rw [List.all_map]
            rfl
          rw [e]
          exact fin H1 sm
      | _ => cases hT
theorem ok_is_ascendingA {f : Addr} {fd : FuncData} (F : Fun K "is_ascending" "is_ascending" s_is_ascending f fd) (z_all : mg "all" = none) (z_zip : mg "zip" = none) : FnOk P w K mg base CX0 1 f fd ["some"] (spAscA K) := by
  refine F.ok sc_is_ascending (fun vs H Q E h => ?_) (fun cdv A outer s H vs Q E hr h => ?_)
  · obtain ⟨_, _, rfl, _⟩ := h
    rfl
  · obtain ⟨t, cs, rfl, hS, hl, fin⟩ := h
    refine ⟨_, (pss_one (ps_ret (pe_callB (cr_all rfl) (by rfl) z_all (by decide +kernel) (pa_cons (pe_lc (own := [("one", 1), ("other", 2)]) (by rfl) sc_is_ascending.nd (RZ.pi_zipA (by rfl) z_zip (pa_cons (pv 0) (pa_cons (pe_meet (pe_slice sl_tupA (pv 0) (po_some pe_int) po_none)) pa_nil))) (blkOk_by (own := [("one", 1), ("other", 2)]) (N := N_is_ascending) (sc := defScope s_is_ascending) (by decide +kernel)) (fun _ _ _ _ _ => (show PG _ _ (gTup K 2 _) from pg_tup rfl (pgs_cons (pg_name (i := 1) sc_is_ascending.nd rfl (.inl rfl)) (pgs_cons (pg_name (i := 2) sc_is_ascending.nd rfl (.inl rfl)) pgs_nil)))) (fun _ _ _ _ _ => pts_nil) (fun _ _ _ _ _ => (pe_cmpR (op_lt.or op_lt_str) (pv 1) (pv 2) (nomark _)))) pa_nil)))), ?_⟩
    refine ⟨_, rfl, fun v H' => ∃ u, v = .ref u ∧ Same H H' ∧ SqT K H' u ((cs.drop 1).map V.int), ?_, ?_⟩
    · refine ⟨_, rfl, 1, rfl, ?_⟩
      refine ⟨t, cs.map V.int, rfl, hS, fun z => ?_, fun z u nu => ?_⟩
      · have e : HT.sIx (cs.map V.int).length 0 (some 1) = min 1 (cs.map V.int).length := HT.sIx_nat _ 0 1
        have e0 : (cs.map V.int).length = 0 := by
          have := z.1
          rw [e] at this
          omega
        rw [List.length_map] at e0
        have x0 : cs = [] := List.eq_nil_of_length_eq_zero e0
        subst x0
        exact ⟨t, rfl, Same.refl _, hS⟩
      · refine ⟨u, rfl, same_upd nu, ?_⟩
        have h := sqt (K := K) (upd_same (H := H) (a := u) (o := .tup (cutV (cs.map V.int) (some 1) none)))
        rw [cut1] at h ⊢
        rw [List.map_drop]
        exact h
    rintro v H1 ⟨u, rfl, sm1, hU⟩
    have hS1 := seqT sm1 hS
    refine ⟨t, u, cs.map V.int, (cs.drop 1).map V.int, rfl, .inr ⟨hS1, hU, fun D nD => ?_⟩⟩
    refine lc_it (walk_zipT (K := K) (a := t) (b := u) (xs := cs.map V.int) (ys := (cs.drop 1).map V.int) (n := cs.length - 1) (by rw [List.length_map, List.length_map, List.length_drop]; omega)) (fun i H' => Same H1 H' ∧ H' D = some (.lst ((((cs.zip (cs.drop 1)).take i).map fun p => decide (p.1 < p.2)).map V.bl))) ⟨same_upd nD, upd_same⟩ (fun i H' _ h => ⟨seqT h.1 hS1, seqT h.1 hU⟩) ?_ ?_
    · rintro i v H2 H3 hi ⟨sm, hD⟩ ⟨T, x, y, rfl, nT, rfl, ex, ey⟩
      have ex : (cs.map V.int)[i]? = some x := ex
      have ey : ((cs.drop 1).map V.int)[i]? = some y := ey
      rw [List.getElem?_map] at ex ey
      obtain ⟨a, ea, rfl⟩ := Option.map_eq_some_iff.mp ex
      obtain ⟨b, eb, rfl⟩ := Option.map_eq_some_iff.mp ey
      have sT := same_upd (o := .tup [V.int a, V.int b]) nT
      refine ⟨T, _, rfl, .inl (.inl upd_same), rfl, _, _, rfl, _, _, rfl, rfl, rfl, _, rfl, _, rfl, ?_⟩
      have il : i < cs.length := (List.getElem?_eq_some_iff.mp ea).1
      refine .inl ⟨_, _, rfl, rfl, _, sT _ _ hD, ?_, HD.same_put (sm.trans sT) nD, ?_⟩
      · rw [List.length_map, List.length_map, List.length_take]
        have : sizeLine = 16777216 := by decide
        omega
      · have ez : (cs.zip (cs.drop 1))[i]? = some (a, b) := List.getElem?_zip_eq_some.mpr ⟨ea, eb⟩
        rw [upd_same, List.take_add_one, ez, List.map_append, List.map_append]
        rfl
    · rintro H2 ⟨sm, hD⟩
      have lz : (cs.zip (cs.drop 1)).length = cs.length - 1 := by rw [List.length_zip, List.length_drop]; omega
      rw [← lz, List.take_length] at hD
      refine ⟨D, _, rfl, .inl (.inl hD), ?_⟩
      have e : ((cs.zip (cs.drop 1)).map fun p => decide (p.1 < p.2)).all id = ascB cs := by
        rw [List.all_map]
        rfl
      rw [e]
      exact fin H2 (sm1.trans sm)
theorem ok_is_lot_belowA {f : Addr} {fd : FuncData} (F : Fun K "is_lot_below" "is_lot_below" s_is_lot_below f fd) (C_are_numbers_below : Cl P w K mg base 4 "are_numbers_below" (spNumsA K)) (C_is_ascending : Cl P w K mg base 1 "is_ascending" (spAscA K)) :
    FnOk P w K mg base CX0 5 f fd ["value", "many"] (spLotA K) := by
  refine F.ok sc_is_lot_below (fun vs H Q E h => ?_) (fun cdv A outer s H vs Q E hr h => ?_)
  · obtain ⟨_, _, _, rfl, _⟩ := h
    rfl
  · obtain ⟨v, d, n, rfl, hd, sh, fin⟩ := h
    refine ⟨_, (pss_one (ps_ret (pe_and (pe_cl C_are_numbers_below hr (by decide) rfl (pa_cons (pv 0) (pa_cons (pv 1) pa_nil))) (pe_one (pe_cl C_is_ascending hr (by decide) rfl (pa_cons (pv 0) pa_nil)))))), ?_⟩
    refine ⟨_, rfl, _, rfl, v, d, n, rfl, hd, sh, fun H1 sm => ⟨numsBD n d, rfl, ?_⟩⟩
    cases e : numsBD n d with
    | false =>
      refine iteF ?_
      have q := fin H1 sm
      unfold lotD at q
      rw [e] at q
      exact q
    | true =>
      refine iteT ?_
      cases d with
      | tuple ds =>
        obtain ⟨p, xs, rfl, hS, hA⟩ := hd.isT
        have ei := nums_ints hA e
        have sh : ds.length ≤ 1000 := sh
        rw [ei] at hS
        refine ⟨_, rfl, p, intsD (.tuple ds), rfl, seqT sm hS, ?_, fun H2 s2 => ?_⟩
        · show (ds.map _).length ≤ 1000
          rw [List.length_map]
          exact sh
        · have q := fin H2 (sm.trans s2)
          unfold lotD at q
          rw [e] at q
          exact q
      | _ => cases e
end
end K03
namespace CK
open PySem PySem.Spec PyProof.Rows L2 VG FR HD
def shortS : PyData → Prop
  | .str z => z.length ≤ 1000
  | _ => True
def tupD (n : Nat) : PyData → Bool
  | .tuple ds => decide (ds.length = n)
  | _ => false
def spNameA (K : PySem.W.Frag) : Sp := fun vs H Q _ => ∃ (v : V) (d : PyData), vs = [v] ∧ Ov K H v d ∧ shortS d ∧ ∀ H', Same H H' → Q (.bl (nameD d)) H'
def spNamesA (K : PySem.W.Frag) : Sp := fun vs H Q _ => ∃ (v : V) (d : PyData), vs = [v] ∧ Ov K H v d ∧ shortD d ∧ (∀ ds, d = .tuple ds → ∀ x ∈ ds, shortS x) ∧ ∀ H', Same H H' → Q (.bl (namesD d)) H'
def spTupA (K : PySem.W.Frag) : Sp := fun vs H Q _ => ∃ (v : V) (d : PyData) (n : Nat), vs = [v, .int n] ∧ Ov K H v d ∧ Q (.bl (tupD n d)) H
end CK
namespace K03
open PySem PySem.Spec PyProof.Rows L2 VG FR CK HD
section
variable {P : Program} {w : World} {K : PySem.W.Frag} {mg : Str → Option Value} {base : Heap}
theorem ok_is_nameA {f : Addr} {fd : FuncData} {tk : Tok} (F : Fun K "is_name" "is_name" s_is_name f fd) (m_LETTERS : ∃ u, mg "LETTERS" = some (.str cLETTERS u)) (m_LONGEST_NAME : mg "LONGEST_NAME" = some (.int 6 tk))
    (z_isinstance : mg "isinstance" = none) (z_str : mg "str" = none) (z_len : mg "len" = none) (z_all : mg "all" = none) : FnOk P w K mg base CX0 1 f fd ["value"] (spNameA K) := by
  refine F.ok sc_is_name (fun vs H Q E h => ?_) (fun cdv A outer s H vs Q E hr h => ?_)
  · obtain ⟨_, _, rfl, _⟩ := h
    rfl
  · obtain ⟨v, d, rfl, hd, sh, fin⟩ := h
    refine ⟨_, (pss_cons (ps_if (PW.pt (pw_or (pt_not (pt_val (pe_callB call_isi (by rfl) z_isinstance (by decide +kernel) (pa_cons (pv 0) (pa_cons (pe_bltn (v := .ty "str") (by rfl) z_str (by decide +kernel) rfl) pa_nil))))) (pw_or1 (pt_not (pt_chain op_le op_le pe_int (pe_callB call_len_str (by rfl) z_len (by decide +kernel) (pa_cons (pv 0) pa_nil)) (pe_glob (v := .int 6) rfl m_LONGEST_NAME ⟨_, rfl⟩))))))
      (pss_one (ps_ret pe_bl))
      pss_nil)
    (pss_one (ps_ret (pe_callB (cr_all rfl) (by rfl) z_all (by decide +kernel) (pa_cons (pe_lc (own := [("letter", 1)]) (by rfl) sc_is_name.nd (pi_str (pv 0)) (blkOk_by (own := [("letter", 1)]) (N := N_is_name) (sc := defScope s_is_name) (by decide +kernel)) (fun _ _ _ _ _ => (pg_name (i := 1) sc_is_name.nd rfl (.inl rfl))) (fun _ _ _ _ _ => pts_nil) (fun _ _ _ _ _ => (pe_cmpR op_in_sign (pv 1) (pe_gs rfl m_LETTERS) rfl))) pa_nil))))), ?_⟩
    cases hT : isStrD d with
    | false =>
      obtain ⟨ty, T, k⟩ := hd.isS
      rw [hT] at k
      have q := fin H (Same.refl _)
      have e : nameD d = false := by
        cases d with
        | str z => cases hT
        | _ => rfl
      rw [e] at q
      exact ⟨_, rfl, _, _, _, _, false, rfl, .ty "str", T, kit_ty k, false, rfl, iteT q⟩
    | true =>
      cases d with
      | str z =>
        have sh : z.length ≤ 1000 := sh
        cases hd with
        | str _ =>
        refine ⟨_, rfl, _, _, _, _, true, rfl, .ty "str", .base (.str z), kit_ty (by decide +kernel), true, rfl, iteF ?_⟩
        have zl : z.length = z.cps.size := rfl
        have big : sizeLine = 16777216 := by decide
        have q0 : nameB z = false → Q (.bl false) H := fun e => by
          have q := fin H (Same.refl _)
          rw [show nameD (.str z) = nameB z from rfl, e] at q
          exact q
        refine ⟨_, rfl, z, rfl, by omega, _, _, rfl, rfl, _, rfl, ?_⟩
        by_cases h1 : 1 ≤ z.length
        · refine ite_eq true (decide_eq_true (by show (1 : Int) ≤ (z.length : Nat); omega)) (iteT ?_)
          refine ⟨_, _, rfl, rfl, _, rfl, ?_⟩
          by_cases h6 : z.length ≤ 6
          · refine ite_eq false ?_ (iteF ?_)
            · have e : decide (((z.length : Nat) : Int) ≤ 6) = true := decide_eq_true (by omega)
              rw [e]
              rfl
            refine ⟨_, rfl, z, rfl, fun D nD => ?_⟩
            refine lc_it (walk_str (z := z)) (fun i H' => Same H H' ∧ H' D = some (.lst (((z.cps.toList.take i).map fun c => decide (c ∈ cLETTERS.cps.toList)).map V.bl))) ⟨same_upd nD, upd_same⟩ (fun _ _ _ _ => trivial) ?_ ?_
            · rintro i v H2 H3 hi ⟨sm, hD⟩ ⟨e2, c, ec, rfl⟩
              subst e2
              have ec2 : z.cps.toList[i]? = some c := by rw [Array.getElem?_toList]; exact ec
              refine ⟨rfl, _, rfl, c, _, rfl, rfl, _, hD, ?_, HD.same_put sm nD, ?_⟩
              · rw [List.length_map, List.length_map, List.length_take]
                omega
              · rw [upd_same, List.take_add_one, ec2, List.map_append, List.map_append]
                rfl
            · rintro H2 ⟨sm, hD⟩
              have ez : z.cps.size = z.cps.toList.length := rfl
              have e3 : z.cps.toList.take z.cps.size = z.cps.toList := by rw [ez, List.take_length]
              have hD : H2 D = some (.lst (((z.cps.toList.take z.cps.size).map fun c => decide (c ∈ cLETTERS.cps.toList)).map V.bl)) := hD
              rw [e3] at hD
              refine ⟨D, _, rfl, .inl (.inl hD), ?_⟩
              have e : (z.cps.toList.map fun c => decide (c ∈ cLETTERS.cps.toList)).all id = nameD (.str z) := by
                rw [List.all_map]
                show _ = nameB z
                unfold nameB
                rw [decide_eq_true (⟨h1, h6⟩ : 1 ≤ z.length ∧ z.length ≤ 6)]
                rfl
              rw [e]
              exact fin H2 sm
          · refine ite_eq true ?_ (iteT (q0 ?_))
            · have e : decide (((z.length : Nat) : Int) ≤ 6) = false := decide_eq_false (by omega)
              rw [e]
              rfl
            · unfold nameB
              rw [decide_eq_false (fun (y : 1 ≤ z.length ∧ z.length ≤ 6) => h6 y.2)]
              rfl
        · refine ite_eq false (decide_eq_false (by show ¬ (1 : Int) ≤ (z.length : Nat); omega)) (iteF ?_)
          have qz := q0 (by
            unfold nameB
            rw [decide_eq_false (fun (y : 1 ≤ z.length ∧ z.length ≤ 6) => h1 y.1)]
            rfl)
          exact ⟨false, rfl, iteT qz⟩
      | _ => cases hT
theorem ok_are_namesA {f : Addr} {fd : FuncData} (F : Fun K "are_names" "are_names" s_are_names f fd) (C_is_name : Cl P w K mg base 1 "is_name" (spNameA K)) (z_isinstance : mg "isinstance" = none) (z_tuple : mg "tuple" = none) (z_all : mg "all" = none) :
    FnOk P w K mg base CX0 2 f fd ["value"] (spNamesA K) := by
  refine F.ok sc_are_names (fun vs H Q E h => ?_) (fun cdv A outer s H vs Q E hr h => ?_)
  · obtain ⟨_, _, rfl, _⟩ := h
    rfl
  · obtain ⟨v, d, rfl, hd, sh, sz, fin⟩ := h
    refine ⟨_, (pss_one (ps_ret (pe_and (pe_callB call_isi (by rfl) z_isinstance (by decide +kernel) (pa_cons (pv 0) (pa_cons (pe_bltn (v := .ty "tuple") (by rfl) z_tuple (by decide +kernel) rfl) pa_nil))) (pe_one (pe_callB (cr_all rfl) (by rfl) z_all (by decide +kernel) (pa_cons (pe_lc (own := [("item", 1)]) (by rfl) sc_are_names.nd (pi_tup (pv 0)) (blkOk_by (own := [("item", 1)]) (N := N_are_names) (sc := defScope s_are_names) (by decide +kernel)) (fun _ _ _ _ _ => (pg_name (i := 1) sc_are_names.nd rfl (.inl rfl))) (fun _ _ _ _ _ => pts_nil) (fun _ _ _ _ _ => (pe_cl C_is_name hr (by decide) rfl (pa_cons (pv 1) pa_nil)))) pa_nil)))))), ?_⟩
    cases hT : isTupD d with
    | false =>
      obtain ⟨ty, T, k⟩ := hd.noTup hT
      have q := fin H (Same.refl _)
      have e : namesD d = false := by
        cases d with
        | tuple ds => cases hT
        | _ => rfl
      rw [e] at q
      exact ⟨_, rfl, _, _, _, _, false, rfl, .ty "tuple", T, kit_ty k, false, rfl, iteF q⟩
    | true =>
      cases d with
      | tuple ds =>
        obtain ⟨p, xs, rfl, hS, hA⟩ := hd.isT
        have lx := hA.len
        have sh : ds.length ≤ 1000 := sh
        refine ⟨_, rfl, _, _, _, _, true, rfl, .ty "tuple", tyT hS, kit_ty (by decide +kernel), true, rfl, iteT ?_⟩
        refine ⟨_, rfl, p, rfl, ⟨_, hS⟩, fun D nD => ?_⟩
        refine lc_it (walk_tup (K := K) (a := p) (xs := xs)) (fun i H' => Same H H' ∧ H' D = some (.lst (((ds.take i).map nameD).map V.bl))) ⟨same_upd nD, upd_same⟩ (fun i H' _ h => seqT h.1 hS) ?_ ?_
        · rintro i x H1 H2 hi ⟨sm, hD⟩ ⟨rfl, ex⟩
          obtain ⟨d, ed, hx⟩ := hA.get ex
          have il : i < ds.length := (List.getElem?_eq_some_iff.mp ed).1
          refine ⟨rfl, _, rfl, x, d, rfl, hx.mono sm, sz ds rfl d (List.mem_of_getElem? ed), fun H3 s3 => ?_⟩
          have sm3 := sm.trans s3
          refine ⟨_, s3 _ _ hD, ?_, HD.same_put sm3 nD, ?_⟩
          · rw [List.length_map, List.length_map, List.length_take]
            have : sizeLine = 16777216 := by decide
            omega
          · rw [upd_same, List.take_add_one, ed, List.map_append, List.map_append]
            rfl
        · rintro H1 ⟨sm, hD⟩
          rw [lx, List.take_length] at hD
          refine ⟨D, _, rfl, .inl (.inl hD), ?_⟩
          have e : (ds.map nameD).all id = namesD (.tuple ds) := by
            rw [List.all_map]
            rfl
          rw [e]
          exact fin H1 sm
      | _ => cases hT
theorem ok_is_tuple_ofA {f : Addr} {fd : FuncData} (F : Fun K "is_tuple_of" "is_tuple_of" s_is_tuple_of f fd) (z_isinstance : mg "isinstance" = none) (z_tuple : mg "tuple" = none) (z_len : mg "len" = none) :
    FnOk P w K mg base CX0 1 f fd ["value", "many"] (spTupA K) := by
  refine F.ok sc_is_tuple_of (fun vs H Q E h => ?_) (fun cdv A outer s H vs Q E hr h => ?_)
  · obtain ⟨_, _, _, rfl, _⟩ := h
    rfl
  · obtain ⟨v, d, n, rfl, hd, q⟩ := h
    refine ⟨_, (pss_one (ps_ret (pe_and (pe_callB call_isi (by rfl) z_isinstance (by decide +kernel) (pa_cons (pv 0) (pa_cons (pe_bltn (v := .ty "tuple") (by rfl) z_tuple (by decide +kernel) rfl) pa_nil))) (pe_one (pe_cmpR op_eq (pe_callB call_len_seq (by rfl) z_len (by decide +kernel) (pa_cons (pv 0) pa_nil)) (pv 1) (nomark _)))))), ?_⟩
    cases hT : isTupD d with
    | false =>
      obtain ⟨ty, T, k⟩ := hd.noTup hT
      have e : tupD n d = false := by
        cases d with
        | tuple ds => cases hT
        | _ => rfl
      rw [e] at q
      exact ⟨_, rfl, _, _, _, _, false, rfl, .ty "tuple", T, kit_ty k, false, rfl, iteF q⟩
    | true =>
      cases d with
      | tuple ds =>
        obtain ⟨p, xs, rfl, hS, hA⟩ := hd.isT
        refine ⟨_, rfl, _, _, _, _, true, rfl, .ty "tuple", tyT hS, kit_ty (by decide +kernel), true, rfl, iteT ⟨_, rfl, p, xs, rfl, .inr hS, _, rfl, rfl, ?_⟩⟩
        have e : decide (V.int (xs.length : Int) = V.int (n : Int)) = tupD n (.tuple ds) := by
          rw [hA.len]
          show _ = decide (ds.length = n)
          by_cases h : ds.length = n
          · rw [decide_eq_true h, decide_eq_true (by rw [h])]
          · rw [decide_eq_false h, decide_eq_false (fun z => h (by have := V.int.inj z; omega))]
        rw [e]
        exact q
      | _ => cases hT
end
end K03
namespace CK
open PySem PySem.Spec PyProof.Rows L2 VG FR HD
def spClassOf (K : PySem.W.Frag) (C : Addr) : Sp := fun vs H Q _ => ∃ (a : Addr) (ks : List Str) (ts : List (List Int)) (k : Nat), vs = [.ref a, .int k] ∧ Tab K C H a ks ts ∧ ts.length ≤ 1000 ∧ ks.length ≤ 1000 ∧ k < ks.length ∧
  ∀ H', Same H H' → Q (numV (classesL ts ks.length) k) H'
/-- the totals that are left of the first i -/
def leftT (ts : List (List Int)) (os : List Int) (i : Nat) : List (List Int) := ((List.range i).filter fun (j : Nat) => !os.contains (j : Int)).map fun j => ts.getD j []
theorem leftT_len (ts : List (List Int)) (os : List Int) (i : Nat) : (leftT ts os i).length ≤ i := by
  unfold leftT
  rw [List.length_map]
  exact Nat.le_trans (List.length_filter_le _ _) (by rw [List.length_range]; exact Nat.le_refl _)
theorem leftT_yes {ts : List (List Int)} {os : List Int} {i : Nat} {c : List Int} (e : ts[i]? = some c) (h : os.contains (i : Int) = false) : leftT ts os (i + 1) = leftT ts os i ++ [c] := by
  unfold leftT
  rw [List.range_succ, List.filter_append, List.map_append]
  have e2 : [i].filter (fun (j : Nat) => !os.contains (j : Int)) = [i] := by simp only [List.filter_cons, h, Bool.not_false, if_true, List.filter_nil]
  rw [e2]
  simp [e]
theorem leftT_no {ts : List (List Int)} {os : List Int} {i : Nat} (h : os.contains (i : Int) = true) : leftT ts os (i + 1) = leftT ts os i := by
  unfold leftT
  rw [List.range_succ, List.filter_append, List.map_append]
  have e2 : [i].filter (fun (j : Nat) => !os.contains (j : Int)) = [] := by simp only [List.filter_cons, h, Bool.not_true, Bool.false_eq_true, if_false, List.filter_nil]
  rw [e2]
  simp
theorem leftT_mem {ts : List (List Int)} {os : List Int} {i : Nat} (hi : i ≤ ts.length) {c : List Int} (h : c ∈ leftT ts os i) : c ∈ ts := by
  unfold leftT at h
  obtain ⟨j, hj, rfl⟩ := List.mem_map.mp h
  have := List.mem_range.mp (List.mem_filter.mp hj).1
  have hj2 : j < ts.length := by omega
  rw [List.getD_eq_getElem?_getD, List.getElem?_eq_getElem hj2]
  exact List.getElem_mem hj2
/-- a table that can be -/
structure TabOk (ks : List Str) (ts : List (List Int)) : Prop where
  kinds : KindsOk ks
  len : ts.length ≤ 12
  lots : ∀ c ∈ ts, LotOk (ks.length : Int) c
def spTabNew (K : PySem.W.Frag) (C : Addr) (H : Hp) (Q : VK) (ks : List Str) (ts : List (List Int)) : Prop := ∀ H' u, Same H H' → H u = none → Tab K C H' u ks ts → Q (.ref u) H'
def spWithout (K : PySem.W.Frag) (C : Addr) : Sp := fun vs H Q _ => ∃ (a o : Addr) (os : List Int) (ks : List Str) (ts : List (List Int)), vs = [.ref a, .ref o] ∧ Tab K C H a ks ts ∧ TabOk ks ts ∧ SqT K H o (os.map V.int) ∧ os.length ≤ 1000 ∧
  spTabNew K C H Q ks (leftT ts os ts.length)
def spWith (K : PySem.W.Frag) (C R : Addr) : Sp := fun vs H Q E => ∃ (a : Addr) (v : V) (d : PyData) (ks : List Str) (ts : List (List Int)), vs = [.ref a, v] ∧ Tab K C H a ks ts ∧ TabOk ks ts ∧ Ov K H v d ∧ shortD d ∧
  (lotD (ks.length : Int) d = true → ts.length < 12 → spTabNew K C H Q ks (ts ++ [intsD d])) ∧
  (∀ w : Str, (lotD (ks.length : Int) d = false ∧ w = "total") ∨ (lotD (ks.length : Int) d = true ∧ 12 ≤ ts.length ∧ w = "size") → ∀ H' x, Same H H' → H x = none → H' x = some (.xd [((("word" : String) : Str), .str w)]) → E (.ref R) (some x) H')
theorem asc_of : ∀ {cs : List Int}, ascB cs = true → Asc cs
  | [], _ => trivial
  | [_], _ => trivial
  | a :: b :: r, h => by
    have h : (decide (a < b) && ascB (b :: r)) = true := h
    rw [Bool.and_eq_true] at h
    exact ⟨of_decide_eq_true h.1, asc_of h.2⟩
theorem below_of {n : Int} : ∀ {ds : List PyData}, (ds.all fun d => belowO n (intO d)) = true → ∀ x ∈ intsD (.tuple ds), 0 ≤ x ∧ x < n
  | [], _, x, hx => by cases hx
  | d :: ds, h, x, hx => by
    rw [List.all_cons, Bool.and_eq_true] at h
    have hx : x ∈ (intO d).getD 0 :: intsD (.tuple ds) := hx
    rcases List.mem_cons.mp hx with e | m
    · have h1 := h.1
      cases q : intO d with
      | none => rw [q] at h1; cases h1
      | some i =>
        rw [q] at h1 e
        subst e
        exact of_decide_eq_true h1
    · exact below_of h.2 x m
theorem lot_of {n : Int} {ds : List PyData} (h : lotD n (.tuple ds) = true) (sh : ds.length ≤ 1000) : LotOk n (intsD (.tuple ds)) := by
  have h : (numsBD n (.tuple ds) && ascB (intsD (.tuple ds))) = true := h
  rw [Bool.and_eq_true] at h
  exact ⟨by show (ds.map _).length ≤ 1000; rw [List.length_map]; exact sh, below_of h.1, asc_of h.2⟩
theorem raised {K : PySem.W.Frag} {R : Addr} {w : Str} {σ : L2.St} {H : Hp} {E : XK} (h : ∀ H' x, Same H H' → H x = none → H' x = some (.xd [((("word" : String) : Str), .str w)]) → E (.ref R) (some x) H') :
    tMkO R (spInitW K R (("word" : String) : Str)) [] (tCons (tC (V.str w)) tNil) σ H fun cls d H' => E cls d H' := by
  refine ⟨by show 1 ≤ 1000; decide, fun x nx => ?_⟩
  refine ⟨x, _, rfl, upd_same, fun dx n ne => ⟨rfl, dx, [((("word" : String) : Str), V.str w)], upd_same, ?_, ?_, ?_⟩⟩
  · rw [upd_ne ne, upd_same]
  · rw [upd_ne ne] at n
    exact n
  · rw [upd_ne ne] at n
    refine h _ dx (fun y o hy => ?_) n upd_same
    have hyd : y ≠ dx := ne_of_none hy n
    have hyx : y ≠ x := ne_of_none hy nx
    rw [upd_ne hyd, del_ne hyx, upd_ne hyx, upd_ne hyd, upd_ne hyx]
    exact hy
end CK
namespace K03
open PySem PySem.Spec PyProof.Rows L2 VG FR CK HD
abbrev s_class_of_kind : Stmt := topS 26
abbrev N_class_of_kind : List Str := ["table", "kind"]
theorem sc_class_of_kind : FnScope N_class_of_kind ["table", "kind"] (defScope s_class_of_kind) := ⟨rfl, rfl, rfl, by decide +kernel, rfl, by decide +kernel, by decide +kernel⟩
abbrev s_without_totals : Stmt := topS 28
abbrev N_without_totals : List Str := ["table", "totals", "left", "at", "total"]
theorem sc_without_totals : FnScope N_without_totals ["table", "totals"] (defScope s_without_totals) := ⟨rfl, rfl, rfl, by decide +kernel, rfl, by decide +kernel, by decide +kernel⟩
abbrev s_with_total : Stmt := topS 29
abbrev N_with_total : List Str := ["table", "total"]
theorem sc_with_total : FnScope N_with_total ["table", "total"] (defScope s_with_total) := ⟨rfl, rfl, rfl, by decide +kernel, rfl, by decide +kernel, by decide +kernel⟩
section
variable {P : Program} {w : World} {K : PySem.W.Frag} {mg : Str → Option Value} {base : Heap}
theorem ok_class_of_kind {f C : Addr} {fd : FuncData} (F : Fun K "class_of_kind" "class_of_kind" s_class_of_kind f fd) (C_class_numbers : Cl P w K mg base 3 "class_numbers" (spNumbers K C)) :
    FnOk P w K mg base CX0 4 f fd ["table", "kind"] (spClassOf K C) := by
  refine F.ok sc_class_of_kind (fun vs H Q E h => ?_) (fun cdv A outer s H vs Q E hr h => ?_)
  · obtain ⟨_, _, _, _, rfl, _⟩ := h
    rfl
  · obtain ⟨a, ks, ts, k, rfl, hTab, lt, lk, hk, fin⟩ := h
    refine ⟨_, (pss_one (ps_ret (pe_ix ix_tup (pe_cl C_class_numbers hr (by decide) rfl (pa_cons (pv 0) pa_nil)) (pv 1) (fun _ _ => rfl)))), ?_⟩
    refine ⟨_, rfl, a, ks, ts, rfl, hTab, lt, lk, fun H1 u s1 nu hu => ?_⟩
    refine ⟨_, rfl, u, _, _, _, rfl, rfl, sqt hu, atI_nat (j := k) ?_, fin H1 s1⟩
    rw [List.getElem?_map, List.getElem?_range hk]
    rfl
theorem ok_without_totals {f C : Addr} {fd : FuncData} (F : Fun K "without_totals" "without_totals" s_without_totals f fd) (T : TabC K C) (T_Table : MkT P w K mg base 7 "Table" C (spInitT K C)) (z_enumerate : mg "enumerate" = none) (z_tuple : mg "tuple" = none) :
    FnOk P w K mg base CX0 9 f fd ["table", "totals"] (spWithout K C) := by
  refine F.ok sc_without_totals (fun vs H Q E h => ?_) (fun cdv A outer s H vs Q E hr h => ?_)
  · obtain ⟨_, _, _, _, _, rfl, _⟩ := h
    rfl
  · obtain ⟨a, o, os, ks, ts, rfl, ⟨dx, k, t, xs, hO, hK, hS, hT⟩, ok, ho, lo, fin⟩ := h
    refine ⟨_, (pss_cons (ps_setLc (i := 2) (own := [("at", 3), ("total", 4)]) (by rfl) sc_without_totals.nd rfl rfl (sw_true rfl rfl rfl (by decide +kernel)) (pi_enumT (by rfl) z_enumerate (pa_cons (pe_fld (pv 0) (by rfl)) pa_nil)) (blkOk_by (own := [("at", 3), ("total", 4)]) (N := N_without_totals) (sc := defScope s_without_totals) (by decide +kernel)) (fun _ _ _ _ _ => (show PG _ _ (gTup K 2 _) from pg_tup rfl (pgs_cons (pg_name (i := 3) sc_without_totals.nd rfl (.inl rfl)) (pgs_cons (pg_name (i := 4) sc_without_totals.nd rfl (.inl rfl)) pgs_nil)))) (fun _ _ _ _ _ => (pts_one (pt_cmpR (show OpR _ (compareOp .NotIn) (rIn K true) from op_notIn_seq) (pv 3) (pv 1) rfl))) (fun _ _ _ _ _ => (pv 4)))
    (pss_one (ps_ret (pe_mt T_Table hr (by decide) rfl (pa_cons (pe_fld (pv 0) (by rfl)) (pa_cons (pe_callTy call_tuple_of (by rfl) z_tuple (by decide +kernel) (pa_cons (pv 2) pa_nil)) pa_nil)))))), ?_⟩
    have lx := hT.len
    have l12 := ok.len
    have big : sizeLine = 16777216 := by decide
    refine ⟨_, rfl, a, C, dx, _, .ref t, rfl, hO, T.c, T.nt, rfl, t, xs, rfl, hS, fun D nD => ?_⟩
    refine lc_it (walk_enumT (K := K) (a := t) (xs := xs)) (fun i H' => Same H H' ∧ ∃ ys, H' D = some (.lst ys) ∧ Tots K H ys (leftT ts os i)) ⟨same_upd nD, [], upd_same, trivial⟩ (fun i H' _ h => seqT h.1 hS) ?_ ?_
    · rintro i v H2 H3 hi ⟨sm, ys, hD, hY⟩ ⟨U, x, rfl, nU, rfl, ex⟩
      obtain ⟨u, c, rfl, ec, hu⟩ := hT.get ex
      have sU := same_upd (o := .tup [.int (i : Nat), .ref u]) nU
      refine ⟨U, _, rfl, .inl (.inl upd_same), rfl, _, _, rfl, _, _, rfl, rfl, rfl, ?_⟩
      have sm2 := sm.trans sU
      refine ⟨_, rfl, _, rfl, o, os.map V.int, rfl, .inr (seqT sm2 ho), rfl, flat_ints os, _, rfl, ?_⟩
      have hD2 := sU _ _ hD
      rw [inV_ints]
      cases hc : os.contains (i : Int) with
      | false =>
        refine iteT ⟨_, rfl, ys, hD2, ?_, HD.same_put sm2 nD, ys ++ [.ref u], upd_same, ?_⟩
        · have := leftT_len ts os i
          have := hY.len
          have : i < xs.length := hi
          omega
        · rw [leftT_yes ec hc]
          exact hY.snoc hu
      | true =>
        refine iteF ⟨sm2, ys, hD2, ?_⟩
        rw [leftT_no hc]
        exact hY
    · rintro H2 ⟨sm, ys, hD, hY⟩
      rw [lx] at hY
      refine ⟨_, rfl, a, C, dx, _, .ref k, rfl, sm _ _ hO, T.c, T.nk, rfl, ?_⟩
      refine ⟨_, rfl, D, ys, rfl, .inl ⟨.inl (.inl hD), fun t2 nt => ?_⟩⟩
      have sT := same_upd (o := .tup ys) nt
      have kT := upd_same (H := H2) (a := t2) (o := .tup ys)
      have s3 := sm.trans sT
      generalize L2.upd H2 t2 (.tup ys) = H3 at sT kT s3 ⊢
      refine fun x dx2 nx nd ne => tab_made (seqT s3 hK) ok.kinds (sqt kT) (hY.mono s3) (by have := leftT_len ts os ts.length; omega) (fun c hc => ok.lots c (leftT_mem (Nat.le_refl _) hc)) nx nd ne fun H4 s4 tab4 na => ?_
      exact fin H4 x (s3.trans s4) (s3.free na) tab4
theorem ok_with_total {f fi C R : Addr} {fd fdi : FuncData} {tk : Tok} (F : Fun K "with_total" "with_total" s_with_total f fd) (T : TabC K C) (T_Table : MkT P w K mg base 7 "Table" C (spInitT K C)) (C_is_lot_below : Cl P w K mg base 5 "is_lot_below" (spLotA K))
    (e_Refused : ErrC K mg "Refused" R fi) (i_Refused : FnOk P w K mg base CX0 1 fi fdi ["self", "word"] (spInitW K R "word")) (b_Refused : Binds K fdi ["self", "word"] []) (m_MOST_TOTALS : mg "MOST_TOTALS" = some (.int 12 tk)) (z_len : mg "len" = none) :
    FnOk P w K mg base (L2.CX P w) 9 f fd ["table", "total"] (spWith K C R) := by
  refine F.okX sc_with_total (fun vs H Q E h => ?_) (fun cdv A outer s H vs Q E hr h => ?_)
  · obtain ⟨_, _, _, _, _, rfl, _⟩ := h
    rfl
  · obtain ⟨a, v, d, ks, ts, rfl, ⟨dx, k, t, xs, hO, hK, hS, hT⟩, ok, hd, sh, fin, err⟩ := h
    refine ⟨_, (pss_cons (ps_if (pt_not (pt_val (pe_cl C_is_lot_below hr (by decide) rfl (pa_cons (pv 1) (pa_cons (pe_callB call_len_seq (by rfl) z_len (by decide +kernel) (pa_cons (pe_fld (pv 0) (by rfl)) pa_nil)) pa_nil)))))
      (pss_one (ps_raise rfl (takes_of rfl rfl rfl rfl) (pmk_oex e_Refused.o e_Refused.iC e_Refused.tI i_Refused (hr.mono (by decide)) b_Refused .nil pass0 rfl e_Refused.gC (pa_cons pe_str pa_nil))))
      pss_nil)
    (pss_cons (ps_if (pt_cmpR op_ge (pe_callB call_len_seq (by rfl) z_len (by decide +kernel) (pa_cons (pe_fld (pv 0) (by rfl)) pa_nil)) (pe_glob (v := .int 12) rfl m_MOST_TOTALS ⟨_, rfl⟩) (nomark _))
      (pss_one (ps_raise rfl (takes_of rfl rfl rfl rfl) (pmk_oex e_Refused.o e_Refused.iC e_Refused.tI i_Refused (hr.mono (by decide)) b_Refused .nil pass0 rfl e_Refused.gC (pa_cons pe_str pa_nil))))
      pss_nil)
    (pss_one (ps_ret (pe_mt T_Table hr (by decide) rfl (pa_cons (pe_fld (pv 0) (by rfl)) (pa_cons (pe_op op_catM (pe_fld (pv 0) (by rfl)) (pe_tup (pa_cons (pv 1) pa_nil))) pa_nil))))))), ?_⟩
    have lx := hT.len
    have l12 := ok.len
    have big : sizeLine = 16777216 := by decide
    refine ⟨_, rfl, _, rfl, a, C, dx, _, .ref k, rfl, hO, T.c, T.nk, rfl, k, ks.map V.str, rfl, .inr hK, ?_⟩
    rw [List.length_map]
    refine ⟨v, d, _, rfl, hd, sh, fun H1 s1 => ⟨_, rfl, ?_⟩⟩
    cases hl : lotD (ks.length : Int) d with
    | false => exact iteT (raised fun H' x s2 nx hx => err _ (.inl ⟨hl, rfl⟩) H' x (s1.trans s2) (s1.free nx) hx)
    | true =>
      refine iteF ?_
      refine ⟨_, rfl, a, C, dx, _, .ref t, rfl, s1 _ _ hO, T.c, T.nt, rfl, t, xs, rfl, .inr (seqT s1 hS), ?_⟩
      refine ⟨_, _, rfl, rfl, _, rfl, ?_⟩
      by_cases h12 : 12 ≤ ts.length
      · refine ite_eq true (decide_eq_true (by omega)) (iteT ?_)
        exact raised fun H' x s2 nx hx => err _ (.inr ⟨hl, h12, rfl⟩) H' x (s1.trans s2) (s1.free nx) hx
      · refine ite_eq false (decide_eq_false (by omega)) (iteF ?_)
        -- the new table
        cases d with
        | tuple ds =>
          obtain ⟨p, ys, rfl, hP, hA⟩ := hd.isT
          have hl2 : (numsBD (ks.length : Int) (.tuple ds) && ascB (intsD (.tuple ds))) = true := hl
          rw [Bool.and_eq_true] at hl2
          have ei := nums_ints hA hl2.1
          rw [ei] at hP
          have hO1 := s1 _ _ hO
          refine ⟨_, rfl, a, C, dx, _, .ref k, rfl, hO1, T.c, T.nk, rfl, ?_⟩
          refine ⟨_, rfl, a, C, dx, _, .ref t, rfl, hO1, T.c, T.nt, rfl, ?_⟩
          refine ⟨_, rfl, by show 1 ≤ sizeLine; decide, fun z nz => ?_⟩
          have sz := same_upd (o := .tup [V.ref p]) nz
          have kz := upd_same (H := H1) (a := z) (o := .tup [V.ref p])
          have s3 := s1.trans sz
          generalize L2.upd H1 z (.tup [V.ref p]) = H3 at sz kz s3 ⊢
          refine ⟨t, z, xs, [V.ref p], rfl, rfl, seqT s3 hS, sqt kz, by show xs.length + 1 ≤ sizeLine; omega, fun t2 H4 s4 kt => ?_⟩
          have s5 := s3.trans s4
          refine fun x dx2 nx nd ne => tab_made (seqT s5 hK) ok.kinds kt ((hT.mono s5).snoc (seqT s5 hP)) (by rw [List.length_append]; show ts.length + 1 ≤ 12; omega) (fun c hc => ?_) nx nd ne fun H5 s6 tab na => ?_
          · rcases List.mem_append.mp hc with m | m
            · exact ok.lots c m
            · rw [List.mem_singleton.mp m]
              exact lot_of hl sh
          · exact fin hl (by omega) H5 x (s5.trans s6) (s5.free na) tab
        | _ => cases hl
end
end K03
namespace VG
open PySem PySem.Spec PyProof.Rows L2
def rTupIx (K : PySem.W.Frag) : V → List V → Hp → VK → Prop := fun x xs H Q => ∃ (p : Addr) (cs : List Int) (k : Int) (j : Nat), x = .ref p ∧ xs = [.int k] ∧ SqT K H p (cs.map V.int) ∧ cs[j]? = some k ∧ (∀ m, m < j → cs[m]? ≠ some k) ∧ Q (.int (j : Nat)) H
section
variable {X : Cx}
theorem mt_tup_indexI : MtR X "tuple.index" (rTupIx X.K) := by
  rintro pins s σ H _ _ _ us Q I rx rs ⟨p, cs, k, j, rfl, rfl, isT, atJ, before, told⟩
  cases rx
  obtain ⟨_, rfl, tok, rfl⟩ := vals1 rs
  obtain ⟨us, rel, obj, len⟩ := I.tuple isT
  obtain ⟨⟨cl, dct, da, slots⟩, at1, isTup, many, isSeq⟩ := obj
  simp only at isTup isSeq
  subst isTup isSeq
  have size : us.toArray.size = cs.length := by
    rw [List.size_toArray, ← rel.length, List.length_map]
  have jIn : j < us.toArray.size := by
    have := (List.getElem?_eq_some_iff.mp atJ).1
    omega
  have each : ∀ (m : Nat) (lt : m < us.toArray.size), ∃ (i : Int) (t : Tok), cs[m]? = some i ∧ us.toArray[m] = Value.int i t := by
    intro m lt
    have ltC : m < cs.length := by omega
    obtain ⟨u, eu, t, et⟩ := rel.get (i := m) (x := .int cs[m]) (by simp [ltC])
    refine ⟨cs[m], t, List.getElem?_eq_getElem ltC, ?_⟩
    have e2 := (List.getElem?_eq_some_iff.mp eu).2
    rw [← et, ← e2]
    simp
  have flat : (cs.map V.int).all flatV = true := by
    rw [List.all_map]
    exact List.all_eq_true.mpr fun _ _ => rfl
  refine call_meets PySem.F.slot_tuple_index ⟨_, at1, rfl⟩ PySem.F.entry_tuple_index (PySem.F.args_tuple_index_2 _ _)
    (TI.tuple_indexAt p us.toArray many dct slots (.int k tok) (eqU (.int k)) j jIn ?hit ?miss)
    ⟨at1, fun u mem => mem_eqAt (x := .int k) ⟨tok, rfl⟩ rfl rel flat u (by simpa using mem), ⟨.int (j : Nat), H, I.tok _, ⟨_, rfl⟩, told⟩⟩
  case hit =>
    obtain ⟨i, t, e1, e2⟩ := each j jIn
    rw [atJ] at e1
    cases e1
    rw [e2]
    exact beq_self_eq_true k
  case miss =>
    intro m lt ltj
    obtain ⟨i, t, e1, e2⟩ := each m lt
    rw [e2]
    have ne : i ≠ k := fun z => before m ltj (by rw [e1, z])
    show (i == k) = false
    exact beq_false_of_ne ne
end
end VG
namespace VG
open PySem PySem.Spec PyProof.Rows L2 FR
/-- a tuple of the run, its object told: no dict of its own -/
def TupO (H : Hp) (p : Addr) (xs : List V) : Prop := ∃ ob : Obj, H p = some (.frz ob (.tup xs)) ∧ ob.cls = .type "tuple" ∧ ob.dict = none
theorem TupO.seq {K : PySem.W.Frag} {H : Hp} {p : Addr} {xs : List V} (t : TupO H p xs) : SqT K H p xs :=
  let ⟨ob, e, _, _⟩ := t
  .inl (.inr ⟨ob, e⟩)
theorem TupO.mono {H H' : Hp} {p : Addr} {xs : List V} (t : TupO H p xs) (e : Same H H') : TupO H' p xs :=
  let ⟨ob, e1, e2, e3⟩ := t
  ⟨ob, e _ _ e1, e2, e3⟩
def rTupF (K : PySem.W.Frag) : List V → Hp → VK → Prop := fun xs H Q => ∃ (p : Addr) (ys : List V), xs = [.ref p] ∧ SqL K H p ys ∧ ∀ l H', Same H H' → H l = none → TupO H' l ys → Q (.ref l) H'
def tTM (r : V → List V → Hp → VK → Prop) (to : TE) (t : TA) : TE := fun σ H Q => to σ H fun x H1 => (∃ p xs, x = .ref p ∧ TupO H1 p xs) ∧ t σ H1 fun ys H2 => r x ys H2 Q
section
variable {X : Cx}
theorem call_tupF : CallR X (.type "tuple") (rTupF X.K) := by
  rintro pins s σ H _ us Q I vals ⟨p, ys, rfl, isL, told⟩
  obtain ⟨_, rfl, isRef⟩ := vals1 vals
  cases isRef
  obtain ⟨its, rel, obj, short⟩ := I.list isL
  have many := rel.length
  refine call_tuple_list obj.isList (fun h2 kept => ?_) (by simp only [List.size_toArray] <;> omega)
  have J : Inv X pins σ H { s with heap := h2 } := I.kept (t' := s.toks) kept
  have new : H h2.objs.size = none := J.hok.fresh (Nat.le_refl _)
  have J2 : Inv X pins σ (L2.upd H h2.objs.size (.frz { cls := .type "tuple", data := .seq its.toArray } (.tup ys))) { s with heap := h2.push { cls := .type "tuple", data := .seq its.toArray } } := by
    refine J.laid (t' := s.toks) (fun b o e => Heap.get?_push_of_some _ e) (Nat.le_refl _) ?_
    exact ⟨Heap.get?_push_size _ rfl, short, its, rel, IsTup.new _ _⟩
  exact ⟨.ref h2.objs.size, _, J2, rfl, told _ _ (same_upd new) new ⟨_, upd_same, rfl, rfl⟩⟩
variable {o e : Expr} {es : List Expr} {to : TE} {t : TA} {name : Str} {apos cpos : Pos} {id : String} {r : V → List V → Hp → VK → Prop}
theorem pe_tm (attrs : PlainAttrs "tuple") (slot : Slot "tuple" name id) (isM : typeOf (.builtin id) = pure (.type "method_descriptor")) (does : MtR X id r) (obj : PE X o to) (args : PA X (e :: es) t)
    (b1 : attributeBase o name X.env (eval o X.env) = eval o X.env := by rfl)
    (b2 : ((backTo cpos (starEach (e :: es) X.env)).all (fun x => !x.1) && (backToKw cpos (keywordEach [] X.env)).all (fun x => x.1.isSome) && decide ((e :: es).length + ([] : List Keyword).length + (if ([] : List Keyword).isEmpty then 0 else 1) < 30)) = true := by rfl)
    (b3 : (apos.endLine == cpos.line) = true := by rfl) (b4 : starEach (e :: es) X.env = (false, eval e X.env) :: starEach es X.env := by rfl) (b5 : (backTo cpos (starEach es X.env)).any (·.1) = false := by rfl) :
    PE X (.Call (.Attribute o name apos) (e :: es) [] cpos) (tTM r to t) := by
  constructor
  intro pins s σ H Q I told
  apply wpAny_Call_method_late b1 b2 b3 rfl
  apply thn (obj.run pins s σ H _ I told)
  rintro v s1 ⟨x, H1, J, rel, ⟨p, xs, rfl, ob, at1, cl, nd⟩, q⟩
  cases rel
  have got := (J.hok p _ at1).1
  refine ⟨"tuple", id, attrs, slot, isM, ⟨ob, got, cl⟩, fun a z => ?_, ?_⟩
  · cases z
    exact ⟨ob, got, nd⟩
  have run := args.run cpos pins s1 σ H1 _ J q
  rw [b4] at run ⊢
  refine Calls.callWith_builtin (by show (false || (backTo cpos (starEach es X.env)).any (·.1)) = false; rw [b5] <;> rfl) (Calls.evalArgs_plain ?_)
  exact thn run fun ws s2 ⟨vs, H2, J2, rel2, q2⟩ => does pins s2 σ H2 (.ref p) vs (.ref p) ws Q J2 rfl rel2 q2
end
end VG
namespace CK
open PySem PySem.Spec PyProof.Rows L2 VG FR HD
/-- the kinds that are left, of the first i -/
def leftK (os : List Int) (i : Nat) : List Int := ((List.range i).filter fun (j : Nat) => !os.contains (j : Int)).map fun (j : Nat) => (j : Int)
theorem leftK_len (os : List Int) (i : Nat) : (leftK os i).length ≤ i := by
  unfold leftK
  rw [List.length_map]
  exact Nat.le_trans (List.length_filter_le _ _) (by rw [List.length_range]; exact Nat.le_refl _)
theorem leftK_yes {os : List Int} {i : Nat} (h : os.contains (i : Int) = false) : leftK os (i + 1) = leftK os i ++ [(i : Int)] := by
  unfold leftK
  rw [List.range_succ, List.filter_append, List.map_append]
  have e2 : [i].filter (fun (j : Nat) => !os.contains (j : Int)) = [i] := by simp only [List.filter_cons, h, Bool.not_false, if_true, List.filter_nil]
  rw [e2]
  rfl
theorem leftK_no {os : List Int} {i : Nat} (h : os.contains (i : Int) = true) : leftK os (i + 1) = leftK os i := by
  unfold leftK
  rw [List.range_succ, List.filter_append, List.map_append]
  have e2 : [i].filter (fun (j : Nat) => !os.contains (j : Int)) = [] := by simp only [List.filter_cons, h, Bool.not_true, Bool.false_eq_true, if_false, List.filter_nil]
  rw [e2]
  simp
theorem leftK_mem {os : List Int} {i : Nat} {x : Int} (h : x ∈ leftK os i) : ∃ j : Nat, j < i ∧ x = (j : Int) := by
  unfold leftK at h
  obtain ⟨j, hj, rfl⟩ := List.mem_map.mp h
  exact ⟨j, List.mem_range.mp (List.mem_filter.mp hj).1, rfl⟩
/-- the place of a number -/
def plc (ls : List Int) (x : Int) : Int := ((ls.idxOf x : Nat) : Int)
theorem plc_at {ls : List Int} {x : Int} (h : x ∈ ls) : ls[ls.idxOf x]? = some x := by
  have := List.idxOf_lt_length_iff.mpr h
  rw [List.getElem?_eq_getElem this, List.getElem_idxOf]
theorem plc_first : ∀ {ls : List Int} {x : Int} {m : Nat}, m < ls.idxOf x → ls[m]? ≠ some x
  | [], x, m, hm => by simp at hm
  | a :: ls, x, m, hm => by
    intro e
    rw [List.idxOf_cons] at hm
    cases q : (a == x) with
    | true => rw [q] at hm; simp at hm
    | false =>
      rw [q] at hm
      cases m with
      | zero =>
        have e1 : a = x := Option.some.inj e
        rw [e1] at q
        simp at q
      | succ m =>
        have hm : m + 1 < ls.idxOf x + 1 := hm
        exact plc_first (ls := ls) (x := x) (m := m) (by omega) e
def newT (ls c : List Int) : List Int := (c.filter fun x => ls.contains x).map (plc ls)
theorem newT_add {ls c : List Int} {j : Nat} {x : Int} (e : c[j]? = some x) : newT ls (c.take (j + 1)) = newT ls (c.take j) ++ (if ls.contains x = true then [plc ls x] else []) := by
  unfold newT
  rw [List.take_add_one, e, List.filter_append, List.map_append]
  show _ ++ ([x].filter fun x => ls.contains x).map (plc ls) = _
  cases q : ls.contains x with
  | true => simp only [List.filter_cons, q, if_true, List.filter_nil, List.map_cons, List.map_nil]
  | false => simp only [List.filter_cons, q, Bool.false_eq_true, if_false, List.filter_nil, List.map_nil]
theorem newT_len (ls c : List Int) (j : Nat) : (newT ls (c.take j)).length ≤ c.length := by
  unfold newT
  rw [List.length_map]
  refine Nat.le_trans (List.length_filter_le _ _) ?_
  rw [List.length_take]
  omega
def spLess2 (K : PySem.W.Frag) (C R : Addr) : Sp := fun vs H Q E => ∃ (a o : Addr) (os : List Int) (ks : List Str) (ts : List (List Int)), vs = [.ref a, .ref o] ∧ Tab K C H a ks ts ∧ TabOk ks ts ∧ SqT K H o (os.map V.int) ∧ os.length ≤ 1000 ∧
  (leftK os ks.length ≠ [] → TabOk ((leftK os ks.length).map fun x => ks.getD x.toNat Str.empty) (ts.map (newT (leftK os ks.length))) ∧ spTabNew K C H Q ((leftK os ks.length).map fun x => ks.getD x.toNat Str.empty) (ts.map (newT (leftK os ks.length)))) ∧
  (leftK os ks.length = [] → ∀ H' x, Same H H' → H x = none → H' x = some (.xd [((("word" : String) : Str), .str (("kinds" : String) : Str))]) → E (.ref R) (some x) H')
end CK
namespace K03
open PySem PySem.Spec PyProof.Rows L2 VG FR CK HD
abbrev s_without_kinds : Stmt := topS 30
abbrev N_without_kinds : List Str := ["table", "kinds", "left", "names", "totals", "total", "kind"]
theorem sc_without_kinds : FnScope N_without_kinds ["table", "kinds"] (defScope s_without_kinds) := ⟨rfl, rfl, rfl, by decide +kernel, rfl, by decide +kernel, by decide +kernel⟩
section
variable {P : Program} {w : World} {K : PySem.W.Frag} {mg : Str → Option Value} {base : Heap}
theorem ok_without_kinds {f fi C R : Addr} {fd fdi : FuncData} (F : Fun K "without_kinds" "without_kinds" s_without_kinds f fd) (T : TabC K C) (T_Table : MkT P w K mg base 7 "Table" C (spInitT K C))
    (e_Refused : ErrC K mg "Refused" R fi) (i_Refused : FnOk P w K mg base CX0 1 fi fdi ["self", "word"] (spInitW K R "word")) (b_Refused : Binds K fdi ["self", "word"] []) (z_len : mg "len" = none) (z_range : mg "range" = none) (z_tuple : mg "tuple" = none) :
    FnOk P w K mg base (L2.CX P w) 9 f fd ["table", "kinds"] (spLess2 K C R) := by
  refine F.okX sc_without_kinds (fun vs H Q E h => ?_) (fun cdv A outer s H vs Q E hr h => ?_)
  · obtain ⟨_, _, _, _, _, rfl, _⟩ := h
    rfl
  · obtain ⟨a, o, os, ks, ts, rfl, ⟨dx, k, t, xs, hO, hK, hS, hT⟩, ok, ho, lo, fin, err⟩ := h
    refine ⟨_, (pss_cons (ps_set (i := 2) sc_without_kinds.nd rfl (.inr rfl) (pe_callTy call_tupF (by rfl) z_tuple (by decide +kernel) (pa_cons (pe_lc (own := [("kind", 6)]) (by rfl) sc_without_kinds.nd (pi_range1 (by rfl) z_range (pa_cons (pe_callB call_len_seq (by rfl) z_len (by decide +kernel) (pa_cons (pe_fld (pv 0) (by rfl)) pa_nil)) pa_nil)) (blkOk_by (own := [("kind", 6)]) (N := N_without_kinds) (sc := defScope s_without_kinds) (by decide +kernel)) (fun _ _ _ _ _ => (pg_name (i := 6) sc_without_kinds.nd rfl (.inl rfl))) (fun _ _ _ _ _ => (pts_one (pt_cmpR (show OpR _ (compareOp .NotIn) (rIn K true) from op_notIn_seq) (pv 6) (pv 1) rfl))) (fun _ _ _ _ _ => (pv 6))) pa_nil)))
    (pss_cons (ps_if (pt_not (pt_truth (pv 2) (by intro _; rfl)))
      (pss_one (ps_raise rfl (takes_of rfl rfl rfl rfl) (pmk_oex e_Refused.o e_Refused.iC e_Refused.tI i_Refused (hr.mono (by decide)) b_Refused .nil pass0 rfl e_Refused.gC (pa_cons pe_str pa_nil))))
      pss_nil)
    (pss_cons (ps_set (i := 3) sc_without_kinds.nd rfl (.inl rfl) (pe_callTy call_tupF (by rfl) z_tuple (by decide +kernel) (pa_cons (pe_lc (own := [("kind", 6)]) (by rfl) sc_without_kinds.nd (pi_tup (pv 2)) (blkOk_by (own := [("kind", 6)]) (N := N_without_kinds) (sc := defScope s_without_kinds) (by decide +kernel)) (fun _ _ _ _ _ => (pg_name (i := 6) sc_without_kinds.nd rfl (.inl rfl))) (fun _ _ _ _ _ => pts_nil) (fun _ _ _ _ _ => (pe_ix (show IxR _ (rIxT K) from ix_tup) (show PE _ _ (tFld K (tVar 0) _) from pe_fld (pv 0) (by rfl)) (pv 6) (fun _ _ => rfl)))) pa_nil)))
    (pss_cons (ps_setLc (i := 4) (own := [("total", 5)]) (by rfl) sc_without_kinds.nd rfl rfl (sw_true rfl rfl rfl (by decide +kernel)) (pi_tup (pe_fld (pv 0) (by rfl))) (blkOk_by (own := [("total", 5)]) (N := N_without_kinds) (sc := defScope s_without_kinds) (by decide +kernel)) (fun _ _ _ _ _ => (pg_name (i := 5) sc_without_kinds.nd rfl (.inl rfl))) (fun _ _ _ _ _ => pts_nil) (fun _ _ _ _ _ => (pe_callTy (show CallR _ (.type "tuple") (rTupOf K) from call_tupK) (by rfl) z_tuple (by decide +kernel) (pa_cons (pe_lc (own := [("kind", 6)]) (by rfl) sc_without_kinds.nd (show PI _ _ _ (iTup K _) from pi_tup (pv 5)) (blkOk_by (own := [("kind", 6)]) (N := N_without_kinds) (sc := { kind := .function, names := [((".0" : String), .local), (("total" : String), .local), (("tuple" : String), .globalImplicit), (("left" : String), .cell)], isGenerator := false, isCoroutine := false }) (by decide +kernel)) (fun _ _ _ _ _ => (pg_name (i := 6) sc_without_kinds.nd rfl (.inl rfl))) (fun _ _ _ _ _ => (pts_one (pt_cmpR (show OpR _ (compareOp .In) (rIn K false) from op_in_seq) (pv 6) (pv 2) rfl))) (fun _ _ _ _ _ => (show PE _ _ (tTM (rTupIx K) (tVar 2) (tCons (tVar 6) tNil)) from pe_tm PySem.F.plainAttrs_tuple PySem.F.slot_tuple_index PySem.F.type_tuple_index mt_tup_indexI (pv 2) (pa_cons (pv 6) pa_nil)))) pa_nil))))
    (pss_one (ps_ret (pe_mt T_Table hr (by decide) rfl (pa_cons (pv 3) (pa_cons (pe_callTy call_tupF (by rfl) z_tuple (by decide +kernel) (pa_cons (pv 4) pa_nil)) pa_nil))))))))), ?_⟩
    have lx := hT.len
    have l12 := ok.len
    have big : sizeLine = 16777216 := by decide
    have k12 := ok.kinds.2.1
    refine ⟨_, rfl, a, C, dx, _, .ref k, rfl, hO, T.c, T.nk, rfl, k, _, rfl, .inr hK, _, rfl, by rw [List.length_map]; omega, by rw [List.length_map]; omega, fun M nM => ?_⟩
    refine lc_it (walk_range (lo := 0) (n := (ks.map V.str).length)) (fun i H' => Same H H' ∧ H' M = some (.lst ((leftK os i).map V.int))) ⟨same_upd nM, upd_same⟩ (fun _ _ _ _ => trivial) ?_ ?_
    · rintro i v H3 H4 hi ⟨sm3, hM⟩ ⟨e, rfl⟩
      subst e
      have e0 : (0 : Int) + (i : Nat) = (i : Nat) := Int.zero_add _
      refine ⟨rfl, _, rfl, _, rfl, o, os.map V.int, rfl, .inr (seqT sm3 ho), rfl, flat_ints os, _, rfl, ?_⟩
      have ev : inV (V.int (0 + (i : Int))) (os.map V.int) = os.contains (i : Int) := by rw [e0, inV_ints]
      cases hc : os.contains (i : Int) with
      | false =>
        rw [hc] at ev
        refine ite_eq true (by show (!inV (V.int (0 + (i : Int))) (os.map V.int)) = true; rw [ev]; rfl) (iteT ?_)
        refine ⟨_, rfl, _, hM, ?_, HD.same_put sm3 nM, ?_⟩
        · have := leftK_len os i
          have il : i < (ks.map V.str).length := hi
          rw [List.length_map] at il
          rw [List.length_map]
          omega
        · rw [upd_same, leftK_yes hc, List.map_append]
          show some (HO.lst (_ ++ [V.int (0 + (i : Int))])) = _
          rw [e0]
          rfl
      | true =>
        rw [hc] at ev
        refine ite_eq false (by show (!inV (V.int (0 + (i : Int))) (os.map V.int)) = false; rw [ev]; rfl) (iteF ⟨sm3, ?_⟩)
        rw [leftK_no hc]
        exact hM
    · rintro H3 ⟨sm3, hM⟩
      rw [List.length_map] at hM
      refine ⟨M, _, rfl, .inl (.inl hM), fun u H1 s31 nu hU => ?_⟩
      have s1 := sm3.trans s31
      have nu := sm3.free nu
      have mem := fun x (h : x ∈ leftK os ks.length) => leftK_mem h
      have lenL := leftK_len os ks.length
      clear hM s31 sm3 nM
      generalize leftK os ks.length = LK at hU fin err mem lenL ⊢
      refine ⟨_, rfl, !(LK.map V.int).isEmpty, .inr (.inl ⟨_, hU.seq, rfl⟩), ?_⟩
      cases LK with
      | nil => exact iteT (raised fun H' x s2 nx hx => err rfl H' x (s1.trans s2) (s1.free nx) hx)
      | cons l0 lr =>
        refine iteF ?_
        obtain ⟨okN, fin⟩ := fin (by simp)
        generalize l0 :: lr = LK at hU okN fin mem lenL
        have hO1 := s1 _ _ hO
        have hK1 := seqT s1 hK
        have hS1 := seqT s1 hS
        have hT1 := hT.mono s1
        -- the names
        refine ⟨_, rfl, u, rfl, ⟨_, hU.seq⟩, fun D nD => ?_⟩
        refine lc_it (walk_tup (K := K) (a := u) (xs := LK.map V.int)) (fun i H' => Same H1 H' ∧ H' D = some (.lst (((LK.take i).map fun x => ks.getD x.toNat Str.empty).map V.str))) ⟨same_upd nD, upd_same⟩ (fun i H' _ h => (hU.mono h.1).seq) ?_ ?_
        · rintro i v H2 H3 hi ⟨sm, hD⟩ ⟨rfl, ex⟩
          rw [List.getElem?_map] at ex
          obtain ⟨x, el, rfl⟩ := Option.map_eq_some_iff.mp ex
          obtain ⟨j, hj, rfl⟩ := mem x (List.mem_of_getElem? el)
          have ej : ks[j]? = some (ks.getD j Str.empty) := by
            rw [List.getD_eq_getElem?_getD, List.getElem?_eq_getElem hj]
            rfl
          refine ⟨rfl, _, rfl, a, C, dx, _, .ref k, rfl, sm _ _ hO1, T.c, T.nk, rfl, _, rfl, k, _, _, .str (ks.getD j Str.empty), rfl, rfl, seqT sm hK1, atI_nat (j := j) (by rw [List.getElem?_map, ej]; rfl), _, hD, ?_, HD.same_put sm nD, ?_⟩
          · rw [List.length_map, List.length_map, List.length_take]
            omega
          · rw [upd_same, List.take_add_one, el, List.map_append, List.map_append]
            rfl
        · rintro H2 ⟨sm, hD⟩
          rw [List.length_map, List.take_length] at hD
          refine ⟨D, _, rfl, .inl (.inl hD), fun n2 H3 s23 n3 hN => ?_⟩
          have s13 := sm.trans s23
          clear hD sm s23 nD n3
          have hO3 := s13 _ _ hO1
          have hS3 := seqT s13 hS1
          have hT3 := hT1.mono s13
          have hU3 := hU.mono s13
          refine ⟨_, rfl, a, C, dx, _, .ref t, rfl, hO3, T.c, T.nt, rfl, t, rfl, ⟨_, hS3⟩, fun D2 nD2 => ?_⟩
          refine lc_it (walk_tup (K := K) (a := t) (xs := xs)) (fun i H' => Same H3 H' ∧ ∃ ys, H' D2 = some (.lst ys) ∧ Tots K H' ys ((ts.take i).map (newT LK))) ⟨same_upd nD2, [], upd_same, trivial⟩ (fun i H' _ h => seqT h.1 hS3) ?_ ?_
          · rintro i v H4 H5 hi ⟨sm4, ys, hD, hY⟩ ⟨rfl, ex⟩
            obtain ⟨tt, c, rfl, ec, ht⟩ := hT3.get ex
            have okc := ok.lots c (List.mem_of_getElem? ec)
            have ht4 := seqT sm4 ht
            refine ⟨rfl, _, rfl, tt, rfl, ⟨_, ht4⟩, fun L nL => ?_⟩
            refine lc_it (walk_tup (K := K) (a := tt) (xs := c.map V.int)) (fun i H' => Same H5 H' ∧ H' L = some (.lst ((newT LK (c.take i)).map V.int))) ⟨same_upd nL, upd_same⟩ (fun i H' _ h => seqT h.1 ht4) ?_ ?_
            · rintro j v H6 H7 hj ⟨sm6, hL⟩ ⟨rfl, ex2⟩
              rw [List.getElem?_map] at ex2
              obtain ⟨x, exx, rfl⟩ := Option.map_eq_some_iff.mp ex2
              have hU7 := hU3.mono (sm4.trans sm6)
              refine ⟨rfl, _, rfl, _, rfl, u, LK.map V.int, rfl, .inr hU7.seq, rfl, flat_ints LK, _, rfl, ?_⟩
              rw [inV_ints]
              have na := newT_add (ls := LK) exx
              cases hc : LK.contains x with
              | true =>
                have hx : x ∈ LK := by simpa using hc
                rw [hc, if_pos rfl] at na
                refine iteT ⟨_, rfl, ⟨u, _, rfl, hU7⟩, _, rfl, u, LK, x, LK.idxOf x, rfl, rfl, hU7.seq, plc_at hx, fun m hm => plc_first hm, _, hL, ?_, HD.same_put sm6 nL, ?_⟩
                · have := newT_len LK c j
                  have := okc.1
                  rw [List.length_map]
                  omega
                · rw [upd_same, na, List.map_append]
                  rfl
              | false =>
                rw [hc, if_neg Bool.false_ne_true, List.append_nil] at na
                refine iteF ⟨sm6, ?_⟩
                rw [na]
                exact hL
            · rintro H6 ⟨sm6, hL⟩
              rw [List.length_map, List.take_length] at hL
              refine ⟨L, _, rfl, .inl ⟨.inl (.inl hL), fun r nr => ?_⟩⟩
              have sr := same_upd (o := .tup ((newT LK c).map V.int)) nr
              have s46 := sm6.trans sr
              have hD6 := s46 _ _ hD
              refine ⟨ys, hD6, ?_, HD.same_put (sm4.trans s46) nD2, ys ++ [.ref r], upd_same, ?_⟩
              · have := hY.len
                rw [List.length_map, List.length_take] at this
                omega
              · rw [List.take_add_one, ec, List.map_append]
                exact Tots.upd hD6 (Tots.snoc (sqt upd_same) (hY.mono s46))
          · rintro H4 ⟨sm4, ys, hD, hY⟩
            rw [lx, List.take_length] at hY
            refine ⟨_, rfl, _, rfl, D2, ys, rfl, .inl (.inl hD), fun t2 H5 s5 nt hT2 => ?_⟩
            have s35 := sm4.trans s5
            refine fun x dx2 nx nd ne => tab_made (hN.mono s35).seq okN.kinds hT2.seq (hY.mono s5) okN.len okN.lots nx nd ne fun H6 s6 tab na => ?_
            have sA := ((s1.trans s13).trans s35).trans s6
            exact fin H6 x sA (((s1.trans s13).trans s35).free na) tab
end
end K03
namespace CK
open PySem PySem.Spec PyProof.Rows L2 VG FR HD
/-- totals by classes: for each total its classes, ascending -/
structure ByCls (ts : List (List Int)) (n : Nat) (ls : List (List Int)) : Prop where
  len : ls.length = ts.length
  rel : ∀ (j : Nat) c l, ts[j]? = some c → ls[j]? = some l → ∀ x : Int, x ∈ l ↔ ∃ k ∈ c, numV (classesL ts n) k = .int x
  asc : ∀ l ∈ ls, l.length ≤ 1000 ∧ l.Pairwise (· < ·)
def spTBC2 (K : PySem.W.Frag) (C : Addr) : Sp := fun vs H Q _ => ∃ (a : Addr) (ks : List Str) (ts : List (List Int)), vs = [.ref a] ∧ Tab K C H a ks ts ∧ ts.length ≤ 1000 ∧ ks.length ≤ 1000 ∧ (∀ c ∈ ts, c.length ≤ 60 ∧ ∀ x ∈ c, 0 ≤ x ∧ x < (ks.length : Int)) ∧
  ∀ H' u xs ls, Same H H' → H' u = some (.tup xs) → Tots K H' xs ls → ByCls ts ks.length ls → Q (.ref u) H'
/-- the names of the classes: those of their first kinds -/
def clsN (ks : List Str) (cs : List (List Int)) : List Str := cs.map fun c => ks.getD (c.getD 0 0).toNat Str.empty
def spMerged (K : PySem.W.Frag) (C R : Addr) : Sp := fun vs H Q E => ∃ (a : Addr) (ks : List Str) (ts : List (List Int)), vs = [.ref a] ∧ Tab K C H a ks ts ∧ TabOk ks ts ∧
  (classesL ts ks.length ≠ [] → ∀ ls, ByCls ts ks.length ls → TabOk (clsN ks (classesL ts ks.length)) ls ∧ spTabNew K C H Q (clsN ks (classesL ts ks.length)) ls) ∧
  (classesL ts ks.length = [] → ∀ H' x, Same H H' → H x = none → H' x = some (.xd [((("word" : String) : Str), .str (("kinds" : String) : Str))]) → E (.ref R) (some x) H')
/-- an ascending lot below n has at most n entries -/
theorem lot_small {n : Nat} {c : List Int} (h : LotOk (n : Int) c) : c.length ≤ n := by
  have pw : ∀ (c : List Int) (lo : Int), Asc c → (∀ x ∈ c, lo ≤ x ∧ x < (n : Int)) → (c.length : Int) ≤ (n : Int) - lo ∨ c = [] := by
    intro c
    induction c with
    | nil => intro lo _ _; exact .inr rfl
    | cons x r ih =>
      intro lo ha hb
      left
      have hx := hb x List.mem_cons_self
      cases r with
      | nil => simp; omega
      | cons y r2 =>
        have ha2 : x < y ∧ Asc (y :: r2) := ha
        have asc_all : ∀ (y : Int) (r : List Int), Asc (y :: r) → ∀ z ∈ y :: r, y ≤ z := by
          intro y r
          induction r generalizing y with
          | nil => intro _ z hz; rw [List.mem_singleton.mp hz]; exact Int.le_refl _
          | cons w r3 ih3 =>
            intro h3 z hz
            have h3 : y < w ∧ Asc (w :: r3) := h3
            rcases List.mem_cons.mp hz with e | m
            · rw [e]; exact Int.le_refl _
            · have := ih3 w h3.2 z m
              omega
        rcases ih (x + 1) ha2.2 (fun z hz => ⟨by have := asc_all y r2 ha2.2 z hz; omega, (hb z (List.mem_cons_of_mem _ hz)).2⟩) with q | q
        · rw [List.length_cons]
          omega
        · cases q
  rcases pw c 0 h.2.2 h.2.1 with q | q
  · omega
  · rw [q]; exact Nat.zero_le _
theorem TabOk.low {ks : List Str} {ts : List (List Int)} (h : TabOk ks ts) : ∀ c ∈ ts, c.length ≤ 60 ∧ ∀ x ∈ c, 0 ≤ x ∧ x < (ks.length : Int) := fun c hc =>
  ⟨by have := lot_small (h.lots c hc); have := h.kinds.2.1; omega, (h.lots c hc).2.1⟩
end CK
namespace K03
open PySem PySem.Spec PyProof.Rows L2 VG FR CK HD
abbrev s_merged : Stmt := topS 33
abbrev N_merged : List Str := ["table", "classes", "kinds"]
theorem sc_merged : FnScope N_merged ["table"] (defScope s_merged) := ⟨rfl, rfl, rfl, by decide +kernel, rfl, by decide +kernel, by decide +kernel⟩
section
variable {P : Program} {w : World} {K : PySem.W.Frag} {mg : Str → Option Value} {base : Heap}
theorem ok_totals_by_classes2 {f C : Addr} {fd : FuncData} (F : Fun K "totals_by_classes" "totals_by_classes" s_totals_by_classes f fd) (T : TabC K C) (C_class_numbers : Cl P w K mg base 3 "class_numbers" (spNumbers K C)) (z_tuple : mg "tuple" = none) (z_sorted : mg "sorted" = none) (z_set : mg "set" = none) :
    FnOk P w K mg base CX0 4 f fd ["table"] (spTBC2 K C) := by
  refine F.ok sc_totals_by_classes (fun vs H Q E h => ?_) (fun cdv A outer s H vs Q E hr h => ?_)
  · obtain ⟨_, _, _, rfl, _⟩ := h
    rfl
  · obtain ⟨a, ks, ts, rfl, hTab, lt, lk, ok, fin⟩ := h
    refine ⟨_, (pss_cons (ps_set (i := 1) sc_totals_by_classes.nd rfl (.inr rfl) (pe_cl C_class_numbers hr (by decide) rfl (pa_cons (pv 0) pa_nil)))
    (pss_one (ps_ret (pe_callTy call_tuple_of (by rfl) z_tuple (by decide +kernel) (pa_cons (pe_lc (own := [("total", 2)]) (by rfl) sc_totals_by_classes.nd (pi_tup (pe_fld (pv 0) (by rfl))) (blkOk_by (own := [("total", 2)]) (N := N_totals_by_classes) (sc := defScope s_totals_by_classes) (by decide +kernel)) (fun _ _ _ _ _ => (pg_name (i := 2) sc_totals_by_classes.nd rfl (.inl rfl))) (fun _ _ _ _ _ => pts_nil) (fun _ _ _ _ _ => (pe_callTy (show CallR _ (.type "tuple") (rTupOf K) from call_tupK) (by rfl) z_tuple (by decide +kernel) (pa_cons (pe_callB (show CallR _ (.builtin "sorted") (rSortedSet w) from cr_sortedSet rfl) (by rfl) z_sorted (by decide +kernel) (pa_cons (pe_callTy (show CallR _ (.type "set") (rSetL K w) from cr_setL rfl) (by rfl) z_set (by decide +kernel) (pa_cons (pe_lc (own := [("kind", 3)]) (by rfl) sc_totals_by_classes.nd (show PI _ _ _ (iTup K _) from pi_tup (pv 2)) (blkOk_by (own := [("kind", 3)]) (N := N_totals_by_classes) (sc := { kind := .function, names := [((".0" : String), .local), (("total" : String), .local), (("tuple" : String), .globalImplicit), (("sorted" : String), .globalImplicit), (("set" : String), .globalImplicit), (("numbers" : String), .cell)], isGenerator := false, isCoroutine := false }) (by decide +kernel)) (fun _ _ _ _ _ => (pg_name (i := 3) sc_totals_by_classes.nd rfl (.inl rfl))) (fun _ _ _ _ _ => pts_nil) (fun _ _ _ _ _ => (pe_ix (show IxR _ (rIxT K) from ix_tup) (pv 1) (pv 3) (fun _ _ => rfl)))) pa_nil)) pa_nil)) pa_nil)))) pa_nil))))), ?_⟩
    refine ⟨_, rfl, a, ks, ts, rfl, hTab, lt, lk, fun H1 u s1 nu hu => ?_⟩
    have hTab1 := hTab.mono s1
    obtain ⟨dx, k, t, ys, hO, hK, hS, hT⟩ := hTab1
    have ly := hT.len
    generalize hcs : classesL ts ks.length = cs at hu fin
    refine ⟨_, rfl, a, C, dx, _, .ref t, rfl, hO, T.c, T.nt, rfl, t, rfl, ⟨_, hS⟩, fun D nD => ?_⟩
    refine lc_it (walk_tup (K := K) (a := t) (xs := ys)) (fun i H' => Same H1 H' ∧ ∃ xs ls, H' D = some (.lst xs) ∧ Tots K H' xs ls ∧ ls.length = i ∧ (∀ (j : Nat) c l, ts[j]? = some c → ls[j]? = some l → ∀ x : Int, x ∈ l ↔ ∃ k ∈ c, numV cs k = .int x) ∧ ∀ l ∈ ls, l.length ≤ 1000 ∧ l.Pairwise (· < ·)) ⟨same_upd nD, [], [], upd_same, trivial, rfl, fun j c l _ h => by simp at h, fun l h => by cases h⟩ (fun i H' _ h => seqT h.1 hS) ?_ ?_
    · rintro i v H2 H3 hi ⟨sm2, xs, ls, hD, hx, hl, rel, small⟩ ⟨rfl, ex⟩
      obtain ⟨tt, c, rfl, ec, ht⟩ := hT.get ex
      have hcm := List.mem_of_getElem? ec
      have okc := ok c hcm
      refine ⟨rfl, _, rfl, tt, rfl, ⟨_, seqT sm2 ht⟩, fun L nL => ?_⟩
      have sL := same_upd (o := .lst []) nL
      refine lc_it (walk_tup (K := K) (a := tt) (xs := c.map V.int)) (fun i H' => Same H3 H' ∧ H' L = some (.lst (((c.map (numI cs)).take i).map V.int))) ⟨sL, upd_same⟩ (fun i H' _ h => seqT (sm2.trans h.1) ht) ?_ ?_
      · rintro j v H4 H5 hj ⟨sm4, hL⟩ ⟨rfl, ex2⟩
        rw [List.getElem?_map] at ex2
        obtain ⟨kk, ek, rfl⟩ := Option.map_eq_some_iff.mp ex2
        have kin := List.mem_of_getElem? ek
        have ⟨k0, k1⟩ := okc.2 kk kin
        have hu4 := (sm2.trans sm4) _ _ hu
        obtain ⟨m, rfl⟩ := Int.eq_ofNat_of_zero_le k0
        have hat : atI ((List.range ks.length).map fun j => numV cs ((j : Nat) : Int)) ((m : Nat) : Int) = some (.int (numI cs (m : Int))) := by
          refine atI_nat ?_
          rw [List.getElem?_map, List.getElem?_range (by omega)]
          show some (numV cs (m : Int)) = _
          rw [← hcs, num_int hcm okc.2 kin]
        refine ⟨rfl, _, rfl, _, rfl, u, _, _, _, rfl, rfl, .inl (.inl hu4), hat, _, hL, ?_, HD.same_put sm4 nL, ?_⟩
        · rw [List.length_map, List.length_take, List.length_map]
          have : sizeLine = 16777216 := by decide
          have := okc.1
          omega
        · rw [upd_same, List.take_add_one, List.getElem?_map, ek, List.map_append]
          rfl
      · rintro H4 ⟨sm4, hL⟩
        rw [List.take_of_length_le (by rw [List.length_map, List.length_map]; exact Nat.le_refl _)] at hL
        refine ⟨L, c.map (numI cs), rfl, .inl (.inl hL), by rw [List.length_map]; omega, fun p cnt np hcn => ?_⟩
        have sp := same_upd (o := SetO w p (fun j => decide (j ∈ c.map (numI cs))) cnt) np
        refine ⟨p, _, cnt, rfl, upd_same, by have := okc.1; rw [List.length_map] at hcn; omega, fun ns q pw mem ln nq => ?_⟩
        have sq := same_upd (o := .lst (ns.map V.int)) nq
        refine ⟨q, _, rfl, .inl ⟨.inl (.inl upd_same), fun r nr => ?_⟩⟩
        have sr := same_upd (o := .tup (ns.map V.int)) nr
        have s35 := ((sm4.trans sp).trans sq).trans sr
        have hD5 := s35 _ _ hD
        refine ⟨xs, hD5, ?_, HD.same_put (sm2.trans s35) nD, xs ++ [.ref r], ls ++ [ns], upd_same, ?_, by rw [List.length_append, hl]; rfl, ?_, ?_⟩
        · have := hx.len
          have : sizeLine = 16777216 := by decide
          have : i < ys.length := hi
          omega
        · exact Tots.upd hD5 (Tots.snoc (sqt upd_same) (hx.mono s35))
        · intro j c' l h1 h2 x
          rcases Nat.lt_or_ge j ls.length with z | z
          · rw [List.getElem?_append_left z] at h2
            exact rel j c' l h1 h2 x
          · rw [List.getElem?_append_right z] at h2
            have j0 : j - ls.length = 0 := by
              have := (List.getElem?_eq_some_iff.mp h2).1
              rw [List.length_singleton] at this
              omega
            rw [j0] at h2
            have e1 : ns = l := Option.some.inj h2
            have ji : j = i := by omega
            subst e1 ji
            have e2 : c' = c := Option.some.inj (h1.symm.trans ec)
            subst e2
            rw [mem x, decide_eq_true_eq, List.mem_map]
            constructor
            · rintro ⟨k, hk, e⟩
              refine ⟨k, hk, ?_⟩
              rw [← hcs] at e ⊢
              rw [num_int hcm okc.2 hk, e]
            · rintro ⟨k, hk, e⟩
              refine ⟨k, hk, ?_⟩
              rw [← hcs] at e ⊢
              rw [num_int hcm okc.2 hk] at e
              exact V.int.inj e
        · intro l hl2
          rcases List.mem_append.mp hl2 with z | z
          · exact small l z
          · have := List.mem_singleton.mp z
            subst this
            have := okc.1
            rw [List.length_map] at hcn
            exact ⟨by omega, pw⟩
    · rintro H2 ⟨sm2, xs, ls, hD, hx, hl, rel, small⟩
      refine ⟨D, xs, rfl, .inl ⟨.inl (.inl hD), fun r nr => ?_⟩⟩
      have sr := same_upd (o := .tup xs) nr
      exact fin _ r xs ls (s1.trans (sm2.trans sr)) upd_same (hx.mono sr) ⟨by omega, by rw [hcs]; exact rel, small⟩
theorem ok_merged {f fi C R : Addr} {fd fdi : FuncData} (F : Fun K "merged" "merged" s_merged f fd) (T : TabC K C) (T_Table : MkT P w K mg base 7 "Table" C (spInitT K C)) (C_classes_of : Cl P w K mg base 2 "classes_of" (spClasses K C)) (C_totals_by_classes : Cl P w K mg base 4 "totals_by_classes" (spTBC2 K C))
    (e_Refused : ErrC K mg "Refused" R fi) (i_Refused : FnOk P w K mg base CX0 1 fi fdi ["self", "word"] (spInitW K R "word")) (b_Refused : Binds K fdi ["self", "word"] []) (z_tuple : mg "tuple" = none) :
    FnOk P w K mg base (L2.CX P w) 9 f fd ["table"] (spMerged K C R) := by
  refine F.okX sc_merged (fun vs H Q E h => ?_) (fun cdv A outer s H vs Q E hr h => ?_)
  · obtain ⟨_, _, _, rfl, _⟩ := h
    rfl
  · obtain ⟨a, ks, ts, rfl, hTab, ok, fin, err⟩ := h
    refine ⟨_, (pss_cons (ps_set (i := 1) sc_merged.nd rfl (.inl rfl) (pe_cl C_classes_of hr (by decide) rfl (pa_cons (pv 0) pa_nil)))
    (pss_cons (ps_if (pt_not (pt_truth (pv 1) (by intro _; rfl)))
      (pss_one (ps_raise rfl (takes_of rfl rfl rfl rfl) (pmk_oex e_Refused.o e_Refused.iC e_Refused.tI i_Refused (hr.mono (by decide)) b_Refused .nil pass0 rfl e_Refused.gC (pa_cons pe_str pa_nil))))
      pss_nil)
    (pss_one (ps_ret (pe_mt T_Table hr (by decide) rfl (pa_cons (pe_callTy call_tuple_of (by rfl) z_tuple (by decide +kernel) (pa_cons (pe_lc (own := [("kinds", 2)]) (by rfl) sc_merged.nd (pi_tup (pv 1)) (blkOk_by (own := [("kinds", 2)]) (N := N_merged) (sc := defScope s_merged) (by decide +kernel)) (fun _ _ _ _ _ => (pg_name (i := 2) sc_merged.nd rfl (.inl rfl))) (fun _ _ _ _ _ => pts_nil) (fun _ _ _ _ _ => (pe_ix (show IxR _ (rIxT K) from ix_tup) (show PE _ _ (tFld K (tVar 0) _) from pe_fld (pv 0) (by rfl)) (pe_ix (show IxR _ (rIxT K) from ix_tup) (pv 2) pe_int (fun _ _ => rfl)) (fun _ _ => rfl)))) pa_nil)) (pa_cons (pe_cl C_totals_by_classes hr (by decide) rfl (pa_cons (pv 0) pa_nil)) pa_nil))))))), ?_⟩
    have l12 := ok.len
    have big : sizeLine = 16777216 := by decide
    have k12 := ok.kinds.2.1
    refine ⟨_, rfl, a, ks, ts, rfl, hTab, by omega, by omega, fun H1 cl us s1 ncl kcl hu => ?_⟩
    have lu := hu.len
    have hTab1 := hTab.mono s1
    have ⟨cl1, cl2⟩ := classes_len ts ks.length
    refine ⟨_, rfl, !us.isEmpty, .inr (.inl ⟨_, sqt kcl, rfl⟩), ?_⟩
    by_cases hne : classesL ts ks.length = []
    · have e : us = [] := List.eq_nil_of_length_eq_zero (by rw [lu, hne]; rfl)
      subst e
      exact iteT (raised fun H' x s2 nx hx => err hne H' x (s1.trans s2) (s1.free nx) hx)
    · have e : us.isEmpty = false := by
        cases us with
        | nil => exact absurd (List.eq_nil_of_length_eq_zero lu.symm) hne
        | cons _ _ => rfl
      rw [e]
      refine iteF ?_
      have fin := fin hne
      obtain ⟨dx, k, t, xs, hO, hK, hS, hT⟩ := hTab1
      refine ⟨_, rfl, cl, rfl, ⟨_, sqt kcl⟩, fun D nD => ?_⟩
      refine lc_it (walk_tup (K := K) (a := cl) (xs := us)) (fun i H' => Same H1 H' ∧ H' D = some (.lst ((clsN ks ((classesL ts ks.length).take i)).map V.str))) ⟨same_upd nD, upd_same⟩ (fun i H' _ h => seqT h.1 (sqt kcl)) ?_ ?_
      · rintro i v H2 H3 hi ⟨sm, hD⟩ ⟨rfl, ex⟩
        obtain ⟨tt, c, rfl, ec, ht⟩ := hu.get ex
        have hcm := List.mem_of_getElem? ec
        have cne := cls_ne c hcm
        cases c with
        | nil => exact absurd rfl cne
        | cons c0 cr =>
          obtain ⟨j, hj, rfl⟩ := classes_below hcm List.mem_cons_self
          have ej : ks[j]? = some (ks.getD j Str.empty) := by
            rw [List.getD_eq_getElem?_getD, List.getElem?_eq_getElem hj]
            rfl
          refine ⟨rfl, _, rfl, a, C, dx, _, .ref k, rfl, sm _ _ hO, T.c, T.nk, rfl, _, rfl, tt, _, _, .int (j : Int), rfl, rfl, seqT sm ht, at00 _ _, k, _, _, .str (ks.getD j Str.empty), rfl, rfl, seqT sm hK, atI_nat (j := j) (by rw [List.getElem?_map, ej]; rfl), _, hD, ?_, HD.same_put sm nD, ?_⟩
          · unfold clsN
            rw [List.length_map, List.length_map, List.length_take]
            omega
          · unfold clsN
            rw [upd_same, List.take_add_one, ec, List.map_append, List.map_append]
            rfl
      · rintro H2 ⟨sm, hD⟩
        rw [lu, List.take_length] at hD
        refine ⟨D, _, rfl, .inl ⟨.inl (.inl hD), fun n2 nn => ?_⟩⟩
        have sn := same_upd (o := .tup ((clsN ks (classesL ts ks.length)).map V.str)) nn
        have kn := upd_same (H := H2) (a := n2) (o := .tup ((clsN ks (classesL ts ks.length)).map V.str))
        have s13 := s1.trans (sm.trans sn)
        generalize L2.upd H2 n2 (.tup ((clsN ks (classesL ts ks.length)).map V.str)) = H3 at sn kn s13 ⊢
        refine ⟨_, rfl, a, ks, ts, rfl, hTab.mono s13, by omega, by omega, ok.low, fun H4 r zs ls s4 kr hz by_ => ?_⟩
        obtain ⟨okN, fin⟩ := fin ls by_
        refine fun x dx2 nx nd ne => tab_made (seqT s4 (sqt kn)) okN.kinds (sqt kr) hz okN.len okN.lots nx nd ne fun H5 s5 tab na => ?_
        exact fin H5 x (s13.trans (s4.trans s5)) ((s13.trans s4).free na) tab
end
end K03
namespace K03
open PySem PySem.Spec PyProof.Rows L2 VG FR CK HD
/-- what is known of `_law_heard` and of the error that it hears -/
structure Hrd (K : PySem.W.Frag) (mg : Str → Option Value) (C : Addr) : Prop where
  ex : ∃ (g Ct Ci : Addr) (fd : FuncData), Fun K "_law_heard" "_law_heard" s__law_heard g fd ∧ mg "_law_heard" = some (.ref g) ∧ mg "Refused" = some (.ref C) ∧ mg "TillError" = some (.ref Ct) ∧ mg "InvalidTable" = some (.ref Ci) ∧
    PySem.W.kitOne K (.ref C) (.ref Ct) = some true ∧ PySem.W.kitOne K (.ref C) (.ref Ci) = some false
  xf : XfC K C
  nw : PySem.W.findIn K (.ref C) "word" = some none
  te : PySem.W.exmOne K (.ref C) (.ref C) = some true
  exC : ExcC K C
  zi : mg "isinstance" = none
/-- the name of a def's lambdas -/
def lamQ (q : Str) : Str := q ++ "<lambda>"
/-- _law_heard(lambda: body) -/
theorem pe_heard {X : Cx} {C : Addr} {T : List (Addr × Str)} {c P : Addr} {k : Nat} {params : Arguments} {body : Expr} {scope : Scope} {t : XK → TE} {p lpos pos : Pos} (hd : Hrd X.K X.mg C) (hg : Gl X "_law_heard")
    (TB : LamX.TabB X.base X.mg c P) (code : X.env.code = .ref c) (inT : (P, lamQ X.env.qual) ∈ T) (oneT : ∀ p ∈ T, p.1 = P → p.2 = lamQ X.env.qual) (room : Room (k + 2) X.A) (L : LamX.LamS X.env.scope scope) (plain : defaultsOf params X.env = ([], []))
    (bind : ∀ (q : Str) (cl : List (Str × Addr)) (pm cv ctv : Value), bindArgs (PySem.W.kla_fn "<lambda>" q params body scope cl pm cv ctv) ⟨[], []⟩ = pure [])
    (run : ∀ (A : Around) (outer : List Env) (s : Shared) (H : Hp) (E : XK) (f c' : Addr), Room k (A.deeper (LamX.lamEnv X scope s.heap.objs.size f c')) → PE (LamX.lamCx X A outer s H E scope f c') body (t E)) :
    PE X (.Call (.Name "_law_heard" p) [.Lambda params body scope lpos] [] pos) (LamX.tLam T (THeard C) t) := by
  obtain ⟨g, Ct, Ci, fd, F, mg, mR, mT, mI, k1, k2⟩ := hd.ex
  have binds := F.binds (ps := ["action"]) (fun _ _ _ _ _ _ us hl => match us, hl with | [_], _ => rfl)
  have kp := F.kp
  obtain ⟨oc, od, kV, doc, pm, an, cdv, ct, osl, rfl, lk, hcd⟩ := F.ex
  exact LamX.pe_lamcall (Ng := N__law_heard) (a := "action") hg mg kp lk hcd binds sc__law_heard rfl (Or.inl rfl) (heard_gives mR mT mI hd.xf hd.nw hd.te hd.exC k1 k2 hd.zi) TB code inT oneT room L plain bind run
end K03
namespace CK
open PySem PySem.Spec PyProof.Rows L2 VG FR HD
/-- a tuple's items in any sequence, drawn -/
def spMixed (K : PySem.W.Frag) : Sp := fun vs H Q _ => ∃ (p q l : Addr) (xs : List V), vs = [.ref p, .ref l] ∧ Hd p q H ∧ SqT K H l xs ∧ l ≠ p ∧ l ≠ q ∧ xs.length < 1000 ∧
  ∀ (H' : Hp) (u : Addr) (ys : List V), On p q (frz p q H) H' → H u = none → u ≠ p ∧ u ≠ q → H' u = some (.lst ys) → ys.Perm xs → Q (.ref u) H'
end CK
namespace K03
open PySem PySem.Spec PyProof.Rows L2 VG FR CK HD
abbrev s__law_mixed : Stmt := topS 39
abbrev N__law_mixed : List Str := ["heap", "some", "left", "found", "turn"]
theorem sc__law_mixed : FnScope N__law_mixed ["heap", "some"] (defScope s__law_mixed) := ⟨rfl, rfl, rfl, by decide +kernel, rfl, by decide +kernel, by decide +kernel⟩
section
variable {P : Program} {w : World} {K : PySem.W.Frag} {mg : Str → Option Value} {base : Heap}
theorem ok__law_mixed {f : Addr} {fd : FuncData} (F : Fun K "_law_mixed" "_law_mixed" s__law_mixed f fd) (C__law_draw : Cl P w K mg base 1 "_law_draw" spDraw) (z_len : mg "len" = none) (z_list : mg "list" = none) (z_range : mg "range" = none) :
    FnOk P w K mg base CX0 2 f fd ["heap", "some"] (spMixed K) := by
  refine F.ok sc__law_mixed (fun vs H Q E h => ?_) (fun cdv A outer s H vs Q E hr h => ?_)
  · obtain ⟨p, q, l, xs, rfl, _⟩ := h
    rfl
  · obtain ⟨p, q, l, xs, rfl, hd, hl, n1, n2, hx, fin⟩ := h
    refine ⟨_, (pss_cons (ps_par (i := 2) (j := 3) (by rfl) sc__law_mixed.nd rfl rfl (by decide) rfl rfl (pa_cons (pe_callTy call_list_of (by rfl) z_list (by decide +kernel) (pa_cons (pv 1) pa_nil)) (pa_cons (pe_lst pa_nil) pa_nil)) (by rfl))
    (pss_cut (ps_for PassesOwn.never rfl (pi_range1 (by rfl) z_range (pa_cons (pe_callB call_len_seq (by rfl) z_len (by decide +kernel) (pa_cons (pv 1) pa_nil)) pa_nil)) (pg_name (i := 4) sc__law_mixed.nd rfl (.inl rfl))
      (pss_one (ps_expr (pe_bm PySem.F.plainAttrs_list PySem.F.slot_list_append PySem.F.type_list_append mt_append (pv 3) (pa_cons (pe_bm PySem.F.plainAttrs_list PySem.F.slot_list_pop PySem.F.type_list_pop mt_popAt (pv 2) (pa_cons (pe_cl C__law_draw hr (by decide) rfl (pa_cons (pv 0) (pa_cons (pe_callB call_len_seq (by rfl) z_len (by decide +kernel) (pa_cons (pv 2) pa_nil)) pa_nil))) pa_nil)) pa_nil)))))
    (pss_one (ps_ret (pv 3))))), ?_⟩
    have on0 := On.start hd
    refine ⟨_, rfl, l, xs, rfl, .inr hl, fun L nL => ?_⟩
    have fL := on0.free nL
    have on1 := on0.new (o := .lst xs) nL
    have sL := same_upd (o := .lst xs) nL
    have hL := upd_same (H := H) (a := L) (o := .lst xs)
    generalize L2.upd H L (.lst xs) = H1 at on1 sL hL ⊢
    refine ⟨by show 0 ≤ sizeLine; exact Nat.zero_le _, fun D nD => ?_⟩
    have fD := on1.free nD
    have on2 := on1.new (o := .lst []) nD
    have sD := same_upd (o := .lst []) nD
    have hD := upd_same (H := H1) (a := D) (o := .lst [])
    have nLD : L ≠ D := ne_of_none hL nD
    have hDn : H D = none := sL.free nD
    have hL2 := sD _ _ hL
    have hl2 := seqT sD (seqT sL hl)
    generalize L2.upd H1 D (.lst []) = H2 at on2 hD hL2 hl2 ⊢
    refine ⟨_, _, rfl, ?_⟩
    refine ⟨fun σ H' => (∃ y : Option V, σ = [some (.ref p), some (.ref l), some (.ref L), some (.ref D), y]) ∧ On p q (frz p q H) H' ∧ ∃ ys : List V, H' D = some (.lst ys) ∧ ys.Perm xs, ?_, ?_⟩
    · refine ⟨_, rfl, l, xs, rfl, .inr hl2, _, rfl, by omega, by omega, ?_⟩
      refine for_it (walk_range (lo := 0) (n := ((xs.length : Nat) : Int).toNat)) (fun i σ H' => (∃ y : Option V, σ = [some (.ref p), some (.ref l), some (.ref L), some (.ref D), y]) ∧ On p q (frz p q H) H' ∧ ∃ ls fs : List V, H' L = some (.lst ls) ∧ H' D = some (.lst fs) ∧ (ls ++ fs).Perm xs ∧ fs.length = i) ⟨⟨_, rfl⟩, on2, xs, [], hL2, hD, by rw [List.append_nil], rfl⟩ (fun _ _ _ _ _ => trivial) ?_ ?_
      · rintro i x σ H3 H4 hi ⟨⟨y, rfl⟩, on3, ls, fs, kL, kD, pm, lf⟩ ⟨rfl, rfl⟩
        have pl := pm.length_eq
        rw [List.length_append] at pl
        have hi2 : i < xs.length := by
          have : i < ((xs.length : Nat) : Int).toNat := hi
          omega
        refine ⟨_, rfl, .inl ⟨rfl, _, .inl (.inl kD)⟩, ?_⟩
        refine ⟨_, rfl, .inl ⟨rfl, _, .inl (.inl kL)⟩, _, rfl, _, rfl, L, ls, rfl, .inl (.inl (.inl kL)), p, q, _, rfl, on3.hd, by omega, by omega, fun H5 r hd5 kp5 r0 r1 => ?_⟩
        have on5 := on3.draw hd5 kp5
        obtain ⟨k, rfl⟩ := Int.eq_ofNat_of_zero_le r0
        have hk : k < ls.length := by omega
        have kL5 := kp5 L _ fL.1 fL.2.1 kL
        have kD5 := kp5 D _ fD.1 fD.2.1 kD
        have ey : ls[k]? = some ls[k] := List.getElem?_eq_getElem hk
        refine ⟨L, ls, _, k, ls[k], rfl, rfl, kL5, by omega, by omega, atN hk, ey, ?_⟩
        have on6 := on5.put (o := .lst (ls.eraseIdx k)) (D := L) ⟨fL.1, fL.2.1, fL.2.2⟩
        have kL6 := upd_same (H := H5) (a := L) (o := .lst (ls.eraseIdx k))
        have kD6 : L2.upd H5 L (.lst (ls.eraseIdx k)) D = some (.lst fs) := by
          rw [upd_ne nLD.symm]
          exact kD5
        refine ⟨D, fs, _, rfl, rfl, kD6, ?_, ?_⟩
        · have : sizeLine = 16777216 := by decide
          omega
        · refine ⟨⟨_, rfl⟩, on6.put ⟨fD.1, fD.2.1, by cases e : frz p q H D with
            | none => rfl
            | some o => have := (frz_cases e).2.2; rw [hDn] at this; cases this⟩, ls.eraseIdx k, fs ++ [ls[k]], ?_, upd_same, perm_move pm ey, by rw [List.length_append, lf]; rfl⟩
          rw [upd_ne nLD]
          exact kL6
      · rintro σ H3 ⟨⟨y, rfl⟩, on3, ls, fs, kL, kD, pm, lf⟩
        have pl := pm.length_eq
        rw [List.length_append] at pl
        have l0 : ls = [] := List.eq_nil_of_length_eq_zero (by omega)
        subst l0
        exact ⟨⟨_, rfl⟩, on3, fs, kD, pm⟩
    · rintro σ H3 ⟨⟨y, rfl⟩, on3, ys, kD, pm⟩
      exact ⟨_, rfl, fin H3 D ys on3 hDn ⟨fD.1, fD.2.1⟩ kD pm⟩
end
end K03
namespace CK
open PySem PySem.Spec PyProof.Rows L2 VG FR HD
def dS1 (ks : List Str) : PyData := .tuple (ks.map PyData.str)
def dT1 (ts : List (List Int)) : PyData := .tuple (ts.map dI)
theorem dpAll_strs {K : PySem.W.Frag} {H : Hp} : ∀ (ks : List Str), DpAll K H (ks.map V.str) (ks.map PyData.str)
  | [] => .nil
  | k :: r => .cons (.str k) (dpAll_strs r)
theorem tup_either {K : PySem.W.Frag} {H : Hp} {k : Addr} {xs : List V} {Q : VK} (h : SqL K H k xs ∨ SqT K H k xs) (fin : ∀ H' u, Same H H' → SqT K H' u xs → Q (.ref u) H') :
    ∃ p ys, ([V.ref k] : List V) = [V.ref p] ∧ ((SqL K H p ys ∧ ∀ l, H l = none → Q (.ref l) (L2.upd H l (.tup ys))) ∨ (SqT K H p ys ∧ Q (.ref p) H)) := by
  rcases h with h | h
  · exact ⟨k, xs, rfl, .inl ⟨h, fun l nl => fin _ l (same_upd nl) (sqt upd_same)⟩⟩
  · exact ⟨k, xs, rfl, .inr ⟨h, fin H k (Same.refl _) h⟩⟩
theorem same_or {K : PySem.W.Frag} {H H' : Hp} {k : Addr} {xs : List V} (s : Same H H') (h : SqL K H k xs ∨ SqT K H k xs) : SqL K H' k xs ∨ SqT K H' k xs := h.elim (fun z => .inl (s.seq z)) fun z => .inr (seqT s z)
def rTupE (K : PySem.W.Frag) : List V → Hp → VK → Prop := fun vs H Q => ∃ (k : Addr) (xs : List V), vs = [.ref k] ∧ (SqL K H k xs ∨ SqT K H k xs) ∧ ∀ H' u, Same H H' → SqT K H' u xs → Q (.ref u) H'
theorem call_tupE {X : Cx} : CallR X (.type "tuple") (rTupE X.K) := fun pins s σ H vs us Q I rv h => by
  obtain ⟨k, xs, rfl, h1, h2⟩ := h
  exact call_tuple_of pins s σ H _ us Q I rv (tup_either h1 h2)
/-- what is told of a table, its names and totals, when it is right -/
def spIs (K : PySem.W.Frag) (C : Addr) : Sp := fun vs H Q _ => ∃ (a k t : Addr) (ks : List Str) (ts : List (List Int)) (xs : List V), vs = [.ref a, .ref k, .ref t] ∧ Tab K C H a ks ts ∧ (SqL K H k (ks.map V.str) ∨ SqT K H k (ks.map V.str)) ∧
  (SqL K H t xs ∨ SqT K H t xs) ∧ Tots K H xs ts ∧ ks.length ≤ 12 ∧ ts.length ≤ 12 ∧ Shn (.tuple [dS1 ks, dT1 ts]) 3 10000 ∧ ∀ H', Same H H' → Q (.bl true) H'
end CK
namespace K03
open PySem PySem.Spec PyProof.Rows L2 VG FR CK HD
abbrev s__law_is : Stmt := topS 43
abbrev N__law_is : List Str := ["told", "kinds", "totals"]
theorem sc__law_is : FnScope N__law_is ["told", "kinds", "totals"] (defScope s__law_is) := ⟨rfl, rfl, rfl, by decide +kernel, rfl, by decide +kernel, by decide +kernel⟩
section
variable {P : Program} {w : World} {K : PySem.W.Frag} {mg : Str → Option Value} {base : Heap}
theorem ok__law_is {f C : Addr} {fd : FuncData} (F : Fun K "_law_is" "_law_is" s__law_is f fd) (TC : TabC K C) (m_Table : mg "Table" = some (.ref C)) (isT : ∀ (H : Hp) (a dx : Addr) (fs : List (Str × V)), H a = some (.ins C dx fs) → TyX K H (.ref a) (.ref C)) (kT : PySem.W.kitOne K (.ref C) (.ref C) = some true)
    (z_isinstance : mg "isinstance" = none) (z_repr : mg "repr" = none) (z_tuple : mg "tuple" = none) : FnG P w K mg base 1 f fd ["told", "kinds", "totals"] (spIs K C) := by
  refine fnG_of F sc__law_is (fun vs H Q E h => ?_) (fun cdv A outer s H vs Q E hg hr h => ?_)
  · obtain ⟨_, _, _, _, _, _, rfl, _⟩ := h
    rfl
  · obtain ⟨a, k, t, ks, ts, xs, rfl, ⟨dx, kk, tt, us, hO, hK, hS, hT⟩, hk, ht, hX, lk, lt, sh, fin⟩ := h
    refine ⟨_, (pss_one (ps_ret (pe_and (pe_callB call_isi (by rfl) z_isinstance (by decide +kernel) (pa_cons (pv 0) (pa_cons (pe_glob (v := .ref C) rfl m_Table rfl) pa_nil))) (pe_one (pe_cmpR op_eq (pe_callB (cr_repr hg hr.units) (by rfl) z_repr (by decide +kernel) (pa_cons (pe_tup (pa_cons (pe_fld (pv 0) (by rfl)) (pa_cons (pe_fld (pv 0) (by rfl)) pa_nil))) pa_nil)) (pe_callB (cr_repr hg hr.units) (by rfl) z_repr (by decide +kernel) (pa_cons (pe_tup (pa_cons (pe_callTy call_tupE (by rfl) z_tuple (by decide +kernel) (pa_cons (pv 1) pa_nil)) (pa_cons (pe_callTy call_tupE (by rfl) z_tuple (by decide +kernel) (pa_cons (pv 2) pa_nil)) pa_nil))) pa_nil)) (nomark _)))))), ?_⟩
    have lx := hX.len
    have big : sizeLine = 16777216 := by decide
    refine ⟨_, rfl, _, _, _, _, true, rfl, .own C, isT H a dx _ hO, kT, true, rfl, iteT ?_⟩
    refine ⟨_, rfl, a, C, dx, _, .ref kk, rfl, hO, TC.c, TC.nk, rfl, ?_⟩
    refine ⟨_, rfl, a, C, dx, _, .ref tt, rfl, hO, TC.c, TC.nt, rfl, ?_⟩
    refine ⟨by show 2 ≤ sizeLine; decide, fun z nz => ?_⟩
    have s1 := same_upd (o := .tup [.ref kk, .ref tt]) nz
    have kz := upd_same (H := H) (a := z) (o := .tup [.ref kk, .ref tt])
    generalize L2.upd H z (.tup [.ref kk, .ref tt]) = H1 at s1 kz ⊢
    have d1 : Dp K H1 (.ref z) (.tuple [dS1 ks, dT1 ts]) := .tup (sqt kz) (.cons (.tup (seqT s1 hK) (dpAll_strs ks)) (.cons (.tup (seqT s1 hS) (dpAll_tots (hT.mono s1))) .nil))
    refine ⟨z, _, rfl, d1, sh.1, sh.2.1, by have := sh.2.2.1; omega, by have := sh.2.2.2; omega, ?_⟩
    refine ⟨_, rfl, k, _, rfl, same_or s1 hk, fun H2 u s2 hu => ?_⟩
    refine ⟨_, rfl, t, _, rfl, same_or (s1.trans s2) ht, fun H3 v s3 hv => ?_⟩
    refine ⟨by show 2 ≤ sizeLine; decide, fun y ny => ?_⟩
    have s4 := same_upd (o := .tup [.ref u, .ref v]) ny
    have ky := upd_same (H := H3) (a := y) (o := .tup [.ref u, .ref v])
    generalize L2.upd H3 y (.tup [.ref u, .ref v]) = H4 at s4 ky ⊢
    have d2 : Dp K H4 (.ref y) (.tuple [dS1 ks, dT1 ts]) := .tup (sqt ky) (.cons (.tup (seqT (s3.trans s4) hu) (dpAll_strs ks)) (.cons (.tup (seqT s4 hv) (dpAll_tots (hX.mono (s1.trans (s2.trans (s3.trans s4)))))) .nil))
    refine ⟨y, _, rfl, d2, sh.1, sh.2.1, by have := sh.2.2.1; omega, by have := sh.2.2.2; omega, rfl, ?_⟩
    have q := fin H4 (s1.trans (s2.trans (s3.trans s4)))
    rw [← show (V.bl (decide (V.str (PyData.shown (.tuple [dS1 ks, dT1 ts])) = V.str (PyData.shown (.tuple [dS1 ks, dT1 ts]))))) = V.bl true from congrArg V.bl (decide_eq_true rfl)] at q
    exact q
end
end K03
namespace CK
open PySem PySem.Spec PyProof.Rows L2 VG FR HD
theorem Shn.more {d : PyData} {k B k2 B2 : Nat} (h : Shn d k B) (hk : k ≤ k2) (hB : B ≤ B2) : Shn d k2 B2 := ⟨h.1, h.2.1, Nat.le_trans h.2.2.1 hk, Nat.le_trans h.2.2.2 hB⟩
theorem shn_word {z : Str} (h : NameOk z) : Shn (.str z) 0 300 := by
  refine ⟨by simp [PyData.showable], by simp [PyData.hasDict], by simp [PyData.depth], ?_⟩
  have ls : (PyData.str z).leavesShort 8 = true := by
    show (z.cps.toList.all fun c => decide (c < 16 ^ 8)) = true
    rw [List.all_eq_true]
    intro c hc
    have := (h.2.2 c hc).2
    exact decide_eq_true (by omega)
  have := PyData.shown_le 8 (by decide) (.str z) ls
  have h6 := h.2.1
  have w : (PyData.str z).weight ≤ 6 * 4 + 5 := by
    simp [PyData.weight]
    have : z.length = z.cps.size := rfl
    omega
  have m : (8 + 2) * (PyData.str z).weight ≤ (8 + 2) * 29 := Nat.mul_le_mul_left _ w
  omega
theorem shn_table {ks : List Str} {ts : List (List Int)} (ok : TabOk ks ts) : Shn (.tuple [dS1 ks, dT1 ts]) 3 10000 := by
  have h1 : Shn (dS1 ks) 1 ((300 + 2) * 12 + 2) := shn_tup (k := 0) (B := 300) (fun d hd => by
    obtain ⟨z, hz, rfl⟩ := List.mem_map.mp hd
    exact shn_word (ok.kinds.2.2.1 z hz)) (by rw [List.length_map]; exact ok.kinds.2.1)
  have h2 : Shn (dT1 ts) 2 ((326 + 2) * 12 + 2) := shn_tup (k := 1) (B := 326) (fun d hd => by
    obtain ⟨c, hc, rfl⟩ := List.mem_map.mp hd
    have hl := ok.lots c hc
    have := lot_small hl
    have k12 := ok.kinds.2.1
    refine shn_dI (n := 12) (fun x hx => ?_) (by omega)
    have ⟨x0, x1⟩ := hl.2.1 x hx
    have : (2 : Nat) ^ 24 = 16777216 := by decide
    omega) (by rw [List.length_map]; exact ok.len)
  refine (shn_tup (k := 2) (B := 3938) (n := 2) (ds := [dS1 ks, dT1 ts]) (fun d hd => ?_) (by show 2 ≤ 2; decide)).more (Nat.le_refl _) (by decide)
  rcases List.mem_cons.mp hd with e | m
  · rw [e]
    exact h1.more (by decide) (by decide)
  · rw [List.mem_singleton.mp m]
    exact h2.more (by decide) (by decide)
end CK
namespace CK
open PySem PySem.Spec PyProof.Rows L2 VG FR HD
def hd0 (c : List Int) : Int := c.getD 0 0
theorem pick_add (P : Nat → Bool) (n : Nat) : pick P (n + 1) = pick P n ++ (if P n = true then [(n : Int)] else []) := by
  unfold pick
  rw [List.range_succ, List.filter_append, List.map_append]
  cases h : P n with
  | true =>
    have e : [n].filter P = [n] := by simp only [List.filter_cons, h, if_true, List.filter_nil]
    rw [e]
    rfl
  | false =>
    have e : [n].filter P = [] := by simp only [List.filter_cons, h, Bool.false_eq_true, if_false, List.filter_nil]
    rw [e]
    rfl
theorem hd0_app {a b : List Int} (h : a ≠ []) : hd0 (a ++ b) = hd0 a := by
  cases a with
  | nil => exact absurd rfl h
  | cons x r => rfl
theorem pick_ne {f : Nat → List Int} {n : Nat} {c : List Int} (h : c ∈ keysOf f n) : pick (memb f c) n ≠ [] := by
  obtain ⟨j, hj, e⟩ := keys_from f h
  intro z
  have m : ((j : Nat) : Int) ∈ pick (memb f c) n := mem_pick.mpr ⟨j, hj, decide_eq_true e, rfl⟩
  rw [z] at m
  cases m
theorem head_keep {f : Nat → List Int} {n : Nat} {c : List Int} (h : c ∈ keysOf f n) : hd0 (pick (memb f c) (n + 1)) = hd0 (pick (memb f c) n) := by
  rw [pick_add, hd0_app (pick_ne h)]
theorem heads_asc (f : Nat → List Int) : ∀ n, ((keysOf f n).Pairwise fun a b => hd0 (pick (memb f a) n) < hd0 (pick (memb f b) n)) ∧ ∀ c ∈ keysOf f n, hd0 (pick (memb f c) n) < (n : Int)
  | 0 => ⟨List.Pairwise.nil, fun c h => by cases h⟩
  | n + 1 => by
    obtain ⟨i1, i2⟩ := heads_asc f n
    unfold keysOf
    by_cases e : f n ∈ keysOf f n
    · rw [if_pos e]
      refine ⟨List.Pairwise.imp_of_mem (fun ha hb h => ?_) i1, fun c h => ?_⟩
      · rw [head_keep ha, head_keep hb]
        exact h
      · rw [head_keep h]
        have := i2 c h
        omega
    · rw [if_neg e]
      have new : hd0 (pick (memb f (f n)) (n + 1)) = (n : Int) := by
        have z : pick (memb f (f n)) n = [] := pick_nil fun j hj => decide_eq_false fun q => e (by rw [← q]; exact keys_mem f hj)
        rw [pick_add, z, if_pos (show memb f (f n) n = true from decide_eq_true rfl)]
        rfl
      refine ⟨List.pairwise_append.mpr ⟨List.Pairwise.imp_of_mem (fun ha hb h => ?_) i1, List.pairwise_singleton _ _, fun a ha b hb => ?_⟩, fun c h => ?_⟩
      · rw [head_keep ha, head_keep hb]
        exact h
      · rw [List.mem_singleton.mp hb, new, head_keep ha]
        exact i2 a ha
      · rcases List.mem_append.mp h with m | m
        · rw [head_keep m]
          have := i2 c m
          omega
        · rw [List.mem_singleton.mp m, new]
          omega
theorem cls_heads (ts : List (List Int)) (n : Nat) : (classesL ts n).Pairwise fun a b => hd0 a < hd0 b := by
  rw [classesL]
  exact List.pairwise_map.mpr ((heads_asc (fT ts) n).1.filter _)
theorem asc_far {ks : List Str} (h : AscS ks) : ∀ (d i : Nat) (a b : Str), ks[i]? = some a → ks[i + d + 1]? = some b → a.cps.toList < b.cps.toList
  | 0, i, a, b, ha, hb => h i a b ha hb
  | d + 1, i, a, b, ha, hb => by
    have lt : i + d + 1 < ks.length := by
      have := (List.getElem?_eq_some_iff.mp hb).1
      omega
    have hm : ks[i + d + 1]? = some ks[i + d + 1] := List.getElem?_eq_getElem lt
    exact List.lt_trans (asc_far h d i a _ ha hm) (h (i + d + 1) _ b hm hb)
theorem cls_first {ts : List (List Int)} {n : Nat} {c : List Int} (h : c ∈ classesL ts n) : ∃ j : Nat, j < n ∧ hd0 c = (j : Int) := by
  have ne := cls_ne c h
  cases c with
  | nil => exact absurd rfl ne
  | cons x r =>
    obtain ⟨j, hj, e⟩ := classes_below h List.mem_cons_self
    exact ⟨j, hj, e⟩
theorem nameD_at {ks : List Str} {j : Nat} (h : j < ks.length) : ks[j]? = some (ks.getD j Str.empty) := by
  rw [List.getD_eq_getElem?_getD, List.getElem?_eq_getElem h]
  rfl
theorem cls_names {ks : List Str} {ts : List (List Int)} (ok : KindsOk ks) (ne : classesL ts ks.length ≠ []) : KindsOk (clsN ks (classesL ts ks.length)) := by
  have ⟨cl1, _⟩ := classes_len ts ks.length
  have k12 := ok.2.1
  refine ⟨?_, ?_, fun z hz => ?_, fun i a b ha hb => ?_⟩
  · unfold clsN
    rw [List.length_map]
    exact List.length_pos_iff.mpr ne
  · unfold clsN
    rw [List.length_map]
    omega
  · obtain ⟨c, hc, rfl⟩ := List.mem_map.mp hz
    obtain ⟨j, hj, e⟩ := cls_first hc
    show NameOk (ks.getD (hd0 c).toNat Str.empty)
    rw [e]
    exact ok.2.2.1 _ (List.mem_of_getElem? (nameD_at (j := j) hj))
  · unfold clsN at ha hb
    rw [List.getElem?_map] at ha hb
    obtain ⟨c, ec, rfl⟩ := Option.map_eq_some_iff.mp ha
    obtain ⟨d, ed, rfl⟩ := Option.map_eq_some_iff.mp hb
    obtain ⟨i1, e1⟩ := List.getElem?_eq_some_iff.mp ec
    obtain ⟨i2, e2⟩ := List.getElem?_eq_some_iff.mp ed
    have lt := List.pairwise_iff_getElem.mp (cls_heads ts ks.length) i (i + 1) i1 i2 (by omega)
    rw [e1, e2] at lt
    obtain ⟨j, hj, ej⟩ := cls_first (List.mem_of_getElem? ec)
    obtain ⟨k, hk, ek⟩ := cls_first (List.mem_of_getElem? ed)
    show (ks.getD (hd0 c).toNat Str.empty).cps.toList < (ks.getD (hd0 d).toNat Str.empty).cps.toList
    rw [ej, ek] at lt ⊢
    have jk : j < k := by omega
    exact asc_far ok.2.2.2 (k - j - 1) j _ _ (nameD_at (j := j) hj) (by
      have e3 : j + (k - j - 1) + 1 = k := by omega
      rw [e3]
      exact nameD_at (j := k) hk)
end CK
namespace CK
open PySem PySem.Spec PyProof.Rows L2 VG FR HD
/-- a merged table can be -/
theorem merged_ok {ks : List Str} {ts ls : List (List Int)} (ok : TabOk ks ts) (ne : classesL ts ks.length ≠ []) (by_ : ByCls ts ks.length ls) : TabOk (clsN ks (classesL ts ks.length)) ls := by
  refine ⟨cls_names ok.kinds ne, by rw [by_.len]; exact ok.len, fun l hl => ?_⟩
  obtain ⟨small, pw⟩ := by_.asc l hl
  refine ⟨small, fun x hx => ?_, asc_pw pw⟩
  obtain ⟨j, ej⟩ := List.mem_iff_getElem?.mp hl
  have lt : j < ts.length := by
    have := (List.getElem?_eq_some_iff.mp ej).1
    have := by_.len
    omega
  have ec : ts[j]? = some ts[j] := List.getElem?_eq_getElem lt
  generalize ts[j] = c at ec
  have hc := List.mem_of_getElem? ec
  obtain ⟨k, hk, e⟩ := (by_.rel j c l ec ej x).mp hx
  have ⟨k0, k1⟩ := (ok.lots c hc).2.1 k hk
  obtain ⟨i, rfl⟩ := Int.eq_ofNat_of_zero_le k0
  obtain ⟨a, cl, g1, g2, g3⟩ := cls_one (n := ks.length) hc (by omega) hk
  rw [num_of g1 g2 g3] at e
  have e := V.int.inj e
  have la := (List.getElem?_eq_some_iff.mp g1).1
  unfold clsN
  rw [List.length_map]
  omega
end CK
namespace CK
open PySem PySem.Spec PyProof.Rows L2 VG FR HD
/-- names of ascending numbers -/
theorem names_of {ks : List Str} {ls : List Int} (ok : KindsOk ks) (ne : ls ≠ []) (asc : ls.Pairwise (· < ·)) (low : ∀ x ∈ ls, ∃ j : Nat, j < ks.length ∧ x = (j : Int)) (short : ls.length ≤ ks.length) : KindsOk (ls.map fun x => ks.getD x.toNat Str.empty) := by
  have k12 := ok.2.1
  refine ⟨?_, ?_, fun z hz => ?_, fun i a b ha hb => ?_⟩
  · rw [List.length_map]
    exact List.length_pos_iff.mpr ne
  · rw [List.length_map]
    omega
  · obtain ⟨c, hc, rfl⟩ := List.mem_map.mp hz
    obtain ⟨j, hj, rfl⟩ := low c hc
    exact ok.2.2.1 _ (List.mem_of_getElem? (nameD_at (j := j) hj))
  · rw [List.getElem?_map] at ha hb
    obtain ⟨c, ec, rfl⟩ := Option.map_eq_some_iff.mp ha
    obtain ⟨d, ed, rfl⟩ := Option.map_eq_some_iff.mp hb
    obtain ⟨i1, e1⟩ := List.getElem?_eq_some_iff.mp ec
    obtain ⟨i2, e2⟩ := List.getElem?_eq_some_iff.mp ed
    have lt := List.pairwise_iff_getElem.mp asc i (i + 1) i1 i2 (by omega)
    rw [e1, e2] at lt
    obtain ⟨j, hj, rfl⟩ := low c (List.mem_of_getElem? ec)
    obtain ⟨k, hk, rfl⟩ := low d (List.mem_of_getElem? ed)
    have jk : j < k := by omega
    exact asc_far ok.2.2.2 (k - j - 1) j _ _ (nameD_at (j := j) hj) (by
      have e3 : j + (k - j - 1) + 1 = k := by omega
      rw [e3]
      exact nameD_at (j := k) hk)
theorem leftK_asc (os : List Int) (n : Nat) : (leftK os n).Pairwise (· < ·) := by
  unfold leftK
  refine List.pairwise_map.mpr ?_
  have h : (List.range n).Pairwise (· < ·) := List.pairwise_lt_range
  exact (List.Pairwise.filter _ h).imp fun z => by omega
theorem plc_mono {ls : List Int} (asc : ls.Pairwise (· < ·)) {x y : Int} (hx : x ∈ ls) (hy : y ∈ ls) (lt : x < y) : plc ls x < plc ls y := by
  unfold plc
  have ix := List.idxOf_lt_length_iff.mpr hx
  have iy := List.idxOf_lt_length_iff.mpr hy
  have ex : ls[ls.idxOf x] = x := List.getElem_idxOf ix
  have ey : ls[ls.idxOf y] = y := List.getElem_idxOf iy
  rcases Nat.lt_trichotomy (ls.idxOf x) (ls.idxOf y) with h | h | h
  · omega
  · exfalso
    have : x = y := by
      rw [← ex, ← ey]
      congr 1
    omega
  · exfalso
    have := List.pairwise_iff_getElem.mp asc _ _ iy ix h
    rw [ex, ey] at this
    omega
theorem pw_of_asc : ∀ {l : List Int}, Asc l → l.Pairwise (· < ·)
  | [], _ => List.Pairwise.nil
  | [a], _ => List.pairwise_singleton _ _
  | a :: b :: r, h => by
    have h : a < b ∧ Asc (b :: r) := h
    have ih := pw_of_asc h.2
    refine List.Pairwise.cons (fun z hz => ?_) ih
    rcases List.mem_cons.mp hz with e | m
    · rw [e]
      exact h.1
    · have := (List.pairwise_cons.mp ih).1 z m
      omega
theorem newT_lot {ls c : List Int} {n : Int} (asc : ls.Pairwise (· < ·)) (h : LotOk n c) : LotOk (ls.length : Int) (newT ls c) := by
  refine ⟨?_, fun x hx => ?_, asc_pw ?_⟩
  · have := newT_len ls c c.length
    rw [List.take_length] at this
    have := h.1
    omega
  · obtain ⟨y, hy, rfl⟩ := List.mem_map.mp hx
    have m : y ∈ ls := List.contains_iff_mem.mp (List.mem_filter.mp hy).2
    have := List.idxOf_lt_length_iff.mpr m
    unfold plc
    omega
  · unfold newT
    refine List.pairwise_map.mpr (List.Pairwise.imp_of_mem (fun {a b} ha hb lt => ?_) ((pw_of_asc h.2.2).filter _))
    exact plc_mono asc (List.contains_iff_mem.mp (List.mem_filter.mp ha).2) (List.contains_iff_mem.mp (List.mem_filter.mp hb).2) lt
/-- a table without some kinds can be -/
theorem less_ok {ks : List Str} {ts : List (List Int)} {os : List Int} (ok : TabOk ks ts) (ne : leftK os ks.length ≠ []) :
    TabOk ((leftK os ks.length).map fun x => ks.getD x.toNat Str.empty) (ts.map (newT (leftK os ks.length))) := by
  have asc := leftK_asc os ks.length
  refine ⟨names_of ok.kinds ne asc (fun x hx => leftK_mem hx) (leftK_len os ks.length), by rw [List.length_map]; exact ok.len, fun l hl => ?_⟩
  obtain ⟨c, hc, rfl⟩ := List.mem_map.mp hl
  rw [List.length_map]
  exact newT_lot asc (ok.lots c hc)
end CK
namespace TU
open PySem PyProof.Rows
/-- the order of tuples of integers -/
def lexI : List Int → List Int → Bool
  | [], [] => false
  | [], _ :: _ => true
  | _ :: _, [] => false
  | x :: xs, y :: ys => if x = y then lexI xs ys else decide (x < y)
theorem lexI_asym : ∀ (a b : List Int), lexI a b = true → lexI b a = false
  | [], [], h => by cases h
  | [], _ :: _, _ => rfl
  | _ :: _, [], h => by cases h
  | x :: xs, y :: ys, h => by
    show (if y = x then lexI ys xs else decide (y < x)) = false
    have h : (if x = y then lexI xs ys else decide (x < y)) = true := h
    by_cases e : x = y
    · rw [if_pos e] at h
      rw [if_pos e.symm]
      exact lexI_asym xs ys h
    · rw [if_neg e] at h
      rw [if_neg (Ne.symm e)]
      have := of_decide_eq_true h
      exact decide_eq_false (by omega)
theorem lexI_tr : ∀ (a b c : List Int), lexI b a = false → lexI c b = false → lexI c a = false
  | [], _, [], _, _ => rfl
  | [], [], _ :: _, _, h => by first | exact h | rfl
  | [], _ :: _, _ :: _, _, _ => rfl
  | _ :: _, [], _, h, _ => by cases h
  | _ :: _, _ :: _, [], _, h => by cases h
  | x :: xs, y :: ys, z :: zs, h1, h2 => by
    have h1 : (if y = x then lexI ys xs else decide (y < x)) = false := h1
    have h2 : (if z = y then lexI zs ys else decide (z < y)) = false := h2
    show (if z = x then lexI zs xs else decide (z < x)) = false
    by_cases e1 : y = x
    · rw [if_pos e1] at h1
      by_cases e2 : z = y
      · rw [if_pos e2] at h2
        rw [if_pos (e2.trans e1)]
        exact lexI_tr xs ys zs h1 h2
      · rw [if_neg e2] at h2
        rw [if_neg (by rw [← e1]; exact e2), ← e1]
        exact h2
    · rw [if_neg e1] at h1
      have := of_decide_eq_false h1
      by_cases e2 : z = y
      · rw [if_neg (by rw [e2]; exact e1), e2]
        exact h1
      · rw [if_neg e2] at h2
        have := of_decide_eq_false h2
        rw [if_neg (by omega)]
        exact decide_eq_false (by omega)
theorem lexI_total : ∀ (a b : List Int), lexI a b = false → lexI b a = false → a = b
  | [], [], _, _ => rfl
  | [], _ :: _, h, _ => by cases h
  | _ :: _, [], _, h => by cases h
  | x :: xs, y :: ys, h1, h2 => by
    have h1 : (if x = y then lexI xs ys else decide (x < y)) = false := h1
    have h2 : (if y = x then lexI ys xs else decide (y < x)) = false := h2
    by_cases e : x = y
    · rw [if_pos e] at h1
      rw [if_pos e.symm] at h2
      rw [e, lexI_total xs ys h1 h2]
    · rw [if_neg e] at h1
      rw [if_neg (Ne.symm e)] at h2
      have := of_decide_eq_false h1
      have := of_decide_eq_false h2
      omega
theorem swo (k : Value → List Int) : SrtO.Swo fun v u => lexI (k v) (k u) := ⟨fun x y h => lexI_asym _ _ h, fun x y z h1 h2 => lexI_tr _ _ _ h1 h2⟩
/-- as the model walks: from place i on, k places left -/
theorem lexI_at : ∀ (xs ys pre pre2 : List Int), pre.length = pre2.length → Ob.lexAt (fun j => decide ((pre ++ xs).getD j 0 = (pre2 ++ ys).getD j 0)) (fun j => decide ((pre ++ xs).getD j 0 < (pre2 ++ ys).getD j 0)) (decide (xs.length < ys.length)) pre.length (min xs.length ys.length) = lexI xs ys
  | [], [], _, _, _ => rfl
  | [], _ :: ys, _, _, _ => by
    show Ob.lexAt _ _ (decide (0 < ys.length + 1)) _ (min 0 (ys.length + 1)) = true
    rw [Nat.zero_min]
    exact decide_eq_true (Nat.succ_pos _)
  | _ :: xs, [], _, _, _ => by
    show Ob.lexAt _ _ (decide (xs.length + 1 < 0)) _ (min (xs.length + 1) 0) = false
    rw [Nat.min_zero]
    exact decide_eq_false (Nat.not_lt_zero _)
  | x :: xs, y :: ys, pre, pre2, hl => by
    have e1 : (pre ++ x :: xs).getD pre.length 0 = x := by simp [List.getD_eq_getElem?_getD]
    have e2 : (pre2 ++ y :: ys).getD pre.length 0 = y := by rw [hl]; simp [List.getD_eq_getElem?_getD]
    show Ob.lexAt _ _ (decide (xs.length + 1 < ys.length + 1)) pre.length (min (xs.length + 1) (ys.length + 1)) = if x = y then lexI xs ys else decide (x < y)
    rw [show min (xs.length + 1) (ys.length + 1) = min xs.length ys.length + 1 by omega, Ob.lexAt_succ]
    simp only [e1, e2, decide_eq_true_eq]
    by_cases e : x = y
    · rw [if_pos e, if_pos e]
      have ih := lexI_at xs ys (pre ++ [x]) (pre2 ++ [y]) (by rw [List.length_append, List.length_append, hl]; rfl)
      rw [List.append_assoc, List.append_assoc, List.length_append] at ih
      rw [show decide (xs.length + 1 < ys.length + 1) = decide (xs.length < ys.length) from decide_eq_decide.mpr (by omega)]
      exact ih
    · rw [if_neg e, if_neg e]
theorem lexI_0 (xs ys : List Int) : Ob.lexAt (fun j => decide (xs.getD j 0 = ys.getD j 0)) (fun j => decide (xs.getD j 0 < ys.getD j 0)) (decide (xs.length < ys.length)) 0 (min xs.length ys.length) = lexI xs ys := lexI_at xs ys [] [] rfl
section
variable {prog : Program} {w : World} {A : Around} {E : Value → Shared → Prop} {s : Shared} {Q : Bool → Shared → Prop}
theorem lex_walk {b fin : Bool} {xs ys : List Value} {ns ms : List Int} (i : Nat) (hx : IntsAre xs ns) (hy : IntsAre ys ms) (hf : fin = decide (ns.length < ms.length)) (h : Q (lexI ns ms) s) : PySem.W.KatLex prog w A b fin Q (xs.zip ys) i s := by
  induction hx generalizing ys ms i with
  | nil =>
    cases hy with
    | nil =>
      have e : fin = false := by rw [hf]; rfl
      rw [e]
      exact PySem.W.kat_nil h
    | cons q u hy =>
      have e : fin = true := by rw [hf]; exact decide_eq_true (Nat.succ_pos _)
      rw [e]
      exact PySem.W.kat_nil h
  | @cons p t xs ns hx ih =>
    cases hy with
    | nil =>
      have e : fin = false := by rw [hf]; exact decide_eq_false (Nat.not_lt_zero _)
      rw [e]
      exact PySem.W.kat_nil h
    | @cons q u ys ms hy =>
      have hf' : fin = decide (ns.length < ms.length) := by
        rw [hf]
        exact decide_eq_decide.mpr (by rw [List.length_cons, List.length_cons]; omega)
      replace h : Q (if p = q then lexI ns ms else decide (p < q)) s := h
      show PySem.W.KatLex prog w A b fin Q ((Value.int p t, Value.int q u) :: xs.zip ys) i s
      refine PySem.W.kat_cons (wpAny_eqBool_int ?_)
      by_cases e : p = q
      · rw [if_pos e] at h
        subst e
        rw [beq_self_eq_true]
        refine PySem.W.kat_yes ?_
        exact ih (i + 1) hy hf' h
      · rw [if_neg e] at h
        rw [show (p == q) = false from beq_eq_false_iff_ne.mpr e]
        exact PySem.W.kat_no (TS.oneLt_ints _ h)
end
section
variable {prog : Program} {w : World} {A : Around} {E : Value → Shared → Prop} {s : Shared}
/-- two tuples, by < -/
theorem rc_lt {a b : Addr} {xs ys : Array Value} {ns ms : List Int} (ha : IsTup s.heap a xs) (hb : IsTup s.heap b ys) (i1 : IntsAre xs.toList ns) (i2 : IntsAre ys.toList ms) (hu : A.units < cLine) : Ob.RcOp .Lt A s (.ref a) (.ref b) (lexI ns ms) := by
  have e1 : xs.size = ns.length := by rw [← i1.length, Array.length_toList]
  have e2 : ys.size = ms.length := by rw [← i2.length, Array.length_toList]
  have at1 : ∀ j (h1 : j < xs.size), ∃ t, xs[j] = .int (ns.getD j 0) t := fun j h1 => PyProof.Rows.IntsAre.int_at i1 _ _ (by simp [h1])
  have at2 : ∀ j (h1 : j < ys.size), ∃ t, ys[j] = .int (ms.getD j 0) t := fun j h1 => PyProof.Rows.IntsAre.int_at i2 _ _ (by simp [h1])
  have R := Ob.RcOp.tuples_lt (A := A) (s := s) (e := fun j => decide (ns.getD j 0 = ms.getD j 0)) (r := fun j => decide (ns.getD j 0 < ms.getD j 0)) ha hb hu (fun j h1 h2 => by
    obtain ⟨t, et⟩ := at1 j h1
    obtain ⟨t', et'⟩ := at2 j h2
    rw [et, et']
    have z : (ns.getD j 0 == ms.getD j 0) = decide (ns.getD j 0 = ms.getD j 0) := by
      by_cases q : ns.getD j 0 = ms.getD j 0
      · rw [decide_eq_true q]; exact beq_iff_eq.mpr q
      · rw [decide_eq_false q]; exact beq_eq_false_iff_ne.mpr q
    rw [← z]
    exact SeqAt.EqAt.int_int _ _ _ _) (fun j h1 h2 _ => by
    obtain ⟨t, et⟩ := at1 j h1
    obtain ⟨t', et'⟩ := at2 j h2
    rw [et, et']
    exact Ob.RcOp.lt_int _ _ _ _)
  rw [e1, e2, lexI_0] at R
  exact R
/-- two tuples, as a sort of values of one type asks -/
theorem one_lt {a b : Addr} {xs ys : Array Value} {ns ms : List Int} {Q : Bool → Shared → Prop} (ha : IsTup s.heap a xs) (hb : IsTup s.heap b ys) (i1 : IntsAre xs.toList ns) (i2 : IntsAre ys.toList ms) (hu : A.units < cLine) (h : Q (lexI ns ms) s) (f : Bool) :
    wpAny (model prog w) A (oneLt' f (.ref a) (.ref b)) Q E s := by
  have e1 : xs.size = ns.length := by rw [← i1.length, Array.length_toList]
  have e2 : ys.size = ms.length := by rw [← i2.length, Array.length_toList]
  cases f with
  | false =>
    rw [oneLt'_eq]
    simp only [Bool.false_eq_true, if_false]
    exact wpAny_bind (rc_lt ha hb i1 i2 hu prog w E _ (wpAny_truthy_bool h))
  | true =>
    have at1 : ∀ j (h1 : j < xs.size), ∃ t, xs[j] = .int (ns.getD j 0) t := fun j h1 => PyProof.Rows.IntsAre.int_at i1 _ _ (by simp [h1])
    have at2 : ∀ j (h1 : j < ys.size), ∃ t, ys[j] = .int (ms.getD j 0) t := fun j h1 => PyProof.Rows.IntsAre.int_at i2 _ _ (by simp [h1])
    obtain ⟨⟨cls, dd, data, sl⟩, ho, hc, n, hd⟩ := id ha
    obtain ⟨⟨cls2, dd2, data2, sl2⟩, ho2, hc2, n2, hd2⟩ := id hb
    simp only at hc hd hc2 hd2
    subst hc hd hc2 hd2
    rw [oneLt'_eq]
    simp only [if_true]
    refine wpAny_bind (wpAny_cRoomFor hu ?_)
    refine wpAny_bind (wpAny_callSpecialIfBound?_slot (T := "tuple") ⟨_, ho, rfl⟩ F.slot_tuple_lt (call_meets F.slot_tuple_lt ⟨_, ho, rfl⟩ F.entry_tuple_lt (F.args_tuple_lt_2 _ _)
      (Ob.tuple_ltAt a b xs ys n n2 dd dd2 sl sl2 (fun j => decide (ns.getD j 0 = ms.getD j 0)) (fun j => decide (ns.getD j 0 < ms.getD j 0))) ⟨ho, ho2, fun j h1 h2 => ?_, fun j h1 h2 _ => ?_, ?_⟩))
    · obtain ⟨t, et⟩ := at1 j h1
      obtain ⟨t', et'⟩ := at2 j h2
      rw [et, et']
      have z : (ns.getD j 0 == ms.getD j 0) = decide (ns.getD j 0 = ms.getD j 0) := by
        by_cases q : ns.getD j 0 = ms.getD j 0
        · rw [decide_eq_true q]; exact beq_iff_eq.mpr q
        · rw [decide_eq_false q]; exact beq_eq_false_iff_ne.mpr q
      rw [← z]
      exact SeqAt.EqAt.int_int _ _ _ _
    · obtain ⟨t, et⟩ := at1 j h1
      obtain ⟨t', et'⟩ := at2 j h2
      rw [et, et']
      exact Ob.RcOp.lt_int _ _ _ _
    · rw [e1, e2, lexI_0]
      exact wpAny_truthy_bool h
/-- what is sorted: tuples of integers -/
def AllT (h : Heap) (vs : List Value) : Prop := ∀ v ∈ vs, ∃ ns, TS.TupInts h v ns
theorem AllT.keeps {h h' : Heap} {vs : List Value} (x : AllT h vs) (k : ∀ b o, h.get? b = some o → o.cls = .type "tuple" → h'.get? b = some o) : AllT h' vs := fun v hv =>
  let ⟨ns, t⟩ := x v hv; ⟨ns, t.keeps k⟩
/-- the first items -/
theorem firsts : ∀ (vs : List Value), AllT s.heap vs → ∃ fs : List (Option Value), fs.length = vs.length ∧ (∀ f, some f ∈ fs → ∃ n t, f = Value.int n t) ∧
    (∀ (Q : List (Option Value) → Shared → Prop) (E : Value → Shared → Prop), Q fs s → wpAny (model prog w) A (vs.mapM firstOfTuple') Q E s) ∧
    ((∀ f ∈ fs, f ≠ none) → ∃ gs, fs = gs.map some ∧ PySem.W.KatTups s.heap vs gs)
  | [], _ => by
    refine ⟨[], rfl, ?_, ?_, ?_⟩
    · intro f h
      cases h
    · intro Q E h
      rw [List.mapM_nil]
      exact wpAny_pure h
    · intro _
      exact ⟨[], rfl, PySem.W.KatTups.nil⟩
  | v :: vs, x => by
    obtain ⟨fs, l1, l2, l3, l4⟩ := firsts vs fun u hu => x u (List.mem_cons_of_mem _ hu)
    obtain ⟨ns, ⟨a, xs, rfl, ⟨o, ho, hc, n, hd⟩, i⟩⟩ := x v List.mem_cons_self
    refine ⟨xs[0]? :: fs, by rw [List.length_cons, l1, List.length_cons], fun f hf => ?_, fun Q E h => ?_, fun hn => ?_⟩
    · rcases List.mem_cons.mp hf with e | hf
      · have : f ∈ xs.toList := by
          have e2 : xs.toList[0]? = some f := by simpa using e.symm
          exact List.mem_of_getElem? e2
        exact i.all f this
      · exact l2 f hf
    · rw [List.mapM_cons]
      refine wpAny_bind ?_
      rw [PySem.W.kas_first_eq]
      refine wpAny_bind (PySem.W.Looks.here (show PySem.W.Looks (model prog w) s.heap (typeOf (.ref a)) o.cls from (PySem.W.Looks.ld ho).andThen .now) ?_)
      rw [hc, if_neg (by first | decide | simp)]
      refine wpAny_bind (listItems_at ho hd (wpAny_pure ?_))
      exact wpAny_bind (l3 (fun bs s' => wpAny (model prog w) A (pure (xs[0]? :: bs)) Q E s') E (wpAny_pure h))
    · obtain ⟨gs, e, k⟩ := l4 fun f hf => hn f (List.mem_cons_of_mem _ hf)
      have h0 := hn _ List.mem_cons_self
      cases q : xs[0]? with
      | none => exact absurd q h0
      | some g => exact ⟨g :: gs, by rw [e]; rfl, PySem.W.KatTups.cons ho hc hd q k⟩
/-- all are tuples -/
theorem types : ∀ (vs : List Value), AllT s.heap vs → ∀ Q : List Value → Shared → Prop, Q (vs.map fun _ => Value.type "tuple") s → wpAny (model prog w) A (vs.mapM typeOf) Q E s
  | [], _, Q, h => by rw [List.mapM_nil]; exact wpAny_pure h
  | v :: vs, x, Q, h => by
    obtain ⟨ns, ⟨a, xs, rfl, ⟨o, ho, hc, n, hd⟩, i⟩⟩ := x v List.mem_cons_self
    rw [List.mapM_cons]
    refine wpAny_bind (PySem.W.Looks.here (show PySem.W.Looks (model prog w) s.heap (typeOf (.ref a)) o.cls from (PySem.W.Looks.ld ho).andThen .now) ?_)
    rw [hc]
    exact wpAny_bind (types vs (fun u hu => x u (List.mem_cons_of_mem _ hu)) (fun bs s' => wpAny (model prog w) A (pure (Value.type "tuple" :: bs)) Q E s') (wpAny_pure h))
theorem cmp {vs : List Value} {k : Value → List Int} (κ : SortKind) (hκ : κ = general' ∨ κ = oneType' ∨ ∃ b, κ = tuples' b) (x : ∀ v ∈ vs, TS.TupInts s.heap v (k v)) (hu : A.units < cLine) : SrtO.Cmp prog w A s κ (fun p => p.1 ∈ vs) (SrtO.lt2 fun v u => lexI (k v) (k u)) := by
  intro p q hp hq
  have h1 := x _ hp
  have h2 := x _ hq
  show wpAny (model prog w) A (keyLt' κ p.1 q.1) (fun r s' => s' = s ∧ r = lexI (k p.1) (k q.1)) (fun _ _ => False) s
  obtain ⟨a, xs, e1, ha, i1⟩ := h1
  obtain ⟨b, ys, e2, hb, i2⟩ := h2
  rw [e1, e2]
  rw [e1] at i1
  rw [e2] at i2
  rcases hκ with rfl | rfl | ⟨c, rfl⟩
  · exact one_lt (Q := fun r s' => s' = s ∧ r = lexI (k (.ref a)) (k (.ref b))) ha hb i1 i2 hu ⟨rfl, rfl⟩ false
  · exact one_lt (Q := fun r s' => s' = s ∧ r = lexI (k (.ref a)) (k (.ref b))) ha hb i1 i2 hu ⟨rfl, rfl⟩ true
  · obtain ⟨o, ho, hc, n, hd⟩ := ha
    obtain ⟨o', ho', hc', n', hd'⟩ := hb
    refine PySem.W.kat_lt ho hd ho' hd' ?_
    refine lex_walk 0 i1 i2 ?_ ⟨rfl, rfl⟩
    rw [← i1.length, ← i2.length, Array.length_toList, Array.length_toList]
theorem sortable {a : Addr} {vs : List Value} {k : Value → List Int} (h2 : 2 ≤ vs.length) (x : ∀ v ∈ vs, TS.TupInts s.heap v (k v)) (ha : ∀ o, s.heap.get? a = some o → o.cls ≠ .type "tuple") (hu : A.units < cLine) : SrtO.SortableO prog w A s a vs fun v u => lexI (k v) (k u) := by
  intro h' keep
  have x' : ∀ v ∈ vs, TS.TupInts h' v (k v) := fun v hv => (x v hv).keeps fun b o e c => keep b o (fun z => by subst z; exact ha o e c) e
  have al : AllT h' vs := fun v hv => ⟨_, x' v hv⟩
  obtain ⟨fs, l1, l2, l3, l4⟩ := firsts (prog := prog) (w := w) (A := A) (s := { s with heap := h' }) vs al
  by_cases hn : ∀ f ∈ fs, f ≠ none
  · obtain ⟨gs, e, kt⟩ := l4 hn
    refine ⟨tuples' (Value.type "int" != Value.type "tuple"), fun Q E hq => ?_, cmp _ (.inr (.inr ⟨_, rfl⟩)) x' hu⟩
    refine PySem.W.kat_kind (T := Value.type "int") kt ?_ (fun f hf => ?_) rfl hq
    · have : gs.length = fs.length := by rw [e, List.length_map]
      omega
    · obtain ⟨n, t, rfl⟩ := l2 f (by rw [e]; exact List.mem_map.mpr ⟨f, hf, rfl⟩)
      exact PySem.W.Looks.of_pure rfl
  · have hall : (fs.toArray.all fun x => x.isSome) = false := by
      cases q : fs.toArray.all fun x => x.isSome with
      | false => rfl
      | true =>
        refine absurd (fun f hf => ?_) hn
        have q2 : fs.all (fun x => x.isSome) = true := by simpa using q
        have := List.all_eq_true.mp q2 f hf
        intro z
        rw [z] at this
        cases this
    have kk : ∀ (c : Bool), ((fs.toArray[0]?.bind id).isSome = c) → ∀ (Q : SortKind → Shared → Prop) (E : Value → Shared → Prop), Q (if c = true then general' else oneType') { s with heap := h' } → wpAny (model prog w) A (keyKind' vs.toArray) Q E { s with heap := h' } := by
      intro c hc Q E hq
      rw [keyKind'_eq, List.mapM_toArray, map_eq_pure_bind]
      refine wpAny_bind (wpAny_bind (l3 _ E (wpAny_pure ?_)))
      rw [if_neg (by rw [hall]; exact Bool.false_ne_true)]
      cases c with
      | true =>
        rw [if_pos hc]
        exact wpAny_pure hq
      | false =>
        rw [if_neg (by rw [hc]; exact Bool.false_ne_true)]
        rw [oneTypeOnly'_eq, List.mapM_toArray, map_eq_pure_bind]
        refine wpAny_bind (wpAny_bind (wpAny_bind (types vs al _ (wpAny_pure ?_))))
        have hall2 : ((List.map (fun _ => Value.type "tuple") vs).toArray.all fun x => x == Value.type "tuple") = true := by
          simp only [List.all_toArray, List.all_map, List.all_eq_true]
          intro _ _
          rfl
        have h0 : (List.map (fun _ => Value.type "tuple") vs).toArray[0]? = some (Value.type "tuple") := by
          cases vs with
          | nil => exact absurd h2 (by show ¬ 2 ≤ 0; decide)
          | cons _ _ => simp
        rw [h0]
        simp only [hall2, if_true]
        exact wpAny_pure (wpAny_pure hq)
    cases hc : (fs.toArray[0]?.bind id).isSome with
    | true => exact ⟨general', kk true hc, cmp _ (.inl rfl) x' hu⟩
    | false => exact ⟨oneType', kk false hc, cmp _ (.inr (.inl rfl)) x' hu⟩
end
end TU
namespace L2
open PySem PySem.Spec PyProof.Rows
theorem ord_rows {L : List (Addr × List Int)} : ∀ vs : List Value, (∀ v ∈ vs, ∃ q ∈ L, v = Value.ref q.1) → ∃ L1 : List (Addr × List Int), vs = L1.map (fun q => Value.ref q.1) ∧ ∀ q ∈ L1, q ∈ L
  | [], _ => ⟨[], rfl, fun q hq => by cases hq⟩
  | v :: vs, hv => by
    obtain ⟨q, hq, e⟩ := hv v List.mem_cons_self
    obtain ⟨L1, e1, hs⟩ := ord_rows vs fun u hu => hv u (List.mem_cons_of_mem _ hu)
    refine ⟨q :: L1, by rw [List.map_cons, e, e1], fun r hr => ?_⟩
    rcases List.mem_cons.mp hr with z | z
    · rw [z]; exact hq
    · exact hs r z
theorem sorted_setU {P : Program} {w : World} {A : Around} {E : Value → Shared → Prop} {s : Shared} {a : Addr} {L : List (Addr × List Int)} {es : Array (Int × Value)} {ep : Nat} {t : SetTable} {Q : Value → Shared → Prop} (R : SetTR P w s.heap a L es ep t) (hh : A.handled = none) (hu : A.units + 20 < cLine)
    (hQ : ∀ s' p (out : Array Value) (c : Nat) (L' : List (Addr × List Int)), (∀ b o, s.heap.get? b = some o → s'.heap.get? b = some o) → s'.gens = s.gens → s'.os = s.os → s.heap.objs.size ≤ p →
      s'.heap.get? p = some (seqObj "list" out c) → out.toList = L'.map (fun q => Value.ref q.1) → L'.Perm L → L'.Pairwise (fun q r => TU.lexI r.2 q.2 = false) → Q (.ref p) s') :
    wpAny (model P w) A (call (.builtin "sorted") [.ref a]) Q E s := by
  obtain ⟨o, ho, hex, hd⟩ := R.ob
  have hsz := R.size
  have hfew := R.few
  refine Calls.call_function_entry kind_sorted plain_sorted entry_sorted (args_sorted1 _) ?_
  unfold Builtin.«sorted»
  refine wpAny_bind (m := checkCount "sorted" 1 1 _) (wpAny_pure ?_)
  refine wpAny_bind (collect_set (A := A.in1) hh ⟨o, ho, hex.1, hd⟩ R.fits (by unfold scanBound; omega) R.tab.ris R.led fun s1 vs k1 hz g1 o1 pm => ?_)
  have hes : es.toList.map (·.2) = L.map fun q => Value.ref q.1 := by
    rw [R.rows]
    unfold rowsOf
    rw [List.map_map] <;> rfl
  rw [hes] at pm
  have one : ∀ q ∈ L, ∀ r ∈ L, q.1 = r.1 → q = r := fun q hq r hr e => by
    have a1 := R.tup q hq
    have a2 := R.tup r hr
    rw [e] at a1
    have e2 : q.2 = r.2 := a1.inj a2
    exact Prod.ext e e2
  have perm_of : ∀ L1 : List (Addr × List Int), (∀ q ∈ L1, q ∈ L) → (L1.map (fun q => Value.ref q.1)).Perm (L.map fun q => Value.ref q.1) → L1.Perm L := by
    intro L1 hs pm1
    have nL : L.Nodup := nodup_of_map R.nd
    have nref : (L.map fun q => Value.ref q.1).Nodup := by
      refine List.pairwise_map.mpr (List.Pairwise.imp_of_mem (fun {q r} hq hr hne e => ?_) nL)
      injection e with e
      exact hne (one q hq r hr e)
    have n1 : L1.Nodup := nodup_of_map (pm1.nodup_iff.mpr nref)
    refine (List.perm_ext_iff_of_nodup n1 nL).mpr fun q => ⟨hs q, fun hq => ?_⟩
    have hm : Value.ref q.1 ∈ L1.map (fun q => Value.ref q.1) := pm1.mem_iff.mpr (List.mem_map.mpr ⟨q, hq, rfl⟩)
    obtain ⟨r, hr, e⟩ := List.mem_map.mp hm
    injection e with e
    rw [← one r (hs r hr) q hq e]
    exact hr
  have hvl : vs.length < 64 := by rw [pm.length_eq, List.length_map]; exact hfew
  refine wpAny_bind (wpAny_newList ?_ (by rw [sizeLine_eq]; omega))
  have hoL : (s1.heap.push (seqObj "list" vs.toArray 0)).get? s1.heap.objs.size = some (seqObj "list" vs.toArray 0) := Heap.get?_push_size _ rfl
  have tk : ∀ q ∈ L, TS.TupInts (s1.heap.push (seqObj "list" vs.toArray 0)) (.ref q.1) q.2 := fun q hq => tupInts_of (P := P) (w := w) (isT_keep (R.tup q hq) fun b u e => Heap.get?_push_of_some _ (k1 b u e))
  have x : ∀ v ∈ vs, TS.TupInts (s1.heap.push (seqObj "list" vs.toArray 0)) v (TS.intsOf (s1.heap.push (seqObj "list" vs.toArray 0)) v) := fun v hv => by
    obtain ⟨q, hq, e⟩ := List.mem_map.mp (pm.mem_iff.mp hv)
    have := tk q hq
    rw [← e, this.ints]
    exact this
  have notTup : ∀ (h' : Heap) o', h'.get? s1.heap.objs.size = some (seqObj "list" vs.toArray 0) → h'.get? s1.heap.objs.size = some o' → o'.cls ≠ .type "tuple" := fun h' o' z e c => by
    rw [z] at e
    have e' : seqObj "list" vs.toArray 0 = o' := Option.some.inj e
    rw [← e'] at c
    have c' : Value.type "list" = Value.type "tuple" := c
    injection c' with c''
    exact absurd c'' (by decide)
  refine wpAny_bind (wpAny_holding (wpAny_call_entry slot_list_sort ⟨_, hoL, rfl⟩ entry_list_sort (SrtO.list_sort_ord (s := { s1 with heap := s1.heap.push (seqObj "list" vs.toArray 0) }) (ltv := fun v u => TU.lexI (TS.intsOf (s1.heap.push (seqObj "list" vs.toArray 0)) v) (TS.intsOf (s1.heap.push (seqObj "list" vs.toArray 0)) u))
    (TU.swo _) hoL (by rw [sizeLine_eq]; omega) (fun h2 => TU.sortable h2 x (fun o' e => notTup _ o' hoL e) (by simp only [PyProof.Rows.units_in1]; omega)) fun out a2 a1 => ⟨_, rfl, ?_⟩) (args_list_sort _)))
  obtain ⟨c, hc⟩ := sortedHeap_at (vs := vs) (out := out.toArray) hoL
  have pmo : out.Perm vs := a1.perm
  obtain ⟨L', e', hs'⟩ := ord_rows (L := L) out fun v hv => by
    obtain ⟨q, hq, e⟩ := List.mem_map.mp (pm.mem_iff.mp (pmo.mem_iff.mp hv))
    exact ⟨q, hq, e.symm⟩
  have pL : L'.Perm L := perm_of L' hs' (by rw [← e']; exact pmo.trans pm)
  have pw : L'.Pairwise (fun q r => TU.lexI r.2 q.2 = false) := by
    rw [e'] at a2
    refine List.Pairwise.imp_of_mem (fun {q r} hq hr hle => ?_) (List.pairwise_map.mp a2)
    have f1 : TS.intsOf (s1.heap.push (seqObj "list" vs.toArray 0)) (.ref q.1) = q.2 := (tk q (hs' q hq)).ints
    have f2 : TS.intsOf (s1.heap.push (seqObj "list" vs.toArray 0)) (.ref r.1) = r.2 := (tk r (hs' r hr)).ints
    rw [← f1, ← f2]
    exact hle
  refine wpAny_pure ⟨_, rfl, hQ _ s1.heap.objs.size out.toArray c L' (fun b u e => ?_) g1 o1 hz hc (by simpa using e') pL pw⟩
  have q := k1 b u e
  have hlt := Heap.lt_size q
  show (sortedHeap (s1.heap.push (seqObj "list" vs.toArray 0)) s1.heap.objs.size vs out.toArray).get? b = some u
  rw [sortedHeap_old (Nat.ne_of_lt hlt) (by rw [size_push']; exact Nat.lt_succ_of_lt hlt)]
  exact Heap.get?_push_of_some _ q
section
variable {X : Cx}
/-- sorted(set of tuples of integers) -/
def rSortedU (K : PySem.W.Frag) (P : Program) (w : World) : List V → Hp → VK → Prop := fun vs H Q => ∃ (a : Addr) (L : List (Addr × List Int)), vs = [V.ref a] ∧ H a = some (SetTO P w a L) ∧ (∀ p ∈ L, SqT K H p.1 (p.2.map V.int)) ∧
  ∀ (L' : List (Addr × List Int)) (p : Addr), L'.Perm L → (L'.map (·.2)).Nodup → L'.length < 64 → L'.Pairwise (fun q r => TU.lexI r.2 q.2 = false) → H p = none → Q (.ref p) (upd H p (.lst (L'.map fun q => V.ref q.1)))
theorem cr_sortedU (hc : X.calm = true) (hu : X.A.units + 20 < cLine) : CallR X (.builtin "sorted") (rSortedU X.K X.prog X.w) := by
  intro pins s σ H vs us Q I r h
  obtain ⟨a, L, rfl, ha, hk, q⟩ := h
  have R0 : SetT0 X.prog X.w s.heap a L := (I.hok a _ ha).1
  obtain ⟨es, ep, t, R⟩ := R0.full fun p hp => I.isT (hk p hp)
  rw [Vals.ref1 r]
  refine sorted_setU R (I.ok.hd hc) hu fun s' p out c L' k g o hp hg hout pm pw => ?_
  have hfew : L'.length < 64 := by rw [pm.length_eq]; exact R.few
  have hlen : (L'.map fun q => V.ref q.1).length ≤ sizeLine := by rw [List.length_map, sizeLine_eq]; omega
  have hn : H p = none := I.hok.fresh hp
  have hv : Vals (L'.map fun q => V.ref q.1) out.toList := by rw [hout]; exact vals_of_refs L'
  have J : Inv X pins σ (upd H p (.lst (L'.map fun q => V.ref q.1))) { s with heap := s'.heap, gens := s'.gens, drawn := s'.drawn, toks := s'.toks } :=
    I.call (ch := []) (Un.laid k hp hn) (I.hok.laid k hp ⟨hlen, out.toList, c, hv, hg⟩) (by rw [g]; exact I.bare) (fun _ z => nomatch z)
  have e : s' = { s with heap := s'.heap, gens := s'.gens, drawn := s'.drawn, toks := s'.toks } := by
    cases s'
    cases s
    cases o
    rfl
  rw [e]
  exact ⟨.ref p, _, J, rfl, q L' p pm ((pm.map (·.2)).nodup_iff.mpr R.nd) hfew pw hn⟩
/-- sorted(list of tuples of integers) -/
def rSortLU (K : PySem.W.Frag) : List V → Hp → VK → Prop := fun vs H Q => ∃ (a : Addr) (L : List (Addr × List Int)), vs = [V.ref a] ∧ SqL K H a (L.map fun q => V.ref q.1) ∧ (∀ p ∈ L, SqT K H p.1 (p.2.map V.int)) ∧
  ∀ (L' : List (Addr × List Int)) (p : Addr), L'.Perm L → L'.Pairwise (fun q r => TU.lexI r.2 q.2 = false) → H p = none → Q (.ref p) (upd H p (.lst (L'.map fun q => V.ref q.1)))
theorem cr_sortLU (hu : X.A.units + 20 < cLine) : CallR X (.builtin "sorted") (rSortLU X.K) := by
  intro pins s σ H vs us Q I r h
  obtain ⟨a, L, rfl, hs, hk, q⟩ := h
  obtain ⟨its, rv, hl, hz⟩ := I.list hs
  rw [Vals.ref1 r]
  have eits := refs_of_vals rv
  have tk : ∀ p ∈ L, TS.TupInts s.heap (.ref p.1) p.2 := fun p hp => tupI_raw I (hk p hp)
  have hz2 : its.length ≤ sizeLine := by rw [← rv.length]; exact hz
  refine SrtO.sorted_ord (TU.swo fun v => TS.intsOf s.heap v) hl.isList hz2 (fun h2 h₁ a' ho keep => ?_) fun out hs hb => ?_
  · have x : ∀ v ∈ its, TS.TupInts h₁ v (TS.intsOf s.heap v) := fun v hv => by
      rw [eits] at hv
      obtain ⟨p, hp, e⟩ := List.mem_map.mp hv
      have t := tk p hp
      rw [← e, t.ints]
      exact t.keeps fun b o e _ => (keep b o e).2
    refine TU.sortable (s := { s with heap := h₁ }) h2 x (fun o e c => ?_) (by simp only [PyProof.Rows.units_in1]; omega)
    have e' : some o = some (seqObj "list" its.toArray 0) := e.symm.trans ho
    have e2 : o = seqObj "list" its.toArray 0 := Option.some.inj e'
    rw [e2] at c
    have c' : Value.type "list" = Value.type "tuple" := c
    injection c' with c''
    exact absurd c'' (by decide)
  · have pmo : out.Perm its := hb.perm
    let g : Value → Addr × List Int := fun v => match v with
      | .ref b => (b, TS.intsOf s.heap (.ref b))
      | _ => (0, [])
    have gp : ∀ p ∈ L, g (.ref p.1) = p := fun p hp => Prod.ext rfl (tk p hp).ints
    have gL : its.map g = L := by
      rw [eits, List.map_map]
      conv => rhs; rw [← List.map_id L]
      exact List.map_congr_left fun p hp => gp p hp
    have at_ : ∀ v ∈ out, ∃ p ∈ L, v = .ref p.1 := fun v hv => by
      have hi := pmo.mem_iff.mp hv
      rw [eits] at hi
      obtain ⟨p, hp, e⟩ := List.mem_map.mp hi
      exact ⟨p, hp, e.symm⟩
    have back : (out.map g).map (fun q => Value.ref q.1) = out := by
      rw [List.map_map]
      conv => rhs; rw [← List.map_id out]
      refine List.map_congr_left fun v hv => ?_
      obtain ⟨p, hp, rfl⟩ := at_ v hv
      rfl
    have pL : (out.map g).Perm L := by
      have z := pmo.map g
      rw [gL] at z
      exact z
    have pw : (out.map g).Pairwise (fun q r => TU.lexI r.2 q.2 = false) := by
      refine List.pairwise_map.mpr (List.Pairwise.imp_of_mem (fun {u v} hu hv hle => ?_) hs)
      obtain ⟨p, hp, rfl⟩ := at_ u hu
      obtain ⟨r, hr, rfl⟩ := at_ v hv
      exact hle
    obtain ⟨ep, he'⟩ := PyProof.Rows.sortedAll_at s.heap its out.toArray
    have hvv : Vals ((out.map g).map fun q => V.ref q.1) out.toArray.toList := by
      have z := vals_of_refs (out.map g)
      rw [back] at z
      simpa using z
    have hlen : ((out.map g).map fun q => V.ref q.1).length ≤ sizeLine := by rw [List.length_map, List.length_map, pmo.length_eq]; exact hz2
    exact ⟨.ref _, upd H (s.heap.objs.size + 1) (.lst ((out.map g).map fun q => V.ref q.1)), I.laid (t' := s.toks) (fun _ _ => PyProof.Rows.sortedAll_old) (Nat.le_succ _) ⟨hlen, out.toArray.toList, ep, hvv, he'⟩, rfl, q _ _ pL pw (I.hok.fresh (Nat.le_succ _))⟩
end
end L2
namespace CK
open PySem PySem.Spec PyProof.Rows L2 VG FR HD
/-- ascending rows -/
def LexAsc (l : List (List Int)) : Prop := l.Pairwise fun a b => TU.lexI a b = true
theorem lexI_self (a : List Int) : TU.lexI a a = false := by
  cases h : TU.lexI a a with
  | false => rfl
  | true => exact absurd (TU.lexI_asym a a h) (by rw [h]; exact Bool.noConfusion)
theorem LexAsc.nodup {l : List (List Int)} (h : LexAsc l) : l.Nodup := List.Pairwise.imp (fun {a b} q e => by rw [e, lexI_self] at q; cases q) h
theorem lexAsc_of {l : List (List Int)} (nd : l.Nodup) (h : l.Pairwise fun a b => TU.lexI b a = false) : LexAsc l := by
  refine List.Pairwise.imp (fun {a b} q => ?_) (List.Pairwise.and h nd)
  obtain ⟨h1, h2⟩ := q
  cases e : TU.lexI a b with
  | true => rfl
  | false => exact absurd (TU.lexI_total a b e h1) h2
theorem LexAsc.first {a b : List Int} {l m : List (List Int)} (ha : LexAsc (a :: l)) (hb : LexAsc (b :: m)) (h : ∀ c, c ∈ a :: l ↔ c ∈ b :: m) : a = b := by
  have ha' := (List.pairwise_cons.mp ha).1
  have hb' := (List.pairwise_cons.mp hb).1
  rcases List.mem_cons.mp ((h a).mp List.mem_cons_self) with e | m1
  · exact e
  · rcases List.mem_cons.mp ((h b).mpr List.mem_cons_self) with e | m2
    · exact e.symm
    · have q := TU.lexI_asym _ _ (hb' a m1)
      rw [ha' b m2] at q
      cases q
theorem LexAsc.uniq : ∀ {l m : List (List Int)}, LexAsc l → LexAsc m → (∀ c, c ∈ l ↔ c ∈ m) → l = m
  | [], [], _, _, _ => rfl
  | [], b :: m, _, _, h => by have := (h b).mpr List.mem_cons_self; cases this
  | a :: l, [], _, _, h => by have := (h a).mp List.mem_cons_self; cases this
  | a :: l, b :: m, ha, hb, h => by
    have e := ha.first hb h
    subst e
    have n1 := (List.nodup_cons.mp ha.nodup).1
    have n2 := (List.nodup_cons.mp hb.nodup).1
    have h2 : ∀ c, c ∈ l ↔ c ∈ m := fun c => ⟨fun hc => by
      rcases List.mem_cons.mp ((h c).mp (List.mem_cons_of_mem _ hc)) with e | m1
      · rw [e] at hc; exact absurd hc n1
      · exact m1, fun hc => by
      rcases List.mem_cons.mp ((h c).mpr (List.mem_cons_of_mem _ hc)) with e | m1
      · rw [e] at hc; exact absurd hc n2
      · exact m1⟩
    rw [LexAsc.uniq (List.pairwise_cons.mp ha).2 (List.pairwise_cons.mp hb).2 h2]
/-- the rows of a core -/
def CoreR (ls os : List (List Int)) : Prop := LexAsc os ∧ ∀ c, c ∈ os ↔ c ∈ ls ∧ c ≠ []
theorem core_ok {ks : List Str} {ls os : List (List Int)} (ok : TabOk ks ls) (h : CoreR ls os) : TabOk ks os :=
  ⟨ok.kinds, by have := nodup_le os ls h.1.nodup fun x hx => ((h.2 x).mp hx).1; have := ok.len; omega, fun c hc => ok.lots c ((h.2 c).mp hc).1⟩
def spCore (K : PySem.W.Frag) (C R : Addr) : Sp := fun vs H Q E => ∃ (a : Addr) (ks : List Str) (ts : List (List Int)), vs = [.ref a] ∧ Tab K C H a ks ts ∧ TabOk ks ts ∧
  (classesL ts ks.length ≠ [] → ∀ ls os, ByCls ts ks.length ls → CoreR ls os → spTabNew K C H Q (clsN ks (classesL ts ks.length)) os) ∧
  (classesL ts ks.length = [] → ∀ H' x, Same H H' → H x = none → H' x = some (.xd [((("word" : String) : Str), .str (("kinds" : String) : Str))]) → E (.ref R) (some x) H')
theorem tots_refs {K : PySem.W.Frag} {H : Hp} : ∀ (ps : List (Addr × List Int)), (∀ p ∈ ps, SqT K H p.1 (p.2.map V.int)) → Tots K H (ps.map fun p => V.ref p.1) (ps.map (·.2))
  | [], _ => trivial
  | p :: ps, h => by
    have ih := tots_refs ps fun q hq => h q (List.mem_cons_of_mem _ hq)
    exact ⟨⟨p.1, rfl, h p List.mem_cons_self⟩, ih⟩
end CK
namespace K03
open PySem PySem.Spec PyProof.Rows L2 VG FR CK HD
abbrev s_core_of : Stmt := topS 34
abbrev N_core_of : List Str := ["table", "whole", "total"]
theorem sc_core_of : FnScope N_core_of ["table"] (defScope s_core_of) := ⟨rfl, rfl, rfl, by decide +kernel, rfl, by decide +kernel, by decide +kernel⟩
section
variable {P : Program} {w : World} {K : PySem.W.Frag} {mg : Str → Option Value} {base : Heap}
theorem ok_core_of {f C R : Addr} {fd : FuncData} (F : Fun K "core_of" "core_of" s_core_of f fd) (T : TabC K C) (T_Table : MkT P w K mg base 7 "Table" C (spInitT K C)) (C_merged : ClX P w K mg base 9 "merged" (spMerged K C R)) (z_tuple : mg "tuple" = none) (z_sorted : mg "sorted" = none) (z_set : mg "set" = none) :
    FnOk P w K mg base (L2.CX P w) 11 f fd ["table"] (spCore K C R) := by
  refine F.okX sc_core_of (fun vs H Q E h => ?_) (fun cdv A outer s H vs Q E hr h => ?_)
  · obtain ⟨_, _, _, rfl, _⟩ := h
    rfl
  · obtain ⟨a, ks, ts, rfl, hTab, ok, fin, err⟩ := h
    refine ⟨_, (pss_cons (ps_set (i := 1) sc_core_of.nd rfl (.inl rfl) (pe_clx C_merged hr (by decide) (takes_of rfl rfl rfl rfl) rfl (pa_cons (pv 0) pa_nil)))
    (pss_one (ps_ret (pe_mt T_Table hr (by decide) rfl (pa_cons (pe_fld (pv 1) (by rfl)) (pa_cons (pe_callTy call_tuple_of (by rfl) z_tuple (by decide +kernel) (pa_cons (pe_callB (cr_sortedU rfl (Nat.lt_of_le_of_lt (Nat.add_le_add_left (by decide) _) hr.units)) (by rfl) z_sorted (by decide +kernel) (pa_cons (pe_callTy (cr_setOfT rfl hr.units) (by rfl) z_set (by decide +kernel) (pa_cons (pe_lc (own := [("total", 2)]) (by rfl) sc_core_of.nd (pi_tup (pe_fld (pv 1) (by rfl))) (blkOk_by (own := [("total", 2)]) (N := N_core_of) (sc := defScope s_core_of) (by decide +kernel)) (fun _ _ _ _ _ => (pg_name (i := 2) sc_core_of.nd rfl (.inl rfl))) (fun _ _ _ _ _ => (pts_one (pt_tru (K := K) rfl (pv 2) (by intro _; rfl)))) (fun _ _ _ _ _ => (pv 2))) pa_nil)) pa_nil)) pa_nil)) pa_nil)))))), ?_⟩
    have big : sizeLine = 16777216 := by decide
    refine ⟨_, rfl, a, ks, ts, rfl, hTab, ok, fun hne ls by_ => ⟨merged_ok ok hne by_, fun H1 m s1 nm hM => ?_⟩, fun hz H' x s1 nx hx => err hz H' x s1 nx hx⟩
    have okM := merged_ok ok hne by_
    have fin := fin hne ls
    generalize clsN ks (classesL ts ks.length) = ns at hM okM fin
    obtain ⟨dx, k, t, xs, hO, hK, hS, hT⟩ := hM
    have lx := hT.len
    have l12 := okM.len
    refine ⟨_, rfl, m, C, dx, _, .ref k, rfl, hO, T.c, T.nk, rfl, ?_⟩
    refine ⟨_, rfl, m, C, dx, _, .ref t, rfl, hO, T.c, T.nt, rfl, t, rfl, ⟨_, hS⟩, fun D nD => ?_⟩
    refine lc_it (walk_tup (K := K) (a := t) (xs := xs)) (fun i H' => Same H1 H' ∧ ∃ ps : List (Addr × List Int), H' D = some (.lst (ps.map fun p => V.ref p.1)) ∧ (∀ p ∈ ps, SqT K H1 p.1 (p.2.map V.int)) ∧ ps.map (·.2) = (ls.take i).filter (fun c => !c.isEmpty) ∧ ps.length ≤ i) ⟨same_upd nD, [], upd_same, (by intro _ h; cases h), rfl, Nat.le_refl _⟩ (fun i H' _ h => seqT h.1 hS) ?_ ?_
    · rintro i v H2 H3 hi ⟨sm, ps, hD, hp, eq, lp⟩ ⟨rfl, ex⟩
      obtain ⟨tt, c, rfl, ec, ht⟩ := hT.get ex
      refine ⟨rfl, _, rfl, !(c.map V.int).isEmpty, .inr (.inl ⟨_, seqT sm ht, rfl⟩), ?_⟩
      have tk : (ls.take (i + 1)).filter (fun c => !c.isEmpty) = (ls.take i).filter (fun c => !c.isEmpty) ++ ([c].filter fun c => !c.isEmpty) := by rw [List.take_add_one, ec, List.filter_append]; rfl
      cases c with
      | nil =>
        refine iteF ⟨sm, ps, hD, hp, ?_, by omega⟩
        rw [tk, eq]
        simp
      | cons c0 cr =>
        refine iteT ⟨_, rfl, _, hD, ?_, HD.same_put sm nD, ps ++ [(tt, c0 :: cr)], ?_, fun p hm => ?_, ?_, ?_⟩
        · rw [List.length_map]
          have : i < xs.length := hi
          omega
        · rw [upd_same, List.map_append]
          rfl
        · rcases List.mem_append.mp hm with z | z
          · exact hp p z
          · rw [List.mem_singleton.mp z]
            exact ht
        · rw [tk, List.map_append, eq]
          rfl
        · rw [List.length_append]
          show ps.length + 1 ≤ i + 1
          omega
    · rintro H2 ⟨sm, ps, hD, hp, eq, lp⟩
      rw [lx, List.take_length] at eq
      refine ⟨D, ps, rfl, .inl (.inl hD), fun p hm => seqT sm (hp p hm), by omega, fun b L nb sub all => ?_⟩
      have sb : Same H2 (L2.upd H2 b (SetTO P w b L)) := same_upd nb
      have s13 := sm.trans sb
      refine ⟨b, L, rfl, upd_same, fun p hm => seqT s13 (hp p (sub p hm)), fun L' q pm nd few pw nq => ?_⟩
      have sq : Same (L2.upd H2 b (SetTO P w b L)) (L2.upd (L2.upd H2 b (SetTO P w b L)) q (.lst (L'.map fun q => V.ref q.1))) := same_upd nq
      have s14 := s13.trans sq
      refine ⟨q, _, rfl, .inl ⟨.inl (.inl upd_same), fun r nr => ?_⟩⟩
      have sr : Same (L2.upd (L2.upd H2 b (SetTO P w b L)) q (.lst (L'.map fun q => V.ref q.1))) (L2.upd (L2.upd (L2.upd H2 b (SetTO P w b L)) q (.lst (L'.map fun q => V.ref q.1))) r (.tup (L'.map fun q => V.ref q.1))) := same_upd nr
      have s15 := s14.trans sr
      have core : CoreR ls (L'.map (·.2)) := by
        refine ⟨lexAsc_of nd (List.pairwise_map.mpr pw), fun c => ?_⟩
        have e1 : c ∈ L'.map (·.2) ↔ c ∈ L.map (·.2) := (pm.map (·.2)).mem_iff
        have e2 : c ∈ L.map (·.2) ↔ c ∈ ps.map (·.2) := ⟨fun h => by
          obtain ⟨p, h1, h2⟩ := List.mem_map.mp h
          exact List.mem_map.mpr ⟨p, sub p h1, h2⟩, fun h => by
          obtain ⟨p, h1, h2⟩ := List.mem_map.mp h
          rw [← h2]
          exact all p h1⟩
        rw [e1, e2, eq, List.mem_filter]
        cases c with
        | nil => simp
        | cons x y => simp
      have okC := core_ok okM core
      have inH : ∀ p ∈ L', SqT K (L2.upd (L2.upd (L2.upd H2 b (SetTO P w b L)) q (.lst (L'.map fun q => V.ref q.1))) r (.tup (L'.map fun q => V.ref q.1))) p.1 (p.2.map V.int) := fun p hm => seqT s15 (hp p (sub p (pm.mem_iff.mp hm)))
      refine fun x dx2 nx nd2 ne => tab_made (seqT s15 hK) okC.kinds (sqt upd_same) (tots_refs L' inH) okC.len okC.lots nx nd2 ne fun H6 s6 tab na => ?_
      exact fin _ by_ core H6 x (s1.trans (s15.trans s6)) ((s1.trans s15).free na) tab
end
end K03
namespace VG
open PySem PySem.Spec PyProof.Rows L2
/-- the keys of some texts -/
def inS (ks : List Str) : Key → Bool := fun k => decide (∃ x ∈ ks, k = .inr x)
section
variable {P : Program} {w : World} {A : Around} {E : Value → Shared → Prop} {s : Shared}
theorem setK_new_at {h : Heap} {a : Addr} {ks : List Str} (ho : h.get? a = some { cls := .type "set", dict := none, data := .set #[] 0 (.fresh 0 0 (!w.params.followText "set-order")) }) : h.SetOf (mixKind P w) a (inS (ks.take 0)) 0 :=
  ⟨_, #[], 0, _, ho, ⟨rfl, rfl, rfl⟩, rfl, (fun e he => by simp at he), (fun k => by simp [inS]), (by decide), (by rfl), rfl⟩
theorem set_update_strs {I : Addr} {fp wr : List Addr} {G : Array GenState → Array GenState → Prop} {n : Nat} {Pv : Nat → Value → Prop} {St : Nat → Shared → Prop} {R : Result → Shared → Prop}
    (W : WalksS P w A.in1 I fp wr G n Pv St) (S : Addr) (hSf : S ∉ fp) (ns : List Str) (hn : n = ns.length) (hb : ns.length + 1 < scanBound) (hval : ∀ i v, Pv i v → ∃ k t, ns[i]? = some k ∧ v = .str k t) :
    ∀ (k i : Nat) (s : Shared), n - i = k → i ≤ n → St i s → (∃ c, c ≤ i ∧ ((ns.take i).Nodup ↔ c = i) ∧ s.heap.SetOf (mixKind P w) S (inS (ns.take i)) c) →
      (∀ s' c, Moved (S :: wr) G s s' → c ≤ n → (ns.Nodup ↔ c = n) → s'.heap.SetOf (mixKind P w) S (inS ns) c → R (.ok (.ret .none)) s') →
      codeAny (model P w) A (.builtin "set.update.loop" ⟨[.ref S, .ref I], []⟩) R s := by
  have hSw : S ∉ wr := fun h => hSf (W.sub _ h)
  have hsub : ∀ b ∈ wr, b ∈ S :: wr := fun b hb => List.mem_cons_of_mem _ hb
  intro k
  induction k with
  | zero =>
    intro i s hk' hi hst ⟨c, hc, hnd, hS⟩ hR
    have hin : i = n := by omega
    subst hin
    refine codeAny_builtin F.entry_set_update_loop ?_
    rw [Around.under_plainId F.plain_set_update_loop _]
    show wpAny _ A.in1 (pyNext (.ref I) >>= _) _ _ s
    refine wpAny_bind (W.done s _ _ hst fun s' hm => ?_)
    show wpAny _ A.in1 (ret Value.none) _ _ s'
    have e : ns.take i = ns := List.take_of_length_le (by omega)
    rw [e] at hS hnd
    exact wpAny_pure (hR s' c (hm.mono hsub) hc hnd (setOf_at hS fun o e => hm.heap S o hSw e))
  | succ k ih =>
    intro i s hk' hi hst ⟨c, hc, hnd, hS⟩ hR
    have hlt : i < n := by omega
    refine codeAny_builtin F.entry_set_update_loop ?_
    rw [Around.under_plainId F.plain_set_update_loop _]
    show wpAny _ A.in1 (pyNext (.ref I) >>= _) _ _ s
    refine wpAny_bind (W.item i s _ _ hlt hst fun v s' hP hst' hm => ?_)
    obtain ⟨z, t, hz, rfl⟩ := hval i v hP
    have hS' : s'.heap.SetOf (mixKind P w) S (inS (ns.take i)) c := setOf_at hS fun o e => hm.heap S o hSw e
    show wpAny _ A.in1 (holding [Value.str z t] (setAdd S (.str z t)) >>= _) _ _ s'
    refine wpAny_bind (wpAny_holding ?_)
    unfold setAdd
    refine wpAny_holding ?_
    have hkey : (mixKind P w).is (.inr z) (.str z t) = true := kV_is (k := .inr z) ⟨t, rfl⟩
    refine wpAny_bind ((mixKind P w).pyHash (k := .inr z) hkey ?_)
    refine wpAny_setAddHashed_of (s := { s' with toks := s'.toks + 1 }) hkey rfl hS' (by omega) fun h' hsb hS2 => ?_
    have hin : inS (ns.take i) (.inr z) = decide (z ∈ ns.take i) := by
      unfold inS
      exact decide_eq_decide.mpr ⟨fun ⟨x, hx, e⟩ => by injection e with e; rw [e]; exact hx, fun h => ⟨z, h, rfl⟩⟩
    rw [hin] at hS2
    have hS3 : h'.SetOf (mixKind P w) S (inS (ns.take (i + 1))) (if decide (z ∈ ns.take i) = true then c else c + 1) := by
      have e : (fun k' => inS (ns.take i) k' || decide (k' = Sum.inr z)) = inS (ns.take (i + 1)) := by
        funext j
        rw [List.take_add_one, hz]
        unfold inS
        rw [← Bool.decide_or]
        refine decide_eq_decide.mpr ⟨fun h => ?_, fun ⟨x, hx, e⟩ => ?_⟩
        · rcases h with ⟨x, hx, e⟩ | e
          · exact ⟨x, List.mem_append_left _ hx, e⟩
          · exact ⟨z, List.mem_append_right _ (by simp), e⟩
        · rcases List.mem_append.mp hx with m | m
          · exact .inl ⟨x, m, e⟩
          · have : x = z := by simpa using m
            rw [this] at e
            exact .inr e
      rw [← e]
      exact hS2
    have hc3 : (if decide (z ∈ ns.take i) = true then c else c + 1) ≤ i + 1 := by
      split <;> omega
    have hnd3 : (ns.take (i + 1)).Nodup ↔ (if decide (z ∈ ns.take i) = true then c else c + 1) = i + 1 := by
      rw [List.take_add_one, hz]
      show (ns.take i ++ [z]).Nodup ↔ _
      rw [List.nodup_append]
      by_cases hm : z ∈ ns.take i
      · rw [if_pos (decide_eq_true hm)]
        constructor
        · intro ⟨_, _, h⟩
          exact absurd rfl (h z hm z List.mem_cons_self)
        · intro h
          omega
      · rw [if_neg (by rw [decide_eq_false hm]; exact Bool.false_ne_true)]
        constructor
        · intro ⟨h, _, _⟩
          rw [hnd.mp h]
        · intro h
          refine ⟨hnd.mpr (by omega), by simp, fun a ha b hb e => ?_⟩
          have : b = z := by simpa using hb
          rw [e, this] at ha
          exact hm ha
    refine wpAny_pure ⟨plainId_quiet F.plain_set_update_loop _, ih (i + 1) _ (by omega) hlt (W.frame _ s' _ _ hst' (Nat.le_succ _) fun b hb o e => ?_) ⟨_, hc3, hnd3, hS3⟩ fun s'' c2 hm'' hc'' hn'' hS'' => ?_⟩
    · rw [hsb.2 b (fun h : b = S => hSf (by rw [← h]; exact hb))]; exact e
    · refine hR s'' c2 (Moved.trans W.gtrans ((hm.mono hsub).then_heap (Nat.le_succ _) fun b o hb e => ?_) hm'') hc'' hn'' hS''
      rw [hsb.2 b (fun h : b = S => hb (by rw [h]; exact List.mem_cons_self))]; exact e
set_option maxHeartbeats 6400000 in
theorem set_tupS {l : Addr} {us : Array Value} (ks : List Str) {Q : Value → Shared → Prop} (calm : A.handled = none) (hl : s.heap.IsTuple l us) (size : us.size = ks.length) (val : ∀ (i : Nat) (v : Value), us[i]? = some v → ∃ k t, ks[i]? = some k ∧ v = .str k t) (room : ks.length + 1 < scanBound)
    (fin : ∀ (hp : Heap) (tk c : Nat), hp.SetOf (mixKind P w) s.heap.objs.size (inS ks) c → c ≤ ks.length → (ks.Nodup ↔ c = ks.length) → (∀ b o, s.heap.get? b = some o → hp.get? b = some o) → Q (.ref s.heap.objs.size) { s with heap := hp, toks := tk }) :
    wpAny (model P w) A (call (.type "set") [.ref l]) Q E s := by
  obtain ⟨cc, tl, mro⟩ := F.called_set.mro; have made := F.called_set.made; have sub := F.called_set.sub
  refine wpAny_call (codeAny_of_tree ?_); show wpAny _ _ (callAny (.type "set") _) _ _ _
  refine wpAny_pure ⟨Code.quiet_builtin _ (by decide +kernel), codeAny_builtin F.entry_type_call ?_⟩; rw [Around.under_plain (weight_type_call_type "set" [.ref l] []) rfl]
  have nt := F.called_set.notType; have cr := F.called_set.canCreate; have tc := F.typeCall_set_1 (.ref l)
  repeat (any_goals (first | assumption | wp_step))
  refine codeAny_mono (code_set_led1 (.ref l) (E := E) (Q₁ := fun obj s₁ => obj = .ref s.heap.objs.size ∧ s₁ = { s with heap := s.heap.push (emptyS w) }) ⟨rfl, rfl⟩) fun r s₁ got => ?_
  match r, got with
  | .error e, got => exact got
  | .ok (.ret obj), got =>
    obtain ⟨rfl, rfl⟩ := got
    have new : (s.heap.push (emptyS w)).get? s.heap.objs.size = some (emptyS w) := Heap.get?_push_size _ rfl
    have ty : Shared.TypeIs { s with heap := s.heap.push (emptyS w) } (.ref s.heap.objs.size) "set" := ⟨_, new, rfl⟩
    have il := F.called_set.init.lookup; have ib := F.called_set.init.bind (.ref s.heap.objs.size)
    repeat (any_goals (first | assumption | wp_step))
    refine codeAny_mono (codeAny_call_builtin (R := wants (fun r t => r = .none ∧ ∃ hp tk c, t = { s with heap := hp, toks := tk } ∧ hp.SetOf (mixKind P w) s.heap.objs.size (inS ks) c ∧ c ≤ ks.length ∧ (ks.Nodup ↔ c = ks.length) ∧
      (∀ b o, s.heap.get? b = some o → hp.get? b = some o)) E) F.called_set.init.plain F.entry_set_init (check_set_init_1 ty ?_)) fun r₂ t got2 => ?_
    · obtain ⟨⟨cls, dict, data, slots⟩, at_, hc, nl, hd⟩ := hl
      simp only at hc hd
      subst hc hd
      have at2 : (s.heap.push (emptyS w)).get? l = some { cls := .type "tuple", dict := dict, data := .seq us nl, slots := slots } := Heap.get?_push_of_some _ at_
      have hsls := F.sub_tuple_set; have hslf := F.sub_tuple_frozenset; have hne : (Value.type "tuple" == Value.type "dict") = false := by decide
      have isl : (s.heap.push (emptyS w)).IsTuple l us := ⟨_, at2, rfl, nl, rfl⟩
      unfold Builtin.«set.__init__» noKeywords Builtin.Frozenset.updateFrom; generalize hPI : pyIter = PI
      wp_walk
      subst hPI
      refine wpAny_pyIter_tuple isl ?_
      refine wpAny_bind (wpAny_runValue ?_)
      have ls : l < s.heap.objs.size := Heap.lt_size at_; have calm3 : A.in1.in1.in1.handled = none := by simp [calm]
      have ps : (s.heap.push (emptyS w)).objs.size = s.heap.objs.size + 1 := Heap.size_push ..
      have nI : l ≠ (s.heap.push (emptyS w)).objs.size := by rw [ps]; exact Nat.ne_of_lt (Nat.lt_succ_of_lt ls)
      have nS : s.heap.objs.size ∉ [(s.heap.push (emptyS w)).objs.size, l] := by
        rw [ps]
        intro z
        rcases List.mem_cons.mp z with z | z
        · exact Nat.ne_of_lt (Nat.lt_succ_self _) z
        · exact Nat.ne_of_gt ls (List.mem_singleton.mp z)
      refine set_update_strs ((Walks.tuple calm3 _ l nI us).toS) s.heap.objs.size nS ks size room val (us.size - 0) 0 _ (by omega) (Nat.zero_le _) ⟨⟨_, Heap.get?_push_size _ rfl, rfl, rfl⟩, (isl.push _)⟩ ⟨0, Nat.le_refl 0, by simp, setK_new_at (Heap.get?_push_of_some _ new)⟩ ?_
      intro s' c' hm hc' hn' hS'
      obtain ⟨hp, g2, d2, tk2, os2⟩ := s'
      have eg : g2 = s.gens := hm.gens; have ed : d2 = s.drawn := hm.drawn; have eo : os2 = s.os := hm.os
      subst eg ed eo
      refine wpAny_pure ?_
      show wpAny _ _ (ret Value.none) _ _ _
      refine wpAny_pure ⟨rfl, hp, tk2, c', rfl, hS', by rw [← size]; exact hc', by rw [← size]; exact hn', fun b o e => ?_⟩
      have b0 : b < s.heap.objs.size := Heap.lt_size e
      refine hm.heap b o ?_ (Heap.get?_push_of_some _ (Heap.get?_push_of_some _ e))
      intro z
      rcases List.mem_cons.mp z with z | z
      · exact Nat.ne_of_lt b0 z
      · have z := List.mem_singleton.mp z
        rw [ps] at z
        exact Nat.ne_of_lt (Nat.lt_succ_of_lt b0) z
    · match r₂, got2 with
      | .error e, got2 => exact got2
      | .ok (.ret r), got2 =>
        obtain ⟨rfl, hp, tk, c, rfl, a1, a2, a3, a4⟩ := got2
        repeat (any_goals (first | assumption | wp_step))
        exact fin _ _ _ a1 a2 a3 a4
      | .ok .next, got2 => exact got2.elim
      | .ok .brk, got2 => exact got2.elim
      | .ok .cont, got2 => exact got2.elim
  | .ok .next, got => exact got.elim
  | .ok .brk, got => exact got.elim
  | .ok .cont, got => exact got.elim
end
section
variable {X : Cx}
/-- set(t), t a tuple of texts -/
def rSetTS (K : PySem.W.Frag) (P : Program) (w : World) : List V → Hp → VK → Prop := fun vs H Q => ∃ (a : Addr) (ks : List Str), vs = [.ref a] ∧ SqT K H a (ks.map V.str) ∧ ks.length ≤ 1000 ∧ ∀ (p : Addr) (c : Nat), H p = none → c ≤ ks.length → (ks.Nodup ↔ c = ks.length) → Q (.ref p) (L2.upd H p (SetK P w p (inS ks) c))
theorem cr_setTS (hc : X.calm = true) : CallR X (.type "set") (rSetTS X.K X.prog X.w) := by
  intro pins s σ H vs us Q I r h
  obtain ⟨a, ks, rfl, hS, hl, q⟩ := h
  rw [Vals.ref1 r]
  obtain ⟨its, rv, pl, hz⟩ := I.tuple hS
  have size : its.toArray.size = ks.length := by
    have := rv.length
    rw [List.length_map] at this
    rw [List.size_toArray]
    exact this.symm
  refine set_tupS ks (I.ok.hd hc) pl size (fun i v hv => ?_) (by unfold scanBound; omega) fun hp tk c R hcn hn kp => ?_
  · have il : i < ks.length := by rw [← size]; exact (Array.getElem?_eq_some_iff.mp hv).1
    have e1 : (ks.map V.str)[i]? = some (V.str ks[i]) := by rw [List.getElem?_map, List.getElem?_eq_getElem il]; rfl
    obtain ⟨u, e2, r2⟩ := rv.get e1
    have e3 : its[i]? = some v := by simpa using hv
    have e4 : u = v := Option.some.inj (e2.symm.trans e3)
    obtain ⟨t, e5⟩ := r2
    exact ⟨ks[i], t, List.getElem?_eq_getElem il, by rw [← e4, e5]⟩
  · have fr : H s.heap.objs.size = none := I.hok.fresh (Nat.le_refl _)
    exact ⟨.ref _, L2.upd H s.heap.objs.size (SetK X.prog X.w s.heap.objs.size (inS ks) c), I.laid (t' := tk) kp (Nat.le_refl _) (setK_new R), rfl, q _ c fr hcn hn⟩
/-- len(s) of such a set -/
def rLenSet (P : Program) (w : World) : List V → Hp → VK → Prop := fun vs H Q => ∃ (a : Addr) (S : Key → Bool) (n : Nat), vs = [.ref a] ∧ H a = some (SetK P w a S n) ∧ Q (.int n) H
theorem cr_lenSet : CallR X (.builtin "len") (rLenSet X.prog X.w) := by
  intro pins s σ H vs us Q I r h
  obtain ⟨a, S, n, rfl, ha, q⟩ := h
  rw [Vals.ref1 r]
  obtain ⟨o, es, ep, t, ho, hex, hd, _, _, hb, hf, hn⟩ := setK_get I ha
  have hb2 : scanBound = 4096 := by first | rfl | decide
  exact call_len_set ho hex hd hf (by omega) ⟨.int n, H, I.tok _, ⟨_, by rw [hn]⟩, q⟩
end
end VG
namespace PyProof.Rows
open PySem
section
variable {prog : Program} {w : World} {A : Around} {E : Value → Shared → Prop} {s : Shared}
theorem collect_tupS {l : Addr} {vs : List Value} {Q : List Value → Shared → Prop} (hl : s.heap.IsTuple l vs.toArray) (short : vs.length ≤ sizeLine)
    (h : Q vs { s with heap := (s.heap.push (seqObj "list" #[] 0)).update s.heap.objs.size (Obj.mapSeq (· ++ vs.toArray)) }) :
    wpAny (model prog w) A (collect (.ref l)) Q E s := by
  obtain ⟨o, ho, hc, n, hd⟩ := id hl
  unfold collect
  refine wpAny_bind (wpAny_runValue (codeAny_builtin entry_proto_collect' ?_))
  show wpAny _ _ (do again (.builtin "list.__iadd__" ⟨[← newList [], .ref l], []⟩)) _ _ s
  refine wpAny_bind (wpAny_newList (wpAny_pure ⟨Code.quiet_builtin _ (by decide +kernel), codeAny_builtin entry_list_iadd' ?_⟩))
  show wpAny _ _ (Builtin.List.listExtendWith (.ref s.heap.objs.size) (.ref l) (.ref s.heap.objs.size)) _ _ { s with heap := s.heap.push (seqObj "list" #[] 0) }
  unfold Builtin.List.listExtendWith
  have ho' : (s.heap.push (seqObj "list" #[] 0)).get? l = some o := Heap.get?_push_of_some _ ho
  refine wpAny_bind (wpAny_typeOf (T := "tuple") ⟨o, ho', hc⟩ ?_)
  have ht : (Value.type "tuple" == Value.type "tuple") = true := by rfl
  rw [if_pos (by rw [ht]; simp)]
  refine wpAny_bind (listItems_at ho' hd ?_)
  refine wpAny_bind (listItems_at (xs := #[]) (n := 0) (Heap.get?_push_size _ rfl) rfl ?_)
  rw [if_neg (by simp)]
  refine wpAny_bind (listUpdate_at (xs := #[]) (n := 0) (Heap.get?_push_size _ rfl) rfl ?_ (Nat.zero_le _) (by show (#[] ++ vs.toArray).size ≤ sizeLine + 1; simp only [Array.size_append, List.size_toArray, List.length_nil]; omega))
  refine wpAny_pure ?_
  show wpAny (model prog w) A (do
      let o ← load s.heap.objs.size
      match o.data with
      | .seq xs _ => pure xs.toList
      | _ => unsupported "internal:collect") Q E { s with heap := (s.heap.push (seqObj "list" #[] 0)).update s.heap.objs.size (Obj.mapSeq (· ++ vs.toArray)) }
  refine wpAny_bind (wpAny_load (get?_update_seq (Heap.get?_push_size _ rfl) _) ?_)
  show wpAny _ _ (pure ((#[] : Array Value) ++ vs.toArray).toList) Q E _
  rw [show ((#[] : Array Value) ++ vs.toArray).toList = vs by simp]
  exact wpAny_pure h
theorem sorted_tupS {l : Addr} {vs : List Value} {ss : List Str} {Q : Value → Shared → Prop} (hl : s.heap.IsTuple l vs.toArray) (hS : StrsAre vs ss) (h64 : vs.length < 64)
    (h : ∀ (out : Array Value) (ss' : List Str), StrsAre out.toList ss' → ss'.Perm ss → sortedS ss' = true → Q (.ref (s.heap.objs.size + 1)) { s with heap := sortedAll s.heap vs out }) :
    wpAny (model prog w) A (call (.builtin "sorted") [.ref l]) Q E s := by
  refine Calls.call_function_entry kind_sorted plain_sorted entry_sorted (args_sorted1 _) ?_
  unfold Builtin.«sorted»
  refine wpAny_bind (m := checkCount "sorted" 1 1 _) (wpAny_pure ?_)
  refine wpAny_bind (collect_tupS hl (by rw [sizeLine_eq]; omega) ?_)
  refine wpAny_bind (wpAny_newList ?_ (by rw [sizeLine_eq]; omega))
  have hsz : ((s.heap.push (seqObj "list" #[] 0)).update s.heap.objs.size (Obj.mapSeq (· ++ vs.toArray))).objs.size = s.heap.objs.size + 1 := by
    rw [Heap.size_update, size_push']
  have hoL : (((s.heap.push (seqObj "list" #[] 0)).update s.heap.objs.size (Obj.mapSeq (· ++ vs.toArray))).push (seqObj "list" vs.toArray 0)).get? (s.heap.objs.size + 1) = some (seqObj "list" vs.toArray 0) := by
    rw [← hsz]; exact Heap.get?_push_size _ rfl
  show wpAny _ _ _ _ _ { s with heap := ((s.heap.push (seqObj "list" #[] 0)).update s.heap.objs.size (Obj.mapSeq (· ++ vs.toArray))).push (seqObj "list" vs.toArray 0) }
  rw [hsz]
  refine wpAny_bind (wpAny_holding (wpAny_call_entry slot_list_sort ⟨_, hoL, rfl⟩ entry_list_sort (list_sort_treeK strKind_oneLt hoL hS.keysOf (fun v₁ v₂ rest e => keyKind_strs (by rw [← e]; exact hS)) h64 fun st' a1 a2 => ⟨_, rfl, ?_⟩) (args_list_sort _)))
  obtain ⟨ss', h1, h2, h3⟩ := sorted_out_str hS a1 a2
  exact wpAny_pure ⟨_, rfl, h _ ss' h1 h2 h3⟩
end
end PyProof.Rows
namespace L2
open PySem PySem.Spec PyProof.Rows
def rSortedTS (K : PySem.W.Frag) : List V → Hp → VK → Prop := fun vs H Q => ∃ (a : Addr) (xs : List Str), vs = [V.ref a] ∧ SqT K H a (xs.map V.str) ∧ xs.length < 64 ∧
  ∀ (ys : List Str) (p : Addr), ys.Perm xs → sortedS ys = true → H p = none → Q (.ref p) (upd H p (.lst (ys.map V.str)))
theorem cr_sortedTS {X : Cx} : CallR X (.builtin "sorted") (rSortedTS X.K) := by
  intro pins s σ H vs us Q I r h
  obtain ⟨a, xs, rfl, hs, h64, q⟩ := h
  obtain ⟨its, rv, hl, _⟩ := I.tuple hs
  rw [Vals.ref1 r]
  have hlen0 := rv.length
  rw [List.length_map] at hlen0
  refine PyProof.Rows.sorted_tupS hl rv.strs (by rw [← hlen0]; exact h64) fun out ys h1 h2 h3 => ?_
  obtain ⟨ep, he'⟩ := PyProof.Rows.sortedAll_at s.heap its out
  have hlen : (ys.map V.str).length ≤ sizeLine := by rw [List.length_map, h2.length_eq]; exact small64 h64
  exact ⟨.ref _, upd H (s.heap.objs.size + 1) (.lst (ys.map V.str)), I.laid (t' := s.toks) (fun _ _ => PyProof.Rows.sortedAll_old) (Nat.le_succ _) ⟨hlen, out.toList, ep, vals_of_strs h1, he'⟩, rfl, q ys _ h2 h3 (I.hok.fresh (Nat.le_succ _))⟩
end L2
namespace CK
open PySem PySem.Spec PyProof.Rows L2 VG FR HD
def spUnlike (K : PySem.W.Frag) : Sp := fun vs H Q _ => ∃ (a : Addr) (ks : List Str), vs = [.ref a] ∧ SqT K H a (ks.map V.str) ∧ ks.length ≤ 1000 ∧ ∀ H', Same H H' → Q (.bl (decide ks.Nodup)) H'
/-- the place of a name -/
def plS (ks : List Str) (z : Str) : Nat := ks.findIdx fun y => decide (y = z)
theorem plS_lt {ks : List Str} {z : Str} (h : z ∈ ks) : plS ks z < ks.length := List.findIdx_lt_length_of_exists ⟨z, h, decide_eq_true rfl⟩
theorem plS_at {ks : List Str} {z : Str} (h : z ∈ ks) : ks[plS ks z]? = some z := by
  have lt := plS_lt h
  have e := List.findIdx_getElem (w := lt)
  rw [List.getElem?_eq_getElem lt]
  exact congrArg some (of_decide_eq_true e)
theorem plS_first {ks : List Str} {z : Str} {m : Nat} (h : m < plS ks z) : ks[m]? ≠ some z := by
  intro e
  have lt := (List.getElem?_eq_some_iff.mp e).1
  have e2 := (List.getElem?_eq_some_iff.mp e).2
  have := List.not_of_lt_findIdx h
  rw [e2] at this
  simp at this
/-- the places of all names -/
def plsS (ks ns : List Str) : List Int := ns.map fun z => ((plS ks z : Nat) : Int)
/-- totals by new numbers -/
structure RenR (ps : List Int) (ts rs : List (List Int)) : Prop where
  len : rs.length = ts.length
  rel : ∀ (j : Nat) c r, ts[j]? = some c → rs[j]? = some r → (∀ x : Int, x ∈ r ↔ ∃ k ∈ c, ps[k.toNat]? = some x) ∧ r.Pairwise (· < ·)
theorem ascI_uniq {a b : List Int} (ha : a.Pairwise (· < ·)) (hb : b.Pairwise (· < ·)) (h : ∀ x, x ∈ a ↔ x ∈ b) : a = b := by
  have na : a.Nodup := ha.imp fun z => by omega
  have nb : b.Nodup := hb.imp fun z => by omega
  exact List.Perm.eq_of_pairwise (le := fun a b : Int => a ≤ b) (fun a b _ _ h1 h2 => by omega) (ha.imp fun z => by omega) (hb.imp fun z => by omega) ((List.perm_ext_iff_of_nodup na nb).mpr h)
theorem RenR.uniq {ps : List Int} {ts rs qs : List (List Int)} (h1 : RenR ps ts rs) (h2 : RenR ps ts qs) : rs = qs := by
  refine List.ext_getElem? fun j => ?_
  by_cases lt : j < ts.length
  · have l1 := h1.len
    have l2 := h2.len
    have e1 : ts[j]? = some ts[j] := List.getElem?_eq_getElem lt
    have e2 : rs[j]? = some rs[j] := List.getElem?_eq_getElem (by omega)
    have e3 : qs[j]? = some qs[j] := List.getElem?_eq_getElem (by omega)
    obtain ⟨a1, a2⟩ := h1.rel j _ _ e1 e2
    obtain ⟨b1, b2⟩ := h2.rel j _ _ e1 e3
    rw [e2, e3, ascI_uniq a2 b2 fun x => (a1 x).trans (b1 x).symm]
  · have l1 := h1.len
    have l2 := h2.len
    rw [List.getElem?_eq_none (by omega), List.getElem?_eq_none (by omega)]
/-- names that can be kinds, in any sequence -/
structure NamesOk (ns : List Str) : Prop where
  some : 1 ≤ ns.length
  few : ns.length ≤ 12
  ok : ∀ z ∈ ns, NameOk z
  nd : ns.Nodup
theorem kinds_of_perm {ks ns : List Str} (h : NamesOk ns) (p : ks.Perm ns) (a : AscS ks) : KindsOk ks := by
  have := p.length_eq
  have h1 := h.some
  have h2 := h.few
  exact ⟨by omega, by omega, fun z hz => h.ok z (p.mem_iff.mp hz), a⟩
theorem ren_ok {ks ns : List Str} {ts rs : List (List Int)} (h : NamesOk ns) (p : ks.Perm ns) (a : AscS ks) (lt : ts.length ≤ 12) (ok : ∀ c ∈ ts, LotOk (ns.length : Int) c) (r : RenR (plsS ks ns) ts rs) : TabOk ks rs := by
  have lp := p.length_eq
  have h2 := h.few
  refine ⟨kinds_of_perm h p a, by rw [r.len]; exact lt, fun c hc => ?_⟩
  obtain ⟨j, ej⟩ := List.mem_iff_getElem?.mp hc
  have jl : j < ts.length := by
    have := (List.getElem?_eq_some_iff.mp ej).1
    have := r.len
    omega
  obtain ⟨m, pw⟩ := r.rel j _ c (List.getElem?_eq_getElem jl) ej
  have low : ∀ x ∈ c, 0 ≤ x ∧ x < (ks.length : Int) := fun x hx => by
    obtain ⟨k, hk, e⟩ := (m x).mp hx
    unfold plsS at e
    rw [List.getElem?_map] at e
    obtain ⟨z, ez, e⟩ := Option.map_eq_some_iff.mp e
    have := plS_lt (p.mem_iff.mpr (List.mem_of_getElem? ez))
    omega
  have small : c.length ≤ ks.length := by
    have q := nodup_le c ((List.range ks.length).map fun (j : Nat) => (j : Int)) (pw.imp fun z => by omega) fun x hx => by
      obtain ⟨h0, h1⟩ := low x hx
      obtain ⟨i, rfl⟩ := Int.eq_ofNat_of_zero_le h0
      exact List.mem_map.mpr ⟨i, List.mem_range.mpr (by omega), rfl⟩
    rw [List.length_map, List.length_range] at q
    exact q
  exact ⟨by omega, low, asc_pw pw⟩
/-- what is given back: the table and the new numbers -/
def spPairNew (K : PySem.W.Frag) (C : Addr) (H : Hp) (Q : VK) (ks : List Str) (rs : List (List Int)) (ps : List Int) : Prop := ∀ H' r x u, Same H H' → H' r = some (.tup [.ref x, .ref u]) → Tab K C H' x ks rs → SqT K H' u (ps.map V.int) → Q (.ref r) H'
def spByNames (K : PySem.W.Frag) (C : Addr) : Sp := fun vs H Q _ => ∃ (n t : Addr) (ns : List Str) (xs : List V) (ts : List (List Int)), vs = [.ref n, .ref t] ∧ SqT K H n (ns.map V.str) ∧ NamesOk ns ∧ SqT K H t xs ∧ Tots K H xs ts ∧ ts.length ≤ 12 ∧ (∀ c ∈ ts, LotOk (ns.length : Int) c) ∧
  ∀ ks rs, ks.Perm ns → AscS ks → RenR (plsS ks ns) ts rs → spPairNew K C H Q ks rs (plsS ks ns)
def strD : PyData → Str
  | .str z => z
  | _ => Str.empty
def strsD : PyData → List Str
  | .tuple ds => ds.map strD
  | _ => []
def renB (n : Nat) (d : PyData) : Bool := tupD n d && namesD d && decide (strsD d).Nodup
theorem names_strs {K : PySem.W.Frag} {H : Hp} : ∀ {xs : List V} {ds : List PyData}, OvAll K H xs ds → ds.all nameD = true → xs = (ds.map strD).map V.str
  | _, _, .nil, _ => rfl
  | _, _, .cons (d := d) h r, e => by
    rw [List.all_cons, Bool.and_eq_true] at e
    have ih := names_strs r e.2
    cases h with
    | str x => rw [ih]; rfl
    | non => cases e.1
    | bl b => cases e.1
    | int i => cases e.1
    | dct h => cases e.1
    | lst h r => cases e.1
    | tup h r => cases e.1
theorem name_of_B {z : Str} (h : nameB z = true) : NameOk z := by
  unfold nameB at h
  rw [Bool.and_eq_true] at h
  have h1 := of_decide_eq_true h.1
  refine ⟨h1.1, h1.2, fun c hc => ?_⟩
  have h2 := of_decide_eq_true (List.all_eq_true.mp h.2 c hc)
  have all : (cLETTERS.cps.toList.all fun c => decide (97 ≤ c ∧ c ≤ 122)) = true := by decide +kernel
  exact of_decide_eq_true (List.all_eq_true.mp all c h2)
theorem names_of_D {ds : List PyData} (h : ds.all nameD = true) : ∀ z ∈ ds.map strD, NameOk z := by
  intro z hz
  obtain ⟨d, hd, rfl⟩ := List.mem_map.mp hz
  have q := List.all_eq_true.mp h d hd
  cases d with
  | str x => exact name_of_B q
  | _ => cases q
def spRenamed (K : PySem.W.Frag) (C R : Addr) : Sp := fun vs H Q E => ∃ (a : Addr) (v : V) (d : PyData) (ks : List Str) (ts : List (List Int)), vs = [.ref a, v] ∧ Tab K C H a ks ts ∧ TabOk ks ts ∧ Ov K H v d ∧ shortD d ∧ (∀ ds, d = .tuple ds → ∀ x ∈ ds, shortS x) ∧
  (renB ks.length d = true → ∀ os rs, os.Perm (strsD d) → AscS os → RenR (plsS os (strsD d)) ts rs → spPairNew K C H Q os rs (plsS os (strsD d))) ∧
  (renB ks.length d = false → ∀ H' x, Same H H' → H x = none → H' x = some (.xd [((("word" : String) : Str), .str (("names" : String) : Str))]) → E (.ref R) (some x) H')
def rTupIxS (K : PySem.W.Frag) : V → List V → Hp → VK → Prop := fun x xs H Q => ∃ p, ∃ ys : List Str, ∃ z j, x = .ref p ∧ xs = [.str z] ∧ SqT K H p (ys.map V.str) ∧ ys[j]? = some z ∧ (∀ m, m < j → ys[m]? ≠ some z) ∧ Q (.int (j : Nat)) H
theorem mt_tup_indexS {X : Cx} : MtR X "tuple.index" (rTupIxS X.K) := mt_tup_index
end CK
namespace K03
open PySem PySem.Spec PyProof.Rows L2 VG FR CK HD
abbrev s_are_unlike : Stmt := topS 10
abbrev N_are_unlike : List Str := ["some"]
theorem sc_are_unlike : FnScope N_are_unlike ["some"] (defScope s_are_unlike) := ⟨rfl, rfl, rfl, by decide +kernel, rfl, by decide +kernel, by decide +kernel⟩
abbrev s_table_by_names : Stmt := topS 32
abbrev N_table_by_names : List Str := ["names", "totals", "kinds", "numbers", "renumbered", "total", "name", "kind"]
theorem sc_table_by_names : FnScope N_table_by_names ["names", "totals"] (defScope s_table_by_names) := ⟨rfl, rfl, rfl, by decide +kernel, rfl, by decide +kernel, by decide +kernel⟩
abbrev s_renamed_table : Stmt := topS 31
abbrev N_renamed_table : List Str := ["table", "names"]
theorem sc_renamed_table : FnScope N_renamed_table ["table", "names"] (defScope s_renamed_table) := ⟨rfl, rfl, rfl, by decide +kernel, rfl, by decide +kernel, by decide +kernel⟩
section
variable {P : Program} {w : World} {K : PySem.W.Frag} {mg : Str → Option Value} {base : Heap}
theorem ok_are_unlike {f : Addr} {fd : FuncData} (F : Fun K "are_unlike" "are_unlike" s_are_unlike f fd) (z_len : mg "len" = none) (z_set : mg "set" = none) : FnOk P w K mg base CX0 1 f fd ["some"] (spUnlike K) := by
  refine F.ok sc_are_unlike (fun vs H Q E h => ?_) (fun cdv A outer s H vs Q E hr h => ?_)
  · obtain ⟨_, _, rfl, _⟩ := h
    rfl
  · obtain ⟨a, ks, rfl, hK, lk, fin⟩ := h
    refine ⟨_, (pss_one (ps_ret (pe_cmpR op_eq (pe_callB cr_lenSet (by rfl) z_len (by decide +kernel) (pa_cons (pe_callTy (cr_setTS rfl) (by rfl) z_set (by decide +kernel) (pa_cons (pv 0) pa_nil)) pa_nil)) (pe_callB call_len_seq (by rfl) z_len (by decide +kernel) (pa_cons (pv 0) pa_nil)) (nomark _)))), ?_⟩
    refine ⟨_, rfl, a, ks, rfl, hK, lk, fun p c np hc hn => ?_⟩
    have sp := same_upd (o := SetK P w p (inS ks) c) np
    refine ⟨p, _, c, rfl, upd_same, ?_⟩
    refine ⟨_, rfl, a, _, rfl, .inr (seqT sp hK), rfl, ?_⟩
    have q := fin _ sp
    have e : decide ks.Nodup = decide (V.int (c : Int) = V.int ((ks.map V.str).length : Int)) := by
      refine decide_eq_decide.mpr (hn.trans ⟨fun z => by rw [z, List.length_map], fun z => ?_⟩)
      injection z with z
      rw [List.length_map] at z
      omega
    rw [e] at q
    exact q
theorem ok_table_by_names {f C : Addr} {fd : FuncData} (F : Fun K "table_by_names" "table_by_names" s_table_by_names f fd) (T : TabC K C) (T_Table : MkT P w K mg base 7 "Table" C (spInitT K C)) (z_tuple : mg "tuple" = none) (z_sorted : mg "sorted" = none) :
    FnOk P w K mg base CX0 9 f fd ["names", "totals"] (spByNames K C) := by
  refine F.ok sc_table_by_names (fun vs H Q E h => ?_) (fun cdv A outer s H vs Q E hr h => ?_)
  · obtain ⟨_, _, _, _, _, rfl, _⟩ := h
    rfl
  · obtain ⟨n, t, ns, xs, ts, rfl, hN, okN, hS, hT, l12, okT, fin⟩ := h
    refine ⟨_, (pss_cons (ps_set (i := 2) sc_table_by_names.nd rfl (.inr rfl) (pe_callTy call_tupF (by rfl) z_tuple (by decide +kernel) (pa_cons (pe_callB cr_sortedTS (by rfl) z_sorted (by decide +kernel) (pa_cons (pv 0) pa_nil)) pa_nil)))
    (pss_cons (ps_set (i := 3) sc_table_by_names.nd rfl (.inr rfl) (pe_callTy call_tupF (by rfl) z_tuple (by decide +kernel) (pa_cons (pe_lc (own := [("name", 6)]) (by rfl) sc_table_by_names.nd (pi_tup (pv 0)) (blkOk_by (own := [("name", 6)]) (N := N_table_by_names) (sc := defScope s_table_by_names) (by decide +kernel)) (fun _ _ _ _ _ => (pg_name (i := 6) sc_table_by_names.nd rfl (.inl rfl))) (fun _ _ _ _ _ => pts_nil) (fun _ _ _ _ _ => (show PE _ _ (tTM (rTupIxS K) (tVar 2) (tCons (tVar 6) tNil)) from pe_tm PySem.F.plainAttrs_tuple PySem.F.slot_tuple_index PySem.F.type_tuple_index mt_tup_indexS (pv 2) (pa_cons (pv 6) pa_nil)))) pa_nil)))
    (pss_cons (ps_setLc (i := 4) (own := [("total", 5)]) (by rfl) sc_table_by_names.nd rfl rfl (sw_true rfl rfl rfl (by decide +kernel)) (pi_tup (pv 1)) (blkOk_by (own := [("total", 5)]) (N := N_table_by_names) (sc := defScope s_table_by_names) (by decide +kernel)) (fun _ _ _ _ _ => (pg_name (i := 5) sc_table_by_names.nd rfl (.inl rfl))) (fun _ _ _ _ _ => pts_nil) (fun _ _ _ _ _ => (pe_callTy (show CallR _ (.type "tuple") (rTupOf K) from call_tupK) (by rfl) z_tuple (by decide +kernel) (pa_cons (pe_callB (show CallR _ (.builtin "sorted") (rSorted K) from cr_sorted) (by rfl) z_sorted (by decide +kernel) (pa_cons (pe_lc (own := [("kind", 7)]) (by rfl) sc_table_by_names.nd (show PI _ _ _ (iTup K _) from pi_tup (pv 5)) (blkOk_by (own := [("kind", 7)]) (N := N_table_by_names) (sc := { kind := .function, names := [((".0" : String), .local), (("total" : String), .local), (("tuple" : String), .globalImplicit), (("sorted" : String), .globalImplicit), (("numbers" : String), .cell)], isGenerator := false, isCoroutine := false }) (by decide +kernel)) (fun _ _ _ _ _ => (pg_name (i := 7) sc_table_by_names.nd rfl (.inl rfl))) (fun _ _ _ _ _ => pts_nil) (fun _ _ _ _ _ => (pe_ix (show IxR _ (rIxT K) from ix_tup) (pv 3) (pv 7) (fun _ _ => rfl)))) pa_nil)) pa_nil))))
    (pss_one (ps_ret (pe_tup (pa_cons (pe_mt T_Table hr (by decide) rfl (pa_cons (pv 2) (pa_cons (pe_callTy call_tupF (by rfl) z_tuple (by decide +kernel) (pa_cons (pv 4) pa_nil)) pa_nil))) (pa_cons (pv 3) pa_nil)))))))), ?_⟩
    have big : sizeLine = 16777216 := by decide
    have n12 := okN.few
    refine ⟨_, rfl, n, ns, rfl, hN, by omega, fun ks p perm srt np => ?_⟩
    have nd : ks.Nodup := perm.nodup_iff.mpr okN.nd
    have asc := ascS_of srt nd
    have lk := perm.length_eq
    have sp := same_upd (o := .lst (ks.map V.str)) np
    have kp := upd_same (H := H) (a := p) (o := .lst (ks.map V.str))
    generalize L2.upd H p (.lst (ks.map V.str)) = H0 at sp kp ⊢
    refine ⟨p, _, rfl, .inl (.inl kp), fun k H1 s01 nk hK => ?_⟩
    have s1 := sp.trans s01
    have hN1 := seqT s1 hN
    -- the numbers
    refine ⟨_, rfl, n, rfl, ⟨_, hN1⟩, fun D nD => ?_⟩
    refine lc_it (walk_tup (K := K) (a := n) (xs := ns.map V.str)) (fun i H' => Same H1 H' ∧ H' D = some (.lst ((plsS ks (ns.take i)).map V.int))) ⟨same_upd nD, upd_same⟩ (fun i H' _ h => seqT h.1 hN1) ?_ ?_
    · rintro i v H2 H3 hi ⟨sm, hD⟩ ⟨rfl, ex⟩
      rw [List.getElem?_map] at ex
      obtain ⟨z, ez, rfl⟩ := Option.map_eq_some_iff.mp ex
      have hz : z ∈ ks := perm.mem_iff.mpr (List.mem_of_getElem? ez)
      have hK2 := hK.mono sm
      refine ⟨rfl, _, rfl, ⟨k, _, rfl, hK2⟩, _, rfl, k, ks, z, plS ks z, rfl, rfl, hK2.seq, plS_at hz, fun m hm => plS_first hm, _, hD, ?_, HD.same_put sm nD, ?_⟩
      · unfold plsS
        rw [List.length_map, List.length_map, List.length_take]
        omega
      · unfold plsS
        rw [upd_same, List.take_add_one, ez, List.map_append, List.map_append]
        rfl
    · rintro H2 ⟨sm, hD⟩
      rw [List.length_map, List.take_length] at hD
      refine ⟨D, _, rfl, .inl (.inl hD), fun u H3 s23 nu hU => ?_⟩
      have s13 := sm.trans s23
      have s03 := s1.trans s13
      have hK3 := hK.mono s13
      have hS3 := seqT s03 hS
      have hT3 := hT.mono s03
      have lx := hT.len
      clear hD sm s23 nD nu s13
      generalize eps : plsS ks ns = ps at hU
      have lps : ps.length = ns.length := by rw [← eps]; unfold plsS; rw [List.length_map]
      have psnd : ps.Nodup := by
        rw [← eps]
        unfold plsS
        refine List.pairwise_map.mpr (List.Pairwise.imp_of_mem (fun {a b} ha hb ne e => ?_) okN.nd)
        have ea := plS_at (perm.mem_iff.mpr ha)
        have eb := plS_at (perm.mem_iff.mpr hb)
        have e2 : plS ks a = plS ks b := by omega
        rw [e2, eb] at ea
        exact ne (Option.some.inj ea).symm
      -- the totals
      refine ⟨_, rfl, t, rfl, ⟨_, hS3⟩, fun D2 nD2 => ?_⟩
      refine lc_it (walk_tup (K := K) (a := t) (xs := xs)) (fun i H' => Same H3 H' ∧ ∃ ys rs, H' D2 = some (.lst ys) ∧ Tots K H' ys rs ∧ RenR ps (ts.take i) rs) ⟨same_upd nD2, [], [], upd_same, trivial, ⟨rfl, fun j c r h => by simp at h⟩⟩ (fun i H' _ h => seqT h.1 hS3) ?_ ?_
      · rintro i v H4 H5 hi ⟨sm4, ys, rs, hD, hY, hR⟩ ⟨rfl, ex⟩
        obtain ⟨tt, c, rfl, ec, ht⟩ := hT3.get ex
        have okc := okT c (List.mem_of_getElem? ec)
        have lc := lot_small okc
        have ht4 := seqT sm4 ht
        refine ⟨rfl, _, rfl, tt, rfl, ⟨_, ht4⟩, fun L nL => ?_⟩
        refine lc_it (walk_tup (K := K) (a := tt) (xs := c.map V.int)) (fun i H' => Same H5 H' ∧ H' L = some (.lst (((c.map fun k => ps.getD k.toNat 0).take i).map V.int))) ⟨same_upd nL, upd_same⟩ (fun i H' _ h => seqT h.1 ht4) ?_ ?_
        · rintro j v H6 H7 hj ⟨sm6, hL⟩ ⟨rfl, ex2⟩
          rw [List.getElem?_map] at ex2
          obtain ⟨x, exx, rfl⟩ := Option.map_eq_some_iff.mp ex2
          have hU7 := hU.mono (sm4.trans sm6)
          have ⟨x0, x1⟩ := okc.2.1 x (List.mem_of_getElem? exx)
          obtain ⟨m, rfl⟩ := Int.eq_ofNat_of_zero_le x0
          have ml : m < ps.length := by omega
          refine ⟨rfl, _, rfl, _, rfl, u, ps.map V.int, _, .int (ps.getD m 0), rfl, rfl, hU7.seq, atI_nat (j := m) (by rw [List.getElem?_map, List.getElem?_eq_getElem ml, List.getD_eq_getElem?_getD, List.getElem?_eq_getElem ml]; rfl), _, hL, ?_, HD.same_put sm6 nL, ?_⟩
          · rw [List.length_map, List.length_take, List.length_map]
            omega
          · rw [upd_same, List.take_add_one, List.getElem?_map, exx, List.map_append]
            rfl
        · rintro H6 ⟨sm6, hL⟩
          rw [List.take_of_length_le (by rw [List.length_map, List.length_map]; exact Nat.le_refl _)] at hL
          refine ⟨L, c.map fun k => ps.getD k.toNat 0, rfl, .inl (.inl hL), by rw [List.length_map]; omega, fun ns' p' pm pw np' => ?_⟩
          have sq := same_upd (o := .lst (ns'.map V.int)) np'
          refine ⟨p', _, rfl, .inl ⟨.inl (.inl upd_same), fun r nr => ?_⟩⟩
          have sr := same_upd (o := .tup (ns'.map V.int)) nr
          have s46 := (sm6.trans sq).trans sr
          have hD6 := s46 _ _ hD
          have inps : ∀ k ∈ c, ps[k.toNat]? = some (ps.getD k.toNat 0) := fun k hk => by
            have ⟨k0, k1⟩ := okc.2.1 k hk
            have kl : k.toNat < ps.length := by omega
            rw [List.getD_eq_getElem?_getD, List.getElem?_eq_getElem kl]
            rfl
          have cnd : (c.map fun k => ps.getD k.toNat 0).Nodup := by
            refine List.pairwise_map.mpr (List.Pairwise.imp_of_mem (fun {a b} ha hb lt e => ?_) (pw_of_asc okc.2.2))
            have ea := inps a ha
            have eb := inps b hb
            rw [e] at ea
            have ⟨a0, a1⟩ := okc.2.1 a ha
            have := (List.getElem?_eq_some_iff.mp ea).1
            have := nodup_at psnd ea eb
            omega
          have row : (∀ x : Int, x ∈ ns' ↔ ∃ k ∈ c, ps[k.toNat]? = some x) ∧ ns'.Pairwise (· < ·) := by
            refine ⟨fun x => ?_, ?_⟩
            · rw [pm.mem_iff, List.mem_map]
              exact ⟨fun ⟨k, hk, e⟩ => ⟨k, hk, by rw [← e]; exact inps k hk⟩, fun ⟨k, hk, e⟩ => ⟨k, hk, by
                have := (inps k hk).symm.trans e
                exact Option.some.inj this⟩⟩
            · refine List.Pairwise.imp (fun {a b} h => ?_) (List.Pairwise.and pw (pm.nodup_iff.mpr cnd))
              obtain ⟨h1, h2⟩ := h
              have h2 : a ≠ b := h2
              omega
          refine ⟨ys, hD6, ?_, HD.same_put (sm4.trans s46) nD2, ys ++ [.ref r], rs ++ [ns'], upd_same, ?_, ?_⟩
          · have := hY.len
            have := hR.len
            rw [List.length_take] at this
            omega
          · exact Tots.upd hD6 (Tots.snoc (sqt upd_same) (hY.mono s46))
          · have lr := hR.len
            have il : i < ts.length := by
              have : i < xs.length := hi
              omega
            have lti : (ts.take i).length = i := by rw [List.length_take]; omega
            rw [List.take_add_one, ec]
            show RenR ps (ts.take i ++ [c]) (rs ++ [ns'])
            refine ⟨by rw [List.length_append, List.length_append, lr]; rfl, fun j c' r' h1 h2 => ?_⟩
            rcases Nat.lt_or_ge j i with z | z
            · rw [List.getElem?_append_left (by omega)] at h1 h2
              exact hR.rel j c' r' h1 h2
            · rw [List.getElem?_append_right (by omega)] at h1 h2
              have j0 : j - rs.length = 0 := by
                have := (List.getElem?_eq_some_iff.mp h2).1
                rw [List.length_singleton] at this
                omega
              have j1 : j - (ts.take i).length = 0 := by omega
              rw [j1] at h1
              rw [j0] at h2
              have e1 : c = c' := Option.some.inj h1
              have e2 : ns' = r' := Option.some.inj h2
              subst e1 e2
              exact row
      · rintro H4 ⟨sm4, ys, rs, hD, hY, hR⟩
        rw [lx, List.take_length] at hR
        refine ⟨_, rfl, _, rfl, D2, ys, rfl, .inl (.inl hD), fun t2 H5 s5 nt hT2 => ?_⟩
        have s35 := sm4.trans s5
        have okR : TabOk ks rs := by
          rw [← eps] at hR
          exact ren_ok okN perm asc l12 okT hR
        refine fun x dx2 nx nd ne => tab_made (hK3.mono s35).seq okR.kinds hT2.seq (hY.mono s5) okR.len okR.lots nx nd ne fun H6 s6 tab na => ?_
        refine ⟨_, rfl, by show 2 ≤ sizeLine; decide, fun z nz => ?_⟩
        have sz := same_upd (o := .tup [.ref x, .ref u]) nz
        have sA := ((s03.trans s35).trans s6).trans sz
        refine fin ks rs perm asc (by rw [eps]; exact hR) _ z x u sA upd_same (tab.mono sz) ?_
        rw [eps]
        exact (hU.mono ((s35.trans s6).trans sz)).seq
theorem ok_renamed_table {f fi C R : Addr} {fd fdi : FuncData} (F : Fun K "renamed_table" "renamed_table" s_renamed_table f fd) (T : TabC K C) (C_is_tuple_of : Cl P w K mg base 1 "is_tuple_of" (spTupA K)) (C_are_names : Cl P w K mg base 2 "are_names" (spNamesA K)) (C_are_unlike : Cl P w K mg base 1 "are_unlike" (spUnlike K)) (C_table_by_names : Cl P w K mg base 9 "table_by_names" (spByNames K C))
    (e_Refused : ErrC K mg "Refused" R fi) (i_Refused : FnOk P w K mg base CX0 1 fi fdi ["self", "word"] (spInitW K R "word")) (b_Refused : Binds K fdi ["self", "word"] []) (z_len : mg "len" = none) :
    FnOk P w K mg base (L2.CX P w) 11 f fd ["table", "names"] (spRenamed K C R) := by
  refine F.okX sc_renamed_table (fun vs H Q E h => ?_) (fun cdv A outer s H vs Q E hr h => ?_)
  · obtain ⟨_, _, _, _, _, rfl, _⟩ := h
    rfl
  · obtain ⟨a, v, d, ks, ts, rfl, ⟨dx, k, t, xs, hO, hK, hS, hT⟩, ok, hv, sh, shs, fin, err⟩ := h
    refine ⟨_, (pss_cons (ps_if (PW.pt (pw_or (pt_not (pt_val (pe_cl C_is_tuple_of hr (by decide) rfl (pa_cons (pv 1) (pa_cons (pe_callB call_len_seq (by rfl) z_len (by decide +kernel) (pa_cons (pe_fld (pv 0) (by rfl)) pa_nil)) pa_nil))))) (pw_or (pt_not (pt_val (pe_cl C_are_names hr (by decide) rfl (pa_cons (pv 1) pa_nil)))) (pw_or1 (pt_not (pt_val (pe_cl C_are_unlike hr (by decide) rfl (pa_cons (pv 1) pa_nil))))))))
      (pss_one (ps_raise rfl (takes_of rfl rfl rfl rfl) (pmk_oex e_Refused.o e_Refused.iC e_Refused.tI i_Refused (hr.mono (by decide)) b_Refused .nil pass0 rfl e_Refused.gC (pa_cons pe_str pa_nil))))
      pss_nil)
    (pss_one (ps_ret (pe_cl C_table_by_names hr (by decide) rfl (pa_cons (pv 1) (pa_cons (pe_fld (pv 0) (by rfl)) pa_nil)))))), ?_⟩
    have k12 := ok.kinds.2.1
    have k1 := ok.kinds.1
    refine ⟨_, rfl, _, rfl, a, C, dx, _, .ref k, rfl, hO, T.c, T.nk, rfl, k, ks.map V.str, rfl, .inr hK, ?_⟩
    rw [List.length_map]
    refine ⟨v, d, ks.length, rfl, hv, ?_⟩
    refine ⟨_, rfl, ?_⟩
    cases h1 : tupD ks.length d with
    | false => exact iteT (raised fun H' x s2 nx hx => err (by unfold renB; rw [h1]; rfl) H' x s2 nx hx)
    | true =>
      refine iteF ?_
      refine ⟨_, rfl, v, d, rfl, hv, sh, shs, fun H1 s1 => ⟨_, rfl, ?_⟩⟩
      cases h2 : namesD d with
      | false => exact iteT (raised fun H' x s2 nx hx => err (by unfold renB; rw [h1, h2]; rfl) H' x (s1.trans s2) (s1.free nx) hx)
      | true =>
        refine iteF ?_
        cases d with
        | tuple ds =>
          obtain ⟨n, ys, rfl, hn, hA⟩ := hv.isT
          have ld : ds.length = ks.length := of_decide_eq_true h1
          have ey := names_strs hA h2
          rw [ey] at hn
          have ll : (ds.map strD).length = ks.length := by rw [List.length_map]; exact ld
          refine ⟨_, rfl, n, ds.map strD, rfl, seqT s1 hn, by omega, fun H2 s2 => ⟨_, rfl, ?_⟩⟩
          have s12 := s1.trans s2
          cases h3 : decide (ds.map strD).Nodup with
          | false => exact iteT (raised fun H' x s3 nx hx => err (by unfold renB; rw [h1, h2]; exact h3) H' x (s12.trans s3) (s12.free nx) hx)
          | true =>
            refine iteF ?_
            refine ⟨_, rfl, _, rfl, a, C, dx, _, .ref t, rfl, s12 _ _ hO, T.c, T.nt, rfl, ?_⟩
            refine ⟨n, t, ds.map strD, xs, ts, rfl, seqT s12 hn, ⟨by omega, by omega, names_of_D h2, of_decide_eq_true h3⟩, seqT s12 hS, hT.mono s12, ok.len, by rw [ll]; exact ok.lots, fun os rs pm asc ren => ?_⟩
            exact fun H' r x u s3 e1 e2 e3 => fin (by unfold renB; rw [h1, h2]; exact h3) os rs pm asc ren H' r x u (s12.trans s3) e1 e2 e3
        | _ => cases h2
end
end K03
namespace CK
open PySem PySem.Spec PyProof.Rows L2 VG FR HD
/-- the number of a class, by its sign -/
def NumOf (sg : List (List Int)) (c : List Int) (v : V) : Prop := (c ∉ sg ∧ v = .non) ∨ ∃ a : Nat, sg[a]? = some c ∧ v = .int (a : Int)
/-- the kinds' numbers -/
def NumsOf (f : Nat → List Int) (i : Nat) (sg : List (List Int)) (ns : List V) : Prop := ns.length = i ∧ ∀ j, j < i → ∃ v, ns[j]? = some v ∧ ((f j = [] ∧ v = .non) ∨ ∃ a : Nat, sg[a]? = some (f j) ∧ v = .int (a : Int))
theorem sg_keep {f : Nat → List Int} {i a : Nat} {c : List Int} (h : (sgL f i)[a]? = some c) : (sgL f (i + 1))[a]? = some c := by
  rw [sg_succ]
  split
  · exact h
  · rw [List.getElem?_append_left (List.getElem?_eq_some_iff.mp h).1]
    exact h
theorem nums_end {ts : List (List Int)} {m : Nat} {ns : List V} (h : NumsOf (fT ts) m (sgL (fT ts) m) ns) : ns = (List.range m).map fun j => numV (classesL ts m) ((j : Nat) : Int) := by
  refine List.ext_getElem? fun j => ?_
  by_cases lt : j < m
  · obtain ⟨v, e, q⟩ := h.2 j lt
    rw [e, List.getElem?_map, List.getElem?_range lt]
    show some v = some (numV (classesL ts m) ((j : Nat) : Int))
    congr 1
    rcases q with ⟨e0, rfl⟩ | ⟨a, ea, rfl⟩
    · have none : ∀ b d, (classesL ts m)[b]? = some d → (j : Int) ∉ d := fun b d hb hd => by
        rw [classes_eq, List.getElem?_map] at hb
        obtain ⟨key, ek, rfl⟩ := Option.map_eq_some_iff.mp hb
        obtain ⟨i, i1, i2, i3⟩ := mem_pick.mp hd
        have : i = j := by omega
        subst this
        have q : fT ts i = key := of_decide_eq_true i2
        exact sg_ne (List.mem_of_getElem? ek) (by rw [← q]; exact e0)
      have all : ∀ n, valV (numF (classesL ts m) n) (Sum.inl (j : Int) : L2.Key) = Option.none := by
        intro n
        induction n with
        | zero => rfl
        | succ n ih =>
          show valV (putRow (numF (classesL ts m) n) n ((classesL ts m).getD n [])) _ = _
          rw [row_val, if_neg, ih]
          intro hm
          rw [List.getD_eq_getElem?_getD] at hm
          cases hc : (classesL ts m)[n]? with
          | none => rw [hc] at hm; cases hm
          | some d =>
            rw [hc] at hm
            exact none n d hc hm
      unfold numV
      rw [all]
      rfl
    · refine (num_of (cl := pick (memb (fT ts) (fT ts j)) m) ?_ (mem_pick.mpr ⟨j, lt, decide_eq_true rfl, rfl⟩) fun b d hb hd => ?_).symm
      · rw [classes_eq, List.getElem?_map, ea]
        rfl
      · rw [classes_eq, List.getElem?_map] at hb
        obtain ⟨key, ek, rfl⟩ := Option.map_eq_some_iff.mp hb
        obtain ⟨i, i1, i2, i3⟩ := mem_pick.mp hd
        have : i = j := by omega
        subst this
        have q : fT ts i = key := of_decide_eq_true i2
        subst q
        exact nodup_at (sg_nodup _ _) ek ea
  · rw [List.getElem?_eq_none (by have := h.1; omega), List.getElem?_eq_none (by rw [List.length_map, List.length_range]; omega)]
theorem pk_head {f : Nat → List Int} {i a : Nat} {c : List Int} (h : (sgL f i)[a]? = some c) : ∃ (j : Nat) (r : List Int), (pk f i (sgL f i))[a]? = some ((j : Int) :: r) ∧ j < i ∧ f j = c := by
  have hk : c ∈ keysOf f i := (List.mem_filter.mp (List.mem_of_getElem? h)).1
  have ne := pick_ne hk
  have e : (pk f i (sgL f i))[a]? = some (pick (memb f c) i) := by
    unfold pk
    rw [List.getElem?_map, h]
    rfl
  cases q : pick (memb f c) i with
  | nil => exact absurd q ne
  | cons x r =>
    have m : x ∈ pick (memb f c) i := by rw [q]; exact List.mem_cons_self
    obtain ⟨j, j1, j2, j3⟩ := mem_pick.mp m
    exact ⟨j, r, by rw [e, q, j3], j1, of_decide_eq_true j2⟩
/-- found classes and kinds' numbers while they grow: H is the heap of before -/
def FndW (H H' : Hp) (F N : Addr) (fs : List Addr) (bs : List (List Int)) (ns : List V) : Prop := Same H H' ∧ H' F = some (.lst (fs.map V.ref)) ∧ Blk H' fs bs ∧ H' N = some (.lst ns) ∧ fs.Nodup ∧ ∀ t ∈ fs, t ≠ F ∧ t ≠ N ∧ H t = none
theorem FndW.same {H H1 H2 : Hp} {F N : Addr} {fs : List Addr} {bs : List (List Int)} {ns : List V} (h : FndW H H1 F N fs bs ns) (s : Same H1 H2) : FndW H H2 F N fs bs ns :=
  ⟨h.1.trans s, s _ _ h.2.1, Blk.imp (fun t _ o k => s t o k) h.2.2.1, s _ _ h.2.2.2.1, h.2.2.2.2⟩
theorem FndW.add {H H6 : Hp} {F N T : Addr} {fs : List Addr} {bs : List (List Int)} {ns : List V} (h : FndW H H6 F N fs bs ns) (nF : H F = none) (nFN : F ≠ N) (nT : H6 T = none) :
    FndW H (L2.upd (L2.upd H6 T (.lst [])) F (.lst (fs.map V.ref ++ [.ref T]))) F N (fs ++ [T]) (bs ++ [[]]) ns := by
  obtain ⟨sm, eF, bF, eN, nd, av⟩ := h
  have sT := same_upd (o := .lst []) nT
  have nTF : T ≠ F := fun z => by subst z; rw [eF] at nT; cases nT
  have nTN : T ≠ N := fun z => by subst z; rw [eN] at nT; cases nT
  have HT : H T = none := sm.free nT
  have inF : ∀ t ∈ fs, H6 t ≠ none := fun t ht => by obtain ⟨b, _, k⟩ := bF.at_ ht; rw [k]; exact Option.some_ne_none _
  refine ⟨HD.same_put (sm.trans sT) nF, by rw [upd_same, List.map_append]; rfl, ?_, ?_, ?_, fun t ht => ?_⟩
  · exact Blk.snoc (by rw [upd_ne nTF, upd_same]; rfl) (Blk.imp (fun t ht o k => by rw [upd_ne (av t ht).1]; exact sT _ _ k) bF)
  · rw [upd_ne nFN.symm]
    exact sT _ _ eN
  · exact List.nodup_append.mpr ⟨nd, by simp, fun x hx y hy e => by
      have := List.mem_singleton.mp hy
      subst this
      subst e
      exact inF x hx nT⟩
  · rcases List.mem_append.mp ht with z | z
    · exact av t z
    · rw [List.mem_singleton.mp z]
      exact ⟨nTF, nTN, HT⟩
theorem FndW.put {H H6 : Hp} {F N t : Addr} {fs : List Addr} {bs : List (List Int)} {ns : List V} {j : Nat} {b : List Int} (h : FndW H H6 F N fs bs ns) (et : fs[j]? = some t) : FndW H (L2.upd H6 t (.lst (b.map V.int))) F N fs (bs.set j b) ns := by
  obtain ⟨sm, eF, bF, eN, nd, av⟩ := h
  have a := av t (List.mem_of_getElem? et)
  exact ⟨HD.same_put sm a.2.2, by rw [upd_ne a.1.symm]; exact eF, Blk.set nd et bF, by rw [upd_ne a.2.1.symm]; exact eN, nd, av⟩
theorem FndW.num {H H6 : Hp} {F N : Addr} {fs : List Addr} {bs : List (List Int)} {ns : List V} {v : V} (h : FndW H H6 F N fs bs ns) (nN : H N = none) (nFN : F ≠ N) : FndW H (L2.upd H6 N (.lst (ns ++ [v]))) F N fs bs (ns ++ [v]) := by
  obtain ⟨sm, eF, bF, eN, nd, av⟩ := h
  exact ⟨HD.same_put sm nN, by rw [upd_ne nFN]; exact eF, Blk.imp (fun t ht o k => by rw [upd_ne (av t ht).2.1]; exact k) bF, upd_same, nd, av⟩
def spLawCls (K : PySem.W.Frag) : Sp := fun vs H Q _ => ∃ (l : Addr) (m : Nat) (xs : List V) (ts : List (List Int)), vs = [.int m, .ref l] ∧ SqT K H l xs ∧ Tots K H xs ts ∧ ts.length ≤ 12 ∧ m ≤ 12 ∧
  ∀ (H' : Hp) (r d n : Addr) (ys : List V), Same H H' → H' r = some (.tup [.ref d, .ref n]) → H' d = some (.lst ys) → Tots K H' ys (classesL ts m) → H' n = some (.lst ((List.range m).map fun j => numV (classesL ts m) ((j : Nat) : Int))) → Q (.ref r) H'
end CK
namespace K03
open PySem PySem.Spec PyProof.Rows L2 VG FR CK HD
abbrev s__law_classes : Stmt := topS 44
abbrev N__law_classes : List Str := ["kinds", "totals", "kind", "at", "rows", "found", "numbers", "number", "some"]
theorem sc__law_classes : FnScope N__law_classes ["kinds", "totals"] (defScope s__law_classes) := ⟨rfl, rfl, rfl, by decide +kernel, rfl, by decide +kernel, by decide +kernel⟩
section
variable {P : Program} {w : World} {K : PySem.W.Frag} {mg : Str → Option Value} {base : Heap}
theorem ok__law_classes {f : Addr} {fd : FuncData} (F : Fun K "_law_classes" "_law_classes" s__law_classes f fd) (z_len : mg "len" = none) (z_range : mg "range" = none) (z_tuple : mg "tuple" = none) : FnOk P w K mg base CX0 1 f fd ["kinds", "totals"] (spLawCls K) := by
  refine F.ok sc__law_classes (fun vs H Q E h => ?_) (fun cdv A outer s H vs Q E hr h => ?_)
  · obtain ⟨_, _, _, _, rfl, _⟩ := h
    rfl
  · obtain ⟨l, m, xs, ts, rfl, hX, hT, lt, lm, fin⟩ := h
    refine ⟨_, (pss_cons (ps_setLc (i := 4) (own := [("kind", 2)]) (by rfl) sc__law_classes.nd rfl rfl (sw_true rfl rfl rfl (by decide +kernel)) (pi_range1 (by rfl) z_range (pa_cons (pv 0) pa_nil)) (blkOk_by (own := [("kind", 2)]) (N := N__law_classes) (sc := defScope s__law_classes) (by decide +kernel)) (fun _ _ _ _ _ => (pg_name (i := 2) sc__law_classes.nd rfl (.inr rfl))) (fun _ _ _ _ _ => pts_nil) (fun _ _ _ _ _ => (pe_lc (own := [("at", 3)]) (by rfl) sc__law_classes.nd (pi_range1 (by rfl) z_range (pa_cons (pe_callB (show CallR _ (.builtin "len") (rLenK K) from call_lenK) (by rfl) z_len (by decide +kernel) (pa_cons (pv 1) pa_nil)) pa_nil)) (blkOk_by (own := [("at", 3)]) (N := N__law_classes) (sc := { kind := .function, names := [((".0" : String), .local), (("kind" : String), .cell), (("range" : String), .globalImplicit), (("len" : String), .globalImplicit), (("totals" : String), .cell)], isGenerator := false, isCoroutine := false }) (by decide +kernel)) (fun _ _ _ _ _ => (pg_name (i := 3) sc__law_classes.nd rfl (.inl rfl))) (fun _ _ _ _ _ => (pts_one (pt_cmpR (show OpR _ (compareOp .In) (rIn K false) from op_in_seq) (pv 2) (pe_ix (show IxR _ (rIxT K) from ix_tup) (pv 1) (pv 3) (fun _ _ => rfl)) rfl))) (fun _ _ _ _ _ => (pv 3)))))
    (pss_cons (ps_par (i := 5) (j := 6) (by rfl) sc__law_classes.nd rfl rfl (by decide) rfl rfl (pa_cons (pe_lst pa_nil) (pa_cons (pe_lst pa_nil) pa_nil)) (by rfl))
    (pss_cut (ps_for PassesOwn.never rfl (pi_range1 (by rfl) z_range (pa_cons (pv 0) pa_nil)) (pg_name (i := 2) sc__law_classes.nd rfl (.inl rfl))
      (pss_cons (ps_set (i := 7) sc__law_classes.nd rfl (.inl rfl) pe_non)
      (pss_cut (ps_for PassesOwn.never rfl (pi_range1 (by rfl) z_range (pa_cons (pe_callB call_len_seq (by rfl) z_len (by decide +kernel) (pa_cons (pv 5) pa_nil)) pa_nil)) (pg_name (i := 3) sc__law_classes.nd rfl (.inl rfl))
        (pss_one (ps_if (pt_cmpR (op_eqD hr.units) (pe_ix ix_list (pv 4) (pe_ix ix_list (pe_ix ix_list (pv 5) (pv 3) (fun _ _ => rfl)) pe_int (fun _ _ => rfl)) (fun _ _ => rfl)) (pe_ix ix_list (pv 4) (pv 2) (fun _ _ => rfl)) (nomark _))
          (pss_one (ps_set (i := 7) sc__law_classes.nd rfl (.inl rfl) (pv 3)))
          pss_nil)))
      (pss_cut (ps_if (PW.pt (pw_and (pt_cmpR op_isN (pv 7) pe_non (nomark _)) (pw_and1 (pt_cmpR (op_neD hr.units) (pe_ix ix_list (pv 4) (pv 2) (fun _ _ => rfl)) (pe_lst pa_nil) (nomark _)))))
        (pss_cons (ps_expr (pe_bm PySem.F.plainAttrs_list PySem.F.slot_list_append PySem.F.type_list_append mt_append (pv 5) (pa_cons (pe_lst pa_nil) pa_nil)))
        (pss_one (ps_set (i := 7) sc__law_classes.nd rfl (.inl rfl) (pe_op op_sub (pe_callB call_len_seq (by rfl) z_len (by decide +kernel) (pa_cons (pv 5) pa_nil)) pe_int))))
        pss_nil)
      (pss_cut (ps_if (pt_cmpR op_notN (pv 7) pe_non (nomark _))
        (pss_one (ps_expr (pe_bm PySem.F.plainAttrs_list PySem.F.slot_list_append PySem.F.type_list_append mt_append (pe_ix ix_list (pv 5) (pv 7) (fun _ _ => rfl)) (pa_cons (pv 2) pa_nil))))
        pss_nil)
      (pss_one (ps_expr (pe_bm PySem.F.plainAttrs_list PySem.F.slot_list_append PySem.F.type_list_append mt_append (pv 6) (pa_cons (pv 7) pa_nil)))))))))
    (pss_one (ps_ret (pe_tup (pa_cons (pe_lc (own := [("some", 8)]) (by rfl) sc__law_classes.nd (pi_list (pv 5)) (blkOk_by (own := [("some", 8)]) (N := N__law_classes) (sc := defScope s__law_classes) (by decide +kernel)) (fun _ _ _ _ _ => (pg_name (i := 8) sc__law_classes.nd rfl (.inl rfl))) (fun _ _ _ _ _ => pts_nil) (fun _ _ _ _ _ => (pe_callTy (show CallR _ (.type "tuple") (rTupOf K) from call_tupK) (by rfl) z_tuple (by decide +kernel) (pa_cons (pv 8) pa_nil)))) (pa_cons (pv 6) pa_nil)))))))), ?_⟩
    have big : sizeLine = 16777216 := by decide
    have lx := hT.len
    -- the rows
    refine ⟨_, rfl, _, rfl, by omega, by omega, fun R nR => ?_⟩
    refine lc_it (walk_range (lo := 0) (n := ((m : Nat) : Int).toNat)) (fun i H' => Same H H' ∧ ∃ rs, H' R = some (.lst (rs.map V.ref)) ∧ Blk H' rs ((List.range i).map (fT ts)) ∧ R ∉ rs) ⟨same_upd nR, [], upd_same, trivial, List.not_mem_nil⟩ (fun _ _ _ _ => trivial) ?_ ?_
    · rintro i v H2 H3 hi ⟨sm, rs, hR, hB, nin⟩ ⟨rfl, rfl⟩
      have z1 : (0 : Int) + (i : Nat) = ((i : Nat) : Int) := Int.zero_add _
      have hi2 : i < ((m : Nat) : Int).toNat := hi
      refine ⟨rfl, _, rfl, l, xs, rfl, .inr (seqT sm hX), _, rfl, by omega, by omega, fun L nL => ?_⟩
      refine lc_it (walk_range (lo := 0) (n := ((xs.length : Nat) : Int).toNat)) (fun j H' => Same H3 H' ∧ H' L = some (.lst ((twF ts (i : Int) j).map V.int))) ⟨same_upd nL, upd_same⟩ (fun _ _ _ _ => trivial) ?_ ?_
      · rintro j x H5 H6 hj ⟨s5, kL⟩ ⟨rfl, rfl⟩
        have hj2 : j < xs.length := by have : j < ((xs.length : Nat) : Int).toNat := hj; omega
        have ex : xs[j]? = some xs[j] := List.getElem?_eq_getElem hj2
        obtain ⟨tc, c, e1, ec, hc⟩ := hT.get ex
        rw [e1] at ex
        have z2 : (0 : Int) + (j : Nat) = ((j : Nat) : Int) := Int.zero_add _
        refine ⟨rfl, _, rfl, _, rfl, _, rfl, l, xs, _, _, rfl, rfl, seqT (sm.trans s5) hX, by rw [z2]; exact atI_nat ex, tc, c.map V.int, rfl, .inr (seqT (sm.trans s5) hc), rfl, CK.flat_ints c, _, rfl, ?_⟩
        rw [inV_ints, z1]
        cases hk : c.contains ((i : Nat) : Int) with
        | true =>
          refine iteT ⟨_, rfl, _, kL, ?_, HD.same_put s5 nL, ?_⟩
          · have := twF_len ts (i : Int) j
            rw [List.length_map]
            omega
          · rw [upd_same, twF_yes ec hk]
            show some (HO.lst ((twF ts (i : Int) j).map V.int ++ [V.int ((0 : Int) + (j : Nat))])) = _
            rw [z2, List.map_append]
            rfl
        | false =>
          refine iteF ⟨s5, ?_⟩
          rw [twF_no ec hk]
          exact kL
      · rintro H5 ⟨s5, kL⟩
        have ef : twF ts (i : Int) (((xs.length : Nat) : Int).toNat) = fT ts i := by
          show twF ts (i : Int) _ = twF ts ((i : Nat) : Int) ts.length
          rw [← lx, Int.toNat_natCast]
        rw [ef] at kL
        have lr := hB.len
        rw [List.length_map, List.length_range] at lr
        have nLR : L ≠ R := (ne_of_none hR nL).symm
        refine ⟨_, s5 _ _ hR, by rw [List.length_map]; omega, HD.same_put (sm.trans s5) nR, rs ++ [L], by rw [upd_same, List.map_append]; rfl, ?_, fun z => ?_⟩
        · rw [List.range_succ, List.map_append]
          refine Blk.snoc (by rw [upd_ne nLR]; exact kL) (Blk.imp (fun t ht o k => ?_) hB)
          rw [upd_ne (fun z : t = R => nin (by rw [← z]; exact ht))]
          exact s5 _ _ k
        · rcases List.mem_append.mp z with y | y
          · exact nin y
          · exact nLR (List.mem_singleton.mp y).symm
    rintro H1 ⟨s1, rs, hR, hB, nin⟩
    rw [Int.toNat_natCast] at hB
    have lr := hB.len
    rw [List.length_map, List.length_range] at lr
    have rowAt : ∀ j, j < m → ∃ t, (rs.map V.ref)[j]? = some (.ref t) ∧ H1 t = some (.lst ((fT ts j).map V.int)) := fun j hj => by
      have e : rs[j]? = some rs[j] := List.getElem?_eq_getElem (by omega)
      obtain ⟨b, eb, k⟩ := hB.get e
      rw [List.getElem?_map, List.getElem?_range hj] at eb
      have eb : fT ts j = b := Option.some.inj eb
      subst eb
      exact ⟨_, by rw [List.getElem?_map, e]; rfl, k⟩
    refine ⟨by show 0 ≤ sizeLine; exact Nat.zero_le _, fun Fd nF => ?_⟩
    have sF := same_upd (o := .lst []) nF
    have kF := upd_same (H := H1) (a := Fd) (o := .lst [])
    generalize L2.upd H1 Fd (.lst []) = H2 at sF kF ⊢
    refine ⟨by show 0 ≤ sizeLine; exact Nat.zero_le _, fun N nN => ?_⟩
    have sN := same_upd (o := .lst []) nN
    have kN := upd_same (H := H2) (a := N) (o := .lst [])
    have nFN : Fd ≠ N := ne_of_none kF nN
    have kF := sN _ _ kF
    have s13 := sF.trans sN
    have nN1 : H1 N = none := sF.free nN
    generalize L2.upd H2 N (.lst []) = H3 at kF kN s13 ⊢
    refine ⟨_, _, rfl, ?_⟩
    refine ⟨fun σ H' => (∃ y2 y3 y7 : Option V, σ = [some (.int m), some (.ref l), y2, y3, some (.ref R), some (.ref Fd), some (.ref N), y7, none]) ∧ ∃ fs ns, FndW H1 H' Fd N fs (pk (fT ts) m (sgL (fT ts) m)) ns ∧ NumsOf (fT ts) m (sgL (fT ts) m) ns, ?_, ?_⟩
    · refine ⟨_, rfl, _, rfl, by omega, by omega, ?_⟩
      refine for_it (walk_range (lo := 0) (n := ((m : Nat) : Int).toNat)) (fun i σ H' => (∃ y2 y3 y7 : Option V, σ = [some (.int m), some (.ref l), y2, y3, some (.ref R), some (.ref Fd), some (.ref N), y7, none]) ∧ ∃ fs ns, FndW H1 H' Fd N fs (pk (fT ts) i (sgL (fT ts) i)) ns ∧ NumsOf (fT ts) i (sgL (fT ts) i) ns) ⟨⟨_, _, _, rfl⟩, [], [], ⟨s13, kF, trivial, kN, List.nodup_nil, fun t h => by cases h⟩, rfl, fun j h => by omega⟩ (fun _ _ _ _ _ => trivial) ?_ ?_
      · rintro i x σ H4 H5 hi ⟨⟨y2, y3, y7, rfl⟩, fs, ns, W, nm⟩ ⟨rfl, rfl⟩
        have hi2 : i < m := by have : i < ((m : Nat) : Int).toNat := hi; omega
        have z1 : (0 : Int) + (i : Nat) = ((i : Nat) : Int) := Int.zero_add _
        show gName 2 (V.int ((0 : Int) + ((i : Nat) : Int))) _ _ _
        rw [z1]
        obtain ⟨ri, eri, kri⟩ := rowAt i hi2
        have heads : ∀ a c, (sgL (fT ts) i)[a]? = some c → ∃ (j : Nat) (r : List Int), (pk (fT ts) i (sgL (fT ts) i))[a]? = some ((j : Int) :: r) ∧ j < i ∧ fT ts j = c := fun a c h => pk_head h
        have snd := sg_nodup (fT ts) (i + 1)
        have sgs := sg_succ (fT ts) i
        have fresh := pk_fresh (f := fT ts) (i := i)
        have oldp := pk_old (f := fT ts) (i := i) (sg := sgL (fT ts) (i + 1))
        have newp := fun (j : Nat) (h : (sgL (fT ts) (i + 1))[j]? = some (fT ts i)) hj => pk_new (f := fT ts) (i := i) snd h hj
        have nin0 : fT ts i = [] → fT ts i ∉ sgL (fT ts) (i + 1) := fun z y => sg_ne y z
        have ne0 : fT ts i ∈ sgL (fT ts) i → fT ts i ≠ [] := fun y z => sg_ne y z
        have nd1 := sg_nodup (fT ts) i
        have lsg : (sgL (fT ts) i).length ≤ i := Nat.le_trans (List.length_filter_le _ _) (keys_len _ _)
        have lpk : (pk (fT ts) i (sgL (fT ts) i)).length = (sgL (fT ts) i).length := List.length_map ..
        have nmk : NumsOf (fT ts) i (sgL (fT ts) (i + 1)) ns := ⟨nm.1, fun j hj => by
          obtain ⟨v, e, q⟩ := nm.2 j hj
          exact ⟨v, e, q.imp id fun ⟨a, ea, ev⟩ => ⟨a, sg_keep ea, ev⟩⟩⟩
        have lns := nm.1
        clear nm
        generalize hsg : sgL (fT ts) i = sg at W heads sgs fresh ne0 nd1 lsg lpk
        generalize hsg2 : sgL (fT ts) (i + 1) = sg2 at snd sgs oldp newp nin0 nmk ⊢
        generalize hcf : fT ts i = c at kri sgs fresh newp nin0 ne0 oldp
        -- no number yet
        refine ⟨fun σ H' => (∃ y3 : Option V, ∃ v, σ = [some (.int m), some (.ref l), some (.int i), y3, some (.ref R), some (.ref Fd), some (.ref N), some v, none] ∧ NumOf sg c v) ∧ FndW H1 H' Fd N fs (pk (fT ts) i sg) ns, ?_, ?_⟩
        · have lf := W.2.2.1.len
          refine ⟨_, rfl, Fd, _, rfl, .inl (.inl (.inl W.2.1)), _, rfl, by omega, by rw [List.length_map]; omega, ?_⟩
          rw [List.length_map]
          refine for_it (walk_range (lo := 0) (n := ((fs.length : Nat) : Int).toNat)) (fun k σ H' => (∃ y3 : Option V, ∃ v, σ = [some (.int m), some (.ref l), some (.int i), y3, some (.ref R), some (.ref Fd), some (.ref N), some v, none] ∧ NumOf (sg.take k) c v) ∧ FndW H1 H' Fd N fs (pk (fT ts) i sg) ns) ⟨⟨_, _, rfl, .inl ⟨by simp, rfl⟩⟩, W⟩ (fun _ _ _ _ _ => trivial) ?_ ?_
          · rintro k x σ H6 H7 hk ⟨⟨y3, v, rfl, nv⟩, W6⟩ ⟨rfl, rfl⟩
            have hk2 : k < fs.length := by have : k < ((fs.length : Nat) : Int).toNat := hk; omega
            have z2 : (0 : Int) + (k : Nat) = ((k : Nat) : Int) := Int.zero_add _
            show gName 3 (V.int ((0 : Int) + ((k : Nat) : Int))) _ _ _
            rw [z2]
            have hks : k < sg.length := by omega
            have esg : sg[k]? = some sg[k] := List.getElem?_eq_getElem hks
            generalize sg[k] = d at esg
            obtain ⟨j, r, ej, ji, fj⟩ := heads k d esg
            have et : fs[k]? = some fs[k] := List.getElem?_eq_getElem hk2
            generalize fs[k] = t at et
            obtain ⟨b, eb, kt⟩ := W6.2.2.1.get et
            rw [ej] at eb
            have eb : (j : Int) :: r = b := Option.some.inj eb
            subst eb
            obtain ⟨rj, erj, krj⟩ := rowAt j (by omega)
            rw [fj] at krj
            have er : (fs.map V.ref)[k]? = some (.ref t) := by rw [List.getElem?_map, et]; rfl
            have hR6 := W6.1 _ _ hR
            refine ⟨_, rfl, _, rfl, _, rfl, Fd, _, _, _, rfl, rfl, .inl (.inl W6.2.1), atI_nat er, t, _, _, .int (j : Int), rfl, rfl, .inl (.inl kt), at00 _ _, R, _, _, _, rfl, rfl, .inl (.inl hR6), atI_nat erj, ?_⟩
            refine ⟨_, rfl, _, rfl, R, _, _, _, rfl, rfl, .inl (.inl hR6), atI_nat eri, ?_⟩
            refine ⟨_, _, dp_ints (K := K) (.inl (.inl (W6.1 _ _ krj))), dp_ints (K := K) (.inl (.inl (W6.1 _ _ kri))), shaped_ints d, shaped_ints c, _, rfl, ?_⟩
            rw [eqv_ints]
            have tk : sg.take (k + 1) = sg.take k ++ [d] := by rw [List.take_add_one, esg]; rfl
            by_cases e : d = c
            · rw [decide_eq_true e]
              refine iteT ⟨_, rfl, ⟨_, _, rfl, .inr ⟨k, ?_, rfl⟩⟩, W6⟩
              rw [tk, List.getElem?_append_right (by rw [List.length_take]; omega)]
              rw [show k - (sg.take k).length = 0 from by rw [List.length_take]; omega, e]
              rfl
            · rw [decide_eq_false e]
              refine iteF ⟨⟨_, _, rfl, ?_⟩, W6⟩
              rcases nv with ⟨nn, rfl⟩ | ⟨a, ea, rfl⟩
              · refine .inl ⟨?_, rfl⟩
                rw [tk]
                intro z
                rcases List.mem_append.mp z with y | y
                · exact nn y
                · exact e (List.mem_singleton.mp y).symm
              · refine .inr ⟨a, ?_, rfl⟩
                rw [tk, List.getElem?_append_left (List.getElem?_eq_some_iff.mp ea).1]
                exact ea
          · rintro σ H6 ⟨⟨y3, v, rfl, nv⟩, W6⟩
            rw [Int.toNat_natCast, List.take_of_length_le (by omega)] at nv
            exact ⟨⟨_, _, rfl, nv⟩, W6⟩
        clear W
        rintro σ H6 ⟨⟨y3, v, rfl, nv⟩, W6⟩
        have lf := W6.2.2.1.len
        -- a new class?
        refine ⟨fun σ H' => (∃ v, σ = [some (.int m), some (.ref l), some (.int i), y3, some (.ref R), some (.ref Fd), some (.ref N), some v, none] ∧ ((c = [] ∧ v = .non) ∨ ∃ a : Nat, sg2[a]? = some c ∧ v = .int (a : Int))) ∧ ∃ fs, FndW H1 H' Fd N fs (pk (fT ts) i sg2) ns, ?_, ?_⟩
        · refine ⟨_, rfl, rfl, _, rfl, ?_⟩
          rcases nv with ⟨nn, rfl⟩ | ⟨a, ea, rfl⟩
          · rw [show decide ((V.non) = V.non) = true from decide_eq_true rfl]
            refine iteT ⟨_, rfl, _, rfl, R, _, _, _, rfl, rfl, .inl (.inl (W6.1 _ _ hR)), atI_nat eri, ?_⟩
            refine ⟨by show 0 ≤ sizeLine; exact Nat.zero_le _, fun Z nZ => ?_⟩
            have sZ := same_upd (o := .lst []) nZ
            have W7 := W6.same sZ
            refine ⟨_, _, dp_ints (K := K) (.inl (.inl (W7.1 _ _ kri))), dp_ints (K := K) (cs := []) (.inl (.inl upd_same)), shaped_ints c, shaped_nil, _, rfl, ?_⟩
            rw [show PyData.eqv (.list (c.map PyData.int)) (.list (([] : List Int).map PyData.int)) = decide (c = []) from eqv_nil c]
            by_cases c0 : c = []
            · rw [decide_eq_true c0]
              refine iteF ⟨⟨_, rfl, .inl ⟨c0, rfl⟩⟩, fs, ?_⟩
              rw [sgs, if_pos (.inl c0)]
              exact W7
            · rw [decide_eq_false c0]
              refine iteT ⟨_, rfl, .inl ⟨rfl, _, .inl (.inl W7.2.1)⟩, by show 0 ≤ sizeLine; exact Nat.zero_le _, fun T nT => ?_⟩
              have ad := W7.add nF nFN nT
              refine ⟨Fd, _, _, rfl, rfl, same_upd nT _ _ W7.2.1, by rw [List.length_map]; omega, ?_⟩
              refine ⟨_, rfl, Fd, _, rfl, .inl (.inl (.inl ad.2.1)), ?_⟩
              have e2 : sg2 = sg ++ [c] := by rw [sgs, if_neg (fun z => z.elim c0 nn)]
              refine ⟨_, _, rfl, rfl, ⟨_, rfl, .inr ⟨sg.length, ?_, ?_⟩⟩, fs ++ [T], ?_⟩
              · rw [e2, List.getElem?_append_right (Nat.le_refl _), Nat.sub_self]
                rfl
              · rw [List.length_map, List.length_append]
                show V.int (((fs.length + 1 : Nat) : Int) - 1) = V.int (sg.length : Int)
                congr 1
                omega
              · rw [e2]
                have e : pk (fT ts) i (sg ++ [c]) = pk (fT ts) i sg ++ [[]] := by
                  unfold pk
                  rw [List.map_append]
                  show _ ++ [pick (memb (fT ts) c) i] = _
                  rw [fresh nn c0]
                rw [e]
                exact ad
          · rw [show decide ((V.int (a : Int)) = V.non) = false from decide_eq_false fun z => by cases z]
            have cm := List.mem_of_getElem? ea
            have e2 : sg2 = sg := by rw [sgs, if_pos (.inr cm)]
            refine iteF ⟨⟨_, rfl, .inr ⟨a, by rw [e2]; exact ea, rfl⟩⟩, fs, ?_⟩
            rw [e2]
            exact W6
        clear W6 lf nv fs lpk
        rintro σ H6 ⟨⟨v, rfl, nv⟩, fs, W6⟩
        have lf := W6.2.2.1.len
        have lp2 : (pk (fT ts) i sg2).length = sg2.length := List.length_map ..
        -- into its class
        refine ⟨fun σ H' => σ = [some (.int m), some (.ref l), some (.int i), y3, some (.ref R), some (.ref Fd), some (.ref N), some v, none] ∧ ∃ fs, FndW H1 H' Fd N fs (pk (fT ts) (i + 1) sg2) ns, ?_, ?_⟩
        · refine ⟨_, rfl, rfl, _, rfl, ?_⟩
          rcases nv with ⟨c0, rfl⟩ | ⟨a, ea, rfl⟩
          · rw [show (!decide ((V.non) = V.non)) = false from by rw [decide_eq_true rfl]; rfl]
            refine iteF ⟨rfl, fs, ?_⟩
            rw [oldp (nin0 c0)]
            exact W6
          · rw [show (!decide ((V.int (a : Int)) = V.non)) = true from by rw [decide_eq_false fun z => by cases z]; rfl]
            have al := (List.getElem?_eq_some_iff.mp ea).1
            have et : fs[a]? = some fs[a] := List.getElem?_eq_getElem (by omega)
            generalize fs[a] = t at et
            obtain ⟨b, eb, kt⟩ := W6.2.2.1.get et
            have er : (fs.map V.ref)[a]? = some (.ref t) := by rw [List.getElem?_map, et]; rfl
            have hjp : a < (pk (fT ts) i sg2).length := by omega
            have ebp : (pk (fT ts) i sg2)[a] = b := by
              have := List.getElem?_eq_getElem hjp
              rw [eb] at this
              exact (Option.some.inj this).symm
            have bl : b.length ≤ i := by
              have := List.mem_of_getElem? eb
              unfold pk at this
              obtain ⟨d, _, rfl⟩ := List.mem_map.mp this
              exact pick_len _ _
            refine iteT ⟨_, rfl, _, rfl, Fd, _, _, _, rfl, rfl, .inl (.inl W6.2.1), atI_nat er, .inl ⟨rfl, _, .inl (.inl kt)⟩, _, rfl, t, _, _, rfl, rfl, kt, by rw [List.length_map]; omega, rfl, fs, ?_⟩
            rw [← newp a ea hjp, ebp]
            have e2 : b.map V.int ++ [V.int ((i : Nat) : Int)] = (b ++ [((i : Nat) : Int)]).map V.int := by
              rw [List.map_append]
              rfl
            rw [e2]
            exact W6.put et
        clear W6 lf fs
        rintro σ H6 ⟨rfl, fs, W6⟩
        refine ⟨_, rfl, .inl ⟨rfl, _, .inl (.inl W6.2.2.2.1)⟩, _, rfl, N, _, _, rfl, rfl, W6.2.2.2.1, by omega, ⟨_, _, _, rfl⟩, fs, ns ++ [v], W6.num nN1 nFN, by rw [List.length_append, lns]; rfl, fun j hj => ?_⟩
        rcases Nat.lt_or_ge j i with z | z
        · rw [List.getElem?_append_left (by omega)]
          exact nmk.2 j z
        · have : j = i := by omega
          subst this
          refine ⟨v, ?_, by rw [hcf]; exact nv⟩
          rw [List.getElem?_append_right (by omega), lns, Nat.sub_self]
          rfl
      · rintro σ H4 ⟨⟨y2, y3, y7, rfl⟩, fs, ns, W, nm⟩
        rw [Int.toNat_natCast] at W nm
        exact ⟨⟨_, _, _, rfl⟩, fs, ns, W, nm⟩
    · rintro σ H4 ⟨⟨y2, y3, y7, rfl⟩, fs, ns, W, nm⟩
      have ens := nums_end nm
      have ecs : pk (fT ts) m (sgL (fT ts) m) = classesL ts m := rfl
      rw [ecs] at W
      have lf := W.2.2.1.len
      have ⟨cl1, cl2⟩ := classes_len ts m
      refine ⟨_, rfl, Fd, rfl, ⟨_, .inl (.inl W.2.1)⟩, fun D nD => ?_⟩
      refine lc_it (walk_list (K := K) (a := Fd) (xs := fs.map V.ref)) (fun i H' => Same H4 H' ∧ ∃ ys, H' D = some (.lst ys) ∧ Tots K H' ys ((classesL ts m).take i)) ⟨same_upd nD, [], upd_same, trivial⟩ (fun i H' _ h => .inl (.inl (h.1 _ _ W.2.1))) ?_ ?_
      · rintro i v H5 H6 hi ⟨sm, ys, hD, hY⟩ ⟨rfl, ex⟩
        rw [List.getElem?_map] at ex
        obtain ⟨t, et, rfl⟩ := Option.map_eq_some_iff.mp ex
        obtain ⟨b, eb, kt⟩ := W.2.2.1.get et
        have kt6 := sm _ _ kt
        refine ⟨rfl, _, rfl, t, _, rfl, .inl ⟨.inl (.inl kt6), fun r nr => ?_⟩⟩
        have sr := same_upd (o := .tup (b.map V.int)) nr
        have hD6 := sr _ _ hD
        refine ⟨ys, hD6, ?_, HD.same_put (sm.trans sr) nD, ys ++ [.ref r], upd_same, ?_⟩
        · have := hY.len
          rw [List.length_take] at this
          omega
        · rw [List.take_add_one, eb]
          exact Tots.upd hD6 (Tots.snoc (sqt upd_same) (hY.mono sr))
      · rintro H5 ⟨sm, ys, hD, hY⟩
        rw [List.length_map, lf, List.take_length] at hY
        refine ⟨_, rfl, by show 2 ≤ sizeLine; decide, fun r nr => ?_⟩
        have sr := same_upd (o := .tup [.ref D, .ref N]) nr
        have s4 := (s1.trans W.1).trans sm
        refine fin _ r D N ys (s4.trans sr) upd_same (sr _ _ hD) (hY.mono sr) ?_
        rw [← ens]
        exact sr _ _ (sm _ _ W.2.2.2.1)
end
end K03
namespace VG
open PySem PySem.Spec PyProof.Rows L2
/-- a text, once or not at all -/
def rMul01 : V → V → Hp → VK → Prop := fun x y H Q => ∃ (z : Str) (b : Bool), x = .str z ∧ y = .int (if b = true then 1 else 0) ∧ Q (.str (if b = true then z else Str.empty)) H
theorem op_mul01 {X : Cx} : OpR X (binaryOp .Mult) rMul01 := by
  intro pins s σ H x y v u Q I rx ry h
  obtain ⟨z, b, rfl, rfl, q⟩ := h
  obtain ⟨t, rfl⟩ := rx
  obtain ⟨t', rfl⟩ := ry
  cases b with
  | true => exact P.mul_str (by decide) (fun _ e => by cases e) (fun _ e => by cases e) ⟨.str z, H, I, ⟨t, rfl⟩, q⟩
  | false => exact P.mul_str_none (by decide) (by decide) ⟨.str Str.empty, H, I.tok _, ⟨_, rfl⟩, q⟩
end VG
namespace CK
open PySem PySem.Spec PyProof.Rows L2 VG FR HD
abbrev cABC : Str := "abcdefghijklmnopqrstuvwxyz"
theorem ixN_nat {n j : Nat} (h : j < n) : ixN n (j : Int) = some j := by
  unfold ixN
  rw [if_pos (by omega), if_pos (by omega), Int.toNat_natCast]
def fronts : List Str := [("" : String), ("" : String), ("b" : String), ("zz" : String), ("mnopu" : String)]
def lett (j : Nat) : Nat := cABC.cps.toList.getD ((7 * j + 3) % 26) 0
def baseN (fr : Str) (j : Nat) : Str := fr ++ (⟨#[lett j]⟩ : Str)
def endO (b : Bool) : Str := if b = true then (("o" : String) : Str) else Str.empty
def namesL (fr : Str) (m a : Nat) (b : Bool) : List Str := ((List.range m).map (baseN fr)).set a (baseN fr a ++ endO b)
def nmB (z : Str) : Bool := decide (1 ≤ z.cps.size) && decide (z.cps.size ≤ 6) && z.cps.toList.all fun c => decide (97 ≤ c ∧ c ≤ 122)
theorem names_all : (fronts.all fun fr => (List.range 12).all fun a => [true, false].all fun b => (b && decide (6 ≤ (baseN fr a).length)) || (decide ((namesL fr 12 a b).map fun z => z.cps.toList).Nodup && (namesL fr 12 a b).all nmB)) = true := by decide +kernel
theorem ok_of_B {z : Str} (h : nmB z = true) : NameOk z := by
  unfold nmB at h
  rw [Bool.and_eq_true, Bool.and_eq_true] at h
  exact ⟨of_decide_eq_true h.1.1, of_decide_eq_true h.1.2, fun c hc => of_decide_eq_true (List.all_eq_true.mp h.2 c hc)⟩
theorem names_fine {fr : Str} (hf : fr ∈ fronts) {m a : Nat} (hm : m ≤ 12) (ha : a < m) {b : Bool} (hb : b = true → (baseN fr a).length < 6) : (namesL fr m a b).Nodup ∧ ∀ z ∈ namesL fr m a b, NameOk z := by
  have h := List.all_eq_true.mp (List.all_eq_true.mp (List.all_eq_true.mp names_all fr hf) a (List.mem_range.mpr (by omega))) b (by cases b <;> simp)
  rw [Bool.or_eq_true] at h
  have h2 : (decide ((namesL fr 12 a b).map fun z => z.cps.toList).Nodup && (namesL fr 12 a b).all nmB) = true := by
    rcases h with h | h
    · rw [Bool.and_eq_true] at h
      have := hb h.1
      have := of_decide_eq_true h.2
      omega
    · exact h
  rw [Bool.and_eq_true] at h2
  have e : namesL fr m a b = (namesL fr 12 a b).take m := by
    refine List.ext_getElem? fun j => ?_
    unfold namesL
    by_cases jm : j < m
    · rw [List.getElem?_take_of_lt jm]
      by_cases ja : a = j
      · subst ja
        rw [List.getElem?_set_self (by rw [List.length_map, List.length_range]; exact ha), List.getElem?_set_self (by rw [List.length_map, List.length_range]; omega)]
      · rw [List.getElem?_set_ne ja, List.getElem?_set_ne ja, List.getElem?_map, List.getElem?_map, List.getElem?_range jm, List.getElem?_range (by omega)]
    · rw [List.getElem?_eq_none (by rw [List.length_set, List.length_map, List.length_range]; omega), List.getElem?_eq_none (by rw [List.length_take]; omega)]
  have nd : (namesL fr 12 a b).Nodup := List.Pairwise.imp (fun {x y} h e => h (by rw [e])) (List.pairwise_map.mp (of_decide_eq_true h2.1))
  rw [e]
  exact ⟨nd.sublist (List.take_sublist _ _), fun z hz => ok_of_B (List.all_eq_true.mp h2.2 z (List.mem_of_mem_take hz))⟩
theorem lett_at (j : Nat) (h : j < 12) : cABC.cps.toList[(7 * j + 3) % 26]? = some (lett j) := by
  have all : ∀ i : Fin 12, cABC.cps.toList[(7 * i.1 + 3) % 26]? = some (lett i.1) := by decide +kernel
  exact all ⟨j, h⟩
theorem front_len {fr : Str} (h : fr ∈ fronts) : fr.length ≤ 5 := by
  have all : (fronts.all fun z => decide (z.length ≤ 5)) = true := by decide +kernel
  exact of_decide_eq_true (List.all_eq_true.mp all fr h)
end CK
namespace K03
open PySem PySem.Spec PyProof.Rows L2 VG FR CK HD
abbrev s__law_names : Stmt := topS 40
abbrev N__law_names : List Str := ["heap", "many", "letters", "front", "found", "at"]
theorem sc__law_names : FnScope N__law_names ["heap", "many"] (defScope s__law_names) := ⟨rfl, rfl, rfl, by decide +kernel, rfl, by decide +kernel, by decide +kernel⟩
section
variable {P : Program} {w : World} {K : PySem.W.Frag} {mg : Str → Option Value} {base : Heap}
theorem ok__law_names {f : Addr} {fd : FuncData} (F : Fun K "_law_names" "_law_names" s__law_names f fd) (C__law_draw : Cl P w K mg base 1 "_law_draw" spDraw) (C__law_pick : Cl P w K mg base 2 "_law_pick" (spPick K))
    (z_len : mg "len" = none) (z_int : mg "int" = none) (z_range : mg "range" = none) (z_tuple : mg "tuple" = none) (z_sorted : mg "sorted" = none) :
    FnOk P w K mg base CX0 3 f fd ["heap", "many"] (spLawNames K) := by
  refine F.ok sc__law_names (fun vs H Q E h => ?_) (fun cdv A outer s H vs Q E hr h => ?_)
  · obtain ⟨p, q, m, rfl, _⟩ := h
    rfl
  · obtain ⟨p, q, m, rfl, hd, m0, m1, fin⟩ := h
    refine ⟨_, (pss_cons (ps_par3 (i := 2) (j := 3) (l := 4) (by rfl) sc__law_names.nd rfl rfl rfl (by decide) (by decide) (by decide) rfl rfl rfl (pa_cons pe_str (pa_cons (pe_cl C__law_pick hr (by decide) rfl (pa_cons (pv 0) (pa_cons (pe_lst (pa_cons pe_str (pa_cons pe_str (pa_cons pe_str (pa_cons pe_str (pa_cons pe_str pa_nil)))))) pa_nil))) (pa_cons (pe_lst pa_nil) pa_nil))) (by rfl))
    (pss_cut (ps_for PassesOwn.never rfl (pi_range1 (by rfl) z_range (pa_cons (pv 1) pa_nil)) (pg_name (i := 5) sc__law_names.nd rfl (.inl rfl))
      (pss_one (ps_expr (pe_bm PySem.F.plainAttrs_list PySem.F.slot_list_append PySem.F.type_list_append mt_append (pv 4) (pa_cons (pe_op op_add_str (pv 3) (pe_item_str (pv 2) (pe_op op_modN (pe_callTy call_int1 (by rfl) z_int (by decide +kernel) (pa_cons (pe_op op_add (pe_op op_mulW pe_int (pv 5)) pe_int) pa_nil)) pe_int) (fun _ _ => rfl))) pa_nil)))))
    (pss_cons (ps_set (i := 5) sc__law_names.nd rfl (.inl rfl) (pe_cl C__law_draw hr (by decide) rfl (pa_cons (pv 0) (pa_cons (pv 1) pa_nil))))
    (pss_cons (ps_asg (pe_op op_add_str (pe_ix ix_list (pv 4) (pv 5) (fun _ _ => rfl)) (pe_op op_mul01 pe_str (pe_callTy call_int1 (by rfl) z_int (by decide +kernel) (pa_cons (pe_meet (pe_and (pe_cmpR op_lt (pe_callB call_len_str (by rfl) z_len (by decide +kernel) (pa_cons (pe_ix ix_list (pv 4) (pv 5) (fun _ _ => rfl)) pa_nil)) pe_int (nomark _)) (pe_one (pe_cmpR op_eq (pe_cl C__law_draw hr (by decide) rfl (pa_cons (pv 0) (pa_cons pe_int pa_nil))) pe_int (nomark _))))) pa_nil)))) (pg_sub (pv 4) (pv 5) set_list))
    (pss_one (ps_ret (pe_callTy call_tuple_of (by rfl) z_tuple (by decide +kernel) (pa_cons (pe_callB cr_sortedS (by rfl) z_sorted (by decide +kernel) (pa_cons (pv 4) pa_nil)) pa_nil)))))))), ?_⟩
    have big : sizeLine = 16777216 := by decide
    have on0 := On.start hd
    refine ⟨_, rfl, by show 5 ≤ sizeLine; decide, fun L nL => ?_⟩
    have fL := on0.free nL
    have on1 := on0.new (o := .lst [.str ("" : String), .str ("" : String), .str ("b" : String), .str ("zz" : String), .str ("mnopu" : String)]) nL
    refine ⟨p, q, L, _, rfl, on1.hd, upd_same, fL.1, fL.2.1, by simp, by show 5 < 1000000; decide, fun H2 v hd2 kp2 hv => ?_⟩
    have on2 := on1.draw hd2 kp2
    obtain ⟨fr, hfr, rfl⟩ : ∃ fr ∈ fronts, v = V.str fr := by
      have e : ([.str ("" : String), .str ("" : String), .str ("b" : String), .str ("zz" : String), .str ("mnopu" : String)] : List V) = fronts.map V.str := rfl
      rw [e] at hv
      obtain ⟨z, hz, e⟩ := List.mem_map.mp hv
      exact ⟨z, hz, e.symm⟩
    refine ⟨by show 0 ≤ sizeLine; exact Nat.zero_le _, fun D nD => ?_⟩
    have fD := on2.free nD
    have on3 := on2.new (o := .lst []) nD
    have hD := upd_same (H := H2) (a := D) (o := .lst [])
    generalize L2.upd H2 D (.lst []) = H3 at on3 hD ⊢
    clear on1 on2 kp2 hd2 hv nD nL
    generalize frz p q H = G at *
    refine ⟨_, _, _, rfl, ?_⟩
    have fl5 := front_len hfr
    refine ⟨fun σ H' => (∃ y5 : Option V, σ = [some (.ref p), some (.int m), some (.str cABC), some (.str fr), some (.ref D), y5]) ∧ On p q G H' ∧ H' D = some (.lst (((List.range m).map (baseN fr)).map V.str)), ?_, ?_⟩
    · refine ⟨_, rfl, _, rfl, by omega, by omega, ?_⟩
      refine for_it (walk_range (lo := 0) (n := ((m : Nat) : Int).toNat)) (fun i σ H' => (∃ y5 : Option V, σ = [some (.ref p), some (.int m), some (.str cABC), some (.str fr), some (.ref D), y5]) ∧ On p q G H' ∧ H' D = some (.lst (((List.range i).map (baseN fr)).map V.str))) ⟨⟨_, rfl⟩, on3, hD⟩ (fun _ _ _ _ _ => trivial) ?_ ?_
      · rintro i x σ H4 H5 hi ⟨⟨y5, rfl⟩, on4, kD⟩ ⟨rfl, rfl⟩
        have hi2 : i < m := by have : i < ((m : Nat) : Int).toNat := hi; omega
        have e0 : (0 : Int) + (i : Nat) = (i : Nat) := Int.zero_add _
        show gName 5 (V.int ((0 : Int) + ((i : Nat) : Int))) _ _ _
        rw [e0]
        have hmod : ((7 : Int) * (i : Int) + 3).fmod 26 = (((7 * i + 3) % 26 : Nat) : Int) := by
          have := fmod_nat (7 * i + 3) (m := 26) (by decide)
          rw [← this]
          congr 1
        have hm2 : (7 * i + 3) % 26 < 26 := Nat.mod_lt _ (by decide)
        refine ⟨_, rfl, .inl ⟨rfl, _, .inl (.inl kD)⟩, _, rfl, _, rfl, _, rfl, _, _, rfl, rfl, mulW (up (n := 40) (by decide) (by decide)) (up (n := 40) (by omega) (by decide)), _, _, rfl, rfl, .inl ⟨_, rfl, _, _, rfl, rfl, by show (26 : Int) ≠ 0; decide, cABC, _, lett i, rfl, rfl, ?_, ?_, ?_, ?_, ?_⟩⟩
        · rw [hmod]; omega
        · rw [hmod, show ((2 : Int) ^ 63) = 9223372036854775808 from by decide]
          omega
        · rw [hmod, show cABC.length = 26 from by decide +kernel]
          omega
        · rw [hmod, Int.toNat_natCast, ← Array.getElem?_toList]
          exact lett_at i (by omega)
        refine ⟨_, _, rfl, rfl, by show fr.length + 1 ≤ sizeLine; omega, D, _, _, rfl, rfl, kD, by rw [List.length_map, List.length_map, List.length_range]; omega, ⟨_, rfl⟩, on4.put fD, ?_⟩
        rw [upd_same, List.range_succ, List.map_append, List.map_append]
        rfl
      · rintro σ H4 ⟨⟨y5, rfl⟩, on4, kD⟩
        rw [Int.toNat_natCast] at kD
        exact ⟨⟨_, rfl⟩, on4, kD⟩
    clear hD on3
    rintro σ H4 ⟨⟨y5, rfl⟩, on4, kD⟩
    refine ⟨_, rfl, _, rfl, p, q, _, rfl, on4.hd, by omega, by omega, fun H5 r hd5 kp5 r0 r1 => ?_⟩
    have on5 := on4.draw hd5 kp5
    have kD5 := kp5 D _ fD.1 fD.2.1 kD
    obtain ⟨a, rfl⟩ := Int.eq_ofNat_of_zero_le r0
    have ha : a < m := by omega
    have eat : (((List.range m).map (baseN fr)).map V.str)[a]? = some (.str (baseN fr a)) := by
      rw [List.getElem?_map, List.getElem?_map, List.getElem?_range ha]
      rfl
    have lb : (baseN fr a).length = fr.length + 1 := by
      show (fr.cps ++ #[lett a]).size = fr.cps.size + 1
      rw [Array.size_append]
      rfl
    refine ⟨_, rfl, _, rfl, D, _, _, _, rfl, rfl, .inl (.inl kD5), atI_nat eat, ?_⟩
    have last : ∀ (H6 : Hp) (b : Bool), (b = true → (baseN fr a).length < 6) → On p q G H6 → H6 D = some (.lst (((List.range m).map (baseN fr)).map V.str)) →
        ∀ u S : Addr, ∀ ys : List Str, ys.Perm (namesL fr m a b) → sortedS ys = true → ∀ H7, On p q G H7 → H7 u = some (.tup (ys.map V.str)) → Q (.ref u) H7 := fun H6 b hb on6 k6 u S ys pm so H7 on7 ku => by
      have ⟨nd, ok⟩ := names_fine hfr m1 ha hb
      have lp := pm.length_eq
      have ll : (namesL fr m a b).length = m := by unfold namesL; rw [List.length_set, List.length_map, List.length_range]
      exact fin _ u ys on7 ku ⟨by omega, by omega, fun z hz => ok z (pm.mem_iff.mp hz), ascS_of so (pm.nodup_iff.mpr nd)⟩ (by omega)
    refine ⟨fun v H' => ∃ b : Bool, v = .bl b ∧ (b = true → (baseN fr a).length < 6) ∧ On p q G H' ∧ H' D = some (.lst (((List.range m).map (baseN fr)).map V.str)), ?_, ?_⟩
    · refine ⟨_, rfl, _, rfl, D, _, _, _, rfl, rfl, .inl (.inl kD5), atI_nat eat, _, rfl, by omega, _, _, rfl, rfl, ?_⟩
      by_cases h6 : (baseN fr a).length < 6
      · refine ⟨_, rfl, ite_eq true (decide_eq_true (by omega)) (iteT ?_)⟩
        refine ⟨_, rfl, p, q, _, rfl, on5.hd, by decide, by decide, fun H6 r hd6 kp6 r0 r1 => ⟨rfl, _, rfl, fun _ => h6, on5.draw hd6 kp6, kp6 D _ fD.1 fD.2.1 kD5⟩⟩
      · refine ⟨_, rfl, ite_eq false (decide_eq_false (by omega)) (iteF ?_)⟩
        exact ⟨_, rfl, fun z => Bool.noConfusion z, on5, kD5⟩
    · rintro _ H6 ⟨b, rfl, hb, on6, k6⟩
      refine .inr ⟨b, rfl, _, b, rfl, rfl, _, _, rfl, rfl, ?_, ?_⟩
      · have : (if b = true then (("o" : String) : Str) else Str.empty).length ≤ 1 := by cases b <;> decide
        omega
      have ea : ixN (((List.range m).map (baseN fr)).map V.str).length (a : Int) = some a := ixN_nat (by rw [List.length_map, List.length_map, List.length_range]; exact ha)
      refine ⟨_, rfl, _, rfl, D, _, _, a, rfl, rfl, k6, ea, ?_⟩
      have eset : (((List.range m).map (baseN fr)).map V.str).set a (V.str (baseN fr a ++ endO b)) = (namesL fr m a b).map V.str := by
        unfold namesL
        rw [List.map_set]
      have k7 : (L2.upd H6 D (.lst ((((List.range m).map (baseN fr)).map V.str).set a (V.str (baseN fr a ++ endO b))))) D = some (.lst ((namesL fr m a b).map V.str)) := by rw [upd_same, eset]
      have on7 : On p q G (L2.upd H6 D (.lst ((((List.range m).map (baseN fr)).map V.str).set a (V.str (baseN fr a ++ endO b))))) := on6.put fD
      refine ⟨_, rfl, D, namesL fr m a b, rfl, .inl (.inl k7), by unfold namesL; rw [List.length_set, List.length_map, List.length_range]; omega, fun ys S pm so nS => ?_⟩
      have on8 := on7.new (o := .lst (ys.map V.str)) nS
      refine ⟨S, _, rfl, .inl ⟨.inl (.inl upd_same), fun u nu => ?_⟩⟩
      have on9 := on8.new (o := .tup (ys.map V.str)) nu
      exact last H6 b hb on6 k6 u S ys pm so _ on9 upd_same
end
end K03
namespace CK
open PySem PySem.Spec PyProof.Rows L2 VG FR HD
theorem eqvB_nil (bs : List (List Int)) : PyData.eqv (.list (dL bs)) (.list (([] : List Int).map PyData.int)) = decide (bs = []) := by
  cases bs with
  | nil => rfl
  | cons b r => rfl
theorem twF_lot {bs : List (List Int)} {k : Int} {n : Nat} (h : n ≤ 12) : LotOk (n : Int) (twF bs k n) := by
  refine ⟨by have := twF_len bs k n; omega, fun x hx => ?_, asc_pw ?_⟩
  · unfold twF at hx
    obtain ⟨j, hj, rfl⟩ := List.mem_map.mp hx
    have := List.mem_range.mp (List.mem_filter.mp hj).1
    omega
  · unfold twF
    refine List.pairwise_map.mpr ?_
    have h : (List.range n).Pairwise (· < ·) := List.pairwise_lt_range
    exact (List.Pairwise.filter _ h).imp fun z => by omega
theorem Tots.set {K : PySem.W.Frag} {H : Hp} {t : Addr} {c : List Int} (ht : SqT K H t (c.map V.int)) : ∀ {xs : List V} {ts : List (List Int)} (i : Nat), Tots K H xs ts → Tots K H (xs.set i (.ref t)) (ts.set i c)
  | [], [], _, _ => trivial
  | _ :: _, _ :: _, 0, h => ⟨⟨t, rfl, ht⟩, h.2⟩
  | _ :: xs, _ :: ts, i + 1, h => ⟨h.1, Tots.set ht (xs := xs) (ts := ts) i h.2⟩
def spLawTots (K : PySem.W.Frag) : Sp := fun vs H Q _ => ∃ (p q : Addr) (n m : Nat), vs = [.ref p, .int n, .int m] ∧ Hd p q H ∧ n ≤ 12 ∧ m ≤ 12 ∧
  ∀ (H' : Hp) (u : Addr) (xs : List V) (ts : List (List Int)), On p q (frz p q H) H' → H' u = some (.tup xs) → Tots K H' xs ts → ts.length = m → (∀ c ∈ ts, LotOk (n : Int) c) → Q (.ref u) H'
/-- rows that are drawn: R lists them -/
def RowsW (p q : Addr) (G H : Hp) (R : Addr) (rs : List Addr) (bs : List (List Int)) : Prop := On p q G H ∧ H R = some (.lst (rs.map V.ref)) ∧ Blk H rs bs ∧ ∀ t ∈ rs, t ≠ p ∧ t ≠ q ∧ t ≠ R
theorem RowsW.draw {p q : Addr} {G H H' : Hp} {R : Addr} {rs : List Addr} {bs : List (List Int)} (h : RowsW p q G H R rs bs) (fR : R ≠ p ∧ R ≠ q) (hd : Hd p q H') (k : Keep p q H H') : RowsW p q G H' R rs bs :=
  ⟨h.1.draw hd k, k R _ fR.1 fR.2 h.2.1, Blk.imp (fun t ht o e => k t o (h.2.2.2 t ht).1 (h.2.2.2 t ht).2.1 e) h.2.2.1, h.2.2.2⟩
theorem RowsW.same {p q : Addr} {G H H' : Hp} {R : Addr} {rs : List Addr} {bs : List (List Int)} (h : RowsW p q G H R rs bs) (s : Same H H') : RowsW p q G H' R rs bs :=
  ⟨h.1.same s, s _ _ h.2.1, Blk.imp (fun t _ o e => s t o e) h.2.2.1, h.2.2.2⟩
theorem RowsW.put {p q : Addr} {G H : Hp} {R D : Addr} {o : HO} {rs : List Addr} {bs : List (List Int)} (h : RowsW p q G H R rs bs) (f : D ≠ p ∧ D ≠ q ∧ G D = none) (nR : R ≠ D) (nD : ∀ t ∈ rs, t ≠ D) : RowsW p q G (L2.upd H D o) R rs bs :=
  ⟨h.1.put f, by rw [upd_ne nR]; exact h.2.1, Blk.imp (fun t ht o e => by rw [upd_ne (nD t ht)]; exact e) h.2.2.1, h.2.2.2⟩
/-- one more row -/
theorem RowsW.add {p q : Addr} {G H : Hp} {R r : Addr} {rs : List Addr} {bs : List (List Int)} {b : List Int} (h : RowsW p q G H R rs bs) (fR : R ≠ p ∧ R ≠ q ∧ G R = none) (kr : H r = some (.lst (b.map V.int))) (nr : r ≠ p ∧ r ≠ q ∧ r ≠ R) : RowsW p q G (L2.upd H R (.lst (rs.map V.ref ++ [.ref r]))) R (rs ++ [r]) (bs ++ [b]) := by
  refine ⟨h.1.put fR, by rw [upd_same, List.map_append]; rfl, Blk.snoc (by rw [upd_ne nr.2.2]; exact kr) (Blk.imp (fun t ht o e => by rw [upd_ne (h.2.2.2 t ht).2.2]; exact e) h.2.2.1), fun t ht => ?_⟩
  rcases List.mem_append.mp ht with z | z
  · exact h.2.2.2 t z
  · rw [List.mem_singleton.mp z]
    exact nr
end CK
namespace K03
open PySem PySem.Spec PyProof.Rows L2 VG FR CK HD
abbrev s__law_totals : Stmt := topS 41
abbrev N__law_totals : List Str := ["heap", "kinds", "many", "share", "rows", "kind", "at", "row", "turn", "found"]
theorem sc__law_totals : FnScope N__law_totals ["heap", "kinds", "many"] (defScope s__law_totals) := ⟨rfl, rfl, rfl, by decide +kernel, rfl, by decide +kernel, by decide +kernel⟩
section
variable {P : Program} {w : World} {K : PySem.W.Frag} {mg : Str → Option Value} {base : Heap}
theorem ok__law_totals {f : Addr} {fd : FuncData} (F : Fun K "_law_totals" "_law_totals" s__law_totals f fd) (C__law_draw : Cl P w K mg base 1 "_law_draw" spDraw) (C__law_pick : Cl P w K mg base 2 "_law_pick" (spPick K))
    (z_len : mg "len" = none) (z_range : mg "range" = none) (z_tuple : mg "tuple" = none) :
    FnOk P w K mg base CX0 3 f fd ["heap", "kinds", "many"] (spLawTots K) := by
  refine F.ok sc__law_totals (fun vs H Q E h => ?_) (fun cdv A outer s H vs Q E hr h => ?_)
  · obtain ⟨p, q, n, m, rfl, _⟩ := h
    rfl
  · obtain ⟨p, q, n, m, rfl, hd, n12, m12, fin⟩ := h
    refine ⟨_, (pss_cons (ps_asg (pe_tup (pa_cons (pe_cl C__law_pick hr (by decide) rfl (pa_cons (pv 0) (pa_cons (pe_lst (pa_cons pe_int (pa_cons pe_int (pa_cons pe_int (pa_cons pe_int pa_nil))))) pa_nil))) (pa_cons (pe_lst pa_nil) pa_nil))) (pg_tup rfl (pgs_cons (pg_name (i := 3) sc__law_totals.nd rfl (.inr rfl)) (pgs_cons (pg_name (i := 4) sc__law_totals.nd rfl (.inr rfl)) pgs_nil))))
    (pss_cut (ps_for PassesOwn.never rfl (pi_range1 (by rfl) z_range (pa_cons (pv 1) pa_nil)) (pg_name (i := 5) sc__law_totals.nd rfl (.inl rfl))
      (pss_cons (ps_setLc (i := 7) (own := [("at", 6)]) (by rfl) sc__law_totals.nd rfl rfl (sw_true rfl rfl rfl (by decide +kernel)) (pi_range1 (by rfl) z_range (pa_cons (pv 2) pa_nil)) (blkOk_by (own := [("at", 6)]) (N := N__law_totals) (sc := defScope s__law_totals) (by decide +kernel)) (fun _ _ _ _ _ => (pg_name (i := 6) sc__law_totals.nd rfl (.inl rfl))) (fun _ _ _ _ _ => (pts_one (pt_cmpR op_eq (pe_cl C__law_draw hr (by decide) rfl (pa_cons (pv 0) (pa_cons (pv 3) pa_nil))) pe_int (nomark _)))) (fun _ _ _ _ _ => (pv 6)))
      (pss_cons (ps_set (i := 8) sc__law_totals.nd rfl (.inl rfl) (pe_cl C__law_draw hr (by decide) rfl (pa_cons (pv 0) (pa_cons pe_int pa_nil))))
      (pss_one (ps_expr (pe_bm PySem.F.plainAttrs_list PySem.F.slot_list_append PySem.F.type_list_append mt_append (pv 4) (pa_cons (pe_meet (pe_ifExp (PW.pt (pw_and (pt_cmpR (op_neD hr.units) (pv 4) (pe_lst pa_nil) (nomark _)) (pw_and1 (pt_cmpR op_eq (pv 8) pe_int (nomark _))))) (pe_ix ix_list (pv 4) (pe_cl C__law_draw hr (by decide) rfl (pa_cons (pv 0) (pa_cons (pe_callB call_len_seq (by rfl) z_len (by decide +kernel) (pa_cons (pv 4) pa_nil)) pa_nil))) (fun _ _ => rfl)) (pe_ifExp (PW.pt (pw_and (pt_cmpR op_eq (pv 8) pe_int (nomark _)) (pw_and1 (pt_cmpR op_eq (pe_cl C__law_draw hr (by decide) rfl (pa_cons (pv 0) (pa_cons pe_int pa_nil))) pe_int (nomark _))))) (pe_lst pa_nil) (pv 7)))) pa_nil)))))))
    (pss_cons (ps_setLc (i := 9) (own := [("at", 6)]) (by rfl) sc__law_totals.nd rfl rfl (sw_true rfl rfl rfl (by decide +kernel)) (pi_range1 (by rfl) z_range (pa_cons (pv 2) pa_nil)) (blkOk_by (own := [("at", 6)]) (N := N__law_totals) (sc := defScope s__law_totals) (by decide +kernel)) (fun _ _ _ _ _ => (pg_name (i := 6) sc__law_totals.nd rfl (.inr rfl))) (fun _ _ _ _ _ => pts_nil) (fun _ _ _ _ _ => (pe_callTy (show CallR _ (.type "tuple") (rTupOf K) from call_tupK) (by rfl) z_tuple (by decide +kernel) (pa_cons (pe_lc (own := [("kind", 5)]) (by rfl) sc__law_totals.nd (pi_range1 (by rfl) z_range (pa_cons (pv 1) pa_nil)) (blkOk_by (own := [("kind", 5)]) (N := N__law_totals) (sc := { kind := .function, names := [((".0" : String), .local), (("at" : String), .cell), (("tuple" : String), .globalImplicit), (("range" : String), .globalImplicit), (("kinds" : String), .cell), (("rows" : String), .cell)], isGenerator := false, isCoroutine := false }) (by decide +kernel)) (fun _ _ _ _ _ => (pg_name (i := 5) sc__law_totals.nd rfl (.inl rfl))) (fun _ _ _ _ _ => (pts_one (pt_cmpR (show OpR _ (compareOp .In) (rIn K false) from op_in_seq) (pv 6) (pe_ix (show IxR _ (rIxL K) from ix_list) (pv 4) (pv 5) (fun _ _ => rfl)) rfl))) (fun _ _ _ _ _ => (pv 5))) pa_nil))))
    (pss_cut (ps_for PassesOwn.never rfl (pi_range1 (by rfl) z_range (pa_cons (pv 2) pa_nil)) (pg_name (i := 6) sc__law_totals.nd rfl (.inl rfl))
      (pss_one (ps_asg (pe_meet (pe_ifExp (pt_cmpR op_eq (pe_cl C__law_draw hr (by decide) rfl (pa_cons (pv 0) (pa_cons pe_int pa_nil))) pe_int (nomark _)) (pe_ix ix_list (pv 9) (pe_cl C__law_draw hr (by decide) rfl (pa_cons (pv 0) (pa_cons (pv 2) pa_nil))) (fun _ _ => rfl)) (pe_ix ix_list (pv 9) (pv 6) (fun _ _ => rfl)))) (pg_sub (pv 9) (pv 6) set_list))))
    (pss_one (ps_ret (pe_callTy call_tuple_of (by rfl) z_tuple (by decide +kernel) (pa_cons (pv 9) pa_nil)))))))), ?_⟩
    have big : sizeLine = 16777216 := by decide
    have on0 := On.start hd
    refine ⟨_, rfl, by show 4 ≤ sizeLine; decide, fun L nL => ?_⟩
    have fL := on0.free nL
    have on1 := on0.new (o := .lst [.int 2, .int 2, .int 3, .int 4]) nL
    refine ⟨p, q, L, _, rfl, on1.hd, upd_same, fL.1, fL.2.1, by simp, by show 4 < 1000000; decide, fun H2 v hd2 kp2 hv => ?_⟩
    have on2 := on1.draw hd2 kp2
    obtain ⟨share, rfl, sh0, sh1⟩ : ∃ i : Int, v = .int i ∧ 0 < i ∧ i < 1073741824 := by
      simp only [List.mem_cons, List.not_mem_nil, or_false] at hv
      rcases hv with e | e | e | e
      · exact ⟨2, e, by decide, by decide⟩
      · exact ⟨2, e, by decide, by decide⟩
      · exact ⟨3, e, by decide, by decide⟩
      · exact ⟨4, e, by decide, by decide⟩
    refine ⟨by show 0 ≤ sizeLine; exact Nat.zero_le _, fun R nR => ?_⟩
    have fR := on2.free nR
    have on3 := on2.new (o := .lst []) nR
    have kR := upd_same (H := H2) (a := R) (o := .lst [])
    generalize L2.upd H2 R (.lst []) = H3 at on3 kR ⊢
    refine ⟨by show 2 ≤ sizeLine; decide, fun T nT => ?_⟩
    have on4 := on3.new (o := .tup [.int share, .ref R]) nT
    have kR4 := same_upd (o := .tup [.int share, .ref R]) nT _ _ kR
    refine ⟨T, _, rfl, sqt upd_same, rfl, _, _, rfl, _, _, rfl, rfl, ?_⟩
    generalize L2.upd H3 T (.tup [.int share, .ref R]) = H4 at on4 kR4 ⊢
    clear on1 on2 on3 kp2 hd2 hv nL nT kR
    generalize frz p q H = G at *
    refine ⟨fun σ H' => (∃ y5 y6 y7 y8 : Option V, σ = [some (.ref p), some (.int n), some (.int m), some (.int share), some (.ref R), y5, y6, y7, y8, none]) ∧ ∃ rs bs, RowsW p q G H' R rs bs ∧ rs.length = n, ?_, ?_⟩
    · refine ⟨_, rfl, _, rfl, by omega, by omega, ?_⟩
      refine for_it (walk_range (lo := 0) (n := ((n : Nat) : Int).toNat)) (fun i σ H' => (∃ y5 y6 y7 y8 : Option V, σ = [some (.ref p), some (.int n), some (.int m), some (.int share), some (.ref R), y5, y6, y7, y8, none]) ∧ ∃ rs bs, RowsW p q G H' R rs bs ∧ rs.length = i) ⟨⟨_, _, _, _, rfl⟩, [], [], ⟨on4, kR4, trivial, fun t h => by cases h⟩, rfl⟩ (fun _ _ _ _ _ => trivial) ?_ ?_
      · rintro i x σ H5 H6 hi ⟨⟨y5, y6, y7, y8, rfl⟩, rs, bs, W, lr⟩ ⟨rfl, rfl⟩
        have hi2 : i < n := by have : i < ((n : Nat) : Int).toNat := hi; omega
        -- a row
        refine ⟨_, rfl, _, rfl, by omega, by omega, fun D nD => ?_⟩
        have fD := W.1.free nD
        have nRD : R ≠ D := ne_of_none W.2.1 nD
        have rsD : ∀ t ∈ rs, t ≠ D := fun t ht z => by
          obtain ⟨b, _, k⟩ := W.2.2.1.at_ ht
          rw [z, nD] at k
          cases k
        refine lc_it (walk_range (lo := 0) (n := ((m : Nat) : Int).toNat)) (fun j H' => RowsW p q G H' R rs bs ∧ ∃ c : List Int, H' D = some (.lst (c.map V.int)) ∧ c.length ≤ j) ⟨W.same (same_upd nD), [], upd_same, Nat.le_refl _⟩ (fun _ _ _ _ => trivial) ?_ ?_
        · rintro j x H7 H8 hj ⟨W7, c, kD, lc⟩ ⟨rfl, rfl⟩
          have hj2 : j < m := by have : j < ((m : Nat) : Int).toNat := hj; omega
          refine ⟨rfl, _, rfl, _, rfl, p, q, _, rfl, W7.1.hd, sh0, sh1, fun H9 r hd9 kp9 r0 r1 => ?_⟩
          have W9 := W7.draw ⟨fR.1, fR.2.1⟩ hd9 kp9
          have kD9 := kp9 D _ fD.1 fD.2.1 kD
          refine ⟨rfl, _, rfl, ite2 (fun _ => ?_) (fun _ => ⟨W9, c, kD9, by omega⟩)⟩
          refine ⟨_, rfl, _, kD9, by rw [List.length_map]; omega, W9.put fD nRD rsD, c ++ [(0 : Int) + (j : Nat)], by rw [upd_same, List.map_append]; rfl, by rw [List.length_append]; show c.length + 1 ≤ j + 1; omega⟩
        rintro H7 ⟨W7, c, kD, lc⟩
        -- the turn
        refine ⟨_, rfl, p, q, _, rfl, W7.1.hd, by decide, by decide, fun H8 turn hd8 kp8 t0 t1 => ?_⟩
        have W8 := W7.draw ⟨fR.1, fR.2.1⟩ hd8 kp8
        have kD8 := kp8 D _ fD.1 fD.2.1 kD
        have lb := W8.2.2.1.len
        refine ⟨_, rfl, .inl ⟨rfl, _, .inl (.inl W8.2.1)⟩, ?_⟩
        refine ⟨fun v H' => ∃ (r : Addr) (b : List Int), v = .ref r ∧ RowsW p q G H' R rs bs ∧ H' r = some (.lst (b.map V.int)) ∧ r ≠ p ∧ r ≠ q ∧ r ≠ R, ?_, ?_⟩
        · refine ⟨_, rfl, by show 0 ≤ sizeLine; exact Nat.zero_le _, fun Z nZ => ?_⟩
          have sZ := same_upd (o := .lst []) nZ
          have W9 := W8.same sZ
          have kD9 := sZ _ _ kD8
          refine ⟨_, _, .lst (.inl (.inl W9.2.1)) (dpBlk W9.2.2.1), dp_ints (K := K) (cs := []) (.inl (.inl upd_same)), shaped_dL bs, shaped_nil, _, rfl, ?_⟩
          rw [eqvB_nil]
          by_cases b0 : bs = []
          · rw [decide_eq_true b0]
            refine iteF ?_
            refine ⟨_, rfl, rfl, _, rfl, ite2 (fun _ => ?_) (fun _ => ?_)⟩
            · refine ⟨_, rfl, p, q, _, rfl, W9.1.hd, by decide, by decide, fun H10 r hd10 kp10 r0 r1 => ?_⟩
              have W10 := W9.draw ⟨fR.1, fR.2.1⟩ hd10 kp10
              have kD10 := kp10 D _ fD.1 fD.2.1 kD9
              refine ⟨rfl, _, rfl, ite2 (fun _ => ?_) (fun _ => ?_)⟩
              · refine ⟨by show 0 ≤ sizeLine; exact Nat.zero_le _, fun E2 nE => ?_⟩
                have fE := W10.1.free nE
                exact ⟨E2, [], rfl, W10.same (same_upd nE), upd_same, fE.1, fE.2.1, (ne_of_none W10.2.1 nE).symm⟩
              · exact ⟨_, rfl, D, c, rfl, W10, kD10, fD.1, fD.2.1, nRD.symm⟩
            · exact ⟨_, rfl, D, c, rfl, W9, kD9, fD.1, fD.2.1, nRD.symm⟩
          · rw [decide_eq_false b0]
            refine iteT ⟨_, rfl, rfl, _, rfl, ite2 (fun _ => ?_) (fun _ => ?_)⟩
            · have l0 : 0 < rs.length := by
                have := List.length_pos_iff.mpr b0
                omega
              refine ⟨_, rfl, _, rfl, _, rfl, R, _, rfl, .inl (.inl (.inl W9.2.1)), p, q, _, rfl, W9.1.hd, by rw [List.length_map]; omega, by rw [List.length_map]; omega, fun H10 r hd10 kp10 r0 r1 => ?_⟩
              have W10 := W9.draw ⟨fR.1, fR.2.1⟩ hd10 kp10
              obtain ⟨k, rfl⟩ := Int.eq_ofNat_of_zero_le r0
              rw [List.length_map] at r1
              have ek : rs[k]? = some rs[k] := List.getElem?_eq_getElem (by omega)
              generalize rs[k] = t at ek
              obtain ⟨b, eb, kt⟩ := W10.2.2.1.get ek
              exact ⟨R, _, _, _, rfl, rfl, .inl (.inl W10.2.1), atI_nat (v := V.ref t) (by rw [List.getElem?_map, ek]; rfl), t, b, rfl, W10, kt, W10.2.2.2 t (List.mem_of_getElem? ek)⟩
            · refine ⟨_, rfl, rfl, _, rfl, ite2 (fun _ => ?_) (fun _ => ?_)⟩
              · refine ⟨_, rfl, p, q, _, rfl, W9.1.hd, by decide, by decide, fun H10 r hd10 kp10 r0 r1 => ?_⟩
                have W10 := W9.draw ⟨fR.1, fR.2.1⟩ hd10 kp10
                have kD10 := kp10 D _ fD.1 fD.2.1 kD9
                refine ⟨rfl, _, rfl, ite2 (fun _ => ?_) (fun _ => ?_)⟩
                · refine ⟨by show 0 ≤ sizeLine; exact Nat.zero_le _, fun E2 nE => ?_⟩
                  have fE := W10.1.free nE
                  exact ⟨E2, [], rfl, W10.same (same_upd nE), upd_same, fE.1, fE.2.1, (ne_of_none W10.2.1 nE).symm⟩
                · exact ⟨_, rfl, D, c, rfl, W10, kD10, fD.1, fD.2.1, nRD.symm⟩
              · exact ⟨_, rfl, D, c, rfl, W9, kD9, fD.1, fD.2.1, nRD.symm⟩
        · rintro _ H9 ⟨r, b, rfl, W9, kr, nr⟩
          refine ⟨R, _, _, rfl, rfl, W9.2.1, by rw [List.length_map]; omega, ⟨_, _, _, _, rfl⟩, rs ++ [r], bs ++ [b], W9.add fR kr nr, by rw [List.length_append, lr]; rfl⟩
      · rintro σ H5 ⟨⟨y5, y6, y7, y8, rfl⟩, rs, bs, W, lr⟩
        exact ⟨⟨_, _, _, _, rfl⟩, rs, bs, W, by omega⟩
    clear on4 kR4
    rintro σ H5 ⟨⟨y5, y6, y7, y8, rfl⟩, rs, bs, W, lr⟩
    have lb := W.2.2.1.len
    have nRn := W.2.1
    -- the totals
    refine ⟨_, rfl, _, rfl, by omega, by omega, fun D nD => ?_⟩
    have fD := W.1.free nD
    have nRD : R ≠ D := ne_of_none W.2.1 nD
    have s0 := same_upd (o := .lst []) nD
    refine lc_it (walk_range (lo := 0) (n := ((m : Nat) : Int).toNat)) (fun i H' => Same H5 H' ∧ ∃ xs ts, H' D = some (.lst xs) ∧ Tots K H' xs ts ∧ ts.length = i ∧ ∀ c ∈ ts, LotOk (n : Int) c) ⟨s0, [], [], upd_same, trivial, rfl, fun c h => by cases h⟩ (fun _ _ _ _ => trivial) ?_ ?_
    · rintro i x H6 H7 hi ⟨s6, xs, ts, kD, hX, lt, ok⟩ ⟨rfl, rfl⟩
      have hi2 : i < m := by have : i < ((m : Nat) : Int).toNat := hi; omega
      have z1 : (0 : Int) + (i : Nat) = ((i : Nat) : Int) := Int.zero_add _
      refine ⟨rfl, _, rfl, _, rfl, by omega, by omega, fun L2 nL2 => ?_⟩
      refine lc_it (walk_range (lo := 0) (n := ((n : Nat) : Int).toNat)) (fun j H' => Same H7 H' ∧ H' L2 = some (.lst ((twF bs (i : Int) j).map V.int))) ⟨same_upd nL2, upd_same⟩ (fun _ _ _ _ => trivial) ?_ ?_
      · rintro j x H8 H9 hj ⟨s8, kL⟩ ⟨rfl, rfl⟩
        have hj2 : j < n := by have : j < ((n : Nat) : Int).toNat := hj; omega
        have ek : rs[j]? = some rs[j] := List.getElem?_eq_getElem (by omega)
        generalize rs[j] = t at ek
        obtain ⟨b, eb, kt⟩ := W.2.2.1.get ek
        have z2 : (0 : Int) + (j : Nat) = ((j : Nat) : Int) := Int.zero_add _
        refine ⟨rfl, _, rfl, _, rfl, _, rfl, R, _, _, _, rfl, rfl, .inl (.inl ((s6.trans s8) _ _ W.2.1)), by rw [z2]; exact atI_nat (v := V.ref t) (by rw [List.getElem?_map, ek]; rfl), t, b.map V.int, rfl, .inl (.inl (.inl ((s6.trans s8) _ _ kt))), rfl, CK.flat_ints b, _, rfl, ?_⟩
        rw [inV_ints, z1]
        cases hk : b.contains ((i : Nat) : Int) with
        | true =>
          refine iteT ⟨_, rfl, _, kL, ?_, HD.same_put s8 nL2, ?_⟩
          · have := twF_len bs (i : Int) j
            rw [List.length_map]
            omega
          · rw [upd_same, twF_yes eb hk]
            show some (HO.lst ((twF bs (i : Int) j).map V.int ++ [V.int ((0 : Int) + (j : Nat))])) = _
            rw [z2, List.map_append]
            rfl
        | false =>
          refine iteF ⟨s8, ?_⟩
          rw [twF_no eb hk]
          exact kL
      · rintro H8 ⟨s8, kL⟩
        rw [Int.toNat_natCast] at kL
        refine ⟨L2, _, rfl, .inl ⟨.inl (.inl kL), fun r nr => ?_⟩⟩
        have sr := same_upd (o := .tup ((twF bs (i : Int) n).map V.int)) nr
        have s68 := s8.trans sr
        have lx := hX.len
        refine ⟨xs, s68 _ _ kD, by omega, HD.same_put (s6.trans s68) nD, xs ++ [.ref r], ts ++ [twF bs (i : Int) n], upd_same, Tots.upd (s68 _ _ kD) (Tots.snoc (sqt upd_same) (hX.mono s68)), by rw [List.length_append, lt]; rfl, fun c hc => ?_⟩
        rcases List.mem_append.mp hc with z | z
        · exact ok c z
        · rw [List.mem_singleton.mp z]
          exact twF_lot n12
    rintro H6 ⟨s6, xs, ts, kD, hX, lt, ok⟩
    rw [Int.toNat_natCast] at lt
    have on6 := W.1.same s6
    have fD : D ≠ p ∧ D ≠ q ∧ G D = none := fD
    clear W nRn s6
    refine ⟨fun σ H' => (∃ y5 y6 : Option V, σ = [some (.ref p), some (.int n), some (.int m), some (.int share), some (.ref R), y5, y6, y7, y8, some (.ref D)]) ∧ On p q G H' ∧ ∃ xs ts, H' D = some (.lst xs) ∧ Tots K H' xs ts ∧ ts.length = m ∧ ∀ c ∈ ts, LotOk (n : Int) c, ?_, ?_⟩
    · refine ⟨_, rfl, _, rfl, by omega, by omega, ?_⟩
      refine for_it (walk_range (lo := 0) (n := ((m : Nat) : Int).toNat)) (fun i σ H' => (∃ y5 y6 : Option V, σ = [some (.ref p), some (.int n), some (.int m), some (.int share), some (.ref R), y5, y6, y7, y8, some (.ref D)]) ∧ On p q G H' ∧ ∃ xs ts, H' D = some (.lst xs) ∧ Tots K H' xs ts ∧ ts.length = m ∧ ∀ c ∈ ts, LotOk (n : Int) c) ⟨⟨_, _, rfl⟩, on6, xs, ts, kD, hX, lt, ok⟩ (fun _ _ _ _ _ => trivial) ?_ ?_
      · clear on6 kD hX lt ok
        rintro i x σ H7 H8 hi ⟨⟨y5, y6, rfl⟩, on7, xs, ts, kD, hX, lt, ok⟩ ⟨rfl, rfl⟩
        have hi2 : i < m := by have : i < ((m : Nat) : Int).toNat := hi; omega
        have z1 : (0 : Int) + (i : Nat) = ((i : Nat) : Int) := Int.zero_add _
        show gName 6 (V.int ((0 : Int) + ((i : Nat) : Int))) _ _ _
        rw [z1]
        have lx := hX.len
        have pick : ∀ (H' : Hp) (k : Nat), k < m → Tots K H' xs ts → ∃ t c, xs[k]? = some (.ref t) ∧ ts[k]? = some c ∧ SqT K H' t (c.map V.int) := fun H' k hk h => by
          have e : xs[k]? = some xs[k] := List.getElem?_eq_getElem (by omega)
          obtain ⟨t, c, e1, e2, e3⟩ := h.get e
          exact ⟨t, c, by rw [e, e1], e2, e3⟩
        refine ⟨fun v H' => ∃ (t : Addr) (c : List Int), v = .ref t ∧ c ∈ ts ∧ On p q G H' ∧ H' D = some (.lst xs) ∧ Tots K H' xs ts ∧ SqT K H' t (c.map V.int), ?_, ?_⟩
        · refine ⟨_, rfl, p, q, _, rfl, on7.hd, by decide, by decide, fun H9 r hd9 kp9 r0 r1 => ?_⟩
          have on9 := on7.draw hd9 kp9
          have kD9 := kp9 D _ fD.1 fD.2.1 kD
          have hX9 := Tots.keep on7.hd kp9 hX
          refine ⟨rfl, _, rfl, ite2 (fun _ => ?_) (fun _ => ?_)⟩
          · refine ⟨_, rfl, _, rfl, _, rfl, p, q, _, rfl, on9.hd, by omega, by omega, fun H10 k hd10 kp10 k0 k1 => ?_⟩
            have on10 := on9.draw hd10 kp10
            have kD10 := kp10 D _ fD.1 fD.2.1 kD9
            have hX10 := Tots.keep on9.hd kp10 hX9
            obtain ⟨k, rfl⟩ := Int.eq_ofNat_of_zero_le k0
            obtain ⟨t, c, e1, e2, e3⟩ := pick H10 k (by omega) hX10
            exact ⟨D, _, _, _, rfl, rfl, .inl (.inl kD10), atI_nat e1, t, c, rfl, List.mem_of_getElem? e2, on10, kD10, hX10, e3⟩
          · obtain ⟨t, c, e1, e2, e3⟩ := pick H9 i hi2 hX9
            exact ⟨_, rfl, _, rfl, D, _, _, _, rfl, rfl, .inl (.inl kD9), atI_nat e1, t, c, rfl, List.mem_of_getElem? e2, on9, kD9, hX9, e3⟩
        · rintro _ H9 ⟨t, c, rfl, hc, on9, kD9, hX9, ht⟩
          refine ⟨_, rfl, _, rfl, D, xs, _, i, rfl, rfl, kD9, ixN_nat (by omega), ⟨_, _, rfl⟩, on9.put fD, xs.set i (.ref t), ts.set i c, upd_same, Tots.upd kD9 (Tots.set ht i hX9), by rw [List.length_set]; exact lt, fun d hd => ?_⟩
          rcases List.mem_or_eq_of_mem_set hd with z | z
          · exact ok d z
          · rw [z]
            exact ok c hc
      · rintro σ H7 ⟨⟨y5, y6, rfl⟩, on7, xs, ts, kD, hX, lt, ok⟩
        exact ⟨⟨_, _, rfl⟩, on7, xs, ts, kD, hX, lt, ok⟩
    · clear on6 kD hX lt ok
      rintro σ H7 ⟨⟨y5, y6, rfl⟩, on7, xs, ts, kD, hX, lt, ok⟩
      refine ⟨_, rfl, D, _, rfl, .inl ⟨.inl (.inl kD), fun u nu => ?_⟩⟩
      have su := same_upd (o := .tup xs) nu
      exact fin _ u xs ts (on7.new nu) upd_same (hX.mono su) lt ok
end
end K03
namespace CK
open PySem PySem.Spec PyProof.Rows L2 VG FR HD
theorem strOk_name {z : Str} (h : NameOk z) : PyData.strOk z = true := by
  unfold PyData.strOk
  rw [← Array.all_toList, List.all_eq_true]
  intro c hc
  have := (h.2.2 c hc).2
  exact decide_eq_true (by omega)
theorem gd_dS1 {ks : List Str} (h : ∀ z ∈ ks, NameOk z) : Gd 1 (dS1 ks) := gd_tup fun d hd => by
  obtain ⟨z, hz, rfl⟩ := List.mem_map.mp hd
  exact gd_str 0 (strOk_name (h z hz))
theorem gd_dT1 (ts : List (List Int)) : Gd 2 (dT1 ts) := gd_tup fun d hd => by
  obtain ⟨c, _, rfl⟩ := List.mem_map.mp hd
  exact gd_dI c
/-- two equal tables -/
def TabEq (K : PySem.W.Frag) (C : Addr) (a b : Addr) (H : Hp) : Prop := ∃ ks ts, Tab K C H a ks ts ∧ Tab K C H b ks ts ∧ ∀ z ∈ ks, NameOk z
structure EqC (P : Program) (w : World) (K : PySem.W.Frag) (mg : Str → Option Value) (base : Heap) (C : Addr) : Prop where
  ex : ∃ (f : Addr) (fd : FuncData), FnOk P w K mg base CX0 1 f fd ["self", "other"] (spEq (TabEq K C)) ∧ PySem.W.findIn K (.ref C) "__eq__" = some (some (.ref f)) ∧ PySem.W.isFn K (.ref f) = true ∧ Binds K fd ["self", "other"] []
/-- a == b of two equal tables -/
def rEqT (K : PySem.W.Frag) (C : Addr) : R2 := fun x y H Q => ∃ (a b : Addr) (ks : List Str) (ts : List (List Int)), x = .ref a ∧ y = .ref b ∧ Tab K C H a ks ts ∧ Tab K C H b ks ts ∧ (∀ z ∈ ks, NameOk z) ∧ ∀ H', Same H H' → Q (.bl true) H'
theorem op_eqTab {X : Cx} {C : Addr} (h : EqC X.prog X.w X.K X.mg X.base C) (hr : Room 1 X.A) : OpR X (compareOp .Eq) (rEqT X.K C) := by
  obtain ⟨f, fd, F, m1, m2, b⟩ := h.ex
  have R := op_eqG (rcG_ins (E := E0) F m1 m2 b pass0) hr
  intro pins s σ H x y v u Q I rx ry h
  obtain ⟨p, q, ks, ts, rfl, rfl, hp, hq, hn, fin⟩ := h
  have ⟨dx, _, _, _, o1, _⟩ := hp
  have ⟨dy, _, _, _, o2, _⟩ := hq
  exact R pins s σ H _ _ v u Q I rx ry ⟨⟨p, q, dx, dy, _, _, rfl, rfl, o1, o2, ks, ts, hp, hq, hn⟩, fun H' e => fin H' e⟩
end CK
namespace K03
open PySem PySem.Spec PyProof.Rows L2 VG FR CK HD
abbrev e_Table : Stmt := inClass (topS 20) 1
theorem sc_e_Table : FnScope ["self", "other"] ["self", "other"] (defScope e_Table) := ⟨rfl, rfl, rfl, by decide +kernel, rfl, by decide +kernel, by decide +kernel⟩
section
variable {P : Program} {w : World} {K : PySem.W.Frag} {mg : Str → Option Value} {base : Heap}
theorem ok_eq_Table {f C : Addr} {fd : FuncData} (F : Fun K "__eq__" "Table.__eq__" e_Table f fd) (TC : TabC K C) (m_Table : mg "Table" = some (.ref C)) (isT : ∀ (H : Hp) (a dx : Addr) (fs : List (Str × V)), H a = some (.ins C dx fs) → TyX K H (.ref a) (.ref C)) (kT : PySem.W.kitOne K (.ref C) (.ref C) = some true)
    (z_isinstance : mg "isinstance" = none) : FnOk P w K mg base CX0 1 f fd ["self", "other"] (spEq (TabEq K C)) := by
  refine F.ok sc_e_Table (fun vs H Q E h => ?_) (fun cdv A outer s H vs Q E hr h => ?_)
  · obtain ⟨_, _, rfl, _⟩ := h
    rfl
  · obtain ⟨a, b, rfl, ⟨ks, ts, ⟨dx, k, t, xs, hO, hK, hS, hT⟩, ⟨dy, k2, t2, ys, hO2, hK2, hS2, hT2⟩, hn⟩, fin⟩ := h
    refine ⟨_, (pss_one (ps_ret (pe_and (pe_callB call_isi (by rfl) z_isinstance (by decide +kernel) (pa_cons (pv 1) (pa_cons (pe_glob (v := .ref C) rfl m_Table rfl) pa_nil))) (pe_and (pe_cmpR (op_eqD hr.units) (pe_fld (pv 0) (by rfl)) (pe_fld (pv 1) (by rfl)) (nomark _)) (pe_one (pe_cmpR (op_eqD hr.units) (pe_fld (pv 0) (by rfl)) (pe_fld (pv 1) (by rfl)) (nomark _))))))), ?_⟩
    have g1 := (gd_dS1 hn)
    have g2 := (gd_dT1 ts)
    have e1 : PyData.eqv (dS1 ks) (dS1 ks) = true := SeqAt.eqv_refl _ g1.1
    have e2 : PyData.eqv (dT1 ts) (dT1 ts) = true := SeqAt.eqv_refl _ g2.1
    refine ⟨_, rfl, _, _, _, _, true, rfl, .own C, isT H b dy _ hO2, kT, true, rfl, iteT ?_⟩
    refine ⟨_, rfl, a, C, dx, _, .ref k, rfl, hO, TC.c, TC.nk, rfl, ?_⟩
    refine ⟨_, rfl, b, C, dy, _, .ref k2, rfl, hO2, TC.c, TC.nk, rfl, ?_⟩
    refine ⟨dS1 ks, dS1 ks, .tup hK (dpAll_strs ks), .tup hK2 (dpAll_strs ks), g1.shaped (by decide), g1.shaped (by decide), ?_⟩
    rw [e1]
    refine ⟨true, rfl, iteT ?_⟩
    refine ⟨_, rfl, a, C, dx, _, .ref t, rfl, hO, TC.c, TC.nt, rfl, ?_⟩
    refine ⟨_, rfl, b, C, dy, _, .ref t2, rfl, hO2, TC.c, TC.nt, rfl, ?_⟩
    refine ⟨dT1 ts, dT1 ts, .tup hS (dpAll_tots hT), .tup hS2 (dpAll_tots hT2), g2.shaped (by decide), g2.shaped (by decide), ?_⟩
    rw [e2]
    exact fin H (fun _ _ h => h)
end
end K03
namespace CK
open PySem PySem.Spec PyProof.Rows L2 VG FR HD
/-- repr of a number, or of nothing -/
def repV : V → Str
  | .int i => (toString i : String)
  | _ => ("None" : String)
def rReprN : List V → Hp → VK → Prop := fun xs H Q => ∃ v, xs = [v] ∧ ((∃ i : Int, v = .int i ∧ i.natAbs < 2 ^ 24) ∨ v = .non) ∧ Q (.str (repV v)) H
theorem cr_reprN {X : Cx} : CallR X (.builtin "repr") rReprN := by
  intro pins s σ H vs us Q I r h
  obtain ⟨v, rfl, hv, q⟩ := h
  obtain ⟨u, rfl, ru⟩ := vals1 r
  rcases hv with ⟨i, rfl, hi⟩ | rfl
  · obtain ⟨t, rfl⟩ := ru
    have hz : i.natAbs.log2 < 1920 := Nat.lt_of_lt_of_le (PySem.Flt.log2_lt_of (by decide) hi) (by decide)
    exact PySem.P.repr_of_int hz ⟨.str _, H, I.tok _, ⟨_, rfl⟩, q⟩
  · cases ru
    exact PySem.P.repr_of_none ⟨.str _, H, I.tok _, ⟨_, rfl⟩, q⟩
/-- numbers and nothing as data -/
def vD : V → PyData
  | .int i => .int i
  | _ => .none
def IntV (v : V) : Prop := (∃ i : Int, v = .int i ∧ i.natAbs < 2 ^ 24) ∨ v = .non
theorem dp_v {K : PySem.W.Frag} {H : Hp} {v : V} (h : IntV v) : Dp K H v (vD v) := by
  rcases h with ⟨i, rfl, _⟩ | rfl
  · exact .int i
  · exact .non
theorem dp_vs {K : PySem.W.Frag} {H : Hp} : ∀ {vs : List V}, (∀ v ∈ vs, IntV v) → DpAll K H vs (vs.map vD)
  | [], _ => .nil
  | v :: vs, h => .cons (dp_v (h v List.mem_cons_self)) (dp_vs fun u hu => h u (List.mem_cons_of_mem _ hu))
theorem gd_v {v : V} (h : IntV v) : Gd 0 (vD v) := by
  rcases h with ⟨i, rfl, _⟩ | rfl
  · exact gd_int 0 i
  · exact gd_non 0
theorem shn_v {v : V} (h : IntV v) : Shn (vD v) 0 25 := by
  rcases h with ⟨i, rfl, hi⟩ | rfl
  · exact shn_int (k := 24) (by decide) hi (by decide)
  · exact ⟨by simp [PyData.showable, vD], by simp [PyData.hasDict, vD], by simp [PyData.depth, vD], by decide +kernel⟩
theorem num_intV {ts : List (List Int)} {n : Nat} (hn : n ≤ 12) (k : Int) : IntV (numV (classesL ts n) k) := by
  have ⟨cl1, _⟩ := classes_len ts n
  generalize classesL ts n = cs at cl1
  have key : ∀ i, i ≤ cs.length → valV (numF cs i) (Sum.inl k : L2.Key) = Option.none ∨ ∃ a : Nat, a < i ∧ valV (numF cs i) (Sum.inl k : L2.Key) = some (V.int (a : Int)) := by
    intro i
    induction i with
    | zero => intro _; exact .inl rfl
    | succ i ih =>
      intro hi
      have e : valV (numF cs (i + 1)) (Sum.inl k : L2.Key) = if k ∈ cs.getD i [] then some (V.int (i : Int)) else valV (numF cs i) (Sum.inl k : L2.Key) := row_val i k (cs.getD i []) (numF cs i)
      rw [e]
      by_cases h : k ∈ cs.getD i []
      · rw [if_pos h]
        exact .inr ⟨i, by omega, rfl⟩
      · rw [if_neg h]
        rcases ih (by omega) with z | ⟨a, ha, z⟩
        · exact .inl z
        · exact .inr ⟨a, by omega, z⟩
  unfold numV
  rcases key cs.length (Nat.le_refl _) with z | ⟨a, ha, z⟩
  · rw [z]
    exact .inr rfl
  · rw [z]
    have : (2 : Nat) ^ 24 = 16777216 := by decide
    exact .inl ⟨(a : Int), rfl, by omega⟩
/-- a class meets a total -/
def meet (c cl : List Int) : Bool := cl.any fun k => c.contains k
theorem headI_mem {cl : List Int} (h : cl ≠ []) : headI cl ∈ cl := by
  cases cl with
  | nil => exact absurd rfl h
  | cons x r => exact List.mem_cons_self
theorem meet_head {ts : List (List Int)} {n : Nat} {c cl : List Int} {a : Nat} (hc : c ∈ ts) (ok : ∀ x ∈ c, 0 ≤ x ∧ x < (n : Int)) (ha : (classesL ts n)[a]? = some cl) : meet c cl = c.contains (headI cl) := by
  have ne := cls_ne cl (List.mem_of_getElem? ha)
  rw [Bool.eq_iff_iff]
  unfold meet
  rw [List.any_eq_true]
  constructor
  · rintro ⟨k, hk, e⟩
    have kc := List.contains_iff_mem.mp e
    obtain ⟨k0, k1⟩ := ok k kc
    obtain ⟨j, rfl⟩ := Int.eq_ofNat_of_zero_le k0
    obtain ⟨b, d, e1, e2, e3⟩ := cls_one (n := n) hc (by omega) kc
    have ab : a = b := e3 a cl ha hk
    subst ab
    exact (rec_iff hc ok ha).mp ⟨(j : Int), kc, num_of e1 e2 e3⟩
  · intro e
    exact ⟨headI cl, headI_mem ne, e⟩
/-- the classes of a total -/
def rowC (cs : List (List Int)) (c : List Int) (i : Nat) : List Int := ((List.range i).filter fun a => meet c (cs.getD a [])).map fun a => ((a : Nat) : Int)
theorem rowC_yes {cs : List (List Int)} {c cl : List Int} {i : Nat} (e : cs[i]? = some cl) (h : meet c cl = true) : rowC cs c (i + 1) = rowC cs c i ++ [(i : Int)] := by
  unfold rowC
  have g : cs.getD i [] = cl := by rw [List.getD_eq_getElem?_getD, e]; rfl
  rw [List.range_succ, List.filter_append, List.map_append]
  have e2 : [i].filter (fun a => meet c (cs.getD a [])) = [i] := by simp only [List.filter_cons, g, h, if_true, List.filter_nil]
  rw [e2]
  rfl
theorem rowC_no {cs : List (List Int)} {c cl : List Int} {i : Nat} (e : cs[i]? = some cl) (h : meet c cl = false) : rowC cs c (i + 1) = rowC cs c i := by
  unfold rowC
  have g : cs.getD i [] = cl := by rw [List.getD_eq_getElem?_getD, e]; rfl
  rw [List.range_succ, List.filter_append, List.map_append]
  have e2 : [i].filter (fun a => meet c (cs.getD a [])) = [] := by simp only [List.filter_cons, g, h, if_false, List.filter_nil, Bool.false_eq_true]
  rw [e2]
  exact List.append_nil _
theorem rowC_len (cs : List (List Int)) (c : List Int) (i : Nat) : (rowC cs c i).length ≤ i := by
  unfold rowC
  rw [List.length_map]
  exact Nat.le_trans (List.length_filter_le _ _) (by rw [List.length_range]; exact Nat.le_refl _)
theorem rowC_mem {cs : List (List Int)} {c : List Int} {x : Int} {i : Nat} : x ∈ rowC cs c i ↔ ∃ a : Nat, a < i ∧ meet c (cs.getD a []) = true ∧ x = (a : Int) := by
  unfold rowC
  rw [List.mem_map]
  constructor
  · rintro ⟨a, ha, e⟩
    obtain ⟨h1, h2⟩ := List.mem_filter.mp ha
    exact ⟨a, List.mem_range.mp h1, h2, e.symm⟩
  · rintro ⟨a, h1, h2, e⟩
    exact ⟨a, List.mem_filter.mpr ⟨List.mem_range.mpr h1, h2⟩, e.symm⟩
theorem rowC_asc (cs : List (List Int)) (c : List Int) (i : Nat) : (rowC cs c i).Pairwise (· < ·) := by
  unfold rowC
  refine List.pairwise_map.mpr ?_
  have h : (List.range i).Pairwise (· < ·) := List.pairwise_lt_range
  exact (List.Pairwise.filter _ h).imp fun z => by omega
theorem rowC_flat (c : List Int) (cs : List (List Int)) : ((rowC cs c cs.length).map fun a => cs.getD a.toNat []) = cs.filter (meet c) := by
  have key : ∀ n, n ≤ cs.length → ((rowC cs c n).map fun a => cs.getD a.toNat []) = (cs.take n).filter (meet c) := by
    intro n
    induction n with
    | zero => intro _; rfl
    | succ n ih =>
      intro hn
      have e : cs[n]? = some cs[n] := List.getElem?_eq_getElem hn
      generalize cs[n] = cl at e
      rw [List.take_add_one, e, List.filter_append, ← ih (by omega)]
      have g : cs.getD n [] = cl := by rw [List.getD_eq_getElem?_getD, e]; rfl
      cases h : meet c cl with
      | true =>
        rw [rowC_yes e h, List.map_append]
        congr 1
        show [cs.getD ((n : Nat) : Int).toNat []] = [cl].filter (meet c)
        rw [Int.toNat_natCast, g]
        simp [h]
      | false =>
        rw [rowC_no e h]
        have e2 : (some cl).toList.filter (meet c) = [] := by simp [h]
        rw [e2, List.append_nil]
  have := key cs.length (Nat.le_refl _)
  rw [List.take_length] at this
  exact this
theorem whole_tot {ts : List (List Int)} {n : Nat} {c : List Int} (hc : c ∈ ts) (ok : LotOk (n : Int) c) : c.Perm ((classesL ts n).filter (meet c)).flatten := by
  have h := whole_perm (n := n) hc ((pw_of_asc ok.2.2).imp fun z => by omega) ok.2.1
  have e : (classesL ts n).filter (meet c) = (classesL ts n).filter fun cl => c.contains (headI cl) := by
    refine List.filter_congr fun cl hcl => ?_
    obtain ⟨a, ha⟩ := List.mem_iff_getElem?.mp hcl
    exact meet_head hc ok.2.1 ha
  rw [e]
  exact h
theorem asc_perm {a b : List Int} (ha : a.Pairwise (· ≤ ·)) (hb : Asc b) (h : a.Perm b) : a = b :=
  List.Perm.eq_of_pairwise (le := fun a b : Int => a ≤ b) (fun a b _ _ h1 h2 => by omega) ha ((pw_of_asc hb).imp fun z => by omega) h
theorem byCls_rows {ts : List (List Int)} {n : Nat} (hn : n ≤ 12) (ok : ∀ c ∈ ts, LotOk (n : Int) c) : ByCls ts n (ts.map fun c => rowC (classesL ts n) c (classesL ts n).length) := by
  have ⟨cl1, _⟩ := classes_len ts n
  refine ⟨List.length_map .., fun j c l ec el x => ?_, fun l hl => ?_⟩
  · rw [List.getElem?_map, ec] at el
    have el : rowC (classesL ts n) c (classesL ts n).length = l := Option.some.inj el
    subst el
    have hc := List.mem_of_getElem? ec
    have okc := (ok c hc).2.1
    rw [rowC_mem]
    constructor
    · rintro ⟨a, ha, hm, rfl⟩
      have e : (classesL ts n)[a]? = some (classesL ts n)[a] := List.getElem?_eq_getElem ha
      have g : (classesL ts n).getD a [] = (classesL ts n)[a] := by rw [List.getD_eq_getElem?_getD, e]; rfl
      rw [g, meet_head hc okc e] at hm
      exact (rec_iff hc okc e).mpr hm
    · rintro ⟨k, hk, e⟩
      obtain ⟨k0, k1⟩ := okc k hk
      obtain ⟨i, rfl⟩ := Int.eq_ofNat_of_zero_le k0
      obtain ⟨a, cl, e1, e2, e3⟩ := cls_one (n := n) hc (by omega) hk
      rw [num_of e1 e2 e3] at e
      injection e with e
      have la := (List.getElem?_eq_some_iff.mp e1).1
      have g : (classesL ts n).getD a [] = cl := by rw [List.getD_eq_getElem?_getD, e1]; rfl
      refine ⟨a, la, ?_, e.symm⟩
      rw [g]
      exact List.any_eq_true.mpr ⟨_, e2, List.contains_iff_mem.mpr hk⟩
  · obtain ⟨c, hc, rfl⟩ := List.mem_map.mp hl
    have := rowC_len (classesL ts n) c (classesL ts n).length
    exact ⟨by omega, rowC_asc _ _ _⟩
theorem ByCls.uniq {ts : List (List Int)} {n : Nat} {ls ms : List (List Int)} (h1 : ByCls ts n ls) (h2 : ByCls ts n ms) : ls = ms := by
  refine List.ext_getElem? fun j => ?_
  have l1 := h1.len
  have l2 := h2.len
  by_cases lt : j < ts.length
  · have e1 : ts[j]? = some ts[j] := List.getElem?_eq_getElem lt
    have e2 : ls[j]? = some ls[j] := List.getElem?_eq_getElem (by omega)
    have e3 : ms[j]? = some ms[j] := List.getElem?_eq_getElem (by omega)
    rw [e2, e3, ascI_uniq (h1.asc _ (List.mem_of_getElem? e2)).2 (h2.asc _ (List.mem_of_getElem? e3)).2 fun x => (h1.rel j _ _ e1 e2 x).trans (h2.rel j _ _ e1 e3 x).symm]
  · rw [List.getElem?_eq_none (by omega), List.getElem?_eq_none (by omega)]
theorem shn_dT1 {cs : List (List Int)} (h : cs.length ≤ 12) (hl : ∀ c ∈ cs, c.length ≤ 12 ∧ ∀ x ∈ c, ∃ j : Nat, j < 12 ∧ x = (j : Int)) : Shn (dT1 cs) 2 ((326 + 2) * 12 + 2) := shn_tup (k := 1) (B := 326) (fun d hd => by
  obtain ⟨c, hc, rfl⟩ := List.mem_map.mp hd
  have ⟨h1, h2⟩ := hl c hc
  refine shn_dI (n := 12) (fun x hx => ?_) h1
  obtain ⟨j, hj, rfl⟩ := h2 x hx
  have : (2 : Nat) ^ 24 = 16777216 := by decide
  omega) (by rw [List.length_map]; exact h)
theorem dp_T1 {K : PySem.W.Frag} {H : Hp} {t : Addr} {xs : List V} {ts : List (List Int)} (h : SqT K H t xs) (hT : Tots K H xs ts) : Dp K H (.ref t) (dT1 ts) := .tup h (dpAll_tots hT)
theorem eqv_T1 (ts : List (List Int)) : PyData.eqv (dT1 ts) (dT1 ts) = true := SeqAt.eqv_refl _ (gd_dT1 ts).1
theorem shp_T1 (ts : List (List Int)) : SeqAt.shaped (dT1 ts) = true := (gd_dT1 ts).shaped (by decide)
/-- a judge of a table without draws -/
def spJ0 (K : PySem.W.Frag) (C : Addr) : Sp := fun vs H Q _ => ∃ (a k t : Addr) (ks : List Str) (xs : List V) (ts : List (List Int)), vs = [.ref a, .ref k, .ref t] ∧ Tab K C H a ks ts ∧ SqT K H k (ks.map V.str) ∧ SqT K H t xs ∧ Tots K H xs ts ∧ TabOk ks ts ∧ ∀ H', Same H H' → Q (.bl true) H'
end CK
namespace K03
open PySem PySem.Spec PyProof.Rows L2 VG FR CK HD
abbrev s__law_classes_right : Stmt := topS 45
abbrev N__law_classes_right : List Str := ["table", "kinds", "totals", "due", "numbers", "kind", "at", "some", "lots", "total", "whole"]
theorem sc__law_classes_right : FnScope N__law_classes_right ["table", "kinds", "totals"] (defScope s__law_classes_right) := ⟨rfl, rfl, rfl, by decide +kernel, rfl, by decide +kernel, by decide +kernel⟩
section
variable {P : Program} {w : World} {K : PySem.W.Frag} {mg : Str → Option Value} {base : Heap}
theorem ok__law_classes_right {f C : Addr} {fd : FuncData} (F : Fun K "_law_classes_right" "_law_classes_right" s__law_classes_right f fd) (TC : TabC K C) (C__law_classes : Cl P w K mg base 1 "_law_classes" (spLawCls K))
    (C_classes_of : Cl P w K mg base 2 "classes_of" (spClasses K C)) (CK_classes_of_table : ClK P w K mg base 2 "classes_of" ["table"] (spClasses K C)) (C_class_numbers : Cl P w K mg base 3 "class_numbers" (spNumbers K C)) (CK_class_numbers_table : ClK P w K mg base 3 "class_numbers" ["table"] (spNumbers K C))
    (C_totals_with : Cl P w K mg base 1 "totals_with" (spTotalsWith K C)) (CR_totals_with : ClR P w K mg base 1 "totals_with" ["kind", "table"] (spTotalsWith K C)) (C_class_of_kind : Cl P w K mg base 4 "class_of_kind" (spClassOf K C)) (CR_class_of_kind : ClR P w K mg base 4 "class_of_kind" ["kind", "table"] (spClassOf K C))
    (C_totals_by_classes : Cl P w K mg base 4 "totals_by_classes" (spTBC2 K C)) (CK_totals_by_classes_table : ClK P w K mg base 4 "totals_by_classes" ["table"] (spTBC2 K C))
    (z_len : mg "len" = none) (z_repr : mg "repr" = none) (z_tuple : mg "tuple" = none) (z_range : mg "range" = none) (z_list : mg "list" = none) (z_sorted : mg "sorted" = none) (z_any : mg "any" = none) : FnG P w K mg base 6 f fd ["table", "kinds", "totals"] (spJ0 K C) := by
  refine fnG_of F sc__law_classes_right (fun vs H Q E h => ?_) (fun cdv A outer s H vs Q E hg hr h => ?_)
  · obtain ⟨_, _, _, _, _, _, rfl, _⟩ := h
    rfl
  · obtain ⟨a, k, t, ks, xs, ts, rfl, hTab, hK, hS, hT, ok, fin⟩ := h
    refine ⟨_, (pss_cons (ps_asg (pe_cl C__law_classes hr (by decide) rfl (pa_cons (pe_callB call_len_seq (by rfl) z_len (by decide +kernel) (pa_cons (pv 1) pa_nil)) (pa_cons (pv 2) pa_nil))) (pg_tup rfl (pgs_cons (pg_name (i := 3) sc__law_classes_right.nd rfl (.inr rfl)) (pgs_cons (pg_name (i := 4) sc__law_classes_right.nd rfl (.inl rfl)) pgs_nil))))
    (pss_cons (ps_if (PW.pt (pw_or (pt_cmpR op_ne (pe_callB (cr_repr hg hr.units) (by rfl) z_repr (by decide +kernel) (pa_cons (pe_cl C_classes_of hr (by decide) rfl (pa_cons (pv 0) pa_nil)) pa_nil)) (pe_callB (cr_repr hg hr.units) (by rfl) z_repr (by decide +kernel) (pa_cons (pe_callTy call_tuple_of (by rfl) z_tuple (by decide +kernel) (pa_cons (pv 3) pa_nil)) pa_nil)) (nomark _)) (pw_or1 (pt_cmpR (op_neD hr.units) (pe_clk0 CK_classes_of_table hr (by decide) rfl (pk_cons (pv 0) pk_nil)) (pe_callTy call_tuple_of (by rfl) z_tuple (by decide +kernel) (pa_cons (pv 3) pa_nil)) (nomark _)))))
      (pss_one (ps_ret pe_bl))
      pss_nil)
    (pss_cons (ps_if (PW.pt (pw_or (pt_cmpR op_ne (pe_callB (cr_repr hg hr.units) (by rfl) z_repr (by decide +kernel) (pa_cons (pe_cl C_class_numbers hr (by decide) rfl (pa_cons (pv 0) pa_nil)) pa_nil)) (pe_callB (cr_repr hg hr.units) (by rfl) z_repr (by decide +kernel) (pa_cons (pe_callTy call_tuple_of (by rfl) z_tuple (by decide +kernel) (pa_cons (pv 4) pa_nil)) pa_nil)) (nomark _)) (pw_or1 (pt_cmpR (op_neD hr.units) (pe_clk0 CK_class_numbers_table hr (by decide) rfl (pk_cons (pv 0) pk_nil)) (pe_callTy call_tuple_of (by rfl) z_tuple (by decide +kernel) (pa_cons (pv 4) pa_nil)) (nomark _)))))
      (pss_one (ps_ret pe_bl))
      pss_nil)
    (pss_cut (ps_for PassesOwn.never rfl (pi_range1 (by rfl) z_range (pa_cons (pe_callB call_len_seq (by rfl) z_len (by decide +kernel) (pa_cons (pv 1) pa_nil)) pa_nil)) (pg_name (i := 5) sc__law_classes_right.nd rfl (.inr rfl))
      (pss_cons (ps_set (i := 7) sc__law_classes_right.nd rfl (.inl rfl) (pe_callTy call_tuple_of (by rfl) z_tuple (by decide +kernel) (pa_cons (pe_lc (own := [("at", 6)]) (by rfl) sc__law_classes_right.nd (pi_range1 (by rfl) z_range (pa_cons (pe_callB call_len_seq (by rfl) z_len (by decide +kernel) (pa_cons (pv 2) pa_nil)) pa_nil)) (blkOk_by (own := [("at", 6)]) (N := N__law_classes_right) (sc := defScope s__law_classes_right) (by decide +kernel)) (fun _ _ _ _ _ => (pg_name (i := 6) sc__law_classes_right.nd rfl (.inl rfl))) (fun _ _ _ _ _ => (pts_one (pt_cmpR (show OpR _ (compareOp .In) (rIn K false) from op_in_seq) (pv 5) (pe_ix (show IxR _ (rIxT K) from ix_tup) (pv 2) (pv 6) (fun _ _ => rfl)) rfl))) (fun _ _ _ _ _ => (pv 6))) pa_nil)))
      (pss_cons (ps_if (PW.pt (pw_or (pt_cmpR op_ne (pe_callB (cr_repr hg hr.units) (by rfl) z_repr (by decide +kernel) (pa_cons (pe_cl C_totals_with hr (by decide) rfl (pa_cons (pv 0) (pa_cons (pv 5) pa_nil))) pa_nil)) (pe_callB (cr_repr hg hr.units) (by rfl) z_repr (by decide +kernel) (pa_cons (pv 7) pa_nil)) (nomark _)) (pw_or1 (pt_cmpR (op_neD hr.units) (pe_clr CR_totals_with hr (by decide) rfl (pk_cons (pv 5) (pk_cons (pv 0) pk_nil))) (pv 7) (nomark _)))))
        (pss_one (ps_ret pe_bl))
        pss_nil)
      (pss_one (ps_if (PW.pt (pw_or (pt_cmpR op_ne (pe_callB cr_reprN (by rfl) z_repr (by decide +kernel) (pa_cons (pe_cl C_class_of_kind hr (by decide) rfl (pa_cons (pv 0) (pa_cons (pv 5) pa_nil))) pa_nil)) (pe_callB cr_reprN (by rfl) z_repr (by decide +kernel) (pa_cons (pe_ix ix_list (pv 4) (pv 5) (fun _ _ => rfl)) pa_nil)) (nomark _)) (pw_or1 (pt_cmpR op_ne (pe_clr CR_class_of_kind hr (by decide) rfl (pk_cons (pv 5) (pk_cons (pv 0) pk_nil))) (pe_ix ix_list (pv 4) (pv 5) (fun _ _ => rfl)) (nomark _)))))
        (pss_one (ps_ret pe_bl))
        pss_nil)))))
    (pss_cons (ps_set (i := 8) sc__law_classes_right.nd rfl (.inl rfl) (pe_lst pa_nil))
    (pss_cut (ps_for PassesOwn.never rfl (pi_tup (pv 2)) (pg_name (i := 9) sc__law_classes_right.nd rfl (.inr rfl))
      (pss_cons (ps_expr (pe_bm PySem.F.plainAttrs_list PySem.F.slot_list_append PySem.F.type_list_append mt_append (pv 8) (pa_cons (pe_callTy call_tuple_of (by rfl) z_tuple (by decide +kernel) (pa_cons (pe_lc (own := [("at", 6)]) (by rfl) sc__law_classes_right.nd (pi_range1 (by rfl) z_range (pa_cons (pe_callB call_len_seq (by rfl) z_len (by decide +kernel) (pa_cons (pv 3) pa_nil)) pa_nil)) (blkOk_by (own := [("at", 6)]) (N := N__law_classes_right) (sc := defScope s__law_classes_right) (by decide +kernel)) (fun _ _ _ _ _ => (pg_name (i := 6) sc__law_classes_right.nd rfl (.inl rfl))) (fun _ _ _ _ _ => (pts_one (pt_val (pe_callB (show CallR _ (.builtin "any") (rAny K) from cr_any rfl) (by rfl) z_any (by decide +kernel) (pa_cons (pe_lc (own := [("kind", 5)]) (by rfl) sc__law_classes_right.nd (show PI _ _ _ (iTup K _) from pi_tup (pe_ix (show IxR _ (rIxL K) from ix_list) (pv 3) (pv 6) (fun _ _ => rfl))) (blkOk_by (own := [("kind", 5)]) (N := N__law_classes_right) (sc := { kind := .function, names := [((".0" : String), .local), (("at" : String), .local), (("any" : String), .globalImplicit), (("due" : String), .cell), (("total" : String), .cell)], isGenerator := false, isCoroutine := false }) (by decide +kernel)) (fun _ _ _ _ _ => (pg_name (i := 5) sc__law_classes_right.nd rfl (.inl rfl))) (fun _ _ _ _ _ => pts_nil) (fun _ _ _ _ _ => (pe_cmpR (show OpR _ (compareOp .In) (rIn K false) from op_in_seq) (pv 5) (pv 9) rfl))) pa_nil))))) (fun _ _ _ _ _ => (pv 6))) pa_nil)) pa_nil)))
      (pss_cons (ps_set (i := 10) sc__law_classes_right.nd rfl (.inl rfl) (pe_lst pa_nil))
      (pss_cut (ps_for PassesOwn.never rfl (pi_tup (pe_ix ix_list (pv 8) (pe_un un_neg pe_int) (fun _ _ => rfl))) (pg_name (i := 6) sc__law_classes_right.nd rfl (.inl rfl))
        (pss_one (ps_set (i := 10) sc__law_classes_right.nd rfl (.inl rfl) (pe_op op_cat (pv 10) (pe_callTy call_list_of (by rfl) z_list (by decide +kernel) (pa_cons (pe_ix ix_list (pv 3) (pv 6) (fun _ _ => rfl)) pa_nil))))))
      (pss_one (ps_if (pt_cmpR (op_neD hr.units) (pe_callB cr_sorted (by rfl) z_sorted (by decide +kernel) (pa_cons (pv 10) pa_nil)) (pe_callTy call_list_of (by rfl) z_list (by decide +kernel) (pa_cons (pv 9) pa_nil)) (nomark _))
        (pss_one (ps_ret pe_bl))
        pss_nil))))))
    (pss_one (ps_ret (pe_and (pe_cmpR op_eq (pe_callB (cr_repr hg hr.units) (by rfl) z_repr (by decide +kernel) (pa_cons (pe_cl C_totals_by_classes hr (by decide) rfl (pa_cons (pv 0) pa_nil)) pa_nil)) (pe_callB (cr_repr hg hr.units) (by rfl) z_repr (by decide +kernel) (pa_cons (pe_callTy call_tuple_of (by rfl) z_tuple (by decide +kernel) (pa_cons (pv 8) pa_nil)) pa_nil)) (nomark _)) (pe_one (pe_cmpR (op_eqD hr.units) (pe_clk0 CK_totals_by_classes_table hr (by decide) rfl (pk_cons (pv 0) pk_nil)) (pe_callTy call_tuple_of (by rfl) z_tuple (by decide +kernel) (pa_cons (pv 8) pa_nil)) (nomark _)))))))))))), ?_⟩
    have big : sizeLine = 16777216 := by decide
    have n12 := ok.kinds.2.1
    have l12 := ok.len
    have lx := hT.len
    have ⟨cl1, cl2⟩ := classes_len ts ks.length
    have rows := byCls_rows n12 ok.lots
    have clsB := fun c (hc : c ∈ classesL ts ks.length) x (hx : x ∈ c) => classes_below hc hx
    have nI := num_intV (ts := ts) n12
    -- the law's own classes
    refine ⟨_, rfl, k, ks.map V.str, rfl, .inr hK, _, rfl, t, ks.length, xs, ts, by rw [List.length_map]; rfl, hS, hT, l12, n12, fun H1 r d n ys s1 hr1 hd hY hn => ?_⟩
    refine ⟨r, _, rfl, sqt hr1, rfl, _, _, rfl, _, _, rfl, rfl, ?_⟩
    have shC : Shn (dT1 (classesL ts ks.length)) 2 ((326 + 2) * 12 + 2) := shn_dT1 (by omega) fun c hc => ⟨Nat.le_trans (cl2 c hc) n12, fun x hx => by
      obtain ⟨j, hj, e⟩ := clsB c hc x hx
      exact ⟨j, by omega, e⟩⟩
    have eC := eqv_T1 (classesL ts ks.length)
    have pC := shp_T1 (classesL ts ks.length)
    -- the classes
    refine ⟨_, rfl, a, ks, ts, rfl, hTab.mono s1, by omega, by omega, fun H2 u us s2 nu ku hU => ?_⟩
    refine ⟨u, _, rfl, dp_T1 (sqt ku) hU, shC.r.1, shC.r.2.1, shC.r.2.2.1, shC.r.2.2.2, ?_⟩
    have hd2 := s2 _ _ hd
    refine ⟨_, rfl, d, ys, rfl, .inl ⟨.inl (.inl hd2), fun v nv => ?_⟩⟩
    have sv := same_upd (o := .tup ys) nv
    have kv := upd_same (H := H2) (a := v) (o := .tup ys)
    have hYv := hY.mono (s2.trans sv)
    have s3 := (s1.trans s2).trans sv
    have hd3 := sv _ _ hd2
    have hn3 := sv _ _ (s2 _ _ hn)
    generalize L2.upd H2 v (.tup ys) = H3 at sv kv hYv s3 hd3 hn3 ⊢
    refine ⟨v, _, rfl, dp_T1 (sqt kv) hYv, shC.r.1, shC.r.2.1, shC.r.2.2.1, shC.r.2.2.2, rfl, ?_⟩
    refine ⟨_, rfl, ite_eq false (by rw [decide_eq_true rfl]; rfl) (iteF ?_)⟩
    have hY3 := hYv
    clear hd2 hYv kv sv ku hU nu nv s2
    refine ⟨_, rfl, a, ks, ts, rfl, hTab.mono s3, by omega, by omega, fun H4 u us s4 nu ku hU => ?_⟩
    have hd4 := s4 _ _ hd3
    refine ⟨_, rfl, d, ys, rfl, .inl ⟨.inl (.inl hd4), fun v nv => ?_⟩⟩
    have sv := same_upd (o := .tup ys) nv
    have kv := upd_same (H := H4) (a := v) (o := .tup ys)
    have hY5 := hY3.mono (s4.trans sv)
    have hU5 := hU.mono sv
    have ku5 := sv _ _ ku
    have s5 := (s3.trans s4).trans sv
    have hd5 := sv _ _ hd4
    have hn5 := sv _ _ (s4 _ _ hn3)
    generalize L2.upd H4 v (.tup ys) = H5 at sv kv hY5 hU5 ku5 s5 hd5 hn5 ⊢
    refine ⟨_, _, dp_T1 (sqt ku5) hU5, dp_T1 (sqt kv) hY5, pC, pC, _, rfl, ?_⟩
    rw [eC]
    refine iteF ?_
    clear hd4 hU hU5 ku5 ku kv sv nu nv s4 s3 hd3 hn3 hY3 hd hn hY hr1 s1
    -- the numbers
    generalize hnv : (List.range ks.length).map (fun j => numV (classesL ts ks.length) ((j : Nat) : Int)) = nv at hn5
    have nvI : ∀ v ∈ nv, IntV v := fun v hv => by
      rw [← hnv] at hv
      obtain ⟨j, _, rfl⟩ := List.mem_map.mp hv
      exact nI _
    have lnv : nv.length = ks.length := by rw [← hnv, List.length_map, List.length_range]
    have shN : Shn (.tuple (nv.map vD)) 1 ((25 + 2) * 12 + 2) := shn_tup (k := 0) (B := 25) (fun d hd => by
      obtain ⟨v, hv, rfl⟩ := List.mem_map.mp hd
      exact shn_v (nvI v hv)) (by rw [List.length_map]; omega)
    have gdN : Gd 1 (.tuple (nv.map vD)) := gd_tup fun d hd => by
      obtain ⟨v, hv, rfl⟩ := List.mem_map.mp hd
      exact gd_v (nvI v hv)
    have eN : PyData.eqv (.tuple (nv.map vD)) (.tuple (nv.map vD)) = true := SeqAt.eqv_refl _ gdN.1
    have pN := gdN.shaped (by decide)
    refine ⟨_, rfl, a, ks, ts, rfl, hTab.mono s5, by omega, by omega, fun H6 u s6 nu ku => ?_⟩
    rw [hnv] at ku
    refine ⟨u, _, rfl, .tup (sqt ku) (dp_vs nvI), shN.r.1, shN.r.2.1, shN.r.2.2.1, shN.r.2.2.2, ?_⟩
    refine ⟨_, rfl, n, nv, rfl, .inl ⟨.inl (.inl (s6 _ _ hn5)), fun v nv2 => ?_⟩⟩
    have s7 := s6.trans (same_upd (o := .tup nv) nv2)
    refine ⟨v, _, rfl, .tup (sqt upd_same) (dp_vs nvI), shN.r.1, shN.r.2.1, shN.r.2.2.1, shN.r.2.2.2, rfl, ?_⟩
    refine ⟨_, rfl, ite_eq false (by rw [decide_eq_true rfl]; rfl) (iteF ?_)⟩
    generalize L2.upd H6 v (.tup nv) = H7 at s7 ⊢
    clear ku nu s6 nv2
    refine ⟨_, rfl, a, ks, ts, rfl, hTab.mono (s5.trans s7), by omega, by omega, fun H8 u s8 nu ku => ?_⟩
    rw [hnv] at ku
    refine ⟨_, rfl, n, nv, rfl, .inl ⟨.inl (.inl ((s7.trans s8) _ _ hn5)), fun v nv2 => ?_⟩⟩
    have sv := same_upd (o := .tup nv) nv2
    refine ⟨_, _, .tup (sqt (sv _ _ ku)) (dp_vs nvI), .tup (sqt upd_same) (dp_vs nvI), pN, pN, _, rfl, ?_⟩
    rw [eN]
    refine iteF ?_
    have s9 := (s7.trans s8).trans sv
    generalize L2.upd H8 v (.tup nv) = H9 at s9 ⊢
    clear ku nu s8 s7 nv2 sv
    -- each kind
    have tab9 := hTab.mono (s5.trans s9)
    have hS9 := seqT (s5.trans s9) hS
    have hT9 := hT.mono (s5.trans s9)
    have hK9 := seqT (s5.trans s9) hK
    have hn9 := s9 _ _ hn5
    have hd9 := s9 _ _ hd5
    have hY9 := hY5.mono s9
    have s09 := s5.trans s9
    clear hn5 hd5 hY5 s9 s5
    refine ⟨fun σ H' => (∃ y5 y6 y7 : Option V, σ = [some (.ref a), some (.ref k), some (.ref t), some (.ref d), some (.ref n), y5, y6, y7, none, none, none]) ∧ Same H9 H', ?_, ?_⟩
    · refine ⟨_, rfl, k, ks.map V.str, rfl, .inr hK9, _, rfl, by omega, by rw [List.length_map]; omega, ?_⟩
      rw [List.length_map]
      refine for_it (walk_range (lo := 0) (n := ((ks.length : Nat) : Int).toNat)) (fun i σ H' => (∃ y5 y6 y7 : Option V, σ = [some (.ref a), some (.ref k), some (.ref t), some (.ref d), some (.ref n), y5, y6, y7, none, none, none]) ∧ Same H9 H') ⟨⟨_, _, _, rfl⟩, Same.refl _⟩ (fun _ _ _ _ _ => trivial) ?_ ?_
      · rintro i x σ H10 H11 hi ⟨⟨y5, y6, y7, rfl⟩, s10⟩ ⟨rfl, rfl⟩
        have hi2 : i < ks.length := by have : i < ((ks.length : Nat) : Int).toNat := hi; omega
        have z1 : (0 : Int) + (i : Nat) = ((i : Nat) : Int) := Int.zero_add _
        show gName 5 (V.int ((0 : Int) + ((i : Nat) : Int))) _ _ _
        rw [z1]
        refine ⟨_, rfl, t, xs, rfl, .inr (seqT s10 hS9), _, rfl, by omega, by omega, fun L nL => ?_⟩
        refine lc_it (walk_range (lo := 0) (n := ((xs.length : Nat) : Int).toNat)) (fun j H' => Same H11 H' ∧ H' L = some (.lst ((twF ts (i : Int) j).map V.int))) ⟨same_upd nL, upd_same⟩ (fun _ _ _ _ => trivial) ?_ ?_
        · rintro j x H12 H13 hj ⟨s12, kL⟩ ⟨rfl, rfl⟩
          have hj2 : j < xs.length := by have : j < ((xs.length : Nat) : Int).toNat := hj; omega
          have ex : xs[j]? = some xs[j] := List.getElem?_eq_getElem hj2
          obtain ⟨tc, c, e1, ec, hc⟩ := hT9.get ex
          rw [e1] at ex
          have z2 : (0 : Int) + (j : Nat) = ((j : Nat) : Int) := Int.zero_add _
          have sA := s10.trans s12
          refine ⟨rfl, _, rfl, _, rfl, _, rfl, t, xs, _, _, rfl, rfl, seqT sA hS9, by rw [z2]; exact atI_nat ex, tc, c.map V.int, rfl, .inr (seqT sA hc), rfl, CK.flat_ints c, _, rfl, ?_⟩
          rw [inV_ints]
          cases hk : c.contains ((i : Nat) : Int) with
          | true =>
            refine iteT ⟨_, rfl, _, kL, ?_, HD.same_put s12 nL, ?_⟩
            · have := twF_len ts (i : Int) j
              rw [List.length_map]
              omega
            · rw [upd_same, twF_yes ec hk]
              show some (HO.lst ((twF ts (i : Int) j).map V.int ++ [V.int ((0 : Int) + (j : Nat))])) = _
              rw [z2, List.map_append]
              rfl
          | false =>
            refine iteF ⟨s12, ?_⟩
            rw [twF_no ec hk]
            exact kL
        rintro H12 ⟨s12, kL⟩
        have ef : twF ts (i : Int) (((xs.length : Nat) : Int).toNat) = totsWith ts (i : Int) := by
          show twF ts (i : Int) _ = twF ts ((i : Nat) : Int) ts.length
          rw [← lx, Int.toNat_natCast]
        rw [ef] at kL
        have twl : (totsWith ts (i : Int)).length ≤ ts.length := twF_len ts (i : Int) ts.length
        have twm : ∀ x ∈ totsWith ts (i : Int), x.natAbs < 2 ^ 24 := fun x hx => by
          have hx : x ∈ twF ts (i : Int) ts.length := hx
          unfold twF at hx
          obtain ⟨j, hj, rfl⟩ := List.mem_map.mp hx
          have := List.mem_range.mp (List.mem_filter.mp hj).1
          have : (2 : Nat) ^ 24 = 16777216 := by decide
          omega
        generalize hw : totsWith ts (i : Int) = w12 at kL twl twm
        have shW : Shn (dI w12) 1 326 := shn_dI (n := 12) twm (by omega)
        have eW : PyData.eqv (dI w12) (dI w12) = true := SeqAt.eqv_refl _ (gd_dI w12).1
        have pW := (gd_dI w12).shaped (by decide)
        refine ⟨L, _, rfl, .inl ⟨.inl (.inl kL), fun u nu => ?_⟩⟩
        have s13 := s12.trans (same_upd (o := .tup (w12.map V.int)) nu)
        have ku := upd_same (H := H12) (a := u) (o := .tup (w12.map V.int))
        generalize L2.upd H12 u (.tup (w12.map V.int)) = H13 at s13 ku ⊢
        have s14 := s10.trans s13
        clear kL nL s12 nu ef s13
        -- the totals of the kind
        refine ⟨_, rfl, _, rfl, a, ks, ts, (i : Int), rfl, tab9.mono s14, by omega, fun H14 v s15 nv1 kv => ?_⟩
        rw [hw] at kv
        refine ⟨v, _, rfl, dp_I (sqt kv), shW.r.1, shW.r.2.1, shW.r.2.2.1, shW.r.2.2.2, ?_⟩
        refine ⟨_, rfl, u, _, rfl, dp_I (sqt (s15 _ _ ku)), shW.r.1, shW.r.2.1, shW.r.2.2.1, shW.r.2.2.2, rfl, ?_⟩
        refine ⟨_, rfl, ite_eq false (by rw [decide_eq_true rfl]; rfl) (iteF ?_)⟩
        have ku2 := s15 _ _ ku
        have s16 := s14.trans s15
        refine ⟨_, rfl, _, rfl, a, ks, ts, (i : Int), rfl, tab9.mono s16, by omega, fun H15 v2 s17 nv2 kv2 => ?_⟩
        rw [hw] at kv2
        refine ⟨_, rfl, _, _, dp_I (sqt kv2), dp_I (sqt (s17 _ _ ku2)), pW, pW, _, rfl, ?_⟩
        rw [eW]
        refine iteF ?_
        have s18 := s16.trans s17
        clear kv kv2 ku ku2 nv1 nv2 s15 s16 s17 s14
        -- its class
        have env : nv[i]? = some (numV (classesL ts ks.length) (i : Int)) := by
          rw [← hnv, List.getElem?_map, List.getElem?_range hi2]
          rfl
        refine ⟨_, rfl, _, rfl, a, ks, ts, i, rfl, tab9.mono s18, by omega, by omega, hi2, fun H16 s19 => ?_⟩
        refine ⟨_, rfl, nI _, ?_⟩
        refine ⟨_, rfl, _, rfl, n, _, _, _, rfl, rfl, .inl (.inl ((s18.trans s19) _ _ hn9)), atI_nat env, _, rfl, nI _, rfl, ?_⟩
        refine ⟨_, rfl, ite_eq false (by rw [decide_eq_true rfl]; rfl) (iteF ?_)⟩
        refine ⟨_, rfl, _, rfl, a, ks, ts, i, rfl, tab9.mono (s18.trans s19), by omega, by omega, hi2, fun H17 s20 => ?_⟩
        have sA := (s18.trans s19).trans s20
        refine ⟨_, rfl, _, rfl, n, _, _, _, rfl, rfl, .inl (.inl (sA _ _ hn9)), atI_nat env, ?_, _, rfl, ?_⟩
        · rcases nI (i : Int) with ⟨z, e, _⟩ | e
          · rw [e]; rfl
          · rw [e]; rfl
        · rw [show (!decide (numV (classesL ts ks.length) (i : Int) = numV (classesL ts ks.length) (i : Int))) = false from by rw [decide_eq_true rfl]; rfl]
          exact iteF ⟨⟨_, _, _, rfl⟩, sA⟩
      · rintro σ H10 ⟨⟨y5, y6, y7, rfl⟩, s10⟩
        exact ⟨⟨_, _, _, rfl⟩, s10⟩
    rintro σ H10 ⟨⟨y5, y6, y7, rfl⟩, s10⟩
    have s010 := s09.trans s10
    have hS10 := seqT s10 hS9
    have hT10 := hT9.mono s10
    have hd10 := s10 _ _ hd9
    have hY10 := hY9.mono s10
    clear hn9 hd9 hY9 hS9 hT9 hK9 tab9 nvI shN gdN eN pN
    have lcs := hY10.len
    generalize hcs : classesL ts ks.length = cs at *
    refine ⟨by show 0 ≤ sizeLine; exact Nat.zero_le _, fun Lt nLt => ?_⟩
    have sL := same_upd (o := .lst []) nLt
    have kLt := upd_same (H := H10) (a := Lt) (o := .lst [])
    generalize L2.upd H10 Lt (.lst []) = H11 at sL kLt ⊢
    refine ⟨fun σ H' => (∃ y5 y6 y7 y9 y10 : Option V, σ = [some (.ref a), some (.ref k), some (.ref t), some (.ref d), some (.ref n), y5, y6, y7, some (.ref Lt), y9, y10]) ∧ Same H10 H' ∧ ∃ zs, H' Lt = some (.lst zs) ∧ Tots K H' zs (ts.map fun c => rowC cs c cs.length), ?_, ?_⟩
    · refine ⟨_, rfl, t, rfl, ⟨_, seqT sL hS10⟩, ?_⟩
      refine for_it (walk_tup (K := K) (a := t) (xs := xs)) (fun i σ H' => (∃ y5 y6 y7 y9 y10 : Option V, σ = [some (.ref a), some (.ref k), some (.ref t), some (.ref d), some (.ref n), y5, y6, y7, some (.ref Lt), y9, y10]) ∧ Same H10 H' ∧ ∃ zs, H' Lt = some (.lst zs) ∧ Tots K H' zs ((ts.take i).map fun c => rowC cs c cs.length)) ⟨⟨_, _, _, _, _, rfl⟩, sL, [], kLt, trivial⟩ (fun i σ H' _ h => seqT h.2.1 hS10) ?_ ?_
      · rintro i x σ H12 H13 hi ⟨⟨y5, y6, y7, y9, y10, rfl⟩, s12, zs, kz, hZ⟩ ⟨rfl, ex⟩
        obtain ⟨tc, c, rfl, ec, hc0⟩ := hT10.get ex
        have hcm := List.mem_of_getElem? ec
        have okc := ok.lots c hcm
        have hc12 := seqT s12 hc0
        have lz := hZ.len
        rw [List.length_map, List.length_take] at lz
        -- its classes
        refine ⟨_, rfl, .inl ⟨rfl, _, .inl (.inl kz)⟩, _, rfl, d, ys, rfl, .inl (.inl (.inl (s12 _ _ hd10))), _, rfl, by omega, by omega, fun L nL => ?_⟩
        refine lc_it (walk_range (lo := 0) (n := ((ys.length : Nat) : Int).toNat)) (fun j H' => Same H13 H' ∧ H' L = some (.lst ((rowC cs c j).map V.int))) ⟨same_upd nL, upd_same⟩ (fun _ _ _ _ => trivial) ?_ ?_
        · rintro j x H14 H15 hj ⟨s14, kL⟩ ⟨rfl, rfl⟩
          have hj2 : j < ys.length := by have : j < ((ys.length : Nat) : Int).toNat := hj; omega
          have ey : ys[j]? = some ys[j] := List.getElem?_eq_getElem hj2
          obtain ⟨tl, cl, e1, ecl, hcl⟩ := hY10.get ey
          rw [e1] at ey
          have z2 : (0 : Int) + (j : Nat) = ((j : Nat) : Int) := Int.zero_add _
          have sA := s12.trans s14
          have hcl2 := seqT sA hcl
          refine ⟨rfl, _, rfl, _, rfl, d, ys, _, _, rfl, rfl, .inl (.inl (sA _ _ hd10)), by rw [z2]; exact atI_nat ey, tl, rfl, ⟨_, hcl2⟩, fun B nB => ?_⟩
          refine lc_it (walk_tup (K := K) (a := tl) (xs := cl.map V.int)) (fun q H' => Same H15 H' ∧ H' B = some (.lst (((cl.map fun k => c.contains k).take q).map V.bl))) ⟨same_upd nB, upd_same⟩ (fun q H' _ h => seqT h.1 hcl2) ?_ ?_
          · rintro q x H16 H17 hq ⟨s16, kB⟩ ⟨rfl, ex2⟩
            rw [List.getElem?_map] at ex2
            obtain ⟨z, ez, rfl⟩ := Option.map_eq_some_iff.mp ex2
            refine ⟨rfl, _, rfl, _, rfl, tc, c.map V.int, rfl, .inr (seqT (sA.trans s16) hc0), rfl, CK.flat_ints c, _, kB, ?_, HD.same_put s16 nB, ?_⟩
            · rw [List.length_map, List.length_take, List.length_map]
              have := cl2 cl (List.mem_of_getElem? ecl)
              omega
            · rw [upd_same, List.take_add_one, List.getElem?_map, ez, List.map_append, inV_ints]
              rfl
          · rintro H16 ⟨s16, kB⟩
            rw [List.take_of_length_le (by rw [List.length_map, List.length_map]; exact Nat.le_refl _)] at kB
            refine ⟨B, _, rfl, .inl (.inl kB), _, rfl, ?_⟩
            have em : (cl.map fun k => c.contains k).any id = meet c cl := by
              unfold meet
              rw [List.any_map]
              rfl
            rw [em]
            have s15 := s14.trans s16
            cases hm : meet c cl with
            | true =>
              refine iteT ⟨_, rfl, _, s16 _ _ kL, ?_, HD.same_put s15 nL, ?_⟩
              · have := rowC_len cs c j
                rw [List.length_map]
                omega
              · rw [upd_same, rowC_yes ecl hm]
                show some (HO.lst ((rowC cs c j).map V.int ++ [V.int ((0 : Int) + (j : Nat))])) = _
                rw [z2, List.map_append]
                rfl
            | false =>
              refine iteF ⟨s15, ?_⟩
              rw [rowC_no ecl hm]
              exact s16 _ _ kL
        rintro H14 ⟨s14, kL⟩
        rw [Int.toNat_natCast, lcs] at kL
        have rl := rowC_len cs c cs.length
        have rm := fun x => rowC_mem (cs := cs) (c := c) (x := x) (i := cs.length)
        have flat := rowC_flat c cs
        have whole := whole_tot (n := ks.length) hcm okc
        rw [hcs] at whole
        generalize hrw : rowC cs c cs.length = rw12 at kL rl rm flat
        refine ⟨L, _, rfl, .inl ⟨.inl (.inl kL), fun u nu => ?_⟩⟩
        have s15 := s14.trans (same_upd (o := .tup (rw12.map V.int)) nu)
        have ku := upd_same (H := H14) (a := u) (o := .tup (rw12.map V.int))
        generalize L2.upd H14 u (.tup (rw12.map V.int)) = H15 at s15 ku ⊢
        have kz15 := s15 _ _ kz
        have nLt10 : H10 Lt = none := nLt
        refine ⟨Lt, _, _, rfl, rfl, kz15, by omega, ?_⟩
        have sM : Same H10 (L2.upd H15 Lt (.lst (zs ++ [.ref u]))) := HD.same_put (s12.trans s15) nLt10
        have kzM := upd_same (H := H15) (a := Lt) (o := .lst (zs ++ [.ref u]))
        have hZM : Tots K (L2.upd H15 Lt (.lst (zs ++ [.ref u]))) (zs ++ [.ref u]) ((ts.take (i + 1)).map fun c => rowC cs c cs.length) := by
          rw [List.take_add_one, ec, List.map_append]
          show Tots K _ _ (_ ++ [rowC cs c cs.length])
          rw [hrw]
          exact Tots.upd kz15 (Tots.snoc (sqt ku) (hZ.mono s15))
        have kuM : (L2.upd H15 Lt (.lst (zs ++ [.ref u]))) u = some (.tup (rw12.map V.int)) := by
          rw [upd_ne (fun z => by rw [z, kz15] at ku; cases ku)]
          exact ku
        generalize L2.upd H15 Lt (.lst (zs ++ [.ref u])) = H16 at sM kzM hZM kuM ⊢
        clear s15 ku kz15 kL nL s14 kz hZ lz s12 nu
        -- the whole
        refine ⟨by show 0 ≤ sizeLine; exact Nat.zero_le _, fun W nW => ?_⟩
        have sW := same_upd (o := .lst []) nW
        have kW := upd_same (H := H16) (a := W) (o := .lst [])
        generalize L2.upd H16 W (.lst []) = H17 at sW kW ⊢
        refine ⟨fun σ H' => (∃ y5 y6 : Option V, ∃ W, σ = [some (.ref a), some (.ref k), some (.ref t), some (.ref d), some (.ref n), y5, y6, y7, some (.ref Lt), some (.ref tc), some (.ref W)] ∧ H' W = some (.lst (((rw12.map fun a => cs.getD a.toNat []).flatten).map V.int))) ∧ Same H16 H', ?_, ?_⟩
        · refine ⟨_, rfl, _, rfl, Lt, _, _, _, rfl, rfl, .inl (.inl (sW _ _ kzM)), atI_last _ _, u, rfl, ⟨_, sqt (sW _ _ kuM)⟩, ?_⟩
          refine for_it (walk_tup (K := K) (a := u) (xs := rw12.map V.int)) (fun q σ H' => (∃ y5 y6 : Option V, ∃ W, σ = [some (.ref a), some (.ref k), some (.ref t), some (.ref d), some (.ref n), y5, y6, y7, some (.ref Lt), some (.ref tc), some (.ref W)] ∧ H' W = some (.lst ((((rw12.take q).map fun a => cs.getD a.toNat []).flatten).map V.int))) ∧ Same H16 H') ⟨⟨_, _, W, rfl, kW⟩, sW⟩ (fun q σ H' _ h => sqt (h.2 _ _ kuM)) ?_ ?_
          · rintro q x σ H18 H19 hq ⟨⟨y5, y6, W, rfl, kW⟩, s18⟩ ⟨rfl, ex2⟩
            rw [List.getElem?_map] at ex2
            obtain ⟨z, ez, rfl⟩ := Option.map_eq_some_iff.mp ex2
            obtain ⟨b, hb, hm, rfl⟩ := (rm z).mp (List.mem_of_getElem? ez)
            have eb : cs[b]? = some cs[b] := List.getElem?_eq_getElem hb
            have gb : cs.getD b [] = cs[b] := by rw [List.getD_eq_getElem?_getD, eb]; rfl
            have ey : ys[b]? = some ys[b] := List.getElem?_eq_getElem (by omega)
            obtain ⟨tl, cl, e1, ecl, hcl⟩ := hY10.get ey
            rw [e1] at ey
            have hcl2 := seqT (sM.trans s18) hcl
            have lcl := cl2 cl (List.mem_of_getElem? ecl)
            have tk : (rw12.take (q + 1)).map (fun a => cs.getD a.toNat []) = (rw12.take q).map (fun a => cs.getD a.toNat []) ++ [cl] := by
              rw [List.take_add_one, ez, List.map_append]
              congr 1
              show [cs.getD ((b : Nat) : Int).toNat []] = [cl]
              rw [Int.toNat_natCast, List.getD_eq_getElem?_getD, ecl]
              rfl
            have lfl : ((rw12.take q).map fun a => cs.getD a.toNat []).flatten.length ≤ 144 := by
              have key : ∀ l : List Int, (∀ x ∈ l, ∃ b : Nat, b < cs.length ∧ x = (b : Int)) → (l.map fun a => cs.getD a.toNat []).flatten.length ≤ l.length * 12 := by
                intro l
                induction l with
                | nil => intro _; exact Nat.zero_le _
                | cons x r ih =>
                  intro h
                  have i1 := ih fun y hy => h y (List.mem_cons_of_mem _ hy)
                  obtain ⟨b, hb, rfl⟩ := h x List.mem_cons_self
                  have eb : cs[b]? = some cs[b] := List.getElem?_eq_getElem hb
                  have l1 := cl2 cs[b] (List.mem_of_getElem? eb)
                  have g : cs.getD ((b : Nat) : Int).toNat [] = cs[b] := by rw [Int.toNat_natCast, List.getD_eq_getElem?_getD, eb]; rfl
                  rw [List.map_cons, List.flatten_cons, List.length_append, g, List.length_cons]
                  omega
              have := key (rw12.take q) fun x hx => by
                obtain ⟨b, hb, _, e⟩ := (rm x).mp (List.mem_of_mem_take hx)
                exact ⟨b, hb, e⟩
              have : (rw12.take q).length ≤ 12 := by rw [List.length_take]; omega
              omega
            refine ⟨_, rfl, _, rfl, _, rfl, d, ys, _, _, rfl, rfl, .inl (.inl ((sM.trans s18) _ _ hd10)), atI_nat ey, tl, _, rfl, .inr hcl2, fun l nl => ?_⟩
            have sl := same_upd (o := .lst (cl.map V.int)) nl
            refine ⟨W, l, _, _, rfl, rfl, sl _ _ kW, upd_same, by rw [List.length_map, List.length_map]; omega, fun p np => ?_⟩
            have sp := same_upd (o := .lst ((((rw12.take q).map fun a => cs.getD a.toNat []).flatten).map V.int ++ cl.map V.int)) np
            refine ⟨⟨_, _, p, rfl, ?_⟩, (s18.trans sl).trans sp⟩
            rw [upd_same, tk, List.flatten_append, List.map_append]
            simp
          · rintro σ H18 ⟨⟨y5, y6, W, rfl, kW⟩, s18⟩
            rw [List.length_map, List.take_length] at kW
            exact ⟨⟨_, _, W, rfl, kW⟩, s18⟩
        rintro σ H18 ⟨⟨y5, y6, W, rfl, kW⟩, s18⟩
        rw [flat] at kW
        have lW : (cs.filter (meet c)).flatten.length = c.length := whole.length_eq.symm
        have lc12 := lot_small okc
        refine ⟨_, rfl, W, _, rfl, .inl (.inl kW), by omega, fun ns p pm pw np => ?_⟩
        have sp := same_upd (o := .lst (ns.map V.int)) np
        refine ⟨_, rfl, tc, _, rfl, .inr (seqT ((sM.trans s18).trans sp) hc0), fun l nl => ?_⟩
        have sl := same_upd (o := .lst (c.map V.int)) nl
        have eq : ns = c := asc_perm pw okc.2.2 (pm.trans whole.symm)
        subst eq
        refine ⟨_, _, dp_ints (K := K) (.inl (.inl (sl _ _ upd_same))), dp_ints (K := K) (.inl (.inl upd_same)), shaped_ints ns, shaped_ints ns, _, rfl, ?_⟩
        rw [eqv_ints, decide_eq_true rfl]
        have sE := (s18.trans sp).trans sl
        exact iteF ⟨⟨_, _, _, _, _, rfl⟩, sM.trans sE, _, sE _ _ kzM, hZM.mono sE⟩
      · rintro σ H12 ⟨⟨y5, y6, y7, y9, y10, rfl⟩, s12, zs, kz, hZ⟩
        rw [lx, List.take_length] at hZ
        exact ⟨⟨_, _, _, _, _, rfl⟩, s12, zs, kz, hZ⟩
    rintro σ H12 ⟨⟨y5, y6, y7, y9, y10, rfl⟩, s12, zs, kz, hZ⟩
    have rowsT : Tots K H12 zs (ts.map fun c => rowC cs c cs.length) := hZ
    have s012 := s010.trans s12
    have shR : Shn (dT1 (ts.map fun c => rowC cs c cs.length)) 2 ((326 + 2) * 12 + 2) := shn_dT1 (by rw [List.length_map]; exact l12) fun l hl => by
      obtain ⟨c, hc, rfl⟩ := List.mem_map.mp hl
      have := rowC_len cs c cs.length
      refine ⟨by omega, fun x hx => ?_⟩
      obtain ⟨b, hb, _, e⟩ := rowC_mem.mp hx
      exact ⟨b, by omega, e⟩
    generalize (ts.map fun c => rowC cs c cs.length) = rows12 at rows rowsT shR
    have eR := eqv_T1 rows12
    have pR := shp_T1 rows12
    refine ⟨_, rfl, a, ks, ts, rfl, hTab.mono s012, by omega, by omega, ok.low, fun H13 u us ls s13 ku hU by_ => ?_⟩
    have e := ByCls.uniq by_ rows
    subst e
    refine ⟨u, _, rfl, dp_T1 (sqt ku) hU, shR.r.1, shR.r.2.1, shR.r.2.2.1, shR.r.2.2.2, ?_⟩
    refine ⟨_, rfl, Lt, zs, rfl, .inl ⟨.inl (.inl (s13 _ _ kz)), fun v nv2 => ?_⟩⟩
    have sv := same_upd (o := .tup zs) nv2
    refine ⟨v, _, rfl, dp_T1 (sqt upd_same) (rowsT.mono (s13.trans sv)), shR.r.1, shR.r.2.1, shR.r.2.2.1, shR.r.2.2.2, rfl, ?_⟩
    refine ⟨_, rfl, ite_eq true (decide_eq_true rfl) (iteT ?_)⟩
    have s14 := s13.trans sv
    generalize L2.upd H13 v (.tup zs) = H14 at s14 ⊢
    clear ku hU nv2 s13 sv
    refine ⟨_, rfl, a, ks, ts, rfl, hTab.mono (s012.trans s14), by omega, by omega, ok.low, fun H15 u us ms s15 ku hU by2 => ?_⟩
    have e := ByCls.uniq by2 by_
    subst e
    refine ⟨_, rfl, Lt, zs, rfl, .inl ⟨.inl (.inl ((s14.trans s15) _ _ kz)), fun v nv2 => ?_⟩⟩
    have sv := same_upd (o := .tup zs) nv2
    refine ⟨_, _, dp_T1 (sqt (sv _ _ ku)) (hU.mono sv), dp_T1 (sqt upd_same) (rowsT.mono ((s14.trans s15).trans sv)), pR, pR, ?_⟩
    rw [eR]
    exact fin _ ((s012.trans s14).trans (s15.trans sv))
end
end K03
namespace CK
open PySem PySem.Spec PyProof.Rows L2 VG FR HD
theorem pick_asc (P : Nat → Bool) (n : Nat) : (pick P n).Pairwise (· < ·) := by
  unfold pick
  refine List.pairwise_map.mpr ?_
  have h : (List.range n).Pairwise (· < ·) := List.pairwise_lt_range
  exact (List.Pairwise.filter _ h).imp fun z => by omega
theorem keys_inj {f : Nat → List Int} {m : Nat} (inj : ∀ i j, i < m → j < m → f i = f j → i = j) : ∀ n, n ≤ m → keysOf f n = (List.range n).map f
  | 0, _ => rfl
  | n + 1, h => by
    have ih := keys_inj inj n (by omega)
    unfold keysOf
    have no : f n ∉ keysOf f n := fun z => by
      obtain ⟨j, hj, e⟩ := keys_from f z
      have := inj j n (by omega) (by omega) e
      omega
    rw [if_neg no, ih, List.range_succ, List.map_append]
    rfl
theorem cls_single {os : List (List Int)} {m : Nat} (ne : ∀ a, a < m → fT os a ≠ []) (inj : ∀ i j, i < m → j < m → fT os i = fT os j → i = j) : classesL os m = (List.range m).map fun (j : Nat) => [(j : Int)] := by
  unfold classesL
  rw [keys_inj inj m (Nat.le_refl _)]
  have e1 : ((List.range m).map (fT os)).filter (fun c => !c.isEmpty) = (List.range m).map (fT os) := by
    rw [List.filter_eq_self]
    intro c hc
    obtain ⟨j, hj, rfl⟩ := List.mem_map.mp hc
    have := ne j (List.mem_range.mp hj)
    cases h : fT os j with
    | nil => exact absurd h this
    | cons _ _ => rfl
  rw [e1, List.map_map]
  refine List.map_congr_left fun j hj => ?_
  have jm := List.mem_range.mp hj
  refine ascI_uniq (pick_asc _ _) (List.pairwise_singleton _ _) fun x => ?_
  show x ∈ pick (memb (fT os) (fT os j)) m ↔ x ∈ [(j : Int)]
  rw [mem_pick, List.mem_singleton]
  constructor
  · rintro ⟨i, h1, h2, h3⟩
    have := inj i j h1 jm (of_decide_eq_true h2)
    omega
  · intro e
    exact ⟨j, jm, decide_eq_true rfl, e⟩
theorem tw_mem {ts : List (List Int)} {k x : Int} : x ∈ totsWith ts k ↔ ∃ (t : Nat) (c : List Int), ts[t]? = some c ∧ k ∈ c ∧ x = (t : Int) := by
  constructor
  · intro h
    have h : x ∈ twF ts k ts.length := h
    unfold twF at h
    obtain ⟨t, ht, rfl⟩ := List.mem_map.mp h
    obtain ⟨h1, h2⟩ := List.mem_filter.mp ht
    have lt := List.mem_range.mp h1
    have e : ts[t]? = some ts[t] := List.getElem?_eq_getElem lt
    have g : ts.getD t [] = ts[t] := by rw [List.getD_eq_getElem?_getD, e]; rfl
    rw [g] at h2
    exact ⟨t, _, e, List.contains_iff_mem.mp h2, rfl⟩
  · rintro ⟨t, c, e, hk, rfl⟩
    exact (mem_tw e).mpr (List.contains_iff_mem.mpr hk)
theorem tw_asc (ts : List (List Int)) (k : Int) : (totsWith ts k).Pairwise (· < ·) := by
  show (twF ts k ts.length).Pairwise (· < ·)
  unfold twF
  refine List.pairwise_map.mpr ?_
  have h : (List.range ts.length).Pairwise (· < ·) := List.pairwise_lt_range
  exact (List.Pairwise.filter _ h).imp fun z => by omega
/-- a class by its head -/
theorem cls_sign {ts : List (List Int)} {n a : Nat} {cl : List Int} (ha : (classesL ts n)[a]? = some cl) : ∃ j : Nat, headI cl = (j : Int) ∧ j < n ∧ (sgL (fT ts) n)[a]? = some (fT ts j) ∧ fT ts j ≠ [] := by
  have hm := headI_mem (cls_ne cl (List.mem_of_getElem? ha))
  rw [classes_eq, List.getElem?_map] at ha
  obtain ⟨sg, es, rfl⟩ := Option.map_eq_some_iff.mp ha
  obtain ⟨j, h1, h2, h3⟩ := mem_pick.mp hm
  have e : fT ts j = sg := of_decide_eq_true h2
  exact ⟨j, h3, h1, by rw [e]; exact es, by rw [e]; exact sg_ne (List.mem_of_getElem? es)⟩
section
variable {ts ls os : List (List Int)} {n : Nat}
theorem core_row (ok : ∀ c ∈ ts, LotOk (n : Int) c) (by_ : ByCls ts n ls) {a : Nat} {cl : List Int} (ha : (classesL ts n)[a]? = some cl) {t : Nat} {c l : List Int} (ec : ts[t]? = some c) (el : ls[t]? = some l) : (a : Int) ∈ l ↔ headI cl ∈ c := by
  have hc := List.mem_of_getElem? ec
  rw [by_.rel t c l ec el, rec_iff hc (ok c hc).2.1 ha, List.contains_iff_mem]
theorem core_ne (ok : ∀ c ∈ ts, LotOk (n : Int) c) (by_ : ByCls ts n ls) (core : CoreR ls os) {a : Nat} (ha : a < (classesL ts n).length) : fT os a ≠ [] := by
  have e : (classesL ts n)[a]? = some (classesL ts n)[a] := List.getElem?_eq_getElem ha
  obtain ⟨j, ej, jn, es, ne⟩ := cls_sign e
  cases h : fT ts j with
  | nil => exact absurd h ne
  | cons x r =>
    have hx : x ∈ totsWith ts (j : Int) := by
      show x ∈ fT ts j
      rw [h]
      exact List.mem_cons_self
    obtain ⟨t, c, ec, hk, _⟩ := tw_mem.mp hx
    have lt : t < ls.length := by
      have := (List.getElem?_eq_some_iff.mp ec).1
      have := by_.len
      omega
    have el : ls[t]? = some ls[t] := List.getElem?_eq_getElem lt
    have al : (a : Int) ∈ ls[t] := (core_row ok by_ e ec el).mpr (by rw [ej]; exact hk)
    have lo : ls[t] ∈ os := (core.2 _).mpr ⟨List.mem_of_getElem? el, fun z => by rw [z] at al; cases al⟩
    obtain ⟨i, ei⟩ := List.mem_iff_getElem?.mp lo
    intro z
    have : ((i : Nat) : Int) ∈ fT os a := tw_mem.mpr ⟨i, _, ei, al, rfl⟩
    rw [z] at this
    cases this
theorem core_inj (ok : ∀ c ∈ ts, LotOk (n : Int) c) (by_ : ByCls ts n ls) (core : CoreR ls os) {a b : Nat} (ha : a < (classesL ts n).length) (hb : b < (classesL ts n).length) (h : fT os a = fT os b) : a = b := by
  have ea : (classesL ts n)[a]? = some (classesL ts n)[a] := List.getElem?_eq_getElem ha
  have eb : (classesL ts n)[b]? = some (classesL ts n)[b] := List.getElem?_eq_getElem hb
  obtain ⟨i, ei, _, si, _⟩ := cls_sign ea
  obtain ⟨j, ej, _, sj, _⟩ := cls_sign eb
  have inOs : ∀ l ∈ os, (a : Int) ∈ l ↔ (b : Int) ∈ l := fun l hl => by
    obtain ⟨q, eq⟩ := List.mem_iff_getElem?.mp hl
    have h1 := mem_tw (ts := os) (k := (a : Int)) eq
    have h2 := mem_tw (ts := os) (k := (b : Int)) eq
    rw [List.contains_iff_mem] at h1 h2
    have h : totsWith os (a : Int) = totsWith os (b : Int) := h
    rw [← h1, ← h2, h]
  have inLs : ∀ l ∈ ls, (a : Int) ∈ l ↔ (b : Int) ∈ l := fun l hl => by
    by_cases z : l = []
    · rw [z]
      exact ⟨(fun y => nomatch y), (fun y => nomatch y)⟩
    · exact inOs l ((core.2 l).mpr ⟨hl, z⟩)
  have sgn : fT ts i = fT ts j := by
    refine ascI_uniq (tw_asc ts _) (tw_asc ts _) fun x => ?_
    show x ∈ totsWith ts (i : Int) ↔ x ∈ totsWith ts (j : Int)
    rw [tw_mem, tw_mem]
    have one : ∀ (t : Nat) (c : List Int), ts[t]? = some c → ((i : Int) ∈ c ↔ (j : Int) ∈ c) := fun t c ec => by
      have lt : t < ls.length := by
        have := (List.getElem?_eq_some_iff.mp ec).1
        have := by_.len
        omega
      have el : ls[t]? = some ls[t] := List.getElem?_eq_getElem lt
      rw [← ei, ← ej, ← core_row ok by_ ea ec el, ← core_row ok by_ eb ec el]
      exact inLs _ (List.mem_of_getElem? el)
    exact ⟨fun ⟨t, c, e1, e2, e3⟩ => ⟨t, c, e1, (one t c e1).mp e2, e3⟩, fun ⟨t, c, e1, e2, e3⟩ => ⟨t, c, e1, (one t c e1).mpr e2, e3⟩⟩
  rw [sgn] at si
  exact nodup_at (sg_nodup _ _) si sj
theorem core_single (ok : ∀ c ∈ ts, LotOk (n : Int) c) (by_ : ByCls ts n ls) (core : CoreR ls os) : classesL os (classesL ts n).length = (List.range (classesL ts n).length).map fun (j : Nat) => [(j : Int)] :=
  cls_single (fun a ha => core_ne ok by_ core ha) fun i j hi hj h => core_inj ok by_ core hi hj h
theorem byCls_self {m : Nat} (hc : classesL os m = (List.range m).map fun (j : Nat) => [(j : Int)]) (ok : ∀ c ∈ os, LotOk (m : Int) c) : ByCls os m os := by
  refine ⟨rfl, fun j c l ec el x => ?_, fun l hl => ⟨(ok l hl).1, pw_of_asc (ok l hl).2.2⟩⟩
  have e : c = l := Option.some.inj (ec.symm.trans el)
  subst e
  have okc := (ok c (List.mem_of_getElem? ec)).2.1
  have num : ∀ k ∈ c, numV (classesL os m) k = .int k := fun k hk => by
    obtain ⟨k0, k1⟩ := okc k hk
    obtain ⟨i, rfl⟩ := Int.eq_ofNat_of_zero_le k0
    rw [hc]
    refine num_of (cl := [(i : Int)]) (by rw [List.getElem?_map, List.getElem?_range (by omega)]; rfl) List.mem_cons_self fun b d hb hd => ?_
    rw [List.getElem?_map] at hb
    obtain ⟨q, eq, rfl⟩ := Option.map_eq_some_iff.mp hb
    obtain ⟨h1, h2⟩ := List.getElem?_eq_some_iff.mp eq
    rw [List.getElem_range] at h2
    have := List.mem_singleton.mp hd
    omega
  constructor
  · intro hx
    exact ⟨x, hx, num x hx⟩
  · rintro ⟨k, hk, e⟩
    rw [num k hk] at e
    injection e with e
    rw [← e]
    exact hk
theorem coreR_self (core : CoreR ls os) : CoreR os os := ⟨core.1, fun c => ⟨fun h => ⟨h, ((core.2 c).mp h).2⟩, fun h => h.1⟩⟩
theorem clsN_single (ns : List Str) : clsN ns ((List.range ns.length).map fun (j : Nat) => [(j : Int)]) = ns := by
  unfold clsN
  rw [List.map_map]
  refine List.ext_getElem? fun j => ?_
  by_cases h : j < ns.length
  · rw [List.getElem?_map, List.getElem?_range h, nameD_at h]
    rfl
  · rw [List.getElem?_eq_none (by rw [List.length_map, List.length_range]; omega), List.getElem?_eq_none (by omega)]
/-- what comes about when the core of a core is made -/
theorem core_again {ks : List Str} (ok : TabOk ks ts) (ne : classesL ts ks.length ≠ []) (by_ : ByCls ts ks.length ls) (core : CoreR ls os) :
    let ns := clsN ks (classesL ts ks.length)
    classesL os ns.length ≠ [] ∧ ByCls os ns.length os ∧ CoreR os os ∧ clsN ns (classesL os ns.length) = ns := by
  intro ns
  have ln : ns.length = (classesL ts ks.length).length := List.length_map ..
  have sg := core_single ok.lots by_ core
  have okC := core_ok (merged_ok ok ne by_) core
  have okl : ∀ c ∈ os, LotOk (ns.length : Int) c := okC.lots
  rw [ln] at okl ⊢
  refine ⟨?_, byCls_self sg okl, coreR_self core, ?_⟩
  · rw [sg]
    intro z
    have l0 := congrArg List.length z
    rw [List.length_map, List.length_range] at l0
    exact ne (List.eq_nil_of_length_eq_zero l0)
  · rw [sg, ← ln]
    exact clsN_single ns
end
end CK
namespace CK
open PySem PySem.Spec PyProof.Rows L2 VG FR HD
/-- a judge of a table that makes lambdas -/
def spJ1 (K : PySem.W.Frag) (C : Addr) (T : List (Addr × Str)) : Sp := fun vs H Q _ => ∃ (a k t : Addr) (ks : List Str) (xs : List V) (ts : List (List Int)), vs = [.ref a, .ref k, .ref t] ∧ Tab K C (offT H) a ks ts ∧ SqT K (offT H) k (ks.map V.str) ∧ SqT K (offT H) t xs ∧ Tots K (offT H) xs ts ∧ TabOk ks ts ∧ LamX.Tabs T H ∧
  ∀ H', Same (offT H) H' → LamX.Tabs T H' → Q (.bl true) H'
theorem extN_at {H H1 : Hp} (e : LamX.ExtN H H1) {b : Addr} {xs : List V} (h : H b = some (.lst xs)) : H1 b = some (.lst xs) := e b _ h fun _ z => by cases z
theorem tabs_put {T : List (Addr × Str)} {H : Hp} {D : Addr} {xs : List V} {o : HO} (t : LamX.Tabs T H) (h : H D = some (.lst xs)) : LamX.Tabs T (L2.upd H D o) := fun p hp => by
  obtain ⟨ps, h1, h2, h3⟩ := t p hp
  refine ⟨ps, ?_, h2, fun pos cv hc => ?_⟩
  · rw [upd_ne (fun z => by rw [z, h] at h1; cases h1)]
    exact h1
  · obtain ⟨c, e1, e2⟩ := h3 pos cv hc
    refine ⟨c, e1, ?_⟩
    rw [upd_ne (fun z => by rw [z, h] at e2; cases e2)]
    exact e2
theorem eqv_strs {ks : List Str} (h : ∀ z ∈ ks, PyData.strOk z = true) : SeqAt.shaped (.list (ks.map PyData.str)) = true ∧ PyData.eqv (.list (ks.map PyData.str)) (.list (ks.map PyData.str)) = true := by
  have g : Gd 1 (.list (ks.map PyData.str)) := gd_lst fun d hd => by
    obtain ⟨z, hz, rfl⟩ := List.mem_map.mp hd
    exact gd_str 0 (h z hz)
  exact ⟨g.shaped (by decide), SeqAt.eqv_refl _ g.1⟩
theorem eqvC_nil (cs : List (List Int)) : PyData.eqv (.list (cs.map dI)) (.list (([] : List Int).map PyData.int)) = decide (cs = []) := by
  cases cs with
  | nil => rfl
  | cons b r => rfl
theorem eqvT_nil (c : List Int) : PyData.eqv (dI c) (.tuple []) = decide (c = []) := by
  cases c with
  | nil => rfl
  | cons b r => rfl
theorem any_dI (c : List Int) : ∀ cs : List (List Int), (cs.map dI).any (fun z => PyData.eqv z (dI c)) = decide (c ∈ cs)
  | [] => by simp
  | d :: cs => by
    have ih := any_dI c cs
    rw [List.map_cons, List.any_cons, ih, eqv_dI]
    by_cases h : d = c
    · subst h
      simp
    · have : ¬ c = d := fun z => h z.symm
      simp [h, this]
theorem tots_pairs {K : PySem.W.Frag} {H : Hp} : ∀ {zs : List V} {ls : List (List Int)}, Tots K H zs ls → ∃ L : List (Addr × List Int), zs = L.map (fun p => V.ref p.1) ∧ L.map (·.2) = ls ∧ ∀ p ∈ L, SqT K H p.1 (p.2.map V.int)
  | [], [], _ => ⟨[], rfl, rfl, fun p h => by cases h⟩
  | v :: vs, c :: cs, ⟨⟨t, e, h⟩, r⟩ => by
    obtain ⟨L, e1, e2, e3⟩ := tots_pairs r
    refine ⟨(t, c) :: L, by rw [e, e1]; rfl, by rw [List.map_cons, e2], fun p hp => ?_⟩
    rcases List.mem_cons.mp hp with z | z
    · rw [z]
      exact h
    · exact e3 p z
/-- what once becomes -/
def OnceOf (L : List (List Int)) (os : List (List Int)) : Prop := LexAsc os ∧ ∀ c, c ∈ os ↔ c ∈ L ∧ c ≠ []
theorem OnceOf.skip {L os : List (List Int)} {c : List Int} (h : OnceOf L os) (e : c = [] ∨ c ∈ os) : OnceOf (L ++ [c]) os := by
  refine ⟨h.1, fun x => ?_⟩
  rw [h.2 x, List.mem_append]
  constructor
  · intro ⟨a, b⟩
    exact ⟨.inl a, b⟩
  · rintro ⟨a | a, b⟩
    · exact ⟨a, b⟩
    · have := List.mem_singleton.mp a
      subst this
      rcases e with e | e
      · exact absurd e b
      · exact (h.2 x).mp e
theorem OnceOf.add {L os : List (List Int)} {c : List Int} (h : OnceOf L os) (up : ∀ x ∈ L, TU.lexI c x = false) (n : c ≠ []) (no : c ∉ os) : OnceOf (L ++ [c]) (os ++ [c]) := by
  refine ⟨List.pairwise_append.mpr ⟨h.1, List.pairwise_singleton _ _, fun a ha b hb => ?_⟩, fun x => ?_⟩
  · have := List.mem_singleton.mp hb
    subst this
    cases q : TU.lexI a b with
    | true => rfl
    | false => exact absurd ((TU.lexI_total a b q (up a ((h.2 a).mp ha).1)) ▸ ha) no
  · rw [List.mem_append, List.mem_append, h.2 x]
    constructor
    · rintro (⟨a, b⟩ | a)
      · exact ⟨.inl a, b⟩
      · exact ⟨.inr a, by rw [List.mem_singleton.mp a]; exact n⟩
    · rintro ⟨a | a, b⟩
      · exact .inl ⟨a, b⟩
      · exact .inr a
end CK
namespace K03
open PySem PySem.Spec PyProof.Rows L2 VG FR CK HD
abbrev s__law_merged_right : Stmt := topS 46
abbrev N__law_merged_right : List Str := ["table", "kinds", "totals", "due", "numbers", "heard", "names", "lots", "total", "row", "kind", "once", "lot", "some"]
theorem sc__law_merged_right : FnScope N__law_merged_right ["table", "kinds", "totals"] (defScope s__law_merged_right) := ⟨rfl, rfl, rfl, by decide +kernel, rfl, by decide +kernel, by decide +kernel⟩
section
variable {P : Program} {w : World} {K : PySem.W.Frag} {mg : Str → Option Value} {base : Heap}
theorem ok__law_merged_right {f c0 Pt C R : Addr} {fd : FuncData} {T : List (Addr × Str)} (F : FunC K "_law_merged_right" "_law_merged_right" s__law_merged_right f fd c0) (TC : TabC K C)
    (hrd : Hrd K mg R) (TB : LamX.TabB base mg c0 Pt) (inT : (Pt, lamQ (("_law_merged_right" : Str) ++ ".<locals>.")) ∈ T) (oneT : ∀ p ∈ T, p.1 = Pt → p.2 = lamQ (("_law_merged_right" : Str) ++ ".<locals>."))
    (EQ : EqC P w K mg base C) (C__law_classes : Cl P w K mg base 1 "_law_classes" (spLawCls K)) (G__law_is : ClG P w K mg base 1 "_law_is" (spIs K C))
    (X_merged : ClX P w K mg base 9 "merged" (spMerged K C R)) (X_core_of : ClX P w K mg base 11 "core_of" (spCore K C R)) (C_merged : Cl P w K mg base 9 "merged" (fun vs H Q _ => spMerged K C R vs H Q E0)) (CK_merged_table : ClK P w K mg base 9 "merged" ["table"] (fun vs H Q _ => spMerged K C R vs H Q E0))
    (C_core_of : Cl P w K mg base 11 "core_of" (fun vs H Q _ => spCore K C R vs H Q E0)) (CK_core_of_table : ClK P w K mg base 11 "core_of" ["table"] (fun vs H Q _ => spCore K C R vs H Q E0))
    (z_len : mg "len" = none) (z_tuple : mg "tuple" = none) (z_sorted : mg "sorted" = none) : FnG P w K mg base 15 f fd ["table", "kinds", "totals"] (spJ1 K C T) := by
  refine fnGC_of F sc__law_merged_right (fun vs H Q E h => ?_) (fun A outer s H vs Q E hg hr h => ?_)
  · obtain ⟨_, _, _, _, _, _, rfl, _⟩ := h
    rfl
  · obtain ⟨a, k, t, ks, xs, ts, rfl, hTab, hK, hS, hT, ok, tbs, fin⟩ := h
    refine ⟨_, (pss_cons (ps_asg (pe_cl C__law_classes hr (by decide) rfl (pa_cons (pe_callB call_len_seq (by rfl) z_len (by decide +kernel) (pa_cons (pv 1) pa_nil)) (pa_cons (pv 2) pa_nil))) (pg_tup rfl (pgs_cons (pg_name (i := 3) sc__law_merged_right.nd rfl (.inl rfl)) (pgs_cons (pg_name (i := 4) sc__law_merged_right.nd rfl (.inl rfl)) pgs_nil))))
    (pss_cons (ps_if (pt_cmpR (op_eqD hr.units) (pv 3) (pe_lst pa_nil) (nomark _))
      (pss_cons (ps_set (i := 5) sc__law_merged_right.nd rfl (.inl rfl) (pe_lst (pa_cons (pe_heard (k := 9) (T := T) hrd rfl TB rfl inT oneT (hr.mono (by decide)) (show LamX.LamS (defScope s__law_merged_right) _ from LamX.lamS_by (by decide +kernel)) rfl (fun _ _ _ _ _ => rfl) (fun A2 outer2 s2 H2 E2 f2 c2 hr2 => pe_clx X_merged hr2 (by decide) (takes_of (E := E2) rfl rfl rfl rfl) rfl (pa_cons (pv 0) pa_nil))) pa_nil)))
      (pss_cons (ps_expr (pe_bm PySem.F.plainAttrs_list PySem.F.slot_list_append PySem.F.type_list_append mt_append (pv 5) (pa_cons (pe_heard (k := 11) (T := T) hrd rfl TB rfl inT oneT (hr.mono (by decide)) (show LamX.LamS (defScope s__law_merged_right) _ from LamX.lamS_by (by decide +kernel)) rfl (fun _ _ _ _ _ => rfl) (fun A2 outer2 s2 H2 E2 f2 c2 hr2 => pe_clx X_core_of hr2 (by decide) (takes_of (E := E2) rfl rfl rfl rfl) rfl (pa_cons (pv 0) pa_nil))) pa_nil)))
      (pss_one (ps_ret (pe_cmpR (op_eqD hr.units) (pv 5) (pe_lst (pa_cons pe_str (pa_cons pe_str pa_nil))) (nomark _))))))
      pss_nil)
    (pss_cons (ps_par (i := 6) (j := 7) (by rfl) sc__law_merged_right.nd rfl rfl (by decide) rfl rfl (pa_cons (pe_lc (own := [("some", 13)]) (by rfl) sc__law_merged_right.nd (pi_list (pv 3)) (blkOk_by (own := [("some", 13)]) (N := N__law_merged_right) (sc := defScope s__law_merged_right) (by decide +kernel)) (fun _ _ _ _ _ => (pg_name (i := 13) sc__law_merged_right.nd rfl (.inl rfl))) (fun _ _ _ _ _ => pts_nil) (fun _ _ _ _ _ => (pe_ix (show IxR _ (rIxT K) from ix_tup) (pv 1) (pe_ix (show IxR _ (rIxT K) from ix_tup) (pv 13) pe_int (fun _ _ => rfl)) (fun _ _ => rfl)))) (pa_cons (pe_lst pa_nil) pa_nil)) (by rfl))
    (pss_cut (ps_for PassesOwn.never rfl (pi_tup (pv 2)) (pg_name (i := 8) sc__law_merged_right.nd rfl (.inl rfl))
      (pss_cons (ps_set (i := 9) sc__law_merged_right.nd rfl (.inl rfl) (pe_lst pa_nil))
      (pss_cut (ps_for PassesOwn.never rfl (pi_tup (pv 8)) (pg_name (i := 10) sc__law_merged_right.nd rfl (.inl rfl))
        (pss_one (ps_set (i := 9) sc__law_merged_right.nd rfl (.inl rfl) (pe_ifExp (pt_cmpR op_notIn_seq (pe_ix ix_list (pv 4) (pv 10) (fun _ _ => rfl)) (pv 9) rfl) (pe_op op_cat (pv 9) (pe_lst (pa_cons (pe_ix ix_list (pv 4) (pv 10) (fun _ _ => rfl)) pa_nil))) (pv 9)))))
      (pss_one (ps_expr (pe_bm PySem.F.plainAttrs_list PySem.F.slot_list_append PySem.F.type_list_append mt_append (pv 7) (pa_cons (pe_callTy call_tuple_of (by rfl) z_tuple (by decide +kernel) (pa_cons (pe_callB cr_sorted (by rfl) z_sorted (by decide +kernel) (pa_cons (pv 9) pa_nil)) pa_nil)) pa_nil)))))))
    (pss_cons (ps_if (PW.pt (pw_or (pt_not (pt_val (pe_clg G__law_is hg hr (by decide) rfl (pa_cons (pe_cl C_merged hr (by decide) rfl (pa_cons (pv 0) pa_nil)) (pa_cons (pv 6) (pa_cons (pv 7) pa_nil)))))) (pw_or1 (pt_not (pt_cmpR (op_eqTab EQ (hr.mono (by decide))) (pe_clk0 CK_merged_table hr (by decide) rfl (pk_cons (pv 0) pk_nil)) (pe_cl C_merged hr (by decide) rfl (pa_cons (pv 0) pa_nil)) (nomark _))))))
      (pss_one (ps_ret pe_bl))
      pss_nil)
    (pss_cons (ps_set (i := 11) sc__law_merged_right.nd rfl (.inl rfl) (pe_lst pa_nil))
    (pss_cut (ps_for PassesOwn.never rfl (pi_list (pe_callB (cr_sortLU (Nat.lt_of_le_of_lt (Nat.add_le_add_left (by decide) _) hr.units)) (by rfl) z_sorted (by decide +kernel) (pa_cons (pv 7) pa_nil))) (pg_name (i := 12) sc__law_merged_right.nd rfl (.inl rfl))
      (pss_one (ps_set (i := 11) sc__law_merged_right.nd rfl (.inl rfl) (pe_ifExp (PW.pt (pw_and (pt_cmpR (op_neD hr.units) (pv 12) (pe_tup pa_nil) (nomark _)) (pw_and1 (pt_cmpR (op_notInD (units65 hr)) (pv 12) (pv 11) rfl)))) (pe_op op_cat (pv 11) (pe_lst (pa_cons (pv 12) pa_nil))) (pv 11)))))
    (pss_one (ps_ret (pe_and (pe_clg G__law_is hg hr (by decide) rfl (pa_cons (pe_cl C_core_of hr (by decide) rfl (pa_cons (pv 0) pa_nil)) (pa_cons (pv 6) (pa_cons (pv 11) pa_nil)))) (pe_and (pe_cmpR (op_eqTab EQ (hr.mono (by decide))) (pe_clk0 CK_core_of_table hr (by decide) rfl (pk_cons (pv 0) pk_nil)) (pe_cl C_core_of hr (by decide) rfl (pa_cons (pv 0) pa_nil)) (nomark _)) (pe_one (pe_cmpR (op_eqTab EQ (hr.mono (by decide))) (pe_cl C_core_of hr (by decide) rfl (pa_cons (pe_cl C_core_of hr (by decide) rfl (pa_cons (pv 0) pa_nil)) pa_nil)) (pe_cl C_core_of hr (by decide) rfl (pa_cons (pv 0) pa_nil)) (nomark _)))))))))))))), ?_⟩
    have big : sizeLine = 16777216 := by decide
    have n12 := ok.kinds.2.1
    have l12 := ok.len
    have lx := hT.len
    have ⟨cl1, cl2⟩ := classes_len ts ks.length
    have nG := offT_no H
    have s0 := offT_same H
    generalize offT H = G at hTab hK hS hT fin nG s0
    -- the law's own classes
    refine ⟨_, rfl, k, ks.map V.str, rfl, .inr (seqT s0 hK), _, rfl, t, ks.length, xs, ts, by rw [List.length_map]; rfl, seqT s0 hS, hT.mono s0, l12, n12, fun H1 r d n ys s1 hr1 hd hY hn => ?_⟩
    refine ⟨r, _, rfl, sqt hr1, rfl, _, _, rfl, _, _, rfl, rfl, ?_⟩
    refine ⟨_, rfl, by show 0 ≤ sizeLine; exact Nat.zero_le _, fun Z nZ => ?_⟩
    have sZ := same_upd (o := .lst []) nZ
    have kZ := upd_same (H := H1) (a := Z) (o := .lst [])
    have s2 := (s0.trans s1).trans sZ
    have tb2 := tabs_same (tabs_same tbs s1) sZ
    have hd2 := sZ _ _ hd
    have hn2 := sZ _ _ hn
    have hY2 := hY.mono sZ
    generalize L2.upd H1 Z (.lst []) = H2 at kZ s2 tb2 hd2 hn2 hY2 ⊢
    refine ⟨_, _, .lst (.inl (.inl hd2)) (dpAll_tots hY2), dp_ints (K := K) (cs := []) (.inl (.inl kZ)), shaped_tots _, shaped_nil, _, rfl, ?_⟩
    rw [eqvC_nil]
    have tab2 := hTab.mono s2
    clear sZ nZ kZ hr1 hd hn hY s1
    by_cases c0 : classesL ts ks.length = []
    · rw [decide_eq_true c0]
      refine iteT ?_
      -- refused: no class
      refine ⟨tb2, fun H3 ex3 tb3 => ?_⟩
      have s3 := nG.over s2 ex3
      refine ⟨_, rfl, a, ks, ts, rfl, hTab.mono s3, ok, fun ne => absurd c0 ne, fun _ H4 x s4 nx hx => ⟨rfl, x, _, rfl, hx, ?_⟩⟩
      refine ⟨by show 1 ≤ sizeLine; decide, fun D nD => ?_⟩
      have sD := same_upd (o := .lst [.str (("kinds" : String) : Str)]) nD
      have kD := upd_same (H := H4) (a := D) (o := .lst [.str (("kinds" : String) : Str)])
      have s5 := (s3.trans s4).trans sD
      have tb5 := tabs_same (tabs_same tb3 s4) sD
      generalize L2.upd H4 D (.lst [.str (("kinds" : String) : Str)]) = H5 at kD s5 tb5 ⊢
      refine ⟨_, rfl, .inl ⟨rfl, _, .inl (.inl kD)⟩, tb5, fun H6 ex6 tb6 => ?_⟩
      have s6 := nG.over s5 ex6
      have kD6 := extN_at ex6 kD
      refine ⟨_, rfl, a, ks, ts, rfl, hTab.mono s6, ok, fun ne => absurd c0 ne, fun _ H7 x s7 nx hx => ⟨rfl, x, _, rfl, hx, ?_⟩⟩
      have kD7 := s7 _ _ kD6
      have GD : G D = none := (s3.trans s4).free nD
      refine ⟨D, _, _, rfl, rfl, kD7, by show 1 < sizeLine; decide, ?_⟩
      have s8 : Same G (L2.upd H7 D (.lst ([.str (("kinds" : String) : Str)] ++ [.str (("kinds" : String) : Str)]))) := HD.same_put (s6.trans s7) GD
      have tb8 : LamX.Tabs T (L2.upd H7 D (.lst ([.str (("kinds" : String) : Str)] ++ [.str (("kinds" : String) : Str)]))) := tabs_put (tabs_same tb6 s7) kD7
      have kD8 := upd_same (H := H7) (a := D) (o := .lst ([.str (("kinds" : String) : Str)] ++ [.str (("kinds" : String) : Str)]))
      generalize L2.upd H7 D (.lst ([.str (("kinds" : String) : Str)] ++ [.str (("kinds" : String) : Str)])) = H8 at s8 tb8 kD8 ⊢
      refine ⟨_, rfl, by show 2 ≤ sizeLine; decide, fun Y nY => ?_⟩
      have sY := same_upd (o := .lst [.str (("kinds" : String) : Str), .str (("kinds" : String) : Str)]) nY
      have ⟨p1, e1⟩ := eqv_strs (ks := [(("kinds" : String) : Str), (("kinds" : String) : Str)]) (by decide +kernel)
      refine ⟨_, _, .lst (.inl (.inl (sY _ _ kD8))) (dpAll_strs [(("kinds" : String) : Str), (("kinds" : String) : Str)]), .lst (.inl (.inl upd_same)) (dpAll_strs [(("kinds" : String) : Str), (("kinds" : String) : Str)]), p1, p1, ?_⟩
      rw [e1]
      exact fin _ (s8.trans sY) (tabs_same tb8 sY)
    · rw [decide_eq_false c0]
      refine iteF ?_
      -- the names
      refine ⟨_, rfl, d, rfl, ⟨_, .inl (.inl hd2)⟩, fun D nD => ?_⟩
      refine lc_it (walk_list (K := K) (a := d) (xs := ys)) (fun i H' => Same H2 H' ∧ H' D = some (.lst ((clsN ks ((classesL ts ks.length).take i)).map V.str))) ⟨same_upd nD, upd_same⟩ (fun i H' _ h => .inl (.inl (h.1 _ _ hd2))) ?_ ?_
      · rintro i v H3 H4 hi ⟨sm, hD⟩ ⟨rfl, ex⟩
        obtain ⟨tt, c, rfl, ec, ht⟩ := hY2.get ex
        have hcm := List.mem_of_getElem? ec
        have cne := cls_ne c hcm
        cases c with
        | nil => exact absurd rfl cne
        | cons c1 cr =>
          obtain ⟨j, hj, rfl⟩ := classes_below hcm List.mem_cons_self
          have ej := nameD_at (ks := ks) hj
          refine ⟨rfl, _, rfl, _, rfl, tt, _, _, .int (j : Int), rfl, rfl, seqT sm ht, at00 _ _, k, _, _, .str (ks.getD j Str.empty), rfl, rfl, seqT (s2.trans sm) hK, atI_nat (j := j) (by rw [List.getElem?_map, ej]; rfl), _, hD, ?_, HD.same_put sm nD, ?_⟩
          · unfold clsN
            rw [List.length_map, List.length_map, List.length_take]
            omega
          · unfold clsN
            rw [upd_same, List.take_add_one, ec, List.map_append, List.map_append]
            rfl
      rintro H3 ⟨sm, hD⟩
      rw [hY2.len, List.take_length] at hD
      have s3 := s2.trans sm
      have tb3 := tabs_same tb2 sm
      have hn3 := sm _ _ hn2
      clear hd2 hn2 hY2 tb2 tab2 s2 sm
      refine ⟨by show 0 ≤ sizeLine; exact Nat.zero_le _, fun Lt nLt => ?_⟩
      have sL := same_upd (o := .lst []) nLt
      have kL := upd_same (H := H3) (a := Lt) (o := .lst [])
      generalize L2.upd H3 Lt (.lst []) = H4 at sL kL ⊢
      refine ⟨_, _, rfl, ?_⟩
      -- the rows
      refine ⟨fun σ H' => (∃ y8 y9 y10 : Option V, σ = [some (.ref a), some (.ref k), some (.ref t), some (.ref d), some (.ref n), none, some (.ref D), some (.ref Lt), y8, y9, y10, none, none, none]) ∧ Same H3 H' ∧ ∃ zs ls, H' Lt = some (.lst zs) ∧ Tots K H' zs ls ∧ ByCls ts ks.length ls, ?_, ?_⟩
      · refine ⟨_, rfl, t, rfl, ⟨_, seqT (s3.trans sL) hS⟩, ?_⟩
        refine for_it (walk_tup (K := K) (a := t) (xs := xs)) (fun i σ H' => (∃ y8 y9 y10 : Option V, σ = [some (.ref a), some (.ref k), some (.ref t), some (.ref d), some (.ref n), none, some (.ref D), some (.ref Lt), y8, y9, y10, none, none, none]) ∧ Same H3 H' ∧ ∃ zs ls, H' Lt = some (.lst zs) ∧ Tots K H' zs ls ∧ ls.length = i ∧ ∀ (j : Nat) c l, ts[j]? = some c → ls[j]? = some l → (∀ x : Int, x ∈ l ↔ ∃ k ∈ c, numV (classesL ts ks.length) k = .int x) ∧ l.length ≤ 1000 ∧ l.Pairwise (· < ·)) ⟨⟨_, _, _, rfl⟩, sL, [], [], kL, trivial, rfl, fun j c l _ h => by simp at h⟩ (fun i σ H' _ h => seqT (s3.trans h.2.1) hS) ?_ ?_
        · rintro i x σ H5 H6 hi ⟨⟨y8, y9, y10, rfl⟩, s5, zs, ls, kz, hZ, ll, rel⟩ ⟨rfl, ex⟩
          obtain ⟨tc, c, rfl, ec, hc0⟩ := hT.get ex
          have hcm := List.mem_of_getElem? ec
          have okc := ok.lots c hcm
          have lc12 := lot_small okc
          have nAt : ∀ z ∈ c, ∃ i : Nat, z = (i : Int) ∧ ((List.range ks.length).map fun j => numV (classesL ts ks.length) ((j : Nat) : Int))[i]? = some (.int (numI (classesL ts ks.length) z)) := fun z hz => by
            obtain ⟨z0, z1⟩ := okc.2.1 z hz
            obtain ⟨i, rfl⟩ := Int.eq_ofNat_of_zero_le z0
            refine ⟨i, rfl, ?_⟩
            rw [List.getElem?_map, List.getElem?_range (by omega)]
            show some (numV (classesL ts ks.length) (i : Int)) = _
            rw [num_int hcm okc.2.1 hz]
          refine ⟨by show 0 ≤ sizeLine; exact Nat.zero_le _, fun W nW => ?_⟩
          have sW := same_upd (o := .lst []) nW
          have kW := upd_same (H := H6) (a := W) (o := .lst [])
          generalize L2.upd H6 W (.lst []) = H7 at sW kW ⊢
          refine ⟨fun σ H' => (∃ y10 : Option V, ∃ (W : Addr) (rr : List Int), σ = [some (.ref a), some (.ref k), some (.ref t), some (.ref d), some (.ref n), none, some (.ref D), some (.ref Lt), some (.ref tc), some (.ref W), y10, none, none, none] ∧ H' W = some (.lst (rr.map V.int)) ∧ rr.Nodup ∧ rr.length ≤ c.length ∧ ∀ x : Int, x ∈ rr ↔ ∃ k ∈ c, numI (classesL ts ks.length) k = x) ∧ Same H6 H', ?_, ?_⟩
          · refine ⟨_, rfl, tc, rfl, ⟨_, seqT ((s3.trans s5).trans sW) hc0⟩, ?_⟩
            refine for_it (walk_tup (K := K) (a := tc) (xs := c.map V.int)) (fun i σ H' => (∃ y10 : Option V, ∃ (W : Addr) (rr : List Int), σ = [some (.ref a), some (.ref k), some (.ref t), some (.ref d), some (.ref n), none, some (.ref D), some (.ref Lt), some (.ref tc), some (.ref W), y10, none, none, none] ∧ H' W = some (.lst (rr.map V.int)) ∧ rr.Nodup ∧ rr.length ≤ i ∧ ∀ x : Int, x ∈ rr ↔ ∃ k ∈ c.take i, numI (classesL ts ks.length) k = x) ∧ Same H6 H') ⟨⟨_, W, [], rfl, kW, List.nodup_nil, Nat.le_refl _, fun x => by simp⟩, sW⟩ (fun i σ H' _ h => seqT ((s3.trans s5).trans h.2) hc0) ?_ ?_
            · rintro q x σ H8 H9 hq ⟨⟨y10, W, rr, rfl, kW, nd, lr, mem⟩, s8⟩ ⟨rfl, ex2⟩
              rw [List.getElem?_map] at ex2
              obtain ⟨z, ez, rfl⟩ := Option.map_eq_some_iff.mp ex2
              obtain ⟨zi, rfl, ev⟩ := nAt z (List.mem_of_getElem? ez)
              have hn8 := (s5.trans s8) _ _ hn3
              have tk : c.take (q + 1) = c.take q ++ [((zi : Nat) : Int)] := by rw [List.take_add_one, ez]; rfl
              refine ⟨_, rfl, _, rfl, n, _, _, _, rfl, rfl, .inl (.inl hn8), atI_nat ev, _, rfl, W, rr.map V.int, rfl, .inl (.inl (.inl kW)), rfl, CK.flat_ints rr, _, rfl, ?_⟩
              rw [inV_ints]
              have tkm : ∀ x : Int, (∃ k ∈ c.take (q + 1), numI (classesL ts ks.length) k = x) ↔ (∃ k ∈ c.take q, numI (classesL ts ks.length) k = x) ∨ x = numI (classesL ts ks.length) ((zi : Nat) : Int) := fun x => by
                rw [tk]
                constructor
                · rintro ⟨k, hk, e⟩
                  rcases List.mem_append.mp hk with y | y
                  · exact .inl ⟨k, y, e⟩
                  · rw [List.mem_singleton.mp y] at e
                    exact .inr e.symm
                · rintro (⟨k, hk, e⟩ | e)
                  · exact ⟨k, List.mem_append_left _ hk, e⟩
                  · exact ⟨_, List.mem_append_right _ (List.mem_singleton.mpr rfl), e.symm⟩
              generalize numI (classesL ts ks.length) ((zi : Nat) : Int) = v at ev tkm ⊢
              cases hc : rr.contains v with
              | true =>
                have hm := List.contains_iff_mem.mp hc
                refine iteF ⟨_, rfl, ⟨_, W, rr, rfl, kW, nd, by omega, fun x => ?_⟩, s8⟩
                rw [tkm x, ← mem x]
                exact ⟨.inl, fun h => h.elim id fun e => by rw [e]; exact hm⟩
              | false =>
                have hm : v ∉ rr := fun z => by rw [List.contains_iff_mem.mpr z] at hc; cases hc
                refine iteT ⟨_, rfl, _, rfl, _, rfl, n, _, _, _, rfl, rfl, .inl (.inl hn8), atI_nat ev, by show 1 ≤ sizeLine; decide, fun o no => ?_⟩
                have so := same_upd (o := .lst [V.int v]) no
                refine ⟨W, o, _, _, rfl, rfl, so _ _ kW, upd_same, by rw [List.length_map]; show rr.length + 1 ≤ sizeLine; have : q < (c.map V.int).length := hq; rw [List.length_map] at this; omega, fun p np => ?_⟩
                have sp := same_upd (o := .lst (rr.map V.int ++ [V.int v])) np
                refine ⟨⟨_, p, rr ++ [v], rfl, by rw [upd_same, List.map_append]; rfl, ?_, by rw [List.length_append]; show rr.length + 1 ≤ q + 1; omega, fun x => ?_⟩, (s8.trans so).trans sp⟩
                · refine List.nodup_append.mpr ⟨nd, by simp, fun a ha b hb e => ?_⟩
                  have := List.mem_singleton.mp hb
                  subst this
                  exact hm (e ▸ ha)
                · rw [tkm x, ← mem x, List.mem_append, List.mem_singleton]
            · rintro σ H8 ⟨⟨y10, W, rr, rfl, kW, nd, lr, mem⟩, s8⟩
              rw [List.length_map] at lr
              rw [List.length_map, List.take_length] at mem
              exact ⟨⟨_, W, rr, rfl, kW, nd, lr, mem⟩, s8⟩
          rintro σ H8 ⟨⟨y10, W, rr, rfl, kW, nd, lr, mem⟩, s8⟩
          refine ⟨_, rfl, .inl ⟨rfl, _, .inl (.inl (s8 _ _ kz))⟩, _, rfl, W, rr, rfl, .inl (.inl kW), by omega, fun ns p pm pw np => ?_⟩
          have sp := same_upd (o := .lst (ns.map V.int)) np
          refine ⟨p, _, rfl, .inl ⟨.inl (.inl upd_same), fun u nu => ?_⟩⟩
          have su := same_upd (o := .tup (ns.map V.int)) nu
          have s9 := (s8.trans sp).trans su
          have kz9 := s9 _ _ kz
          have lz := hZ.len
          have il : i < xs.length := hi
          refine ⟨Lt, _, _, rfl, rfl, kz9, by omega, ⟨_, _, _, rfl⟩, HD.same_put (s5.trans s9) nLt, zs ++ [.ref u], ls ++ [ns], upd_same, Tots.upd kz9 (Tots.snoc (sqt upd_same) (hZ.mono s9)), by rw [List.length_append, ll]; rfl, fun j c' l' h1 h2 => ?_⟩
          rcases Nat.lt_or_ge j i with z | z
          · rw [List.getElem?_append_left (by omega)] at h2
            exact rel j c' l' h1 h2
          · rw [List.getElem?_append_right (by omega)] at h2
            have j0 : j - ls.length = 0 := by
              have := (List.getElem?_eq_some_iff.mp h2).1
              rw [List.length_singleton] at this
              omega
            rw [j0] at h2
            have e2 : ns = l' := Option.some.inj h2
            have ji : j = i := by omega
            subst e2 ji
            have e1 : c = c' := Option.some.inj (ec.symm.trans h1)
            subst e1
            have ndn := pm.nodup_iff.mpr nd
            refine ⟨fun x => ?_, ?_, ?_⟩
            · rw [pm.mem_iff, mem x]
              constructor
              · rintro ⟨k, hk, e⟩
                exact ⟨k, hk, by rw [num_int hcm okc.2.1 hk, e]⟩
              · rintro ⟨k, hk, e⟩
                rw [num_int hcm okc.2.1 hk] at e
                exact ⟨k, hk, V.int.inj e⟩
            · have := pm.length_eq
              omega
            · refine List.Pairwise.imp (fun {a b} h => ?_) (List.Pairwise.and pw ndn)
              obtain ⟨h1, h2⟩ := h
              have h2 : a ≠ b := h2
              omega
        · rintro σ H5 ⟨⟨y8, y9, y10, rfl⟩, s5, zs, ls, kz, hZ, ll, rel⟩
          refine ⟨⟨_, _, _, rfl⟩, s5, zs, ls, kz, hZ, ⟨by omega, fun j c l e1 e2 => (rel j c l e1 e2).1, fun l hl => ?_⟩⟩
          obtain ⟨j, ej⟩ := List.mem_iff_getElem?.mp hl
          have lt : j < ts.length := by
            have := (List.getElem?_eq_some_iff.mp ej).1
            omega
          exact (rel j _ l (List.getElem?_eq_getElem lt) ej).2
      rintro σ H5 ⟨⟨y8, y9, y10, rfl⟩, s5, zs, ls, kz, hZ, by_⟩
      have okM := merged_ok ok c0 by_
      have again := fun os (h : CoreR ls os) => core_again ok c0 by_ h
      have okC := fun os (h : CoreR ls os) => core_ok okM h
      have hD5 := s5 _ _ hD
      have s05 := s3.trans s5
      have tb5 := tabs_same tb3 s5
      have nm12 : (clsN ks (classesL ts ks.length)).length ≤ 12 := okM.kinds.2.1
      clear hD hn3 s3 tb3 s5
      rw [← show clsN ks (classesL ts ks.length) = clsN ks (classesL ts ks.length) from rfl] at hD5
      generalize hns : clsN ks (classesL ts ks.length) = ns at *
      -- merged
      refine ⟨_, rfl, a, ks, ts, rfl, hTab.mono s05, ok, fun _ ls2 by2 => ?_, fun z => absurd z c0⟩
      have e := ByCls.uniq by2 by_
      subst e
      rw [hns]
      refine ⟨okM, fun H6 m s6 nm hM => ?_⟩
      refine ⟨_, rfl, _, rfl, m, D, Lt, ns, ls2, zs, rfl, hM, .inl (.inl (.inl (s6 _ _ hD5))), .inl (.inl (.inl (s6 _ _ kz))), hZ.mono s6, nm12, okM.len, shn_table okM, fun H7 s7 => ?_⟩
      refine ⟨_, rfl, iteF ?_⟩
      have s57 := s6.trans s7
      refine ⟨_, rfl, a, ks, ts, rfl, hTab.mono (s05.trans s57), ok, fun _ ls3 by3 => ?_, fun z => absurd z c0⟩
      have e := ByCls.uniq by3 by_
      subst e
      rw [hns]
      refine ⟨okM, fun H8 m1 s8 nm1 hM1 => ?_⟩
      refine ⟨_, rfl, a, ks, ts, rfl, hTab.mono ((s05.trans s57).trans s8), ok, fun _ ls4 by4 => ?_, fun z => absurd z c0⟩
      have e := ByCls.uniq by4 by_
      subst e
      rw [hns]
      refine ⟨okM, fun H9 m2 s9 nm2 hM2 => ?_⟩
      refine ⟨m1, m2, ns, ls4, rfl, rfl, hM1.mono s9, hM2, okM.kinds.2.2.1, fun H10 s10 => ?_⟩
      refine ⟨_, rfl, iteF ?_⟩
      have s510 := ((s57.trans s8).trans s9).trans s10
      clear hM hM1 hM2 nm nm1 nm2 s6 s7 s8 s9 s10 s57 by2 by3
      have hD10 := s510 _ _ hD5
      have kz10 := s510 _ _ kz
      have hZ10 := hZ.mono s510
      have s010 := s05.trans s510
      have tb10 := tabs_same tb5 s510
      clear hD5 kz hZ s510 s05 tb5
      -- once
      obtain ⟨L, ez, el, hL⟩ := tots_pairs hZ10
      refine ⟨by show 0 ≤ sizeLine; exact Nat.zero_le _, fun O nO => ?_⟩
      have sO := same_upd (o := .lst []) nO
      have kO := upd_same (H := H10) (a := O) (o := .lst [])
      generalize L2.upd H10 O (.lst []) = H11 at sO kO ⊢
      refine ⟨fun σ H' => (∃ y8 y9 y10 y12 : Option V, ∃ (O : Addr) (ps : List (Addr × List Int)), σ = [some (.ref a), some (.ref k), some (.ref t), some (.ref d), some (.ref n), none, some (.ref D), some (.ref Lt), y8, y9, y10, some (.ref O), y12, none] ∧ H' O = some (.lst (ps.map fun p => V.ref p.1)) ∧ (∀ p ∈ ps, SqT K H10 p.1 (p.2.map V.int)) ∧ CoreR ls4 (ps.map Prod.snd)) ∧ Same H10 H', ?_, ?_⟩
      · refine ⟨_, rfl, Lt, L, rfl, .inl (.inl (by rw [← ez]; exact sO _ _ kz10)), fun p hp => seqT sO (hL p hp), fun L' p pm pw np => ?_⟩
        have sp := same_upd (o := .lst (L'.map fun q => V.ref q.1)) np
        have kp := upd_same (H := H11) (a := p) (o := .lst (L'.map fun q => V.ref q.1))
        generalize L2.upd H11 p (.lst (L'.map fun q => V.ref q.1)) = H12 at sp kp ⊢
        have lL : L'.length ≤ 12 := by
          rw [pm.length_eq, ← List.length_map (f := Prod.snd), el]
          exact okM.len
        have pwl : (L'.map Prod.snd).Pairwise fun a b => TU.lexI b a = false := List.pairwise_map.mpr pw
        refine ⟨p, rfl, ⟨_, .inl (.inl kp)⟩, ?_⟩
        refine for_it (walk_list (K := K) (a := p) (xs := L'.map fun q => V.ref q.1)) (fun i σ H' => (∃ y8 y9 y10 y12 : Option V, ∃ (O : Addr) (ps : List (Addr × List Int)), σ = [some (.ref a), some (.ref k), some (.ref t), some (.ref d), some (.ref n), none, some (.ref D), some (.ref Lt), y8, y9, y10, some (.ref O), y12, none] ∧ H' O = some (.lst (ps.map fun p => V.ref p.1)) ∧ (∀ p ∈ ps, SqT K H10 p.1 (p.2.map V.int)) ∧ ps.length ≤ i ∧ OnceOf ((L'.map Prod.snd).take i) (ps.map Prod.snd)) ∧ Same H12 H') ⟨⟨_, _, _, _, O, [], rfl, sp _ _ kO, (by intro _ h; cases h), Nat.le_refl _, List.Pairwise.nil, (by intro c; simp)⟩, Same.refl _⟩ (fun i σ H' _ h => .inl (.inl (h.2 _ _ kp))) ?_ ?_
        · rintro i x σ H13 H14 hi ⟨⟨y8, y9, y10, y12, O, ps, rfl, kO, hps, lps, once⟩, s13⟩ ⟨rfl, ex⟩
          rw [List.getElem?_map] at ex
          obtain ⟨⟨tt, c⟩, eq, rfl⟩ := Option.map_eq_some_iff.mp ex
          have sA := (sO.trans sp).trans s13
          have ht : SqT K H10 tt (c.map V.int) := hL _ (pm.mem_iff.mp (List.mem_of_getElem? eq))
          have tk : (L'.map Prod.snd).take (i + 1) = (L'.map Prod.snd).take i ++ [c] := by
            rw [List.take_add_one, List.getElem?_map, eq]
            rfl
          have il : i < L'.length := (List.getElem?_eq_some_iff.mp eq).1
          have up : ∀ x ∈ (L'.map Prod.snd).take i, TU.lexI c x = false := fun x hx => by
            obtain ⟨j, hj, e⟩ := List.mem_iff_getElem.mp hx
            rw [List.length_take, List.length_map] at hj
            rw [List.getElem_take] at e
            have := List.pairwise_iff_getElem.mp pwl j i (by rw [List.length_map]; omega) (by rw [List.length_map]; omega) (by omega)
            rw [e] at this
            have e2 : (L'.map Prod.snd)[i]'(by rw [List.length_map]; omega) = c := by
              rw [List.getElem_map]
              have := (List.getElem?_eq_some_iff.mp eq).2
              rw [this]
            rw [e2] at this
            exact this
          refine ⟨_, rfl, by show 0 ≤ sizeLine; exact Nat.zero_le _, fun Z nZ => ?_⟩
          have sZ := same_upd (o := .tup []) nZ
          refine ⟨dI c, .tuple [], dp_I (seqT (sA.trans sZ) ht), .tup (sqt upd_same) .nil, (gd_dI c).shaped (by decide), shaped_nil2, _, rfl, ?_⟩
          rw [eqvT_nil]
          have kO2 := sZ _ _ kO
          generalize L2.upd H14 Z (.tup []) = H15 at sZ kO2 ⊢
          by_cases c1 : c = []
          · rw [decide_eq_true c1]
            refine iteF ⟨_, rfl, ⟨_, _, _, _, O, ps, rfl, kO2, hps, by omega, ?_⟩, s13.trans sZ⟩
            rw [tk]
            exact once.skip (.inl c1)
          · rw [decide_eq_false c1]
            have dps : DpAll K H15 (ps.map fun p => V.ref p.1) ((ps.map Prod.snd).map dI) := dpAll_tots (tots_refs ps fun p hp => seqT (sA.trans sZ) (hps p hp))
            refine iteT ⟨_, rfl, _, rfl, _, _, dp_I (seqT (sA.trans sZ) ht), .lst (.inl (.inl kO2)) dps, (gd_dI c).shaped (by decide), shaped_tots _, _, rfl, ?_⟩
            rw [any_dI]
            by_cases c2 : c ∈ ps.map Prod.snd
            · rw [decide_eq_true c2]
              refine iteF ⟨_, rfl, ⟨_, _, _, _, O, ps, rfl, kO2, hps, by omega, ?_⟩, s13.trans sZ⟩
              rw [tk]
              exact once.skip (.inr c2)
            · rw [decide_eq_false c2]
              refine iteT ⟨_, rfl, _, rfl, by show 1 ≤ sizeLine; decide, fun o no => ?_⟩
              have so := same_upd (o := .lst [V.ref tt]) no
              refine ⟨O, o, _, _, rfl, rfl, so _ _ kO2, upd_same, by rw [List.length_map]; show ps.length + 1 ≤ sizeLine; omega, fun p2 np2 => ?_⟩
              have sp2 := same_upd (o := .lst ((ps.map fun p => V.ref p.1) ++ [V.ref tt])) np2
              refine ⟨⟨_, _, _, _, p2, ps ++ [(tt, c)], rfl, by rw [upd_same, List.map_append]; rfl, fun p hp => ?_, by rw [List.length_append]; show ps.length + 1 ≤ i + 1; omega, ?_⟩, ((s13.trans sZ).trans so).trans sp2⟩
              · rcases List.mem_append.mp hp with z | z
                · exact hps p z
                · rw [List.mem_singleton.mp z]
                  exact ht
              · rw [tk, List.map_append]
                exact once.add up c1 c2
        · rintro σ H13 ⟨⟨y8, y9, y10, y12, O, ps, rfl, kO, hps, lps, once⟩, s13⟩
          rw [List.length_map] at once
          rw [List.take_of_length_le (by rw [List.length_map]; exact Nat.le_refl _)] at once
          refine ⟨⟨_, _, _, _, O, ps, rfl, kO, hps, once.1, fun c => ?_⟩, (sO.trans sp).trans s13⟩
          rw [once.2 c, (pm.map Prod.snd).mem_iff, el]
      rintro σ H11 ⟨⟨y8, y9, y10, y12, O, ps, rfl, kO, hps, core⟩, s11⟩
      have okC1 := okC _ core
      have ⟨g1, g2, g3, g4⟩ := again _ core
      have s011 := s010.trans s11
      have tb11 := tabs_same tb10 s11
      have hD11 := s11 _ _ hD10
      have psT : Tots K H11 (ps.map fun p => V.ref p.1) (ps.map Prod.snd) := tots_refs ps fun p hp => seqT s11 (hps p hp)
      generalize ps.map Prod.snd = os at core okC1 g1 g2 g3 g4 psT
      generalize (ps.map fun p => V.ref p.1) = us at kO psT
      have uniqO : ∀ os2, CoreR ls4 os2 → os2 = os := fun os2 h => LexAsc.uniq h.1 core.1 fun c => (h.2 c).trans (core.2 c).symm
      have uniqS : ∀ os2, CoreR os os2 → os2 = os := fun os2 h => LexAsc.uniq h.1 g3.1 fun c => (h.2 c).trans (g3.2 c).symm
      clear s010 tb10 hD10 kz10 hZ10 hL ez
      refine ⟨_, rfl, a, ks, ts, rfl, hTab.mono s011, ok, fun _ ls2 os2 by2 co2 => ?_, fun z => absurd z c0⟩
      have e := ByCls.uniq by2 by_
      subst e
      have e := uniqO os2 co2
      subst e
      rw [hns]
      intro H12 m s12 nm hM
      refine ⟨_, rfl, _, rfl, m, D, O, ns, os2, us, rfl, hM, .inl (.inl (.inl (s12 _ _ hD11))), .inl (.inl (.inl (s12 _ _ kO))), psT.mono s12, nm12, okC1.len, shn_table okC1, fun H13 s13 => ?_⟩
      refine ⟨true, rfl, iteT ?_⟩
      have s1 := s12.trans s13
      refine ⟨_, rfl, a, ks, ts, rfl, hTab.mono (s011.trans s1), ok, fun _ ls3 os3 by3 co3 => ?_, fun z => absurd z c0⟩
      have e := ByCls.uniq by3 by_
      subst e
      have e := uniqO os3 co3
      subst e
      rw [hns]
      intro H14 m1 s14 nm1 hM1
      refine ⟨_, rfl, a, ks, ts, rfl, hTab.mono ((s011.trans s1).trans s14), ok, fun _ ls5 os5 by5 co5 => ?_, fun z => absurd z c0⟩
      have e := ByCls.uniq by5 by_
      subst e
      have e := uniqO os5 co5
      subst e
      rw [hns]
      intro H15 m2 s15 nm2 hM2
      refine ⟨m1, m2, ns, os5, rfl, rfl, hM1.mono s15, hM2, okM.kinds.2.2.1, fun H16 s16 => ?_⟩
      refine ⟨true, rfl, iteT ?_⟩
      have s2 := ((s1.trans s14).trans s15).trans s16
      clear hM hM1 hM2
      refine ⟨_, rfl, a, ks, ts, rfl, hTab.mono (s011.trans s2), ok, fun _ ls6 os6 by6 co6 => ?_, fun z => absurd z c0⟩
      have e := ByCls.uniq by6 by_
      subst e
      have e := uniqO os6 co6
      subst e
      rw [hns]
      intro H17 m3 s17 nm3 hM3
      refine ⟨m3, ns, os6, rfl, hM3, okC1, fun _ ls7 os7 by7 co7 => ?_, fun z => absurd z g1⟩
      have e := ByCls.uniq by7 g2
      subst e
      have e := uniqS os7 co7
      subst e
      rw [g4]
      intro H18 m4 s18 nm4 hM4
      have s3 := (s2.trans s17).trans s18
      refine ⟨_, rfl, a, ks, ts, rfl, hTab.mono (s011.trans s3), ok, fun _ ls8 os8 by8 co8 => ?_, fun z => absurd z c0⟩
      have e := ByCls.uniq by8 by_
      subst e
      have e := uniqO os8 co8
      subst e
      rw [hns]
      intro H19 m5 s19 nm5 hM5
      refine ⟨m4, m5, ns, os8, rfl, rfl, hM4.mono s19, hM5, okM.kinds.2.2.1, fun H20 s20 => ?_⟩
      have s4 := (s3.trans s19).trans s20
      exact fin _ (s011.trans s4) (tabs_same tb11 s4)
end
end K03
namespace CK
open PySem PySem.Spec PyProof.Rows L2 VG FR HD
noncomputable def GB (p q : Addr) (H : Hp) : Hp := offT (frz p q H)
theorem gb_at {p q b : Addr} {H : Hp} {o : HO} (h : H b = some o) (n : b ≠ p ∧ b ≠ q) (nt : ∀ ps, o ≠ .tbl ps) : GB p q H b = some o := by
  unfold GB offT
  rw [frz_at h n]
  cases o <;> first | rfl | exact absurd rfl (nt _)
theorem gb_same (p q : Addr) (H : Hp) : Same (GB p q H) H := (offT_same _).trans frz_le
theorem gb_cases {p q b : Addr} {H : Hp} {o : HO} (h : GB p q H b = some o) : b ≠ p ∧ b ≠ q ∧ H b = some o ∧ ∀ ps, o ≠ .tbl ps := by
  have h1 := offT_same _ _ _ h
  have h2 := frz_cases h1
  exact ⟨h2.1, h2.2.1, h2.2.2, fun ps z => offT_no _ b ps (by rw [← z]; exact h)⟩
theorem gb_mono {p q : Addr} {H H' : Hp} (s : Same H H') : Same (GB p q H) (GB p q H') := fun b o h => by
  obtain ⟨h1, h2, h3, h4⟩ := gb_cases h
  exact gb_at (s _ _ h3) ⟨h1, h2⟩ h4
theorem gb_le {p q : Addr} {G H : Hp} (nG : NoTbl G) (gp : G p = none) (gq : G q = none) (s : Same G H) : Same G (GB p q H) := fun b o h =>
  gb_at (s _ _ h) ⟨(fun z => by rw [z, gp] at h; cases h), (fun z => by rw [z, gq] at h; cases h)⟩ fun ps z => nG b ps (by rw [← z]; exact h)
theorem seqT_gb {K : PySem.W.Frag} {p q t : Addr} {H : Hp} {xs : List V} (hd : Hd p q H) (h : SqT K H t xs) : SqT K (GB p q H) t xs := by
  have h1 : SqT K (frz p q H) t xs := seqTK hd keep_frz h
  have key : ∀ (H : Hp), SqT K H t xs → SqT K (offT H) t xs := fun H h => by
    rcases h with h | h
    · rcases h with h | ⟨ob, h⟩
      · exact .inl (.inl (by unfold offT; rw [h]))
      · exact .inl (.inr ⟨ob, by unfold offT; rw [h]⟩)
    · exact .inr h
  exact key _ h1
def OnT (T : List (Addr × Str)) (p q : Addr) (G H : Hp) : Prop := On p q G H ∧ LamX.Tabs T H ∧ NoTbl G
section
variable {T : List (Addr × Str)} {p q : Addr} {G H H' : Hp}
theorem OnT.start (h : Hd p q H) (t : LamX.Tabs T H) : OnT T p q (GB p q H) H := ⟨⟨h, gb_same p q H, by
  cases e : GB p q H p with
  | none => rfl
  | some o => exact absurd rfl (gb_cases e).1, by
  cases e : GB p q H q with
  | none => rfl
  | some o => exact absurd rfl (gb_cases e).2.1⟩, t, offT_no _⟩
theorem OnT.hd (h : OnT T p q G H) : Hd p q H := h.1.hd
theorem OnT.le (h : OnT T p q G H) : Same G H := h.1.le
theorem OnT.base (h : OnT T p q G H) : OnT T p q (GB p q H) H ∧ Same G (GB p q H) := ⟨.start h.hd h.2.1, gb_le h.2.2 h.1.2.2.1 h.1.2.2.2 h.le⟩
theorem OnT.drop {G0 : Hp} (h : OnT T p q G H) (s : Same G0 G) (n : NoTbl G0) : OnT T p q G0 H := ⟨h.1.drop s, h.2.1, n⟩
theorem OnT.same (h : OnT T p q G H) (s : Same H H') : OnT T p q G H' := ⟨h.1.same s, tabs_same h.2.1 s, h.2.2⟩
theorem OnT.new (h : OnT T p q G H) {n : Addr} {o : HO} (hn : H n = none) : OnT T p q G (L2.upd H n o) := h.same (same_upd hn)
theorem OnT.draw (h : OnT T p q G H) (hd : Hd p q H') (k : Keep p q H H') : OnT T p q G H' := by
  refine ⟨h.1.draw hd k, fun x hx => ?_, h.2.2⟩
  obtain ⟨ps, h1, h2, h3⟩ := h.2.1 x hx
  obtain ⟨cs, st, e1, e2, _⟩ := h.hd
  refine ⟨ps, k _ _ (fun z => by rw [z, e1] at h1; cases h1) (fun z => by rw [z, e2] at h1; cases h1) h1, h2, fun pos cv hc => ?_⟩
  obtain ⟨c, e3, e4⟩ := h3 pos cv hc
  exact ⟨c, e3, k _ _ (fun z => by rw [z, e1] at e4; cases e4) (fun z => by rw [z, e2] at e4; cases e4) e4⟩
theorem OnT.lam (h : OnT T p q G H) (e : LamX.ExtN H H') (t : LamX.Tabs T H') : OnT T p q G H' := by
  obtain ⟨cs, st, e1, e2, r⟩ := h.hd
  exact ⟨⟨⟨cs, st, extN_at e e1, extN_at e e2, r⟩, h.2.2.over h.le e, h.1.2.2⟩, t, h.2.2⟩
theorem OnT.put (h : OnT T p q G H) {D : Addr} {xs : List V} {o : HO} (hD : H D = some (.lst xs)) (f : D ≠ p ∧ D ≠ q ∧ G D = none) : OnT T p q G (L2.upd H D o) := ⟨h.1.put f, tabs_put h.2.1 hD, h.2.2⟩
theorem OnT.free (h : OnT T p q G H) {n : Addr} (hn : H n = none) : n ≠ p ∧ n ≠ q ∧ G n = none := h.1.free hn
end
/-- a judge that draws and makes lambdas -/
def spJ2 (K : PySem.W.Frag) (C : Addr) (T : List (Addr × Str)) : Sp := fun vs H Q _ => ∃ (p q a k t : Addr) (ks : List Str) (xs : List V) (ts : List (List Int)), vs = [.ref p, .ref a, .ref k, .ref t] ∧ Hd p q H ∧ Tab K C (GB p q H) a ks ts ∧ SqT K (GB p q H) k (ks.map V.str) ∧ SqT K (GB p q H) t xs ∧ Tots K (GB p q H) xs ts ∧ TabOk ks ts ∧ LamX.Tabs T H ∧
  ∀ H', OnT T p q (GB p q H) H' → Q (.bl true) H'
theorem intsD_ints (cs : List Int) : intsD (.tuple (cs.map PyData.int)) = cs := by
  show (cs.map PyData.int).map (fun d => (intO d).getD 0) = cs
  rw [List.map_map]
  exact (List.map_congr_left fun x _ => rfl).trans (List.map_id cs)
theorem nums_of {n : Int} {cs : List Int} (h : ∀ x ∈ cs, 0 ≤ x ∧ x < n) : numsBD n (.tuple (cs.map PyData.int)) = true := by
  show ((cs.map PyData.int).all fun d => belowO n (intO d)) = true
  rw [List.all_map, List.all_eq_true]
  intro x hx
  exact decide_eq_true (h x hx)
theorem ascB_of : ∀ {cs : List Int}, Asc cs → ascB cs = true
  | [], _ => rfl
  | [_], _ => rfl
  | a :: b :: r, h => by
    have h : a < b ∧ Asc (b :: r) := h
    have ih := ascB_of h.2
    show (decide (a < b) && ascB (b :: r)) = true
    rw [decide_eq_true h.1, ih]
    rfl
theorem lotD_of {n : Int} {cs : List Int} (h : LotOk n cs) : lotD n (.tuple (cs.map PyData.int)) = true := by
  unfold lotD
  rw [nums_of h.2.1, intsD_ints, ascB_of h.2.2]
  rfl
theorem lotD_no {n : Int} {cs : List Int} (h : ¬ ((∀ x ∈ cs, 0 ≤ x ∧ x < n) ∧ Asc cs)) : lotD n (.tuple (cs.map PyData.int)) = false := by
  cases q : lotD n (.tuple (cs.map PyData.int)) with
  | false => rfl
  | true =>
    unfold lotD at q
    rw [Bool.and_eq_true] at q
    refine absurd ⟨fun x hx => ?_, ?_⟩ h
    · have := below_of (n := n) q.1 x (by rw [intsD_ints]; exact hx)
      exact this
    · have := q.2
      rw [intsD_ints] at this
      exact asc_of this
theorem leftT_last (ts : List (List Int)) (c : List Int) : leftT (ts ++ [c]) [(ts.length : Int)] (ts ++ [c]).length = ts := by
  have key : ∀ i, i ≤ ts.length → leftT (ts ++ [c]) [(ts.length : Int)] i = ts.take i := by
    intro i
    induction i with
    | zero => intro _; rfl
    | succ i ih =>
      intro hi
      have e : (ts ++ [c])[i]? = some ts[i] := by rw [List.getElem?_append_left (by omega), List.getElem?_eq_getElem (by omega)]
      rw [leftT_yes e (by simp; omega), ih (by omega), List.take_add_one, List.getElem?_eq_getElem (by omega)]
      rfl
  rw [List.length_append]
  show leftT (ts ++ [c]) [(ts.length : Int)] (ts.length + 1) = ts
  rw [leftT_no (by simp), key ts.length (Nat.le_refl _), List.take_length]
theorem left_ok {ks : List Str} {ts : List (List Int)} {os : List Int} (ok : TabOk ks ts) : TabOk ks (leftT ts os ts.length) :=
  ⟨ok.kinds, by have := leftT_len ts os ts.length; have := ok.len; omega, fun c hc => ok.lots c (leftT_mem (Nat.le_refl _) hc)⟩
theorem more_ok {ks : List Str} {ts : List (List Int)} {c : List Int} (ok : TabOk ks ts) (h : LotOk (ks.length : Int) c) (l : ts.length < 12) : TabOk ks (ts ++ [c]) :=
  ⟨ok.kinds, by rw [List.length_append]; show ts.length + 1 ≤ 12; omega, fun d hd => by
    rcases List.mem_append.mp hd with z | z
    · exact ok.lots d z
    · rw [List.mem_singleton.mp z]
      exact h⟩
/-- a value that is no lot below n -/
def Wr (K : PySem.W.Frag) (n : Int) (H : Hp) (v : V) : Prop := ∃ d, Ov K H v d ∧ lotD n d = false ∧ shortD d
theorem Wr.mono {K : PySem.W.Frag} {n : Int} {H H' : Hp} {v : V} (s : Same H H') (h : Wr K n H v) : Wr K n H' v := let ⟨d, a, b, c⟩ := h; ⟨d, a.mono s, b, c⟩
end CK
namespace CK
open PySem PySem.Spec PyProof.Rows L2 VG FR HD
/-- some of the first i numbers -/
def Somes (i : Nat) (cs : List Int) : Prop := cs.Pairwise (· < ·) ∧ cs.length ≤ i ∧ ∀ x ∈ cs, 0 ≤ x ∧ x < (i : Int)
theorem Somes.nil : Somes 0 [] := ⟨List.Pairwise.nil, Nat.le_refl _, fun x h => by cases h⟩
theorem Somes.skip {i : Nat} {cs : List Int} (h : Somes i cs) : Somes (i + 1) cs := ⟨h.1, by have := h.2.1; omega, fun x hx => by have := h.2.2 x hx; omega⟩
theorem Somes.add {i : Nat} {cs : List Int} (h : Somes i cs) : Somes (i + 1) (cs ++ [(i : Int)]) := by
  refine ⟨List.pairwise_append.mpr ⟨h.1, List.pairwise_singleton _ _, fun a ha b hb => ?_⟩, by rw [List.length_append]; have := h.2.1; show cs.length + 1 ≤ i + 1; omega, fun x hx => ?_⟩
  · have := List.mem_singleton.mp hb
    subst this
    exact (h.2.2 a ha).2
  · rcases List.mem_append.mp hx with z | z
    · have := h.2.2 x z
      omega
    · have := List.mem_singleton.mp z
      omega
theorem Somes.lot {n : Nat} {cs : List Int} (h : Somes n cs) (hn : n ≤ 12) : LotOk (n : Int) cs := ⟨by have := h.2.1; omega, h.2.2, asc_pw h.1⟩
theorem cut_last (ys : List V) (x : V) : cutV (ys ++ [x]) (some (-1)) none = [x] := by
  unfold cutV
  have e : HT.sIx (ys ++ [x]).length 0 (some (-1)) = ys.length := by
    show (if (-1 : Int) < 0 then ((-1 : Int) + ((ys ++ [x]).length : Int)).toNat else min (-1 : Int).toNat (ys ++ [x]).length) = ys.length
    rw [if_pos (by decide), List.length_append]
    show ((-1 : Int) + ((ys.length + 1 : Nat) : Int)).toNat = ys.length
    omega
  rw [e, HT.sIx_none, List.length_append]
  show (List.drop ys.length (ys ++ [x])).take (ys.length + 1 - ys.length) = [x]
  rw [List.drop_left, Nat.add_sub_cancel_left]
  rfl
theorem not_asc_dup {ys : List Int} {x : Int} : ¬ Asc (ys ++ [x] ++ [x]) := fun h => by
  have h1 := pw_of_asc h
  have := (List.pairwise_append.mp h1).2.2 x (List.mem_append_right _ (List.mem_singleton.mpr rfl)) x (List.mem_singleton.mpr rfl)
  omega
section
variable {K : PySem.W.Frag} {p q : Addr} {H : Hp} {n : Int}
theorem ovAll_ints (cs : List Int) : OvAll K H (cs.map V.int) (cs.map PyData.int) := by
  induction cs with
  | nil => exact .nil
  | cons c r ih => exact .cons (.int c) ih
theorem wr_ints {b : Addr} {cs : List Int} (hd : Hd p q H) (hb : SqT K H b (cs.map V.int)) (no : ¬ ((∀ x ∈ cs, 0 ≤ x ∧ x < n) ∧ Asc cs)) (l : cs.length ≤ 1000) : Wr K n (GB p q H) (.ref b) :=
  ⟨_, Ov.ints (seqT_gb hd hb), lotD_no no, by show (cs.map PyData.int).length ≤ 1000; rw [List.length_map]; exact l⟩
theorem wr_tup {b : Addr} {v : V} {d : PyData} (hd : Hd p q H) (hb : SqT K H b [v]) (hv : ∀ H, Ov K H v d) (no : belowO n (intO d) = false) : Wr K n (GB p q H) (.ref b) :=
  ⟨.tuple [d], .tup (seqT_gb hd hb) (.cons (hv _) .nil), by unfold lotD numsBD; simp [no], by show 1 ≤ 1000; decide⟩
end
end CK
namespace K03
open PySem PySem.Spec PyProof.Rows L2 VG FR CK HD
abbrev s__law_totals_right : Stmt := topS 47
abbrev N__law_totals_right : List Str := ["heap", "table", "kinds", "totals", "out", "left", "told", "wrong", "more", "odd", "at", "kind"]
theorem sc__law_totals_right : FnScope N__law_totals_right ["heap", "table", "kinds", "totals"] (defScope s__law_totals_right) := ⟨rfl, rfl, rfl, by decide +kernel, rfl, by decide +kernel, by decide +kernel⟩
section
variable {P : Program} {w : World} {K : PySem.W.Frag} {mg : Str → Option Value} {base : Heap}
theorem ok__law_totals_right {f c0 Pt C R : Addr} {fd : FuncData} {T : List (Addr × Str)} (F : FunC K "_law_totals_right" "_law_totals_right" s__law_totals_right f fd c0) (TC : TabC K C)
    (hrd : Hrd K mg R) (TB : LamX.TabB base mg c0 Pt) (inT : (Pt, lamQ (("_law_totals_right" : Str) ++ ".<locals>.")) ∈ T) (oneT : ∀ p ∈ T, p.1 = Pt → p.2 = lamQ (("_law_totals_right" : Str) ++ ".<locals>."))
    (EQ : EqC P w K mg base C) (G__law_is : ClG P w K mg base 1 "_law_is" (spIs K C)) (C__law_draw : Cl P w K mg base 1 "_law_draw" spDraw) (C__law_pick : Cl P w K mg base 2 "_law_pick" (spPick K))
    (C_without_totals : Cl P w K mg base 9 "without_totals" (spWithout K C)) (CR_without_totals : ClR P w K mg base 9 "without_totals" ["totals", "table"] (spWithout K C))
    (X_with_total : ClX P w K mg base 9 "with_total" (spWith K C R)) (C_with_total : Cl P w K mg base 9 "with_total" (fun vs H Q _ => spWith K C R vs H Q E0)) (CR_with_total : ClR P w K mg base 9 "with_total" ["total", "table"] (fun vs H Q _ => spWith K C R vs H Q E0))
    (z_len : mg "len" = none) (z_tuple : mg "tuple" = none) (z_range : mg "range" = none) (z_list : mg "list" = none) : FnG P w K mg base 15 f fd ["heap", "table", "kinds", "totals"] (spJ2 K C T) := by
  refine fnGC_of F sc__law_totals_right (fun vs H Q E h => ?_) (fun A outer s H vs Q E hg hr h => ?_)
  · obtain ⟨_, _, _, _, _, _, _, _, rfl, _⟩ := h
    rfl
  · obtain ⟨p, q, a, k, t, ks, xs, ts, rfl, hd, hTab, hK, hS, hT, ok, tbs, fin⟩ := h
    refine ⟨_, (pss_cons (ps_set (i := 4) sc__law_totals_right.nd rfl (.inr rfl) (pe_callTy call_tuple_of (by rfl) z_tuple (by decide +kernel) (pa_cons (pe_lc (own := [("at", 10)]) (by rfl) sc__law_totals_right.nd (pi_range1 (by rfl) z_range (pa_cons (pe_callB call_len_seq (by rfl) z_len (by decide +kernel) (pa_cons (pv 3) pa_nil)) pa_nil)) (blkOk_by (own := [("at", 10)]) (N := N__law_totals_right) (sc := defScope s__law_totals_right) (by decide +kernel)) (fun _ _ _ _ _ => (pg_name (i := 10) sc__law_totals_right.nd rfl (.inl rfl))) (fun _ _ _ _ _ => (pts_one (pt_cmpR op_eq (pe_cl C__law_draw hr (by decide) rfl (pa_cons (pv 0) (pa_cons pe_int pa_nil))) pe_int (nomark _)))) (fun _ _ _ _ _ => (pv 10))) pa_nil)))
    (pss_cons (ps_setLc (i := 5) (own := [("at", 10)]) (by rfl) sc__law_totals_right.nd rfl rfl (sw_true rfl rfl rfl (by decide +kernel)) (pi_range1 (by rfl) z_range (pa_cons (pe_callB call_len_seq (by rfl) z_len (by decide +kernel) (pa_cons (pv 3) pa_nil)) pa_nil)) (blkOk_by (own := [("at", 10)]) (N := N__law_totals_right) (sc := defScope s__law_totals_right) (by decide +kernel)) (fun _ _ _ _ _ => (pg_name (i := 10) sc__law_totals_right.nd rfl (.inl rfl))) (fun _ _ _ _ _ => (pts_one (pt_cmpR (show OpR _ (compareOp .NotIn) (rIn K true) from op_notIn_seq) (pv 10) (pv 4) rfl))) (fun _ _ _ _ _ => (pe_ix (show IxR _ (rIxT K) from ix_tup) (pv 3) (pv 10) (fun _ _ => rfl))))
    (pss_cons (ps_if (PW.pt (pw_or (pt_not (pt_val (pe_clg G__law_is hg hr (by decide) rfl (pa_cons (pe_cl C_without_totals hr (by decide) rfl (pa_cons (pv 1) (pa_cons (pv 4) pa_nil))) (pa_cons (pv 2) (pa_cons (pv 5) pa_nil)))))) (pw_or1 (pt_not (pt_cmpR (op_eqTab EQ (hr.mono (by decide))) (pe_clr CR_without_totals hr (by decide) rfl (pk_cons (pv 4) (pk_cons (pv 1) pk_nil))) (pe_cl C_without_totals hr (by decide) rfl (pa_cons (pv 1) (pa_cons (pv 4) pa_nil))) (nomark _))))))
      (pss_one (ps_ret pe_bl))
      pss_nil)
    (pss_cons (ps_set (i := 8) sc__law_totals_right.nd rfl (.inr rfl) (pe_callTy call_tuple_of (by rfl) z_tuple (by decide +kernel) (pa_cons (pe_lc (own := [("kind", 11)]) (by rfl) sc__law_totals_right.nd (pi_range1 (by rfl) z_range (pa_cons (pe_callB call_len_seq (by rfl) z_len (by decide +kernel) (pa_cons (pv 2) pa_nil)) pa_nil)) (blkOk_by (own := [("kind", 11)]) (N := N__law_totals_right) (sc := defScope s__law_totals_right) (by decide +kernel)) (fun _ _ _ _ _ => (pg_name (i := 11) sc__law_totals_right.nd rfl (.inl rfl))) (fun _ _ _ _ _ => (pts_one (pt_cmpR op_eq (pe_cl C__law_draw hr (by decide) rfl (pa_cons (pv 0) (pa_cons pe_int pa_nil))) pe_int (nomark _)))) (fun _ _ _ _ _ => (pv 11))) pa_nil)))
    (pss_cut (ps_if (pt_cmpR op_lt (pe_callB call_len_seq (by rfl) z_len (by decide +kernel) (pa_cons (pv 3) pa_nil)) pe_int (nomark _))
      (pss_cons (ps_set (i := 6) sc__law_totals_right.nd rfl (.inl rfl) (pe_cl C_with_total hr (by decide) rfl (pa_cons (pv 1) (pa_cons (pv 8) pa_nil))))
      (pss_cons (ps_if (PW.pt (pw_or (pt_not (pt_val (pe_clg G__law_is hg hr (by decide) rfl (pa_cons (pv 6) (pa_cons (pv 2) (pa_cons (pe_op op_catM (pv 3) (pe_tup (pa_cons (pv 8) pa_nil))) pa_nil)))))) (pw_or1 (pt_not (pt_cmpR (op_eqTab EQ (hr.mono (by decide))) (pe_clr CR_with_total hr (by decide) rfl (pk_cons (pv 8) (pk_cons (pv 1) pk_nil))) (pv 6) (nomark _))))))
        (pss_one (ps_ret pe_bl))
        pss_nil)
      (pss_one (ps_if (pt_not (pt_cmpR (op_eqTab EQ (hr.mono (by decide))) (pe_cl C_without_totals hr (by decide) rfl (pa_cons (pv 6) (pa_cons (pe_tup (pa_cons (pe_callB call_len_seq (by rfl) z_len (by decide +kernel) (pa_cons (pv 3) pa_nil)) pa_nil)) pa_nil))) (pv 1) (nomark _)))
        (pss_one (ps_ret pe_bl))
        pss_nil))))
      (pss_one (ps_if (pt_cmpR op_ne (pe_heard (k := 9) (T := T) hrd rfl TB rfl inT oneT (hr.mono (by decide)) (show LamX.LamS (defScope s__law_totals_right) _ from LamX.lamS_by (by decide +kernel)) rfl (fun _ _ _ _ _ => rfl) (fun A2 outer2 s2 H2 E2 f2 c2 hr2 => pe_clx X_with_total hr2 (by decide) (takes_of (E := E2) rfl rfl rfl rfl) rfl (pa_cons (pv 1) (pa_cons (pv 8) pa_nil)))) pe_str (nomark _))
        (pss_one (ps_ret pe_bl))
        pss_nil)))
    (pss_cons (ps_set (i := 7) sc__law_totals_right.nd rfl (.inl rfl) (pe_lst (pa_cons pe_non (pa_cons (pe_callTy call_list_of (by rfl) z_list (by decide +kernel) (pa_cons (pv 8) pa_nil)) (pa_cons pe_int (pa_cons pe_dnewK (pa_cons (pe_tup (pa_cons (pe_callB call_len_seq (by rfl) z_len (by decide +kernel) (pa_cons (pv 2) pa_nil)) pa_nil)) (pa_cons (pe_meet (pe_ifExp (pt_cmpR (op_neD hr.units) (pv 8) (pe_tup pa_nil) (nomark _)) (pe_op op_catM (pv 8) (pe_slice sl_tupM (pv 8) (po_some (pe_un un_neg pe_int)) po_none)) (pe_tup (pa_cons pe_int (pa_cons pe_int pa_nil))))) (pa_cons (pe_tup (pa_cons (pe_op op_sub pe_int pe_int) pa_nil)) (pa_cons (pe_tup (pa_cons pe_bl pa_nil)) (pa_cons (pe_tup (pa_cons pe_non pa_nil)) (pa_cons (pe_tup (pa_cons pe_str pa_nil)) (pa_cons (pe_op op_catM (pv 8) (pe_tup (pa_cons pe_int pa_nil))) (pa_cons (pe_tup (pa_cons pe_int (pa_cons pe_int pa_nil))) pa_nil))))))))))))))
    (pss_cons (ps_set (i := 9) sc__law_totals_right.nd rfl (.inr rfl) (pe_cl C__law_pick hr (by decide) rfl (pa_cons (pv 0) (pa_cons (pv 7) pa_nil))))
    (pss_one (ps_ret (pe_cmpR op_eq (pe_heard (k := 9) (T := T) hrd rfl TB rfl inT oneT (hr.mono (by decide)) (show LamX.LamS (defScope s__law_totals_right) _ from LamX.lamS_by (by decide +kernel)) rfl (fun _ _ _ _ _ => rfl) (fun A2 outer2 s2 H2 E2 f2 c2 hr2 => pe_clx X_with_total hr2 (by decide) (takes_of (E := E2) rfl rfl rfl rfl) rfl (pa_cons (pv 1) (pa_cons (pv 9) pa_nil)))) pe_str (nomark _))))))))))), ?_⟩
    have big : sizeLine = 16777216 := by decide
    have n12 := ok.kinds.2.1
    have l12 := ok.len
    have lx := hT.len
    have on0 := OnT.start (T := T) hd tbs
    generalize GB p q H = G at hTab hK hS hT fin on0
    -- out
    refine ⟨_, rfl, t, xs, rfl, .inr (seqT on0.le hS), _, rfl, by omega, by omega, fun D nD => ?_⟩
    have fD := on0.free nD
    refine lc_it (walk_range (lo := 0) (n := ((xs.length : Nat) : Int).toNat)) (fun j H' => OnT T p q G H' ∧ ∃ c : List Int, H' D = some (.lst (c.map V.int)) ∧ Somes j c) ⟨on0.new nD, [], upd_same, Somes.nil⟩ (fun _ _ _ _ => trivial) ?_ ?_
    · rintro j x H2 H3 hj ⟨on2, c, kD, sc⟩ ⟨rfl, rfl⟩
      have hj2 : j < xs.length := by have : j < ((xs.length : Nat) : Int).toNat := hj; omega
      have z2 : (0 : Int) + (j : Nat) = ((j : Nat) : Int) := Int.zero_add _
      refine ⟨rfl, _, rfl, p, q, _, rfl, on2.hd, by decide, by decide, fun H4 r hd4 kp4 r0 r1 => ?_⟩
      have on4 := on2.draw hd4 kp4
      have kD4 := kp4 D _ fD.1 fD.2.1 kD
      refine ⟨rfl, _, rfl, ite2 (fun _ => ?_) (fun _ => ⟨on4, c, kD4, sc.skip⟩)⟩
      refine ⟨_, rfl, _, kD4, by have := sc.2.1; rw [List.length_map]; omega, on4.put kD4 fD, c ++ [(0 : Int) + (j : Nat)], by rw [upd_same, List.map_append]; rfl, by rw [z2]; exact sc.add⟩
    rintro H2 ⟨on2, os, kD, so⟩
    refine ⟨D, _, rfl, .inl ⟨.inl (.inl kD), fun u nu => ?_⟩⟩
    have on3 := on2.new (o := .tup (os.map V.int)) nu
    have ku := upd_same (H := H2) (a := u) (o := .tup (os.map V.int))
    have fu := on2.free nu
    generalize L2.upd H2 u (.tup (os.map V.int)) = H3 at on3 ku ⊢
    have ⟨on4, g4⟩ := on3.base
    have ku4 : GB p q H3 u = some (.tup (os.map V.int)) := gb_at ku ⟨fu.1, fu.2.1⟩ (fun _ z => by cases z)
    have drop4 : ∀ {H'}, OnT T p q (GB p q H3) H' → OnT T p q G H' := fun h => h.drop g4 on0.2.2
    have hTab := hTab.mono g4
    have hK := seqT g4 hK
    have hS := seqT g4 hS
    have hT := hT.mono g4
    have fin := fun H' (h : OnT T p q (GB p q H3) H') => fin H' (drop4 h)
    clear drop4 g4 on3 on2 kD nu fu fD nD on0 ku
    generalize GB p q H3 = G1 at on4 ku4 hTab hK hS hT fin
    have lo := so.2.1
    -- left
    refine ⟨_, rfl, t, xs, rfl, .inr (seqT on4.le hS), _, rfl, by omega, by omega, fun L nL => ?_⟩
    have sL := same_upd (o := .lst []) nL
    refine lc_it (walk_range (lo := 0) (n := ((xs.length : Nat) : Int).toNat)) (fun j H' => Same H3 H' ∧ ∃ ys, H' L = some (.lst ys) ∧ Tots K H' ys (leftT ts os j)) ⟨sL, [], upd_same, trivial⟩ (fun _ _ _ _ => trivial) ?_ ?_
    · rintro j x H5 H6 hj ⟨s5, ys, kL, hY⟩ ⟨rfl, rfl⟩
      have hj2 : j < xs.length := by have : j < ((xs.length : Nat) : Int).toNat := hj; omega
      have z2 : (0 : Int) + (j : Nat) = ((j : Nat) : Int) := Int.zero_add _
      have ex : xs[j]? = some xs[j] := List.getElem?_eq_getElem hj2
      obtain ⟨tc, c, e1, ec, hc⟩ := hT.get ex
      rw [e1] at ex
      have s6 := on4.le.trans s5
      refine ⟨rfl, _, rfl, _, rfl, u, os.map V.int, rfl, .inr (sqt (s6 _ _ ku4)), rfl, CK.flat_ints os, _, rfl, ?_⟩
      rw [inV_ints, z2]
      cases hk : os.contains ((j : Nat) : Int) with
      | false =>
        refine iteT ⟨_, rfl, _, rfl, t, xs, _, _, rfl, rfl, seqT s6 hS, by rw [z2]; exact atI_nat ex, _, kL, ?_, HD.same_put s5 nL, ys ++ [.ref tc], upd_same, ?_⟩
        · have := hY.len
          have := leftT_len ts os j
          omega
        · rw [leftT_yes ec hk]
          exact Tots.upd kL (Tots.snoc (seqT s6 hc) hY)
      | true =>
        refine iteF ⟨s5, ys, kL, ?_⟩
        rw [leftT_no hk]
        exact hY
    rintro H5 ⟨s5, ys, kL, hY⟩
    rw [show ((xs.length : Nat) : Int).toNat = ts.length from by omega] at hY
    have okL := left_ok (os := os) ok
    have on5 := on4.same s5
    -- without totals
    refine ⟨_, rfl, _, rfl, a, u, os, ks, ts, rfl, hTab.mono on5.le, ok, sqt (on5.le _ _ ku4), by omega, fun H6 m s6 nm hM => ?_⟩
    refine ⟨_, rfl, _, rfl, m, k, L, ks, _, ys, rfl, hM, .inr (seqT (on5.le.trans s6) hK), .inl (.inl (.inl (s6 _ _ kL))), hY.mono s6, n12, okL.len, shn_table okL, fun H7 s7 => ?_⟩
    refine ⟨_, rfl, iteF ?_⟩
    have on7 := (on5.same s6).same s7
    refine ⟨_, rfl, _, rfl, a, u, os, ks, ts, rfl, hTab.mono on7.le, ok, sqt (on7.le _ _ ku4), by omega, fun H8 m1 s8 nm1 hM1 => ?_⟩
    have on8 := on7.same s8
    refine ⟨_, rfl, _, rfl, a, u, os, ks, ts, rfl, hTab.mono on8.le, ok, sqt (on8.le _ _ ku4), by omega, fun H9 m2 s9 nm2 hM2 => ?_⟩
    refine ⟨m1, m2, ks, _, rfl, rfl, hM1.mono s9, hM2, ok.kinds.2.2.1, fun H10 s10 => ?_⟩
    refine ⟨_, rfl, iteF ?_⟩
    have on10 := (on8.same s9).same s10
    clear on4 on5 on7 on8 hM hM1 hM2 nm nm1 nm2 s6 s7 s8 s9 s10 s5 kL hY sL nL okL
    -- more
    refine ⟨_, rfl, k, ks.map V.str, rfl, .inr (seqT on10.le hK), _, rfl, by omega, by rw [List.length_map]; omega, fun D nD => ?_⟩
    have fD := on10.free nD
    rw [List.length_map]
    refine lc_it (walk_range (lo := 0) (n := ((ks.length : Nat) : Int).toNat)) (fun j H' => OnT T p q G1 H' ∧ ∃ c : List Int, H' D = some (.lst (c.map V.int)) ∧ Somes j c) ⟨on10.new nD, [], upd_same, Somes.nil⟩ (fun _ _ _ _ => trivial) ?_ ?_
    · rintro j x H2 H3 hj ⟨on2, c, kD, sc⟩ ⟨rfl, rfl⟩
      have hj2 : j < ks.length := by have : j < ((ks.length : Nat) : Int).toNat := hj; omega
      have z2 : (0 : Int) + (j : Nat) = ((j : Nat) : Int) := Int.zero_add _
      refine ⟨rfl, _, rfl, p, q, _, rfl, on2.hd, by decide, by decide, fun H4 r hd4 kp4 r0 r1 => ?_⟩
      have on4 := on2.draw hd4 kp4
      have kD4 := kp4 D _ fD.1 fD.2.1 kD
      refine ⟨rfl, _, rfl, ite2 (fun _ => ?_) (fun _ => ⟨on4, c, kD4, sc.skip⟩)⟩
      refine ⟨_, rfl, _, kD4, by have := sc.2.1; rw [List.length_map]; omega, on4.put kD4 fD, c ++ [(0 : Int) + (j : Nat)], by rw [upd_same, List.map_append]; rfl, by rw [z2]; exact sc.add⟩
    rintro H11 ⟨on11, ms, kD, sm⟩
    rw [Int.toNat_natCast] at sm
    refine ⟨D, _, rfl, .inl ⟨.inl (.inl kD), fun v nv => ?_⟩⟩
    have on12 := on11.new (o := .tup (ms.map V.int)) nv
    have kv := upd_same (H := H11) (a := v) (o := .tup (ms.map V.int))
    have fv := on11.free nv
    generalize L2.upd H11 v (.tup (ms.map V.int)) = H12 at on12 kv ⊢
    have ⟨on13, g13⟩ := on12.base
    have kv13 : GB p q H12 v = some (.tup (ms.map V.int)) := gb_at kv ⟨fv.1, fv.2.1⟩ (fun _ z => by cases z)
    have drop : ∀ {H'}, OnT T p q (GB p q H12) H' → OnT T p q G1 H' := fun h => h.drop g13 on10.2.2
    have hTab := hTab.mono g13
    have hK := seqT g13 hK
    have hS := seqT g13 hS
    have hT := hT.mono g13
    have fin := fun H' (h : OnT T p q (GB p q H12) H') => fin H' (drop h)
    clear drop g13 on12 on11 kD nv fv fD nD on10 kv ku4
    generalize GB p q H12 = G2 at on13 kv13 hTab hK hS hT fin
    have lotM := sm.lot n12
    have ldM := lotD_of lotM
    have lm := sm.2.1
    have ov13 : Ov K G2 (.ref v) (.tuple (ms.map PyData.int)) := Ov.ints (sqt kv13)
    have shM : shortD (.tuple (ms.map PyData.int)) := by show (ms.map PyData.int).length ≤ 1000; rw [List.length_map]; omega
    -- a further total
    refine ⟨fun σ H' => (∃ y6 y10 y11 : Option V, σ = [some (.ref p), some (.ref a), some (.ref k), some (.ref t), some (.ref u), some (.ref L), y6, none, some (.ref v), none, y10, y11]) ∧ OnT T p q G2 H', ?_, ?_⟩
    · refine ⟨_, rfl, t, xs, rfl, .inr (seqT on13.le hS), _, _, rfl, rfl, _, rfl, ?_⟩
      by_cases few : ts.length < 12
      · refine ite_eq true (decide_eq_true (by omega)) (iteT ?_)
        have okN := more_ok ok lotM few
        have eI : intsD (.tuple (ms.map PyData.int)) = ms := intsD_ints ms
        have no1 : ∀ w : Str, ((lotD (ks.length : Int) (.tuple (ms.map PyData.int)) = false ∧ w = "total") ∨ (lotD (ks.length : Int) (.tuple (ms.map PyData.int)) = true ∧ 12 ≤ ts.length ∧ w = "size")) → False := fun w h => by
          rcases h with ⟨e, _⟩ | ⟨_, e, _⟩
          · rw [ldM] at e
            cases e
          · omega
        refine ⟨_, rfl, _, rfl, a, .ref v, _, ks, ts, rfl, hTab.mono on13.le, ok, ov13.mono on13.le, shM, fun _ _ => ?_, fun w h => (no1 w h).elim⟩
        rw [eI]
        intro H14 m s14 nm hM
        have on14 := on13.same s14
        refine ⟨_, rfl, _, rfl, _, rfl, _, rfl, by show 1 ≤ sizeLine; decide, fun Z nZ => ?_⟩
        have sZ := same_upd (o := .tup [V.ref v]) nZ
        refine ⟨t, Z, xs, [V.ref v], rfl, rfl, seqT (on14.le.trans sZ) hS, sqt upd_same, by show xs.length + 1 ≤ sizeLine; omega, fun t2 H16 s16 kt2 => ?_⟩
        have s15 := sZ.trans s16
        have on16 := on14.same s15
        refine ⟨m, k, t2, ks, _, _, rfl, hM.mono s15, .inr (seqT on16.le hK), .inr kt2, Tots.snoc (sqt (on16.le _ _ kv13)) (hT.mono on16.le), n12, okN.len, shn_table okN, fun H17 s17 => ?_⟩
        refine ⟨_, rfl, iteF ?_⟩
        have on17 := on16.same s17
        have hM17 := hM.mono (s15.trans s17)
        refine ⟨_, rfl, _, rfl, a, .ref v, _, ks, ts, rfl, hTab.mono on17.le, ok, ov13.mono on17.le, shM, fun _ _ => ?_, fun w h => (no1 w h).elim⟩
        rw [eI]
        intro H18 m1 s18 nm1 hM1
        refine ⟨_, rfl, m1, m, ks, _, rfl, rfl, hM1, hM17.mono s18, ok.kinds.2.2.1, fun H19 s19 => ?_⟩
        refine ⟨_, rfl, iteF ?_⟩
        have on19 := (on17.same s18).same s19
        have hM19 := hM17.mono (s18.trans s19)
        refine ⟨_, rfl, _, rfl, t, xs, rfl, .inr (seqT on19.le hS), by show 1 ≤ sizeLine; decide, fun Y nY => ?_⟩
        have sY := same_upd (o := .tup [V.int (xs.length : Nat)]) nY
        refine ⟨m, Y, [(ts.length : Int)], ks, _, rfl, hM19.mono sY, okN, sqt (by rw [upd_same, lx]; rfl), by show 1 ≤ 1000; decide, ?_⟩
        rw [leftT_last]
        intro H20 m2 s20 nm2 hM2
        have on20 := (on19.same sY).same s20
        refine ⟨_, rfl, m2, a, ks, ts, rfl, rfl, hM2, hTab.mono on20.le, ok.kinds.2.2.1, fun H21 s21 => ?_⟩
        refine ⟨_, rfl, iteF ?_⟩
        exact ⟨⟨_, _, _, rfl⟩, on20.same s21⟩
      · refine ite_eq false (decide_eq_false (by omega)) (iteF ?_)
        refine ⟨on13.2.1, fun H14 ex14 tb14 => ?_⟩
        have on14 := on13.lam ex14 tb14
        refine ⟨_, rfl, _, rfl, a, .ref v, _, ks, ts, rfl, hTab.mono on14.le, ok, ov13.mono on14.le, shM, fun _ l => absurd l few, fun w h H15 x s15 nx hx => ?_⟩
        have ew : w = "size" := by
          rcases h with ⟨e, _⟩ | ⟨_, _, e⟩
          · rw [ldM] at e
            cases e
          · exact e
        subst ew
        refine ⟨rfl, x, _, rfl, hx, rfl, _, rfl, iteF ?_⟩
        exact ⟨⟨_, _, _, rfl⟩, on14.same s15⟩
    rintro σ H13 ⟨⟨y6, y10, y11, rfl⟩, on14⟩
    clear lotM
    have SM : ∀ {H'}, OnT T p q G2 H' → SqT K H' v (ms.map V.int) := fun h => sqt (h.le _ _ kv13)
    have nn : ((ks.length : Nat) : Int) ≤ 12 := by omega
    have small : ∀ {b : Addr} {H' : Hp}, H' b = none → OnT T p q G2 H' → b ≠ p ∧ b ≠ q := fun h o => ⟨(o.free h).1, (o.free h).2.1⟩
    -- wrong values
    have w1 : ∀ H', Wr K (ks.length : Int) H' .non := fun H' => ⟨.none, .non, rfl, trivial⟩
    refine ⟨_, rfl, v, _, rfl, .inr (SM on14), fun l nl => ?_⟩
    have fl := small nl on14
    have on15 := on14.new (o := .lst (ms.map V.int)) nl
    have w2 : Wr K (ks.length : Int) (GB p q (L2.upd H13 l (.lst (ms.map V.int)))) (.ref l) := ⟨_, .lst (gb_at upd_same fl (fun _ z => by cases z)) (ovAll_ints ms), rfl, trivial⟩
    generalize L2.upd H13 l (.lst (ms.map V.int)) = H15 at on15 w2 ⊢
    have w3 : ∀ H', Wr K (ks.length : Int) H' (.int 7) := fun H' => ⟨.int 7, .int 7, rfl, trivial⟩
    refine fun e ne => ?_
    have fe := small ne on15
    have on16 := on15.new (o := .dK []) ne
    have w2 := w2.mono (gb_mono (p := p) (q := q) (same_upd (o := .dK []) ne))
    have w4 : Wr K (ks.length : Int) (GB p q (L2.upd H15 e (.dK []))) (.ref e) := ⟨_, .dct (gb_at upd_same fe (fun _ z => by cases z)), rfl, trivial⟩
    generalize L2.upd H15 e (.dK []) = H16 at on16 w2 w4 ⊢
    refine ⟨_, rfl, k, ks.map V.str, rfl, .inr (seqT on16.le hK), by show 1 ≤ sizeLine; decide, fun b5 n5 => ?_⟩
    have s17 := same_upd (o := .tup [V.int ((ks.map V.str).length : Nat)]) n5
    have on17 := on16.same s17
    have w2 := w2.mono (gb_mono (p := p) (q := q) s17)
    have w4 := w4.mono (gb_mono (p := p) (q := q) s17)
    have w5 : Wr K (ks.length : Int) (GB p q (L2.upd H16 b5 (.tup [V.int ((ks.map V.str).length : Nat)]))) (.ref b5) := wr_tup on17.hd (sqt upd_same) (fun _ => .int _) (by rw [List.length_map]; exact decide_eq_false (fun z => by omega))
    generalize L2.upd H16 b5 (.tup [V.int ((ks.map V.str).length : Nat)]) = H17 at s17 on17 w2 w4 w5 ⊢
    refine ⟨fun x H' => Same H17 H' ∧ Wr K (ks.length : Int) (GB p q H') x, ?_, ?_⟩
    · refine ⟨_, rfl, by show 0 ≤ sizeLine; exact Nat.zero_le _, fun Z nZ => ?_⟩
      have sZ := same_upd (o := .tup []) nZ
      have onZ := on17.same sZ
      refine ⟨dI ms, .tuple [], dp_I (SM onZ), .tup (sqt upd_same) .nil, (gd_dI ms).shaped (by decide), shaped_nil2, _, rfl, ?_⟩
      rw [eqvT_nil]
      generalize L2.upd H17 Z (.tup []) = HZ at sZ onZ ⊢
      by_cases m0 : ms = []
      · rw [decide_eq_true m0]
        refine iteF ⟨by show 2 ≤ sizeLine; decide, fun b n => ?_⟩
        have sb := same_upd (o := .tup [V.int 0, V.int 0]) n
        exact ⟨sZ.trans sb, wr_ints (cs := [0, 0]) (onZ.same sb).hd (sqt upd_same) (fun z => not_asc_dup (ys := []) (x := 0) z.2) (by decide)⟩
      · rw [decide_eq_false m0]
        obtain ⟨ys, x, em⟩ := snocL ms m0
        refine iteT ⟨_, rfl, _, rfl, _, rfl, _, rfl, v, _, rfl, SM onZ, fun t1 H1 s1 kt1 => ?_⟩
        have e1 : cutV (ms.map V.int) (some (-1)) none = [V.int x] := by
          rw [em, List.map_append]
          exact cut_last _ _
        have kt1 : SqT K H1 t1 [V.int x] := by
          rw [← e1]
          exact kt1
        have on1 := onZ.same s1
        refine ⟨v, t1, _, _, rfl, rfl, SM on1, kt1, by rw [List.length_map]; show ms.length + 1 ≤ sizeLine; omega, fun t2 H2 s2 kt2 => ?_⟩
        have kt2 : SqT K H2 t2 ((ms ++ [x]).map V.int) := by
          rw [List.map_append]
          exact kt2
        refine ⟨(sZ.trans s1).trans s2, wr_ints (on1.same s2).hd kt2 (fun z => ?_) (by rw [List.length_append]; show ms.length + 1 ≤ 1000; omega)⟩
        have z2 := z.2
        rw [em] at z2
        exact not_asc_dup z2
    rintro x6 H18 ⟨s18, w6⟩
    have on18 := on17.same s18
    have w2 := w2.mono (gb_mono (p := p) (q := q) s18)
    have w4 := w4.mono (gb_mono (p := p) (q := q) s18)
    have w5 := w5.mono (gb_mono (p := p) (q := q) s18)
    refine ⟨_, _, rfl, rfl, by show 1 ≤ sizeLine; decide, fun b7 n7 => ?_⟩
    have s19 := same_upd (o := .tup [V.int (0 - 1)]) n7
    have on19 := on18.same s19
    have w2 := w2.mono (gb_mono (p := p) (q := q) s19)
    have w4 := w4.mono (gb_mono (p := p) (q := q) s19)
    have w5 := w5.mono (gb_mono (p := p) (q := q) s19)
    have w6 := w6.mono (gb_mono (p := p) (q := q) s19)
    have w7 : Wr K (ks.length : Int) (GB p q (L2.upd H18 b7 (.tup [V.int (0 - 1)]))) (.ref b7) := wr_tup on19.hd (sqt upd_same) (fun _ => .int _) (show decide ((0 : Int) ≤ 0 - 1 ∧ (0 : Int) - 1 < ((ks.length : Nat) : Int)) = false from decide_eq_false (fun z => by omega))
    generalize L2.upd H18 b7 (.tup [V.int (0 - 1)]) = H19 at s19 on19 w2 w4 w5 w6 w7 ⊢
    refine ⟨by show 1 ≤ sizeLine; decide, fun b8 n8 => ?_⟩
    have s20 := same_upd (o := .tup [V.bl true]) n8
    have on20 := on19.same s20
    have w2 := w2.mono (gb_mono (p := p) (q := q) s20)
    have w4 := w4.mono (gb_mono (p := p) (q := q) s20)
    have w5 := w5.mono (gb_mono (p := p) (q := q) s20)
    have w6 := w6.mono (gb_mono (p := p) (q := q) s20)
    have w7 := w7.mono (gb_mono (p := p) (q := q) s20)
    have w8 : Wr K (ks.length : Int) (GB p q (L2.upd H19 b8 (.tup [V.bl true]))) (.ref b8) := wr_tup on20.hd (sqt upd_same) (fun _ => .bl _) rfl
    generalize L2.upd H19 b8 (.tup [V.bl true]) = H20 at s20 on20 w2 w4 w5 w6 w7 w8 ⊢
    refine ⟨by show 1 ≤ sizeLine; decide, fun b9 n9 => ?_⟩
    have s21 := same_upd (o := .tup [V.non]) n9
    have on21 := on20.same s21
    have w2 := w2.mono (gb_mono (p := p) (q := q) s21)
    have w4 := w4.mono (gb_mono (p := p) (q := q) s21)
    have w5 := w5.mono (gb_mono (p := p) (q := q) s21)
    have w6 := w6.mono (gb_mono (p := p) (q := q) s21)
    have w7 := w7.mono (gb_mono (p := p) (q := q) s21)
    have w8 := w8.mono (gb_mono (p := p) (q := q) s21)
    have w9 : Wr K (ks.length : Int) (GB p q (L2.upd H20 b9 (.tup [V.non]))) (.ref b9) := wr_tup on21.hd (sqt upd_same) (fun _ => .non) rfl
    generalize L2.upd H20 b9 (.tup [V.non]) = H21 at s21 on21 w2 w4 w5 w6 w7 w8 w9 ⊢
    refine ⟨by show 1 ≤ sizeLine; decide, fun b10 n10 => ?_⟩
    have s22 := same_upd (o := .tup [V.str ("a" : String)]) n10
    have on22 := on21.same s22
    have w2 := w2.mono (gb_mono (p := p) (q := q) s22)
    have w4 := w4.mono (gb_mono (p := p) (q := q) s22)
    have w5 := w5.mono (gb_mono (p := p) (q := q) s22)
    have w6 := w6.mono (gb_mono (p := p) (q := q) s22)
    have w7 := w7.mono (gb_mono (p := p) (q := q) s22)
    have w8 := w8.mono (gb_mono (p := p) (q := q) s22)
    have w9 := w9.mono (gb_mono (p := p) (q := q) s22)
    have w10 : Wr K (ks.length : Int) (GB p q (L2.upd H21 b10 (.tup [V.str ("a" : String)]))) (.ref b10) := wr_tup on22.hd (sqt upd_same) (fun _ => .str _) rfl
    generalize L2.upd H21 b10 (.tup [V.str ("a" : String)]) = H22 at s22 on22 w2 w4 w5 w6 w7 w8 w9 w10 ⊢
    refine ⟨_, rfl, by show 1 ≤ sizeLine; decide, fun Z nZ => ?_⟩
    have sZ := same_upd (o := .tup [V.int 99]) nZ
    refine ⟨v, Z, _, _, rfl, rfl, SM (on22.same sZ), sqt upd_same, by rw [List.length_map]; show ms.length + 1 ≤ sizeLine; omega, fun b11 H23 s23 k11 => ?_⟩
    have k11 : SqT K H23 b11 ((ms ++ [99]).map V.int) := by
      rw [List.map_append]
      exact k11
    have s23 := sZ.trans s23
    have on23 := on22.same s23
    have w2 := w2.mono (gb_mono (p := p) (q := q) s23)
    have w4 := w4.mono (gb_mono (p := p) (q := q) s23)
    have w5 := w5.mono (gb_mono (p := p) (q := q) s23)
    have w6 := w6.mono (gb_mono (p := p) (q := q) s23)
    have w7 := w7.mono (gb_mono (p := p) (q := q) s23)
    have w8 := w8.mono (gb_mono (p := p) (q := q) s23)
    have w9 := w9.mono (gb_mono (p := p) (q := q) s23)
    have w10 := w10.mono (gb_mono (p := p) (q := q) s23)
    have w11 : Wr K (ks.length : Int) (GB p q H23) (.ref b11) := wr_ints on23.hd k11 (fun z => by have := (z.1 99 (List.mem_append_right _ (List.mem_singleton.mpr rfl))).2; omega) (by rw [List.length_append]; show ms.length + 1 ≤ 1000; omega)
    refine ⟨by show 2 ≤ sizeLine; decide, fun b12 n12' => ?_⟩
    have s24 := same_upd (o := .tup [V.int 1, V.int 0]) n12'
    have on24 := on23.same s24
    have w2 := w2.mono (gb_mono (p := p) (q := q) s24)
    have w4 := w4.mono (gb_mono (p := p) (q := q) s24)
    have w5 := w5.mono (gb_mono (p := p) (q := q) s24)
    have w6 := w6.mono (gb_mono (p := p) (q := q) s24)
    have w7 := w7.mono (gb_mono (p := p) (q := q) s24)
    have w8 := w8.mono (gb_mono (p := p) (q := q) s24)
    have w9 := w9.mono (gb_mono (p := p) (q := q) s24)
    have w10 := w10.mono (gb_mono (p := p) (q := q) s24)
    have w11 := w11.mono (gb_mono (p := p) (q := q) s24)
    have w12 : Wr K (ks.length : Int) (GB p q (L2.upd H23 b12 (.tup [V.int 1, V.int 0]))) (.ref b12) := wr_ints (cs := [1, 0]) on24.hd (sqt upd_same) (fun z => by have : (1 : Int) < 0 := z.2.1; omega) (by decide)
    generalize L2.upd H23 b12 (.tup [V.int 1, V.int 0]) = H24 at s24 on24 w2 w4 w5 w6 w7 w8 w9 w10 w11 w12 ⊢
    refine ⟨by show 12 ≤ sizeLine; decide, fun W nW => ?_⟩
    have fW := small nW on24
    have sW := same_upd (o := .lst [V.non, V.ref l, V.int 7, V.ref e, V.ref b5, x6, V.ref b7, V.ref b8, V.ref b9, V.ref b10, V.ref b11, V.ref b12]) nW
    have on25 := on24.same sW
    have all : ∀ x ∈ [V.non, V.ref l, V.int 7, V.ref e, V.ref b5, x6, V.ref b7, V.ref b8, V.ref b9, V.ref b10, V.ref b11, V.ref b12], Wr K (ks.length : Int) (GB p q H24) x := fun x hx => by
      simp only [List.mem_cons, List.not_mem_nil, or_false] at hx
      rcases hx with rfl | rfl | rfl | rfl | rfl | rfl | rfl | rfl | rfl | rfl | rfl | rfl
      · exact w1 _
      · exact w2
      · exact w3 _
      · exact w4
      · exact w5
      · exact w6
      · exact w7
      · exact w8
      · exact w9
      · exact w10
      · exact w11
      · exact w12
    refine ⟨_, rfl, _, rfl, p, q, W, _, rfl, on25.hd, upd_same, fW.1, fW.2, by simp, by show 12 < 1000000; decide, fun H26 x hd26 kp26 hx => ?_⟩
    obtain ⟨dd, ov, no, sh⟩ := (all x hx).mono (gb_mono (p := p) (q := q) sW)
    have on26 := on25.draw hd26 kp26
    have ⟨onB, _⟩ := on25.base
    have onB26 := onB.draw hd26 kp26
    refine ⟨on26.2.1, fun H27 ex27 tb27 => ?_⟩
    have on27 := on26.lam ex27 tb27
    have onB27 := onB26.lam ex27 tb27
    refine ⟨_, rfl, _, rfl, a, x, dd, ks, ts, rfl, hTab.mono on27.le, ok, ov.mono onB27.le, sh, fun h => (by rw [no] at h; cases h), fun w h H28 y s28 ny hy => ?_⟩
    have ew : w = "total" := by
      rcases h with ⟨_, e⟩ | ⟨e, _⟩
      · exact e
      · rw [no] at e
        cases e
    subst ew
    refine ⟨rfl, y, _, rfl, hy, rfl, ?_⟩
    have q9 := fin _ (on27.same s28)
    rw [← show (V.bl (decide (V.str ("total" : String) = V.str ("total" : String)))) = V.bl true from congrArg V.bl (decide_eq_true rfl)] at q9
    exact q9
end
end K03
namespace K03
open PySem PySem.Spec PyProof.Rows L2 VG FR CK HD
abbrev s__law_kinds_right : Stmt := topS 48
abbrev N__law_kinds_right : List Str := ["heap", "table", "kinds", "totals", "share", "left", "due", "told", "out", "kind", "total"]
theorem sc__law_kinds_right : FnScope N__law_kinds_right ["heap", "table", "kinds", "totals"] (defScope s__law_kinds_right) := ⟨rfl, rfl, rfl, by decide +kernel, rfl, by decide +kernel, by decide +kernel⟩
section
variable {P : Program} {w : World} {K : PySem.W.Frag} {mg : Str → Option Value} {base : Heap}
theorem ok__law_kinds_right {f c0 Pt C R : Addr} {fd : FuncData} {T : List (Addr × Str)} (F : FunC K "_law_kinds_right" "_law_kinds_right" s__law_kinds_right f fd c0) (TC : TabC K C)
    (hrd : Hrd K mg R) (TB : LamX.TabB base mg c0 Pt) (inT : (Pt, lamQ (("_law_kinds_right" : Str) ++ ".<locals>.")) ∈ T) (oneT : ∀ p ∈ T, p.1 = Pt → p.2 = lamQ (("_law_kinds_right" : Str) ++ ".<locals>."))
    (EQ : EqC P w K mg base C) (G__law_is : ClG P w K mg base 1 "_law_is" (spIs K C)) (C__law_draw : Cl P w K mg base 1 "_law_draw" spDraw)
    (X_without_kinds : ClX P w K mg base 9 "without_kinds" (spLess2 K C R)) (C_without_kinds : Cl P w K mg base 9 "without_kinds" (fun vs H Q _ => spLess2 K C R vs H Q E0)) (CR_without_kinds : ClR P w K mg base 9 "without_kinds" ["kinds", "table"] (fun vs H Q _ => spLess2 K C R vs H Q E0))
    (z_len : mg "len" = none) (z_tuple : mg "tuple" = none) (z_range : mg "range" = none) : FnG P w K mg base 15 f fd ["heap", "table", "kinds", "totals"] (spJ2 K C T) := by
  refine fnGC_of F sc__law_kinds_right (fun vs H Q E h => ?_) (fun A outer s H vs Q E hg hr h => ?_)
  · obtain ⟨_, _, _, _, _, _, _, _, rfl, _⟩ := h
    rfl
  · obtain ⟨p, q, a, k, t, ks, xs, ts, rfl, hd, hTab, hK, hS, hT, ok, tbs, fin⟩ := h
    refine ⟨_, (pss_cut (ps_for PassesOwn.never rfl (pi_list (pe_lst (pa_cons pe_int (pa_cons pe_int (pa_cons pe_int pa_nil))))) (pg_name (i := 4) sc__law_kinds_right.nd rfl (.inr rfl))
      (pss_cons (ps_set (i := 8) sc__law_kinds_right.nd rfl (.inr rfl) (pe_callTy call_tuple_of (by rfl) z_tuple (by decide +kernel) (pa_cons (pe_lc (own := [("kind", 9)]) (by rfl) sc__law_kinds_right.nd (pi_range1 (by rfl) z_range (pa_cons (pe_callB call_len_seq (by rfl) z_len (by decide +kernel) (pa_cons (pv 2) pa_nil)) pa_nil)) (blkOk_by (own := [("kind", 9)]) (N := N__law_kinds_right) (sc := defScope s__law_kinds_right) (by decide +kernel)) (fun _ _ _ _ _ => (pg_name (i := 9) sc__law_kinds_right.nd rfl (.inl rfl))) (fun _ _ _ _ _ => (pts_one (pt_cmpR op_eq (pe_cl C__law_draw hr (by decide) rfl (pa_cons (pv 0) (pa_cons (pv 4) pa_nil))) pe_int (nomark _)))) (fun _ _ _ _ _ => (pv 9))) pa_nil)))
      (pss_cons (ps_set (i := 5) sc__law_kinds_right.nd rfl (.inr rfl) (pe_lc (own := [("kind", 9)]) (by rfl) sc__law_kinds_right.nd (pi_range1 (by rfl) z_range (pa_cons (pe_callB call_len_seq (by rfl) z_len (by decide +kernel) (pa_cons (pv 2) pa_nil)) pa_nil)) (blkOk_by (own := [("kind", 9)]) (N := N__law_kinds_right) (sc := defScope s__law_kinds_right) (by decide +kernel)) (fun _ _ _ _ _ => (pg_name (i := 9) sc__law_kinds_right.nd rfl (.inl rfl))) (fun _ _ _ _ _ => (pts_one (pt_cmpR (show OpR _ (compareOp .NotIn) (rIn K true) from op_notIn_seq) (pv 9) (pv 8) rfl))) (fun _ _ _ _ _ => (pv 9))))
      (pss_cons (ps_if (pt_cmpR (op_eqD hr.units) (pv 5) (pe_lst pa_nil) (nomark _))
        (pss_cons (ps_if (pt_cmpR op_ne (pe_heard (k := 9) (T := T) hrd rfl TB rfl inT oneT (hr.mono (by decide)) (show LamX.LamS (defScope s__law_kinds_right) _ from LamX.lamS_by (by decide +kernel)) rfl (fun _ _ _ _ _ => rfl) (fun A2 outer2 s2 H2 E2 f2 c2 hr2 => pe_clx X_without_kinds hr2 (by decide) (takes_of (E := E2) rfl rfl rfl rfl) rfl (pa_cons (pv 1) (pa_cons (pv 8) pa_nil)))) pe_str (nomark _))
          (pss_one (ps_ret pe_bl))
          pss_nil)
        (pss_one ps_continue))
        pss_nil)
      (pss_cons (ps_setLc (i := 6) (own := [("total", 10)]) (by rfl) sc__law_kinds_right.nd rfl rfl (sw_true rfl rfl rfl (by decide +kernel)) (pi_tup (pv 3)) (blkOk_by (own := [("total", 10)]) (N := N__law_kinds_right) (sc := defScope s__law_kinds_right) (by decide +kernel)) (fun _ _ _ _ _ => (pg_name (i := 10) sc__law_kinds_right.nd rfl (.inl rfl))) (fun _ _ _ _ _ => pts_nil) (fun _ _ _ _ _ => (pe_callTy (show CallR _ (.type "tuple") (rTupOf K) from call_tupK) (by rfl) z_tuple (by decide +kernel) (pa_cons (pe_lc (own := [("kind", 9)]) (by rfl) sc__law_kinds_right.nd (show PI _ _ _ (iTup K _) from pi_tup (pv 10)) (blkOk_by (own := [("kind", 9)]) (N := N__law_kinds_right) (sc := { kind := .function, names := [((".0" : String), .local), (("total" : String), .local), (("tuple" : String), .globalImplicit), (("left" : String), .cell)], isGenerator := false, isCoroutine := false }) (by decide +kernel)) (fun _ _ _ _ _ => (pg_name (i := 9) sc__law_kinds_right.nd rfl (.inl rfl))) (fun _ _ _ _ _ => (pts_one (pt_cmpR (show OpR _ (compareOp .In) (rIn K false) from op_in_seq) (pv 9) (pv 5) rfl))) (fun _ _ _ _ _ => (show PE _ _ (tBM K "list" (rIndex K) (tVar 5) (tCons (tVar 9) tNil)) from pe_bm PySem.F.plainAttrs_list PySem.F.slot_list_index PySem.F.type_list_index mt_index (pv 5) (pa_cons (pv 9) pa_nil)))) pa_nil))))
      (pss_cons (ps_set (i := 7) sc__law_kinds_right.nd rfl (.inl rfl) (pe_cl C_without_kinds hr (by decide) rfl (pa_cons (pv 1) (pa_cons (pv 8) pa_nil))))
      (pss_one (ps_if (PW.pt (pw_or (pt_not (pt_val (pe_clg G__law_is hg hr (by decide) rfl (pa_cons (pv 7) (pa_cons (pe_lc (own := [("kind", 9)]) (by rfl) sc__law_kinds_right.nd (pi_list (pv 5)) (blkOk_by (own := [("kind", 9)]) (N := N__law_kinds_right) (sc := defScope s__law_kinds_right) (by decide +kernel)) (fun _ _ _ _ _ => (pg_name (i := 9) sc__law_kinds_right.nd rfl (.inl rfl))) (fun _ _ _ _ _ => pts_nil) (fun _ _ _ _ _ => (pe_ix (show IxR _ (rIxT K) from ix_tup) (pv 2) (pv 9) (fun _ _ => rfl)))) (pa_cons (pv 6) pa_nil)))))) (pw_or1 (pt_not (pt_cmpR (op_eqTab EQ (hr.mono (by decide))) (pe_clr CR_without_kinds hr (by decide) rfl (pk_cons (pv 8) (pk_cons (pv 1) pk_nil))) (pv 7) (nomark _))))))
        (pss_one (ps_ret pe_bl))
        pss_nil))))))))
    (pss_one (ps_ret pe_bl))), ?_⟩
    have big : sizeLine = 16777216 := by decide
    have n12 := ok.kinds.2.1
    have l12 := ok.len
    have lx := hT.len
    have on0 := OnT.start (T := T) hd tbs
    generalize GB p q H = G at hTab hK hS hT fin on0
    refine ⟨fun σ H' => OnT T p q G H', ?_, ?_⟩
    · refine ⟨by show 3 ≤ sizeLine; decide, fun Sh nSh => ?_⟩
      have fSh := on0.free nSh
      have on1 := on0.new (o := .lst [V.int 3, V.int 2, V.int 1]) nSh
      have kSh := upd_same (H := H) (a := Sh) (o := .lst [V.int 3, V.int 2, V.int 1])
      generalize L2.upd H Sh (.lst [V.int 3, V.int 2, V.int 1]) = H1 at on1 kSh ⊢
      have ⟨on2, g2⟩ := on1.base
      have kS2 : GB p q H1 Sh = some (.lst [V.int 3, V.int 2, V.int 1]) := gb_at kSh ⟨fSh.1, fSh.2.1⟩ (fun _ z => by cases z)
      have hTab := hTab.mono g2
      have hK := seqT g2 hK
      have hS := seqT g2 hS
      have hT := hT.mono g2
      have fin : ∀ {H'}, OnT T p q (GB p q H1) H' → OnT T p q G H' := fun h => h.drop g2 on0.2.2
      clear on1 kSh nSh fSh
      generalize GB p q H1 = G1 at on2 kS2 hTab hK hS hT fin
      refine ⟨Sh, rfl, ⟨_, .inl (.inl (on2.le _ _ kS2))⟩, ?_⟩
      refine for_it (walk_list (K := K) (a := Sh) (xs := [V.int 3, V.int 2, V.int 1])) (fun i σ H' => (∃ y4 y5 y6 y7 y8 y9 y10 : Option V, σ = [some (.ref p), some (.ref a), some (.ref k), some (.ref t), y4, y5, y6, y7, y8, y9, y10]) ∧ OnT T p q G1 H') ⟨⟨_, _, _, _, _, _, _, rfl⟩, on2⟩ (fun i σ H' _ h => .inl (.inl (h.2.le _ _ kS2))) ?_ ?_
      · rintro i x σ H3 H4 hi ⟨⟨y4, y5, y6, y7, y8, y9, y10, rfl⟩, on3⟩ ⟨rfl, ex⟩
        obtain ⟨sh, rfl, sh0, sh1⟩ : ∃ i : Int, x = .int i ∧ 0 < i ∧ i < 1073741824 := by
          have hx := List.mem_of_getElem? ex
          simp only [List.mem_cons, List.not_mem_nil, or_false] at hx
          rcases hx with e | e | e
          · exact ⟨3, e, by decide, by decide⟩
          · exact ⟨2, e, by decide, by decide⟩
          · exact ⟨1, e, by decide, by decide⟩
        -- out
        refine ⟨_, rfl, k, ks.map V.str, rfl, .inr (seqT on3.le hK), _, rfl, by omega, by rw [List.length_map]; omega, fun D nD => ?_⟩
        rw [List.length_map]
        have fD := on3.free nD
        refine lc_it (walk_range (lo := 0) (n := ((ks.length : Nat) : Int).toNat)) (fun j H' => OnT T p q G1 H' ∧ ∃ c : List Int, H' D = some (.lst (c.map V.int)) ∧ Somes j c) ⟨on3.new nD, [], upd_same, Somes.nil⟩ (fun _ _ _ _ => trivial) ?_ ?_
        · rintro j x H5 H6 hj ⟨on5, c, kD, sc⟩ ⟨rfl, rfl⟩
          have hj2 : j < ks.length := by have : j < ((ks.length : Nat) : Int).toNat := hj; omega
          have z2 : (0 : Int) + (j : Nat) = ((j : Nat) : Int) := Int.zero_add _
          refine ⟨rfl, _, rfl, _, rfl, p, q, _, rfl, on5.hd, sh0, sh1, fun H7 r hd7 kp7 r0 r1 => ?_⟩
          have on7 := on5.draw hd7 kp7
          have kD7 := kp7 D _ fD.1 fD.2.1 kD
          refine ⟨rfl, _, rfl, ite2 (fun _ => ?_) (fun _ => ⟨on7, c, kD7, sc.skip⟩)⟩
          refine ⟨_, rfl, _, kD7, by have := sc.2.1; rw [List.length_map]; omega, on7.put kD7 fD, c ++ [(0 : Int) + (j : Nat)], by rw [upd_same, List.map_append]; rfl, by rw [z2]; exact sc.add⟩
        rintro H5 ⟨on5, os, kD, so⟩
        rw [Int.toNat_natCast] at so
        refine ⟨D, _, rfl, .inl ⟨.inl (.inl kD), fun u nu => ?_⟩⟩
        have on6 := on5.new (o := .tup (os.map V.int)) nu
        have ku := upd_same (H := H5) (a := u) (o := .tup (os.map V.int))
        have fu := on5.free nu
        generalize L2.upd H5 u (.tup (os.map V.int)) = H6 at on6 ku ⊢
        have ⟨on7, g7⟩ := on6.base
        have ku7 : GB p q H6 u = some (.tup (os.map V.int)) := gb_at ku ⟨fu.1, fu.2.1⟩ (fun _ z => by cases z)
        have hTab := hTab.mono g7
        have hK := seqT g7 hK
        have hS := seqT g7 hS
        have hT := hT.mono g7
        have back : ∀ {H'}, OnT T p q (GB p q H6) H' → OnT T p q G1 H' := fun h => h.drop g7 on3.2.2
        clear on6 ku nu fu kD on5 fD nD g7
        generalize GB p q H6 = G2 at on7 ku7 hTab hK hS hT back
        have lo := so.2.1
        -- left
        refine ⟨_, rfl, k, ks.map V.str, rfl, .inr (seqT on7.le hK), _, rfl, by omega, by rw [List.length_map]; omega, fun L nL => ?_⟩
        rw [List.length_map]
        refine lc_it (walk_range (lo := 0) (n := ((ks.length : Nat) : Int).toNat)) (fun j H' => Same H6 H' ∧ H' L = some (.lst ((leftK os j).map V.int))) ⟨same_upd nL, upd_same⟩ (fun _ _ _ _ => trivial) ?_ ?_
        · rintro j x H8 H9 hj ⟨s8, kL⟩ ⟨rfl, rfl⟩
          have hj2 : j < ks.length := by have : j < ((ks.length : Nat) : Int).toNat := hj; omega
          have z2 : (0 : Int) + (j : Nat) = ((j : Nat) : Int) := Int.zero_add _
          refine ⟨rfl, _, rfl, _, rfl, u, os.map V.int, rfl, .inr (sqt ((on7.le.trans s8) _ _ ku7)), rfl, CK.flat_ints os, _, rfl, ?_⟩
          rw [inV_ints, z2]
          cases hk : os.contains ((j : Nat) : Int) with
          | false =>
            refine iteT ⟨_, rfl, _, kL, ?_, HD.same_put s8 nL, ?_⟩
            · have := leftK_len os j
              rw [List.length_map]
              omega
            · rw [upd_same, leftK_yes hk, List.map_append]
              show some (HO.lst (_ ++ [V.int ((0 : Int) + (j : Nat))])) = _
              rw [z2]
              rfl
          | true =>
            refine iteF ⟨s8, ?_⟩
            rw [leftK_no hk]
            exact kL
        rintro H8 ⟨s8, kL⟩
        rw [Int.toNat_natCast] at kL
        have on8 := on7.same s8
        have mem := fun x (h : x ∈ leftK os ks.length) => leftK_mem h
        have lenL := leftK_len os ks.length
        have okF := fun (h : leftK os ks.length ≠ []) => less_ok (os := os) ok h
        generalize hLK : leftK os ks.length = LK at kL mem lenL okF
        -- is one left?
        refine ⟨_, rfl, by show 0 ≤ sizeLine; exact Nat.zero_le _, fun Z nZ => ?_⟩
        have sZ := same_upd (o := .lst []) nZ
        refine ⟨_, _, dp_ints (K := K) (.inl (.inl (sZ _ _ kL))), dp_ints (K := K) (cs := []) (.inl (.inl upd_same)), shaped_ints LK, shaped_nil, _, rfl, ?_⟩
        rw [show PyData.eqv (.list (LK.map PyData.int)) (.list (([] : List Int).map PyData.int)) = decide (LK = []) from eqv_nil LK]
        have on9 := on8.same sZ
        have kL9 := sZ _ _ kL
        generalize L2.upd H8 Z (.lst []) = H9 at sZ on9 kL9 ⊢
        by_cases l0 : LK = []
        · rw [decide_eq_true l0]
          refine iteT ⟨on9.2.1, fun H10 ex10 tb10 => ?_⟩
          have on10 := on9.lam ex10 tb10
          refine ⟨_, rfl, _, rfl, a, u, os, ks, ts, rfl, hTab.mono on10.le, ok, sqt (on10.le _ _ ku7), by omega, fun h => absurd (hLK.trans l0) h, fun _ H11 y s11 ny hy => ⟨rfl, y, _, rfl, hy, rfl, _, rfl, iteF ?_⟩⟩
          exact ⟨⟨_, _, _, _, _, _, _, rfl⟩, back (on10.same s11)⟩
        · rw [decide_eq_false l0]
          refine iteF ?_
          have okN := okF l0
          -- what is due
          refine ⟨_, rfl, t, rfl, ⟨_, seqT on9.le hS⟩, fun D nD => ?_⟩
          refine lc_it (walk_tup (K := K) (a := t) (xs := xs)) (fun i H' => Same H9 H' ∧ ∃ ys, H' D = some (.lst ys) ∧ Tots K H' ys ((ts.take i).map (newT LK))) ⟨same_upd nD, [], upd_same, trivial⟩ (fun i H' _ h => seqT (on9.le.trans h.1) hS) ?_ ?_
          · rintro i v H10 H11 hi ⟨s10, ys, hD, hY⟩ ⟨rfl, ex⟩
            obtain ⟨tt, c, rfl, ec, ht⟩ := hT.get ex
            have okc := ok.lots c (List.mem_of_getElem? ec)
            have lc := lot_small okc
            have sA := on9.le.trans s10
            have ht2 := seqT sA ht
            refine ⟨rfl, _, rfl, tt, rfl, ⟨_, ht2⟩, fun B nB => ?_⟩
            refine lc_it (walk_tup (K := K) (a := tt) (xs := c.map V.int)) (fun i H' => Same H11 H' ∧ H' B = some (.lst ((newT LK (c.take i)).map V.int))) ⟨same_upd nB, upd_same⟩ (fun i H' _ h => seqT h.1 ht2) ?_ ?_
            · rintro j v H12 H13 hj ⟨s12, kB⟩ ⟨rfl, ex2⟩
              rw [List.getElem?_map] at ex2
              obtain ⟨x, exx, rfl⟩ := Option.map_eq_some_iff.mp ex2
              have kL12 := (s10.trans s12) _ _ kL9
              refine ⟨rfl, _, rfl, _, rfl, L, LK.map V.int, rfl, .inl (.inl (.inl kL12)), rfl, flat_ints LK, _, rfl, ?_⟩
              rw [inV_ints]
              have na := newT_add (ls := LK) exx
              cases hc : LK.contains x with
              | true =>
                have hx : x ∈ LK := by simpa using hc
                rw [hc, if_pos rfl] at na
                refine iteT ⟨_, rfl, .inl ⟨rfl, _, .inl (.inl kL12)⟩, _, rfl, L, LK.map V.int, .int x, LK.idxOf x, .int x, rfl, rfl, .inl (.inl kL12), rfl, flat_ints LK, by rw [List.getElem?_map, plc_at hx]; rfl, by simp [eqV], fun m' z' hm hz => ?_, _, kB, ?_, HD.same_put s12 nB, ?_⟩
                · rw [List.getElem?_map] at hz
                  obtain ⟨y, ey, rfl⟩ := Option.map_eq_some_iff.mp hz
                  have ne : y ≠ x := fun z => plc_first hm (by rw [ey, z])
                  simp [eqV, ne]
                · have := newT_len LK c j
                  rw [List.length_map]
                  omega
                · rw [upd_same, na, List.map_append]
                  rfl
              | false =>
                rw [hc, if_neg Bool.false_ne_true, List.append_nil] at na
                refine iteF ⟨s12, ?_⟩
                rw [na]
                exact kB
            · rintro H12 ⟨s12, kB⟩
              rw [List.length_map, List.take_length] at kB
              refine ⟨B, _, rfl, .inl ⟨.inl (.inl kB), fun r nr => ?_⟩⟩
              have sr := same_upd (o := .tup ((newT LK c).map V.int)) nr
              have s46 := s12.trans sr
              have hD6 := s46 _ _ hD
              refine ⟨ys, hD6, ?_, HD.same_put (s10.trans s46) nD, ys ++ [.ref r], upd_same, ?_⟩
              · have := hY.len
                rw [List.length_map, List.length_take] at this
                omega
              · rw [List.take_add_one, ec, List.map_append]
                exact Tots.upd hD6 (Tots.snoc (sqt upd_same) (hY.mono s46))
          rintro H10 ⟨s10, ys, hD, hY⟩
          rw [lx, List.take_length] at hY
          have on10 := on9.same s10
          have kL10 := s10 _ _ kL9
          -- what is told
          refine ⟨_, rfl, _, rfl, a, u, os, ks, ts, rfl, hTab.mono on10.le, ok, sqt (on10.le _ _ ku7), by omega, fun _ => ⟨by rw [hLK]; exact okN, ?_⟩, fun z => absurd (hLK.symm.trans z) l0⟩
          rw [hLK]
          intro H11 m s11 nm hM
          have on11 := on10.same s11
          have kL11 := s11 _ _ kL10
          refine ⟨_, rfl, _, rfl, L, rfl, ⟨_, .inl (.inl kL11)⟩, fun N nN => ?_⟩
          refine lc_it (walk_list (K := K) (a := L) (xs := LK.map V.int)) (fun i H' => Same H11 H' ∧ H' N = some (.lst (((LK.take i).map fun x => ks.getD x.toNat Str.empty).map V.str))) ⟨same_upd nN, upd_same⟩ (fun i H' _ h => .inl (.inl (h.1 _ _ kL11))) ?_ ?_
          · rintro i v H12 H13 hi ⟨s12, hN⟩ ⟨rfl, ex⟩
            rw [List.getElem?_map] at ex
            obtain ⟨x, el, rfl⟩ := Option.map_eq_some_iff.mp ex
            obtain ⟨j, hj, rfl⟩ := mem x (List.mem_of_getElem? el)
            have ej := nameD_at (ks := ks) hj
            refine ⟨rfl, _, rfl, _, rfl, k, _, _, .str (ks.getD j Str.empty), rfl, rfl, seqT (on11.le.trans s12) hK, atI_nat (j := j) (by rw [List.getElem?_map, ej]; rfl), _, hN, ?_, HD.same_put s12 nN, ?_⟩
            · rw [List.length_map, List.length_map, List.length_take]
              omega
            · rw [upd_same, List.take_add_one, el, List.map_append, List.map_append]
              rfl
          rintro H12 ⟨s12, hN⟩
          rw [List.length_map, List.take_length] at hN
          have s112 := s11.trans s12
          refine ⟨_, rfl, m, N, D, _, _, ys, rfl, hM.mono s12, .inl (.inl (.inl hN)), .inl (.inl (.inl (s112 _ _ hD))), hY.mono s112, by rw [List.length_map]; omega, by rw [List.length_map]; exact l12, shn_table okN, fun H13 s13 => ?_⟩
          refine ⟨_, rfl, iteF ?_⟩
          have on13 := (on11.same s12).same s13
          refine ⟨_, rfl, _, rfl, a, u, os, ks, ts, rfl, hTab.mono on13.le, ok, sqt (on13.le _ _ ku7), by omega, fun _ => ⟨by rw [hLK]; exact okN, ?_⟩, fun z => absurd (hLK.symm.trans z) l0⟩
          rw [hLK]
          intro H14 m1 s14 nm1 hM1
          refine ⟨_, rfl, m1, m, _, _, rfl, rfl, hM1, hM.mono ((s12.trans s13).trans s14), okN.kinds.2.2.1, fun H15 s15 => ?_⟩
          refine ⟨_, rfl, iteF ?_⟩
          exact ⟨⟨_, _, _, _, _, _, _, rfl⟩, back ((on13.same s14).same s15)⟩
      · rintro σ H3 ⟨_, on3⟩
        exact fin on3
    · rintro σ H3 on3
      exact fin _ on3
end
end K03
namespace CK
open PySem PySem.Spec PyProof.Rows L2 VG FR HD
theorem ascS_pw {ks : List Str} (h : AscS ks) : ks.Pairwise fun a b => a.cps.toList < b.cps.toList := by
  rw [List.pairwise_iff_getElem]
  intro i j hi hj lt
  have := asc_far h (j - i - 1) i ks[i] ks[j] (List.getElem?_eq_getElem hi) (by
    have e : i + (j - i - 1) + 1 = j := by omega
    rw [e]
    exact List.getElem?_eq_getElem hj)
  exact this
theorem ascS_uniq {a b : List Str} (ha : AscS a) (hb : AscS b) (h : a.Perm b) : a = b :=
  List.Perm.eq_of_pairwise (le := fun a b : Str => a.cps.toList < b.cps.toList) (fun a b _ _ h1 h2 => absurd (List.lt_trans h1 h2) (List.lt_irrefl _)) (ascS_pw ha) (ascS_pw hb) h
theorem letters_all {c : Nat} (h : 97 ≤ c ∧ c ≤ 122) : c ∈ cLETTERS.cps.toList := by
  have all : ∀ i : Fin 26, 97 + i.1 ∈ cLETTERS.cps.toList := by decide +kernel
  have := all ⟨c - 97, by omega⟩
  have e : 97 + (c - 97) = c := by omega
  rw [← e]
  exact this
theorem nameB_of {z : Str} (h : NameOk z) : nameB z = true := by
  unfold nameB
  rw [Bool.and_eq_true]
  exact ⟨decide_eq_true ⟨h.1, h.2.1⟩, List.all_eq_true.mpr fun c hc => decide_eq_true (letters_all (h.2.2 c hc))⟩
theorem strsD_strs (ks : List Str) : strsD (.tuple (ks.map PyData.str)) = ks := by
  show (ks.map PyData.str).map strD = ks
  rw [List.map_map]
  exact (List.map_congr_left fun x _ => rfl).trans (List.map_id ks)
theorem renB_of {ks : List Str} {n : Nat} (h : NamesOk ks) (l : ks.length = n) : renB n (.tuple (ks.map PyData.str)) = true := by
  unfold renB
  rw [Bool.and_eq_true, Bool.and_eq_true]
  refine ⟨⟨decide_eq_true (by rw [List.length_map]; exact l), ?_⟩, by rw [strsD_strs]; exact decide_eq_true h.nd⟩
  show (ks.map PyData.str).all nameD = true
  rw [List.all_map, List.all_eq_true]
  intro z hz
  exact nameB_of (h.ok z hz)
/-- the row of a total by new numbers -/
def rowP (ps c : List Int) (i : Nat) : List Int := ((List.range i).filter fun x => c.contains (plc ps ((x : Nat) : Int))).map fun x => ((x : Nat) : Int)
theorem rowP_yes {ps c : List Int} {i : Nat} (h : c.contains (plc ps (i : Int)) = true) : rowP ps c (i + 1) = rowP ps c i ++ [(i : Int)] := by
  unfold rowP
  rw [List.range_succ, List.filter_append, List.map_append]
  have e2 : [i].filter (fun x => c.contains (plc ps ((x : Nat) : Int))) = [i] := by simp only [List.filter_cons, h, if_true, List.filter_nil]
  rw [e2]
  rfl
theorem rowP_no {ps c : List Int} {i : Nat} (h : c.contains (plc ps (i : Int)) = false) : rowP ps c (i + 1) = rowP ps c i := by
  unfold rowP
  rw [List.range_succ, List.filter_append, List.map_append]
  have e2 : [i].filter (fun x => c.contains (plc ps ((x : Nat) : Int))) = [] := by simp only [List.filter_cons, h, if_false, List.filter_nil, Bool.false_eq_true]
  rw [e2]
  exact List.append_nil _
theorem rowP_len (ps c : List Int) (i : Nat) : (rowP ps c i).length ≤ i := by
  unfold rowP
  rw [List.length_map]
  exact Nat.le_trans (List.length_filter_le _ _) (by rw [List.length_range]; exact Nat.le_refl _)
theorem rowP_ren {ps : List Int} {ts : List (List Int)} {n : Nat} (nd : ps.Nodup) (all : ∀ x : Nat, x < n → ((x : Nat) : Int) ∈ ps) (low : ∀ x ∈ ps, ∃ i : Nat, i < n ∧ x = (i : Int)) (ok : ∀ c ∈ ts, ∀ x ∈ c, 0 ≤ x) : RenR ps ts (ts.map fun c => rowP ps c n) := by
  refine ⟨List.length_map .., fun j c r ec er => ?_⟩
  rw [List.getElem?_map, ec] at er
  have er : rowP ps c n = r := Option.some.inj er
  subst er
  refine ⟨fun x => ?_, ?_⟩
  · unfold rowP
    rw [List.mem_map]
    constructor
    · rintro ⟨i, hi, rfl⟩
      obtain ⟨h1, h2⟩ := List.mem_filter.mp hi
      have hm := all i (List.mem_range.mp h1)
      refine ⟨plc ps (i : Int), List.contains_iff_mem.mp h2, ?_⟩
      unfold plc
      rw [Int.toNat_natCast]
      exact plc_at hm
    · rintro ⟨k, hk, e⟩
      have hx := List.mem_of_getElem? e
      obtain ⟨i, hi, rfl⟩ := low x hx
      refine ⟨i, List.mem_filter.mpr ⟨List.mem_range.mpr hi, List.contains_iff_mem.mpr ?_⟩, rfl⟩
      have e2 := plc_at hx
      have := nodup_at nd e2 e
      have k0 := ok c (List.mem_of_getElem? ec) k hk
      unfold plc
      rw [this, Int.toNat_of_nonneg k0]
      exact hk
  · unfold rowP
    refine List.pairwise_map.mpr ?_
    have h : (List.range n).Pairwise (· < ·) := List.pairwise_lt_range
    exact (List.Pairwise.filter _ h).imp fun z => by omega
theorem pls_nd {ks ns : List Str} (p : ks.Perm ns) (nd : ns.Nodup) : (plsS ks ns).Nodup := by
  unfold plsS
  refine List.pairwise_map.mpr (List.Pairwise.imp_of_mem (fun {a b} ha hb ne e => ?_) nd)
  have ea := plS_at (p.mem_iff.mpr ha)
  have eb := plS_at (p.mem_iff.mpr hb)
  have e2 : plS ks a = plS ks b := by omega
  rw [e2, eb] at ea
  exact ne (Option.some.inj ea).symm
theorem pls_all {ks ns : List Str} (p : ks.Perm ns) (nd : ks.Nodup) {x : Nat} (h : x < ks.length) : ((x : Nat) : Int) ∈ plsS ks ns := by
  have e : ks[x]? = some ks[x] := List.getElem?_eq_getElem h
  have hm : ks[x] ∈ ks := List.getElem_mem h
  refine List.mem_map.mpr ⟨ks[x], p.mem_iff.mp hm, ?_⟩
  have := nodup_at nd (plS_at hm) e
  omega
theorem pls_low {ks ns : List Str} (p : ks.Perm ns) : ∀ x ∈ plsS ks ns, ∃ i : Nat, i < ks.length ∧ x = (i : Int) := fun x hx => by
  obtain ⟨z, hz, rfl⟩ := List.mem_map.mp hx
  exact ⟨_, plS_lt (p.mem_iff.mpr hz), rfl⟩
theorem cut_init (ys : List V) (x : V) : cutV (ys ++ [x]) none (some (-1)) = ys := by
  unfold cutV
  have e : HT.sIx (ys ++ [x]).length (ys ++ [x]).length (some (-1)) = ys.length := by
    show (if (-1 : Int) < 0 then ((-1 : Int) + ((ys ++ [x]).length : Int)).toNat else min (-1 : Int).toNat (ys ++ [x]).length) = ys.length
    rw [if_pos (by decide), List.length_append]
    show ((-1 : Int) + ((ys.length + 1 : Nat) : Int)).toNat = ys.length
    omega
  rw [e, HT.sIx_none]
  show (List.drop 0 (ys ++ [x])).take (ys.length - 0) = ys
  rw [List.drop_zero, Nat.sub_zero, List.take_left]
/-- a value that is no tuple of n unlike names -/
def Wn (K : PySem.W.Frag) (n : Nat) (H : Hp) (v : V) : Prop := ∃ d, Ov K H v d ∧ renB n d = false ∧ shortD d ∧ ∀ ds, d = .tuple ds → ∀ x ∈ ds, shortS x
theorem Wn.mono {K : PySem.W.Frag} {n : Nat} {H H' : Hp} {v : V} (s : Same H H') (h : Wn K n H v) : Wn K n H' v := let ⟨d, a, b⟩ := h; ⟨d, a.mono s, b⟩
theorem short_name {z : Str} (h : NameOk z) : z.length ≤ 1000 := by
  have := h.2.1
  have e : z.length = z.cps.size := rfl
  omega
section
variable {K : PySem.W.Frag} {p q : Addr} {H : Hp} {n : Nat}
theorem wn_strs {b : Addr} {zs : List Str} (hd : Hd p q H) (hb : SqT K H b (zs.map V.str)) (no : zs.length ≠ n ∨ ¬ zs.Nodup) (l : zs.length ≤ 1000) (sh : ∀ z ∈ zs, z.length ≤ 1000) : Wn K n (GB p q H) (.ref b) := by
  refine ⟨_, Ov.strs (seqT_gb hd hb), ?_, by show (zs.map PyData.str).length ≤ 1000; rw [List.length_map]; exact l, fun ds e x hx => ?_⟩
  · unfold renB
    rw [strsD_strs]
    rcases no with no | no
    · have : tupD n (.tuple (zs.map PyData.str)) = false := decide_eq_false (by rw [List.length_map]; exact no)
      rw [this]
      rfl
    · rw [decide_eq_false no, Bool.and_false]
  · have e : zs.map PyData.str = ds := by injection e
    rw [← e] at hx
    obtain ⟨z, hz, rfl⟩ := List.mem_map.mp hx
    exact sh z hz
theorem ovAll_app {xs : List V} {ds : List PyData} {v : V} {d : PyData} : OvAll K H xs ds → Ov K H v d → OvAll K H (xs ++ [v]) (ds ++ [d]) := by
  intro h1 h2
  induction xs generalizing ds with
  | nil => cases h1; exact .cons h2 .nil
  | cons x xs ih =>
    cases h1 with
    | cons a b => exact .cons a (ih b)
theorem ovAll_strs (ks : List Str) : OvAll K H (ks.map V.str) (ks.map PyData.str) := by
  induction ks with
  | nil => exact .nil
  | cons c r ih => exact .cons (.str c) ih
theorem wn_last {b : Addr} {zs : List Str} {v : V} {d : PyData} (hd : Hd p q H) (hb : SqT K H b (zs.map V.str ++ [v])) (hv : Ov K (GB p q H) v d) (no : nameD d = false) (ss : shortS d) (l : zs.length ≤ 999) (sh : ∀ z ∈ zs, z.length ≤ 1000) : Wn K n (GB p q H) (.ref b) := by
  refine ⟨.tuple (zs.map PyData.str ++ [d]), .tup (seqT_gb hd hb) (ovAll_app (ovAll_strs zs) hv), ?_, ?_, fun ds e x hx => ?_⟩
  · unfold renB
    have : namesD (.tuple (zs.map PyData.str ++ [d])) = false := by
      show (zs.map PyData.str ++ [d]).all nameD = false
      rw [List.all_append]
      simp [no]
    rw [this, Bool.and_false]
    rfl
  · show (zs.map PyData.str ++ [d]).length ≤ 1000
    rw [List.length_append, List.length_map]
    show zs.length + 1 ≤ 1000
    omega
  · have e : zs.map PyData.str ++ [d] = ds := by injection e
    rw [← e] at hx
    rcases List.mem_append.mp hx with z | z
    · obtain ⟨y, hy, rfl⟩ := List.mem_map.mp z
      exact sh y hy
    · rw [List.mem_singleton.mp z]
      exact ss
end
end CK
namespace K03
open PySem PySem.Spec PyProof.Rows L2 VG FR CK HD
abbrev s__law_renamed_right : Stmt := topS 49
abbrev N__law_renamed_right : List Str := ["heap", "table", "kinds", "totals", "calls", "order", "places", "due", "told", "wrong", "odd", "total", "name", "place"]
theorem sc__law_renamed_right : FnScope N__law_renamed_right ["heap", "table", "kinds", "totals"] (defScope s__law_renamed_right) := ⟨rfl, rfl, rfl, by decide +kernel, rfl, by decide +kernel, by decide +kernel⟩
section
variable {P : Program} {w : World} {K : PySem.W.Frag} {mg : Str → Option Value} {base : Heap}
theorem ok__law_renamed_right {f c0 Pt C R : Addr} {fd : FuncData} {T : List (Addr × Str)} (F : FunC K "_law_renamed_right" "_law_renamed_right" s__law_renamed_right f fd c0) (TC : TabC K C)
    (hrd : Hrd K mg R) (TB : LamX.TabB base mg c0 Pt) (inT : (Pt, lamQ (("_law_renamed_right" : Str) ++ ".<locals>.")) ∈ T) (oneT : ∀ p ∈ T, p.1 = Pt → p.2 = lamQ (("_law_renamed_right" : Str) ++ ".<locals>."))
    (G__law_is : ClG P w K mg base 1 "_law_is" (spIs K C)) (C__law_mixed : Cl P w K mg base 2 "_law_mixed" (spMixed K)) (C__law_names : Cl P w K mg base 3 "_law_names" (spLawNames K)) (C__law_pick : Cl P w K mg base 2 "_law_pick" (spPick K))
    (X_renamed_table : ClX P w K mg base 11 "renamed_table" (spRenamed K C R)) (C_renamed_table : Cl P w K mg base 11 "renamed_table" (fun vs H Q _ => spRenamed K C R vs H Q E0)) (CR_renamed_table : ClR P w K mg base 11 "renamed_table" ["names", "table"] (fun vs H Q _ => spRenamed K C R vs H Q E0))
    (z_len : mg "len" = none) (z_tuple : mg "tuple" = none) (z_range : mg "range" = none) (z_list : mg "list" = none) (z_sorted : mg "sorted" = none) (z_repr : mg "repr" = none) (z_isinstance : mg "isinstance" = none) : FnG P w K mg base 15 f fd ["heap", "table", "kinds", "totals"] (spJ2 K C T) := by
  refine fnGC_of F sc__law_renamed_right (fun vs H Q E h => ?_) (fun A outer s H vs Q E hg hr h => ?_)
  · obtain ⟨_, _, _, _, _, _, _, _, rfl, _⟩ := h
    rfl
  · obtain ⟨p, q, a, k, t, ks, xs, ts, rfl, hd, hTab, hK, hS, hT, ok, tbs, fin⟩ := h
    refine ⟨_, (pss_cons (ps_set (i := 4) sc__law_renamed_right.nd rfl (.inl rfl) (pe_callTy call_tuple_of (by rfl) z_tuple (by decide +kernel) (pa_cons (pe_cl C__law_mixed hr (by decide) rfl (pa_cons (pv 0) (pa_cons (pe_cl C__law_names hr (by decide) rfl (pa_cons (pv 0) (pa_cons (pe_callB call_len_seq (by rfl) z_len (by decide +kernel) (pa_cons (pv 2) pa_nil)) pa_nil))) pa_nil))) pa_nil)))
    (pss_cons (ps_set (i := 5) sc__law_renamed_right.nd rfl (.inr rfl) (pe_callB cr_sortedTS (by rfl) z_sorted (by decide +kernel) (pa_cons (pv 4) pa_nil)))
    (pss_cons (ps_set (i := 6) sc__law_renamed_right.nd rfl (.inr rfl) (pe_callTy call_tupF (by rfl) z_tuple (by decide +kernel) (pa_cons (pe_lc (own := [("name", 12)]) (by rfl) sc__law_renamed_right.nd (pi_tup (pv 4)) (blkOk_by (own := [("name", 12)]) (N := N__law_renamed_right) (sc := defScope s__law_renamed_right) (by decide +kernel)) (fun _ _ _ _ _ => (pg_name (i := 12) sc__law_renamed_right.nd rfl (.inl rfl))) (fun _ _ _ _ _ => pts_nil) (fun _ _ _ _ _ => (show PE _ _ (tBM K "list" (rIndex K) (tVar 5) (tCons (tVar 12) tNil)) from pe_bm PySem.F.plainAttrs_list PySem.F.slot_list_index PySem.F.type_list_index mt_index (pv 5) (pa_cons (pv 12) pa_nil)))) pa_nil)))
    (pss_cons (ps_setLc (i := 7) (own := [("total", 11)]) (by rfl) sc__law_renamed_right.nd rfl rfl (sw_true rfl rfl rfl (by decide +kernel)) (pi_tup (pv 3)) (blkOk_by (own := [("total", 11)]) (N := N__law_renamed_right) (sc := defScope s__law_renamed_right) (by decide +kernel)) (fun _ _ _ _ _ => (pg_name (i := 11) sc__law_renamed_right.nd rfl (.inr rfl))) (fun _ _ _ _ _ => pts_nil) (fun _ _ _ _ _ => (pe_callTy (show CallR _ (.type "tuple") (rTupOf K) from call_tupK) (by rfl) z_tuple (by decide +kernel) (pa_cons (pe_lc (own := [("place", 13)]) (by rfl) sc__law_renamed_right.nd (pi_range1 (by rfl) z_range (pa_cons (pe_callB (show CallR _ (.builtin "len") (rLenK K) from call_lenK) (by rfl) z_len (by decide +kernel) (pa_cons (pv 2) pa_nil)) pa_nil)) (blkOk_by (own := [("place", 13)]) (N := N__law_renamed_right) (sc := { kind := .function, names := [((".0" : String), .local), (("total" : String), .cell), (("tuple" : String), .globalImplicit), (("range" : String), .globalImplicit), (("len" : String), .globalImplicit), (("kinds" : String), .cell), (("places" : String), .cell)], isGenerator := false, isCoroutine := false }) (by decide +kernel)) (fun _ _ _ _ _ => (pg_name (i := 13) sc__law_renamed_right.nd rfl (.inl rfl))) (fun _ _ _ _ _ => (pts_one (pt_cmpR (show OpR _ (compareOp .In) (rIn K false) from op_in_seq) (show PE _ _ (tTM (rTupIx K) (tVar 6) (tCons (tVar 13) tNil)) from pe_tm PySem.F.plainAttrs_tuple PySem.F.slot_tuple_index PySem.F.type_tuple_index mt_tup_indexI (pv 6) (pa_cons (pv 13) pa_nil)) (pv 11) rfl))) (fun _ _ _ _ _ => (pv 13))) pa_nil))))
    (pss_cons (ps_set (i := 8) sc__law_renamed_right.nd rfl (.inl rfl) (pe_cl C_renamed_table hr (by decide) rfl (pa_cons (pv 1) (pa_cons (pv 4) pa_nil))))
    (pss_cons (ps_if (PW.pt (pw_or (pt_not (pt_val (pe_callB call_isi (by rfl) z_isinstance (by decide +kernel) (pa_cons (pv 8) (pa_cons (pe_bltn (v := .ty "tuple") (by rfl) z_tuple (by decide +kernel) rfl) pa_nil))))) (pw_or (pt_cmpR op_ne (pe_callB call_len_seq (by rfl) z_len (by decide +kernel) (pa_cons (pv 8) pa_nil)) pe_int (nomark _)) (pw_or (pt_not (pt_val (pe_clg G__law_is hg hr (by decide) rfl (pa_cons (pe_ix ix_tup (pv 8) pe_int (fun _ _ => rfl)) (pa_cons (pv 5) (pa_cons (pv 7) pa_nil)))))) (pw_or1 (pt_cmpR op_ne (pe_callB (cr_repr hg hr.units) (by rfl) z_repr (by decide +kernel) (pa_cons (pe_ix ix_tup (pv 8) pe_int (fun _ _ => rfl)) pa_nil)) (pe_callB (cr_repr hg hr.units) (by rfl) z_repr (by decide +kernel) (pa_cons (pv 6) pa_nil)) (nomark _)))))))
      (pss_one (ps_ret pe_bl))
      pss_nil)
    (pss_cons (ps_if (pt_cmpR (op_neD hr.units) (pe_ix ix_tup (pe_clr CR_renamed_table hr (by decide) rfl (pk_cons (pv 4) (pk_cons (pv 1) pk_nil))) pe_int (fun _ _ => rfl)) (pv 6) (nomark _))
      (pss_one (ps_ret pe_bl))
      pss_nil)
    (pss_cons (ps_set (i := 9) sc__law_renamed_right.nd rfl (.inl rfl) (pe_lst (pa_cons pe_non (pa_cons (pe_callTy call_list_of (by rfl) z_list (by decide +kernel) (pa_cons (pv 4) pa_nil)) (pa_cons (pe_slice sl_tupM (pv 4) po_none (po_some (pe_un un_neg pe_int))) (pa_cons (pe_op op_catM (pv 4) (pe_tup (pa_cons pe_str pa_nil))) (pa_cons (pe_op op_catM (pe_slice sl_tupM (pv 4) po_none (po_some (pe_un un_neg pe_int))) (pe_tup (pa_cons pe_str pa_nil))) (pa_cons (pe_op op_catM (pe_slice sl_tupM (pv 4) po_none (po_some (pe_un un_neg pe_int))) (pe_tup (pa_cons pe_non pa_nil))) (pa_cons (pe_op op_catM (pe_slice sl_tupM (pv 4) po_none (po_some (pe_un un_neg pe_int))) (pe_tup (pa_cons (pe_lst pa_nil) pa_nil))) (pa_cons pe_int (pa_cons (pe_tup pa_nil) pa_nil)))))))))))
    (pss_cons (ps_set (i := 10) sc__law_renamed_right.nd rfl (.inr rfl) (pe_cl C__law_pick hr (by decide) rfl (pa_cons (pv 0) (pa_cons (pe_op op_cat (pv 9) (pe_meet (pe_ifExp (pt_cmpR op_gt (pe_callB call_len_seq (by rfl) z_len (by decide +kernel) (pa_cons (pv 4) pa_nil)) pe_int (nomark _)) (pe_op op_rep (pe_lst (pa_cons (pe_op op_catM (pe_slice sl_tupM (pv 4) po_none (po_some (pe_un un_neg pe_int))) (pe_slice sl_tupM (pv 4) po_none (po_some pe_int))) pa_nil)) pe_int) (pe_lst pa_nil)))) pa_nil))))
    (pss_one (ps_ret (pe_cmpR op_eq (pe_heard (k := 11) (T := T) hrd rfl TB rfl inT oneT (hr.mono (by decide)) (show LamX.LamS (defScope s__law_renamed_right) _ from LamX.lamS_by (by decide +kernel)) rfl (fun _ _ _ _ _ => rfl) (fun A2 outer2 s2 H2 E2 f2 c2 hr2 => pe_clx X_renamed_table hr2 (by decide) (takes_of (E := E2) rfl rfl rfl rfl) rfl (pa_cons (pv 1) (pa_cons (pv 10) pa_nil)))) pe_str (nomark _))))))))))))), ?_⟩
    have big : sizeLine = 16777216 := by decide
    have n12 := ok.kinds.2.1
    have n1 := ok.kinds.1
    have l12 := ok.len
    have lx := hT.len
    have on0 := OnT.start (T := T) hd tbs
    generalize GB p q H = G at hTab hK hS hT fin on0
    -- new names
    refine ⟨_, rfl, _, rfl, _, rfl, k, ks.map V.str, rfl, .inr (seqT on0.le hK), p, q, ks.length, by rw [List.length_map]; rfl, on0.hd, n1, n12, fun H1 u ns onN ku okN lns => ?_⟩
    have on1 := on0.draw onN.hd onN.keep
    have nu : u ≠ p ∧ u ≠ q := on1.hd.neOf ku (fun ys z => by cases z)
    refine ⟨p, q, u, ns.map V.str, rfl, on1.hd, sqt ku, nu.1, nu.2, by rw [List.length_map]; omega, fun H2 l ys onM nl1 fl kl pm => ?_⟩
    have on2 := on1.draw onM.hd onM.keep
    obtain ⟨cs, pmc, rfl⟩ := perm_lift V.str pm ns rfl
    have okC : NamesOk cs := ⟨by rw [pmc.length_eq]; omega, by rw [pmc.length_eq]; omega, fun z hz => okN.2.2.1 z (pmc.mem_iff.mp hz), pmc.nodup_iff.mpr ((ascS_pw okN.2.2.2).imp fun h e => by rw [e] at h; exact List.lt_irrefl _ h)⟩
    have lc : cs.length = ks.length := by rw [pmc.length_eq]; exact lns
    refine ⟨l, _, rfl, .inl ⟨.inl (.inl kl), fun v nv => ?_⟩⟩
    have on3 := on2.new (o := .tup (cs.map V.str)) nv
    have kv := upd_same (H := H2) (a := v) (o := .tup (cs.map V.str))
    have fv := on2.free nv
    generalize L2.upd H2 v (.tup (cs.map V.str)) = H3 at on3 kv ⊢
    have ⟨on4, g4⟩ := on3.base
    have kv4 : GB p q H3 v = some (.tup (cs.map V.str)) := gb_at kv ⟨fv.1, fv.2.1⟩ (fun _ z => by cases z)
    have hTab := hTab.mono g4
    have hK := seqT g4 hK
    have hS := seqT g4 hS
    have hT := hT.mono g4
    have fin := fun H' (h : OnT T p q (GB p q H3) H') => fin H' (h.drop g4 on0.2.2)
    clear on1 on2 on3 kv fv nv kl fl nl1 onM onN ku nu g4 pm pmc okN lns on0
    generalize GB p q H3 = G1 at on4 kv4 hTab hK hS hT fin
    -- in their sequence
    refine ⟨_, rfl, v, cs, rfl, sqt (on4.le _ _ kv4), by omega, fun os o perm srt no => ?_⟩
    have asc := ascS_of srt (perm.nodup_iff.mpr okC.nd)
    have lo := perm.length_eq
    have on5 := on4.new (o := .lst (os.map V.str)) no
    have ko := upd_same (H := H3) (a := o) (o := .lst (os.map V.str))
    generalize L2.upd H3 o (.lst (os.map V.str)) = H5 at on5 ko ⊢
    -- their places
    refine ⟨_, rfl, v, rfl, ⟨_, sqt (on5.le _ _ kv4)⟩, fun D nD => ?_⟩
    refine lc_it (walk_tup (K := K) (a := v) (xs := cs.map V.str)) (fun i H' => Same H5 H' ∧ H' D = some (.lst ((plsS os (cs.take i)).map V.int))) ⟨same_upd nD, upd_same⟩ (fun i H' _ h => sqt ((on5.le.trans h.1) _ _ kv4)) ?_ ?_
    · rintro i x H6 H7 hi ⟨s6, hD⟩ ⟨rfl, ex⟩
      rw [List.getElem?_map] at ex
      obtain ⟨z, ez, rfl⟩ := Option.map_eq_some_iff.mp ex
      have hz : z ∈ os := perm.mem_iff.mpr (List.mem_of_getElem? ez)
      have ko6 := s6 _ _ ko
      refine ⟨rfl, _, rfl, .inl ⟨rfl, _, .inl (.inl ko6)⟩, _, rfl, o, os.map V.str, .str z, plS os z, .str z, rfl, rfl, .inl (.inl ko6), rfl, CK.flat_strs os, by rw [List.getElem?_map, plS_at hz]; rfl, by simp [eqV], fun m' z' hm hz' => ?_, _, hD, ?_, HD.same_put s6 nD, ?_⟩
      · rw [List.getElem?_map] at hz'
        obtain ⟨y, ey, rfl⟩ := Option.map_eq_some_iff.mp hz'
        have ne : y ≠ z := fun e => plS_first hm (by rw [ey, e])
        simp [eqV, ne]
      · unfold plsS
        rw [List.length_map, List.length_map, List.length_take]
        omega
      · unfold plsS
        rw [upd_same, List.take_add_one, ez, List.map_append, List.map_append]
        rfl
    rintro H6 ⟨s6, hD⟩
    rw [List.length_map, List.take_length] at hD
    refine ⟨D, _, rfl, .inl (.inl hD), fun w7 H7 s67 nw7 hW => ?_⟩
    have on7 := (on5.same s6).same s67
    have ko7 := (s6.trans s67) _ _ ko
    have psN := pls_nd perm okC.nd
    have psA := fun (x : Nat) (h : x < ks.length) => pls_all perm (perm.nodup_iff.mpr okC.nd) (x := x) (by omega)
    have psL := fun x hx => pls_low perm x hx
    have renD := rowP_ren (ts := ts) (n := ks.length) psN psA (fun x hx => by
      obtain ⟨i, hi, e⟩ := psL x hx
      exact ⟨i, by omega, e⟩) (fun c hc x hx => ((ok.lots c hc).2.1 x hx).1)
    have okR := ren_ok okC perm asc l12 (by rw [lc]; exact ok.lots) renD
    have shP : Shn (dI (plsS os cs)) 1 326 := shn_dI (n := 12) (fun x hx => by
      obtain ⟨i, hi, rfl⟩ := psL x hx
      have : (2 : Nat) ^ 24 = 16777216 := by decide
      omega) (by unfold plsS; rw [List.length_map]; omega)
    have eP : PyData.eqv (dI (plsS os cs)) (dI (plsS os cs)) = true := SeqAt.eqv_refl _ (gd_dI _).1
    have pP := (gd_dI (plsS os cs)).shaped (by decide)
    have uniqR : ∀ os2 rs2, os2.Perm (strsD (.tuple (cs.map PyData.str))) → AscS os2 → RenR (plsS os2 (strsD (.tuple (cs.map PyData.str)))) ts rs2 → os2 = os ∧ rs2 = ts.map fun c => rowP (plsS os cs) c ks.length := fun os2 rs2 h1 h2 h3 => by
      rw [strsD_strs] at h1 h3
      have e := ascS_uniq h2 asc (h1.trans perm.symm)
      subst e
      exact ⟨rfl, RenR.uniq h3 renD⟩
    clear s6 s67 nw7 hD nD on5 ko no on4
    -- what is due
    refine ⟨_, rfl, t, rfl, ⟨_, seqT on7.le hS⟩, fun B nB => ?_⟩
    refine lc_it (walk_tup (K := K) (a := t) (xs := xs)) (fun i H' => Same H7 H' ∧ ∃ ys, H' B = some (.lst ys) ∧ Tots K H' ys ((ts.take i).map fun c => rowP (plsS os cs) c ks.length)) ⟨same_upd nB, [], upd_same, trivial⟩ (fun i H' _ h => seqT (on7.le.trans h.1) hS) ?_ ?_
    · rintro i x H8 H9 hi ⟨s8, ys, kB, hY⟩ ⟨rfl, ex⟩
      obtain ⟨tt, c, rfl, ec, ht⟩ := hT.get ex
      have sA := on7.le.trans s8
      refine ⟨rfl, _, rfl, k, ks.map V.str, rfl, .inr (seqT sA hK), _, rfl, by omega, by rw [List.length_map]; omega, fun L nL => ?_⟩
      rw [List.length_map]
      refine lc_it (walk_range (lo := 0) (n := ((ks.length : Nat) : Int).toNat)) (fun j H' => Same H9 H' ∧ H' L = some (.lst ((rowP (plsS os cs) c j).map V.int))) ⟨same_upd nL, upd_same⟩ (fun _ _ _ _ => trivial) ?_ ?_
      · rintro j x H10 H11 hj ⟨s10, kL⟩ ⟨rfl, rfl⟩
        have hj2 : j < ks.length := by have : j < ((ks.length : Nat) : Int).toNat := hj; omega
        have z2 : (0 : Int) + (j : Nat) = ((j : Nat) : Int) := Int.zero_add _
        have hm := psA j hj2
        have hW10 := hW.mono (s8.trans s10)
        refine ⟨rfl, _, rfl, ⟨w7, _, rfl, hW10⟩, _, rfl, w7, plsS os cs, ((j : Nat) : Int), (plsS os cs).idxOf ((j : Nat) : Int), rfl, by show [V.int ((0 : Int) + (j : Nat))] = [V.int ((j : Nat) : Int)]; rw [z2], hW10.seq, plc_at hm, fun m' hm' => plc_first hm', ?_⟩
        refine ⟨_, rfl, tt, c.map V.int, rfl, .inr (seqT (sA.trans s10) ht), rfl, CK.flat_ints c, _, rfl, ?_⟩
        rw [inV_ints]
        show if c.contains (plc (plsS os cs) ((j : Nat) : Int)) = true then _ else _
        cases hk : c.contains (plc (plsS os cs) ((j : Nat) : Int)) with
        | true =>
          refine iteT ⟨_, rfl, _, kL, ?_, HD.same_put s10 nL, ?_⟩
          · have := rowP_len (plsS os cs) c j
            rw [List.length_map]
            omega
          · rw [upd_same, rowP_yes hk]
            show some (HO.lst ((rowP (plsS os cs) c j).map V.int ++ [V.int ((0 : Int) + (j : Nat))])) = _
            rw [z2, List.map_append]
            rfl
        | false =>
          refine iteF ⟨s10, ?_⟩
          rw [rowP_no hk]
          exact kL
      · rintro H10 ⟨s10, kL⟩
        rw [Int.toNat_natCast] at kL
        refine ⟨L, _, rfl, .inl ⟨.inl (.inl kL), fun r nr => ?_⟩⟩
        have sr := same_upd (o := .tup ((rowP (plsS os cs) c ks.length).map V.int)) nr
        have s46 := s10.trans sr
        have kB6 := s46 _ _ kB
        refine ⟨ys, kB6, ?_, HD.same_put (s8.trans s46) nB, ys ++ [.ref r], upd_same, ?_⟩
        · have := hY.len
          rw [List.length_map, List.length_take] at this
          omega
        · rw [List.take_add_one, ec, List.map_append]
          exact Tots.upd kB6 (Tots.snoc (sqt upd_same) (hY.mono s46))
    rintro H8 ⟨s8, ys, kB, hY⟩
    rw [lx, List.take_length] at hY
    have on8 := on7.same s8
    have ko8 := s8 _ _ ko7
    have hW8 := hW.mono s8
    generalize (ts.map fun c => rowP (plsS os cs) c ks.length) = rs at renD okR uniqR hY
    have ov8 : Ov K G1 (.ref v) (.tuple (cs.map PyData.str)) := Ov.strs (sqt kv4)
    have rb := renB_of okC lc
    have shV : shortD (.tuple (cs.map PyData.str)) := by show (cs.map PyData.str).length ≤ 1000; rw [List.length_map]; omega
    have shS : ∀ ds, PyData.tuple (cs.map PyData.str) = .tuple ds → ∀ x ∈ ds, shortS x := fun ds e x hx => by
      have e : cs.map PyData.str = ds := by injection e
      rw [← e] at hx
      obtain ⟨z, hz, rfl⟩ := List.mem_map.mp hx
      exact short_name (okC.ok z hz)
    -- what is told
    refine ⟨_, rfl, _, rfl, a, .ref v, _, ks, ts, rfl, hTab.mono on8.le, ok, ov8.mono on8.le, shV, shS, fun _ os2 rs2 h1 h2 h3 => ?_, fun z => (by rw [rb] at z; cases z)⟩
    obtain ⟨e1, e2⟩ := uniqR os2 rs2 h1 h2 h3
    subst e1 e2
    rw [strsD_strs]
    intro H9 r m u9 s9 kr hM hU
    refine ⟨_, rfl, _, _, _, _, true, rfl, .ty "tuple", tyT (sqt kr), kit_ty (by decide +kernel), _, rfl, iteF ?_⟩
    refine ⟨_, rfl, r, _, rfl, .inr (sqt kr), rfl, _, rfl, ite_eq false (by rw [show V.int (([V.ref m, V.ref u9].length : Nat) : Int) = V.int 2 from rfl, decide_eq_true rfl]; rfl) (iteF ?_)⟩
    have on9 := on8.same s9
    refine ⟨_, rfl, r, _, _, _, rfl, rfl, sqt kr, at00 _ _, _, rfl, _, rfl, m, o, B, os2, rs2, ys, rfl, hM, .inl (.inl (.inl (s9 _ _ ko8))), .inl (.inl (.inl (s9 _ _ kB))), hY.mono s9, by omega, okR.len, shn_table okR, fun H10 s10 => ?_⟩
    refine ⟨_, rfl, iteF ?_⟩
    have s910 := s9.trans s10
    refine ⟨_, rfl, r, _, _, .ref u9, rfl, rfl, sqt (s10 _ _ kr), atI_nat (j := 1) rfl, u9, _, rfl, dp_I (seqT s10 hU), shP.r.1, shP.r.2.1, shP.r.2.2.1, shP.r.2.2.2, ?_⟩
    refine ⟨_, rfl, w7, _, rfl, dp_I (hW8.mono s910).seq, shP.r.1, shP.r.2.1, shP.r.2.2.1, shP.r.2.2.2, rfl, ?_⟩
    refine ⟨_, rfl, ite_eq false (by rw [decide_eq_true rfl]; rfl) (iteF ?_)⟩
    have on10 := on9.same s10
    clear kr hM hU s9 s10 on9 kB hY ko8
    -- by keywords
    refine ⟨_, rfl, _, rfl, a, .ref v, _, ks, ts, rfl, hTab.mono on10.le, ok, ov8.mono on10.le, shV, shS, fun _ os3 rs3 h4 h5 h6 => ?_, fun z => (by rw [rb] at z; cases z)⟩
    obtain ⟨e1, e2⟩ := uniqR os3 rs3 h4 h5 h6
    subst e1 e2
    rw [strsD_strs]
    intro H11 r2 m2 u2 s11 kr2 hM2 hU2
    refine ⟨r2, _, _, .ref u2, rfl, rfl, sqt kr2, atI_nat (j := 1) rfl, _, rfl, _, _, dp_I hU2, dp_I (hW8.mono (s910.trans s11)).seq, pP, pP, _, rfl, ?_⟩
    rw [eP]
    refine iteF ?_
    have on11 := on10.same s11
    clear kr2 hM2 hU2 s910 s11 on10 hW8 hW on8 s8
    have c0 : cs ≠ [] := fun z => by rw [z] at lc; simp at lc; omega
    obtain ⟨cy, cx, em⟩ := snocL cs c0
    have SM : ∀ {H'}, OnT T p q G1 H' → SqT K H' v (cs.map V.str) := fun h => sqt (h.le _ _ kv4)
    have small : ∀ {b : Addr} {H' : Hp}, H' b = none → OnT T p q G1 H' → b ≠ p ∧ b ≠ q := fun h o => ⟨(o.free h).1, (o.free h).2.1⟩
    have ei : cutV (cs.map V.str) none (some (-1)) = cy.map V.str := by
      rw [em, List.map_append]
      exact cut_init _ _
    have ly : cy.length + 1 = ks.length := by rw [← lc, em, List.length_append]; rfl
    have shC : ∀ z ∈ cs, z.length ≤ 1000 := fun z hz => short_name (okC.ok z hz)
    have shY : ∀ z ∈ cy, z.length ≤ 1000 := fun z hz => shC z (by rw [em]; exact List.mem_append_left _ hz)
    have w1 : ∀ H', Wn K ks.length H' .non := fun H' => ⟨.none, .non, rfl, trivial, fun ds e => by cases e⟩
    refine ⟨_, rfl, v, _, rfl, .inr (SM on11), fun l nl => ?_⟩
    have fl := small nl on11
    have on12 := on11.new (o := .lst (cs.map V.str)) nl
    have w2 : Wn K ks.length (GB p q (L2.upd H11 l (.lst (cs.map V.str)))) (.ref l) := ⟨_, .lst (gb_at upd_same fl (fun _ z => by cases z)) (ovAll_strs cs), rfl, trivial, fun ds e => by cases e⟩
    generalize L2.upd H11 l (.lst (cs.map V.str)) = H12 at on12 w2 ⊢
    refine ⟨_, rfl, _, rfl, _, rfl, v, _, rfl, SM on12, fun b3 H13 s13 k3 => ?_⟩
    rw [show cutV (cs.map V.str) none (some (-(1 : Int))) = cy.map V.str from ei] at k3
    have on13 := on12.same s13
    have w2 := w2.mono (gb_mono (p := p) (q := q) s13)
    have w3 : Wn K ks.length (GB p q H13) (.ref b3) := wn_strs on13.hd k3 (.inl (by omega)) (by omega) shY
    refine ⟨_, rfl, by show 1 ≤ sizeLine; decide, fun z4 n4 => ?_⟩
    have sz4 := same_upd (o := .tup [V.str ("q" : String)]) n4
    refine ⟨v, z4, _, _, rfl, rfl, SM (on13.same sz4), sqt upd_same, by rw [List.length_map]; show cs.length + 1 ≤ sizeLine; omega, fun b4 H14 s14 k4 => ?_⟩
    have s14 := sz4.trans s14
    have on14 := on13.same s14
    have k4 : SqT K H14 b4 ((cs ++ [(("q" : String) : Str)]).map V.str) := by
      rw [List.map_append]
      exact k4
    have w2 := w2.mono (gb_mono (p := p) (q := q) s14)
    have w3 := w3.mono (gb_mono (p := p) (q := q) s14)
    have w4 : Wn K ks.length (GB p q H14) (.ref b4) := wn_strs on14.hd k4 (.inl (by rw [List.length_append]; show cs.length + 1 ≠ ks.length; omega)) (by rw [List.length_append]; show cs.length + 1 ≤ 1000; omega) (fun z hz => (List.mem_append.mp hz).elim (shC z) fun e => by rw [List.mem_singleton.mp e]; decide)
    refine ⟨_, rfl, _, rfl, _, rfl, v, _, rfl, SM on14, fun t5 H15 s15 kt5 => ?_⟩
    rw [show cutV (cs.map V.str) none (some (-(1 : Int))) = cy.map V.str from ei] at kt5
    refine ⟨by show 1 ≤ sizeLine; decide, fun z5 n5 => ?_⟩
    have sz5 := same_upd (o := .tup [V.str ("Q" : String)]) n5
    refine ⟨t5, z5, _, _, rfl, rfl, seqT sz5 kt5, sqt upd_same, by rw [List.length_map]; show cy.length + 1 ≤ sizeLine; omega, fun b5 H16 s16 k5 => ?_⟩
    have s16 := (s15.trans sz5).trans s16
    have on16 := on14.same s16
    have w2 := w2.mono (gb_mono (p := p) (q := q) s16)
    have w3 := w3.mono (gb_mono (p := p) (q := q) s16)
    have w4 := w4.mono (gb_mono (p := p) (q := q) s16)
    have w5 : Wn K ks.length (GB p q H16) (.ref b5) := wn_last on16.hd k5 (.str _) (by decide +kernel) (show ((("Q" : String) : Str)).length ≤ 1000 by decide) (by omega) shY
    refine ⟨_, rfl, _, rfl, _, rfl, v, _, rfl, SM on16, fun t6 H17 s17 kt6 => ?_⟩
    rw [show cutV (cs.map V.str) none (some (-(1 : Int))) = cy.map V.str from ei] at kt6
    refine ⟨by show 1 ≤ sizeLine; decide, fun z6 n6 => ?_⟩
    have sz6 := same_upd (o := .tup [V.non]) n6
    refine ⟨t6, z6, _, _, rfl, rfl, seqT sz6 kt6, sqt upd_same, by rw [List.length_map]; show cy.length + 1 ≤ sizeLine; omega, fun b6 H18 s18 k6 => ?_⟩
    have s18 := (s17.trans sz6).trans s18
    have on18 := on16.same s18
    have w2 := w2.mono (gb_mono (p := p) (q := q) s18)
    have w3 := w3.mono (gb_mono (p := p) (q := q) s18)
    have w4 := w4.mono (gb_mono (p := p) (q := q) s18)
    have w5 := w5.mono (gb_mono (p := p) (q := q) s18)
    have w6 : Wn K ks.length (GB p q H18) (.ref b6) := wn_last on18.hd k6 .non rfl trivial (by omega) shY
    refine ⟨_, rfl, _, rfl, _, rfl, v, _, rfl, SM on18, fun t7 H19 s19 kt7 => ?_⟩
    rw [show cutV (cs.map V.str) none (some (-(1 : Int))) = cy.map V.str from ei] at kt7
    refine ⟨by show 0 ≤ sizeLine; exact Nat.zero_le _, fun e7 ne7 => ?_⟩
    have fe7 := small ne7 (on18.same s19)
    have se7 := same_upd (o := .lst []) ne7
    have ke7 := upd_same (H := H19) (a := e7) (o := .lst [])
    refine ⟨by show 1 ≤ sizeLine; decide, fun z7 n7 => ?_⟩
    have sz7 := same_upd (o := .tup [V.ref e7]) n7
    refine ⟨t7, z7, _, _, rfl, rfl, seqT (se7.trans sz7) kt7, sqt upd_same, by rw [List.length_map]; show cy.length + 1 ≤ sizeLine; omega, fun b7 H20 s20 k7 => ?_⟩
    have ke20 := s20 _ _ (sz7 _ _ ke7)
    have s20 := ((s19.trans se7).trans sz7).trans s20
    have on20 := on18.same s20
    have w2 := w2.mono (gb_mono (p := p) (q := q) s20)
    have w3 := w3.mono (gb_mono (p := p) (q := q) s20)
    have w4 := w4.mono (gb_mono (p := p) (q := q) s20)
    have w5 := w5.mono (gb_mono (p := p) (q := q) s20)
    have w6 := w6.mono (gb_mono (p := p) (q := q) s20)
    have w7 : Wn K ks.length (GB p q H20) (.ref b7) := wn_last on20.hd k7 (.lst (gb_at ke20 fe7 (fun _ z => by cases z)) .nil) rfl trivial (by omega) shY
    have w8 : ∀ H', Wn K ks.length H' (.int 7) := fun H' => ⟨.int 7, .int 7, rfl, trivial, fun ds e => by cases e⟩
    refine ⟨by show 0 ≤ sizeLine; exact Nat.zero_le _, fun b9 n9 => ?_⟩
    have s21 := same_upd (o := .tup []) n9
    have on21 := on20.same s21
    have w2 := w2.mono (gb_mono (p := p) (q := q) s21)
    have w3 := w3.mono (gb_mono (p := p) (q := q) s21)
    have w4 := w4.mono (gb_mono (p := p) (q := q) s21)
    have w5 := w5.mono (gb_mono (p := p) (q := q) s21)
    have w6 := w6.mono (gb_mono (p := p) (q := q) s21)
    have w7 := w7.mono (gb_mono (p := p) (q := q) s21)
    have w9 : Wn K ks.length (GB p q (L2.upd H20 b9 (.tup []))) (.ref b9) := wn_strs (zs := []) on21.hd (sqt upd_same) (.inl (by show 0 ≠ ks.length; omega)) (by decide) (fun z h => by cases h)
    generalize L2.upd H20 b9 (.tup []) = H21 at s21 on21 w2 w3 w4 w5 w6 w7 w9 ⊢
    refine ⟨by show 9 ≤ sizeLine; decide, fun W nW => ?_⟩
    have fW := small nW on21
    have sW := same_upd (o := .lst [V.non, V.ref l, V.ref b3, V.ref b4, V.ref b5, V.ref b6, V.ref b7, V.int 7, V.ref b9]) nW
    have kW := upd_same (H := H21) (a := W) (o := .lst [V.non, V.ref l, V.ref b3, V.ref b4, V.ref b5, V.ref b6, V.ref b7, V.int 7, V.ref b9])
    have all : ∀ x ∈ [V.non, V.ref l, V.ref b3, V.ref b4, V.ref b5, V.ref b6, V.ref b7, V.int 7, V.ref b9], Wn K ks.length (GB p q H21) x := fun x hx => by
      simp only [List.mem_cons, List.not_mem_nil, or_false] at hx
      rcases hx with rfl | rfl | rfl | rfl | rfl | rfl | rfl | rfl | rfl
      · exact w1 _
      · exact w2
      · exact w3
      · exact w4
      · exact w5
      · exact w6
      · exact w7
      · exact w8 _
      · exact w9
    have on22 := on21.same sW
    have all := fun x hx => (all x hx).mono (gb_mono (p := p) (q := q) sW)
    generalize hws : [V.non, V.ref l, V.ref b3, V.ref b4, V.ref b5, V.ref b6, V.ref b7, V.int 7, V.ref b9] = ws at kW all on22 sW ⊢
    have lws : ws.length = 9 := by rw [← hws]; rfl
    generalize L2.upd H21 W (.lst ws) = H22 at kW all on22 sW ⊢
    clear w1 w2 w3 w4 w5 w6 w7 w8 w9
    refine ⟨_, rfl, _, rfl, ?_⟩
    refine ⟨fun x H' => Same H22 H' ∧ ∃ (L : Addr) (vs : List V), x = .ref L ∧ H' L = some (.lst vs) ∧ vs.length ≤ 5 ∧ ∀ y ∈ vs, Wn K ks.length (GB p q H') y, ?_, ?_⟩
    · refine ⟨_, rfl, v, _, rfl, .inr (SM on22), _, _, rfl, rfl, _, rfl, ?_⟩
      by_cases more : 1 < cs.length
      · refine ite_eq true (decide_eq_true (by rw [List.length_map]; omega)) (iteT ?_)
        refine ⟨_, rfl, _, rfl, _, rfl, v, _, rfl, SM on22, fun t1 H23 s23 kt1 => ?_⟩
        rw [show cutV (cs.map V.str) none (some (-(1 : Int))) = cy.map V.str from ei] at kt1
        refine ⟨_, rfl, _, rfl, v, _, rfl, SM (on22.same s23), fun t2 H24 s24 kt2 => ?_⟩
        rw [show cutV (cs.map V.str) none (some (1 : Int)) = (cs.map V.str).take 1 from cut0 1] at kt2
        cases hcy : cy with
        | nil =>
          rw [hcy] at em
          rw [em] at more
          exact absurd more (by show ¬ 1 < 1; decide)
        | cons y0 yr =>
          have kt2 : SqT K H24 t2 [V.str y0] := by
            rw [em, hcy] at kt2
            exact kt2
          refine ⟨t1, t2, _, _, rfl, rfl, seqT s24 kt1, kt2, by rw [List.length_map]; show cy.length + 1 ≤ sizeLine; omega, fun t3 H25 s25 kt3 => ?_⟩
          have kt3 : SqT K H25 t3 ((cy ++ [y0]).map V.str) := by
            rw [List.map_append]
            exact kt3
          have s25 := (s23.trans s24).trans s25
          have on25 := on22.same s25
          have w : Wn K ks.length (GB p q H25) (.ref t3) := wn_strs on25.hd kt3 (.inr fun nd => by
            rw [hcy] at nd
            exact (List.nodup_append.mp nd).2.2 y0 List.mem_cons_self y0 (List.mem_singleton.mpr rfl) rfl) (by rw [List.length_append]; show cy.length + 1 ≤ 1000; omega) (fun z hz => (List.mem_append.mp hz).elim (shY z) fun e => shY z (by rw [List.mem_singleton.mp e, hcy]; exact List.mem_cons_self))
          refine ⟨by show 1 ≤ sizeLine; decide, fun o1 no1 => ?_⟩
          have so1 := same_upd (o := .lst [V.ref t3]) no1
          refine ⟨o1, _, _, rfl, rfl, upd_same, by decide, by decide, by show 1 * 5 ≤ sizeLine; decide, fun o2 no2 => ?_⟩
          have so2 := same_upd (o := .lst (List.replicate (5 : Int).toNat [V.ref t3]).flatten) no2
          refine ⟨(s25.trans so1).trans so2, o2, _, rfl, upd_same, by show 5 ≤ 5; decide, fun y hy => ?_⟩
          have ey : y = V.ref t3 := by
            obtain ⟨l, hl, hm⟩ := List.mem_flatten.mp hy
            rw [(List.mem_replicate.mp hl).2] at hm
            exact List.mem_singleton.mp hm
          rw [ey]
          exact w.mono (gb_mono (so1.trans so2))
      · refine ite_eq false (decide_eq_false (by rw [List.length_map]; omega)) (iteF ?_)
        refine ⟨by show 0 ≤ sizeLine; exact Nat.zero_le _, fun o1 no1 => ?_⟩
        exact ⟨same_upd no1, o1, [], rfl, upd_same, by decide, fun y hy => by cases hy⟩
    rintro _ H26 ⟨s26, L, vs, rfl, kL, lvs, allV⟩
    have on26 := on22.same s26
    refine ⟨W, L, _, _, rfl, rfl, s26 _ _ kW, kL, by rw [lws]; omega, fun Pk nP => ?_⟩
    have fP := small nP on26
    have sP := same_upd (o := .lst (ws ++ vs)) nP
    have on27 := on26.same sP
    have allW : ∀ x ∈ ws ++ vs, Wn K ks.length (GB p q (L2.upd H26 Pk (.lst (ws ++ vs)))) x := fun x hx => by
      rcases List.mem_append.mp hx with z | z
      · exact (all x z).mono (gb_mono (s26.trans sP))
      · exact (allV x z).mono (gb_mono sP)
    refine ⟨p, q, Pk, _, rfl, on27.hd, upd_same, fP.1, fP.2, fun z => by have := congrArg List.length z; rw [List.length_append, lws] at this; simp at this, by rw [List.length_append, lws]; omega, fun H28 x hd28 kp28 hx => ?_⟩
    obtain ⟨dd, ov, no, sh, shs⟩ := allW x hx
    have on28 := on27.draw hd28 kp28
    have ⟨onB, _⟩ := on27.base
    have onB28 := onB.draw hd28 kp28
    refine ⟨on28.2.1, fun H29 ex29 tb29 => ?_⟩
    have on29 := on28.lam ex29 tb29
    have onB29 := onB28.lam ex29 tb29
    refine ⟨_, rfl, _, rfl, a, x, dd, ks, ts, rfl, hTab.mono on29.le, ok, ov.mono onB29.le, sh, shs, fun h => (by rw [no] at h; cases h), fun _ H30 y s30 ny hy => ?_⟩
    refine ⟨rfl, y, _, rfl, hy, rfl, ?_⟩
    have q9 := fin _ (on29.same s30)
    rw [← show (V.bl (decide (V.str ("names" : String) = V.str ("names" : String)))) = V.bl true from congrArg V.bl (decide_eq_true rfl)] at q9
    exact q9
end
end K03
namespace CK
open PySem PySem.Spec PyProof.Rows L2 VG FR HD
def litI : List Int → TA
  | [] => tNil
  | c :: cs => tCons (tC (.int c)) (litI cs)
def litS : List Str → TA
  | [] => tNil
  | c :: cs => tCons (tC (.str c)) (litS cs)
def litT : List (List Int) → TA
  | [] => tNil
  | c :: cs => tCons (tTup (litI c)) (litT cs)
theorem litI_at : ∀ (cs : List Int) (σ : L2.St) (H : Hp) (R : List V → Hp → Prop), R (cs.map V.int) H → litI cs σ H R
  | [], _, _, _, h => h
  | c :: cs, σ, H, R, h => litI_at cs σ H (fun xs H2 => R (.int c :: xs) H2) h
theorem litS_at : ∀ (cs : List Str) (σ : L2.St) (H : Hp) (R : List V → Hp → Prop), R (cs.map V.str) H → litS cs σ H R
  | [], _, _, _, h => h
  | c :: cs, σ, H, R, h => litS_at cs σ H (fun xs H2 => R (.str c :: xs) H2) h
theorem lit_ints {cs : List Int} {σ : L2.St} {H : Hp} {Q : VK} (l : cs.length ≤ 1000) (h : ∀ H' z, Same H H' → H' z = some (.tup (cs.map V.int)) → Q (.ref z) H') : tTup (litI cs) σ H Q :=
  litI_at cs σ H _ ⟨by rw [List.length_map]; have : sizeLine = 16777216 := by decide
                       omega, fun p np => h _ p (same_upd np) upd_same⟩
theorem lit_strs {cs : List Str} {σ : L2.St} {H : Hp} {Q : VK} (l : cs.length ≤ 1000) (h : ∀ H' z, Same H H' → H' z = some (.tup (cs.map V.str)) → Q (.ref z) H') : tTup (litS cs) σ H Q :=
  litS_at cs σ H _ ⟨by rw [List.length_map]; have : sizeLine = 16777216 := by decide
                       omega, fun p np => h _ p (same_upd np) upd_same⟩
theorem litT_at {K : PySem.W.Frag} : ∀ (cs : List (List Int)) (σ : L2.St) (H : Hp) (R : List V → Hp → Prop), (∀ c ∈ cs, c.length ≤ 1000) → (∀ H' xs, Same H H' → Tots K H' xs cs → R xs H') → litT cs σ H R
  | [], _, H, _, _, h => h H [] (Same.refl _) trivial
  | c :: cs, σ, H, R, l, h => lit_ints (Q := fun x H1 => litT cs σ H1 fun xs H2 => R (x :: xs) H2) (l c List.mem_cons_self) fun H1 z s1 kz => litT_at (K := K) cs σ H1 (fun xs H2 => R (.ref z :: xs) H2) (fun d hd => l d (List.mem_cons_of_mem _ hd)) fun H2 xs s2 hX => h H2 (.ref z :: xs) (s1.trans s2) ⟨⟨z, rfl, sqt (s2 _ _ kz)⟩, hX⟩
theorem lit_tots {K : PySem.W.Frag} {cs : List (List Int)} {σ : L2.St} {H : Hp} {Q : VK} (l : cs.length ≤ 1000 ∧ ∀ c ∈ cs, c.length ≤ 1000) (h : ∀ H' z xs, Same H H' → H' z = some (.tup xs) → Tots K H' xs cs → Q (.ref z) H') : tTup (litT cs) σ H Q :=
  litT_at (K := K) cs σ H _ l.2 fun H1 xs s1 hX => ⟨by rw [hX.len]; have : sizeLine = 16777216 := by decide
                                                       have := l.1; omega, fun p np => h _ p xs (s1.trans (same_upd np)) upd_same (hX.mono (same_upd np))⟩
theorem gb_off {G H : Hp} (n : NoTbl G) (s : Same G H) : Same G (offT H) := fun b o h => by
  have h2 := s _ _ h
  unfold offT
  rw [h2]
  cases o with
  | tbl ps => exact absurd h (n b ps)
  | _ => rfl
theorem off_lst {H : Hp} {b : Addr} {xs : List V} (h : H b = some (.lst xs)) : offT H b = some (.lst xs) := by
  unfold offT
  rw [h]
theorem OnT.off {T : List (Addr × Str)} {p q : Addr} {G H H' : Hp} (h : OnT T p q G H) (s : Same (offT H) H') (t : LamX.Tabs T H') : OnT T p q G H' := by
  obtain ⟨cs, st, e1, e2, r⟩ := h.hd
  exact ⟨⟨⟨cs, st, s _ _ (off_lst e1), s _ _ (off_lst e2), r⟩, (gb_off h.2.2 h.le).trans s, h.1.2.2⟩, t, h.2.2⟩
def kE : List Str := ["bun", "cup", "jam", "pie", "tea"]
def tE : List (List Int) := [[0, 2, 4], [], [2, 4], [3], [0, 2, 4]]
def cE : List (List Int) := [[0], [2, 4], [3]]
def rE : List (List Int) := [[0, 1], [], [1], [2], [0, 1]]
def oE : List (List Int) := [[0, 1], [1], [2]]
theorem asc_dec : ∀ ks : List Str, (ks.zip (ks.drop 1)).all (fun p => decide (p.1.cps.toList < p.2.cps.toList)) = true → AscS ks := by
  intro ks h i a b ha hb
  have hz : (ks.zip (ks.drop 1))[i]? = some (a, b) := by
    rw [List.getElem?_zip_eq_some]
    exact ⟨ha, by rw [List.getElem?_drop, Nat.add_comm]; exact hb⟩
  exact of_decide_eq_true (List.all_eq_true.mp h _ (List.mem_of_getElem? hz))
theorem kinds_dec {ks : List Str} (h1 : 1 ≤ ks.length ∧ ks.length ≤ 12) (h2 : ks.all nmB = true) (h3 : (ks.zip (ks.drop 1)).all (fun p => decide (p.1.cps.toList < p.2.cps.toList)) = true) : KindsOk ks :=
  ⟨h1.1, h1.2, fun z hz => ok_of_B (List.all_eq_true.mp h2 z hz), asc_dec ks h3⟩
def lotB (n : Int) (c : List Int) : Bool := decide (c.length ≤ 1000) && c.all (fun x => decide (0 ≤ x ∧ x < n)) && ascB c
theorem lot_dec {n : Int} {c : List Int} (h : lotB n c = true) : LotOk n c := by
  unfold lotB at h
  rw [Bool.and_eq_true, Bool.and_eq_true] at h
  exact ⟨of_decide_eq_true h.1.1, fun x hx => of_decide_eq_true (List.all_eq_true.mp h.1.2 x hx), asc_of h.2⟩
theorem okE : TabOk kE tE := ⟨kinds_dec (by decide) (by decide +kernel) (by decide +kernel), by decide, fun c hc => lot_dec (List.all_eq_true.mp (by decide +kernel : tE.all (lotB (kE.length : Int)) = true) c hc)⟩
theorem clE : classesL tE kE.length = cE := by decide +kernel
theorem neE : classesL tE kE.length ≠ [] := by rw [clE]; decide
theorem rowE : ByCls tE kE.length rE := by
  have h := byCls_rows (n := kE.length) (by decide) okE.lots
  have e : (tE.map fun c => rowC (classesL tE kE.length) c (classesL tE kE.length).length) = rE := by rw [clE]; decide +kernel
  rw [e] at h
  exact h
theorem coreE : CoreR rE oE := by
  refine ⟨?_, fun c => ?_⟩
  · show List.Pairwise (fun a b => TU.lexI a b = true) oE
    decide +kernel
  · constructor
    · intro h
      have : c = [0, 1] ∨ c = [1] ∨ c = [2] := by simpa [oE] using h
      rcases this with e | e | e <;> (rw [e]; exact ⟨by decide, by decide⟩)
    · rintro ⟨h, n⟩
      have : c = [0, 1] ∨ c = [] ∨ c = [1] ∨ c = [2] ∨ c = [0, 1] := by simpa [rE] using h
      rcases this with e | e | e | e | e
      · rw [e]; decide
      · exact absurd e n
      · rw [e]; decide
      · rw [e]; decide
      · rw [e]; decide
def nE : List V := [.int 0, .non, .int 1, .int 2, .int 1]
theorem numE : ((List.range kE.length).map fun j => numV (classesL tE kE.length) ((j : Nat) : Int)) = nE := by rw [clE]; decide +kernel
theorem namE : clsN kE (classesL tE kE.length) = ([("bun" : String), ("jam" : String), ("pie" : String)] : List Str) := by rw [clE]; decide +kernel
theorem lefE : leftK [2, 4] kE.length = [0, 1, 3] := by decide +kernel
theorem lesE : tE.map (newT [0, 1, 3]) = [[0], [], [], [2], [0]] := by decide +kernel
def cs0 : List Str := ["b", "c", "a", "e", "d"]
def os0 : List Str := ["a", "b", "c", "d", "e"]
theorem perm0 : os0.Perm cs0 := by decide +kernel
theorem asc0 : AscS os0 := asc_dec _ (by decide +kernel)
theorem names0 : NamesOk cs0 := ⟨by decide, by decide, fun z hz => ok_of_B (List.all_eq_true.mp (by decide +kernel : cs0.all nmB = true) z hz), by decide +kernel⟩
theorem pls0 : plsS os0 cs0 = [1, 2, 0, 4, 3] := by decide +kernel
def ren0L : List (List Int) := [[0, 1, 3], [], [0, 3], [4], [0, 1, 3]]
theorem ren0 : RenR (plsS os0 cs0) tE ren0L := by
  have h := rowP_ren (ps := plsS os0 cs0) (ts := tE) (n := 5) (by rw [pls0]; decide) (fun x hx => by
    rw [pls0]
    have : x = 0 ∨ x = 1 ∨ x = 2 ∨ x = 3 ∨ x = 4 := by omega
    rcases this with e | e | e | e | e <;> (rw [e]; decide)) (fun x hx => by
    rw [pls0] at hx
    have : x = 1 ∨ x = 2 ∨ x = 0 ∨ x = 4 ∨ x = 3 := by simpa using hx
    rcases this with e | e | e | e | e
    · exact ⟨1, by decide, e⟩
    · exact ⟨2, by decide, e⟩
    · exact ⟨0, by decide, e⟩
    · exact ⟨4, by decide, e⟩
    · exact ⟨3, by decide, e⟩) (fun c hc x hx => ((okE.lots c hc).2.1 x hx).1)
  have e : (tE.map fun c => rowP (plsS os0 cs0) c 5) = ren0L := by rw [pls0]; decide +kernel
  rw [e] at h
  exact h
def kF : List Str := ["a", "b"]
def tF : List (List Int) := List.replicate 12 [0]
theorem okF : TabOk kF tF := ⟨kinds_dec (by decide) (by decide +kernel) (by decide +kernel), by decide, fun c hc => lot_dec (List.all_eq_true.mp (by decide +kernel : tF.all (lotB (kF.length : Int)) = true) c hc)⟩
def kG : List Str := ["a"]
def tG : List (List Int) := [[]]
theorem okG : TabOk kG tG := ⟨kinds_dec (by decide) (by decide +kernel) (by decide +kernel), by decide, fun c hc => lot_dec (List.all_eq_true.mp (by decide +kernel : tG.all (lotB (kG.length : Int)) = true) c hc)⟩
theorem clG : classesL tG kG.length = [] := by decide +kernel
/-- the law -/
def spLawT (K : PySem.W.Frag) (T : List (Addr × Str)) : Sp := fun vs H Q _ => ∃ (a : Addr) (ns : List Int), vs = [.ref a] ∧ SqL K H a (ns.map V.int) ∧ ns.length ≤ 63 ∧ LamX.Tabs T H ∧ ∀ H', Q (.bl true) H'
end CK
namespace CK
open PySem PySem.Spec PyProof.Rows L2 VG FR HD
theorem tots_gb {K : PySem.W.Frag} {p q : Addr} {H : Hp} (hd : Hd p q H) : ∀ {xs : List V} {ts : List (List Int)}, Tots K H xs ts → Tots K (GB p q H) xs ts
  | [], [], h => h
  | [], _ :: _, h => h.elim
  | _ :: _, [], h => h.elim
  | _ :: _, _ :: _, ⟨⟨y, e, hy⟩, r⟩ => ⟨⟨y, e, seqT_gb hd hy⟩, tots_gb hd r⟩
theorem tab_gb {K : PySem.W.Frag} {C p q x : Addr} {H : Hp} {ks : List Str} {ts : List (List Int)} (hd : Hd p q H) (h : Tab K C H x ks ts) : Tab K C (GB p q H) x ks ts := by
  obtain ⟨dx, k, t, xs, o1, o2, o3, o4⟩ := h
  exact ⟨dx, k, t, xs, gb_at o1 (hd.neOf o1 (fun ys z => by cases z)) (fun _ z => by cases z), seqT_gb hd o2, seqT_gb hd o3, tots_gb hd o4⟩
theorem at_asg {te : TE} {g : TG} {u : TS} {D : Ends} {σ : L2.St} {H : Hp} (h : te σ H fun x H1 => g x σ H1 (u D)) : tSeq (tAsg te g) u D σ H := h
theorem at_make {cls : Addr} {sp : Sp} {ys : List V} {E : XK} {ta : TA} {σ : L2.St} {H : Hp} {Q : VK} (h : ta σ H fun xs H1 => tMake cls sp ys E (fun _ H Q => Q xs H) σ H1 Q) : tMake cls sp ys E ta σ H Q := h
theorem at_heard {C : Addr} {tl : XK → Hp → VK → Prop} {H : Hp} {Q : VK} (h : tl (fun cls d H' => cls = .ref C ∧ ∃ (dd : Addr) (w : Str), d = some dd ∧ H' dd = some (.xd [("word", .str w)]) ∧ Q (.str w) H') H (fun _ H' => Q (.str "") H')) : THeard C tl H Q := h
theorem at_callS {sp : Sp} {W : L2.St → XK} {ta : TA} {σ : L2.St} {H : Hp} {Q : VK} (h : ta σ H fun vs H1 => tCallS sp W (fun _ H Q => Q vs H) σ H1 Q) : tCallS sp W ta σ H Q := h
theorem at_cons {ta : TE} {tr : TA} {σ : L2.St} {H : Hp} {R : List V → Hp → Prop} (h : ta σ H fun x H1 => tr σ H1 fun xs H2 => R (x :: xs) H2) : tCons ta tr σ H R := h
theorem at_op {r : R2} {ta tb : TE} {σ : L2.St} {H : Hp} {Q : VK} (h : ta σ H fun x H1 => tb σ H1 fun y H2 => r x y H2 Q) : tOp r ta tb σ H Q := h
theorem eqv_S1 {ks : List Str} (h : ∀ z ∈ ks, NameOk z) : PyData.eqv (dS1 ks) (dS1 ks) = true ∧ SeqAt.shaped (dS1 ks) = true := ⟨SeqAt.eqv_refl _ (gd_dS1 h).1, (gd_dS1 h).shaped (by decide)⟩
theorem intV_nE : ∀ v ∈ nE, IntV v := fun v hv => by
  have : v = .int 0 ∨ v = .non ∨ v = .int 1 ∨ v = .int 2 ∨ v = .int 1 := by simpa [nE] using hv
  rcases this with e | e | e | e | e
  · exact .inl ⟨0, e, by decide⟩
  · exact .inr e
  · exact .inl ⟨1, e, by decide⟩
  · exact .inl ⟨2, e, by decide⟩
  · exact .inl ⟨1, e, by decide⟩
theorem eqv_nE : PyData.eqv (.tuple (nE.map vD)) (.tuple (nE.map vD)) = true ∧ SeqAt.shaped (.tuple (nE.map vD)) = true := by
  have g : Gd 1 (.tuple (nE.map vD)) := gd_tup fun d hd => by
    obtain ⟨v, hv, rfl⟩ := List.mem_map.mp hd
    exact gd_v (intV_nE v hv)
  exact ⟨SeqAt.eqv_refl _ g.1, g.shaped (by decide)⟩
theorem eqv_I1 (c : List Int) : PyData.eqv (dI c) (dI c) = true ∧ SeqAt.shaped (dI c) = true := ⟨SeqAt.eqv_refl _ (gd_dI c).1, (gd_dI c).shaped (by decide)⟩
def bjp : List Str := [("bun" : String), ("jam" : String), ("pie" : String)]
theorem namE2 : clsN kE (classesL tE kE.length) = bjp := namE
theorem names_three : ∀ z ∈ bjp, NameOk z := fun z hz => ok_of_B (List.all_eq_true.mp (by decide +kernel : bjp.all nmB = true) z hz)
end CK
namespace K03
open PySem PySem.Spec PyProof.Rows L2 VG FR CK HD
abbrev s_law : Stmt := topS 50
abbrev N_law : List Str := ["script", "heap", "turn", "many", "kinds", "totals", "table", "told", "heard", "full"]
theorem sc_law : FnScope N_law ["script"] (defScope s_law) := ⟨rfl, rfl, rfl, by decide +kernel, rfl, by decide +kernel, by decide +kernel⟩
section
variable {P : Program} {w : World} {K : PySem.W.Frag} {mg : Str → Option Value} {base : Heap}
theorem ok_law {f c0 Pt C R : Addr} {fd : FuncData} {T : List (Addr × Str)} (F : FunC K "law" "law" s_law f fd c0) (TC : TabC K C) (T_Table : MkT P w K mg base 7 "Table" C (spInitT K C))
    (hrd : Hrd K mg R) (TB : LamX.TabB base mg c0 Pt) (inT : (Pt, lamQ (("law" : Str) ++ ".<locals>.")) ∈ T) (oneT : ∀ p ∈ T, p.1 = Pt → p.2 = lamQ (("law" : Str) ++ ".<locals>."))
    (C__law_heap : Cl P w K mg base 1 "_law_heap" (spHeapF K)) (C__law_pick : Cl P w K mg base 2 "_law_pick" (spPick K)) (C__law_names : Cl P w K mg base 3 "_law_names" (spLawNames K)) (C__law_totals : Cl P w K mg base 3 "_law_totals" (spLawTots K))
    (G__law_classes_right : ClG P w K mg base 6 "_law_classes_right" (spJ0 K C)) (G__law_merged_right : ClG P w K mg base 15 "_law_merged_right" (spJ1 K C T)) (G__law_totals_right : ClG P w K mg base 15 "_law_totals_right" (spJ2 K C T)) (G__law_kinds_right : ClG P w K mg base 15 "_law_kinds_right" (spJ2 K C T)) (G__law_renamed_right : ClG P w K mg base 15 "_law_renamed_right" (spJ2 K C T))
    (C_classes_of : Cl P w K mg base 2 "classes_of" (spClasses K C)) (C_totals_by_classes : Cl P w K mg base 4 "totals_by_classes" (spTBC2 K C)) (C_class_numbers : Cl P w K mg base 3 "class_numbers" (spNumbers K C))
    (C_merged : Cl P w K mg base 9 "merged" (fun vs H Q _ => spMerged K C R vs H Q E0)) (C_core_of : Cl P w K mg base 11 "core_of" (fun vs H Q _ => spCore K C R vs H Q E0)) (C_without_kinds : Cl P w K mg base 9 "without_kinds" (fun vs H Q _ => spLess2 K C R vs H Q E0)) (C_renamed_table : Cl P w K mg base 11 "renamed_table" (fun vs H Q _ => spRenamed K C R vs H Q E0))
    (X_with_total : ClX P w K mg base 9 "with_total" (spWith K C R)) (X_merged : ClX P w K mg base 9 "merged" (spMerged K C R))
    (z_len : mg "len" = none) (z_int : mg "int" = none) (z_range : mg "range" = none) (z_repr : mg "repr" = none) : FnG P w K mg base 17 f fd ["script"] (spLawT K T) := by
  refine fnGC_of F sc_law (fun vs H Q E h => ?_) (fun A outer s H vs Q E hg hr h => ?_)
  · obtain ⟨_, _, rfl, _⟩ := h
    rfl
  · obtain ⟨a, sc, rfl, hS, l63, tbs, fin⟩ := h
    refine ⟨_, (pss_cons (ps_set (i := 1) sc_law.nd rfl (.inl rfl) (pe_cl C__law_heap hr (by decide) rfl (pa_cons (pv 0) pa_nil)))
    (pss_cut (ps_for PassesOwn.never rfl (pi_range1 (by rfl) z_range (pa_cons (pe_op op_add pe_int (pe_callTy call_int1 (by rfl) z_int (by decide +kernel) (pa_cons (pe_cmpR op_gt (pe_callB call_len_seq (by rfl) z_len (by decide +kernel) (pa_cons (pv 0) pa_nil)) pe_int (nomark _)) pa_nil))) pa_nil)) (pg_name (i := 2) sc_law.nd rfl (.inl rfl))
      (pss_cons (ps_set (i := 3) sc_law.nd rfl (.inl rfl) (pe_cl C__law_pick hr (by decide) rfl (pa_cons (pv 1) (pa_cons (pe_lst (pa_cons pe_int (pa_cons pe_int (pa_cons pe_int (pa_cons pe_int (pa_cons pe_int (pa_cons pe_int (pa_cons pe_int pa_nil)))))))) pa_nil))))
      (pss_cons (ps_par (i := 4) (j := 5) (by rfl) sc_law.nd rfl rfl (by decide) rfl rfl (pa_cons (pe_cl C__law_names hr (by decide) rfl (pa_cons (pv 1) (pa_cons (pv 3) pa_nil))) (pa_cons (pe_cl C__law_totals hr (by decide) rfl (pa_cons (pv 1) (pa_cons (pv 3) (pa_cons (pe_cl C__law_pick hr (by decide) rfl (pa_cons (pv 1) (pa_cons (pe_lst (pa_cons pe_int (pa_cons pe_int (pa_cons pe_int (pa_cons pe_int (pa_cons pe_int (pa_cons pe_int (pa_cons pe_int pa_nil)))))))) pa_nil))) pa_nil)))) pa_nil)) (by rfl))
      (pss_cons (ps_set (i := 6) sc_law.nd rfl (.inl rfl) (pe_mt T_Table hr (by decide) rfl (pa_cons (pv 4) (pa_cons (pv 5) pa_nil))))
      (pss_cons (ps_if (PW.pt (pw_or (pt_not (pt_val (pe_clg G__law_classes_right hg hr (by decide) rfl (pa_cons (pv 6) (pa_cons (pv 4) (pa_cons (pv 5) pa_nil)))))) (pw_or1 (pt_not (pt_val (pe_clg G__law_merged_right hg hr (by decide) rfl (pa_cons (pv 6) (pa_cons (pv 4) (pa_cons (pv 5) pa_nil)))))))))
        (pss_one (ps_ret pe_bl))
        pss_nil)
      (pss_cons (ps_if (PW.pt (pw_or (pt_not (pt_val (pe_clg G__law_totals_right hg hr (by decide) rfl (pa_cons (pv 1) (pa_cons (pv 6) (pa_cons (pv 4) (pa_cons (pv 5) pa_nil))))))) (pw_or1 (pt_not (pt_val (pe_clg G__law_kinds_right hg hr (by decide) rfl (pa_cons (pv 1) (pa_cons (pv 6) (pa_cons (pv 4) (pa_cons (pv 5) pa_nil))))))))))
        (pss_one (ps_ret pe_bl))
        pss_nil)
      (pss_one (ps_if (PW.pt (pw_or (pt_not (pt_val (pe_clg G__law_renamed_right hg hr (by decide) rfl (pa_cons (pv 1) (pa_cons (pv 6) (pa_cons (pv 4) (pa_cons (pv 5) pa_nil))))))) (pw_or1 (pt_cmpR op_ne (pe_callB (cr_repr hg hr.units) (by rfl) z_repr (by decide +kernel) (pa_cons (pe_tup (pa_cons (pe_fld (pv 6) (by rfl)) (pa_cons (pe_fld (pv 6) (by rfl)) pa_nil))) pa_nil)) (pe_callB (cr_repr hg hr.units) (by rfl) z_repr (by decide +kernel) (pa_cons (pe_tup (pa_cons (pv 4) (pa_cons (pv 5) pa_nil))) pa_nil)) (nomark _)))))
        (pss_one (ps_ret pe_bl))
        pss_nil))))))))
    (pss_cons (ps_set (i := 6) sc_law.nd rfl (.inl rfl) (pe_mt T_Table hr (by decide) rfl (pa_cons (pe_tup (pa_cons pe_str (pa_cons pe_str (pa_cons pe_str (pa_cons pe_str (pa_cons pe_str pa_nil)))))) (pa_cons (pe_tup (pa_cons (pe_tup (pa_cons pe_int (pa_cons pe_int (pa_cons pe_int pa_nil)))) (pa_cons (pe_tup pa_nil) (pa_cons (pe_tup (pa_cons pe_int (pa_cons pe_int pa_nil))) (pa_cons (pe_tup (pa_cons pe_int pa_nil)) (pa_cons (pe_tup (pa_cons pe_int (pa_cons pe_int (pa_cons pe_int pa_nil)))) pa_nil)))))) pa_nil))))
    (pss_cons (ps_if (PW.pt (pw_or (pt_cmpR (op_neD hr.units) (pe_cl C_classes_of hr (by decide) rfl (pa_cons (pv 6) pa_nil)) (pe_tup (pa_cons (pe_tup (pa_cons pe_int pa_nil)) (pa_cons (pe_tup (pa_cons pe_int (pa_cons pe_int pa_nil))) (pa_cons (pe_tup (pa_cons pe_int pa_nil)) pa_nil)))) (nomark _)) (pw_or (pt_cmpR (op_neD hr.units) (pe_cl C_totals_by_classes hr (by decide) rfl (pa_cons (pv 6) pa_nil)) (pe_tup (pa_cons (pe_tup (pa_cons pe_int (pa_cons pe_int pa_nil))) (pa_cons (pe_tup pa_nil) (pa_cons (pe_tup (pa_cons pe_int pa_nil)) (pa_cons (pe_tup (pa_cons pe_int pa_nil)) (pa_cons (pe_tup (pa_cons pe_int (pa_cons pe_int pa_nil))) pa_nil)))))) (nomark _)) (pw_or1 (pt_cmpR (op_neD hr.units) (pe_cl C_class_numbers hr (by decide) rfl (pa_cons (pv 6) pa_nil)) (pe_tup (pa_cons pe_int (pa_cons pe_non (pa_cons pe_int (pa_cons pe_int (pa_cons pe_int pa_nil)))))) (nomark _))))))
      (pss_one (ps_ret pe_bl))
      pss_nil)
    (pss_cons (ps_if (PW.pt (pw_or (pt_cmpR (op_neD hr.units) (pe_fld (pe_cl C_merged hr (by decide) rfl (pa_cons (pv 6) pa_nil)) (by rfl)) (pe_tup (pa_cons pe_str (pa_cons pe_str (pa_cons pe_str pa_nil)))) (nomark _)) (pw_or (pt_cmpR (op_neD hr.units) (pe_fld (pe_cl C_core_of hr (by decide) rfl (pa_cons (pv 6) pa_nil)) (by rfl)) (pe_tup (pa_cons (pe_tup (pa_cons pe_int (pa_cons pe_int pa_nil))) (pa_cons (pe_tup (pa_cons pe_int pa_nil)) (pa_cons (pe_tup (pa_cons pe_int pa_nil)) pa_nil)))) (nomark _)) (pw_or1 (pt_cmpR (op_neD hr.units) (pe_fld (pe_cl C_without_kinds hr (by decide) rfl (pa_cons (pv 6) (pa_cons (pe_tup (pa_cons pe_int (pa_cons pe_int pa_nil))) pa_nil))) (by rfl)) (pe_tup (pa_cons (pe_tup (pa_cons pe_int pa_nil)) (pa_cons (pe_tup pa_nil) (pa_cons (pe_tup pa_nil) (pa_cons (pe_tup (pa_cons pe_int pa_nil)) (pa_cons (pe_tup (pa_cons pe_int pa_nil)) pa_nil)))))) (nomark _))))))
      (pss_one (ps_ret pe_bl))
      pss_nil)
    (pss_cons (ps_set (i := 7) sc_law.nd rfl (.inl rfl) (pe_cl C_renamed_table hr (by decide) rfl (pa_cons (pv 6) (pa_cons (pe_tup (pa_cons pe_str (pa_cons pe_str (pa_cons pe_str (pa_cons pe_str (pa_cons pe_str pa_nil)))))) pa_nil))))
    (pss_cons (ps_if (PW.pt (pw_or (pt_cmpR (op_neD hr.units) (pe_ix ix_tup (pv 7) pe_int (fun _ _ => rfl)) (pe_tup (pa_cons pe_int (pa_cons pe_int (pa_cons pe_int (pa_cons pe_int (pa_cons pe_int pa_nil)))))) (nomark _)) (pw_or1 (pt_cmpR (op_neD hr.units) (pe_fld (pe_ix ix_tup (pv 7) pe_int (fun _ _ => rfl)) (by rfl)) (pe_tup (pa_cons (pe_tup (pa_cons pe_int (pa_cons pe_int (pa_cons pe_int pa_nil)))) (pa_cons (pe_tup pa_nil) (pa_cons (pe_tup (pa_cons pe_int (pa_cons pe_int pa_nil))) (pa_cons (pe_tup (pa_cons pe_int pa_nil)) (pa_cons (pe_tup (pa_cons pe_int (pa_cons pe_int (pa_cons pe_int pa_nil)))) pa_nil)))))) (nomark _)))))
      (pss_one (ps_ret pe_bl))
      pss_nil)
    (pss_cons (ps_set (i := 9) sc_law.nd rfl (.inr rfl) (pe_mt T_Table hr (by decide) rfl (pa_cons (pe_tup (pa_cons pe_str (pa_cons pe_str pa_nil))) (pa_cons (pe_op op_repA (pe_tup (pa_cons (pe_tup (pa_cons pe_int pa_nil)) pa_nil)) pe_int) pa_nil))))
    (pss_cons (ps_set (i := 8) sc_law.nd rfl (.inl rfl) (pe_lst (pa_cons (pe_heard (k := 9) (T := T) hrd rfl TB rfl inT oneT (hr.mono (by decide)) (show LamX.LamS (defScope s_law) _ from LamX.lamS_by (by decide +kernel)) rfl (fun _ _ _ _ _ => rfl) (fun A2 outer2 s2 H2 E2 f2 c2 hr2 => pe_clx X_with_total hr2 (by decide) (takes_of (E := E2) rfl rfl rfl rfl) rfl (pa_cons (pv 9) (pa_cons (pe_tup (pa_cons pe_int pa_nil)) pa_nil)))) pa_nil)))
    (pss_cons (ps_expr (pe_bm PySem.F.plainAttrs_list PySem.F.slot_list_append PySem.F.type_list_append mt_append (pv 8) (pa_cons (pe_heard (k := 9) (T := T) hrd rfl TB rfl inT oneT (hr.mono (by decide)) (show LamX.LamS (defScope s_law) _ from LamX.lamS_by (by decide +kernel)) rfl (fun _ _ _ _ _ => rfl) (fun A2 outer2 s2 H2 E2 f2 c2 hr2 => pe_clx X_with_total hr2 (by decide) (takes_of (E := E2) rfl rfl rfl rfl) rfl (pa_cons (pv 9) (pa_cons (pe_tup (pa_cons pe_int (pa_cons pe_int pa_nil))) pa_nil)))) pa_nil)))
    (pss_cons (ps_expr (pe_bm PySem.F.plainAttrs_list PySem.F.slot_list_append PySem.F.type_list_append mt_append (pv 8) (pa_cons (pe_heard (k := 9) (T := T) hrd rfl TB rfl inT oneT (hr.mono (by decide)) (show LamX.LamS (defScope s_law) _ from LamX.lamS_by (by decide +kernel)) rfl (fun _ _ _ _ _ => rfl) (fun A2 outer2 s2 H2 E2 f2 c2 hr2 => pe_clx X_merged hr2 (by decide) (takes_of (E := E2) rfl rfl rfl rfl) rfl (pa_cons (pe_mt T_Table hr2 (by decide) rfl (pa_cons (pe_tup (pa_cons pe_str pa_nil)) (pa_cons (pe_tup (pa_cons (pe_tup pa_nil) pa_nil)) pa_nil))) pa_nil))) pa_nil)))
    (pss_one (ps_ret (pe_cmpR (op_eqD hr.units) (pv 8) (pe_lst (pa_cons pe_str (pa_cons pe_str (pa_cons pe_str pa_nil)))) (nomark _))))))))))))))), ?_⟩
    have big : sizeLine = 16777216 := by decide
    refine ⟨_, rfl, a, sc, rfl, hS, l63, fun H1 p q hd1 s1 np nq => ?_⟩
    have on0 := OnT.start (T := T) hd1 (tabs_same tbs s1)
    have hS1 := s1.seq hS
    have nG := on0.2.2
    generalize GB p q H1 = G at on0 nG
    refine ⟨fun σ H' => (∃ y2 y3 y4 y5 y6 : Option V, σ = [some (.ref a), some (.ref p), y2, y3, y4, y5, y6, none, none, none]) ∧ OnT T p q G H', ?_, ?_⟩
    · refine ⟨_, rfl, a, sc.map V.int, rfl, .inl hS1, _, _, rfl, rfl, .inr ⟨_, rfl, _, _, rfl, rfl, _, rfl, ?_, ?_, ?_⟩⟩
      · split <;> decide
      · split <;> decide
      · refine for_it (walk_range (lo := 0)) (fun i σ H' => (∃ y2 y3 y4 y5 y6 : Option V, σ = [some (.ref a), some (.ref p), y2, y3, y4, y5, y6, none, none, none]) ∧ OnT T p q G H') ⟨⟨_, _, _, _, _, rfl⟩, on0⟩ (fun _ _ _ _ _ => trivial) ?_ ?_
        · rintro i x σ H2 H3 hi ⟨⟨y2, y3, y4, y5, y6, rfl⟩, on1⟩ ⟨rfl, rfl⟩
          -- how many kinds
          refine ⟨_, rfl, by show 7 ≤ sizeLine; decide, fun L nL => ?_⟩
          have fL := on1.free nL
          have on2 := on1.new (o := .lst [.int 4, .int 3, .int 6, .int 1, .int 2, .int 8, .int 12]) nL
          refine ⟨p, q, L, _, rfl, on2.hd, upd_same, fL.1, fL.2.1, by simp, by show 7 < 1000000; decide, fun H4 v hd4 kp4 hv => ?_⟩
          have on4 := on2.draw hd4 kp4
          obtain ⟨m, rfl, m1, m12⟩ : ∃ m : Nat, v = .int m ∧ 1 ≤ m ∧ m ≤ 12 := by
            simp only [List.mem_cons, List.not_mem_nil, or_false] at hv
            rcases hv with e | e | e | e | e | e | e
            · exact ⟨4, e, by decide, by decide⟩
            · exact ⟨3, e, by decide, by decide⟩
            · exact ⟨6, e, by decide, by decide⟩
            · exact ⟨1, e, by decide, by decide⟩
            · exact ⟨2, e, by decide, by decide⟩
            · exact ⟨8, e, by decide, by decide⟩
            · exact ⟨12, e, by decide, by decide⟩
          clear on1 on2 fL nL kp4 hd4 hv
          -- their names
          refine ⟨_, rfl, _, rfl, p, q, m, rfl, on4.hd, m1, m12, fun H5 u ks on5' ku okK lks => ?_⟩
          have on5 := on4.draw on5'.hd on5'.keep
          have nu : u ≠ p ∧ u ≠ q := on5.hd.neOf ku (fun ys z => by cases z)
          have ⟨on6, g6⟩ := on5.base
          have ku6 : GB p q H5 u = some (.tup (ks.map V.str)) := gb_at ku nu (fun _ z => by cases z)
          have back6 : ∀ {H'}, OnT T p q (GB p q H5) H' → OnT T p q G H' := fun h => h.drop g6 nG
          clear on5 on5' ku nu on4 g6
          generalize GB p q H5 = G1 at on6 ku6 back6
          -- the totals
          refine ⟨_, rfl, _, rfl, _, rfl, by show 7 ≤ sizeLine; decide, fun L2 nL2 => ?_⟩
          have fL := on6.free nL2
          have on7 := on6.new (o := .lst [.int 3, .int 2, .int 4, .int 1, .int 6, .int 12, .int 0]) nL2
          refine ⟨p, q, L2, _, rfl, on7.hd, upd_same, fL.1, fL.2.1, by simp, by show 7 < 1000000; decide, fun H8 v hd8 kp8 hv => ?_⟩
          have on8 := on7.draw hd8 kp8
          obtain ⟨m2, rfl, m212⟩ : ∃ m : Nat, v = .int m ∧ m ≤ 12 := by
            simp only [List.mem_cons, List.not_mem_nil, or_false] at hv
            rcases hv with e | e | e | e | e | e | e
            · exact ⟨3, e, by decide⟩
            · exact ⟨2, e, by decide⟩
            · exact ⟨4, e, by decide⟩
            · exact ⟨1, e, by decide⟩
            · exact ⟨6, e, by decide⟩
            · exact ⟨12, e, by decide⟩
            · exact ⟨0, e, by decide⟩
          clear on7 fL nL2 kp8 hd8 hv
          refine ⟨p, q, m, m2, rfl, on8.hd, m12, m212, fun H9 t xs ts on9' kt hX lt okT => ?_⟩
          have on9 := on8.draw on9'.hd on9'.keep
          refine ⟨_, _, rfl, ?_⟩
          -- the table
          have ku9 := on9.le _ _ ku6
          refine ⟨_, rfl, _, rfl, fun x dx nx nd ne => tab_made (sqt ku9) okK (sqt kt) hX (by omega) (by rw [lks]; exact okT) nx nd ne fun H10 s10 tab na => ?_⟩
          have ok : TabOk ks ts := ⟨okK, by omega, by rw [lks]; exact okT⟩
          have on10 := on9.same s10
          have kt10 := s10 _ _ kt
          have hX10 := hX.mono s10
          have ⟨on11, g11⟩ := on10.base
          have nt : t ≠ p ∧ t ≠ q := on10.hd.neOf kt10 (fun ys z => by cases z)
          have back : ∀ {H'}, OnT T p q (GB p q H10) H' → OnT T p q G H' := fun h => back6 (h.drop g11 on6.2.2)
          have hK : SqT K (GB p q H10) u (ks.map V.str) := sqt (g11 _ _ ku6)
          have hSt : SqT K (GB p q H10) t xs := sqt (gb_at kt10 nt (fun _ z => by cases z))
          have hTt : Tots K (GB p q H10) xs ts := by
            have key : ∀ (xs : List V) (ts : List (List Int)), Tots K H10 xs ts → Tots K (GB p q H10) xs ts := by
              intro xs
              induction xs with
              | nil => intro ts h; cases ts with
                | nil => exact h
                | cons _ _ => exact h.elim
              | cons v vs ih => intro ts h; cases ts with
                | nil => exact h.elim
                | cons c cs =>
                  obtain ⟨⟨y, e, hy⟩, r⟩ := h
                  exact ⟨⟨y, e, seqT_gb on10.hd hy⟩, ih cs r⟩
            exact key xs ts hX10
          have tabG : Tab K C (GB p q H10) x ks ts := by
            obtain ⟨dx2, k2, t2, xs2, o1, o2, o3, o4⟩ := tab
            have nx2 : x ≠ p ∧ x ≠ q := on10.hd.neOf o1 (fun ys z => by cases z)
            have key : ∀ (xs : List V) (ts : List (List Int)), Tots K H10 xs ts → Tots K (GB p q H10) xs ts := by
              intro xs
              induction xs with
              | nil => intro ts h; cases ts with
                | nil => exact h
                | cons _ _ => exact h.elim
              | cons v vs ih => intro ts h; cases ts with
                | nil => exact h.elim
                | cons c cs =>
                  obtain ⟨⟨y, e, hy⟩, r⟩ := h
                  exact ⟨⟨y, e, seqT_gb on10.hd hy⟩, ih cs r⟩
            exact ⟨dx2, k2, t2, xs2, gb_at o1 nx2 (fun _ z => by cases z), seqT_gb on10.hd o2, seqT_gb on10.hd o3, key _ _ o4⟩
          clear on9 on9' on8 on6 ku6 back6 kt hX kt10 hX10 nt g11 tab s10 na ku9 on10
          generalize GB p q H10 = G2 at on11 back hK hSt hTt tabG
          have n2 := on11.2.2
          -- the classes
          refine ⟨_, rfl, _, rfl, _, rfl, x, u, t, ks, xs, ts, rfl, tabG.mono on11.le, seqT on11.le hK, seqT on11.le hSt, hTt.mono on11.le, ok, fun H12 s12 => ?_⟩
          refine ⟨_, rfl, iteF ?_⟩
          have on12 := on11.same s12
          have o12 := gb_off n2 on12.le
          refine ⟨_, rfl, _, rfl, _, rfl, x, u, t, ks, xs, ts, rfl, tabG.mono o12, seqT o12 hK, seqT o12 hSt, hTt.mono o12, ok, on12.2.1, fun H13 s13 tb13 => ?_⟩
          refine ⟨_, rfl, iteF ?_⟩
          have on13 := on12.off s13 tb13
          have ⟨b13, g13⟩ := on13.base
          -- totals, kinds, names
          refine ⟨_, rfl, _, rfl, _, rfl, _, rfl, p, q, x, u, t, ks, xs, ts, rfl, on13.hd, tabG.mono g13, seqT g13 hK, seqT g13 hSt, hTt.mono g13, ok, on13.2.1, fun H14 on14' => ?_⟩
          refine ⟨_, rfl, iteF ?_⟩
          have on14 := on14'.drop g13 n2
          have ⟨b14, g14⟩ := on14.base
          refine ⟨_, rfl, _, rfl, _, rfl, _, rfl, p, q, x, u, t, ks, xs, ts, rfl, on14.hd, tabG.mono g14, seqT g14 hK, seqT g14 hSt, hTt.mono g14, ok, on14.2.1, fun H15 on15' => ?_⟩
          refine ⟨_, rfl, iteF ?_⟩
          have on15 := on15'.drop g14 n2
          have ⟨b15, g15⟩ := on15.base
          refine ⟨_, rfl, _, rfl, _, rfl, _, rfl, p, q, x, u, t, ks, xs, ts, rfl, on15.hd, tabG.mono g15, seqT g15 hK, seqT g15 hSt, hTt.mono g15, ok, on15.2.1, fun H16 on16' => ?_⟩
          refine ⟨_, rfl, iteF ?_⟩
          have on16 := on16'.drop g15 n2
          -- the table's own names and totals
          obtain ⟨dx2, k2, t2, xs2, o1, o2, o3, o4⟩ := tabG.mono on16.le
          have shT := shn_table ok
          refine ⟨_, rfl, x, C, dx2, _, .ref k2, rfl, o1, TC.c, TC.nk, rfl, ?_⟩
          refine ⟨_, rfl, x, C, dx2, _, .ref t2, rfl, o1, TC.c, TC.nt, rfl, ?_⟩
          refine ⟨by show 2 ≤ sizeLine; decide, fun z1 nz1 => ?_⟩
          have sz1 := same_upd (o := .tup [.ref k2, .ref t2]) nz1
          have on17 := on16.same sz1
          refine ⟨z1, _, rfl, .tup (sqt upd_same) (.cons (.tup (seqT sz1 o2) (dpAll_strs ks)) (.cons (.tup (seqT sz1 o3) (dpAll_tots (o4.mono sz1))) .nil)), shT.r.1, shT.r.2.1, shT.r.2.2.1, shT.r.2.2.2, ?_⟩
          refine ⟨_, rfl, _, rfl, by show 2 ≤ sizeLine; decide, fun z2 nz2 => ?_⟩
          have sz2 := same_upd (o := .tup [.ref u, .ref t]) nz2
          have on18 := on17.same sz2
          refine ⟨z2, _, rfl, .tup (sqt upd_same) (.cons (.tup (seqT on18.le hK) (dpAll_strs ks)) (.cons (.tup (seqT on18.le hSt) (dpAll_tots (hTt.mono on18.le))) .nil)), shT.r.1, shT.r.2.1, shT.r.2.2.1, shT.r.2.2.2, rfl, ?_⟩
          refine ⟨_, rfl, ite_eq false (show (!decide (V.str (PyData.shown (.tuple [dS1 ks, dT1 ts])) = V.str (PyData.shown (.tuple [dS1 ks, dT1 ts])))) = false by rw [decide_eq_true rfl]; rfl) (iteF ?_)⟩
          exact ⟨⟨_, _, _, _, _, rfl⟩, back on18⟩
        · rintro σ H2 h
          exact h
    clear on0 hS1 s1 hd1 tbs hS np nq
    rintro σ H2 ⟨⟨y2, y3, y4, y5, y6, rfl⟩, on0⟩
    -- the examples
    refine at_asg (at_make (at_cons (lit_strs (cs := kE) (by decide) fun H3 u s3 ku => ?_)))
    refine at_cons (lit_tots (K := K) (cs := tE) ⟨by decide, by decide⟩ fun H4 t xs s4 kt hX => ?_)
    refine fun x dx nx nd ne => tab_made (sqt (s4 _ _ ku)) okE.kinds (sqt kt) hX okE.len okE.lots nx nd ne fun H5 s5 tab na => ?_
    have on5 := ((on0.same s3).same s4).same s5
    clear ku kt hX s3 s4 s5 na on0
    -- classes
    refine ⟨_, rfl, x, kE, tE, rfl, tab, by decide, by decide, fun H6 u us s6 nu ku hU => ?_⟩
    rw [clE] at hU
    refine lit_tots (K := K) (cs := cE) ⟨by decide, by decide⟩ fun H7 z zs s7 kz hZ => ?_
    refine ⟨_, _, dp_T1 (sqt (s7 _ _ ku)) (hU.mono s7), dp_T1 (sqt kz) hZ, shp_T1 _, shp_T1 _, _, rfl, ?_⟩
    rw [eqv_T1]
    refine iteF ?_
    have s8 := s6.trans s7
    have tab7 := tab.mono s8
    have on7 := on5.same s8
    clear ku hU kz hZ s6 s7 s8 nu tab on5
    -- totals by classes
    refine ⟨_, rfl, x, kE, tE, rfl, tab7, by decide, by decide, okE.low, fun H8 u us ls s8 ku hU by_ => ?_⟩
    have e := ByCls.uniq by_ rowE
    subst e
    refine lit_tots (K := K) (cs := rE) ⟨by decide, by decide⟩ fun H9 z zs s9 kz hZ => ?_
    refine ⟨_, _, dp_T1 (sqt (s9 _ _ ku)) (hU.mono s9), dp_T1 (sqt kz) hZ, shp_T1 _, shp_T1 _, _, rfl, ?_⟩
    rw [eqv_T1]
    refine iteF ?_
    have s10 := s8.trans s9
    have tab9 := tab7.mono s10
    have on9 := on7.same s10
    clear ku hU kz hZ s8 s9 s10 tab7 on7 by_
    -- numbers
    refine ⟨_, rfl, x, kE, tE, rfl, tab9, by decide, by decide, fun H10 u s10 nu ku => ?_⟩
    rw [numE] at ku
    refine ⟨by show 5 ≤ sizeLine; decide, fun z nz => ?_⟩
    have sz := same_upd (o := .tup [V.int 0, V.non, V.int 1, V.int 2, V.int 1]) nz
    refine ⟨_, _, .tup (sqt (sz _ _ ku)) (dp_vs intV_nE), .tup (sqt (show (L2.upd H10 z (.tup [V.int 0, V.non, V.int 1, V.int 2, V.int 1])) z = some (.tup nE) from upd_same)) (dp_vs intV_nE), eqv_nE.2, eqv_nE.2, _, rfl, ?_⟩
    rw [eqv_nE.1]
    refine iteF ?_
    have s11 := s10.trans sz
    have tab11 := tab9.mono s11
    have on11 := on9.same s11
    generalize L2.upd H10 z (.tup [V.int 0, V.non, V.int 1, V.int 2, V.int 1]) = H11 at s11 tab11 on11 sz ⊢
    clear ku nu nz s10 sz s11 tab9 on9
    -- merged
    refine ⟨_, rfl, x, kE, tE, rfl, tab11, okE, fun _ ls by_ => ⟨merged_ok okE neE by_, ?_⟩, fun z => absurd z neE⟩
    rw [namE2]
    intro H12 m s12 nm hM
    obtain ⟨dm, km, tm, xm, o1, o2, o3, o4⟩ := hM
    refine ⟨m, C, dm, _, .ref km, rfl, o1, TC.c, TC.nk, rfl, ?_⟩
    refine lit_strs (cs := bjp) (by decide) fun H13 z s13 kz => ?_
    refine ⟨dS1 bjp, dS1 bjp, .tup (seqT s13 o2) (dpAll_strs _), .tup (sqt kz) (dpAll_strs _), (eqv_S1 names_three).2, (eqv_S1 names_three).2, _, rfl, ?_⟩
    rw [(eqv_S1 names_three).1]
    refine iteF ?_
    have tab13 := tab11.mono (s12.trans s13)
    have on13 := on11.same (s12.trans s13)
    clear o1 o2 o3 o4 kz s12 s13 nm by_ tab11 on11
    -- the core
    refine ⟨_, rfl, x, kE, tE, rfl, tab13, okE, fun _ ls os by_ co => ?_, fun z => absurd z neE⟩
    have e := ByCls.uniq by_ rowE
    subst e
    have e : os = oE := LexAsc.uniq co.1 coreE.1 fun c => (co.2 c).trans (coreE.2 c).symm
    subst e
    intro H14 m s14 nm hM
    obtain ⟨dm, km, tm, xm, o1, o2, o3, o4⟩ := hM
    refine ⟨m, C, dm, _, .ref tm, rfl, o1, TC.c, TC.nt, rfl, ?_⟩
    refine lit_tots (K := K) (cs := oE) ⟨by decide, by decide⟩ fun H15 z zs s15 kz hZ => ?_
    refine ⟨dT1 oE, dT1 oE, dp_T1 (seqT s15 o3) (o4.mono s15), dp_T1 (sqt kz) hZ, shp_T1 _, shp_T1 _, _, rfl, ?_⟩
    rw [eqv_T1]
    refine iteF ?_
    have tab15 := tab13.mono (s14.trans s15)
    have on15 := on13.same (s14.trans s15)
    clear o1 o2 o3 o4 kz hZ s14 s15 nm by_ co tab13 on13
    -- without kinds
    refine ⟨_, rfl, ?_⟩
    refine at_cons (lit_ints (cs := [2, 4]) (by decide) fun H16 z s16 kz => ?_)
    have tab16 := tab15.mono s16
    have on16 := on15.same s16
    refine ⟨x, z, [2, 4], kE, tE, rfl, tab16, okE, sqt kz, by decide, fun ne => ⟨less_ok okE ne, ?_⟩, fun e => (by rw [lefE] at e; cases e)⟩
    rw [lefE, lesE]
    intro H17 m s17 nm hM
    obtain ⟨dm, km, tm, xm, o1, o2, o3, o4⟩ := hM
    refine ⟨m, C, dm, _, .ref tm, rfl, o1, TC.c, TC.nt, rfl, ?_⟩
    refine lit_tots (K := K) (cs := [[0], [], [], [2], [0]]) ⟨by decide, by decide⟩ fun H18 z2 zs s18 kz2 hZ => ?_
    refine ⟨dT1 [[0], [], [], [2], [0]], dT1 [[0], [], [], [2], [0]], dp_T1 (seqT s18 o3) (o4.mono s18), dp_T1 (sqt kz2) hZ, shp_T1 _, shp_T1 _, _, rfl, ?_⟩
    rw [eqv_T1]
    refine iteF ?_
    have tab18 := tab16.mono (s17.trans s18)
    have on18 := on16.same (s17.trans s18)
    clear o1 o2 o3 o4 kz kz2 hZ s16 s17 s18 nm tab15 on15 tab16 on16
    -- new names
    refine ⟨_, rfl, ?_⟩
    refine at_cons (lit_strs (cs := cs0) (by decide) fun H19 v s19 kv => ?_)
    have tab19 := tab18.mono s19
    have on19 := on18.same s19
    have rb := renB_of (n := kE.length) names0 rfl
    refine ⟨x, .ref v, _, kE, tE, rfl, tab19, okE, Ov.strs (sqt kv), by show (cs0.map PyData.str).length ≤ 1000; decide, fun ds e y hy => ?_, fun _ os2 rs2 h1 h2 h3 => ?_, fun z => (by rw [rb] at z; cases z)⟩
    · have e : cs0.map PyData.str = ds := by injection e
      rw [← e] at hy
      obtain ⟨z, hz, rfl⟩ := List.mem_map.mp hy
      exact short_name (names0.ok z hz)
    rw [strsD_strs] at h1 h3 ⊢
    have e := ascS_uniq h2 asc0 (h1.trans perm0.symm)
    subst e
    have e := RenR.uniq h3 ren0
    subst e
    rw [pls0]
    intro H20 r m u20 s20 kr hM hU
    refine ⟨_, rfl, r, _, _, .ref u20, rfl, rfl, sqt kr, atI_nat (j := 1) rfl, ?_⟩
    refine lit_ints (cs := [1, 2, 0, 4, 3]) (by decide) fun H21 z s21 kz => ?_
    refine ⟨dI [1, 2, 0, 4, 3], dI [1, 2, 0, 4, 3], dp_I (seqT s21 hU), dp_I (sqt kz), (eqv_I1 _).2, (eqv_I1 _).2, _, rfl, ?_⟩
    rw [(eqv_I1 _).1]
    refine iteF ?_
    obtain ⟨dm, km, tm, xm, o1, o2, o3, o4⟩ := hM.mono s21
    refine ⟨_, rfl, r, _, _, .ref m, rfl, rfl, sqt (s21 _ _ kr), at00 _ _, m, C, dm, _, .ref tm, rfl, o1, TC.c, TC.nt, rfl, ?_⟩
    refine lit_tots (K := K) (cs := ren0L) ⟨by decide, by decide⟩ fun H22 z2 zs s22 kz2 hZ => ?_
    refine ⟨dT1 ren0L, dT1 ren0L, dp_T1 (seqT s22 o3) (o4.mono s22), dp_T1 (sqt kz2) hZ, shp_T1 _, shp_T1 _, _, rfl, ?_⟩
    rw [eqv_T1]
    refine iteF ?_
    have on22 := ((on19.same s20).same s21).same s22
    clear o1 o2 o3 o4 kr kz kz2 hZ hU hM s19 s20 s21 s22 tab18 on18 tab19 on19 kv
    -- a full table
    refine at_asg (at_make (at_cons (lit_strs (cs := kF) (by decide) fun H23 u s23 ku => ?_)))
    refine at_cons (at_op (lit_tots (K := K) (cs := [[0]]) ⟨by decide, by decide⟩ fun H24 z zs s24 kz hZ => ?_))
    have lz := hZ.len
    cases zs with
    | nil => exact hZ.elim
    | cons z0 zr =>
    cases zr with
    | cons _ _ => exact hZ.2.elim
    | nil =>
    refine ⟨z, 12, [z0], rfl, rfl, sqt kz, by simp, by decide, by show 1 ≤ 1000; decide, fun t H25 s25 kt => ?_⟩
    have h0 := hZ.mono s25
    have hT : Tots K H25 (List.replicate 12 [z0]).flatten tF := ⟨h0.1, h0.1, h0.1, h0.1, h0.1, h0.1, h0.1, h0.1, h0.1, h0.1, h0.1, h0.1, trivial⟩
    have on25 := ((on22.same s23).same s24).same s25
    refine fun y dy ny ndy ney => tab_made (sqt ((s24.trans s25) _ _ ku)) okF.kinds kt hT okF.len okF.lots ny ndy ney fun H26 s26 tab na => ?_
    have on26 := on25.same s26
    have ⟨on27, g27⟩ := on26.base
    have tabF := tab_gb on26.hd tab
    clear hT h0 kt ku kz hZ s23 s24 s25 s26 na on22 on25 on26 g27 tab lz
    generalize GB p q H26 = G1 at on27 tabF
    have lA : lotD (kF.length : Int) (.tuple (([1] : List Int).map PyData.int)) = true := by decide +kernel
    have lB : lotD (kF.length : Int) (.tuple (([1, 0] : List Int).map PyData.int)) = false := by decide +kernel
    have l12 : ¬ tF.length < 12 := by decide
    -- heard
    refine ⟨on27.2.1, fun H28 ex28 tb28 => ?_⟩
    have on28 := on27.lam ex28 tb28
    refine ⟨_, rfl, ?_⟩
    refine at_cons (lit_ints (cs := [1]) (by decide) fun H29 z s29 kz => ?_)
    have on29 := on28.same s29
    refine ⟨y, .ref z, _, kF, tF, rfl, tabF.mono on29.le, okF, Ov.ints (sqt kz), by show (([1] : List Int).map PyData.int).length ≤ 1000; decide, fun _ l => absurd l l12, fun w h H30 e s30 ne30 he => ?_⟩
    have ew : w = "size" := by
      rcases h with ⟨e, _⟩ | ⟨_, _, e⟩
      · rw [lA] at e
        cases e
      · exact e
    subst ew
    have on30 := on29.same s30
    refine ⟨rfl, e, _, rfl, he, ?_⟩
    refine ⟨by show 1 ≤ sizeLine; decide, fun D nD => ?_⟩
    have fD := on30.free nD
    have on31 := on30.new (o := .lst [V.str ("size" : String)]) nD
    have kD := upd_same (H := H30) (a := D) (o := .lst [V.str ("size" : String)])
    generalize L2.upd H30 D (.lst [V.str ("size" : String)]) = H31 at on31 kD ⊢
    clear on27 on28 on29 on30 he kz s29 s30 ne30 nD ex28 tb28
    -- heard.append
    refine ⟨_, rfl, .inl ⟨rfl, _, .inl (.inl kD)⟩, on31.2.1, fun H32 ex32 tb32 => ?_⟩
    have on32 := on31.lam ex32 tb32
    have kD32 := extN_at ex32 kD
    refine ⟨_, rfl, ?_⟩
    refine at_cons (lit_ints (cs := [1, 0]) (by decide) fun H33 z s33 kz => ?_)
    have on33 := on32.same s33
    refine ⟨y, .ref z, _, kF, tF, rfl, tabF.mono on33.le, okF, Ov.ints (sqt kz), by show (([1, 0] : List Int).map PyData.int).length ≤ 1000; decide, fun h => (by rw [lB] at h; cases h), fun w h H34 e s34 ne34 he => ?_⟩
    have ew : w = "total" := by
      rcases h with ⟨_, e⟩ | ⟨e, _⟩
      · exact e
      · rw [lB] at e
        cases e
    subst ew
    have on34 := on33.same s34
    have kD34 := (s33.trans s34) _ _ kD32
    refine ⟨rfl, e, _, rfl, he, D, _, _, rfl, rfl, kD34, by show 1 < sizeLine; decide, ?_⟩
    have on35 := on34.put (o := .lst ([V.str ("size" : String)] ++ [V.str ("total" : String)])) kD34 fD
    have kD35 := upd_same (H := H34) (a := D) (o := .lst ([V.str ("size" : String)] ++ [V.str ("total" : String)]))
    generalize L2.upd H34 D (.lst ([V.str ("size" : String)] ++ [V.str ("total" : String)])) = H35 at on35 kD35 ⊢
    clear on31 on32 on33 on34 he kz s33 s34 ne34 kD kD32 kD34 ex32 tb32
    -- heard.append, once more
    refine ⟨_, rfl, .inl ⟨rfl, _, .inl (.inl kD35)⟩, on35.2.1, fun H36 ex36 tb36 => ?_⟩
    have on36 := on35.lam ex36 tb36
    have kD36 := extN_at ex36 kD35
    refine at_heard (at_callS (at_cons (at_make (at_cons (lit_strs (cs := kG) (by decide) fun H37 u s37 ku => ?_)))))
    refine at_cons (lit_tots (K := K) (cs := tG) ⟨by decide, by decide⟩ fun H38 t xs s38 kt hX => ?_)
    refine fun x dx nx nd ne => tab_made (sqt (s38 _ _ ku)) okG.kinds (sqt kt) hX okG.len okG.lots nx nd ne fun H39 s39 tab na => ?_
    refine ⟨x, kG, tG, rfl, tab, okG, fun h => absurd clG h, fun _ H40 e s40 ne40 he => ?_⟩
    have sA := ((s37.trans s38).trans s39).trans s40
    have on40 := on36.same sA
    have kD40 := sA _ _ kD36
    refine ⟨rfl, e, _, rfl, he, D, _, _, rfl, rfl, kD40, by show 2 < sizeLine; decide, ?_⟩
    have kD41 := upd_same (H := H40) (a := D) (o := .lst (([V.str ("size" : String)] ++ [V.str ("total" : String)]) ++ [V.str ("kinds" : String)]))
    generalize L2.upd H40 D (.lst (([V.str ("size" : String)] ++ [V.str ("total" : String)]) ++ [V.str ("kinds" : String)])) = H41 at kD41 ⊢
    refine ⟨_, rfl, by show 3 ≤ sizeLine; decide, fun Y nY => ?_⟩
    have sY := same_upd (o := .lst [V.str ("size" : String), V.str ("total" : String), V.str ("kinds" : String)]) nY
    have ⟨p1, e1⟩ := eqv_strs (ks := [(("size" : String) : Str), (("total" : String) : Str), (("kinds" : String) : Str)]) (by decide +kernel)
    refine ⟨_, _, .lst (.inl (.inl (sY _ _ kD41))) (dpAll_strs [(("size" : String) : Str), (("total" : String) : Str), (("kinds" : String) : Str)]), .lst (.inl (.inl upd_same)) (dpAll_strs [(("size" : String) : Str), (("total" : String) : Str), (("kinds" : String) : Str)]), p1, p1, ?_⟩
    rw [e1]
    exact fin _
end
end K03
namespace K03
open PySem PySem.Spec PyProof.Rows L2 VG FR CK HD
abbrev i_InvalidTable : Stmt := inClass (topS 15) 0
theorem sc_initT : FnScope ["self", "at"] ["self", "at"] (defScope i_InvalidTable) := ⟨rfl, rfl, rfl, by decide +kernel, rfl, by decide +kernel, by decide +kernel⟩
abbrev i_Refused : Stmt := inClass (topS 16) 0
theorem sc_initR : FnScope ["self", "word"] ["self", "word"] (defScope i_Refused) := ⟨rfl, rfl, rfl, by decide +kernel, rfl, by decide +kernel, by decide +kernel⟩
section
variable {P : Program} {w : World} {K : PySem.W.Frag} {mg : Str → Option Value} {base : Heap}
theorem ok_initT {f C : Addr} {fd : FuncData} (F : Fun K "__init__" "InvalidTable.__init__" i_InvalidTable f fd) (o : OexC K C) (hw : PySem.W.findIn K (.ref C) "at" = some none) :
    FnOk P w K mg base CX0 1 f fd ["self", "at"] (spInitW K C "at") := by
  refine F.ok sc_initT (fun vs H Q E h => ?_) (fun cdv A outer s H vs Q E hr h => ?_)
  · obtain ⟨_, _, rfl, _⟩ := h
    rfl
  · obtain ⟨a, v, rfl, ha, fin⟩ := h
    refine ⟨_, pss_one (ps_ost (pv 0) (pv 1)), ?_⟩
    exact ⟨_, rfl, _, rfl, a, C, rfl, o, hw, .inl ⟨ha, fun dx n ne => fin dx n ne⟩⟩
theorem ok_initR {f C : Addr} {fd : FuncData} (F : Fun K "__init__" "Refused.__init__" i_Refused f fd) (o : OexC K C) (hw : PySem.W.findIn K (.ref C) "word" = some none) :
    FnOk P w K mg base CX0 1 f fd ["self", "word"] (spInitW K C "word") := by
  refine F.ok sc_initR (fun vs H Q E h => ?_) (fun cdv A outer s H vs Q E hr h => ?_)
  · obtain ⟨_, _, rfl, _⟩ := h
    rfl
  · obtain ⟨a, v, rfl, ha, fin⟩ := h
    refine ⟨_, pss_one (ps_ost (pv 0) (pv 1)), ?_⟩
    exact ⟨_, rfl, _, rfl, a, C, rfl, o, hw, .inl ⟨ha, fun dx n ne => fin dx n ne⟩⟩
theorem kit_own {C D : Addr} {b : Bool} (h1 : PySem.W.isClsIn K D = true) (h2 : PySem.W.typeIn K (.ref D) = some (.type "type")) (h3 : PySem.W.subIn K (.ref C) (.ref D) = some b) (h4 : C = D → b = true) :
    PySem.W.kitOne K (.ref C) (.ref D) = some b := by
  unfold PySem.W.kitOne
  by_cases e : C = D
  · have hb := h4 e
    subst e
    subst hb
    rw [if_pos (by simp)]
  · rw [if_neg (by simp [e])]
    have e1 : (PySem.W.clsIn K D).isSome = true := h1
    show (if ((PySem.W.clsIn K D).isSome && PySem.W.typeIn K (.ref D) == some (.type "type")) = true then PySem.W.subIn K (.ref C) (.ref D) else none) = some b
    rw [e1, h2, h3]
    rfl
end
theorem all_mk {l : PySem.W.OpenLaw} {w : World} {K : PySem.W.Frag} {h : Heap} {mg : Str → Option Value} {fa : Addr} (X : K.In h) (G : h.Ns mainGlobals mg) (hfa : mg "law" = some (.ref fa))
    {f0 f1 f2 f3 f4 f5 f6 f7 f8 f9 f10 f11 f12 f13 f14 f15 f16 f17 f18 f19 f20 f21 f22 f23 f24 f25 f26 f27 f28 f29 f30 f31 f32 f33 f34 f35 f36 f37 f38 : Addr}
    {cc34 Pt34 cc35 Pt35 cc36 Pt36 cc37 Pt37 cc38 Pt38 : Addr}
    {od0 an0 od1 an1 od2 an2 od3 an3 od4 an4 od5 an5 od6 an6 od7 an7 od8 an8 od9 an9 od10 an10 od11 an11 od12 an12 od13 an13 od14 an14 od15 an15 od16 an16 od17 an17 od18 an18 od19 an19 od20 an20 od21 an21 od22 an22 od23 an23 od24 an24 od25 an25 od26 an26 od27 an27 od28 an28 od29 an29 od30 an30 od31 an31 od32 an32 od33 an33 od34 an34 od35 an35 od36 an36 od37 an37 od38 an38 : Option Addr} {sl0 sl1 sl2 sl3 sl4 sl5 sl6 sl7 sl8 sl9 sl10 sl11 sl12 sl13 sl14 sl15 sl16 sl17 sl18 sl19 sl20 sl21 sl22 sl23 sl24 sl25 sl26 sl27 sl28 sl29 sl30 sl31 sl32 sl33 sl34 sl35 sl36 sl37 sl38 : Array (Option Value)}
    {oc0 kV0 dc0 pm0 cd0 ct0 oc1 kV1 dc1 pm1 cd1 ct1 oc2 kV2 dc2 pm2 cd2 ct2 oc3 kV3 dc3 pm3 cd3 ct3 oc4 kV4 dc4 pm4 cd4 ct4 oc5 kV5 dc5 pm5 cd5 ct5 oc6 kV6 dc6 pm6 cd6 ct6 oc7 kV7 dc7 pm7 cd7 ct7 oc8 kV8 dc8 pm8 cd8 ct8 oc9 kV9 dc9 pm9 cd9 ct9 oc10 kV10 dc10 pm10 cd10 ct10 oc11 kV11 dc11 pm11 cd11 ct11 oc12 kV12 dc12 pm12 cd12 ct12 oc13 kV13 dc13 pm13 cd13 ct13 oc14 kV14 dc14 pm14 cd14 ct14 oc15 kV15 dc15 pm15 cd15 ct15 oc16 kV16 dc16 pm16 cd16 ct16 oc17 kV17 dc17 pm17 cd17 ct17 oc18 kV18 dc18 pm18 cd18 ct18 oc19 kV19 dc19 pm19 cd19 ct19 oc20 kV20 dc20 pm20 cd20 ct20 oc21 kV21 dc21 pm21 cd21 ct21 oc22 kV22 dc22 pm22 cd22 ct22 oc23 kV23 dc23 pm23 cd23 ct23 oc24 kV24 dc24 pm24 cd24 ct24 oc25 kV25 dc25 pm25 cd25 ct25 oc26 kV26 dc26 pm26 cd26 ct26 oc27 kV27 dc27 pm27 cd27 ct27 oc28 kV28 dc28 pm28 cd28 ct28 oc29 kV29 dc29 pm29 cd29 ct29 oc30 kV30 dc30 pm30 cd30 ct30 oc31 kV31 dc31 pm31 cd31 ct31 oc32 kV32 dc32 pm32 cd32 ct32 oc33 kV33 dc33 pm33 cd33 ct33 oc34 kV34 dc34 pm34 ct34 oc35 kV35 dc35 pm35 ct35 oc36 kV36 dc36 pm36 ct36 oc37 kV37 dc37 pm37 ct37 oc38 kV38 dc38 pm38 ct38 : Value}
    {qc34 qc35 qc36 qc37 qc38 : Value} {qd34 qd35 qd36 qd37 qd38 : Option Addr} {vs34 vs35 vs36 vs37 vs38 : Array Value} {qs34 qs35 qs36 qs37 qs38 : Array (Option Value)}
    (a0 : PySem.W.nsIn K mainGlobals "is_an_integer" = some (some (.ref f0)))
    (l0 : K.lookup f0 = some ⟨oc0, od0, .func (PySem.W.fnOf "is_an_integer" "is_an_integer" (defArgs s_is_an_integer) (defBody s_is_an_integer) (defScope s_is_an_integer) .none kV0 dc0 pm0 an0 cd0 ct0), sl0⟩)
    (c0 : PySem.W.codeIn K cd0 "is_an_integer" = true) (k0 : PySem.W.keepIn K (.ref f0) = true)
    (a1 : PySem.W.nsIn K mainGlobals "is_number" = some (some (.ref f1)))
    (l1 : K.lookup f1 = some ⟨oc1, od1, .func (PySem.W.fnOf "is_number" "is_number" (defArgs s_is_number) (defBody s_is_number) (defScope s_is_number) .none kV1 dc1 pm1 an1 cd1 ct1), sl1⟩)
    (c1 : PySem.W.codeIn K cd1 "is_number" = true) (k1 : PySem.W.keepIn K (.ref f1) = true)
    (a2 : PySem.W.nsIn K mainGlobals "is_number_below" = some (some (.ref f2)))
    (l2 : K.lookup f2 = some ⟨oc2, od2, .func (PySem.W.fnOf "is_number_below" "is_number_below" (defArgs s_is_number_below) (defBody s_is_number_below) (defScope s_is_number_below) .none kV2 dc2 pm2 an2 cd2 ct2), sl2⟩)
    (c2 : PySem.W.codeIn K cd2 "is_number_below" = true) (k2 : PySem.W.keepIn K (.ref f2) = true)
    (a3 : PySem.W.nsIn K mainGlobals "is_name" = some (some (.ref f3)))
    (l3 : K.lookup f3 = some ⟨oc3, od3, .func (PySem.W.fnOf "is_name" "is_name" (defArgs s_is_name) (defBody s_is_name) (defScope s_is_name) .none kV3 dc3 pm3 an3 cd3 ct3), sl3⟩)
    (c3 : PySem.W.codeIn K cd3 "is_name" = true) (k3 : PySem.W.keepIn K (.ref f3) = true)
    (a4 : PySem.W.nsIn K mainGlobals "is_tuple_of" = some (some (.ref f4)))
    (l4 : K.lookup f4 = some ⟨oc4, od4, .func (PySem.W.fnOf "is_tuple_of" "is_tuple_of" (defArgs s_is_tuple_of) (defBody s_is_tuple_of) (defScope s_is_tuple_of) .none kV4 dc4 pm4 an4 cd4 ct4), sl4⟩)
    (c4 : PySem.W.codeIn K cd4 "is_tuple_of" = true) (k4 : PySem.W.keepIn K (.ref f4) = true)
    (a5 : PySem.W.nsIn K mainGlobals "are_names" = some (some (.ref f5)))
    (l5 : K.lookup f5 = some ⟨oc5, od5, .func (PySem.W.fnOf "are_names" "are_names" (defArgs s_are_names) (defBody s_are_names) (defScope s_are_names) .none kV5 dc5 pm5 an5 cd5 ct5), sl5⟩)
    (c5 : PySem.W.codeIn K cd5 "are_names" = true) (k5 : PySem.W.keepIn K (.ref f5) = true)
    (a6 : PySem.W.nsIn K mainGlobals "are_numbers_below" = some (some (.ref f6)))
    (l6 : K.lookup f6 = some ⟨oc6, od6, .func (PySem.W.fnOf "are_numbers_below" "are_numbers_below" (defArgs s_are_numbers_below) (defBody s_are_numbers_below) (defScope s_are_numbers_below) .none kV6 dc6 pm6 an6 cd6 ct6), sl6⟩)
    (c6 : PySem.W.codeIn K cd6 "are_numbers_below" = true) (k6 : PySem.W.keepIn K (.ref f6) = true)
    (a7 : PySem.W.nsIn K mainGlobals "are_unlike" = some (some (.ref f7)))
    (l7 : K.lookup f7 = some ⟨oc7, od7, .func (PySem.W.fnOf "are_unlike" "are_unlike" (defArgs s_are_unlike) (defBody s_are_unlike) (defScope s_are_unlike) .none kV7 dc7 pm7 an7 cd7 ct7), sl7⟩)
    (c7 : PySem.W.codeIn K cd7 "are_unlike" = true) (k7 : PySem.W.keepIn K (.ref f7) = true)
    (a8 : PySem.W.nsIn K mainGlobals "is_ascending" = some (some (.ref f8)))
    (l8 : K.lookup f8 = some ⟨oc8, od8, .func (PySem.W.fnOf "is_ascending" "is_ascending" (defArgs s_is_ascending) (defBody s_is_ascending) (defScope s_is_ascending) .none kV8 dc8 pm8 an8 cd8 ct8), sl8⟩)
    (c8 : PySem.W.codeIn K cd8 "is_ascending" = true) (k8 : PySem.W.keepIn K (.ref f8) = true)
    (a9 : PySem.W.nsIn K mainGlobals "is_lot_below" = some (some (.ref f9)))
    (l9 : K.lookup f9 = some ⟨oc9, od9, .func (PySem.W.fnOf "is_lot_below" "is_lot_below" (defArgs s_is_lot_below) (defBody s_is_lot_below) (defScope s_is_lot_below) .none kV9 dc9 pm9 an9 cd9 ct9), sl9⟩)
    (c9 : PySem.W.codeIn K cd9 "is_lot_below" = true) (k9 : PySem.W.keepIn K (.ref f9) = true)
    (a10 : PySem.W.nsIn K mainGlobals "check_kinds" = some (some (.ref f10)))
    (l10 : K.lookup f10 = some ⟨oc10, od10, .func (PySem.W.fnOf "check_kinds" "check_kinds" (defArgs s_check_kinds) (defBody s_check_kinds) (defScope s_check_kinds) .none kV10 dc10 pm10 an10 cd10 ct10), sl10⟩)
    (c10 : PySem.W.codeIn K cd10 "check_kinds" = true) (k10 : PySem.W.keepIn K (.ref f10) = true)
    (a11 : PySem.W.nsIn K mainGlobals "check_totals" = some (some (.ref f11)))
    (l11 : K.lookup f11 = some ⟨oc11, od11, .func (PySem.W.fnOf "check_totals" "check_totals" (defArgs s_check_totals) (defBody s_check_totals) (defScope s_check_totals) .none kV11 dc11 pm11 an11 cd11 ct11), sl11⟩)
    (c11 : PySem.W.codeIn K cd11 "check_totals" = true) (k11 : PySem.W.keepIn K (.ref f11) = true)
    (a12 : PySem.W.nsIn K mainGlobals "totals_with" = some (some (.ref f12)))
    (l12 : K.lookup f12 = some ⟨oc12, od12, .func (PySem.W.fnOf "totals_with" "totals_with" (defArgs s_totals_with) (defBody s_totals_with) (defScope s_totals_with) .none kV12 dc12 pm12 an12 cd12 ct12), sl12⟩)
    (c12 : PySem.W.codeIn K cd12 "totals_with" = true) (k12 : PySem.W.keepIn K (.ref f12) = true)
    (a13 : PySem.W.nsIn K mainGlobals "classes_of" = some (some (.ref f13)))
    (l13 : K.lookup f13 = some ⟨oc13, od13, .func (PySem.W.fnOf "classes_of" "classes_of" (defArgs s_classes_of) (defBody s_classes_of) (defScope s_classes_of) .none kV13 dc13 pm13 an13 cd13 ct13), sl13⟩)
    (c13 : PySem.W.codeIn K cd13 "classes_of" = true) (k13 : PySem.W.keepIn K (.ref f13) = true)
    (a14 : PySem.W.nsIn K mainGlobals "class_numbers" = some (some (.ref f14)))
    (l14 : K.lookup f14 = some ⟨oc14, od14, .func (PySem.W.fnOf "class_numbers" "class_numbers" (defArgs s_class_numbers) (defBody s_class_numbers) (defScope s_class_numbers) .none kV14 dc14 pm14 an14 cd14 ct14), sl14⟩)
    (c14 : PySem.W.codeIn K cd14 "class_numbers" = true) (k14 : PySem.W.keepIn K (.ref f14) = true)
    (a15 : PySem.W.nsIn K mainGlobals "class_of_kind" = some (some (.ref f15)))
    (l15 : K.lookup f15 = some ⟨oc15, od15, .func (PySem.W.fnOf "class_of_kind" "class_of_kind" (defArgs s_class_of_kind) (defBody s_class_of_kind) (defScope s_class_of_kind) .none kV15 dc15 pm15 an15 cd15 ct15), sl15⟩)
    (c15 : PySem.W.codeIn K cd15 "class_of_kind" = true) (k15 : PySem.W.keepIn K (.ref f15) = true)
    (a16 : PySem.W.nsIn K mainGlobals "totals_by_classes" = some (some (.ref f16)))
    (l16 : K.lookup f16 = some ⟨oc16, od16, .func (PySem.W.fnOf "totals_by_classes" "totals_by_classes" (defArgs s_totals_by_classes) (defBody s_totals_by_classes) (defScope s_totals_by_classes) .none kV16 dc16 pm16 an16 cd16 ct16), sl16⟩)
    (c16 : PySem.W.codeIn K cd16 "totals_by_classes" = true) (k16 : PySem.W.keepIn K (.ref f16) = true)
    (a17 : PySem.W.nsIn K mainGlobals "without_totals" = some (some (.ref f17)))
    (l17 : K.lookup f17 = some ⟨oc17, od17, .func (PySem.W.fnOf "without_totals" "without_totals" (defArgs s_without_totals) (defBody s_without_totals) (defScope s_without_totals) .none kV17 dc17 pm17 an17 cd17 ct17), sl17⟩)
    (c17 : PySem.W.codeIn K cd17 "without_totals" = true) (k17 : PySem.W.keepIn K (.ref f17) = true)
    (a18 : PySem.W.nsIn K mainGlobals "with_total" = some (some (.ref f18)))
    (l18 : K.lookup f18 = some ⟨oc18, od18, .func (PySem.W.fnOf "with_total" "with_total" (defArgs s_with_total) (defBody s_with_total) (defScope s_with_total) .none kV18 dc18 pm18 an18 cd18 ct18), sl18⟩)
    (c18 : PySem.W.codeIn K cd18 "with_total" = true) (k18 : PySem.W.keepIn K (.ref f18) = true)
    (a19 : PySem.W.nsIn K mainGlobals "without_kinds" = some (some (.ref f19)))
    (l19 : K.lookup f19 = some ⟨oc19, od19, .func (PySem.W.fnOf "without_kinds" "without_kinds" (defArgs s_without_kinds) (defBody s_without_kinds) (defScope s_without_kinds) .none kV19 dc19 pm19 an19 cd19 ct19), sl19⟩)
    (c19 : PySem.W.codeIn K cd19 "without_kinds" = true) (k19 : PySem.W.keepIn K (.ref f19) = true)
    (a20 : PySem.W.nsIn K mainGlobals "renamed_table" = some (some (.ref f20)))
    (l20 : K.lookup f20 = some ⟨oc20, od20, .func (PySem.W.fnOf "renamed_table" "renamed_table" (defArgs s_renamed_table) (defBody s_renamed_table) (defScope s_renamed_table) .none kV20 dc20 pm20 an20 cd20 ct20), sl20⟩)
    (c20 : PySem.W.codeIn K cd20 "renamed_table" = true) (k20 : PySem.W.keepIn K (.ref f20) = true)
    (a21 : PySem.W.nsIn K mainGlobals "table_by_names" = some (some (.ref f21)))
    (l21 : K.lookup f21 = some ⟨oc21, od21, .func (PySem.W.fnOf "table_by_names" "table_by_names" (defArgs s_table_by_names) (defBody s_table_by_names) (defScope s_table_by_names) .none kV21 dc21 pm21 an21 cd21 ct21), sl21⟩)
    (c21 : PySem.W.codeIn K cd21 "table_by_names" = true) (k21 : PySem.W.keepIn K (.ref f21) = true)
    (a22 : PySem.W.nsIn K mainGlobals "merged" = some (some (.ref f22)))
    (l22 : K.lookup f22 = some ⟨oc22, od22, .func (PySem.W.fnOf "merged" "merged" (defArgs s_merged) (defBody s_merged) (defScope s_merged) .none kV22 dc22 pm22 an22 cd22 ct22), sl22⟩)
    (c22 : PySem.W.codeIn K cd22 "merged" = true) (k22 : PySem.W.keepIn K (.ref f22) = true)
    (a23 : PySem.W.nsIn K mainGlobals "core_of" = some (some (.ref f23)))
    (l23 : K.lookup f23 = some ⟨oc23, od23, .func (PySem.W.fnOf "core_of" "core_of" (defArgs s_core_of) (defBody s_core_of) (defScope s_core_of) .none kV23 dc23 pm23 an23 cd23 ct23), sl23⟩)
    (c23 : PySem.W.codeIn K cd23 "core_of" = true) (k23 : PySem.W.keepIn K (.ref f23) = true)
    (a24 : PySem.W.nsIn K mainGlobals "_law_heap" = some (some (.ref f24)))
    (l24 : K.lookup f24 = some ⟨oc24, od24, .func (PySem.W.fnOf "_law_heap" "_law_heap" (defArgs s__law_heap) (defBody s__law_heap) (defScope s__law_heap) .none kV24 dc24 pm24 an24 cd24 ct24), sl24⟩)
    (c24 : PySem.W.codeIn K cd24 "_law_heap" = true) (k24 : PySem.W.keepIn K (.ref f24) = true)
    (a25 : PySem.W.nsIn K mainGlobals "_law_draw" = some (some (.ref f25)))
    (l25 : K.lookup f25 = some ⟨oc25, od25, .func (PySem.W.fnOf "_law_draw" "_law_draw" (defArgs s__law_draw) (defBody s__law_draw) (defScope s__law_draw) .none kV25 dc25 pm25 an25 cd25 ct25), sl25⟩)
    (c25 : PySem.W.codeIn K cd25 "_law_draw" = true) (k25 : PySem.W.keepIn K (.ref f25) = true)
    (a26 : PySem.W.nsIn K mainGlobals "_law_pick" = some (some (.ref f26)))
    (l26 : K.lookup f26 = some ⟨oc26, od26, .func (PySem.W.fnOf "_law_pick" "_law_pick" (defArgs s__law_pick) (defBody s__law_pick) (defScope s__law_pick) .none kV26 dc26 pm26 an26 cd26 ct26), sl26⟩)
    (c26 : PySem.W.codeIn K cd26 "_law_pick" = true) (k26 : PySem.W.keepIn K (.ref f26) = true)
    (a27 : PySem.W.nsIn K mainGlobals "_law_mixed" = some (some (.ref f27)))
    (l27 : K.lookup f27 = some ⟨oc27, od27, .func (PySem.W.fnOf "_law_mixed" "_law_mixed" (defArgs s__law_mixed) (defBody s__law_mixed) (defScope s__law_mixed) .none kV27 dc27 pm27 an27 cd27 ct27), sl27⟩)
    (c27 : PySem.W.codeIn K cd27 "_law_mixed" = true) (k27 : PySem.W.keepIn K (.ref f27) = true)
    (a28 : PySem.W.nsIn K mainGlobals "_law_names" = some (some (.ref f28)))
    (l28 : K.lookup f28 = some ⟨oc28, od28, .func (PySem.W.fnOf "_law_names" "_law_names" (defArgs s__law_names) (defBody s__law_names) (defScope s__law_names) .none kV28 dc28 pm28 an28 cd28 ct28), sl28⟩)
    (c28 : PySem.W.codeIn K cd28 "_law_names" = true) (k28 : PySem.W.keepIn K (.ref f28) = true)
    (a29 : PySem.W.nsIn K mainGlobals "_law_totals" = some (some (.ref f29)))
    (l29 : K.lookup f29 = some ⟨oc29, od29, .func (PySem.W.fnOf "_law_totals" "_law_totals" (defArgs s__law_totals) (defBody s__law_totals) (defScope s__law_totals) .none kV29 dc29 pm29 an29 cd29 ct29), sl29⟩)
    (c29 : PySem.W.codeIn K cd29 "_law_totals" = true) (k29 : PySem.W.keepIn K (.ref f29) = true)
    (a30 : PySem.W.nsIn K mainGlobals "_law_heard" = some (some (.ref f30)))
    (l30 : K.lookup f30 = some ⟨oc30, od30, .func (PySem.W.fnOf "_law_heard" "_law_heard" (defArgs s__law_heard) (defBody s__law_heard) (defScope s__law_heard) .none kV30 dc30 pm30 an30 cd30 ct30), sl30⟩)
    (c30 : PySem.W.codeIn K cd30 "_law_heard" = true) (k30 : PySem.W.keepIn K (.ref f30) = true)
    (a31 : PySem.W.nsIn K mainGlobals "_law_is" = some (some (.ref f31)))
    (l31 : K.lookup f31 = some ⟨oc31, od31, .func (PySem.W.fnOf "_law_is" "_law_is" (defArgs s__law_is) (defBody s__law_is) (defScope s__law_is) .none kV31 dc31 pm31 an31 cd31 ct31), sl31⟩)
    (c31 : PySem.W.codeIn K cd31 "_law_is" = true) (k31 : PySem.W.keepIn K (.ref f31) = true)
    (a32 : PySem.W.nsIn K mainGlobals "_law_classes" = some (some (.ref f32)))
    (l32 : K.lookup f32 = some ⟨oc32, od32, .func (PySem.W.fnOf "_law_classes" "_law_classes" (defArgs s__law_classes) (defBody s__law_classes) (defScope s__law_classes) .none kV32 dc32 pm32 an32 cd32 ct32), sl32⟩)
    (c32 : PySem.W.codeIn K cd32 "_law_classes" = true) (k32 : PySem.W.keepIn K (.ref f32) = true)
    (a33 : PySem.W.nsIn K mainGlobals "_law_classes_right" = some (some (.ref f33)))
    (l33 : K.lookup f33 = some ⟨oc33, od33, .func (PySem.W.fnOf "_law_classes_right" "_law_classes_right" (defArgs s__law_classes_right) (defBody s__law_classes_right) (defScope s__law_classes_right) .none kV33 dc33 pm33 an33 cd33 ct33), sl33⟩)
    (c33 : PySem.W.codeIn K cd33 "_law_classes_right" = true) (k33 : PySem.W.keepIn K (.ref f33) = true)
    (a34 : PySem.W.nsIn K mainGlobals "_law_merged_right" = some (some (.ref f34)))
    (l34 : K.lookup f34 = some ⟨oc34, od34, .func (PySem.W.fnOf "_law_merged_right" "_law_merged_right" (defArgs s__law_merged_right) (defBody s__law_merged_right) (defScope s__law_merged_right) .none kV34 dc34 pm34 an34 (.ref cc34) ct34), sl34⟩)
    (c34 : PySem.W.codeIn K (.ref cc34) "_law_merged_right" = true) (k34 : PySem.W.keepIn K (.ref f34) = true)
    (a35 : PySem.W.nsIn K mainGlobals "_law_totals_right" = some (some (.ref f35)))
    (l35 : K.lookup f35 = some ⟨oc35, od35, .func (PySem.W.fnOf "_law_totals_right" "_law_totals_right" (defArgs s__law_totals_right) (defBody s__law_totals_right) (defScope s__law_totals_right) .none kV35 dc35 pm35 an35 (.ref cc35) ct35), sl35⟩)
    (c35 : PySem.W.codeIn K (.ref cc35) "_law_totals_right" = true) (k35 : PySem.W.keepIn K (.ref f35) = true)
    (a36 : PySem.W.nsIn K mainGlobals "_law_kinds_right" = some (some (.ref f36)))
    (l36 : K.lookup f36 = some ⟨oc36, od36, .func (PySem.W.fnOf "_law_kinds_right" "_law_kinds_right" (defArgs s__law_kinds_right) (defBody s__law_kinds_right) (defScope s__law_kinds_right) .none kV36 dc36 pm36 an36 (.ref cc36) ct36), sl36⟩)
    (c36 : PySem.W.codeIn K (.ref cc36) "_law_kinds_right" = true) (k36 : PySem.W.keepIn K (.ref f36) = true)
    (a37 : PySem.W.nsIn K mainGlobals "_law_renamed_right" = some (some (.ref f37)))
    (l37 : K.lookup f37 = some ⟨oc37, od37, .func (PySem.W.fnOf "_law_renamed_right" "_law_renamed_right" (defArgs s__law_renamed_right) (defBody s__law_renamed_right) (defScope s__law_renamed_right) .none kV37 dc37 pm37 an37 (.ref cc37) ct37), sl37⟩)
    (c37 : PySem.W.codeIn K (.ref cc37) "_law_renamed_right" = true) (k37 : PySem.W.keepIn K (.ref f37) = true)
    (a38 : PySem.W.nsIn K mainGlobals "law" = some (some (.ref f38)))
    (l38 : K.lookup f38 = some ⟨oc38, od38, .func (PySem.W.fnOf "law" "law" (defArgs s_law) (defBody s_law) (defScope s_law) .none kV38 dc38 pm38 an38 (.ref cc38) ct38), sl38⟩)
    (c38 : PySem.W.codeIn K (.ref cc38) "law" = true) (k38 : PySem.W.keepIn K (.ref f38) = true)
    (x34 : K.lookup cc34 = some ⟨qc34, qd34, .fields vs34, qs34⟩) (p34 : (vs34[11]? : Option Value) = some (.ref Pt34)) (h34 : PySem.W.CodeHd h cc34 Pt34) (t34 : h.get? Pt34 = some blankT) (n34 : K.lookup Pt34 = none)
    (x35 : K.lookup cc35 = some ⟨qc35, qd35, .fields vs35, qs35⟩) (p35 : (vs35[11]? : Option Value) = some (.ref Pt35)) (h35 : PySem.W.CodeHd h cc35 Pt35) (t35 : h.get? Pt35 = some blankT) (n35 : K.lookup Pt35 = none)
    (x36 : K.lookup cc36 = some ⟨qc36, qd36, .fields vs36, qs36⟩) (p36 : (vs36[11]? : Option Value) = some (.ref Pt36)) (h36 : PySem.W.CodeHd h cc36 Pt36) (t36 : h.get? Pt36 = some blankT) (n36 : K.lookup Pt36 = none)
    (x37 : K.lookup cc37 = some ⟨qc37, qd37, .fields vs37, qs37⟩) (p37 : (vs37[11]? : Option Value) = some (.ref Pt37)) (h37 : PySem.W.CodeHd h cc37 Pt37) (t37 : h.get? Pt37 = some blankT) (n37 : K.lookup Pt37 = none)
    (x38 : K.lookup cc38 = some ⟨qc38, qd38, .fields vs38, qs38⟩) (p38 : (vs38[11]? : Option Value) = some (.ref Pt38)) (h38 : PySem.W.CodeHd h cc38 Pt38) (t38 : h.get? Pt38 = some blankT) (n38 : K.lookup Pt38 = none)
    (ne34_35 : Pt34 ≠ Pt35)
    (ne34_36 : Pt34 ≠ Pt36)
    (ne34_37 : Pt34 ≠ Pt37)
    (ne34_38 : Pt34 ≠ Pt38)
    (ne35_36 : Pt35 ≠ Pt36)
    (ne35_37 : Pt35 ≠ Pt37)
    (ne35_38 : Pt35 ≠ Pt38)
    (ne36_37 : Pt36 ≠ Pt37)
    (ne36_38 : Pt36 ≠ Pt38)
    (ne37_38 : Pt37 ≠ Pt38)
    {Ct CA EA fIA : Addr} {nmA qA : Str} {bsA : List Value} {snA : List Str} {subA : List Value} {abA : Bool} {colA : Option Bool} {ddA : Option Addr} {m0A m1A m2A m3A m5A : Option Value}
    {odIA anIA : Option Addr} {slIA : Array (Option Value)} {ocIA kVIA dcIA pmIA cdIA ctIA : Value}
    (aCA : PySem.W.nsIn K mainGlobals "InvalidTable" = some (some (.ref CA)))
    (xLA : K.lookup CA = some (excClassObj nmA qA CA EA bsA [.ref Ct, .type "ValueError", .type "Exception", .type "BaseException", .type "object"] true snA subA abA colA ddA m0A m1A m2A m3A m5A "ValueError.__new__"))
    (saA : PySem.W.findIn K (.ref CA) "__setattr__" = some (some (.builtin "object.__setattr__"))) (nwA : PySem.W.findIn K (.ref CA) "at" = some none)
    (iIA : PySem.W.findIn K (.ref CA) "__init__" = some (some (.ref fIA))) (tIA : PySem.W.typeIn K (.ref fIA) = some (.type "function"))
    (lIA : K.lookup fIA = some ⟨ocIA, odIA, .func (PySem.W.fnOf "__init__" "InvalidTable.__init__" (defArgs i_InvalidTable) (defBody i_InvalidTable) (defScope i_InvalidTable) .none kVIA dcIA pmIA anIA cdIA ctIA), slIA⟩) (cIA : PySem.W.codeIn K cdIA "InvalidTable.__init__" = true) (kIA : PySem.W.keepIn K (.ref fIA) = true)
    (kCA : PySem.W.keepIn K (.ref CA) = true) (eCA : PySem.W.subIn K (.ref CA) (.type "BaseException") = some true) (tCA : PySem.W.typeIn K (.ref CA) = some (.type "type"))
    {CR ER fIR : Addr} {nmR qR : Str} {bsR : List Value} {snR : List Str} {subR : List Value} {abR : Bool} {colR : Option Bool} {ddR : Option Addr} {m0R m1R m2R m3R m5R : Option Value}
    {odIR anIR : Option Addr} {slIR : Array (Option Value)} {ocIR kVIR dcIR pmIR cdIR ctIR : Value}
    (aCR : PySem.W.nsIn K mainGlobals "Refused" = some (some (.ref CR)))
    (xLR : K.lookup CR = some (excClassObj nmR qR CR ER bsR [.ref Ct, .type "ValueError", .type "Exception", .type "BaseException", .type "object"] true snR subR abR colR ddR m0R m1R m2R m3R m5R "ValueError.__new__"))
    (saR : PySem.W.findIn K (.ref CR) "__setattr__" = some (some (.builtin "object.__setattr__"))) (nwR : PySem.W.findIn K (.ref CR) "word" = some none)
    (iIR : PySem.W.findIn K (.ref CR) "__init__" = some (some (.ref fIR))) (tIR : PySem.W.typeIn K (.ref fIR) = some (.type "function"))
    (lIR : K.lookup fIR = some ⟨ocIR, odIR, .func (PySem.W.fnOf "__init__" "Refused.__init__" (defArgs i_Refused) (defBody i_Refused) (defScope i_Refused) .none kVIR dcIR pmIR anIR cdIR ctIR), slIR⟩) (cIR : PySem.W.codeIn K cdIR "Refused.__init__" = true) (kIR : PySem.W.keepIn K (.ref fIR) = true)
    (kCR : PySem.W.keepIn K (.ref CR) = true) (eCR : PySem.W.subIn K (.ref CR) (.type "BaseException") = some true) (tCR : PySem.W.typeIn K (.ref CR) = some (.type "type"))
    (aE : PySem.W.nsIn K mainGlobals "TillError" = some (some (.ref Ct))) (gaR : PySem.W.findIn K (.ref CR) "__getattribute__" = some (some (.builtin "BaseException.__getattribute__"))) (ggR : PySem.W.findIn K (.ref CR) "__getattr__" = some none) (hCR : PySem.W.hasDictIn K CR = true) (sCR : PySem.W.subIn K (.ref CR) (.ref CR) = some true)
    (xa : PySem.W.findIn K (.ref CR) "__class__" = some (some (.builtin "object.__class__"))) (xn : PySem.W.specialIn K (.builtin "object.__class__") "__get__" = some (some (.builtin "getset_descriptor.__get__"))) (xt : PySem.W.takesIn K (.builtin "object.__class__") = some true) (xm : PySem.W.mroIn K CR (.type "object") = some true)
    (sT : PySem.W.subIn K (.ref CR) (.ref Ct) = some true) (sI : PySem.W.subIn K (.ref CR) (.ref CA) = some false) (isE : PySem.W.isClsIn K Ct = true) (isA : PySem.W.isClsIn K CA = true) (tE : PySem.W.typeIn K (.ref Ct) = some (.type "type"))
    {CT fT fE : Addr} {odT anT odE anE : Option Addr} {slT slE : Array (Option Value)} {ocT kVT dcT pmT cdT ctT ocE kVE dcE pmE cdE ctE : Value}  {tk1 tk2 tk3 tkL : Tok}
    (aT : PySem.W.nsIn K mainGlobals "Table" = some (some (.ref CT)))
    (iT : PySem.W.findIn K (.ref CT) "__init__" = some (some (.ref fT))) (jT : PySem.W.isFn K (.ref fT) = true)
    (lT : K.lookup fT = some ⟨ocT, odT, .func (PySem.W.fnOf "__init__" "Table.__init__" (defArgs i_Table) (defBody i_Table) (defScope i_Table) .none kVT dcT pmT anT cdT ctT), slT⟩) (cT : PySem.W.codeIn K cdT "Table.__init__" = true) (kT : PySem.W.keepIn K (.ref fT) = true)
    (iE : PySem.W.findIn K (.ref CT) "__eq__" = some (some (.ref fE))) (jE : PySem.W.isFn K (.ref fE) = true)
    (lE : K.lookup fE = some ⟨ocE, odE, .func (PySem.W.fnOf "__eq__" "Table.__eq__" (defArgs e_Table) (defBody e_Table) (defScope e_Table) .none kVE dcE pmE anE cdE ctE), slE⟩) (cE : PySem.W.codeIn K cdE "Table.__eq__" = true) (kE : PySem.W.keepIn K (.ref fE) = true)
    (pgT : PySem.W.plainGet K CT Str.empty = true) (hdT : PySem.W.hasDictIn K CT = true) (poT : PySem.W.plainOver K CT = true) (saT : PySem.W.findIn K (.ref CT) "__setattr__" = some (some (.builtin "object.__setattr__"))) (mkT : PySem.W.makesIn K CT = true) (kcT : PySem.W.keepIn K (.ref CT) = true)
    (nkT : PySem.W.findIn K (.ref CT) "kinds" = some none) (ntT : PySem.W.findIn K (.ref CT) "totals" = some none)
    (xaT : PySem.W.findIn K (.ref CT) "__class__" = some (some (.builtin "object.__class__"))) (xmT : PySem.W.mroIn K CT (.type "object") = some true) (isT : PySem.W.isClsIn K CT = true) (tyT : PySem.W.typeIn K (.ref CT) = some (.type "type")) (suT : PySem.W.subIn K (.ref CT) (.ref CT) = some true)
    (mL : PySem.W.nsIn K mainGlobals "LETTERS" = some (some (.str cLETTERS tkL))) (m1 : PySem.W.nsIn K mainGlobals "LONGEST_NAME" = some (some (.int 6 tk1)))
    (m2 : PySem.W.nsIn K mainGlobals "MOST_KINDS" = some (some (.int 12 tk2))) (m3 : PySem.W.nsIn K mainGlobals "MOST_TOTALS" = some (some (.int 12 tk3)))
    (z_isinstance : PySem.W.nsIn K mainGlobals "isinstance" = some none)
    (z_int : PySem.W.nsIn K mainGlobals "int" = some none)
    (z_bool : PySem.W.nsIn K mainGlobals "bool" = some none)
    (z_str : PySem.W.nsIn K mainGlobals "str" = some none)
    (z_tuple : PySem.W.nsIn K mainGlobals "tuple" = some none)
    (z_list : PySem.W.nsIn K mainGlobals "list" = some none)
    (z_len : PySem.W.nsIn K mainGlobals "len" = some none)
    (z_abs : PySem.W.nsIn K mainGlobals "abs" = some none)
    (z_range : PySem.W.nsIn K mainGlobals "range" = some none)
    (z_zip : PySem.W.nsIn K mainGlobals "zip" = some none)
    (z_all : PySem.W.nsIn K mainGlobals "all" = some none)
    (z_any : PySem.W.nsIn K mainGlobals "any" = some none)
    (z_repr : PySem.W.nsIn K mainGlobals "repr" = some none)
    (z_enumerate : PySem.W.nsIn K mainGlobals "enumerate" = some none)
    (z_sorted : PySem.W.nsIn K mainGlobals "sorted" = some none)
    (z_set : PySem.W.nsIn K mainGlobals "set" = some none)
    : LawGT l w K 17 63 "script" mg fa h := by
  have e := hfa.symm.trans (PySem.W.mg_of X G a38)
  cases e
  have F0 := fun_mk (st := s_is_an_integer) l0 c0 k0
  have F1 := fun_mk (st := s_is_number) l1 c1 k1
  have F2 := fun_mk (st := s_is_number_below) l2 c2 k2
  have F3 := fun_mk (st := s_is_name) l3 c3 k3
  have F4 := fun_mk (st := s_is_tuple_of) l4 c4 k4
  have F5 := fun_mk (st := s_are_names) l5 c5 k5
  have F6 := fun_mk (st := s_are_numbers_below) l6 c6 k6
  have F7 := fun_mk (st := s_are_unlike) l7 c7 k7
  have F8 := fun_mk (st := s_is_ascending) l8 c8 k8
  have F9 := fun_mk (st := s_is_lot_below) l9 c9 k9
  have F10 := fun_mk (st := s_check_kinds) l10 c10 k10
  have F11 := fun_mk (st := s_check_totals) l11 c11 k11
  have F12 := fun_mk (st := s_totals_with) l12 c12 k12
  have F13 := fun_mk (st := s_classes_of) l13 c13 k13
  have F14 := fun_mk (st := s_class_numbers) l14 c14 k14
  have F15 := fun_mk (st := s_class_of_kind) l15 c15 k15
  have F16 := fun_mk (st := s_totals_by_classes) l16 c16 k16
  have F17 := fun_mk (st := s_without_totals) l17 c17 k17
  have F18 := fun_mk (st := s_with_total) l18 c18 k18
  have F19 := fun_mk (st := s_without_kinds) l19 c19 k19
  have F20 := fun_mk (st := s_renamed_table) l20 c20 k20
  have F21 := fun_mk (st := s_table_by_names) l21 c21 k21
  have F22 := fun_mk (st := s_merged) l22 c22 k22
  have F23 := fun_mk (st := s_core_of) l23 c23 k23
  have F24 := fun_mk (st := s__law_heap) l24 c24 k24
  have F25 := fun_mk (st := s__law_draw) l25 c25 k25
  have F26 := fun_mk (st := s__law_pick) l26 c26 k26
  have F27 := fun_mk (st := s__law_mixed) l27 c27 k27
  have F28 := fun_mk (st := s__law_names) l28 c28 k28
  have F29 := fun_mk (st := s__law_totals) l29 c29 k29
  have F30 := fun_mk (st := s__law_heard) l30 c30 k30
  have F31 := fun_mk (st := s__law_is) l31 c31 k31
  have F32 := fun_mk (st := s__law_classes) l32 c32 k32
  have F33 := fun_mk (st := s__law_classes_right) l33 c33 k33
  have F34 := funC_mk (st := s__law_merged_right) l34 c34 k34
  have F35 := funC_mk (st := s__law_totals_right) l35 c35 k35
  have F36 := funC_mk (st := s__law_kinds_right) l36 c36 k36
  have F37 := funC_mk (st := s__law_renamed_right) l37 c37 k37
  have F38 := funC_mk (st := s_law) l38 c38 k38
  have FIA := fun_mk (st := i_InvalidTable) lIA cIA kIA
  have FIR := fun_mk (st := i_Refused) lIR cIR kIR
  have FT := fun_mk (st := i_Table) lT cT kT
  have FE := fun_mk (st := e_Table) lE cE kE
  have b0 := F0.binds (ps := ["value"]) fun _ _ _ _ _ _ us hl => match us, hl with | [_], _ => rfl
  have g0 := PySem.W.mg_of X G a0
  have b1 := F1.binds (ps := ["value"]) fun _ _ _ _ _ _ us hl => match us, hl with | [_], _ => rfl
  have g1 := PySem.W.mg_of X G a1
  have b2 := F2.binds (ps := ["value", "many"]) fun _ _ _ _ _ _ us hl => match us, hl with | [_, _], _ => rfl
  have g2 := PySem.W.mg_of X G a2
  have b3 := F3.binds (ps := ["value"]) fun _ _ _ _ _ _ us hl => match us, hl with | [_], _ => rfl
  have g3 := PySem.W.mg_of X G a3
  have b4 := F4.binds (ps := ["value", "many"]) fun _ _ _ _ _ _ us hl => match us, hl with | [_, _], _ => rfl
  have g4 := PySem.W.mg_of X G a4
  have b5 := F5.binds (ps := ["value"]) fun _ _ _ _ _ _ us hl => match us, hl with | [_], _ => rfl
  have g5 := PySem.W.mg_of X G a5
  have b6 := F6.binds (ps := ["value", "many"]) fun _ _ _ _ _ _ us hl => match us, hl with | [_, _], _ => rfl
  have g6 := PySem.W.mg_of X G a6
  have b7 := F7.binds (ps := ["some"]) fun _ _ _ _ _ _ us hl => match us, hl with | [_], _ => rfl
  have g7 := PySem.W.mg_of X G a7
  have b8 := F8.binds (ps := ["some"]) fun _ _ _ _ _ _ us hl => match us, hl with | [_], _ => rfl
  have g8 := PySem.W.mg_of X G a8
  have b9 := F9.binds (ps := ["value", "many"]) fun _ _ _ _ _ _ us hl => match us, hl with | [_, _], _ => rfl
  have g9 := PySem.W.mg_of X G a9
  have b10 := F10.binds (ps := ["kinds"]) fun _ _ _ _ _ _ us hl => match us, hl with | [_], _ => rfl
  have g10 := PySem.W.mg_of X G a10
  have b11 := F11.binds (ps := ["totals", "many"]) fun _ _ _ _ _ _ us hl => match us, hl with | [_, _], _ => rfl
  have g11 := PySem.W.mg_of X G a11
  have b12 := F12.binds (ps := ["table", "kind"]) fun _ _ _ _ _ _ us hl => match us, hl with | [_, _], _ => rfl
  have g12 := PySem.W.mg_of X G a12
  have b13 := F13.binds (ps := ["table"]) fun _ _ _ _ _ _ us hl => match us, hl with | [_], _ => rfl
  have g13 := PySem.W.mg_of X G a13
  have b14 := F14.binds (ps := ["table"]) fun _ _ _ _ _ _ us hl => match us, hl with | [_], _ => rfl
  have g14 := PySem.W.mg_of X G a14
  have b15 := F15.binds (ps := ["table", "kind"]) fun _ _ _ _ _ _ us hl => match us, hl with | [_, _], _ => rfl
  have g15 := PySem.W.mg_of X G a15
  have b16 := F16.binds (ps := ["table"]) fun _ _ _ _ _ _ us hl => match us, hl with | [_], _ => rfl
  have g16 := PySem.W.mg_of X G a16
  have b17 := F17.binds (ps := ["table", "totals"]) fun _ _ _ _ _ _ us hl => match us, hl with | [_, _], _ => rfl
  have g17 := PySem.W.mg_of X G a17
  have b18 := F18.binds (ps := ["table", "total"]) fun _ _ _ _ _ _ us hl => match us, hl with | [_, _], _ => rfl
  have g18 := PySem.W.mg_of X G a18
  have b19 := F19.binds (ps := ["table", "kinds"]) fun _ _ _ _ _ _ us hl => match us, hl with | [_, _], _ => rfl
  have g19 := PySem.W.mg_of X G a19
  have b20 := F20.binds (ps := ["table", "names"]) fun _ _ _ _ _ _ us hl => match us, hl with | [_, _], _ => rfl
  have g20 := PySem.W.mg_of X G a20
  have b21 := F21.binds (ps := ["names", "totals"]) fun _ _ _ _ _ _ us hl => match us, hl with | [_, _], _ => rfl
  have g21 := PySem.W.mg_of X G a21
  have b22 := F22.binds (ps := ["table"]) fun _ _ _ _ _ _ us hl => match us, hl with | [_], _ => rfl
  have g22 := PySem.W.mg_of X G a22
  have b23 := F23.binds (ps := ["table"]) fun _ _ _ _ _ _ us hl => match us, hl with | [_], _ => rfl
  have g23 := PySem.W.mg_of X G a23
  have b24 := F24.binds (ps := ["script"]) fun _ _ _ _ _ _ us hl => match us, hl with | [_], _ => rfl
  have g24 := PySem.W.mg_of X G a24
  have b25 := F25.binds (ps := ["heap", "many"]) fun _ _ _ _ _ _ us hl => match us, hl with | [_, _], _ => rfl
  have g25 := PySem.W.mg_of X G a25
  have b26 := F26.binds (ps := ["heap", "some"]) fun _ _ _ _ _ _ us hl => match us, hl with | [_, _], _ => rfl
  have g26 := PySem.W.mg_of X G a26
  have b27 := F27.binds (ps := ["heap", "some"]) fun _ _ _ _ _ _ us hl => match us, hl with | [_, _], _ => rfl
  have g27 := PySem.W.mg_of X G a27
  have b28 := F28.binds (ps := ["heap", "many"]) fun _ _ _ _ _ _ us hl => match us, hl with | [_, _], _ => rfl
  have g28 := PySem.W.mg_of X G a28
  have b29 := F29.binds (ps := ["heap", "kinds", "many"]) fun _ _ _ _ _ _ us hl => match us, hl with | [_, _, _], _ => rfl
  have g29 := PySem.W.mg_of X G a29
  have b30 := F30.binds (ps := ["action"]) fun _ _ _ _ _ _ us hl => match us, hl with | [_], _ => rfl
  have g30 := PySem.W.mg_of X G a30
  have b31 := F31.binds (ps := ["told", "kinds", "totals"]) fun _ _ _ _ _ _ us hl => match us, hl with | [_, _, _], _ => rfl
  have g31 := PySem.W.mg_of X G a31
  have b32 := F32.binds (ps := ["kinds", "totals"]) fun _ _ _ _ _ _ us hl => match us, hl with | [_, _], _ => rfl
  have g32 := PySem.W.mg_of X G a32
  have b33 := F33.binds (ps := ["table", "kinds", "totals"]) fun _ _ _ _ _ _ us hl => match us, hl with | [_, _, _], _ => rfl
  have g33 := PySem.W.mg_of X G a33
  have b34 := F34.fun.binds (ps := ["table", "kinds", "totals"]) fun _ _ _ _ _ _ us hl => match us, hl with | [_, _, _], _ => rfl
  have g34 := PySem.W.mg_of X G a34
  have b35 := F35.fun.binds (ps := ["heap", "table", "kinds", "totals"]) fun _ _ _ _ _ _ us hl => match us, hl with | [_, _, _, _], _ => rfl
  have g35 := PySem.W.mg_of X G a35
  have b36 := F36.fun.binds (ps := ["heap", "table", "kinds", "totals"]) fun _ _ _ _ _ _ us hl => match us, hl with | [_, _, _, _], _ => rfl
  have g36 := PySem.W.mg_of X G a36
  have b37 := F37.fun.binds (ps := ["heap", "table", "kinds", "totals"]) fun _ _ _ _ _ _ us hl => match us, hl with | [_, _, _, _], _ => rfl
  have g37 := PySem.W.mg_of X G a37
  have bIA := FIA.binds (ps := ["self", "at"]) fun _ _ _ _ _ _ us hl => match us, hl with | [_, _], _ => rfl
  have bIR := FIR.binds (ps := ["self", "word"]) fun _ _ _ _ _ _ us hl => match us, hl with | [_, _], _ => rfl
  have bT := FT.binds (ps := ["self", "kinds", "totals"]) fun _ _ _ _ _ _ us hl => match us, hl with | [_, _, _], _ => rfl
  have bE := FE.binds (ps := ["self", "other"]) fun _ _ _ _ _ _ us hl => match us, hl with | [_, _], _ => rfl
  have kb13 := kbinds_one (p := "table") F13 (fun _ _ _ _ _ _ _ => rfl) (fun _ _ _ _ _ _ _ => rfl)
  have kb14 := kbinds_one (p := "table") F14 (fun _ _ _ _ _ _ _ => rfl) (fun _ _ _ _ _ _ _ => rfl)
  have kb16 := kbinds_one (p := "table") F16 (fun _ _ _ _ _ _ _ => rfl) (fun _ _ _ _ _ _ _ => rfl)
  have kb22 := kbinds_one (p := "table") F22 (fun _ _ _ _ _ _ _ => rfl) (fun _ _ _ _ _ _ _ => rfl)
  have kb23 := kbinds_one (p := "table") F23 (fun _ _ _ _ _ _ _ => rfl) (fun _ _ _ _ _ _ _ => rfl)
  have kr12 := kbinds_rev (p1 := "table") (p2 := "kind") F12 (fun _ _ _ _ _ _ _ _ => rfl) (fun _ _ _ _ _ _ _ _ => rfl) (fun _ _ _ _ _ _ _ _ => rfl)
  have kr15 := kbinds_rev (p1 := "table") (p2 := "kind") F15 (fun _ _ _ _ _ _ _ _ => rfl) (fun _ _ _ _ _ _ _ _ => rfl) (fun _ _ _ _ _ _ _ _ => rfl)
  have kr17 := kbinds_rev (p1 := "table") (p2 := "totals") F17 (fun _ _ _ _ _ _ _ _ => rfl) (fun _ _ _ _ _ _ _ _ => rfl) (fun _ _ _ _ _ _ _ _ => rfl)
  have kr18 := kbinds_rev (p1 := "table") (p2 := "total") F18 (fun _ _ _ _ _ _ _ _ => rfl) (fun _ _ _ _ _ _ _ _ => rfl) (fun _ _ _ _ _ _ _ _ => rfl)
  have kr19 := kbinds_rev (p1 := "table") (p2 := "kinds") F19 (fun _ _ _ _ _ _ _ _ => rfl) (fun _ _ _ _ _ _ _ _ => rfl) (fun _ _ _ _ _ _ _ _ => rfl)
  have kr20 := kbinds_rev (p1 := "table") (p2 := "names") F20 (fun _ _ _ _ _ _ _ _ => rfl) (fun _ _ _ _ _ _ _ _ => rfl) (fun _ _ _ _ _ _ _ _ => rfl)
  have y_isinstance := PySem.W.mg_none_of X G z_isinstance
  have y_int := PySem.W.mg_none_of X G z_int
  have y_bool := PySem.W.mg_none_of X G z_bool
  have y_str := PySem.W.mg_none_of X G z_str
  have y_tuple := PySem.W.mg_none_of X G z_tuple
  have y_list := PySem.W.mg_none_of X G z_list
  have y_len := PySem.W.mg_none_of X G z_len
  have y_abs := PySem.W.mg_none_of X G z_abs
  have y_range := PySem.W.mg_none_of X G z_range
  have y_zip := PySem.W.mg_none_of X G z_zip
  have y_all := PySem.W.mg_none_of X G z_all
  have y_any := PySem.W.mg_none_of X G z_any
  have y_repr := PySem.W.mg_none_of X G z_repr
  have y_enumerate := PySem.W.mg_none_of X G z_enumerate
  have y_sorted := PySem.W.mg_none_of X G z_sorted
  have y_set := PySem.W.mg_none_of X G z_set
  have gL := PySem.W.mg_of X G mL
  have gm1 := PySem.W.mg_of X G m1
  have gm2 := PySem.W.mg_of X G m2
  have gm3 := PySem.W.mg_of X G m3
  have oA : OexC K CA := ⟨⟨nmA, qA, EA, bsA, _, snA, subA, abA, colA, ddA, m0A, m1A, m2A, m3A, m5A, xLA, rfl⟩, saA, eCA, tCA, kCA⟩
  have eA : ErrC K mg "InvalidTable" CA fIA := ⟨PySem.W.mg_of X G aCA, oA, iIA, tIA⟩
  have oR : OexC K CR := ⟨⟨nmR, qR, ER, bsR, _, snR, subR, abR, colR, ddR, m0R, m1R, m2R, m3R, m5R, xLR, rfl⟩, saR, eCR, tCR, kCR⟩
  have eR : ErrC K mg "Refused" CR fIR := ⟨PySem.W.mg_of X G aCR, oR, iIR, tIR⟩
  have kk1 : PySem.W.kitOne K (.ref CR) (.ref Ct) = some true := kit_own isE tE sT (fun _ => rfl)
  have kk2 : PySem.W.kitOne K (.ref CR) (.ref CA) = some false := kit_own isA tCA sI (fun z => by
    subst z
    rw [sCR] at sI
    cases sI)
  have hrd : Hrd K mg CR := ⟨⟨f30, Ct, CA, _, F30, g30, PySem.W.mg_of X G aCR, PySem.W.mg_of X G aE, PySem.W.mg_of X G aCA, kk1, kk2⟩, ⟨gaR, ggR, eCR, hCR⟩, nwR, PySem.W.exm_ref eCR hCR tCR sCR, ⟨gaR, ggR, eCR, hCR, xa, xn, xt, xm⟩, y_isinstance⟩
  have TC : TabC K CT := ⟨⟨pgT, hdT, poT, saT⟩, nkT, ntT⟩
  have gT := PySem.W.mg_of X G aT
  have tyX : ∀ (H : Hp) (a dx : Addr) (fs : List (Str × V)), H a = some (.ins CT dx fs) → TyX K H (.ref a) (.ref CT) := fun H a dx fs z => .base (.ins z TC.c xaT xn xt xmT)
  have kTT : PySem.W.kitOne K (.ref CT) (.ref CT) = some true := kit_own isT tyT suT (fun _ => rfl)
  refine ⟨PySem.W.fnOf "law" "law" (defArgs s_law) (defBody s_law) (defScope s_law) .none kV38 dc38 pm38 an38 (.ref cc38) ct38, [(cc34, Pt34), (cc35, Pt35), (cc36, Pt36), (cc37, Pt37), (cc38, Pt38)], spLawT K [(Pt34, lamQ (("_law_merged_right" : Str) ++ ".<locals>.")), (Pt35, lamQ (("_law_totals_right" : Str) ++ ".<locals>.")), (Pt36, lamQ (("_law_kinds_right" : Str) ++ ".<locals>.")), (Pt37, lamQ (("_law_renamed_right" : Str) ++ ".<locals>.")), (Pt38, lamQ (("law" : Str) ++ ".<locals>."))], ?_, ?_, ?_, fun s v => .of_eq rfl, ?_, fun base _ _ tb => ?_⟩
  · intro c m
    simp only [List.mem_cons, List.not_mem_nil, or_false] at m
    rcases m with rfl | rfl | rfl | rfl | rfl
    · exact t34
    · exact t35
    · exact t36
    · exact t37
    · exact t38
  · intro c m
    simp only [List.mem_cons, List.not_mem_nil, or_false] at m
    rcases m with rfl | rfl | rfl | rfl | rfl
    · exact n34
    · exact n35
    · exact n36
    · exact n37
    · exact n38
  · intro c m
    simp only [List.mem_cons, List.not_mem_nil, or_false] at m
    rcases m with rfl | rfl | rfl | rfl | rfl
    · exact h34
    · exact h35
    · exact h36
    · exact h37
    · exact h38
  · intro H a ns hl _ hT hS
    refine ⟨a, ns, rfl, hS, hl, ?_, fun _ => rfl⟩
    intro p m
    simp only [List.mem_cons, List.not_mem_nil, or_false] at m
    rcases m with rfl | rfl | rfl | rfl | rfl
    · exact LamX.TabS.nil (hT (cc34, Pt34) (.head _))
    · exact LamX.TabS.nil (hT (cc35, Pt35) (.tail _ (.head _)))
    · exact LamX.TabS.nil (hT (cc36, Pt36) (.tail _ (.tail _ (.head _))))
    · exact LamX.TabS.nil (hT (cc37, Pt37) (.tail _ (.tail _ (.tail _ (.head _)))))
    · exact LamX.TabS.nil (hT (cc38, Pt38) (.tail _ (.tail _ (.tail _ (.tail _ (.head _))))))
  have TB34 := tb (cc34, Pt34) (.head _)
  have in34 : (Pt34, lamQ (("_law_merged_right" : Str) ++ ".<locals>.")) ∈ [(Pt34, lamQ (("_law_merged_right" : Str) ++ ".<locals>.")), (Pt35, lamQ (("_law_totals_right" : Str) ++ ".<locals>.")), (Pt36, lamQ (("_law_kinds_right" : Str) ++ ".<locals>.")), (Pt37, lamQ (("_law_renamed_right" : Str) ++ ".<locals>.")), (Pt38, lamQ (("law" : Str) ++ ".<locals>."))] := (.head _)
  have one34 : ∀ p ∈ [(Pt34, lamQ (("_law_merged_right" : Str) ++ ".<locals>.")), (Pt35, lamQ (("_law_totals_right" : Str) ++ ".<locals>.")), (Pt36, lamQ (("_law_kinds_right" : Str) ++ ".<locals>.")), (Pt37, lamQ (("_law_renamed_right" : Str) ++ ".<locals>.")), (Pt38, lamQ (("law" : Str) ++ ".<locals>."))], p.1 = Pt34 → p.2 = lamQ (("_law_merged_right" : Str) ++ ".<locals>.") := by
    intro p m z
    simp only [List.mem_cons, List.not_mem_nil, or_false] at m
    rcases m with rfl | rfl | rfl | rfl | rfl
    · rfl
    · exact absurd z.symm ne34_35
    · exact absurd z.symm ne34_36
    · exact absurd z.symm ne34_37
    · exact absurd z.symm ne34_38
  have TB35 := tb (cc35, Pt35) (.tail _ (.head _))
  have in35 : (Pt35, lamQ (("_law_totals_right" : Str) ++ ".<locals>.")) ∈ [(Pt34, lamQ (("_law_merged_right" : Str) ++ ".<locals>.")), (Pt35, lamQ (("_law_totals_right" : Str) ++ ".<locals>.")), (Pt36, lamQ (("_law_kinds_right" : Str) ++ ".<locals>.")), (Pt37, lamQ (("_law_renamed_right" : Str) ++ ".<locals>.")), (Pt38, lamQ (("law" : Str) ++ ".<locals>."))] := (.tail _ (.head _))
  have one35 : ∀ p ∈ [(Pt34, lamQ (("_law_merged_right" : Str) ++ ".<locals>.")), (Pt35, lamQ (("_law_totals_right" : Str) ++ ".<locals>.")), (Pt36, lamQ (("_law_kinds_right" : Str) ++ ".<locals>.")), (Pt37, lamQ (("_law_renamed_right" : Str) ++ ".<locals>.")), (Pt38, lamQ (("law" : Str) ++ ".<locals>."))], p.1 = Pt35 → p.2 = lamQ (("_law_totals_right" : Str) ++ ".<locals>.") := by
    intro p m z
    simp only [List.mem_cons, List.not_mem_nil, or_false] at m
    rcases m with rfl | rfl | rfl | rfl | rfl
    · exact absurd z ne34_35
    · rfl
    · exact absurd z.symm ne35_36
    · exact absurd z.symm ne35_37
    · exact absurd z.symm ne35_38
  have TB36 := tb (cc36, Pt36) (.tail _ (.tail _ (.head _)))
  have in36 : (Pt36, lamQ (("_law_kinds_right" : Str) ++ ".<locals>.")) ∈ [(Pt34, lamQ (("_law_merged_right" : Str) ++ ".<locals>.")), (Pt35, lamQ (("_law_totals_right" : Str) ++ ".<locals>.")), (Pt36, lamQ (("_law_kinds_right" : Str) ++ ".<locals>.")), (Pt37, lamQ (("_law_renamed_right" : Str) ++ ".<locals>.")), (Pt38, lamQ (("law" : Str) ++ ".<locals>."))] := (.tail _ (.tail _ (.head _)))
  have one36 : ∀ p ∈ [(Pt34, lamQ (("_law_merged_right" : Str) ++ ".<locals>.")), (Pt35, lamQ (("_law_totals_right" : Str) ++ ".<locals>.")), (Pt36, lamQ (("_law_kinds_right" : Str) ++ ".<locals>.")), (Pt37, lamQ (("_law_renamed_right" : Str) ++ ".<locals>.")), (Pt38, lamQ (("law" : Str) ++ ".<locals>."))], p.1 = Pt36 → p.2 = lamQ (("_law_kinds_right" : Str) ++ ".<locals>.") := by
    intro p m z
    simp only [List.mem_cons, List.not_mem_nil, or_false] at m
    rcases m with rfl | rfl | rfl | rfl | rfl
    · exact absurd z ne34_36
    · exact absurd z ne35_36
    · rfl
    · exact absurd z.symm ne36_37
    · exact absurd z.symm ne36_38
  have TB37 := tb (cc37, Pt37) (.tail _ (.tail _ (.tail _ (.head _))))
  have in37 : (Pt37, lamQ (("_law_renamed_right" : Str) ++ ".<locals>.")) ∈ [(Pt34, lamQ (("_law_merged_right" : Str) ++ ".<locals>.")), (Pt35, lamQ (("_law_totals_right" : Str) ++ ".<locals>.")), (Pt36, lamQ (("_law_kinds_right" : Str) ++ ".<locals>.")), (Pt37, lamQ (("_law_renamed_right" : Str) ++ ".<locals>.")), (Pt38, lamQ (("law" : Str) ++ ".<locals>."))] := (.tail _ (.tail _ (.tail _ (.head _))))
  have one37 : ∀ p ∈ [(Pt34, lamQ (("_law_merged_right" : Str) ++ ".<locals>.")), (Pt35, lamQ (("_law_totals_right" : Str) ++ ".<locals>.")), (Pt36, lamQ (("_law_kinds_right" : Str) ++ ".<locals>.")), (Pt37, lamQ (("_law_renamed_right" : Str) ++ ".<locals>.")), (Pt38, lamQ (("law" : Str) ++ ".<locals>."))], p.1 = Pt37 → p.2 = lamQ (("_law_renamed_right" : Str) ++ ".<locals>.") := by
    intro p m z
    simp only [List.mem_cons, List.not_mem_nil, or_false] at m
    rcases m with rfl | rfl | rfl | rfl | rfl
    · exact absurd z ne34_37
    · exact absurd z ne35_37
    · exact absurd z ne36_37
    · rfl
    · exact absurd z.symm ne37_38
  have TB38 := tb (cc38, Pt38) (.tail _ (.tail _ (.tail _ (.tail _ (.head _)))))
  have in38 : (Pt38, lamQ (("law" : Str) ++ ".<locals>.")) ∈ [(Pt34, lamQ (("_law_merged_right" : Str) ++ ".<locals>.")), (Pt35, lamQ (("_law_totals_right" : Str) ++ ".<locals>.")), (Pt36, lamQ (("_law_kinds_right" : Str) ++ ".<locals>.")), (Pt37, lamQ (("_law_renamed_right" : Str) ++ ".<locals>.")), (Pt38, lamQ (("law" : Str) ++ ".<locals>."))] := (.tail _ (.tail _ (.tail _ (.tail _ (.head _)))))
  have one38 : ∀ p ∈ [(Pt34, lamQ (("_law_merged_right" : Str) ++ ".<locals>.")), (Pt35, lamQ (("_law_totals_right" : Str) ++ ".<locals>.")), (Pt36, lamQ (("_law_kinds_right" : Str) ++ ".<locals>.")), (Pt37, lamQ (("_law_renamed_right" : Str) ++ ".<locals>.")), (Pt38, lamQ (("law" : Str) ++ ".<locals>."))], p.1 = Pt38 → p.2 = lamQ (("law" : Str) ++ ".<locals>.") := by
    intro p m z
    simp only [List.mem_cons, List.not_mem_nil, or_false] at m
    rcases m with rfl | rfl | rfl | rfl | rfl
    · exact absurd z ne34_38
    · exact absurd z ne35_38
    · exact absurd z ne36_38
    · exact absurd z ne37_38
    · rfl
  generalize [(Pt34, lamQ (("_law_merged_right" : Str) ++ ".<locals>.")), (Pt35, lamQ (("_law_totals_right" : Str) ++ ".<locals>.")), (Pt36, lamQ (("_law_kinds_right" : Str) ++ ".<locals>.")), (Pt37, lamQ (("_law_renamed_right" : Str) ++ ".<locals>.")), (Pt38, lamQ (("law" : Str) ++ ".<locals>."))] = T at *
  have T_is_an_integer := (ok_is_an_integer F0 y_isinstance y_int y_bool : FnOk l.prog w K mg base CX0 1 _ _ _ (spInt K))
  have C_is_an_integer : Cl l.prog w K mg base 1 "is_an_integer" (spInt K) := ⟨⟨f0, _, _, T_is_an_integer, g0, F0.kp, b0⟩⟩
  have T_is_number := (ok_is_number F1 C_is_an_integer : FnOk l.prog w K mg base CX0 2 _ _ _ (spNum K))
  have C_is_number : Cl l.prog w K mg base 2 "is_number" (spNum K) := ⟨⟨f1, _, _, T_is_number, g1, F1.kp, b1⟩⟩
  have T_is_number_below := (ok_is_number_below F2 C_is_number : FnOk l.prog w K mg base CX0 3 _ _ _ spBelow)
  have C_is_number_below : Cl l.prog w K mg base 3 "is_number_below" spBelow := ⟨⟨f2, _, _, T_is_number_below, g2, F2.kp, b2⟩⟩
  have T_are_numbers_below := (ok_are_numbers_below F6 C_is_number_below y_isinstance y_tuple y_all : FnOk l.prog w K mg base CX0 4 _ _ _ (spNumsBelow K))
  have C_are_numbers_below : Cl l.prog w K mg base 4 "are_numbers_below" (spNumsBelow K) := ⟨⟨f6, _, _, T_are_numbers_below, g6, F6.kp, b6⟩⟩
  have T_is_ascending := (ok_is_ascending F8 y_all y_zip : FnOk l.prog w K mg base CX0 1 _ _ _ (spAsc K))
  have C_is_ascending : Cl l.prog w K mg base 1 "is_ascending" (spAsc K) := ⟨⟨f8, _, _, T_is_ascending, g8, F8.kp, b8⟩⟩
  have T_is_lot_below := (ok_is_lot_below F9 C_are_numbers_below C_is_ascending : FnOk l.prog w K mg base CX0 5 _ _ _ (spLot K))
  have C_is_lot_below : Cl l.prog w K mg base 5 "is_lot_below" (spLot K) := ⟨⟨f9, _, _, T_is_lot_below, g9, F9.kp, b9⟩⟩
  have T_totals_with := (ok_totals_with F12 TC y_enumerate y_tuple : FnOk l.prog w K mg base CX0 1 _ _ _ (spTotalsWith K CT))
  have C_totals_with : Cl l.prog w K mg base 1 "totals_with" (spTotalsWith K CT) := ⟨⟨f12, _, _, T_totals_with, g12, F12.kp, b12⟩⟩
  have CR_totals_with : ClR l.prog w K mg base 1 "totals_with" ["kind", "table"] (spTotalsWith K CT) := ⟨⟨f12, _, _, T_totals_with, g12, F12.kp, kr12⟩⟩
  have TXt : FnOk l.prog w K mg base (L2.CX l.prog w) 6 _ _ _ (spCheckTotals K) := ok_check_totals F11 C_is_lot_below gm3 eA (ok_initT FIA oA nwA) bIA y_isinstance y_tuple y_len y_enumerate
  have T_check_totals := (fn_calm TXt : FnOk l.prog w K mg base CX0 6 _ _ _ (fun vs H Q _ => spCheckTotals K vs H Q E0))
  have C_check_totals : Cl l.prog w K mg base 6 "check_totals" (fun vs H Q _ => spCheckTotals K vs H Q E0) := ⟨⟨f11, _, _, T_check_totals, g11, F11.kp, b11⟩⟩
  have T_is_name := (ok_is_name F3 ⟨_, gL⟩ gm1 y_isinstance y_str y_len y_all : FnOk l.prog w K mg base CX0 1 _ _ _ spName)
  have C_is_name : Cl l.prog w K mg base 1 "is_name" spName := ⟨⟨f3, _, _, T_is_name, g3, F3.kp, b3⟩⟩
  have T_are_names := (ok_are_names F5 C_is_name y_isinstance y_tuple y_all : FnOk l.prog w K mg base CX0 2 _ _ _ (spNames K))
  have C_are_names : Cl l.prog w K mg base 2 "are_names" (spNames K) := ⟨⟨f5, _, _, T_are_names, g5, F5.kp, b5⟩⟩
  have TXk : FnOk l.prog w K mg base (L2.CX l.prog w) 3 _ _ _ (spCheckKinds K) := ok_check_kinds F10 C_are_names C_is_ascending gm2 eA (ok_initT FIA oA nwA) bIA y_isinstance y_tuple y_len
  have T_check_kinds := (fn_calm TXk : FnOk l.prog w K mg base CX0 3 _ _ _ (fun vs H Q _ => spCheckKinds K vs H Q E0))
  have C_check_kinds : Cl l.prog w K mg base 3 "check_kinds" (fun vs H Q _ => spCheckKinds K vs H Q E0) := ⟨⟨f10, _, _, T_check_kinds, g10, F10.kp, b10⟩⟩
  have T_Table : MkT l.prog w K mg base 7 "Table" CT (spInitT K CT) := ⟨⟨fT, _, _, ⟨mkT, iT, jT, kcT⟩, ok_init_Table FT TC C_check_kinds C_check_totals y_len, gT, bT⟩⟩
  have EQ : EqC l.prog w K mg base CT := ⟨⟨fE, _, ok_eq_Table FE TC gT tyX kTT y_isinstance, iE, jE, bE⟩⟩
  have T_classes_of := (ok_classes_of F13 TC C_totals_with y_range y_len y_tuple : FnOk l.prog w K mg base CX0 2 _ _ _ (spClasses K CT))
  have C_classes_of : Cl l.prog w K mg base 2 "classes_of" (spClasses K CT) := ⟨⟨f13, _, _, T_classes_of, g13, F13.kp, b13⟩⟩
  have CK_classes_of_table : ClK l.prog w K mg base 2 "classes_of" ["table"] (spClasses K CT) := ⟨⟨f13, _, _, T_classes_of, g13, F13.kp, kb13⟩⟩
  have T_class_numbers := (ok_class_numbers F14 TC C_classes_of y_enumerate y_range y_len y_tuple : FnOk l.prog w K mg base CX0 3 _ _ _ (spNumbers K CT))
  have C_class_numbers : Cl l.prog w K mg base 3 "class_numbers" (spNumbers K CT) := ⟨⟨f14, _, _, T_class_numbers, g14, F14.kp, b14⟩⟩
  have CK_class_numbers_table : ClK l.prog w K mg base 3 "class_numbers" ["table"] (spNumbers K CT) := ⟨⟨f14, _, _, T_class_numbers, g14, F14.kp, kb14⟩⟩
  have T_totals_by_classes := (ok_totals_by_classes2 F16 TC C_class_numbers y_tuple y_sorted y_set : FnOk l.prog w K mg base CX0 4 _ _ _ (spTBC2 K CT))
  have C_totals_by_classes : Cl l.prog w K mg base 4 "totals_by_classes" (spTBC2 K CT) := ⟨⟨f16, _, _, T_totals_by_classes, g16, F16.kp, b16⟩⟩
  have CK_totals_by_classes_table : ClK l.prog w K mg base 4 "totals_by_classes" ["table"] (spTBC2 K CT) := ⟨⟨f16, _, _, T_totals_by_classes, g16, F16.kp, kb16⟩⟩
  have TA_is_number := (ok_is_numberA F1 C_is_an_integer : FnOk l.prog w K mg base CX0 2 _ _ _ (spNumA K))
  have CA_is_number : Cl l.prog w K mg base 2 "is_number" (spNumA K) := ⟨⟨f1, _, _, TA_is_number, g1, F1.kp, b1⟩⟩
  have TA_is_number_below := (ok_is_number_belowA F2 CA_is_number : FnOk l.prog w K mg base CX0 3 _ _ _ (spBelowA K))
  have CA_is_number_below : Cl l.prog w K mg base 3 "is_number_below" (spBelowA K) := ⟨⟨f2, _, _, TA_is_number_below, g2, F2.kp, b2⟩⟩
  have TA_are_numbers_below := (ok_are_numbers_belowA F6 CA_is_number_below y_isinstance y_tuple y_all : FnOk l.prog w K mg base CX0 4 _ _ _ (spNumsA K))
  have CA_are_numbers_below : Cl l.prog w K mg base 4 "are_numbers_below" (spNumsA K) := ⟨⟨f6, _, _, TA_are_numbers_below, g6, F6.kp, b6⟩⟩
  have TA_is_ascending := (ok_is_ascendingA F8 y_all y_zip : FnOk l.prog w K mg base CX0 1 _ _ _ (spAscA K))
  have CA_is_ascending : Cl l.prog w K mg base 1 "is_ascending" (spAscA K) := ⟨⟨f8, _, _, TA_is_ascending, g8, F8.kp, b8⟩⟩
  have TA_is_lot_below := (ok_is_lot_belowA F9 CA_are_numbers_below CA_is_ascending : FnOk l.prog w K mg base CX0 5 _ _ _ (spLotA K))
  have CA_is_lot_below : Cl l.prog w K mg base 5 "is_lot_below" (spLotA K) := ⟨⟨f9, _, _, TA_is_lot_below, g9, F9.kp, b9⟩⟩
  have TA_is_name := (ok_is_nameA F3 ⟨_, gL⟩ gm1 y_isinstance y_str y_len y_all : FnOk l.prog w K mg base CX0 1 _ _ _ (spNameA K))
  have CA_is_name : Cl l.prog w K mg base 1 "is_name" (spNameA K) := ⟨⟨f3, _, _, TA_is_name, g3, F3.kp, b3⟩⟩
  have TA_are_names := (ok_are_namesA F5 CA_is_name y_isinstance y_tuple y_all : FnOk l.prog w K mg base CX0 2 _ _ _ (spNamesA K))
  have CA_are_names : Cl l.prog w K mg base 2 "are_names" (spNamesA K) := ⟨⟨f5, _, _, TA_are_names, g5, F5.kp, b5⟩⟩
  have TA_is_tuple_of := (ok_is_tuple_ofA F4 y_isinstance y_tuple y_len : FnOk l.prog w K mg base CX0 1 _ _ _ (spTupA K))
  have CA_is_tuple_of : Cl l.prog w K mg base 1 "is_tuple_of" (spTupA K) := ⟨⟨f4, _, _, TA_is_tuple_of, g4, F4.kp, b4⟩⟩
  have T_class_of_kind := (ok_class_of_kind F15 C_class_numbers : FnOk l.prog w K mg base CX0 4 _ _ _ (spClassOf K CT))
  have C_class_of_kind : Cl l.prog w K mg base 4 "class_of_kind" (spClassOf K CT) := ⟨⟨f15, _, _, T_class_of_kind, g15, F15.kp, b15⟩⟩
  have CR_class_of_kind : ClR l.prog w K mg base 4 "class_of_kind" ["kind", "table"] (spClassOf K CT) := ⟨⟨f15, _, _, T_class_of_kind, g15, F15.kp, kr15⟩⟩
  have T_without_totals := (ok_without_totals F17 TC T_Table y_enumerate y_tuple : FnOk l.prog w K mg base CX0 9 _ _ _ (spWithout K CT))
  have C_without_totals : Cl l.prog w K mg base 9 "without_totals" (spWithout K CT) := ⟨⟨f17, _, _, T_without_totals, g17, F17.kp, b17⟩⟩
  have CR_without_totals : ClR l.prog w K mg base 9 "without_totals" ["totals", "table"] (spWithout K CT) := ⟨⟨f17, _, _, T_without_totals, g17, F17.kp, kr17⟩⟩
  have iR := (ok_initR FIR oR nwR : FnOk l.prog w K mg base CX0 1 _ _ _ (spInitW K CR "word"))
  have TX_with_total : FnOk l.prog w K mg base (L2.CX l.prog w) 9 _ _ _ (spWith K CT CR) := ok_with_total F18 TC T_Table CA_is_lot_below eR iR bIR gm3 y_len
  have X_with_total : ClX l.prog w K mg base 9 "with_total" (spWith K CT CR) := ⟨⟨f18, _, _, TX_with_total, g18, F18.kp, b18⟩⟩
  have T_with_total := (fn_calm TX_with_total : FnOk l.prog w K mg base CX0 9 _ _ _ (fun vs H Q _ => spWith K CT CR vs H Q E0))
  have C_with_total : Cl l.prog w K mg base 9 "with_total" (fun vs H Q _ => spWith K CT CR vs H Q E0) := ⟨⟨f18, _, _, T_with_total, g18, F18.kp, b18⟩⟩
  have CR_with_total : ClR l.prog w K mg base 9 "with_total" ["total", "table"] (fun vs H Q _ => spWith K CT CR vs H Q E0) := ⟨⟨f18, _, _, T_with_total, g18, F18.kp, kr18⟩⟩
  have TX_without_kinds : FnOk l.prog w K mg base (L2.CX l.prog w) 9 _ _ _ (spLess2 K CT CR) := ok_without_kinds F19 TC T_Table eR iR bIR y_len y_range y_tuple
  have X_without_kinds : ClX l.prog w K mg base 9 "without_kinds" (spLess2 K CT CR) := ⟨⟨f19, _, _, TX_without_kinds, g19, F19.kp, b19⟩⟩
  have T_without_kinds := (fn_calm TX_without_kinds : FnOk l.prog w K mg base CX0 9 _ _ _ (fun vs H Q _ => spLess2 K CT CR vs H Q E0))
  have C_without_kinds : Cl l.prog w K mg base 9 "without_kinds" (fun vs H Q _ => spLess2 K CT CR vs H Q E0) := ⟨⟨f19, _, _, T_without_kinds, g19, F19.kp, b19⟩⟩
  have CR_without_kinds : ClR l.prog w K mg base 9 "without_kinds" ["kinds", "table"] (fun vs H Q _ => spLess2 K CT CR vs H Q E0) := ⟨⟨f19, _, _, T_without_kinds, g19, F19.kp, kr19⟩⟩
  have TX_merged : FnOk l.prog w K mg base (L2.CX l.prog w) 9 _ _ _ (spMerged K CT CR) := ok_merged F22 TC T_Table C_classes_of C_totals_by_classes eR iR bIR y_tuple
  have X_merged : ClX l.prog w K mg base 9 "merged" (spMerged K CT CR) := ⟨⟨f22, _, _, TX_merged, g22, F22.kp, b22⟩⟩
  have T_merged := (fn_calm TX_merged : FnOk l.prog w K mg base CX0 9 _ _ _ (fun vs H Q _ => spMerged K CT CR vs H Q E0))
  have C_merged : Cl l.prog w K mg base 9 "merged" (fun vs H Q _ => spMerged K CT CR vs H Q E0) := ⟨⟨f22, _, _, T_merged, g22, F22.kp, b22⟩⟩
  have CK_merged_table : ClK l.prog w K mg base 9 "merged" ["table"] (fun vs H Q _ => spMerged K CT CR vs H Q E0) := ⟨⟨f22, _, _, T_merged, g22, F22.kp, kb22⟩⟩
  have TX_core_of : FnOk l.prog w K mg base (L2.CX l.prog w) 11 _ _ _ (spCore K CT CR) := ok_core_of F23 TC T_Table X_merged y_tuple y_sorted y_set
  have X_core_of : ClX l.prog w K mg base 11 "core_of" (spCore K CT CR) := ⟨⟨f23, _, _, TX_core_of, g23, F23.kp, b23⟩⟩
  have T_core_of := (fn_calm TX_core_of : FnOk l.prog w K mg base CX0 11 _ _ _ (fun vs H Q _ => spCore K CT CR vs H Q E0))
  have C_core_of : Cl l.prog w K mg base 11 "core_of" (fun vs H Q _ => spCore K CT CR vs H Q E0) := ⟨⟨f23, _, _, T_core_of, g23, F23.kp, b23⟩⟩
  have CK_core_of_table : ClK l.prog w K mg base 11 "core_of" ["table"] (fun vs H Q _ => spCore K CT CR vs H Q E0) := ⟨⟨f23, _, _, T_core_of, g23, F23.kp, kb23⟩⟩
  have T_are_unlike := (ok_are_unlike F7 y_len y_set : FnOk l.prog w K mg base CX0 1 _ _ _ (spUnlike K))
  have C_are_unlike : Cl l.prog w K mg base 1 "are_unlike" (spUnlike K) := ⟨⟨f7, _, _, T_are_unlike, g7, F7.kp, b7⟩⟩
  have T_table_by_names := (ok_table_by_names F21 TC T_Table y_tuple y_sorted : FnOk l.prog w K mg base CX0 9 _ _ _ (spByNames K CT))
  have C_table_by_names : Cl l.prog w K mg base 9 "table_by_names" (spByNames K CT) := ⟨⟨f21, _, _, T_table_by_names, g21, F21.kp, b21⟩⟩
  have TX_renamed_table : FnOk l.prog w K mg base (L2.CX l.prog w) 11 _ _ _ (spRenamed K CT CR) := ok_renamed_table F20 TC CA_is_tuple_of CA_are_names C_are_unlike C_table_by_names eR iR bIR y_len
  have X_renamed_table : ClX l.prog w K mg base 11 "renamed_table" (spRenamed K CT CR) := ⟨⟨f20, _, _, TX_renamed_table, g20, F20.kp, b20⟩⟩
  have T_renamed_table := (fn_calm TX_renamed_table : FnOk l.prog w K mg base CX0 11 _ _ _ (fun vs H Q _ => spRenamed K CT CR vs H Q E0))
  have C_renamed_table : Cl l.prog w K mg base 11 "renamed_table" (fun vs H Q _ => spRenamed K CT CR vs H Q E0) := ⟨⟨f20, _, _, T_renamed_table, g20, F20.kp, b20⟩⟩
  have CR_renamed_table : ClR l.prog w K mg base 11 "renamed_table" ["names", "table"] (fun vs H Q _ => spRenamed K CT CR vs H Q E0) := ⟨⟨f20, _, _, T_renamed_table, g20, F20.kp, kr20⟩⟩
  have T__law_heap := (ok__law_heapF F24 y_int y_abs : FnOk l.prog w K mg base CX0 1 _ _ _ (spHeapF K))
  have C__law_heap : Cl l.prog w K mg base 1 "_law_heap" (spHeapF K) := ⟨⟨f24, _, _, T__law_heap, g24, F24.kp, b24⟩⟩
  have T__law_draw := (ok__law_draw F25 y_int : FnOk l.prog w K mg base CX0 1 _ _ _ spDraw)
  have C__law_draw : Cl l.prog w K mg base 1 "_law_draw" spDraw := ⟨⟨f25, _, _, T__law_draw, g25, F25.kp, b25⟩⟩
  have T__law_pick := (ok__law_pick F26 C__law_draw y_len : FnOk l.prog w K mg base CX0 2 _ _ _ (spPick K))
  have C__law_pick : Cl l.prog w K mg base 2 "_law_pick" (spPick K) := ⟨⟨f26, _, _, T__law_pick, g26, F26.kp, b26⟩⟩
  have T__law_mixed := (ok__law_mixed F27 C__law_draw y_len y_list y_range : FnOk l.prog w K mg base CX0 2 _ _ _ (spMixed K))
  have C__law_mixed : Cl l.prog w K mg base 2 "_law_mixed" (spMixed K) := ⟨⟨f27, _, _, T__law_mixed, g27, F27.kp, b27⟩⟩
  have T__law_names := (ok__law_names F28 C__law_draw C__law_pick y_len y_int y_range y_tuple y_sorted : FnOk l.prog w K mg base CX0 3 _ _ _ (spLawNames K))
  have C__law_names : Cl l.prog w K mg base 3 "_law_names" (spLawNames K) := ⟨⟨f28, _, _, T__law_names, g28, F28.kp, b28⟩⟩
  have T__law_totals := (ok__law_totals F29 C__law_draw C__law_pick y_len y_range y_tuple : FnOk l.prog w K mg base CX0 3 _ _ _ (spLawTots K))
  have C__law_totals : Cl l.prog w K mg base 3 "_law_totals" (spLawTots K) := ⟨⟨f29, _, _, T__law_totals, g29, F29.kp, b29⟩⟩
  have G__law_is : ClG l.prog w K mg base 1 "_law_is" (spIs K CT) := ⟨⟨f31, _, _, ok__law_is F31 TC gT tyX kTT y_isinstance y_repr y_tuple, g31, F31.kp, b31⟩⟩
  have T__law_classes := (ok__law_classes F32 y_len y_range y_tuple : FnOk l.prog w K mg base CX0 1 _ _ _ (spLawCls K))
  have C__law_classes : Cl l.prog w K mg base 1 "_law_classes" (spLawCls K) := ⟨⟨f32, _, _, T__law_classes, g32, F32.kp, b32⟩⟩
  have G__law_classes_right : ClG l.prog w K mg base 6 "_law_classes_right" (spJ0 K CT) := ⟨⟨f33, _, _, ok__law_classes_right F33 TC C__law_classes C_classes_of CK_classes_of_table C_class_numbers CK_class_numbers_table C_totals_with CR_totals_with C_class_of_kind CR_class_of_kind C_totals_by_classes CK_totals_by_classes_table y_len y_repr y_tuple y_range y_list y_sorted y_any, g33, F33.kp, b33⟩⟩
  have G__law_merged_right : ClG l.prog w K mg base 15 "_law_merged_right" (spJ1 K CT T) := ⟨⟨f34, _, _, ok__law_merged_right F34 TC hrd TB34 in34 one34 EQ C__law_classes G__law_is X_merged X_core_of C_merged CK_merged_table C_core_of CK_core_of_table y_len y_tuple y_sorted, g34, F34.fun.kp, b34⟩⟩
  have G__law_totals_right : ClG l.prog w K mg base 15 "_law_totals_right" (spJ2 K CT T) := ⟨⟨f35, _, _, ok__law_totals_right F35 TC hrd TB35 in35 one35 EQ G__law_is C__law_draw C__law_pick C_without_totals CR_without_totals X_with_total C_with_total CR_with_total y_len y_tuple y_range y_list, g35, F35.fun.kp, b35⟩⟩
  have G__law_kinds_right : ClG l.prog w K mg base 15 "_law_kinds_right" (spJ2 K CT T) := ⟨⟨f36, _, _, ok__law_kinds_right F36 TC hrd TB36 in36 one36 EQ G__law_is C__law_draw X_without_kinds C_without_kinds CR_without_kinds y_len y_tuple y_range, g36, F36.fun.kp, b36⟩⟩
  have G__law_renamed_right : ClG l.prog w K mg base 15 "_law_renamed_right" (spJ2 K CT T) := ⟨⟨f37, _, _, ok__law_renamed_right F37 TC hrd TB37 in37 one37 G__law_is C__law_mixed C__law_names C__law_pick X_renamed_table C_renamed_table CR_renamed_table y_len y_tuple y_range y_list y_sorted y_repr y_isinstance, g37, F37.fun.kp, b37⟩⟩
  exact ok_law F38 TC T_Table hrd TB38 in38 one38 C__law_heap C__law_pick C__law_names C__law_totals G__law_classes_right G__law_merged_right G__law_totals_right G__law_kinds_right G__law_renamed_right C_classes_of C_totals_by_classes C_class_numbers C_merged C_core_of C_without_kinds C_renamed_table X_with_total X_merged y_len y_int y_range y_repr
end K03
open PySem PySem.W PyProof.Rows
set_option maxHeartbeats 0 in
theorem PySem.Challenge.cw_centsatonce_k03_whole_classes_and_tables_holds : PySem.Challenge.rw_centsatonce_k03_whole_classes_and_tables.Holds := by
  w_on; o_law; k_head; (case hw => w_witness2)
  k_fill
  refine VG.walk_GT (l := PySem.Challenge.rw_centsatonce_k03_whole_classes_and_tables) (n := 63) (k := 17) (x := "script") rfl (by decide) rfl ⟨rfl, by decide, by decide⟩ (fun w h Y => PySem.W.km_in_of Y) ?F
  case F =>
    intro w mg fa h Y KX G hmg
    refine' K03.all_mk KX G hmg ?a0 ?l0 ?c0 ?k0 ?a1 ?l1 ?c1 ?k1 ?a2 ?l2 ?c2 ?k2 ?a3 ?l3 ?c3 ?k3 ?a4 ?l4 ?c4 ?k4 ?a5 ?l5 ?c5 ?k5 ?a6 ?l6 ?c6 ?k6 ?a7 ?l7 ?c7 ?k7 ?a8 ?l8 ?c8 ?k8 ?a9 ?l9 ?c9 ?k9 ?a10 ?l10 ?c10 ?k10 ?a11 ?l11 ?c11 ?k11 ?a12 ?l12 ?c12 ?k12 ?a13 ?l13 ?c13 ?k13 ?a14 ?l14 ?c14 ?k14 ?a15 ?l15 ?c15 ?k15 ?a16 ?l16 ?c16 ?k16 ?a17 ?l17 ?c17 ?k17 ?a18 ?l18 ?c18 ?k18 ?a19 ?l19 ?c19 ?k19 ?a20 ?l20 ?c20 ?k20 ?a21 ?l21 ?c21 ?k21 ?a22 ?l22 ?c22 ?k22 ?a23 ?l23 ?c23 ?k23 ?a24 ?l24 ?c24 ?k24 ?a25 ?l25 ?c25 ?k25 ?a26 ?l26 ?c26 ?k26 ?a27 ?l27 ?c27 ?k27 ?a28 ?l28 ?c28 ?k28 ?a29 ?l29 ?c29 ?k29 ?a30 ?l30 ?c30 ?k30 ?a31 ?l31 ?c31 ?k31 ?a32 ?l32 ?c32 ?k32 ?a33 ?l33 ?c33 ?k33 ?a34 ?l34 ?c34 ?k34 ?a35 ?l35 ?c35 ?k35 ?a36 ?l36 ?c36 ?k36 ?a37 ?l37 ?c37 ?k37 ?a38 ?l38 ?c38 ?k38 ?x34 ?p34 ?h34 ?t34 ?n34 ?x35 ?p35 ?h35 ?t35 ?n35 ?x36 ?p36 ?h36 ?t36 ?n36 ?x37 ?p37 ?h37 ?t37 ?n37 ?x38 ?p38 ?h38 ?t38 ?n38 ?ne34_35 ?ne34_36 ?ne34_37 ?ne34_38 ?ne35_36 ?ne35_37 ?ne35_38 ?ne36_37 ?ne36_38 ?ne37_38 ?aCA ?xLA ?saA ?nwA ?iIA ?tIA ?lIA ?cIA ?kIA ?kCA ?eCA ?tCA ?aCR ?xLR ?saR ?nwR ?iIR ?tIR ?lIR ?cIR ?kIR ?kCR ?eCR ?tCR ?aE ?gaR ?ggR ?hCR ?sCR ?xa ?xn ?xt ?xm ?sT ?sI ?isE ?isA ?tE ?aT ?iT ?jT ?lT ?cT ?kT ?iE ?jE ?lE ?cE ?kE ?pgT ?hdT ?poT ?saT ?mkT ?kcT ?nkT ?ntT ?xaT ?xmT ?isT ?tyT ?suT ?mL ?m1 ?m2 ?m3 ?z_isinstance ?z_int ?z_bool ?z_str ?z_tuple ?z_list ?z_len ?z_abs ?z_range ?z_zip ?z_all ?z_any ?z_repr ?z_enumerate ?z_sorted ?z_set
    (case a0 => k_is); (case l0 => k_is); (case c0 => k_is); (case k0 => k_is); (case a1 => k_is); (case l1 => k_is); (case c1 => k_is); (case k1 => k_is); (case a2 => k_is); (case l2 => k_is); (case c2 => k_is); (case k2 => k_is); (case a3 => k_is); (case l3 => k_is); (case c3 => k_is); (case k3 => k_is); (case a4 => k_is); (case l4 => k_is); (case c4 => k_is); (case k4 => k_is); (case a5 => k_is); (case l5 => k_is); (case c5 => k_is); (case k5 => k_is); (case a6 => k_is); (case l6 => k_is); (case c6 => k_is); (case k6 => k_is); (case a7 => k_is); (case l7 => k_is); (case c7 => k_is); (case k7 => k_is); (case a8 => k_is); (case l8 => k_is); (case c8 => k_is); (case k8 => k_is); (case a9 => k_is); (case l9 => k_is); (case c9 => k_is); (case k9 => k_is); (case a10 => k_is); (case l10 => k_is); (case c10 => k_is); (case k10 => k_is); (case a11 => k_is); (case l11 => k_is); (case c11 => k_is); (case k11 => k_is); (case a12 => k_is); (case l12 => k_is); (case c12 => k_is); (case k12 => k_is); (case a13 => k_is); (case l13 => k_is); (case c13 => k_is); (case k13 => k_is); (case a14 => k_is); (case l14 => k_is); (case c14 => k_is); (case k14 => k_is); (case a15 => k_is); (case l15 => k_is); (case c15 => k_is); (case k15 => k_is); (case a16 => k_is); (case l16 => k_is); (case c16 => k_is); (case k16 => k_is); (case a17 => k_is); (case l17 => k_is); (case c17 => k_is); (case k17 => k_is); (case a18 => k_is); (case l18 => k_is); (case c18 => k_is); (case k18 => k_is); (case a19 => k_is); (case l19 => k_is); (case c19 => k_is); (case k19 => k_is); (case a20 => k_is); (case l20 => k_is); (case c20 => k_is); (case k20 => k_is); (case a21 => k_is); (case l21 => k_is); (case c21 => k_is); (case k21 => k_is); (case a22 => k_is); (case l22 => k_is); (case c22 => k_is); (case k22 => k_is); (case a23 => k_is); (case l23 => k_is); (case c23 => k_is); (case k23 => k_is); (case a24 => k_is); (case l24 => k_is); (case c24 => k_is); (case k24 => k_is); (case a25 => k_is); (case l25 => k_is); (case c25 => k_is); (case k25 => k_is); (case a26 => k_is); (case l26 => k_is); (case c26 => k_is); (case k26 => k_is); (case a27 => k_is); (case l27 => k_is); (case c27 => k_is); (case k27 => k_is); (case a28 => k_is); (case l28 => k_is); (case c28 => k_is); (case k28 => k_is); (case a29 => k_is); (case l29 => k_is); (case c29 => k_is); (case k29 => k_is); (case a30 => k_is); (case l30 => k_is); (case c30 => k_is); (case k30 => k_is); (case a31 => k_is); (case l31 => k_is); (case c31 => k_is); (case k31 => k_is); (case a32 => k_is); (case l32 => k_is); (case c32 => k_is); (case k32 => k_is); (case a33 => k_is); (case l33 => k_is); (case c33 => k_is); (case k33 => k_is); (case a34 => k_is); (case l34 => k_is); (case c34 => k_is); (case k34 => k_is); (case a35 => k_is); (case l35 => k_is); (case c35 => k_is); (case k35 => k_is); (case a36 => k_is); (case l36 => k_is); (case c36 => k_is); (case k36 => k_is); (case a37 => k_is); (case l37 => k_is); (case c37 => k_is); (case k37 => k_is); (case a38 => k_is); (case l38 => k_is); (case c38 => k_is); (case k38 => k_is); (case aCA => k_is); (case xLA => k_is); (case saA => k_is); (case nwA => k_is); (case iIA => k_is); (case tIA => k_is); (case lIA => k_is); (case cIA => k_is); (case kIA => k_is); (case kCA => k_is); (case eCA => k_is); (case tCA => k_is); (case aCR => k_is); (case xLR => k_is); (case saR => k_is); (case nwR => k_is); (case iIR => k_is); (case tIR => k_is); (case lIR => k_is); (case cIR => k_is); (case kIR => k_is); (case kCR => k_is); (case eCR => k_is); (case tCR => k_is); (case aE => k_is); (case gaR => k_is); (case ggR => k_is); (case hCR => k_is); (case sCR => first | rfl | k_is); (case xa => k_is); (case xn => k_is); (case xt => k_is); (case xm => k_is); (case sT => k_is); (case sI => k_is); (case isE => k_is); (case isA => k_is); (case tE => k_is); (case aT => k_is); (case iT => k_is); (case jT => k_is); (case lT => k_is); (case cT => k_is); (case kT => k_is); (case iE => k_is); (case jE => k_is); (case lE => k_is); (case cE => k_is); (case kE => k_is); (case pgT => k_is); (case hdT => k_is); (case poT => k_is); (case saT => k_is); (case mkT => k_is); (case kcT => k_is); (case nkT => k_is); (case ntT => k_is); (case xaT => k_is); (case xmT => k_is); (case isT => k_is); (case tyT => k_is); (case suT => first | rfl | k_is); (case mL => k_is); (case m1 => k_is); (case m2 => k_is); (case m3 => k_is); (case z_isinstance => k_is); (case z_int => k_is); (case z_bool => k_is); (case z_str => k_is); (case z_tuple => k_is); (case z_list => k_is); (case z_len => k_is); (case z_abs => k_is); (case z_range => k_is); (case z_zip => k_is); (case z_all => k_is); (case z_any => k_is); (case z_repr => k_is); (case z_enumerate => k_is); (case z_sorted => k_is); (case z_set => k_is); (case x34 => k_is); (case p34 => rfl); (case h34 => exact PySem.W.codeHd_of_K KX (by kernel_rfl)); (case t34 => exact PySem.W.km_tabs_of Y _ (by k_mem)); (case n34 => kernel_rfl); (case x35 => k_is); (case p35 => rfl); (case h35 => exact PySem.W.codeHd_of_K KX (by kernel_rfl)); (case t35 => exact PySem.W.km_tabs_of Y _ (by k_mem)); (case n35 => kernel_rfl); (case x36 => k_is); (case p36 => rfl); (case h36 => exact PySem.W.codeHd_of_K KX (by kernel_rfl)); (case t36 => exact PySem.W.km_tabs_of Y _ (by k_mem)); (case n36 => kernel_rfl); (case x37 => k_is); (case p37 => rfl); (case h37 => exact PySem.W.codeHd_of_K KX (by kernel_rfl)); (case t37 => exact PySem.W.km_tabs_of Y _ (by k_mem)); (case n37 => kernel_rfl); (case x38 => k_is); (case p38 => rfl); (case h38 => exact PySem.W.codeHd_of_K KX (by kernel_rfl)); (case t38 => exact PySem.W.km_tabs_of Y _ (by k_mem)); (case n38 => kernel_rfl); (case ne34_35 => decide); (case ne34_36 => decide); (case ne34_37 => decide); (case ne34_38 => decide); (case ne35_36 => decide); (case ne35_37 => decide); (case ne35_38 => decide); (case ne36_37 => decide); (case ne36_38 => decide); (case ne37_38 => decide)
